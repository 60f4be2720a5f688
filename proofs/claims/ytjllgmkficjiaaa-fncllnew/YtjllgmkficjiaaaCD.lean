/- DrawCllNew: a map, a cell's number and walkers are drawn; conditions: the code is a slice of bytes. -/
import Derived.Test.YtjllgmkficjiaaaCC
import Derived.Deep.DeepCutAuto
namespace Go.Proofs.Ytjllgmkficjiaaa
open Go.RowKit Go.Deep Go.Maps
set_option linter.unusedVariables false
theorem rowAlloc {w : World} {a : Option Addr} {len cap : Nat} {zs : List Int} (h : IsRow w a len cap zs) (o : Obj) : IsRow (w.alloc o) a len cap zs := by
  rcases h with h | ⟨x, h1, h2, h3, h4, h5, h6⟩
  · exact .inl h
  · exact .inr ⟨x, h1, h2, h3, h4, fun i hi => by rw [World.cell?_alloc_lt _ _ _ (World.block_lt_of_cell? w _ (h5 i hi))]; exact h5 i hi, h6⟩
theorem set_grown (w : World) (B i : Nat) (u : Value) : w.grownBy (w.setCell ⟨B, i, none⟩ u) (some B) ∧ (w.setCell ⟨B, i, none⟩ u).heap.size = w.heap.size :=
  ⟨⟨rfl, rfl, rfl, by simp [World.setCell], fun k _ hne => Below.heap_setCell _ _ _ _ (fun e => hne (by rw [e]))⟩, by simp [World.setCell]⟩
set_option maxRecDepth 20000 in
set_option maxHeartbeats 4000000 in
theorem draw_new (a : Option Addr) (len cap : Nat) (zs : List Int) (w : World) (h : IsRow w a len cap zs) :
    Calls Try.prog 4 #[.slice a len cap] w fun e w' => ∃ c d k v n Z, e = .returned (.tuple #[.agg #[.int .i64 c, .int .i64 d], .int .i64 k, v]) ∧ Wk w' w.heap.size v n Z ∧ n ≤ 6 ∧ (-1 ≤ k ∧ k ≤ 4) ∧ Below w.heap.size w w' := by
  have H : Hid (IsRow w a len cap zs) := h
  clear h
  go_enter Try.func4, Try.ntmps4
  go_wp2_with fail
  refine (open_any a len cap zs _ (rowAlloc H.out _)).mono ?_
  rintro e w1 ⟨rfl, R1, hb1, hs1⟩
  have hs1' : w1.heap.size = w.heap.size + 2 := by rw [hs1]; simp
  have hrw : (w.alloc (.cells #[.int .i64 0, .int .i64 0] 24)).heap.size = w.heap.size + 1 := by simp
  rw [hrw] at R1 ⊢
  have B1 : Hid (Below w.heap.size w w1) := bthen ((Below.refl _ _).alloc (Nat.le_refl _) _) hb1
  have T1 : Hid (Two w1 w.heap.size (.int .i64 0) (.int .i64 0)) := Two.below (by exact ⟨by simp, by simp, by simp, by simp⟩) hb1
  have RB1 : Hid (RdB w1 (w.heap.size + 1) a (min len 2000) cap 0) := ⟨0, Int.le_refl _, Int.le_refl _, R1⟩
  clear H hb1 R1 hrw hs1
  go_wp2_with fail
  refine (map_B RB1.out (by omega)).mono ?_
  rintro e w2 ⟨c, d, rfl, HM0, R2, K2⟩
  have HM : Hid (MapOut c d) := HM0
  have B2 : Hid (Below w.heap.size w w2) := B1.out.trans (K2.below (by omega) (by omega))
  have T2 : Hid (Two w2 w.heap.size (.int .i64 0) (.int .i64 0)) := T1.out.kept K2 (by omega)
  have RB2 : Hid (RdB w2 (w.heap.size + 1) a (min len 2000) cap 4) := R2
  have hz2 : w.heap.size + 2 ≤ w2.heap.size := by have := K2.size; omega
  clear K2 R2 HM0 B1 T1 RB1
  go_upto_region 3 with fail
  obtain ⟨gM, egM⟩ : ∃ g, g = w2.heap.size := ⟨_, rfl⟩
  obtain ⟨wA, eA⟩ : ∃ y, y = w2.alloc (.cells #[.int .i64 c, .int .i64 d] 24) := ⟨_, rfl⟩
  have TA : Hid (Two wA gM (.int .i64 c) (.int .i64 d)) := by rw [eA, egM]; exact ⟨by simp, by simp, by simp, by simp⟩
  have TB : Hid (Two wA w.heap.size (.int .i64 0) (.int .i64 0)) := by rw [eA]; exact T2.out.below ((Below.refl _ _).alloc (Nat.le_refl _) _)
  have RBA : Hid (RdB wA (w.heap.size + 1) a (min len 2000) cap 4) := by rw [eA]; exact RB2.out.alloc _
  have BA : Hid (Below w.heap.size w wA) := by rw [eA]; exact B2.out.alloc (by omega) _
  have hgM : w.heap.size + 2 ≤ gM := by omega
  have hzA : w2.heap.size + 1 ≤ wA.heap.size := by rw [eA]; simp
  rw [← eA, ← egM]
  have hgM2 : gM < wA.heap.size := by omega
  clear eA egM T2 RB2 B2
  refine wp_region_held_drew (S := fun w' => Two w' gM (.int .i64 c) (.int .i64 d)) (by kernel_rfl) TA.out.drew ?_
  intro hHeld
  refine wpAnyH_take (i := 0) (v := .agg #[.int .i64 c, .int .i64 d]) rfl (by kernel_rfl) (by kernel_rfl) (by kernel_rfl) (fun _ _ _ h => h) (Or.inl ⟨by rfl, ?_⟩) (by assumption) ?_
  · intro wx hSw; obtain ⟨s0, s1, _, _⟩ := hSw; go_simp
  try simp only [Act.put, List.setIfInBounds_toArray, List.set_cons_zero, List.set_cons_succ, List.getElem_toArray, List.getElem_cons_zero]
  refine wpAnyH_take (i := 1) (v := .pointer (some ⟨w.heap.size + 1, 0, none⟩)) rfl (by kernel_rfl) (by kernel_rfl) (by kernel_rfl) (fun _ _ _ h => h) (Or.inl ⟨by rfl, ?_⟩) (by assumption) ?_
  · intro wx hSw; go_simp
  try simp only [Act.put, List.setIfInBounds_toArray, List.set_cons_zero, List.set_cons_succ, List.getElem_toArray, List.getElem_cons_zero, List.getElem_cons_succ]
  refine wpAnyH_take (i := 4) (v := .pointer (some ⟨w.heap.size + 1, 0, none⟩)) rfl (by kernel_rfl) (by kernel_rfl) (by kernel_rfl) (fun _ _ _ h => h) (Or.inl ⟨by rfl, ?_⟩) (by assumption) ?_
  · intro wx hSw; go_simp
  try simp only [Act.put, List.setIfInBounds_toArray, List.set_cons_zero, List.set_cons_succ, List.getElem_toArray, List.getElem_cons_zero, List.getElem_cons_succ]
  refine wpAnyH_take (i := 5) (v := .agg #[.int .i64 c, .int .i64 d]) rfl (by kernel_rfl) (by kernel_rfl) (by kernel_rfl) (fun _ _ _ h => h) (Or.inl ⟨by rfl, ?_⟩) (by assumption) ?_
  · intro wx hSw; obtain ⟨s0, s1, _, _⟩ := hSw; go_simp
  try simp only [Act.put, List.setIfInBounds_toArray, List.set_cons_zero, List.set_cons_succ, List.getElem_toArray, List.getElem_cons_zero, List.getElem_cons_succ]
  refine wpAnyH_ready (rs := [2]) (by kernel_rfl) (by simp) ?_
  refine AllReadyH.cons rfl (fun K hK => ?_) AllReadyH.nil
  go_simp
  go_wp2_with fail
  refine (pick_B (w := wA.drew) RBA.out.drew (by omega)).mono ?_
  rintro e w3 ⟨x, rfl, hx, R3, K3⟩
  have K3s : wA.heap.size ≤ w3.heap.size := K3.size
  refine hK.out _ _ (hHeld.kept K3 (by omega)) (fun hHeld3 => ?_)
  clear hK K
  have B3 : Hid (Below w.heap.size w w3) := BA.out.drew.trans (K3.below (by omega) (by show w.heap.size ≤ wA.heap.size; omega))
  have T3 : Hid (Two w3 w.heap.size (.int .i64 0) (.int .i64 0)) := TB.out.drew.kept K3 (by omega)
  have RB3 : Hid (RdB w3 (w.heap.size + 1) a (min len 2000) cap 5) := R3
  have hx2 : 0 ≤ x ∧ x < 6 := ⟨hx.1, hx.2.1 (by omega)⟩
  obtain ⟨hx0, hx1⟩ := hx2
  have hwx : IntKind.wrap .i64 (x - 1) = x - 1 := by simp [IntKind.wrap, IntKind.bits, IntKind.signed]; omega
  clear K3 R3 hx BA TB RBA TA
  try simp only [Act.put, List.setIfInBounds_toArray, List.set_cons_zero, List.set_cons_succ, List.getElem_toArray, List.getElem_cons_zero, List.getElem_cons_succ]
  refine wpAnyH_take (i := 3) (v := .int .i64 (x - 1)) rfl (by kernel_rfl) (by kernel_rfl) (by kernel_rfl) (fun _ _ _ h => h) (Or.inl ⟨by rfl, ?_⟩) (by assumption) ?_
  · intro wx hSw; go_simp
  try simp only [Act.put, List.setIfInBounds_toArray, List.set_cons_zero, List.set_cons_succ, List.getElem_toArray, List.getElem_cons_zero, List.getElem_cons_succ]
  refine wpAnyH_ready (rs := [6]) (by kernel_rfl) (by simp) ?_
  refine AllReadyH.cons rfl (fun K hK => ?_) AllReadyH.nil
  go_simp
  go_wp2_with fail
  refine (list_B RB3.out (by omega) HM.out).mono ?_
  rintro e w4 ⟨v, n, Z, rfl, hw4, hn4, hs4, R4, K4⟩
  have K4s : w3.heap.size ≤ w4.heap.size := K4.size
  refine hK.out _ _ (hHeld3.kept K4 (by omega)) (fun hHeld4 => ?_)
  clear hK K
  have B4 : Hid (Below w.heap.size w w4) := B3.out.trans (K4.below (by omega) (by omega))
  have T4 : Hid (Two w4 w.heap.size (.int .i64 0) (.int .i64 0)) := T3.out.kept K4 (by omega)
  have V4 : Hid (Wk w4 w3.heap.size v n Z) := hw4
  have S4 : Hid (∀ k j, k < n → j < 5 → Small (Z k j)) := hs4
  clear K4 hw4 hs4 B3 T3 RB3 R4
  try simp only [Act.put, List.setIfInBounds_toArray, List.set_cons_zero, List.set_cons_succ, List.getElem_toArray, List.getElem_cons_zero, List.getElem_cons_succ]
  refine wpAnyH_ready (rs := [7]) (by kernel_rfl) (by simp) ?_
  refine AllReadyH.cons rfl (fun K hK => ?_) AllReadyH.nil
  obtain ⟨t0, t1, t2, t3⟩ := T4.out
  go_simp
  obtain ⟨w5, e5⟩ : ∃ y, y = (w4.setCell ⟨w.heap.size, 0, none⟩ (.int .i64 c)).setCell ⟨w.heap.size, 1, none⟩ (.int .i64 d) := ⟨_, rfl⟩
  rw [← e5]
  have i0 : (w4.cell? ⟨w.heap.size, 0, none⟩).isSome = true := by rw [t0]; rfl
  have i1 : ((w4.setCell ⟨w.heap.size, 0, none⟩ (.int .i64 c)).cell? ⟨w.heap.size, 1, none⟩).isSome = true := by rw [set_out (by omega), t1]; rfl
  have C0 : w5.cell? ⟨w.heap.size, 0, none⟩ = some (.int .i64 c) := by rw [e5, set_out (by omega)]; exact set_in i0
  have C1 : w5.cell? ⟨w.heap.size, 1, none⟩ = some (.int .i64 d) := by rw [e5]; exact set_in i1
  have B5 : Hid (Below w.heap.size w w5) := by rw [e5]; exact (B4.out.setCell (Nat.le_refl _) _).setCell (Nat.le_refl _) _
  have T5 : Two w5 gM (.int .i64 c) (.int .i64 d) := by
      obtain ⟨a0, a1, a2, a3⟩ := hHeld4
      rw [e5]
      exact ⟨by rw [set_out (by omega), set_out (by omega)]; exact a0, by rw [set_out (by omega), set_out (by omega)]; exact a1, by rw [set_frozen, set_frozen]; exact a2, by rw [set_frozen, set_frozen]; exact a3⟩
  have V5 : Hid (Wk w5 w3.heap.size v n Z) := by rw [e5]; exact (V4.out.kept (set_grown w4 w.heap.size 0 (.int .i64 c)).1 (fun k e => by cases e; omega)).kept (set_grown _ w.heap.size 1 (.int .i64 d)).1 (fun k e => by cases e; omega)
  clear e5 i0 i1 t0 t1 t2 t3 T4 B4 V4
  refine hK.out _ _ T5 (fun hHeld5 => ?_)
  clear hK K T5
  try simp only [Act.put, List.setIfInBounds_toArray, List.set_cons_zero, List.set_cons_succ, List.getElem_toArray, List.getElem_cons_zero, List.getElem_cons_succ]
  refine wpAnyH_take (i := 8) (v := .int .i64 (x - 1)) rfl (by kernel_rfl) (by kernel_rfl) (by kernel_rfl) (fun _ _ _ h => h) (Or.inl ⟨by rfl, ?_⟩) (by assumption) ?_
  · intro wx hSw; go_simp
  try simp only [Act.put, List.setIfInBounds_toArray, List.set_cons_zero, List.set_cons_succ, List.getElem_toArray, List.getElem_cons_zero, List.getElem_cons_succ]
  refine wpAnyH_take (i := 9) (v := v) rfl (by kernel_rfl) (by kernel_rfl) (by kernel_rfl) (fun _ _ _ h => h) (Or.inl ⟨by rfl, ?_⟩) (by assumption) ?_
  · intro wx hSw; go_simp
  try simp only [Act.put, List.setIfInBounds_toArray, List.set_cons_zero, List.set_cons_succ, List.getElem_toArray, List.getElem_cons_zero, List.getElem_cons_succ]
  refine wpAnyH_done (by kernel_rfl) ?_ _
  go_wp2
  refine bodyPost_ret (v := .tuple #[.agg #[.int .i64 c, .int .i64 d], .int .i64 (x - 1), v]) (by simp [results, Try.results4, go_sem, C0, C1]) rfl ⟨c, d, x - 1, v, n, Z, rfl, V5.out.base (by omega), hn4, by omega, B5.out⟩
end Go.Proofs.Ytjllgmkficjiaaa
