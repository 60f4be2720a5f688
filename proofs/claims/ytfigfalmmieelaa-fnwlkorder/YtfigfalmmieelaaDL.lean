/- The walk of DrawWlkListOk: a map and walkers are drawn; conditions: the code is a slice of bytes. -/
import Derived.Test.YtfigfalmmieelaaLL
namespace Go.Proofs.Ytfigfalmmieelaa
open Go.RowKit Go.Deep Go.Maps
set_option linter.unusedVariables false

theorem rowAlloc {w : World} {a : Option Addr} {len cap : Nat} {zs : List Int} (h : IsRow w a len cap zs) (o : Obj) : IsRow (w.alloc o) a len cap zs := by
  rcases h with h | ⟨x, rfl, hl, hm, hz, hc, hw⟩
  · exact .inl h
  · refine .inr ⟨x, rfl, hl, hm, hz, fun i hi => ?_, hw⟩
    have hlt : (x.add i).block < w.heap.size := by
      by_cases g : (x.add i).block < w.heap.size
      · exact g
      · exfalso
        have : w.heap[(x.add i).block]? = none := by simp; omega
        have c := hc i hi
        simp [World.cell?, this] at c
    rw [(bcell' ((Below.refl _ _).alloc (by simp) _) hlt)]; exact hc i hi

set_option maxRecDepth 20000 in
set_option maxHeartbeats 4000000 in
theorem draw_list (a : Option Addr) (len cap : Nat) (zs : List Int) (w : World) (h : IsRow w a len cap zs) :
    Calls Try.prog 6 #[.slice a len cap] w fun e w' => ∃ c d v n Z, e = .returned (.tuple #[.agg #[.int .i64 c, .int .i64 d], v]) ∧ Wk w' w.heap.size v n Z ∧ n ≤ 6 ∧ (∀ k j, k < n → j < 5 → Small (Z k j)) ∧ Below w.heap.size w w' := by
  have H : Hid (IsRow w a len cap zs) := h
  clear h
  go_enter Try.func6, Try.ntmps6
  go_wp2_with fail
  refine (open_any a len cap zs _ (rowAlloc H.out _)).mono ?_
  rintro e w1 ⟨rfl, R1, hb1, hs1⟩
  have hs1' : w1.heap.size = w.heap.size + 2 := by rw [hs1]; simp
  have hrw : (w.alloc (.cells #[.int .i64 0, .int .i64 0] 24)).heap.size = w.heap.size + 1 := by simp
  rw [hrw] at R1 ⊢
  have B1 : Below w.heap.size w w1 := bthen ((Below.refl _ _).alloc (Nat.le_refl _) _) hb1
  have TA : Hid (Two w1 w.heap.size (.int .i64 0) (.int .i64 0)) := by
    have hb : Below (w.heap.size + 1) (w.alloc (.cells #[.int .i64 0, .int .i64 0] 24)) w1 := by rw [← hrw]; exact hb1
    refine ⟨(hb.cell (p := ⟨w.heap.size, 0, none⟩) (by simp)).trans (by simp), (hb.cell (p := ⟨w.heap.size, 1, none⟩) (by simp)).trans (by simp), (hb.frozen (p := ⟨w.heap.size, 0, none⟩) (by simp)).trans (by simp), (hb.frozen (p := ⟨w.heap.size, 1, none⟩) (by simp)).trans (by simp)⟩
  have RB1 : Hid (RdB w1 (w.heap.size + 1) a (min len 2000) cap 0) := ⟨0, Int.le_refl _, Int.le_refl _, R1⟩
  clear H hb1 R1 hrw hs1
  go_wp2_with fail
  refine (map_B RB1.out (by omega)).mono ?_
  rintro e w2 ⟨c, d, rfl, hm, R2, K2⟩
  have T2 : Hid (Two w2 w.heap.size (.int .i64 0) (.int .i64 0)) := TA.out.kept K2 (by omega)
  have B2 : Hid (Below w.heap.size w w2) := B1.trans (K2.below (by omega) (by omega))
  have hz2 : w.heap.size + 2 ≤ w2.heap.size := by have := K2.size; omega
  have HM : Hid (MapOut c d) := hm
  clear TA K2 B1 RB1 hm
  go_upto_region 3 with fail
  have hne : ¬ w2.heap.size = w.heap.size + 1 := by omega
  refine wp_region_held_drew (S := fun w' => Two w' w2.heap.size (.int .i64 c) (.int .i64 d)) (by kernel_rfl) ⟨by simp, by simp, by simp, by simp⟩ ?_
  intro hHeld
  refine wpAnyH_take (i := 0) (v := .agg #[.int .i64 c, .int .i64 d]) rfl (by kernel_rfl) (by kernel_rfl) (by kernel_rfl) (fun _ _ _ h => h) (Or.inl ⟨by rfl, ?_⟩) (by assumption) ?_
  · intro wx hSw; obtain ⟨s0, s1, _, _⟩ := hSw; go_simp
  try simp only [Act.put, List.setIfInBounds_toArray, List.set_cons_zero, List.set_cons_succ, List.getElem_toArray, List.getElem_cons_zero]
  refine wpAnyH_take (i := 1) (v := .pointer (some ⟨w.heap.size + 1, 0, none⟩)) rfl (by kernel_rfl) (by kernel_rfl) (by kernel_rfl) (fun _ _ _ h => h) (Or.inl ⟨by rfl, ?_⟩) (by assumption) ?_
  · intro wx hSw; go_simp
  try simp only [Act.put, List.setIfInBounds_toArray, List.set_cons_zero, List.set_cons_succ, List.getElem_toArray, List.getElem_cons_zero, List.getElem_cons_succ]
  refine wpAnyH_take (i := 2) (v := .agg #[.int .i64 c, .int .i64 d]) rfl (by kernel_rfl) (by kernel_rfl) (by kernel_rfl) (fun _ _ _ h => h) (Or.inl ⟨by rfl, ?_⟩) (by assumption) ?_
  · intro wx hSw; obtain ⟨s0, s1, _, _⟩ := hSw; go_simp
  try simp only [Act.put, List.setIfInBounds_toArray, List.set_cons_zero, List.set_cons_succ, List.getElem_toArray, List.getElem_cons_zero, List.getElem_cons_succ]
  refine wpAnyH_ready (rs := [3]) (by kernel_rfl) (by simp) ?_
  refine AllReadyH.cons rfl (fun K hK => ?_) AllReadyH.nil
  go_simp
  go_wp2_with (go_at_call 23; refine (list_B (w := (w2.alloc (.cells #[.int .i64 c, .int .i64 d] 24)).drew) (R2.alloc _).drew (by omega) HM.out).mono ?_; rintro e w3 ⟨v, n, Z, rfl, hw3, hn3, hs3, K3⟩)
  refine hK.out _ _ (hHeld.kept K3 hne) (fun hHeld3 => ?_)
  clear hK K
  have T3 : Two w3 w.heap.size (.int .i64 0) (.int .i64 0) := ((T2.out.alloc _).drew).kept K3 (by omega)
  have B3 : Hid (Below w.heap.size w w3) := (B2.out.alloc (by omega) _).drew.trans (K3.below (by omega) (by show w.heap.size ≤ (w2.alloc _).heap.size; simp; omega))
  have HW3 : Hid (Wk w3 (w2.heap.size + 1) v n Z) := by have := hw3; unfold Hid; simpa using this
  have HS3 : Hid (∀ k j, k < n → j < 5 → Small (Z k j)) := hs3
  obtain ⟨q0, q1, g0, g1⟩ := T3
  clear K3 hw3 hs3 T2 R2 B2
  try simp only [Act.put, List.setIfInBounds_toArray, List.set_cons_zero, List.set_cons_succ, List.getElem_toArray, List.getElem_cons_zero, List.getElem_cons_succ]
  refine wpAnyH_ready (rs := [4]) (by kernel_rfl) (by simp) ?_
  refine AllReadyH.cons rfl (fun K hK => ?_) AllReadyH.nil
  go_simp
  have hne2 : ¬ w2.heap.size = w.heap.size := by omega
  have HTW : Hid (Two ((w3.setCell ⟨w.heap.size, 0, none⟩ (.int .i64 c)).setCell ⟨w.heap.size, 1, none⟩ (.int .i64 d)) w2.heap.size (.int .i64 c) (.int .i64 d)) := by
    obtain ⟨a0, a1, a2, a3⟩ := hHeld3
    have far : ∀ (o o' : Nat) (W : World) (z : Value), (W.setCell ⟨w.heap.size, o', none⟩ z).cell? ⟨w2.heap.size, o, none⟩ = W.cell? ⟨w2.heap.size, o, none⟩ := fun o o' W z => World.cell?_setCell_other _ _ _ _ (by intro e; exact hne2 (by injection e with e1; exact e1.symm))
    unfold Hid Two
    rw [far, far, far, far, World.frozen?_setCell, World.frozen?_setCell, World.frozen?_setCell, World.frozen?_setCell]
    exact ⟨a0, a1, a2, a3⟩
  have HW4 : Hid (Wk ((w3.setCell ⟨w.heap.size, 0, none⟩ (.int .i64 c)).setCell ⟨w.heap.size, 1, none⟩ (.int .i64 d)) w.heap.size v n Z) :=
    (HW3.out.kept ((set_grown w3 w.heap.size 0 (.int .i64 c)).1.trans (set_grown _ w.heap.size 1 (.int .i64 d)).1) (fun k e => by cases e; omega)).base (by omega)
  have HB4 : Hid (Below w.heap.size w ((w3.setCell ⟨w.heap.size, 0, none⟩ (.int .i64 c)).setCell ⟨w.heap.size, 1, none⟩ (.int .i64 d))) := (B3.out.setCell (p := ⟨w.heap.size, 0, none⟩) (Nat.le_refl _) _).setCell (p := ⟨w.heap.size, 1, none⟩) (Nat.le_refl _) _
  refine hK.out _ _ HTW.out (fun hHeld4 => ?_)
  clear hK K
  try simp only [Act.put, List.setIfInBounds_toArray, List.set_cons_zero, List.set_cons_succ, List.getElem_toArray, List.getElem_cons_zero, List.getElem_cons_succ]
  refine wpAnyH_take (i := 5) (v := v) rfl (by kernel_rfl) (by kernel_rfl) (by kernel_rfl) (fun _ _ _ h => h) (Or.inl ⟨by rfl, ?_⟩) (by assumption) ?_
  · intro wx hSw; go_simp
  try simp only [Act.put, List.setIfInBounds_toArray, List.set_cons_zero, List.set_cons_succ, List.getElem_toArray, List.getElem_cons_zero, List.getElem_cons_succ]
  refine wpAnyH_done (by kernel_rfl) ?_ _
  go_wp2
  refine bodyPost_ret (v := .tuple #[.agg #[.int .i64 c, .int .i64 d], v]) (by simp [results, Try.results6, go_sem, q0, q1]) rfl ⟨c, d, v, n, Z, rfl, HW4.out, hn3, HS3.out, HB4.out⟩
end Go.Proofs.Ytfigfalmmieelaa
