/- The walk of DrawWlkPut: walkers and one more are drawn; conditions: the code is a slice of bytes. -/
import Derived.Test.YtnplclfoeedpjaaAny
namespace Go.Proofs.Ytnplclfoeedpjaa
open Go.RowKit Go.Deep Go.Maps
set_option linter.unusedVariables false

theorem Kept.p5n (w : World) (b : Nat) (x0 x1 x2 x3 x4 : Value) : Kept b w (put5c w b x0 x1 x2 x3 x4) :=
  (((((Kept.refl b w).setCell (q := ⟨b, 0, none⟩) (.inr rfl) _).setCell (q := ⟨b, 1, none⟩) (.inr rfl) _).setCell (q := ⟨b, 2, none⟩) (.inr rfl) _).setCell (q := ⟨b, 3, none⟩) (.inr rfl) _).setCell (q := ⟨b, 4, none⟩) (.inr rfl) _

set_option maxRecDepth 20000 in
set_option maxHeartbeats 4000000 in
theorem draw_put (a : Option Addr) (len cap : Nat) (zs : List Int) (w : World) (h : IsRow w a len cap zs) :
    Calls Try.prog 4 #[.slice a len cap] w fun e w' => ∃ v n Z z0 z1 z2 z3 z4, e = .returned (.tuple #[v, .agg #[.int .i64 z0, .int .i64 z1, .int .i64 z2, .int .i64 z3, .int .i64 z4]]) ∧ Wk w' w.heap.size v n Z ∧ n ≤ 6 ∧ (∀ k j, k < n → j < 5 → Small (Z k j)) ∧ (Small z0 ∧ Small z1 ∧ Small z2 ∧ Small z3 ∧ Small z4) ∧ Below w.heap.size w w' := by
  have H : Hid (IsRow w a len cap zs) := h
  clear h
  go_enter Try.func4, Try.ntmps4
  go_wp2_with fail
  refine (open_any a len cap zs _ (rowAlloc H.out _)).mono ?_
  rintro e w1 ⟨rfl, R1, hb1, hs1⟩
  have hs1' : w1.heap.size = w.heap.size + 2 := by rw [hs1]; simp
  have hrw : (w.alloc (.cells #[.int .i64 0, .int .i64 0, .int .i64 0, .int .i64 0, .int .i64 0] 25)).heap.size = w.heap.size + 1 := by simp
  rw [hrw] at R1 ⊢
  have B1 : Below w.heap.size w w1 := bthen ((Below.refl _ _).alloc (Nat.le_refl _) _) hb1
  have WA : Hid (Wr5 w1 w.heap.size) := by
    intro j hj
    refine ⟨.int .i64 0, ?_⟩
    have h5 : j = 0 ∨ j = 1 ∨ j = 2 ∨ j = 3 ∨ j = 4 := by omega
    have hc := hb1.cell (p := ⟨w.heap.size, j, none⟩) (by simp)
    have hf := hb1.frozen (p := ⟨w.heap.size, j, none⟩) (by simp)
    rw [hc, hf]
    rcases h5 with rfl | rfl | rfl | rfl | rfl <;> simp
  have RB1 : Hid (RdB w1 (w.heap.size + 1) a (min len 2000) cap 0) := ⟨0, Int.le_refl _, Int.le_refl _, R1⟩
  have BH : Hid (Below w.heap.size w w1) := B1
  have HM : Hid (MapOut 3 3) := by unfold Hid MapOut; omega
  clear H hb1 R1 hrw hs1 B1
  go_upto_region 3 with fail
  have T1 : Hid (Two (w1.alloc (.cells #[.int .i64 3, .int .i64 3] 37)) (w.heap.size + 2) (.int .i64 3) (.int .i64 3)) := by rw [show w.heap.size + 2 = w1.heap.size from hs1'.symm]; exact ⟨by simp, by simp, by simp, by simp⟩
  have RA : Hid (RdB (w1.alloc (.cells #[.int .i64 3, .int .i64 3] 37)) (w.heap.size + 1) a (min len 2000) cap 0) := RB1.out.alloc _
  have W2 : Hid (Wr5 (w1.alloc (.cells #[.int .i64 3, .int .i64 3] 37)) w.heap.size) := WA.out.kept ((Kept.refl (w.heap.size + 1) w1).alloc _) (by omega)
  have B2 : Hid (Below w.heap.size w (w1.alloc (.cells #[.int .i64 3, .int .i64 3] 37))) := BH.out.alloc (by omega) _
  have hzA : (w1.alloc (.cells #[.int .i64 3, .int .i64 3] 37)).heap.size = w.heap.size + 3 := by simp; omega
  clear WA RB1 BH
  generalize w1.alloc (.cells #[.int .i64 3, .int .i64 3] 37) = wA at *
  refine wp_region_held_drew (S := fun w' => Two w' (w.heap.size + 2) (.int .i64 3) (.int .i64 3)) (by kernel_rfl) T1.out.drew ?_
  intro hHeld
  refine wpAnyH_take (i := 0) (v := .pointer (some ⟨w.heap.size + 1, 0, none⟩)) rfl (by kernel_rfl) (by kernel_rfl) (by kernel_rfl) (fun _ _ _ h => h) (Or.inl ⟨by rfl, ?_⟩) (by assumption) ?_
  · intro wx hSw; go_simp
  try simp only [Act.put, List.setIfInBounds_toArray, List.set_cons_zero, List.set_cons_succ, List.getElem_toArray, List.getElem_cons_zero]
  refine wpAnyH_take (i := 1) (v := .agg #[.int .i64 3, .int .i64 3]) rfl (by kernel_rfl) (by kernel_rfl) (by kernel_rfl) (fun _ _ _ h => h) (Or.inl ⟨by rfl, ?_⟩) (by assumption) ?_
  · intro wx hSw; obtain ⟨s0, s1, _, _⟩ := hSw; go_simp
  try simp only [Act.put, List.setIfInBounds_toArray, List.set_cons_zero, List.set_cons_succ, List.getElem_toArray, List.getElem_cons_zero, List.getElem_cons_succ]
  refine wpAnyH_take (i := 3) (v := .pointer (some ⟨w.heap.size + 1, 0, none⟩)) rfl (by kernel_rfl) (by kernel_rfl) (by kernel_rfl) (fun _ _ _ h => h) (Or.inl ⟨by rfl, ?_⟩) (by assumption) ?_
  · intro wx hSw; go_simp
  try simp only [Act.put, List.setIfInBounds_toArray, List.set_cons_zero, List.set_cons_succ, List.getElem_toArray, List.getElem_cons_zero, List.getElem_cons_succ]
  refine wpAnyH_take (i := 4) (v := .agg #[.int .i64 3, .int .i64 3]) rfl (by kernel_rfl) (by kernel_rfl) (by kernel_rfl) (fun _ _ _ h => h) (Or.inl ⟨by rfl, ?_⟩) (by assumption) ?_
  · intro wx hSw; obtain ⟨s0, s1, _, _⟩ := hSw; go_simp
  try simp only [Act.put, List.setIfInBounds_toArray, List.set_cons_zero, List.set_cons_succ, List.getElem_toArray, List.getElem_cons_zero, List.getElem_cons_succ]
  refine wpAnyH_ready (rs := [2]) (by kernel_rfl) (by simp) ?_
  refine AllReadyH.cons rfl (fun K hK => ?_) AllReadyH.nil
  go_simp
  go_wp2_with (go_at_call 11; refine (list_B (w := wA.drew) RA.out.drew (by omega) HM.out).mono ?_; rintro e w3 ⟨v, n, Z, rfl, hw3, hn3, hs3, R3, K3⟩)
  refine hK.out _ _ (hHeld.kept K3 (by omega)) (fun hHeld3 => ?_)
  clear hK K
  have B3 : Hid (Below w.heap.size w w3) := B2.out.drew.trans (K3.below (by omega) (by show w.heap.size ≤ wA.heap.size; omega))
  have W3 : Hid (Wr5 w3 w.heap.size) := Wr5.kept (w := wA.drew) W2.out K3 (by omega)
  have V3 : Hid (Wk w3 (w.heap.size + 3) v n Z) := by have h : Wk w3 wA.heap.size v n Z := hw3; unfold Hid; rw [hzA] at h; exact h
  have S3 : Hid (∀ k j, k < n → j < 5 → Small (Z k j)) := hs3
  have hz3 : w.heap.size + 3 ≤ w3.heap.size := by have := K3.size; change wA.heap.size ≤ _ at this; omega
  clear K3 hw3 hs3 B2 W2 RA T1
  try simp only [Act.put, List.setIfInBounds_toArray, List.set_cons_zero, List.set_cons_succ, List.getElem_toArray, List.getElem_cons_zero, List.getElem_cons_succ]
  refine wpAnyH_ready (rs := [5]) (by kernel_rfl) (by simp) ?_
  refine AllReadyH.cons rfl (fun K hK => ?_) AllReadyH.nil
  go_simp
  go_wp2_with (go_at_call 12; refine (any_B R3 (by omega) HM.out).mono ?_; rintro e w4 ⟨z0, z1, z2, z3, z4, rfl, hz, K4⟩)
  refine hK.out _ _ (hHeld3.kept K4 (by omega)) (fun hHeld4 => ?_)
  clear hK K
  have B4 : Hid (Below w.heap.size w w4) := B3.out.trans (K4.below (by omega) (by omega))
  have W4 : Hid (Wr5 w4 w.heap.size) := W3.out.kept K4 (by omega)
  have V4 : Hid (Wk w4 (w.heap.size + 3) v n Z) := V3.out.kept K4.grown (fun k e => by cases e; omega)
  clear K4 B3 W3 V3 R3
  try simp only [Act.put, List.setIfInBounds_toArray, List.set_cons_zero, List.set_cons_succ, List.getElem_toArray, List.getElem_cons_zero, List.getElem_cons_succ]
  refine wpAnyH_take (i := 6) (v := v) rfl (by kernel_rfl) (by kernel_rfl) (by kernel_rfl) (fun _ _ _ h => h) (Or.inl ⟨by rfl, ?_⟩) (by assumption) ?_
  · intro wx hSw; go_simp
  try simp only [Act.put, List.setIfInBounds_toArray, List.set_cons_zero, List.set_cons_succ, List.getElem_toArray, List.getElem_cons_zero, List.getElem_cons_succ]
  refine wpAnyH_ready (rs := [7]) (by kernel_rfl) (by simp) ?_
  refine AllReadyH.cons rfl (fun K hK => ?_) AllReadyH.nil
  obtain ⟨v0, q0, y0⟩ := W4.out 0 (by decide)
  obtain ⟨v1, q1, y1⟩ := W4.out 1 (by decide)
  obtain ⟨v2, q2, y2⟩ := W4.out 2 (by decide)
  obtain ⟨v3, q3, y3⟩ := W4.out 3 (by decide)
  obtain ⟨v4, q4, y4⟩ := W4.out 4 (by decide)
  have EP : Hid (put5c w4 w.heap.size (.int .i64 z0) (.int .i64 z1) (.int .i64 z2) (.int .i64 z3) (.int .i64 z4) = (((((w4.setCell ⟨w.heap.size, 0, none⟩ (.int .i64 z0)).setCell ⟨w.heap.size, 1, none⟩ (.int .i64 z1)).setCell ⟨w.heap.size, 2, none⟩ (.int .i64 z2)).setCell ⟨w.heap.size, 3, none⟩ (.int .i64 z3)).setCell ⟨w.heap.size, 4, none⟩ (.int .i64 z4))) := rfl
  go_simp
  rw [← EP.out]
  have C5 := five_set W4.out z0 z1 z2 z3 z4
  have T5 : Two (put5c w4 w.heap.size (.int .i64 z0) (.int .i64 z1) (.int .i64 z2) (.int .i64 z3) (.int .i64 z4)) (w.heap.size + 2) (.int .i64 3) (.int .i64 3) := by
    obtain ⟨a0, a1, a2, a3⟩ := hHeld4
    have hst := stay5 (w := w4) (g := w.heap.size + 2) (b := w.heap.size) (by omega) (.int .i64 z0) (.int .i64 z1) (.int .i64 z2) (.int .i64 z3) (.int .i64 z4)
    have hfr : ∀ j, (put5c w4 w.heap.size (.int .i64 z0) (.int .i64 z1) (.int .i64 z2) (.int .i64 z3) (.int .i64 z4)).frozen? ⟨w.heap.size + 2, j, none⟩ = w4.frozen? ⟨w.heap.size + 2, j, none⟩ := fun j => by unfold put5c; rw [World.frozen?_setCell, World.frozen?_setCell, World.frozen?_setCell, World.frozen?_setCell, World.frozen?_setCell]
    exact ⟨(hst.2 0).trans a0, (hst.2 1).trans a1, (hfr 0).trans a2, (hfr 1).trans a3⟩
  have B5 : Hid (Below w.heap.size w (put5c w4 w.heap.size (.int .i64 z0) (.int .i64 z1) (.int .i64 z2) (.int .i64 z3) (.int .i64 z4))) := below_put5c B4.out (Nat.le_refl _) _ _ _ _ _
  have V5 : Hid (Wk (put5c w4 w.heap.size (.int .i64 z0) (.int .i64 z1) (.int .i64 z2) (.int .i64 z3) (.int .i64 z4)) (w.heap.size + 3) v n Z) := V4.out.kept (Kept.grown (r := w.heap.size) (Kept.p5n w4 w.heap.size _ _ _ _ _)) (fun k e => by cases e; omega)
  clear EP W4 B4 V4 q0 y0 q1 y1 q2 y2 q3 y3 q4 y4
  generalize put5c w4 w.heap.size (.int .i64 z0) (.int .i64 z1) (.int .i64 z2) (.int .i64 z3) (.int .i64 z4) = w5 at *
  refine hK.out _ _ T5 (fun hHeld5 => ?_)
  clear hK K T5
  try simp only [Act.put, List.setIfInBounds_toArray, List.set_cons_zero, List.set_cons_succ, List.getElem_toArray, List.getElem_cons_zero, List.getElem_cons_succ]
  refine wpAnyH_done (by kernel_rfl) ?_ _
  obtain ⟨c0, c1, c2, c3, c4⟩ := C5
  go_wp2
  refine bodyPost_ret (v := .tuple #[v, .agg #[.int .i64 z0, .int .i64 z1, .int .i64 z2, .int .i64 z3, .int .i64 z4]]) (by simp [results, Try.results4, go_sem, c0, c1, c2, c3, c4]) rfl ⟨v, n, Z, z0, z1, z2, z3, z4, rfl, V5.out.base (by omega), hn3, S3.out, hz, B5.out⟩
end Go.Proofs.Ytnplclfoeedpjaa
