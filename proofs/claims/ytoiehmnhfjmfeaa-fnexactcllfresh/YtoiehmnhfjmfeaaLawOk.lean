/- The walk of the law FnExactCllOk: it answers true; conditions: the cell lies in memory. -/
import Derived.Test.YtoiehmnhfjmfeaaCOk5
import Derived.Test.YtoiehmnhfjmfeaaCEq
namespace Go.Proofs.Ytoiehmnhfjmfeaa
open Go.RowKit Go.Deep
set_option linter.unusedVariables false

theorem CV.short.more {V : CV} {m n : Nat} (h : V.short m) (hmn : m ≤ n) : V.short n :=
  ⟨Nat.le_trans h.1 hmn, Nat.le_trans h.2.1 hmn, fun k hk => Nat.le_trans (h.2.2.1 k hk) hmn, Nat.le_trans h.2.2.2.1 hmn, Nat.le_trans h.2.2.2.2 hmn⟩
theorem two_box23 (w : World) (c d : Int) (o : Obj) : ((w.alloc (.cells #[.int .i64 c, .int .i64 d] 23)).alloc o).cell? ⟨w.heap.size, 0, none⟩ = some (.int .i64 c) ∧ ((w.alloc (.cells #[.int .i64 c, .int .i64 d] 23)).alloc o).cell? ⟨w.heap.size, 1, none⟩ = some (.int .i64 d) := by
  have k : Below (w.heap.size + 1) (w.alloc (.cells #[.int .i64 c, .int .i64 d] 23)) ((w.alloc (.cells #[.int .i64 c, .int .i64 d] 23)).alloc o) := (Below.refl _ _).alloc (by simp) _
  exact ⟨(k.cell (p := ⟨w.heap.size, 0, none⟩) (Nat.lt_succ_self _)).trans (by simp), (k.cell (p := ⟨w.heap.size, 1, none⟩) (Nat.lt_succ_self _)).trans (by simp)⟩
theorem two_box3 (w : World) (c d : Int) (o o2 : Obj) : (((w.alloc (.cells #[.int .i64 c, .int .i64 d] 23)).alloc o).alloc o2).cell? ⟨w.heap.size, 0, none⟩ = some (.int .i64 c) ∧ (((w.alloc (.cells #[.int .i64 c, .int .i64 d] 23)).alloc o).alloc o2).cell? ⟨w.heap.size, 1, none⟩ = some (.int .i64 d) := by
  have k : Below (w.heap.size + 1) ((w.alloc (.cells #[.int .i64 c, .int .i64 d] 23)).alloc o) (((w.alloc (.cells #[.int .i64 c, .int .i64 d] 23)).alloc o).alloc o2) := (Below.refl _ _).alloc (by simp) _
  exact ⟨(k.cell (p := ⟨w.heap.size, 0, none⟩) (Nat.lt_succ_self _)).trans (two_box23 w c d o).1, (k.cell (p := ⟨w.heap.size, 1, none⟩) (Nat.lt_succ_self _)).trans (two_box23 w c d o).2⟩
theorem five_new (W : World) (o0 o1 o2 o3 o4 : Int) : ∀ i, i < 5 → (W.alloc (.cells #[.int .i64 o0, .int .i64 o1, .int .i64 o2, .int .i64 o3, .int .i64 o4] 48)).cell? ⟨W.heap.size, i, none⟩ = some (.int .i64 ([o0, o1, o2, o3, o4].getD i 0)) := by
  intro i hi
  have : i = 0 ∨ i = 1 ∨ i = 2 ∨ i = 3 ∨ i = 4 := by omega
  rcases this with rfl | rfl | rfl | rfl | rfl <;> simp
theorem five_box (w : World) (o1' o2' : Obj) (o0 o1 o2 o3 o4 : Int) : ∀ i, i < 5 → (((w.alloc o1').alloc o2').alloc (.cells #[.int .i64 o0, .int .i64 o1, .int .i64 o2, .int .i64 o3, .int .i64 o4] 48)).cell? ⟨w.heap.size + 1 + 1, i, none⟩ = some (.int .i64 ([o0, o1, o2, o3, o4].getD i 0)) := by
  have h := five_new ((w.alloc o1').alloc o2') o0 o1 o2 o3 o4
  rw [show ((w.alloc o1').alloc o2').heap.size = w.heap.size + 1 + 1 by simp] at h
  exact h

set_option maxHeartbeats 8000000 in
theorem law_cllOk (c d : Int) (v : Value) (V : CV) (hs : V.short maxLen) (w : World) (h : CellAt w v V) :
    Calls Try.prog 4 #[.agg #[.int .i64 c, .int .i64 d], v] w fun e w' => e = .returned (.bool true) ∧ Below w.heap.size w w' := by
  obtain ⟨aW, kW, aO, kO, aX, kX, aI, kI, rfl, rW, rO, rX, rI⟩ := h
  have H0 : Hid (CellAt w (.agg #[.int .i64 V.c, .slice aW V.nW kW, .int .i64 V.g, .slice aO V.nO kO, .slice aX V.nX kX, .slice aI V.nI kI]) V) := ⟨aW, kW, aO, kO, aX, kX, aI, kI, rfl, rW, rO, rX, rI⟩
  have HS0 : Hid (V.short maxLen) := hs
  clear rW rO rX rI hs
  go_enter Try.func4, Try.ntmps4
  go_wp2_with fail
  obtain ⟨w0, e0⟩ : ∃ w0, w0 = ((w.alloc (.cells #[.int .i64 c, .int .i64 d] 23)).alloc (.cells #[.int .i64 V.c, .slice aW V.nW kW, .int .i64 V.g, .slice aO V.nO kO, .slice aX V.nX kX, .slice aI V.nI kI] 42)) := ⟨_, rfl⟩
  have z0 : w.heap.size + 2 ≤ w0.heap.size := by rw [e0]; simp
  have B0 : Hid (Below w.heap.size w w0) := by rw [e0]; exact ((Below.refl _ _).alloc (by simp) _).alloc (by simp) _
  have A0 : Hid (Six w0 (w.heap.size + 1) [.int .i64 V.c, .slice aW V.nW kW, .int .i64 V.g, .slice aO V.nO kO, .slice aX V.nX kX, .slice aI V.nI kI]) := by rw [e0]; exact six_box2 w #[.int .i64 c, .int .i64 d] 23 42 (.int .i64 V.c) (.slice aW V.nW kW) (.int .i64 V.g) (.slice aO V.nO kO) (.slice aX V.nX kX) (.slice aI V.nI kI)
  have M0 : Hid (w0.cell? ⟨w.heap.size, 0, none⟩ = some (.int .i64 c) ∧ w0.cell? ⟨w.heap.size, 1, none⟩ = some (.int .i64 d)) := by rw [e0]; exact two_box23 w c d _
  rw [← e0]
  clear e0
  refine (szCell _ V HS0.out _ (cellAt_below H0.out B0.out)).mono ?_
  rintro e w1 ⟨⟨r, rfl, hr⟩, hb1⟩
  have B1 : Hid (Below w.heap.size w w1) := bthen B0.out hb1
  have A1 : Hid (Six w1 (w.heap.size + 1) [.int .i64 V.c, .slice aW V.nW kW, .int .i64 V.g, .slice aO V.nO kO, .slice aX V.nX kX, .slice aI V.nI kI]) := A0.out.below (by omega) hb1
  have M1 : Hid (w1.cell? ⟨w.heap.size, 0, none⟩ = some (.int .i64 c) ∧ w1.cell? ⟨w.heap.size, 1, none⟩ = some (.int .i64 d)) := ⟨(hb1.cell (p := ⟨w.heap.size, 0, none⟩) (by show w.heap.size < _; omega)).trans M0.out.1, (hb1.cell (p := ⟨w.heap.size, 1, none⟩) (by show w.heap.size < _; omega)).trans M0.out.2⟩
  have z1 : w.heap.size + 2 ≤ w1.heap.size := Nat.le_trans z0 hb1.size
  clear A0 M0 B0
  clear hb1
  rcases hr with hr | ⟨hr, hV⟩
  · go_wp2
    go_ret
    exact ⟨rfl, B1.out⟩
  have hr2 : ¬ r < 0 := by omega
  have HV : Hid (V.short 1048576) := hV
  clear hV
  have a0 : w1.cell? ⟨w.heap.size + 1, 0, none⟩ = some (.int .i64 V.c) := (A1.out 0 (by decide)).1
  have a1 : w1.cell? ⟨w.heap.size + 1, 1, none⟩ = some (.slice aW V.nW kW) := (A1.out 1 (by decide)).1
  have a2 : w1.cell? ⟨w.heap.size + 1, 2, none⟩ = some (.int .i64 V.g) := (A1.out 2 (by decide)).1
  have a3 : w1.cell? ⟨w.heap.size + 1, 3, none⟩ = some (.slice aO V.nO kO) := (A1.out 3 (by decide)).1
  have a4 : w1.cell? ⟨w.heap.size + 1, 4, none⟩ = some (.slice aX V.nX kX) := (A1.out 4 (by decide)).1
  have a5 : w1.cell? ⟨w.heap.size + 1, 5, none⟩ = some (.slice aI V.nI kI) := (A1.out 5 (by decide)).1
  have m0 : w1.cell? ⟨w.heap.size, 0, none⟩ = some (.int .i64 c) := M1.out.1
  have m1 : w1.cell? ⟨w.heap.size, 1, none⟩ = some (.int .i64 d) := M1.out.2
  have lA : w.heap.size + 1 < w1.heap.size := by omega
  have lM : w.heap.size < w1.heap.size := by omega
  go_wp2
  refine wp_region_held_drew (S := fun w' => (∀ b o, b < w1.heap.size → w'.cell? ⟨b, o, none⟩ = w1.cell? ⟨b, o, none⟩) ∧ w1.heap.size ≤ w'.heap.size) (by kernel_rfl) ⟨fun _ _ _ => rfl, Nat.le_refl _⟩ ?_
  intro hHeld
  refine wpAnyH_take (i := 0) (v := .agg #[.int .i64 c, .int .i64 d]) rfl (by kernel_rfl) (by kernel_rfl) (by kernel_rfl) (fun _ _ _ h => h) (Or.inl ⟨by rfl, ?_⟩) (by assumption) ?_
  · intro wx hSw; go_simp
  try simp only [Act.put, List.setIfInBounds_toArray, List.set_cons_zero, List.set_cons_succ, List.getElem_toArray, List.getElem_cons_zero]
  refine wpAnyH_take (i := 2) (v := .agg #[.int .i64 V.c, .slice aW V.nW kW, .int .i64 V.g, .slice aO V.nO kO, .slice aX V.nX kX, .slice aI V.nI kI]) rfl (by kernel_rfl) (by kernel_rfl) (by kernel_rfl) (fun _ _ _ h => h) (Or.inl ⟨by rfl, ?_⟩) (by assumption) ?_
  · intro wx hSw; go_simp
  try simp only [Act.put, List.setIfInBounds_toArray, List.set_cons_zero, List.set_cons_succ, List.getElem_toArray, List.getElem_cons_zero, List.getElem_cons_succ]
  refine wpAnyH_ready (rs := [1]) (by kernel_rfl) (by simp) ?_
  refine AllReadyH.cons rfl (fun K hK => ?_) AllReadyH.nil
  go_simp
  go_wp2_with fail
  refine (toMap _ _ _).mono ?_
  rintro e x1 ⟨rfl, hx1⟩
  refine hK.out _ _ (keepS (by assumption) hx1) (fun hNew => ?_)
  clear hK K hHeld
  have hHeld := hNew
  clear hNew
  try simp only [Act.put, List.setIfInBounds_toArray, List.set_cons_zero, List.set_cons_succ, List.getElem_toArray, List.getElem_cons_zero, List.getElem_cons_succ]
  refine wpAnyH_ready (rs := [3]) (by kernel_rfl) (by simp) ?_
  refine AllReadyH.cons rfl (fun K hK => ?_) AllReadyH.nil
  go_simp
  go_wp2_with fail
  refine (toCell _ V HV.out _ (cellAt_below H0.out (bthen B1.out (by repeat (first | exact Below.refl _ _ | refine bthen ?_ (by assumption) | apply Below.drew))))).mono ?_
  rintro e x2 ⟨⟨v1, rfl, hC1⟩, hx2⟩
  refine hK.out _ _ (keepS (by assumption) hx2) (fun hNew => ?_)
  clear hK K hHeld
  have hHeld := hNew
  clear hNew
  try simp only [Act.put, List.setIfInBounds_toArray, List.set_cons_zero, List.set_cons_succ, List.getElem_toArray, List.getElem_cons_zero, List.getElem_cons_succ]
  refine wpAnyH_ready (rs := [4]) (by kernel_rfl) (by simp) ?_
  refine AllReadyH.cons rfl (fun K hK => ?_) AllReadyH.nil
  go_simp
  go_wp2_with fail
  refine (cllOk_spec c d v1 V _ HV.out _ hC1).mono ?_
  rintro e x3 ⟨rfl, hx3⟩
  refine hK.out _ _ (keepS (by assumption) hx3) (fun hNew => ?_)
  clear hK K hHeld
  have hHeld := hNew
  clear hNew
  try simp only [Act.put, List.setIfInBounds_toArray, List.set_cons_zero, List.set_cons_succ, List.getElem_toArray, List.getElem_cons_zero, List.getElem_cons_succ]
  refine wpAnyH_take (i := 5) (v := .bool (cllB c d V)) rfl (by kernel_rfl) (by kernel_rfl) (by kernel_rfl) (fun _ _ _ h => h) (Or.inl ⟨by rfl, ?_⟩) (by assumption) ?_
  · intro wx hSw; go_simp
  try simp only [Act.put, List.setIfInBounds_toArray, List.set_cons_zero, List.set_cons_succ, List.getElem_toArray, List.getElem_cons_zero, List.getElem_cons_succ]
  refine wpAnyH_done (by kernel_rfl) ?_ _
  clear hHeld
  have hb3 : Below w1.heap.size w1 x3 := by repeat (first | exact Below.refl _ _ | refine bthen ?_ (by assumption) | apply Below.drew)
  generalize x3 = w3 at *
  clear a0 a1 a2 a3 a4 a5 m0 m1 lA lM
  have B3 : Hid (Below w.heap.size w w3) := bthen B1.out hb3
  have A3 : Hid (Six w3 (w.heap.size + 1) [.int .i64 V.c, .slice aW V.nW kW, .int .i64 V.g, .slice aO V.nO kO, .slice aX V.nX kX, .slice aI V.nI kI]) := A1.out.below (by omega) hb3
  have M3 : Hid (w3.cell? ⟨w.heap.size, 0, none⟩ = some (.int .i64 c) ∧ w3.cell? ⟨w.heap.size, 1, none⟩ = some (.int .i64 d)) := ⟨(hb3.cell (p := ⟨w.heap.size, 0, none⟩) (by show w.heap.size < _; omega)).trans M1.out.1, (hb3.cell (p := ⟨w.heap.size, 1, none⟩) (by show w.heap.size < _; omega)).trans M1.out.2⟩
  have z3 : w.heap.size + 2 ≤ w3.heap.size := Nat.le_trans z1 hb3.size
  clear A1 M1 B1
  clear hb3 hx1 hx2 hx3 hC1
  have a0 : w3.cell? ⟨w.heap.size + 1, 0, none⟩ = some (.int .i64 V.c) := (A3.out 0 (by decide)).1
  have a1 : w3.cell? ⟨w.heap.size + 1, 1, none⟩ = some (.slice aW V.nW kW) := (A3.out 1 (by decide)).1
  have a2 : w3.cell? ⟨w.heap.size + 1, 2, none⟩ = some (.int .i64 V.g) := (A3.out 2 (by decide)).1
  have a3 : w3.cell? ⟨w.heap.size + 1, 3, none⟩ = some (.slice aO V.nO kO) := (A3.out 3 (by decide)).1
  have a4 : w3.cell? ⟨w.heap.size + 1, 4, none⟩ = some (.slice aX V.nX kX) := (A3.out 4 (by decide)).1
  have a5 : w3.cell? ⟨w.heap.size + 1, 5, none⟩ = some (.slice aI V.nI kI) := (A3.out 5 (by decide)).1
  have m0 : w3.cell? ⟨w.heap.size, 0, none⟩ = some (.int .i64 c) := M3.out.1
  have m1 : w3.cell? ⟨w.heap.size, 1, none⟩ = some (.int .i64 d) := M3.out.2
  have lA : w.heap.size + 1 < w3.heap.size := by omega
  have lM : w.heap.size < w3.heap.size := by omega
  go_wp2_with fail
  refine (toCell _ V HV.out _ (cellAt_below H0.out B3.out)).mono ?_
  rintro e w4 ⟨⟨v2, rfl, hC2⟩, hb4⟩
  clear a0 a1 a2 a3 a4 a5 m0 m1 lA lM
  have B4 : Hid (Below w.heap.size w w4) := bthen B3.out hb4
  have A4 : Hid (Six w4 (w.heap.size + 1) [.int .i64 V.c, .slice aW V.nW kW, .int .i64 V.g, .slice aO V.nO kO, .slice aX V.nX kX, .slice aI V.nI kI]) := A3.out.below (by omega) hb4
  have M4 : Hid (w4.cell? ⟨w.heap.size, 0, none⟩ = some (.int .i64 c) ∧ w4.cell? ⟨w.heap.size, 1, none⟩ = some (.int .i64 d)) := ⟨(hb4.cell (p := ⟨w.heap.size, 0, none⟩) (by show w.heap.size < _; omega)).trans M3.out.1, (hb4.cell (p := ⟨w.heap.size, 1, none⟩) (by show w.heap.size < _; omega)).trans M3.out.2⟩
  have z4 : w.heap.size + 2 ≤ w4.heap.size := Nat.le_trans z3 hb4.size
  clear A3 M3 B3
  clear hb4
  obtain ⟨bW, bO, bX, bI, q0, q1, q2, q3, q4, rfl, g1, g2, g3, g4⟩ := hC2
  have C4 : Hid (CopyAt w3.heap.size w4 (.agg #[.int .i64 V.c, .slice (some ⟨bW, 0, none⟩) V.nW V.nW, .int .i64 V.g, .slice (some ⟨bO, 0, none⟩) V.nO V.nO, .slice (some ⟨bX, 0, none⟩) V.nX V.nX, .slice (some ⟨bI, 0, none⟩) V.nI V.nI]) V) := ⟨bW, bO, bX, bI, q0, q1, q2, q3, q4, rfl, g1, g2, g3, g4⟩
  clear g1 g2 g3 g4 q0 q1 q2 q3 q4
  have a0 : w4.cell? ⟨w.heap.size + 1, 0, none⟩ = some (.int .i64 V.c) := (A4.out 0 (by decide)).1
  have a1 : w4.cell? ⟨w.heap.size + 1, 1, none⟩ = some (.slice aW V.nW kW) := (A4.out 1 (by decide)).1
  have a2 : w4.cell? ⟨w.heap.size + 1, 2, none⟩ = some (.int .i64 V.g) := (A4.out 2 (by decide)).1
  have a3 : w4.cell? ⟨w.heap.size + 1, 3, none⟩ = some (.slice aO V.nO kO) := (A4.out 3 (by decide)).1
  have a4 : w4.cell? ⟨w.heap.size + 1, 4, none⟩ = some (.slice aX V.nX kX) := (A4.out 4 (by decide)).1
  have a5 : w4.cell? ⟨w.heap.size + 1, 5, none⟩ = some (.slice aI V.nI kI) := (A4.out 5 (by decide)).1
  have m0 : w4.cell? ⟨w.heap.size, 0, none⟩ = some (.int .i64 c) := M4.out.1
  have m1 : w4.cell? ⟨w.heap.size, 1, none⟩ = some (.int .i64 d) := M4.out.2
  have lA : w.heap.size + 1 < w4.heap.size := by omega
  have lM : w.heap.size < w4.heap.size := by omega
  go_wp2
  obtain ⟨w5, e5⟩ : ∃ w5, w5 = w4.alloc (.cells #[.int .i64 V.c, .slice (some ⟨bW, 0, none⟩) V.nW V.nW, .int .i64 V.g, .slice (some ⟨bO, 0, none⟩) V.nO V.nO, .slice (some ⟨bX, 0, none⟩) V.nX V.nX, .slice (some ⟨bI, 0, none⟩) V.nI V.nI] 30) := ⟨_, rfl⟩
  have hb5 : Below w4.heap.size w4 w5 := by rw [e5]; exact (Below.refl _ _).alloc (Nat.le_refl _) _
  have X5 : Hid (Six w5 w4.heap.size [.int .i64 V.c, .slice (some ⟨bW, 0, none⟩) V.nW V.nW, .int .i64 V.g, .slice (some ⟨bO, 0, none⟩) V.nO V.nO, .slice (some ⟨bX, 0, none⟩) V.nX V.nX, .slice (some ⟨bI, 0, none⟩) V.nI V.nI]) := by rw [e5]; exact six_new w4 30 (.int .i64 V.c) (.slice (some ⟨bW, 0, none⟩) V.nW V.nW) (.int .i64 V.g) (.slice (some ⟨bO, 0, none⟩) V.nO V.nO) (.slice (some ⟨bX, 0, none⟩) V.nX V.nX) (.slice (some ⟨bI, 0, none⟩) V.nI V.nI)
  have lX5 : w4.heap.size < w5.heap.size := by rw [e5]; simp
  rw [← e5]
  clear e5
  clear a0 a1 a2 a3 a4 a5 m0 m1 lA lM
  have B5 : Hid (Below w.heap.size w w5) := bthen B4.out hb5
  have A5 : Hid (Six w5 (w.heap.size + 1) [.int .i64 V.c, .slice aW V.nW kW, .int .i64 V.g, .slice aO V.nO kO, .slice aX V.nX kX, .slice aI V.nI kI]) := A4.out.below (by omega) hb5
  have M5 : Hid (w5.cell? ⟨w.heap.size, 0, none⟩ = some (.int .i64 c) ∧ w5.cell? ⟨w.heap.size, 1, none⟩ = some (.int .i64 d)) := ⟨(hb5.cell (p := ⟨w.heap.size, 0, none⟩) (by show w.heap.size < _; omega)).trans M4.out.1, (hb5.cell (p := ⟨w.heap.size, 1, none⟩) (by show w.heap.size < _; omega)).trans M4.out.2⟩
  have z5 : w.heap.size + 2 ≤ w5.heap.size := Nat.le_trans z4 hb5.size
  clear A4 M4 B4
  have C5 : Hid (CopyAt w3.heap.size w5 (.agg #[.int .i64 V.c, .slice (some ⟨bW, 0, none⟩) V.nW V.nW, .int .i64 V.g, .slice (some ⟨bO, 0, none⟩) V.nO V.nO, .slice (some ⟨bX, 0, none⟩) V.nX V.nX, .slice (some ⟨bI, 0, none⟩) V.nI V.nI]) V) := C4.out.below hb5
  clear C4 hb5
  generalize w4.heap.size = gx at *
  have a0 : w5.cell? ⟨w.heap.size + 1, 0, none⟩ = some (.int .i64 V.c) := (A5.out 0 (by decide)).1
  have a1 : w5.cell? ⟨w.heap.size + 1, 1, none⟩ = some (.slice aW V.nW kW) := (A5.out 1 (by decide)).1
  have a2 : w5.cell? ⟨w.heap.size + 1, 2, none⟩ = some (.int .i64 V.g) := (A5.out 2 (by decide)).1
  have a3 : w5.cell? ⟨w.heap.size + 1, 3, none⟩ = some (.slice aO V.nO kO) := (A5.out 3 (by decide)).1
  have a4 : w5.cell? ⟨w.heap.size + 1, 4, none⟩ = some (.slice aX V.nX kX) := (A5.out 4 (by decide)).1
  have a5 : w5.cell? ⟨w.heap.size + 1, 5, none⟩ = some (.slice aI V.nI kI) := (A5.out 5 (by decide)).1
  have m0 : w5.cell? ⟨w.heap.size, 0, none⟩ = some (.int .i64 c) := M5.out.1
  have m1 : w5.cell? ⟨w.heap.size, 1, none⟩ = some (.int .i64 d) := M5.out.2
  have lA : w.heap.size + 1 < w5.heap.size := by omega
  have lM : w.heap.size < w5.heap.size := by omega
  have p0 : w5.cell? ⟨gx, 0, none⟩ = some (.int .i64 V.c) := (X5.out 0 (by decide)).1
  have p1 : w5.cell? ⟨gx, 1, none⟩ = some (.slice (some ⟨bW, 0, none⟩) V.nW V.nW) := (X5.out 1 (by decide)).1
  have p2 : w5.cell? ⟨gx, 2, none⟩ = some (.int .i64 V.g) := (X5.out 2 (by decide)).1
  have p3 : w5.cell? ⟨gx, 3, none⟩ = some (.slice (some ⟨bO, 0, none⟩) V.nO V.nO) := (X5.out 3 (by decide)).1
  have p4 : w5.cell? ⟨gx, 4, none⟩ = some (.slice (some ⟨bX, 0, none⟩) V.nX V.nX) := (X5.out 4 (by decide)).1
  have p5 : w5.cell? ⟨gx, 5, none⟩ = some (.slice (some ⟨bI, 0, none⟩) V.nI V.nI) := (X5.out 5 (by decide)).1
  refine wp_region_held_drew (S := fun w' => (∀ b o, b < w5.heap.size → w'.cell? ⟨b, o, none⟩ = w5.cell? ⟨b, o, none⟩) ∧ w5.heap.size ≤ w'.heap.size) (by kernel_rfl) ⟨fun _ _ _ => rfl, Nat.le_refl _⟩ ?_
  intro hHeld
  refine wpAnyH_take (i := 0) (v := .agg #[.int .i64 c, .int .i64 d]) rfl (by kernel_rfl) (by kernel_rfl) (by kernel_rfl) (fun _ _ _ h => h) (Or.inl ⟨by rfl, ?_⟩) (by assumption) ?_
  · intro wx hSw; go_simp
  try simp only [Act.put, List.setIfInBounds_toArray, List.set_cons_zero, List.set_cons_succ, List.getElem_toArray, List.getElem_cons_zero]
  refine wpAnyH_take (i := 2) (v := .agg #[.int .i64 V.c, .slice (some ⟨bW, 0, none⟩) V.nW V.nW, .int .i64 V.g, .slice (some ⟨bO, 0, none⟩) V.nO V.nO, .slice (some ⟨bX, 0, none⟩) V.nX V.nX, .slice (some ⟨bI, 0, none⟩) V.nI V.nI]) rfl (by kernel_rfl) (by kernel_rfl) (by kernel_rfl) (fun _ _ _ h => h) (Or.inl ⟨by rfl, ?_⟩) (by assumption) ?_
  · intro wx hSw; go_simp
  try simp only [Act.put, List.setIfInBounds_toArray, List.set_cons_zero, List.set_cons_succ, List.getElem_toArray, List.getElem_cons_zero, List.getElem_cons_succ]
  refine wpAnyH_ready (rs := [1]) (by kernel_rfl) (by simp) ?_
  refine AllReadyH.cons rfl (fun K hK => ?_) AllReadyH.nil
  go_simp
  go_wp2_with fail
  refine (toMap _ _ _).mono ?_
  rintro e y1 ⟨rfl, hy1⟩
  refine hK.out _ _ (keepS (by assumption) hy1) (fun hNew => ?_)
  clear hK K hHeld
  have hHeld := hNew
  clear hNew
  try simp only [Act.put, List.setIfInBounds_toArray, List.set_cons_zero, List.set_cons_succ, List.getElem_toArray, List.getElem_cons_zero, List.getElem_cons_succ]
  refine wpAnyH_ready (rs := [3]) (by kernel_rfl) (by simp) ?_
  refine AllReadyH.cons rfl (fun K hK => ?_) AllReadyH.nil
  go_simp
  go_wp2_with fail
  refine (cllOk_impl c d _ V _ HV.out _ (C5.out.below (by repeat (first | exact Below.refl _ _ | refine bthen ?_ (by assumption) | apply Below.drew)))).mono ?_
  rintro e y2 ⟨rfl, hy2⟩
  refine hK.out _ _ (keepS (by assumption) hy2) (fun hNew => ?_)
  clear hK K hHeld
  have hHeld := hNew
  clear hNew
  try simp only [Act.put, List.setIfInBounds_toArray, List.set_cons_zero, List.set_cons_succ, List.getElem_toArray, List.getElem_cons_zero, List.getElem_cons_succ]
  refine wpAnyH_take (i := 4) (v := .bool (cllB c d V)) rfl (by kernel_rfl) (by kernel_rfl) (by kernel_rfl) (fun _ _ _ h => h) (Or.inl ⟨by rfl, ?_⟩) (by assumption) ?_
  · intro wx hSw; go_simp
  try simp only [Act.put, List.setIfInBounds_toArray, List.set_cons_zero, List.set_cons_succ, List.getElem_toArray, List.getElem_cons_zero, List.getElem_cons_succ]
  refine wpAnyH_done (by kernel_rfl) ?_ _
  clear hHeld
  have hb6 : Below w5.heap.size w5 y2 := by repeat (first | exact Below.refl _ _ | refine bthen ?_ (by assumption) | apply Below.drew)
  generalize y2 = w6 at *
  clear a0 a1 a2 a3 a4 a5 m0 m1 lA lM p0 p1 p2 p3 p4 p5
  have B6 : Hid (Below w.heap.size w w6) := bthen B5.out hb6
  have A6 : Hid (Six w6 (w.heap.size + 1) [.int .i64 V.c, .slice aW V.nW kW, .int .i64 V.g, .slice aO V.nO kO, .slice aX V.nX kX, .slice aI V.nI kI]) := A5.out.below (by omega) hb6
  have M6 : Hid (w6.cell? ⟨w.heap.size, 0, none⟩ = some (.int .i64 c) ∧ w6.cell? ⟨w.heap.size, 1, none⟩ = some (.int .i64 d)) := ⟨(hb6.cell (p := ⟨w.heap.size, 0, none⟩) (by show w.heap.size < _; omega)).trans M5.out.1, (hb6.cell (p := ⟨w.heap.size, 1, none⟩) (by show w.heap.size < _; omega)).trans M5.out.2⟩
  have z6 : w.heap.size + 2 ≤ w6.heap.size := Nat.le_trans z5 hb6.size
  clear A5 M5 B5
  have X6 : Hid (Six w6 gx [.int .i64 V.c, .slice (some ⟨bW, 0, none⟩) V.nW V.nW, .int .i64 V.g, .slice (some ⟨bO, 0, none⟩) V.nO V.nO, .slice (some ⟨bX, 0, none⟩) V.nX V.nX, .slice (some ⟨bI, 0, none⟩) V.nI V.nI]) := X5.out.below lX5 hb6
  have lX6 : gx < w6.heap.size := Nat.lt_of_lt_of_le lX5 hb6.size
  have C6 : Hid (CopyAt w3.heap.size w6 (.agg #[.int .i64 V.c, .slice (some ⟨bW, 0, none⟩) V.nW V.nW, .int .i64 V.g, .slice (some ⟨bO, 0, none⟩) V.nO V.nO, .slice (some ⟨bX, 0, none⟩) V.nX V.nX, .slice (some ⟨bI, 0, none⟩) V.nI V.nI]) V) := C5.out.below hb6
  clear hb6 hy1 hy2 X5 C5
  have a0 : w6.cell? ⟨w.heap.size + 1, 0, none⟩ = some (.int .i64 V.c) := (A6.out 0 (by decide)).1
  have a1 : w6.cell? ⟨w.heap.size + 1, 1, none⟩ = some (.slice aW V.nW kW) := (A6.out 1 (by decide)).1
  have a2 : w6.cell? ⟨w.heap.size + 1, 2, none⟩ = some (.int .i64 V.g) := (A6.out 2 (by decide)).1
  have a3 : w6.cell? ⟨w.heap.size + 1, 3, none⟩ = some (.slice aO V.nO kO) := (A6.out 3 (by decide)).1
  have a4 : w6.cell? ⟨w.heap.size + 1, 4, none⟩ = some (.slice aX V.nX kX) := (A6.out 4 (by decide)).1
  have a5 : w6.cell? ⟨w.heap.size + 1, 5, none⟩ = some (.slice aI V.nI kI) := (A6.out 5 (by decide)).1
  have m0 : w6.cell? ⟨w.heap.size, 0, none⟩ = some (.int .i64 c) := M6.out.1
  have m1 : w6.cell? ⟨w.heap.size, 1, none⟩ = some (.int .i64 d) := M6.out.2
  have lA : w.heap.size + 1 < w6.heap.size := by omega
  have lM : w.heap.size < w6.heap.size := by omega
  have p0 : w6.cell? ⟨gx, 0, none⟩ = some (.int .i64 V.c) := (X6.out 0 (by decide)).1
  have p1 : w6.cell? ⟨gx, 1, none⟩ = some (.slice (some ⟨bW, 0, none⟩) V.nW V.nW) := (X6.out 1 (by decide)).1
  have p2 : w6.cell? ⟨gx, 2, none⟩ = some (.int .i64 V.g) := (X6.out 2 (by decide)).1
  have p3 : w6.cell? ⟨gx, 3, none⟩ = some (.slice (some ⟨bO, 0, none⟩) V.nO V.nO) := (X6.out 3 (by decide)).1
  have p4 : w6.cell? ⟨gx, 4, none⟩ = some (.slice (some ⟨bX, 0, none⟩) V.nX V.nX) := (X6.out 4 (by decide)).1
  have p5 : w6.cell? ⟨gx, 5, none⟩ = some (.slice (some ⟨bI, 0, none⟩) V.nI V.nI) := (X6.out 5 (by decide)).1
  go_wp2
  refine wp_region_held_drew (S := fun w' => (∀ b o, b < w6.heap.size → w'.cell? ⟨b, o, none⟩ = w6.cell? ⟨b, o, none⟩) ∧ w6.heap.size ≤ w'.heap.size) (by kernel_rfl) ⟨fun _ _ _ => rfl, Nat.le_refl _⟩ ?_
  intro hHeld
  refine wpAnyH_take (i := 0) (v := .agg #[.int .i64 V.c, .slice (some ⟨bW, 0, none⟩) V.nW V.nW, .int .i64 V.g, .slice (some ⟨bO, 0, none⟩) V.nO V.nO, .slice (some ⟨bX, 0, none⟩) V.nX V.nX, .slice (some ⟨bI, 0, none⟩) V.nI V.nI]) rfl (by kernel_rfl) (by kernel_rfl) (by kernel_rfl) (fun _ _ _ h => h) (Or.inl ⟨by rfl, ?_⟩) (by assumption) ?_
  · intro wx hSw; go_simp
  try simp only [Act.put, List.setIfInBounds_toArray, List.set_cons_zero, List.set_cons_succ, List.getElem_toArray, List.getElem_cons_zero]
  refine wpAnyH_take (i := 1) (v := .agg #[.int .i64 V.c, .slice aW V.nW kW, .int .i64 V.g, .slice aO V.nO kO, .slice aX V.nX kX, .slice aI V.nI kI]) rfl (by kernel_rfl) (by kernel_rfl) (by kernel_rfl) (fun _ _ _ h => h) (Or.inl ⟨by rfl, ?_⟩) (by assumption) ?_
  · intro wx hSw; go_simp
  try simp only [Act.put, List.setIfInBounds_toArray, List.set_cons_zero, List.set_cons_succ, List.getElem_toArray, List.getElem_cons_zero, List.getElem_cons_succ]
  refine wpAnyH_ready (rs := [2]) (by kernel_rfl) (by simp) ?_
  refine AllReadyH.cons rfl (fun K hK => ?_) AllReadyH.nil
  go_simp
  go_wp2_with fail
  refine (toCell _ V HV.out _ (cellAt_below H0.out (bthen B6.out (by repeat (first | exact Below.refl _ _ | refine bthen ?_ (by assumption) | apply Below.drew))))).mono ?_
  rintro e t1 ⟨⟨v3, rfl, hC3⟩, ht1⟩
  refine hK.out _ _ (keepS (by assumption) ht1) (fun hNew => ?_)
  clear hK K hHeld
  have hHeld := hNew
  clear hNew
  try simp only [Act.put, List.setIfInBounds_toArray, List.set_cons_zero, List.set_cons_succ, List.getElem_toArray, List.getElem_cons_zero, List.getElem_cons_succ]
  refine wpAnyH_ready (rs := [3]) (by kernel_rfl) (by simp) ?_
  refine AllReadyH.cons rfl (fun K hK => ?_) AllReadyH.nil
  go_simp
  go_wp2_with fail
  refine (eqCell _ _ V (HV.out.more (by decide)) _ (cellAt_below C6.out.at (by repeat (first | exact Below.refl _ _ | refine bthen ?_ (by assumption) | apply Below.drew))) hC3.at).mono ?_
  rintro e t2 ⟨rfl, ht2⟩
  refine hK.out _ _ (keepS (by assumption) ht2) (fun hNew => ?_)
  clear hK K hHeld
  have hHeld := hNew
  clear hNew
  try simp only [Act.put, List.setIfInBounds_toArray, List.set_cons_zero, List.set_cons_succ, List.getElem_toArray, List.getElem_cons_zero, List.getElem_cons_succ]
  refine wpAnyH_take (i := 4) (v := .bool false) rfl (by kernel_rfl) (by kernel_rfl) (by kernel_rfl) (fun _ _ _ h => h) (Or.inl ⟨by rfl, ?_⟩) (by assumption) ?_
  · intro wx hSw; go_simp
  try simp only [Act.put, List.setIfInBounds_toArray, List.set_cons_zero, List.set_cons_succ, List.getElem_toArray, List.getElem_cons_zero, List.getElem_cons_succ]
  refine wpAnyH_done (by kernel_rfl) ?_ _
  clear hHeld
  go_wp2
  go_ret
  exact ⟨rfl, bthen B6.out (by repeat (first | exact Below.refl _ _ | refine bthen ?_ (by assumption) | apply Below.drew))⟩
end Go.Proofs.Ytoiehmnhfjmfeaa
