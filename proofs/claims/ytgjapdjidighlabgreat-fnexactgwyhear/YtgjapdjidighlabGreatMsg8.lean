/- The law FnExactMsgOk: it answers true; conditions: none. -/
import Derived.Test.YtgjapdjidighlabGreatMsg2
import Derived.Test.YtgjapdjidighlabGreatMsg7
namespace Go.Proofs.YtgjapdjidighlabGreat
open Go.RowKit Go.Deep Go.ChangeShapes Go.WideShapes Go.ChangeAt
set_option linter.unusedVariables false
section
def store42 (p v : Value) : Sem Unit := Instr.storeAt 51 p v
theorem store42_eq (p v : Value) : Instr.storeAt 51 p v = store42 p v := rfl
theorem store42_bk {w : World} {b : Nat} {l' : List Value} (h : Bk w b l') (o : Nat) (ho : o + 7 ≤ l'.length) (cells : Array Value) (hs : cells.size = 7) (h1 : cells.all (·.oneCell') = true) :
    (store42 (.pointer (some ⟨b, o, none⟩)) (.agg cells)).run Tryz.prog w = .ok () (putL b cells.toList o w) := by
  rw [← put_cells]
  refine run_storeAt_mid w b o 51 cells (fun j hj => ?_) (by rw [hs]; kernel_rfl) h1
  have g := h.2 (o + j) (by omega)
  exact ⟨by rw [g.1]; rfl, g.2⟩
attribute [local go_sem ↓] load44_eq store44_eq store42_eq
set_option maxRecDepth 100000 in
set_option maxHeartbeats 4000000 in
theorem toMsg (k : Int) (x : Nat → Int) (w : World) : Calls Tryz.prog 8 #[.agg #[.int .i64 k, .int .i64 (x 1), .int .i64 (x 2), .int .i64 (x 3), .int .i64 (x 4), .int .i64 (x 5), .int .i64 (x 6), .int .i64 (x 7), .int .i64 (x 8), .int .i64 (x 9), .int .i64 (x 10), .int .i64 (x 11), .int .i64 (x 12), .int .i64 (x 13), .int .i64 (x 14), .int .i64 (x 15), .int .i64 (x 16), .int .i64 (x 17), .int .i64 (x 18), .int .i64 (x 19), .int .i64 (x 20), .int .i64 (x 21), .int .i64 (x 22), .int .i64 (x 23), .int .i64 (x 24)]] w fun e w' => e = .returned (.agg #[.int .i64 k, .int .i64 (x 1), .int .i64 (x 2), .int .i64 (x 3), .int .i64 (x 4), .int .i64 (x 5), .int .i64 (x 6), .int .i64 (x 7), .int .i64 (x 8), .int .i64 (x 9), .int .i64 (x 10), .int .i64 (x 11), .int .i64 (x 12), .int .i64 (x 13), .int .i64 (x 14), .int .i64 (x 15), .int .i64 (x 16), .int .i64 (x 17), .int .i64 (x 18), .int .i64 (x 19), .int .i64 (x 20), .int .i64 (x 21), .int .i64 (x 22), .int .i64 (x 23), .int .i64 (x 24)]) ∧ Below w.heap.size w w' := by
  go_enter Tryz.func8, Tryz.ntmps8
  go_wp2_with fail
  obtain ⟨w0, e0⟩ : ∃ w0, w0 = ((w.alloc (.cells #[.int .i64 k, .int .i64 (x 1), .int .i64 (x 2), .int .i64 (x 3), .int .i64 (x 4), .int .i64 (x 5), .int .i64 (x 6), .int .i64 (x 7), .int .i64 (x 8), .int .i64 (x 9), .int .i64 (x 10), .int .i64 (x 11), .int .i64 (x 12), .int .i64 (x 13), .int .i64 (x 14), .int .i64 (x 15), .int .i64 (x 16), .int .i64 (x 17), .int .i64 (x 18), .int .i64 (x 19), .int .i64 (x 20), .int .i64 (x 21), .int .i64 (x 22), .int .i64 (x 23), .int .i64 (x 24)] 36)).alloc (.cells #[.int .i64 0, .int .i64 0, .int .i64 0, .int .i64 0, .int .i64 0, .int .i64 0, .int .i64 0, .int .i64 0, .int .i64 0, .int .i64 0, .int .i64 0, .int .i64 0, .int .i64 0, .int .i64 0, .int .i64 0, .int .i64 0, .int .i64 0, .int .i64 0, .int .i64 0, .int .i64 0, .int .i64 0, .int .i64 0, .int .i64 0, .int .i64 0, .int .i64 0] 53)).alloc (.cells #[.int .i64 k, .int .i64 (x 1), .int .i64 (x 2), .int .i64 (x 3), .int .i64 (x 4), .int .i64 0, .int .i64 0, .int .i64 0, .int .i64 0, .int .i64 0, .int .i64 0, .int .i64 0, .int .i64 0, .int .i64 0, .int .i64 0, .int .i64 0, .int .i64 0, .int .i64 0, .int .i64 0, .int .i64 0, .int .i64 0, .int .i64 0, .int .i64 0, .int .i64 0, .int .i64 0] 53) := ⟨_, rfl⟩
  have B1 : Hid (Below w.heap.size w w0) := by rw [e0]; exact (((Below.refl _ _).alloc (by simp) _).alloc (by simp) _).alloc (by simp; omega) _
  have A2 : Hid (Bk w0 w.heap.size [.int .i64 k, .int .i64 (x 1), .int .i64 (x 2), .int .i64 (x 3), .int .i64 (x 4), .int .i64 (x 5), .int .i64 (x 6), .int .i64 (x 7), .int .i64 (x 8), .int .i64 (x 9), .int .i64 (x 10), .int .i64 (x 11), .int .i64 (x 12), .int .i64 (x 13), .int .i64 (x 14), .int .i64 (x 15), .int .i64 (x 16), .int .i64 (x 17), .int .i64 (x 18), .int .i64 (x 19), .int .i64 (x 20), .int .i64 (x 21), .int .i64 (x 22), .int .i64 (x 23), .int .i64 (x 24)]) := by rw [e0]; exact ((bk_new w 36 [.int .i64 k, .int .i64 (x 1), .int .i64 (x 2), .int .i64 (x 3), .int .i64 (x 4), .int .i64 (x 5), .int .i64 (x 6), .int .i64 (x 7), .int .i64 (x 8), .int .i64 (x 9), .int .i64 (x 10), .int .i64 (x 11), .int .i64 (x 12), .int .i64 (x 13), .int .i64 (x 14), .int .i64 (x 15), .int .i64 (x 16), .int .i64 (x 17), .int .i64 (x 18), .int .i64 (x 19), .int .i64 (x 20), .int .i64 (x 21), .int .i64 (x 22), .int .i64 (x 23), .int .i64 (x 24)]).below ((Below.refl _ _).alloc (Nat.le_refl _) _)).below ((Below.refl _ _).alloc (Nat.le_refl _) _)
  have R3 : Hid (Bk w0 (w.heap.size + 1) [.int .i64 0, .int .i64 0, .int .i64 0, .int .i64 0, .int .i64 0, .int .i64 0, .int .i64 0, .int .i64 0, .int .i64 0, .int .i64 0, .int .i64 0, .int .i64 0, .int .i64 0, .int .i64 0, .int .i64 0, .int .i64 0, .int .i64 0, .int .i64 0, .int .i64 0, .int .i64 0, .int .i64 0, .int .i64 0, .int .i64 0, .int .i64 0, .int .i64 0]) := by rw [e0]; have := (bk_new (w.alloc (.cells #[.int .i64 k, .int .i64 (x 1), .int .i64 (x 2), .int .i64 (x 3), .int .i64 (x 4), .int .i64 (x 5), .int .i64 (x 6), .int .i64 (x 7), .int .i64 (x 8), .int .i64 (x 9), .int .i64 (x 10), .int .i64 (x 11), .int .i64 (x 12), .int .i64 (x 13), .int .i64 (x 14), .int .i64 (x 15), .int .i64 (x 16), .int .i64 (x 17), .int .i64 (x 18), .int .i64 (x 19), .int .i64 (x 20), .int .i64 (x 21), .int .i64 (x 22), .int .i64 (x 23), .int .i64 (x 24)] 36)) 53 [.int .i64 0, .int .i64 0, .int .i64 0, .int .i64 0, .int .i64 0, .int .i64 0, .int .i64 0, .int .i64 0, .int .i64 0, .int .i64 0, .int .i64 0, .int .i64 0, .int .i64 0, .int .i64 0, .int .i64 0, .int .i64 0, .int .i64 0, .int .i64 0, .int .i64 0, .int .i64 0, .int .i64 0, .int .i64 0, .int .i64 0, .int .i64 0, .int .i64 0]).below ((Below.refl _ _).alloc (Nat.le_refl _) (.cells #[.int .i64 k, .int .i64 (x 1), .int .i64 (x 2), .int .i64 (x 3), .int .i64 (x 4), .int .i64 0, .int .i64 0, .int .i64 0, .int .i64 0, .int .i64 0, .int .i64 0, .int .i64 0, .int .i64 0, .int .i64 0, .int .i64 0, .int .i64 0, .int .i64 0, .int .i64 0, .int .i64 0, .int .i64 0, .int .i64 0, .int .i64 0, .int .i64 0, .int .i64 0, .int .i64 0] 53)); rwa [show (w.alloc (.cells #[.int .i64 k, .int .i64 (x 1), .int .i64 (x 2), .int .i64 (x 3), .int .i64 (x 4), .int .i64 (x 5), .int .i64 (x 6), .int .i64 (x 7), .int .i64 (x 8), .int .i64 (x 9), .int .i64 (x 10), .int .i64 (x 11), .int .i64 (x 12), .int .i64 (x 13), .int .i64 (x 14), .int .i64 (x 15), .int .i64 (x 16), .int .i64 (x 17), .int .i64 (x 18), .int .i64 (x 19), .int .i64 (x 20), .int .i64 (x 21), .int .i64 (x 22), .int .i64 (x 23), .int .i64 (x 24)] 36)).heap.size = w.heap.size + 1 by simp] at this
  have O4 : Hid (Bk w0 (w.heap.size + 1 + 1) [.int .i64 k, .int .i64 (x 1), .int .i64 (x 2), .int .i64 (x 3), .int .i64 (x 4), .int .i64 0, .int .i64 0, .int .i64 0, .int .i64 0, .int .i64 0, .int .i64 0, .int .i64 0, .int .i64 0, .int .i64 0, .int .i64 0, .int .i64 0, .int .i64 0, .int .i64 0, .int .i64 0, .int .i64 0, .int .i64 0, .int .i64 0, .int .i64 0, .int .i64 0, .int .i64 0]) := by rw [e0]; have := bk_new ((w.alloc (.cells #[.int .i64 k, .int .i64 (x 1), .int .i64 (x 2), .int .i64 (x 3), .int .i64 (x 4), .int .i64 (x 5), .int .i64 (x 6), .int .i64 (x 7), .int .i64 (x 8), .int .i64 (x 9), .int .i64 (x 10), .int .i64 (x 11), .int .i64 (x 12), .int .i64 (x 13), .int .i64 (x 14), .int .i64 (x 15), .int .i64 (x 16), .int .i64 (x 17), .int .i64 (x 18), .int .i64 (x 19), .int .i64 (x 20), .int .i64 (x 21), .int .i64 (x 22), .int .i64 (x 23), .int .i64 (x 24)] 36)).alloc (.cells #[.int .i64 0, .int .i64 0, .int .i64 0, .int .i64 0, .int .i64 0, .int .i64 0, .int .i64 0, .int .i64 0, .int .i64 0, .int .i64 0, .int .i64 0, .int .i64 0, .int .i64 0, .int .i64 0, .int .i64 0, .int .i64 0, .int .i64 0, .int .i64 0, .int .i64 0, .int .i64 0, .int .i64 0, .int .i64 0, .int .i64 0, .int .i64 0, .int .i64 0] 53)) 53 [.int .i64 k, .int .i64 (x 1), .int .i64 (x 2), .int .i64 (x 3), .int .i64 (x 4), .int .i64 0, .int .i64 0, .int .i64 0, .int .i64 0, .int .i64 0, .int .i64 0, .int .i64 0, .int .i64 0, .int .i64 0, .int .i64 0, .int .i64 0, .int .i64 0, .int .i64 0, .int .i64 0, .int .i64 0, .int .i64 0, .int .i64 0, .int .i64 0, .int .i64 0, .int .i64 0]; rwa [show ((w.alloc (.cells #[.int .i64 k, .int .i64 (x 1), .int .i64 (x 2), .int .i64 (x 3), .int .i64 (x 4), .int .i64 (x 5), .int .i64 (x 6), .int .i64 (x 7), .int .i64 (x 8), .int .i64 (x 9), .int .i64 (x 10), .int .i64 (x 11), .int .i64 (x 12), .int .i64 (x 13), .int .i64 (x 14), .int .i64 (x 15), .int .i64 (x 16), .int .i64 (x 17), .int .i64 (x 18), .int .i64 (x 19), .int .i64 (x 20), .int .i64 (x 21), .int .i64 (x 22), .int .i64 (x 23), .int .i64 (x 24)] 36)).alloc (.cells #[.int .i64 0, .int .i64 0, .int .i64 0, .int .i64 0, .int .i64 0, .int .i64 0, .int .i64 0, .int .i64 0, .int .i64 0, .int .i64 0, .int .i64 0, .int .i64 0, .int .i64 0, .int .i64 0, .int .i64 0, .int .i64 0, .int .i64 0, .int .i64 0, .int .i64 0, .int .i64 0, .int .i64 0, .int .i64 0, .int .i64 0, .int .i64 0, .int .i64 0] 53)).heap.size = w.heap.size + 1 + 1 by simp] at this
  rw [← e0]
  clear e0
  refine (toOrder _ _ _ _ _ _).mono ?_
  rintro e w1 ⟨rfl, hb1⟩
  have B5 := hid (bthen B1.out hb1)
  have A5 := hid (A2.out.below hb1)
  have R5 := hid (R3.out.below hb1)
  have O5 := hid (O4.out.below hb1)
  clear B1 A2 R3 O4
  clear hb1
  obtain ⟨yO0, yO1, yO2, yO3, yO4, yO5, yO6, yO7, yO8, yO9, yO10, yO11, yO12, yO13, yO14, yO15, yO16, yO17, yO18, yO19, yO20, yO21, yO22, yO23, yO24⟩ := O5.out.a25
  obtain ⟨zO0, zO1, zO2, zO3, zO4, zO5, zO6, zO7, zO8, zO9, zO10, zO11, zO12, zO13, zO14, zO15, zO16, zO17, zO18, zO19, zO20, zO21, zO22, zO23, zO24⟩ := O5.out.f25
  have hlO : (w.heap.size + 1 + 1) < w1.heap.size := O5.out.1
  obtain ⟨yA0, yA1, yA2, yA3, yA4, yA5, yA6, yA7, yA8, yA9, yA10, yA11, yA12, yA13, yA14, yA15, yA16, yA17, yA18, yA19, yA20, yA21, yA22, yA23, yA24⟩ := A5.out.a25
  have hlA : w.heap.size < w1.heap.size := A5.out.1
  go_wp2_with fail
  obtain ⟨v1, ev1⟩ : ∃ v, v = (((((w1.setCell ⟨w.heap.size + 1 + 1, 5, none⟩ (.int .i64 (x 5))).setCell ⟨w.heap.size + 1 + 1, 6, none⟩ (.int .i64 (x 6))).setCell ⟨w.heap.size + 1 + 1, 7, none⟩ (.int .i64 (x 7))).setCell ⟨w.heap.size + 1 + 1, 8, none⟩ (.int .i64 (x 8))).setCell ⟨w.heap.size + 1 + 1, 9, none⟩ (.int .i64 (x 9))) := ⟨_, rfl⟩
  clear yO0 zO0 yO1 zO1 yO2 zO2 yO3 zO3 yO4 zO4 yO5 zO5 yO6 zO6 yO7 zO7 yO8 zO8 yO9 zO9 yO10 zO10 yO11 zO11 yO12 zO12 yO13 zO13 yO14 zO14 yO15 zO15 yO16 zO16 yO17 zO17 yO18 zO18 yO19 zO19 yO20 zO20 yO21 zO21 yO22 zO22 yO23 zO23 yO24 zO24 hlO yA0 yA1 yA2 yA3 yA4 yA5 yA6 yA7 yA8 yA9 yA10 yA11 yA12 yA13 yA14 yA15 yA16 yA17 yA18 yA19 yA20 yA21 yA22 yA23 yA24 hlA
  have nv1B : Hid (Below w.heap.size w v1) := by rw [ev1]; exact (((((B5.out.setCell (by show w.heap.size ≤ w.heap.size + 1 + 1; omega) _).setCell (by show w.heap.size ≤ w.heap.size + 1 + 1; omega) _).setCell (by show w.heap.size ≤ w.heap.size + 1 + 1; omega) _).setCell (by show w.heap.size ≤ w.heap.size + 1 + 1; omega) _).setCell (by show w.heap.size ≤ w.heap.size + 1 + 1; omega) _)
  have nv1A : Hid (Bk v1 w.heap.size [.int .i64 k, .int .i64 (x 1), .int .i64 (x 2), .int .i64 (x 3), .int .i64 (x 4), .int .i64 (x 5), .int .i64 (x 6), .int .i64 (x 7), .int .i64 (x 8), .int .i64 (x 9), .int .i64 (x 10), .int .i64 (x 11), .int .i64 (x 12), .int .i64 (x 13), .int .i64 (x 14), .int .i64 (x 15), .int .i64 (x 16), .int .i64 (x 17), .int .i64 (x 18), .int .i64 (x 19), .int .i64 (x 20), .int .i64 (x 21), .int .i64 (x 22), .int .i64 (x 23), .int .i64 (x 24)]) := by rw [ev1]; exact ((((((((((A5.out).far (by omega))).far (by omega))).far (by omega))).far (by omega))).far (by omega))
  have nv1R : Hid (Bk v1 (w.heap.size + 1) [.int .i64 0, .int .i64 0, .int .i64 0, .int .i64 0, .int .i64 0, .int .i64 0, .int .i64 0, .int .i64 0, .int .i64 0, .int .i64 0, .int .i64 0, .int .i64 0, .int .i64 0, .int .i64 0, .int .i64 0, .int .i64 0, .int .i64 0, .int .i64 0, .int .i64 0, .int .i64 0, .int .i64 0, .int .i64 0, .int .i64 0, .int .i64 0, .int .i64 0]) := by rw [ev1]; exact ((((((((((R5.out).far (by omega))).far (by omega))).far (by omega))).far (by omega))).far (by omega))
  have nv1O : Hid (Bk v1 (w.heap.size + 1 + 1) [.int .i64 k, .int .i64 (x 1), .int .i64 (x 2), .int .i64 (x 3), .int .i64 (x 4), .int .i64 (x 5), .int .i64 (x 6), .int .i64 (x 7), .int .i64 (x 8), .int .i64 (x 9), .int .i64 0, .int .i64 0, .int .i64 0, .int .i64 0, .int .i64 0, .int .i64 0, .int .i64 0, .int .i64 0, .int .i64 0, .int .i64 0, .int .i64 0, .int .i64 0, .int .i64 0, .int .i64 0, .int .i64 0]) := by rw [ev1]; exact ((((((((((O5.out).set (j := 5) (by simp))).set (j := 6) (by simp))).set (j := 7) (by simp))).set (j := 8) (by simp))).set (j := 9) (by simp))
  rw [← ev1]
  clear ev1 B5 A5 R5 O5
  refine (toParcel _ _ _ _ _ _ _ _ _).mono ?_
  rintro e w2 ⟨rfl, hb2⟩
  have B6 := hid (bthen nv1B.out hb2)
  have A6 := hid (nv1A.out.below hb2)
  have R6 := hid (nv1R.out.below hb2)
  have O6 := hid (nv1O.out.below hb2)
  clear nv1B nv1A nv1R nv1O
  clear hb2
  obtain ⟨yO0, yO1, yO2, yO3, yO4, yO5, yO6, yO7, yO8, yO9, yO10, yO11, yO12, yO13, yO14, yO15, yO16, yO17, yO18, yO19, yO20, yO21, yO22, yO23, yO24⟩ := O6.out.a25
  obtain ⟨zO0, zO1, zO2, zO3, zO4, zO5, zO6, zO7, zO8, zO9, zO10, zO11, zO12, zO13, zO14, zO15, zO16, zO17, zO18, zO19, zO20, zO21, zO22, zO23, zO24⟩ := O6.out.f25
  have hlO : (w.heap.size + 1 + 1) < w2.heap.size := O6.out.1
  obtain ⟨yA0, yA1, yA2, yA3, yA4, yA5, yA6, yA7, yA8, yA9, yA10, yA11, yA12, yA13, yA14, yA15, yA16, yA17, yA18, yA19, yA20, yA21, yA22, yA23, yA24⟩ := A6.out.a25
  have hlA : w.heap.size < w2.heap.size := A6.out.1
  go_wp2_with fail
  obtain ⟨v2, ev2⟩ : ∃ v, v = ((((((((w2.setCell ⟨w.heap.size + 1 + 1, 10, none⟩ (.int .i64 (x 10))).setCell ⟨w.heap.size + 1 + 1, 11, none⟩ (.int .i64 (x 11))).setCell ⟨w.heap.size + 1 + 1, 12, none⟩ (.int .i64 (x 12))).setCell ⟨w.heap.size + 1 + 1, 13, none⟩ (.int .i64 (x 13))).setCell ⟨w.heap.size + 1 + 1, 14, none⟩ (.int .i64 (x 14))).setCell ⟨w.heap.size + 1 + 1, 15, none⟩ (.int .i64 (x 15))).setCell ⟨w.heap.size + 1 + 1, 16, none⟩ (.int .i64 (x 16))).setCell ⟨w.heap.size + 1 + 1, 17, none⟩ (.int .i64 (x 17))) := ⟨_, rfl⟩
  clear yO0 zO0 yO1 zO1 yO2 zO2 yO3 zO3 yO4 zO4 yO5 zO5 yO6 zO6 yO7 zO7 yO8 zO8 yO9 zO9 yO10 zO10 yO11 zO11 yO12 zO12 yO13 zO13 yO14 zO14 yO15 zO15 yO16 zO16 yO17 zO17 yO18 zO18 yO19 zO19 yO20 zO20 yO21 zO21 yO22 zO22 yO23 zO23 yO24 zO24 hlO yA0 yA1 yA2 yA3 yA4 yA5 yA6 yA7 yA8 yA9 yA10 yA11 yA12 yA13 yA14 yA15 yA16 yA17 yA18 yA19 yA20 yA21 yA22 yA23 yA24 hlA
  have nv2B : Hid (Below w.heap.size w v2) := by rw [ev2]; exact ((((((((B6.out.setCell (by show w.heap.size ≤ w.heap.size + 1 + 1; omega) _).setCell (by show w.heap.size ≤ w.heap.size + 1 + 1; omega) _).setCell (by show w.heap.size ≤ w.heap.size + 1 + 1; omega) _).setCell (by show w.heap.size ≤ w.heap.size + 1 + 1; omega) _).setCell (by show w.heap.size ≤ w.heap.size + 1 + 1; omega) _).setCell (by show w.heap.size ≤ w.heap.size + 1 + 1; omega) _).setCell (by show w.heap.size ≤ w.heap.size + 1 + 1; omega) _).setCell (by show w.heap.size ≤ w.heap.size + 1 + 1; omega) _)
  have nv2A : Hid (Bk v2 w.heap.size [.int .i64 k, .int .i64 (x 1), .int .i64 (x 2), .int .i64 (x 3), .int .i64 (x 4), .int .i64 (x 5), .int .i64 (x 6), .int .i64 (x 7), .int .i64 (x 8), .int .i64 (x 9), .int .i64 (x 10), .int .i64 (x 11), .int .i64 (x 12), .int .i64 (x 13), .int .i64 (x 14), .int .i64 (x 15), .int .i64 (x 16), .int .i64 (x 17), .int .i64 (x 18), .int .i64 (x 19), .int .i64 (x 20), .int .i64 (x 21), .int .i64 (x 22), .int .i64 (x 23), .int .i64 (x 24)]) := by rw [ev2]; exact ((((((((((((((((A6.out).far (by omega))).far (by omega))).far (by omega))).far (by omega))).far (by omega))).far (by omega))).far (by omega))).far (by omega))
  have nv2R : Hid (Bk v2 (w.heap.size + 1) [.int .i64 0, .int .i64 0, .int .i64 0, .int .i64 0, .int .i64 0, .int .i64 0, .int .i64 0, .int .i64 0, .int .i64 0, .int .i64 0, .int .i64 0, .int .i64 0, .int .i64 0, .int .i64 0, .int .i64 0, .int .i64 0, .int .i64 0, .int .i64 0, .int .i64 0, .int .i64 0, .int .i64 0, .int .i64 0, .int .i64 0, .int .i64 0, .int .i64 0]) := by rw [ev2]; exact ((((((((((((((((R6.out).far (by omega))).far (by omega))).far (by omega))).far (by omega))).far (by omega))).far (by omega))).far (by omega))).far (by omega))
  have nv2O : Hid (Bk v2 (w.heap.size + 1 + 1) [.int .i64 k, .int .i64 (x 1), .int .i64 (x 2), .int .i64 (x 3), .int .i64 (x 4), .int .i64 (x 5), .int .i64 (x 6), .int .i64 (x 7), .int .i64 (x 8), .int .i64 (x 9), .int .i64 (x 10), .int .i64 (x 11), .int .i64 (x 12), .int .i64 (x 13), .int .i64 (x 14), .int .i64 (x 15), .int .i64 (x 16), .int .i64 (x 17), .int .i64 0, .int .i64 0, .int .i64 0, .int .i64 0, .int .i64 0, .int .i64 0, .int .i64 0]) := by rw [ev2]; exact ((((((((((((((((O6.out).set (j := 10) (by simp))).set (j := 11) (by simp))).set (j := 12) (by simp))).set (j := 13) (by simp))).set (j := 14) (by simp))).set (j := 15) (by simp))).set (j := 16) (by simp))).set (j := 17) (by simp))
  rw [← ev2]
  clear ev2 B6 A6 R6 O6
  refine (toGhost _ _ _ _ _ _ _ _).mono ?_
  rintro e w3 ⟨rfl, hb3⟩
  have B7 := hid (bthen nv2B.out hb3)
  have A7 := hid (nv2A.out.below hb3)
  have R7 := hid (nv2R.out.below hb3)
  have O7 := hid (nv2O.out.below hb3)
  clear nv2B nv2A nv2R nv2O
  clear hb3
  obtain ⟨yO0, yO1, yO2, yO3, yO4, yO5, yO6, yO7, yO8, yO9, yO10, yO11, yO12, yO13, yO14, yO15, yO16, yO17, yO18, yO19, yO20, yO21, yO22, yO23, yO24⟩ := O7.out.a25
  obtain ⟨zO0, zO1, zO2, zO3, zO4, zO5, zO6, zO7, zO8, zO9, zO10, zO11, zO12, zO13, zO14, zO15, zO16, zO17, zO18, zO19, zO20, zO21, zO22, zO23, zO24⟩ := O7.out.f25
  have hlO : (w.heap.size + 1 + 1) < w3.heap.size := O7.out.1
  go_wp2_with fail
  rw [store42_bk O7.out 18 (by simp) _ rfl (by kernel_rfl)]
  obtain ⟨v3, ev3⟩ : ∃ v, v = putL (w.heap.size + 1 + 1) (#[.int .i64 (x 18), .int .i64 (x 19), .int .i64 (x 20), .int .i64 (x 21), .int .i64 (x 22), .int .i64 (x 23), .int .i64 (x 24)] : Array Value).toList 18 w3 := ⟨_, rfl⟩
  clear yO0 zO0 yO1 zO1 yO2 zO2 yO3 zO3 yO4 zO4 yO5 zO5 yO6 zO6 yO7 zO7 yO8 zO8 yO9 zO9 yO10 zO10 yO11 zO11 yO12 zO12 yO13 zO13 yO14 zO14 yO15 zO15 yO16 zO16 yO17 zO17 yO18 zO18 yO19 zO19 yO20 zO20 yO21 zO21 yO22 zO22 yO23 zO23 yO24 zO24 hlO
  have nv3B : Hid (Below w.heap.size w v3) := by rw [ev3]; exact (((((((B7.out.setCell (by show w.heap.size ≤ w.heap.size + 1 + 1; omega) _).setCell (by show w.heap.size ≤ w.heap.size + 1 + 1; omega) _).setCell (by show w.heap.size ≤ w.heap.size + 1 + 1; omega) _).setCell (by show w.heap.size ≤ w.heap.size + 1 + 1; omega) _).setCell (by show w.heap.size ≤ w.heap.size + 1 + 1; omega) _).setCell (by show w.heap.size ≤ w.heap.size + 1 + 1; omega) _).setCell (by show w.heap.size ≤ w.heap.size + 1 + 1; omega) _)
  have nv3A : Hid (Bk v3 w.heap.size [.int .i64 k, .int .i64 (x 1), .int .i64 (x 2), .int .i64 (x 3), .int .i64 (x 4), .int .i64 (x 5), .int .i64 (x 6), .int .i64 (x 7), .int .i64 (x 8), .int .i64 (x 9), .int .i64 (x 10), .int .i64 (x 11), .int .i64 (x 12), .int .i64 (x 13), .int .i64 (x 14), .int .i64 (x 15), .int .i64 (x 16), .int .i64 (x 17), .int .i64 (x 18), .int .i64 (x 19), .int .i64 (x 20), .int .i64 (x 21), .int .i64 (x 22), .int .i64 (x 23), .int .i64 (x 24)]) := by rw [ev3]; exact ((((((((((((((A7.out).far (by omega))).far (by omega))).far (by omega))).far (by omega))).far (by omega))).far (by omega))).far (by omega))
  have nv3R : Hid (Bk v3 (w.heap.size + 1) [.int .i64 0, .int .i64 0, .int .i64 0, .int .i64 0, .int .i64 0, .int .i64 0, .int .i64 0, .int .i64 0, .int .i64 0, .int .i64 0, .int .i64 0, .int .i64 0, .int .i64 0, .int .i64 0, .int .i64 0, .int .i64 0, .int .i64 0, .int .i64 0, .int .i64 0, .int .i64 0, .int .i64 0, .int .i64 0, .int .i64 0, .int .i64 0, .int .i64 0]) := by rw [ev3]; exact ((((((((((((((R7.out).far (by omega))).far (by omega))).far (by omega))).far (by omega))).far (by omega))).far (by omega))).far (by omega))
  have nv3O : Hid (Bk v3 (w.heap.size + 1 + 1) [.int .i64 k, .int .i64 (x 1), .int .i64 (x 2), .int .i64 (x 3), .int .i64 (x 4), .int .i64 (x 5), .int .i64 (x 6), .int .i64 (x 7), .int .i64 (x 8), .int .i64 (x 9), .int .i64 (x 10), .int .i64 (x 11), .int .i64 (x 12), .int .i64 (x 13), .int .i64 (x 14), .int .i64 (x 15), .int .i64 (x 16), .int .i64 (x 17), .int .i64 (x 18), .int .i64 (x 19), .int .i64 (x 20), .int .i64 (x 21), .int .i64 (x 22), .int .i64 (x 23), .int .i64 (x 24)]) := by rw [ev3]; exact ((((((((((((((O7.out).set (j := 18) (by simp))).set (j := 19) (by simp))).set (j := 20) (by simp))).set (j := 21) (by simp))).set (j := 22) (by simp))).set (j := 23) (by simp))).set (j := 24) (by simp))
  rw [← ev3]
  clear ev3 B7 A7 R7 O7
  go_wp2_with fail
  rw [load44_bk nv3O.out rfl]
  go_wp2
  rw [store44_bk nv3R.out rfl _ rfl (by kernel_rfl)]
  obtain ⟨w5, e5⟩ : ∃ w5, w5 = putL (w.heap.size + 1) (#[.int .i64 k, .int .i64 (x 1), .int .i64 (x 2), .int .i64 (x 3), .int .i64 (x 4), .int .i64 (x 5), .int .i64 (x 6), .int .i64 (x 7), .int .i64 (x 8), .int .i64 (x 9), .int .i64 (x 10), .int .i64 (x 11), .int .i64 (x 12), .int .i64 (x 13), .int .i64 (x 14), .int .i64 (x 15), .int .i64 (x 16), .int .i64 (x 17), .int .i64 (x 18), .int .i64 (x 19), .int .i64 (x 20), .int .i64 (x 21), .int .i64 (x 22), .int .i64 (x 23), .int .i64 (x 24)] : Array Value).toList 0 v3 := ⟨_, rfl⟩
  have hR5 : Hid (Bk w5 (w.heap.size + 1) [.int .i64 k, .int .i64 (x 1), .int .i64 (x 2), .int .i64 (x 3), .int .i64 (x 4), .int .i64 (x 5), .int .i64 (x 6), .int .i64 (x 7), .int .i64 (x 8), .int .i64 (x 9), .int .i64 (x 10), .int .i64 (x 11), .int .i64 (x 12), .int .i64 (x 13), .int .i64 (x 14), .int .i64 (x 15), .int .i64 (x 16), .int .i64 (x 17), .int .i64 (x 18), .int .i64 (x 19), .int .i64 (x 20), .int .i64 (x 21), .int .i64 (x 22), .int .i64 (x 23), .int .i64 (x 24)]) := by rw [e5]; exact bk_put nv3R.out rfl
  have hB5 : Hid (Below w.heap.size w w5) := by rw [e5]; exact below_put (by omega) _ _ nv3B.out
  rw [← e5]
  clear e5 nv3A nv3O nv3R nv3B
  go_wp2
  have hr := fun tmps hp => results_mid (P := Tryz.prog) (fn := Tryz.f8) Tryz.results8 tmps w5 (w.heap.size + 1) [.int .i64 k, .int .i64 (x 1), .int .i64 (x 2), .int .i64 (x 3), .int .i64 (x 4), .int .i64 (x 5), .int .i64 (x 6), .int .i64 (x 7), .int .i64 (x 8), .int .i64 (x 9), .int .i64 (x 10), .int .i64 (x 11), .int .i64 (x 12), .int .i64 (x 13), .int .i64 (x 14), .int .i64 (x 15), .int .i64 (x 16), .int .i64 (x 17), .int .i64 (x 18), .int .i64 (x 19), .int .i64 (x 20), .int .i64 (x 21), .int .i64 (x 22), .int .i64 (x 23), .int .i64 (x 24)] _ hp (Bk.range hR5.out) Tryz.underlying53 rfl (by kernel_rfl)
  exact bodyPost_ret (v := .agg #[.int .i64 k, .int .i64 (x 1), .int .i64 (x 2), .int .i64 (x 3), .int .i64 (x 4), .int .i64 (x 5), .int .i64 (x 6), .int .i64 (x 7), .int .i64 (x 8), .int .i64 (x 9), .int .i64 (x 10), .int .i64 (x 11), .int .i64 (x 12), .int .i64 (x 13), .int .i64 (x 14), .int .i64 (x 15), .int .i64 (x 16), .int .i64 (x 17), .int .i64 (x 18), .int .i64 (x 19), .int .i64 (x 20), .int .i64 (x 21), .int .i64 (x 22), .int .i64 (x 23), .int .i64 (x 24)]) (hr _ rfl) rfl ⟨rfl, hB5.out⟩
end
def load33 (v : Value) : Sem Value := Instr.loadAt 36 v
theorem load33_eq (v : Value) : Instr.loadAt 36 v = load33 v := rfl
theorem run_load33 (b : Nat) (w : World) (h : (w.cell? ⟨b, 0, none⟩).isSome = true ∧ (w.cell? ⟨b, 1, none⟩).isSome = true ∧ (w.cell? ⟨b, 2, none⟩).isSome = true ∧ (w.cell? ⟨b, 3, none⟩).isSome = true ∧ (w.cell? ⟨b, 4, none⟩).isSome = true ∧ (w.cell? ⟨b, 5, none⟩).isSome = true ∧ (w.cell? ⟨b, 6, none⟩).isSome = true ∧ (w.cell? ⟨b, 7, none⟩).isSome = true ∧ (w.cell? ⟨b, 8, none⟩).isSome = true ∧ (w.cell? ⟨b, 9, none⟩).isSome = true ∧ (w.cell? ⟨b, 10, none⟩).isSome = true ∧ (w.cell? ⟨b, 11, none⟩).isSome = true ∧ (w.cell? ⟨b, 12, none⟩).isSome = true ∧ (w.cell? ⟨b, 13, none⟩).isSome = true ∧ (w.cell? ⟨b, 14, none⟩).isSome = true ∧ (w.cell? ⟨b, 15, none⟩).isSome = true ∧ (w.cell? ⟨b, 16, none⟩).isSome = true ∧ (w.cell? ⟨b, 17, none⟩).isSome = true ∧ (w.cell? ⟨b, 18, none⟩).isSome = true ∧ (w.cell? ⟨b, 19, none⟩).isSome = true ∧ (w.cell? ⟨b, 20, none⟩).isSome = true ∧ (w.cell? ⟨b, 21, none⟩).isSome = true ∧ (w.cell? ⟨b, 22, none⟩).isSome = true ∧ (w.cell? ⟨b, 23, none⟩).isSome = true ∧ (w.cell? ⟨b, 24, none⟩).isSome = true) :
    (load33 (.pointer (some ⟨b, 0, none⟩))).run Tryz.prog w = .ok (.agg #[cellD w b 0, cellD w b 1, cellD w b 2, cellD w b 3, cellD w b 4, cellD w b 5, cellD w b 6, cellD w b 7, cellD w b 8, cellD w b 9, cellD w b 10, cellD w b 11, cellD w b 12, cellD w b 13, cellD w b 14, cellD w b 15, cellD w b 16, cellD w b 17, cellD w b 18, cellD w b 19, cellD w b 20, cellD w b 21, cellD w b 22, cellD w b 23, cellD w b 24]) w := by
  refine run_loadAt_mid w b 0 36 [cellD w b 0, cellD w b 1, cellD w b 2, cellD w b 3, cellD w b 4, cellD w b 5, cellD w b 6, cellD w b 7, cellD w b 8, cellD w b 9, cellD w b 10, cellD w b 11, cellD w b 12, cellD w b 13, cellD w b 14, cellD w b 15, cellD w b 16, cellD w b 17, cellD w b 18, cellD w b 19, cellD w b 20, cellD w b 21, cellD w b 22, cellD w b 23, cellD w b 24] _ ?_ Tryz.underlying36 rfl (by kernel_rfl)
  obtain ⟨h0, h1, h2, h3, h4, h5, h6, h7, h8, h9, h10, h11, h12, h13, h14, h15, h16, h17, h18, h19, h20, h21, h22, h23, h24⟩ := h
  intro j v hv
  rw [Nat.zero_add]
  match j, hv with
  | 0, hv => cases hv; exact some_getD h0
  | 1, hv => cases hv; exact some_getD h1
  | 2, hv => cases hv; exact some_getD h2
  | 3, hv => cases hv; exact some_getD h3
  | 4, hv => cases hv; exact some_getD h4
  | 5, hv => cases hv; exact some_getD h5
  | 6, hv => cases hv; exact some_getD h6
  | 7, hv => cases hv; exact some_getD h7
  | 8, hv => cases hv; exact some_getD h8
  | 9, hv => cases hv; exact some_getD h9
  | 10, hv => cases hv; exact some_getD h10
  | 11, hv => cases hv; exact some_getD h11
  | 12, hv => cases hv; exact some_getD h12
  | 13, hv => cases hv; exact some_getD h13
  | 14, hv => cases hv; exact some_getD h14
  | 15, hv => cases hv; exact some_getD h15
  | 16, hv => cases hv; exact some_getD h16
  | 17, hv => cases hv; exact some_getD h17
  | 18, hv => cases hv; exact some_getD h18
  | 19, hv => cases hv; exact some_getD h19
  | 20, hv => cases hv; exact some_getD h20
  | 21, hv => cases hv; exact some_getD h21
  | 22, hv => cases hv; exact some_getD h22
  | 23, hv => cases hv; exact some_getD h23
  | 24, hv => cases hv; exact some_getD h24
  | j + 25, hv => simp at hv
attribute [local go_sem ↓] load33_eq
attribute [local go_sem] run_load33 cellD
end Go.Proofs.YtgjapdjidighlabGreat
