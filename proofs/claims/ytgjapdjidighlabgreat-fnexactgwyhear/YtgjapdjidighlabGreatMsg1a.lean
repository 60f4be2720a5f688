/- MsgOk of the model, in parts; conditions: none. -/
import Derived.Test.YtgjapdjidighlabGreatMsg1
namespace Go.Proofs.YtgjapdjidighlabGreat
open Go.RowKit Go.Deep
set_option linter.unusedVariables false
attribute [local go_sem ↓] load44_eq
attribute [local go_sem] run_load44 cellD

set_option maxRecDepth 100000 in
set_option maxHeartbeats 4000000 in
theorem pre0 (c d sv k : Int) (x : Nat → Int) (hok : okB c d = false) (w : World) :
    Calls Tryz.prog 15 #[.agg #[.int .i64 c, .int .i64 d], .int .i64 sv, .agg #[.int .i64 k, .int .i64 (x 1), .int .i64 (x 2), .int .i64 (x 3), .int .i64 (x 4), .int .i64 (x 5), .int .i64 (x 6), .int .i64 (x 7), .int .i64 (x 8), .int .i64 (x 9), .int .i64 (x 10), .int .i64 (x 11), .int .i64 (x 12), .int .i64 (x 13), .int .i64 (x 14), .int .i64 (x 15), .int .i64 (x 16), .int .i64 (x 17), .int .i64 (x 18), .int .i64 (x 19), .int .i64 (x 20), .int .i64 (x 21), .int .i64 (x 22), .int .i64 (x 23), .int .i64 (x 24)]] w fun e w' => e = .returned (.bool (msgB c d sv k x)) ∧ Below w.heap.size w w' := by
  go_enter Tryz.func15, Tryz.ntmps15
  go_wp2_with fail
  obtain ⟨w0, e0⟩ : ∃ w0, w0 = (w.alloc (.cells #[.int .i64 c, .int .i64 d] 43)).alloc (.cells #[.int .i64 k, .int .i64 (x 1), .int .i64 (x 2), .int .i64 (x 3), .int .i64 (x 4), .int .i64 (x 5), .int .i64 (x 6), .int .i64 (x 7), .int .i64 (x 8), .int .i64 (x 9), .int .i64 (x 10), .int .i64 (x 11), .int .i64 (x 12), .int .i64 (x 13), .int .i64 (x 14), .int .i64 (x 15), .int .i64 (x 16), .int .i64 (x 17), .int .i64 (x 18), .int .i64 (x 19), .int .i64 (x 20), .int .i64 (x 21), .int .i64 (x 22), .int .i64 (x 23), .int .i64 (x 24)] 53) := ⟨_, rfl⟩
  have B1 : Hid (Below w.heap.size w w0) := by rw [e0]; exact ((Below.refl _ _).alloc (by simp) _).alloc (by simp) _
  have M2 : Hid (Bk w0 w.heap.size [.int .i64 c, .int .i64 d]) := by rw [e0]; exact (bk_new w 43 [.int .i64 c, .int .i64 d]).below ((Below.refl _ _).alloc (Nat.le_refl _) _)
  have G3 : Hid (Bk w0 (w.heap.size + 1) [.int .i64 k, .int .i64 (x 1), .int .i64 (x 2), .int .i64 (x 3), .int .i64 (x 4), .int .i64 (x 5), .int .i64 (x 6), .int .i64 (x 7), .int .i64 (x 8), .int .i64 (x 9), .int .i64 (x 10), .int .i64 (x 11), .int .i64 (x 12), .int .i64 (x 13), .int .i64 (x 14), .int .i64 (x 15), .int .i64 (x 16), .int .i64 (x 17), .int .i64 (x 18), .int .i64 (x 19), .int .i64 (x 20), .int .i64 (x 21), .int .i64 (x 22), .int .i64 (x 23), .int .i64 (x 24)]) := by rw [e0]; have := bk_new (w.alloc (.cells #[.int .i64 c, .int .i64 d] 43)) 53 [.int .i64 k, .int .i64 (x 1), .int .i64 (x 2), .int .i64 (x 3), .int .i64 (x 4), .int .i64 (x 5), .int .i64 (x 6), .int .i64 (x 7), .int .i64 (x 8), .int .i64 (x 9), .int .i64 (x 10), .int .i64 (x 11), .int .i64 (x 12), .int .i64 (x 13), .int .i64 (x 14), .int .i64 (x 15), .int .i64 (x 16), .int .i64 (x 17), .int .i64 (x 18), .int .i64 (x 19), .int .i64 (x 20), .int .i64 (x 21), .int .i64 (x 22), .int .i64 (x 23), .int .i64 (x 24)]; rwa [show (w.alloc (.cells #[.int .i64 c, .int .i64 d] 43)).heap.size = w.heap.size + 1 by simp] at this
  rw [← e0]
  clear e0
  refine (ok_spec _ _ _).mono ?_
  rintro e w1 ⟨rfl, hb1⟩
  have B4 : Hid (Below w.heap.size w w1) := bthen B1.out hb1
  have M4 : Hid (Bk w1 w.heap.size [.int .i64 c, .int .i64 d]) := M2.out.below hb1
  have G4 : Hid (Bk w1 (w.heap.size + 1) [.int .i64 k, .int .i64 (x 1), .int .i64 (x 2), .int .i64 (x 3), .int .i64 (x 4), .int .i64 (x 5), .int .i64 (x 6), .int .i64 (x 7), .int .i64 (x 8), .int .i64 (x 9), .int .i64 (x 10), .int .i64 (x 11), .int .i64 (x 12), .int .i64 (x 13), .int .i64 (x 14), .int .i64 (x 15), .int .i64 (x 16), .int .i64 (x 17), .int .i64 (x 18), .int .i64 (x 19), .int .i64 (x 20), .int .i64 (x 21), .int .i64 (x 22), .int .i64 (x 23), .int .i64 (x 24)]) := G3.out.below hb1
  clear B1 M2 G3
  clear hb1
  have yM0 : w1.cell? ⟨w.heap.size, 0, none⟩ = some (.int .i64 c) := (M4.out.2 0 (by simp)).1
  have yM1 : w1.cell? ⟨w.heap.size, 1, none⟩ = some (.int .i64 d) := (M4.out.2 1 (by simp)).1
  have hlM : w.heap.size < w1.heap.size := M4.out.1
  have yG0 : w1.cell? ⟨(w.heap.size + 1), 0, none⟩ = some (.int .i64 k) := (G4.out.2 0 (by simp)).1
  have yG1 : w1.cell? ⟨(w.heap.size + 1), 1, none⟩ = some (.int .i64 (x 1)) := (G4.out.2 1 (by simp)).1
  have yG2 : w1.cell? ⟨(w.heap.size + 1), 2, none⟩ = some (.int .i64 (x 2)) := (G4.out.2 2 (by simp)).1
  have yG3 : w1.cell? ⟨(w.heap.size + 1), 3, none⟩ = some (.int .i64 (x 3)) := (G4.out.2 3 (by simp)).1
  have yG4 : w1.cell? ⟨(w.heap.size + 1), 4, none⟩ = some (.int .i64 (x 4)) := (G4.out.2 4 (by simp)).1
  have yG5 : w1.cell? ⟨(w.heap.size + 1), 5, none⟩ = some (.int .i64 (x 5)) := (G4.out.2 5 (by simp)).1
  have yG6 : w1.cell? ⟨(w.heap.size + 1), 6, none⟩ = some (.int .i64 (x 6)) := (G4.out.2 6 (by simp)).1
  have yG7 : w1.cell? ⟨(w.heap.size + 1), 7, none⟩ = some (.int .i64 (x 7)) := (G4.out.2 7 (by simp)).1
  have yG8 : w1.cell? ⟨(w.heap.size + 1), 8, none⟩ = some (.int .i64 (x 8)) := (G4.out.2 8 (by simp)).1
  have yG9 : w1.cell? ⟨(w.heap.size + 1), 9, none⟩ = some (.int .i64 (x 9)) := (G4.out.2 9 (by simp)).1
  have yG10 : w1.cell? ⟨(w.heap.size + 1), 10, none⟩ = some (.int .i64 (x 10)) := (G4.out.2 10 (by simp)).1
  have yG11 : w1.cell? ⟨(w.heap.size + 1), 11, none⟩ = some (.int .i64 (x 11)) := (G4.out.2 11 (by simp)).1
  have yG12 : w1.cell? ⟨(w.heap.size + 1), 12, none⟩ = some (.int .i64 (x 12)) := (G4.out.2 12 (by simp)).1
  have yG13 : w1.cell? ⟨(w.heap.size + 1), 13, none⟩ = some (.int .i64 (x 13)) := (G4.out.2 13 (by simp)).1
  have yG14 : w1.cell? ⟨(w.heap.size + 1), 14, none⟩ = some (.int .i64 (x 14)) := (G4.out.2 14 (by simp)).1
  have yG15 : w1.cell? ⟨(w.heap.size + 1), 15, none⟩ = some (.int .i64 (x 15)) := (G4.out.2 15 (by simp)).1
  have yG16 : w1.cell? ⟨(w.heap.size + 1), 16, none⟩ = some (.int .i64 (x 16)) := (G4.out.2 16 (by simp)).1
  have yG17 : w1.cell? ⟨(w.heap.size + 1), 17, none⟩ = some (.int .i64 (x 17)) := (G4.out.2 17 (by simp)).1
  have yG18 : w1.cell? ⟨(w.heap.size + 1), 18, none⟩ = some (.int .i64 (x 18)) := (G4.out.2 18 (by simp)).1
  have yG19 : w1.cell? ⟨(w.heap.size + 1), 19, none⟩ = some (.int .i64 (x 19)) := (G4.out.2 19 (by simp)).1
  have yG20 : w1.cell? ⟨(w.heap.size + 1), 20, none⟩ = some (.int .i64 (x 20)) := (G4.out.2 20 (by simp)).1
  have yG21 : w1.cell? ⟨(w.heap.size + 1), 21, none⟩ = some (.int .i64 (x 21)) := (G4.out.2 21 (by simp)).1
  have yG22 : w1.cell? ⟨(w.heap.size + 1), 22, none⟩ = some (.int .i64 (x 22)) := (G4.out.2 22 (by simp)).1
  have yG23 : w1.cell? ⟨(w.heap.size + 1), 23, none⟩ = some (.int .i64 (x 23)) := (G4.out.2 23 (by simp)).1
  have yG24 : w1.cell? ⟨(w.heap.size + 1), 24, none⟩ = some (.int .i64 (x 24)) := (G4.out.2 24 (by simp)).1
  have hlG : (w.heap.size + 1) < w1.heap.size := G4.out.1
  go_wp2_with (go_at_call 32; refine (in_spec _ _ _ _).mono ?_; rintro e w' ⟨rfl, rfl⟩)
  go_ret
  exact ⟨by simp [msgB, toB, kindM, hok], B4.out⟩

set_option maxRecDepth 100000 in
set_option maxHeartbeats 4000000 in
theorem pre1 (c d sv k : Int) (x : Nat → Int) (hok : okB c d = true) (hsv : inB sv 1 3 = false) (w : World) :
    Calls Tryz.prog 15 #[.agg #[.int .i64 c, .int .i64 d], .int .i64 sv, .agg #[.int .i64 k, .int .i64 (x 1), .int .i64 (x 2), .int .i64 (x 3), .int .i64 (x 4), .int .i64 (x 5), .int .i64 (x 6), .int .i64 (x 7), .int .i64 (x 8), .int .i64 (x 9), .int .i64 (x 10), .int .i64 (x 11), .int .i64 (x 12), .int .i64 (x 13), .int .i64 (x 14), .int .i64 (x 15), .int .i64 (x 16), .int .i64 (x 17), .int .i64 (x 18), .int .i64 (x 19), .int .i64 (x 20), .int .i64 (x 21), .int .i64 (x 22), .int .i64 (x 23), .int .i64 (x 24)]] w fun e w' => e = .returned (.bool (msgB c d sv k x)) ∧ Below w.heap.size w w' := by
  obtain ⟨a1, a2, a3, a4⟩ := okB_bounds hok
  go_enter Tryz.func15, Tryz.ntmps15
  go_wp2_with fail
  obtain ⟨w0, e0⟩ : ∃ w0, w0 = (w.alloc (.cells #[.int .i64 c, .int .i64 d] 43)).alloc (.cells #[.int .i64 k, .int .i64 (x 1), .int .i64 (x 2), .int .i64 (x 3), .int .i64 (x 4), .int .i64 (x 5), .int .i64 (x 6), .int .i64 (x 7), .int .i64 (x 8), .int .i64 (x 9), .int .i64 (x 10), .int .i64 (x 11), .int .i64 (x 12), .int .i64 (x 13), .int .i64 (x 14), .int .i64 (x 15), .int .i64 (x 16), .int .i64 (x 17), .int .i64 (x 18), .int .i64 (x 19), .int .i64 (x 20), .int .i64 (x 21), .int .i64 (x 22), .int .i64 (x 23), .int .i64 (x 24)] 53) := ⟨_, rfl⟩
  have B1 : Hid (Below w.heap.size w w0) := by rw [e0]; exact ((Below.refl _ _).alloc (by simp) _).alloc (by simp) _
  have M2 : Hid (Bk w0 w.heap.size [.int .i64 c, .int .i64 d]) := by rw [e0]; exact (bk_new w 43 [.int .i64 c, .int .i64 d]).below ((Below.refl _ _).alloc (Nat.le_refl _) _)
  have G3 : Hid (Bk w0 (w.heap.size + 1) [.int .i64 k, .int .i64 (x 1), .int .i64 (x 2), .int .i64 (x 3), .int .i64 (x 4), .int .i64 (x 5), .int .i64 (x 6), .int .i64 (x 7), .int .i64 (x 8), .int .i64 (x 9), .int .i64 (x 10), .int .i64 (x 11), .int .i64 (x 12), .int .i64 (x 13), .int .i64 (x 14), .int .i64 (x 15), .int .i64 (x 16), .int .i64 (x 17), .int .i64 (x 18), .int .i64 (x 19), .int .i64 (x 20), .int .i64 (x 21), .int .i64 (x 22), .int .i64 (x 23), .int .i64 (x 24)]) := by rw [e0]; have := bk_new (w.alloc (.cells #[.int .i64 c, .int .i64 d] 43)) 53 [.int .i64 k, .int .i64 (x 1), .int .i64 (x 2), .int .i64 (x 3), .int .i64 (x 4), .int .i64 (x 5), .int .i64 (x 6), .int .i64 (x 7), .int .i64 (x 8), .int .i64 (x 9), .int .i64 (x 10), .int .i64 (x 11), .int .i64 (x 12), .int .i64 (x 13), .int .i64 (x 14), .int .i64 (x 15), .int .i64 (x 16), .int .i64 (x 17), .int .i64 (x 18), .int .i64 (x 19), .int .i64 (x 20), .int .i64 (x 21), .int .i64 (x 22), .int .i64 (x 23), .int .i64 (x 24)]; rwa [show (w.alloc (.cells #[.int .i64 c, .int .i64 d] 43)).heap.size = w.heap.size + 1 by simp] at this
  rw [← e0]
  clear e0
  refine (ok_spec _ _ _).mono ?_
  rintro e w1 ⟨rfl, hb1⟩
  have B4 : Hid (Below w.heap.size w w1) := bthen B1.out hb1
  have M4 : Hid (Bk w1 w.heap.size [.int .i64 c, .int .i64 d]) := M2.out.below hb1
  have G4 : Hid (Bk w1 (w.heap.size + 1) [.int .i64 k, .int .i64 (x 1), .int .i64 (x 2), .int .i64 (x 3), .int .i64 (x 4), .int .i64 (x 5), .int .i64 (x 6), .int .i64 (x 7), .int .i64 (x 8), .int .i64 (x 9), .int .i64 (x 10), .int .i64 (x 11), .int .i64 (x 12), .int .i64 (x 13), .int .i64 (x 14), .int .i64 (x 15), .int .i64 (x 16), .int .i64 (x 17), .int .i64 (x 18), .int .i64 (x 19), .int .i64 (x 20), .int .i64 (x 21), .int .i64 (x 22), .int .i64 (x 23), .int .i64 (x 24)]) := G3.out.below hb1
  clear B1 M2 G3
  clear hb1
  have yM0 : w1.cell? ⟨w.heap.size, 0, none⟩ = some (.int .i64 c) := (M4.out.2 0 (by simp)).1
  have yM1 : w1.cell? ⟨w.heap.size, 1, none⟩ = some (.int .i64 d) := (M4.out.2 1 (by simp)).1
  have hlM : w.heap.size < w1.heap.size := M4.out.1
  have yG0 : w1.cell? ⟨(w.heap.size + 1), 0, none⟩ = some (.int .i64 k) := (G4.out.2 0 (by simp)).1
  have yG1 : w1.cell? ⟨(w.heap.size + 1), 1, none⟩ = some (.int .i64 (x 1)) := (G4.out.2 1 (by simp)).1
  have yG2 : w1.cell? ⟨(w.heap.size + 1), 2, none⟩ = some (.int .i64 (x 2)) := (G4.out.2 2 (by simp)).1
  have yG3 : w1.cell? ⟨(w.heap.size + 1), 3, none⟩ = some (.int .i64 (x 3)) := (G4.out.2 3 (by simp)).1
  have yG4 : w1.cell? ⟨(w.heap.size + 1), 4, none⟩ = some (.int .i64 (x 4)) := (G4.out.2 4 (by simp)).1
  have yG5 : w1.cell? ⟨(w.heap.size + 1), 5, none⟩ = some (.int .i64 (x 5)) := (G4.out.2 5 (by simp)).1
  have yG6 : w1.cell? ⟨(w.heap.size + 1), 6, none⟩ = some (.int .i64 (x 6)) := (G4.out.2 6 (by simp)).1
  have yG7 : w1.cell? ⟨(w.heap.size + 1), 7, none⟩ = some (.int .i64 (x 7)) := (G4.out.2 7 (by simp)).1
  have yG8 : w1.cell? ⟨(w.heap.size + 1), 8, none⟩ = some (.int .i64 (x 8)) := (G4.out.2 8 (by simp)).1
  have yG9 : w1.cell? ⟨(w.heap.size + 1), 9, none⟩ = some (.int .i64 (x 9)) := (G4.out.2 9 (by simp)).1
  have yG10 : w1.cell? ⟨(w.heap.size + 1), 10, none⟩ = some (.int .i64 (x 10)) := (G4.out.2 10 (by simp)).1
  have yG11 : w1.cell? ⟨(w.heap.size + 1), 11, none⟩ = some (.int .i64 (x 11)) := (G4.out.2 11 (by simp)).1
  have yG12 : w1.cell? ⟨(w.heap.size + 1), 12, none⟩ = some (.int .i64 (x 12)) := (G4.out.2 12 (by simp)).1
  have yG13 : w1.cell? ⟨(w.heap.size + 1), 13, none⟩ = some (.int .i64 (x 13)) := (G4.out.2 13 (by simp)).1
  have yG14 : w1.cell? ⟨(w.heap.size + 1), 14, none⟩ = some (.int .i64 (x 14)) := (G4.out.2 14 (by simp)).1
  have yG15 : w1.cell? ⟨(w.heap.size + 1), 15, none⟩ = some (.int .i64 (x 15)) := (G4.out.2 15 (by simp)).1
  have yG16 : w1.cell? ⟨(w.heap.size + 1), 16, none⟩ = some (.int .i64 (x 16)) := (G4.out.2 16 (by simp)).1
  have yG17 : w1.cell? ⟨(w.heap.size + 1), 17, none⟩ = some (.int .i64 (x 17)) := (G4.out.2 17 (by simp)).1
  have yG18 : w1.cell? ⟨(w.heap.size + 1), 18, none⟩ = some (.int .i64 (x 18)) := (G4.out.2 18 (by simp)).1
  have yG19 : w1.cell? ⟨(w.heap.size + 1), 19, none⟩ = some (.int .i64 (x 19)) := (G4.out.2 19 (by simp)).1
  have yG20 : w1.cell? ⟨(w.heap.size + 1), 20, none⟩ = some (.int .i64 (x 20)) := (G4.out.2 20 (by simp)).1
  have yG21 : w1.cell? ⟨(w.heap.size + 1), 21, none⟩ = some (.int .i64 (x 21)) := (G4.out.2 21 (by simp)).1
  have yG22 : w1.cell? ⟨(w.heap.size + 1), 22, none⟩ = some (.int .i64 (x 22)) := (G4.out.2 22 (by simp)).1
  have yG23 : w1.cell? ⟨(w.heap.size + 1), 23, none⟩ = some (.int .i64 (x 23)) := (G4.out.2 23 (by simp)).1
  have yG24 : w1.cell? ⟨(w.heap.size + 1), 24, none⟩ = some (.int .i64 (x 24)) := (G4.out.2 24 (by simp)).1
  have hlG : (w.heap.size + 1) < w1.heap.size := G4.out.1
  go_wp2_with (go_at_call 32; refine (in_spec _ _ _ _).mono ?_; rintro e w' ⟨rfl, rfl⟩)
  go_ret
  exact ⟨by simp [msgB, toB, kindM, hok, hsv], B4.out⟩

set_option maxRecDepth 100000 in
set_option maxHeartbeats 4000000 in
theorem pre2 (c d sv k : Int) (x : Nat → Int) (hok : okB c d = true) (hsv : inB sv 1 3 = true) (hce : inB (x 2) 0 (c - 1) = false) (w : World) :
    Calls Tryz.prog 15 #[.agg #[.int .i64 c, .int .i64 d], .int .i64 sv, .agg #[.int .i64 k, .int .i64 (x 1), .int .i64 (x 2), .int .i64 (x 3), .int .i64 (x 4), .int .i64 (x 5), .int .i64 (x 6), .int .i64 (x 7), .int .i64 (x 8), .int .i64 (x 9), .int .i64 (x 10), .int .i64 (x 11), .int .i64 (x 12), .int .i64 (x 13), .int .i64 (x 14), .int .i64 (x 15), .int .i64 (x 16), .int .i64 (x 17), .int .i64 (x 18), .int .i64 (x 19), .int .i64 (x 20), .int .i64 (x 21), .int .i64 (x 22), .int .i64 (x 23), .int .i64 (x 24)]] w fun e w' => e = .returned (.bool (msgB c d sv k x)) ∧ Below w.heap.size w w' := by
  obtain ⟨a1, a2, a3, a4⟩ := okB_bounds hok
  obtain ⟨a5, a6⟩ := inB_true.1 hsv
  go_enter Tryz.func15, Tryz.ntmps15
  go_wp2_with fail
  obtain ⟨w0, e0⟩ : ∃ w0, w0 = (w.alloc (.cells #[.int .i64 c, .int .i64 d] 43)).alloc (.cells #[.int .i64 k, .int .i64 (x 1), .int .i64 (x 2), .int .i64 (x 3), .int .i64 (x 4), .int .i64 (x 5), .int .i64 (x 6), .int .i64 (x 7), .int .i64 (x 8), .int .i64 (x 9), .int .i64 (x 10), .int .i64 (x 11), .int .i64 (x 12), .int .i64 (x 13), .int .i64 (x 14), .int .i64 (x 15), .int .i64 (x 16), .int .i64 (x 17), .int .i64 (x 18), .int .i64 (x 19), .int .i64 (x 20), .int .i64 (x 21), .int .i64 (x 22), .int .i64 (x 23), .int .i64 (x 24)] 53) := ⟨_, rfl⟩
  have B1 : Hid (Below w.heap.size w w0) := by rw [e0]; exact ((Below.refl _ _).alloc (by simp) _).alloc (by simp) _
  have M2 : Hid (Bk w0 w.heap.size [.int .i64 c, .int .i64 d]) := by rw [e0]; exact (bk_new w 43 [.int .i64 c, .int .i64 d]).below ((Below.refl _ _).alloc (Nat.le_refl _) _)
  have G3 : Hid (Bk w0 (w.heap.size + 1) [.int .i64 k, .int .i64 (x 1), .int .i64 (x 2), .int .i64 (x 3), .int .i64 (x 4), .int .i64 (x 5), .int .i64 (x 6), .int .i64 (x 7), .int .i64 (x 8), .int .i64 (x 9), .int .i64 (x 10), .int .i64 (x 11), .int .i64 (x 12), .int .i64 (x 13), .int .i64 (x 14), .int .i64 (x 15), .int .i64 (x 16), .int .i64 (x 17), .int .i64 (x 18), .int .i64 (x 19), .int .i64 (x 20), .int .i64 (x 21), .int .i64 (x 22), .int .i64 (x 23), .int .i64 (x 24)]) := by rw [e0]; have := bk_new (w.alloc (.cells #[.int .i64 c, .int .i64 d] 43)) 53 [.int .i64 k, .int .i64 (x 1), .int .i64 (x 2), .int .i64 (x 3), .int .i64 (x 4), .int .i64 (x 5), .int .i64 (x 6), .int .i64 (x 7), .int .i64 (x 8), .int .i64 (x 9), .int .i64 (x 10), .int .i64 (x 11), .int .i64 (x 12), .int .i64 (x 13), .int .i64 (x 14), .int .i64 (x 15), .int .i64 (x 16), .int .i64 (x 17), .int .i64 (x 18), .int .i64 (x 19), .int .i64 (x 20), .int .i64 (x 21), .int .i64 (x 22), .int .i64 (x 23), .int .i64 (x 24)]; rwa [show (w.alloc (.cells #[.int .i64 c, .int .i64 d] 43)).heap.size = w.heap.size + 1 by simp] at this
  rw [← e0]
  clear e0
  refine (ok_spec _ _ _).mono ?_
  rintro e w1 ⟨rfl, hb1⟩
  have B4 : Hid (Below w.heap.size w w1) := bthen B1.out hb1
  have M4 : Hid (Bk w1 w.heap.size [.int .i64 c, .int .i64 d]) := M2.out.below hb1
  have G4 : Hid (Bk w1 (w.heap.size + 1) [.int .i64 k, .int .i64 (x 1), .int .i64 (x 2), .int .i64 (x 3), .int .i64 (x 4), .int .i64 (x 5), .int .i64 (x 6), .int .i64 (x 7), .int .i64 (x 8), .int .i64 (x 9), .int .i64 (x 10), .int .i64 (x 11), .int .i64 (x 12), .int .i64 (x 13), .int .i64 (x 14), .int .i64 (x 15), .int .i64 (x 16), .int .i64 (x 17), .int .i64 (x 18), .int .i64 (x 19), .int .i64 (x 20), .int .i64 (x 21), .int .i64 (x 22), .int .i64 (x 23), .int .i64 (x 24)]) := G3.out.below hb1
  clear B1 M2 G3
  clear hb1
  have yM0 : w1.cell? ⟨w.heap.size, 0, none⟩ = some (.int .i64 c) := (M4.out.2 0 (by simp)).1
  have yM1 : w1.cell? ⟨w.heap.size, 1, none⟩ = some (.int .i64 d) := (M4.out.2 1 (by simp)).1
  have hlM : w.heap.size < w1.heap.size := M4.out.1
  have yG0 : w1.cell? ⟨(w.heap.size + 1), 0, none⟩ = some (.int .i64 k) := (G4.out.2 0 (by simp)).1
  have yG1 : w1.cell? ⟨(w.heap.size + 1), 1, none⟩ = some (.int .i64 (x 1)) := (G4.out.2 1 (by simp)).1
  have yG2 : w1.cell? ⟨(w.heap.size + 1), 2, none⟩ = some (.int .i64 (x 2)) := (G4.out.2 2 (by simp)).1
  have yG3 : w1.cell? ⟨(w.heap.size + 1), 3, none⟩ = some (.int .i64 (x 3)) := (G4.out.2 3 (by simp)).1
  have yG4 : w1.cell? ⟨(w.heap.size + 1), 4, none⟩ = some (.int .i64 (x 4)) := (G4.out.2 4 (by simp)).1
  have yG5 : w1.cell? ⟨(w.heap.size + 1), 5, none⟩ = some (.int .i64 (x 5)) := (G4.out.2 5 (by simp)).1
  have yG6 : w1.cell? ⟨(w.heap.size + 1), 6, none⟩ = some (.int .i64 (x 6)) := (G4.out.2 6 (by simp)).1
  have yG7 : w1.cell? ⟨(w.heap.size + 1), 7, none⟩ = some (.int .i64 (x 7)) := (G4.out.2 7 (by simp)).1
  have yG8 : w1.cell? ⟨(w.heap.size + 1), 8, none⟩ = some (.int .i64 (x 8)) := (G4.out.2 8 (by simp)).1
  have yG9 : w1.cell? ⟨(w.heap.size + 1), 9, none⟩ = some (.int .i64 (x 9)) := (G4.out.2 9 (by simp)).1
  have yG10 : w1.cell? ⟨(w.heap.size + 1), 10, none⟩ = some (.int .i64 (x 10)) := (G4.out.2 10 (by simp)).1
  have yG11 : w1.cell? ⟨(w.heap.size + 1), 11, none⟩ = some (.int .i64 (x 11)) := (G4.out.2 11 (by simp)).1
  have yG12 : w1.cell? ⟨(w.heap.size + 1), 12, none⟩ = some (.int .i64 (x 12)) := (G4.out.2 12 (by simp)).1
  have yG13 : w1.cell? ⟨(w.heap.size + 1), 13, none⟩ = some (.int .i64 (x 13)) := (G4.out.2 13 (by simp)).1
  have yG14 : w1.cell? ⟨(w.heap.size + 1), 14, none⟩ = some (.int .i64 (x 14)) := (G4.out.2 14 (by simp)).1
  have yG15 : w1.cell? ⟨(w.heap.size + 1), 15, none⟩ = some (.int .i64 (x 15)) := (G4.out.2 15 (by simp)).1
  have yG16 : w1.cell? ⟨(w.heap.size + 1), 16, none⟩ = some (.int .i64 (x 16)) := (G4.out.2 16 (by simp)).1
  have yG17 : w1.cell? ⟨(w.heap.size + 1), 17, none⟩ = some (.int .i64 (x 17)) := (G4.out.2 17 (by simp)).1
  have yG18 : w1.cell? ⟨(w.heap.size + 1), 18, none⟩ = some (.int .i64 (x 18)) := (G4.out.2 18 (by simp)).1
  have yG19 : w1.cell? ⟨(w.heap.size + 1), 19, none⟩ = some (.int .i64 (x 19)) := (G4.out.2 19 (by simp)).1
  have yG20 : w1.cell? ⟨(w.heap.size + 1), 20, none⟩ = some (.int .i64 (x 20)) := (G4.out.2 20 (by simp)).1
  have yG21 : w1.cell? ⟨(w.heap.size + 1), 21, none⟩ = some (.int .i64 (x 21)) := (G4.out.2 21 (by simp)).1
  have yG22 : w1.cell? ⟨(w.heap.size + 1), 22, none⟩ = some (.int .i64 (x 22)) := (G4.out.2 22 (by simp)).1
  have yG23 : w1.cell? ⟨(w.heap.size + 1), 23, none⟩ = some (.int .i64 (x 23)) := (G4.out.2 23 (by simp)).1
  have yG24 : w1.cell? ⟨(w.heap.size + 1), 24, none⟩ = some (.int .i64 (x 24)) := (G4.out.2 24 (by simp)).1
  have hlG : (w.heap.size + 1) < w1.heap.size := G4.out.1
  go_wp2_with (go_at_call 32; refine (in_spec _ _ _ _).mono ?_; rintro e w' ⟨rfl, rfl⟩)
  go_ret
  exact ⟨by simp [msgB, toB, kindM, hok, hsv, hce], B4.out⟩

set_option maxRecDepth 100000 in
set_option maxHeartbeats 4000000 in
theorem pre3 (c d sv k : Int) (x : Nat → Int) (hok : okB c d = true) (hsv : inB sv 1 3 = true) (hce : inB (x 2) 0 (c - 1) = true) (hsi : inB (x 3) 0 1 = false) (w : World) :
    Calls Tryz.prog 15 #[.agg #[.int .i64 c, .int .i64 d], .int .i64 sv, .agg #[.int .i64 k, .int .i64 (x 1), .int .i64 (x 2), .int .i64 (x 3), .int .i64 (x 4), .int .i64 (x 5), .int .i64 (x 6), .int .i64 (x 7), .int .i64 (x 8), .int .i64 (x 9), .int .i64 (x 10), .int .i64 (x 11), .int .i64 (x 12), .int .i64 (x 13), .int .i64 (x 14), .int .i64 (x 15), .int .i64 (x 16), .int .i64 (x 17), .int .i64 (x 18), .int .i64 (x 19), .int .i64 (x 20), .int .i64 (x 21), .int .i64 (x 22), .int .i64 (x 23), .int .i64 (x 24)]] w fun e w' => e = .returned (.bool (msgB c d sv k x)) ∧ Below w.heap.size w w' := by
  obtain ⟨a1, a2, a3, a4⟩ := okB_bounds hok
  obtain ⟨a5, a6⟩ := inB_true.1 hsv
  go_enter Tryz.func15, Tryz.ntmps15
  go_wp2_with fail
  obtain ⟨w0, e0⟩ : ∃ w0, w0 = (w.alloc (.cells #[.int .i64 c, .int .i64 d] 43)).alloc (.cells #[.int .i64 k, .int .i64 (x 1), .int .i64 (x 2), .int .i64 (x 3), .int .i64 (x 4), .int .i64 (x 5), .int .i64 (x 6), .int .i64 (x 7), .int .i64 (x 8), .int .i64 (x 9), .int .i64 (x 10), .int .i64 (x 11), .int .i64 (x 12), .int .i64 (x 13), .int .i64 (x 14), .int .i64 (x 15), .int .i64 (x 16), .int .i64 (x 17), .int .i64 (x 18), .int .i64 (x 19), .int .i64 (x 20), .int .i64 (x 21), .int .i64 (x 22), .int .i64 (x 23), .int .i64 (x 24)] 53) := ⟨_, rfl⟩
  have B1 : Hid (Below w.heap.size w w0) := by rw [e0]; exact ((Below.refl _ _).alloc (by simp) _).alloc (by simp) _
  have M2 : Hid (Bk w0 w.heap.size [.int .i64 c, .int .i64 d]) := by rw [e0]; exact (bk_new w 43 [.int .i64 c, .int .i64 d]).below ((Below.refl _ _).alloc (Nat.le_refl _) _)
  have G3 : Hid (Bk w0 (w.heap.size + 1) [.int .i64 k, .int .i64 (x 1), .int .i64 (x 2), .int .i64 (x 3), .int .i64 (x 4), .int .i64 (x 5), .int .i64 (x 6), .int .i64 (x 7), .int .i64 (x 8), .int .i64 (x 9), .int .i64 (x 10), .int .i64 (x 11), .int .i64 (x 12), .int .i64 (x 13), .int .i64 (x 14), .int .i64 (x 15), .int .i64 (x 16), .int .i64 (x 17), .int .i64 (x 18), .int .i64 (x 19), .int .i64 (x 20), .int .i64 (x 21), .int .i64 (x 22), .int .i64 (x 23), .int .i64 (x 24)]) := by rw [e0]; have := bk_new (w.alloc (.cells #[.int .i64 c, .int .i64 d] 43)) 53 [.int .i64 k, .int .i64 (x 1), .int .i64 (x 2), .int .i64 (x 3), .int .i64 (x 4), .int .i64 (x 5), .int .i64 (x 6), .int .i64 (x 7), .int .i64 (x 8), .int .i64 (x 9), .int .i64 (x 10), .int .i64 (x 11), .int .i64 (x 12), .int .i64 (x 13), .int .i64 (x 14), .int .i64 (x 15), .int .i64 (x 16), .int .i64 (x 17), .int .i64 (x 18), .int .i64 (x 19), .int .i64 (x 20), .int .i64 (x 21), .int .i64 (x 22), .int .i64 (x 23), .int .i64 (x 24)]; rwa [show (w.alloc (.cells #[.int .i64 c, .int .i64 d] 43)).heap.size = w.heap.size + 1 by simp] at this
  rw [← e0]
  clear e0
  refine (ok_spec _ _ _).mono ?_
  rintro e w1 ⟨rfl, hb1⟩
  have B4 : Hid (Below w.heap.size w w1) := bthen B1.out hb1
  have M4 : Hid (Bk w1 w.heap.size [.int .i64 c, .int .i64 d]) := M2.out.below hb1
  have G4 : Hid (Bk w1 (w.heap.size + 1) [.int .i64 k, .int .i64 (x 1), .int .i64 (x 2), .int .i64 (x 3), .int .i64 (x 4), .int .i64 (x 5), .int .i64 (x 6), .int .i64 (x 7), .int .i64 (x 8), .int .i64 (x 9), .int .i64 (x 10), .int .i64 (x 11), .int .i64 (x 12), .int .i64 (x 13), .int .i64 (x 14), .int .i64 (x 15), .int .i64 (x 16), .int .i64 (x 17), .int .i64 (x 18), .int .i64 (x 19), .int .i64 (x 20), .int .i64 (x 21), .int .i64 (x 22), .int .i64 (x 23), .int .i64 (x 24)]) := G3.out.below hb1
  clear B1 M2 G3
  clear hb1
  have yM0 : w1.cell? ⟨w.heap.size, 0, none⟩ = some (.int .i64 c) := (M4.out.2 0 (by simp)).1
  have yM1 : w1.cell? ⟨w.heap.size, 1, none⟩ = some (.int .i64 d) := (M4.out.2 1 (by simp)).1
  have hlM : w.heap.size < w1.heap.size := M4.out.1
  have yG0 : w1.cell? ⟨(w.heap.size + 1), 0, none⟩ = some (.int .i64 k) := (G4.out.2 0 (by simp)).1
  have yG1 : w1.cell? ⟨(w.heap.size + 1), 1, none⟩ = some (.int .i64 (x 1)) := (G4.out.2 1 (by simp)).1
  have yG2 : w1.cell? ⟨(w.heap.size + 1), 2, none⟩ = some (.int .i64 (x 2)) := (G4.out.2 2 (by simp)).1
  have yG3 : w1.cell? ⟨(w.heap.size + 1), 3, none⟩ = some (.int .i64 (x 3)) := (G4.out.2 3 (by simp)).1
  have yG4 : w1.cell? ⟨(w.heap.size + 1), 4, none⟩ = some (.int .i64 (x 4)) := (G4.out.2 4 (by simp)).1
  have yG5 : w1.cell? ⟨(w.heap.size + 1), 5, none⟩ = some (.int .i64 (x 5)) := (G4.out.2 5 (by simp)).1
  have yG6 : w1.cell? ⟨(w.heap.size + 1), 6, none⟩ = some (.int .i64 (x 6)) := (G4.out.2 6 (by simp)).1
  have yG7 : w1.cell? ⟨(w.heap.size + 1), 7, none⟩ = some (.int .i64 (x 7)) := (G4.out.2 7 (by simp)).1
  have yG8 : w1.cell? ⟨(w.heap.size + 1), 8, none⟩ = some (.int .i64 (x 8)) := (G4.out.2 8 (by simp)).1
  have yG9 : w1.cell? ⟨(w.heap.size + 1), 9, none⟩ = some (.int .i64 (x 9)) := (G4.out.2 9 (by simp)).1
  have yG10 : w1.cell? ⟨(w.heap.size + 1), 10, none⟩ = some (.int .i64 (x 10)) := (G4.out.2 10 (by simp)).1
  have yG11 : w1.cell? ⟨(w.heap.size + 1), 11, none⟩ = some (.int .i64 (x 11)) := (G4.out.2 11 (by simp)).1
  have yG12 : w1.cell? ⟨(w.heap.size + 1), 12, none⟩ = some (.int .i64 (x 12)) := (G4.out.2 12 (by simp)).1
  have yG13 : w1.cell? ⟨(w.heap.size + 1), 13, none⟩ = some (.int .i64 (x 13)) := (G4.out.2 13 (by simp)).1
  have yG14 : w1.cell? ⟨(w.heap.size + 1), 14, none⟩ = some (.int .i64 (x 14)) := (G4.out.2 14 (by simp)).1
  have yG15 : w1.cell? ⟨(w.heap.size + 1), 15, none⟩ = some (.int .i64 (x 15)) := (G4.out.2 15 (by simp)).1
  have yG16 : w1.cell? ⟨(w.heap.size + 1), 16, none⟩ = some (.int .i64 (x 16)) := (G4.out.2 16 (by simp)).1
  have yG17 : w1.cell? ⟨(w.heap.size + 1), 17, none⟩ = some (.int .i64 (x 17)) := (G4.out.2 17 (by simp)).1
  have yG18 : w1.cell? ⟨(w.heap.size + 1), 18, none⟩ = some (.int .i64 (x 18)) := (G4.out.2 18 (by simp)).1
  have yG19 : w1.cell? ⟨(w.heap.size + 1), 19, none⟩ = some (.int .i64 (x 19)) := (G4.out.2 19 (by simp)).1
  have yG20 : w1.cell? ⟨(w.heap.size + 1), 20, none⟩ = some (.int .i64 (x 20)) := (G4.out.2 20 (by simp)).1
  have yG21 : w1.cell? ⟨(w.heap.size + 1), 21, none⟩ = some (.int .i64 (x 21)) := (G4.out.2 21 (by simp)).1
  have yG22 : w1.cell? ⟨(w.heap.size + 1), 22, none⟩ = some (.int .i64 (x 22)) := (G4.out.2 22 (by simp)).1
  have yG23 : w1.cell? ⟨(w.heap.size + 1), 23, none⟩ = some (.int .i64 (x 23)) := (G4.out.2 23 (by simp)).1
  have yG24 : w1.cell? ⟨(w.heap.size + 1), 24, none⟩ = some (.int .i64 (x 24)) := (G4.out.2 24 (by simp)).1
  have hlG : (w.heap.size + 1) < w1.heap.size := G4.out.1
  go_wp2_with (go_at_call 32; refine (in_spec _ _ _ _).mono ?_; rintro e w' ⟨rfl, rfl⟩)
  go_ret
  exact ⟨by simp [msgB, toB, kindM, hok, hsv, hce, hsi], B4.out⟩

set_option maxRecDepth 100000 in
set_option maxHeartbeats 4000000 in
theorem toServer (c d sv k : Int) (x : Nat → Int) (hok : okB c d = true) (hsv : inB sv 1 3 = true) (hce : inB (x 2) 0 (c - 1) = true) (hsi : inB (x 3) 0 1 = true) (q3 : (k == 3) = false) (q4 : (k == 4) = false) (hto : inB (x 1) 0 (sv - 1) = false) (w : World) :
    Calls Tryz.prog 15 #[.agg #[.int .i64 c, .int .i64 d], .int .i64 sv, .agg #[.int .i64 k, .int .i64 (x 1), .int .i64 (x 2), .int .i64 (x 3), .int .i64 (x 4), .int .i64 (x 5), .int .i64 (x 6), .int .i64 (x 7), .int .i64 (x 8), .int .i64 (x 9), .int .i64 (x 10), .int .i64 (x 11), .int .i64 (x 12), .int .i64 (x 13), .int .i64 (x 14), .int .i64 (x 15), .int .i64 (x 16), .int .i64 (x 17), .int .i64 (x 18), .int .i64 (x 19), .int .i64 (x 20), .int .i64 (x 21), .int .i64 (x 22), .int .i64 (x 23), .int .i64 (x 24)]] w fun e w' => e = .returned (.bool (msgB c d sv k x)) ∧ Below w.heap.size w w' := by
  obtain ⟨a1, a2, a3, a4⟩ := okB_bounds hok
  obtain ⟨a5, a6⟩ := inB_true.1 hsv
  go_enter Tryz.func15, Tryz.ntmps15
  go_wp2_with fail
  obtain ⟨w0, e0⟩ : ∃ w0, w0 = (w.alloc (.cells #[.int .i64 c, .int .i64 d] 43)).alloc (.cells #[.int .i64 k, .int .i64 (x 1), .int .i64 (x 2), .int .i64 (x 3), .int .i64 (x 4), .int .i64 (x 5), .int .i64 (x 6), .int .i64 (x 7), .int .i64 (x 8), .int .i64 (x 9), .int .i64 (x 10), .int .i64 (x 11), .int .i64 (x 12), .int .i64 (x 13), .int .i64 (x 14), .int .i64 (x 15), .int .i64 (x 16), .int .i64 (x 17), .int .i64 (x 18), .int .i64 (x 19), .int .i64 (x 20), .int .i64 (x 21), .int .i64 (x 22), .int .i64 (x 23), .int .i64 (x 24)] 53) := ⟨_, rfl⟩
  have B1 : Hid (Below w.heap.size w w0) := by rw [e0]; exact ((Below.refl _ _).alloc (by simp) _).alloc (by simp) _
  have M2 : Hid (Bk w0 w.heap.size [.int .i64 c, .int .i64 d]) := by rw [e0]; exact (bk_new w 43 [.int .i64 c, .int .i64 d]).below ((Below.refl _ _).alloc (Nat.le_refl _) _)
  have G3 : Hid (Bk w0 (w.heap.size + 1) [.int .i64 k, .int .i64 (x 1), .int .i64 (x 2), .int .i64 (x 3), .int .i64 (x 4), .int .i64 (x 5), .int .i64 (x 6), .int .i64 (x 7), .int .i64 (x 8), .int .i64 (x 9), .int .i64 (x 10), .int .i64 (x 11), .int .i64 (x 12), .int .i64 (x 13), .int .i64 (x 14), .int .i64 (x 15), .int .i64 (x 16), .int .i64 (x 17), .int .i64 (x 18), .int .i64 (x 19), .int .i64 (x 20), .int .i64 (x 21), .int .i64 (x 22), .int .i64 (x 23), .int .i64 (x 24)]) := by rw [e0]; have := bk_new (w.alloc (.cells #[.int .i64 c, .int .i64 d] 43)) 53 [.int .i64 k, .int .i64 (x 1), .int .i64 (x 2), .int .i64 (x 3), .int .i64 (x 4), .int .i64 (x 5), .int .i64 (x 6), .int .i64 (x 7), .int .i64 (x 8), .int .i64 (x 9), .int .i64 (x 10), .int .i64 (x 11), .int .i64 (x 12), .int .i64 (x 13), .int .i64 (x 14), .int .i64 (x 15), .int .i64 (x 16), .int .i64 (x 17), .int .i64 (x 18), .int .i64 (x 19), .int .i64 (x 20), .int .i64 (x 21), .int .i64 (x 22), .int .i64 (x 23), .int .i64 (x 24)]; rwa [show (w.alloc (.cells #[.int .i64 c, .int .i64 d] 43)).heap.size = w.heap.size + 1 by simp] at this
  rw [← e0]
  clear e0
  refine (ok_spec _ _ _).mono ?_
  rintro e w1 ⟨rfl, hb1⟩
  have B4 : Hid (Below w.heap.size w w1) := bthen B1.out hb1
  have M4 : Hid (Bk w1 w.heap.size [.int .i64 c, .int .i64 d]) := M2.out.below hb1
  have G4 : Hid (Bk w1 (w.heap.size + 1) [.int .i64 k, .int .i64 (x 1), .int .i64 (x 2), .int .i64 (x 3), .int .i64 (x 4), .int .i64 (x 5), .int .i64 (x 6), .int .i64 (x 7), .int .i64 (x 8), .int .i64 (x 9), .int .i64 (x 10), .int .i64 (x 11), .int .i64 (x 12), .int .i64 (x 13), .int .i64 (x 14), .int .i64 (x 15), .int .i64 (x 16), .int .i64 (x 17), .int .i64 (x 18), .int .i64 (x 19), .int .i64 (x 20), .int .i64 (x 21), .int .i64 (x 22), .int .i64 (x 23), .int .i64 (x 24)]) := G3.out.below hb1
  clear B1 M2 G3
  clear hb1
  have yM0 : w1.cell? ⟨w.heap.size, 0, none⟩ = some (.int .i64 c) := (M4.out.2 0 (by simp)).1
  have yM1 : w1.cell? ⟨w.heap.size, 1, none⟩ = some (.int .i64 d) := (M4.out.2 1 (by simp)).1
  have hlM : w.heap.size < w1.heap.size := M4.out.1
  have yG0 : w1.cell? ⟨(w.heap.size + 1), 0, none⟩ = some (.int .i64 k) := (G4.out.2 0 (by simp)).1
  have yG1 : w1.cell? ⟨(w.heap.size + 1), 1, none⟩ = some (.int .i64 (x 1)) := (G4.out.2 1 (by simp)).1
  have yG2 : w1.cell? ⟨(w.heap.size + 1), 2, none⟩ = some (.int .i64 (x 2)) := (G4.out.2 2 (by simp)).1
  have yG3 : w1.cell? ⟨(w.heap.size + 1), 3, none⟩ = some (.int .i64 (x 3)) := (G4.out.2 3 (by simp)).1
  have yG4 : w1.cell? ⟨(w.heap.size + 1), 4, none⟩ = some (.int .i64 (x 4)) := (G4.out.2 4 (by simp)).1
  have yG5 : w1.cell? ⟨(w.heap.size + 1), 5, none⟩ = some (.int .i64 (x 5)) := (G4.out.2 5 (by simp)).1
  have yG6 : w1.cell? ⟨(w.heap.size + 1), 6, none⟩ = some (.int .i64 (x 6)) := (G4.out.2 6 (by simp)).1
  have yG7 : w1.cell? ⟨(w.heap.size + 1), 7, none⟩ = some (.int .i64 (x 7)) := (G4.out.2 7 (by simp)).1
  have yG8 : w1.cell? ⟨(w.heap.size + 1), 8, none⟩ = some (.int .i64 (x 8)) := (G4.out.2 8 (by simp)).1
  have yG9 : w1.cell? ⟨(w.heap.size + 1), 9, none⟩ = some (.int .i64 (x 9)) := (G4.out.2 9 (by simp)).1
  have yG10 : w1.cell? ⟨(w.heap.size + 1), 10, none⟩ = some (.int .i64 (x 10)) := (G4.out.2 10 (by simp)).1
  have yG11 : w1.cell? ⟨(w.heap.size + 1), 11, none⟩ = some (.int .i64 (x 11)) := (G4.out.2 11 (by simp)).1
  have yG12 : w1.cell? ⟨(w.heap.size + 1), 12, none⟩ = some (.int .i64 (x 12)) := (G4.out.2 12 (by simp)).1
  have yG13 : w1.cell? ⟨(w.heap.size + 1), 13, none⟩ = some (.int .i64 (x 13)) := (G4.out.2 13 (by simp)).1
  have yG14 : w1.cell? ⟨(w.heap.size + 1), 14, none⟩ = some (.int .i64 (x 14)) := (G4.out.2 14 (by simp)).1
  have yG15 : w1.cell? ⟨(w.heap.size + 1), 15, none⟩ = some (.int .i64 (x 15)) := (G4.out.2 15 (by simp)).1
  have yG16 : w1.cell? ⟨(w.heap.size + 1), 16, none⟩ = some (.int .i64 (x 16)) := (G4.out.2 16 (by simp)).1
  have yG17 : w1.cell? ⟨(w.heap.size + 1), 17, none⟩ = some (.int .i64 (x 17)) := (G4.out.2 17 (by simp)).1
  have yG18 : w1.cell? ⟨(w.heap.size + 1), 18, none⟩ = some (.int .i64 (x 18)) := (G4.out.2 18 (by simp)).1
  have yG19 : w1.cell? ⟨(w.heap.size + 1), 19, none⟩ = some (.int .i64 (x 19)) := (G4.out.2 19 (by simp)).1
  have yG20 : w1.cell? ⟨(w.heap.size + 1), 20, none⟩ = some (.int .i64 (x 20)) := (G4.out.2 20 (by simp)).1
  have yG21 : w1.cell? ⟨(w.heap.size + 1), 21, none⟩ = some (.int .i64 (x 21)) := (G4.out.2 21 (by simp)).1
  have yG22 : w1.cell? ⟨(w.heap.size + 1), 22, none⟩ = some (.int .i64 (x 22)) := (G4.out.2 22 (by simp)).1
  have yG23 : w1.cell? ⟨(w.heap.size + 1), 23, none⟩ = some (.int .i64 (x 23)) := (G4.out.2 23 (by simp)).1
  have yG24 : w1.cell? ⟨(w.heap.size + 1), 24, none⟩ = some (.int .i64 (x 24)) := (G4.out.2 24 (by simp)).1
  have hlG : (w.heap.size + 1) < w1.heap.size := G4.out.1
  go_wp2_with (go_at_call 32; refine (in_spec _ _ _ _).mono ?_; rintro e w' ⟨rfl, rfl⟩)
  go_ret
  exact ⟨by simp [msgB, toB, kindM, hok, hsv, hce, hsi, hto, show ¬ (k = 3 ∨ k = 4) from by simp at q3 q4; omega], B4.out⟩

set_option maxRecDepth 100000 in
set_option maxHeartbeats 4000000 in
theorem toGate3 (c d sv : Int) (x : Nat → Int) (hok : okB c d = true) (hsv : inB sv 1 3 = true) (hce : inB (x 2) 0 (c - 1) = true) (hsi : inB (x 3) 0 1 = true) (hto : (x 1 != -1) = true) (w : World) :
    Calls Tryz.prog 15 #[.agg #[.int .i64 c, .int .i64 d], .int .i64 sv, .agg #[.int .i64 3, .int .i64 (x 1), .int .i64 (x 2), .int .i64 (x 3), .int .i64 (x 4), .int .i64 (x 5), .int .i64 (x 6), .int .i64 (x 7), .int .i64 (x 8), .int .i64 (x 9), .int .i64 (x 10), .int .i64 (x 11), .int .i64 (x 12), .int .i64 (x 13), .int .i64 (x 14), .int .i64 (x 15), .int .i64 (x 16), .int .i64 (x 17), .int .i64 (x 18), .int .i64 (x 19), .int .i64 (x 20), .int .i64 (x 21), .int .i64 (x 22), .int .i64 (x 23), .int .i64 (x 24)]] w fun e w' => e = .returned (.bool (msgB c d sv 3 x)) ∧ Below w.heap.size w w' := by
  obtain ⟨a1, a2, a3, a4⟩ := okB_bounds hok
  obtain ⟨a5, a6⟩ := inB_true.1 hsv
  go_enter Tryz.func15, Tryz.ntmps15
  go_wp2_with fail
  obtain ⟨w0, e0⟩ : ∃ w0, w0 = (w.alloc (.cells #[.int .i64 c, .int .i64 d] 43)).alloc (.cells #[.int .i64 3, .int .i64 (x 1), .int .i64 (x 2), .int .i64 (x 3), .int .i64 (x 4), .int .i64 (x 5), .int .i64 (x 6), .int .i64 (x 7), .int .i64 (x 8), .int .i64 (x 9), .int .i64 (x 10), .int .i64 (x 11), .int .i64 (x 12), .int .i64 (x 13), .int .i64 (x 14), .int .i64 (x 15), .int .i64 (x 16), .int .i64 (x 17), .int .i64 (x 18), .int .i64 (x 19), .int .i64 (x 20), .int .i64 (x 21), .int .i64 (x 22), .int .i64 (x 23), .int .i64 (x 24)] 53) := ⟨_, rfl⟩
  have B1 : Hid (Below w.heap.size w w0) := by rw [e0]; exact ((Below.refl _ _).alloc (by simp) _).alloc (by simp) _
  have M2 : Hid (Bk w0 w.heap.size [.int .i64 c, .int .i64 d]) := by rw [e0]; exact (bk_new w 43 [.int .i64 c, .int .i64 d]).below ((Below.refl _ _).alloc (Nat.le_refl _) _)
  have G3 : Hid (Bk w0 (w.heap.size + 1) [.int .i64 3, .int .i64 (x 1), .int .i64 (x 2), .int .i64 (x 3), .int .i64 (x 4), .int .i64 (x 5), .int .i64 (x 6), .int .i64 (x 7), .int .i64 (x 8), .int .i64 (x 9), .int .i64 (x 10), .int .i64 (x 11), .int .i64 (x 12), .int .i64 (x 13), .int .i64 (x 14), .int .i64 (x 15), .int .i64 (x 16), .int .i64 (x 17), .int .i64 (x 18), .int .i64 (x 19), .int .i64 (x 20), .int .i64 (x 21), .int .i64 (x 22), .int .i64 (x 23), .int .i64 (x 24)]) := by rw [e0]; have := bk_new (w.alloc (.cells #[.int .i64 c, .int .i64 d] 43)) 53 [.int .i64 3, .int .i64 (x 1), .int .i64 (x 2), .int .i64 (x 3), .int .i64 (x 4), .int .i64 (x 5), .int .i64 (x 6), .int .i64 (x 7), .int .i64 (x 8), .int .i64 (x 9), .int .i64 (x 10), .int .i64 (x 11), .int .i64 (x 12), .int .i64 (x 13), .int .i64 (x 14), .int .i64 (x 15), .int .i64 (x 16), .int .i64 (x 17), .int .i64 (x 18), .int .i64 (x 19), .int .i64 (x 20), .int .i64 (x 21), .int .i64 (x 22), .int .i64 (x 23), .int .i64 (x 24)]; rwa [show (w.alloc (.cells #[.int .i64 c, .int .i64 d] 43)).heap.size = w.heap.size + 1 by simp] at this
  rw [← e0]
  clear e0
  refine (ok_spec _ _ _).mono ?_
  rintro e w1 ⟨rfl, hb1⟩
  have B4 : Hid (Below w.heap.size w w1) := bthen B1.out hb1
  have M4 : Hid (Bk w1 w.heap.size [.int .i64 c, .int .i64 d]) := M2.out.below hb1
  have G4 : Hid (Bk w1 (w.heap.size + 1) [.int .i64 3, .int .i64 (x 1), .int .i64 (x 2), .int .i64 (x 3), .int .i64 (x 4), .int .i64 (x 5), .int .i64 (x 6), .int .i64 (x 7), .int .i64 (x 8), .int .i64 (x 9), .int .i64 (x 10), .int .i64 (x 11), .int .i64 (x 12), .int .i64 (x 13), .int .i64 (x 14), .int .i64 (x 15), .int .i64 (x 16), .int .i64 (x 17), .int .i64 (x 18), .int .i64 (x 19), .int .i64 (x 20), .int .i64 (x 21), .int .i64 (x 22), .int .i64 (x 23), .int .i64 (x 24)]) := G3.out.below hb1
  clear B1 M2 G3
  clear hb1
  have yM0 : w1.cell? ⟨w.heap.size, 0, none⟩ = some (.int .i64 c) := (M4.out.2 0 (by simp)).1
  have yM1 : w1.cell? ⟨w.heap.size, 1, none⟩ = some (.int .i64 d) := (M4.out.2 1 (by simp)).1
  have hlM : w.heap.size < w1.heap.size := M4.out.1
  have yG0 : w1.cell? ⟨(w.heap.size + 1), 0, none⟩ = some (.int .i64 3) := (G4.out.2 0 (by simp)).1
  have yG1 : w1.cell? ⟨(w.heap.size + 1), 1, none⟩ = some (.int .i64 (x 1)) := (G4.out.2 1 (by simp)).1
  have yG2 : w1.cell? ⟨(w.heap.size + 1), 2, none⟩ = some (.int .i64 (x 2)) := (G4.out.2 2 (by simp)).1
  have yG3 : w1.cell? ⟨(w.heap.size + 1), 3, none⟩ = some (.int .i64 (x 3)) := (G4.out.2 3 (by simp)).1
  have yG4 : w1.cell? ⟨(w.heap.size + 1), 4, none⟩ = some (.int .i64 (x 4)) := (G4.out.2 4 (by simp)).1
  have yG5 : w1.cell? ⟨(w.heap.size + 1), 5, none⟩ = some (.int .i64 (x 5)) := (G4.out.2 5 (by simp)).1
  have yG6 : w1.cell? ⟨(w.heap.size + 1), 6, none⟩ = some (.int .i64 (x 6)) := (G4.out.2 6 (by simp)).1
  have yG7 : w1.cell? ⟨(w.heap.size + 1), 7, none⟩ = some (.int .i64 (x 7)) := (G4.out.2 7 (by simp)).1
  have yG8 : w1.cell? ⟨(w.heap.size + 1), 8, none⟩ = some (.int .i64 (x 8)) := (G4.out.2 8 (by simp)).1
  have yG9 : w1.cell? ⟨(w.heap.size + 1), 9, none⟩ = some (.int .i64 (x 9)) := (G4.out.2 9 (by simp)).1
  have yG10 : w1.cell? ⟨(w.heap.size + 1), 10, none⟩ = some (.int .i64 (x 10)) := (G4.out.2 10 (by simp)).1
  have yG11 : w1.cell? ⟨(w.heap.size + 1), 11, none⟩ = some (.int .i64 (x 11)) := (G4.out.2 11 (by simp)).1
  have yG12 : w1.cell? ⟨(w.heap.size + 1), 12, none⟩ = some (.int .i64 (x 12)) := (G4.out.2 12 (by simp)).1
  have yG13 : w1.cell? ⟨(w.heap.size + 1), 13, none⟩ = some (.int .i64 (x 13)) := (G4.out.2 13 (by simp)).1
  have yG14 : w1.cell? ⟨(w.heap.size + 1), 14, none⟩ = some (.int .i64 (x 14)) := (G4.out.2 14 (by simp)).1
  have yG15 : w1.cell? ⟨(w.heap.size + 1), 15, none⟩ = some (.int .i64 (x 15)) := (G4.out.2 15 (by simp)).1
  have yG16 : w1.cell? ⟨(w.heap.size + 1), 16, none⟩ = some (.int .i64 (x 16)) := (G4.out.2 16 (by simp)).1
  have yG17 : w1.cell? ⟨(w.heap.size + 1), 17, none⟩ = some (.int .i64 (x 17)) := (G4.out.2 17 (by simp)).1
  have yG18 : w1.cell? ⟨(w.heap.size + 1), 18, none⟩ = some (.int .i64 (x 18)) := (G4.out.2 18 (by simp)).1
  have yG19 : w1.cell? ⟨(w.heap.size + 1), 19, none⟩ = some (.int .i64 (x 19)) := (G4.out.2 19 (by simp)).1
  have yG20 : w1.cell? ⟨(w.heap.size + 1), 20, none⟩ = some (.int .i64 (x 20)) := (G4.out.2 20 (by simp)).1
  have yG21 : w1.cell? ⟨(w.heap.size + 1), 21, none⟩ = some (.int .i64 (x 21)) := (G4.out.2 21 (by simp)).1
  have yG22 : w1.cell? ⟨(w.heap.size + 1), 22, none⟩ = some (.int .i64 (x 22)) := (G4.out.2 22 (by simp)).1
  have yG23 : w1.cell? ⟨(w.heap.size + 1), 23, none⟩ = some (.int .i64 (x 23)) := (G4.out.2 23 (by simp)).1
  have yG24 : w1.cell? ⟨(w.heap.size + 1), 24, none⟩ = some (.int .i64 (x 24)) := (G4.out.2 24 (by simp)).1
  have hlG : (w.heap.size + 1) < w1.heap.size := G4.out.1
  go_wp2_with (go_at_call 32; refine (in_spec _ _ _ _).mono ?_; rintro e w' ⟨rfl, rfl⟩)
  go_ret
  exact ⟨by simp [msgB, toB, kindM, hok, hsv, hce, hsi, show (x 1 == -1) = false from by simpa using hto], B4.out⟩

set_option maxRecDepth 100000 in
set_option maxHeartbeats 4000000 in
theorem toGate4 (c d sv : Int) (x : Nat → Int) (hok : okB c d = true) (hsv : inB sv 1 3 = true) (hce : inB (x 2) 0 (c - 1) = true) (hsi : inB (x 3) 0 1 = true) (hto : (x 1 != -1) = true) (w : World) :
    Calls Tryz.prog 15 #[.agg #[.int .i64 c, .int .i64 d], .int .i64 sv, .agg #[.int .i64 4, .int .i64 (x 1), .int .i64 (x 2), .int .i64 (x 3), .int .i64 (x 4), .int .i64 (x 5), .int .i64 (x 6), .int .i64 (x 7), .int .i64 (x 8), .int .i64 (x 9), .int .i64 (x 10), .int .i64 (x 11), .int .i64 (x 12), .int .i64 (x 13), .int .i64 (x 14), .int .i64 (x 15), .int .i64 (x 16), .int .i64 (x 17), .int .i64 (x 18), .int .i64 (x 19), .int .i64 (x 20), .int .i64 (x 21), .int .i64 (x 22), .int .i64 (x 23), .int .i64 (x 24)]] w fun e w' => e = .returned (.bool (msgB c d sv 4 x)) ∧ Below w.heap.size w w' := by
  obtain ⟨a1, a2, a3, a4⟩ := okB_bounds hok
  obtain ⟨a5, a6⟩ := inB_true.1 hsv
  go_enter Tryz.func15, Tryz.ntmps15
  go_wp2_with fail
  obtain ⟨w0, e0⟩ : ∃ w0, w0 = (w.alloc (.cells #[.int .i64 c, .int .i64 d] 43)).alloc (.cells #[.int .i64 4, .int .i64 (x 1), .int .i64 (x 2), .int .i64 (x 3), .int .i64 (x 4), .int .i64 (x 5), .int .i64 (x 6), .int .i64 (x 7), .int .i64 (x 8), .int .i64 (x 9), .int .i64 (x 10), .int .i64 (x 11), .int .i64 (x 12), .int .i64 (x 13), .int .i64 (x 14), .int .i64 (x 15), .int .i64 (x 16), .int .i64 (x 17), .int .i64 (x 18), .int .i64 (x 19), .int .i64 (x 20), .int .i64 (x 21), .int .i64 (x 22), .int .i64 (x 23), .int .i64 (x 24)] 53) := ⟨_, rfl⟩
  have B1 : Hid (Below w.heap.size w w0) := by rw [e0]; exact ((Below.refl _ _).alloc (by simp) _).alloc (by simp) _
  have M2 : Hid (Bk w0 w.heap.size [.int .i64 c, .int .i64 d]) := by rw [e0]; exact (bk_new w 43 [.int .i64 c, .int .i64 d]).below ((Below.refl _ _).alloc (Nat.le_refl _) _)
  have G3 : Hid (Bk w0 (w.heap.size + 1) [.int .i64 4, .int .i64 (x 1), .int .i64 (x 2), .int .i64 (x 3), .int .i64 (x 4), .int .i64 (x 5), .int .i64 (x 6), .int .i64 (x 7), .int .i64 (x 8), .int .i64 (x 9), .int .i64 (x 10), .int .i64 (x 11), .int .i64 (x 12), .int .i64 (x 13), .int .i64 (x 14), .int .i64 (x 15), .int .i64 (x 16), .int .i64 (x 17), .int .i64 (x 18), .int .i64 (x 19), .int .i64 (x 20), .int .i64 (x 21), .int .i64 (x 22), .int .i64 (x 23), .int .i64 (x 24)]) := by rw [e0]; have := bk_new (w.alloc (.cells #[.int .i64 c, .int .i64 d] 43)) 53 [.int .i64 4, .int .i64 (x 1), .int .i64 (x 2), .int .i64 (x 3), .int .i64 (x 4), .int .i64 (x 5), .int .i64 (x 6), .int .i64 (x 7), .int .i64 (x 8), .int .i64 (x 9), .int .i64 (x 10), .int .i64 (x 11), .int .i64 (x 12), .int .i64 (x 13), .int .i64 (x 14), .int .i64 (x 15), .int .i64 (x 16), .int .i64 (x 17), .int .i64 (x 18), .int .i64 (x 19), .int .i64 (x 20), .int .i64 (x 21), .int .i64 (x 22), .int .i64 (x 23), .int .i64 (x 24)]; rwa [show (w.alloc (.cells #[.int .i64 c, .int .i64 d] 43)).heap.size = w.heap.size + 1 by simp] at this
  rw [← e0]
  clear e0
  refine (ok_spec _ _ _).mono ?_
  rintro e w1 ⟨rfl, hb1⟩
  have B4 : Hid (Below w.heap.size w w1) := bthen B1.out hb1
  have M4 : Hid (Bk w1 w.heap.size [.int .i64 c, .int .i64 d]) := M2.out.below hb1
  have G4 : Hid (Bk w1 (w.heap.size + 1) [.int .i64 4, .int .i64 (x 1), .int .i64 (x 2), .int .i64 (x 3), .int .i64 (x 4), .int .i64 (x 5), .int .i64 (x 6), .int .i64 (x 7), .int .i64 (x 8), .int .i64 (x 9), .int .i64 (x 10), .int .i64 (x 11), .int .i64 (x 12), .int .i64 (x 13), .int .i64 (x 14), .int .i64 (x 15), .int .i64 (x 16), .int .i64 (x 17), .int .i64 (x 18), .int .i64 (x 19), .int .i64 (x 20), .int .i64 (x 21), .int .i64 (x 22), .int .i64 (x 23), .int .i64 (x 24)]) := G3.out.below hb1
  clear B1 M2 G3
  clear hb1
  have yM0 : w1.cell? ⟨w.heap.size, 0, none⟩ = some (.int .i64 c) := (M4.out.2 0 (by simp)).1
  have yM1 : w1.cell? ⟨w.heap.size, 1, none⟩ = some (.int .i64 d) := (M4.out.2 1 (by simp)).1
  have hlM : w.heap.size < w1.heap.size := M4.out.1
  have yG0 : w1.cell? ⟨(w.heap.size + 1), 0, none⟩ = some (.int .i64 4) := (G4.out.2 0 (by simp)).1
  have yG1 : w1.cell? ⟨(w.heap.size + 1), 1, none⟩ = some (.int .i64 (x 1)) := (G4.out.2 1 (by simp)).1
  have yG2 : w1.cell? ⟨(w.heap.size + 1), 2, none⟩ = some (.int .i64 (x 2)) := (G4.out.2 2 (by simp)).1
  have yG3 : w1.cell? ⟨(w.heap.size + 1), 3, none⟩ = some (.int .i64 (x 3)) := (G4.out.2 3 (by simp)).1
  have yG4 : w1.cell? ⟨(w.heap.size + 1), 4, none⟩ = some (.int .i64 (x 4)) := (G4.out.2 4 (by simp)).1
  have yG5 : w1.cell? ⟨(w.heap.size + 1), 5, none⟩ = some (.int .i64 (x 5)) := (G4.out.2 5 (by simp)).1
  have yG6 : w1.cell? ⟨(w.heap.size + 1), 6, none⟩ = some (.int .i64 (x 6)) := (G4.out.2 6 (by simp)).1
  have yG7 : w1.cell? ⟨(w.heap.size + 1), 7, none⟩ = some (.int .i64 (x 7)) := (G4.out.2 7 (by simp)).1
  have yG8 : w1.cell? ⟨(w.heap.size + 1), 8, none⟩ = some (.int .i64 (x 8)) := (G4.out.2 8 (by simp)).1
  have yG9 : w1.cell? ⟨(w.heap.size + 1), 9, none⟩ = some (.int .i64 (x 9)) := (G4.out.2 9 (by simp)).1
  have yG10 : w1.cell? ⟨(w.heap.size + 1), 10, none⟩ = some (.int .i64 (x 10)) := (G4.out.2 10 (by simp)).1
  have yG11 : w1.cell? ⟨(w.heap.size + 1), 11, none⟩ = some (.int .i64 (x 11)) := (G4.out.2 11 (by simp)).1
  have yG12 : w1.cell? ⟨(w.heap.size + 1), 12, none⟩ = some (.int .i64 (x 12)) := (G4.out.2 12 (by simp)).1
  have yG13 : w1.cell? ⟨(w.heap.size + 1), 13, none⟩ = some (.int .i64 (x 13)) := (G4.out.2 13 (by simp)).1
  have yG14 : w1.cell? ⟨(w.heap.size + 1), 14, none⟩ = some (.int .i64 (x 14)) := (G4.out.2 14 (by simp)).1
  have yG15 : w1.cell? ⟨(w.heap.size + 1), 15, none⟩ = some (.int .i64 (x 15)) := (G4.out.2 15 (by simp)).1
  have yG16 : w1.cell? ⟨(w.heap.size + 1), 16, none⟩ = some (.int .i64 (x 16)) := (G4.out.2 16 (by simp)).1
  have yG17 : w1.cell? ⟨(w.heap.size + 1), 17, none⟩ = some (.int .i64 (x 17)) := (G4.out.2 17 (by simp)).1
  have yG18 : w1.cell? ⟨(w.heap.size + 1), 18, none⟩ = some (.int .i64 (x 18)) := (G4.out.2 18 (by simp)).1
  have yG19 : w1.cell? ⟨(w.heap.size + 1), 19, none⟩ = some (.int .i64 (x 19)) := (G4.out.2 19 (by simp)).1
  have yG20 : w1.cell? ⟨(w.heap.size + 1), 20, none⟩ = some (.int .i64 (x 20)) := (G4.out.2 20 (by simp)).1
  have yG21 : w1.cell? ⟨(w.heap.size + 1), 21, none⟩ = some (.int .i64 (x 21)) := (G4.out.2 21 (by simp)).1
  have yG22 : w1.cell? ⟨(w.heap.size + 1), 22, none⟩ = some (.int .i64 (x 22)) := (G4.out.2 22 (by simp)).1
  have yG23 : w1.cell? ⟨(w.heap.size + 1), 23, none⟩ = some (.int .i64 (x 23)) := (G4.out.2 23 (by simp)).1
  have yG24 : w1.cell? ⟨(w.heap.size + 1), 24, none⟩ = some (.int .i64 (x 24)) := (G4.out.2 24 (by simp)).1
  have hlG : (w.heap.size + 1) < w1.heap.size := G4.out.1
  go_wp2_with (go_at_call 32; refine (in_spec _ _ _ _).mono ?_; rintro e w' ⟨rfl, rfl⟩)
  go_ret
  exact ⟨by simp [msgB, toB, kindM, hok, hsv, hce, hsi, show (x 1 == -1) = false from by simpa using hto], B4.out⟩
end Go.Proofs.YtgjapdjidighlabGreat
