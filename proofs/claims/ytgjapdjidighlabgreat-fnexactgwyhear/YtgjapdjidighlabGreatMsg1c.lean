/- MsgOk of the model, in parts; conditions: none. -/
import Derived.Test.YtgjapdjidighlabGreatMsg1
namespace Go.Proofs.YtgjapdjidighlabGreat
open Go.RowKit Go.Deep
set_option linter.unusedVariables false
attribute [local go_sem ↓] load44_eq
attribute [local go_sem] run_load44 cellD
set_option maxRecDepth 100000 in
set_option maxHeartbeats 4000000 in
theorem kind3_0 (c d sv : Int) (x : Nat → Int) (hok : okB c d = true) (hsv : inB sv 1 3 = true) (hce : inB (x 2) 0 (c - 1) = true) (hsi : inB (x 3) 0 1 = true) (hto : (x 1 != -1) = false) (hc0 : (x 3 == 0) = false) (w : World) :
    Calls Tryz.prog 15 #[.agg #[.int .i64 c, .int .i64 d], .int .i64 sv, .agg #[.int .i64 3, .int .i64 (x 1), .int .i64 (x 2), .int .i64 (x 3), .int .i64 (x 4), .int .i64 (x 5), .int .i64 (x 6), .int .i64 (x 7), .int .i64 (x 8), .int .i64 (x 9), .int .i64 (x 10), .int .i64 (x 11), .int .i64 (x 12), .int .i64 (x 13), .int .i64 (x 14), .int .i64 (x 15), .int .i64 (x 16), .int .i64 (x 17), .int .i64 (x 18), .int .i64 (x 19), .int .i64 (x 20), .int .i64 (x 21), .int .i64 (x 22), .int .i64 (x 23), .int .i64 (x 24)]] w fun e w' => e = .returned (.bool (msgB c d sv 3 x)) ∧ Below w.heap.size w w' := by
  obtain ⟨a1, a2, a3, a4⟩ := okB_bounds hok
  obtain ⟨a5, a6⟩ := inB_true.1 hsv
  go_enter Tryz.func15, Tryz.ntmps15
  go_wp2_with fail
  obtain ⟨w0, e0⟩ : ∃ w0, w0 = (w.alloc (.cells #[.int .i64 c, .int .i64 d] 43)).alloc (.cells #[.int .i64 3, .int .i64 (x 1), .int .i64 (x 2), .int .i64 (x 3), .int .i64 (x 4), .int .i64 (x 5), .int .i64 (x 6), .int .i64 (x 7), .int .i64 (x 8), .int .i64 (x 9), .int .i64 (x 10), .int .i64 (x 11), .int .i64 (x 12), .int .i64 (x 13), .int .i64 (x 14), .int .i64 (x 15), .int .i64 (x 16), .int .i64 (x 17), .int .i64 (x 18), .int .i64 (x 19), .int .i64 (x 20), .int .i64 (x 21), .int .i64 (x 22), .int .i64 (x 23), .int .i64 (x 24)] 53) := ⟨_, rfl⟩
  have B1 : Hid (Below w.heap.size w w0) := by rw [e0]; exact ((Below.refl _ _).alloc (by simp) _).alloc (by simp) _
  have M2 : Hid (Bk w0 w.heap.size [.int .i64 c, .int .i64 d]) := by rw [e0]; exact (bk_new w 43 [.int .i64 c, .int .i64 d]).below ((Below.refl _ _).alloc (Nat.le_refl _) _)
  have G3 : Hid (Bk w0 (w.heap.size + 1) [.int .i64 3, .int .i64 (x 1), .int .i64 (x 2), .int .i64 (x 3), .int .i64 (x 4), .int .i64 (x 5), .int .i64 (x 6), .int .i64 (x 7), .int .i64 (x 8), .int .i64 (x 9), .int .i64 (x 10), .int .i64 (x 11), .int .i64 (x 12), .int .i64 (x 13), .int .i64 (x 14), .int .i64 (x 15), .int .i64 (x 16), .int .i64 (x 17), .int .i64 (x 18), .int .i64 (x 19), .int .i64 (x 20), .int .i64 (x 21), .int .i64 (x 22), .int .i64 (x 23), .int .i64 (x 24)]) := by rw [e0]; have := bk_new (w.alloc (.cells #[.int .i64 c, .int .i64 d] 43)) 53 [.int .i64 3, .int .i64 (x 1), .int .i64 (x 2), .int .i64 (x 3), .int .i64 (x 4), .int .i64 (x 5), .int .i64 (x 6), .int .i64 (x 7), .int .i64 (x 8), .int .i64 (x 9), .int .i64 (x 10), .int .i64 (x 11), .int .i64 (x 12), .int .i64 (x 13), .int .i64 (x 14), .int .i64 (x 15), .int .i64 (x 16), .int .i64 (x 17), .int .i64 (x 18), .int .i64 (x 19), .int .i64 (x 20), .int .i64 (x 21), .int .i64 (x 22), .int .i64 (x 23), .int .i64 (x 24)]; rwa [show (w.alloc (.cells #[.int .i64 c, .int .i64 d] 43)).heap.size = w.heap.size + 1 by simp] at this
  rw [← e0]
  clear e0
  refine (ok_spec _ _ _).mono ?_
  rintro e w1 ⟨rfl, hb1⟩
  have B4 := hid (bthen B1.out hb1)
  have M4 := hid (M2.out.below hb1)
  have G4 := hid (G3.out.below hb1)
  clear B1 M2 G3
  clear hb1
  obtain ⟨yM0, yM1⟩ := M4.out.a2
  have hlM : w.heap.size < w1.heap.size := M4.out.1
  obtain ⟨yG0, yG1, yG2, yG3, yG4, yG5, yG6, yG7, yG8, yG9, yG10, yG11, yG12, yG13, yG14, yG15, yG16, yG17, yG18, yG19, yG20, yG21, yG22, yG23, yG24⟩ := G4.out.a25
  have hlG : (w.heap.size + 1) < w1.heap.size := G4.out.1
  go_wp2_with (go_at_call 32; refine (in_spec _ _ _ _).mono ?_; rintro e w' ⟨rfl, rfl⟩)
  refine (plcSide_spec _ _ _ _ _).mono ?_
  rintro e w2 ⟨rfl, hb2⟩
  clear yM0 yM1 hlM yG0 yG1 yG2 yG3 yG4 yG5 yG6 yG7 yG8 yG9 yG10 yG11 yG12 yG13 yG14 yG15 yG16 yG17 yG18 yG19 yG20 yG21 yG22 yG23 yG24 hlG
  have B5 := hid (bthen B4.out hb2)
  have M5 := hid (M4.out.below hb2)
  have G5 := hid (G4.out.below hb2)
  clear B4 M4 G4
  clear hb2
  obtain ⟨yM0, yM1⟩ := M5.out.a2
  have hlM : w.heap.size < w2.heap.size := M5.out.1
  obtain ⟨yG0, yG1, yG2, yG3, yG4, yG5, yG6, yG7, yG8, yG9, yG10, yG11, yG12, yG13, yG14, yG15, yG16, yG17, yG18, yG19, yG20, yG21, yG22, yG23, yG24⟩ := G5.out.a25
  have hlG : (w.heap.size + 1) < w2.heap.size := G5.out.1
  go_wp2_with (go_at_call 32; refine (in_spec _ _ _ _).mono ?_; rintro e w' ⟨rfl, rfl⟩)
  go_ret
  exact ⟨by simp [msgB, toB, kindM, hok, hsv, hce, hsi, show (x 1 == -1) = true from by simpa using hto, hc0], by repeat (first | exact B5.out | apply Below.drew)⟩
set_option maxRecDepth 100000 in
set_option maxHeartbeats 4000000 in
theorem kind3_1 (c d sv : Int) (x : Nat → Int) (hok : okB c d = true) (hsv : inB sv 1 3 = true) (hce : inB (x 2) 0 (c - 1) = true) (hsi : inB (x 3) 0 1 = true) (hto : (x 1 != -1) = false) (hc0 : (x 3 == 0) = true) (hc1 : inB (x 4) 1 9 = false) (w : World) :
    Calls Tryz.prog 15 #[.agg #[.int .i64 c, .int .i64 d], .int .i64 sv, .agg #[.int .i64 3, .int .i64 (x 1), .int .i64 (x 2), .int .i64 (x 3), .int .i64 (x 4), .int .i64 (x 5), .int .i64 (x 6), .int .i64 (x 7), .int .i64 (x 8), .int .i64 (x 9), .int .i64 (x 10), .int .i64 (x 11), .int .i64 (x 12), .int .i64 (x 13), .int .i64 (x 14), .int .i64 (x 15), .int .i64 (x 16), .int .i64 (x 17), .int .i64 (x 18), .int .i64 (x 19), .int .i64 (x 20), .int .i64 (x 21), .int .i64 (x 22), .int .i64 (x 23), .int .i64 (x 24)]] w fun e w' => e = .returned (.bool (msgB c d sv 3 x)) ∧ Below w.heap.size w w' := by
  obtain ⟨a1, a2, a3, a4⟩ := okB_bounds hok
  obtain ⟨a5, a6⟩ := inB_true.1 hsv
  go_enter Tryz.func15, Tryz.ntmps15
  go_wp2_with fail
  obtain ⟨w0, e0⟩ : ∃ w0, w0 = (w.alloc (.cells #[.int .i64 c, .int .i64 d] 43)).alloc (.cells #[.int .i64 3, .int .i64 (x 1), .int .i64 (x 2), .int .i64 (x 3), .int .i64 (x 4), .int .i64 (x 5), .int .i64 (x 6), .int .i64 (x 7), .int .i64 (x 8), .int .i64 (x 9), .int .i64 (x 10), .int .i64 (x 11), .int .i64 (x 12), .int .i64 (x 13), .int .i64 (x 14), .int .i64 (x 15), .int .i64 (x 16), .int .i64 (x 17), .int .i64 (x 18), .int .i64 (x 19), .int .i64 (x 20), .int .i64 (x 21), .int .i64 (x 22), .int .i64 (x 23), .int .i64 (x 24)] 53) := ⟨_, rfl⟩
  have B1 : Hid (Below w.heap.size w w0) := by rw [e0]; exact ((Below.refl _ _).alloc (by simp) _).alloc (by simp) _
  have M2 : Hid (Bk w0 w.heap.size [.int .i64 c, .int .i64 d]) := by rw [e0]; exact (bk_new w 43 [.int .i64 c, .int .i64 d]).below ((Below.refl _ _).alloc (Nat.le_refl _) _)
  have G3 : Hid (Bk w0 (w.heap.size + 1) [.int .i64 3, .int .i64 (x 1), .int .i64 (x 2), .int .i64 (x 3), .int .i64 (x 4), .int .i64 (x 5), .int .i64 (x 6), .int .i64 (x 7), .int .i64 (x 8), .int .i64 (x 9), .int .i64 (x 10), .int .i64 (x 11), .int .i64 (x 12), .int .i64 (x 13), .int .i64 (x 14), .int .i64 (x 15), .int .i64 (x 16), .int .i64 (x 17), .int .i64 (x 18), .int .i64 (x 19), .int .i64 (x 20), .int .i64 (x 21), .int .i64 (x 22), .int .i64 (x 23), .int .i64 (x 24)]) := by rw [e0]; have := bk_new (w.alloc (.cells #[.int .i64 c, .int .i64 d] 43)) 53 [.int .i64 3, .int .i64 (x 1), .int .i64 (x 2), .int .i64 (x 3), .int .i64 (x 4), .int .i64 (x 5), .int .i64 (x 6), .int .i64 (x 7), .int .i64 (x 8), .int .i64 (x 9), .int .i64 (x 10), .int .i64 (x 11), .int .i64 (x 12), .int .i64 (x 13), .int .i64 (x 14), .int .i64 (x 15), .int .i64 (x 16), .int .i64 (x 17), .int .i64 (x 18), .int .i64 (x 19), .int .i64 (x 20), .int .i64 (x 21), .int .i64 (x 22), .int .i64 (x 23), .int .i64 (x 24)]; rwa [show (w.alloc (.cells #[.int .i64 c, .int .i64 d] 43)).heap.size = w.heap.size + 1 by simp] at this
  rw [← e0]
  clear e0
  refine (ok_spec _ _ _).mono ?_
  rintro e w1 ⟨rfl, hb1⟩
  have B4 := hid (bthen B1.out hb1)
  have M4 := hid (M2.out.below hb1)
  have G4 := hid (G3.out.below hb1)
  clear B1 M2 G3
  clear hb1
  obtain ⟨yM0, yM1⟩ := M4.out.a2
  have hlM : w.heap.size < w1.heap.size := M4.out.1
  obtain ⟨yG0, yG1, yG2, yG3, yG4, yG5, yG6, yG7, yG8, yG9, yG10, yG11, yG12, yG13, yG14, yG15, yG16, yG17, yG18, yG19, yG20, yG21, yG22, yG23, yG24⟩ := G4.out.a25
  have hlG : (w.heap.size + 1) < w1.heap.size := G4.out.1
  go_wp2_with (go_at_call 32; refine (in_spec _ _ _ _).mono ?_; rintro e w' ⟨rfl, rfl⟩)
  refine (plcSide_spec _ _ _ _ _).mono ?_
  rintro e w2 ⟨rfl, hb2⟩
  clear yM0 yM1 hlM yG0 yG1 yG2 yG3 yG4 yG5 yG6 yG7 yG8 yG9 yG10 yG11 yG12 yG13 yG14 yG15 yG16 yG17 yG18 yG19 yG20 yG21 yG22 yG23 yG24 hlG
  have B5 := hid (bthen B4.out hb2)
  have M5 := hid (M4.out.below hb2)
  have G5 := hid (G4.out.below hb2)
  clear B4 M4 G4
  clear hb2
  obtain ⟨yM0, yM1⟩ := M5.out.a2
  have hlM : w.heap.size < w2.heap.size := M5.out.1
  obtain ⟨yG0, yG1, yG2, yG3, yG4, yG5, yG6, yG7, yG8, yG9, yG10, yG11, yG12, yG13, yG14, yG15, yG16, yG17, yG18, yG19, yG20, yG21, yG22, yG23, yG24⟩ := G5.out.a25
  have hlG : (w.heap.size + 1) < w2.heap.size := G5.out.1
  go_wp2_with (go_at_call 32; refine (in_spec _ _ _ _).mono ?_; rintro e w' ⟨rfl, rfl⟩)
  go_ret
  exact ⟨by simp [msgB, toB, kindM, hok, hsv, hce, hsi, show (x 1 == -1) = true from by simpa using hto, hc0, hc1], by repeat (first | exact B5.out | apply Below.drew)⟩
set_option maxRecDepth 100000 in
set_option maxHeartbeats 4000000 in
theorem kind3_2 (c d sv : Int) (x : Nat → Int) (hok : okB c d = true) (hsv : inB sv 1 3 = true) (hce : inB (x 2) 0 (c - 1) = true) (hsi : inB (x 3) 0 1 = true) (hto : (x 1 != -1) = false) (hc0 : (x 3 == 0) = true) (hc1 : inB (x 4) 1 9 = true) (hc2 : ordB (x 5) (x 6) (x 7) (x 8) (x 9) = false) (w : World) :
    Calls Tryz.prog 15 #[.agg #[.int .i64 c, .int .i64 d], .int .i64 sv, .agg #[.int .i64 3, .int .i64 (x 1), .int .i64 (x 2), .int .i64 (x 3), .int .i64 (x 4), .int .i64 (x 5), .int .i64 (x 6), .int .i64 (x 7), .int .i64 (x 8), .int .i64 (x 9), .int .i64 (x 10), .int .i64 (x 11), .int .i64 (x 12), .int .i64 (x 13), .int .i64 (x 14), .int .i64 (x 15), .int .i64 (x 16), .int .i64 (x 17), .int .i64 (x 18), .int .i64 (x 19), .int .i64 (x 20), .int .i64 (x 21), .int .i64 (x 22), .int .i64 (x 23), .int .i64 (x 24)]] w fun e w' => e = .returned (.bool (msgB c d sv 3 x)) ∧ Below w.heap.size w w' := by
  obtain ⟨a1, a2, a3, a4⟩ := okB_bounds hok
  obtain ⟨a5, a6⟩ := inB_true.1 hsv
  go_enter Tryz.func15, Tryz.ntmps15
  go_wp2_with fail
  obtain ⟨w0, e0⟩ : ∃ w0, w0 = (w.alloc (.cells #[.int .i64 c, .int .i64 d] 43)).alloc (.cells #[.int .i64 3, .int .i64 (x 1), .int .i64 (x 2), .int .i64 (x 3), .int .i64 (x 4), .int .i64 (x 5), .int .i64 (x 6), .int .i64 (x 7), .int .i64 (x 8), .int .i64 (x 9), .int .i64 (x 10), .int .i64 (x 11), .int .i64 (x 12), .int .i64 (x 13), .int .i64 (x 14), .int .i64 (x 15), .int .i64 (x 16), .int .i64 (x 17), .int .i64 (x 18), .int .i64 (x 19), .int .i64 (x 20), .int .i64 (x 21), .int .i64 (x 22), .int .i64 (x 23), .int .i64 (x 24)] 53) := ⟨_, rfl⟩
  have B1 : Hid (Below w.heap.size w w0) := by rw [e0]; exact ((Below.refl _ _).alloc (by simp) _).alloc (by simp) _
  have M2 : Hid (Bk w0 w.heap.size [.int .i64 c, .int .i64 d]) := by rw [e0]; exact (bk_new w 43 [.int .i64 c, .int .i64 d]).below ((Below.refl _ _).alloc (Nat.le_refl _) _)
  have G3 : Hid (Bk w0 (w.heap.size + 1) [.int .i64 3, .int .i64 (x 1), .int .i64 (x 2), .int .i64 (x 3), .int .i64 (x 4), .int .i64 (x 5), .int .i64 (x 6), .int .i64 (x 7), .int .i64 (x 8), .int .i64 (x 9), .int .i64 (x 10), .int .i64 (x 11), .int .i64 (x 12), .int .i64 (x 13), .int .i64 (x 14), .int .i64 (x 15), .int .i64 (x 16), .int .i64 (x 17), .int .i64 (x 18), .int .i64 (x 19), .int .i64 (x 20), .int .i64 (x 21), .int .i64 (x 22), .int .i64 (x 23), .int .i64 (x 24)]) := by rw [e0]; have := bk_new (w.alloc (.cells #[.int .i64 c, .int .i64 d] 43)) 53 [.int .i64 3, .int .i64 (x 1), .int .i64 (x 2), .int .i64 (x 3), .int .i64 (x 4), .int .i64 (x 5), .int .i64 (x 6), .int .i64 (x 7), .int .i64 (x 8), .int .i64 (x 9), .int .i64 (x 10), .int .i64 (x 11), .int .i64 (x 12), .int .i64 (x 13), .int .i64 (x 14), .int .i64 (x 15), .int .i64 (x 16), .int .i64 (x 17), .int .i64 (x 18), .int .i64 (x 19), .int .i64 (x 20), .int .i64 (x 21), .int .i64 (x 22), .int .i64 (x 23), .int .i64 (x 24)]; rwa [show (w.alloc (.cells #[.int .i64 c, .int .i64 d] 43)).heap.size = w.heap.size + 1 by simp] at this
  rw [← e0]
  clear e0
  refine (ok_spec _ _ _).mono ?_
  rintro e w1 ⟨rfl, hb1⟩
  have B4 := hid (bthen B1.out hb1)
  have M4 := hid (M2.out.below hb1)
  have G4 := hid (G3.out.below hb1)
  clear B1 M2 G3
  clear hb1
  obtain ⟨yM0, yM1⟩ := M4.out.a2
  have hlM : w.heap.size < w1.heap.size := M4.out.1
  obtain ⟨yG0, yG1, yG2, yG3, yG4, yG5, yG6, yG7, yG8, yG9, yG10, yG11, yG12, yG13, yG14, yG15, yG16, yG17, yG18, yG19, yG20, yG21, yG22, yG23, yG24⟩ := G4.out.a25
  have hlG : (w.heap.size + 1) < w1.heap.size := G4.out.1
  go_wp2_with (go_at_call 32; refine (in_spec _ _ _ _).mono ?_; rintro e w' ⟨rfl, rfl⟩)
  refine (plcSide_spec _ _ _ _ _).mono ?_
  rintro e w2 ⟨rfl, hb2⟩
  clear yM0 yM1 hlM yG0 yG1 yG2 yG3 yG4 yG5 yG6 yG7 yG8 yG9 yG10 yG11 yG12 yG13 yG14 yG15 yG16 yG17 yG18 yG19 yG20 yG21 yG22 yG23 yG24 hlG
  have B5 := hid (bthen B4.out hb2)
  have M5 := hid (M4.out.below hb2)
  have G5 := hid (G4.out.below hb2)
  clear B4 M4 G4
  clear hb2
  obtain ⟨yM0, yM1⟩ := M5.out.a2
  have hlM : w.heap.size < w2.heap.size := M5.out.1
  obtain ⟨yG0, yG1, yG2, yG3, yG4, yG5, yG6, yG7, yG8, yG9, yG10, yG11, yG12, yG13, yG14, yG15, yG16, yG17, yG18, yG19, yG20, yG21, yG22, yG23, yG24⟩ := G5.out.a25
  have hlG : (w.heap.size + 1) < w2.heap.size := G5.out.1
  go_wp2_with (go_at_call 32; refine (in_spec _ _ _ _).mono ?_; rintro e w' ⟨rfl, rfl⟩)
  refine (ordOk_spec _ _ _ _ _ _).mono ?_
  rintro e w3 ⟨rfl, hb3⟩
  clear yM0 yM1 hlM yG0 yG1 yG2 yG3 yG4 yG5 yG6 yG7 yG8 yG9 yG10 yG11 yG12 yG13 yG14 yG15 yG16 yG17 yG18 yG19 yG20 yG21 yG22 yG23 yG24 hlG
  have B6 := hid (bthen B5.out hb3)
  have M6 := hid (M5.out.below hb3)
  have G6 := hid (G5.out.below hb3)
  clear B5 M5 G5
  clear hb3
  obtain ⟨yM0, yM1⟩ := M6.out.a2
  have hlM : w.heap.size < w3.heap.size := M6.out.1
  obtain ⟨yG0, yG1, yG2, yG3, yG4, yG5, yG6, yG7, yG8, yG9, yG10, yG11, yG12, yG13, yG14, yG15, yG16, yG17, yG18, yG19, yG20, yG21, yG22, yG23, yG24⟩ := G6.out.a25
  have hlG : (w.heap.size + 1) < w3.heap.size := G6.out.1
  go_wp2
  go_ret
  exact ⟨by simp [msgB, toB, kindM, hok, hsv, hce, hsi, show (x 1 == -1) = true from by simpa using hto, hc0, hc1, hc2], by repeat (first | exact B6.out | apply Below.drew)⟩
set_option maxRecDepth 100000 in
set_option maxHeartbeats 4000000 in
theorem kind3_3 (c d sv : Int) (x : Nat → Int) (hok : okB c d = true) (hsv : inB sv 1 3 = true) (hce : inB (x 2) 0 (c - 1) = true) (hsi : inB (x 3) 0 1 = true) (hto : (x 1 != -1) = false) (hc0 : (x 3 == 0) = true) (hc1 : inB (x 4) 1 9 = true) (hc2 : ordB (x 5) (x 6) (x 7) (x 8) (x 9) = true) (w : World) :
    Calls Tryz.prog 15 #[.agg #[.int .i64 c, .int .i64 d], .int .i64 sv, .agg #[.int .i64 3, .int .i64 (x 1), .int .i64 (x 2), .int .i64 (x 3), .int .i64 (x 4), .int .i64 (x 5), .int .i64 (x 6), .int .i64 (x 7), .int .i64 (x 8), .int .i64 (x 9), .int .i64 (x 10), .int .i64 (x 11), .int .i64 (x 12), .int .i64 (x 13), .int .i64 (x 14), .int .i64 (x 15), .int .i64 (x 16), .int .i64 (x 17), .int .i64 (x 18), .int .i64 (x 19), .int .i64 (x 20), .int .i64 (x 21), .int .i64 (x 22), .int .i64 (x 23), .int .i64 (x 24)]] w fun e w' => e = .returned (.bool (msgB c d sv 3 x)) ∧ Below w.heap.size w w' := by
  obtain ⟨a1, a2, a3, a4⟩ := okB_bounds hok
  obtain ⟨a5, a6⟩ := inB_true.1 hsv
  go_enter Tryz.func15, Tryz.ntmps15
  go_wp2_with fail
  obtain ⟨w0, e0⟩ : ∃ w0, w0 = (w.alloc (.cells #[.int .i64 c, .int .i64 d] 43)).alloc (.cells #[.int .i64 3, .int .i64 (x 1), .int .i64 (x 2), .int .i64 (x 3), .int .i64 (x 4), .int .i64 (x 5), .int .i64 (x 6), .int .i64 (x 7), .int .i64 (x 8), .int .i64 (x 9), .int .i64 (x 10), .int .i64 (x 11), .int .i64 (x 12), .int .i64 (x 13), .int .i64 (x 14), .int .i64 (x 15), .int .i64 (x 16), .int .i64 (x 17), .int .i64 (x 18), .int .i64 (x 19), .int .i64 (x 20), .int .i64 (x 21), .int .i64 (x 22), .int .i64 (x 23), .int .i64 (x 24)] 53) := ⟨_, rfl⟩
  have B1 : Hid (Below w.heap.size w w0) := by rw [e0]; exact ((Below.refl _ _).alloc (by simp) _).alloc (by simp) _
  have M2 : Hid (Bk w0 w.heap.size [.int .i64 c, .int .i64 d]) := by rw [e0]; exact (bk_new w 43 [.int .i64 c, .int .i64 d]).below ((Below.refl _ _).alloc (Nat.le_refl _) _)
  have G3 : Hid (Bk w0 (w.heap.size + 1) [.int .i64 3, .int .i64 (x 1), .int .i64 (x 2), .int .i64 (x 3), .int .i64 (x 4), .int .i64 (x 5), .int .i64 (x 6), .int .i64 (x 7), .int .i64 (x 8), .int .i64 (x 9), .int .i64 (x 10), .int .i64 (x 11), .int .i64 (x 12), .int .i64 (x 13), .int .i64 (x 14), .int .i64 (x 15), .int .i64 (x 16), .int .i64 (x 17), .int .i64 (x 18), .int .i64 (x 19), .int .i64 (x 20), .int .i64 (x 21), .int .i64 (x 22), .int .i64 (x 23), .int .i64 (x 24)]) := by rw [e0]; have := bk_new (w.alloc (.cells #[.int .i64 c, .int .i64 d] 43)) 53 [.int .i64 3, .int .i64 (x 1), .int .i64 (x 2), .int .i64 (x 3), .int .i64 (x 4), .int .i64 (x 5), .int .i64 (x 6), .int .i64 (x 7), .int .i64 (x 8), .int .i64 (x 9), .int .i64 (x 10), .int .i64 (x 11), .int .i64 (x 12), .int .i64 (x 13), .int .i64 (x 14), .int .i64 (x 15), .int .i64 (x 16), .int .i64 (x 17), .int .i64 (x 18), .int .i64 (x 19), .int .i64 (x 20), .int .i64 (x 21), .int .i64 (x 22), .int .i64 (x 23), .int .i64 (x 24)]; rwa [show (w.alloc (.cells #[.int .i64 c, .int .i64 d] 43)).heap.size = w.heap.size + 1 by simp] at this
  rw [← e0]
  clear e0
  refine (ok_spec _ _ _).mono ?_
  rintro e w1 ⟨rfl, hb1⟩
  have B4 := hid (bthen B1.out hb1)
  have M4 := hid (M2.out.below hb1)
  have G4 := hid (G3.out.below hb1)
  clear B1 M2 G3
  clear hb1
  obtain ⟨yM0, yM1⟩ := M4.out.a2
  have hlM : w.heap.size < w1.heap.size := M4.out.1
  obtain ⟨yG0, yG1, yG2, yG3, yG4, yG5, yG6, yG7, yG8, yG9, yG10, yG11, yG12, yG13, yG14, yG15, yG16, yG17, yG18, yG19, yG20, yG21, yG22, yG23, yG24⟩ := G4.out.a25
  have hlG : (w.heap.size + 1) < w1.heap.size := G4.out.1
  go_wp2_with (go_at_call 32; refine (in_spec _ _ _ _).mono ?_; rintro e w' ⟨rfl, rfl⟩)
  refine (plcSide_spec _ _ _ _ _).mono ?_
  rintro e w2 ⟨rfl, hb2⟩
  clear yM0 yM1 hlM yG0 yG1 yG2 yG3 yG4 yG5 yG6 yG7 yG8 yG9 yG10 yG11 yG12 yG13 yG14 yG15 yG16 yG17 yG18 yG19 yG20 yG21 yG22 yG23 yG24 hlG
  have B5 := hid (bthen B4.out hb2)
  have M5 := hid (M4.out.below hb2)
  have G5 := hid (G4.out.below hb2)
  clear B4 M4 G4
  clear hb2
  obtain ⟨yM0, yM1⟩ := M5.out.a2
  have hlM : w.heap.size < w2.heap.size := M5.out.1
  obtain ⟨yG0, yG1, yG2, yG3, yG4, yG5, yG6, yG7, yG8, yG9, yG10, yG11, yG12, yG13, yG14, yG15, yG16, yG17, yG18, yG19, yG20, yG21, yG22, yG23, yG24⟩ := G5.out.a25
  have hlG : (w.heap.size + 1) < w2.heap.size := G5.out.1
  go_wp2_with (go_at_call 32; refine (in_spec _ _ _ _).mono ?_; rintro e w' ⟨rfl, rfl⟩)
  refine (ordOk_spec _ _ _ _ _ _).mono ?_
  rintro e w3 ⟨rfl, hb3⟩
  clear yM0 yM1 hlM yG0 yG1 yG2 yG3 yG4 yG5 yG6 yG7 yG8 yG9 yG10 yG11 yG12 yG13 yG14 yG15 yG16 yG17 yG18 yG19 yG20 yG21 yG22 yG23 yG24 hlG
  have B6 := hid (bthen B5.out hb3)
  have M6 := hid (M5.out.below hb3)
  have G6 := hid (G5.out.below hb3)
  clear B5 M5 G5
  clear hb3
  obtain ⟨yM0, yM1⟩ := M6.out.a2
  have hlM : w.heap.size < w3.heap.size := M6.out.1
  obtain ⟨yG0, yG1, yG2, yG3, yG4, yG5, yG6, yG7, yG8, yG9, yG10, yG11, yG12, yG13, yG14, yG15, yG16, yG17, yG18, yG19, yG20, yG21, yG22, yG23, yG24⟩ := G6.out.a25
  have hlG : (w.heap.size + 1) < w3.heap.size := G6.out.1
  go_wp2_with (go_at_call 32; refine (in_spec _ _ _ _).mono ?_; rintro e w' ⟨rfl, rfl⟩)
  refine (bare_spec _ _ _ _ x _).mono ?_
  rintro e w4 ⟨rfl, hb4⟩
  clear yM0 yM1 hlM yG0 yG1 yG2 yG3 yG4 yG5 yG6 yG7 yG8 yG9 yG10 yG11 yG12 yG13 yG14 yG15 yG16 yG17 yG18 yG19 yG20 yG21 yG22 yG23 yG24 hlG
  have B7 := hid (bthen B6.out hb4)
  have M7 := hid (M6.out.below hb4)
  have G7 := hid (G6.out.below hb4)
  clear B6 M6 G6
  clear hb4
  go_wp2
  go_ret
  exact ⟨by simp [msgB, toB, kindM, hok, hsv, hce, hsi, show (x 1 == -1) = true from by simpa using hto, hc0, hc1, hc2], by repeat (first | exact B7.out | apply Below.drew)⟩
set_option maxRecDepth 100000 in
set_option maxHeartbeats 4000000 in
theorem kind4_0 (c d sv : Int) (x : Nat → Int) (hok : okB c d = true) (hsv : inB sv 1 3 = true) (hce : inB (x 2) 0 (c - 1) = true) (hsi : inB (x 3) 0 1 = true) (hto : (x 1 != -1) = false) (hc0 : (x 3 == 0) = false) (w : World) :
    Calls Tryz.prog 15 #[.agg #[.int .i64 c, .int .i64 d], .int .i64 sv, .agg #[.int .i64 4, .int .i64 (x 1), .int .i64 (x 2), .int .i64 (x 3), .int .i64 (x 4), .int .i64 (x 5), .int .i64 (x 6), .int .i64 (x 7), .int .i64 (x 8), .int .i64 (x 9), .int .i64 (x 10), .int .i64 (x 11), .int .i64 (x 12), .int .i64 (x 13), .int .i64 (x 14), .int .i64 (x 15), .int .i64 (x 16), .int .i64 (x 17), .int .i64 (x 18), .int .i64 (x 19), .int .i64 (x 20), .int .i64 (x 21), .int .i64 (x 22), .int .i64 (x 23), .int .i64 (x 24)]] w fun e w' => e = .returned (.bool (msgB c d sv 4 x)) ∧ Below w.heap.size w w' := by
  obtain ⟨a1, a2, a3, a4⟩ := okB_bounds hok
  obtain ⟨a5, a6⟩ := inB_true.1 hsv
  go_enter Tryz.func15, Tryz.ntmps15
  go_wp2_with fail
  obtain ⟨w0, e0⟩ : ∃ w0, w0 = (w.alloc (.cells #[.int .i64 c, .int .i64 d] 43)).alloc (.cells #[.int .i64 4, .int .i64 (x 1), .int .i64 (x 2), .int .i64 (x 3), .int .i64 (x 4), .int .i64 (x 5), .int .i64 (x 6), .int .i64 (x 7), .int .i64 (x 8), .int .i64 (x 9), .int .i64 (x 10), .int .i64 (x 11), .int .i64 (x 12), .int .i64 (x 13), .int .i64 (x 14), .int .i64 (x 15), .int .i64 (x 16), .int .i64 (x 17), .int .i64 (x 18), .int .i64 (x 19), .int .i64 (x 20), .int .i64 (x 21), .int .i64 (x 22), .int .i64 (x 23), .int .i64 (x 24)] 53) := ⟨_, rfl⟩
  have B1 : Hid (Below w.heap.size w w0) := by rw [e0]; exact ((Below.refl _ _).alloc (by simp) _).alloc (by simp) _
  have M2 : Hid (Bk w0 w.heap.size [.int .i64 c, .int .i64 d]) := by rw [e0]; exact (bk_new w 43 [.int .i64 c, .int .i64 d]).below ((Below.refl _ _).alloc (Nat.le_refl _) _)
  have G3 : Hid (Bk w0 (w.heap.size + 1) [.int .i64 4, .int .i64 (x 1), .int .i64 (x 2), .int .i64 (x 3), .int .i64 (x 4), .int .i64 (x 5), .int .i64 (x 6), .int .i64 (x 7), .int .i64 (x 8), .int .i64 (x 9), .int .i64 (x 10), .int .i64 (x 11), .int .i64 (x 12), .int .i64 (x 13), .int .i64 (x 14), .int .i64 (x 15), .int .i64 (x 16), .int .i64 (x 17), .int .i64 (x 18), .int .i64 (x 19), .int .i64 (x 20), .int .i64 (x 21), .int .i64 (x 22), .int .i64 (x 23), .int .i64 (x 24)]) := by rw [e0]; have := bk_new (w.alloc (.cells #[.int .i64 c, .int .i64 d] 43)) 53 [.int .i64 4, .int .i64 (x 1), .int .i64 (x 2), .int .i64 (x 3), .int .i64 (x 4), .int .i64 (x 5), .int .i64 (x 6), .int .i64 (x 7), .int .i64 (x 8), .int .i64 (x 9), .int .i64 (x 10), .int .i64 (x 11), .int .i64 (x 12), .int .i64 (x 13), .int .i64 (x 14), .int .i64 (x 15), .int .i64 (x 16), .int .i64 (x 17), .int .i64 (x 18), .int .i64 (x 19), .int .i64 (x 20), .int .i64 (x 21), .int .i64 (x 22), .int .i64 (x 23), .int .i64 (x 24)]; rwa [show (w.alloc (.cells #[.int .i64 c, .int .i64 d] 43)).heap.size = w.heap.size + 1 by simp] at this
  rw [← e0]
  clear e0
  refine (ok_spec _ _ _).mono ?_
  rintro e w1 ⟨rfl, hb1⟩
  have B4 := hid (bthen B1.out hb1)
  have M4 := hid (M2.out.below hb1)
  have G4 := hid (G3.out.below hb1)
  clear B1 M2 G3
  clear hb1
  obtain ⟨yM0, yM1⟩ := M4.out.a2
  have hlM : w.heap.size < w1.heap.size := M4.out.1
  obtain ⟨yG0, yG1, yG2, yG3, yG4, yG5, yG6, yG7, yG8, yG9, yG10, yG11, yG12, yG13, yG14, yG15, yG16, yG17, yG18, yG19, yG20, yG21, yG22, yG23, yG24⟩ := G4.out.a25
  have hlG : (w.heap.size + 1) < w1.heap.size := G4.out.1
  go_wp2_with (go_at_call 32; refine (in_spec _ _ _ _).mono ?_; rintro e w' ⟨rfl, rfl⟩)
  refine (plcSide_spec _ _ _ _ _).mono ?_
  rintro e w2 ⟨rfl, hb2⟩
  clear yM0 yM1 hlM yG0 yG1 yG2 yG3 yG4 yG5 yG6 yG7 yG8 yG9 yG10 yG11 yG12 yG13 yG14 yG15 yG16 yG17 yG18 yG19 yG20 yG21 yG22 yG23 yG24 hlG
  have B5 := hid (bthen B4.out hb2)
  have M5 := hid (M4.out.below hb2)
  have G5 := hid (G4.out.below hb2)
  clear B4 M4 G4
  clear hb2
  obtain ⟨yM0, yM1⟩ := M5.out.a2
  have hlM : w.heap.size < w2.heap.size := M5.out.1
  obtain ⟨yG0, yG1, yG2, yG3, yG4, yG5, yG6, yG7, yG8, yG9, yG10, yG11, yG12, yG13, yG14, yG15, yG16, yG17, yG18, yG19, yG20, yG21, yG22, yG23, yG24⟩ := G5.out.a25
  have hlG : (w.heap.size + 1) < w2.heap.size := G5.out.1
  go_wp2_with (go_at_call 32; refine (in_spec _ _ _ _).mono ?_; rintro e w' ⟨rfl, rfl⟩)
  go_ret
  exact ⟨by simp [msgB, toB, kindM, hok, hsv, hce, hsi, show (x 1 == -1) = true from by simpa using hto, hc0], by repeat (first | exact B5.out | apply Below.drew)⟩
set_option maxRecDepth 100000 in
set_option maxHeartbeats 4000000 in
theorem kind4_1 (c d sv : Int) (x : Nat → Int) (hok : okB c d = true) (hsv : inB sv 1 3 = true) (hce : inB (x 2) 0 (c - 1) = true) (hsi : inB (x 3) 0 1 = true) (hto : (x 1 != -1) = false) (hc0 : (x 3 == 0) = true) (hc1 : (x 4 == 0) = false) (w : World) :
    Calls Tryz.prog 15 #[.agg #[.int .i64 c, .int .i64 d], .int .i64 sv, .agg #[.int .i64 4, .int .i64 (x 1), .int .i64 (x 2), .int .i64 (x 3), .int .i64 (x 4), .int .i64 (x 5), .int .i64 (x 6), .int .i64 (x 7), .int .i64 (x 8), .int .i64 (x 9), .int .i64 (x 10), .int .i64 (x 11), .int .i64 (x 12), .int .i64 (x 13), .int .i64 (x 14), .int .i64 (x 15), .int .i64 (x 16), .int .i64 (x 17), .int .i64 (x 18), .int .i64 (x 19), .int .i64 (x 20), .int .i64 (x 21), .int .i64 (x 22), .int .i64 (x 23), .int .i64 (x 24)]] w fun e w' => e = .returned (.bool (msgB c d sv 4 x)) ∧ Below w.heap.size w w' := by
  obtain ⟨a1, a2, a3, a4⟩ := okB_bounds hok
  obtain ⟨a5, a6⟩ := inB_true.1 hsv
  go_enter Tryz.func15, Tryz.ntmps15
  go_wp2_with fail
  obtain ⟨w0, e0⟩ : ∃ w0, w0 = (w.alloc (.cells #[.int .i64 c, .int .i64 d] 43)).alloc (.cells #[.int .i64 4, .int .i64 (x 1), .int .i64 (x 2), .int .i64 (x 3), .int .i64 (x 4), .int .i64 (x 5), .int .i64 (x 6), .int .i64 (x 7), .int .i64 (x 8), .int .i64 (x 9), .int .i64 (x 10), .int .i64 (x 11), .int .i64 (x 12), .int .i64 (x 13), .int .i64 (x 14), .int .i64 (x 15), .int .i64 (x 16), .int .i64 (x 17), .int .i64 (x 18), .int .i64 (x 19), .int .i64 (x 20), .int .i64 (x 21), .int .i64 (x 22), .int .i64 (x 23), .int .i64 (x 24)] 53) := ⟨_, rfl⟩
  have B1 : Hid (Below w.heap.size w w0) := by rw [e0]; exact ((Below.refl _ _).alloc (by simp) _).alloc (by simp) _
  have M2 : Hid (Bk w0 w.heap.size [.int .i64 c, .int .i64 d]) := by rw [e0]; exact (bk_new w 43 [.int .i64 c, .int .i64 d]).below ((Below.refl _ _).alloc (Nat.le_refl _) _)
  have G3 : Hid (Bk w0 (w.heap.size + 1) [.int .i64 4, .int .i64 (x 1), .int .i64 (x 2), .int .i64 (x 3), .int .i64 (x 4), .int .i64 (x 5), .int .i64 (x 6), .int .i64 (x 7), .int .i64 (x 8), .int .i64 (x 9), .int .i64 (x 10), .int .i64 (x 11), .int .i64 (x 12), .int .i64 (x 13), .int .i64 (x 14), .int .i64 (x 15), .int .i64 (x 16), .int .i64 (x 17), .int .i64 (x 18), .int .i64 (x 19), .int .i64 (x 20), .int .i64 (x 21), .int .i64 (x 22), .int .i64 (x 23), .int .i64 (x 24)]) := by rw [e0]; have := bk_new (w.alloc (.cells #[.int .i64 c, .int .i64 d] 43)) 53 [.int .i64 4, .int .i64 (x 1), .int .i64 (x 2), .int .i64 (x 3), .int .i64 (x 4), .int .i64 (x 5), .int .i64 (x 6), .int .i64 (x 7), .int .i64 (x 8), .int .i64 (x 9), .int .i64 (x 10), .int .i64 (x 11), .int .i64 (x 12), .int .i64 (x 13), .int .i64 (x 14), .int .i64 (x 15), .int .i64 (x 16), .int .i64 (x 17), .int .i64 (x 18), .int .i64 (x 19), .int .i64 (x 20), .int .i64 (x 21), .int .i64 (x 22), .int .i64 (x 23), .int .i64 (x 24)]; rwa [show (w.alloc (.cells #[.int .i64 c, .int .i64 d] 43)).heap.size = w.heap.size + 1 by simp] at this
  rw [← e0]
  clear e0
  refine (ok_spec _ _ _).mono ?_
  rintro e w1 ⟨rfl, hb1⟩
  have B4 := hid (bthen B1.out hb1)
  have M4 := hid (M2.out.below hb1)
  have G4 := hid (G3.out.below hb1)
  clear B1 M2 G3
  clear hb1
  obtain ⟨yM0, yM1⟩ := M4.out.a2
  have hlM : w.heap.size < w1.heap.size := M4.out.1
  obtain ⟨yG0, yG1, yG2, yG3, yG4, yG5, yG6, yG7, yG8, yG9, yG10, yG11, yG12, yG13, yG14, yG15, yG16, yG17, yG18, yG19, yG20, yG21, yG22, yG23, yG24⟩ := G4.out.a25
  have hlG : (w.heap.size + 1) < w1.heap.size := G4.out.1
  go_wp2_with (go_at_call 32; refine (in_spec _ _ _ _).mono ?_; rintro e w' ⟨rfl, rfl⟩)
  refine (plcSide_spec _ _ _ _ _).mono ?_
  rintro e w2 ⟨rfl, hb2⟩
  clear yM0 yM1 hlM yG0 yG1 yG2 yG3 yG4 yG5 yG6 yG7 yG8 yG9 yG10 yG11 yG12 yG13 yG14 yG15 yG16 yG17 yG18 yG19 yG20 yG21 yG22 yG23 yG24 hlG
  have B5 := hid (bthen B4.out hb2)
  have M5 := hid (M4.out.below hb2)
  have G5 := hid (G4.out.below hb2)
  clear B4 M4 G4
  clear hb2
  obtain ⟨yM0, yM1⟩ := M5.out.a2
  have hlM : w.heap.size < w2.heap.size := M5.out.1
  obtain ⟨yG0, yG1, yG2, yG3, yG4, yG5, yG6, yG7, yG8, yG9, yG10, yG11, yG12, yG13, yG14, yG15, yG16, yG17, yG18, yG19, yG20, yG21, yG22, yG23, yG24⟩ := G5.out.a25
  have hlG : (w.heap.size + 1) < w2.heap.size := G5.out.1
  go_wp2_with (go_at_call 32; refine (in_spec _ _ _ _).mono ?_; rintro e w' ⟨rfl, rfl⟩)
  go_ret
  exact ⟨by simp [msgB, toB, kindM, hok, hsv, hce, hsi, show (x 1 == -1) = true from by simpa using hto, hc0, hc1], by repeat (first | exact B5.out | apply Below.drew)⟩
set_option maxRecDepth 100000 in
set_option maxHeartbeats 4000000 in
theorem kind4_2 (c d sv : Int) (x : Nat → Int) (hok : okB c d = true) (hsv : inB sv 1 3 = true) (hce : inB (x 2) 0 (c - 1) = true) (hsi : inB (x 3) 0 1 = true) (hto : (x 1 != -1) = false) (hc0 : (x 3 == 0) = true) (hc1 : (x 4 == 0) = true) (hc2 : ordB (x 5) (x 6) (x 7) (x 8) (x 9) = false) (w : World) :
    Calls Tryz.prog 15 #[.agg #[.int .i64 c, .int .i64 d], .int .i64 sv, .agg #[.int .i64 4, .int .i64 (x 1), .int .i64 (x 2), .int .i64 (x 3), .int .i64 (x 4), .int .i64 (x 5), .int .i64 (x 6), .int .i64 (x 7), .int .i64 (x 8), .int .i64 (x 9), .int .i64 (x 10), .int .i64 (x 11), .int .i64 (x 12), .int .i64 (x 13), .int .i64 (x 14), .int .i64 (x 15), .int .i64 (x 16), .int .i64 (x 17), .int .i64 (x 18), .int .i64 (x 19), .int .i64 (x 20), .int .i64 (x 21), .int .i64 (x 22), .int .i64 (x 23), .int .i64 (x 24)]] w fun e w' => e = .returned (.bool (msgB c d sv 4 x)) ∧ Below w.heap.size w w' := by
  obtain ⟨a1, a2, a3, a4⟩ := okB_bounds hok
  obtain ⟨a5, a6⟩ := inB_true.1 hsv
  go_enter Tryz.func15, Tryz.ntmps15
  go_wp2_with fail
  obtain ⟨w0, e0⟩ : ∃ w0, w0 = (w.alloc (.cells #[.int .i64 c, .int .i64 d] 43)).alloc (.cells #[.int .i64 4, .int .i64 (x 1), .int .i64 (x 2), .int .i64 (x 3), .int .i64 (x 4), .int .i64 (x 5), .int .i64 (x 6), .int .i64 (x 7), .int .i64 (x 8), .int .i64 (x 9), .int .i64 (x 10), .int .i64 (x 11), .int .i64 (x 12), .int .i64 (x 13), .int .i64 (x 14), .int .i64 (x 15), .int .i64 (x 16), .int .i64 (x 17), .int .i64 (x 18), .int .i64 (x 19), .int .i64 (x 20), .int .i64 (x 21), .int .i64 (x 22), .int .i64 (x 23), .int .i64 (x 24)] 53) := ⟨_, rfl⟩
  have B1 : Hid (Below w.heap.size w w0) := by rw [e0]; exact ((Below.refl _ _).alloc (by simp) _).alloc (by simp) _
  have M2 : Hid (Bk w0 w.heap.size [.int .i64 c, .int .i64 d]) := by rw [e0]; exact (bk_new w 43 [.int .i64 c, .int .i64 d]).below ((Below.refl _ _).alloc (Nat.le_refl _) _)
  have G3 : Hid (Bk w0 (w.heap.size + 1) [.int .i64 4, .int .i64 (x 1), .int .i64 (x 2), .int .i64 (x 3), .int .i64 (x 4), .int .i64 (x 5), .int .i64 (x 6), .int .i64 (x 7), .int .i64 (x 8), .int .i64 (x 9), .int .i64 (x 10), .int .i64 (x 11), .int .i64 (x 12), .int .i64 (x 13), .int .i64 (x 14), .int .i64 (x 15), .int .i64 (x 16), .int .i64 (x 17), .int .i64 (x 18), .int .i64 (x 19), .int .i64 (x 20), .int .i64 (x 21), .int .i64 (x 22), .int .i64 (x 23), .int .i64 (x 24)]) := by rw [e0]; have := bk_new (w.alloc (.cells #[.int .i64 c, .int .i64 d] 43)) 53 [.int .i64 4, .int .i64 (x 1), .int .i64 (x 2), .int .i64 (x 3), .int .i64 (x 4), .int .i64 (x 5), .int .i64 (x 6), .int .i64 (x 7), .int .i64 (x 8), .int .i64 (x 9), .int .i64 (x 10), .int .i64 (x 11), .int .i64 (x 12), .int .i64 (x 13), .int .i64 (x 14), .int .i64 (x 15), .int .i64 (x 16), .int .i64 (x 17), .int .i64 (x 18), .int .i64 (x 19), .int .i64 (x 20), .int .i64 (x 21), .int .i64 (x 22), .int .i64 (x 23), .int .i64 (x 24)]; rwa [show (w.alloc (.cells #[.int .i64 c, .int .i64 d] 43)).heap.size = w.heap.size + 1 by simp] at this
  rw [← e0]
  clear e0
  refine (ok_spec _ _ _).mono ?_
  rintro e w1 ⟨rfl, hb1⟩
  have B4 := hid (bthen B1.out hb1)
  have M4 := hid (M2.out.below hb1)
  have G4 := hid (G3.out.below hb1)
  clear B1 M2 G3
  clear hb1
  obtain ⟨yM0, yM1⟩ := M4.out.a2
  have hlM : w.heap.size < w1.heap.size := M4.out.1
  obtain ⟨yG0, yG1, yG2, yG3, yG4, yG5, yG6, yG7, yG8, yG9, yG10, yG11, yG12, yG13, yG14, yG15, yG16, yG17, yG18, yG19, yG20, yG21, yG22, yG23, yG24⟩ := G4.out.a25
  have hlG : (w.heap.size + 1) < w1.heap.size := G4.out.1
  go_wp2_with (go_at_call 32; refine (in_spec _ _ _ _).mono ?_; rintro e w' ⟨rfl, rfl⟩)
  refine (plcSide_spec _ _ _ _ _).mono ?_
  rintro e w2 ⟨rfl, hb2⟩
  clear yM0 yM1 hlM yG0 yG1 yG2 yG3 yG4 yG5 yG6 yG7 yG8 yG9 yG10 yG11 yG12 yG13 yG14 yG15 yG16 yG17 yG18 yG19 yG20 yG21 yG22 yG23 yG24 hlG
  have B5 := hid (bthen B4.out hb2)
  have M5 := hid (M4.out.below hb2)
  have G5 := hid (G4.out.below hb2)
  clear B4 M4 G4
  clear hb2
  obtain ⟨yM0, yM1⟩ := M5.out.a2
  have hlM : w.heap.size < w2.heap.size := M5.out.1
  obtain ⟨yG0, yG1, yG2, yG3, yG4, yG5, yG6, yG7, yG8, yG9, yG10, yG11, yG12, yG13, yG14, yG15, yG16, yG17, yG18, yG19, yG20, yG21, yG22, yG23, yG24⟩ := G5.out.a25
  have hlG : (w.heap.size + 1) < w2.heap.size := G5.out.1
  go_wp2_with (go_at_call 32; refine (in_spec _ _ _ _).mono ?_; rintro e w' ⟨rfl, rfl⟩)
  refine (ordOk_spec _ _ _ _ _ _).mono ?_
  rintro e w3 ⟨rfl, hb3⟩
  clear yM0 yM1 hlM yG0 yG1 yG2 yG3 yG4 yG5 yG6 yG7 yG8 yG9 yG10 yG11 yG12 yG13 yG14 yG15 yG16 yG17 yG18 yG19 yG20 yG21 yG22 yG23 yG24 hlG
  have B6 := hid (bthen B5.out hb3)
  have M6 := hid (M5.out.below hb3)
  have G6 := hid (G5.out.below hb3)
  clear B5 M5 G5
  clear hb3
  obtain ⟨yM0, yM1⟩ := M6.out.a2
  have hlM : w.heap.size < w3.heap.size := M6.out.1
  obtain ⟨yG0, yG1, yG2, yG3, yG4, yG5, yG6, yG7, yG8, yG9, yG10, yG11, yG12, yG13, yG14, yG15, yG16, yG17, yG18, yG19, yG20, yG21, yG22, yG23, yG24⟩ := G6.out.a25
  have hlG : (w.heap.size + 1) < w3.heap.size := G6.out.1
  go_wp2
  go_ret
  exact ⟨by simp [msgB, toB, kindM, hok, hsv, hce, hsi, show (x 1 == -1) = true from by simpa using hto, hc0, hc1, hc2], by repeat (first | exact B6.out | apply Below.drew)⟩
set_option maxRecDepth 100000 in
set_option maxHeartbeats 4000000 in
theorem kind4_3 (c d sv : Int) (x : Nat → Int) (hok : okB c d = true) (hsv : inB sv 1 3 = true) (hce : inB (x 2) 0 (c - 1) = true) (hsi : inB (x 3) 0 1 = true) (hto : (x 1 != -1) = false) (hc0 : (x 3 == 0) = true) (hc1 : (x 4 == 0) = true) (hc2 : ordB (x 5) (x 6) (x 7) (x 8) (x 9) = true) (w : World) :
    Calls Tryz.prog 15 #[.agg #[.int .i64 c, .int .i64 d], .int .i64 sv, .agg #[.int .i64 4, .int .i64 (x 1), .int .i64 (x 2), .int .i64 (x 3), .int .i64 (x 4), .int .i64 (x 5), .int .i64 (x 6), .int .i64 (x 7), .int .i64 (x 8), .int .i64 (x 9), .int .i64 (x 10), .int .i64 (x 11), .int .i64 (x 12), .int .i64 (x 13), .int .i64 (x 14), .int .i64 (x 15), .int .i64 (x 16), .int .i64 (x 17), .int .i64 (x 18), .int .i64 (x 19), .int .i64 (x 20), .int .i64 (x 21), .int .i64 (x 22), .int .i64 (x 23), .int .i64 (x 24)]] w fun e w' => e = .returned (.bool (msgB c d sv 4 x)) ∧ Below w.heap.size w w' := by
  obtain ⟨a1, a2, a3, a4⟩ := okB_bounds hok
  obtain ⟨a5, a6⟩ := inB_true.1 hsv
  go_enter Tryz.func15, Tryz.ntmps15
  go_wp2_with fail
  obtain ⟨w0, e0⟩ : ∃ w0, w0 = (w.alloc (.cells #[.int .i64 c, .int .i64 d] 43)).alloc (.cells #[.int .i64 4, .int .i64 (x 1), .int .i64 (x 2), .int .i64 (x 3), .int .i64 (x 4), .int .i64 (x 5), .int .i64 (x 6), .int .i64 (x 7), .int .i64 (x 8), .int .i64 (x 9), .int .i64 (x 10), .int .i64 (x 11), .int .i64 (x 12), .int .i64 (x 13), .int .i64 (x 14), .int .i64 (x 15), .int .i64 (x 16), .int .i64 (x 17), .int .i64 (x 18), .int .i64 (x 19), .int .i64 (x 20), .int .i64 (x 21), .int .i64 (x 22), .int .i64 (x 23), .int .i64 (x 24)] 53) := ⟨_, rfl⟩
  have B1 : Hid (Below w.heap.size w w0) := by rw [e0]; exact ((Below.refl _ _).alloc (by simp) _).alloc (by simp) _
  have M2 : Hid (Bk w0 w.heap.size [.int .i64 c, .int .i64 d]) := by rw [e0]; exact (bk_new w 43 [.int .i64 c, .int .i64 d]).below ((Below.refl _ _).alloc (Nat.le_refl _) _)
  have G3 : Hid (Bk w0 (w.heap.size + 1) [.int .i64 4, .int .i64 (x 1), .int .i64 (x 2), .int .i64 (x 3), .int .i64 (x 4), .int .i64 (x 5), .int .i64 (x 6), .int .i64 (x 7), .int .i64 (x 8), .int .i64 (x 9), .int .i64 (x 10), .int .i64 (x 11), .int .i64 (x 12), .int .i64 (x 13), .int .i64 (x 14), .int .i64 (x 15), .int .i64 (x 16), .int .i64 (x 17), .int .i64 (x 18), .int .i64 (x 19), .int .i64 (x 20), .int .i64 (x 21), .int .i64 (x 22), .int .i64 (x 23), .int .i64 (x 24)]) := by rw [e0]; have := bk_new (w.alloc (.cells #[.int .i64 c, .int .i64 d] 43)) 53 [.int .i64 4, .int .i64 (x 1), .int .i64 (x 2), .int .i64 (x 3), .int .i64 (x 4), .int .i64 (x 5), .int .i64 (x 6), .int .i64 (x 7), .int .i64 (x 8), .int .i64 (x 9), .int .i64 (x 10), .int .i64 (x 11), .int .i64 (x 12), .int .i64 (x 13), .int .i64 (x 14), .int .i64 (x 15), .int .i64 (x 16), .int .i64 (x 17), .int .i64 (x 18), .int .i64 (x 19), .int .i64 (x 20), .int .i64 (x 21), .int .i64 (x 22), .int .i64 (x 23), .int .i64 (x 24)]; rwa [show (w.alloc (.cells #[.int .i64 c, .int .i64 d] 43)).heap.size = w.heap.size + 1 by simp] at this
  rw [← e0]
  clear e0
  refine (ok_spec _ _ _).mono ?_
  rintro e w1 ⟨rfl, hb1⟩
  have B4 := hid (bthen B1.out hb1)
  have M4 := hid (M2.out.below hb1)
  have G4 := hid (G3.out.below hb1)
  clear B1 M2 G3
  clear hb1
  obtain ⟨yM0, yM1⟩ := M4.out.a2
  have hlM : w.heap.size < w1.heap.size := M4.out.1
  obtain ⟨yG0, yG1, yG2, yG3, yG4, yG5, yG6, yG7, yG8, yG9, yG10, yG11, yG12, yG13, yG14, yG15, yG16, yG17, yG18, yG19, yG20, yG21, yG22, yG23, yG24⟩ := G4.out.a25
  have hlG : (w.heap.size + 1) < w1.heap.size := G4.out.1
  go_wp2_with (go_at_call 32; refine (in_spec _ _ _ _).mono ?_; rintro e w' ⟨rfl, rfl⟩)
  refine (plcSide_spec _ _ _ _ _).mono ?_
  rintro e w2 ⟨rfl, hb2⟩
  clear yM0 yM1 hlM yG0 yG1 yG2 yG3 yG4 yG5 yG6 yG7 yG8 yG9 yG10 yG11 yG12 yG13 yG14 yG15 yG16 yG17 yG18 yG19 yG20 yG21 yG22 yG23 yG24 hlG
  have B5 := hid (bthen B4.out hb2)
  have M5 := hid (M4.out.below hb2)
  have G5 := hid (G4.out.below hb2)
  clear B4 M4 G4
  clear hb2
  obtain ⟨yM0, yM1⟩ := M5.out.a2
  have hlM : w.heap.size < w2.heap.size := M5.out.1
  obtain ⟨yG0, yG1, yG2, yG3, yG4, yG5, yG6, yG7, yG8, yG9, yG10, yG11, yG12, yG13, yG14, yG15, yG16, yG17, yG18, yG19, yG20, yG21, yG22, yG23, yG24⟩ := G5.out.a25
  have hlG : (w.heap.size + 1) < w2.heap.size := G5.out.1
  go_wp2_with (go_at_call 32; refine (in_spec _ _ _ _).mono ?_; rintro e w' ⟨rfl, rfl⟩)
  refine (ordOk_spec _ _ _ _ _ _).mono ?_
  rintro e w3 ⟨rfl, hb3⟩
  clear yM0 yM1 hlM yG0 yG1 yG2 yG3 yG4 yG5 yG6 yG7 yG8 yG9 yG10 yG11 yG12 yG13 yG14 yG15 yG16 yG17 yG18 yG19 yG20 yG21 yG22 yG23 yG24 hlG
  have B6 := hid (bthen B5.out hb3)
  have M6 := hid (M5.out.below hb3)
  have G6 := hid (G5.out.below hb3)
  clear B5 M5 G5
  clear hb3
  obtain ⟨yM0, yM1⟩ := M6.out.a2
  have hlM : w.heap.size < w3.heap.size := M6.out.1
  obtain ⟨yG0, yG1, yG2, yG3, yG4, yG5, yG6, yG7, yG8, yG9, yG10, yG11, yG12, yG13, yG14, yG15, yG16, yG17, yG18, yG19, yG20, yG21, yG22, yG23, yG24⟩ := G6.out.a25
  have hlG : (w.heap.size + 1) < w3.heap.size := G6.out.1
  go_wp2_with (go_at_call 32; refine (in_spec _ _ _ _).mono ?_; rintro e w' ⟨rfl, rfl⟩)
  refine (bare_spec _ _ _ _ x _).mono ?_
  rintro e w4 ⟨rfl, hb4⟩
  clear yM0 yM1 hlM yG0 yG1 yG2 yG3 yG4 yG5 yG6 yG7 yG8 yG9 yG10 yG11 yG12 yG13 yG14 yG15 yG16 yG17 yG18 yG19 yG20 yG21 yG22 yG23 yG24 hlG
  have B7 := hid (bthen B6.out hb4)
  have M7 := hid (M6.out.below hb4)
  have G7 := hid (G6.out.below hb4)
  clear B6 M6 G6
  clear hb4
  go_wp2
  go_ret
  exact ⟨by simp [msgB, toB, kindM, hok, hsv, hce, hsi, show (x 1 == -1) = true from by simpa using hto, hc0, hc1, hc2], by repeat (first | exact B7.out | apply Below.drew)⟩
end Go.Proofs.YtgjapdjidighlabGreat
