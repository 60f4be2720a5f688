/- MsgOk of the model, in parts; conditions: none. -/
import Derived.Test.YtgjapdjidighlabGreatTk
import Derived.Test.YtgjapdjidighlabGreatMsg1
namespace Go.Proofs.YtgjapdjidighlabGreat
open Go.RowKit Go.Deep
set_option linter.unusedVariables false
attribute [local go_sem ↓] load44_eq
attribute [local go_sem] run_load44 cellD
set_option maxRecDepth 100000 in
set_option maxHeartbeats 4000000 in
theorem kind7_0 (c d sv : Int) (x : Nat → Int) (hok : okB c d = true) (hsv : inB sv 1 3 = true) (hce : inB (x 2) 0 (c - 1) = true) (hsi : inB (x 3) 0 1 = true) (hto : inB (x 1) 0 (sv - 1) = true) (hc0 : (sideF c d (x 2) (x 3) != -1) = false) (w : World) :
    Calls Tryz.prog 15 #[.agg #[.int .i64 c, .int .i64 d], .int .i64 sv, .agg #[.int .i64 7, .int .i64 (x 1), .int .i64 (x 2), .int .i64 (x 3), .int .i64 (x 4), .int .i64 (x 5), .int .i64 (x 6), .int .i64 (x 7), .int .i64 (x 8), .int .i64 (x 9), .int .i64 (x 10), .int .i64 (x 11), .int .i64 (x 12), .int .i64 (x 13), .int .i64 (x 14), .int .i64 (x 15), .int .i64 (x 16), .int .i64 (x 17), .int .i64 (x 18), .int .i64 (x 19), .int .i64 (x 20), .int .i64 (x 21), .int .i64 (x 22), .int .i64 (x 23), .int .i64 (x 24)]] w fun e w' => e = .returned (.bool (msgB c d sv 7 x)) ∧ Below w.heap.size w w' := by
  obtain ⟨a1, a2, a3, a4⟩ := okB_bounds hok
  obtain ⟨a5, a6⟩ := inB_true.1 hsv
  go_enter Tryz.func15, Tryz.ntmps15
  go_wp2_with fail
  obtain ⟨w0, e0⟩ : ∃ w0, w0 = (w.alloc (.cells #[.int .i64 c, .int .i64 d] 43)).alloc (.cells #[.int .i64 7, .int .i64 (x 1), .int .i64 (x 2), .int .i64 (x 3), .int .i64 (x 4), .int .i64 (x 5), .int .i64 (x 6), .int .i64 (x 7), .int .i64 (x 8), .int .i64 (x 9), .int .i64 (x 10), .int .i64 (x 11), .int .i64 (x 12), .int .i64 (x 13), .int .i64 (x 14), .int .i64 (x 15), .int .i64 (x 16), .int .i64 (x 17), .int .i64 (x 18), .int .i64 (x 19), .int .i64 (x 20), .int .i64 (x 21), .int .i64 (x 22), .int .i64 (x 23), .int .i64 (x 24)] 53) := ⟨_, rfl⟩
  have B1 : Hid (Below w.heap.size w w0) := by rw [e0]; exact ((Below.refl _ _).alloc (by simp) _).alloc (by simp) _
  have M2 : Hid (Bk w0 w.heap.size [.int .i64 c, .int .i64 d]) := by rw [e0]; exact (bk_new w 43 [.int .i64 c, .int .i64 d]).below ((Below.refl _ _).alloc (Nat.le_refl _) _)
  have G3 : Hid (Bk w0 (w.heap.size + 1) [.int .i64 7, .int .i64 (x 1), .int .i64 (x 2), .int .i64 (x 3), .int .i64 (x 4), .int .i64 (x 5), .int .i64 (x 6), .int .i64 (x 7), .int .i64 (x 8), .int .i64 (x 9), .int .i64 (x 10), .int .i64 (x 11), .int .i64 (x 12), .int .i64 (x 13), .int .i64 (x 14), .int .i64 (x 15), .int .i64 (x 16), .int .i64 (x 17), .int .i64 (x 18), .int .i64 (x 19), .int .i64 (x 20), .int .i64 (x 21), .int .i64 (x 22), .int .i64 (x 23), .int .i64 (x 24)]) := by rw [e0]; have := bk_new (w.alloc (.cells #[.int .i64 c, .int .i64 d] 43)) 53 [.int .i64 7, .int .i64 (x 1), .int .i64 (x 2), .int .i64 (x 3), .int .i64 (x 4), .int .i64 (x 5), .int .i64 (x 6), .int .i64 (x 7), .int .i64 (x 8), .int .i64 (x 9), .int .i64 (x 10), .int .i64 (x 11), .int .i64 (x 12), .int .i64 (x 13), .int .i64 (x 14), .int .i64 (x 15), .int .i64 (x 16), .int .i64 (x 17), .int .i64 (x 18), .int .i64 (x 19), .int .i64 (x 20), .int .i64 (x 21), .int .i64 (x 22), .int .i64 (x 23), .int .i64 (x 24)]; rwa [show (w.alloc (.cells #[.int .i64 c, .int .i64 d] 43)).heap.size = w.heap.size + 1 by simp] at this
  rw [← e0]
  clear e0
  refine (ok_spec _ _ _).mono ?_
  rintro e w1 ⟨rfl, hb1⟩
  have B4 := hid (bthen B1.out hb1)
  have M4 := hid (M2.out.below hb1)
  have G4 := hid (G3.out.below hb1)
  clear B1 M2 G3
  clear hb1
  obtain ⟨yM0, yM1⟩ := M4.out.a2
  have hlM : w.heap.size < w1.heap.size := M4.out.1
  obtain ⟨yG0, yG1, yG2, yG3, yG4, yG5, yG6, yG7, yG8, yG9, yG10, yG11, yG12, yG13, yG14, yG15, yG16, yG17, yG18, yG19, yG20, yG21, yG22, yG23, yG24⟩ := G4.out.a25
  have hlG : (w.heap.size + 1) < w1.heap.size := G4.out.1
  go_wp2_with (go_at_call 32; refine (in_spec _ _ _ _).mono ?_; rintro e w' ⟨rfl, rfl⟩)
  refine (plcSide_spec _ _ _ _ _).mono ?_
  rintro e w2 ⟨rfl, hb2⟩
  clear yM0 yM1 hlM yG0 yG1 yG2 yG3 yG4 yG5 yG6 yG7 yG8 yG9 yG10 yG11 yG12 yG13 yG14 yG15 yG16 yG17 yG18 yG19 yG20 yG21 yG22 yG23 yG24 hlG
  have B5 := hid (bthen B4.out hb2)
  have M5 := hid (M4.out.below hb2)
  have G5 := hid (G4.out.below hb2)
  clear B4 M4 G4
  clear hb2
  obtain ⟨yM0, yM1⟩ := M5.out.a2
  have hlM : w.heap.size < w2.heap.size := M5.out.1
  obtain ⟨yG0, yG1, yG2, yG3, yG4, yG5, yG6, yG7, yG8, yG9, yG10, yG11, yG12, yG13, yG14, yG15, yG16, yG17, yG18, yG19, yG20, yG21, yG22, yG23, yG24⟩ := G5.out.a25
  have hlG : (w.heap.size + 1) < w2.heap.size := G5.out.1
  go_wp2
  refine wp_region_held_drew (S := fun w' => (∀ b o, b < w2.heap.size → w'.cell? ⟨b, o, none⟩ = w2.cell? ⟨b, o, none⟩) ∧ w2.heap.size ≤ w'.heap.size) (by kernel_rfl) ⟨fun _ _ _ => rfl, Nat.le_refl _⟩ ?_
  intro hHeld
  refine tkl 0 (.bool false) rfl ?_ ?_
  · intro wx hSw; go_simp
  try simp only [Act.put, aS]
  refine tkl 1 (.bool false) rfl ?_ ?_
  · intro wx hSw; go_simp
  try simp only [Act.put, aS]
  refine tkr 2 rfl ?_
  try simp only [Act.put, aS]
  refine tkr 3 rfl ?_
  try simp only [Act.put, aS]
  refine tkr 4 rfl ?_
  try simp only [Act.put, aS]
  refine tkl 5 (.bool false) rfl ?_ ?_
  · intro wx hSw; go_simp
  try simp only [Act.put, aS]
  refine tkl 6 (.bool false) rfl ?_ ?_
  · intro wx hSw; go_simp
  try simp only [Act.put, aS]
  refine tkr 7 rfl ?_
  try simp only [Act.put, aS]
  refine tkr 8 rfl ?_
  try simp only [Act.put, aS]
  refine tkr 9 rfl ?_
  try simp only [Act.put, aS]
  refine tkr 10 rfl ?_
  try simp only [Act.put, aS]
  refine tkl 11 (.bool false) rfl ?_ ?_
  · intro wx hSw; go_simp
  try simp only [Act.put, aS]
  refine tkl 12 (.bool false) rfl ?_ ?_
  · intro wx hSw; go_simp
  try simp only [Act.put, aS]
  refine tkr 13 rfl ?_
  try simp only [Act.put, aS]
  refine tkr 14 rfl ?_
  try simp only [Act.put, aS]
  refine tkr 15 rfl ?_
  try simp only [Act.put, aS]
  refine tkr 16 rfl ?_
  try simp only [Act.put, aS]
  refine tkr 17 rfl ?_
  try simp only [Act.put, aS]
  refine tkr 18 rfl ?_
  try simp only [Act.put, aS]
  refine tkr 19 rfl ?_
  try simp only [Act.put, aS]
  refine tkr 20 rfl ?_
  try simp only [Act.put, aS]
  refine tkr 21 rfl ?_
  try simp only [Act.put, aS]
  refine tkr 22 rfl ?_
  try simp only [Act.put, aS]
  refine tkl 23 (.bool false) rfl ?_ ?_
  · intro wx hSw; go_simp
  try simp only [Act.put, aS]
  refine tkl 24 (.bool false) rfl ?_ ?_
  · intro wx hSw; go_simp
  try simp only [Act.put, aS]
  refine tkr 25 rfl ?_
  try simp only [Act.put, aS]
  refine tkr 26 rfl ?_
  try simp only [Act.put, aS]
  refine tkl 27 (.bool false) rfl ?_ ?_
  · intro wx hSw; go_simp
  try simp only [Act.put, aS]
  refine tkl 28 (.bool false) rfl ?_ ?_
  · intro wx hSw; go_simp
  try simp only [Act.put, aS]
  refine wpAnyH_done (by kernel_rfl) ?_ _
  clear hHeld
  go_wp2
  go_ret
  exact ⟨by simp [msgB, toB, kindM, hok, hsv, hce, hsi, hto, hc0], by repeat (first | exact B5.out | apply Below.drew)⟩
set_option maxRecDepth 100000 in
set_option maxHeartbeats 4000000 in
theorem kind7_1 (c d sv : Int) (x : Nat → Int) (hok : okB c d = true) (hsv : inB sv 1 3 = true) (hce : inB (x 2) 0 (c - 1) = true) (hsi : inB (x 3) 0 1 = true) (hto : inB (x 1) 0 (sv - 1) = true) (hc0 : (sideF c d (x 2) (x 3) != -1) = true) (hc1 : (x 4 == 0) = false) (w : World) :
    Calls Tryz.prog 15 #[.agg #[.int .i64 c, .int .i64 d], .int .i64 sv, .agg #[.int .i64 7, .int .i64 (x 1), .int .i64 (x 2), .int .i64 (x 3), .int .i64 (x 4), .int .i64 (x 5), .int .i64 (x 6), .int .i64 (x 7), .int .i64 (x 8), .int .i64 (x 9), .int .i64 (x 10), .int .i64 (x 11), .int .i64 (x 12), .int .i64 (x 13), .int .i64 (x 14), .int .i64 (x 15), .int .i64 (x 16), .int .i64 (x 17), .int .i64 (x 18), .int .i64 (x 19), .int .i64 (x 20), .int .i64 (x 21), .int .i64 (x 22), .int .i64 (x 23), .int .i64 (x 24)]] w fun e w' => e = .returned (.bool (msgB c d sv 7 x)) ∧ Below w.heap.size w w' := by
  obtain ⟨a1, a2, a3, a4⟩ := okB_bounds hok
  obtain ⟨a5, a6⟩ := inB_true.1 hsv
  go_enter Tryz.func15, Tryz.ntmps15
  go_wp2_with fail
  obtain ⟨w0, e0⟩ : ∃ w0, w0 = (w.alloc (.cells #[.int .i64 c, .int .i64 d] 43)).alloc (.cells #[.int .i64 7, .int .i64 (x 1), .int .i64 (x 2), .int .i64 (x 3), .int .i64 (x 4), .int .i64 (x 5), .int .i64 (x 6), .int .i64 (x 7), .int .i64 (x 8), .int .i64 (x 9), .int .i64 (x 10), .int .i64 (x 11), .int .i64 (x 12), .int .i64 (x 13), .int .i64 (x 14), .int .i64 (x 15), .int .i64 (x 16), .int .i64 (x 17), .int .i64 (x 18), .int .i64 (x 19), .int .i64 (x 20), .int .i64 (x 21), .int .i64 (x 22), .int .i64 (x 23), .int .i64 (x 24)] 53) := ⟨_, rfl⟩
  have B1 : Hid (Below w.heap.size w w0) := by rw [e0]; exact ((Below.refl _ _).alloc (by simp) _).alloc (by simp) _
  have M2 : Hid (Bk w0 w.heap.size [.int .i64 c, .int .i64 d]) := by rw [e0]; exact (bk_new w 43 [.int .i64 c, .int .i64 d]).below ((Below.refl _ _).alloc (Nat.le_refl _) _)
  have G3 : Hid (Bk w0 (w.heap.size + 1) [.int .i64 7, .int .i64 (x 1), .int .i64 (x 2), .int .i64 (x 3), .int .i64 (x 4), .int .i64 (x 5), .int .i64 (x 6), .int .i64 (x 7), .int .i64 (x 8), .int .i64 (x 9), .int .i64 (x 10), .int .i64 (x 11), .int .i64 (x 12), .int .i64 (x 13), .int .i64 (x 14), .int .i64 (x 15), .int .i64 (x 16), .int .i64 (x 17), .int .i64 (x 18), .int .i64 (x 19), .int .i64 (x 20), .int .i64 (x 21), .int .i64 (x 22), .int .i64 (x 23), .int .i64 (x 24)]) := by rw [e0]; have := bk_new (w.alloc (.cells #[.int .i64 c, .int .i64 d] 43)) 53 [.int .i64 7, .int .i64 (x 1), .int .i64 (x 2), .int .i64 (x 3), .int .i64 (x 4), .int .i64 (x 5), .int .i64 (x 6), .int .i64 (x 7), .int .i64 (x 8), .int .i64 (x 9), .int .i64 (x 10), .int .i64 (x 11), .int .i64 (x 12), .int .i64 (x 13), .int .i64 (x 14), .int .i64 (x 15), .int .i64 (x 16), .int .i64 (x 17), .int .i64 (x 18), .int .i64 (x 19), .int .i64 (x 20), .int .i64 (x 21), .int .i64 (x 22), .int .i64 (x 23), .int .i64 (x 24)]; rwa [show (w.alloc (.cells #[.int .i64 c, .int .i64 d] 43)).heap.size = w.heap.size + 1 by simp] at this
  rw [← e0]
  clear e0
  refine (ok_spec _ _ _).mono ?_
  rintro e w1 ⟨rfl, hb1⟩
  have B4 := hid (bthen B1.out hb1)
  have M4 := hid (M2.out.below hb1)
  have G4 := hid (G3.out.below hb1)
  clear B1 M2 G3
  clear hb1
  obtain ⟨yM0, yM1⟩ := M4.out.a2
  have hlM : w.heap.size < w1.heap.size := M4.out.1
  obtain ⟨yG0, yG1, yG2, yG3, yG4, yG5, yG6, yG7, yG8, yG9, yG10, yG11, yG12, yG13, yG14, yG15, yG16, yG17, yG18, yG19, yG20, yG21, yG22, yG23, yG24⟩ := G4.out.a25
  have hlG : (w.heap.size + 1) < w1.heap.size := G4.out.1
  go_wp2_with (go_at_call 32; refine (in_spec _ _ _ _).mono ?_; rintro e w' ⟨rfl, rfl⟩)
  refine (plcSide_spec _ _ _ _ _).mono ?_
  rintro e w2 ⟨rfl, hb2⟩
  clear yM0 yM1 hlM yG0 yG1 yG2 yG3 yG4 yG5 yG6 yG7 yG8 yG9 yG10 yG11 yG12 yG13 yG14 yG15 yG16 yG17 yG18 yG19 yG20 yG21 yG22 yG23 yG24 hlG
  have B5 := hid (bthen B4.out hb2)
  have M5 := hid (M4.out.below hb2)
  have G5 := hid (G4.out.below hb2)
  clear B4 M4 G4
  clear hb2
  obtain ⟨yM0, yM1⟩ := M5.out.a2
  have hlM : w.heap.size < w2.heap.size := M5.out.1
  obtain ⟨yG0, yG1, yG2, yG3, yG4, yG5, yG6, yG7, yG8, yG9, yG10, yG11, yG12, yG13, yG14, yG15, yG16, yG17, yG18, yG19, yG20, yG21, yG22, yG23, yG24⟩ := G5.out.a25
  have hlG : (w.heap.size + 1) < w2.heap.size := G5.out.1
  go_wp2
  refine wp_region_held_drew (S := fun w' => (∀ b o, b < w2.heap.size → w'.cell? ⟨b, o, none⟩ = w2.cell? ⟨b, o, none⟩) ∧ w2.heap.size ≤ w'.heap.size) (by kernel_rfl) ⟨fun _ _ _ => rfl, Nat.le_refl _⟩ ?_
  intro hHeld
  refine tkl 0 (.bool true) rfl ?_ ?_
  · intro wx hSw; go_simp
  try simp only [Act.put, aS]
  refine tkl 1 (.bool true) rfl ?_ ?_
  · intro wx hSw; go_simp
  try simp only [Act.put, aS]
  refine tkl 2 (.pointer (some ⟨(w.heap.size + 1), 4, none⟩)) rfl ?_ ?_
  · intro wx hSw; go_simp
  try simp only [Act.put, aS]
  refine tkl 3 (.int .i64 (x 4)) rfl ?_ ?_
  · intro wx hSw; go_simp
  try simp only [Act.put, aS]
  refine tkl 4 (.bool false) rfl ?_ ?_
  · intro wx hSw; go_simp <;> first | omega | (exact IntWalk.i64_in _ (by omega)) | go_num
  try simp only [Act.put, aS]
  refine tkl 5 (.bool false) rfl ?_ ?_
  · intro wx hSw; go_simp
  try simp only [Act.put, aS]
  refine tkl 6 (.bool false) rfl ?_ ?_
  · intro wx hSw; go_simp
  try simp only [Act.put, aS]
  refine tkr 7 rfl ?_
  try simp only [Act.put, aS]
  refine tkr 8 rfl ?_
  try simp only [Act.put, aS]
  refine tkr 9 rfl ?_
  try simp only [Act.put, aS]
  refine tkr 10 rfl ?_
  try simp only [Act.put, aS]
  refine tkl 11 (.bool false) rfl ?_ ?_
  · intro wx hSw; go_simp
  try simp only [Act.put, aS]
  refine tkl 12 (.bool false) rfl ?_ ?_
  · intro wx hSw; go_simp
  try simp only [Act.put, aS]
  refine tkr 13 rfl ?_
  try simp only [Act.put, aS]
  refine tkr 14 rfl ?_
  try simp only [Act.put, aS]
  refine tkr 15 rfl ?_
  try simp only [Act.put, aS]
  refine tkr 16 rfl ?_
  try simp only [Act.put, aS]
  refine tkr 17 rfl ?_
  try simp only [Act.put, aS]
  refine tkr 18 rfl ?_
  try simp only [Act.put, aS]
  refine tkr 19 rfl ?_
  try simp only [Act.put, aS]
  refine tkr 20 rfl ?_
  try simp only [Act.put, aS]
  refine tkr 21 rfl ?_
  try simp only [Act.put, aS]
  refine tkr 22 rfl ?_
  try simp only [Act.put, aS]
  refine tkl 23 (.bool false) rfl ?_ ?_
  · intro wx hSw; go_simp
  try simp only [Act.put, aS]
  refine tkl 24 (.bool false) rfl ?_ ?_
  · intro wx hSw; go_simp
  try simp only [Act.put, aS]
  refine tkr 25 rfl ?_
  try simp only [Act.put, aS]
  refine tkr 26 rfl ?_
  try simp only [Act.put, aS]
  refine tkl 27 (.bool false) rfl ?_ ?_
  · intro wx hSw; go_simp
  try simp only [Act.put, aS]
  refine tkl 28 (.bool false) rfl ?_ ?_
  · intro wx hSw; go_simp
  try simp only [Act.put, aS]
  refine wpAnyH_done (by kernel_rfl) ?_ _
  clear hHeld
  go_wp2
  go_ret
  exact ⟨by simp [msgB, toB, kindM, hok, hsv, hce, hsi, hto, hc0, hc1], by repeat (first | exact B5.out | apply Below.drew)⟩
set_option maxRecDepth 100000 in
set_option maxHeartbeats 4000000 in
theorem kind7_2 (c d sv : Int) (x : Nat → Int) (hok : okB c d = true) (hsv : inB sv 1 3 = true) (hce : inB (x 2) 0 (c - 1) = true) (hsi : inB (x 3) 0 1 = true) (hto : inB (x 1) 0 (sv - 1) = true) (hc0 : (sideF c d (x 2) (x 3) != -1) = true) (hc1 : (x 4 == 0) = true) (hc2 : gstB c d (x 18) (x 19) (x 20) (x 21) (x 22) (x 23) (x 24) = false) (w : World) :
    Calls Tryz.prog 15 #[.agg #[.int .i64 c, .int .i64 d], .int .i64 sv, .agg #[.int .i64 7, .int .i64 (x 1), .int .i64 (x 2), .int .i64 (x 3), .int .i64 (x 4), .int .i64 (x 5), .int .i64 (x 6), .int .i64 (x 7), .int .i64 (x 8), .int .i64 (x 9), .int .i64 (x 10), .int .i64 (x 11), .int .i64 (x 12), .int .i64 (x 13), .int .i64 (x 14), .int .i64 (x 15), .int .i64 (x 16), .int .i64 (x 17), .int .i64 (x 18), .int .i64 (x 19), .int .i64 (x 20), .int .i64 (x 21), .int .i64 (x 22), .int .i64 (x 23), .int .i64 (x 24)]] w fun e w' => e = .returned (.bool (msgB c d sv 7 x)) ∧ Below w.heap.size w w' := by
  obtain ⟨a1, a2, a3, a4⟩ := okB_bounds hok
  obtain ⟨a5, a6⟩ := inB_true.1 hsv
  go_enter Tryz.func15, Tryz.ntmps15
  go_wp2_with fail
  obtain ⟨w0, e0⟩ : ∃ w0, w0 = (w.alloc (.cells #[.int .i64 c, .int .i64 d] 43)).alloc (.cells #[.int .i64 7, .int .i64 (x 1), .int .i64 (x 2), .int .i64 (x 3), .int .i64 (x 4), .int .i64 (x 5), .int .i64 (x 6), .int .i64 (x 7), .int .i64 (x 8), .int .i64 (x 9), .int .i64 (x 10), .int .i64 (x 11), .int .i64 (x 12), .int .i64 (x 13), .int .i64 (x 14), .int .i64 (x 15), .int .i64 (x 16), .int .i64 (x 17), .int .i64 (x 18), .int .i64 (x 19), .int .i64 (x 20), .int .i64 (x 21), .int .i64 (x 22), .int .i64 (x 23), .int .i64 (x 24)] 53) := ⟨_, rfl⟩
  have B1 : Hid (Below w.heap.size w w0) := by rw [e0]; exact ((Below.refl _ _).alloc (by simp) _).alloc (by simp) _
  have M2 : Hid (Bk w0 w.heap.size [.int .i64 c, .int .i64 d]) := by rw [e0]; exact (bk_new w 43 [.int .i64 c, .int .i64 d]).below ((Below.refl _ _).alloc (Nat.le_refl _) _)
  have G3 : Hid (Bk w0 (w.heap.size + 1) [.int .i64 7, .int .i64 (x 1), .int .i64 (x 2), .int .i64 (x 3), .int .i64 (x 4), .int .i64 (x 5), .int .i64 (x 6), .int .i64 (x 7), .int .i64 (x 8), .int .i64 (x 9), .int .i64 (x 10), .int .i64 (x 11), .int .i64 (x 12), .int .i64 (x 13), .int .i64 (x 14), .int .i64 (x 15), .int .i64 (x 16), .int .i64 (x 17), .int .i64 (x 18), .int .i64 (x 19), .int .i64 (x 20), .int .i64 (x 21), .int .i64 (x 22), .int .i64 (x 23), .int .i64 (x 24)]) := by rw [e0]; have := bk_new (w.alloc (.cells #[.int .i64 c, .int .i64 d] 43)) 53 [.int .i64 7, .int .i64 (x 1), .int .i64 (x 2), .int .i64 (x 3), .int .i64 (x 4), .int .i64 (x 5), .int .i64 (x 6), .int .i64 (x 7), .int .i64 (x 8), .int .i64 (x 9), .int .i64 (x 10), .int .i64 (x 11), .int .i64 (x 12), .int .i64 (x 13), .int .i64 (x 14), .int .i64 (x 15), .int .i64 (x 16), .int .i64 (x 17), .int .i64 (x 18), .int .i64 (x 19), .int .i64 (x 20), .int .i64 (x 21), .int .i64 (x 22), .int .i64 (x 23), .int .i64 (x 24)]; rwa [show (w.alloc (.cells #[.int .i64 c, .int .i64 d] 43)).heap.size = w.heap.size + 1 by simp] at this
  rw [← e0]
  clear e0
  refine (ok_spec _ _ _).mono ?_
  rintro e w1 ⟨rfl, hb1⟩
  have B4 := hid (bthen B1.out hb1)
  have M4 := hid (M2.out.below hb1)
  have G4 := hid (G3.out.below hb1)
  clear B1 M2 G3
  clear hb1
  obtain ⟨yM0, yM1⟩ := M4.out.a2
  have hlM : w.heap.size < w1.heap.size := M4.out.1
  obtain ⟨yG0, yG1, yG2, yG3, yG4, yG5, yG6, yG7, yG8, yG9, yG10, yG11, yG12, yG13, yG14, yG15, yG16, yG17, yG18, yG19, yG20, yG21, yG22, yG23, yG24⟩ := G4.out.a25
  have hlG : (w.heap.size + 1) < w1.heap.size := G4.out.1
  go_wp2_with (go_at_call 32; refine (in_spec _ _ _ _).mono ?_; rintro e w' ⟨rfl, rfl⟩)
  refine (plcSide_spec _ _ _ _ _).mono ?_
  rintro e w2 ⟨rfl, hb2⟩
  clear yM0 yM1 hlM yG0 yG1 yG2 yG3 yG4 yG5 yG6 yG7 yG8 yG9 yG10 yG11 yG12 yG13 yG14 yG15 yG16 yG17 yG18 yG19 yG20 yG21 yG22 yG23 yG24 hlG
  have B5 := hid (bthen B4.out hb2)
  have M5 := hid (M4.out.below hb2)
  have G5 := hid (G4.out.below hb2)
  clear B4 M4 G4
  clear hb2
  obtain ⟨yM0, yM1⟩ := M5.out.a2
  have hlM : w.heap.size < w2.heap.size := M5.out.1
  obtain ⟨yG0, yG1, yG2, yG3, yG4, yG5, yG6, yG7, yG8, yG9, yG10, yG11, yG12, yG13, yG14, yG15, yG16, yG17, yG18, yG19, yG20, yG21, yG22, yG23, yG24⟩ := G5.out.a25
  have hlG : (w.heap.size + 1) < w2.heap.size := G5.out.1
  go_wp2
  refine wp_region_held_drew (S := fun w' => (∀ b o, b < w2.heap.size → w'.cell? ⟨b, o, none⟩ = w2.cell? ⟨b, o, none⟩) ∧ w2.heap.size ≤ w'.heap.size) (by kernel_rfl) ⟨fun _ _ _ => rfl, Nat.le_refl _⟩ ?_
  intro hHeld
  refine tkl 0 (.bool true) rfl ?_ ?_
  · intro wx hSw; go_simp
  try simp only [Act.put, aS]
  refine tkl 1 (.bool true) rfl ?_ ?_
  · intro wx hSw; go_simp
  try simp only [Act.put, aS]
  refine tkl 2 (.pointer (some ⟨(w.heap.size + 1), 4, none⟩)) rfl ?_ ?_
  · intro wx hSw; go_simp
  try simp only [Act.put, aS]
  refine tkl 3 (.int .i64 (x 4)) rfl ?_ ?_
  · intro wx hSw; go_simp
  try simp only [Act.put, aS]
  refine tkl 4 (.bool true) rfl ?_ ?_
  · intro wx hSw; go_simp <;> first | omega | (exact IntWalk.i64_in _ (by omega)) | go_num
  try simp only [Act.put, aS]
  refine tkl 5 (.bool true) rfl ?_ ?_
  · intro wx hSw; go_simp
  try simp only [Act.put, aS]
  refine tkl 6 (.bool true) rfl ?_ ?_
  · intro wx hSw; go_simp
  try simp only [Act.put, aS]
  refine tkl 7 (.agg #[.int .i64 c, .int .i64 d]) rfl ?_ ?_
  · intro wx hSw; go_simp
  try simp only [Act.put, aS]
  refine tkl 8 (.pointer (some ⟨(w.heap.size + 1), 18, none⟩)) rfl ?_ ?_
  · intro wx hSw; go_simp
  try simp only [Act.put, aS]
  refine tkl 9 (.agg #[.int .i64 (x 18), .int .i64 (x 19), .int .i64 (x 20), .int .i64 (x 21), .int .i64 (x 22), .int .i64 (x 23), .int .i64 (x 24)]) rfl ?_ ?_
  · intro wx hSw; go_simp
  try simp only [Act.put, aS]
  refine rd1 10 rfl fun K hK => ?_
  go_simp
  go_wp2_with fail
  refine (gstOk_spec _ _ _ _ _ _ _ _ _ _).mono ?_
  rintro e y1 ⟨rfl, hy1⟩
  rw [hc2]
  refine hK.out _ _ (keepS (by assumption) hy1) (fun hNew => ?_)
  clear hK K hHeld
  have hHeld := hNew
  clear hNew
  try simp only [Act.put, aS]
  refine tkl 11 (.bool false) rfl ?_ ?_
  · intro wx hSw; go_simp
  try simp only [Act.put, aS]
  refine tkl 12 (.bool false) rfl ?_ ?_
  · intro wx hSw; go_simp
  try simp only [Act.put, aS]
  refine tkr 13 rfl ?_
  try simp only [Act.put, aS]
  refine tkr 14 rfl ?_
  try simp only [Act.put, aS]
  refine tkr 15 rfl ?_
  try simp only [Act.put, aS]
  refine tkr 16 rfl ?_
  try simp only [Act.put, aS]
  refine tkr 17 rfl ?_
  try simp only [Act.put, aS]
  refine tkr 18 rfl ?_
  try simp only [Act.put, aS]
  refine tkr 19 rfl ?_
  try simp only [Act.put, aS]
  refine tkr 20 rfl ?_
  try simp only [Act.put, aS]
  refine tkr 21 rfl ?_
  try simp only [Act.put, aS]
  refine tkr 22 rfl ?_
  try simp only [Act.put, aS]
  refine tkl 23 (.bool false) rfl ?_ ?_
  · intro wx hSw; go_simp
  try simp only [Act.put, aS]
  refine tkl 24 (.bool false) rfl ?_ ?_
  · intro wx hSw; go_simp
  try simp only [Act.put, aS]
  refine tkr 25 rfl ?_
  try simp only [Act.put, aS]
  refine tkr 26 rfl ?_
  try simp only [Act.put, aS]
  refine tkl 27 (.bool false) rfl ?_ ?_
  · intro wx hSw; go_simp
  try simp only [Act.put, aS]
  refine tkl 28 (.bool false) rfl ?_ ?_
  · intro wx hSw; go_simp
  try simp only [Act.put, aS]
  refine wpAnyH_done (by kernel_rfl) ?_ _
  clear hHeld
  have hbz : Below w2.heap.size w2 y1 := by repeat (first | exact Below.refl _ _ | refine bthen ?_ (by assumption) | apply Below.drew)
  clear yM0 yM1 hlM yG0 yG1 yG2 yG3 yG4 yG5 yG6 yG7 yG8 yG9 yG10 yG11 yG12 yG13 yG14 yG15 yG16 yG17 yG18 yG19 yG20 yG21 yG22 yG23 yG24 hlG
  have B6 := hid (bthen B5.out hbz)
  have M6 := hid (M5.out.below hbz)
  have G6 := hid (G5.out.below hbz)
  clear B5 M5 G5
  go_wp2
  go_ret
  exact ⟨by simp [msgB, toB, kindM, hok, hsv, hce, hsi, hto, hc0, hc1, hc2], by repeat (first | exact B6.out | apply Below.drew)⟩
set_option maxRecDepth 100000 in
set_option maxHeartbeats 4000000 in
theorem kind7_3 (c d sv : Int) (x : Nat → Int) (hok : okB c d = true) (hsv : inB sv 1 3 = true) (hce : inB (x 2) 0 (c - 1) = true) (hsi : inB (x 3) 0 1 = true) (hto : inB (x 1) 0 (sv - 1) = true) (hc0 : (sideF c d (x 2) (x 3) != -1) = true) (hc1 : (x 4 == 0) = true) (hc2 : gstB c d (x 18) (x 19) (x 20) (x 21) (x 22) (x 23) (x 24) = true) (hc3 : (x 18 == sideF c d (x 2) (x 3)) = false) (w : World) :
    Calls Tryz.prog 15 #[.agg #[.int .i64 c, .int .i64 d], .int .i64 sv, .agg #[.int .i64 7, .int .i64 (x 1), .int .i64 (x 2), .int .i64 (x 3), .int .i64 (x 4), .int .i64 (x 5), .int .i64 (x 6), .int .i64 (x 7), .int .i64 (x 8), .int .i64 (x 9), .int .i64 (x 10), .int .i64 (x 11), .int .i64 (x 12), .int .i64 (x 13), .int .i64 (x 14), .int .i64 (x 15), .int .i64 (x 16), .int .i64 (x 17), .int .i64 (x 18), .int .i64 (x 19), .int .i64 (x 20), .int .i64 (x 21), .int .i64 (x 22), .int .i64 (x 23), .int .i64 (x 24)]] w fun e w' => e = .returned (.bool (msgB c d sv 7 x)) ∧ Below w.heap.size w w' := by
  obtain ⟨a1, a2, a3, a4⟩ := okB_bounds hok
  obtain ⟨a5, a6⟩ := inB_true.1 hsv
  go_enter Tryz.func15, Tryz.ntmps15
  go_wp2_with fail
  obtain ⟨w0, e0⟩ : ∃ w0, w0 = (w.alloc (.cells #[.int .i64 c, .int .i64 d] 43)).alloc (.cells #[.int .i64 7, .int .i64 (x 1), .int .i64 (x 2), .int .i64 (x 3), .int .i64 (x 4), .int .i64 (x 5), .int .i64 (x 6), .int .i64 (x 7), .int .i64 (x 8), .int .i64 (x 9), .int .i64 (x 10), .int .i64 (x 11), .int .i64 (x 12), .int .i64 (x 13), .int .i64 (x 14), .int .i64 (x 15), .int .i64 (x 16), .int .i64 (x 17), .int .i64 (x 18), .int .i64 (x 19), .int .i64 (x 20), .int .i64 (x 21), .int .i64 (x 22), .int .i64 (x 23), .int .i64 (x 24)] 53) := ⟨_, rfl⟩
  have B1 : Hid (Below w.heap.size w w0) := by rw [e0]; exact ((Below.refl _ _).alloc (by simp) _).alloc (by simp) _
  have M2 : Hid (Bk w0 w.heap.size [.int .i64 c, .int .i64 d]) := by rw [e0]; exact (bk_new w 43 [.int .i64 c, .int .i64 d]).below ((Below.refl _ _).alloc (Nat.le_refl _) _)
  have G3 : Hid (Bk w0 (w.heap.size + 1) [.int .i64 7, .int .i64 (x 1), .int .i64 (x 2), .int .i64 (x 3), .int .i64 (x 4), .int .i64 (x 5), .int .i64 (x 6), .int .i64 (x 7), .int .i64 (x 8), .int .i64 (x 9), .int .i64 (x 10), .int .i64 (x 11), .int .i64 (x 12), .int .i64 (x 13), .int .i64 (x 14), .int .i64 (x 15), .int .i64 (x 16), .int .i64 (x 17), .int .i64 (x 18), .int .i64 (x 19), .int .i64 (x 20), .int .i64 (x 21), .int .i64 (x 22), .int .i64 (x 23), .int .i64 (x 24)]) := by rw [e0]; have := bk_new (w.alloc (.cells #[.int .i64 c, .int .i64 d] 43)) 53 [.int .i64 7, .int .i64 (x 1), .int .i64 (x 2), .int .i64 (x 3), .int .i64 (x 4), .int .i64 (x 5), .int .i64 (x 6), .int .i64 (x 7), .int .i64 (x 8), .int .i64 (x 9), .int .i64 (x 10), .int .i64 (x 11), .int .i64 (x 12), .int .i64 (x 13), .int .i64 (x 14), .int .i64 (x 15), .int .i64 (x 16), .int .i64 (x 17), .int .i64 (x 18), .int .i64 (x 19), .int .i64 (x 20), .int .i64 (x 21), .int .i64 (x 22), .int .i64 (x 23), .int .i64 (x 24)]; rwa [show (w.alloc (.cells #[.int .i64 c, .int .i64 d] 43)).heap.size = w.heap.size + 1 by simp] at this
  rw [← e0]
  clear e0
  refine (ok_spec _ _ _).mono ?_
  rintro e w1 ⟨rfl, hb1⟩
  have B4 := hid (bthen B1.out hb1)
  have M4 := hid (M2.out.below hb1)
  have G4 := hid (G3.out.below hb1)
  clear B1 M2 G3
  clear hb1
  obtain ⟨yM0, yM1⟩ := M4.out.a2
  have hlM : w.heap.size < w1.heap.size := M4.out.1
  obtain ⟨yG0, yG1, yG2, yG3, yG4, yG5, yG6, yG7, yG8, yG9, yG10, yG11, yG12, yG13, yG14, yG15, yG16, yG17, yG18, yG19, yG20, yG21, yG22, yG23, yG24⟩ := G4.out.a25
  have hlG : (w.heap.size + 1) < w1.heap.size := G4.out.1
  go_wp2_with (go_at_call 32; refine (in_spec _ _ _ _).mono ?_; rintro e w' ⟨rfl, rfl⟩)
  refine (plcSide_spec _ _ _ _ _).mono ?_
  rintro e w2 ⟨rfl, hb2⟩
  clear yM0 yM1 hlM yG0 yG1 yG2 yG3 yG4 yG5 yG6 yG7 yG8 yG9 yG10 yG11 yG12 yG13 yG14 yG15 yG16 yG17 yG18 yG19 yG20 yG21 yG22 yG23 yG24 hlG
  have B5 := hid (bthen B4.out hb2)
  have M5 := hid (M4.out.below hb2)
  have G5 := hid (G4.out.below hb2)
  clear B4 M4 G4
  clear hb2
  obtain ⟨yM0, yM1⟩ := M5.out.a2
  have hlM : w.heap.size < w2.heap.size := M5.out.1
  obtain ⟨yG0, yG1, yG2, yG3, yG4, yG5, yG6, yG7, yG8, yG9, yG10, yG11, yG12, yG13, yG14, yG15, yG16, yG17, yG18, yG19, yG20, yG21, yG22, yG23, yG24⟩ := G5.out.a25
  have hlG : (w.heap.size + 1) < w2.heap.size := G5.out.1
  go_wp2
  refine wp_region_held_drew (S := fun w' => (∀ b o, b < w2.heap.size → w'.cell? ⟨b, o, none⟩ = w2.cell? ⟨b, o, none⟩) ∧ w2.heap.size ≤ w'.heap.size) (by kernel_rfl) ⟨fun _ _ _ => rfl, Nat.le_refl _⟩ ?_
  intro hHeld
  refine tkl 0 (.bool true) rfl ?_ ?_
  · intro wx hSw; go_simp
  try simp only [Act.put, aS]
  refine tkl 1 (.bool true) rfl ?_ ?_
  · intro wx hSw; go_simp
  try simp only [Act.put, aS]
  refine tkl 2 (.pointer (some ⟨(w.heap.size + 1), 4, none⟩)) rfl ?_ ?_
  · intro wx hSw; go_simp
  try simp only [Act.put, aS]
  refine tkl 3 (.int .i64 (x 4)) rfl ?_ ?_
  · intro wx hSw; go_simp
  try simp only [Act.put, aS]
  refine tkl 4 (.bool true) rfl ?_ ?_
  · intro wx hSw; go_simp <;> first | omega | (exact IntWalk.i64_in _ (by omega)) | go_num
  try simp only [Act.put, aS]
  refine tkl 5 (.bool true) rfl ?_ ?_
  · intro wx hSw; go_simp
  try simp only [Act.put, aS]
  refine tkl 6 (.bool true) rfl ?_ ?_
  · intro wx hSw; go_simp
  try simp only [Act.put, aS]
  refine tkl 7 (.agg #[.int .i64 c, .int .i64 d]) rfl ?_ ?_
  · intro wx hSw; go_simp
  try simp only [Act.put, aS]
  refine tkl 8 (.pointer (some ⟨(w.heap.size + 1), 18, none⟩)) rfl ?_ ?_
  · intro wx hSw; go_simp
  try simp only [Act.put, aS]
  refine tkl 9 (.agg #[.int .i64 (x 18), .int .i64 (x 19), .int .i64 (x 20), .int .i64 (x 21), .int .i64 (x 22), .int .i64 (x 23), .int .i64 (x 24)]) rfl ?_ ?_
  · intro wx hSw; go_simp
  try simp only [Act.put, aS]
  refine rd1 10 rfl fun K hK => ?_
  go_simp
  go_wp2_with fail
  refine (gstOk_spec _ _ _ _ _ _ _ _ _ _).mono ?_
  rintro e y1 ⟨rfl, hy1⟩
  rw [hc2]
  refine hK.out _ _ (keepS (by assumption) hy1) (fun hNew => ?_)
  clear hK K hHeld
  have hHeld := hNew
  clear hNew
  try simp only [Act.put, aS]
  refine tkl 11 (.bool true) rfl ?_ ?_
  · intro wx hSw; go_simp
  try simp only [Act.put, aS]
  refine tkl 12 (.bool true) rfl ?_ ?_
  · intro wx hSw; go_simp
  try simp only [Act.put, aS]
  refine tkl 13 (.pointer (some ⟨(w.heap.size + 1), 18, none⟩)) rfl ?_ ?_
  · intro wx hSw; go_simp
  try simp only [Act.put, aS]
  refine tkl 14 (.pointer (some ⟨(w.heap.size + 1), 18, none⟩)) rfl ?_ ?_
  · intro wx hSw; go_simp
  try simp only [Act.put, aS]
  refine tkl 15 (.int .i64 (x 18)) rfl ?_ ?_
  · intro wx hSw; go_simp
  try simp only [Act.put, aS]
  refine tkl 16 (.agg #[.int .i64 c, .int .i64 d]) rfl ?_ ?_
  · intro wx hSw; go_simp
  try simp only [Act.put, aS]
  refine tkl 17 (.pointer (some ⟨(w.heap.size + 1), 2, none⟩)) rfl ?_ ?_
  · intro wx hSw; go_simp
  try simp only [Act.put, aS]
  refine tkl 18 (.int .i64 (x 2)) rfl ?_ ?_
  · intro wx hSw; go_simp
  try simp only [Act.put, aS]
  refine tkl 19 (.pointer (some ⟨(w.heap.size + 1), 3, none⟩)) rfl ?_ ?_
  · intro wx hSw; go_simp
  try simp only [Act.put, aS]
  refine tkl 20 (.int .i64 (x 3)) rfl ?_ ?_
  · intro wx hSw; go_simp
  try simp only [Act.put, aS]
  refine rd1 21 rfl fun K hK => ?_
  go_simp
  go_wp2_with fail
  refine (plcSide_spec _ _ _ _ _).mono ?_
  rintro e y2 ⟨rfl, hy2⟩
  refine hK.out _ _ (keepS (by assumption) hy2) (fun hNew => ?_)
  clear hK K hHeld
  have hHeld := hNew
  clear hNew
  try simp only [Act.put, aS]
  refine tkl 22 (.bool false) rfl ?_ ?_
  · intro wx hSw; go_simp <;> first | omega | (exact IntWalk.i64_in _ (by omega)) | go_num
  try simp only [Act.put, aS]
  refine tkl 23 (.bool false) rfl ?_ ?_
  · intro wx hSw; go_simp
  try simp only [Act.put, aS]
  refine tkl 24 (.bool false) rfl ?_ ?_
  · intro wx hSw; go_simp
  try simp only [Act.put, aS]
  refine tkr 25 rfl ?_
  try simp only [Act.put, aS]
  refine tkr 26 rfl ?_
  try simp only [Act.put, aS]
  refine tkl 27 (.bool false) rfl ?_ ?_
  · intro wx hSw; go_simp
  try simp only [Act.put, aS]
  refine tkl 28 (.bool false) rfl ?_ ?_
  · intro wx hSw; go_simp
  try simp only [Act.put, aS]
  refine wpAnyH_done (by kernel_rfl) ?_ _
  clear hHeld
  have hbz : Below w2.heap.size w2 y2 := by repeat (first | exact Below.refl _ _ | refine bthen ?_ (by assumption) | apply Below.drew)
  clear yM0 yM1 hlM yG0 yG1 yG2 yG3 yG4 yG5 yG6 yG7 yG8 yG9 yG10 yG11 yG12 yG13 yG14 yG15 yG16 yG17 yG18 yG19 yG20 yG21 yG22 yG23 yG24 hlG
  have B6 := hid (bthen B5.out hbz)
  have M6 := hid (M5.out.below hbz)
  have G6 := hid (G5.out.below hbz)
  clear B5 M5 G5
  go_wp2
  go_ret
  exact ⟨by simp [msgB, toB, kindM, hok, hsv, hce, hsi, hto, hc0, hc1, hc2, hc3], by repeat (first | exact B6.out | apply Below.drew)⟩
set_option maxRecDepth 100000 in
set_option maxHeartbeats 4000000 in
theorem kind7_4 (c d sv : Int) (x : Nat → Int) (hok : okB c d = true) (hsv : inB sv 1 3 = true) (hce : inB (x 2) 0 (c - 1) = true) (hsi : inB (x 3) 0 1 = true) (hto : inB (x 1) 0 (sv - 1) = true) (hc0 : (sideF c d (x 2) (x 3) != -1) = true) (hc1 : (x 4 == 0) = true) (hc2 : gstB c d (x 18) (x 19) (x 20) (x 21) (x 22) (x 23) (x 24) = true) (hc3 : (x 18 == sideF c d (x 2) (x 3)) = true) (w : World) :
    Calls Tryz.prog 15 #[.agg #[.int .i64 c, .int .i64 d], .int .i64 sv, .agg #[.int .i64 7, .int .i64 (x 1), .int .i64 (x 2), .int .i64 (x 3), .int .i64 (x 4), .int .i64 (x 5), .int .i64 (x 6), .int .i64 (x 7), .int .i64 (x 8), .int .i64 (x 9), .int .i64 (x 10), .int .i64 (x 11), .int .i64 (x 12), .int .i64 (x 13), .int .i64 (x 14), .int .i64 (x 15), .int .i64 (x 16), .int .i64 (x 17), .int .i64 (x 18), .int .i64 (x 19), .int .i64 (x 20), .int .i64 (x 21), .int .i64 (x 22), .int .i64 (x 23), .int .i64 (x 24)]] w fun e w' => e = .returned (.bool (msgB c d sv 7 x)) ∧ Below w.heap.size w w' := by
  obtain ⟨a1, a2, a3, a4⟩ := okB_bounds hok
  obtain ⟨a5, a6⟩ := inB_true.1 hsv
  go_enter Tryz.func15, Tryz.ntmps15
  go_wp2_with fail
  obtain ⟨w0, e0⟩ : ∃ w0, w0 = (w.alloc (.cells #[.int .i64 c, .int .i64 d] 43)).alloc (.cells #[.int .i64 7, .int .i64 (x 1), .int .i64 (x 2), .int .i64 (x 3), .int .i64 (x 4), .int .i64 (x 5), .int .i64 (x 6), .int .i64 (x 7), .int .i64 (x 8), .int .i64 (x 9), .int .i64 (x 10), .int .i64 (x 11), .int .i64 (x 12), .int .i64 (x 13), .int .i64 (x 14), .int .i64 (x 15), .int .i64 (x 16), .int .i64 (x 17), .int .i64 (x 18), .int .i64 (x 19), .int .i64 (x 20), .int .i64 (x 21), .int .i64 (x 22), .int .i64 (x 23), .int .i64 (x 24)] 53) := ⟨_, rfl⟩
  have B1 : Hid (Below w.heap.size w w0) := by rw [e0]; exact ((Below.refl _ _).alloc (by simp) _).alloc (by simp) _
  have M2 : Hid (Bk w0 w.heap.size [.int .i64 c, .int .i64 d]) := by rw [e0]; exact (bk_new w 43 [.int .i64 c, .int .i64 d]).below ((Below.refl _ _).alloc (Nat.le_refl _) _)
  have G3 : Hid (Bk w0 (w.heap.size + 1) [.int .i64 7, .int .i64 (x 1), .int .i64 (x 2), .int .i64 (x 3), .int .i64 (x 4), .int .i64 (x 5), .int .i64 (x 6), .int .i64 (x 7), .int .i64 (x 8), .int .i64 (x 9), .int .i64 (x 10), .int .i64 (x 11), .int .i64 (x 12), .int .i64 (x 13), .int .i64 (x 14), .int .i64 (x 15), .int .i64 (x 16), .int .i64 (x 17), .int .i64 (x 18), .int .i64 (x 19), .int .i64 (x 20), .int .i64 (x 21), .int .i64 (x 22), .int .i64 (x 23), .int .i64 (x 24)]) := by rw [e0]; have := bk_new (w.alloc (.cells #[.int .i64 c, .int .i64 d] 43)) 53 [.int .i64 7, .int .i64 (x 1), .int .i64 (x 2), .int .i64 (x 3), .int .i64 (x 4), .int .i64 (x 5), .int .i64 (x 6), .int .i64 (x 7), .int .i64 (x 8), .int .i64 (x 9), .int .i64 (x 10), .int .i64 (x 11), .int .i64 (x 12), .int .i64 (x 13), .int .i64 (x 14), .int .i64 (x 15), .int .i64 (x 16), .int .i64 (x 17), .int .i64 (x 18), .int .i64 (x 19), .int .i64 (x 20), .int .i64 (x 21), .int .i64 (x 22), .int .i64 (x 23), .int .i64 (x 24)]; rwa [show (w.alloc (.cells #[.int .i64 c, .int .i64 d] 43)).heap.size = w.heap.size + 1 by simp] at this
  rw [← e0]
  clear e0
  refine (ok_spec _ _ _).mono ?_
  rintro e w1 ⟨rfl, hb1⟩
  have B4 := hid (bthen B1.out hb1)
  have M4 := hid (M2.out.below hb1)
  have G4 := hid (G3.out.below hb1)
  clear B1 M2 G3
  clear hb1
  obtain ⟨yM0, yM1⟩ := M4.out.a2
  have hlM : w.heap.size < w1.heap.size := M4.out.1
  obtain ⟨yG0, yG1, yG2, yG3, yG4, yG5, yG6, yG7, yG8, yG9, yG10, yG11, yG12, yG13, yG14, yG15, yG16, yG17, yG18, yG19, yG20, yG21, yG22, yG23, yG24⟩ := G4.out.a25
  have hlG : (w.heap.size + 1) < w1.heap.size := G4.out.1
  go_wp2_with (go_at_call 32; refine (in_spec _ _ _ _).mono ?_; rintro e w' ⟨rfl, rfl⟩)
  refine (plcSide_spec _ _ _ _ _).mono ?_
  rintro e w2 ⟨rfl, hb2⟩
  clear yM0 yM1 hlM yG0 yG1 yG2 yG3 yG4 yG5 yG6 yG7 yG8 yG9 yG10 yG11 yG12 yG13 yG14 yG15 yG16 yG17 yG18 yG19 yG20 yG21 yG22 yG23 yG24 hlG
  have B5 := hid (bthen B4.out hb2)
  have M5 := hid (M4.out.below hb2)
  have G5 := hid (G4.out.below hb2)
  clear B4 M4 G4
  clear hb2
  obtain ⟨yM0, yM1⟩ := M5.out.a2
  have hlM : w.heap.size < w2.heap.size := M5.out.1
  obtain ⟨yG0, yG1, yG2, yG3, yG4, yG5, yG6, yG7, yG8, yG9, yG10, yG11, yG12, yG13, yG14, yG15, yG16, yG17, yG18, yG19, yG20, yG21, yG22, yG23, yG24⟩ := G5.out.a25
  have hlG : (w.heap.size + 1) < w2.heap.size := G5.out.1
  go_wp2
  refine wp_region_held_drew (S := fun w' => (∀ b o, b < w2.heap.size → w'.cell? ⟨b, o, none⟩ = w2.cell? ⟨b, o, none⟩) ∧ w2.heap.size ≤ w'.heap.size) (by kernel_rfl) ⟨fun _ _ _ => rfl, Nat.le_refl _⟩ ?_
  intro hHeld
  refine tkl 0 (.bool true) rfl ?_ ?_
  · intro wx hSw; go_simp
  try simp only [Act.put, aS]
  refine tkl 1 (.bool true) rfl ?_ ?_
  · intro wx hSw; go_simp
  try simp only [Act.put, aS]
  refine tkl 2 (.pointer (some ⟨(w.heap.size + 1), 4, none⟩)) rfl ?_ ?_
  · intro wx hSw; go_simp
  try simp only [Act.put, aS]
  refine tkl 3 (.int .i64 (x 4)) rfl ?_ ?_
  · intro wx hSw; go_simp
  try simp only [Act.put, aS]
  refine tkl 4 (.bool true) rfl ?_ ?_
  · intro wx hSw; go_simp <;> first | omega | (exact IntWalk.i64_in _ (by omega)) | go_num
  try simp only [Act.put, aS]
  refine tkl 5 (.bool true) rfl ?_ ?_
  · intro wx hSw; go_simp
  try simp only [Act.put, aS]
  refine tkl 6 (.bool true) rfl ?_ ?_
  · intro wx hSw; go_simp
  try simp only [Act.put, aS]
  refine tkl 7 (.agg #[.int .i64 c, .int .i64 d]) rfl ?_ ?_
  · intro wx hSw; go_simp
  try simp only [Act.put, aS]
  refine tkl 8 (.pointer (some ⟨(w.heap.size + 1), 18, none⟩)) rfl ?_ ?_
  · intro wx hSw; go_simp
  try simp only [Act.put, aS]
  refine tkl 9 (.agg #[.int .i64 (x 18), .int .i64 (x 19), .int .i64 (x 20), .int .i64 (x 21), .int .i64 (x 22), .int .i64 (x 23), .int .i64 (x 24)]) rfl ?_ ?_
  · intro wx hSw; go_simp
  try simp only [Act.put, aS]
  refine rd1 10 rfl fun K hK => ?_
  go_simp
  go_wp2_with fail
  refine (gstOk_spec _ _ _ _ _ _ _ _ _ _).mono ?_
  rintro e y1 ⟨rfl, hy1⟩
  rw [hc2]
  refine hK.out _ _ (keepS (by assumption) hy1) (fun hNew => ?_)
  clear hK K hHeld
  have hHeld := hNew
  clear hNew
  try simp only [Act.put, aS]
  refine tkl 11 (.bool true) rfl ?_ ?_
  · intro wx hSw; go_simp
  try simp only [Act.put, aS]
  refine tkl 12 (.bool true) rfl ?_ ?_
  · intro wx hSw; go_simp
  try simp only [Act.put, aS]
  refine tkl 13 (.pointer (some ⟨(w.heap.size + 1), 18, none⟩)) rfl ?_ ?_
  · intro wx hSw; go_simp
  try simp only [Act.put, aS]
  refine tkl 14 (.pointer (some ⟨(w.heap.size + 1), 18, none⟩)) rfl ?_ ?_
  · intro wx hSw; go_simp
  try simp only [Act.put, aS]
  refine tkl 15 (.int .i64 (x 18)) rfl ?_ ?_
  · intro wx hSw; go_simp
  try simp only [Act.put, aS]
  refine tkl 16 (.agg #[.int .i64 c, .int .i64 d]) rfl ?_ ?_
  · intro wx hSw; go_simp
  try simp only [Act.put, aS]
  refine tkl 17 (.pointer (some ⟨(w.heap.size + 1), 2, none⟩)) rfl ?_ ?_
  · intro wx hSw; go_simp
  try simp only [Act.put, aS]
  refine tkl 18 (.int .i64 (x 2)) rfl ?_ ?_
  · intro wx hSw; go_simp
  try simp only [Act.put, aS]
  refine tkl 19 (.pointer (some ⟨(w.heap.size + 1), 3, none⟩)) rfl ?_ ?_
  · intro wx hSw; go_simp
  try simp only [Act.put, aS]
  refine tkl 20 (.int .i64 (x 3)) rfl ?_ ?_
  · intro wx hSw; go_simp
  try simp only [Act.put, aS]
  refine rd1 21 rfl fun K hK => ?_
  go_simp
  go_wp2_with fail
  refine (plcSide_spec _ _ _ _ _).mono ?_
  rintro e y2 ⟨rfl, hy2⟩
  refine hK.out _ _ (keepS (by assumption) hy2) (fun hNew => ?_)
  clear hK K hHeld
  have hHeld := hNew
  clear hNew
  try simp only [Act.put, aS]
  refine tkl 22 (.bool true) rfl ?_ ?_
  · intro wx hSw; go_simp <;> first | omega | (exact IntWalk.i64_in _ (by omega)) | go_num
  try simp only [Act.put, aS]
  refine tkl 23 (.bool true) rfl ?_ ?_
  · intro wx hSw; go_simp
  try simp only [Act.put, aS]
  refine tkl 24 (.bool true) rfl ?_ ?_
  · intro wx hSw; go_simp
  try simp only [Act.put, aS]
  refine tkl 25 (.agg #[.int .i64 7, .int .i64 (x 1), .int .i64 (x 2), .int .i64 (x 3), .int .i64 (x 4), .int .i64 (x 5), .int .i64 (x 6), .int .i64 (x 7), .int .i64 (x 8), .int .i64 (x 9), .int .i64 (x 10), .int .i64 (x 11), .int .i64 (x 12), .int .i64 (x 13), .int .i64 (x 14), .int .i64 (x 15), .int .i64 (x 16), .int .i64 (x 17), .int .i64 (x 18), .int .i64 (x 19), .int .i64 (x 20), .int .i64 (x 21), .int .i64 (x 22), .int .i64 (x 23), .int .i64 (x 24)]) rfl ?_ ?_
  · intro wx hSw; go_simp
  try simp only [Act.put, aS]
  refine rd1 26 rfl fun K hK => ?_
  go_simp
  go_wp2_with fail
  refine (bare_spec _ _ _ _ x _).mono ?_
  rintro e y3 ⟨rfl, hy3⟩
  refine hK.out _ _ (keepS (by assumption) hy3) (fun hNew => ?_)
  clear hK K hHeld
  have hHeld := hNew
  clear hNew
  try simp only [Act.put, aS]
  refine tkl 27 (.bool (bareB false false true x)) rfl ?_ ?_
  · intro wx hSw; go_simp
  try simp only [Act.put, aS]
  refine tkl 28 (.bool (bareB false false true x)) rfl ?_ ?_
  · intro wx hSw; go_simp
  try simp only [Act.put, aS]
  refine wpAnyH_done (by kernel_rfl) ?_ _
  clear hHeld
  have hbz : Below w2.heap.size w2 y3 := by repeat (first | exact Below.refl _ _ | refine bthen ?_ (by assumption) | apply Below.drew)
  clear yM0 yM1 hlM yG0 yG1 yG2 yG3 yG4 yG5 yG6 yG7 yG8 yG9 yG10 yG11 yG12 yG13 yG14 yG15 yG16 yG17 yG18 yG19 yG20 yG21 yG22 yG23 yG24 hlG
  have B6 := hid (bthen B5.out hbz)
  have M6 := hid (M5.out.below hbz)
  have G6 := hid (G5.out.below hbz)
  clear B5 M5 G5
  go_wp2
  go_ret
  exact ⟨by simp [msgB, toB, kindM, hok, hsv, hce, hsi, hto, hc0, hc1, hc2, hc3], by repeat (first | exact B6.out | apply Below.drew)⟩
end Go.Proofs.YtgjapdjidighlabGreat
