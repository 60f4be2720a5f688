/- A row of the book, of the program and of the model; conditions: those typed. -/
import Derived.Test.YtgjapdjidighlabGreatGL
import Derived.Test.YtgjapdjidighlabGreatOrd2
import Derived.Test.YtgjapdjidighlabGreatWalksE
namespace Go.Proofs.YtgjapdjidighlabGreat
open Go.RowKit Go.Deep
set_option linter.unusedVariables false
def zo (z : Nat → Int) : Bool := (z 3 == 0 && (z 4 == 0 && (z 5 == 0 && (z 6 == 0 && z 7 == 0))))
theorem qo (x : Nat → Int) (w : World) : (if x 3 = 0 then (if x 4 = 0 then (if x 5 = 0 then (if x 6 = 0 then (if x 7 = 0 then Result.ok (Value.bool true) w else Result.ok (Value.bool false) w) else Result.ok (Value.bool false) w) else Result.ok (Value.bool false) w) else Result.ok (Value.bool false) w) else Result.ok (Value.bool false) w) = Result.ok (Value.bool (zo x)) w := by
  unfold zo; (repeat' split) <;> simp_all
def ordR (z : Nat → Int) : Bool := if P10.tr (z 2) = true then ordB (z 3) (z 4) (z 5) (z 6) (z 7) && (z 3 == z 0 && z 4 == z 8 + 1) else zo z
def rowB (c : Int) (z : Nat → Int) : Bool := inB (z 0) 1 9 && (inB (z 1) 0 (c - 1) && (inB (z 8) 0 900 && (inB (z 9) 0 9 && ordR z)))
set_option maxHeartbeats 2000000 in
theorem orderOk_impl (z : Nat → Int) (h0 : 0 ≤ z 8) (h9 : z 8 ≤ 900) (w : World) :
    Calls Tryz.prog 53 #[.agg #[.int .i64 (z 0), .int .i64 (z 1), .bool (P10.tr (z 2)), .int .i64 (z 3), .int .i64 (z 4), .int .i64 (z 5), .int .i64 (z 6), .int .i64 (z 7), .int .i64 (z 8), .int .i64 (z 9)]] w fun e w' => e = .returned (.bool (ordR z)) ∧ Below w.heap.size w w' := by
  have E := qo z
  have hw : IntKind.wrap .i64 (z 8 + 1) = z 8 + 1 := by simp [IntKind.wrap, IntKind.bits, IntKind.signed]; omega
  cases hb : P10.tr (z 2)
  · go_enter Tryz.func53, Tryz.ntmps53
    go_wp2
    go_ret
    exact ⟨by simp [ordR, hb], (Below.refl _ _).alloc (by simp) _⟩
  · clear E
    go_enter Tryz.func53, Tryz.ntmps53
    go_wp2_with fail
    obtain ⟨w0, e0⟩ : ∃ w0, w0 = w.alloc (.cells #[.int .i64 (z 0), .int .i64 (z 1), .bool true, .int .i64 (z 3), .int .i64 (z 4), .int .i64 (z 5), .int .i64 (z 6), .int .i64 (z 7), .int .i64 (z 8), .int .i64 (z 9)] 63) := ⟨_, rfl⟩
    have B1 : Hid (Below w.heap.size w w0) := by rw [e0]; exact (Below.refl _ _).alloc (by simp) _
    have R2 : Hid (Bk w0 w.heap.size [.int .i64 (z 0), .int .i64 (z 1), .bool true, .int .i64 (z 3), .int .i64 (z 4), .int .i64 (z 5), .int .i64 (z 6), .int .i64 (z 7), .int .i64 (z 8), .int .i64 (z 9)]) := by rw [e0]; exact bk_new w 63 [.int .i64 (z 0), .int .i64 (z 1), .bool true, .int .i64 (z 3), .int .i64 (z 4), .int .i64 (z 5), .int .i64 (z 6), .int .i64 (z 7), .int .i64 (z 8), .int .i64 (z 9)]
    rw [← e0]
    clear e0
    refine (ordOk_impl _ _ _ _ _ _).mono ?_
    rintro e w1 ⟨rfl, hb1⟩
    have B3 := hid (bthen B1.out hb1)
    have R3 := hid (R2.out.below hb1)
    clear B1 R2
    clear hb1
    obtain ⟨yR0, yR1, yR2, yR3, yR4, yR5, yR6, yR7, yR8, yR9⟩ := R3.out.a10
    have hlR : w.heap.size < w1.heap.size := R3.out.1
    cases h1 : ordB (z 3) (z 4) (z 5) (z 6) (z 7)
    · go_wp2
      go_ret
      exact ⟨by simp [ordR, hb, h1], B3.out⟩
    cases h2 : z 3 == z 0
    · go_wp2
      go_ret
      exact ⟨by simp [ordR, hb, h2], B3.out⟩
    go_wp2
    go_ret
    exact ⟨by simp [ordR, hb, h1, h2], B3.out⟩
set_option maxHeartbeats 2000000 in
theorem isOk_impl (c d : Int) (z : Nat → Int) (hok : okB c d = true) (w : World) :
    Calls Tryz.prog 41 #[.agg #[.int .i64 (z 0), .int .i64 (z 1), .bool (P10.tr (z 2)), .int .i64 (z 3), .int .i64 (z 4), .int .i64 (z 5), .int .i64 (z 6), .int .i64 (z 7), .int .i64 (z 8), .int .i64 (z 9)], .agg #[.int .i64 c, .int .i64 d]] w fun e w' => e = .returned (.bool (rowB c z)) ∧ Below w.heap.size w w' := by
  have hv : rowB c z = (inB (z 0) 1 9 && (hasB c d (z 1) && (inB (z 8) 0 900 && (inB (z 9) 0 9 && ordR z)))) := by simp [rowB, hasB, hok]
  cases h1 : inB (z 0) 1 9
  · rw [h1] at hv
    replace hv : rowB c z = false := by rw [hv]; simp
    go_enter Tryz.func41, Tryz.ntmps41
    go_wp2_with fail
    obtain ⟨w0, e0⟩ : ∃ w0, w0 = (w.alloc (.cells #[.int .i64 (z 0), .int .i64 (z 1), .bool (P10.tr (z 2)), .int .i64 (z 3), .int .i64 (z 4), .int .i64 (z 5), .int .i64 (z 6), .int .i64 (z 7), .int .i64 (z 8), .int .i64 (z 9)] 63)).alloc (.cells #[.int .i64 c, .int .i64 d] 43) := ⟨_, rfl⟩
    have B1 : Hid (Below w.heap.size w w0) := by rw [e0]; exact ((Below.refl _ _).alloc (by simp) _).alloc (by simp) _
    have R2 : Hid (Bk w0 w.heap.size [.int .i64 (z 0), .int .i64 (z 1), .bool (P10.tr (z 2)), .int .i64 (z 3), .int .i64 (z 4), .int .i64 (z 5), .int .i64 (z 6), .int .i64 (z 7), .int .i64 (z 8), .int .i64 (z 9)]) := by rw [e0]; exact (bk_new w 63 [.int .i64 (z 0), .int .i64 (z 1), .bool (P10.tr (z 2)), .int .i64 (z 3), .int .i64 (z 4), .int .i64 (z 5), .int .i64 (z 6), .int .i64 (z 7), .int .i64 (z 8), .int .i64 (z 9)]).below ((Below.refl _ _).alloc (Nat.le_refl _) _)
    have M3 : Hid (Bk w0 (w.heap.size + 1) [.int .i64 c, .int .i64 d]) := by rw [e0]; have := bk_new (w.alloc (.cells #[.int .i64 (z 0), .int .i64 (z 1), .bool (P10.tr (z 2)), .int .i64 (z 3), .int .i64 (z 4), .int .i64 (z 5), .int .i64 (z 6), .int .i64 (z 7), .int .i64 (z 8), .int .i64 (z 9)] 63)) 43 [.int .i64 c, .int .i64 d]; rwa [show (w.alloc (.cells #[.int .i64 (z 0), .int .i64 (z 1), .bool (P10.tr (z 2)), .int .i64 (z 3), .int .i64 (z 4), .int .i64 (z 5), .int .i64 (z 6), .int .i64 (z 7), .int .i64 (z 8), .int .i64 (z 9)] 63)).heap.size = w.heap.size + 1 by simp] at this
    rw [← e0]
    clear e0
    refine (in_impl _ _ _ _).mono ?_
    rintro e v0 ⟨rfl, hb0⟩
    replace hb0 : Below w0.heap.size w0 v0 := by rw [hb0]; exact Below.refl _ _
    have B4 := hid (bthen B1.out hb0)
    have R4 := hid (R2.out.below hb0)
    have M4 := hid (M3.out.below hb0)
    clear B1 R2 M3
    clear hb0
    rw [h1]
    obtain ⟨yR0, yR1, yR2, yR3, yR4, yR5, yR6, yR7, yR8, yR9⟩ := R4.out.a10
    have hlR : w.heap.size < v0.heap.size := R4.out.1
    obtain ⟨yM0, yM1⟩ := M4.out.a2
    have hlM : (w.heap.size + 1) < v0.heap.size := M4.out.1
    go_wp2
    go_ret
    exact ⟨by rw [hv] <;> rfl, B4.out⟩
  rw [h1] at hv
  cases h2 : hasB c d (z 1)
  · rw [h2] at hv
    replace hv : rowB c z = false := by rw [hv]; simp
    go_enter Tryz.func41, Tryz.ntmps41
    go_wp2_with fail
    obtain ⟨w0, e0⟩ : ∃ w0, w0 = (w.alloc (.cells #[.int .i64 (z 0), .int .i64 (z 1), .bool (P10.tr (z 2)), .int .i64 (z 3), .int .i64 (z 4), .int .i64 (z 5), .int .i64 (z 6), .int .i64 (z 7), .int .i64 (z 8), .int .i64 (z 9)] 63)).alloc (.cells #[.int .i64 c, .int .i64 d] 43) := ⟨_, rfl⟩
    have B1 : Hid (Below w.heap.size w w0) := by rw [e0]; exact ((Below.refl _ _).alloc (by simp) _).alloc (by simp) _
    have R2 : Hid (Bk w0 w.heap.size [.int .i64 (z 0), .int .i64 (z 1), .bool (P10.tr (z 2)), .int .i64 (z 3), .int .i64 (z 4), .int .i64 (z 5), .int .i64 (z 6), .int .i64 (z 7), .int .i64 (z 8), .int .i64 (z 9)]) := by rw [e0]; exact (bk_new w 63 [.int .i64 (z 0), .int .i64 (z 1), .bool (P10.tr (z 2)), .int .i64 (z 3), .int .i64 (z 4), .int .i64 (z 5), .int .i64 (z 6), .int .i64 (z 7), .int .i64 (z 8), .int .i64 (z 9)]).below ((Below.refl _ _).alloc (Nat.le_refl _) _)
    have M3 : Hid (Bk w0 (w.heap.size + 1) [.int .i64 c, .int .i64 d]) := by rw [e0]; have := bk_new (w.alloc (.cells #[.int .i64 (z 0), .int .i64 (z 1), .bool (P10.tr (z 2)), .int .i64 (z 3), .int .i64 (z 4), .int .i64 (z 5), .int .i64 (z 6), .int .i64 (z 7), .int .i64 (z 8), .int .i64 (z 9)] 63)) 43 [.int .i64 c, .int .i64 d]; rwa [show (w.alloc (.cells #[.int .i64 (z 0), .int .i64 (z 1), .bool (P10.tr (z 2)), .int .i64 (z 3), .int .i64 (z 4), .int .i64 (z 5), .int .i64 (z 6), .int .i64 (z 7), .int .i64 (z 8), .int .i64 (z 9)] 63)).heap.size = w.heap.size + 1 by simp] at this
    rw [← e0]
    clear e0
    refine (in_impl _ _ _ _).mono ?_
    rintro e v0 ⟨rfl, hb0⟩
    replace hb0 : Below w0.heap.size w0 v0 := by rw [hb0]; exact Below.refl _ _
    have B4 := hid (bthen B1.out hb0)
    have R4 := hid (R2.out.below hb0)
    have M4 := hid (M3.out.below hb0)
    clear B1 R2 M3
    clear hb0
    rw [h1]
    obtain ⟨yR0, yR1, yR2, yR3, yR4, yR5, yR6, yR7, yR8, yR9⟩ := R4.out.a10
    have hlR : w.heap.size < v0.heap.size := R4.out.1
    obtain ⟨yM0, yM1⟩ := M4.out.a2
    have hlM : (w.heap.size + 1) < v0.heap.size := M4.out.1
    go_wp2_with fail
    refine (has_impl _ _ _ _).mono ?_
    rintro e v1 ⟨rfl, hb1⟩
    clear yR0 yR1 yR2 yR3 yR4 yR5 yR6 yR7 yR8 yR9 hlR yM0 yM1 hlM
    have B5 := hid (bthen B4.out hb1)
    have R5 := hid (R4.out.below hb1)
    have M5 := hid (M4.out.below hb1)
    clear B4 R4 M4
    clear hb1
    rw [h2]
    obtain ⟨yR0, yR1, yR2, yR3, yR4, yR5, yR6, yR7, yR8, yR9⟩ := R5.out.a10
    have hlR : w.heap.size < v1.heap.size := R5.out.1
    obtain ⟨yM0, yM1⟩ := M5.out.a2
    have hlM : (w.heap.size + 1) < v1.heap.size := M5.out.1
    go_wp2
    go_ret
    exact ⟨by rw [hv] <;> rfl, B5.out⟩
  rw [h2] at hv
  cases h3 : inB (z 8) 0 900
  · rw [h3] at hv
    replace hv : rowB c z = false := by rw [hv]; simp
    go_enter Tryz.func41, Tryz.ntmps41
    go_wp2_with fail
    obtain ⟨w0, e0⟩ : ∃ w0, w0 = (w.alloc (.cells #[.int .i64 (z 0), .int .i64 (z 1), .bool (P10.tr (z 2)), .int .i64 (z 3), .int .i64 (z 4), .int .i64 (z 5), .int .i64 (z 6), .int .i64 (z 7), .int .i64 (z 8), .int .i64 (z 9)] 63)).alloc (.cells #[.int .i64 c, .int .i64 d] 43) := ⟨_, rfl⟩
    have B1 : Hid (Below w.heap.size w w0) := by rw [e0]; exact ((Below.refl _ _).alloc (by simp) _).alloc (by simp) _
    have R2 : Hid (Bk w0 w.heap.size [.int .i64 (z 0), .int .i64 (z 1), .bool (P10.tr (z 2)), .int .i64 (z 3), .int .i64 (z 4), .int .i64 (z 5), .int .i64 (z 6), .int .i64 (z 7), .int .i64 (z 8), .int .i64 (z 9)]) := by rw [e0]; exact (bk_new w 63 [.int .i64 (z 0), .int .i64 (z 1), .bool (P10.tr (z 2)), .int .i64 (z 3), .int .i64 (z 4), .int .i64 (z 5), .int .i64 (z 6), .int .i64 (z 7), .int .i64 (z 8), .int .i64 (z 9)]).below ((Below.refl _ _).alloc (Nat.le_refl _) _)
    have M3 : Hid (Bk w0 (w.heap.size + 1) [.int .i64 c, .int .i64 d]) := by rw [e0]; have := bk_new (w.alloc (.cells #[.int .i64 (z 0), .int .i64 (z 1), .bool (P10.tr (z 2)), .int .i64 (z 3), .int .i64 (z 4), .int .i64 (z 5), .int .i64 (z 6), .int .i64 (z 7), .int .i64 (z 8), .int .i64 (z 9)] 63)) 43 [.int .i64 c, .int .i64 d]; rwa [show (w.alloc (.cells #[.int .i64 (z 0), .int .i64 (z 1), .bool (P10.tr (z 2)), .int .i64 (z 3), .int .i64 (z 4), .int .i64 (z 5), .int .i64 (z 6), .int .i64 (z 7), .int .i64 (z 8), .int .i64 (z 9)] 63)).heap.size = w.heap.size + 1 by simp] at this
    rw [← e0]
    clear e0
    refine (in_impl _ _ _ _).mono ?_
    rintro e v0 ⟨rfl, hb0⟩
    replace hb0 : Below w0.heap.size w0 v0 := by rw [hb0]; exact Below.refl _ _
    have B4 := hid (bthen B1.out hb0)
    have R4 := hid (R2.out.below hb0)
    have M4 := hid (M3.out.below hb0)
    clear B1 R2 M3
    clear hb0
    rw [h1]
    obtain ⟨yR0, yR1, yR2, yR3, yR4, yR5, yR6, yR7, yR8, yR9⟩ := R4.out.a10
    have hlR : w.heap.size < v0.heap.size := R4.out.1
    obtain ⟨yM0, yM1⟩ := M4.out.a2
    have hlM : (w.heap.size + 1) < v0.heap.size := M4.out.1
    go_wp2_with fail
    refine (has_impl _ _ _ _).mono ?_
    rintro e v1 ⟨rfl, hb1⟩
    clear yR0 yR1 yR2 yR3 yR4 yR5 yR6 yR7 yR8 yR9 hlR yM0 yM1 hlM
    have B5 := hid (bthen B4.out hb1)
    have R5 := hid (R4.out.below hb1)
    have M5 := hid (M4.out.below hb1)
    clear B4 R4 M4
    clear hb1
    rw [h2]
    obtain ⟨yR0, yR1, yR2, yR3, yR4, yR5, yR6, yR7, yR8, yR9⟩ := R5.out.a10
    have hlR : w.heap.size < v1.heap.size := R5.out.1
    obtain ⟨yM0, yM1⟩ := M5.out.a2
    have hlM : (w.heap.size + 1) < v1.heap.size := M5.out.1
    go_wp2_with fail
    refine (in_impl _ _ _ _).mono ?_
    rintro e v2 ⟨rfl, hb2⟩
    replace hb2 : Below v1.heap.size v1 v2 := by rw [hb2]; exact Below.refl _ _
    clear yR0 yR1 yR2 yR3 yR4 yR5 yR6 yR7 yR8 yR9 hlR yM0 yM1 hlM
    have B6 := hid (bthen B5.out hb2)
    have R6 := hid (R5.out.below hb2)
    have M6 := hid (M5.out.below hb2)
    clear B5 R5 M5
    clear hb2
    rw [h3]
    obtain ⟨yR0, yR1, yR2, yR3, yR4, yR5, yR6, yR7, yR8, yR9⟩ := R6.out.a10
    have hlR : w.heap.size < v2.heap.size := R6.out.1
    obtain ⟨yM0, yM1⟩ := M6.out.a2
    have hlM : (w.heap.size + 1) < v2.heap.size := M6.out.1
    go_wp2
    go_ret
    exact ⟨by rw [hv] <;> rfl, B6.out⟩
  rw [h3] at hv
  cases h4 : inB (z 9) 0 9
  · rw [h4] at hv
    replace hv : rowB c z = false := by rw [hv]; simp
    go_enter Tryz.func41, Tryz.ntmps41
    go_wp2_with fail
    obtain ⟨w0, e0⟩ : ∃ w0, w0 = (w.alloc (.cells #[.int .i64 (z 0), .int .i64 (z 1), .bool (P10.tr (z 2)), .int .i64 (z 3), .int .i64 (z 4), .int .i64 (z 5), .int .i64 (z 6), .int .i64 (z 7), .int .i64 (z 8), .int .i64 (z 9)] 63)).alloc (.cells #[.int .i64 c, .int .i64 d] 43) := ⟨_, rfl⟩
    have B1 : Hid (Below w.heap.size w w0) := by rw [e0]; exact ((Below.refl _ _).alloc (by simp) _).alloc (by simp) _
    have R2 : Hid (Bk w0 w.heap.size [.int .i64 (z 0), .int .i64 (z 1), .bool (P10.tr (z 2)), .int .i64 (z 3), .int .i64 (z 4), .int .i64 (z 5), .int .i64 (z 6), .int .i64 (z 7), .int .i64 (z 8), .int .i64 (z 9)]) := by rw [e0]; exact (bk_new w 63 [.int .i64 (z 0), .int .i64 (z 1), .bool (P10.tr (z 2)), .int .i64 (z 3), .int .i64 (z 4), .int .i64 (z 5), .int .i64 (z 6), .int .i64 (z 7), .int .i64 (z 8), .int .i64 (z 9)]).below ((Below.refl _ _).alloc (Nat.le_refl _) _)
    have M3 : Hid (Bk w0 (w.heap.size + 1) [.int .i64 c, .int .i64 d]) := by rw [e0]; have := bk_new (w.alloc (.cells #[.int .i64 (z 0), .int .i64 (z 1), .bool (P10.tr (z 2)), .int .i64 (z 3), .int .i64 (z 4), .int .i64 (z 5), .int .i64 (z 6), .int .i64 (z 7), .int .i64 (z 8), .int .i64 (z 9)] 63)) 43 [.int .i64 c, .int .i64 d]; rwa [show (w.alloc (.cells #[.int .i64 (z 0), .int .i64 (z 1), .bool (P10.tr (z 2)), .int .i64 (z 3), .int .i64 (z 4), .int .i64 (z 5), .int .i64 (z 6), .int .i64 (z 7), .int .i64 (z 8), .int .i64 (z 9)] 63)).heap.size = w.heap.size + 1 by simp] at this
    rw [← e0]
    clear e0
    refine (in_impl _ _ _ _).mono ?_
    rintro e v0 ⟨rfl, hb0⟩
    replace hb0 : Below w0.heap.size w0 v0 := by rw [hb0]; exact Below.refl _ _
    have B4 := hid (bthen B1.out hb0)
    have R4 := hid (R2.out.below hb0)
    have M4 := hid (M3.out.below hb0)
    clear B1 R2 M3
    clear hb0
    rw [h1]
    obtain ⟨yR0, yR1, yR2, yR3, yR4, yR5, yR6, yR7, yR8, yR9⟩ := R4.out.a10
    have hlR : w.heap.size < v0.heap.size := R4.out.1
    obtain ⟨yM0, yM1⟩ := M4.out.a2
    have hlM : (w.heap.size + 1) < v0.heap.size := M4.out.1
    go_wp2_with fail
    refine (has_impl _ _ _ _).mono ?_
    rintro e v1 ⟨rfl, hb1⟩
    clear yR0 yR1 yR2 yR3 yR4 yR5 yR6 yR7 yR8 yR9 hlR yM0 yM1 hlM
    have B5 := hid (bthen B4.out hb1)
    have R5 := hid (R4.out.below hb1)
    have M5 := hid (M4.out.below hb1)
    clear B4 R4 M4
    clear hb1
    rw [h2]
    obtain ⟨yR0, yR1, yR2, yR3, yR4, yR5, yR6, yR7, yR8, yR9⟩ := R5.out.a10
    have hlR : w.heap.size < v1.heap.size := R5.out.1
    obtain ⟨yM0, yM1⟩ := M5.out.a2
    have hlM : (w.heap.size + 1) < v1.heap.size := M5.out.1
    go_wp2_with fail
    refine (in_impl _ _ _ _).mono ?_
    rintro e v2 ⟨rfl, hb2⟩
    replace hb2 : Below v1.heap.size v1 v2 := by rw [hb2]; exact Below.refl _ _
    clear yR0 yR1 yR2 yR3 yR4 yR5 yR6 yR7 yR8 yR9 hlR yM0 yM1 hlM
    have B6 := hid (bthen B5.out hb2)
    have R6 := hid (R5.out.below hb2)
    have M6 := hid (M5.out.below hb2)
    clear B5 R5 M5
    clear hb2
    rw [h3]
    obtain ⟨yR0, yR1, yR2, yR3, yR4, yR5, yR6, yR7, yR8, yR9⟩ := R6.out.a10
    have hlR : w.heap.size < v2.heap.size := R6.out.1
    obtain ⟨yM0, yM1⟩ := M6.out.a2
    have hlM : (w.heap.size + 1) < v2.heap.size := M6.out.1
    go_wp2_with fail
    refine (in_impl _ _ _ _).mono ?_
    rintro e v3 ⟨rfl, hb3⟩
    replace hb3 : Below v2.heap.size v2 v3 := by rw [hb3]; exact Below.refl _ _
    clear yR0 yR1 yR2 yR3 yR4 yR5 yR6 yR7 yR8 yR9 hlR yM0 yM1 hlM
    have B7 := hid (bthen B6.out hb3)
    have R7 := hid (R6.out.below hb3)
    have M7 := hid (M6.out.below hb3)
    clear B6 R6 M6
    clear hb3
    rw [h4]
    obtain ⟨yR0, yR1, yR2, yR3, yR4, yR5, yR6, yR7, yR8, yR9⟩ := R7.out.a10
    have hlR : w.heap.size < v3.heap.size := R7.out.1
    obtain ⟨yM0, yM1⟩ := M7.out.a2
    have hlM : (w.heap.size + 1) < v3.heap.size := M7.out.1
    go_wp2
    go_ret
    exact ⟨by rw [hv] <;> rfl, B7.out⟩
  rw [h4] at hv
  · simp only [Bool.true_and] at hv
    go_enter Tryz.func41, Tryz.ntmps41
    go_wp2_with fail
    obtain ⟨w0, e0⟩ : ∃ w0, w0 = (w.alloc (.cells #[.int .i64 (z 0), .int .i64 (z 1), .bool (P10.tr (z 2)), .int .i64 (z 3), .int .i64 (z 4), .int .i64 (z 5), .int .i64 (z 6), .int .i64 (z 7), .int .i64 (z 8), .int .i64 (z 9)] 63)).alloc (.cells #[.int .i64 c, .int .i64 d] 43) := ⟨_, rfl⟩
    have B1 : Hid (Below w.heap.size w w0) := by rw [e0]; exact ((Below.refl _ _).alloc (by simp) _).alloc (by simp) _
    have R2 : Hid (Bk w0 w.heap.size [.int .i64 (z 0), .int .i64 (z 1), .bool (P10.tr (z 2)), .int .i64 (z 3), .int .i64 (z 4), .int .i64 (z 5), .int .i64 (z 6), .int .i64 (z 7), .int .i64 (z 8), .int .i64 (z 9)]) := by rw [e0]; exact (bk_new w 63 [.int .i64 (z 0), .int .i64 (z 1), .bool (P10.tr (z 2)), .int .i64 (z 3), .int .i64 (z 4), .int .i64 (z 5), .int .i64 (z 6), .int .i64 (z 7), .int .i64 (z 8), .int .i64 (z 9)]).below ((Below.refl _ _).alloc (Nat.le_refl _) _)
    have M3 : Hid (Bk w0 (w.heap.size + 1) [.int .i64 c, .int .i64 d]) := by rw [e0]; have := bk_new (w.alloc (.cells #[.int .i64 (z 0), .int .i64 (z 1), .bool (P10.tr (z 2)), .int .i64 (z 3), .int .i64 (z 4), .int .i64 (z 5), .int .i64 (z 6), .int .i64 (z 7), .int .i64 (z 8), .int .i64 (z 9)] 63)) 43 [.int .i64 c, .int .i64 d]; rwa [show (w.alloc (.cells #[.int .i64 (z 0), .int .i64 (z 1), .bool (P10.tr (z 2)), .int .i64 (z 3), .int .i64 (z 4), .int .i64 (z 5), .int .i64 (z 6), .int .i64 (z 7), .int .i64 (z 8), .int .i64 (z 9)] 63)).heap.size = w.heap.size + 1 by simp] at this
    rw [← e0]
    clear e0
    refine (in_impl _ _ _ _).mono ?_
    rintro e v0 ⟨rfl, hb0⟩
    replace hb0 : Below w0.heap.size w0 v0 := by rw [hb0]; exact Below.refl _ _
    have B4 := hid (bthen B1.out hb0)
    have R4 := hid (R2.out.below hb0)
    have M4 := hid (M3.out.below hb0)
    clear B1 R2 M3
    clear hb0
    rw [h1]
    obtain ⟨yR0, yR1, yR2, yR3, yR4, yR5, yR6, yR7, yR8, yR9⟩ := R4.out.a10
    have hlR : w.heap.size < v0.heap.size := R4.out.1
    obtain ⟨yM0, yM1⟩ := M4.out.a2
    have hlM : (w.heap.size + 1) < v0.heap.size := M4.out.1
    go_wp2_with fail
    refine (has_impl _ _ _ _).mono ?_
    rintro e v1 ⟨rfl, hb1⟩
    clear yR0 yR1 yR2 yR3 yR4 yR5 yR6 yR7 yR8 yR9 hlR yM0 yM1 hlM
    have B5 := hid (bthen B4.out hb1)
    have R5 := hid (R4.out.below hb1)
    have M5 := hid (M4.out.below hb1)
    clear B4 R4 M4
    clear hb1
    rw [h2]
    obtain ⟨yR0, yR1, yR2, yR3, yR4, yR5, yR6, yR7, yR8, yR9⟩ := R5.out.a10
    have hlR : w.heap.size < v1.heap.size := R5.out.1
    obtain ⟨yM0, yM1⟩ := M5.out.a2
    have hlM : (w.heap.size + 1) < v1.heap.size := M5.out.1
    go_wp2_with fail
    refine (in_impl _ _ _ _).mono ?_
    rintro e v2 ⟨rfl, hb2⟩
    replace hb2 : Below v1.heap.size v1 v2 := by rw [hb2]; exact Below.refl _ _
    clear yR0 yR1 yR2 yR3 yR4 yR5 yR6 yR7 yR8 yR9 hlR yM0 yM1 hlM
    have B6 := hid (bthen B5.out hb2)
    have R6 := hid (R5.out.below hb2)
    have M6 := hid (M5.out.below hb2)
    clear B5 R5 M5
    clear hb2
    rw [h3]
    obtain ⟨yR0, yR1, yR2, yR3, yR4, yR5, yR6, yR7, yR8, yR9⟩ := R6.out.a10
    have hlR : w.heap.size < v2.heap.size := R6.out.1
    obtain ⟨yM0, yM1⟩ := M6.out.a2
    have hlM : (w.heap.size + 1) < v2.heap.size := M6.out.1
    go_wp2_with fail
    refine (in_impl _ _ _ _).mono ?_
    rintro e v3 ⟨rfl, hb3⟩
    replace hb3 : Below v2.heap.size v2 v3 := by rw [hb3]; exact Below.refl _ _
    clear yR0 yR1 yR2 yR3 yR4 yR5 yR6 yR7 yR8 yR9 hlR yM0 yM1 hlM
    have B7 := hid (bthen B6.out hb3)
    have R7 := hid (R6.out.below hb3)
    have M7 := hid (M6.out.below hb3)
    clear B6 R6 M6
    clear hb3
    rw [h4]
    obtain ⟨yR0, yR1, yR2, yR3, yR4, yR5, yR6, yR7, yR8, yR9⟩ := R7.out.a10
    have hlR : w.heap.size < v3.heap.size := R7.out.1
    obtain ⟨yM0, yM1⟩ := M7.out.a2
    have hlM : (w.heap.size + 1) < v3.heap.size := M7.out.1
    go_wp2_with fail
    refine (orderOk_impl z (by simp [inB] at h3; omega) (by simp [inB] at h3; omega) _).mono ?_
    rintro e v9 ⟨rfl, hb9⟩
    clear yR0 yR1 yR2 yR3 yR4 yR5 yR6 yR7 yR8 yR9 hlR yM0 yM1 hlM
    have B8 := hid (bthen B7.out hb9)
    have R8 := hid (R7.out.below hb9)
    have M8 := hid (M7.out.below hb9)
    clear B7 R7 M7
    clear hb9
    obtain ⟨yR0, yR1, yR2, yR3, yR4, yR5, yR6, yR7, yR8, yR9⟩ := R8.out.a10
    have hlR : w.heap.size < v9.heap.size := R8.out.1
    obtain ⟨yM0, yM1⟩ := M8.out.a2
    have hlM : (w.heap.size + 1) < v9.heap.size := M8.out.1
    go_wp2
    go_ret
    exact ⟨by rw [hv] <;> rfl, B8.out⟩
set_option maxHeartbeats 4000000 in
theorem row_spec (c d : Int) (z : Nat → Int) (c0 : 2 ≤ c) (c1 : c ≤ 4) (w : World) :
    Calls Tryz.prog 31 #[.agg #[.int .i64 c, .int .i64 d], .agg #[.int .i64 (z 0), .int .i64 (z 1), .bool (P10.tr (z 2)), .int .i64 (z 3), .int .i64 (z 4), .int .i64 (z 5), .int .i64 (z 6), .int .i64 (z 7), .int .i64 (z 8), .int .i64 (z 9)]] w fun e w' => e = .returned (.bool (rowB c z)) ∧ Below w.heap.size w w' := by
  have hv : rowB c z = (inB (z 0) 1 9 && (inB (z 1) 0 (c - 1) && (inB (z 8) 0 900 && (inB (z 9) 0 9 && ordR z)))) := rfl
  have hc : IntKind.wrap .i64 (c - 1) = c - 1 := by simp [IntKind.wrap, IntKind.bits, IntKind.signed]; omega
  cases h1 : inB (z 0) 1 9
  · rw [h1] at hv
    replace hv : rowB c z = false := by rw [hv]; simp
    go_enter Tryz.func31, Tryz.ntmps31
    go_wp2_with fail
    obtain ⟨w0, e0⟩ : ∃ w0, w0 = (w.alloc (.cells #[.int .i64 c, .int .i64 d] 43)).alloc (.cells #[.int .i64 (z 0), .int .i64 (z 1), .bool (P10.tr (z 2)), .int .i64 (z 3), .int .i64 (z 4), .int .i64 (z 5), .int .i64 (z 6), .int .i64 (z 7), .int .i64 (z 8), .int .i64 (z 9)] 63) := ⟨_, rfl⟩
    have B1 : Hid (Below w.heap.size w w0) := by rw [e0]; exact ((Below.refl _ _).alloc (by simp) _).alloc (by simp) _
    have M2 : Hid (Bk w0 w.heap.size [.int .i64 c, .int .i64 d]) := by rw [e0]; exact (bk_new w 43 [.int .i64 c, .int .i64 d]).below ((Below.refl _ _).alloc (Nat.le_refl _) _)
    have R3 : Hid (Bk w0 (w.heap.size + 1) [.int .i64 (z 0), .int .i64 (z 1), .bool (P10.tr (z 2)), .int .i64 (z 3), .int .i64 (z 4), .int .i64 (z 5), .int .i64 (z 6), .int .i64 (z 7), .int .i64 (z 8), .int .i64 (z 9)]) := by rw [e0]; have := bk_new (w.alloc (.cells #[.int .i64 c, .int .i64 d] 43)) 63 [.int .i64 (z 0), .int .i64 (z 1), .bool (P10.tr (z 2)), .int .i64 (z 3), .int .i64 (z 4), .int .i64 (z 5), .int .i64 (z 6), .int .i64 (z 7), .int .i64 (z 8), .int .i64 (z 9)]; rwa [show (w.alloc (.cells #[.int .i64 c, .int .i64 d] 43)).heap.size = w.heap.size + 1 by simp] at this
    rw [← e0]
    clear e0
    refine (in_spec _ _ _ _).mono ?_
    rintro e v0 ⟨rfl, hb0⟩
    replace hb0 : Below w0.heap.size w0 v0 := by rw [hb0]; exact Below.refl _ _
    have B4 := hid (bthen B1.out hb0)
    have M4 := hid (M2.out.below hb0)
    have R4 := hid (R3.out.below hb0)
    clear B1 M2 R3
    clear hb0
    rw [h1]
    obtain ⟨yM0, yM1⟩ := M4.out.a2
    have hlM : w.heap.size < v0.heap.size := M4.out.1
    obtain ⟨yR0, yR1, yR2, yR3, yR4, yR5, yR6, yR7, yR8, yR9⟩ := R4.out.a10
    have hlR : (w.heap.size + 1) < v0.heap.size := R4.out.1
    go_wp2
    go_ret
    exact ⟨by rw [hv] <;> rfl, B4.out⟩
  rw [h1] at hv
  cases h2 : inB (z 1) 0 (c - 1)
  · rw [h2] at hv
    replace hv : rowB c z = false := by rw [hv]; simp
    go_enter Tryz.func31, Tryz.ntmps31
    go_wp2_with fail
    obtain ⟨w0, e0⟩ : ∃ w0, w0 = (w.alloc (.cells #[.int .i64 c, .int .i64 d] 43)).alloc (.cells #[.int .i64 (z 0), .int .i64 (z 1), .bool (P10.tr (z 2)), .int .i64 (z 3), .int .i64 (z 4), .int .i64 (z 5), .int .i64 (z 6), .int .i64 (z 7), .int .i64 (z 8), .int .i64 (z 9)] 63) := ⟨_, rfl⟩
    have B1 : Hid (Below w.heap.size w w0) := by rw [e0]; exact ((Below.refl _ _).alloc (by simp) _).alloc (by simp) _
    have M2 : Hid (Bk w0 w.heap.size [.int .i64 c, .int .i64 d]) := by rw [e0]; exact (bk_new w 43 [.int .i64 c, .int .i64 d]).below ((Below.refl _ _).alloc (Nat.le_refl _) _)
    have R3 : Hid (Bk w0 (w.heap.size + 1) [.int .i64 (z 0), .int .i64 (z 1), .bool (P10.tr (z 2)), .int .i64 (z 3), .int .i64 (z 4), .int .i64 (z 5), .int .i64 (z 6), .int .i64 (z 7), .int .i64 (z 8), .int .i64 (z 9)]) := by rw [e0]; have := bk_new (w.alloc (.cells #[.int .i64 c, .int .i64 d] 43)) 63 [.int .i64 (z 0), .int .i64 (z 1), .bool (P10.tr (z 2)), .int .i64 (z 3), .int .i64 (z 4), .int .i64 (z 5), .int .i64 (z 6), .int .i64 (z 7), .int .i64 (z 8), .int .i64 (z 9)]; rwa [show (w.alloc (.cells #[.int .i64 c, .int .i64 d] 43)).heap.size = w.heap.size + 1 by simp] at this
    rw [← e0]
    clear e0
    refine (in_spec _ _ _ _).mono ?_
    rintro e v0 ⟨rfl, hb0⟩
    replace hb0 : Below w0.heap.size w0 v0 := by rw [hb0]; exact Below.refl _ _
    have B4 := hid (bthen B1.out hb0)
    have M4 := hid (M2.out.below hb0)
    have R4 := hid (R3.out.below hb0)
    clear B1 M2 R3
    clear hb0
    rw [h1]
    obtain ⟨yM0, yM1⟩ := M4.out.a2
    have hlM : w.heap.size < v0.heap.size := M4.out.1
    obtain ⟨yR0, yR1, yR2, yR3, yR4, yR5, yR6, yR7, yR8, yR9⟩ := R4.out.a10
    have hlR : (w.heap.size + 1) < v0.heap.size := R4.out.1
    go_wp2_with fail
    refine (in_spec _ _ _ _).mono ?_
    rintro e v1 ⟨rfl, hb1⟩
    replace hb1 : Below v0.heap.size v0 v1 := by rw [hb1]; exact Below.refl _ _
    clear yM0 yM1 hlM yR0 yR1 yR2 yR3 yR4 yR5 yR6 yR7 yR8 yR9 hlR
    have B5 := hid (bthen B4.out hb1)
    have M5 := hid (M4.out.below hb1)
    have R5 := hid (R4.out.below hb1)
    clear B4 M4 R4
    clear hb1
    rw [h2]
    obtain ⟨yM0, yM1⟩ := M5.out.a2
    have hlM : w.heap.size < v1.heap.size := M5.out.1
    obtain ⟨yR0, yR1, yR2, yR3, yR4, yR5, yR6, yR7, yR8, yR9⟩ := R5.out.a10
    have hlR : (w.heap.size + 1) < v1.heap.size := R5.out.1
    go_wp2
    go_ret
    exact ⟨by rw [hv] <;> rfl, B5.out⟩
  rw [h2] at hv
  cases h3 : inB (z 8) 0 900
  · rw [h3] at hv
    replace hv : rowB c z = false := by rw [hv]; simp
    go_enter Tryz.func31, Tryz.ntmps31
    go_wp2_with fail
    obtain ⟨w0, e0⟩ : ∃ w0, w0 = (w.alloc (.cells #[.int .i64 c, .int .i64 d] 43)).alloc (.cells #[.int .i64 (z 0), .int .i64 (z 1), .bool (P10.tr (z 2)), .int .i64 (z 3), .int .i64 (z 4), .int .i64 (z 5), .int .i64 (z 6), .int .i64 (z 7), .int .i64 (z 8), .int .i64 (z 9)] 63) := ⟨_, rfl⟩
    have B1 : Hid (Below w.heap.size w w0) := by rw [e0]; exact ((Below.refl _ _).alloc (by simp) _).alloc (by simp) _
    have M2 : Hid (Bk w0 w.heap.size [.int .i64 c, .int .i64 d]) := by rw [e0]; exact (bk_new w 43 [.int .i64 c, .int .i64 d]).below ((Below.refl _ _).alloc (Nat.le_refl _) _)
    have R3 : Hid (Bk w0 (w.heap.size + 1) [.int .i64 (z 0), .int .i64 (z 1), .bool (P10.tr (z 2)), .int .i64 (z 3), .int .i64 (z 4), .int .i64 (z 5), .int .i64 (z 6), .int .i64 (z 7), .int .i64 (z 8), .int .i64 (z 9)]) := by rw [e0]; have := bk_new (w.alloc (.cells #[.int .i64 c, .int .i64 d] 43)) 63 [.int .i64 (z 0), .int .i64 (z 1), .bool (P10.tr (z 2)), .int .i64 (z 3), .int .i64 (z 4), .int .i64 (z 5), .int .i64 (z 6), .int .i64 (z 7), .int .i64 (z 8), .int .i64 (z 9)]; rwa [show (w.alloc (.cells #[.int .i64 c, .int .i64 d] 43)).heap.size = w.heap.size + 1 by simp] at this
    rw [← e0]
    clear e0
    refine (in_spec _ _ _ _).mono ?_
    rintro e v0 ⟨rfl, hb0⟩
    replace hb0 : Below w0.heap.size w0 v0 := by rw [hb0]; exact Below.refl _ _
    have B4 := hid (bthen B1.out hb0)
    have M4 := hid (M2.out.below hb0)
    have R4 := hid (R3.out.below hb0)
    clear B1 M2 R3
    clear hb0
    rw [h1]
    obtain ⟨yM0, yM1⟩ := M4.out.a2
    have hlM : w.heap.size < v0.heap.size := M4.out.1
    obtain ⟨yR0, yR1, yR2, yR3, yR4, yR5, yR6, yR7, yR8, yR9⟩ := R4.out.a10
    have hlR : (w.heap.size + 1) < v0.heap.size := R4.out.1
    go_wp2_with fail
    refine (in_spec _ _ _ _).mono ?_
    rintro e v1 ⟨rfl, hb1⟩
    replace hb1 : Below v0.heap.size v0 v1 := by rw [hb1]; exact Below.refl _ _
    clear yM0 yM1 hlM yR0 yR1 yR2 yR3 yR4 yR5 yR6 yR7 yR8 yR9 hlR
    have B5 := hid (bthen B4.out hb1)
    have M5 := hid (M4.out.below hb1)
    have R5 := hid (R4.out.below hb1)
    clear B4 M4 R4
    clear hb1
    rw [h2]
    obtain ⟨yM0, yM1⟩ := M5.out.a2
    have hlM : w.heap.size < v1.heap.size := M5.out.1
    obtain ⟨yR0, yR1, yR2, yR3, yR4, yR5, yR6, yR7, yR8, yR9⟩ := R5.out.a10
    have hlR : (w.heap.size + 1) < v1.heap.size := R5.out.1
    go_wp2_with fail
    refine (in_spec _ _ _ _).mono ?_
    rintro e v2 ⟨rfl, hb2⟩
    replace hb2 : Below v1.heap.size v1 v2 := by rw [hb2]; exact Below.refl _ _
    clear yM0 yM1 hlM yR0 yR1 yR2 yR3 yR4 yR5 yR6 yR7 yR8 yR9 hlR
    have B6 := hid (bthen B5.out hb2)
    have M6 := hid (M5.out.below hb2)
    have R6 := hid (R5.out.below hb2)
    clear B5 M5 R5
    clear hb2
    rw [h3]
    obtain ⟨yM0, yM1⟩ := M6.out.a2
    have hlM : w.heap.size < v2.heap.size := M6.out.1
    obtain ⟨yR0, yR1, yR2, yR3, yR4, yR5, yR6, yR7, yR8, yR9⟩ := R6.out.a10
    have hlR : (w.heap.size + 1) < v2.heap.size := R6.out.1
    go_wp2
    go_ret
    exact ⟨by rw [hv] <;> rfl, B6.out⟩
  rw [h3] at hv
  cases h4 : inB (z 9) 0 9
  · rw [h4] at hv
    replace hv : rowB c z = false := by rw [hv]; simp
    go_enter Tryz.func31, Tryz.ntmps31
    go_wp2_with fail
    obtain ⟨w0, e0⟩ : ∃ w0, w0 = (w.alloc (.cells #[.int .i64 c, .int .i64 d] 43)).alloc (.cells #[.int .i64 (z 0), .int .i64 (z 1), .bool (P10.tr (z 2)), .int .i64 (z 3), .int .i64 (z 4), .int .i64 (z 5), .int .i64 (z 6), .int .i64 (z 7), .int .i64 (z 8), .int .i64 (z 9)] 63) := ⟨_, rfl⟩
    have B1 : Hid (Below w.heap.size w w0) := by rw [e0]; exact ((Below.refl _ _).alloc (by simp) _).alloc (by simp) _
    have M2 : Hid (Bk w0 w.heap.size [.int .i64 c, .int .i64 d]) := by rw [e0]; exact (bk_new w 43 [.int .i64 c, .int .i64 d]).below ((Below.refl _ _).alloc (Nat.le_refl _) _)
    have R3 : Hid (Bk w0 (w.heap.size + 1) [.int .i64 (z 0), .int .i64 (z 1), .bool (P10.tr (z 2)), .int .i64 (z 3), .int .i64 (z 4), .int .i64 (z 5), .int .i64 (z 6), .int .i64 (z 7), .int .i64 (z 8), .int .i64 (z 9)]) := by rw [e0]; have := bk_new (w.alloc (.cells #[.int .i64 c, .int .i64 d] 43)) 63 [.int .i64 (z 0), .int .i64 (z 1), .bool (P10.tr (z 2)), .int .i64 (z 3), .int .i64 (z 4), .int .i64 (z 5), .int .i64 (z 6), .int .i64 (z 7), .int .i64 (z 8), .int .i64 (z 9)]; rwa [show (w.alloc (.cells #[.int .i64 c, .int .i64 d] 43)).heap.size = w.heap.size + 1 by simp] at this
    rw [← e0]
    clear e0
    refine (in_spec _ _ _ _).mono ?_
    rintro e v0 ⟨rfl, hb0⟩
    replace hb0 : Below w0.heap.size w0 v0 := by rw [hb0]; exact Below.refl _ _
    have B4 := hid (bthen B1.out hb0)
    have M4 := hid (M2.out.below hb0)
    have R4 := hid (R3.out.below hb0)
    clear B1 M2 R3
    clear hb0
    rw [h1]
    obtain ⟨yM0, yM1⟩ := M4.out.a2
    have hlM : w.heap.size < v0.heap.size := M4.out.1
    obtain ⟨yR0, yR1, yR2, yR3, yR4, yR5, yR6, yR7, yR8, yR9⟩ := R4.out.a10
    have hlR : (w.heap.size + 1) < v0.heap.size := R4.out.1
    go_wp2_with fail
    refine (in_spec _ _ _ _).mono ?_
    rintro e v1 ⟨rfl, hb1⟩
    replace hb1 : Below v0.heap.size v0 v1 := by rw [hb1]; exact Below.refl _ _
    clear yM0 yM1 hlM yR0 yR1 yR2 yR3 yR4 yR5 yR6 yR7 yR8 yR9 hlR
    have B5 := hid (bthen B4.out hb1)
    have M5 := hid (M4.out.below hb1)
    have R5 := hid (R4.out.below hb1)
    clear B4 M4 R4
    clear hb1
    rw [h2]
    obtain ⟨yM0, yM1⟩ := M5.out.a2
    have hlM : w.heap.size < v1.heap.size := M5.out.1
    obtain ⟨yR0, yR1, yR2, yR3, yR4, yR5, yR6, yR7, yR8, yR9⟩ := R5.out.a10
    have hlR : (w.heap.size + 1) < v1.heap.size := R5.out.1
    go_wp2_with fail
    refine (in_spec _ _ _ _).mono ?_
    rintro e v2 ⟨rfl, hb2⟩
    replace hb2 : Below v1.heap.size v1 v2 := by rw [hb2]; exact Below.refl _ _
    clear yM0 yM1 hlM yR0 yR1 yR2 yR3 yR4 yR5 yR6 yR7 yR8 yR9 hlR
    have B6 := hid (bthen B5.out hb2)
    have M6 := hid (M5.out.below hb2)
    have R6 := hid (R5.out.below hb2)
    clear B5 M5 R5
    clear hb2
    rw [h3]
    obtain ⟨yM0, yM1⟩ := M6.out.a2
    have hlM : w.heap.size < v2.heap.size := M6.out.1
    obtain ⟨yR0, yR1, yR2, yR3, yR4, yR5, yR6, yR7, yR8, yR9⟩ := R6.out.a10
    have hlR : (w.heap.size + 1) < v2.heap.size := R6.out.1
    go_wp2_with fail
    refine (in_spec _ _ _ _).mono ?_
    rintro e v3 ⟨rfl, hb3⟩
    replace hb3 : Below v2.heap.size v2 v3 := by rw [hb3]; exact Below.refl _ _
    clear yM0 yM1 hlM yR0 yR1 yR2 yR3 yR4 yR5 yR6 yR7 yR8 yR9 hlR
    have B7 := hid (bthen B6.out hb3)
    have M7 := hid (M6.out.below hb3)
    have R7 := hid (R6.out.below hb3)
    clear B6 M6 R6
    clear hb3
    rw [h4]
    obtain ⟨yM0, yM1⟩ := M7.out.a2
    have hlM : w.heap.size < v3.heap.size := M7.out.1
    obtain ⟨yR0, yR1, yR2, yR3, yR4, yR5, yR6, yR7, yR8, yR9⟩ := R7.out.a10
    have hlR : (w.heap.size + 1) < v3.heap.size := R7.out.1
    go_wp2
    go_ret
    exact ⟨by rw [hv] <;> rfl, B7.out⟩
  rw [h4] at hv
  simp only [Bool.true_and] at hv
  have b8 : 0 ≤ z 8 ∧ z 8 ≤ 900 := by simp [inB] at h3; omega
  have hw : IntKind.wrap .i64 (z 8 + 1) = z 8 + 1 := by simp [IntKind.wrap, IntKind.bits, IntKind.signed]; omega
  cases hb : P10.tr (z 2)
  · have E := qo z
    go_enter Tryz.func31, Tryz.ntmps31
    go_wp2_with fail
    obtain ⟨w0, e0⟩ : ∃ w0, w0 = (w.alloc (.cells #[.int .i64 c, .int .i64 d] 43)).alloc (.cells #[.int .i64 (z 0), .int .i64 (z 1), .bool false, .int .i64 (z 3), .int .i64 (z 4), .int .i64 (z 5), .int .i64 (z 6), .int .i64 (z 7), .int .i64 (z 8), .int .i64 (z 9)] 63) := ⟨_, rfl⟩
    have B1 : Hid (Below w.heap.size w w0) := by rw [e0]; exact ((Below.refl _ _).alloc (by simp) _).alloc (by simp) _
    have M2 : Hid (Bk w0 w.heap.size [.int .i64 c, .int .i64 d]) := by rw [e0]; exact (bk_new w 43 [.int .i64 c, .int .i64 d]).below ((Below.refl _ _).alloc (Nat.le_refl _) _)
    have R3 : Hid (Bk w0 (w.heap.size + 1) [.int .i64 (z 0), .int .i64 (z 1), .bool false, .int .i64 (z 3), .int .i64 (z 4), .int .i64 (z 5), .int .i64 (z 6), .int .i64 (z 7), .int .i64 (z 8), .int .i64 (z 9)]) := by rw [e0]; have := bk_new (w.alloc (.cells #[.int .i64 c, .int .i64 d] 43)) 63 [.int .i64 (z 0), .int .i64 (z 1), .bool false, .int .i64 (z 3), .int .i64 (z 4), .int .i64 (z 5), .int .i64 (z 6), .int .i64 (z 7), .int .i64 (z 8), .int .i64 (z 9)]; rwa [show (w.alloc (.cells #[.int .i64 c, .int .i64 d] 43)).heap.size = w.heap.size + 1 by simp] at this
    rw [← e0]
    clear e0
    refine (in_spec _ _ _ _).mono ?_
    rintro e v0 ⟨rfl, hb0⟩
    replace hb0 : Below w0.heap.size w0 v0 := by rw [hb0]; exact Below.refl _ _
    have B4 := hid (bthen B1.out hb0)
    have M4 := hid (M2.out.below hb0)
    have R4 := hid (R3.out.below hb0)
    clear B1 M2 R3
    clear hb0
    rw [h1]
    obtain ⟨yM0, yM1⟩ := M4.out.a2
    have hlM : w.heap.size < v0.heap.size := M4.out.1
    obtain ⟨yR0, yR1, yR2, yR3, yR4, yR5, yR6, yR7, yR8, yR9⟩ := R4.out.a10
    have hlR : (w.heap.size + 1) < v0.heap.size := R4.out.1
    go_wp2_with fail
    refine (in_spec _ _ _ _).mono ?_
    rintro e v1 ⟨rfl, hb1⟩
    replace hb1 : Below v0.heap.size v0 v1 := by rw [hb1]; exact Below.refl _ _
    clear yM0 yM1 hlM yR0 yR1 yR2 yR3 yR4 yR5 yR6 yR7 yR8 yR9 hlR
    have B5 := hid (bthen B4.out hb1)
    have M5 := hid (M4.out.below hb1)
    have R5 := hid (R4.out.below hb1)
    clear B4 M4 R4
    clear hb1
    rw [h2]
    obtain ⟨yM0, yM1⟩ := M5.out.a2
    have hlM : w.heap.size < v1.heap.size := M5.out.1
    obtain ⟨yR0, yR1, yR2, yR3, yR4, yR5, yR6, yR7, yR8, yR9⟩ := R5.out.a10
    have hlR : (w.heap.size + 1) < v1.heap.size := R5.out.1
    go_wp2_with fail
    refine (in_spec _ _ _ _).mono ?_
    rintro e v2 ⟨rfl, hb2⟩
    replace hb2 : Below v1.heap.size v1 v2 := by rw [hb2]; exact Below.refl _ _
    clear yM0 yM1 hlM yR0 yR1 yR2 yR3 yR4 yR5 yR6 yR7 yR8 yR9 hlR
    have B6 := hid (bthen B5.out hb2)
    have M6 := hid (M5.out.below hb2)
    have R6 := hid (R5.out.below hb2)
    clear B5 M5 R5
    clear hb2
    rw [h3]
    obtain ⟨yM0, yM1⟩ := M6.out.a2
    have hlM : w.heap.size < v2.heap.size := M6.out.1
    obtain ⟨yR0, yR1, yR2, yR3, yR4, yR5, yR6, yR7, yR8, yR9⟩ := R6.out.a10
    have hlR : (w.heap.size + 1) < v2.heap.size := R6.out.1
    go_wp2_with fail
    refine (in_spec _ _ _ _).mono ?_
    rintro e v3 ⟨rfl, hb3⟩
    replace hb3 : Below v2.heap.size v2 v3 := by rw [hb3]; exact Below.refl _ _
    clear yM0 yM1 hlM yR0 yR1 yR2 yR3 yR4 yR5 yR6 yR7 yR8 yR9 hlR
    have B7 := hid (bthen B6.out hb3)
    have M7 := hid (M6.out.below hb3)
    have R7 := hid (R6.out.below hb3)
    clear B6 M6 R6
    clear hb3
    rw [h4]
    obtain ⟨yM0, yM1⟩ := M7.out.a2
    have hlM : w.heap.size < v3.heap.size := M7.out.1
    obtain ⟨yR0, yR1, yR2, yR3, yR4, yR5, yR6, yR7, yR8, yR9⟩ := R7.out.a10
    have hlR : (w.heap.size + 1) < v3.heap.size := R7.out.1
    go_wp2
    go_ret
    exact ⟨by rw [hv]; simp [ordR, hb], B7.out⟩
  · go_enter Tryz.func31, Tryz.ntmps31
    go_wp2_with fail
    obtain ⟨w0, e0⟩ : ∃ w0, w0 = (w.alloc (.cells #[.int .i64 c, .int .i64 d] 43)).alloc (.cells #[.int .i64 (z 0), .int .i64 (z 1), .bool true, .int .i64 (z 3), .int .i64 (z 4), .int .i64 (z 5), .int .i64 (z 6), .int .i64 (z 7), .int .i64 (z 8), .int .i64 (z 9)] 63) := ⟨_, rfl⟩
    have B1 : Hid (Below w.heap.size w w0) := by rw [e0]; exact ((Below.refl _ _).alloc (by simp) _).alloc (by simp) _
    have M2 : Hid (Bk w0 w.heap.size [.int .i64 c, .int .i64 d]) := by rw [e0]; exact (bk_new w 43 [.int .i64 c, .int .i64 d]).below ((Below.refl _ _).alloc (Nat.le_refl _) _)
    have R3 : Hid (Bk w0 (w.heap.size + 1) [.int .i64 (z 0), .int .i64 (z 1), .bool true, .int .i64 (z 3), .int .i64 (z 4), .int .i64 (z 5), .int .i64 (z 6), .int .i64 (z 7), .int .i64 (z 8), .int .i64 (z 9)]) := by rw [e0]; have := bk_new (w.alloc (.cells #[.int .i64 c, .int .i64 d] 43)) 63 [.int .i64 (z 0), .int .i64 (z 1), .bool true, .int .i64 (z 3), .int .i64 (z 4), .int .i64 (z 5), .int .i64 (z 6), .int .i64 (z 7), .int .i64 (z 8), .int .i64 (z 9)]; rwa [show (w.alloc (.cells #[.int .i64 c, .int .i64 d] 43)).heap.size = w.heap.size + 1 by simp] at this
    rw [← e0]
    clear e0
    refine (in_spec _ _ _ _).mono ?_
    rintro e v0 ⟨rfl, hb0⟩
    replace hb0 : Below w0.heap.size w0 v0 := by rw [hb0]; exact Below.refl _ _
    have B4 := hid (bthen B1.out hb0)
    have M4 := hid (M2.out.below hb0)
    have R4 := hid (R3.out.below hb0)
    clear B1 M2 R3
    clear hb0
    rw [h1]
    obtain ⟨yM0, yM1⟩ := M4.out.a2
    have hlM : w.heap.size < v0.heap.size := M4.out.1
    obtain ⟨yR0, yR1, yR2, yR3, yR4, yR5, yR6, yR7, yR8, yR9⟩ := R4.out.a10
    have hlR : (w.heap.size + 1) < v0.heap.size := R4.out.1
    go_wp2_with fail
    refine (in_spec _ _ _ _).mono ?_
    rintro e v1 ⟨rfl, hb1⟩
    replace hb1 : Below v0.heap.size v0 v1 := by rw [hb1]; exact Below.refl _ _
    clear yM0 yM1 hlM yR0 yR1 yR2 yR3 yR4 yR5 yR6 yR7 yR8 yR9 hlR
    have B5 := hid (bthen B4.out hb1)
    have M5 := hid (M4.out.below hb1)
    have R5 := hid (R4.out.below hb1)
    clear B4 M4 R4
    clear hb1
    rw [h2]
    obtain ⟨yM0, yM1⟩ := M5.out.a2
    have hlM : w.heap.size < v1.heap.size := M5.out.1
    obtain ⟨yR0, yR1, yR2, yR3, yR4, yR5, yR6, yR7, yR8, yR9⟩ := R5.out.a10
    have hlR : (w.heap.size + 1) < v1.heap.size := R5.out.1
    go_wp2_with fail
    refine (in_spec _ _ _ _).mono ?_
    rintro e v2 ⟨rfl, hb2⟩
    replace hb2 : Below v1.heap.size v1 v2 := by rw [hb2]; exact Below.refl _ _
    clear yM0 yM1 hlM yR0 yR1 yR2 yR3 yR4 yR5 yR6 yR7 yR8 yR9 hlR
    have B6 := hid (bthen B5.out hb2)
    have M6 := hid (M5.out.below hb2)
    have R6 := hid (R5.out.below hb2)
    clear B5 M5 R5
    clear hb2
    rw [h3]
    obtain ⟨yM0, yM1⟩ := M6.out.a2
    have hlM : w.heap.size < v2.heap.size := M6.out.1
    obtain ⟨yR0, yR1, yR2, yR3, yR4, yR5, yR6, yR7, yR8, yR9⟩ := R6.out.a10
    have hlR : (w.heap.size + 1) < v2.heap.size := R6.out.1
    go_wp2_with fail
    refine (in_spec _ _ _ _).mono ?_
    rintro e v3 ⟨rfl, hb3⟩
    replace hb3 : Below v2.heap.size v2 v3 := by rw [hb3]; exact Below.refl _ _
    clear yM0 yM1 hlM yR0 yR1 yR2 yR3 yR4 yR5 yR6 yR7 yR8 yR9 hlR
    have B7 := hid (bthen B6.out hb3)
    have M7 := hid (M6.out.below hb3)
    have R7 := hid (R6.out.below hb3)
    clear B6 M6 R6
    clear hb3
    rw [h4]
    obtain ⟨yM0, yM1⟩ := M7.out.a2
    have hlM : w.heap.size < v3.heap.size := M7.out.1
    obtain ⟨yR0, yR1, yR2, yR3, yR4, yR5, yR6, yR7, yR8, yR9⟩ := R7.out.a10
    have hlR : (w.heap.size + 1) < v3.heap.size := R7.out.1
    go_wp2_with fail
    refine (ordOk_spec _ _ _ _ _ _).mono ?_
    rintro e v9 ⟨rfl, hb9⟩
    clear yM0 yM1 hlM yR0 yR1 yR2 yR3 yR4 yR5 yR6 yR7 yR8 yR9 hlR
    have B8 := hid (bthen B7.out hb9)
    have M8 := hid (M7.out.below hb9)
    have R8 := hid (R7.out.below hb9)
    clear B7 M7 R7
    clear hb9
    obtain ⟨yM0, yM1⟩ := M8.out.a2
    have hlM : w.heap.size < v9.heap.size := M8.out.1
    obtain ⟨yR0, yR1, yR2, yR3, yR4, yR5, yR6, yR7, yR8, yR9⟩ := R8.out.a10
    have hlR : (w.heap.size + 1) < v9.heap.size := R8.out.1
    cases q1 : ordB (z 3) (z 4) (z 5) (z 6) (z 7)
    · go_wp2
      go_ret
      exact ⟨by rw [hv]; simp [ordR, hb, q1], B8.out⟩
    cases q2 : z 3 == z 0
    · go_wp2
      go_ret
      exact ⟨by rw [hv]; simp [ordR, hb, q2], B8.out⟩
    go_wp2
    go_ret
    exact ⟨by rw [hv]; simp [ordR, hb, q1, q2], B8.out⟩
end Go.Proofs.YtgjapdjidighlabGreat
