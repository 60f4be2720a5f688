/- LogRead: the law; conditions: those typed. -/
import Derived.Test.YtgioecjnghllhaaGreatDoorLJ
import Derived.Deep.DeepCutAuto
import Derived.Deep.MidRow
namespace Go.Proofs.YtgioecjnghllhaaGreatDoor
open Go.RowKit Go.Deep
set_option linter.unusedVariables false
set_option maxRecDepth 100000
theorem eqO (p0 p1 p2 p3 p4 : Int) (w : World) : Calls Tryz.prog 16 #[.agg #[.int .i64 p0, .int .i64 p1, .int .i64 p2, .int .i64 p3, .int .i64 p4], .agg #[.int .i64 p0, .int .i64 p1, .int .i64 p2, .int .i64 p3, .int .i64 p4]] w fun e w' => e = .returned (.bool true) ∧ Below w.heap.size w w' := by
  go_enter Tryz.func16, Tryz.ntmps16
  go_wp2
  go_ret
  exact ⟨rfl, by repeat (first | exact Below.refl _ _ | refine bthen ?_ (by assumption) | apply Below.drew | apply bdrewN | refine Below.alloc ?_ (by simp) _)⟩
theorem eqW (p0 p1 p2 p3 p4 : Int) (w : World) : Calls Tryz.prog 39 #[.agg #[.int .i64 p0, .int .i64 p1, .int .i64 p2, .int .i64 p3, .int .i64 p4], .agg #[.int .i64 p0, .int .i64 p1, .int .i64 p2, .int .i64 p3, .int .i64 p4]] w fun e w' => e = .returned (.bool true) ∧ Below w.heap.size w w' := by
  go_enter Tryz.func39, Tryz.ntmps39
  go_wp2
  go_ret
  exact ⟨rfl, by repeat (first | exact Below.refl _ _ | refine bthen ?_ (by assumption) | apply Below.drew | apply bdrewN | refine Below.alloc ?_ (by simp) _)⟩
set_option maxHeartbeats 2000000 in
theorem eqP (q0 q1 q2 q3 q4 q5 q6 q7 : Int) (w : World) : Calls Tryz.prog 17 #[.agg #[.int .i64 q0, .int .i64 q1, .int .i64 q2, .int .i64 q3, .int .i64 q4, .int .i64 q5, .int .i64 q6, .int .i64 q7], .agg #[.int .i64 q0, .int .i64 q1, .int .i64 q2, .int .i64 q3, .int .i64 q4, .int .i64 q5, .int .i64 q6, .int .i64 q7]] w fun e w' => e = .returned (.bool true) ∧ Below w.heap.size w w' := by
  go_enter Tryz.func17, Tryz.ntmps17
  go_wp2_with fail
  obtain ⟨w0, e0⟩ : ∃ w0, w0 = (w.alloc (.cells #[.int .i64 q0, .int .i64 q1, .int .i64 q2, .int .i64 q3, .int .i64 q4, .int .i64 q5, .int .i64 q6, .int .i64 q7] 27)).alloc (.cells #[.int .i64 q0, .int .i64 q1, .int .i64 q2, .int .i64 q3, .int .i64 q4, .int .i64 q5, .int .i64 q6, .int .i64 q7] 27) := ⟨_, rfl⟩
  have B1 : Hid (Below w.heap.size w w0) := by rw [e0]; exact ((Below.refl _ _).alloc (by simp) _).alloc (by simp) _
  have A2 : Hid (Bk w0 w.heap.size [.int .i64 q0, .int .i64 q1, .int .i64 q2, .int .i64 q3, .int .i64 q4, .int .i64 q5, .int .i64 q6, .int .i64 q7]) := by rw [e0]; exact (bk_new w 27 [.int .i64 q0, .int .i64 q1, .int .i64 q2, .int .i64 q3, .int .i64 q4, .int .i64 q5, .int .i64 q6, .int .i64 q7]).below ((Below.refl _ _).alloc (Nat.le_refl _) _)
  have B23 : Hid (Bk w0 (w.heap.size + 1) [.int .i64 q0, .int .i64 q1, .int .i64 q2, .int .i64 q3, .int .i64 q4, .int .i64 q5, .int .i64 q6, .int .i64 q7]) := by rw [e0]; have := bk_new (w.alloc (.cells #[.int .i64 q0, .int .i64 q1, .int .i64 q2, .int .i64 q3, .int .i64 q4, .int .i64 q5, .int .i64 q6, .int .i64 q7] 27)) 27 [.int .i64 q0, .int .i64 q1, .int .i64 q2, .int .i64 q3, .int .i64 q4, .int .i64 q5, .int .i64 q6, .int .i64 q7]; rwa [show (w.alloc (.cells #[.int .i64 q0, .int .i64 q1, .int .i64 q2, .int .i64 q3, .int .i64 q4, .int .i64 q5, .int .i64 q6, .int .i64 q7] 27)).heap.size = w.heap.size + 1 by simp] at this
  rw [← e0]
  clear e0
  refine (eqW _ _ _ _ _ _).mono ?_
  rintro e w1 ⟨rfl, hb⟩
  have B4 : Hid (Below w.heap.size w w1) := bthen B1.out hb
  have A4 : Hid (Bk w1 w.heap.size [.int .i64 q0, .int .i64 q1, .int .i64 q2, .int .i64 q3, .int .i64 q4, .int .i64 q5, .int .i64 q6, .int .i64 q7]) := A2.out.below hb
  have B24 : Hid (Bk w1 (w.heap.size + 1) [.int .i64 q0, .int .i64 q1, .int .i64 q2, .int .i64 q3, .int .i64 q4, .int .i64 q5, .int .i64 q6, .int .i64 q7]) := B23.out.below hb
  clear B1 A2 B23
  clear hb
  have yA0 : w1.cell? ⟨w.heap.size, 0, none⟩ = some (.int .i64 q0) := (A4.out.2 0 (by simp)).1
  have yA1 : w1.cell? ⟨w.heap.size, 1, none⟩ = some (.int .i64 q1) := (A4.out.2 1 (by simp)).1
  have yA2 : w1.cell? ⟨w.heap.size, 2, none⟩ = some (.int .i64 q2) := (A4.out.2 2 (by simp)).1
  have yA3 : w1.cell? ⟨w.heap.size, 3, none⟩ = some (.int .i64 q3) := (A4.out.2 3 (by simp)).1
  have yA4 : w1.cell? ⟨w.heap.size, 4, none⟩ = some (.int .i64 q4) := (A4.out.2 4 (by simp)).1
  have yA5 : w1.cell? ⟨w.heap.size, 5, none⟩ = some (.int .i64 q5) := (A4.out.2 5 (by simp)).1
  have yA6 : w1.cell? ⟨w.heap.size, 6, none⟩ = some (.int .i64 q6) := (A4.out.2 6 (by simp)).1
  have yA7 : w1.cell? ⟨w.heap.size, 7, none⟩ = some (.int .i64 q7) := (A4.out.2 7 (by simp)).1
  have hlA : w.heap.size < w1.heap.size := A4.out.1
  have yB20 : w1.cell? ⟨(w.heap.size + 1), 0, none⟩ = some (.int .i64 q0) := (B24.out.2 0 (by simp)).1
  have yB21 : w1.cell? ⟨(w.heap.size + 1), 1, none⟩ = some (.int .i64 q1) := (B24.out.2 1 (by simp)).1
  have yB22 : w1.cell? ⟨(w.heap.size + 1), 2, none⟩ = some (.int .i64 q2) := (B24.out.2 2 (by simp)).1
  have yB23 : w1.cell? ⟨(w.heap.size + 1), 3, none⟩ = some (.int .i64 q3) := (B24.out.2 3 (by simp)).1
  have yB24 : w1.cell? ⟨(w.heap.size + 1), 4, none⟩ = some (.int .i64 q4) := (B24.out.2 4 (by simp)).1
  have yB25 : w1.cell? ⟨(w.heap.size + 1), 5, none⟩ = some (.int .i64 q5) := (B24.out.2 5 (by simp)).1
  have yB26 : w1.cell? ⟨(w.heap.size + 1), 6, none⟩ = some (.int .i64 q6) := (B24.out.2 6 (by simp)).1
  have yB27 : w1.cell? ⟨(w.heap.size + 1), 7, none⟩ = some (.int .i64 q7) := (B24.out.2 7 (by simp)).1
  have hlB2 : (w.heap.size + 1) < w1.heap.size := B24.out.1
  go_wp2
  go_ret
  exact ⟨rfl, B4.out⟩
set_option maxHeartbeats 4000000 in
theorem eqRec (k : Int) (r : Nat → Int) (w : World) : Calls Tryz.prog 6 #[.agg #[.int .i64 k, .int .i64 (r 1), .int .i64 (r 2), .int .i64 (r 3), .int .i64 (r 4), .int .i64 (r 5), .int .i64 (r 6), .int .i64 (r 7), .int .i64 (r 8), .int .i64 (r 9), .int .i64 (r 10), .int .i64 (r 11), .int .i64 (r 12), .int .i64 (r 13), .int .i64 (r 14), .int .i64 (r 15)], .agg #[.int .i64 k, .int .i64 (r 1), .int .i64 (r 2), .int .i64 (r 3), .int .i64 (r 4), .int .i64 (r 5), .int .i64 (r 6), .int .i64 (r 7), .int .i64 (r 8), .int .i64 (r 9), .int .i64 (r 10), .int .i64 (r 11), .int .i64 (r 12), .int .i64 (r 13), .int .i64 (r 14), .int .i64 (r 15)]] w fun e w' => e = .returned (.bool true) ∧ Below w.heap.size w w' := by
  go_enter Tryz.func6, Tryz.ntmps6
  go_wp2_with fail
  obtain ⟨w0, e0⟩ : ∃ w0, w0 = (w.alloc (.cells #[.int .i64 k, .int .i64 (r 1), .int .i64 (r 2), .int .i64 (r 3), .int .i64 (r 4), .int .i64 (r 5), .int .i64 (r 6), .int .i64 (r 7), .int .i64 (r 8), .int .i64 (r 9), .int .i64 (r 10), .int .i64 (r 11), .int .i64 (r 12), .int .i64 (r 13), .int .i64 (r 14), .int .i64 (r 15)] 29)).alloc (.cells #[.int .i64 k, .int .i64 (r 1), .int .i64 (r 2), .int .i64 (r 3), .int .i64 (r 4), .int .i64 (r 5), .int .i64 (r 6), .int .i64 (r 7), .int .i64 (r 8), .int .i64 (r 9), .int .i64 (r 10), .int .i64 (r 11), .int .i64 (r 12), .int .i64 (r 13), .int .i64 (r 14), .int .i64 (r 15)] 29) := ⟨_, rfl⟩
  have B1 : Hid (Below w.heap.size w w0) := by rw [e0]; exact ((Below.refl _ _).alloc (by simp) _).alloc (by simp) _
  have A2 : Hid (Bk w0 w.heap.size [.int .i64 k, .int .i64 (r 1), .int .i64 (r 2), .int .i64 (r 3), .int .i64 (r 4), .int .i64 (r 5), .int .i64 (r 6), .int .i64 (r 7), .int .i64 (r 8), .int .i64 (r 9), .int .i64 (r 10), .int .i64 (r 11), .int .i64 (r 12), .int .i64 (r 13), .int .i64 (r 14), .int .i64 (r 15)]) := by rw [e0]; exact (bk_new w 29 [.int .i64 k, .int .i64 (r 1), .int .i64 (r 2), .int .i64 (r 3), .int .i64 (r 4), .int .i64 (r 5), .int .i64 (r 6), .int .i64 (r 7), .int .i64 (r 8), .int .i64 (r 9), .int .i64 (r 10), .int .i64 (r 11), .int .i64 (r 12), .int .i64 (r 13), .int .i64 (r 14), .int .i64 (r 15)]).below ((Below.refl _ _).alloc (Nat.le_refl _) _)
  have B23 : Hid (Bk w0 (w.heap.size + 1) [.int .i64 k, .int .i64 (r 1), .int .i64 (r 2), .int .i64 (r 3), .int .i64 (r 4), .int .i64 (r 5), .int .i64 (r 6), .int .i64 (r 7), .int .i64 (r 8), .int .i64 (r 9), .int .i64 (r 10), .int .i64 (r 11), .int .i64 (r 12), .int .i64 (r 13), .int .i64 (r 14), .int .i64 (r 15)]) := by rw [e0]; have := bk_new (w.alloc (.cells #[.int .i64 k, .int .i64 (r 1), .int .i64 (r 2), .int .i64 (r 3), .int .i64 (r 4), .int .i64 (r 5), .int .i64 (r 6), .int .i64 (r 7), .int .i64 (r 8), .int .i64 (r 9), .int .i64 (r 10), .int .i64 (r 11), .int .i64 (r 12), .int .i64 (r 13), .int .i64 (r 14), .int .i64 (r 15)] 29)) 29 [.int .i64 k, .int .i64 (r 1), .int .i64 (r 2), .int .i64 (r 3), .int .i64 (r 4), .int .i64 (r 5), .int .i64 (r 6), .int .i64 (r 7), .int .i64 (r 8), .int .i64 (r 9), .int .i64 (r 10), .int .i64 (r 11), .int .i64 (r 12), .int .i64 (r 13), .int .i64 (r 14), .int .i64 (r 15)]; rwa [show (w.alloc (.cells #[.int .i64 k, .int .i64 (r 1), .int .i64 (r 2), .int .i64 (r 3), .int .i64 (r 4), .int .i64 (r 5), .int .i64 (r 6), .int .i64 (r 7), .int .i64 (r 8), .int .i64 (r 9), .int .i64 (r 10), .int .i64 (r 11), .int .i64 (r 12), .int .i64 (r 13), .int .i64 (r 14), .int .i64 (r 15)] 29)).heap.size = w.heap.size + 1 by simp] at this
  rw [← e0]
  clear e0
  refine (eqO _ _ _ _ _ _).mono ?_
  rintro e w1 ⟨rfl, hb⟩
  have B4 : Hid (Below w.heap.size w w1) := bthen B1.out hb
  have A4 : Hid (Bk w1 w.heap.size [.int .i64 k, .int .i64 (r 1), .int .i64 (r 2), .int .i64 (r 3), .int .i64 (r 4), .int .i64 (r 5), .int .i64 (r 6), .int .i64 (r 7), .int .i64 (r 8), .int .i64 (r 9), .int .i64 (r 10), .int .i64 (r 11), .int .i64 (r 12), .int .i64 (r 13), .int .i64 (r 14), .int .i64 (r 15)]) := A2.out.below hb
  have B24 : Hid (Bk w1 (w.heap.size + 1) [.int .i64 k, .int .i64 (r 1), .int .i64 (r 2), .int .i64 (r 3), .int .i64 (r 4), .int .i64 (r 5), .int .i64 (r 6), .int .i64 (r 7), .int .i64 (r 8), .int .i64 (r 9), .int .i64 (r 10), .int .i64 (r 11), .int .i64 (r 12), .int .i64 (r 13), .int .i64 (r 14), .int .i64 (r 15)]) := B23.out.below hb
  clear B1 A2 B23
  clear hb
  have yA0 : w1.cell? ⟨w.heap.size, 0, none⟩ = some (.int .i64 k) := (A4.out.2 0 (by simp)).1
  have yA1 : w1.cell? ⟨w.heap.size, 1, none⟩ = some (.int .i64 (r 1)) := (A4.out.2 1 (by simp)).1
  have yA2 : w1.cell? ⟨w.heap.size, 2, none⟩ = some (.int .i64 (r 2)) := (A4.out.2 2 (by simp)).1
  have yA3 : w1.cell? ⟨w.heap.size, 3, none⟩ = some (.int .i64 (r 3)) := (A4.out.2 3 (by simp)).1
  have yA4 : w1.cell? ⟨w.heap.size, 4, none⟩ = some (.int .i64 (r 4)) := (A4.out.2 4 (by simp)).1
  have yA5 : w1.cell? ⟨w.heap.size, 5, none⟩ = some (.int .i64 (r 5)) := (A4.out.2 5 (by simp)).1
  have yA6 : w1.cell? ⟨w.heap.size, 6, none⟩ = some (.int .i64 (r 6)) := (A4.out.2 6 (by simp)).1
  have yA7 : w1.cell? ⟨w.heap.size, 7, none⟩ = some (.int .i64 (r 7)) := (A4.out.2 7 (by simp)).1
  have yA8 : w1.cell? ⟨w.heap.size, 8, none⟩ = some (.int .i64 (r 8)) := (A4.out.2 8 (by simp)).1
  have yA9 : w1.cell? ⟨w.heap.size, 9, none⟩ = some (.int .i64 (r 9)) := (A4.out.2 9 (by simp)).1
  have yA10 : w1.cell? ⟨w.heap.size, 10, none⟩ = some (.int .i64 (r 10)) := (A4.out.2 10 (by simp)).1
  have yA11 : w1.cell? ⟨w.heap.size, 11, none⟩ = some (.int .i64 (r 11)) := (A4.out.2 11 (by simp)).1
  have yA12 : w1.cell? ⟨w.heap.size, 12, none⟩ = some (.int .i64 (r 12)) := (A4.out.2 12 (by simp)).1
  have yA13 : w1.cell? ⟨w.heap.size, 13, none⟩ = some (.int .i64 (r 13)) := (A4.out.2 13 (by simp)).1
  have yA14 : w1.cell? ⟨w.heap.size, 14, none⟩ = some (.int .i64 (r 14)) := (A4.out.2 14 (by simp)).1
  have yA15 : w1.cell? ⟨w.heap.size, 15, none⟩ = some (.int .i64 (r 15)) := (A4.out.2 15 (by simp)).1
  have hlA : w.heap.size < w1.heap.size := A4.out.1
  have yB20 : w1.cell? ⟨(w.heap.size + 1), 0, none⟩ = some (.int .i64 k) := (B24.out.2 0 (by simp)).1
  have yB21 : w1.cell? ⟨(w.heap.size + 1), 1, none⟩ = some (.int .i64 (r 1)) := (B24.out.2 1 (by simp)).1
  have yB22 : w1.cell? ⟨(w.heap.size + 1), 2, none⟩ = some (.int .i64 (r 2)) := (B24.out.2 2 (by simp)).1
  have yB23 : w1.cell? ⟨(w.heap.size + 1), 3, none⟩ = some (.int .i64 (r 3)) := (B24.out.2 3 (by simp)).1
  have yB24 : w1.cell? ⟨(w.heap.size + 1), 4, none⟩ = some (.int .i64 (r 4)) := (B24.out.2 4 (by simp)).1
  have yB25 : w1.cell? ⟨(w.heap.size + 1), 5, none⟩ = some (.int .i64 (r 5)) := (B24.out.2 5 (by simp)).1
  have yB26 : w1.cell? ⟨(w.heap.size + 1), 6, none⟩ = some (.int .i64 (r 6)) := (B24.out.2 6 (by simp)).1
  have yB27 : w1.cell? ⟨(w.heap.size + 1), 7, none⟩ = some (.int .i64 (r 7)) := (B24.out.2 7 (by simp)).1
  have yB28 : w1.cell? ⟨(w.heap.size + 1), 8, none⟩ = some (.int .i64 (r 8)) := (B24.out.2 8 (by simp)).1
  have yB29 : w1.cell? ⟨(w.heap.size + 1), 9, none⟩ = some (.int .i64 (r 9)) := (B24.out.2 9 (by simp)).1
  have yB210 : w1.cell? ⟨(w.heap.size + 1), 10, none⟩ = some (.int .i64 (r 10)) := (B24.out.2 10 (by simp)).1
  have yB211 : w1.cell? ⟨(w.heap.size + 1), 11, none⟩ = some (.int .i64 (r 11)) := (B24.out.2 11 (by simp)).1
  have yB212 : w1.cell? ⟨(w.heap.size + 1), 12, none⟩ = some (.int .i64 (r 12)) := (B24.out.2 12 (by simp)).1
  have yB213 : w1.cell? ⟨(w.heap.size + 1), 13, none⟩ = some (.int .i64 (r 13)) := (B24.out.2 13 (by simp)).1
  have yB214 : w1.cell? ⟨(w.heap.size + 1), 14, none⟩ = some (.int .i64 (r 14)) := (B24.out.2 14 (by simp)).1
  have yB215 : w1.cell? ⟨(w.heap.size + 1), 15, none⟩ = some (.int .i64 (r 15)) := (B24.out.2 15 (by simp)).1
  have hlB2 : (w.heap.size + 1) < w1.heap.size := B24.out.1
  go_wp2_with fail
  refine (eqP _ _ _ _ _ _ _ _ _).mono ?_
  rintro e w2 ⟨rfl, hb⟩
  clear yA0 yA1 yA2 yA3 yA4 yA5 yA6 yA7 yA8 yA9 yA10 yA11 yA12 yA13 yA14 yA15 hlA yB20 yB21 yB22 yB23 yB24 yB25 yB26 yB27 yB28 yB29 yB210 yB211 yB212 yB213 yB214 yB215 hlB2
  have B5 : Hid (Below w.heap.size w w2) := bthen B4.out hb
  have A5 : Hid (Bk w2 w.heap.size [.int .i64 k, .int .i64 (r 1), .int .i64 (r 2), .int .i64 (r 3), .int .i64 (r 4), .int .i64 (r 5), .int .i64 (r 6), .int .i64 (r 7), .int .i64 (r 8), .int .i64 (r 9), .int .i64 (r 10), .int .i64 (r 11), .int .i64 (r 12), .int .i64 (r 13), .int .i64 (r 14), .int .i64 (r 15)]) := A4.out.below hb
  have B25 : Hid (Bk w2 (w.heap.size + 1) [.int .i64 k, .int .i64 (r 1), .int .i64 (r 2), .int .i64 (r 3), .int .i64 (r 4), .int .i64 (r 5), .int .i64 (r 6), .int .i64 (r 7), .int .i64 (r 8), .int .i64 (r 9), .int .i64 (r 10), .int .i64 (r 11), .int .i64 (r 12), .int .i64 (r 13), .int .i64 (r 14), .int .i64 (r 15)]) := B24.out.below hb
  clear B4 A4 B24
  clear hb
  have yA0 : w2.cell? ⟨w.heap.size, 0, none⟩ = some (.int .i64 k) := (A5.out.2 0 (by simp)).1
  have yA1 : w2.cell? ⟨w.heap.size, 1, none⟩ = some (.int .i64 (r 1)) := (A5.out.2 1 (by simp)).1
  have yA2 : w2.cell? ⟨w.heap.size, 2, none⟩ = some (.int .i64 (r 2)) := (A5.out.2 2 (by simp)).1
  have yA3 : w2.cell? ⟨w.heap.size, 3, none⟩ = some (.int .i64 (r 3)) := (A5.out.2 3 (by simp)).1
  have yA4 : w2.cell? ⟨w.heap.size, 4, none⟩ = some (.int .i64 (r 4)) := (A5.out.2 4 (by simp)).1
  have yA5 : w2.cell? ⟨w.heap.size, 5, none⟩ = some (.int .i64 (r 5)) := (A5.out.2 5 (by simp)).1
  have yA6 : w2.cell? ⟨w.heap.size, 6, none⟩ = some (.int .i64 (r 6)) := (A5.out.2 6 (by simp)).1
  have yA7 : w2.cell? ⟨w.heap.size, 7, none⟩ = some (.int .i64 (r 7)) := (A5.out.2 7 (by simp)).1
  have yA8 : w2.cell? ⟨w.heap.size, 8, none⟩ = some (.int .i64 (r 8)) := (A5.out.2 8 (by simp)).1
  have yA9 : w2.cell? ⟨w.heap.size, 9, none⟩ = some (.int .i64 (r 9)) := (A5.out.2 9 (by simp)).1
  have yA10 : w2.cell? ⟨w.heap.size, 10, none⟩ = some (.int .i64 (r 10)) := (A5.out.2 10 (by simp)).1
  have yA11 : w2.cell? ⟨w.heap.size, 11, none⟩ = some (.int .i64 (r 11)) := (A5.out.2 11 (by simp)).1
  have yA12 : w2.cell? ⟨w.heap.size, 12, none⟩ = some (.int .i64 (r 12)) := (A5.out.2 12 (by simp)).1
  have yA13 : w2.cell? ⟨w.heap.size, 13, none⟩ = some (.int .i64 (r 13)) := (A5.out.2 13 (by simp)).1
  have yA14 : w2.cell? ⟨w.heap.size, 14, none⟩ = some (.int .i64 (r 14)) := (A5.out.2 14 (by simp)).1
  have yA15 : w2.cell? ⟨w.heap.size, 15, none⟩ = some (.int .i64 (r 15)) := (A5.out.2 15 (by simp)).1
  have hlA : w.heap.size < w2.heap.size := A5.out.1
  have yB20 : w2.cell? ⟨(w.heap.size + 1), 0, none⟩ = some (.int .i64 k) := (B25.out.2 0 (by simp)).1
  have yB21 : w2.cell? ⟨(w.heap.size + 1), 1, none⟩ = some (.int .i64 (r 1)) := (B25.out.2 1 (by simp)).1
  have yB22 : w2.cell? ⟨(w.heap.size + 1), 2, none⟩ = some (.int .i64 (r 2)) := (B25.out.2 2 (by simp)).1
  have yB23 : w2.cell? ⟨(w.heap.size + 1), 3, none⟩ = some (.int .i64 (r 3)) := (B25.out.2 3 (by simp)).1
  have yB24 : w2.cell? ⟨(w.heap.size + 1), 4, none⟩ = some (.int .i64 (r 4)) := (B25.out.2 4 (by simp)).1
  have yB25 : w2.cell? ⟨(w.heap.size + 1), 5, none⟩ = some (.int .i64 (r 5)) := (B25.out.2 5 (by simp)).1
  have yB26 : w2.cell? ⟨(w.heap.size + 1), 6, none⟩ = some (.int .i64 (r 6)) := (B25.out.2 6 (by simp)).1
  have yB27 : w2.cell? ⟨(w.heap.size + 1), 7, none⟩ = some (.int .i64 (r 7)) := (B25.out.2 7 (by simp)).1
  have yB28 : w2.cell? ⟨(w.heap.size + 1), 8, none⟩ = some (.int .i64 (r 8)) := (B25.out.2 8 (by simp)).1
  have yB29 : w2.cell? ⟨(w.heap.size + 1), 9, none⟩ = some (.int .i64 (r 9)) := (B25.out.2 9 (by simp)).1
  have yB210 : w2.cell? ⟨(w.heap.size + 1), 10, none⟩ = some (.int .i64 (r 10)) := (B25.out.2 10 (by simp)).1
  have yB211 : w2.cell? ⟨(w.heap.size + 1), 11, none⟩ = some (.int .i64 (r 11)) := (B25.out.2 11 (by simp)).1
  have yB212 : w2.cell? ⟨(w.heap.size + 1), 12, none⟩ = some (.int .i64 (r 12)) := (B25.out.2 12 (by simp)).1
  have yB213 : w2.cell? ⟨(w.heap.size + 1), 13, none⟩ = some (.int .i64 (r 13)) := (B25.out.2 13 (by simp)).1
  have yB214 : w2.cell? ⟨(w.heap.size + 1), 14, none⟩ = some (.int .i64 (r 14)) := (B25.out.2 14 (by simp)).1
  have yB215 : w2.cell? ⟨(w.heap.size + 1), 15, none⟩ = some (.int .i64 (r 15)) := (B25.out.2 15 (by simp)).1
  have hlB2 : (w.heap.size + 1) < w2.heap.size := B25.out.1
  go_wp2
  go_ret
  exact ⟨rfl, B5.out⟩
end Go.Proofs.YtgioecjnghllhaaGreatDoor
