/- MsgOk of the program; conditions: none. -/
import Derived.Test.YtgjapdjidighlabGreatTk
import Derived.Test.YtgjapdjidighlabGreatMsg6
namespace Go.Proofs.YtgjapdjidighlabGreat
open Go.RowKit Go.Deep
set_option linter.unusedVariables false
set_option linter.unusedSimpArgs false
attribute [local go_sem ↓] load44_eq
attribute [local go_sem] run_load44 cellD
theorem side_in {c d k s : Int} (h : ¬ sideF c d k s = -1) : inB s 0 1 = true := by
  by_cases h0 : s = 0
  · subst h0; rfl
  · by_cases h1 : s = 1
    · subst h1; rfl
    · exact absurd (side_else h0 h1) h
theorem gst_from {c d f n i a co s l : Int} (h : gstB c d f n i a co s l = true) : ¬ f = -1 := by
  simp only [gstB, wlkB, Bool.and_eq_true, beq_iff_eq, bne_iff_ne] at h
  have h1 := h.2.1.2
  have h2 := h.2.2.1
  omega
def m1 (x : Nat → Int) (i : Nat) : Int := match i with | 4 => x 4 | _ => 0
theorem eqB1 (c d sv : Int) (x : Nat → Int) : (hasB c d (x 2) && (inB sv 1 3 && ((inB (x 1) 0 (sv - 1)) && ((inB (x 4) 1 900) && eqM x (m1 x))))) = msgB c d sv 1 x := by
  have f1 : x 3 = 0 → inB (x 3) 0 1 = true := fun h => by rw [h]; rfl
  rw [Bool.eq_iff_iff]
  simp only [msgB, toB, kindM, hasB, eqM, m1, bareB, z5, z8, z7, Bool.and_eq_true, Bool.or_eq_true, beq_iff_eq, bne_iff_ne, ne_eq, Bool.true_or, Bool.false_or, ite_true, ite_false, Bool.true_and, if_pos, if_neg, reduceCtorEq, Int.reduceEq, or_self, or_true, true_or, or_false, false_or, true_and, and_true, ite_cond_eq_true, ite_cond_eq_false, Bool.false_eq_true]
  constructor
  · intro h
    simp_all
  · intro h
    simp_all
set_option maxRecDepth 100000 in
theorem impl1 (c d sv : Int) (x : Nat → Int) (w : World) :
    Calls Tryz.prog 23 #[.agg #[.int .i64 c, .int .i64 d], .int .i64 sv, .agg #[.int .i64 1, .int .i64 (x 1), .int .i64 (x 2), .int .i64 (x 3), .int .i64 (x 4), .int .i64 (x 5), .int .i64 (x 6), .int .i64 (x 7), .int .i64 (x 8), .int .i64 (x 9), .int .i64 (x 10), .int .i64 (x 11), .int .i64 (x 12), .int .i64 (x 13), .int .i64 (x 14), .int .i64 (x 15), .int .i64 (x 16), .int .i64 (x 17), .int .i64 (x 18), .int .i64 (x 19), .int .i64 (x 20), .int .i64 (x 21), .int .i64 (x 22), .int .i64 (x 23), .int .i64 (x 24)]] w fun e w' => e = .returned (.bool (msgB c d sv 1 x)) ∧ Below w.heap.size w w' := by
  rw [← eqB1]
  exact msgOk_gen c d sv 1 x (m1 x) 112 (.agg #[.int .i64 (x 4)]) 104 (inB (x 1) 0 (sv - 1)) (inB (x 4) 1 900) (content1 x) (fun _ => by kernel_rfl) (fun _ _ => by kernel_rfl) (fun h1 h2 => goes1 (x 1) sv x h1 h2) (isOk1 c d (x 2) x)
    (sent_gen 1 (x 1) (x 2) (m1 x) 112 (.agg #[.int .i64 (x 4)]) 105 (fun _ => by kernel_rfl) (fun _ _ => by kernel_rfl) (message1 x)) w
def m2 (x : Nat → Int) (i : Nat) : Int := match i with | 5 => x 5 | 6 => x 6 | 7 => x 7 | 8 => x 8 | 9 => x 9 | _ => 0
theorem eqB2 (c d sv : Int) (x : Nat → Int) : (hasB c d (x 2) && (inB sv 1 3 && ((inB (x 1) 0 (sv - 1)) && ((ordB (x 5) (x 6) (x 7) (x 8) (x 9)) && eqM x (m2 x))))) = msgB c d sv 2 x := by
  have f1 : x 3 = 0 → inB (x 3) 0 1 = true := fun h => by rw [h]; rfl
  rw [Bool.eq_iff_iff]
  simp only [msgB, toB, kindM, hasB, eqM, m2, bareB, z5, z8, z7, Bool.and_eq_true, Bool.or_eq_true, beq_iff_eq, bne_iff_ne, ne_eq, Bool.true_or, Bool.false_or, ite_true, ite_false, Bool.true_and, if_pos, if_neg, reduceCtorEq, Int.reduceEq, or_self, or_true, true_or, or_false, false_or, true_and, and_true, ite_cond_eq_true, ite_cond_eq_false, Bool.false_eq_true]
  constructor
  · intro h
    simp_all
  · intro h
    simp_all
set_option maxRecDepth 100000 in
theorem impl2 (c d sv : Int) (x : Nat → Int) (w : World) :
    Calls Tryz.prog 23 #[.agg #[.int .i64 c, .int .i64 d], .int .i64 sv, .agg #[.int .i64 2, .int .i64 (x 1), .int .i64 (x 2), .int .i64 (x 3), .int .i64 (x 4), .int .i64 (x 5), .int .i64 (x 6), .int .i64 (x 7), .int .i64 (x 8), .int .i64 (x 9), .int .i64 (x 10), .int .i64 (x 11), .int .i64 (x 12), .int .i64 (x 13), .int .i64 (x 14), .int .i64 (x 15), .int .i64 (x 16), .int .i64 (x 17), .int .i64 (x 18), .int .i64 (x 19), .int .i64 (x 20), .int .i64 (x 21), .int .i64 (x 22), .int .i64 (x 23), .int .i64 (x 24)]] w fun e w' => e = .returned (.bool (msgB c d sv 2 x)) ∧ Below w.heap.size w w' := by
  rw [← eqB2]
  exact msgOk_gen c d sv 2 x (m2 x) 114 (.agg #[.int .i64 (x 5), .int .i64 (x 6), .int .i64 (x 7), .int .i64 (x 8), .int .i64 (x 9)]) 108 (inB (x 1) 0 (sv - 1)) (ordB (x 5) (x 6) (x 7) (x 8) (x 9)) (content2 x) (fun _ => by kernel_rfl) (fun _ _ => by kernel_rfl) (fun h1 h2 => goes2 (x 1) sv x h1 h2) (isOk2 c d (x 2) x)
    (sent_gen 2 (x 1) (x 2) (m2 x) 114 (.agg #[.int .i64 (x 5), .int .i64 (x 6), .int .i64 (x 7), .int .i64 (x 8), .int .i64 (x 9)]) 109 (fun _ => by kernel_rfl) (fun _ _ => by kernel_rfl) (message2 x)) w
def m3 (x : Nat → Int) (i : Nat) : Int := match i with | 4 => x 4 | 5 => x 5 | 6 => x 6 | 7 => x 7 | 8 => x 8 | 9 => x 9 | _ => 0
theorem eqB3 (c d sv : Int) (x : Nat → Int) : (hasB c d (x 2) && (inB sv 1 3 && ((x 1 == -1) && ((ordB (x 5) (x 6) (x 7) (x 8) (x 9) && inB (x 4) 1 9) && eqM x (m3 x))))) = msgB c d sv 3 x := by
  have f1 : x 3 = 0 → inB (x 3) 0 1 = true := fun h => by rw [h]; rfl
  rw [Bool.eq_iff_iff]
  simp only [msgB, toB, kindM, hasB, eqM, m3, bareB, z5, z8, z7, Bool.and_eq_true, Bool.or_eq_true, beq_iff_eq, bne_iff_ne, ne_eq, Bool.true_or, Bool.false_or, ite_true, ite_false, Bool.true_and, if_pos, if_neg, reduceCtorEq, Int.reduceEq, or_self, or_true, true_or, or_false, false_or, true_and, and_true, ite_cond_eq_true, ite_cond_eq_false, Bool.false_eq_true]
  constructor
  · intro h
    simp_all
  · intro h
    simp_all
set_option maxRecDepth 100000 in
theorem impl3 (c d sv : Int) (x : Nat → Int) (w : World) :
    Calls Tryz.prog 23 #[.agg #[.int .i64 c, .int .i64 d], .int .i64 sv, .agg #[.int .i64 3, .int .i64 (x 1), .int .i64 (x 2), .int .i64 (x 3), .int .i64 (x 4), .int .i64 (x 5), .int .i64 (x 6), .int .i64 (x 7), .int .i64 (x 8), .int .i64 (x 9), .int .i64 (x 10), .int .i64 (x 11), .int .i64 (x 12), .int .i64 (x 13), .int .i64 (x 14), .int .i64 (x 15), .int .i64 (x 16), .int .i64 (x 17), .int .i64 (x 18), .int .i64 (x 19), .int .i64 (x 20), .int .i64 (x 21), .int .i64 (x 22), .int .i64 (x 23), .int .i64 (x 24)]] w fun e w' => e = .returned (.bool (msgB c d sv 3 x)) ∧ Below w.heap.size w w' := by
  rw [← eqB3]
  exact msgOk_gen c d sv 3 x (m3 x) 116 (.agg #[.int .i64 (x 5), .int .i64 (x 6), .int .i64 (x 7), .int .i64 (x 8), .int .i64 (x 9), .int .i64 (x 4)]) 112 (x 1 == -1) (ordB (x 5) (x 6) (x 7) (x 8) (x 9) && inB (x 4) 1 9) (content3 x) (fun _ => by kernel_rfl) (fun _ _ => by kernel_rfl) (fun h1 h2 => goes3 (x 1) sv x h1 h2) (isOk3 c d (x 2) x)
    (sent_gen 3 (x 1) (x 2) (m3 x) 116 (.agg #[.int .i64 (x 5), .int .i64 (x 6), .int .i64 (x 7), .int .i64 (x 8), .int .i64 (x 9), .int .i64 (x 4)]) 113 (fun _ => by kernel_rfl) (fun _ _ => by kernel_rfl) (message3 x)) w
def m4 (x : Nat → Int) (i : Nat) : Int := match i with | 5 => x 5 | 6 => x 6 | 7 => x 7 | 8 => x 8 | 9 => x 9 | _ => 0
theorem eqB4 (c d sv : Int) (x : Nat → Int) : (hasB c d (x 2) && (inB sv 1 3 && ((x 1 == -1) && ((ordB (x 5) (x 6) (x 7) (x 8) (x 9)) && eqM x (m4 x))))) = msgB c d sv 4 x := by
  have f1 : x 3 = 0 → inB (x 3) 0 1 = true := fun h => by rw [h]; rfl
  rw [Bool.eq_iff_iff]
  simp only [msgB, toB, kindM, hasB, eqM, m4, bareB, z5, z8, z7, Bool.and_eq_true, Bool.or_eq_true, beq_iff_eq, bne_iff_ne, ne_eq, Bool.true_or, Bool.false_or, ite_true, ite_false, Bool.true_and, if_pos, if_neg, reduceCtorEq, Int.reduceEq, or_self, or_true, true_or, or_false, false_or, true_and, and_true, ite_cond_eq_true, ite_cond_eq_false, Bool.false_eq_true]
  constructor
  · intro h
    simp_all
  · intro h
    simp_all
set_option maxRecDepth 100000 in
theorem impl4 (c d sv : Int) (x : Nat → Int) (w : World) :
    Calls Tryz.prog 23 #[.agg #[.int .i64 c, .int .i64 d], .int .i64 sv, .agg #[.int .i64 4, .int .i64 (x 1), .int .i64 (x 2), .int .i64 (x 3), .int .i64 (x 4), .int .i64 (x 5), .int .i64 (x 6), .int .i64 (x 7), .int .i64 (x 8), .int .i64 (x 9), .int .i64 (x 10), .int .i64 (x 11), .int .i64 (x 12), .int .i64 (x 13), .int .i64 (x 14), .int .i64 (x 15), .int .i64 (x 16), .int .i64 (x 17), .int .i64 (x 18), .int .i64 (x 19), .int .i64 (x 20), .int .i64 (x 21), .int .i64 (x 22), .int .i64 (x 23), .int .i64 (x 24)]] w fun e w' => e = .returned (.bool (msgB c d sv 4 x)) ∧ Below w.heap.size w w' := by
  rw [← eqB4]
  exact msgOk_gen c d sv 4 x (m4 x) 117 (.agg #[.int .i64 (x 5), .int .i64 (x 6), .int .i64 (x 7), .int .i64 (x 8), .int .i64 (x 9)]) 116 (x 1 == -1) (ordB (x 5) (x 6) (x 7) (x 8) (x 9)) (content4 x) (fun _ => by kernel_rfl) (fun _ _ => by kernel_rfl) (fun h1 h2 => goes4 (x 1) sv x h1 h2) (isOk4 c d (x 2) x)
    (sent_gen 4 (x 1) (x 2) (m4 x) 117 (.agg #[.int .i64 (x 5), .int .i64 (x 6), .int .i64 (x 7), .int .i64 (x 8), .int .i64 (x 9)]) 117 (fun _ => by kernel_rfl) (fun _ _ => by kernel_rfl) (message4 x)) w
def m5 (x : Nat → Int) (i : Nat) : Int := match i with | 3 => x 3 | 10 => x 10 | 11 => x 11 | 12 => x 12 | 13 => x 13 | 14 => x 14 | 15 => x 15 | 16 => x 16 | 17 => x 17 | _ => 0
theorem eqB5 (c d sv : Int) (x : Nat → Int) : (hasB c d (x 2) && (inB sv 1 3 && ((inB (x 1) 0 (sv - 1)) && (((sideF c d (x 2) (x 3) != -1) && pclB c d (x 10) (x 11) (x 12) (x 13) (x 14) (x 15) (x 16) (x 17)) && eqM x (m5 x))))) = msgB c d sv 5 x := by
  have f1 := @side_in c d (x 2) (x 3)
  rw [Bool.eq_iff_iff]
  simp only [msgB, toB, kindM, hasB, eqM, m5, bareB, z5, z8, z7, Bool.and_eq_true, Bool.or_eq_true, beq_iff_eq, bne_iff_ne, ne_eq, Bool.true_or, Bool.false_or, ite_true, ite_false, Bool.true_and, if_pos, if_neg, reduceCtorEq, Int.reduceEq, or_self, or_true, true_or, or_false, false_or, true_and, and_true, ite_cond_eq_true, ite_cond_eq_false, Bool.false_eq_true]
  constructor
  · intro h
    simp_all
  · intro h
    simp_all
set_option maxRecDepth 100000 in
theorem impl5 (c d sv : Int) (x : Nat → Int) (w : World) :
    Calls Tryz.prog 23 #[.agg #[.int .i64 c, .int .i64 d], .int .i64 sv, .agg #[.int .i64 5, .int .i64 (x 1), .int .i64 (x 2), .int .i64 (x 3), .int .i64 (x 4), .int .i64 (x 5), .int .i64 (x 6), .int .i64 (x 7), .int .i64 (x 8), .int .i64 (x 9), .int .i64 (x 10), .int .i64 (x 11), .int .i64 (x 12), .int .i64 (x 13), .int .i64 (x 14), .int .i64 (x 15), .int .i64 (x 16), .int .i64 (x 17), .int .i64 (x 18), .int .i64 (x 19), .int .i64 (x 20), .int .i64 (x 21), .int .i64 (x 22), .int .i64 (x 23), .int .i64 (x 24)]] w fun e w' => e = .returned (.bool (msgB c d sv 5 x)) ∧ Below w.heap.size w w' := by
  rw [← eqB5]
  exact msgOk_gen c d sv 5 x (m5 x) 119 (.agg #[.int .i64 (x 3), .int .i64 (x 10), .int .i64 (x 11), .int .i64 (x 12), .int .i64 (x 13), .int .i64 (x 14), .int .i64 (x 15), .int .i64 (x 16), .int .i64 (x 17)]) 118 (inB (x 1) 0 (sv - 1)) ((sideF c d (x 2) (x 3) != -1) && pclB c d (x 10) (x 11) (x 12) (x 13) (x 14) (x 15) (x 16) (x 17)) (content5 x) (fun _ => by kernel_rfl) (fun _ _ => by kernel_rfl) (fun h1 h2 => goes5 (x 1) sv x h1 h2) (isOk5 c d (x 2) x)
    (sent_gen 5 (x 1) (x 2) (m5 x) 119 (.agg #[.int .i64 (x 3), .int .i64 (x 10), .int .i64 (x 11), .int .i64 (x 12), .int .i64 (x 13), .int .i64 (x 14), .int .i64 (x 15), .int .i64 (x 16), .int .i64 (x 17)]) 119 (fun _ => by kernel_rfl) (fun _ _ => by kernel_rfl) (message5 x)) w
def m6 (x : Nat → Int) (i : Nat) : Int := match i with | 3 => x 3 | 4 => x 4 | _ => 0
theorem eqB6 (c d sv : Int) (x : Nat → Int) : (hasB c d (x 2) && (inB sv 1 3 && ((inB (x 1) 0 (sv - 1)) && (((sideF c d (x 2) (x 3) != -1) && inB (x 4) 1 5000) && eqM x (m6 x))))) = msgB c d sv 6 x := by
  have f1 := @side_in c d (x 2) (x 3)
  rw [Bool.eq_iff_iff]
  simp only [msgB, toB, kindM, hasB, eqM, m6, bareB, z5, z8, z7, Bool.and_eq_true, Bool.or_eq_true, beq_iff_eq, bne_iff_ne, ne_eq, Bool.true_or, Bool.false_or, ite_true, ite_false, Bool.true_and, if_pos, if_neg, reduceCtorEq, Int.reduceEq, or_self, or_true, true_or, or_false, false_or, true_and, and_true, ite_cond_eq_true, ite_cond_eq_false, Bool.false_eq_true]
  constructor
  · intro h
    simp_all
  · intro h
    simp_all
set_option maxRecDepth 100000 in
theorem impl6 (c d sv : Int) (x : Nat → Int) (w : World) :
    Calls Tryz.prog 23 #[.agg #[.int .i64 c, .int .i64 d], .int .i64 sv, .agg #[.int .i64 6, .int .i64 (x 1), .int .i64 (x 2), .int .i64 (x 3), .int .i64 (x 4), .int .i64 (x 5), .int .i64 (x 6), .int .i64 (x 7), .int .i64 (x 8), .int .i64 (x 9), .int .i64 (x 10), .int .i64 (x 11), .int .i64 (x 12), .int .i64 (x 13), .int .i64 (x 14), .int .i64 (x 15), .int .i64 (x 16), .int .i64 (x 17), .int .i64 (x 18), .int .i64 (x 19), .int .i64 (x 20), .int .i64 (x 21), .int .i64 (x 22), .int .i64 (x 23), .int .i64 (x 24)]] w fun e w' => e = .returned (.bool (msgB c d sv 6 x)) ∧ Below w.heap.size w w' := by
  rw [← eqB6]
  exact msgOk_gen c d sv 6 x (m6 x) 121 (.agg #[.int .i64 (x 3), .int .i64 (x 4)]) 123 (inB (x 1) 0 (sv - 1)) ((sideF c d (x 2) (x 3) != -1) && inB (x 4) 1 5000) (content6 x) (fun _ => by kernel_rfl) (fun _ _ => by kernel_rfl) (fun h1 h2 => goes6 (x 1) sv x h1 h2) (isOk6 c d (x 2) x)
    (sent_gen 6 (x 1) (x 2) (m6 x) 121 (.agg #[.int .i64 (x 3), .int .i64 (x 4)]) 124 (fun _ => by kernel_rfl) (fun _ _ => by kernel_rfl) (message6 x)) w
def m7 (x : Nat → Int) (i : Nat) : Int := match i with | 3 => x 3 | 18 => x 18 | 19 => x 19 | 20 => x 20 | 21 => x 21 | 22 => x 22 | 23 => x 23 | 24 => x 24 | _ => 0
theorem eqB7 (c d sv : Int) (x : Nat → Int) : (hasB c d (x 2) && (inB sv 1 3 && ((inB (x 1) 0 (sv - 1)) && ((gstB c d (x 18) (x 19) (x 20) (x 21) (x 22) (x 23) (x 24) && (x 18 == sideF c d (x 2) (x 3))) && eqM x (m7 x))))) = msgB c d sv 7 x := by
  have f1 := @side_in c d (x 2) (x 3)
  have f2 := @gst_from c d (x 18) (x 19) (x 20) (x 21) (x 22) (x 23) (x 24)
  rw [Bool.eq_iff_iff]
  simp only [msgB, toB, kindM, hasB, eqM, m7, bareB, z5, z8, z7, Bool.and_eq_true, Bool.or_eq_true, beq_iff_eq, bne_iff_ne, ne_eq, Bool.true_or, Bool.false_or, ite_true, ite_false, Bool.true_and, if_pos, if_neg, reduceCtorEq, Int.reduceEq, or_self, or_true, true_or, or_false, false_or, true_and, and_true, ite_cond_eq_true, ite_cond_eq_false, Bool.false_eq_true]
  constructor
  · intro h
    have g := h.2.2.2.1.1
    have e := h.2.2.2.1.2
    have q := h.2.2.2.2.2
    have n : ¬ sideF c d (x 2) (x 3) = -1 := by rw [← e]; exact f2 g
    exact ⟨h.1.1, h.2.1, h.1.2, f1 n, h.2.2.1, n, h.2.2.2.2.1, g, e, ⟨q.1, q.2.1, q.2.2.1, q.2.2.2.1, q.2.2.2.2.1⟩, q.2.2.2.2.2⟩
  · intro h
    obtain ⟨a1, a2, a3, a4, a5, a6, a7, a8, a9, ⟨b1, b2, b3, b4, b5⟩, a10⟩ := h
    exact ⟨⟨a1, a3⟩, a2, a5, ⟨a8, a9⟩, a7, b1, b2, b3, b4, b5, a10⟩
set_option maxRecDepth 100000 in
theorem impl7 (c d sv : Int) (x : Nat → Int) (w : World) :
    Calls Tryz.prog 23 #[.agg #[.int .i64 c, .int .i64 d], .int .i64 sv, .agg #[.int .i64 7, .int .i64 (x 1), .int .i64 (x 2), .int .i64 (x 3), .int .i64 (x 4), .int .i64 (x 5), .int .i64 (x 6), .int .i64 (x 7), .int .i64 (x 8), .int .i64 (x 9), .int .i64 (x 10), .int .i64 (x 11), .int .i64 (x 12), .int .i64 (x 13), .int .i64 (x 14), .int .i64 (x 15), .int .i64 (x 16), .int .i64 (x 17), .int .i64 (x 18), .int .i64 (x 19), .int .i64 (x 20), .int .i64 (x 21), .int .i64 (x 22), .int .i64 (x 23), .int .i64 (x 24)]] w fun e w' => e = .returned (.bool (msgB c d sv 7 x)) ∧ Below w.heap.size w w' := by
  rw [← eqB7]
  exact msgOk_gen c d sv 7 x (m7 x) 123 (.agg #[.int .i64 (x 3), .int .i64 (x 18), .int .i64 (x 19), .int .i64 (x 20), .int .i64 (x 21), .int .i64 (x 22), .int .i64 (x 23), .int .i64 (x 24)]) 125 (inB (x 1) 0 (sv - 1)) (gstB c d (x 18) (x 19) (x 20) (x 21) (x 22) (x 23) (x 24) && (x 18 == sideF c d (x 2) (x 3))) (content7 x) (fun _ => by kernel_rfl) (fun _ _ => by kernel_rfl) (fun h1 h2 => goes7 (x 1) sv x h1 h2) (isOk7 c d (x 2) x)
    (sent_gen 7 (x 1) (x 2) (m7 x) 123 (.agg #[.int .i64 (x 3), .int .i64 (x 18), .int .i64 (x 19), .int .i64 (x 20), .int .i64 (x 21), .int .i64 (x 22), .int .i64 (x 23), .int .i64 (x 24)]) 126 (fun _ => by kernel_rfl) (fun _ _ => by kernel_rfl) (message7 x)) w
set_option maxRecDepth 100000 in
set_option maxHeartbeats 2000000 in
theorem impl0 (c d sv k : Int) (x : Nat → Int) (q1 : (k == 1) = false) (q2 : (k == 2) = false) (q3 : (k == 3) = false) (q4 : (k == 4) = false) (q5 : (k == 5) = false) (q6 : (k == 6) = false) (q7 : (k == 7) = false) (w : World) :
    Calls Tryz.prog 23 #[.agg #[.int .i64 c, .int .i64 d], .int .i64 sv, .agg #[.int .i64 k, .int .i64 (x 1), .int .i64 (x 2), .int .i64 (x 3), .int .i64 (x 4), .int .i64 (x 5), .int .i64 (x 6), .int .i64 (x 7), .int .i64 (x 8), .int .i64 (x 9), .int .i64 (x 10), .int .i64 (x 11), .int .i64 (x 12), .int .i64 (x 13), .int .i64 (x 14), .int .i64 (x 15), .int .i64 (x 16), .int .i64 (x 17), .int .i64 (x 18), .int .i64 (x 19), .int .i64 (x 20), .int .i64 (x 21), .int .i64 (x 22), .int .i64 (x 23), .int .i64 (x 24)]] w fun e w' => e = .returned (.bool (msgB c d sv k x)) ∧ Below w.heap.size w w' := by
  have hM : Hid (msgB c d sv k x = false) := by
    have : kindM c d k x = false := by simp at q1 q2 q3 q4 q5 q6 q7; simp [kindM, *]
    show msgB c d sv k x = false
    simp [msgB, this]
  go_enter Tryz.func23, Tryz.ntmps23
  go_wp2_with fail
  obtain ⟨w0, e0⟩ : ∃ w0, w0 = (w.alloc (.cells #[.int .i64 c, .int .i64 d] 43)).alloc (.cells #[.int .i64 k, .int .i64 (x 1), .int .i64 (x 2), .int .i64 (x 3), .int .i64 (x 4), .int .i64 (x 5), .int .i64 (x 6), .int .i64 (x 7), .int .i64 (x 8), .int .i64 (x 9), .int .i64 (x 10), .int .i64 (x 11), .int .i64 (x 12), .int .i64 (x 13), .int .i64 (x 14), .int .i64 (x 15), .int .i64 (x 16), .int .i64 (x 17), .int .i64 (x 18), .int .i64 (x 19), .int .i64 (x 20), .int .i64 (x 21), .int .i64 (x 22), .int .i64 (x 23), .int .i64 (x 24)] 53) := ⟨_, rfl⟩
  have B1 : Hid (Below w.heap.size w w0) := by rw [e0]; exact ((Below.refl _ _).alloc (by simp) _).alloc (by simp) _
  rw [← e0]
  clear e0
  refine (content0 _ _ q1 q2 q3 q4 q5 q6 q7 _).mono ?_
  rintro e w1 ⟨rfl, hb1⟩
  have B2 := hid (bthen B1.out hb1)
  clear B1
  clear hb1
  go_wp2
  refine wp_region_held_drew (S := fun w' => (∀ b o, b < w1.heap.size → w'.cell? ⟨b, o, none⟩ = w1.cell? ⟨b, o, none⟩) ∧ w1.heap.size ≤ w'.heap.size) (by kernel_rfl) ⟨fun _ _ _ => rfl, Nat.le_refl _⟩ ?_
  intro hHeld
  refine tkl 0 .nilIface rfl ?_ ?_
  · intro wx hSw; go_simp
  try simp only [Act.put, aS]
  refine tkl 1 (.bool false) rfl ?_ ?_
  · intro wx hSw; go_simp <;> first | omega | (exact IntWalk.i64_in _ (by omega)) | go_num
  try simp only [Act.put, aS]
  refine tkl 2 (.bool false) rfl ?_ ?_
  · intro wx hSw; go_simp
  try simp only [Act.put, aS]
  refine tkr 3 rfl ?_
  try simp only [Act.put, aS]
  refine tkr 4 rfl ?_
  try simp only [Act.put, aS]
  refine tkr 5 rfl ?_
  try simp only [Act.put, aS]
  refine tkr 6 rfl ?_
  try simp only [Act.put, aS]
  refine tkl 7 (.bool false) rfl ?_ ?_
  · intro wx hSw; go_simp
  try simp only [Act.put, aS]
  refine tkl 8 (.bool false) rfl ?_ ?_
  · intro wx hSw; go_simp
  try simp only [Act.put, aS]
  refine tkr 9 rfl ?_
  try simp only [Act.put, aS]
  refine tkr 10 rfl ?_
  try simp only [Act.put, aS]
  refine tkl 11 (.bool false) rfl ?_ ?_
  · intro wx hSw; go_simp
  try simp only [Act.put, aS]
  refine tkl 12 (.bool false) rfl ?_ ?_
  · intro wx hSw; go_simp
  try simp only [Act.put, aS]
  refine tkr 13 rfl ?_
  try simp only [Act.put, aS]
  refine tkr 14 rfl ?_
  try simp only [Act.put, aS]
  refine tkr 15 rfl ?_
  try simp only [Act.put, aS]
  refine tkr 16 rfl ?_
  try simp only [Act.put, aS]
  refine tkr 17 rfl ?_
  try simp only [Act.put, aS]
  refine tkl 18 (.bool false) rfl ?_ ?_
  · intro wx hSw; go_simp
  try simp only [Act.put, aS]
  refine tkl 19 (.bool false) rfl ?_ ?_
  · intro wx hSw; go_simp
  try simp only [Act.put, aS]
  refine tkr 20 rfl ?_
  try simp only [Act.put, aS]
  refine tkr 21 rfl ?_
  try simp only [Act.put, aS]
  refine tkr 22 rfl ?_
  try simp only [Act.put, aS]
  refine tkr 23 rfl ?_
  try simp only [Act.put, aS]
  refine tkr 24 rfl ?_
  try simp only [Act.put, aS]
  refine tkl 25 (.bool false) rfl ?_ ?_
  · intro wx hSw; go_simp
  try simp only [Act.put, aS]
  refine tkl 26 (.bool false) rfl ?_ ?_
  · intro wx hSw; go_simp
  try simp only [Act.put, aS]
  refine tkr 27 rfl ?_
  try simp only [Act.put, aS]
  refine tkr 28 rfl ?_
  try simp only [Act.put, aS]
  refine tkr 29 rfl ?_
  try simp only [Act.put, aS]
  refine tkr 30 rfl ?_
  try simp only [Act.put, aS]
  refine tkr 31 rfl ?_
  try simp only [Act.put, aS]
  refine tkr 32 rfl ?_
  try simp only [Act.put, aS]
  refine tkr 33 rfl ?_
  try simp only [Act.put, aS]
  refine tkr 34 rfl ?_
  try simp only [Act.put, aS]
  refine tkl 35 (.bool false) rfl ?_ ?_
  · intro wx hSw; go_simp
  try simp only [Act.put, aS]
  refine tkl 36 (.bool false) rfl ?_ ?_
  · intro wx hSw; go_simp
  try simp only [Act.put, aS]
  refine wpAnyH_done (by kernel_rfl) ?_ _
  clear hHeld
  go_wp2
  go_ret
  exact ⟨by rw [hM.out]; rfl, by repeat (first | exact B2.out | apply Below.drew)⟩
theorem msgOk_impl (c d sv k : Int) (x : Nat → Int) (w : World) :
    Calls Tryz.prog 23 #[.agg #[.int .i64 c, .int .i64 d], .int .i64 sv, .agg #[.int .i64 k, .int .i64 (x 1), .int .i64 (x 2), .int .i64 (x 3), .int .i64 (x 4), .int .i64 (x 5), .int .i64 (x 6), .int .i64 (x 7), .int .i64 (x 8), .int .i64 (x 9), .int .i64 (x 10), .int .i64 (x 11), .int .i64 (x 12), .int .i64 (x 13), .int .i64 (x 14), .int .i64 (x 15), .int .i64 (x 16), .int .i64 (x 17), .int .i64 (x 18), .int .i64 (x 19), .int .i64 (x 20), .int .i64 (x 21), .int .i64 (x 22), .int .i64 (x 23), .int .i64 (x 24)]] w fun e w' => e = .returned (.bool (msgB c d sv k x)) ∧ Below w.heap.size w w' := by
  by_cases e1 : k = 1
  · subst e1; exact impl1 c d sv x w
  · skip
    by_cases e2 : k = 2
    · subst e2; exact impl2 c d sv x w
    · skip
      by_cases e3 : k = 3
      · subst e3; exact impl3 c d sv x w
      · skip
        by_cases e4 : k = 4
        · subst e4; exact impl4 c d sv x w
        · skip
          by_cases e5 : k = 5
          · subst e5; exact impl5 c d sv x w
          · skip
            by_cases e6 : k = 6
            · subst e6; exact impl6 c d sv x w
            · skip
              by_cases e7 : k = 7
              · subst e7; exact impl7 c d sv x w
              · skip
                exact impl0 c d sv k x (by simpa using e1) (by simpa using e2) (by simpa using e3) (by simpa using e4) (by simpa using e5) (by simpa using e6) (by simpa using e7) w
end Go.Proofs.YtgjapdjidighlabGreat
