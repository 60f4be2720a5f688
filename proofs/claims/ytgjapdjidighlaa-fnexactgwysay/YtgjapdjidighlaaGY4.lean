/- Messages held against each other; tables of any room; conditions: those typed. -/
import Derived.Test.YtgjapdjidighlaaGY3
import Derived.Test.YtgjapdjidighlaaGB4
namespace Go.Proofs.Ytgjapdjidighlaa
open Go.RowKit Go.Deep
set_option linter.unusedVariables false

set_option maxHeartbeats 1000000 in
theorem szTabG (left : Int) (l0 : 0 ≤ left) (l1 : left ≤ 1048576) (v : Value) (T : TV) (hs : T.short maxLen) (w : World) (h : TabAt w v T) :
    Calls Try.prog 23 #[v, .int .i64 left] w fun e w' => (∃ r : Int, e = .returned (.int .i64 r) ∧ (r < 0 ∨ (0 ≤ r ∧ T.short 1048576))) ∧ Below w.heap.size w w' := by
  obtain ⟨aS, kS, aA, kA, rfl, rS, rA⟩ := h
  obtain ⟨s1, s2⟩ := hs
  unfold maxLen at s1 s2
  clear rS rA
  go_enter Try.func23, Try.ntmps23
  go_wp2_with fail
  refine (szInts aS T.nS kS left l0 l1 (by omega) _).mono ?_
  rintro e w1 ⟨rfl, hb1⟩
  have B1 : Below w.heap.size w w1 := bthen ((Below.refl _ _).alloc (by simp) _) hb1
  by_cases h1 : (T.nS : Int) ≤ left
  · rw [if_pos h1]
    have h10 : 0 ≤ left - (T.nS : Int) := by omega
    obtain ⟨hc1, hf1⟩ := bcell hb1
    have z1 : w.heap.size < w1.heap.size := by have := hb1.size; simp at this; omega
    go_wp2_with fail
    refine (szInts aA T.nA kA _ h10 (by omega) (by omega) _).mono ?_
    rintro e w2 ⟨rfl, hb2⟩
    have B2 := bthen B1 hb2
    by_cases h2 : (T.nA : Int) ≤ left - (T.nS : Int)
    · rw [if_pos h2]
      have h20 : 0 ≤ left - (T.nS : Int) - (T.nA : Int) := by omega
      go_wp2
      go_ret
      exact ⟨⟨_, rfl, .inr ⟨h20, by omega, by omega⟩⟩, B2⟩
    · rw [if_neg h2]
      go_wp2
      go_ret
      exact ⟨⟨-1, rfl, .inl (by omega)⟩, B2⟩
  · rw [if_neg h1]
    go_wp2
    go_ret
    exact ⟨⟨-1, rfl, .inl (by omega)⟩, B1⟩

set_option maxHeartbeats 1000000 in
theorem eqWalkerM (p0 p1 p2 p3 p4 : Int) (w : World) :
    Calls Try.prog 37 #[.agg #[.int .i64 p0, .int .i64 p1, .int .i64 p2, .int .i64 p3, .int .i64 p4], .agg #[.int .i64 p0, .int .i64 p1, .int .i64 p2, .int .i64 p3, .int .i64 p4]] w fun e w' => e = .returned (.bool true) ∧ Below w.heap.size w w' := by
  go_enter Try.func37, Try.ntmps37
  go_wp2
  go_ret
  exact ⟨rfl, by repeat (first | exact Below.refl _ _ | refine bthen ?_ (by assumption) | refine Below.alloc ?_ (by simp <;> omega) _)⟩

set_option maxHeartbeats 1000000 in
theorem eqParcelM (p0 p1 p2 p3 p4 p5 p6 p7 : Int) (w : World) :
    Calls Try.prog 58 #[.agg #[.int .i64 p0, .int .i64 p1, .int .i64 p2, .int .i64 p3, .int .i64 p4, .int .i64 p5, .int .i64 p6, .int .i64 p7], .agg #[.int .i64 p0, .int .i64 p1, .int .i64 p2, .int .i64 p3, .int .i64 p4, .int .i64 p5, .int .i64 p6, .int .i64 p7]] w fun e w' => e = .returned (.bool true) ∧ Below w.heap.size w w' := by
  go_enter Try.func58, Try.ntmps58
  go_wp2_with (go_at_call 37; refine (eqWalkerM _ _ _ _ _ _).mono ?_; rintro e w1 ⟨rfl, hb⟩; obtain ⟨hc, hf⟩ := bcell hb)
  go_ret
  exact ⟨rfl, by repeat (first | exact Below.refl _ _ | refine bthen ?_ (by assumption) | refine Below.alloc ?_ (by simp <;> omega) _)⟩

set_option maxHeartbeats 1000000 in
theorem eqGhostM (p0 p1 p2 p3 p4 p5 p6 : Int) (w : World) :
    Calls Try.prog 59 #[.agg #[.int .i64 p0, .int .i64 p1, .int .i64 p2, .int .i64 p3, .int .i64 p4, .int .i64 p5, .int .i64 p6], .agg #[.int .i64 p0, .int .i64 p1, .int .i64 p2, .int .i64 p3, .int .i64 p4, .int .i64 p5, .int .i64 p6]] w fun e w' => e = .returned (.bool true) ∧ Below w.heap.size w w' := by
  go_enter Try.func59, Try.ntmps59
  go_wp2_with (go_at_call 37; refine (eqWalkerM _ _ _ _ _ _).mono ?_; rintro e w1 ⟨rfl, hb⟩; obtain ⟨hc, hf⟩ := bcell hb)
  go_ret
  exact ⟨rfl, by repeat (first | exact Below.refl _ _ | refine bthen ?_ (by assumption) | refine Below.alloc ?_ (by simp <;> omega) _)⟩

set_option maxRecDepth 20000 in
set_option maxHeartbeats 4000000 in
theorem eqMsg (m : Nat → Int) (w : World) :
    Calls Try.prog 27 #[.agg #[.int .i64 (m 0), .int .i64 (m 1), .int .i64 (m 2), .int .i64 (m 3), .int .i64 (m 4), .int .i64 (m 5), .int .i64 (m 6), .int .i64 (m 7), .int .i64 (m 8), .int .i64 (m 9), .int .i64 (m 10), .int .i64 (m 11), .int .i64 (m 12), .int .i64 (m 13), .int .i64 (m 14), .int .i64 (m 15), .int .i64 (m 16), .int .i64 (m 17), .int .i64 (m 18), .int .i64 (m 19), .int .i64 (m 20), .int .i64 (m 21), .int .i64 (m 22), .int .i64 (m 23), .int .i64 (m 24)], .agg #[.int .i64 (m 0), .int .i64 (m 1), .int .i64 (m 2), .int .i64 (m 3), .int .i64 (m 4), .int .i64 (m 5), .int .i64 (m 6), .int .i64 (m 7), .int .i64 (m 8), .int .i64 (m 9), .int .i64 (m 10), .int .i64 (m 11), .int .i64 (m 12), .int .i64 (m 13), .int .i64 (m 14), .int .i64 (m 15), .int .i64 (m 16), .int .i64 (m 17), .int .i64 (m 18), .int .i64 (m 19), .int .i64 (m 20), .int .i64 (m 21), .int .i64 (m 22), .int .i64 (m 23), .int .i64 (m 24)]] w fun e w' => e = .returned (.bool true) ∧ Below w.heap.size w w' := by
  go_enter Try.func27, Try.ntmps27
  go_wp2_with fail
  obtain ⟨w0, e0⟩ : ∃ w0, w0 = (w.alloc (.cells #[.int .i64 (m 0), .int .i64 (m 1), .int .i64 (m 2), .int .i64 (m 3), .int .i64 (m 4), .int .i64 (m 5), .int .i64 (m 6), .int .i64 (m 7), .int .i64 (m 8), .int .i64 (m 9), .int .i64 (m 10), .int .i64 (m 11), .int .i64 (m 12), .int .i64 (m 13), .int .i64 (m 14), .int .i64 (m 15), .int .i64 (m 16), .int .i64 (m 17), .int .i64 (m 18), .int .i64 (m 19), .int .i64 (m 20), .int .i64 (m 21), .int .i64 (m 22), .int .i64 (m 23), .int .i64 (m 24)] 62)).alloc (.cells #[.int .i64 (m 0), .int .i64 (m 1), .int .i64 (m 2), .int .i64 (m 3), .int .i64 (m 4), .int .i64 (m 5), .int .i64 (m 6), .int .i64 (m 7), .int .i64 (m 8), .int .i64 (m 9), .int .i64 (m 10), .int .i64 (m 11), .int .i64 (m 12), .int .i64 (m 13), .int .i64 (m 14), .int .i64 (m 15), .int .i64 (m 16), .int .i64 (m 17), .int .i64 (m 18), .int .i64 (m 19), .int .i64 (m 20), .int .i64 (m 21), .int .i64 (m 22), .int .i64 (m 23), .int .i64 (m 24)] 62) := ⟨_, rfl⟩
  have B1 : Hid (Below w.heap.size w w0) := by rw [e0]; exact ((Below.refl _ _).alloc (by simp) _).alloc (by simp) _
  have PP2 : Hid (Bk w0 w.heap.size [.int .i64 (m 0), .int .i64 (m 1), .int .i64 (m 2), .int .i64 (m 3), .int .i64 (m 4), .int .i64 (m 5), .int .i64 (m 6), .int .i64 (m 7), .int .i64 (m 8), .int .i64 (m 9), .int .i64 (m 10), .int .i64 (m 11), .int .i64 (m 12), .int .i64 (m 13), .int .i64 (m 14), .int .i64 (m 15), .int .i64 (m 16), .int .i64 (m 17), .int .i64 (m 18), .int .i64 (m 19), .int .i64 (m 20), .int .i64 (m 21), .int .i64 (m 22), .int .i64 (m 23), .int .i64 (m 24)]) := by rw [e0]; exact (bk_new w 62 [.int .i64 (m 0), .int .i64 (m 1), .int .i64 (m 2), .int .i64 (m 3), .int .i64 (m 4), .int .i64 (m 5), .int .i64 (m 6), .int .i64 (m 7), .int .i64 (m 8), .int .i64 (m 9), .int .i64 (m 10), .int .i64 (m 11), .int .i64 (m 12), .int .i64 (m 13), .int .i64 (m 14), .int .i64 (m 15), .int .i64 (m 16), .int .i64 (m 17), .int .i64 (m 18), .int .i64 (m 19), .int .i64 (m 20), .int .i64 (m 21), .int .i64 (m 22), .int .i64 (m 23), .int .i64 (m 24)]).below ((Below.refl _ _).alloc (Nat.le_refl _) _)
  have QQ3 : Hid (Bk w0 (w.heap.size + 1) [.int .i64 (m 0), .int .i64 (m 1), .int .i64 (m 2), .int .i64 (m 3), .int .i64 (m 4), .int .i64 (m 5), .int .i64 (m 6), .int .i64 (m 7), .int .i64 (m 8), .int .i64 (m 9), .int .i64 (m 10), .int .i64 (m 11), .int .i64 (m 12), .int .i64 (m 13), .int .i64 (m 14), .int .i64 (m 15), .int .i64 (m 16), .int .i64 (m 17), .int .i64 (m 18), .int .i64 (m 19), .int .i64 (m 20), .int .i64 (m 21), .int .i64 (m 22), .int .i64 (m 23), .int .i64 (m 24)]) := by rw [e0]; have := bk_new (w.alloc (.cells #[.int .i64 (m 0), .int .i64 (m 1), .int .i64 (m 2), .int .i64 (m 3), .int .i64 (m 4), .int .i64 (m 5), .int .i64 (m 6), .int .i64 (m 7), .int .i64 (m 8), .int .i64 (m 9), .int .i64 (m 10), .int .i64 (m 11), .int .i64 (m 12), .int .i64 (m 13), .int .i64 (m 14), .int .i64 (m 15), .int .i64 (m 16), .int .i64 (m 17), .int .i64 (m 18), .int .i64 (m 19), .int .i64 (m 20), .int .i64 (m 21), .int .i64 (m 22), .int .i64 (m 23), .int .i64 (m 24)] 62)) 62 [.int .i64 (m 0), .int .i64 (m 1), .int .i64 (m 2), .int .i64 (m 3), .int .i64 (m 4), .int .i64 (m 5), .int .i64 (m 6), .int .i64 (m 7), .int .i64 (m 8), .int .i64 (m 9), .int .i64 (m 10), .int .i64 (m 11), .int .i64 (m 12), .int .i64 (m 13), .int .i64 (m 14), .int .i64 (m 15), .int .i64 (m 16), .int .i64 (m 17), .int .i64 (m 18), .int .i64 (m 19), .int .i64 (m 20), .int .i64 (m 21), .int .i64 (m 22), .int .i64 (m 23), .int .i64 (m 24)]; rwa [show (w.alloc (.cells #[.int .i64 (m 0), .int .i64 (m 1), .int .i64 (m 2), .int .i64 (m 3), .int .i64 (m 4), .int .i64 (m 5), .int .i64 (m 6), .int .i64 (m 7), .int .i64 (m 8), .int .i64 (m 9), .int .i64 (m 10), .int .i64 (m 11), .int .i64 (m 12), .int .i64 (m 13), .int .i64 (m 14), .int .i64 (m 15), .int .i64 (m 16), .int .i64 (m 17), .int .i64 (m 18), .int .i64 (m 19), .int .i64 (m 20), .int .i64 (m 21), .int .i64 (m 22), .int .i64 (m 23), .int .i64 (m 24)] 62)).heap.size = w.heap.size + 1 by simp] at this
  rw [← e0]
  clear e0
  refine (P10.eqOrder _ _ _ _ _ _).mono ?_
  rintro e w1 ⟨rfl, hb1⟩
  have B4 : Hid (Below w.heap.size w w1) := bthen B1.out hb1
  have PP4 : Hid (Bk w1 w.heap.size [.int .i64 (m 0), .int .i64 (m 1), .int .i64 (m 2), .int .i64 (m 3), .int .i64 (m 4), .int .i64 (m 5), .int .i64 (m 6), .int .i64 (m 7), .int .i64 (m 8), .int .i64 (m 9), .int .i64 (m 10), .int .i64 (m 11), .int .i64 (m 12), .int .i64 (m 13), .int .i64 (m 14), .int .i64 (m 15), .int .i64 (m 16), .int .i64 (m 17), .int .i64 (m 18), .int .i64 (m 19), .int .i64 (m 20), .int .i64 (m 21), .int .i64 (m 22), .int .i64 (m 23), .int .i64 (m 24)]) := PP2.out.below hb1
  have QQ4 : Hid (Bk w1 (w.heap.size + 1) [.int .i64 (m 0), .int .i64 (m 1), .int .i64 (m 2), .int .i64 (m 3), .int .i64 (m 4), .int .i64 (m 5), .int .i64 (m 6), .int .i64 (m 7), .int .i64 (m 8), .int .i64 (m 9), .int .i64 (m 10), .int .i64 (m 11), .int .i64 (m 12), .int .i64 (m 13), .int .i64 (m 14), .int .i64 (m 15), .int .i64 (m 16), .int .i64 (m 17), .int .i64 (m 18), .int .i64 (m 19), .int .i64 (m 20), .int .i64 (m 21), .int .i64 (m 22), .int .i64 (m 23), .int .i64 (m 24)]) := QQ3.out.below hb1
  clear B1 PP2 QQ3
  clear hb1
  have yPP0 : w1.cell? ⟨w.heap.size, 0, none⟩ = some (.int .i64 (m 0)) := (PP4.out.2 0 (by simp)).1
  have yPP1 : w1.cell? ⟨w.heap.size, 1, none⟩ = some (.int .i64 (m 1)) := (PP4.out.2 1 (by simp)).1
  have yPP2 : w1.cell? ⟨w.heap.size, 2, none⟩ = some (.int .i64 (m 2)) := (PP4.out.2 2 (by simp)).1
  have yPP3 : w1.cell? ⟨w.heap.size, 3, none⟩ = some (.int .i64 (m 3)) := (PP4.out.2 3 (by simp)).1
  have yPP4 : w1.cell? ⟨w.heap.size, 4, none⟩ = some (.int .i64 (m 4)) := (PP4.out.2 4 (by simp)).1
  have yPP5 : w1.cell? ⟨w.heap.size, 5, none⟩ = some (.int .i64 (m 5)) := (PP4.out.2 5 (by simp)).1
  have yPP6 : w1.cell? ⟨w.heap.size, 6, none⟩ = some (.int .i64 (m 6)) := (PP4.out.2 6 (by simp)).1
  have yPP7 : w1.cell? ⟨w.heap.size, 7, none⟩ = some (.int .i64 (m 7)) := (PP4.out.2 7 (by simp)).1
  have yPP8 : w1.cell? ⟨w.heap.size, 8, none⟩ = some (.int .i64 (m 8)) := (PP4.out.2 8 (by simp)).1
  have yPP9 : w1.cell? ⟨w.heap.size, 9, none⟩ = some (.int .i64 (m 9)) := (PP4.out.2 9 (by simp)).1
  have yPP10 : w1.cell? ⟨w.heap.size, 10, none⟩ = some (.int .i64 (m 10)) := (PP4.out.2 10 (by simp)).1
  have yPP11 : w1.cell? ⟨w.heap.size, 11, none⟩ = some (.int .i64 (m 11)) := (PP4.out.2 11 (by simp)).1
  have yPP12 : w1.cell? ⟨w.heap.size, 12, none⟩ = some (.int .i64 (m 12)) := (PP4.out.2 12 (by simp)).1
  have yPP13 : w1.cell? ⟨w.heap.size, 13, none⟩ = some (.int .i64 (m 13)) := (PP4.out.2 13 (by simp)).1
  have yPP14 : w1.cell? ⟨w.heap.size, 14, none⟩ = some (.int .i64 (m 14)) := (PP4.out.2 14 (by simp)).1
  have yPP15 : w1.cell? ⟨w.heap.size, 15, none⟩ = some (.int .i64 (m 15)) := (PP4.out.2 15 (by simp)).1
  have yPP16 : w1.cell? ⟨w.heap.size, 16, none⟩ = some (.int .i64 (m 16)) := (PP4.out.2 16 (by simp)).1
  have yPP17 : w1.cell? ⟨w.heap.size, 17, none⟩ = some (.int .i64 (m 17)) := (PP4.out.2 17 (by simp)).1
  have yPP18 : w1.cell? ⟨w.heap.size, 18, none⟩ = some (.int .i64 (m 18)) := (PP4.out.2 18 (by simp)).1
  have yPP19 : w1.cell? ⟨w.heap.size, 19, none⟩ = some (.int .i64 (m 19)) := (PP4.out.2 19 (by simp)).1
  have yPP20 : w1.cell? ⟨w.heap.size, 20, none⟩ = some (.int .i64 (m 20)) := (PP4.out.2 20 (by simp)).1
  have yPP21 : w1.cell? ⟨w.heap.size, 21, none⟩ = some (.int .i64 (m 21)) := (PP4.out.2 21 (by simp)).1
  have yPP22 : w1.cell? ⟨w.heap.size, 22, none⟩ = some (.int .i64 (m 22)) := (PP4.out.2 22 (by simp)).1
  have yPP23 : w1.cell? ⟨w.heap.size, 23, none⟩ = some (.int .i64 (m 23)) := (PP4.out.2 23 (by simp)).1
  have yPP24 : w1.cell? ⟨w.heap.size, 24, none⟩ = some (.int .i64 (m 24)) := (PP4.out.2 24 (by simp)).1
  have hlPP : w.heap.size < w1.heap.size := PP4.out.1
  have yQQ0 : w1.cell? ⟨(w.heap.size + 1), 0, none⟩ = some (.int .i64 (m 0)) := (QQ4.out.2 0 (by simp)).1
  have yQQ1 : w1.cell? ⟨(w.heap.size + 1), 1, none⟩ = some (.int .i64 (m 1)) := (QQ4.out.2 1 (by simp)).1
  have yQQ2 : w1.cell? ⟨(w.heap.size + 1), 2, none⟩ = some (.int .i64 (m 2)) := (QQ4.out.2 2 (by simp)).1
  have yQQ3 : w1.cell? ⟨(w.heap.size + 1), 3, none⟩ = some (.int .i64 (m 3)) := (QQ4.out.2 3 (by simp)).1
  have yQQ4 : w1.cell? ⟨(w.heap.size + 1), 4, none⟩ = some (.int .i64 (m 4)) := (QQ4.out.2 4 (by simp)).1
  have yQQ5 : w1.cell? ⟨(w.heap.size + 1), 5, none⟩ = some (.int .i64 (m 5)) := (QQ4.out.2 5 (by simp)).1
  have yQQ6 : w1.cell? ⟨(w.heap.size + 1), 6, none⟩ = some (.int .i64 (m 6)) := (QQ4.out.2 6 (by simp)).1
  have yQQ7 : w1.cell? ⟨(w.heap.size + 1), 7, none⟩ = some (.int .i64 (m 7)) := (QQ4.out.2 7 (by simp)).1
  have yQQ8 : w1.cell? ⟨(w.heap.size + 1), 8, none⟩ = some (.int .i64 (m 8)) := (QQ4.out.2 8 (by simp)).1
  have yQQ9 : w1.cell? ⟨(w.heap.size + 1), 9, none⟩ = some (.int .i64 (m 9)) := (QQ4.out.2 9 (by simp)).1
  have yQQ10 : w1.cell? ⟨(w.heap.size + 1), 10, none⟩ = some (.int .i64 (m 10)) := (QQ4.out.2 10 (by simp)).1
  have yQQ11 : w1.cell? ⟨(w.heap.size + 1), 11, none⟩ = some (.int .i64 (m 11)) := (QQ4.out.2 11 (by simp)).1
  have yQQ12 : w1.cell? ⟨(w.heap.size + 1), 12, none⟩ = some (.int .i64 (m 12)) := (QQ4.out.2 12 (by simp)).1
  have yQQ13 : w1.cell? ⟨(w.heap.size + 1), 13, none⟩ = some (.int .i64 (m 13)) := (QQ4.out.2 13 (by simp)).1
  have yQQ14 : w1.cell? ⟨(w.heap.size + 1), 14, none⟩ = some (.int .i64 (m 14)) := (QQ4.out.2 14 (by simp)).1
  have yQQ15 : w1.cell? ⟨(w.heap.size + 1), 15, none⟩ = some (.int .i64 (m 15)) := (QQ4.out.2 15 (by simp)).1
  have yQQ16 : w1.cell? ⟨(w.heap.size + 1), 16, none⟩ = some (.int .i64 (m 16)) := (QQ4.out.2 16 (by simp)).1
  have yQQ17 : w1.cell? ⟨(w.heap.size + 1), 17, none⟩ = some (.int .i64 (m 17)) := (QQ4.out.2 17 (by simp)).1
  have yQQ18 : w1.cell? ⟨(w.heap.size + 1), 18, none⟩ = some (.int .i64 (m 18)) := (QQ4.out.2 18 (by simp)).1
  have yQQ19 : w1.cell? ⟨(w.heap.size + 1), 19, none⟩ = some (.int .i64 (m 19)) := (QQ4.out.2 19 (by simp)).1
  have yQQ20 : w1.cell? ⟨(w.heap.size + 1), 20, none⟩ = some (.int .i64 (m 20)) := (QQ4.out.2 20 (by simp)).1
  have yQQ21 : w1.cell? ⟨(w.heap.size + 1), 21, none⟩ = some (.int .i64 (m 21)) := (QQ4.out.2 21 (by simp)).1
  have yQQ22 : w1.cell? ⟨(w.heap.size + 1), 22, none⟩ = some (.int .i64 (m 22)) := (QQ4.out.2 22 (by simp)).1
  have yQQ23 : w1.cell? ⟨(w.heap.size + 1), 23, none⟩ = some (.int .i64 (m 23)) := (QQ4.out.2 23 (by simp)).1
  have yQQ24 : w1.cell? ⟨(w.heap.size + 1), 24, none⟩ = some (.int .i64 (m 24)) := (QQ4.out.2 24 (by simp)).1
  have hlQQ : (w.heap.size + 1) < w1.heap.size := QQ4.out.1
  go_wp2_with fail
  refine (eqParcelM _ _ _ _ _ _ _ _ _).mono ?_
  rintro e w2 ⟨rfl, hb2⟩
  clear yPP0 yPP1 yPP2 yPP3 yPP4 yPP5 yPP6 yPP7 yPP8 yPP9 yPP10 yPP11 yPP12 yPP13 yPP14 yPP15 yPP16 yPP17 yPP18 yPP19 yPP20 yPP21 yPP22 yPP23 yPP24 hlPP yQQ0 yQQ1 yQQ2 yQQ3 yQQ4 yQQ5 yQQ6 yQQ7 yQQ8 yQQ9 yQQ10 yQQ11 yQQ12 yQQ13 yQQ14 yQQ15 yQQ16 yQQ17 yQQ18 yQQ19 yQQ20 yQQ21 yQQ22 yQQ23 yQQ24 hlQQ
  have B5 : Hid (Below w.heap.size w w2) := bthen B4.out hb2
  have PP5 : Hid (Bk w2 w.heap.size [.int .i64 (m 0), .int .i64 (m 1), .int .i64 (m 2), .int .i64 (m 3), .int .i64 (m 4), .int .i64 (m 5), .int .i64 (m 6), .int .i64 (m 7), .int .i64 (m 8), .int .i64 (m 9), .int .i64 (m 10), .int .i64 (m 11), .int .i64 (m 12), .int .i64 (m 13), .int .i64 (m 14), .int .i64 (m 15), .int .i64 (m 16), .int .i64 (m 17), .int .i64 (m 18), .int .i64 (m 19), .int .i64 (m 20), .int .i64 (m 21), .int .i64 (m 22), .int .i64 (m 23), .int .i64 (m 24)]) := PP4.out.below hb2
  have QQ5 : Hid (Bk w2 (w.heap.size + 1) [.int .i64 (m 0), .int .i64 (m 1), .int .i64 (m 2), .int .i64 (m 3), .int .i64 (m 4), .int .i64 (m 5), .int .i64 (m 6), .int .i64 (m 7), .int .i64 (m 8), .int .i64 (m 9), .int .i64 (m 10), .int .i64 (m 11), .int .i64 (m 12), .int .i64 (m 13), .int .i64 (m 14), .int .i64 (m 15), .int .i64 (m 16), .int .i64 (m 17), .int .i64 (m 18), .int .i64 (m 19), .int .i64 (m 20), .int .i64 (m 21), .int .i64 (m 22), .int .i64 (m 23), .int .i64 (m 24)]) := QQ4.out.below hb2
  clear B4 PP4 QQ4
  clear hb2
  have yPP0 : w2.cell? ⟨w.heap.size, 0, none⟩ = some (.int .i64 (m 0)) := (PP5.out.2 0 (by simp)).1
  have yPP1 : w2.cell? ⟨w.heap.size, 1, none⟩ = some (.int .i64 (m 1)) := (PP5.out.2 1 (by simp)).1
  have yPP2 : w2.cell? ⟨w.heap.size, 2, none⟩ = some (.int .i64 (m 2)) := (PP5.out.2 2 (by simp)).1
  have yPP3 : w2.cell? ⟨w.heap.size, 3, none⟩ = some (.int .i64 (m 3)) := (PP5.out.2 3 (by simp)).1
  have yPP4 : w2.cell? ⟨w.heap.size, 4, none⟩ = some (.int .i64 (m 4)) := (PP5.out.2 4 (by simp)).1
  have yPP5 : w2.cell? ⟨w.heap.size, 5, none⟩ = some (.int .i64 (m 5)) := (PP5.out.2 5 (by simp)).1
  have yPP6 : w2.cell? ⟨w.heap.size, 6, none⟩ = some (.int .i64 (m 6)) := (PP5.out.2 6 (by simp)).1
  have yPP7 : w2.cell? ⟨w.heap.size, 7, none⟩ = some (.int .i64 (m 7)) := (PP5.out.2 7 (by simp)).1
  have yPP8 : w2.cell? ⟨w.heap.size, 8, none⟩ = some (.int .i64 (m 8)) := (PP5.out.2 8 (by simp)).1
  have yPP9 : w2.cell? ⟨w.heap.size, 9, none⟩ = some (.int .i64 (m 9)) := (PP5.out.2 9 (by simp)).1
  have yPP10 : w2.cell? ⟨w.heap.size, 10, none⟩ = some (.int .i64 (m 10)) := (PP5.out.2 10 (by simp)).1
  have yPP11 : w2.cell? ⟨w.heap.size, 11, none⟩ = some (.int .i64 (m 11)) := (PP5.out.2 11 (by simp)).1
  have yPP12 : w2.cell? ⟨w.heap.size, 12, none⟩ = some (.int .i64 (m 12)) := (PP5.out.2 12 (by simp)).1
  have yPP13 : w2.cell? ⟨w.heap.size, 13, none⟩ = some (.int .i64 (m 13)) := (PP5.out.2 13 (by simp)).1
  have yPP14 : w2.cell? ⟨w.heap.size, 14, none⟩ = some (.int .i64 (m 14)) := (PP5.out.2 14 (by simp)).1
  have yPP15 : w2.cell? ⟨w.heap.size, 15, none⟩ = some (.int .i64 (m 15)) := (PP5.out.2 15 (by simp)).1
  have yPP16 : w2.cell? ⟨w.heap.size, 16, none⟩ = some (.int .i64 (m 16)) := (PP5.out.2 16 (by simp)).1
  have yPP17 : w2.cell? ⟨w.heap.size, 17, none⟩ = some (.int .i64 (m 17)) := (PP5.out.2 17 (by simp)).1
  have yPP18 : w2.cell? ⟨w.heap.size, 18, none⟩ = some (.int .i64 (m 18)) := (PP5.out.2 18 (by simp)).1
  have yPP19 : w2.cell? ⟨w.heap.size, 19, none⟩ = some (.int .i64 (m 19)) := (PP5.out.2 19 (by simp)).1
  have yPP20 : w2.cell? ⟨w.heap.size, 20, none⟩ = some (.int .i64 (m 20)) := (PP5.out.2 20 (by simp)).1
  have yPP21 : w2.cell? ⟨w.heap.size, 21, none⟩ = some (.int .i64 (m 21)) := (PP5.out.2 21 (by simp)).1
  have yPP22 : w2.cell? ⟨w.heap.size, 22, none⟩ = some (.int .i64 (m 22)) := (PP5.out.2 22 (by simp)).1
  have yPP23 : w2.cell? ⟨w.heap.size, 23, none⟩ = some (.int .i64 (m 23)) := (PP5.out.2 23 (by simp)).1
  have yPP24 : w2.cell? ⟨w.heap.size, 24, none⟩ = some (.int .i64 (m 24)) := (PP5.out.2 24 (by simp)).1
  have hlPP : w.heap.size < w2.heap.size := PP5.out.1
  have yQQ0 : w2.cell? ⟨(w.heap.size + 1), 0, none⟩ = some (.int .i64 (m 0)) := (QQ5.out.2 0 (by simp)).1
  have yQQ1 : w2.cell? ⟨(w.heap.size + 1), 1, none⟩ = some (.int .i64 (m 1)) := (QQ5.out.2 1 (by simp)).1
  have yQQ2 : w2.cell? ⟨(w.heap.size + 1), 2, none⟩ = some (.int .i64 (m 2)) := (QQ5.out.2 2 (by simp)).1
  have yQQ3 : w2.cell? ⟨(w.heap.size + 1), 3, none⟩ = some (.int .i64 (m 3)) := (QQ5.out.2 3 (by simp)).1
  have yQQ4 : w2.cell? ⟨(w.heap.size + 1), 4, none⟩ = some (.int .i64 (m 4)) := (QQ5.out.2 4 (by simp)).1
  have yQQ5 : w2.cell? ⟨(w.heap.size + 1), 5, none⟩ = some (.int .i64 (m 5)) := (QQ5.out.2 5 (by simp)).1
  have yQQ6 : w2.cell? ⟨(w.heap.size + 1), 6, none⟩ = some (.int .i64 (m 6)) := (QQ5.out.2 6 (by simp)).1
  have yQQ7 : w2.cell? ⟨(w.heap.size + 1), 7, none⟩ = some (.int .i64 (m 7)) := (QQ5.out.2 7 (by simp)).1
  have yQQ8 : w2.cell? ⟨(w.heap.size + 1), 8, none⟩ = some (.int .i64 (m 8)) := (QQ5.out.2 8 (by simp)).1
  have yQQ9 : w2.cell? ⟨(w.heap.size + 1), 9, none⟩ = some (.int .i64 (m 9)) := (QQ5.out.2 9 (by simp)).1
  have yQQ10 : w2.cell? ⟨(w.heap.size + 1), 10, none⟩ = some (.int .i64 (m 10)) := (QQ5.out.2 10 (by simp)).1
  have yQQ11 : w2.cell? ⟨(w.heap.size + 1), 11, none⟩ = some (.int .i64 (m 11)) := (QQ5.out.2 11 (by simp)).1
  have yQQ12 : w2.cell? ⟨(w.heap.size + 1), 12, none⟩ = some (.int .i64 (m 12)) := (QQ5.out.2 12 (by simp)).1
  have yQQ13 : w2.cell? ⟨(w.heap.size + 1), 13, none⟩ = some (.int .i64 (m 13)) := (QQ5.out.2 13 (by simp)).1
  have yQQ14 : w2.cell? ⟨(w.heap.size + 1), 14, none⟩ = some (.int .i64 (m 14)) := (QQ5.out.2 14 (by simp)).1
  have yQQ15 : w2.cell? ⟨(w.heap.size + 1), 15, none⟩ = some (.int .i64 (m 15)) := (QQ5.out.2 15 (by simp)).1
  have yQQ16 : w2.cell? ⟨(w.heap.size + 1), 16, none⟩ = some (.int .i64 (m 16)) := (QQ5.out.2 16 (by simp)).1
  have yQQ17 : w2.cell? ⟨(w.heap.size + 1), 17, none⟩ = some (.int .i64 (m 17)) := (QQ5.out.2 17 (by simp)).1
  have yQQ18 : w2.cell? ⟨(w.heap.size + 1), 18, none⟩ = some (.int .i64 (m 18)) := (QQ5.out.2 18 (by simp)).1
  have yQQ19 : w2.cell? ⟨(w.heap.size + 1), 19, none⟩ = some (.int .i64 (m 19)) := (QQ5.out.2 19 (by simp)).1
  have yQQ20 : w2.cell? ⟨(w.heap.size + 1), 20, none⟩ = some (.int .i64 (m 20)) := (QQ5.out.2 20 (by simp)).1
  have yQQ21 : w2.cell? ⟨(w.heap.size + 1), 21, none⟩ = some (.int .i64 (m 21)) := (QQ5.out.2 21 (by simp)).1
  have yQQ22 : w2.cell? ⟨(w.heap.size + 1), 22, none⟩ = some (.int .i64 (m 22)) := (QQ5.out.2 22 (by simp)).1
  have yQQ23 : w2.cell? ⟨(w.heap.size + 1), 23, none⟩ = some (.int .i64 (m 23)) := (QQ5.out.2 23 (by simp)).1
  have yQQ24 : w2.cell? ⟨(w.heap.size + 1), 24, none⟩ = some (.int .i64 (m 24)) := (QQ5.out.2 24 (by simp)).1
  have hlQQ : (w.heap.size + 1) < w2.heap.size := QQ5.out.1
  go_wp2_with fail
  refine (eqGhostM _ _ _ _ _ _ _ _).mono ?_
  rintro e w3 ⟨rfl, hb3⟩
  clear yPP0 yPP1 yPP2 yPP3 yPP4 yPP5 yPP6 yPP7 yPP8 yPP9 yPP10 yPP11 yPP12 yPP13 yPP14 yPP15 yPP16 yPP17 yPP18 yPP19 yPP20 yPP21 yPP22 yPP23 yPP24 hlPP yQQ0 yQQ1 yQQ2 yQQ3 yQQ4 yQQ5 yQQ6 yQQ7 yQQ8 yQQ9 yQQ10 yQQ11 yQQ12 yQQ13 yQQ14 yQQ15 yQQ16 yQQ17 yQQ18 yQQ19 yQQ20 yQQ21 yQQ22 yQQ23 yQQ24 hlQQ
  have B6 : Hid (Below w.heap.size w w3) := bthen B5.out hb3
  have PP6 : Hid (Bk w3 w.heap.size [.int .i64 (m 0), .int .i64 (m 1), .int .i64 (m 2), .int .i64 (m 3), .int .i64 (m 4), .int .i64 (m 5), .int .i64 (m 6), .int .i64 (m 7), .int .i64 (m 8), .int .i64 (m 9), .int .i64 (m 10), .int .i64 (m 11), .int .i64 (m 12), .int .i64 (m 13), .int .i64 (m 14), .int .i64 (m 15), .int .i64 (m 16), .int .i64 (m 17), .int .i64 (m 18), .int .i64 (m 19), .int .i64 (m 20), .int .i64 (m 21), .int .i64 (m 22), .int .i64 (m 23), .int .i64 (m 24)]) := PP5.out.below hb3
  have QQ6 : Hid (Bk w3 (w.heap.size + 1) [.int .i64 (m 0), .int .i64 (m 1), .int .i64 (m 2), .int .i64 (m 3), .int .i64 (m 4), .int .i64 (m 5), .int .i64 (m 6), .int .i64 (m 7), .int .i64 (m 8), .int .i64 (m 9), .int .i64 (m 10), .int .i64 (m 11), .int .i64 (m 12), .int .i64 (m 13), .int .i64 (m 14), .int .i64 (m 15), .int .i64 (m 16), .int .i64 (m 17), .int .i64 (m 18), .int .i64 (m 19), .int .i64 (m 20), .int .i64 (m 21), .int .i64 (m 22), .int .i64 (m 23), .int .i64 (m 24)]) := QQ5.out.below hb3
  clear B5 PP5 QQ5
  clear hb3
  go_wp2
  go_ret
  exact ⟨rfl, B6.out⟩

end Go.Proofs.Ytgjapdjidighlaa
