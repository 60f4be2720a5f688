/- The law FnExactSrvNew: it answers true; conditions: none. -/
import Derived.Test.YtalncpmljliloaaWalks1
import Derived.Test.YtalncpmljliloaaBase
namespace Go.Proofs.Ytalncpmljliloaa
open Go.RowKit Go.Deep
set_option linter.unusedVariables false
theorem eqH0 (w : World) : Calls Try.prog 29 #[.slice none 0 0, .slice none 0 0] w fun e w' => e = .returned (.bool true) ∧ w' = w := by
  go_enter Try.func29, Try.ntmps29
  go_wp2
  go_loopw [5] (fun i wr => i = .int .i64 0 ∧ w = wr) (fun _ _ => 0)
  case atStart => exact ⟨rfl, rfl⟩
  case round =>
    obtain ⟨rfl, rfl⟩ := hrel
    go_wp2
    go_ret
    exact ⟨rfl, rfl⟩
theorem eqG0 (w : World) : Calls Try.prog 30 #[.slice none 0 0, .slice none 0 0] w fun e w' => e = .returned (.bool true) ∧ w' = w := by
  go_enter Try.func30, Try.ntmps30
  go_wp2
  go_loopw [5] (fun i wr => i = .int .i64 0 ∧ w = wr) (fun _ _ => 0)
  case atStart => exact ⟨rfl, rfl⟩
  case round =>
    obtain ⟨rfl, rfl⟩ := hrel
    go_wp2
    go_ret
    exact ⟨rfl, rfl⟩
theorem mkH0 (k : Int) (w : World) : Calls Try.prog 31 #[.slice none 0 0, .int .i64 k] w fun e w' => e = .returned (.int .i64 k) ∧ w' = w := by
  go_enter Try.func31, Try.ntmps31
  go_wp2
  go_loopw [1, 5] (fun c i wr => .int .i64 k = c ∧ i = .int .i64 0 ∧ w = wr) (fun _ _ _ => 0)
  case atStart => exact ⟨rfl, rfl, rfl⟩
  case round =>
    obtain ⟨rfl, rfl, rfl⟩ := hrel
    go_wp2
    go_ret
    exact ⟨rfl, rfl⟩
theorem mkG0 (k : Int) (w : World) : Calls Try.prog 32 #[.slice none 0 0, .int .i64 k] w fun e w' => e = .returned (.int .i64 k) ∧ w' = w := by
  go_enter Try.func32, Try.ntmps32
  go_wp2
  go_loopw [1, 5] (fun c i wr => .int .i64 k = c ∧ i = .int .i64 0 ∧ w = wr) (fun _ _ _ => 0)
  case atStart => exact ⟨rfl, rfl, rfl⟩
  case round =>
    obtain ⟨rfl, rfl, rfl⟩ := hrel
    go_wp2
    go_ret
    exact ⟨rfl, rfl⟩
theorem hdH0 (k : Int) (w : World) : Calls Try.prog 33 #[.slice none 0 0, .int .i64 k] w fun e w' => e = .returned (.int .i64 k) ∧ w' = w := by
  go_enter Try.func33, Try.ntmps33
  go_wp2
  go_loopw [1, 5] (fun c i wr => .int .i64 k = c ∧ i = .int .i64 0 ∧ w = wr) (fun _ _ _ => 0)
  case atStart => exact ⟨rfl, rfl, rfl⟩
  case round =>
    obtain ⟨rfl, rfl, rfl⟩ := hrel
    go_wp2
    go_ret
    exact ⟨rfl, rfl⟩
theorem hdG0 (k : Int) (w : World) : Calls Try.prog 34 #[.slice none 0 0, .int .i64 k] w fun e w' => e = .returned (.int .i64 k) ∧ w' = w := by
  go_enter Try.func34, Try.ntmps34
  go_wp2
  go_loopw [1, 5] (fun c i wr => .int .i64 k = c ∧ i = .int .i64 0 ∧ w = wr) (fun _ _ _ => 0)
  case atStart => exact ⟨rfl, rfl, rfl⟩
  case round =>
    obtain ⟨rfl, rfl, rfl⟩ := hrel
    go_wp2
    go_ret
    exact ⟨rfl, rfl⟩
theorem new_spec (w : World) : Calls Try.prog 9 #[] w fun e w' => e = .returned (.agg #[.bool true, .slice none 0 0, .slice none 0 0]) ∧ Below w.heap.size w w' := by
  go_enter Try.func9, Try.ntmps9
  go_wp2
  exact bodyPost_ret (v := .agg #[.bool true, .slice none 0 0, .slice none 0 0]) (by simp [results, Try.results9, go_sem]) rfl ⟨rfl, by repeat (first | exact Below.refl _ _ | refine bthen ?_ (by assumption) | refine Below.alloc ?_ (by simp <;> omega) _)⟩
theorem new_impl (w : World) : Calls Try.prog 10 #[] w fun e w' => e = .returned (.agg #[.bool true, .slice none 0 0, .slice none 0 0]) ∧ Below w.heap.size w w' := by
  go_enter Try.func10, Try.ntmps10
  go_wp2
  exact bodyPost_ret (v := .agg #[.bool true, .slice none 0 0, .slice none 0 0]) (by simp [results, Try.results10, go_sem]) rfl ⟨rfl, by repeat (first | exact Below.refl _ _ | refine bthen ?_ (by assumption) | refine Below.alloc ?_ (by simp <;> omega) _)⟩
theorem eqS0 (w : World) : Calls Try.prog 11 #[.agg #[.bool true, .slice none 0 0, .slice none 0 0], .agg #[.bool true, .slice none 0 0, .slice none 0 0]] w fun e w' => e = .returned (.bool true) ∧ Below w.heap.size w w' := by
  go_enter Try.func11, Try.ntmps11
  go_wp2_with (first | (go_at_call 29; refine (eqH0 _).mono ?_; rintro e w1 ⟨rfl, rfl⟩) | (go_at_call 30; refine (eqG0 _).mono ?_; rintro e w1 ⟨rfl, rfl⟩))
  go_ret
  exact ⟨rfl, by repeat (first | exact Below.refl _ _ | refine bthen ?_ (by assumption) | refine Below.alloc ?_ (by simp <;> omega) _)⟩
theorem mkS0 (k : Int) (w : World) : Calls Try.prog 12 #[.agg #[.bool true, .slice none 0 0, .slice none 0 0], .int .i64 k] w fun e w' => e = .returned (.int .i64 k) ∧ Below w.heap.size w w' := by
  go_enter Try.func12, Try.ntmps12
  go_wp2_with (first | (go_at_call 31; refine (mkH0 _ _).mono ?_; rintro e w1 ⟨rfl, rfl⟩) | (go_at_call 32; refine (mkG0 _ _).mono ?_; rintro e w1 ⟨rfl, rfl⟩))
  go_ret
  exact ⟨rfl, by repeat (first | exact Below.refl _ _ | refine bthen ?_ (by assumption) | refine Below.alloc ?_ (by simp <;> omega) _)⟩
theorem hdS0 (k : Int) (h : 0 ≤ k) (w : World) : Calls Try.prog 13 #[.agg #[.bool true, .slice none 0 0, .slice none 0 0], .int .i64 k] w fun e w' => e = .returned (.int .i64 k) ∧ Below w.heap.size w w' := by
  have hk : ¬ k < 0 := by omega
  go_enter Try.func13, Try.ntmps13
  go_wp2_with (first | (go_at_call 33; refine (hdH0 _ _).mono ?_; rintro e w1 ⟨rfl, rfl⟩) | (go_at_call 34; refine (hdG0 _ _).mono ?_; rintro e w1 ⟨rfl, rfl⟩))
  go_ret
  exact ⟨rfl, by repeat (first | exact Below.refl _ _ | refine bthen ?_ (by assumption) | refine Below.alloc ?_ (by simp <;> omega) _)⟩
set_option maxHeartbeats 1000000 in
theorem law_srvNew (w : World) : Calls Try.prog 4 #[] w fun e w' => e = .returned (.bool true) ∧ Below w.heap.size w w' := by
  go_enter Try.func4, Try.ntmps4
  have B1 : Hid (Below w.heap.size w w) := Below.refl _ _
  go_wp2_with fail
  refine (new_spec _).mono ?_
  rintro e w0 ⟨rfl, hb0⟩
  have B2 : Hid (Below w.heap.size w w0) := bthen B1.out hb0
  clear B1
  clear hb0
  go_wp2_with fail
  obtain ⟨v0, e0⟩ : ∃ v, v = w0.alloc (.cells #[.bool true, .slice none 0 0, .slice none 0 0] 50) := ⟨_, rfl⟩
  rw [← e0]
  have hv0 : Below w0.heap.size w0 v0 := by rw [e0]; exact (Below.refl _ _).alloc (Nat.le_refl _) _
  have hn0 : Bk v0 w0.heap.size [.bool true, .slice none 0 0, .slice none 0 0] := by rw [e0]; exact bk_new w0 50 [.bool true, .slice none 0 0, .slice none 0 0]
  clear e0
  have B3 : Hid (Below w.heap.size w v0) := bthen B2.out hv0
  clear B2
  have P4 : Hid (Bk v0 w0.heap.size [.bool true, .slice none 0 0, .slice none 0 0]) := hn0
  clear hv0 hn0
  have yP0 : v0.cell? ⟨w0.heap.size, 0, none⟩ = some (.bool true) := (P4.out.2 0 (by simp)).1
  have yP1 : v0.cell? ⟨w0.heap.size, 1, none⟩ = some (.slice none 0 0) := (P4.out.2 1 (by simp)).1
  have yP2 : v0.cell? ⟨w0.heap.size, 2, none⟩ = some (.slice none 0 0) := (P4.out.2 2 (by simp)).1
  have hlP : w0.heap.size < v0.heap.size := P4.out.1
  refine (new_impl _).mono ?_
  rintro e w1 ⟨rfl, hb1⟩
  clear yP0 yP1 yP2 hlP
  have B5 : Hid (Below w.heap.size w w1) := bthen B3.out hb1
  have P5 : Hid (Bk w1 w0.heap.size [.bool true, .slice none 0 0, .slice none 0 0]) := P4.out.below hb1
  clear B3 P4
  clear hb1
  have yP0 : w1.cell? ⟨w0.heap.size, 0, none⟩ = some (.bool true) := (P5.out.2 0 (by simp)).1
  have yP1 : w1.cell? ⟨w0.heap.size, 1, none⟩ = some (.slice none 0 0) := (P5.out.2 1 (by simp)).1
  have yP2 : w1.cell? ⟨w0.heap.size, 2, none⟩ = some (.slice none 0 0) := (P5.out.2 2 (by simp)).1
  have hlP : w0.heap.size < w1.heap.size := P5.out.1
  go_wp2_with fail
  obtain ⟨v1, e1⟩ : ∃ v, v = w1.alloc (.cells #[.bool true, .slice none 0 0, .slice none 0 0] 50) := ⟨_, rfl⟩
  rw [← e1]
  have hv1 : Below w1.heap.size w1 v1 := by rw [e1]; exact (Below.refl _ _).alloc (Nat.le_refl _) _
  have hn1 : Bk v1 w1.heap.size [.bool true, .slice none 0 0, .slice none 0 0] := by rw [e1]; exact bk_new w1 50 [.bool true, .slice none 0 0, .slice none 0 0]
  clear e1
  clear yP0 yP1 yP2 hlP
  have B6 : Hid (Below w.heap.size w v1) := bthen B5.out hv1
  have P6 : Hid (Bk v1 w0.heap.size [.bool true, .slice none 0 0, .slice none 0 0]) := P5.out.below hv1
  clear B5 P5
  have Q7 : Hid (Bk v1 w1.heap.size [.bool true, .slice none 0 0, .slice none 0 0]) := hn1
  clear hv1 hn1
  have yP0 : v1.cell? ⟨w0.heap.size, 0, none⟩ = some (.bool true) := (P6.out.2 0 (by simp)).1
  have yP1 : v1.cell? ⟨w0.heap.size, 1, none⟩ = some (.slice none 0 0) := (P6.out.2 1 (by simp)).1
  have yP2 : v1.cell? ⟨w0.heap.size, 2, none⟩ = some (.slice none 0 0) := (P6.out.2 2 (by simp)).1
  have hlP : w0.heap.size < v1.heap.size := P6.out.1
  have yQ0 : v1.cell? ⟨w1.heap.size, 0, none⟩ = some (.bool true) := (Q7.out.2 0 (by simp)).1
  have yQ1 : v1.cell? ⟨w1.heap.size, 1, none⟩ = some (.slice none 0 0) := (Q7.out.2 1 (by simp)).1
  have yQ2 : v1.cell? ⟨w1.heap.size, 2, none⟩ = some (.slice none 0 0) := (Q7.out.2 2 (by simp)).1
  have hlQ : w1.heap.size < v1.heap.size := Q7.out.1
  refine (eqS0 _).mono ?_
  rintro e w2 ⟨rfl, hb2⟩
  clear yP0 yP1 yP2 hlP yQ0 yQ1 yQ2 hlQ
  have B8 : Hid (Below w.heap.size w w2) := bthen B6.out hb2
  have P8 : Hid (Bk w2 w0.heap.size [.bool true, .slice none 0 0, .slice none 0 0]) := P6.out.below hb2
  have Q8 : Hid (Bk w2 w1.heap.size [.bool true, .slice none 0 0, .slice none 0 0]) := Q7.out.below hb2
  clear B6 P6 Q7
  clear hb2
  have yP0 : w2.cell? ⟨w0.heap.size, 0, none⟩ = some (.bool true) := (P8.out.2 0 (by simp)).1
  have yP1 : w2.cell? ⟨w0.heap.size, 1, none⟩ = some (.slice none 0 0) := (P8.out.2 1 (by simp)).1
  have yP2 : w2.cell? ⟨w0.heap.size, 2, none⟩ = some (.slice none 0 0) := (P8.out.2 2 (by simp)).1
  have hlP : w0.heap.size < w2.heap.size := P8.out.1
  have yQ0 : w2.cell? ⟨w1.heap.size, 0, none⟩ = some (.bool true) := (Q8.out.2 0 (by simp)).1
  have yQ1 : w2.cell? ⟨w1.heap.size, 1, none⟩ = some (.slice none 0 0) := (Q8.out.2 1 (by simp)).1
  have yQ2 : w2.cell? ⟨w1.heap.size, 2, none⟩ = some (.slice none 0 0) := (Q8.out.2 2 (by simp)).1
  have hlQ : w1.heap.size < w2.heap.size := Q8.out.1
  go_wp2_with fail
  refine (mkS0 _ _).mono ?_
  rintro e w3 ⟨rfl, hb3⟩
  clear yP0 yP1 yP2 hlP yQ0 yQ1 yQ2 hlQ
  have B9 : Hid (Below w.heap.size w w3) := bthen B8.out hb3
  have P9 : Hid (Bk w3 w0.heap.size [.bool true, .slice none 0 0, .slice none 0 0]) := P8.out.below hb3
  have Q9 : Hid (Bk w3 w1.heap.size [.bool true, .slice none 0 0, .slice none 0 0]) := Q8.out.below hb3
  clear B8 P8 Q8
  clear hb3
  have yP0 : w3.cell? ⟨w0.heap.size, 0, none⟩ = some (.bool true) := (P9.out.2 0 (by simp)).1
  have yP1 : w3.cell? ⟨w0.heap.size, 1, none⟩ = some (.slice none 0 0) := (P9.out.2 1 (by simp)).1
  have yP2 : w3.cell? ⟨w0.heap.size, 2, none⟩ = some (.slice none 0 0) := (P9.out.2 2 (by simp)).1
  have hlP : w0.heap.size < w3.heap.size := P9.out.1
  have yQ0 : w3.cell? ⟨w1.heap.size, 0, none⟩ = some (.bool true) := (Q9.out.2 0 (by simp)).1
  have yQ1 : w3.cell? ⟨w1.heap.size, 1, none⟩ = some (.slice none 0 0) := (Q9.out.2 1 (by simp)).1
  have yQ2 : w3.cell? ⟨w1.heap.size, 2, none⟩ = some (.slice none 0 0) := (Q9.out.2 2 (by simp)).1
  have hlQ : w1.heap.size < w3.heap.size := Q9.out.1
  go_wp2_with fail
  refine (hdS0 _ (by omega) _).mono ?_
  rintro e w4 ⟨rfl, hb4⟩
  clear yP0 yP1 yP2 hlP yQ0 yQ1 yQ2 hlQ
  have B10 : Hid (Below w.heap.size w w4) := bthen B9.out hb4
  have P10 : Hid (Bk w4 w0.heap.size [.bool true, .slice none 0 0, .slice none 0 0]) := P9.out.below hb4
  have Q10 : Hid (Bk w4 w1.heap.size [.bool true, .slice none 0 0, .slice none 0 0]) := Q9.out.below hb4
  clear B9 P9 Q9
  clear hb4
  have yP0 : w4.cell? ⟨w0.heap.size, 0, none⟩ = some (.bool true) := (P10.out.2 0 (by simp)).1
  have yP1 : w4.cell? ⟨w0.heap.size, 1, none⟩ = some (.slice none 0 0) := (P10.out.2 1 (by simp)).1
  have yP2 : w4.cell? ⟨w0.heap.size, 2, none⟩ = some (.slice none 0 0) := (P10.out.2 2 (by simp)).1
  have hlP : w0.heap.size < w4.heap.size := P10.out.1
  have yQ0 : w4.cell? ⟨w1.heap.size, 0, none⟩ = some (.bool true) := (Q10.out.2 0 (by simp)).1
  have yQ1 : w4.cell? ⟨w1.heap.size, 1, none⟩ = some (.slice none 0 0) := (Q10.out.2 1 (by simp)).1
  have yQ2 : w4.cell? ⟨w1.heap.size, 2, none⟩ = some (.slice none 0 0) := (Q10.out.2 2 (by simp)).1
  have hlQ : w1.heap.size < w4.heap.size := Q10.out.1
  go_wp2_with fail
  refine (new_impl _).mono ?_
  rintro e w5 ⟨rfl, hb5⟩
  clear yP0 yP1 yP2 hlP yQ0 yQ1 yQ2 hlQ
  have B11 : Hid (Below w.heap.size w w5) := bthen B10.out hb5
  have P11 : Hid (Bk w5 w0.heap.size [.bool true, .slice none 0 0, .slice none 0 0]) := P10.out.below hb5
  have Q11 : Hid (Bk w5 w1.heap.size [.bool true, .slice none 0 0, .slice none 0 0]) := Q10.out.below hb5
  clear B10 P10 Q10
  clear hb5
  have yP0 : w5.cell? ⟨w0.heap.size, 0, none⟩ = some (.bool true) := (P11.out.2 0 (by simp)).1
  have yP1 : w5.cell? ⟨w0.heap.size, 1, none⟩ = some (.slice none 0 0) := (P11.out.2 1 (by simp)).1
  have yP2 : w5.cell? ⟨w0.heap.size, 2, none⟩ = some (.slice none 0 0) := (P11.out.2 2 (by simp)).1
  have hlP : w0.heap.size < w5.heap.size := P11.out.1
  have yQ0 : w5.cell? ⟨w1.heap.size, 0, none⟩ = some (.bool true) := (Q11.out.2 0 (by simp)).1
  have yQ1 : w5.cell? ⟨w1.heap.size, 1, none⟩ = some (.slice none 0 0) := (Q11.out.2 1 (by simp)).1
  have yQ2 : w5.cell? ⟨w1.heap.size, 2, none⟩ = some (.slice none 0 0) := (Q11.out.2 2 (by simp)).1
  have hlQ : w1.heap.size < w5.heap.size := Q11.out.1
  go_wp2_with fail
  obtain ⟨v5, e5⟩ : ∃ v, v = w5.alloc (.cells #[.bool true, .slice none 0 0, .slice none 0 0] 50) := ⟨_, rfl⟩
  rw [← e5]
  have hv5 : Below w5.heap.size w5 v5 := by rw [e5]; exact (Below.refl _ _).alloc (Nat.le_refl _) _
  have hn5 : Bk v5 w5.heap.size [.bool true, .slice none 0 0, .slice none 0 0] := by rw [e5]; exact bk_new w5 50 [.bool true, .slice none 0 0, .slice none 0 0]
  clear e5
  clear yP0 yP1 yP2 hlP yQ0 yQ1 yQ2 hlQ
  have B12 : Hid (Below w.heap.size w v5) := bthen B11.out hv5
  have P12 : Hid (Bk v5 w0.heap.size [.bool true, .slice none 0 0, .slice none 0 0]) := P11.out.below hv5
  have Q12 : Hid (Bk v5 w1.heap.size [.bool true, .slice none 0 0, .slice none 0 0]) := Q11.out.below hv5
  clear B11 P11 Q11
  have R13 : Hid (Bk v5 w5.heap.size [.bool true, .slice none 0 0, .slice none 0 0]) := hn5
  clear hv5 hn5
  have yP0 : v5.cell? ⟨w0.heap.size, 0, none⟩ = some (.bool true) := (P12.out.2 0 (by simp)).1
  have yP1 : v5.cell? ⟨w0.heap.size, 1, none⟩ = some (.slice none 0 0) := (P12.out.2 1 (by simp)).1
  have yP2 : v5.cell? ⟨w0.heap.size, 2, none⟩ = some (.slice none 0 0) := (P12.out.2 2 (by simp)).1
  have hlP : w0.heap.size < v5.heap.size := P12.out.1
  have yQ0 : v5.cell? ⟨w1.heap.size, 0, none⟩ = some (.bool true) := (Q12.out.2 0 (by simp)).1
  have yQ1 : v5.cell? ⟨w1.heap.size, 1, none⟩ = some (.slice none 0 0) := (Q12.out.2 1 (by simp)).1
  have yQ2 : v5.cell? ⟨w1.heap.size, 2, none⟩ = some (.slice none 0 0) := (Q12.out.2 2 (by simp)).1
  have hlQ : w1.heap.size < v5.heap.size := Q12.out.1
  have yR0 : v5.cell? ⟨w5.heap.size, 0, none⟩ = some (.bool true) := (R13.out.2 0 (by simp)).1
  have yR1 : v5.cell? ⟨w5.heap.size, 1, none⟩ = some (.slice none 0 0) := (R13.out.2 1 (by simp)).1
  have yR2 : v5.cell? ⟨w5.heap.size, 2, none⟩ = some (.slice none 0 0) := (R13.out.2 2 (by simp)).1
  have hlR : w5.heap.size < v5.heap.size := R13.out.1
  refine (eqS0 _).mono ?_
  rintro e w6 ⟨rfl, hb6⟩
  clear yP0 yP1 yP2 hlP yQ0 yQ1 yQ2 hlQ yR0 yR1 yR2 hlR
  have B14 : Hid (Below w.heap.size w w6) := bthen B12.out hb6
  have P14 : Hid (Bk w6 w0.heap.size [.bool true, .slice none 0 0, .slice none 0 0]) := P12.out.below hb6
  have Q14 : Hid (Bk w6 w1.heap.size [.bool true, .slice none 0 0, .slice none 0 0]) := Q12.out.below hb6
  have R14 : Hid (Bk w6 w5.heap.size [.bool true, .slice none 0 0, .slice none 0 0]) := R13.out.below hb6
  clear B12 P12 Q12 R13
  clear hb6
  have yP0 : w6.cell? ⟨w0.heap.size, 0, none⟩ = some (.bool true) := (P14.out.2 0 (by simp)).1
  have yP1 : w6.cell? ⟨w0.heap.size, 1, none⟩ = some (.slice none 0 0) := (P14.out.2 1 (by simp)).1
  have yP2 : w6.cell? ⟨w0.heap.size, 2, none⟩ = some (.slice none 0 0) := (P14.out.2 2 (by simp)).1
  have hlP : w0.heap.size < w6.heap.size := P14.out.1
  have yQ0 : w6.cell? ⟨w1.heap.size, 0, none⟩ = some (.bool true) := (Q14.out.2 0 (by simp)).1
  have yQ1 : w6.cell? ⟨w1.heap.size, 1, none⟩ = some (.slice none 0 0) := (Q14.out.2 1 (by simp)).1
  have yQ2 : w6.cell? ⟨w1.heap.size, 2, none⟩ = some (.slice none 0 0) := (Q14.out.2 2 (by simp)).1
  have hlQ : w1.heap.size < w6.heap.size := Q14.out.1
  have yR0 : w6.cell? ⟨w5.heap.size, 0, none⟩ = some (.bool true) := (R14.out.2 0 (by simp)).1
  have yR1 : w6.cell? ⟨w5.heap.size, 1, none⟩ = some (.slice none 0 0) := (R14.out.2 1 (by simp)).1
  have yR2 : w6.cell? ⟨w5.heap.size, 2, none⟩ = some (.slice none 0 0) := (R14.out.2 2 (by simp)).1
  have hlR : w5.heap.size < w6.heap.size := R14.out.1
  go_wp2_with fail
  refine (hdS0 _ (by omega) _).mono ?_
  rintro e w7 ⟨rfl, hb7⟩
  clear yP0 yP1 yP2 hlP yQ0 yQ1 yQ2 hlQ yR0 yR1 yR2 hlR
  have B15 : Hid (Below w.heap.size w w7) := bthen B14.out hb7
  have P15 : Hid (Bk w7 w0.heap.size [.bool true, .slice none 0 0, .slice none 0 0]) := P14.out.below hb7
  have Q15 : Hid (Bk w7 w1.heap.size [.bool true, .slice none 0 0, .slice none 0 0]) := Q14.out.below hb7
  have R15 : Hid (Bk w7 w5.heap.size [.bool true, .slice none 0 0, .slice none 0 0]) := R14.out.below hb7
  clear B14 P14 Q14 R14
  clear hb7
  have yP0 : w7.cell? ⟨w0.heap.size, 0, none⟩ = some (.bool true) := (P15.out.2 0 (by simp)).1
  have yP1 : w7.cell? ⟨w0.heap.size, 1, none⟩ = some (.slice none 0 0) := (P15.out.2 1 (by simp)).1
  have yP2 : w7.cell? ⟨w0.heap.size, 2, none⟩ = some (.slice none 0 0) := (P15.out.2 2 (by simp)).1
  have hlP : w0.heap.size < w7.heap.size := P15.out.1
  have yQ0 : w7.cell? ⟨w1.heap.size, 0, none⟩ = some (.bool true) := (Q15.out.2 0 (by simp)).1
  have yQ1 : w7.cell? ⟨w1.heap.size, 1, none⟩ = some (.slice none 0 0) := (Q15.out.2 1 (by simp)).1
  have yQ2 : w7.cell? ⟨w1.heap.size, 2, none⟩ = some (.slice none 0 0) := (Q15.out.2 2 (by simp)).1
  have hlQ : w1.heap.size < w7.heap.size := Q15.out.1
  have yR0 : w7.cell? ⟨w5.heap.size, 0, none⟩ = some (.bool true) := (R15.out.2 0 (by simp)).1
  have yR1 : w7.cell? ⟨w5.heap.size, 1, none⟩ = some (.slice none 0 0) := (R15.out.2 1 (by simp)).1
  have yR2 : w7.cell? ⟨w5.heap.size, 2, none⟩ = some (.slice none 0 0) := (R15.out.2 2 (by simp)).1
  have hlR : w5.heap.size < w7.heap.size := R15.out.1
  go_wp2
  go_ret
  exact ⟨rfl, B15.out⟩
end Go.Proofs.Ytalncpmljliloaa
