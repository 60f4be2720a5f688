/- The law FnExactArbNew: it answers true; conditions: none. -/
import Derived.Test.YtjgnngiagmkfdaaArb6
namespace Go.Proofs.Ytjgnngiagmkfdaa
open Go.RowKit Go.Deep
set_option linter.unusedVariables false

theorem newT_short (c d : Int) : (newT c d).short 1048576 := by
  unfold newT
  split
  · rename_i h
    have := okB_in h
    exact ⟨by show c.toNat ≤ _; omega, by show c.toNat ≤ _; omega⟩
  · exact ⟨Nat.zero_le _, Nat.zero_le _⟩

set_option maxHeartbeats 4000000 in
theorem law_arbNew (c d : Int) (w : World) :
    Calls Try.prog 3 #[.agg #[.int .i64 c, .int .i64 d]] w fun e w' => e = .returned (.bool true) ∧ Below w.heap.size w w' := by
  obtain ⟨T, eT⟩ : ∃ T, newT c d = T := ⟨_, rfl⟩
  have hS : Hid (T.short 1048576) := by rw [← eT]; exact newT_short c d
  have ET : Hid (newT c d = T) := eT
  clear eT
  go_enter Try.func3, Try.ntmps3
  go_wp2_with fail
  obtain ⟨w0, e0⟩ : ∃ w0, w0 = w.alloc (.cells #[.int .i64 c, .int .i64 d] 23) := ⟨_, rfl⟩
  have B1 : Hid (Below w.heap.size w w0) := by rw [e0]; exact (Below.refl _ _).alloc (by simp) _
  have M2 : Hid (Bk w0 w.heap.size [.int .i64 c, .int .i64 d]) := by rw [e0]; exact bk_new w 23 [.int .i64 c, .int .i64 d]
  rw [← e0]
  have y0 : w.heap.size < w0.heap.size := M2.out.1
  clear e0
  refine (toMap _ _ _).mono ?_
  rintro e w1 ⟨rfl, hb⟩
  have y_w1 : w0.heap.size ≤ w1.heap.size := hb.size
  have B3 : Hid (Below w.heap.size w w1) := bthen B1.out hb
  have M3 : Hid (Bk w1 w.heap.size [.int .i64 c, .int .i64 d]) := M2.out.below hb
  clear B1 M2
  clear hb
  go_wp2_with fail
  refine (arbNew_spec c d _).mono ?_
  rintro e w2 ⟨⟨v1, rfl, hO⟩, hb⟩
  have y_w2 : w1.heap.size ≤ w2.heap.size := hb.size
  have B4 : Hid (Below w.heap.size w w2) := bthen B3.out hb
  have M4 : Hid (Bk w2 w.heap.size [.int .i64 c, .int .i64 d]) := M3.out.below hb
  clear B3 M3
  clear hb
  rw [ET.out] at hO
  obtain ⟨a1S, k1S, a1A, k1A, rfl, _, _⟩ := hO.at
  have yM0 : w2.cell? ⟨w.heap.size, 0, none⟩ = some (.int .i64 c) := (M4.out.2 0 (by simp)).1
  have yM1 : w2.cell? ⟨w.heap.size, 1, none⟩ = some (.int .i64 d) := (M4.out.2 1 (by simp)).1
  have hlM : w.heap.size < w2.heap.size := M4.out.1
  go_wp2_with fail
  obtain ⟨w3, e5⟩ : ∃ wq, wq = w2.alloc (.cells #[.slice a1S T.nS k1S, .slice a1A T.nA k1A] 26) := ⟨_, rfl⟩
  rw [← e5]
  have hb5 : Below w2.heap.size w2 w3 := by rw [e5]; exact (Below.refl _ _).alloc (Nat.le_refl _) _
  have X5 : Bk w3 w2.heap.size [.slice a1S T.nS k1S, .slice a1A T.nA k1A] := by rw [e5]; exact bk_new w2 26 [.slice a1S T.nS k1S, .slice a1A T.nA k1A]
  clear e5
  clear yM0 yM1 hlM
  have y_w3 : w2.heap.size ≤ w3.heap.size := hb5.size
  have B5 : Hid (Below w.heap.size w w3) := bthen B4.out hb5
  have M5 : Hid (Bk w3 w.heap.size [.int .i64 c, .int .i64 d]) := M4.out.below hb5
  clear B4 M4
  replace hO := hO.below hb5
  clear hb5
  have yb1 := X5.1
  obtain ⟨l1, el⟩ : ∃ l, l = w1.heap.size := ⟨_, rfl⟩
  obtain ⟨h1, eh⟩ : ∃ l, l = w2.heap.size := ⟨_, rfl⟩
  rw [← el, ← eh] at hO
  rw [← eh] at X5 ⊢
  have el11 : l1 ≤ w1.heap.size := by omega
  have el12 : w1.heap.size ≤ l1 := by omega
  have eh11 : h1 ≤ w2.heap.size := by omega
  have eh12 : w2.heap.size ≤ h1 := by omega
  clear el eh
  have O1_6 : Hid (OwnT l1 h1 w3 (.agg #[.slice a1S T.nS k1S, .slice a1A T.nA k1A]) T) := hO
  have G1_7 : Hid (Bk w3 h1 [.slice a1S T.nS k1S, .slice a1A T.nA k1A]) := X5
  clear hO X5
  have yM0 : w3.cell? ⟨w.heap.size, 0, none⟩ = some (.int .i64 c) := (M5.out.2 0 (by simp)).1
  have yM1 : w3.cell? ⟨w.heap.size, 1, none⟩ = some (.int .i64 d) := (M5.out.2 1 (by simp)).1
  have hlM : w.heap.size < w3.heap.size := M5.out.1
  go_wp2_with fail
  refine (toMap _ _ _).mono ?_
  rintro e w4 ⟨rfl, hb⟩
  clear yM0 yM1 hlM
  have y_w4 : w3.heap.size ≤ w4.heap.size := hb.size
  have B8 : Hid (Below w.heap.size w w4) := bthen B5.out hb
  have M8 : Hid (Bk w4 w.heap.size [.int .i64 c, .int .i64 d]) := M5.out.below hb
  have O1_8 : Hid (OwnT l1 h1 w4 (.agg #[.slice a1S T.nS k1S, .slice a1A T.nA k1A]) T) := O1_6.out.below hb
  have G1_8 : Hid (Bk w4 h1 [.slice a1S T.nS k1S, .slice a1A T.nA k1A]) := G1_7.out.below hb
  clear B5 M5 O1_6 G1_7
  clear hb
  go_wp2_with fail
  refine (arbNew_impl c d _).mono ?_
  rintro e w5 ⟨⟨v2, rfl, hO⟩, hb⟩
  have y_w5 : w4.heap.size ≤ w5.heap.size := hb.size
  have B9 : Hid (Below w.heap.size w w5) := bthen B8.out hb
  have M9 : Hid (Bk w5 w.heap.size [.int .i64 c, .int .i64 d]) := M8.out.below hb
  have O1_9 : Hid (OwnT l1 h1 w5 (.agg #[.slice a1S T.nS k1S, .slice a1A T.nA k1A]) T) := O1_8.out.below hb
  have G1_9 : Hid (Bk w5 h1 [.slice a1S T.nS k1S, .slice a1A T.nA k1A]) := G1_8.out.below hb
  clear B8 M8 O1_8 G1_8
  clear hb
  rw [ET.out] at hO
  obtain ⟨a2S, k2S, a2A, k2A, rfl, _, _⟩ := hO.at
  have yM0 : w5.cell? ⟨w.heap.size, 0, none⟩ = some (.int .i64 c) := (M9.out.2 0 (by simp)).1
  have yM1 : w5.cell? ⟨w.heap.size, 1, none⟩ = some (.int .i64 d) := (M9.out.2 1 (by simp)).1
  have hlM : w.heap.size < w5.heap.size := M9.out.1
  have yG1_0 : w5.cell? ⟨h1, 0, none⟩ = some (.slice a1S T.nS k1S) := (G1_9.out.2 0 (by simp)).1
  have yG1_1 : w5.cell? ⟨h1, 1, none⟩ = some (.slice a1A T.nA k1A) := (G1_9.out.2 1 (by simp)).1
  have hlG1_ : h1 < w5.heap.size := G1_9.out.1
  go_wp2_with fail
  obtain ⟨w6, e5⟩ : ∃ wq, wq = w5.alloc (.cells #[.slice a2S T.nS k2S, .slice a2A T.nA k2A] 26) := ⟨_, rfl⟩
  rw [← e5]
  have hb5 : Below w5.heap.size w5 w6 := by rw [e5]; exact (Below.refl _ _).alloc (Nat.le_refl _) _
  have X5 : Bk w6 w5.heap.size [.slice a2S T.nS k2S, .slice a2A T.nA k2A] := by rw [e5]; exact bk_new w5 26 [.slice a2S T.nS k2S, .slice a2A T.nA k2A]
  clear e5
  clear yM0 yM1 hlM yG1_0 yG1_1 hlG1_
  have y_w6 : w5.heap.size ≤ w6.heap.size := hb5.size
  have B10 : Hid (Below w.heap.size w w6) := bthen B9.out hb5
  have M10 : Hid (Bk w6 w.heap.size [.int .i64 c, .int .i64 d]) := M9.out.below hb5
  have O1_10 : Hid (OwnT l1 h1 w6 (.agg #[.slice a1S T.nS k1S, .slice a1A T.nA k1A]) T) := O1_9.out.below hb5
  have G1_10 : Hid (Bk w6 h1 [.slice a1S T.nS k1S, .slice a1A T.nA k1A]) := G1_9.out.below hb5
  clear B9 M9 O1_9 G1_9
  replace hO := hO.below hb5
  clear hb5
  have yb2 := X5.1
  obtain ⟨l2, el⟩ : ∃ l, l = w4.heap.size := ⟨_, rfl⟩
  obtain ⟨h2, eh⟩ : ∃ l, l = w5.heap.size := ⟨_, rfl⟩
  rw [← el, ← eh] at hO
  rw [← eh] at X5 ⊢
  have el21 : l2 ≤ w4.heap.size := by omega
  have el22 : w4.heap.size ≤ l2 := by omega
  have eh21 : h2 ≤ w5.heap.size := by omega
  have eh22 : w5.heap.size ≤ h2 := by omega
  clear el eh
  have O2_11 : Hid (OwnT l2 h2 w6 (.agg #[.slice a2S T.nS k2S, .slice a2A T.nA k2A]) T) := hO
  have G2_12 : Hid (Bk w6 h2 [.slice a2S T.nS k2S, .slice a2A T.nA k2A]) := X5
  clear hO X5
  refine (eqTab _ _ T (hS.out.more (by decide)) _ (O2_11.out.at) (O1_10.out.at)).mono ?_
  rintro e w7 ⟨rfl, hb⟩
  have y_w7 : w6.heap.size ≤ w7.heap.size := hb.size
  have B13 : Hid (Below w.heap.size w w7) := bthen B10.out hb
  have M13 : Hid (Bk w7 w.heap.size [.int .i64 c, .int .i64 d]) := M10.out.below hb
  have O1_13 : Hid (OwnT l1 h1 w7 (.agg #[.slice a1S T.nS k1S, .slice a1A T.nA k1A]) T) := O1_10.out.below hb
  have G1_13 : Hid (Bk w7 h1 [.slice a1S T.nS k1S, .slice a1A T.nA k1A]) := G1_10.out.below hb
  have O2_13 : Hid (OwnT l2 h2 w7 (.agg #[.slice a2S T.nS k2S, .slice a2A T.nA k2A]) T) := O2_11.out.below hb
  have G2_13 : Hid (Bk w7 h2 [.slice a2S T.nS k2S, .slice a2A T.nA k2A]) := G2_12.out.below hb
  clear B10 M10 O1_10 G1_10 O2_11 G2_12
  clear hb
  have yG2_0 : w7.cell? ⟨h2, 0, none⟩ = some (.slice a2S T.nS k2S) := (G2_13.out.2 0 (by simp)).1
  have yG2_1 : w7.cell? ⟨h2, 1, none⟩ = some (.slice a2A T.nA k2A) := (G2_13.out.2 1 (by simp)).1
  have hlG2_ : h2 < w7.heap.size := G2_13.out.1
  go_wp2_with fail
  clear yG2_0 yG2_1 hlG2_
  refine (markT l2 h2 _ T hS.out _ (by omega) (by omega) O2_13.out).mono ?_
  rintro e w8 ⟨rfl, hO, hz, hsm, hbl⟩
  have y_w8 : w7.heap.size ≤ w8.heap.size := hz
  have B14 : Hid (Below w.heap.size w w8) := B13.out.trans (hbl.mono (by omega))
  have M14 : Hid (Bk w8 w.heap.size [.int .i64 c, .int .i64 d]) := M13.out.sm hz (hsm (w.heap.size) (by omega) (by omega))
  have O1_14 : Hid (OwnT l1 h1 w8 (.agg #[.slice a1S T.nS k1S, .slice a1A T.nA k1A]) T) := O1_13.out.sm hz (fun b q1 q2 => hsm b (by omega) (by omega))
  have G1_14 : Hid (Bk w8 h1 [.slice a1S T.nS k1S, .slice a1A T.nA k1A]) := G1_13.out.sm hz (hsm (h1) (by omega) (by omega))
  have G2_14 : Hid (Bk w8 h2 [.slice a2S T.nS k2S, .slice a2A T.nA k2A]) := G2_13.out.sm hz (hsm (h2) (by omega) (by omega))
  clear B13 M13 O1_13 G1_13 G2_13
  have O2_15 : Hid (OwnT l2 h2 w8 (.agg #[.slice a2S T.nS k2S, .slice a2A T.nA k2A]) T.marked) := hO
  clear hO hz hsm hbl O2_13
  have yG2_0 : w8.cell? ⟨h2, 0, none⟩ = some (.slice a2S T.nS k2S) := (G2_14.out.2 0 (by simp)).1
  have yG2_1 : w8.cell? ⟨h2, 1, none⟩ = some (.slice a2A T.nA k2A) := (G2_14.out.2 1 (by simp)).1
  have hlG2_ : h2 < w8.heap.size := G2_14.out.1
  have nn : ¬ ((1 + T.nS + T.nA : Nat) : Int) < 0 := by omega
  go_wp2_with fail
  refine (heldT l2 h2 _ T hS.out _ (by omega) O2_15.out).mono ?_
  rintro e w9 ⟨rfl, hb⟩
  clear yG2_0 yG2_1 hlG2_
  have y_w9 : w8.heap.size ≤ w9.heap.size := hb.size
  have B16 : Hid (Below w.heap.size w w9) := bthen B14.out hb
  have M16 : Hid (Bk w9 w.heap.size [.int .i64 c, .int .i64 d]) := M14.out.below hb
  have O1_16 : Hid (OwnT l1 h1 w9 (.agg #[.slice a1S T.nS k1S, .slice a1A T.nA k1A]) T) := O1_14.out.below hb
  have G1_16 : Hid (Bk w9 h1 [.slice a1S T.nS k1S, .slice a1A T.nA k1A]) := G1_14.out.below hb
  have G2_16 : Hid (Bk w9 h2 [.slice a2S T.nS k2S, .slice a2A T.nA k2A]) := G2_14.out.below hb
  have O2_16 : Hid (OwnT l2 h2 w9 (.agg #[.slice a2S T.nS k2S, .slice a2A T.nA k2A]) T.marked) := O2_15.out.below hb
  clear B14 M14 O1_14 G1_14 G2_14 O2_15
  clear hb
  have yM0 : w9.cell? ⟨w.heap.size, 0, none⟩ = some (.int .i64 c) := (M16.out.2 0 (by simp)).1
  have yM1 : w9.cell? ⟨w.heap.size, 1, none⟩ = some (.int .i64 d) := (M16.out.2 1 (by simp)).1
  have hlM : w.heap.size < w9.heap.size := M16.out.1
  go_wp2_with fail
  refine (toMap _ _ _).mono ?_
  rintro e w10 ⟨rfl, hb⟩
  clear yM0 yM1 hlM
  have y_w10 : w9.heap.size ≤ w10.heap.size := hb.size
  have B17 : Hid (Below w.heap.size w w10) := bthen B16.out hb
  have M17 : Hid (Bk w10 w.heap.size [.int .i64 c, .int .i64 d]) := M16.out.below hb
  have O1_17 : Hid (OwnT l1 h1 w10 (.agg #[.slice a1S T.nS k1S, .slice a1A T.nA k1A]) T) := O1_16.out.below hb
  have G1_17 : Hid (Bk w10 h1 [.slice a1S T.nS k1S, .slice a1A T.nA k1A]) := G1_16.out.below hb
  have G2_17 : Hid (Bk w10 h2 [.slice a2S T.nS k2S, .slice a2A T.nA k2A]) := G2_16.out.below hb
  have O2_17 : Hid (OwnT l2 h2 w10 (.agg #[.slice a2S T.nS k2S, .slice a2A T.nA k2A]) T.marked) := O2_16.out.below hb
  clear B16 M16 O1_16 G1_16 G2_16 O2_16
  clear hb
  go_wp2_with fail
  refine (arbNew_impl c d _).mono ?_
  rintro e w11 ⟨⟨v3, rfl, hO⟩, hb⟩
  have y_w11 : w10.heap.size ≤ w11.heap.size := hb.size
  have B18 : Hid (Below w.heap.size w w11) := bthen B17.out hb
  have M18 : Hid (Bk w11 w.heap.size [.int .i64 c, .int .i64 d]) := M17.out.below hb
  have O1_18 : Hid (OwnT l1 h1 w11 (.agg #[.slice a1S T.nS k1S, .slice a1A T.nA k1A]) T) := O1_17.out.below hb
  have G1_18 : Hid (Bk w11 h1 [.slice a1S T.nS k1S, .slice a1A T.nA k1A]) := G1_17.out.below hb
  have G2_18 : Hid (Bk w11 h2 [.slice a2S T.nS k2S, .slice a2A T.nA k2A]) := G2_17.out.below hb
  have O2_18 : Hid (OwnT l2 h2 w11 (.agg #[.slice a2S T.nS k2S, .slice a2A T.nA k2A]) T.marked) := O2_17.out.below hb
  clear B17 M17 O1_17 G1_17 G2_17 O2_17
  clear hb
  rw [ET.out] at hO
  obtain ⟨a3S, k3S, a3A, k3A, rfl, _, _⟩ := hO.at
  have yM0 : w11.cell? ⟨w.heap.size, 0, none⟩ = some (.int .i64 c) := (M18.out.2 0 (by simp)).1
  have yM1 : w11.cell? ⟨w.heap.size, 1, none⟩ = some (.int .i64 d) := (M18.out.2 1 (by simp)).1
  have hlM : w.heap.size < w11.heap.size := M18.out.1
  have yG1_0 : w11.cell? ⟨h1, 0, none⟩ = some (.slice a1S T.nS k1S) := (G1_18.out.2 0 (by simp)).1
  have yG1_1 : w11.cell? ⟨h1, 1, none⟩ = some (.slice a1A T.nA k1A) := (G1_18.out.2 1 (by simp)).1
  have hlG1_ : h1 < w11.heap.size := G1_18.out.1
  have yG2_0 : w11.cell? ⟨h2, 0, none⟩ = some (.slice a2S T.nS k2S) := (G2_18.out.2 0 (by simp)).1
  have yG2_1 : w11.cell? ⟨h2, 1, none⟩ = some (.slice a2A T.nA k2A) := (G2_18.out.2 1 (by simp)).1
  have hlG2_ : h2 < w11.heap.size := G2_18.out.1
  go_wp2_with fail
  obtain ⟨w12, e5⟩ : ∃ wq, wq = w11.alloc (.cells #[.slice a3S T.nS k3S, .slice a3A T.nA k3A] 26) := ⟨_, rfl⟩
  rw [← e5]
  have hb5 : Below w11.heap.size w11 w12 := by rw [e5]; exact (Below.refl _ _).alloc (Nat.le_refl _) _
  have X5 : Bk w12 w11.heap.size [.slice a3S T.nS k3S, .slice a3A T.nA k3A] := by rw [e5]; exact bk_new w11 26 [.slice a3S T.nS k3S, .slice a3A T.nA k3A]
  clear e5
  clear yM0 yM1 hlM yG1_0 yG1_1 hlG1_ yG2_0 yG2_1 hlG2_
  have y_w12 : w11.heap.size ≤ w12.heap.size := hb5.size
  have B19 : Hid (Below w.heap.size w w12) := bthen B18.out hb5
  have M19 : Hid (Bk w12 w.heap.size [.int .i64 c, .int .i64 d]) := M18.out.below hb5
  have O1_19 : Hid (OwnT l1 h1 w12 (.agg #[.slice a1S T.nS k1S, .slice a1A T.nA k1A]) T) := O1_18.out.below hb5
  have G1_19 : Hid (Bk w12 h1 [.slice a1S T.nS k1S, .slice a1A T.nA k1A]) := G1_18.out.below hb5
  have G2_19 : Hid (Bk w12 h2 [.slice a2S T.nS k2S, .slice a2A T.nA k2A]) := G2_18.out.below hb5
  have O2_19 : Hid (OwnT l2 h2 w12 (.agg #[.slice a2S T.nS k2S, .slice a2A T.nA k2A]) T.marked) := O2_18.out.below hb5
  clear B18 M18 O1_18 G1_18 G2_18 O2_18
  replace hO := hO.below hb5
  clear hb5
  have yb3 := X5.1
  obtain ⟨l3, el⟩ : ∃ l, l = w10.heap.size := ⟨_, rfl⟩
  obtain ⟨h3, eh⟩ : ∃ l, l = w11.heap.size := ⟨_, rfl⟩
  rw [← el, ← eh] at hO
  rw [← eh] at X5 ⊢
  have el31 : l3 ≤ w10.heap.size := by omega
  have el32 : w10.heap.size ≤ l3 := by omega
  have eh31 : h3 ≤ w11.heap.size := by omega
  have eh32 : w11.heap.size ≤ h3 := by omega
  clear el eh
  have O3_20 : Hid (OwnT l3 h3 w12 (.agg #[.slice a3S T.nS k3S, .slice a3A T.nA k3A]) T) := hO
  have G3_21 : Hid (Bk w12 h3 [.slice a3S T.nS k3S, .slice a3A T.nA k3A]) := X5
  clear hO X5
  refine (eqTab _ _ T (hS.out.more (by decide)) _ (O3_20.out.at) (O1_19.out.at)).mono ?_
  rintro e w13 ⟨rfl, hb⟩
  have y_w13 : w12.heap.size ≤ w13.heap.size := hb.size
  have B22 : Hid (Below w.heap.size w w13) := bthen B19.out hb
  have M22 : Hid (Bk w13 w.heap.size [.int .i64 c, .int .i64 d]) := M19.out.below hb
  have O1_22 : Hid (OwnT l1 h1 w13 (.agg #[.slice a1S T.nS k1S, .slice a1A T.nA k1A]) T) := O1_19.out.below hb
  have G1_22 : Hid (Bk w13 h1 [.slice a1S T.nS k1S, .slice a1A T.nA k1A]) := G1_19.out.below hb
  have G2_22 : Hid (Bk w13 h2 [.slice a2S T.nS k2S, .slice a2A T.nA k2A]) := G2_19.out.below hb
  have O2_22 : Hid (OwnT l2 h2 w13 (.agg #[.slice a2S T.nS k2S, .slice a2A T.nA k2A]) T.marked) := O2_19.out.below hb
  have O3_22 : Hid (OwnT l3 h3 w13 (.agg #[.slice a3S T.nS k3S, .slice a3A T.nA k3A]) T) := O3_20.out.below hb
  have G3_22 : Hid (Bk w13 h3 [.slice a3S T.nS k3S, .slice a3A T.nA k3A]) := G3_21.out.below hb
  clear B19 M19 O1_19 G1_19 G2_19 O2_19 O3_20 G3_21
  clear hb
  have yG2_0 : w13.cell? ⟨h2, 0, none⟩ = some (.slice a2S T.nS k2S) := (G2_22.out.2 0 (by simp)).1
  have yG2_1 : w13.cell? ⟨h2, 1, none⟩ = some (.slice a2A T.nA k2A) := (G2_22.out.2 1 (by simp)).1
  have hlG2_ : h2 < w13.heap.size := G2_22.out.1
  go_wp2_with fail
  refine (heldT l2 h2 _ T hS.out _ (by omega) O2_22.out).mono ?_
  rintro e w14 ⟨rfl, hb⟩
  clear yG2_0 yG2_1 hlG2_
  have y_w14 : w13.heap.size ≤ w14.heap.size := hb.size
  have B23 : Hid (Below w.heap.size w w14) := bthen B22.out hb
  have M23 : Hid (Bk w14 w.heap.size [.int .i64 c, .int .i64 d]) := M22.out.below hb
  have O1_23 : Hid (OwnT l1 h1 w14 (.agg #[.slice a1S T.nS k1S, .slice a1A T.nA k1A]) T) := O1_22.out.below hb
  have G1_23 : Hid (Bk w14 h1 [.slice a1S T.nS k1S, .slice a1A T.nA k1A]) := G1_22.out.below hb
  have G2_23 : Hid (Bk w14 h2 [.slice a2S T.nS k2S, .slice a2A T.nA k2A]) := G2_22.out.below hb
  have O2_23 : Hid (OwnT l2 h2 w14 (.agg #[.slice a2S T.nS k2S, .slice a2A T.nA k2A]) T.marked) := O2_22.out.below hb
  have O3_23 : Hid (OwnT l3 h3 w14 (.agg #[.slice a3S T.nS k3S, .slice a3A T.nA k3A]) T) := O3_22.out.below hb
  have G3_23 : Hid (Bk w14 h3 [.slice a3S T.nS k3S, .slice a3A T.nA k3A]) := G3_22.out.below hb
  clear B22 M22 O1_22 G1_22 G2_22 O2_22 O3_22 G3_22
  clear hb
  go_wp2
  go_ret
  exact ⟨rfl, B23.out⟩
end Go.Proofs.Ytjgnngiagmkfdaa
