/- ArbOk, of the program and of the model; conditions: the table lies in memory. -/
import Derived.Test.YtodmfbbicdbjdaaArb2
namespace Go.Proofs.Ytodmfbbicdbjdaa
open Go.RowKit Go.Deep
set_option linter.unusedVariables false

theorem rowsB_false {T : TV} {n : Int} {k : Nat} (hk : k < T.nS) (h : rowB (T.S k) (T.A k) n = false) : rowsB T n = false :=
  decide_eq_false (fun g => by have := g k hk; rw [h] at this; cases this)
theorem rowsB_true {T : TV} {n : Int} (h : ∀ j, j < T.nS → rowB (T.S j) (T.A j) n = true) : rowsB T n = true := decide_eq_true h

set_option maxHeartbeats 1000000 in
theorem arbOk_impl (c d : Int) (v : Value) (T : TV) (n : Int) (hs : T.short 1048576) (w : World) (h : TabAt w v T) :
    Calls Try.prog 8 #[.agg #[.int .i64 c, .int .i64 d], v, .int .i64 n] w fun e w' => e = .returned (.bool (tabB c d T n)) ∧ Below w.heap.size w w' := by
  obtain ⟨aS, kS, aA, kA, rfl, rS, rA⟩ := h
  obtain ⟨s1, s2⟩ := hs
  have H0 : Hid (TabAt w (.agg #[.slice aS T.nS kS, .slice aA T.nA kA]) T) := ⟨aS, kS, aA, kA, rfl, rS, rA⟩
  have HS : Hid (Row1 w aS T.nS T.S) := rS
  have HA : Hid (Row1 w aA T.nA T.A) := rA
  clear rS rA
  cases h1 : okB c d
  · have hv : tabB c d T n = false := by simp [tabB, h1]
    rw [hv]
    go_enter Try.func8, Try.ntmps8
    go_wp2_with fail
    refine (ok_impl c d _).mono ?_
    rintro e w1 ⟨rfl, hb1⟩
    rw [h1]
    go_wp2
    go_ret
    exact ⟨rfl, bthen (((Below.refl _ _).alloc (by simp) _).alloc (by simp) _) hb1⟩
  have hc := okB_in h1
  cases h2 : inB n 1 3
  · have hv : tabB c d T n = false := by simp [tabB, h2]
    rw [hv]
    go_enter Try.func8, Try.ntmps8
    go_wp2_with fail
    refine (ok_impl c d _).mono ?_
    rintro e w1 ⟨rfl, hb1⟩
    rw [h1]
    go_wp2_with (go_at_call 22; refine (in_impl _ _ _ _).mono ?_; rintro e w1 ⟨rfl, rfl⟩; rw [h2])
    go_ret
    exact ⟨rfl, bthen (((Below.refl _ _).alloc (by simp) _).alloc (by simp) _) hb1⟩
  have hn : 1 ≤ n ∧ n ≤ 3 := by simpa [inB] using h2
  go_enter Try.func8, Try.ntmps8
  go_wp2_with fail
  obtain ⟨w0, e0⟩ : ∃ w0, w0 = (w.alloc (.cells #[.int .i64 c, .int .i64 d] 24)).alloc (.cells #[.slice aS T.nS kS, .slice aA T.nA kA] 27) := ⟨_, rfl⟩
  have B0 : Hid (Below w.heap.size w w0) := by rw [e0]; exact ((Below.refl _ _).alloc (by simp) _).alloc (by simp) _
  have M0 : Hid (Bk w0 w.heap.size [.int .i64 c, .int .i64 d]) := by rw [e0]; exact (bk_new w 24 [.int .i64 c, .int .i64 d]).below ((Below.refl _ _).alloc (Nat.le_refl _) _)
  have A0 : Hid (Bk w0 (w.heap.size + 1) [.slice aS T.nS kS, .slice aA T.nA kA]) := by rw [e0]; have := bk_new (w.alloc (.cells #[.int .i64 c, .int .i64 d] 24)) 27 [.slice aS T.nS kS, .slice aA T.nA kA]; rwa [show (w.alloc (.cells #[.int .i64 c, .int .i64 d] 24)).heap.size = w.heap.size + 1 by simp] at this
  rw [← e0]
  clear e0
  refine (ok_impl c d _).mono ?_
  rintro e w1 ⟨rfl, hb1⟩
  have B1 : Hid (Below w.heap.size w w1) := bthen B0.out hb1
  have M1' : Hid (Bk w1 w.heap.size [.int .i64 c, .int .i64 d]) := M0.out.below hb1
  have A1' : Hid (Bk w1 (w.heap.size + 1) [.slice aS T.nS kS, .slice aA T.nA kA]) := A0.out.below hb1
  clear hb1 B0 M0 A0
  have m0 : w1.cell? ⟨w.heap.size, 0, none⟩ = some (.int .i64 c) := (M1'.out.2 0 (by simp)).1
  have m1 : w1.cell? ⟨w.heap.size, 1, none⟩ = some (.int .i64 d) := (M1'.out.2 1 (by simp)).1
  have a0 : w1.cell? ⟨w.heap.size + 1, 0, none⟩ = some (.slice aS T.nS kS) := (A1'.out.2 0 (by simp)).1
  have a1 : w1.cell? ⟨w.heap.size + 1, 1, none⟩ = some (.slice aA T.nA kA) := (A1'.out.2 1 (by simp)).1
  rw [h1]
  by_cases h3 : (T.nS : Int) = c
  · by_cases h4 : (T.nA : Int) = c
    · have hv : tabB c d T n = rowsB T n := by simp [tabB, h1, h2, sizB, h3, h4]
      have HV : Hid (tabB c d T n = rowsB T n) := hv
      have h3' : ((T.nS : Int) != c) = false := by simp [h3]
      have h4' : ((T.nA : Int) != c) = false := by simp [h4]
      have hA1 : T.nA ≤ T.nS := by omega
      have hA2 : T.nS ≤ T.nA := by omega
      clear hv
      have H3 : Hid ((T.nS : Int) = c) := h3
      have H4 : Hid ((T.nA : Int) = c) := h4
      clear h3 h4
      go_wp2_with (go_at_call 22; refine (in_impl _ _ _ _).mono ?_; rintro e w1 ⟨rfl, rfl⟩; rw [h2])
      clear h3' h4' m0 m1 a0 a1
      go_loopw [34] (fun i wr => ∃ k : Nat, k ≤ T.nS ∧ i = .int .i64 k ∧ (∀ j, j < k → rowB (T.S j) (T.A j) n = true) ∧ Below w1.heap.size w1 wr) (fun i _ => T.nS - (intOf i).toNat)
      case atStart => exact ⟨0, Nat.zero_le _, rfl, fun _ h => absurd h (by omega), by repeat (first | exact Below.refl _ _ | apply Below.drew | apply bdrewN)⟩
      case round =>
        obtain ⟨k, hk, rfl, hall, hbel⟩ := hrel
        have HL : Hid (∀ j, j < k → rowB (T.S j) (T.A j) n = true) := hall
        clear hall
        have BW : Hid (Below w.heap.size w wr) := bthen B1.out hbel
        have m0 : wr.cell? ⟨w.heap.size, 0, none⟩ = some (.int .i64 c) := ((M1'.out.below hbel).2 0 (by simp)).1
        have a0 : wr.cell? ⟨w.heap.size + 1, 0, none⟩ = some (.slice aS T.nS kS) := ((A1'.out.below hbel).2 0 (by simp)).1
        have a1 : wr.cell? ⟨w.heap.size + 1, 1, none⟩ = some (.slice aA T.nA kA) := ((A1'.out.below hbel).2 1 (by simp)).1
        have ly : w.heap.size + 1 < wr.heap.size := (A1'.out.below hbel).1
        by_cases hkn : k < T.nS
        · have hkn' : (k : Int) < c := by have := H3.out; omega
          cases hr : rowB (T.S k) (T.A k) n
          · go_wp2_with fail
            refine (rowOk_impl _ T k n hn hkn (by omega) ⟨s1, s2⟩ _ (H0.out.below BW.out)).mono ?_
            rintro e w2 ⟨rfl, hb2⟩
            rw [hr]
            go_wp2
            go_ret
            exact ⟨by rw [HV.out, rowsB_false hkn hr] <;> rfl, bthen BW.out hb2⟩
          · go_wp2_with fail
            refine (rowOk_impl _ T k n hn hkn (by omega) ⟨s1, s2⟩ _ (H0.out.below BW.out)).mono ?_
            rintro e w2 ⟨rfl, hb2⟩
            rw [hr]
            go_wp2
            go_roundw
            case rel => exact ⟨k + 1, by omega, by go_num, fun j hj => by
              by_cases hjk : j = k
              · subst hjk; exact hr
              · exact HL.out j (by omega), bthen hbel hb2⟩
            case measure => simp [intOf]; omega
        · have hkk : k = T.nS := by omega
          subst hkk
          have hcc : ¬ (T.nS : Int) < c := by have := H3.out; omega
          go_wp2
          go_ret
          exact ⟨by rw [HV.out, rowsB_true HL.out] <;> rfl, BW.out⟩
    · have hv : tabB c d T n = false := by simp [tabB, sizB, h4]
      have HV : Hid (tabB c d T n = false) := hv
      clear hv
      have h3' : ((T.nS : Int) != c) = false := by simp [h3]
      have h4' : ((T.nA : Int) != c) = true := by simp [h4]
      clear h3 h4
      go_wp2_with (go_at_call 22; refine (in_impl _ _ _ _).mono ?_; rintro e w1 ⟨rfl, rfl⟩; rw [h2])
      go_ret
      exact ⟨by rw [HV.out] <;> rfl, B1.out⟩
  · have hv : tabB c d T n = false := by simp [tabB, sizB, h3]
    have HV : Hid (tabB c d T n = false) := hv
    clear hv
    have h3' : ((T.nS : Int) != c) = true := by simp [h3]
    clear h3
    go_wp2_with (go_at_call 22; refine (in_impl _ _ _ _).mono ?_; rintro e w1 ⟨rfl, rfl⟩; rw [h2])
    go_ret
    exact ⟨by rw [HV.out] <;> rfl, B1.out⟩

set_option maxHeartbeats 1000000 in
theorem arbOk_spec (c d : Int) (v : Value) (T : TV) (n : Int) (hs : T.short 1048576) (w : World) (h : TabAt w v T) :
    Calls Try.prog 9 #[.agg #[.int .i64 c, .int .i64 d], v, .int .i64 n] w fun e w' => e = .returned (.bool (tabB c d T n)) ∧ Below w.heap.size w w' := by
  obtain ⟨aS, kS, aA, kA, rfl, rS, rA⟩ := h
  obtain ⟨s1, s2⟩ := hs
  have H0 : Hid (TabAt w (.agg #[.slice aS T.nS kS, .slice aA T.nA kA]) T) := ⟨aS, kS, aA, kA, rfl, rS, rA⟩
  have HS : Hid (Row1 w aS T.nS T.S) := rS
  have HA : Hid (Row1 w aA T.nA T.A) := rA
  clear rS rA
  cases h1 : okB c d
  · have hv : tabB c d T n = false := by simp [tabB, h1]
    rw [hv]
    go_enter Try.func9, Try.ntmps9
    go_wp2_with fail
    refine (ok_spec c d _).mono ?_
    rintro e w1 ⟨rfl, hb1⟩
    rw [h1]
    go_wp2
    go_ret
    exact ⟨rfl, bthen (((Below.refl _ _).alloc (by simp) _).alloc (by simp) _) hb1⟩
  have hc := okB_in h1
  cases h2 : inB n 1 3
  · have hv : tabB c d T n = false := by simp [tabB, h2]
    rw [hv]
    go_enter Try.func9, Try.ntmps9
    go_wp2_with fail
    refine (ok_spec c d _).mono ?_
    rintro e w1 ⟨rfl, hb1⟩
    rw [h1]
    go_wp2_with (go_at_call 20; refine (in_spec _ _ _ _).mono ?_; rintro e w1 ⟨rfl, rfl⟩; rw [h2])
    go_ret
    exact ⟨rfl, bthen (((Below.refl _ _).alloc (by simp) _).alloc (by simp) _) hb1⟩
  have hn : 1 ≤ n ∧ n ≤ 3 := by simpa [inB] using h2
  go_enter Try.func9, Try.ntmps9
  go_wp2_with fail
  obtain ⟨w0, e0⟩ : ∃ w0, w0 = (w.alloc (.cells #[.int .i64 c, .int .i64 d] 24)).alloc (.cells #[.slice aS T.nS kS, .slice aA T.nA kA] 27) := ⟨_, rfl⟩
  have B0 : Hid (Below w.heap.size w w0) := by rw [e0]; exact ((Below.refl _ _).alloc (by simp) _).alloc (by simp) _
  have M0 : Hid (Bk w0 w.heap.size [.int .i64 c, .int .i64 d]) := by rw [e0]; exact (bk_new w 24 [.int .i64 c, .int .i64 d]).below ((Below.refl _ _).alloc (Nat.le_refl _) _)
  have A0 : Hid (Bk w0 (w.heap.size + 1) [.slice aS T.nS kS, .slice aA T.nA kA]) := by rw [e0]; have := bk_new (w.alloc (.cells #[.int .i64 c, .int .i64 d] 24)) 27 [.slice aS T.nS kS, .slice aA T.nA kA]; rwa [show (w.alloc (.cells #[.int .i64 c, .int .i64 d] 24)).heap.size = w.heap.size + 1 by simp] at this
  rw [← e0]
  clear e0
  refine (ok_spec c d _).mono ?_
  rintro e w1 ⟨rfl, hb1⟩
  have B1 : Hid (Below w.heap.size w w1) := bthen B0.out hb1
  have M1' : Hid (Bk w1 w.heap.size [.int .i64 c, .int .i64 d]) := M0.out.below hb1
  have A1' : Hid (Bk w1 (w.heap.size + 1) [.slice aS T.nS kS, .slice aA T.nA kA]) := A0.out.below hb1
  clear hb1 B0 M0 A0
  have m0 : w1.cell? ⟨w.heap.size, 0, none⟩ = some (.int .i64 c) := (M1'.out.2 0 (by simp)).1
  have m1 : w1.cell? ⟨w.heap.size, 1, none⟩ = some (.int .i64 d) := (M1'.out.2 1 (by simp)).1
  have a0 : w1.cell? ⟨w.heap.size + 1, 0, none⟩ = some (.slice aS T.nS kS) := (A1'.out.2 0 (by simp)).1
  have a1 : w1.cell? ⟨w.heap.size + 1, 1, none⟩ = some (.slice aA T.nA kA) := (A1'.out.2 1 (by simp)).1
  rw [h1]
  by_cases h3 : (T.nS : Int) = c
  · by_cases h4 : (T.nA : Int) = c
    · have hv : tabB c d T n = rowsB T n := by simp [tabB, h1, h2, sizB, h3, h4]
      have HV : Hid (tabB c d T n = rowsB T n) := hv
      have h3' : ((T.nS : Int) != c) = false := by simp [h3]
      have h4' : ((T.nA : Int) != c) = false := by simp [h4]
      have hA1 : T.nA ≤ T.nS := by omega
      have hA2 : T.nS ≤ T.nA := by omega
      clear hv
      have H3 : Hid ((T.nS : Int) = c) := h3
      have H4 : Hid ((T.nA : Int) = c) := h4
      clear h3 h4
      go_wp2_with (go_at_call 20; refine (in_spec _ _ _ _).mono ?_; rintro e w1 ⟨rfl, rfl⟩; rw [h2])
      clear h3' h4' m0 m1 a0 a1
      go_loopw [7] (fun i wr => ∃ k : Nat, k ≤ T.nS ∧ i = .int .i64 k ∧ (∀ j, j < k → rowB (T.S j) (T.A j) n = true) ∧ Below w1.heap.size w1 wr) (fun i _ => T.nS - (intOf i).toNat)
      case atStart => exact ⟨0, Nat.zero_le _, rfl, fun _ h => absurd h (by omega), by repeat (first | exact Below.refl _ _ | apply Below.drew | apply bdrewN)⟩
      case round =>
        obtain ⟨k, hk, rfl, hall, hbel⟩ := hrel
        have HL : Hid (∀ j, j < k → rowB (T.S j) (T.A j) n = true) := hall
        clear hall
        have BW : Hid (Below w.heap.size w wr) := bthen B1.out hbel
        have m0 : wr.cell? ⟨w.heap.size, 0, none⟩ = some (.int .i64 c) := ((M1'.out.below hbel).2 0 (by simp)).1
        have a0 : wr.cell? ⟨w.heap.size + 1, 0, none⟩ = some (.slice aS T.nS kS) := ((A1'.out.below hbel).2 0 (by simp)).1
        have a1 : wr.cell? ⟨w.heap.size + 1, 1, none⟩ = some (.slice aA T.nA kA) := ((A1'.out.below hbel).2 1 (by simp)).1
        have ly : w.heap.size + 1 < wr.heap.size := (A1'.out.below hbel).1
        by_cases hkn : k < T.nS
        · have hkn' : (k : Int) < c := by have := H3.out; omega
          have hkA : k < T.nA := by omega
          have hkS' : (k : Int) < T.nS := by omega
          have hkA' : (k : Int) < T.nA := by omega
          obtain ⟨b, o, rfl, hb, hc1⟩ := row_at HS.out BW.out hkn
          obtain ⟨b', o', rfl, hb', hc2⟩ := row_at HA.out BW.out hkA
          obtain ⟨s, es⟩ : ∃ s, s = T.S k := ⟨_, rfl⟩
          obtain ⟨a, ea⟩ : ∃ a, a = T.A k := ⟨_, rfl⟩
          rw [← es] at hc1
          rw [← ea] at hc2
          cases g1 : inB s (-1) (n - 1)
          · have hr : rowB (T.S k) (T.A k) n = false := by rw [← es, ← ea]; simp only [rowB, inB, decide_eq_false_iff_not] at g1 ⊢; omega
            clear es ea
            go_wp2
            go_quiet (first | (go_at_call 20; exact Calls.quiet_of_same (in_spec _ _ _ _)))
            go_wp2
            go_ret
            exact ⟨by rw [HV.out, rowsB_false hkn hr] <;> rfl, (by repeat (first | exact BW.out | apply Below.drew | apply bdrewN))⟩
          cases g2 : inB a 0 900
          · have hr : rowB (T.S k) (T.A k) n = false := by rw [← es, ← ea]; simp only [rowB, inB, decide_eq_false_iff_not] at g2 ⊢; omega
            clear es ea
            go_wp2
            go_quiet (first | (go_at_call 20; exact Calls.quiet_of_same (in_spec _ _ _ _)))
            go_wp2
            go_ret
            exact ⟨by rw [HV.out, rowsB_false hkn hr] <;> rfl, (by repeat (first | exact BW.out | apply Below.drew | apply bdrewN))⟩
          cases g3 : (!(s == -1) == (a == 0))
          · have hr : rowB (T.S k) (T.A k) n = true := by
              rw [← es, ← ea]
              simp only [inB, decide_eq_true_eq] at g1 g2
              simp only [rowB, decide_eq_true_eq]
              by_cases q1 : s = -1 <;> by_cases q2 : a = 0 <;> simp [q1, q2] at g3 ⊢ <;> omega
            clear es ea
            go_wp2
            go_quiet (first | (go_at_call 20; exact Calls.quiet_of_same (in_spec _ _ _ _)))
            go_wp2
            go_roundw
            case rel => exact ⟨k + 1, by omega, by go_num, fun j hj => by
              by_cases hjk : j = k
              · subst hjk; exact hr
              · exact HL.out j (by omega), (by repeat (first | exact hbel | apply Below.drew | apply bdrewN))⟩
            case measure => simp [intOf]; omega
          · have hr : rowB (T.S k) (T.A k) n = false := by
              rw [← es, ← ea]
              simp only [inB, decide_eq_true_eq] at g1 g2
              simp only [rowB, decide_eq_false_iff_not]
              have g : ¬ (s = -1 ↔ a = 0) := fun e => by
                by_cases q1 : s = -1
                · have q2 := e.1 q1; rw [q1, q2] at g3; revert g3; decide
                · have q2 : ¬ a = 0 := fun h => q1 (e.2 h)
                  rw [beq_eq_false_iff_ne.2 q1, beq_eq_false_iff_ne.2 q2] at g3; revert g3; decide
              omega
            clear es ea
            go_wp2
            go_quiet (first | (go_at_call 20; exact Calls.quiet_of_same (in_spec _ _ _ _)))
            go_wp2
            go_ret
            exact ⟨by rw [HV.out, rowsB_false hkn hr] <;> rfl, (by repeat (first | exact BW.out | apply Below.drew | apply bdrewN))⟩
        · have hkk : k = T.nS := by omega
          subst hkk
          have hcc : ¬ (T.nS : Int) < c := by have := H3.out; omega
          go_wp2
          go_ret
          exact ⟨by rw [HV.out, rowsB_true HL.out] <;> rfl, BW.out⟩
    · have hv : tabB c d T n = false := by simp [tabB, sizB, h4]
      have HV : Hid (tabB c d T n = false) := hv
      clear hv
      have h3' : ((T.nS : Int) != c) = false := by simp [h3]
      have h4' : ((T.nA : Int) != c) = true := by simp [h4]
      clear h3 h4
      go_wp2_with (go_at_call 20; refine (in_spec _ _ _ _).mono ?_; rintro e w1 ⟨rfl, rfl⟩; rw [h2])
      go_ret
      exact ⟨by rw [HV.out] <;> rfl, B1.out⟩
  · have hv : tabB c d T n = false := by simp [tabB, sizB, h3]
    have HV : Hid (tabB c d T n = false) := hv
    clear hv
    have h3' : ((T.nS : Int) != c) = true := by simp [h3]
    clear h3
    go_wp2_with (go_at_call 20; refine (in_spec _ _ _ _).mono ?_; rintro e w1 ⟨rfl, rfl⟩; rw [h2])
    go_ret
    exact ⟨by rw [HV.out] <;> rfl, B1.out⟩

end Go.Proofs.Ytodmfbbicdbjdaa
