/- GstListOk of the program; conditions: the list lies in memory. -/
import Derived.Test.YtlbjgecjonegkaaGst4
namespace Go.Proofs.Ytlbjgecjonegkaa
open Go.RowKit Go.Deep
set_option linter.unusedVariables false

set_option maxHeartbeats 4000000 in
theorem ghosts_impl (c d : Int) (a : Option Addr) (n cap : Nat) (Z : Nat → Nat → Int) (hn : n ≤ 1048576) (w : World) (h : P7.RowK w a n Z) :
    Calls Try.prog 25 #[.agg #[.int .i64 c, .int .i64 d], .slice a n cap] w fun e w' => e = .returned (.bool (ghostsB c d n Z)) ∧ Below w.heap.size w w' := by
  have HR : Hid (P7.RowK w a n Z) := h
  clear h
  by_cases h20 : n ≤ 20
  · go_enter Try.func25, Try.ntmps25
    go_wp2
    obtain ⟨w0, e0⟩ : ∃ w0, w0 = w.alloc (.cells #[.int .i64 c, .int .i64 d] 30) := ⟨_, rfl⟩
    have B0 : Hid (Below w.heap.size w w0) := by rw [e0]; exact (Below.refl _ _).alloc (by simp) _
    have M0 : Hid (Bk w0 w.heap.size [.int .i64 c, .int .i64 d]) := by rw [e0]; exact bk_new w 30 [.int .i64 c, .int .i64 d]
    rw [← e0]
    clear e0
    go_loopw [12] (fun i wr => ∃ k : Nat, k ≤ n ∧ i = .int .i64 k ∧ (∀ j, j < k → stepB c d Z j = true) ∧ Below w0.heap.size w0 wr) (fun i _ => n - (intOf i).toNat)
    case atStart => exact ⟨0, Nat.zero_le _, rfl, fun _ h => absurd h (by omega), Below.refl _ _⟩
    case round =>
      obtain ⟨k, hk, rfl, hall, hbel⟩ := hrel
      have HL : Hid (∀ j, j < k → stepB c d Z j = true) := hall
      have HB : Hid (Below w0.heap.size w0 wr) := hbel
      have BW : Hid (Below w.heap.size w wr) := bthen B0.out hbel
      have MW : Hid (Bk wr w.heap.size [.int .i64 c, .int .i64 d]) := M0.out.below hbel
      clear hall hbel
      by_cases hkn : k < n
      · have hkn' : (k : Int) < n := by omega
        obtain ⟨b, o, rfl, hb, hrow⟩ : ∃ b o, a = some ⟨b, o, none⟩ ∧ b < w.heap.size ∧ ∀ k j, k < n → j < 7 → w.cell? ⟨b, o + k * 7 + j, none⟩ = some (.int .i64 (Z k j)) := by
          rcases HR.out with h | h
          · omega
          · exact h
        have HW : Hid (∀ k j, k < n → j < 7 → w.cell? ⟨b, o + k * 7 + j, none⟩ = some (.int .i64 (Z k j))) := hrow
        have hbw : b < wr.heap.size := Nat.lt_of_lt_of_le hb BW.out.size
        clear hrow
        cases hg : gZ c d (Z k)
        · have hst : stepB c d Z k = false := by simp [stepB, hg]
          have c0 : wr.cell? ⟨b, o + k * 7, none⟩ = some (.int .i64 (Z k 0)) := (BW.out.cell (p := ⟨b, _, none⟩) hb).trans (HW.out k 0 hkn (by omega))
          have c1 : wr.cell? ⟨b, o + k * 7 + 1, none⟩ = some (.int .i64 (Z k 1)) := (BW.out.cell (p := ⟨b, _, none⟩) hb).trans (HW.out k 1 hkn (by omega))
          have c2 : wr.cell? ⟨b, o + k * 7 + 2, none⟩ = some (.int .i64 (Z k 2)) := (BW.out.cell (p := ⟨b, _, none⟩) hb).trans (HW.out k 2 hkn (by omega))
          have c3 : wr.cell? ⟨b, o + k * 7 + 3, none⟩ = some (.int .i64 (Z k 3)) := (BW.out.cell (p := ⟨b, _, none⟩) hb).trans (HW.out k 3 hkn (by omega))
          have c4 : wr.cell? ⟨b, o + k * 7 + 4, none⟩ = some (.int .i64 (Z k 4)) := (BW.out.cell (p := ⟨b, _, none⟩) hb).trans (HW.out k 4 hkn (by omega))
          have c5 : wr.cell? ⟨b, o + k * 7 + 5, none⟩ = some (.int .i64 (Z k 5)) := (BW.out.cell (p := ⟨b, _, none⟩) hb).trans (HW.out k 5 hkn (by omega))
          have c6 : wr.cell? ⟨b, o + k * 7 + 6, none⟩ = some (.int .i64 (Z k 6)) := (BW.out.cell (p := ⟨b, _, none⟩) hb).trans (HW.out k 6 hkn (by omega))
          have yM0 : wr.cell? ⟨w.heap.size, 0, none⟩ = some (.int .i64 c) := (MW.out.2 0 (by simp)).1
          have yM1 : wr.cell? ⟨w.heap.size, 1, none⟩ = some (.int .i64 d) := (MW.out.2 1 (by simp)).1
          have hlM : w.heap.size < wr.heap.size := MW.out.1
          go_wp2
          obtain ⟨w1, e1⟩ : ∃ w1, w1 = wr.alloc (.cells #[.int .i64 (Z k 0), .int .i64 (Z k 1), .int .i64 (Z k 2), .int .i64 (Z k 3), .int .i64 (Z k 4), .int .i64 (Z k 5), .int .i64 (Z k 6)] 78) := ⟨_, rfl⟩
          rw [← e1]
          have hb1 : Below wr.heap.size wr w1 := by rw [e1]; exact (Below.refl _ _).alloc (Nat.le_refl _) _
          have X1 : Hid (Bk w1 wr.heap.size [.int .i64 (Z k 0), .int .i64 (Z k 1), .int .i64 (Z k 2), .int .i64 (Z k 3), .int .i64 (Z k 4), .int .i64 (Z k 5), .int .i64 (Z k 6)]) := by rw [e1]; exact bk_new wr 78 [.int .i64 (Z k 0), .int .i64 (Z k 1), .int .i64 (Z k 2), .int .i64 (Z k 3), .int .i64 (Z k 4), .int .i64 (Z k 5), .int .i64 (Z k 6)]
          clear e1
          clear yM0 yM1 hlM
          clear c0 c1 c2 c3 c4 c5 c6
          have HB1 : Hid (Below w0.heap.size w0 w1) := bthen HB.out hb1
          have BW1 : Hid (Below w.heap.size w w1) := bthen BW.out hb1
          have MW1 : Hid (Bk w1 w.heap.size [.int .i64 c, .int .i64 d]) := MW.out.below hb1
          have hbw1 : b < w1.heap.size := Nat.lt_of_lt_of_le hbw hb1.size
          generalize wr.heap.size = gg at *
          have c0 : w1.cell? ⟨b, o + k * 7, none⟩ = some (.int .i64 (Z k 0)) := (BW1.out.cell (p := ⟨b, _, none⟩) hb).trans (HW.out k 0 hkn (by omega))
          have c1 : w1.cell? ⟨b, o + k * 7 + 1, none⟩ = some (.int .i64 (Z k 1)) := (BW1.out.cell (p := ⟨b, _, none⟩) hb).trans (HW.out k 1 hkn (by omega))
          have c2 : w1.cell? ⟨b, o + k * 7 + 2, none⟩ = some (.int .i64 (Z k 2)) := (BW1.out.cell (p := ⟨b, _, none⟩) hb).trans (HW.out k 2 hkn (by omega))
          have c3 : w1.cell? ⟨b, o + k * 7 + 3, none⟩ = some (.int .i64 (Z k 3)) := (BW1.out.cell (p := ⟨b, _, none⟩) hb).trans (HW.out k 3 hkn (by omega))
          have c4 : w1.cell? ⟨b, o + k * 7 + 4, none⟩ = some (.int .i64 (Z k 4)) := (BW1.out.cell (p := ⟨b, _, none⟩) hb).trans (HW.out k 4 hkn (by omega))
          have c5 : w1.cell? ⟨b, o + k * 7 + 5, none⟩ = some (.int .i64 (Z k 5)) := (BW1.out.cell (p := ⟨b, _, none⟩) hb).trans (HW.out k 5 hkn (by omega))
          have c6 : w1.cell? ⟨b, o + k * 7 + 6, none⟩ = some (.int .i64 (Z k 6)) := (BW1.out.cell (p := ⟨b, _, none⟩) hb).trans (HW.out k 6 hkn (by omega))
          have yM0 : w1.cell? ⟨w.heap.size, 0, none⟩ = some (.int .i64 c) := (MW1.out.2 0 (by simp)).1
          have yM1 : w1.cell? ⟨w.heap.size, 1, none⟩ = some (.int .i64 d) := (MW1.out.2 1 (by simp)).1
          have hlM : w.heap.size < w1.heap.size := MW1.out.1
          have yG0 : w1.cell? ⟨gg, 0, none⟩ = some (.int .i64 (Z k 0)) := (X1.out.2 0 (by simp)).1
          have yG1 : w1.cell? ⟨gg, 1, none⟩ = some (.int .i64 (Z k 1)) := (X1.out.2 1 (by simp)).1
          have yG2 : w1.cell? ⟨gg, 2, none⟩ = some (.int .i64 (Z k 2)) := (X1.out.2 2 (by simp)).1
          have yG3 : w1.cell? ⟨gg, 3, none⟩ = some (.int .i64 (Z k 3)) := (X1.out.2 3 (by simp)).1
          have yG4 : w1.cell? ⟨gg, 4, none⟩ = some (.int .i64 (Z k 4)) := (X1.out.2 4 (by simp)).1
          have yG5 : w1.cell? ⟨gg, 5, none⟩ = some (.int .i64 (Z k 5)) := (X1.out.2 5 (by simp)).1
          have yG6 : w1.cell? ⟨gg, 6, none⟩ = some (.int .i64 (Z k 6)) := (X1.out.2 6 (by simp)).1
          have hlG : gg < w1.heap.size := X1.out.1
          refine wp_region_held_drew (S := fun w' => (∀ b o, b < w1.heap.size → w'.cell? ⟨b, o, none⟩ = w1.cell? ⟨b, o, none⟩) ∧ w1.heap.size ≤ w'.heap.size) (by kernel_rfl) ⟨fun _ _ _ => rfl, Nat.le_refl _⟩ ?_
          intro hHeld
          refine wpAnyH_take (i := 0) (v := .agg #[.int .i64 c, .int .i64 d]) rfl (by kernel_rfl) (by kernel_rfl) (by kernel_rfl) (fun _ _ _ h => h) (Or.inl ⟨by rfl, ?_⟩) (by assumption) ?_
          · intro wx hSw; go_simp
          try simp only [Act.put, List.setIfInBounds_toArray, List.set_cons_zero, List.set_cons_succ, List.getElem_toArray, List.getElem_cons_zero]
          refine wpAnyH_take (i := 1) (v := .agg #[.int .i64 (Z k 0), .int .i64 (Z k 1), .int .i64 (Z k 2), .int .i64 (Z k 3), .int .i64 (Z k 4), .int .i64 (Z k 5), .int .i64 (Z k 6)]) rfl (by kernel_rfl) (by kernel_rfl) (by kernel_rfl) (fun _ _ _ h => h) (Or.inl ⟨by rfl, ?_⟩) (by assumption) ?_
          · intro wx hSw; go_simp
          try simp only [Act.put, List.setIfInBounds_toArray, List.set_cons_zero, List.set_cons_succ, List.getElem_toArray, List.getElem_cons_zero, List.getElem_cons_succ]
          refine wpAnyH_ready (rs := [2]) (by kernel_rfl) (by simp) ?_
          refine AllReadyH.cons rfl (fun K hK => ?_) AllReadyH.nil
          go_simp
          go_wp2_with fail
          refine (gstOk_impl _ _ _ _ _ _ _ _ _ _).mono ?_
          rintro e x1 ⟨rfl, hx1⟩
          rw [show gstB c d (Z k 0) (Z k 1) (Z k 2) (Z k 3) (Z k 4) (Z k 5) (Z k 6) = false from hg]
          refine hK.out _ _ (keepS (by assumption) hx1) (fun hNew => ?_)
          clear hK K hHeld
          have hHeld := hNew
          clear hNew
          try simp only [Act.put, List.setIfInBounds_toArray, List.set_cons_zero, List.set_cons_succ, List.getElem_toArray, List.getElem_cons_zero, List.getElem_cons_succ]
          refine wpAnyH_take (i := 3) (v := .bool true) rfl (by kernel_rfl) (by kernel_rfl) (by kernel_rfl) (fun _ _ _ h => h) (Or.inl ⟨by rfl, ?_⟩) (by assumption) ?_
          · intro wx hSw; go_simp
          try simp only [Act.put, List.setIfInBounds_toArray, List.set_cons_zero, List.set_cons_succ, List.getElem_toArray, List.getElem_cons_zero, List.getElem_cons_succ]
          refine wpAnyH_take (i := 4) (v := .bool true) rfl (by kernel_rfl) (by kernel_rfl) (by kernel_rfl) (fun _ _ _ h => h) (Or.inl ⟨by rfl, ?_⟩) (by assumption) ?_
          · intro wx hSw; go_simp
          try simp only [Act.put, List.setIfInBounds_toArray, List.set_cons_zero, List.set_cons_succ, List.getElem_toArray, List.getElem_cons_zero, List.getElem_cons_succ]
          refine wpAnyH_take (i := 5) (v := undef) rfl (by kernel_rfl) (by kernel_rfl) (by kernel_rfl) (fun _ _ _ h => h) (Or.inr ⟨by rfl, rfl⟩) (by assumption) ?_
          try simp only [Act.put, List.setIfInBounds_toArray, List.set_cons_zero, List.set_cons_succ, List.getElem_toArray, List.getElem_cons_zero, List.getElem_cons_succ]
          refine wpAnyH_take (i := 6) (v := undef) rfl (by kernel_rfl) (by kernel_rfl) (by kernel_rfl) (fun _ _ _ h => h) (Or.inr ⟨by rfl, rfl⟩) (by assumption) ?_
          try simp only [Act.put, List.setIfInBounds_toArray, List.set_cons_zero, List.set_cons_succ, List.getElem_toArray, List.getElem_cons_zero, List.getElem_cons_succ]
          refine wpAnyH_take (i := 7) (v := undef) rfl (by kernel_rfl) (by kernel_rfl) (by kernel_rfl) (fun _ _ _ h => h) (Or.inr ⟨by rfl, rfl⟩) (by assumption) ?_
          try simp only [Act.put, List.setIfInBounds_toArray, List.set_cons_zero, List.set_cons_succ, List.getElem_toArray, List.getElem_cons_zero, List.getElem_cons_succ]
          refine wpAnyH_take (i := 8) (v := undef) rfl (by kernel_rfl) (by kernel_rfl) (by kernel_rfl) (fun _ _ _ h => h) (Or.inr ⟨by rfl, rfl⟩) (by assumption) ?_
          try simp only [Act.put, List.setIfInBounds_toArray, List.set_cons_zero, List.set_cons_succ, List.getElem_toArray, List.getElem_cons_zero, List.getElem_cons_succ]
          refine wpAnyH_take (i := 9) (v := undef) rfl (by kernel_rfl) (by kernel_rfl) (by kernel_rfl) (fun _ _ _ h => h) (Or.inr ⟨by rfl, rfl⟩) (by assumption) ?_
          try simp only [Act.put, List.setIfInBounds_toArray, List.set_cons_zero, List.set_cons_succ, List.getElem_toArray, List.getElem_cons_zero, List.getElem_cons_succ]
          refine wpAnyH_take (i := 10) (v := undef) rfl (by kernel_rfl) (by kernel_rfl) (by kernel_rfl) (fun _ _ _ h => h) (Or.inr ⟨by rfl, rfl⟩) (by assumption) ?_
          try simp only [Act.put, List.setIfInBounds_toArray, List.set_cons_zero, List.set_cons_succ, List.getElem_toArray, List.getElem_cons_zero, List.getElem_cons_succ]
          refine wpAnyH_take (i := 11) (v := undef) rfl (by kernel_rfl) (by kernel_rfl) (by kernel_rfl) (fun _ _ _ h => h) (Or.inr ⟨by rfl, rfl⟩) (by assumption) ?_
          try simp only [Act.put, List.setIfInBounds_toArray, List.set_cons_zero, List.set_cons_succ, List.getElem_toArray, List.getElem_cons_zero, List.getElem_cons_succ]
          refine wpAnyH_take (i := 12) (v := undef) rfl (by kernel_rfl) (by kernel_rfl) (by kernel_rfl) (fun _ _ _ h => h) (Or.inr ⟨by rfl, rfl⟩) (by assumption) ?_
          try simp only [Act.put, List.setIfInBounds_toArray, List.set_cons_zero, List.set_cons_succ, List.getElem_toArray, List.getElem_cons_zero, List.getElem_cons_succ]
          refine wpAnyH_take (i := 13) (v := undef) rfl (by kernel_rfl) (by kernel_rfl) (by kernel_rfl) (fun _ _ _ h => h) (Or.inr ⟨by rfl, rfl⟩) (by assumption) ?_
          try simp only [Act.put, List.setIfInBounds_toArray, List.set_cons_zero, List.set_cons_succ, List.getElem_toArray, List.getElem_cons_zero, List.getElem_cons_succ]
          refine wpAnyH_take (i := 14) (v := undef) rfl (by kernel_rfl) (by kernel_rfl) (by kernel_rfl) (fun _ _ _ h => h) (Or.inr ⟨by rfl, rfl⟩) (by assumption) ?_
          try simp only [Act.put, List.setIfInBounds_toArray, List.set_cons_zero, List.set_cons_succ, List.getElem_toArray, List.getElem_cons_zero, List.getElem_cons_succ]
          refine wpAnyH_take (i := 15) (v := undef) rfl (by kernel_rfl) (by kernel_rfl) (by kernel_rfl) (fun _ _ _ h => h) (Or.inr ⟨by rfl, rfl⟩) (by assumption) ?_
          try simp only [Act.put, List.setIfInBounds_toArray, List.set_cons_zero, List.set_cons_succ, List.getElem_toArray, List.getElem_cons_zero, List.getElem_cons_succ]
          refine wpAnyH_take (i := 16) (v := undef) rfl (by kernel_rfl) (by kernel_rfl) (by kernel_rfl) (fun _ _ _ h => h) (Or.inr ⟨by rfl, rfl⟩) (by assumption) ?_
          try simp only [Act.put, List.setIfInBounds_toArray, List.set_cons_zero, List.set_cons_succ, List.getElem_toArray, List.getElem_cons_zero, List.getElem_cons_succ]
          refine wpAnyH_take (i := 17) (v := undef) rfl (by kernel_rfl) (by kernel_rfl) (by kernel_rfl) (fun _ _ _ h => h) (Or.inr ⟨by rfl, rfl⟩) (by assumption) ?_
          try simp only [Act.put, List.setIfInBounds_toArray, List.set_cons_zero, List.set_cons_succ, List.getElem_toArray, List.getElem_cons_zero, List.getElem_cons_succ]
          refine wpAnyH_take (i := 18) (v := undef) rfl (by kernel_rfl) (by kernel_rfl) (by kernel_rfl) (fun _ _ _ h => h) (Or.inr ⟨by rfl, rfl⟩) (by assumption) ?_
          try simp only [Act.put, List.setIfInBounds_toArray, List.set_cons_zero, List.set_cons_succ, List.getElem_toArray, List.getElem_cons_zero, List.getElem_cons_succ]
          refine wpAnyH_take (i := 19) (v := .bool true) rfl (by kernel_rfl) (by kernel_rfl) (by kernel_rfl) (fun _ _ _ h => h) (Or.inl ⟨by rfl, ?_⟩) (by assumption) ?_
          · intro wx hSw; go_simp
          try simp only [Act.put, List.setIfInBounds_toArray, List.set_cons_zero, List.set_cons_succ, List.getElem_toArray, List.getElem_cons_zero, List.getElem_cons_succ]
          refine wpAnyH_done (by kernel_rfl) ?_ _
          clear hHeld
          clear yM0 yM1 hlM yG0 yG1 yG2 yG3 yG4 yG5 yG6 hlG
          clear c0 c1 c2 c3 c4 c5 c6
          go_wp2
          go_ret
          exact ⟨by rw [ghostsB_false hkn hst] <;> rfl, bthen BW1.out (by repeat (first | exact Below.refl _ _ | refine bthen ?_ (by assumption) | apply Below.drew))⟩
        by_cases hk0 : k = 0
        · have hst : stepB c d Z k = true := by unfold stepB; rw [hg]; simp [hk0]
          have hk1 : ¬ (0 : Int) < k := by omega
          clear hk0
          have c0 : wr.cell? ⟨b, o + k * 7, none⟩ = some (.int .i64 (Z k 0)) := (BW.out.cell (p := ⟨b, _, none⟩) hb).trans (HW.out k 0 hkn (by omega))
          have c1 : wr.cell? ⟨b, o + k * 7 + 1, none⟩ = some (.int .i64 (Z k 1)) := (BW.out.cell (p := ⟨b, _, none⟩) hb).trans (HW.out k 1 hkn (by omega))
          have c2 : wr.cell? ⟨b, o + k * 7 + 2, none⟩ = some (.int .i64 (Z k 2)) := (BW.out.cell (p := ⟨b, _, none⟩) hb).trans (HW.out k 2 hkn (by omega))
          have c3 : wr.cell? ⟨b, o + k * 7 + 3, none⟩ = some (.int .i64 (Z k 3)) := (BW.out.cell (p := ⟨b, _, none⟩) hb).trans (HW.out k 3 hkn (by omega))
          have c4 : wr.cell? ⟨b, o + k * 7 + 4, none⟩ = some (.int .i64 (Z k 4)) := (BW.out.cell (p := ⟨b, _, none⟩) hb).trans (HW.out k 4 hkn (by omega))
          have c5 : wr.cell? ⟨b, o + k * 7 + 5, none⟩ = some (.int .i64 (Z k 5)) := (BW.out.cell (p := ⟨b, _, none⟩) hb).trans (HW.out k 5 hkn (by omega))
          have c6 : wr.cell? ⟨b, o + k * 7 + 6, none⟩ = some (.int .i64 (Z k 6)) := (BW.out.cell (p := ⟨b, _, none⟩) hb).trans (HW.out k 6 hkn (by omega))
          have yM0 : wr.cell? ⟨w.heap.size, 0, none⟩ = some (.int .i64 c) := (MW.out.2 0 (by simp)).1
          have yM1 : wr.cell? ⟨w.heap.size, 1, none⟩ = some (.int .i64 d) := (MW.out.2 1 (by simp)).1
          have hlM : w.heap.size < wr.heap.size := MW.out.1
          go_wp2
          obtain ⟨w1, e1⟩ : ∃ w1, w1 = wr.alloc (.cells #[.int .i64 (Z k 0), .int .i64 (Z k 1), .int .i64 (Z k 2), .int .i64 (Z k 3), .int .i64 (Z k 4), .int .i64 (Z k 5), .int .i64 (Z k 6)] 78) := ⟨_, rfl⟩
          rw [← e1]
          have hb1 : Below wr.heap.size wr w1 := by rw [e1]; exact (Below.refl _ _).alloc (Nat.le_refl _) _
          have X1 : Hid (Bk w1 wr.heap.size [.int .i64 (Z k 0), .int .i64 (Z k 1), .int .i64 (Z k 2), .int .i64 (Z k 3), .int .i64 (Z k 4), .int .i64 (Z k 5), .int .i64 (Z k 6)]) := by rw [e1]; exact bk_new wr 78 [.int .i64 (Z k 0), .int .i64 (Z k 1), .int .i64 (Z k 2), .int .i64 (Z k 3), .int .i64 (Z k 4), .int .i64 (Z k 5), .int .i64 (Z k 6)]
          clear e1
          clear yM0 yM1 hlM
          clear c0 c1 c2 c3 c4 c5 c6
          have HB1 : Hid (Below w0.heap.size w0 w1) := bthen HB.out hb1
          have BW1 : Hid (Below w.heap.size w w1) := bthen BW.out hb1
          have MW1 : Hid (Bk w1 w.heap.size [.int .i64 c, .int .i64 d]) := MW.out.below hb1
          have hbw1 : b < w1.heap.size := Nat.lt_of_lt_of_le hbw hb1.size
          generalize wr.heap.size = gg at *
          have c0 : w1.cell? ⟨b, o + k * 7, none⟩ = some (.int .i64 (Z k 0)) := (BW1.out.cell (p := ⟨b, _, none⟩) hb).trans (HW.out k 0 hkn (by omega))
          have c1 : w1.cell? ⟨b, o + k * 7 + 1, none⟩ = some (.int .i64 (Z k 1)) := (BW1.out.cell (p := ⟨b, _, none⟩) hb).trans (HW.out k 1 hkn (by omega))
          have c2 : w1.cell? ⟨b, o + k * 7 + 2, none⟩ = some (.int .i64 (Z k 2)) := (BW1.out.cell (p := ⟨b, _, none⟩) hb).trans (HW.out k 2 hkn (by omega))
          have c3 : w1.cell? ⟨b, o + k * 7 + 3, none⟩ = some (.int .i64 (Z k 3)) := (BW1.out.cell (p := ⟨b, _, none⟩) hb).trans (HW.out k 3 hkn (by omega))
          have c4 : w1.cell? ⟨b, o + k * 7 + 4, none⟩ = some (.int .i64 (Z k 4)) := (BW1.out.cell (p := ⟨b, _, none⟩) hb).trans (HW.out k 4 hkn (by omega))
          have c5 : w1.cell? ⟨b, o + k * 7 + 5, none⟩ = some (.int .i64 (Z k 5)) := (BW1.out.cell (p := ⟨b, _, none⟩) hb).trans (HW.out k 5 hkn (by omega))
          have c6 : w1.cell? ⟨b, o + k * 7 + 6, none⟩ = some (.int .i64 (Z k 6)) := (BW1.out.cell (p := ⟨b, _, none⟩) hb).trans (HW.out k 6 hkn (by omega))
          have yM0 : w1.cell? ⟨w.heap.size, 0, none⟩ = some (.int .i64 c) := (MW1.out.2 0 (by simp)).1
          have yM1 : w1.cell? ⟨w.heap.size, 1, none⟩ = some (.int .i64 d) := (MW1.out.2 1 (by simp)).1
          have hlM : w.heap.size < w1.heap.size := MW1.out.1
          have yG0 : w1.cell? ⟨gg, 0, none⟩ = some (.int .i64 (Z k 0)) := (X1.out.2 0 (by simp)).1
          have yG1 : w1.cell? ⟨gg, 1, none⟩ = some (.int .i64 (Z k 1)) := (X1.out.2 1 (by simp)).1
          have yG2 : w1.cell? ⟨gg, 2, none⟩ = some (.int .i64 (Z k 2)) := (X1.out.2 2 (by simp)).1
          have yG3 : w1.cell? ⟨gg, 3, none⟩ = some (.int .i64 (Z k 3)) := (X1.out.2 3 (by simp)).1
          have yG4 : w1.cell? ⟨gg, 4, none⟩ = some (.int .i64 (Z k 4)) := (X1.out.2 4 (by simp)).1
          have yG5 : w1.cell? ⟨gg, 5, none⟩ = some (.int .i64 (Z k 5)) := (X1.out.2 5 (by simp)).1
          have yG6 : w1.cell? ⟨gg, 6, none⟩ = some (.int .i64 (Z k 6)) := (X1.out.2 6 (by simp)).1
          have hlG : gg < w1.heap.size := X1.out.1
          refine wp_region_held_drew (S := fun w' => (∀ b o, b < w1.heap.size → w'.cell? ⟨b, o, none⟩ = w1.cell? ⟨b, o, none⟩) ∧ w1.heap.size ≤ w'.heap.size) (by kernel_rfl) ⟨fun _ _ _ => rfl, Nat.le_refl _⟩ ?_
          intro hHeld
          refine wpAnyH_take (i := 0) (v := .agg #[.int .i64 c, .int .i64 d]) rfl (by kernel_rfl) (by kernel_rfl) (by kernel_rfl) (fun _ _ _ h => h) (Or.inl ⟨by rfl, ?_⟩) (by assumption) ?_
          · intro wx hSw; go_simp
          try simp only [Act.put, List.setIfInBounds_toArray, List.set_cons_zero, List.set_cons_succ, List.getElem_toArray, List.getElem_cons_zero]
          refine wpAnyH_take (i := 1) (v := .agg #[.int .i64 (Z k 0), .int .i64 (Z k 1), .int .i64 (Z k 2), .int .i64 (Z k 3), .int .i64 (Z k 4), .int .i64 (Z k 5), .int .i64 (Z k 6)]) rfl (by kernel_rfl) (by kernel_rfl) (by kernel_rfl) (fun _ _ _ h => h) (Or.inl ⟨by rfl, ?_⟩) (by assumption) ?_
          · intro wx hSw; go_simp
          try simp only [Act.put, List.setIfInBounds_toArray, List.set_cons_zero, List.set_cons_succ, List.getElem_toArray, List.getElem_cons_zero, List.getElem_cons_succ]
          refine wpAnyH_ready (rs := [2]) (by kernel_rfl) (by simp) ?_
          refine AllReadyH.cons rfl (fun K hK => ?_) AllReadyH.nil
          go_simp
          go_wp2_with fail
          refine (gstOk_impl _ _ _ _ _ _ _ _ _ _).mono ?_
          rintro e x1 ⟨rfl, hx1⟩
          rw [show gstB c d (Z k 0) (Z k 1) (Z k 2) (Z k 3) (Z k 4) (Z k 5) (Z k 6) = true from hg]
          refine hK.out _ _ (keepS (by assumption) hx1) (fun hNew => ?_)
          clear hK K hHeld
          have hHeld := hNew
          clear hNew
          try simp only [Act.put, List.setIfInBounds_toArray, List.set_cons_zero, List.set_cons_succ, List.getElem_toArray, List.getElem_cons_zero, List.getElem_cons_succ]
          refine wpAnyH_take (i := 3) (v := .bool false) rfl (by kernel_rfl) (by kernel_rfl) (by kernel_rfl) (fun _ _ _ h => h) (Or.inl ⟨by rfl, ?_⟩) (by assumption) ?_
          · intro wx hSw; go_simp
          try simp only [Act.put, List.setIfInBounds_toArray, List.set_cons_zero, List.set_cons_succ, List.getElem_toArray, List.getElem_cons_zero, List.getElem_cons_succ]
          refine wpAnyH_take (i := 4) (v := .bool false) rfl (by kernel_rfl) (by kernel_rfl) (by kernel_rfl) (fun _ _ _ h => h) (Or.inl ⟨by rfl, ?_⟩) (by assumption) ?_
          · intro wx hSw; go_simp
          try simp only [Act.put, List.setIfInBounds_toArray, List.set_cons_zero, List.set_cons_succ, List.getElem_toArray, List.getElem_cons_zero, List.getElem_cons_succ]
          refine wpAnyH_take (i := 5) (v := .int .i64 (k : Int)) rfl (by kernel_rfl) (by kernel_rfl) (by kernel_rfl) (fun _ _ _ h => h) (Or.inl ⟨by rfl, ?_⟩) (by assumption) ?_
          · intro wx hSw; go_simp
          try simp only [Act.put, List.setIfInBounds_toArray, List.set_cons_zero, List.set_cons_succ, List.getElem_toArray, List.getElem_cons_zero, List.getElem_cons_succ]
          refine wpAnyH_take (i := 6) (v := .bool false) rfl (by kernel_rfl) (by kernel_rfl) (by kernel_rfl) (fun _ _ _ h => h) (Or.inl ⟨by rfl, ?_⟩) (by assumption) ?_
          · intro wx hSw; go_simp <;> first | omega | (exact IntWalk.i64_in _ (by omega)) | go_num
          try simp only [Act.put, List.setIfInBounds_toArray, List.set_cons_zero, List.set_cons_succ, List.getElem_toArray, List.getElem_cons_zero, List.getElem_cons_succ]
          refine wpAnyH_take (i := 7) (v := .bool false) rfl (by kernel_rfl) (by kernel_rfl) (by kernel_rfl) (fun _ _ _ h => h) (Or.inl ⟨by rfl, ?_⟩) (by assumption) ?_
          · intro wx hSw; go_simp
          try simp only [Act.put, List.setIfInBounds_toArray, List.set_cons_zero, List.set_cons_succ, List.getElem_toArray, List.getElem_cons_zero, List.getElem_cons_succ]
          refine wpAnyH_take (i := 8) (v := undef) rfl (by kernel_rfl) (by kernel_rfl) (by kernel_rfl) (fun _ _ _ h => h) (Or.inr ⟨by rfl, rfl⟩) (by assumption) ?_
          try simp only [Act.put, List.setIfInBounds_toArray, List.set_cons_zero, List.set_cons_succ, List.getElem_toArray, List.getElem_cons_zero, List.getElem_cons_succ]
          refine wpAnyH_take (i := 9) (v := undef) rfl (by kernel_rfl) (by kernel_rfl) (by kernel_rfl) (fun _ _ _ h => h) (Or.inr ⟨by rfl, rfl⟩) (by assumption) ?_
          try simp only [Act.put, List.setIfInBounds_toArray, List.set_cons_zero, List.set_cons_succ, List.getElem_toArray, List.getElem_cons_zero, List.getElem_cons_succ]
          refine wpAnyH_take (i := 10) (v := undef) rfl (by kernel_rfl) (by kernel_rfl) (by kernel_rfl) (fun _ _ _ h => h) (Or.inr ⟨by rfl, rfl⟩) (by assumption) ?_
          try simp only [Act.put, List.setIfInBounds_toArray, List.set_cons_zero, List.set_cons_succ, List.getElem_toArray, List.getElem_cons_zero, List.getElem_cons_succ]
          refine wpAnyH_take (i := 11) (v := undef) rfl (by kernel_rfl) (by kernel_rfl) (by kernel_rfl) (fun _ _ _ h => h) (Or.inr ⟨by rfl, rfl⟩) (by assumption) ?_
          try simp only [Act.put, List.setIfInBounds_toArray, List.set_cons_zero, List.set_cons_succ, List.getElem_toArray, List.getElem_cons_zero, List.getElem_cons_succ]
          refine wpAnyH_take (i := 12) (v := undef) rfl (by kernel_rfl) (by kernel_rfl) (by kernel_rfl) (fun _ _ _ h => h) (Or.inr ⟨by rfl, rfl⟩) (by assumption) ?_
          try simp only [Act.put, List.setIfInBounds_toArray, List.set_cons_zero, List.set_cons_succ, List.getElem_toArray, List.getElem_cons_zero, List.getElem_cons_succ]
          refine wpAnyH_take (i := 13) (v := undef) rfl (by kernel_rfl) (by kernel_rfl) (by kernel_rfl) (fun _ _ _ h => h) (Or.inr ⟨by rfl, rfl⟩) (by assumption) ?_
          try simp only [Act.put, List.setIfInBounds_toArray, List.set_cons_zero, List.set_cons_succ, List.getElem_toArray, List.getElem_cons_zero, List.getElem_cons_succ]
          refine wpAnyH_take (i := 14) (v := undef) rfl (by kernel_rfl) (by kernel_rfl) (by kernel_rfl) (fun _ _ _ h => h) (Or.inr ⟨by rfl, rfl⟩) (by assumption) ?_
          try simp only [Act.put, List.setIfInBounds_toArray, List.set_cons_zero, List.set_cons_succ, List.getElem_toArray, List.getElem_cons_zero, List.getElem_cons_succ]
          refine wpAnyH_take (i := 15) (v := undef) rfl (by kernel_rfl) (by kernel_rfl) (by kernel_rfl) (fun _ _ _ h => h) (Or.inr ⟨by rfl, rfl⟩) (by assumption) ?_
          try simp only [Act.put, List.setIfInBounds_toArray, List.set_cons_zero, List.set_cons_succ, List.getElem_toArray, List.getElem_cons_zero, List.getElem_cons_succ]
          refine wpAnyH_take (i := 16) (v := undef) rfl (by kernel_rfl) (by kernel_rfl) (by kernel_rfl) (fun _ _ _ h => h) (Or.inr ⟨by rfl, rfl⟩) (by assumption) ?_
          try simp only [Act.put, List.setIfInBounds_toArray, List.set_cons_zero, List.set_cons_succ, List.getElem_toArray, List.getElem_cons_zero, List.getElem_cons_succ]
          refine wpAnyH_take (i := 17) (v := undef) rfl (by kernel_rfl) (by kernel_rfl) (by kernel_rfl) (fun _ _ _ h => h) (Or.inr ⟨by rfl, rfl⟩) (by assumption) ?_
          try simp only [Act.put, List.setIfInBounds_toArray, List.set_cons_zero, List.set_cons_succ, List.getElem_toArray, List.getElem_cons_zero, List.getElem_cons_succ]
          refine wpAnyH_take (i := 18) (v := .bool false) rfl (by kernel_rfl) (by kernel_rfl) (by kernel_rfl) (fun _ _ _ h => h) (Or.inl ⟨by rfl, ?_⟩) (by assumption) ?_
          · intro wx hSw; go_simp
          try simp only [Act.put, List.setIfInBounds_toArray, List.set_cons_zero, List.set_cons_succ, List.getElem_toArray, List.getElem_cons_zero, List.getElem_cons_succ]
          refine wpAnyH_take (i := 19) (v := .bool false) rfl (by kernel_rfl) (by kernel_rfl) (by kernel_rfl) (fun _ _ _ h => h) (Or.inl ⟨by rfl, ?_⟩) (by assumption) ?_
          · intro wx hSw; go_simp
          try simp only [Act.put, List.setIfInBounds_toArray, List.set_cons_zero, List.set_cons_succ, List.getElem_toArray, List.getElem_cons_zero, List.getElem_cons_succ]
          refine wpAnyH_done (by kernel_rfl) ?_ _
          clear hHeld
          clear yM0 yM1 hlM yG0 yG1 yG2 yG3 yG4 yG5 yG6 hlG
          clear c0 c1 c2 c3 c4 c5 c6
          go_wp2
          go_roundw
          case rel => exact ⟨k + 1, by omega, by go_num, fun j hj => by
            by_cases hjk : j = k
            · subst hjk; exact hst
            · exact HL.out j (by omega), bthen HB1.out (by repeat (first | exact Below.refl _ _ | refine bthen ?_ (by assumption) | apply Below.drew))⟩
          case measure => simp [intOf]; omega
        obtain ⟨m, hm⟩ : ∃ m, k = m + 1 := ⟨k - 1, by omega⟩
        have hkm : (k : Int) - 1 = (m : Int) := by omega
        have hk1 : (0 : Int) < k := by omega
        have hmn : (m : Int) < n := by omega
        have hmk : k - 1 = m := by omega
        cases hl : lessB (Z m) (Z k)
        · have hst : stepB c d Z k = false := by simp [stepB, hg, hk0, hmk, hl]
          clear hmk hk0
          have hm1 : m < k := by omega
          clear hm
          have hd : 0 ≤ cmpK (Z m 0) (Z m 2) (Z k 0) (Z k 2) := by have := cmpK_less (Z m) (Z k); rw [hl] at this; simpa using this
          have c0 : wr.cell? ⟨b, o + k * 7, none⟩ = some (.int .i64 (Z k 0)) := (BW.out.cell (p := ⟨b, _, none⟩) hb).trans (HW.out k 0 hkn (by omega))
          have c1 : wr.cell? ⟨b, o + k * 7 + 1, none⟩ = some (.int .i64 (Z k 1)) := (BW.out.cell (p := ⟨b, _, none⟩) hb).trans (HW.out k 1 hkn (by omega))
          have c2 : wr.cell? ⟨b, o + k * 7 + 2, none⟩ = some (.int .i64 (Z k 2)) := (BW.out.cell (p := ⟨b, _, none⟩) hb).trans (HW.out k 2 hkn (by omega))
          have c3 : wr.cell? ⟨b, o + k * 7 + 3, none⟩ = some (.int .i64 (Z k 3)) := (BW.out.cell (p := ⟨b, _, none⟩) hb).trans (HW.out k 3 hkn (by omega))
          have c4 : wr.cell? ⟨b, o + k * 7 + 4, none⟩ = some (.int .i64 (Z k 4)) := (BW.out.cell (p := ⟨b, _, none⟩) hb).trans (HW.out k 4 hkn (by omega))
          have c5 : wr.cell? ⟨b, o + k * 7 + 5, none⟩ = some (.int .i64 (Z k 5)) := (BW.out.cell (p := ⟨b, _, none⟩) hb).trans (HW.out k 5 hkn (by omega))
          have c6 : wr.cell? ⟨b, o + k * 7 + 6, none⟩ = some (.int .i64 (Z k 6)) := (BW.out.cell (p := ⟨b, _, none⟩) hb).trans (HW.out k 6 hkn (by omega))
          have q0 : wr.cell? ⟨b, o + m * 7, none⟩ = some (.int .i64 (Z m 0)) := (BW.out.cell (p := ⟨b, _, none⟩) hb).trans (HW.out m 0 (by omega) (by omega))
          have q1 : wr.cell? ⟨b, o + m * 7 + 1, none⟩ = some (.int .i64 (Z m 1)) := (BW.out.cell (p := ⟨b, _, none⟩) hb).trans (HW.out m 1 (by omega) (by omega))
          have q2 : wr.cell? ⟨b, o + m * 7 + 2, none⟩ = some (.int .i64 (Z m 2)) := (BW.out.cell (p := ⟨b, _, none⟩) hb).trans (HW.out m 2 (by omega) (by omega))
          have q3 : wr.cell? ⟨b, o + m * 7 + 3, none⟩ = some (.int .i64 (Z m 3)) := (BW.out.cell (p := ⟨b, _, none⟩) hb).trans (HW.out m 3 (by omega) (by omega))
          have q4 : wr.cell? ⟨b, o + m * 7 + 4, none⟩ = some (.int .i64 (Z m 4)) := (BW.out.cell (p := ⟨b, _, none⟩) hb).trans (HW.out m 4 (by omega) (by omega))
          have q5 : wr.cell? ⟨b, o + m * 7 + 5, none⟩ = some (.int .i64 (Z m 5)) := (BW.out.cell (p := ⟨b, _, none⟩) hb).trans (HW.out m 5 (by omega) (by omega))
          have q6 : wr.cell? ⟨b, o + m * 7 + 6, none⟩ = some (.int .i64 (Z m 6)) := (BW.out.cell (p := ⟨b, _, none⟩) hb).trans (HW.out m 6 (by omega) (by omega))
          have yM0 : wr.cell? ⟨w.heap.size, 0, none⟩ = some (.int .i64 c) := (MW.out.2 0 (by simp)).1
          have yM1 : wr.cell? ⟨w.heap.size, 1, none⟩ = some (.int .i64 d) := (MW.out.2 1 (by simp)).1
          have hlM : w.heap.size < wr.heap.size := MW.out.1
          go_wp2
          obtain ⟨w1, e1⟩ : ∃ w1, w1 = wr.alloc (.cells #[.int .i64 (Z k 0), .int .i64 (Z k 1), .int .i64 (Z k 2), .int .i64 (Z k 3), .int .i64 (Z k 4), .int .i64 (Z k 5), .int .i64 (Z k 6)] 78) := ⟨_, rfl⟩
          rw [← e1]
          have hb1 : Below wr.heap.size wr w1 := by rw [e1]; exact (Below.refl _ _).alloc (Nat.le_refl _) _
          have X1 : Hid (Bk w1 wr.heap.size [.int .i64 (Z k 0), .int .i64 (Z k 1), .int .i64 (Z k 2), .int .i64 (Z k 3), .int .i64 (Z k 4), .int .i64 (Z k 5), .int .i64 (Z k 6)]) := by rw [e1]; exact bk_new wr 78 [.int .i64 (Z k 0), .int .i64 (Z k 1), .int .i64 (Z k 2), .int .i64 (Z k 3), .int .i64 (Z k 4), .int .i64 (Z k 5), .int .i64 (Z k 6)]
          clear e1
          clear yM0 yM1 hlM
          clear c0 c1 c2 c3 c4 c5 c6 q0 q1 q2 q3 q4 q5 q6
          have HB1 : Hid (Below w0.heap.size w0 w1) := bthen HB.out hb1
          have BW1 : Hid (Below w.heap.size w w1) := bthen BW.out hb1
          have MW1 : Hid (Bk w1 w.heap.size [.int .i64 c, .int .i64 d]) := MW.out.below hb1
          have hbw1 : b < w1.heap.size := Nat.lt_of_lt_of_le hbw hb1.size
          generalize wr.heap.size = gg at *
          have c0 : w1.cell? ⟨b, o + k * 7, none⟩ = some (.int .i64 (Z k 0)) := (BW1.out.cell (p := ⟨b, _, none⟩) hb).trans (HW.out k 0 hkn (by omega))
          have c1 : w1.cell? ⟨b, o + k * 7 + 1, none⟩ = some (.int .i64 (Z k 1)) := (BW1.out.cell (p := ⟨b, _, none⟩) hb).trans (HW.out k 1 hkn (by omega))
          have c2 : w1.cell? ⟨b, o + k * 7 + 2, none⟩ = some (.int .i64 (Z k 2)) := (BW1.out.cell (p := ⟨b, _, none⟩) hb).trans (HW.out k 2 hkn (by omega))
          have c3 : w1.cell? ⟨b, o + k * 7 + 3, none⟩ = some (.int .i64 (Z k 3)) := (BW1.out.cell (p := ⟨b, _, none⟩) hb).trans (HW.out k 3 hkn (by omega))
          have c4 : w1.cell? ⟨b, o + k * 7 + 4, none⟩ = some (.int .i64 (Z k 4)) := (BW1.out.cell (p := ⟨b, _, none⟩) hb).trans (HW.out k 4 hkn (by omega))
          have c5 : w1.cell? ⟨b, o + k * 7 + 5, none⟩ = some (.int .i64 (Z k 5)) := (BW1.out.cell (p := ⟨b, _, none⟩) hb).trans (HW.out k 5 hkn (by omega))
          have c6 : w1.cell? ⟨b, o + k * 7 + 6, none⟩ = some (.int .i64 (Z k 6)) := (BW1.out.cell (p := ⟨b, _, none⟩) hb).trans (HW.out k 6 hkn (by omega))
          have q0 : w1.cell? ⟨b, o + m * 7, none⟩ = some (.int .i64 (Z m 0)) := (BW1.out.cell (p := ⟨b, _, none⟩) hb).trans (HW.out m 0 (by omega) (by omega))
          have q1 : w1.cell? ⟨b, o + m * 7 + 1, none⟩ = some (.int .i64 (Z m 1)) := (BW1.out.cell (p := ⟨b, _, none⟩) hb).trans (HW.out m 1 (by omega) (by omega))
          have q2 : w1.cell? ⟨b, o + m * 7 + 2, none⟩ = some (.int .i64 (Z m 2)) := (BW1.out.cell (p := ⟨b, _, none⟩) hb).trans (HW.out m 2 (by omega) (by omega))
          have q3 : w1.cell? ⟨b, o + m * 7 + 3, none⟩ = some (.int .i64 (Z m 3)) := (BW1.out.cell (p := ⟨b, _, none⟩) hb).trans (HW.out m 3 (by omega) (by omega))
          have q4 : w1.cell? ⟨b, o + m * 7 + 4, none⟩ = some (.int .i64 (Z m 4)) := (BW1.out.cell (p := ⟨b, _, none⟩) hb).trans (HW.out m 4 (by omega) (by omega))
          have q5 : w1.cell? ⟨b, o + m * 7 + 5, none⟩ = some (.int .i64 (Z m 5)) := (BW1.out.cell (p := ⟨b, _, none⟩) hb).trans (HW.out m 5 (by omega) (by omega))
          have q6 : w1.cell? ⟨b, o + m * 7 + 6, none⟩ = some (.int .i64 (Z m 6)) := (BW1.out.cell (p := ⟨b, _, none⟩) hb).trans (HW.out m 6 (by omega) (by omega))
          have yM0 : w1.cell? ⟨w.heap.size, 0, none⟩ = some (.int .i64 c) := (MW1.out.2 0 (by simp)).1
          have yM1 : w1.cell? ⟨w.heap.size, 1, none⟩ = some (.int .i64 d) := (MW1.out.2 1 (by simp)).1
          have hlM : w.heap.size < w1.heap.size := MW1.out.1
          have yG0 : w1.cell? ⟨gg, 0, none⟩ = some (.int .i64 (Z k 0)) := (X1.out.2 0 (by simp)).1
          have yG1 : w1.cell? ⟨gg, 1, none⟩ = some (.int .i64 (Z k 1)) := (X1.out.2 1 (by simp)).1
          have yG2 : w1.cell? ⟨gg, 2, none⟩ = some (.int .i64 (Z k 2)) := (X1.out.2 2 (by simp)).1
          have yG3 : w1.cell? ⟨gg, 3, none⟩ = some (.int .i64 (Z k 3)) := (X1.out.2 3 (by simp)).1
          have yG4 : w1.cell? ⟨gg, 4, none⟩ = some (.int .i64 (Z k 4)) := (X1.out.2 4 (by simp)).1
          have yG5 : w1.cell? ⟨gg, 5, none⟩ = some (.int .i64 (Z k 5)) := (X1.out.2 5 (by simp)).1
          have yG6 : w1.cell? ⟨gg, 6, none⟩ = some (.int .i64 (Z k 6)) := (X1.out.2 6 (by simp)).1
          have hlG : gg < w1.heap.size := X1.out.1
          refine wp_region_held_drew (S := fun w' => (∀ b o, b < w1.heap.size → w'.cell? ⟨b, o, none⟩ = w1.cell? ⟨b, o, none⟩) ∧ w1.heap.size ≤ w'.heap.size) (by kernel_rfl) ⟨fun _ _ _ => rfl, Nat.le_refl _⟩ ?_
          intro hHeld
          refine wpAnyH_take (i := 0) (v := .agg #[.int .i64 c, .int .i64 d]) rfl (by kernel_rfl) (by kernel_rfl) (by kernel_rfl) (fun _ _ _ h => h) (Or.inl ⟨by rfl, ?_⟩) (by assumption) ?_
          · intro wx hSw; go_simp
          try simp only [Act.put, List.setIfInBounds_toArray, List.set_cons_zero, List.set_cons_succ, List.getElem_toArray, List.getElem_cons_zero]
          refine wpAnyH_take (i := 1) (v := .agg #[.int .i64 (Z k 0), .int .i64 (Z k 1), .int .i64 (Z k 2), .int .i64 (Z k 3), .int .i64 (Z k 4), .int .i64 (Z k 5), .int .i64 (Z k 6)]) rfl (by kernel_rfl) (by kernel_rfl) (by kernel_rfl) (fun _ _ _ h => h) (Or.inl ⟨by rfl, ?_⟩) (by assumption) ?_
          · intro wx hSw; go_simp
          try simp only [Act.put, List.setIfInBounds_toArray, List.set_cons_zero, List.set_cons_succ, List.getElem_toArray, List.getElem_cons_zero, List.getElem_cons_succ]
          refine wpAnyH_ready (rs := [2]) (by kernel_rfl) (by simp) ?_
          refine AllReadyH.cons rfl (fun K hK => ?_) AllReadyH.nil
          go_simp
          go_wp2_with fail
          refine (gstOk_impl _ _ _ _ _ _ _ _ _ _).mono ?_
          rintro e x1 ⟨rfl, hx1⟩
          rw [show gstB c d (Z k 0) (Z k 1) (Z k 2) (Z k 3) (Z k 4) (Z k 5) (Z k 6) = true from hg]
          refine hK.out _ _ (keepS (by assumption) hx1) (fun hNew => ?_)
          clear hK K hHeld
          have hHeld := hNew
          clear hNew
          try simp only [Act.put, List.setIfInBounds_toArray, List.set_cons_zero, List.set_cons_succ, List.getElem_toArray, List.getElem_cons_zero, List.getElem_cons_succ]
          refine wpAnyH_take (i := 3) (v := .bool false) rfl (by kernel_rfl) (by kernel_rfl) (by kernel_rfl) (fun _ _ _ h => h) (Or.inl ⟨by rfl, ?_⟩) (by assumption) ?_
          · intro wx hSw; go_simp
          try simp only [Act.put, List.setIfInBounds_toArray, List.set_cons_zero, List.set_cons_succ, List.getElem_toArray, List.getElem_cons_zero, List.getElem_cons_succ]
          refine wpAnyH_take (i := 4) (v := .bool false) rfl (by kernel_rfl) (by kernel_rfl) (by kernel_rfl) (fun _ _ _ h => h) (Or.inl ⟨by rfl, ?_⟩) (by assumption) ?_
          · intro wx hSw; go_simp
          try simp only [Act.put, List.setIfInBounds_toArray, List.set_cons_zero, List.set_cons_succ, List.getElem_toArray, List.getElem_cons_zero, List.getElem_cons_succ]
          refine wpAnyH_take (i := 5) (v := .int .i64 (k : Int)) rfl (by kernel_rfl) (by kernel_rfl) (by kernel_rfl) (fun _ _ _ h => h) (Or.inl ⟨by rfl, ?_⟩) (by assumption) ?_
          · intro wx hSw; go_simp
          try simp only [Act.put, List.setIfInBounds_toArray, List.set_cons_zero, List.set_cons_succ, List.getElem_toArray, List.getElem_cons_zero, List.getElem_cons_succ]
          refine wpAnyH_take (i := 6) (v := .bool true) rfl (by kernel_rfl) (by kernel_rfl) (by kernel_rfl) (fun _ _ _ h => h) (Or.inl ⟨by rfl, ?_⟩) (by assumption) ?_
          · intro wx hSw; go_simp <;> first | omega | (exact IntWalk.i64_in _ (by omega)) | go_num
          try simp only [Act.put, List.setIfInBounds_toArray, List.set_cons_zero, List.set_cons_succ, List.getElem_toArray, List.getElem_cons_zero, List.getElem_cons_succ]
          refine wpAnyH_take (i := 7) (v := .bool true) rfl (by kernel_rfl) (by kernel_rfl) (by kernel_rfl) (fun _ _ _ h => h) (Or.inl ⟨by rfl, ?_⟩) (by assumption) ?_
          · intro wx hSw; go_simp
          try simp only [Act.put, List.setIfInBounds_toArray, List.set_cons_zero, List.set_cons_succ, List.getElem_toArray, List.getElem_cons_zero, List.getElem_cons_succ]
          refine wpAnyH_take (i := 8) (v := .slice (some ⟨b, o, none⟩) n cap) rfl (by kernel_rfl) (by kernel_rfl) (by kernel_rfl) (fun _ _ _ h => h) (Or.inl ⟨by rfl, ?_⟩) (by assumption) ?_
          · intro wx hSw; go_simp
          try simp only [Act.put, List.setIfInBounds_toArray, List.set_cons_zero, List.set_cons_succ, List.getElem_toArray, List.getElem_cons_zero, List.getElem_cons_succ]
          refine wpAnyH_take (i := 9) (v := .int .i64 (k : Int)) rfl (by kernel_rfl) (by kernel_rfl) (by kernel_rfl) (fun _ _ _ h => h) (Or.inl ⟨by rfl, ?_⟩) (by assumption) ?_
          · intro wx hSw; go_simp
          try simp only [Act.put, List.setIfInBounds_toArray, List.set_cons_zero, List.set_cons_succ, List.getElem_toArray, List.getElem_cons_zero, List.getElem_cons_succ]
          refine wpAnyH_take (i := 10) (v := .int .i64 (m : Int)) rfl (by kernel_rfl) (by kernel_rfl) (by kernel_rfl) (fun _ _ _ h => h) (Or.inl ⟨by rfl, ?_⟩) (by assumption) ?_
          · intro wx hSw; go_simp <;> first | omega | (exact IntWalk.i64_in _ (by omega)) | go_num
          try simp only [Act.put, List.setIfInBounds_toArray, List.set_cons_zero, List.set_cons_succ, List.getElem_toArray, List.getElem_cons_zero, List.getElem_cons_succ]
          refine wpAnyH_take (i := 11) (v := .pointer (some ⟨b, o + m * 7, none⟩)) rfl (by kernel_rfl) (by kernel_rfl) (by kernel_rfl) (fun _ _ _ h => h) (Or.inl ⟨by rfl, ?_⟩) (by assumption) ?_
          · intro wx hSw; go_simp
          try simp only [Act.put, List.setIfInBounds_toArray, List.set_cons_zero, List.set_cons_succ, List.getElem_toArray, List.getElem_cons_zero, List.getElem_cons_succ]
          refine wpAnyH_take (i := 12) (v := .agg #[.int .i64 (Z m 0), .int .i64 (Z m 1), .int .i64 (Z m 2), .int .i64 (Z m 3), .int .i64 (Z m 4), .int .i64 (Z m 5), .int .i64 (Z m 6)]) rfl (by kernel_rfl) (by kernel_rfl) (by kernel_rfl) (fun _ _ _ h => h) (Or.inl ⟨by rfl, ?_⟩) (by assumption) ?_
          · intro wx hSw; go_simp
          try simp only [Act.put, List.setIfInBounds_toArray, List.set_cons_zero, List.set_cons_succ, List.getElem_toArray, List.getElem_cons_zero, List.getElem_cons_succ]
          refine wpAnyH_take (i := 14) (v := .agg #[.int .i64 (Z k 0), .int .i64 (Z k 1), .int .i64 (Z k 2), .int .i64 (Z k 3), .int .i64 (Z k 4), .int .i64 (Z k 5), .int .i64 (Z k 6)]) rfl (by kernel_rfl) (by kernel_rfl) (by kernel_rfl) (fun _ _ _ h => h) (Or.inl ⟨by rfl, ?_⟩) (by assumption) ?_
          · intro wx hSw; go_simp
          try simp only [Act.put, List.setIfInBounds_toArray, List.set_cons_zero, List.set_cons_succ, List.getElem_toArray, List.getElem_cons_zero, List.getElem_cons_succ]
          refine wpAnyH_ready (rs := [13]) (by kernel_rfl) (by simp) ?_
          refine AllReadyH.cons rfl (fun K hK => ?_) AllReadyH.nil
          go_simp
          go_wp2_with fail
          refine (key_impl _ _ _ _ _ _ _ _).mono ?_
          rintro e x2 ⟨rfl, hx2⟩
          refine hK.out _ _ (keepS (by assumption) hx2) (fun hNew => ?_)
          clear hK K hHeld
          have hHeld := hNew
          clear hNew
          try simp only [Act.put, List.setIfInBounds_toArray, List.set_cons_zero, List.set_cons_succ, List.getElem_toArray, List.getElem_cons_zero, List.getElem_cons_succ]
          refine wpAnyH_ready (rs := [15]) (by kernel_rfl) (by simp) ?_
          refine AllReadyH.cons rfl (fun K hK => ?_) AllReadyH.nil
          go_simp
          go_wp2_with fail
          refine (key_impl _ _ _ _ _ _ _ _).mono ?_
          rintro e x3 ⟨rfl, hx3⟩
          refine hK.out _ _ (keepS (by assumption) hx3) (fun hNew => ?_)
          clear hK K hHeld
          have hHeld := hNew
          clear hNew
          try simp only [Act.put, List.setIfInBounds_toArray, List.set_cons_zero, List.set_cons_succ, List.getElem_toArray, List.getElem_cons_zero, List.getElem_cons_succ]
          refine wpAnyH_ready (rs := [16]) (by kernel_rfl) (by simp) ?_
          refine AllReadyH.cons rfl (fun K hK => ?_) AllReadyH.nil
          go_simp
          go_wp2_with fail
          refine (keys_impl _ _ _ _ _).mono ?_
          rintro e x4 ⟨rfl, hx4⟩
          refine hK.out _ _ (keepS (by assumption) hx4) (fun hNew => ?_)
          clear hK K hHeld
          have hHeld := hNew
          clear hNew
          try simp only [Act.put, List.setIfInBounds_toArray, List.set_cons_zero, List.set_cons_succ, List.getElem_toArray, List.getElem_cons_zero, List.getElem_cons_succ]
          refine wpAnyH_take (i := 17) (v := .bool true) rfl (by kernel_rfl) (by kernel_rfl) (by kernel_rfl) (fun _ _ _ h => h) (Or.inl ⟨by rfl, ?_⟩) (by assumption) ?_
          · intro wx hSw; go_simp <;> first | omega | (exact IntWalk.i64_in _ (by omega)) | go_num
          try simp only [Act.put, List.setIfInBounds_toArray, List.set_cons_zero, List.set_cons_succ, List.getElem_toArray, List.getElem_cons_zero, List.getElem_cons_succ]
          refine wpAnyH_take (i := 18) (v := .bool true) rfl (by kernel_rfl) (by kernel_rfl) (by kernel_rfl) (fun _ _ _ h => h) (Or.inl ⟨by rfl, ?_⟩) (by assumption) ?_
          · intro wx hSw; go_simp
          try simp only [Act.put, List.setIfInBounds_toArray, List.set_cons_zero, List.set_cons_succ, List.getElem_toArray, List.getElem_cons_zero, List.getElem_cons_succ]
          refine wpAnyH_take (i := 19) (v := .bool true) rfl (by kernel_rfl) (by kernel_rfl) (by kernel_rfl) (fun _ _ _ h => h) (Or.inl ⟨by rfl, ?_⟩) (by assumption) ?_
          · intro wx hSw; go_simp
          try simp only [Act.put, List.setIfInBounds_toArray, List.set_cons_zero, List.set_cons_succ, List.getElem_toArray, List.getElem_cons_zero, List.getElem_cons_succ]
          refine wpAnyH_done (by kernel_rfl) ?_ _
          clear hHeld
          clear yM0 yM1 hlM yG0 yG1 yG2 yG3 yG4 yG5 yG6 hlG
          clear c0 c1 c2 c3 c4 c5 c6 q0 q1 q2 q3 q4 q5 q6
          go_wp2
          go_ret
          exact ⟨by rw [ghostsB_false hkn hst] <;> rfl, bthen BW1.out (by repeat (first | exact Below.refl _ _ | refine bthen ?_ (by assumption) | apply Below.drew))⟩
        · have hst : stepB c d Z k = true := by simp [stepB, hg, hmk, hl]
          clear hmk hk0
          have hm1 : m < k := by omega
          clear hm
          have hd : ¬ 0 ≤ cmpK (Z m 0) (Z m 2) (Z k 0) (Z k 2) := by have := cmpK_less (Z m) (Z k); rw [hl] at this; simpa using this
          have c0 : wr.cell? ⟨b, o + k * 7, none⟩ = some (.int .i64 (Z k 0)) := (BW.out.cell (p := ⟨b, _, none⟩) hb).trans (HW.out k 0 hkn (by omega))
          have c1 : wr.cell? ⟨b, o + k * 7 + 1, none⟩ = some (.int .i64 (Z k 1)) := (BW.out.cell (p := ⟨b, _, none⟩) hb).trans (HW.out k 1 hkn (by omega))
          have c2 : wr.cell? ⟨b, o + k * 7 + 2, none⟩ = some (.int .i64 (Z k 2)) := (BW.out.cell (p := ⟨b, _, none⟩) hb).trans (HW.out k 2 hkn (by omega))
          have c3 : wr.cell? ⟨b, o + k * 7 + 3, none⟩ = some (.int .i64 (Z k 3)) := (BW.out.cell (p := ⟨b, _, none⟩) hb).trans (HW.out k 3 hkn (by omega))
          have c4 : wr.cell? ⟨b, o + k * 7 + 4, none⟩ = some (.int .i64 (Z k 4)) := (BW.out.cell (p := ⟨b, _, none⟩) hb).trans (HW.out k 4 hkn (by omega))
          have c5 : wr.cell? ⟨b, o + k * 7 + 5, none⟩ = some (.int .i64 (Z k 5)) := (BW.out.cell (p := ⟨b, _, none⟩) hb).trans (HW.out k 5 hkn (by omega))
          have c6 : wr.cell? ⟨b, o + k * 7 + 6, none⟩ = some (.int .i64 (Z k 6)) := (BW.out.cell (p := ⟨b, _, none⟩) hb).trans (HW.out k 6 hkn (by omega))
          have q0 : wr.cell? ⟨b, o + m * 7, none⟩ = some (.int .i64 (Z m 0)) := (BW.out.cell (p := ⟨b, _, none⟩) hb).trans (HW.out m 0 (by omega) (by omega))
          have q1 : wr.cell? ⟨b, o + m * 7 + 1, none⟩ = some (.int .i64 (Z m 1)) := (BW.out.cell (p := ⟨b, _, none⟩) hb).trans (HW.out m 1 (by omega) (by omega))
          have q2 : wr.cell? ⟨b, o + m * 7 + 2, none⟩ = some (.int .i64 (Z m 2)) := (BW.out.cell (p := ⟨b, _, none⟩) hb).trans (HW.out m 2 (by omega) (by omega))
          have q3 : wr.cell? ⟨b, o + m * 7 + 3, none⟩ = some (.int .i64 (Z m 3)) := (BW.out.cell (p := ⟨b, _, none⟩) hb).trans (HW.out m 3 (by omega) (by omega))
          have q4 : wr.cell? ⟨b, o + m * 7 + 4, none⟩ = some (.int .i64 (Z m 4)) := (BW.out.cell (p := ⟨b, _, none⟩) hb).trans (HW.out m 4 (by omega) (by omega))
          have q5 : wr.cell? ⟨b, o + m * 7 + 5, none⟩ = some (.int .i64 (Z m 5)) := (BW.out.cell (p := ⟨b, _, none⟩) hb).trans (HW.out m 5 (by omega) (by omega))
          have q6 : wr.cell? ⟨b, o + m * 7 + 6, none⟩ = some (.int .i64 (Z m 6)) := (BW.out.cell (p := ⟨b, _, none⟩) hb).trans (HW.out m 6 (by omega) (by omega))
          have yM0 : wr.cell? ⟨w.heap.size, 0, none⟩ = some (.int .i64 c) := (MW.out.2 0 (by simp)).1
          have yM1 : wr.cell? ⟨w.heap.size, 1, none⟩ = some (.int .i64 d) := (MW.out.2 1 (by simp)).1
          have hlM : w.heap.size < wr.heap.size := MW.out.1
          go_wp2
          obtain ⟨w1, e1⟩ : ∃ w1, w1 = wr.alloc (.cells #[.int .i64 (Z k 0), .int .i64 (Z k 1), .int .i64 (Z k 2), .int .i64 (Z k 3), .int .i64 (Z k 4), .int .i64 (Z k 5), .int .i64 (Z k 6)] 78) := ⟨_, rfl⟩
          rw [← e1]
          have hb1 : Below wr.heap.size wr w1 := by rw [e1]; exact (Below.refl _ _).alloc (Nat.le_refl _) _
          have X1 : Hid (Bk w1 wr.heap.size [.int .i64 (Z k 0), .int .i64 (Z k 1), .int .i64 (Z k 2), .int .i64 (Z k 3), .int .i64 (Z k 4), .int .i64 (Z k 5), .int .i64 (Z k 6)]) := by rw [e1]; exact bk_new wr 78 [.int .i64 (Z k 0), .int .i64 (Z k 1), .int .i64 (Z k 2), .int .i64 (Z k 3), .int .i64 (Z k 4), .int .i64 (Z k 5), .int .i64 (Z k 6)]
          clear e1
          clear yM0 yM1 hlM
          clear c0 c1 c2 c3 c4 c5 c6 q0 q1 q2 q3 q4 q5 q6
          have HB1 : Hid (Below w0.heap.size w0 w1) := bthen HB.out hb1
          have BW1 : Hid (Below w.heap.size w w1) := bthen BW.out hb1
          have MW1 : Hid (Bk w1 w.heap.size [.int .i64 c, .int .i64 d]) := MW.out.below hb1
          have hbw1 : b < w1.heap.size := Nat.lt_of_lt_of_le hbw hb1.size
          generalize wr.heap.size = gg at *
          have c0 : w1.cell? ⟨b, o + k * 7, none⟩ = some (.int .i64 (Z k 0)) := (BW1.out.cell (p := ⟨b, _, none⟩) hb).trans (HW.out k 0 hkn (by omega))
          have c1 : w1.cell? ⟨b, o + k * 7 + 1, none⟩ = some (.int .i64 (Z k 1)) := (BW1.out.cell (p := ⟨b, _, none⟩) hb).trans (HW.out k 1 hkn (by omega))
          have c2 : w1.cell? ⟨b, o + k * 7 + 2, none⟩ = some (.int .i64 (Z k 2)) := (BW1.out.cell (p := ⟨b, _, none⟩) hb).trans (HW.out k 2 hkn (by omega))
          have c3 : w1.cell? ⟨b, o + k * 7 + 3, none⟩ = some (.int .i64 (Z k 3)) := (BW1.out.cell (p := ⟨b, _, none⟩) hb).trans (HW.out k 3 hkn (by omega))
          have c4 : w1.cell? ⟨b, o + k * 7 + 4, none⟩ = some (.int .i64 (Z k 4)) := (BW1.out.cell (p := ⟨b, _, none⟩) hb).trans (HW.out k 4 hkn (by omega))
          have c5 : w1.cell? ⟨b, o + k * 7 + 5, none⟩ = some (.int .i64 (Z k 5)) := (BW1.out.cell (p := ⟨b, _, none⟩) hb).trans (HW.out k 5 hkn (by omega))
          have c6 : w1.cell? ⟨b, o + k * 7 + 6, none⟩ = some (.int .i64 (Z k 6)) := (BW1.out.cell (p := ⟨b, _, none⟩) hb).trans (HW.out k 6 hkn (by omega))
          have q0 : w1.cell? ⟨b, o + m * 7, none⟩ = some (.int .i64 (Z m 0)) := (BW1.out.cell (p := ⟨b, _, none⟩) hb).trans (HW.out m 0 (by omega) (by omega))
          have q1 : w1.cell? ⟨b, o + m * 7 + 1, none⟩ = some (.int .i64 (Z m 1)) := (BW1.out.cell (p := ⟨b, _, none⟩) hb).trans (HW.out m 1 (by omega) (by omega))
          have q2 : w1.cell? ⟨b, o + m * 7 + 2, none⟩ = some (.int .i64 (Z m 2)) := (BW1.out.cell (p := ⟨b, _, none⟩) hb).trans (HW.out m 2 (by omega) (by omega))
          have q3 : w1.cell? ⟨b, o + m * 7 + 3, none⟩ = some (.int .i64 (Z m 3)) := (BW1.out.cell (p := ⟨b, _, none⟩) hb).trans (HW.out m 3 (by omega) (by omega))
          have q4 : w1.cell? ⟨b, o + m * 7 + 4, none⟩ = some (.int .i64 (Z m 4)) := (BW1.out.cell (p := ⟨b, _, none⟩) hb).trans (HW.out m 4 (by omega) (by omega))
          have q5 : w1.cell? ⟨b, o + m * 7 + 5, none⟩ = some (.int .i64 (Z m 5)) := (BW1.out.cell (p := ⟨b, _, none⟩) hb).trans (HW.out m 5 (by omega) (by omega))
          have q6 : w1.cell? ⟨b, o + m * 7 + 6, none⟩ = some (.int .i64 (Z m 6)) := (BW1.out.cell (p := ⟨b, _, none⟩) hb).trans (HW.out m 6 (by omega) (by omega))
          have yM0 : w1.cell? ⟨w.heap.size, 0, none⟩ = some (.int .i64 c) := (MW1.out.2 0 (by simp)).1
          have yM1 : w1.cell? ⟨w.heap.size, 1, none⟩ = some (.int .i64 d) := (MW1.out.2 1 (by simp)).1
          have hlM : w.heap.size < w1.heap.size := MW1.out.1
          have yG0 : w1.cell? ⟨gg, 0, none⟩ = some (.int .i64 (Z k 0)) := (X1.out.2 0 (by simp)).1
          have yG1 : w1.cell? ⟨gg, 1, none⟩ = some (.int .i64 (Z k 1)) := (X1.out.2 1 (by simp)).1
          have yG2 : w1.cell? ⟨gg, 2, none⟩ = some (.int .i64 (Z k 2)) := (X1.out.2 2 (by simp)).1
          have yG3 : w1.cell? ⟨gg, 3, none⟩ = some (.int .i64 (Z k 3)) := (X1.out.2 3 (by simp)).1
          have yG4 : w1.cell? ⟨gg, 4, none⟩ = some (.int .i64 (Z k 4)) := (X1.out.2 4 (by simp)).1
          have yG5 : w1.cell? ⟨gg, 5, none⟩ = some (.int .i64 (Z k 5)) := (X1.out.2 5 (by simp)).1
          have yG6 : w1.cell? ⟨gg, 6, none⟩ = some (.int .i64 (Z k 6)) := (X1.out.2 6 (by simp)).1
          have hlG : gg < w1.heap.size := X1.out.1
          refine wp_region_held_drew (S := fun w' => (∀ b o, b < w1.heap.size → w'.cell? ⟨b, o, none⟩ = w1.cell? ⟨b, o, none⟩) ∧ w1.heap.size ≤ w'.heap.size) (by kernel_rfl) ⟨fun _ _ _ => rfl, Nat.le_refl _⟩ ?_
          intro hHeld
          refine wpAnyH_take (i := 0) (v := .agg #[.int .i64 c, .int .i64 d]) rfl (by kernel_rfl) (by kernel_rfl) (by kernel_rfl) (fun _ _ _ h => h) (Or.inl ⟨by rfl, ?_⟩) (by assumption) ?_
          · intro wx hSw; go_simp
          try simp only [Act.put, List.setIfInBounds_toArray, List.set_cons_zero, List.set_cons_succ, List.getElem_toArray, List.getElem_cons_zero]
          refine wpAnyH_take (i := 1) (v := .agg #[.int .i64 (Z k 0), .int .i64 (Z k 1), .int .i64 (Z k 2), .int .i64 (Z k 3), .int .i64 (Z k 4), .int .i64 (Z k 5), .int .i64 (Z k 6)]) rfl (by kernel_rfl) (by kernel_rfl) (by kernel_rfl) (fun _ _ _ h => h) (Or.inl ⟨by rfl, ?_⟩) (by assumption) ?_
          · intro wx hSw; go_simp
          try simp only [Act.put, List.setIfInBounds_toArray, List.set_cons_zero, List.set_cons_succ, List.getElem_toArray, List.getElem_cons_zero, List.getElem_cons_succ]
          refine wpAnyH_ready (rs := [2]) (by kernel_rfl) (by simp) ?_
          refine AllReadyH.cons rfl (fun K hK => ?_) AllReadyH.nil
          go_simp
          go_wp2_with fail
          refine (gstOk_impl _ _ _ _ _ _ _ _ _ _).mono ?_
          rintro e x1 ⟨rfl, hx1⟩
          rw [show gstB c d (Z k 0) (Z k 1) (Z k 2) (Z k 3) (Z k 4) (Z k 5) (Z k 6) = true from hg]
          refine hK.out _ _ (keepS (by assumption) hx1) (fun hNew => ?_)
          clear hK K hHeld
          have hHeld := hNew
          clear hNew
          try simp only [Act.put, List.setIfInBounds_toArray, List.set_cons_zero, List.set_cons_succ, List.getElem_toArray, List.getElem_cons_zero, List.getElem_cons_succ]
          refine wpAnyH_take (i := 3) (v := .bool false) rfl (by kernel_rfl) (by kernel_rfl) (by kernel_rfl) (fun _ _ _ h => h) (Or.inl ⟨by rfl, ?_⟩) (by assumption) ?_
          · intro wx hSw; go_simp
          try simp only [Act.put, List.setIfInBounds_toArray, List.set_cons_zero, List.set_cons_succ, List.getElem_toArray, List.getElem_cons_zero, List.getElem_cons_succ]
          refine wpAnyH_take (i := 4) (v := .bool false) rfl (by kernel_rfl) (by kernel_rfl) (by kernel_rfl) (fun _ _ _ h => h) (Or.inl ⟨by rfl, ?_⟩) (by assumption) ?_
          · intro wx hSw; go_simp
          try simp only [Act.put, List.setIfInBounds_toArray, List.set_cons_zero, List.set_cons_succ, List.getElem_toArray, List.getElem_cons_zero, List.getElem_cons_succ]
          refine wpAnyH_take (i := 5) (v := .int .i64 (k : Int)) rfl (by kernel_rfl) (by kernel_rfl) (by kernel_rfl) (fun _ _ _ h => h) (Or.inl ⟨by rfl, ?_⟩) (by assumption) ?_
          · intro wx hSw; go_simp
          try simp only [Act.put, List.setIfInBounds_toArray, List.set_cons_zero, List.set_cons_succ, List.getElem_toArray, List.getElem_cons_zero, List.getElem_cons_succ]
          refine wpAnyH_take (i := 6) (v := .bool true) rfl (by kernel_rfl) (by kernel_rfl) (by kernel_rfl) (fun _ _ _ h => h) (Or.inl ⟨by rfl, ?_⟩) (by assumption) ?_
          · intro wx hSw; go_simp <;> first | omega | (exact IntWalk.i64_in _ (by omega)) | go_num
          try simp only [Act.put, List.setIfInBounds_toArray, List.set_cons_zero, List.set_cons_succ, List.getElem_toArray, List.getElem_cons_zero, List.getElem_cons_succ]
          refine wpAnyH_take (i := 7) (v := .bool true) rfl (by kernel_rfl) (by kernel_rfl) (by kernel_rfl) (fun _ _ _ h => h) (Or.inl ⟨by rfl, ?_⟩) (by assumption) ?_
          · intro wx hSw; go_simp
          try simp only [Act.put, List.setIfInBounds_toArray, List.set_cons_zero, List.set_cons_succ, List.getElem_toArray, List.getElem_cons_zero, List.getElem_cons_succ]
          refine wpAnyH_take (i := 8) (v := .slice (some ⟨b, o, none⟩) n cap) rfl (by kernel_rfl) (by kernel_rfl) (by kernel_rfl) (fun _ _ _ h => h) (Or.inl ⟨by rfl, ?_⟩) (by assumption) ?_
          · intro wx hSw; go_simp
          try simp only [Act.put, List.setIfInBounds_toArray, List.set_cons_zero, List.set_cons_succ, List.getElem_toArray, List.getElem_cons_zero, List.getElem_cons_succ]
          refine wpAnyH_take (i := 9) (v := .int .i64 (k : Int)) rfl (by kernel_rfl) (by kernel_rfl) (by kernel_rfl) (fun _ _ _ h => h) (Or.inl ⟨by rfl, ?_⟩) (by assumption) ?_
          · intro wx hSw; go_simp
          try simp only [Act.put, List.setIfInBounds_toArray, List.set_cons_zero, List.set_cons_succ, List.getElem_toArray, List.getElem_cons_zero, List.getElem_cons_succ]
          refine wpAnyH_take (i := 10) (v := .int .i64 (m : Int)) rfl (by kernel_rfl) (by kernel_rfl) (by kernel_rfl) (fun _ _ _ h => h) (Or.inl ⟨by rfl, ?_⟩) (by assumption) ?_
          · intro wx hSw; go_simp <;> first | omega | (exact IntWalk.i64_in _ (by omega)) | go_num
          try simp only [Act.put, List.setIfInBounds_toArray, List.set_cons_zero, List.set_cons_succ, List.getElem_toArray, List.getElem_cons_zero, List.getElem_cons_succ]
          refine wpAnyH_take (i := 11) (v := .pointer (some ⟨b, o + m * 7, none⟩)) rfl (by kernel_rfl) (by kernel_rfl) (by kernel_rfl) (fun _ _ _ h => h) (Or.inl ⟨by rfl, ?_⟩) (by assumption) ?_
          · intro wx hSw; go_simp
          try simp only [Act.put, List.setIfInBounds_toArray, List.set_cons_zero, List.set_cons_succ, List.getElem_toArray, List.getElem_cons_zero, List.getElem_cons_succ]
          refine wpAnyH_take (i := 12) (v := .agg #[.int .i64 (Z m 0), .int .i64 (Z m 1), .int .i64 (Z m 2), .int .i64 (Z m 3), .int .i64 (Z m 4), .int .i64 (Z m 5), .int .i64 (Z m 6)]) rfl (by kernel_rfl) (by kernel_rfl) (by kernel_rfl) (fun _ _ _ h => h) (Or.inl ⟨by rfl, ?_⟩) (by assumption) ?_
          · intro wx hSw; go_simp
          try simp only [Act.put, List.setIfInBounds_toArray, List.set_cons_zero, List.set_cons_succ, List.getElem_toArray, List.getElem_cons_zero, List.getElem_cons_succ]
          refine wpAnyH_take (i := 14) (v := .agg #[.int .i64 (Z k 0), .int .i64 (Z k 1), .int .i64 (Z k 2), .int .i64 (Z k 3), .int .i64 (Z k 4), .int .i64 (Z k 5), .int .i64 (Z k 6)]) rfl (by kernel_rfl) (by kernel_rfl) (by kernel_rfl) (fun _ _ _ h => h) (Or.inl ⟨by rfl, ?_⟩) (by assumption) ?_
          · intro wx hSw; go_simp
          try simp only [Act.put, List.setIfInBounds_toArray, List.set_cons_zero, List.set_cons_succ, List.getElem_toArray, List.getElem_cons_zero, List.getElem_cons_succ]
          refine wpAnyH_ready (rs := [13]) (by kernel_rfl) (by simp) ?_
          refine AllReadyH.cons rfl (fun K hK => ?_) AllReadyH.nil
          go_simp
          go_wp2_with fail
          refine (key_impl _ _ _ _ _ _ _ _).mono ?_
          rintro e x2 ⟨rfl, hx2⟩
          refine hK.out _ _ (keepS (by assumption) hx2) (fun hNew => ?_)
          clear hK K hHeld
          have hHeld := hNew
          clear hNew
          try simp only [Act.put, List.setIfInBounds_toArray, List.set_cons_zero, List.set_cons_succ, List.getElem_toArray, List.getElem_cons_zero, List.getElem_cons_succ]
          refine wpAnyH_ready (rs := [15]) (by kernel_rfl) (by simp) ?_
          refine AllReadyH.cons rfl (fun K hK => ?_) AllReadyH.nil
          go_simp
          go_wp2_with fail
          refine (key_impl _ _ _ _ _ _ _ _).mono ?_
          rintro e x3 ⟨rfl, hx3⟩
          refine hK.out _ _ (keepS (by assumption) hx3) (fun hNew => ?_)
          clear hK K hHeld
          have hHeld := hNew
          clear hNew
          try simp only [Act.put, List.setIfInBounds_toArray, List.set_cons_zero, List.set_cons_succ, List.getElem_toArray, List.getElem_cons_zero, List.getElem_cons_succ]
          refine wpAnyH_ready (rs := [16]) (by kernel_rfl) (by simp) ?_
          refine AllReadyH.cons rfl (fun K hK => ?_) AllReadyH.nil
          go_simp
          go_wp2_with fail
          refine (keys_impl _ _ _ _ _).mono ?_
          rintro e x4 ⟨rfl, hx4⟩
          refine hK.out _ _ (keepS (by assumption) hx4) (fun hNew => ?_)
          clear hK K hHeld
          have hHeld := hNew
          clear hNew
          try simp only [Act.put, List.setIfInBounds_toArray, List.set_cons_zero, List.set_cons_succ, List.getElem_toArray, List.getElem_cons_zero, List.getElem_cons_succ]
          refine wpAnyH_take (i := 17) (v := .bool false) rfl (by kernel_rfl) (by kernel_rfl) (by kernel_rfl) (fun _ _ _ h => h) (Or.inl ⟨by rfl, ?_⟩) (by assumption) ?_
          · intro wx hSw; go_simp <;> first | omega | (exact IntWalk.i64_in _ (by omega)) | go_num
          try simp only [Act.put, List.setIfInBounds_toArray, List.set_cons_zero, List.set_cons_succ, List.getElem_toArray, List.getElem_cons_zero, List.getElem_cons_succ]
          refine wpAnyH_take (i := 18) (v := .bool false) rfl (by kernel_rfl) (by kernel_rfl) (by kernel_rfl) (fun _ _ _ h => h) (Or.inl ⟨by rfl, ?_⟩) (by assumption) ?_
          · intro wx hSw; go_simp
          try simp only [Act.put, List.setIfInBounds_toArray, List.set_cons_zero, List.set_cons_succ, List.getElem_toArray, List.getElem_cons_zero, List.getElem_cons_succ]
          refine wpAnyH_take (i := 19) (v := .bool false) rfl (by kernel_rfl) (by kernel_rfl) (by kernel_rfl) (fun _ _ _ h => h) (Or.inl ⟨by rfl, ?_⟩) (by assumption) ?_
          · intro wx hSw; go_simp
          try simp only [Act.put, List.setIfInBounds_toArray, List.set_cons_zero, List.set_cons_succ, List.getElem_toArray, List.getElem_cons_zero, List.getElem_cons_succ]
          refine wpAnyH_done (by kernel_rfl) ?_ _
          clear hHeld
          clear yM0 yM1 hlM yG0 yG1 yG2 yG3 yG4 yG5 yG6 hlG
          clear c0 c1 c2 c3 c4 c5 c6 q0 q1 q2 q3 q4 q5 q6
          go_wp2
          go_roundw
          case rel => exact ⟨k + 1, by omega, by go_num, fun j hj => by
            by_cases hjk : j = k
            · subst hjk; exact hst
            · exact HL.out j (by omega), bthen HB1.out (by repeat (first | exact Below.refl _ _ | refine bthen ?_ (by assumption) | apply Below.drew))⟩
          case measure => simp [intOf]; omega
      · have hkk : k = n := by omega
        subst hkk
        go_wp2
        go_ret
        exact ⟨by rw [ghostsB_true h20 HL.out] <;> rfl, BW.out⟩
  · have hv : ghostsB c d n Z = false := by simp [ghostsB, h20]
    rw [hv]
    have h20' : (20 : Int) < n := by omega
    go_enter Try.func25, Try.ntmps25
    go_wp2
    go_ret
    exact ⟨rfl, (Below.refl _ _).alloc (by simp) _⟩

end Go.Proofs.Ytlbjgecjonegkaa
