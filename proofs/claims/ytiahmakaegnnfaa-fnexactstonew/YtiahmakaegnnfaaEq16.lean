/- Two lists of the same records are the same; the model's LogCount; conditions: the lists lie in memory. -/
import Derived.Test.YtiahmakaegnnfaaList16
import Derived.Test.YtiahmakaegnnfaaCnt2
import Derived.Deep.RegionHeld3
import Derived.Deep.QuietTactic
import Derived.BigQuiet
namespace Go.Proofs.Ytiahmakaegnnfaa.P16
open Go.RowKit Go.Deep
set_option linter.unusedVariables false

set_option maxRecDepth 100000 in
set_option maxHeartbeats 4000000 in
theorem eqList (b1 o1 cap1 b2 o2 cap2 n : Nat) (Z : Nat → Nat → Int) (hn : n ≤ 2000000) (w : World) (hb1 : b1 < w.heap.size) (hb2 : b2 < w.heap.size)
    (h1 : ∀ k j, k < n → j < 16 → w.cell? ⟨b1, o1 + k * 16 + j, none⟩ = some (.int .i64 (Z k j))) (h2 : ∀ k j, k < n → j < 16 → w.cell? ⟨b2, o2 + k * 16 + j, none⟩ = some (.int .i64 (Z k j))) :
    Calls Try.prog 23 #[.slice (some ⟨b1, o1, none⟩) n cap1, .slice (some ⟨b2, o2, none⟩) n cap2] w fun e w' => e = .returned (.bool true) ∧ Below w.heap.size w w' := by
  have H1 : Hid (∀ k j, k < n → j < 16 → w.cell? ⟨b1, o1 + k * 16 + j, none⟩ = some (.int .i64 (Z k j))) := h1
  have H2 : Hid (∀ k j, k < n → j < 16 → w.cell? ⟨b2, o2 + k * 16 + j, none⟩ = some (.int .i64 (Z k j))) := h2
  clear h1 h2
  go_enter Try.func23, Try.ntmps23
  go_wp2
  go_loopw [5] (fun i wr => ∃ k : Nat, k ≤ n ∧ i = .int .i64 k ∧ ((∀ b o, b < w.heap.size → wr.cell? ⟨b, o, none⟩ = w.cell? ⟨b, o, none⟩) ∧ w.heap.size ≤ wr.heap.size) ∧ Below w.heap.size w wr) (fun i _ => n - (intOf i).toNat)
  case atStart => exact ⟨0, Nat.zero_le _, rfl, ⟨fun _ _ _ => rfl, Nat.le_refl _⟩, Below.refl _ _⟩
  case round =>
    obtain ⟨k, hk, rfl, HS, BR⟩ := hrel
    by_cases hkn : k < n
    · skip
      have c1_0 : w.cell? ⟨b1, o1 + k * 16, none⟩ = some (.int .i64 (Z k 0)) := H1.out k 0 hkn (by omega)
      have c1_1 : w.cell? ⟨b1, o1 + k * 16 + 1, none⟩ = some (.int .i64 (Z k 1)) := H1.out k 1 hkn (by omega)
      have c1_2 : w.cell? ⟨b1, o1 + k * 16 + 2, none⟩ = some (.int .i64 (Z k 2)) := H1.out k 2 hkn (by omega)
      have c1_3 : w.cell? ⟨b1, o1 + k * 16 + 3, none⟩ = some (.int .i64 (Z k 3)) := H1.out k 3 hkn (by omega)
      have c1_4 : w.cell? ⟨b1, o1 + k * 16 + 4, none⟩ = some (.int .i64 (Z k 4)) := H1.out k 4 hkn (by omega)
      have c1_5 : w.cell? ⟨b1, o1 + k * 16 + 5, none⟩ = some (.int .i64 (Z k 5)) := H1.out k 5 hkn (by omega)
      have c1_6 : w.cell? ⟨b1, o1 + k * 16 + 6, none⟩ = some (.int .i64 (Z k 6)) := H1.out k 6 hkn (by omega)
      have c1_7 : w.cell? ⟨b1, o1 + k * 16 + 7, none⟩ = some (.int .i64 (Z k 7)) := H1.out k 7 hkn (by omega)
      have c1_8 : w.cell? ⟨b1, o1 + k * 16 + 8, none⟩ = some (.int .i64 (Z k 8)) := H1.out k 8 hkn (by omega)
      have c1_9 : w.cell? ⟨b1, o1 + k * 16 + 9, none⟩ = some (.int .i64 (Z k 9)) := H1.out k 9 hkn (by omega)
      have c1_10 : w.cell? ⟨b1, o1 + k * 16 + 10, none⟩ = some (.int .i64 (Z k 10)) := H1.out k 10 hkn (by omega)
      have c1_11 : w.cell? ⟨b1, o1 + k * 16 + 11, none⟩ = some (.int .i64 (Z k 11)) := H1.out k 11 hkn (by omega)
      have c1_12 : w.cell? ⟨b1, o1 + k * 16 + 12, none⟩ = some (.int .i64 (Z k 12)) := H1.out k 12 hkn (by omega)
      have c1_13 : w.cell? ⟨b1, o1 + k * 16 + 13, none⟩ = some (.int .i64 (Z k 13)) := H1.out k 13 hkn (by omega)
      have c1_14 : w.cell? ⟨b1, o1 + k * 16 + 14, none⟩ = some (.int .i64 (Z k 14)) := H1.out k 14 hkn (by omega)
      have c1_15 : w.cell? ⟨b1, o1 + k * 16 + 15, none⟩ = some (.int .i64 (Z k 15)) := H1.out k 15 hkn (by omega)
      have c2_0 : w.cell? ⟨b2, o2 + k * 16, none⟩ = some (.int .i64 (Z k 0)) := H2.out k 0 hkn (by omega)
      have c2_1 : w.cell? ⟨b2, o2 + k * 16 + 1, none⟩ = some (.int .i64 (Z k 1)) := H2.out k 1 hkn (by omega)
      have c2_2 : w.cell? ⟨b2, o2 + k * 16 + 2, none⟩ = some (.int .i64 (Z k 2)) := H2.out k 2 hkn (by omega)
      have c2_3 : w.cell? ⟨b2, o2 + k * 16 + 3, none⟩ = some (.int .i64 (Z k 3)) := H2.out k 3 hkn (by omega)
      have c2_4 : w.cell? ⟨b2, o2 + k * 16 + 4, none⟩ = some (.int .i64 (Z k 4)) := H2.out k 4 hkn (by omega)
      have c2_5 : w.cell? ⟨b2, o2 + k * 16 + 5, none⟩ = some (.int .i64 (Z k 5)) := H2.out k 5 hkn (by omega)
      have c2_6 : w.cell? ⟨b2, o2 + k * 16 + 6, none⟩ = some (.int .i64 (Z k 6)) := H2.out k 6 hkn (by omega)
      have c2_7 : w.cell? ⟨b2, o2 + k * 16 + 7, none⟩ = some (.int .i64 (Z k 7)) := H2.out k 7 hkn (by omega)
      have c2_8 : w.cell? ⟨b2, o2 + k * 16 + 8, none⟩ = some (.int .i64 (Z k 8)) := H2.out k 8 hkn (by omega)
      have c2_9 : w.cell? ⟨b2, o2 + k * 16 + 9, none⟩ = some (.int .i64 (Z k 9)) := H2.out k 9 hkn (by omega)
      have c2_10 : w.cell? ⟨b2, o2 + k * 16 + 10, none⟩ = some (.int .i64 (Z k 10)) := H2.out k 10 hkn (by omega)
      have c2_11 : w.cell? ⟨b2, o2 + k * 16 + 11, none⟩ = some (.int .i64 (Z k 11)) := H2.out k 11 hkn (by omega)
      have c2_12 : w.cell? ⟨b2, o2 + k * 16 + 12, none⟩ = some (.int .i64 (Z k 12)) := H2.out k 12 hkn (by omega)
      have c2_13 : w.cell? ⟨b2, o2 + k * 16 + 13, none⟩ = some (.int .i64 (Z k 13)) := H2.out k 13 hkn (by omega)
      have c2_14 : w.cell? ⟨b2, o2 + k * 16 + 14, none⟩ = some (.int .i64 (Z k 14)) := H2.out k 14 hkn (by omega)
      have c2_15 : w.cell? ⟨b2, o2 + k * 16 + 15, none⟩ = some (.int .i64 (Z k 15)) := H2.out k 15 hkn (by omega)
      go_wp2
      refine wp_region_held_drew (S := fun w' => (∀ b o, b < w.heap.size → w'.cell? ⟨b, o, none⟩ = w.cell? ⟨b, o, none⟩) ∧ w.heap.size ≤ w'.heap.size) (by kernel_rfl) HS ?_
      intro hHeld
      refine wpAnyH_take (i := 0) (v := .slice (some ⟨b1, o1, none⟩) n cap1) rfl (by kernel_rfl) (by kernel_rfl) (by kernel_rfl) (fun _ _ _ h => h) (Or.inl ⟨by rfl, ?_⟩) (by assumption) ?_
      · intro wx hSw; go_simp
      try simp only [Act.put, List.setIfInBounds_toArray, List.set_cons_zero, List.set_cons_succ, List.getElem_toArray, List.getElem_cons_zero]
      refine wpAnyH_take (i := 1) (v := .int .i64 (k : Int)) rfl (by kernel_rfl) (by kernel_rfl) (by kernel_rfl) (fun _ _ _ h => h) (Or.inl ⟨by rfl, ?_⟩) (by assumption) ?_
      · intro wx hSw; go_simp
      try simp only [Act.put, List.setIfInBounds_toArray, List.set_cons_zero, List.set_cons_succ, List.getElem_toArray, List.getElem_cons_zero, List.getElem_cons_succ]
      refine wpAnyH_take (i := 2) (v := .pointer (some ⟨b1, o1 + k * 16, none⟩)) rfl (by kernel_rfl) (by kernel_rfl) (by kernel_rfl) (fun _ _ _ h => h) (Or.inl ⟨by rfl, ?_⟩) (by assumption) ?_
      · intro wx hSw; go_simp
      try simp only [Act.put, List.setIfInBounds_toArray, List.set_cons_zero, List.set_cons_succ, List.getElem_toArray, List.getElem_cons_zero, List.getElem_cons_succ]
      refine wpAnyH_take (i := 3) (v := .agg #[.int .i64 (Z k 0), .int .i64 (Z k 1), .int .i64 (Z k 2), .int .i64 (Z k 3), .int .i64 (Z k 4), .int .i64 (Z k 5), .int .i64 (Z k 6), .int .i64 (Z k 7), .int .i64 (Z k 8), .int .i64 (Z k 9), .int .i64 (Z k 10), .int .i64 (Z k 11), .int .i64 (Z k 12), .int .i64 (Z k 13), .int .i64 (Z k 14), .int .i64 (Z k 15)]) rfl (by kernel_rfl) (by kernel_rfl) (by kernel_rfl) (fun _ _ _ h => h) (Or.inl ⟨by rfl, ?_⟩) (by assumption) ?_
      · intro wx hSw; go_simp
      try simp only [Act.put, List.setIfInBounds_toArray, List.set_cons_zero, List.set_cons_succ, List.getElem_toArray, List.getElem_cons_zero, List.getElem_cons_succ]
      refine wpAnyH_take (i := 4) (v := .slice (some ⟨b2, o2, none⟩) n cap2) rfl (by kernel_rfl) (by kernel_rfl) (by kernel_rfl) (fun _ _ _ h => h) (Or.inl ⟨by rfl, ?_⟩) (by assumption) ?_
      · intro wx hSw; go_simp
      try simp only [Act.put, List.setIfInBounds_toArray, List.set_cons_zero, List.set_cons_succ, List.getElem_toArray, List.getElem_cons_zero, List.getElem_cons_succ]
      refine wpAnyH_take (i := 5) (v := .int .i64 (k : Int)) rfl (by kernel_rfl) (by kernel_rfl) (by kernel_rfl) (fun _ _ _ h => h) (Or.inl ⟨by rfl, ?_⟩) (by assumption) ?_
      · intro wx hSw; go_simp
      try simp only [Act.put, List.setIfInBounds_toArray, List.set_cons_zero, List.set_cons_succ, List.getElem_toArray, List.getElem_cons_zero, List.getElem_cons_succ]
      refine wpAnyH_take (i := 6) (v := .pointer (some ⟨b2, o2 + k * 16, none⟩)) rfl (by kernel_rfl) (by kernel_rfl) (by kernel_rfl) (fun _ _ _ h => h) (Or.inl ⟨by rfl, ?_⟩) (by assumption) ?_
      · intro wx hSw; go_simp
      try simp only [Act.put, List.setIfInBounds_toArray, List.set_cons_zero, List.set_cons_succ, List.getElem_toArray, List.getElem_cons_zero, List.getElem_cons_succ]
      refine wpAnyH_take (i := 7) (v := .agg #[.int .i64 (Z k 0), .int .i64 (Z k 1), .int .i64 (Z k 2), .int .i64 (Z k 3), .int .i64 (Z k 4), .int .i64 (Z k 5), .int .i64 (Z k 6), .int .i64 (Z k 7), .int .i64 (Z k 8), .int .i64 (Z k 9), .int .i64 (Z k 10), .int .i64 (Z k 11), .int .i64 (Z k 12), .int .i64 (Z k 13), .int .i64 (Z k 14), .int .i64 (Z k 15)]) rfl (by kernel_rfl) (by kernel_rfl) (by kernel_rfl) (fun _ _ _ h => h) (Or.inl ⟨by rfl, ?_⟩) (by assumption) ?_
      · intro wx hSw; go_simp
      try simp only [Act.put, List.setIfInBounds_toArray, List.set_cons_zero, List.set_cons_succ, List.getElem_toArray, List.getElem_cons_zero, List.getElem_cons_succ]
      refine wpAnyH_ready (rs := [8]) (by kernel_rfl) (by simp) ?_
      refine AllReadyH.cons rfl (fun K hK => ?_) AllReadyH.nil
      go_simp
      go_wp2_with (go_at_call 47; refine (eqRec _ _ _ _ _ _ _ _ _ _ _ _ _ _ _ _ _ ).mono ?_; rintro e w2 ⟨rfl, hbw2⟩)
      refine hK.out _ _ (keepS (by assumption) hbw2) (fun hHeld => ?_)
      clear hK K
      try simp only [Act.put, List.setIfInBounds_toArray, List.set_cons_zero, List.set_cons_succ, List.getElem_toArray, List.getElem_cons_zero, List.getElem_cons_succ]
      refine wpAnyH_take (i := 9) (v := .bool false) rfl (by kernel_rfl) (by kernel_rfl) (by kernel_rfl) (fun _ _ _ h => h) (Or.inl ⟨by rfl, ?_⟩) (by assumption) ?_
      · intro wx hSw; go_simp
      try simp only [Act.put, List.setIfInBounds_toArray, List.set_cons_zero, List.set_cons_succ, List.getElem_toArray, List.getElem_cons_zero, List.getElem_cons_succ]
      refine wpAnyH_done (by kernel_rfl) ?_ _
      go_wp2
      go_roundw
      case rel => exact ⟨k + 1, by omega, by go_num, by assumption, by repeat (first | exact BR | refine bthen ?_ (by assumption) | apply Below.drew)⟩
      case measure => simp [intOf]; omega
    · have : k = n := by omega
      subst this
      go_wp2
      go_ret
      exact ⟨rfl, by repeat (first | exact BR | refine bthen ?_ (by assumption) | apply Below.drew)⟩

theorem uptoR_next (Z : Nat → Nat → Int) (who seq : Int) (k : Nat) : hits who seq (uptoR Z (k + 1)) = hits who seq (uptoR Z k) + (if hitB who seq (Z k) then 1 else 0) := by
  rw [uptoR_succ, hits_snoc]

set_option maxHeartbeats 2000000 in
theorem count_spec (b o n cap : Nat) (who seq : Int) (Z : Nat → Nat → Int) (hn : n ≤ 1048576) (w : World) (hb : b < w.heap.size)
    (hr : ∀ k j, k < n → j < 16 → w.cell? ⟨b, o + k * 16 + j, none⟩ = some (.int .i64 (Z k j))) :
    Calls Try.prog 20 #[.slice (some ⟨b, o, none⟩) n cap, .int .i64 who, .int .i64 seq] w fun e w' => e = .returned (.int .i64 (hits who seq (uptoR Z n) : Int)) ∧ Below w.heap.size w w' := by
  have HR : Hid (∀ k j, k < n → j < 16 → w.cell? ⟨b, o + k * 16 + j, none⟩ = some (.int .i64 (Z k j))) := hr
  clear hr
  go_enter Try.func20, Try.ntmps20
  go_wp2
  go_loopw [7, 8] (fun c i wr => ∃ k : Nat, k ≤ n ∧ i = .int .i64 k ∧ c = .int .i64 (hits who seq (uptoR Z k) : Int) ∧ Below w.heap.size w wr) (fun _ i _ => n - (intOf i).toNat)
  case atStart => exact ⟨0, Nat.zero_le _, rfl, rfl, Below.refl _ _⟩
  case round =>
    obtain ⟨k, hk, rfl, rfl, hbel⟩ := hrel
    have hle := hits_le who seq (uptoR Z k)
    rw [uptoR_length] at hle
    by_cases hkn : k < n
    · have hkn' : (k : Int) < n := by omega
      have c0 : wr.cell? ⟨b, o + k * 16, none⟩ = some (.int .i64 (Z k 0)) := (hbel.cell (by exact hb)).trans (HR.out k 0 hkn (by omega))
      have c1 : wr.cell? ⟨b, o + k * 16 + 1, none⟩ = some (.int .i64 (Z k 1)) := (hbel.cell (by exact hb)).trans (HR.out k 1 hkn (by omega))
      have c2 : wr.cell? ⟨b, o + k * 16 + 2, none⟩ = some (.int .i64 (Z k 2)) := (hbel.cell (by exact hb)).trans (HR.out k 2 hkn (by omega))
      have HS : Hid (hits who seq (uptoR Z (k + 1)) = hits who seq (uptoR Z k) + (if hitB who seq (Z k) then 1 else 0)) := uptoR_next Z who seq k
      by_cases hh : hitB who seq (Z k) = true
      · have e : hits who seq (uptoR Z (k + 1)) = hits who seq (uptoR Z k) + 1 := by rw [HS.out, if_pos hh]
        have E : Hid (hits who seq (uptoR Z (k + 1)) = hits who seq (uptoR Z k) + 1) := e
        clear e
        simp only [hitB, Bool.and_eq_true, beq_iff_eq] at hh
        obtain ⟨e0, e1, e2⟩ := hh
        rw [e0] at c0
        rw [e1] at c1
        rw [e2] at c2
        clear e0 e1 e2
        generalize hits who seq (uptoR Z k) = m at *
        go_wp2
        go_roundw
        case rel => exact ⟨k + 1, by omega, by go_num, by rw [E.out]; go_num, hbel⟩
        case measure => simp [intOf]; omega
      · have E : Hid (hits who seq (uptoR Z (k + 1)) = hits who seq (uptoR Z k)) := by unfold Hid; rw [HS.out, if_neg hh]; rfl
        have hh2 : hitB who seq (Z k) = false := by simpa using hh
        clear hh HS
        unfold hitB at hh2
        cases e0 : (Z k 0 == 1) <;> cases e1 : (Z k 1 == who) <;> cases e2 : (Z k 2 == seq) <;> rw [e0, e1, e2] at hh2 <;> first | (cases hh2; done) | skip
        all_goals
          go_wp2
          go_roundw
          case rel => exact ⟨k + 1, by omega, by go_num, by rw [E.out], hbel⟩
          case measure => simp [intOf]; omega
    · have : k = n := by omega
      subst this
      go_wp2
      go_ret
      exact ⟨rfl, hbel⟩

end Go.Proofs.Ytiahmakaegnnfaa.P16
