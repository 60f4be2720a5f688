/- GstListOk, of the program and of the model; conditions: the list lies in memory. -/
import Derived.Test.YtlbjgecjonegkaaList7
namespace Go.Proofs.Ytlbjgecjonegkaa
open Go.RowKit Go.Deep
set_option linter.unusedVariables false

def gZ (c d : Int) (z : Nat → Int) : Bool := gstB c d (z 0) (z 1) (z 2) (z 3) (z 4) (z 5) (z 6)
def lessB (a b : Nat → Int) : Bool := if a 0 = b 0 then decide (a 2 < b 2) else decide (a 0 < b 0)
def stepB (c d : Int) (Z : Nat → Nat → Int) (k : Nat) : Bool := gZ c d (Z k) && (decide (k = 0) || lessB (Z (k - 1)) (Z k))
def ghostsB (c d : Int) (n : Nat) (Z : Nat → Nat → Int) : Bool := decide (n ≤ 20) && decide (∀ k, k < n → stepB c d Z k = true)
theorem ghostsB_false {c d : Int} {n k : Nat} {Z : Nat → Nat → Int} (hk : k < n) (h : stepB c d Z k = false) : ghostsB c d n Z = false := by
  have : decide (∀ k, k < n → stepB c d Z k = true) = false := decide_eq_false (fun g => by have := g k hk; rw [h] at this; cases this)
  unfold ghostsB; rw [this, Bool.and_false]
theorem ghostsB_true {c d : Int} {n : Nat} {Z : Nat → Nat → Int} (h0 : n ≤ 20) (h : ∀ k, k < n → stepB c d Z k = true) : ghostsB c d n Z = true := by
  unfold ghostsB; rw [decide_eq_true h0, decide_eq_true h]; rfl

def cmpI (x y : Int) : Int := if x < y then -1 else if y < x then 1 else 0
def cmpK (a0 a1 b0 b1 : Int) : Int := if a0 = b0 then cmpI a1 b1 else cmpI a0 b0
theorem cmpK_less (a b : Nat → Int) : decide (0 ≤ cmpK (a 0) (a 2) (b 0) (b 2)) = !lessB a b := by
  unfold cmpK lessB cmpI
  by_cases h : a 0 = b 0
  · rw [if_pos h, if_pos h]
    by_cases h1 : a 2 < b 2
    · simp [h1]
    · simp only [h1, if_false, decide_false, Bool.not_false, decide_eq_true_eq]
      split <;> omega
  · rw [if_neg h, if_neg h]
    by_cases h1 : a 0 < b 0
    · simp [h1]
    · simp only [h1, if_false, decide_false, Bool.not_false, decide_eq_true_eq]
      split <;> omega

theorem nan_impl (x : Int) (w : World) : Calls Try.prog 96 #[.int .i64 x] w fun e w' => e = .returned (.bool false) ∧ w' = w := by
  go_enter Try.func96, Try.ntmps96
  go_wp2
  go_ret
  exact ⟨by simp, rfl⟩
theorem cmp_impl (x y : Int) (w : World) : Calls Try.prog 72 #[.int .i64 x, .int .i64 y] w fun e w' => e = .returned (.int .i64 (cmpI x y)) ∧ w' = w := by
  by_cases h1 : x < y
  · have hv : cmpI x y = -1 := by simp [cmpI, h1]
    rw [hv]
    go_enter Try.func72, Try.ntmps72
    go_wp2_with (go_at_call 96; refine (nan_impl _ _).mono ?_; rintro e w1 ⟨rfl, rfl⟩)
    go_ret
    exact ⟨rfl, rfl⟩
  · by_cases h2 : y < x
    · have hv : cmpI x y = 1 := by simp [cmpI, h1, h2]
      rw [hv]
      go_enter Try.func72, Try.ntmps72
      go_wp2_with (go_at_call 96; refine (nan_impl _ _).mono ?_; rintro e w1 ⟨rfl, rfl⟩)
      go_ret
      exact ⟨rfl, rfl⟩
    · have hv : cmpI x y = 0 := by simp [cmpI, h1, h2]
      rw [hv]
      go_enter Try.func72, Try.ntmps72
      go_wp2_with (go_at_call 96; refine (nan_impl _ _).mono ?_; rintro e w1 ⟨rfl, rfl⟩)
      go_ret
      exact ⟨rfl, rfl⟩
theorem key_impl (f n i a co s l : Int) (w : World) : Calls Try.prog 46 #[.agg #[.int .i64 f, .int .i64 n, .int .i64 i, .int .i64 a, .int .i64 co, .int .i64 s, .int .i64 l]] w fun e w' => e = .returned (.agg #[.int .i64 f, .int .i64 i]) ∧ Below w.heap.size w w' := by
  go_enter Try.func46, Try.ntmps46
  go_wp2
  exact bodyPost_ret (v := .agg #[.int .i64 f, .int .i64 i]) (by simp [results, Try.results46, go_sem]) rfl ⟨rfl, ((Below.refl _ _).alloc (by simp) _).alloc (by simp) _⟩
theorem keys_impl (a0 a1 b0 b1 : Int) (w : World) : Calls Try.prog 45 #[.agg #[.int .i64 a0, .int .i64 a1], .agg #[.int .i64 b0, .int .i64 b1]] w fun e w' => e = .returned (.int .i64 (cmpK a0 a1 b0 b1)) ∧ Below w.heap.size w w' := by
  by_cases h : a0 = b0
  · have hv : cmpK a0 a1 b0 b1 = cmpI a1 b1 := by simp [cmpK, h]
    rw [hv]
    subst h
    go_enter Try.func45, Try.ntmps45
    go_wp2_with (go_at_call 72; refine (cmp_impl _ _ _).mono ?_; rintro e w1 ⟨rfl, rfl⟩)
    go_ret
    exact ⟨rfl, ((Below.refl _ _).alloc (by simp) _).alloc (by simp) _⟩
  · have hv : cmpK a0 a1 b0 b1 = cmpI a0 b0 := by simp [cmpK, h]
    rw [hv]
    have h' : (a0 != b0) = true := by simp [h]
    go_enter Try.func45, Try.ntmps45
    go_wp2_with (go_at_call 72; refine (cmp_impl _ _ _).mono ?_; rintro e w1 ⟨rfl, rfl⟩)
    go_ret
    exact ⟨rfl, ((Below.refl _ _).alloc (by simp) _).alloc (by simp) _⟩
theorem less_spec (a b : Nat → Int) (w : World) : Calls Try.prog 39 #[.agg #[.int .i64 (a 0), .int .i64 (a 1), .int .i64 (a 2), .int .i64 (a 3), .int .i64 (a 4), .int .i64 (a 5), .int .i64 (a 6)], .agg #[.int .i64 (b 0), .int .i64 (b 1), .int .i64 (b 2), .int .i64 (b 3), .int .i64 (b 4), .int .i64 (b 5), .int .i64 (b 6)]] w fun e w' => e = .returned (.bool (lessB a b)) ∧ Below w.heap.size w w' := by
  by_cases h : a 0 = b 0
  · have hv : lessB a b = decide (a 2 < b 2) := by simp [lessB, h]
    rw [hv]
    have h' : (a 0 != b 0) = false := by simp [h]
    clear h hv
    go_enter Try.func39, Try.ntmps39
    go_wp2
    go_ret
    exact ⟨rfl, ((Below.refl _ _).alloc (by simp) _).alloc (by simp) _⟩
  · have hv : lessB a b = decide (a 0 < b 0) := by simp [lessB, h]
    rw [hv]
    have h' : (a 0 != b 0) = true := by simp [h]
    clear h hv
    go_enter Try.func39, Try.ntmps39
    go_wp2
    go_ret
    exact ⟨rfl, ((Below.refl _ _).alloc (by simp) _).alloc (by simp) _⟩

set_option maxHeartbeats 4000000 in
theorem ghosts_spec (c d : Int) (a : Option Addr) (n cap : Nat) (Z : Nat → Nat → Int) (hn : n ≤ 1048576) (w : World) (h : P7.RowK w a n Z) :
    Calls Try.prog 20 #[.agg #[.int .i64 c, .int .i64 d], .slice a n cap] w fun e w' => e = .returned (.bool (ghostsB c d n Z)) ∧ Below w.heap.size w w' := by
  have HR : Hid (P7.RowK w a n Z) := h
  clear h
  by_cases h20 : n ≤ 20
  · go_enter Try.func20, Try.ntmps20
    go_wp2
    obtain ⟨w0, e0⟩ : ∃ w0, w0 = w.alloc (.cells #[.int .i64 c, .int .i64 d] 30) := ⟨_, rfl⟩
    have B0 : Hid (Below w.heap.size w w0) := by rw [e0]; exact (Below.refl _ _).alloc (by simp) _
    have M0 : Hid (Bk w0 w.heap.size [.int .i64 c, .int .i64 d]) := by rw [e0]; exact bk_new w 30 [.int .i64 c, .int .i64 d]
    rw [← e0]
    clear e0
    go_loopw [5] (fun i wr => ∃ k : Nat, k ≤ n ∧ i = .int .i64 k ∧ (∀ j, j < k → stepB c d Z j = true) ∧ Below w0.heap.size w0 wr) (fun i _ => n - (intOf i).toNat)
    case atStart => exact ⟨0, Nat.zero_le _, rfl, fun _ h => absurd h (by omega), Below.refl _ _⟩
    case round =>
      obtain ⟨k, hk, rfl, hall, hbel⟩ := hrel
      have HL : Hid (∀ j, j < k → stepB c d Z j = true) := hall
      have HB : Hid (Below w0.heap.size w0 wr) := hbel
      have BW : Hid (Below w.heap.size w wr) := bthen B0.out hbel
      have MW : Hid (Bk wr w.heap.size [.int .i64 c, .int .i64 d]) := M0.out.below hbel
      clear hall hbel
      by_cases hkn : k < n
      · have hkn' : (k : Int) < n := by omega
        obtain ⟨b, o, rfl, hb, hrow⟩ : ∃ b o, a = some ⟨b, o, none⟩ ∧ b < w.heap.size ∧ ∀ k j, k < n → j < 7 → w.cell? ⟨b, o + k * 7 + j, none⟩ = some (.int .i64 (Z k j)) := by
          rcases HR.out with h | h
          · omega
          · exact h
        have HW : Hid (∀ k j, k < n → j < 7 → w.cell? ⟨b, o + k * 7 + j, none⟩ = some (.int .i64 (Z k j))) := hrow
        have hbw : b < wr.heap.size := Nat.lt_of_lt_of_le hb BW.out.size
        clear hrow
        cases hg : gZ c d (Z k)
        · have hst : stepB c d Z k = false := by simp [stepB, hg]
          have c0 : wr.cell? ⟨b, o + k * 7, none⟩ = some (.int .i64 (Z k 0)) := (BW.out.cell (p := ⟨b, _, none⟩) hb).trans (HW.out k 0 hkn (by omega))
          have c1 : wr.cell? ⟨b, o + k * 7 + 1, none⟩ = some (.int .i64 (Z k 1)) := (BW.out.cell (p := ⟨b, _, none⟩) hb).trans (HW.out k 1 hkn (by omega))
          have c2 : wr.cell? ⟨b, o + k * 7 + 2, none⟩ = some (.int .i64 (Z k 2)) := (BW.out.cell (p := ⟨b, _, none⟩) hb).trans (HW.out k 2 hkn (by omega))
          have c3 : wr.cell? ⟨b, o + k * 7 + 3, none⟩ = some (.int .i64 (Z k 3)) := (BW.out.cell (p := ⟨b, _, none⟩) hb).trans (HW.out k 3 hkn (by omega))
          have c4 : wr.cell? ⟨b, o + k * 7 + 4, none⟩ = some (.int .i64 (Z k 4)) := (BW.out.cell (p := ⟨b, _, none⟩) hb).trans (HW.out k 4 hkn (by omega))
          have c5 : wr.cell? ⟨b, o + k * 7 + 5, none⟩ = some (.int .i64 (Z k 5)) := (BW.out.cell (p := ⟨b, _, none⟩) hb).trans (HW.out k 5 hkn (by omega))
          have c6 : wr.cell? ⟨b, o + k * 7 + 6, none⟩ = some (.int .i64 (Z k 6)) := (BW.out.cell (p := ⟨b, _, none⟩) hb).trans (HW.out k 6 hkn (by omega))
          have yM0 : wr.cell? ⟨w.heap.size, 0, none⟩ = some (.int .i64 c) := (MW.out.2 0 (by simp)).1
          have yM1 : wr.cell? ⟨w.heap.size, 1, none⟩ = some (.int .i64 d) := (MW.out.2 1 (by simp)).1
          have hlM : w.heap.size < wr.heap.size := MW.out.1
          go_wp2
          refine wp_region_held_drew (S := fun w' => (∀ b o, b < wr.heap.size → w'.cell? ⟨b, o, none⟩ = wr.cell? ⟨b, o, none⟩) ∧ wr.heap.size ≤ w'.heap.size) (by kernel_rfl) ⟨fun _ _ _ => rfl, Nat.le_refl _⟩ ?_
          intro hHeld
          refine wpAnyH_take (i := 0) (v := .agg #[.int .i64 c, .int .i64 d]) rfl (by kernel_rfl) (by kernel_rfl) (by kernel_rfl) (fun _ _ _ h => h) (Or.inl ⟨by rfl, ?_⟩) (by assumption) ?_
          · intro wx hSw; go_simp
          try simp only [Act.put, List.setIfInBounds_toArray, List.set_cons_zero, List.set_cons_succ, List.getElem_toArray, List.getElem_cons_zero]
          refine wpAnyH_take (i := 1) (v := .slice (some ⟨b, o, none⟩) n cap) rfl (by kernel_rfl) (by kernel_rfl) (by kernel_rfl) (fun _ _ _ h => h) (Or.inl ⟨by rfl, ?_⟩) (by assumption) ?_
          · intro wx hSw; go_simp
          try simp only [Act.put, List.setIfInBounds_toArray, List.set_cons_zero, List.set_cons_succ, List.getElem_toArray, List.getElem_cons_zero, List.getElem_cons_succ]
          refine wpAnyH_take (i := 2) (v := .int .i64 (k : Int)) rfl (by kernel_rfl) (by kernel_rfl) (by kernel_rfl) (fun _ _ _ h => h) (Or.inl ⟨by rfl, ?_⟩) (by assumption) ?_
          · intro wx hSw; go_simp
          try simp only [Act.put, List.setIfInBounds_toArray, List.set_cons_zero, List.set_cons_succ, List.getElem_toArray, List.getElem_cons_zero, List.getElem_cons_succ]
          refine wpAnyH_take (i := 3) (v := .pointer (some ⟨b, o + k * 7, none⟩)) rfl (by kernel_rfl) (by kernel_rfl) (by kernel_rfl) (fun _ _ _ h => h) (Or.inl ⟨by rfl, ?_⟩) (by assumption) ?_
          · intro wx hSw; go_simp
          try simp only [Act.put, List.setIfInBounds_toArray, List.set_cons_zero, List.set_cons_succ, List.getElem_toArray, List.getElem_cons_zero, List.getElem_cons_succ]
          refine wpAnyH_take (i := 4) (v := .agg #[.int .i64 (Z k 0), .int .i64 (Z k 1), .int .i64 (Z k 2), .int .i64 (Z k 3), .int .i64 (Z k 4), .int .i64 (Z k 5), .int .i64 (Z k 6)]) rfl (by kernel_rfl) (by kernel_rfl) (by kernel_rfl) (fun _ _ _ h => h) (Or.inl ⟨by rfl, ?_⟩) (by assumption) ?_
          · intro wx hSw; go_simp
          try simp only [Act.put, List.setIfInBounds_toArray, List.set_cons_zero, List.set_cons_succ, List.getElem_toArray, List.getElem_cons_zero, List.getElem_cons_succ]
          refine wpAnyH_ready (rs := [5]) (by kernel_rfl) (by simp) ?_
          refine AllReadyH.cons rfl (fun K hK => ?_) AllReadyH.nil
          go_simp
          go_wp2_with fail
          refine (gstOk_spec _ _ _ _ _ _ _ _ _ _).mono ?_
          rintro e x1 ⟨rfl, hx1⟩
          rw [show gstB c d (Z k 0) (Z k 1) (Z k 2) (Z k 3) (Z k 4) (Z k 5) (Z k 6) = false from hg]
          refine hK.out _ _ (keepS (by assumption) hx1) (fun hNew => ?_)
          clear hK K hHeld
          have hHeld := hNew
          clear hNew
          try simp only [Act.put, List.setIfInBounds_toArray, List.set_cons_zero, List.set_cons_succ, List.getElem_toArray, List.getElem_cons_zero, List.getElem_cons_succ]
          refine wpAnyH_take (i := 6) (v := .bool true) rfl (by kernel_rfl) (by kernel_rfl) (by kernel_rfl) (fun _ _ _ h => h) (Or.inl ⟨by rfl, ?_⟩) (by assumption) ?_
          · intro wx hSw; go_simp
          try simp only [Act.put, List.setIfInBounds_toArray, List.set_cons_zero, List.set_cons_succ, List.getElem_toArray, List.getElem_cons_zero, List.getElem_cons_succ]
          refine wpAnyH_take (i := 7) (v := .bool true) rfl (by kernel_rfl) (by kernel_rfl) (by kernel_rfl) (fun _ _ _ h => h) (Or.inl ⟨by rfl, ?_⟩) (by assumption) ?_
          · intro wx hSw; go_simp
          try simp only [Act.put, List.setIfInBounds_toArray, List.set_cons_zero, List.set_cons_succ, List.getElem_toArray, List.getElem_cons_zero, List.getElem_cons_succ]
          refine wpAnyH_take (i := 8) (v := undef) rfl (by kernel_rfl) (by kernel_rfl) (by kernel_rfl) (fun _ _ _ h => h) (Or.inr ⟨by rfl, rfl⟩) (by assumption) ?_
          try simp only [Act.put, List.setIfInBounds_toArray, List.set_cons_zero, List.set_cons_succ, List.getElem_toArray, List.getElem_cons_zero, List.getElem_cons_succ]
          refine wpAnyH_take (i := 9) (v := undef) rfl (by kernel_rfl) (by kernel_rfl) (by kernel_rfl) (fun _ _ _ h => h) (Or.inr ⟨by rfl, rfl⟩) (by assumption) ?_
          try simp only [Act.put, List.setIfInBounds_toArray, List.set_cons_zero, List.set_cons_succ, List.getElem_toArray, List.getElem_cons_zero, List.getElem_cons_succ]
          refine wpAnyH_take (i := 10) (v := undef) rfl (by kernel_rfl) (by kernel_rfl) (by kernel_rfl) (fun _ _ _ h => h) (Or.inr ⟨by rfl, rfl⟩) (by assumption) ?_
          try simp only [Act.put, List.setIfInBounds_toArray, List.set_cons_zero, List.set_cons_succ, List.getElem_toArray, List.getElem_cons_zero, List.getElem_cons_succ]
          refine wpAnyH_take (i := 11) (v := undef) rfl (by kernel_rfl) (by kernel_rfl) (by kernel_rfl) (fun _ _ _ h => h) (Or.inr ⟨by rfl, rfl⟩) (by assumption) ?_
          try simp only [Act.put, List.setIfInBounds_toArray, List.set_cons_zero, List.set_cons_succ, List.getElem_toArray, List.getElem_cons_zero, List.getElem_cons_succ]
          refine wpAnyH_take (i := 12) (v := undef) rfl (by kernel_rfl) (by kernel_rfl) (by kernel_rfl) (fun _ _ _ h => h) (Or.inr ⟨by rfl, rfl⟩) (by assumption) ?_
          try simp only [Act.put, List.setIfInBounds_toArray, List.set_cons_zero, List.set_cons_succ, List.getElem_toArray, List.getElem_cons_zero, List.getElem_cons_succ]
          refine wpAnyH_take (i := 13) (v := undef) rfl (by kernel_rfl) (by kernel_rfl) (by kernel_rfl) (fun _ _ _ h => h) (Or.inr ⟨by rfl, rfl⟩) (by assumption) ?_
          try simp only [Act.put, List.setIfInBounds_toArray, List.set_cons_zero, List.set_cons_succ, List.getElem_toArray, List.getElem_cons_zero, List.getElem_cons_succ]
          refine wpAnyH_take (i := 14) (v := undef) rfl (by kernel_rfl) (by kernel_rfl) (by kernel_rfl) (fun _ _ _ h => h) (Or.inr ⟨by rfl, rfl⟩) (by assumption) ?_
          try simp only [Act.put, List.setIfInBounds_toArray, List.set_cons_zero, List.set_cons_succ, List.getElem_toArray, List.getElem_cons_zero, List.getElem_cons_succ]
          refine wpAnyH_take (i := 15) (v := undef) rfl (by kernel_rfl) (by kernel_rfl) (by kernel_rfl) (fun _ _ _ h => h) (Or.inr ⟨by rfl, rfl⟩) (by assumption) ?_
          try simp only [Act.put, List.setIfInBounds_toArray, List.set_cons_zero, List.set_cons_succ, List.getElem_toArray, List.getElem_cons_zero, List.getElem_cons_succ]
          refine wpAnyH_take (i := 16) (v := undef) rfl (by kernel_rfl) (by kernel_rfl) (by kernel_rfl) (fun _ _ _ h => h) (Or.inr ⟨by rfl, rfl⟩) (by assumption) ?_
          try simp only [Act.put, List.setIfInBounds_toArray, List.set_cons_zero, List.set_cons_succ, List.getElem_toArray, List.getElem_cons_zero, List.getElem_cons_succ]
          refine wpAnyH_take (i := 17) (v := undef) rfl (by kernel_rfl) (by kernel_rfl) (by kernel_rfl) (fun _ _ _ h => h) (Or.inr ⟨by rfl, rfl⟩) (by assumption) ?_
          try simp only [Act.put, List.setIfInBounds_toArray, List.set_cons_zero, List.set_cons_succ, List.getElem_toArray, List.getElem_cons_zero, List.getElem_cons_succ]
          refine wpAnyH_take (i := 18) (v := undef) rfl (by kernel_rfl) (by kernel_rfl) (by kernel_rfl) (fun _ _ _ h => h) (Or.inr ⟨by rfl, rfl⟩) (by assumption) ?_
          try simp only [Act.put, List.setIfInBounds_toArray, List.set_cons_zero, List.set_cons_succ, List.getElem_toArray, List.getElem_cons_zero, List.getElem_cons_succ]
          refine wpAnyH_take (i := 19) (v := undef) rfl (by kernel_rfl) (by kernel_rfl) (by kernel_rfl) (fun _ _ _ h => h) (Or.inr ⟨by rfl, rfl⟩) (by assumption) ?_
          try simp only [Act.put, List.setIfInBounds_toArray, List.set_cons_zero, List.set_cons_succ, List.getElem_toArray, List.getElem_cons_zero, List.getElem_cons_succ]
          refine wpAnyH_take (i := 20) (v := undef) rfl (by kernel_rfl) (by kernel_rfl) (by kernel_rfl) (fun _ _ _ h => h) (Or.inr ⟨by rfl, rfl⟩) (by assumption) ?_
          try simp only [Act.put, List.setIfInBounds_toArray, List.set_cons_zero, List.set_cons_succ, List.getElem_toArray, List.getElem_cons_zero, List.getElem_cons_succ]
          refine wpAnyH_take (i := 21) (v := undef) rfl (by kernel_rfl) (by kernel_rfl) (by kernel_rfl) (fun _ _ _ h => h) (Or.inr ⟨by rfl, rfl⟩) (by assumption) ?_
          try simp only [Act.put, List.setIfInBounds_toArray, List.set_cons_zero, List.set_cons_succ, List.getElem_toArray, List.getElem_cons_zero, List.getElem_cons_succ]
          refine wpAnyH_take (i := 22) (v := undef) rfl (by kernel_rfl) (by kernel_rfl) (by kernel_rfl) (fun _ _ _ h => h) (Or.inr ⟨by rfl, rfl⟩) (by assumption) ?_
          try simp only [Act.put, List.setIfInBounds_toArray, List.set_cons_zero, List.set_cons_succ, List.getElem_toArray, List.getElem_cons_zero, List.getElem_cons_succ]
          refine wpAnyH_take (i := 23) (v := .bool true) rfl (by kernel_rfl) (by kernel_rfl) (by kernel_rfl) (fun _ _ _ h => h) (Or.inl ⟨by rfl, ?_⟩) (by assumption) ?_
          · intro wx hSw; go_simp
          try simp only [Act.put, List.setIfInBounds_toArray, List.set_cons_zero, List.set_cons_succ, List.getElem_toArray, List.getElem_cons_zero, List.getElem_cons_succ]
          refine wpAnyH_done (by kernel_rfl) ?_ _
          clear hHeld
          clear yM0 yM1 hlM
          clear c0 c1 c2 c3 c4 c5 c6
          go_wp2
          go_ret
          exact ⟨by rw [ghostsB_false hkn hst] <;> rfl, bthen BW.out (by repeat (first | exact Below.refl _ _ | refine bthen ?_ (by assumption) | apply Below.drew))⟩
        by_cases hk0 : k = 0
        · have hst : stepB c d Z k = true := by unfold stepB; rw [hg]; simp [hk0]
          have hk1 : ¬ (0 : Int) < k := by omega
          clear hk0
          have c0 : wr.cell? ⟨b, o + k * 7, none⟩ = some (.int .i64 (Z k 0)) := (BW.out.cell (p := ⟨b, _, none⟩) hb).trans (HW.out k 0 hkn (by omega))
          have c1 : wr.cell? ⟨b, o + k * 7 + 1, none⟩ = some (.int .i64 (Z k 1)) := (BW.out.cell (p := ⟨b, _, none⟩) hb).trans (HW.out k 1 hkn (by omega))
          have c2 : wr.cell? ⟨b, o + k * 7 + 2, none⟩ = some (.int .i64 (Z k 2)) := (BW.out.cell (p := ⟨b, _, none⟩) hb).trans (HW.out k 2 hkn (by omega))
          have c3 : wr.cell? ⟨b, o + k * 7 + 3, none⟩ = some (.int .i64 (Z k 3)) := (BW.out.cell (p := ⟨b, _, none⟩) hb).trans (HW.out k 3 hkn (by omega))
          have c4 : wr.cell? ⟨b, o + k * 7 + 4, none⟩ = some (.int .i64 (Z k 4)) := (BW.out.cell (p := ⟨b, _, none⟩) hb).trans (HW.out k 4 hkn (by omega))
          have c5 : wr.cell? ⟨b, o + k * 7 + 5, none⟩ = some (.int .i64 (Z k 5)) := (BW.out.cell (p := ⟨b, _, none⟩) hb).trans (HW.out k 5 hkn (by omega))
          have c6 : wr.cell? ⟨b, o + k * 7 + 6, none⟩ = some (.int .i64 (Z k 6)) := (BW.out.cell (p := ⟨b, _, none⟩) hb).trans (HW.out k 6 hkn (by omega))
          have yM0 : wr.cell? ⟨w.heap.size, 0, none⟩ = some (.int .i64 c) := (MW.out.2 0 (by simp)).1
          have yM1 : wr.cell? ⟨w.heap.size, 1, none⟩ = some (.int .i64 d) := (MW.out.2 1 (by simp)).1
          have hlM : w.heap.size < wr.heap.size := MW.out.1
          go_wp2
          refine wp_region_held_drew (S := fun w' => (∀ b o, b < wr.heap.size → w'.cell? ⟨b, o, none⟩ = wr.cell? ⟨b, o, none⟩) ∧ wr.heap.size ≤ w'.heap.size) (by kernel_rfl) ⟨fun _ _ _ => rfl, Nat.le_refl _⟩ ?_
          intro hHeld
          refine wpAnyH_take (i := 0) (v := .agg #[.int .i64 c, .int .i64 d]) rfl (by kernel_rfl) (by kernel_rfl) (by kernel_rfl) (fun _ _ _ h => h) (Or.inl ⟨by rfl, ?_⟩) (by assumption) ?_
          · intro wx hSw; go_simp
          try simp only [Act.put, List.setIfInBounds_toArray, List.set_cons_zero, List.set_cons_succ, List.getElem_toArray, List.getElem_cons_zero]
          refine wpAnyH_take (i := 1) (v := .slice (some ⟨b, o, none⟩) n cap) rfl (by kernel_rfl) (by kernel_rfl) (by kernel_rfl) (fun _ _ _ h => h) (Or.inl ⟨by rfl, ?_⟩) (by assumption) ?_
          · intro wx hSw; go_simp
          try simp only [Act.put, List.setIfInBounds_toArray, List.set_cons_zero, List.set_cons_succ, List.getElem_toArray, List.getElem_cons_zero, List.getElem_cons_succ]
          refine wpAnyH_take (i := 2) (v := .int .i64 (k : Int)) rfl (by kernel_rfl) (by kernel_rfl) (by kernel_rfl) (fun _ _ _ h => h) (Or.inl ⟨by rfl, ?_⟩) (by assumption) ?_
          · intro wx hSw; go_simp
          try simp only [Act.put, List.setIfInBounds_toArray, List.set_cons_zero, List.set_cons_succ, List.getElem_toArray, List.getElem_cons_zero, List.getElem_cons_succ]
          refine wpAnyH_take (i := 3) (v := .pointer (some ⟨b, o + k * 7, none⟩)) rfl (by kernel_rfl) (by kernel_rfl) (by kernel_rfl) (fun _ _ _ h => h) (Or.inl ⟨by rfl, ?_⟩) (by assumption) ?_
          · intro wx hSw; go_simp
          try simp only [Act.put, List.setIfInBounds_toArray, List.set_cons_zero, List.set_cons_succ, List.getElem_toArray, List.getElem_cons_zero, List.getElem_cons_succ]
          refine wpAnyH_take (i := 4) (v := .agg #[.int .i64 (Z k 0), .int .i64 (Z k 1), .int .i64 (Z k 2), .int .i64 (Z k 3), .int .i64 (Z k 4), .int .i64 (Z k 5), .int .i64 (Z k 6)]) rfl (by kernel_rfl) (by kernel_rfl) (by kernel_rfl) (fun _ _ _ h => h) (Or.inl ⟨by rfl, ?_⟩) (by assumption) ?_
          · intro wx hSw; go_simp
          try simp only [Act.put, List.setIfInBounds_toArray, List.set_cons_zero, List.set_cons_succ, List.getElem_toArray, List.getElem_cons_zero, List.getElem_cons_succ]
          refine wpAnyH_ready (rs := [5]) (by kernel_rfl) (by simp) ?_
          refine AllReadyH.cons rfl (fun K hK => ?_) AllReadyH.nil
          go_simp
          go_wp2_with fail
          refine (gstOk_spec _ _ _ _ _ _ _ _ _ _).mono ?_
          rintro e x1 ⟨rfl, hx1⟩
          rw [show gstB c d (Z k 0) (Z k 1) (Z k 2) (Z k 3) (Z k 4) (Z k 5) (Z k 6) = true from hg]
          refine hK.out _ _ (keepS (by assumption) hx1) (fun hNew => ?_)
          clear hK K hHeld
          have hHeld := hNew
          clear hNew
          try simp only [Act.put, List.setIfInBounds_toArray, List.set_cons_zero, List.set_cons_succ, List.getElem_toArray, List.getElem_cons_zero, List.getElem_cons_succ]
          refine wpAnyH_take (i := 6) (v := .bool false) rfl (by kernel_rfl) (by kernel_rfl) (by kernel_rfl) (fun _ _ _ h => h) (Or.inl ⟨by rfl, ?_⟩) (by assumption) ?_
          · intro wx hSw; go_simp
          try simp only [Act.put, List.setIfInBounds_toArray, List.set_cons_zero, List.set_cons_succ, List.getElem_toArray, List.getElem_cons_zero, List.getElem_cons_succ]
          refine wpAnyH_take (i := 7) (v := .bool false) rfl (by kernel_rfl) (by kernel_rfl) (by kernel_rfl) (fun _ _ _ h => h) (Or.inl ⟨by rfl, ?_⟩) (by assumption) ?_
          · intro wx hSw; go_simp
          try simp only [Act.put, List.setIfInBounds_toArray, List.set_cons_zero, List.set_cons_succ, List.getElem_toArray, List.getElem_cons_zero, List.getElem_cons_succ]
          refine wpAnyH_take (i := 8) (v := .int .i64 (k : Int)) rfl (by kernel_rfl) (by kernel_rfl) (by kernel_rfl) (fun _ _ _ h => h) (Or.inl ⟨by rfl, ?_⟩) (by assumption) ?_
          · intro wx hSw; go_simp
          try simp only [Act.put, List.setIfInBounds_toArray, List.set_cons_zero, List.set_cons_succ, List.getElem_toArray, List.getElem_cons_zero, List.getElem_cons_succ]
          refine wpAnyH_take (i := 9) (v := .bool false) rfl (by kernel_rfl) (by kernel_rfl) (by kernel_rfl) (fun _ _ _ h => h) (Or.inl ⟨by rfl, ?_⟩) (by assumption) ?_
          · intro wx hSw; go_simp <;> first | omega | (exact IntWalk.i64_in _ (by omega)) | go_num
          try simp only [Act.put, List.setIfInBounds_toArray, List.set_cons_zero, List.set_cons_succ, List.getElem_toArray, List.getElem_cons_zero, List.getElem_cons_succ]
          refine wpAnyH_take (i := 10) (v := .bool false) rfl (by kernel_rfl) (by kernel_rfl) (by kernel_rfl) (fun _ _ _ h => h) (Or.inl ⟨by rfl, ?_⟩) (by assumption) ?_
          · intro wx hSw; go_simp
          try simp only [Act.put, List.setIfInBounds_toArray, List.set_cons_zero, List.set_cons_succ, List.getElem_toArray, List.getElem_cons_zero, List.getElem_cons_succ]
          refine wpAnyH_take (i := 11) (v := undef) rfl (by kernel_rfl) (by kernel_rfl) (by kernel_rfl) (fun _ _ _ h => h) (Or.inr ⟨by rfl, rfl⟩) (by assumption) ?_
          try simp only [Act.put, List.setIfInBounds_toArray, List.set_cons_zero, List.set_cons_succ, List.getElem_toArray, List.getElem_cons_zero, List.getElem_cons_succ]
          refine wpAnyH_take (i := 12) (v := undef) rfl (by kernel_rfl) (by kernel_rfl) (by kernel_rfl) (fun _ _ _ h => h) (Or.inr ⟨by rfl, rfl⟩) (by assumption) ?_
          try simp only [Act.put, List.setIfInBounds_toArray, List.set_cons_zero, List.set_cons_succ, List.getElem_toArray, List.getElem_cons_zero, List.getElem_cons_succ]
          refine wpAnyH_take (i := 13) (v := undef) rfl (by kernel_rfl) (by kernel_rfl) (by kernel_rfl) (fun _ _ _ h => h) (Or.inr ⟨by rfl, rfl⟩) (by assumption) ?_
          try simp only [Act.put, List.setIfInBounds_toArray, List.set_cons_zero, List.set_cons_succ, List.getElem_toArray, List.getElem_cons_zero, List.getElem_cons_succ]
          refine wpAnyH_take (i := 14) (v := undef) rfl (by kernel_rfl) (by kernel_rfl) (by kernel_rfl) (fun _ _ _ h => h) (Or.inr ⟨by rfl, rfl⟩) (by assumption) ?_
          try simp only [Act.put, List.setIfInBounds_toArray, List.set_cons_zero, List.set_cons_succ, List.getElem_toArray, List.getElem_cons_zero, List.getElem_cons_succ]
          refine wpAnyH_take (i := 15) (v := undef) rfl (by kernel_rfl) (by kernel_rfl) (by kernel_rfl) (fun _ _ _ h => h) (Or.inr ⟨by rfl, rfl⟩) (by assumption) ?_
          try simp only [Act.put, List.setIfInBounds_toArray, List.set_cons_zero, List.set_cons_succ, List.getElem_toArray, List.getElem_cons_zero, List.getElem_cons_succ]
          refine wpAnyH_take (i := 16) (v := undef) rfl (by kernel_rfl) (by kernel_rfl) (by kernel_rfl) (fun _ _ _ h => h) (Or.inr ⟨by rfl, rfl⟩) (by assumption) ?_
          try simp only [Act.put, List.setIfInBounds_toArray, List.set_cons_zero, List.set_cons_succ, List.getElem_toArray, List.getElem_cons_zero, List.getElem_cons_succ]
          refine wpAnyH_take (i := 17) (v := undef) rfl (by kernel_rfl) (by kernel_rfl) (by kernel_rfl) (fun _ _ _ h => h) (Or.inr ⟨by rfl, rfl⟩) (by assumption) ?_
          try simp only [Act.put, List.setIfInBounds_toArray, List.set_cons_zero, List.set_cons_succ, List.getElem_toArray, List.getElem_cons_zero, List.getElem_cons_succ]
          refine wpAnyH_take (i := 18) (v := undef) rfl (by kernel_rfl) (by kernel_rfl) (by kernel_rfl) (fun _ _ _ h => h) (Or.inr ⟨by rfl, rfl⟩) (by assumption) ?_
          try simp only [Act.put, List.setIfInBounds_toArray, List.set_cons_zero, List.set_cons_succ, List.getElem_toArray, List.getElem_cons_zero, List.getElem_cons_succ]
          refine wpAnyH_take (i := 19) (v := undef) rfl (by kernel_rfl) (by kernel_rfl) (by kernel_rfl) (fun _ _ _ h => h) (Or.inr ⟨by rfl, rfl⟩) (by assumption) ?_
          try simp only [Act.put, List.setIfInBounds_toArray, List.set_cons_zero, List.set_cons_succ, List.getElem_toArray, List.getElem_cons_zero, List.getElem_cons_succ]
          refine wpAnyH_take (i := 20) (v := undef) rfl (by kernel_rfl) (by kernel_rfl) (by kernel_rfl) (fun _ _ _ h => h) (Or.inr ⟨by rfl, rfl⟩) (by assumption) ?_
          try simp only [Act.put, List.setIfInBounds_toArray, List.set_cons_zero, List.set_cons_succ, List.getElem_toArray, List.getElem_cons_zero, List.getElem_cons_succ]
          refine wpAnyH_take (i := 21) (v := undef) rfl (by kernel_rfl) (by kernel_rfl) (by kernel_rfl) (fun _ _ _ h => h) (Or.inr ⟨by rfl, rfl⟩) (by assumption) ?_
          try simp only [Act.put, List.setIfInBounds_toArray, List.set_cons_zero, List.set_cons_succ, List.getElem_toArray, List.getElem_cons_zero, List.getElem_cons_succ]
          refine wpAnyH_take (i := 22) (v := .bool false) rfl (by kernel_rfl) (by kernel_rfl) (by kernel_rfl) (fun _ _ _ h => h) (Or.inl ⟨by rfl, ?_⟩) (by assumption) ?_
          · intro wx hSw; go_simp
          try simp only [Act.put, List.setIfInBounds_toArray, List.set_cons_zero, List.set_cons_succ, List.getElem_toArray, List.getElem_cons_zero, List.getElem_cons_succ]
          refine wpAnyH_take (i := 23) (v := .bool false) rfl (by kernel_rfl) (by kernel_rfl) (by kernel_rfl) (fun _ _ _ h => h) (Or.inl ⟨by rfl, ?_⟩) (by assumption) ?_
          · intro wx hSw; go_simp
          try simp only [Act.put, List.setIfInBounds_toArray, List.set_cons_zero, List.set_cons_succ, List.getElem_toArray, List.getElem_cons_zero, List.getElem_cons_succ]
          refine wpAnyH_done (by kernel_rfl) ?_ _
          clear hHeld
          clear yM0 yM1 hlM
          clear c0 c1 c2 c3 c4 c5 c6
          go_wp2
          go_roundw
          case rel => exact ⟨k + 1, by omega, by go_num, fun j hj => by
            by_cases hjk : j = k
            · subst hjk; exact hst
            · exact HL.out j (by omega), bthen HB.out (by repeat (first | exact Below.refl _ _ | refine bthen ?_ (by assumption) | apply Below.drew))⟩
          case measure => simp [intOf]; omega
        obtain ⟨m, hm⟩ : ∃ m, k = m + 1 := ⟨k - 1, by omega⟩
        have hkm : (k : Int) - 1 = (m : Int) := by omega
        have hk1 : (0 : Int) < k := by omega
        have hmn : (m : Int) < n := by omega
        have hmk : k - 1 = m := by omega
        cases hl : lessB (Z m) (Z k)
        · have hst : stepB c d Z k = false := by simp [stepB, hg, hk0, hmk, hl]
          clear hmk hk0
          have hm1 : m < k := by omega
          clear hm
          have c0 : wr.cell? ⟨b, o + k * 7, none⟩ = some (.int .i64 (Z k 0)) := (BW.out.cell (p := ⟨b, _, none⟩) hb).trans (HW.out k 0 hkn (by omega))
          have c1 : wr.cell? ⟨b, o + k * 7 + 1, none⟩ = some (.int .i64 (Z k 1)) := (BW.out.cell (p := ⟨b, _, none⟩) hb).trans (HW.out k 1 hkn (by omega))
          have c2 : wr.cell? ⟨b, o + k * 7 + 2, none⟩ = some (.int .i64 (Z k 2)) := (BW.out.cell (p := ⟨b, _, none⟩) hb).trans (HW.out k 2 hkn (by omega))
          have c3 : wr.cell? ⟨b, o + k * 7 + 3, none⟩ = some (.int .i64 (Z k 3)) := (BW.out.cell (p := ⟨b, _, none⟩) hb).trans (HW.out k 3 hkn (by omega))
          have c4 : wr.cell? ⟨b, o + k * 7 + 4, none⟩ = some (.int .i64 (Z k 4)) := (BW.out.cell (p := ⟨b, _, none⟩) hb).trans (HW.out k 4 hkn (by omega))
          have c5 : wr.cell? ⟨b, o + k * 7 + 5, none⟩ = some (.int .i64 (Z k 5)) := (BW.out.cell (p := ⟨b, _, none⟩) hb).trans (HW.out k 5 hkn (by omega))
          have c6 : wr.cell? ⟨b, o + k * 7 + 6, none⟩ = some (.int .i64 (Z k 6)) := (BW.out.cell (p := ⟨b, _, none⟩) hb).trans (HW.out k 6 hkn (by omega))
          have q0 : wr.cell? ⟨b, o + m * 7, none⟩ = some (.int .i64 (Z m 0)) := (BW.out.cell (p := ⟨b, _, none⟩) hb).trans (HW.out m 0 (by omega) (by omega))
          have q1 : wr.cell? ⟨b, o + m * 7 + 1, none⟩ = some (.int .i64 (Z m 1)) := (BW.out.cell (p := ⟨b, _, none⟩) hb).trans (HW.out m 1 (by omega) (by omega))
          have q2 : wr.cell? ⟨b, o + m * 7 + 2, none⟩ = some (.int .i64 (Z m 2)) := (BW.out.cell (p := ⟨b, _, none⟩) hb).trans (HW.out m 2 (by omega) (by omega))
          have q3 : wr.cell? ⟨b, o + m * 7 + 3, none⟩ = some (.int .i64 (Z m 3)) := (BW.out.cell (p := ⟨b, _, none⟩) hb).trans (HW.out m 3 (by omega) (by omega))
          have q4 : wr.cell? ⟨b, o + m * 7 + 4, none⟩ = some (.int .i64 (Z m 4)) := (BW.out.cell (p := ⟨b, _, none⟩) hb).trans (HW.out m 4 (by omega) (by omega))
          have q5 : wr.cell? ⟨b, o + m * 7 + 5, none⟩ = some (.int .i64 (Z m 5)) := (BW.out.cell (p := ⟨b, _, none⟩) hb).trans (HW.out m 5 (by omega) (by omega))
          have q6 : wr.cell? ⟨b, o + m * 7 + 6, none⟩ = some (.int .i64 (Z m 6)) := (BW.out.cell (p := ⟨b, _, none⟩) hb).trans (HW.out m 6 (by omega) (by omega))
          have yM0 : wr.cell? ⟨w.heap.size, 0, none⟩ = some (.int .i64 c) := (MW.out.2 0 (by simp)).1
          have yM1 : wr.cell? ⟨w.heap.size, 1, none⟩ = some (.int .i64 d) := (MW.out.2 1 (by simp)).1
          have hlM : w.heap.size < wr.heap.size := MW.out.1
          go_wp2
          refine wp_region_held_drew (S := fun w' => (∀ b o, b < wr.heap.size → w'.cell? ⟨b, o, none⟩ = wr.cell? ⟨b, o, none⟩) ∧ wr.heap.size ≤ w'.heap.size) (by kernel_rfl) ⟨fun _ _ _ => rfl, Nat.le_refl _⟩ ?_
          intro hHeld
          refine wpAnyH_take (i := 0) (v := .agg #[.int .i64 c, .int .i64 d]) rfl (by kernel_rfl) (by kernel_rfl) (by kernel_rfl) (fun _ _ _ h => h) (Or.inl ⟨by rfl, ?_⟩) (by assumption) ?_
          · intro wx hSw; go_simp
          try simp only [Act.put, List.setIfInBounds_toArray, List.set_cons_zero, List.set_cons_succ, List.getElem_toArray, List.getElem_cons_zero]
          refine wpAnyH_take (i := 1) (v := .slice (some ⟨b, o, none⟩) n cap) rfl (by kernel_rfl) (by kernel_rfl) (by kernel_rfl) (fun _ _ _ h => h) (Or.inl ⟨by rfl, ?_⟩) (by assumption) ?_
          · intro wx hSw; go_simp
          try simp only [Act.put, List.setIfInBounds_toArray, List.set_cons_zero, List.set_cons_succ, List.getElem_toArray, List.getElem_cons_zero, List.getElem_cons_succ]
          refine wpAnyH_take (i := 2) (v := .int .i64 (k : Int)) rfl (by kernel_rfl) (by kernel_rfl) (by kernel_rfl) (fun _ _ _ h => h) (Or.inl ⟨by rfl, ?_⟩) (by assumption) ?_
          · intro wx hSw; go_simp
          try simp only [Act.put, List.setIfInBounds_toArray, List.set_cons_zero, List.set_cons_succ, List.getElem_toArray, List.getElem_cons_zero, List.getElem_cons_succ]
          refine wpAnyH_take (i := 3) (v := .pointer (some ⟨b, o + k * 7, none⟩)) rfl (by kernel_rfl) (by kernel_rfl) (by kernel_rfl) (fun _ _ _ h => h) (Or.inl ⟨by rfl, ?_⟩) (by assumption) ?_
          · intro wx hSw; go_simp
          try simp only [Act.put, List.setIfInBounds_toArray, List.set_cons_zero, List.set_cons_succ, List.getElem_toArray, List.getElem_cons_zero, List.getElem_cons_succ]
          refine wpAnyH_take (i := 4) (v := .agg #[.int .i64 (Z k 0), .int .i64 (Z k 1), .int .i64 (Z k 2), .int .i64 (Z k 3), .int .i64 (Z k 4), .int .i64 (Z k 5), .int .i64 (Z k 6)]) rfl (by kernel_rfl) (by kernel_rfl) (by kernel_rfl) (fun _ _ _ h => h) (Or.inl ⟨by rfl, ?_⟩) (by assumption) ?_
          · intro wx hSw; go_simp
          try simp only [Act.put, List.setIfInBounds_toArray, List.set_cons_zero, List.set_cons_succ, List.getElem_toArray, List.getElem_cons_zero, List.getElem_cons_succ]
          refine wpAnyH_ready (rs := [5]) (by kernel_rfl) (by simp) ?_
          refine AllReadyH.cons rfl (fun K hK => ?_) AllReadyH.nil
          go_simp
          go_wp2_with fail
          refine (gstOk_spec _ _ _ _ _ _ _ _ _ _).mono ?_
          rintro e x1 ⟨rfl, hx1⟩
          rw [show gstB c d (Z k 0) (Z k 1) (Z k 2) (Z k 3) (Z k 4) (Z k 5) (Z k 6) = true from hg]
          refine hK.out _ _ (keepS (by assumption) hx1) (fun hNew => ?_)
          clear hK K hHeld
          have hHeld := hNew
          clear hNew
          try simp only [Act.put, List.setIfInBounds_toArray, List.set_cons_zero, List.set_cons_succ, List.getElem_toArray, List.getElem_cons_zero, List.getElem_cons_succ]
          refine wpAnyH_take (i := 6) (v := .bool false) rfl (by kernel_rfl) (by kernel_rfl) (by kernel_rfl) (fun _ _ _ h => h) (Or.inl ⟨by rfl, ?_⟩) (by assumption) ?_
          · intro wx hSw; go_simp
          try simp only [Act.put, List.setIfInBounds_toArray, List.set_cons_zero, List.set_cons_succ, List.getElem_toArray, List.getElem_cons_zero, List.getElem_cons_succ]
          refine wpAnyH_take (i := 7) (v := .bool false) rfl (by kernel_rfl) (by kernel_rfl) (by kernel_rfl) (fun _ _ _ h => h) (Or.inl ⟨by rfl, ?_⟩) (by assumption) ?_
          · intro wx hSw; go_simp
          try simp only [Act.put, List.setIfInBounds_toArray, List.set_cons_zero, List.set_cons_succ, List.getElem_toArray, List.getElem_cons_zero, List.getElem_cons_succ]
          refine wpAnyH_take (i := 8) (v := .int .i64 (k : Int)) rfl (by kernel_rfl) (by kernel_rfl) (by kernel_rfl) (fun _ _ _ h => h) (Or.inl ⟨by rfl, ?_⟩) (by assumption) ?_
          · intro wx hSw; go_simp
          try simp only [Act.put, List.setIfInBounds_toArray, List.set_cons_zero, List.set_cons_succ, List.getElem_toArray, List.getElem_cons_zero, List.getElem_cons_succ]
          refine wpAnyH_take (i := 9) (v := .bool true) rfl (by kernel_rfl) (by kernel_rfl) (by kernel_rfl) (fun _ _ _ h => h) (Or.inl ⟨by rfl, ?_⟩) (by assumption) ?_
          · intro wx hSw; go_simp <;> first | omega | (exact IntWalk.i64_in _ (by omega)) | go_num
          try simp only [Act.put, List.setIfInBounds_toArray, List.set_cons_zero, List.set_cons_succ, List.getElem_toArray, List.getElem_cons_zero, List.getElem_cons_succ]
          refine wpAnyH_take (i := 10) (v := .bool true) rfl (by kernel_rfl) (by kernel_rfl) (by kernel_rfl) (fun _ _ _ h => h) (Or.inl ⟨by rfl, ?_⟩) (by assumption) ?_
          · intro wx hSw; go_simp
          try simp only [Act.put, List.setIfInBounds_toArray, List.set_cons_zero, List.set_cons_succ, List.getElem_toArray, List.getElem_cons_zero, List.getElem_cons_succ]
          refine wpAnyH_take (i := 11) (v := .slice (some ⟨b, o, none⟩) n cap) rfl (by kernel_rfl) (by kernel_rfl) (by kernel_rfl) (fun _ _ _ h => h) (Or.inl ⟨by rfl, ?_⟩) (by assumption) ?_
          · intro wx hSw; go_simp
          try simp only [Act.put, List.setIfInBounds_toArray, List.set_cons_zero, List.set_cons_succ, List.getElem_toArray, List.getElem_cons_zero, List.getElem_cons_succ]
          refine wpAnyH_take (i := 12) (v := .int .i64 (k : Int)) rfl (by kernel_rfl) (by kernel_rfl) (by kernel_rfl) (fun _ _ _ h => h) (Or.inl ⟨by rfl, ?_⟩) (by assumption) ?_
          · intro wx hSw; go_simp
          try simp only [Act.put, List.setIfInBounds_toArray, List.set_cons_zero, List.set_cons_succ, List.getElem_toArray, List.getElem_cons_zero, List.getElem_cons_succ]
          refine wpAnyH_take (i := 13) (v := .int .i64 (m : Int)) rfl (by kernel_rfl) (by kernel_rfl) (by kernel_rfl) (fun _ _ _ h => h) (Or.inl ⟨by rfl, ?_⟩) (by assumption) ?_
          · intro wx hSw; go_simp <;> first | omega | (exact IntWalk.i64_in _ (by omega)) | go_num
          try simp only [Act.put, List.setIfInBounds_toArray, List.set_cons_zero, List.set_cons_succ, List.getElem_toArray, List.getElem_cons_zero, List.getElem_cons_succ]
          refine wpAnyH_take (i := 14) (v := .pointer (some ⟨b, o + m * 7, none⟩)) rfl (by kernel_rfl) (by kernel_rfl) (by kernel_rfl) (fun _ _ _ h => h) (Or.inl ⟨by rfl, ?_⟩) (by assumption) ?_
          · intro wx hSw; go_simp
          try simp only [Act.put, List.setIfInBounds_toArray, List.set_cons_zero, List.set_cons_succ, List.getElem_toArray, List.getElem_cons_zero, List.getElem_cons_succ]
          refine wpAnyH_take (i := 15) (v := .agg #[.int .i64 (Z m 0), .int .i64 (Z m 1), .int .i64 (Z m 2), .int .i64 (Z m 3), .int .i64 (Z m 4), .int .i64 (Z m 5), .int .i64 (Z m 6)]) rfl (by kernel_rfl) (by kernel_rfl) (by kernel_rfl) (fun _ _ _ h => h) (Or.inl ⟨by rfl, ?_⟩) (by assumption) ?_
          · intro wx hSw; go_simp
          try simp only [Act.put, List.setIfInBounds_toArray, List.set_cons_zero, List.set_cons_succ, List.getElem_toArray, List.getElem_cons_zero, List.getElem_cons_succ]
          refine wpAnyH_take (i := 16) (v := .slice (some ⟨b, o, none⟩) n cap) rfl (by kernel_rfl) (by kernel_rfl) (by kernel_rfl) (fun _ _ _ h => h) (Or.inl ⟨by rfl, ?_⟩) (by assumption) ?_
          · intro wx hSw; go_simp
          try simp only [Act.put, List.setIfInBounds_toArray, List.set_cons_zero, List.set_cons_succ, List.getElem_toArray, List.getElem_cons_zero, List.getElem_cons_succ]
          refine wpAnyH_take (i := 17) (v := .int .i64 (k : Int)) rfl (by kernel_rfl) (by kernel_rfl) (by kernel_rfl) (fun _ _ _ h => h) (Or.inl ⟨by rfl, ?_⟩) (by assumption) ?_
          · intro wx hSw; go_simp
          try simp only [Act.put, List.setIfInBounds_toArray, List.set_cons_zero, List.set_cons_succ, List.getElem_toArray, List.getElem_cons_zero, List.getElem_cons_succ]
          refine wpAnyH_take (i := 18) (v := .pointer (some ⟨b, o + k * 7, none⟩)) rfl (by kernel_rfl) (by kernel_rfl) (by kernel_rfl) (fun _ _ _ h => h) (Or.inl ⟨by rfl, ?_⟩) (by assumption) ?_
          · intro wx hSw; go_simp
          try simp only [Act.put, List.setIfInBounds_toArray, List.set_cons_zero, List.set_cons_succ, List.getElem_toArray, List.getElem_cons_zero, List.getElem_cons_succ]
          refine wpAnyH_take (i := 19) (v := .agg #[.int .i64 (Z k 0), .int .i64 (Z k 1), .int .i64 (Z k 2), .int .i64 (Z k 3), .int .i64 (Z k 4), .int .i64 (Z k 5), .int .i64 (Z k 6)]) rfl (by kernel_rfl) (by kernel_rfl) (by kernel_rfl) (fun _ _ _ h => h) (Or.inl ⟨by rfl, ?_⟩) (by assumption) ?_
          · intro wx hSw; go_simp
          try simp only [Act.put, List.setIfInBounds_toArray, List.set_cons_zero, List.set_cons_succ, List.getElem_toArray, List.getElem_cons_zero, List.getElem_cons_succ]
          refine wpAnyH_ready (rs := [20]) (by kernel_rfl) (by simp) ?_
          refine AllReadyH.cons rfl (fun K hK => ?_) AllReadyH.nil
          go_simp
          go_wp2_with fail
          refine (less_spec (Z m) (Z k) _).mono ?_
          rintro e x2 ⟨rfl, hx2⟩
          rw [hl]
          refine hK.out _ _ (keepS (by assumption) hx2) (fun hNew => ?_)
          clear hK K hHeld
          have hHeld := hNew
          clear hNew
          try simp only [Act.put, List.setIfInBounds_toArray, List.set_cons_zero, List.set_cons_succ, List.getElem_toArray, List.getElem_cons_zero, List.getElem_cons_succ]
          refine wpAnyH_take (i := 21) (v := .bool true) rfl (by kernel_rfl) (by kernel_rfl) (by kernel_rfl) (fun _ _ _ h => h) (Or.inl ⟨by rfl, ?_⟩) (by assumption) ?_
          · intro wx hSw; go_simp
          try simp only [Act.put, List.setIfInBounds_toArray, List.set_cons_zero, List.set_cons_succ, List.getElem_toArray, List.getElem_cons_zero, List.getElem_cons_succ]
          refine wpAnyH_take (i := 22) (v := .bool true) rfl (by kernel_rfl) (by kernel_rfl) (by kernel_rfl) (fun _ _ _ h => h) (Or.inl ⟨by rfl, ?_⟩) (by assumption) ?_
          · intro wx hSw; go_simp
          try simp only [Act.put, List.setIfInBounds_toArray, List.set_cons_zero, List.set_cons_succ, List.getElem_toArray, List.getElem_cons_zero, List.getElem_cons_succ]
          refine wpAnyH_take (i := 23) (v := .bool true) rfl (by kernel_rfl) (by kernel_rfl) (by kernel_rfl) (fun _ _ _ h => h) (Or.inl ⟨by rfl, ?_⟩) (by assumption) ?_
          · intro wx hSw; go_simp
          try simp only [Act.put, List.setIfInBounds_toArray, List.set_cons_zero, List.set_cons_succ, List.getElem_toArray, List.getElem_cons_zero, List.getElem_cons_succ]
          refine wpAnyH_done (by kernel_rfl) ?_ _
          clear hHeld
          clear yM0 yM1 hlM
          clear c0 c1 c2 c3 c4 c5 c6 q0 q1 q2 q3 q4 q5 q6
          go_wp2
          go_ret
          exact ⟨by rw [ghostsB_false hkn hst] <;> rfl, bthen BW.out (by repeat (first | exact Below.refl _ _ | refine bthen ?_ (by assumption) | apply Below.drew))⟩
        · have hst : stepB c d Z k = true := by simp [stepB, hg, hmk, hl]
          clear hmk hk0
          have hm1 : m < k := by omega
          clear hm
          have c0 : wr.cell? ⟨b, o + k * 7, none⟩ = some (.int .i64 (Z k 0)) := (BW.out.cell (p := ⟨b, _, none⟩) hb).trans (HW.out k 0 hkn (by omega))
          have c1 : wr.cell? ⟨b, o + k * 7 + 1, none⟩ = some (.int .i64 (Z k 1)) := (BW.out.cell (p := ⟨b, _, none⟩) hb).trans (HW.out k 1 hkn (by omega))
          have c2 : wr.cell? ⟨b, o + k * 7 + 2, none⟩ = some (.int .i64 (Z k 2)) := (BW.out.cell (p := ⟨b, _, none⟩) hb).trans (HW.out k 2 hkn (by omega))
          have c3 : wr.cell? ⟨b, o + k * 7 + 3, none⟩ = some (.int .i64 (Z k 3)) := (BW.out.cell (p := ⟨b, _, none⟩) hb).trans (HW.out k 3 hkn (by omega))
          have c4 : wr.cell? ⟨b, o + k * 7 + 4, none⟩ = some (.int .i64 (Z k 4)) := (BW.out.cell (p := ⟨b, _, none⟩) hb).trans (HW.out k 4 hkn (by omega))
          have c5 : wr.cell? ⟨b, o + k * 7 + 5, none⟩ = some (.int .i64 (Z k 5)) := (BW.out.cell (p := ⟨b, _, none⟩) hb).trans (HW.out k 5 hkn (by omega))
          have c6 : wr.cell? ⟨b, o + k * 7 + 6, none⟩ = some (.int .i64 (Z k 6)) := (BW.out.cell (p := ⟨b, _, none⟩) hb).trans (HW.out k 6 hkn (by omega))
          have q0 : wr.cell? ⟨b, o + m * 7, none⟩ = some (.int .i64 (Z m 0)) := (BW.out.cell (p := ⟨b, _, none⟩) hb).trans (HW.out m 0 (by omega) (by omega))
          have q1 : wr.cell? ⟨b, o + m * 7 + 1, none⟩ = some (.int .i64 (Z m 1)) := (BW.out.cell (p := ⟨b, _, none⟩) hb).trans (HW.out m 1 (by omega) (by omega))
          have q2 : wr.cell? ⟨b, o + m * 7 + 2, none⟩ = some (.int .i64 (Z m 2)) := (BW.out.cell (p := ⟨b, _, none⟩) hb).trans (HW.out m 2 (by omega) (by omega))
          have q3 : wr.cell? ⟨b, o + m * 7 + 3, none⟩ = some (.int .i64 (Z m 3)) := (BW.out.cell (p := ⟨b, _, none⟩) hb).trans (HW.out m 3 (by omega) (by omega))
          have q4 : wr.cell? ⟨b, o + m * 7 + 4, none⟩ = some (.int .i64 (Z m 4)) := (BW.out.cell (p := ⟨b, _, none⟩) hb).trans (HW.out m 4 (by omega) (by omega))
          have q5 : wr.cell? ⟨b, o + m * 7 + 5, none⟩ = some (.int .i64 (Z m 5)) := (BW.out.cell (p := ⟨b, _, none⟩) hb).trans (HW.out m 5 (by omega) (by omega))
          have q6 : wr.cell? ⟨b, o + m * 7 + 6, none⟩ = some (.int .i64 (Z m 6)) := (BW.out.cell (p := ⟨b, _, none⟩) hb).trans (HW.out m 6 (by omega) (by omega))
          have yM0 : wr.cell? ⟨w.heap.size, 0, none⟩ = some (.int .i64 c) := (MW.out.2 0 (by simp)).1
          have yM1 : wr.cell? ⟨w.heap.size, 1, none⟩ = some (.int .i64 d) := (MW.out.2 1 (by simp)).1
          have hlM : w.heap.size < wr.heap.size := MW.out.1
          go_wp2
          refine wp_region_held_drew (S := fun w' => (∀ b o, b < wr.heap.size → w'.cell? ⟨b, o, none⟩ = wr.cell? ⟨b, o, none⟩) ∧ wr.heap.size ≤ w'.heap.size) (by kernel_rfl) ⟨fun _ _ _ => rfl, Nat.le_refl _⟩ ?_
          intro hHeld
          refine wpAnyH_take (i := 0) (v := .agg #[.int .i64 c, .int .i64 d]) rfl (by kernel_rfl) (by kernel_rfl) (by kernel_rfl) (fun _ _ _ h => h) (Or.inl ⟨by rfl, ?_⟩) (by assumption) ?_
          · intro wx hSw; go_simp
          try simp only [Act.put, List.setIfInBounds_toArray, List.set_cons_zero, List.set_cons_succ, List.getElem_toArray, List.getElem_cons_zero]
          refine wpAnyH_take (i := 1) (v := .slice (some ⟨b, o, none⟩) n cap) rfl (by kernel_rfl) (by kernel_rfl) (by kernel_rfl) (fun _ _ _ h => h) (Or.inl ⟨by rfl, ?_⟩) (by assumption) ?_
          · intro wx hSw; go_simp
          try simp only [Act.put, List.setIfInBounds_toArray, List.set_cons_zero, List.set_cons_succ, List.getElem_toArray, List.getElem_cons_zero, List.getElem_cons_succ]
          refine wpAnyH_take (i := 2) (v := .int .i64 (k : Int)) rfl (by kernel_rfl) (by kernel_rfl) (by kernel_rfl) (fun _ _ _ h => h) (Or.inl ⟨by rfl, ?_⟩) (by assumption) ?_
          · intro wx hSw; go_simp
          try simp only [Act.put, List.setIfInBounds_toArray, List.set_cons_zero, List.set_cons_succ, List.getElem_toArray, List.getElem_cons_zero, List.getElem_cons_succ]
          refine wpAnyH_take (i := 3) (v := .pointer (some ⟨b, o + k * 7, none⟩)) rfl (by kernel_rfl) (by kernel_rfl) (by kernel_rfl) (fun _ _ _ h => h) (Or.inl ⟨by rfl, ?_⟩) (by assumption) ?_
          · intro wx hSw; go_simp
          try simp only [Act.put, List.setIfInBounds_toArray, List.set_cons_zero, List.set_cons_succ, List.getElem_toArray, List.getElem_cons_zero, List.getElem_cons_succ]
          refine wpAnyH_take (i := 4) (v := .agg #[.int .i64 (Z k 0), .int .i64 (Z k 1), .int .i64 (Z k 2), .int .i64 (Z k 3), .int .i64 (Z k 4), .int .i64 (Z k 5), .int .i64 (Z k 6)]) rfl (by kernel_rfl) (by kernel_rfl) (by kernel_rfl) (fun _ _ _ h => h) (Or.inl ⟨by rfl, ?_⟩) (by assumption) ?_
          · intro wx hSw; go_simp
          try simp only [Act.put, List.setIfInBounds_toArray, List.set_cons_zero, List.set_cons_succ, List.getElem_toArray, List.getElem_cons_zero, List.getElem_cons_succ]
          refine wpAnyH_ready (rs := [5]) (by kernel_rfl) (by simp) ?_
          refine AllReadyH.cons rfl (fun K hK => ?_) AllReadyH.nil
          go_simp
          go_wp2_with fail
          refine (gstOk_spec _ _ _ _ _ _ _ _ _ _).mono ?_
          rintro e x1 ⟨rfl, hx1⟩
          rw [show gstB c d (Z k 0) (Z k 1) (Z k 2) (Z k 3) (Z k 4) (Z k 5) (Z k 6) = true from hg]
          refine hK.out _ _ (keepS (by assumption) hx1) (fun hNew => ?_)
          clear hK K hHeld
          have hHeld := hNew
          clear hNew
          try simp only [Act.put, List.setIfInBounds_toArray, List.set_cons_zero, List.set_cons_succ, List.getElem_toArray, List.getElem_cons_zero, List.getElem_cons_succ]
          refine wpAnyH_take (i := 6) (v := .bool false) rfl (by kernel_rfl) (by kernel_rfl) (by kernel_rfl) (fun _ _ _ h => h) (Or.inl ⟨by rfl, ?_⟩) (by assumption) ?_
          · intro wx hSw; go_simp
          try simp only [Act.put, List.setIfInBounds_toArray, List.set_cons_zero, List.set_cons_succ, List.getElem_toArray, List.getElem_cons_zero, List.getElem_cons_succ]
          refine wpAnyH_take (i := 7) (v := .bool false) rfl (by kernel_rfl) (by kernel_rfl) (by kernel_rfl) (fun _ _ _ h => h) (Or.inl ⟨by rfl, ?_⟩) (by assumption) ?_
          · intro wx hSw; go_simp
          try simp only [Act.put, List.setIfInBounds_toArray, List.set_cons_zero, List.set_cons_succ, List.getElem_toArray, List.getElem_cons_zero, List.getElem_cons_succ]
          refine wpAnyH_take (i := 8) (v := .int .i64 (k : Int)) rfl (by kernel_rfl) (by kernel_rfl) (by kernel_rfl) (fun _ _ _ h => h) (Or.inl ⟨by rfl, ?_⟩) (by assumption) ?_
          · intro wx hSw; go_simp
          try simp only [Act.put, List.setIfInBounds_toArray, List.set_cons_zero, List.set_cons_succ, List.getElem_toArray, List.getElem_cons_zero, List.getElem_cons_succ]
          refine wpAnyH_take (i := 9) (v := .bool true) rfl (by kernel_rfl) (by kernel_rfl) (by kernel_rfl) (fun _ _ _ h => h) (Or.inl ⟨by rfl, ?_⟩) (by assumption) ?_
          · intro wx hSw; go_simp <;> first | omega | (exact IntWalk.i64_in _ (by omega)) | go_num
          try simp only [Act.put, List.setIfInBounds_toArray, List.set_cons_zero, List.set_cons_succ, List.getElem_toArray, List.getElem_cons_zero, List.getElem_cons_succ]
          refine wpAnyH_take (i := 10) (v := .bool true) rfl (by kernel_rfl) (by kernel_rfl) (by kernel_rfl) (fun _ _ _ h => h) (Or.inl ⟨by rfl, ?_⟩) (by assumption) ?_
          · intro wx hSw; go_simp
          try simp only [Act.put, List.setIfInBounds_toArray, List.set_cons_zero, List.set_cons_succ, List.getElem_toArray, List.getElem_cons_zero, List.getElem_cons_succ]
          refine wpAnyH_take (i := 11) (v := .slice (some ⟨b, o, none⟩) n cap) rfl (by kernel_rfl) (by kernel_rfl) (by kernel_rfl) (fun _ _ _ h => h) (Or.inl ⟨by rfl, ?_⟩) (by assumption) ?_
          · intro wx hSw; go_simp
          try simp only [Act.put, List.setIfInBounds_toArray, List.set_cons_zero, List.set_cons_succ, List.getElem_toArray, List.getElem_cons_zero, List.getElem_cons_succ]
          refine wpAnyH_take (i := 12) (v := .int .i64 (k : Int)) rfl (by kernel_rfl) (by kernel_rfl) (by kernel_rfl) (fun _ _ _ h => h) (Or.inl ⟨by rfl, ?_⟩) (by assumption) ?_
          · intro wx hSw; go_simp
          try simp only [Act.put, List.setIfInBounds_toArray, List.set_cons_zero, List.set_cons_succ, List.getElem_toArray, List.getElem_cons_zero, List.getElem_cons_succ]
          refine wpAnyH_take (i := 13) (v := .int .i64 (m : Int)) rfl (by kernel_rfl) (by kernel_rfl) (by kernel_rfl) (fun _ _ _ h => h) (Or.inl ⟨by rfl, ?_⟩) (by assumption) ?_
          · intro wx hSw; go_simp <;> first | omega | (exact IntWalk.i64_in _ (by omega)) | go_num
          try simp only [Act.put, List.setIfInBounds_toArray, List.set_cons_zero, List.set_cons_succ, List.getElem_toArray, List.getElem_cons_zero, List.getElem_cons_succ]
          refine wpAnyH_take (i := 14) (v := .pointer (some ⟨b, o + m * 7, none⟩)) rfl (by kernel_rfl) (by kernel_rfl) (by kernel_rfl) (fun _ _ _ h => h) (Or.inl ⟨by rfl, ?_⟩) (by assumption) ?_
          · intro wx hSw; go_simp
          try simp only [Act.put, List.setIfInBounds_toArray, List.set_cons_zero, List.set_cons_succ, List.getElem_toArray, List.getElem_cons_zero, List.getElem_cons_succ]
          refine wpAnyH_take (i := 15) (v := .agg #[.int .i64 (Z m 0), .int .i64 (Z m 1), .int .i64 (Z m 2), .int .i64 (Z m 3), .int .i64 (Z m 4), .int .i64 (Z m 5), .int .i64 (Z m 6)]) rfl (by kernel_rfl) (by kernel_rfl) (by kernel_rfl) (fun _ _ _ h => h) (Or.inl ⟨by rfl, ?_⟩) (by assumption) ?_
          · intro wx hSw; go_simp
          try simp only [Act.put, List.setIfInBounds_toArray, List.set_cons_zero, List.set_cons_succ, List.getElem_toArray, List.getElem_cons_zero, List.getElem_cons_succ]
          refine wpAnyH_take (i := 16) (v := .slice (some ⟨b, o, none⟩) n cap) rfl (by kernel_rfl) (by kernel_rfl) (by kernel_rfl) (fun _ _ _ h => h) (Or.inl ⟨by rfl, ?_⟩) (by assumption) ?_
          · intro wx hSw; go_simp
          try simp only [Act.put, List.setIfInBounds_toArray, List.set_cons_zero, List.set_cons_succ, List.getElem_toArray, List.getElem_cons_zero, List.getElem_cons_succ]
          refine wpAnyH_take (i := 17) (v := .int .i64 (k : Int)) rfl (by kernel_rfl) (by kernel_rfl) (by kernel_rfl) (fun _ _ _ h => h) (Or.inl ⟨by rfl, ?_⟩) (by assumption) ?_
          · intro wx hSw; go_simp
          try simp only [Act.put, List.setIfInBounds_toArray, List.set_cons_zero, List.set_cons_succ, List.getElem_toArray, List.getElem_cons_zero, List.getElem_cons_succ]
          refine wpAnyH_take (i := 18) (v := .pointer (some ⟨b, o + k * 7, none⟩)) rfl (by kernel_rfl) (by kernel_rfl) (by kernel_rfl) (fun _ _ _ h => h) (Or.inl ⟨by rfl, ?_⟩) (by assumption) ?_
          · intro wx hSw; go_simp
          try simp only [Act.put, List.setIfInBounds_toArray, List.set_cons_zero, List.set_cons_succ, List.getElem_toArray, List.getElem_cons_zero, List.getElem_cons_succ]
          refine wpAnyH_take (i := 19) (v := .agg #[.int .i64 (Z k 0), .int .i64 (Z k 1), .int .i64 (Z k 2), .int .i64 (Z k 3), .int .i64 (Z k 4), .int .i64 (Z k 5), .int .i64 (Z k 6)]) rfl (by kernel_rfl) (by kernel_rfl) (by kernel_rfl) (fun _ _ _ h => h) (Or.inl ⟨by rfl, ?_⟩) (by assumption) ?_
          · intro wx hSw; go_simp
          try simp only [Act.put, List.setIfInBounds_toArray, List.set_cons_zero, List.set_cons_succ, List.getElem_toArray, List.getElem_cons_zero, List.getElem_cons_succ]
          refine wpAnyH_ready (rs := [20]) (by kernel_rfl) (by simp) ?_
          refine AllReadyH.cons rfl (fun K hK => ?_) AllReadyH.nil
          go_simp
          go_wp2_with fail
          refine (less_spec (Z m) (Z k) _).mono ?_
          rintro e x2 ⟨rfl, hx2⟩
          rw [hl]
          refine hK.out _ _ (keepS (by assumption) hx2) (fun hNew => ?_)
          clear hK K hHeld
          have hHeld := hNew
          clear hNew
          try simp only [Act.put, List.setIfInBounds_toArray, List.set_cons_zero, List.set_cons_succ, List.getElem_toArray, List.getElem_cons_zero, List.getElem_cons_succ]
          refine wpAnyH_take (i := 21) (v := .bool false) rfl (by kernel_rfl) (by kernel_rfl) (by kernel_rfl) (fun _ _ _ h => h) (Or.inl ⟨by rfl, ?_⟩) (by assumption) ?_
          · intro wx hSw; go_simp
          try simp only [Act.put, List.setIfInBounds_toArray, List.set_cons_zero, List.set_cons_succ, List.getElem_toArray, List.getElem_cons_zero, List.getElem_cons_succ]
          refine wpAnyH_take (i := 22) (v := .bool false) rfl (by kernel_rfl) (by kernel_rfl) (by kernel_rfl) (fun _ _ _ h => h) (Or.inl ⟨by rfl, ?_⟩) (by assumption) ?_
          · intro wx hSw; go_simp
          try simp only [Act.put, List.setIfInBounds_toArray, List.set_cons_zero, List.set_cons_succ, List.getElem_toArray, List.getElem_cons_zero, List.getElem_cons_succ]
          refine wpAnyH_take (i := 23) (v := .bool false) rfl (by kernel_rfl) (by kernel_rfl) (by kernel_rfl) (fun _ _ _ h => h) (Or.inl ⟨by rfl, ?_⟩) (by assumption) ?_
          · intro wx hSw; go_simp
          try simp only [Act.put, List.setIfInBounds_toArray, List.set_cons_zero, List.set_cons_succ, List.getElem_toArray, List.getElem_cons_zero, List.getElem_cons_succ]
          refine wpAnyH_done (by kernel_rfl) ?_ _
          clear hHeld
          clear yM0 yM1 hlM
          clear c0 c1 c2 c3 c4 c5 c6 q0 q1 q2 q3 q4 q5 q6
          go_wp2
          go_roundw
          case rel => exact ⟨k + 1, by omega, by go_num, fun j hj => by
            by_cases hjk : j = k
            · subst hjk; exact hst
            · exact HL.out j (by omega), bthen HB.out (by repeat (first | exact Below.refl _ _ | refine bthen ?_ (by assumption) | apply Below.drew))⟩
          case measure => simp [intOf]; omega
      · have hkk : k = n := by omega
        subst hkk
        go_wp2
        go_ret
        exact ⟨by rw [ghostsB_true h20 HL.out] <;> rfl, BW.out⟩
  · have hv : ghostsB c d n Z = false := by simp [ghostsB, h20]
    rw [hv]
    have h20' : (20 : Int) < n := by omega
    go_enter Try.func20, Try.ntmps20
    go_wp2
    go_ret
    exact ⟨rfl, (Below.refl _ _).alloc (by simp) _⟩

end Go.Proofs.Ytlbjgecjonegkaa
