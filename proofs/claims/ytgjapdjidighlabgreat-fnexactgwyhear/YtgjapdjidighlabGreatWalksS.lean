/- The walks of the sides of a cell, the program's and the model's; conditions: none. -/
import Derived.Test.YtgjapdjidighlabGreatWalksC
namespace Go.Proofs.YtgjapdjidighlabGreat
open Go.RowKit
set_option linter.unusedVariables false
def stepF (s : Int) : Int := if s = 0 then -1 else if s = 1 then 1 else 0
def hasB (c d k : Int) : Bool := okB c d && inB k 0 (c - 1)
def sideF (c d k s : Int) : Int := if hasB c d k = true ∧ ¬ stepF s = 0 ∧ hasB c d (k + stepF s) = true then k + stepF s else -1
theorem step_impl (s : Int) (w : World) :
    Calls Tryz.prog 102 #[.int .i64 s] w fun e w' => e = .returned (.int .i64 (stepF s)) ∧ w' = w := by
  by_cases h0 : s = 0
  · subst h0
    go_enter Tryz.func102, Tryz.ntmps102
    go_wp2
    go_ret
    exact ⟨rfl, rfl⟩
  · by_cases h1 : s = 1
    · subst h1
      go_enter Tryz.func102, Tryz.ntmps102
      go_wp2
      go_ret
      exact ⟨rfl, rfl⟩
    · have e0 : (s == 0) = false := by simpa using h0
      have e1 : (s == 1) = false := by simpa using h1
      go_enter Tryz.func102, Tryz.ntmps102
      go_wp2
      go_ret
      exact ⟨by simp [stepF, h0, h1], rfl⟩
theorem has_impl (c d k : Int) (w : World) :
    Calls Tryz.prog 43 #[.agg #[.int .i64 c, .int .i64 d], .int .i64 k] w fun e w' => e = .returned (.bool (hasB c d k)) ∧ Below w.heap.size w w' := by
  cases h : okB c d
  · go_enter Tryz.func43, Tryz.ntmps43
    go_wp2_with fail
    refine (ok_impl _ _ _).mono ?_
    rintro e w1 ⟨rfl, hb1⟩
    go_wp2
    go_ret
    exact ⟨by simp [hasB, h], bthen ((Below.refl _ _).alloc (by simp) _) hb1⟩
  · obtain ⟨a1, a2, a3, a4⟩ := okB_bounds h
    go_enter Tryz.func43, Tryz.ntmps43
    go_wp2_with fail
    refine (ok_impl _ _ _).mono ?_
    rintro e w1 ⟨rfl, hb1⟩
    obtain ⟨hc1, hf1⟩ := bcell hb1
    go_wp2_with (go_at_call 44; refine (in_impl _ _ _ _).mono ?_; rintro e w' ⟨rfl, rfl⟩)
    go_ret
    exact ⟨by simp [hasB, h], bthen ((Below.refl _ _).alloc (by simp) _) hb1⟩
theorem hasB_bounds {c d k : Int} (h : hasB c d k = true) : 2 ≤ c ∧ c ≤ 4 ∧ 2 ≤ d ∧ d ≤ 8 ∧ 0 ≤ k ∧ k ≤ c - 1 := by
  simp only [hasB, Bool.and_eq_true, inB_true] at h
  have := okB_bounds h.1; omega
theorem stepF_cases (s : Int) : stepF s = -1 ∨ stepF s = 1 ∨ stepF s = 0 := by
  unfold stepF; split
  · simp
  · split <;> simp
theorem beside_impl (c d k s : Int) (w : World) :
    Calls Tryz.prog 121 #[.int .i64 s, .agg #[.int .i64 c, .int .i64 d], .int .i64 k] w fun e w' => e = .returned (.int .i64 (sideF c d k s)) ∧ Below w.heap.size w w' := by
  by_cases hs : stepF s = 0
  · go_enter Tryz.func121, Tryz.ntmps121
    go_wp2_with fail
    refine (step_impl _ _).mono ?_
    rintro e w1 ⟨rfl, rfl⟩
    go_wp2
    go_ret
    exact ⟨by simp [sideF, hs], (Below.refl _ _).alloc (by simp) _⟩
  · have hs0 : (stepF s == 0) = false := by simpa using hs
    cases h : hasB c d k
    · go_enter Tryz.func121, Tryz.ntmps121
      go_wp2_with fail
      refine (step_impl _ _).mono ?_
      rintro e w1 ⟨rfl, rfl⟩
      go_wp2_with fail
      refine (has_impl _ _ _ _).mono ?_
      rintro e w2 ⟨rfl, hb2⟩
      go_wp2
      go_ret
      exact ⟨by simp [sideF, h], bthen ((Below.refl _ _).alloc (by simp) _) hb2⟩
    · obtain ⟨a1, a2, a3, a4, a5, a6⟩ := hasB_bounds h
      have s1 : -1 ≤ stepF s := by have := stepF_cases s; omega
      have s2 : stepF s ≤ 1 := by have := stepF_cases s; omega
      cases h2 : hasB c d (k + stepF s)
      all_goals
        go_enter Tryz.func121, Tryz.ntmps121
        go_wp2_with fail
        refine (step_impl _ _).mono ?_
        rintro e w1 ⟨rfl, rfl⟩
        go_wp2_with fail
        refine (has_impl _ _ _ _).mono ?_
        rintro e w2 ⟨rfl, hb2⟩
        obtain ⟨hc2, hf2⟩ := bcell hb2
        go_wp2_with fail
        refine (has_impl _ _ _ _).mono ?_
        rintro e w3 ⟨rfl, hb3⟩
        go_wp2
        go_ret
        exact ⟨by simp [sideF, h, h2, hs], bthen (bthen ((Below.refl _ _).alloc (by simp) _) hb2) hb3⟩
theorem hasB_true {c d k : Int} (h : okB c d = true) : hasB c d k = true ↔ (0 ≤ k ∧ k ≤ c - 1) := by
  simp [hasB, h, inB_true]
theorem side_left {c d k : Int} (h : hasB c d k = true) : sideF c d k 0 = if 0 < k then k - 1 else -1 := by
  obtain ⟨a1, a2, a3, a4, a5, a6⟩ := hasB_bounds h
  have ho : okB c d = true := by simp only [hasB, Bool.and_eq_true] at h; exact h.1
  have e : stepF 0 = -1 := rfl
  unfold sideF
  rw [e]
  by_cases g : 0 < k
  · rw [if_pos g, if_pos ⟨h, by decide, (hasB_true ho).2 (by omega)⟩]; omega
  · rw [if_neg g, if_neg]
    rintro ⟨_, _, h3⟩
    have := (hasB_true ho).1 h3; omega
theorem side_right {c d k : Int} (h : hasB c d k = true) : sideF c d k 1 = if k < c - 1 then k + 1 else -1 := by
  obtain ⟨a1, a2, a3, a4, a5, a6⟩ := hasB_bounds h
  have ho : okB c d = true := by simp only [hasB, Bool.and_eq_true] at h; exact h.1
  have e : stepF 1 = 1 := rfl
  unfold sideF
  rw [e]
  by_cases g : k < c - 1
  · rw [if_pos g, if_pos ⟨h, by decide, (hasB_true ho).2 (by omega)⟩]
  · rw [if_neg g, if_neg]
    rintro ⟨_, _, h3⟩
    have := (hasB_true ho).1 h3; omega
theorem side_else {c d k s : Int} (h0 : ¬ s = 0) (h1 : ¬ s = 1) : sideF c d k s = -1 := by
  have e : stepF s = 0 := by simp [stepF, h0, h1]
  simp [sideF, e]
set_option maxHeartbeats 400000 in
theorem plcSide_spec (c d k s : Int) (w : World) :
    Calls Tryz.prog 33 #[.agg #[.int .i64 c, .int .i64 d], .int .i64 k, .int .i64 s] w fun e w' => e = .returned (.int .i64 (sideF c d k s)) ∧ Below w.heap.size w w' := by
  cases h : okB c d
  · go_enter Tryz.func33, Tryz.ntmps33
    go_wp2_with fail
    refine (ok_spec _ _ _).mono ?_
    rintro e w1 ⟨rfl, hb1⟩
    go_wp2
    go_ret
    exact ⟨by simp [sideF, hasB, h], bthen ((Below.refl _ _).alloc (by simp) _) hb1⟩
  · obtain ⟨a1, a2, a3, a4⟩ := okB_bounds h
    cases hin : inB k 0 (c - 1)
    · go_enter Tryz.func33, Tryz.ntmps33
      go_wp2_with fail
      refine (ok_spec _ _ _).mono ?_
      rintro e w1 ⟨rfl, hb1⟩
      obtain ⟨hc1, hf1⟩ := bcell hb1
      go_wp2_with (go_at_call 32; refine (in_spec _ _ _ _).mono ?_; rintro e w' ⟨rfl, rfl⟩)
      go_ret
      exact ⟨by simp [sideF, hasB, h, hin], bthen ((Below.refl _ _).alloc (by simp) _) hb1⟩
    · obtain ⟨i1, i2⟩ := inB_true.1 hin
      have hh : hasB c d k = true := by simp [hasB, h, hin]
      by_cases h0 : s = 0
      · subst h0
        have E : Hid (sideF c d k 0 = if 0 < k then k - 1 else -1) := side_left hh
        clear hh
        by_cases g : 0 < k
        all_goals
          go_enter Tryz.func33, Tryz.ntmps33
          go_wp2_with fail
          refine (ok_spec _ _ _).mono ?_
          rintro e w1 ⟨rfl, hb1⟩
          obtain ⟨hc1, hf1⟩ := bcell hb1
          go_wp2_with (go_at_call 32; refine (in_spec _ _ _ _).mono ?_; rintro e w' ⟨rfl, rfl⟩)
          go_ret
          exact ⟨by rw [E.out]; simp [g] <;> omega, bthen ((Below.refl _ _).alloc (by simp) _) hb1⟩
      · have e0 : (s == 0) = false := by simpa using h0
        by_cases h1 : s = 1
        · subst h1
          have E : Hid (sideF c d k 1 = if k < c - 1 then k + 1 else -1) := side_right hh
          clear hh h0 e0
          by_cases g : k < c - 1
          all_goals
            go_enter Tryz.func33, Tryz.ntmps33
            go_wp2_with fail
            refine (ok_spec _ _ _).mono ?_
            rintro e w1 ⟨rfl, hb1⟩
            obtain ⟨hc1, hf1⟩ := bcell hb1
            go_wp2_with (go_at_call 32; refine (in_spec _ _ _ _).mono ?_; rintro e w' ⟨rfl, rfl⟩)
            go_ret
            exact ⟨by rw [E.out]; simp [g] <;> omega, bthen ((Below.refl _ _).alloc (by simp) _) hb1⟩
        · have e1 : (s == 1) = false := by simpa using h1
          have E : Hid (sideF c d k s = -1) := side_else h0 h1
          clear hh
          go_enter Tryz.func33, Tryz.ntmps33
          go_wp2_with fail
          refine (ok_spec _ _ _).mono ?_
          rintro e w1 ⟨rfl, hb1⟩
          obtain ⟨hc1, hf1⟩ := bcell hb1
          go_wp2_with (go_at_call 32; refine (in_spec _ _ _ _).mono ?_; rintro e w' ⟨rfl, rfl⟩)
          go_ret
          exact ⟨by rw [E.out]; rfl, bthen ((Below.refl _ _).alloc (by simp) _) hb1⟩
end Go.Proofs.YtgjapdjidighlabGreat
