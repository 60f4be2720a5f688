/- The walks of PlcCell, PlcSide and what they call: each hands back its plain function; conditions: none. -/
import Derived.Test.YtgjapdjidighlabGreatWalks1
import Derived.Test.YtgjapdjidighlabGreatWalks4
import Derived.Deep.RegionHeld3
import Derived.Deep.QuietTactic
import Derived.BigQuiet
namespace Go.Proofs.YtgjapdjidighlabGreat
open Go.RowKit
set_option linter.unusedVariables false
def cellF (c d a : Int) : Int := if okB c d = true ∧ inB a 0 (c * d - 1) = true then a / d else -1
theorem inB_true {n lo hi : Int} : inB n lo hi = true ↔ lo ≤ n ∧ n ≤ hi := by simp [inB]
theorem okB_bounds {c d : Int} (h : okB c d = true) : 2 ≤ c ∧ c ≤ 4 ∧ 2 ≤ d ∧ d ≤ 8 := by
  simp only [okB, Bool.and_eq_true, inB_true] at h; omega
theorem mul_bounds {c d : Int} (h : okB c d = true) : 4 ≤ c * d ∧ c * d ≤ 32 := by
  obtain ⟨a, b, e, f⟩ := okB_bounds h
  have : c = 2 ∨ c = 3 ∨ c = 4 := by omega
  rcases this with rfl | rfl | rfl <;> omega
theorem cell_spec (c d a : Int) (w : World) :
    Calls Tryz.prog 51 #[.agg #[.int .i64 c, .int .i64 d], .int .i64 a] w fun e w' => e = .returned (.int .i64 (cellF c d a)) ∧ Below w.heap.size w w' := by
  cases h : okB c d
  · go_enter Tryz.func51, Tryz.ntmps51
    go_wp2_with fail
    refine (ok_spec _ _ _).mono ?_
    rintro e w1 ⟨rfl, hb1⟩
    go_wp2
    go_ret
    exact ⟨by simp [cellF, h], bthen ((Below.refl _ _).alloc (by simp) _) hb1⟩
  · obtain ⟨a1, a2, a3, a4⟩ := okB_bounds h
    obtain ⟨m1, m2⟩ := mul_bounds h
    cases hin : inB a 0 (c * d - 1)
    · go_enter Tryz.func51, Tryz.ntmps51
      go_wp2_with fail
      refine (ok_spec _ _ _).mono ?_
      rintro e w1 ⟨rfl, hb1⟩
      obtain ⟨hc1, hf1⟩ := bcell hb1
      go_wp2_with (go_at_call 32; refine (in_spec _ _ _ _).mono ?_; rintro e w' ⟨rfl, rfl⟩)
      go_ret
      exact ⟨by simp [cellF, h, hin], bthen ((Below.refl _ _).alloc (by simp) _) hb1⟩
    · obtain ⟨i1, i2⟩ := inB_true.1 hin
      go_enter Tryz.func51, Tryz.ntmps51
      go_wp2_with fail
      refine (ok_spec _ _ _).mono ?_
      rintro e w1 ⟨rfl, hb1⟩
      obtain ⟨hc1, hf1⟩ := bcell hb1
      go_wp2_with (go_at_call 32; refine (in_spec _ _ _ _).mono ?_; rintro e w' ⟨rfl, rfl⟩)
      go_ret
      exact ⟨by simp [cellF, h, hin], bthen ((Below.refl _ _).alloc (by simp) _) hb1⟩
theorem cell_impl (c d a : Int) (w : World) :
    Calls Tryz.prog 131 #[.int .i64 a, .agg #[.int .i64 c, .int .i64 d]] w fun e w' => e = .returned (.int .i64 (cellF c d a)) ∧ Below w.heap.size w w' := by
  cases h : okB c d
  · go_enter Tryz.func131, Tryz.ntmps131
    go_wp2_with fail
    refine (ok_impl _ _ _).mono ?_
    rintro e w1 ⟨rfl, hb1⟩
    go_wp2
    go_ret
    exact ⟨by simp [cellF, h], bthen ((Below.refl _ _).alloc (by simp) _) hb1⟩
  · obtain ⟨a1, a2, a3, a4⟩ := okB_bounds h
    obtain ⟨m1, m2⟩ := mul_bounds h
    cases hin : inB a 0 (c * d - 1)
    · go_enter Tryz.func131, Tryz.ntmps131
      go_wp2_with fail
      refine (ok_impl _ _ _).mono ?_
      rintro e w1 ⟨rfl, hb1⟩
      obtain ⟨hc1, hf1⟩ := bcell hb1
      go_wp2_with (go_at_call 44; refine (in_impl _ _ _ _).mono ?_; rintro e w' ⟨rfl, rfl⟩)
      go_ret
      exact ⟨by simp [cellF, h, hin], bthen ((Below.refl _ _).alloc (by simp) _) hb1⟩
    · obtain ⟨i1, i2⟩ := inB_true.1 hin
      go_enter Tryz.func131, Tryz.ntmps131
      go_wp2_with fail
      refine (ok_impl _ _ _).mono ?_
      rintro e w1 ⟨rfl, hb1⟩
      obtain ⟨hc1, hf1⟩ := bcell hb1
      go_wp2_with (go_at_call 44; refine (in_impl _ _ _ _).mono ?_; rintro e w' ⟨rfl, rfl⟩)
      go_ret
      exact ⟨by simp [cellF, h, hin], bthen ((Below.refl _ _).alloc (by simp) _) hb1⟩
theorem plcCell_impl (c d a : Int) (w : World) :
    Calls Tryz.prog 129 #[.agg #[.int .i64 c, .int .i64 d], .int .i64 a] w fun e w' => e = .returned (.int .i64 (cellF c d a)) ∧ Below w.heap.size w w' := by
  go_enter Tryz.func129, Tryz.ntmps129
  go_wp2_with fail
  refine (cell_impl _ _ _ _).mono ?_
  rintro e w1 ⟨rfl, hb1⟩
  go_wp2
  go_ret
  exact ⟨rfl, bthen ((Below.refl _ _).alloc (by simp) _) hb1⟩
end Go.Proofs.YtgjapdjidighlabGreat
