/- LogOk of the model; conditions: none. -/
import Derived.Test.YtiahmakaegnnfaaLog1
namespace Go.Proofs.Ytiahmakaegnnfaa
open Go.RowKit
set_option linter.unusedVariables false

set_option maxRecDepth 100000 in
set_option maxHeartbeats 1000000 in
theorem logOk_spec (c d k a0 a1 a2 a3 a4 s p0 p1 p2 p3 p4 p5 p6 p7 n : Int) (w : World) :
    Calls Try.prog 6 #[.agg #[.int .i64 c, .int .i64 d], .agg #[.int .i64 k, .int .i64 a0, .int .i64 a1, .int .i64 a2, .int .i64 a3, .int .i64 a4, .int .i64 s, .int .i64 p0, .int .i64 p1, .int .i64 p2, .int .i64 p3, .int .i64 p4, .int .i64 p5, .int .i64 p6, .int .i64 p7, .int .i64 n]] w fun e w' => e = .returned (.bool (logB c d k a0 a1 a2 a3 a4 s p0 p1 p2 p3 p4 p5 p6 p7 n)) ∧ Below w.heap.size w w' := by
  go_enter Try.func6, Try.ntmps6
  go_wp2_with (first
    | (go_at_call 24; refine (ok_spec _ _ _).mono ?_; rintro e w' ⟨rfl, hb⟩; (first | (replace B0 := bthen B0 hb) | (have B0 := hb)); obtain ⟨hc, hf⟩ := bcell B0)
    | (go_at_call 25; refine (ordOk_spec _ _ _ _ _ _).mono ?_; rintro e w' ⟨rfl, hb⟩; (first | (replace B0 := bthen B0 hb) | (have B0 := hb)); obtain ⟨hc, hf⟩ := bcell B0)
    | (go_at_call 26; refine (in_spec _ _ _ _).mono ?_; rintro e w' ⟨rfl, rfl⟩)
    | (go_at_call 27; refine (pclOk_spec _ _ _ _ _ _ _ _ _ _ _).mono ?_; rintro e w' ⟨rfl, hb⟩; (first | (replace B0 := bthen B0 hb) | (have B0 := hb)); obtain ⟨hc, hf⟩ := bcell B0))
  all_goals (go_ret; exact ⟨by simp_all [logB, noOrder, noParcel], by repeat (first | exact Below.refl _ _ | refine bthen ?_ (by assumption) | refine Below.alloc ?_ (by simp <;> omega) _)⟩)

end Go.Proofs.Ytiahmakaegnnfaa
