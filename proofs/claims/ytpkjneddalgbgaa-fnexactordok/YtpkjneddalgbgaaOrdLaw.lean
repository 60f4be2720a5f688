/- The walk of the law FnExactOrdOk: it answers true; conditions: none. -/
import Derived.Test.YtpkjneddalgbgaaOrd2
namespace Go.Proofs.Ytpkjneddalgbgaa
open Go.RowKit
set_option linter.unusedVariables false

theorem law_ordOk (who seq k to n : Int) (w : World) :
    Calls Try.prog 4 #[.agg #[.int .i64 who, .int .i64 seq, .int .i64 k, .int .i64 to, .int .i64 n]] w fun e w' => e = .returned (.bool true) ∧ Below w.heap.size w w' := by
  go_enter Try.func4, Try.ntmps4
  go_wp2_with fail
  refine (toOrder _ _ _ _ _ _).mono ?_
  rintro e w1 ⟨rfl, hb1⟩
  go_wp2_with fail
  refine (ordOk_spec _ _ _ _ _ _).mono ?_
  rintro e w2 ⟨rfl, hb2⟩
  have B2 := bthen hb1 hb2
  obtain ⟨hc2, hf2⟩ := bcell B2
  go_wp2_with fail
  refine (toOrder _ _ _ _ _ _).mono ?_
  rintro e w3 ⟨rfl, hb3⟩
  go_wp2_with fail
  refine (ordOk_impl _ _ _ _ _ _).mono ?_
  rintro e w4 ⟨rfl, hb4⟩
  go_wp2
  go_ret
  exact ⟨rfl, bthen (bthen (bthen ((Below.refl _ _).alloc (by simp) _) B2) hb3) hb4⟩

end Go.Proofs.Ytpkjneddalgbgaa
