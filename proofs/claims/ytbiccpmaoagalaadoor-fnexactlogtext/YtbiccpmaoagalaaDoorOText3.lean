/- The walks of the two OrdText at every order, and of the law FnExactOrdText; conditions: the table of powers of ten lies as the text lays it. -/
import Derived.Test.YtbiccpmaoagalaaDoorOText2
namespace Go.Proofs.YtbiccpmaoagalaaDoor
open Go.RowKit
set_option linter.unusedVariables false

theorem ordText_spec (who seq k du n : Int) (w : World) :
    Calls Tryd.prog 8 #[.agg #[.int .i64 who, .int .i64 seq, .int .i64 k, .int .i64 du, .int .i64 n]] w fun e w' => e = .returned (.string (ordText who seq k du n)) ∧ Below w.heap.size w w' := by
  cases h : ordB who seq k du n
  · skip
    go_enter Tryd.func8, Tryd.ntmps8
    go_wp2_with (go_at_call 7; refine (ordOk_spec _ _ _ _ _ _).mono ?_; rintro e w0 ⟨rfl, hb0⟩; rw [h])
    go_ret
    exact ⟨by simp [ordText, h], by repeat (first | exact Below.refl _ _ | refine bthen ?_ (by assumption) | apply Below.drew | refine Below.alloc ?_ (by simp <;> omega) _)⟩
  · obtain ⟨_, _, hk⟩ := ordB_true h
    rw [show ordText who seq k du n = OH who seq ++ tailOf k du n by simp [ordText, h]]
    by_cases h1 : k = 1
    · subst h1
      exact text_step_spec who seq du n h w
    by_cases h2 : k = 2
    · subst h2
      exact text_give_spec who seq du n h w
    by_cases h3 : k = 3
    · subst h3
      exact text_drop_spec who seq du n h w
    by_cases h4 : k = 4
    · subst h4
      exact text_pick_spec who seq du n h w
    by_cases h5 : k = 5
    · subst h5
      exact text_throw_spec who seq du n h w
    by_cases h6 : k = 6
    · subst h6
      exact text_rest_spec who seq du n h w
    · simp [kindB, h1, h2, h3, h4, h5, h6] at hk

theorem ordText_impl (who seq k du n : Int) (w : World) (ht : Lib.TabBelow Tryd.prog w.heap.size w "internal/strconv.uint64pow10" .u64 Lib.pow10Tab) :
    Calls Tryd.prog 18 #[.agg #[.int .i64 who, .int .i64 seq, .int .i64 k, .int .i64 du, .int .i64 n]] w fun e w' => e = .returned (.string (ordText who seq k du n)) ∧ Below w.heap.size w w' := by
  cases h : ordB who seq k du n
  · clear ht
    go_enter Tryd.func18, Tryd.ntmps18
    go_wp2_with (go_at_call 25; refine (ordOk_impl _ _ _ _ _ _).mono ?_; rintro e w0 ⟨rfl, hb0⟩; rw [h])
    go_ret
    exact ⟨by simp [ordText, h], by repeat (first | exact Below.refl _ _ | refine bthen ?_ (by assumption) | apply Below.drew | refine Below.alloc ?_ (by simp <;> omega) _)⟩
  · obtain ⟨_, _, hk⟩ := ordB_true h
    rw [show ordText who seq k du n = OH who seq ++ tailOf k du n by simp [ordText, h]]
    by_cases h1 : k = 1
    · subst h1
      exact text_step_impl who seq du n h w ht
    by_cases h2 : k = 2
    · subst h2
      exact text_give_impl who seq du n h w ht
    by_cases h3 : k = 3
    · subst h3
      exact text_drop_impl who seq du n h w ht
    by_cases h4 : k = 4
    · subst h4
      exact text_pick_impl who seq du n h w ht
    by_cases h5 : k = 5
    · subst h5
      exact text_throw_impl who seq du n h w ht
    by_cases h6 : k = 6
    · subst h6
      exact text_rest_impl who seq du n h w ht
    · simp [kindB, h1, h2, h3, h4, h5, h6] at hk

end Go.Proofs.YtbiccpmaoagalaaDoor
