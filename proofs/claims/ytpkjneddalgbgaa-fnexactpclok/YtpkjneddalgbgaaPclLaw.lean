/- The walk of the law FnExactPclOk: it answers true; conditions: none. -/
import Derived.Test.YtpkjneddalgbgaaPcl1
namespace Go.Proofs.Ytpkjneddalgbgaa
open Go.RowKit
set_option linter.unusedVariables false

theorem law_pclOk (c d pn pk i a n s l pc : Int) (w : World) :
    Calls Try.prog 5 #[.agg #[.int .i64 c, .int .i64 d], .agg #[.int .i64 pn, .int .i64 pk, .int .i64 i, .int .i64 a, .int .i64 n, .int .i64 s, .int .i64 l, .int .i64 pc]] w fun e w' => e = .returned (.bool true) ∧ Below w.heap.size w w' := by
  go_enter Try.func5, Try.ntmps5
  go_wp2
  go_region_held3 (fun w' => (∀ b o, b < w.heap.size + 2 → w'.cell? ⟨b, o, none⟩ = ((w.alloc (.cells #[.int .i64 c, .int .i64 d] 39)).alloc (.cells #[.int .i64 pn, .int .i64 pk, .int .i64 i, .int .i64 a, .int .i64 n, .int .i64 s, .int .i64 l, .int .i64 pc] 43)).cell? ⟨b, o, none⟩) ∧ w.heap.size + 2 ≤ w'.heap.size) (first | (refine keepS ?_ (by assumption); assumption) | exact ⟨fun _ _ _ => rfl, by simp⟩)
    (first
      | (go_at_call 19; refine (toMap _ _ _).mono ?_; rintro e w' ⟨rfl, hb⟩)
      | (go_at_call 20; refine (toParcel _ _ _ _ _ _ _ _ _).mono ?_; rintro e w' ⟨rfl, hb⟩)
      | (go_at_call 18; refine (pclOk_spec _ _ _ _ _ _ _ _ _ _ _).mono ?_; rintro e w' ⟨rfl, hb⟩))
  go_wp2
  go_region_held3 (fun w' => (∀ b o, b < w.heap.size + 2 → w'.cell? ⟨b, o, none⟩ = ((w.alloc (.cells #[.int .i64 c, .int .i64 d] 39)).alloc (.cells #[.int .i64 pn, .int .i64 pk, .int .i64 i, .int .i64 a, .int .i64 n, .int .i64 s, .int .i64 l, .int .i64 pc] 43)).cell? ⟨b, o, none⟩) ∧ w.heap.size + 2 ≤ w'.heap.size) (first | (refine keepS ?_ (by assumption); assumption) | assumption)
    (first
      | (go_at_call 19; refine (toMap _ _ _).mono ?_; rintro e w' ⟨rfl, hb⟩)
      | (go_at_call 20; refine (toParcel _ _ _ _ _ _ _ _ _).mono ?_; rintro e w' ⟨rfl, hb⟩)
      | (go_at_call 21; refine (pclOk_impl _ _ _ _ _ _ _ _ _ _ _).mono ?_; rintro e w' ⟨rfl, hb⟩))
  go_wp2
  go_ret
  exact ⟨rfl, by repeat (first | exact Below.refl _ _ | refine bthen ?_ (by assumption) | apply Below.drew | apply bdrewN | refine Below.alloc ?_ (by simp <;> omega) _)⟩

end Go.Proofs.Ytpkjneddalgbgaa
