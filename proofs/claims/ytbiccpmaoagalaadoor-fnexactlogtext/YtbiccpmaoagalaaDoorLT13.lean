/- The law of LogText; conditions: those typed. -/
import Derived.Test.YtbiccpmaoagalaaDoorLT4
import Derived.Test.YtbiccpmaoagalaaDoorLT5
import Derived.Test.YtbiccpmaoagalaaDoorLT6
import Derived.Test.YtbiccpmaoagalaaDoorLT6b
import Derived.Test.YtbiccpmaoagalaaDoorLT7
import Derived.Test.YtbiccpmaoagalaaDoorLT9
import Derived.Test.YtbiccpmaoagalaaDoorLT10
import Derived.Test.YtbiccpmaoagalaaDoorLT11
import Derived.Test.YtbiccpmaoagalaaDoorLT12
import Derived.Deep.RegionHeld3
import Derived.Deep.QuietTactic
import Derived.BigQuiet
import Derived.Deep.Cut
namespace Go.Proofs.YtbiccpmaoagalaaDoor
open Go.RowKit Go.Deep
set_option linter.unusedVariables false

theorem logText_impl (k : Int) (r : Nat → Int) (w : World) (ht : Lib.TabBelow Tryd.prog w.heap.size w "internal/strconv.uint64pow10" .u64 Lib.pow10Tab) :
    Calls Tryd.prog 6 #[.agg #[.int .i64 k, .int .i64 (r 1), .int .i64 (r 2), .int .i64 (r 3), .int .i64 (r 4), .int .i64 (r 5), .int .i64 (r 6), .int .i64 (r 7), .int .i64 (r 8), .int .i64 (r 9), .int .i64 (r 10), .int .i64 (r 11), .int .i64 (r 12), .int .i64 (r 13), .int .i64 (r 14), .int .i64 (r 15)]] w fun e w' => e = .returned (.string (modText k r)) ∧ Below w.heap.size w w' := by
  rw [← text_agree]
  by_cases h1 : k = 1
  · subst h1; exact logText_impl1 r w ht
  by_cases h2 : k = 2
  · subst h2; exact logText_impl2 r w ht
  by_cases h3 : k = 3
  · subst h3
    cases hk : eqK3 r
    · exact logText_impl30 r hk w ht
    cases hN : inB (r 15) 1 5000
    · exact logText_impl31 r hk hN w ht
    · exact logText_impl32 r hk hN w ht
  have hv : logText k r = ⟨#[]⟩ := by simp [logText, h1, h2, h3]
  rw [hv]
  have q1 : (k == 1) = false := by simp [h1]
  have q2 : (k == 2) = false := by simp [h2]
  have q3 : (k == 3) = false := by simp [h3]
  cases hk : eqK0 k r
  · exact logText_impl0f k q1 q2 q3 r hk w
  · exact logText_impl0t k q1 q2 q3 r hk w

set_option maxRecDepth 20000 in
set_option maxHeartbeats 2000000 in
theorem logText_spec0 (k : Int) (q1 : (k == 1) = false) (q2 : (k == 2) = false) (q3 : (k == 3) = false) (r : Nat → Int) (w : World) :
    Calls Tryd.prog 4 #[.agg #[.int .i64 k, .int .i64 (r 1), .int .i64 (r 2), .int .i64 (r 3), .int .i64 (r 4), .int .i64 (r 5), .int .i64 (r 6), .int .i64 (r 7), .int .i64 (r 8), .int .i64 (r 9), .int .i64 (r 10), .int .i64 (r 11), .int .i64 (r 12), .int .i64 (r 13), .int .i64 (r 14), .int .i64 (r 15)]] w fun e w' => e = .returned (.string ⟨#[]⟩) ∧ Below w.heap.size w w' := by
  go_enter Tryd.func4, Tryd.ntmps4
  go_wp2
  go_ret
  exact ⟨rfl, by repeat (first | exact Below.refl _ _ | assumption | refine bthen ?_ (by assumption) | apply Below.drew | apply bdrewN | refine Below.alloc ?_ (by simp <;> omega) _)⟩

theorem logText_spec (k : Int) (r : Nat → Int) (w : World) :
    Calls Tryd.prog 4 #[.agg #[.int .i64 k, .int .i64 (r 1), .int .i64 (r 2), .int .i64 (r 3), .int .i64 (r 4), .int .i64 (r 5), .int .i64 (r 6), .int .i64 (r 7), .int .i64 (r 8), .int .i64 (r 9), .int .i64 (r 10), .int .i64 (r 11), .int .i64 (r 12), .int .i64 (r 13), .int .i64 (r 14), .int .i64 (r 15)]] w fun e w' => e = .returned (.string (modText k r)) ∧ Below w.heap.size w w' := by
  by_cases h1 : k = 1
  · subst h1; exact logText_spec1 r w
  by_cases h2 : k = 2
  · subst h2; exact logText_spec2 r w
  by_cases h3 : k = 3
  · subst h3; exact logText_spec3 r w
  have hv : modText k r = ⟨#[]⟩ := by simp [modText, h1, h2, h3]
  rw [hv]
  exact logText_spec0 k (by simp [h1]) (by simp [h2]) (by simp [h3]) r w

set_option maxRecDepth 20000 in
set_option maxHeartbeats 2000000 in
theorem law_logText (k : Int) (r : Nat → Int) (w : World) (ht : Lib.TabBelow Tryd.prog w.heap.size w "internal/strconv.uint64pow10" .u64 Lib.pow10Tab) :
    Calls Tryd.prog 3 #[.agg #[.int .i64 k, .int .i64 (r 1), .int .i64 (r 2), .int .i64 (r 3), .int .i64 (r 4), .int .i64 (r 5), .int .i64 (r 6), .int .i64 (r 7), .int .i64 (r 8), .int .i64 (r 9), .int .i64 (r 10), .int .i64 (r 11), .int .i64 (r 12), .int .i64 (r 13), .int .i64 (r 14), .int .i64 (r 15)]] w fun e w' => e = .returned (.bool true) ∧ Below w.heap.size w w' := by
  have HT : Hid (Lib.TabBelow Tryd.prog w.heap.size w "internal/strconv.uint64pow10" .u64 Lib.pow10Tab) := ht
  clear ht
  go_enter Tryd.func3, Tryd.ntmps3
  go_wp2_with fail
  refine (toRec k (r 1) (r 2) (r 3) (r 4) (r 5) (r 6) (r 7) (r 8) (r 9) (r 10) (r 11) (r 12) (r 13) (r 14) (r 15) _).mono ?_
  rintro e w1 ⟨rfl, hb1⟩
  go_wp2_with fail
  refine (logText_spec k r _).mono ?_
  rintro e w2 ⟨rfl, hb2⟩
  have B2 := bthen hb1 hb2
  obtain ⟨hc2, hf2⟩ := bcell B2
  go_wp2_with fail
  refine (toRec k (r 1) (r 2) (r 3) (r 4) (r 5) (r 6) (r 7) (r 8) (r 9) (r 10) (r 11) (r 12) (r 13) (r 14) (r 15) _).mono ?_
  rintro e w3 ⟨rfl, hb3⟩
  have B3 : Below w.heap.size w w3 := bthen (bthen ((Below.refl _ _).alloc (by simp) _) B2) hb3
  have T3 : Hid (Lib.TabBelow Tryd.prog w3.heap.size w3 "internal/strconv.uint64pow10" .u64 Lib.pow10Tab) := fun w' h' => HT.out w' (bthen B3 h')
  go_wp2_with fail
  refine (logText_impl k r _ T3.out).mono ?_
  rintro e w4 ⟨rfl, hb4⟩
  go_wp2
  go_ret
  exact ⟨rfl, bthen B3 hb4⟩

end Go.Proofs.YtbiccpmaoagalaaDoor
