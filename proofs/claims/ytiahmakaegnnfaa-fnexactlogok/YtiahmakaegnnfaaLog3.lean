/- LogOk of the program; conditions: none. -/
import Derived.Test.YtiahmakaegnnfaaLog2a
import Derived.Test.YtiahmakaegnnfaaLog2b
import Derived.Test.YtiahmakaegnnfaaLog2c
import Derived.Test.YtiahmakaegnnfaaLog2d
import Derived.Test.YtiahmakaegnnfaaLog1b
import Derived.Deep.RegionHeld3
import Derived.Deep.QuietTactic
import Derived.BigQuiet
namespace Go.Proofs.Ytiahmakaegnnfaa
open Go.RowKit
set_option linter.unusedVariables false

theorem logOk_impl (c d k a0 a1 a2 a3 a4 s p0 p1 p2 p3 p4 p5 p6 p7 n : Int) (w : World) :
    Calls Try.prog 9 #[.agg #[.int .i64 c, .int .i64 d], .agg #[.int .i64 k, .int .i64 a0, .int .i64 a1, .int .i64 a2, .int .i64 a3, .int .i64 a4, .int .i64 s, .int .i64 p0, .int .i64 p1, .int .i64 p2, .int .i64 p3, .int .i64 p4, .int .i64 p5, .int .i64 p6, .int .i64 p7, .int .i64 n]] w fun e w' => e = .returned (.bool (logB c d k a0 a1 a2 a3 a4 s p0 p1 p2 p3 p4 p5 p6 p7 n)) ∧ Below w.heap.size w w' := by
  by_cases h1 : k = 1
  · exact logOk_impl1 c d k a0 a1 a2 a3 a4 s p0 p1 p2 p3 p4 p5 p6 p7 n h1 w
  · by_cases h2 : k = 2
    · exact logOk_impl2 c d k a0 a1 a2 a3 a4 s p0 p1 p2 p3 p4 p5 p6 p7 n h2 w
    · by_cases h3 : k = 3
      · exact logOk_impl3 c d k a0 a1 a2 a3 a4 s p0 p1 p2 p3 p4 p5 p6 p7 n h3 w
      · exact logOk_impl0 c d k a0 a1 a2 a3 a4 s p0 p1 p2 p3 p4 p5 p6 p7 n h1 h2 h3 w

end Go.Proofs.Ytiahmakaegnnfaa
