/- MsgOk of the model, in parts; conditions: none. -/
import Derived.Test.YtgjapdjidighlabGreatMsg1a
import Derived.Test.YtgjapdjidighlabGreatMsg1b
import Derived.Test.YtgjapdjidighlabGreatMsg1c
import Derived.Test.YtgjapdjidighlabGreatMsg1d
import Derived.Test.YtgjapdjidighlabGreatMsg1e
namespace Go.Proofs.YtgjapdjidighlabGreat
open Go.RowKit Go.Deep
set_option linter.unusedVariables false
attribute [local go_sem ↓] load44_eq
attribute [local go_sem] run_load44 cellD
theorem msgOk_spec (c d sv k : Int) (x : Nat → Int) (w : World) :
    Calls Tryz.prog 15 #[.agg #[.int .i64 c, .int .i64 d], .int .i64 sv, .agg #[.int .i64 k, .int .i64 (x 1), .int .i64 (x 2), .int .i64 (x 3), .int .i64 (x 4), .int .i64 (x 5), .int .i64 (x 6), .int .i64 (x 7), .int .i64 (x 8), .int .i64 (x 9), .int .i64 (x 10), .int .i64 (x 11), .int .i64 (x 12), .int .i64 (x 13), .int .i64 (x 14), .int .i64 (x 15), .int .i64 (x 16), .int .i64 (x 17), .int .i64 (x 18), .int .i64 (x 19), .int .i64 (x 20), .int .i64 (x 21), .int .i64 (x 22), .int .i64 (x 23), .int .i64 (x 24)]] w fun e w' => e = .returned (.bool (msgB c d sv k x)) ∧ Below w.heap.size w w' := by
  cases hok : okB c d
  · exact pre0 c d sv k x hok w
  · skip
    cases hsv : inB sv 1 3
    · exact pre1 c d sv k x hok hsv w
    · skip
      cases hce : inB (x 2) 0 (c - 1)
      · exact pre2 c d sv k x hok hsv hce w
      · skip
        cases hsi : inB (x 3) 0 1
        · exact pre3 c d sv k x hok hsv hce hsi w
        · skip
          by_cases e1 : k = 1
          · subst e1
            cases hto : inB (x 1) 0 (sv - 1)
            · exact toServer c d sv 1 x hok hsv hce hsi rfl rfl hto w
            · skip
              cases hc0 : (x 3 == 0)
              · exact kind1_0 c d sv x hok hsv hce hsi hto hc0 w
              · skip
                cases hc1 : inB (x 4) 1 900
                · exact kind1_1 c d sv x hok hsv hce hsi hto hc0 hc1 w
                · skip
                  exact kind1_2 c d sv x hok hsv hce hsi hto hc0 hc1 w
          · skip
            by_cases e2 : k = 2
            · subst e2
              cases hto : inB (x 1) 0 (sv - 1)
              · exact toServer c d sv 2 x hok hsv hce hsi rfl rfl hto w
              · skip
                cases hc0 : (x 3 == 0)
                · exact kind2_0 c d sv x hok hsv hce hsi hto hc0 w
                · skip
                  cases hc1 : (x 4 == 0)
                  · exact kind2_1 c d sv x hok hsv hce hsi hto hc0 hc1 w
                  · skip
                    cases hc2 : ordB (x 5) (x 6) (x 7) (x 8) (x 9)
                    · exact kind2_2 c d sv x hok hsv hce hsi hto hc0 hc1 hc2 w
                    · skip
                      exact kind2_3 c d sv x hok hsv hce hsi hto hc0 hc1 hc2 w
            · skip
              by_cases e3 : k = 3
              · subst e3
                cases hto : (x 1 != -1)
                case' true => exact toGate3 c d sv x hok hsv hce hsi hto w
                · skip
                  cases hc0 : (x 3 == 0)
                  · exact kind3_0 c d sv x hok hsv hce hsi hto hc0 w
                  · skip
                    cases hc1 : inB (x 4) 1 9
                    · exact kind3_1 c d sv x hok hsv hce hsi hto hc0 hc1 w
                    · skip
                      cases hc2 : ordB (x 5) (x 6) (x 7) (x 8) (x 9)
                      · exact kind3_2 c d sv x hok hsv hce hsi hto hc0 hc1 hc2 w
                      · skip
                        exact kind3_3 c d sv x hok hsv hce hsi hto hc0 hc1 hc2 w
              · skip
                by_cases e4 : k = 4
                · subst e4
                  cases hto : (x 1 != -1)
                  case' true => exact toGate4 c d sv x hok hsv hce hsi hto w
                  · skip
                    cases hc0 : (x 3 == 0)
                    · exact kind4_0 c d sv x hok hsv hce hsi hto hc0 w
                    · skip
                      cases hc1 : (x 4 == 0)
                      · exact kind4_1 c d sv x hok hsv hce hsi hto hc0 hc1 w
                      · skip
                        cases hc2 : ordB (x 5) (x 6) (x 7) (x 8) (x 9)
                        · exact kind4_2 c d sv x hok hsv hce hsi hto hc0 hc1 hc2 w
                        · skip
                          exact kind4_3 c d sv x hok hsv hce hsi hto hc0 hc1 hc2 w
                · skip
                  by_cases e5 : k = 5
                  · subst e5
                    cases hto : inB (x 1) 0 (sv - 1)
                    · exact toServer c d sv 5 x hok hsv hce hsi rfl rfl hto w
                    · skip
                      cases hc0 : (sideF c d (x 2) (x 3) != -1)
                      · exact kind5_0 c d sv x hok hsv hce hsi hto hc0 w
                      · skip
                        cases hc1 : (x 4 == 0)
                        · exact kind5_1 c d sv x hok hsv hce hsi hto hc0 hc1 w
                        · skip
                          cases hc2 : pclB c d (x 10) (x 11) (x 12) (x 13) (x 14) (x 15) (x 16) (x 17)
                          · exact kind5_2 c d sv x hok hsv hce hsi hto hc0 hc1 hc2 w
                          · skip
                            exact kind5_3 c d sv x hok hsv hce hsi hto hc0 hc1 hc2 w
                  · skip
                    by_cases e6 : k = 6
                    · subst e6
                      cases hto : inB (x 1) 0 (sv - 1)
                      · exact toServer c d sv 6 x hok hsv hce hsi rfl rfl hto w
                      · skip
                        cases hc0 : (sideF c d (x 2) (x 3) != -1)
                        · exact kind6_0 c d sv x hok hsv hce hsi hto hc0 w
                        · skip
                          cases hc1 : inB (x 4) 1 5000
                          · exact kind6_1 c d sv x hok hsv hce hsi hto hc0 hc1 w
                          · skip
                            exact kind6_2 c d sv x hok hsv hce hsi hto hc0 hc1 w
                    · skip
                      by_cases e7 : k = 7
                      · subst e7
                        cases hto : inB (x 1) 0 (sv - 1)
                        · exact toServer c d sv 7 x hok hsv hce hsi rfl rfl hto w
                        · skip
                          cases hc0 : (sideF c d (x 2) (x 3) != -1)
                          · exact kind7_0 c d sv x hok hsv hce hsi hto hc0 w
                          · skip
                            cases hc1 : (x 4 == 0)
                            · exact kind7_1 c d sv x hok hsv hce hsi hto hc0 hc1 w
                            · skip
                              cases hc2 : gstB c d (x 18) (x 19) (x 20) (x 21) (x 22) (x 23) (x 24)
                              · exact kind7_2 c d sv x hok hsv hce hsi hto hc0 hc1 hc2 w
                              · skip
                                cases hc3 : (x 18 == sideF c d (x 2) (x 3))
                                · exact kind7_3 c d sv x hok hsv hce hsi hto hc0 hc1 hc2 hc3 w
                                · skip
                                  exact kind7_4 c d sv x hok hsv hce hsi hto hc0 hc1 hc2 hc3 w
                      · skip
                        have q1 : (k == 1) = false := by simpa using e1
                        have q2 : (k == 2) = false := by simpa using e2
                        have q3 : (k == 3) = false := by simpa using e3
                        have q4 : (k == 4) = false := by simpa using e4
                        have q5 : (k == 5) = false := by simpa using e5
                        have q6 : (k == 6) = false := by simpa using e6
                        have q7 : (k == 7) = false := by simpa using e7
                        cases hto : inB (x 1) 0 (sv - 1)
                        · exact toServer c d sv k x hok hsv hce hsi q3 q4 hto w
                        · exact kind0 c d sv k x hok hsv hce hsi q1 q2 q3 q4 q5 q6 q7 hto w
end Go.Proofs.YtgjapdjidighlabGreat
