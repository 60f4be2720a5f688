/- toLogRec; conditions: those typed. -/
import Derived.Test.YtbiccpmaoagalaaDoorBase
import Derived.Test.YtbiccpmaoagalaaDoorOText3
import Derived.Test.YtbiccpmaoagalaaDoorPText2
import Derived.Deep.RegionHeld3
import Derived.Deep.QuietTactic
import Derived.BigQuiet
import Derived.Deep.Cut
namespace Go.Proofs.YtbiccpmaoagalaaDoor
open Go.RowKit Go.Deep
set_option linter.unusedVariables false

set_option maxRecDepth 100000 in
theorem toRec (k a0 a1 a2 a3 a4 s p0 p1 p2 p3 p4 p5 p6 p7 n : Int) (w : World) :
    Calls Tryd.prog 5 #[.agg #[.int .i64 k, .int .i64 a0, .int .i64 a1, .int .i64 a2, .int .i64 a3, .int .i64 a4, .int .i64 s, .int .i64 p0, .int .i64 p1, .int .i64 p2, .int .i64 p3, .int .i64 p4, .int .i64 p5, .int .i64 p6, .int .i64 p7, .int .i64 n]] w fun e w' => e = .returned (.agg #[.int .i64 k, .int .i64 a0, .int .i64 a1, .int .i64 a2, .int .i64 a3, .int .i64 a4, .int .i64 s, .int .i64 p0, .int .i64 p1, .int .i64 p2, .int .i64 p3, .int .i64 p4, .int .i64 p5, .int .i64 p6, .int .i64 p7, .int .i64 n]) ∧ Below w.heap.size w w' := by
  go_enter Tryd.func5, Tryd.ntmps5
  go_wp2_with (first
    | (go_at_call 13; refine (toOrder _ _ _ _ _ _).mono ?_; rintro e w1 ⟨rfl, hb⟩; obtain ⟨hc, hf⟩ := bcell hb; (have z := hb.size; simp at z); (have l0 : w.heap.size < w1.heap.size := by omega); (have l1 : w.heap.size + 1 < w1.heap.size := by omega); (have l2 : w.heap.size + 1 + 1 < w1.heap.size := by omega))
    | (go_at_call 14; refine (toParcel _ _ _ _ _ _ _ _ _).mono ?_; rintro e w2 ⟨rfl, hb2⟩; obtain ⟨hc2, hf2⟩ := bcell hb2))
  exact bodyPost_ret (v := .agg #[.int .i64 k, .int .i64 a0, .int .i64 a1, .int .i64 a2, .int .i64 a3, .int .i64 a4, .int .i64 s, .int .i64 p0, .int .i64 p1, .int .i64 p2, .int .i64 p3, .int .i64 p4, .int .i64 p5, .int .i64 p6, .int .i64 p7, .int .i64 n]) (by simp [results, Tryd.results5, go_sem, hc, hc2, l1]) rfl ⟨rfl, by
    (iterate 25 (refine Below.setCell ?_ (by simp <;> omega) _))
    refine bthen ?_ hb2
    (iterate 6 (refine Below.setCell ?_ (by simp <;> omega) _))
    refine bthen ?_ hb
    exact Below.alloc (Below.alloc (Below.alloc (Below.refl _ _) (by simp) _) (by simp) _) (by simp <;> omega) _⟩

end Go.Proofs.YtbiccpmaoagalaaDoor
