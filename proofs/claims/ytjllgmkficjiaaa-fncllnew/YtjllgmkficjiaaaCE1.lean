/- What is carried: lemmas on lists, cells and draws; conditions: those typed. -/
import Derived.WalkKit
import Derived.ProofKit
import Derived.OpenShut
import Derived.Below
import Derived.Test.YtjllgmkficjiaaaRows
import Derived.WalkSpells
import Derived.Test.YtjllgmkficjiaaaProg
import Derived.Deep.RegionHeld3
import Derived.Deep.QuietTactic
import Derived.BigQuiet
import Derived.LoopTactic
import Derived.Deep.OwnRows
import Derived.Laws.IdiomCopy
import Derived.Deep.Slices
import Derived.Maps.Keyed
import Derived.Maps.AppendAt
import Derived.Maps.RangeWalk
import Derived.OwnWalk
import Derived.Lib.AppendZerosOnto
import Derived.Laws.Bits64
import Derived.Deep.RegionWith
import Derived.Deep.RegionHeld
import Derived.Deep.DeepCutAuto
import Derived.Test.YtjllgmkficjiaaaCA
import Derived.Test.YtjllgmkficjiaaaCB
import Derived.Test.YtjllgmkficjiaaaCC
namespace Go.Proofs.Ytjllgmkficjiaaa
open Go.RowKit Go.ChangeShapes Go.WideShapes Go.ChangeAt
end Go.Proofs.Ytjllgmkficjiaaa
namespace Go.Proofs.Ytjllgmkficjiaaa
open Go.RowKit
set_option linter.unusedVariables false
end Go.Proofs.Ytjllgmkficjiaaa
namespace Go.Proofs
set_option maxRecDepth 100000
end Go.Proofs
namespace Go.Proofs.Ytjllgmkficjiaaa
open Go.RowKit
set_option linter.unusedVariables false
end Go.Proofs.Ytjllgmkficjiaaa
namespace Go.Proofs.Ytjllgmkficjiaaa
open Go.RowKit Go.Deep
set_option linter.unusedVariables false
end Go.Proofs.Ytjllgmkficjiaaa
namespace Go.Proofs.Ytjllgmkficjiaaa
open Go.RowKit Go.ChangeShapes Go.WideShapes Go.ChangeAt Go.Deep
end Go.Proofs.Ytjllgmkficjiaaa
namespace Go.Proofs.Ytjllgmkficjiaaa
open Go.RowKit Go.Deep
set_option linter.unusedVariables false
end Go.Proofs.Ytjllgmkficjiaaa
namespace Go.Proofs.Ytjllgmkficjiaaa
open Go.RowKit Go.Maps Go.WideMaps Go.ChangeMaps Go.MapKept
set_option linter.unusedVariables false
end Go.Proofs.Ytjllgmkficjiaaa
namespace Go.Proofs.Ytjllgmkficjiaaa
open Go.RowKit Go.Deep Go.Maps
set_option linter.unusedVariables false
end Go.Proofs.Ytjllgmkficjiaaa
namespace Go.Proofs.Ytjllgmkficjiaaa
open Go.RowKit Go.Deep Go.Maps Go.MapKept
set_option linter.unusedVariables false
end Go.Proofs.Ytjllgmkficjiaaa
namespace Go.Proofs.Ytjllgmkficjiaaa
open Go.RowKit Go.Deep Go.Maps Go.Lib
set_option linter.unusedVariables false
end Go.Proofs.Ytjllgmkficjiaaa
namespace Go.Proofs.Ytjllgmkficjiaaa
open Go.RowKit Go.Deep Go.Maps Go.MapKept
set_option linter.unusedVariables false
end Go.Proofs.Ytjllgmkficjiaaa
namespace Go.Proofs.Ytjllgmkficjiaaa
open Go.RowKit Go.Deep Go.Maps
set_option linter.unusedVariables false
end Go.Proofs.Ytjllgmkficjiaaa
namespace Go.Proofs.Ytjllgmkficjiaaa
open Go.RowKit Go.Deep Go.Maps
set_option linter.unusedVariables false
end Go.Proofs.Ytjllgmkficjiaaa
namespace Go.Proofs.Ytjllgmkficjiaaa
open Go.RowKit Go.Deep Go.Maps
set_option linter.unusedVariables false
end Go.Proofs.Ytjllgmkficjiaaa
namespace Go.Proofs.Ytjllgmkficjiaaa
open Go.RowKit Go.Deep Go.Maps
set_option linter.unusedVariables false
end Go.Proofs.Ytjllgmkficjiaaa
namespace Go.Proofs.Ytjllgmkficjiaaa
open Go.RowKit Go.Deep Go.Maps Go.Lib
set_option linter.unusedVariables false
end Go.Proofs.Ytjllgmkficjiaaa
namespace Go.Proofs.Ytjllgmkficjiaaa
open Go.RowKit Go.Deep Go.Maps
set_option linter.unusedVariables false
end Go.Proofs.Ytjllgmkficjiaaa
namespace Go.Proofs.Ytjllgmkficjiaaa
open Go.RowKit Go.Deep Go.Maps
set_option linter.unusedVariables false
end Go.Proofs.Ytjllgmkficjiaaa
namespace Go.Proofs.Ytjllgmkficjiaaa
open Go.RowKit
set_option linter.unusedVariables false
end Go.Proofs.Ytjllgmkficjiaaa
namespace Go.Proofs.Ytjllgmkficjiaaa
open Go.RowKit
set_option linter.unusedVariables false
end Go.Proofs.Ytjllgmkficjiaaa
namespace Go.Proofs.Ytjllgmkficjiaaa
open Go.RowKit
set_option linter.unusedVariables false
theorem bcell' {W w1 : World} (hb : Below W.heap.size W w1) {q : Addr} (h : q.block < W.heap.size) : w1.cell? q = W.cell? q := hb.cell h
end Go.Proofs.Ytjllgmkficjiaaa
namespace Go.Proofs.Ytjllgmkficjiaaa
open Go
set_option linter.unusedVariables false
section
variable {P : Program} {ops : Array Oper} {Q : Exit → Act → World → Prop}
end
end Go.Proofs.Ytjllgmkficjiaaa
namespace Go.Proofs.Ytjllgmkficjiaaa
open Go.RowKit
set_option linter.unusedVariables false
end Go.Proofs.Ytjllgmkficjiaaa
namespace Go.Proofs.Ytjllgmkficjiaaa
open Go.RowKit
set_option linter.unusedVariables false
end Go.Proofs.Ytjllgmkficjiaaa
namespace Go.Proofs.Ytjllgmkficjiaaa
open Go.RowKit Go.Deep Go.Maps
set_option linter.unusedVariables false
end Go.Proofs.Ytjllgmkficjiaaa
namespace Go.Proofs.Ytjllgmkficjiaaa
open Go.RowKit Go.Deep Go.Maps
set_option linter.unusedVariables false
end Go.Proofs.Ytjllgmkficjiaaa
namespace Go.Proofs.Ytjllgmkficjiaaa
open Go.RowKit
set_option linter.unusedVariables false
theorem IsRow.below {w w' : World} {a : Option Addr} {len cap : Nat} {zs : List Int} (h : IsRow w a len cap zs) (hb : Below w.heap.size w w') : IsRow w' a len cap zs := by
  rcases h with h | ⟨x, rfl, hl, hm, hz, hc, hw⟩
  · exact .inl h
  · refine .inr ⟨x, rfl, hl, hm, hz, fun i hi => ?_, hw⟩
    have hlt : (x.add i).block < w.heap.size := by
      by_cases g : (x.add i).block < w.heap.size
      · exact g
      · exfalso
        have : w.heap[(x.add i).block]? = none := by simp; omega
        have c := hc i hi
        simp [World.cell?, this] at c
    rw [bcell' hb hlt]; exact hc i hi
end Go.Proofs.Ytjllgmkficjiaaa
namespace Go.Proofs.Ytjllgmkficjiaaa
open Go.RowKit Go.Deep Go.Maps
set_option linter.unusedVariables false
end Go.Proofs.Ytjllgmkficjiaaa
namespace Go.Proofs.Ytjllgmkficjiaaa
open Go.RowKit Go.Deep Go.Maps
set_option linter.unusedVariables false
set_option maxRecDepth 20000 in
set_option maxHeartbeats 2000000 in
theorem maList (g1 c1 g2 c2 n : Nat) (Z : Nat → Nat → Int) (hn : n ≤ 2000000) (w : World) (l1 : g1 < w.heap.size) (l2 : g2 < w.heap.size)
    (h1 : ∀ k j, k < n → j < 5 → w.cell? ⟨g1, 0 + k * 5 + j, none⟩ = some (.int .i64 (Z k j))) (h2 : ∀ k j, k < n → j < 5 → w.cell? ⟨g2, 0 + k * 5 + j, none⟩ = some (.int .i64 (Z k j))) :
    Calls Try.prog 19 #[.slice (some ⟨g1, 0, none⟩) n c1, .slice (some ⟨g2, 0, none⟩) n c2] w fun e w' => e = .returned (.bool true) ∧ Below w.heap.size w w' := by
  have H1 : Hid (∀ k j, k < n → j < 5 → w.cell? ⟨g1, 0 + k * 5 + j, none⟩ = some (.int .i64 (Z k j))) := h1
  have H2 : Hid (∀ k j, k < n → j < 5 → w.cell? ⟨g2, 0 + k * 5 + j, none⟩ = some (.int .i64 (Z k j))) := h2
  clear h1 h2
  go_enter Try.func19, Try.ntmps19
  go_wp2
  go_loopw [5] (fun i wr => ∃ k q : Nat, k ≤ n ∧ .int .i64 k = i ∧ wr = w.drewN q) (fun i _ => n - (intOf i).toNat)
  case atStart => exact ⟨0, 0, Nat.zero_le _, rfl, rfl⟩
  case round =>
    obtain ⟨k, q, hk, rfl, rfl⟩ := hrel
    by_cases hkn : k < n
    · have hkn' : (k : Int) < (n : Int) := by omega
      have a0 : w.cell? ⟨g1, k * 5, none⟩ = some (.int .i64 (Z k 0)) := by have := H1.out k 0 hkn (by omega); simpa using this
      have a1 : w.cell? ⟨g1, k * 5 + 1, none⟩ = some (.int .i64 (Z k 1)) := by have := H1.out k 1 hkn (by omega); simpa using this
      have a2 : w.cell? ⟨g1, k * 5 + 2, none⟩ = some (.int .i64 (Z k 2)) := by have := H1.out k 2 hkn (by omega); simpa using this
      have a3 : w.cell? ⟨g1, k * 5 + 3, none⟩ = some (.int .i64 (Z k 3)) := by have := H1.out k 3 hkn (by omega); simpa using this
      have a4 : w.cell? ⟨g1, k * 5 + 4, none⟩ = some (.int .i64 (Z k 4)) := by have := H1.out k 4 hkn (by omega); simpa using this
      have b0 : w.cell? ⟨g2, k * 5, none⟩ = some (.int .i64 (Z k 0)) := by have := H2.out k 0 hkn (by omega); simpa using this
      have b1 : w.cell? ⟨g2, k * 5 + 1, none⟩ = some (.int .i64 (Z k 1)) := by have := H2.out k 1 hkn (by omega); simpa using this
      have b2 : w.cell? ⟨g2, k * 5 + 2, none⟩ = some (.int .i64 (Z k 2)) := by have := H2.out k 2 hkn (by omega); simpa using this
      have b3 : w.cell? ⟨g2, k * 5 + 3, none⟩ = some (.int .i64 (Z k 3)) := by have := H2.out k 3 hkn (by omega); simpa using this
      have b4 : w.cell? ⟨g2, k * 5 + 4, none⟩ = some (.int .i64 (Z k 4)) := by have := H2.out k 4 hkn (by omega); simpa using this
      go_wp2_with fail
      go_quiet (fail)
      go_wp2
      go_roundw
      case rel => exact ⟨k + 1, q + nq, by omega, by go_num, by simp [World.drewN]⟩
      case measure => simp [intOf]; omega
    · have hkn' : k = n := by omega
      subst hkn'
      go_wp2
      go_ret
      exact ⟨rfl, bdrewN (Below.refl _ _) q⟩
end Go.Proofs.Ytjllgmkficjiaaa
