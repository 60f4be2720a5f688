/- What is carried: lemmas on lists, cells and draws; conditions: those typed. -/
import Derived.WalkKit
import Derived.ProofKit
import Derived.OpenShut
import Derived.Below
import Derived.BigQuiet
import Derived.Test.YtalmnogdplhflaaGreatDoorRows
import Derived.WalkSpells
import Derived.Lib.ItoaNum
import Derived.Lib.AppendIntMem
import Derived.Deep.RegionHeld3
import Derived.Deep.QuietTactic
import Derived.Lib.AtoiAll
import Derived.Lib.Split
import Derived.Lib.SplitLaws
import Derived.Lib.IndexBytes
import Derived.Lib.AtoiErrMem
import Derived.LoopTactic
import Derived.OwnWalk
import Derived.Laws.IdiomCopy
import Derived.WideMake
import Derived.Laws.OwnMore
import Derived.Deep.RegionWith
import Derived.Deep.DeepCutAuto
import Derived.Lib.AppendZerosOnto
import Derived.Laws.Bits64
import Derived.Deep.RegionHeld
import Derived.Laws.Strings
import Derived.Laws.Strings2
import Derived.Test.YtalmnogdplhflaaGreatDoorShelf
import Derived.Test.YtalmnogdplhflaaGreatDoorLA
import Derived.Test.YtalmnogdplhflaaGreatDoorLB
import Derived.Test.YtalmnogdplhflaaGreatDoorBase
import Derived.Test.YtalmnogdplhflaaGreatDoorDA
namespace Go.Proofs.YtalmnogdplhflaaGreatDoor
open Go.RowKit Go.ChangeShapes Go.WideShapes Go.ChangeAt
end Go.Proofs.YtalmnogdplhflaaGreatDoor
namespace Go.Proofs.YtalmnogdplhflaaGreatDoor
open Go.RowKit
set_option linter.unusedVariables false
end Go.Proofs.YtalmnogdplhflaaGreatDoor
namespace Go.Proofs.YtalmnogdplhflaaGreatDoor
open Go.RowKit
set_option linter.unusedVariables false
end Go.Proofs.YtalmnogdplhflaaGreatDoor
namespace Go.Proofs.YtalmnogdplhflaaGreatDoor
open Go.RowKit
set_option linter.unusedVariables false
end Go.Proofs.YtalmnogdplhflaaGreatDoor
namespace Go.Proofs.YtalmnogdplhflaaGreatDoor
open Go.RowKit
set_option linter.unusedVariables false
end Go.Proofs.YtalmnogdplhflaaGreatDoor
namespace Go.Proofs.YtalmnogdplhflaaGreatDoor
open Go.RowKit
set_option linter.unusedVariables false
end Go.Proofs.YtalmnogdplhflaaGreatDoor
namespace Go.Proofs.YtalmnogdplhflaaGreatDoor
open Go.RowKit
set_option linter.unusedVariables false
end Go.Proofs.YtalmnogdplhflaaGreatDoor
namespace Go.Proofs.YtalmnogdplhflaaGreatDoor
open Go.RowKit
set_option linter.unusedVariables false
end Go.Proofs.YtalmnogdplhflaaGreatDoor
namespace Go.Proofs.YtalmnogdplhflaaGreatDoor
open Go.RowKit
set_option linter.unusedVariables false
end Go.Proofs.YtalmnogdplhflaaGreatDoor
namespace Go.Proofs.YtalmnogdplhflaaGreatDoor
open Go.RowKit
set_option linter.unusedVariables false
end Go.Proofs.YtalmnogdplhflaaGreatDoor
namespace Go.Proofs.YtalmnogdplhflaaGreatDoor
open Go.RowKit
set_option linter.unusedVariables false
end Go.Proofs.YtalmnogdplhflaaGreatDoor
namespace Go.Proofs.YtalmnogdplhflaaGreatDoor
open Go.RowKit
set_option linter.unusedVariables false
end Go.Proofs.YtalmnogdplhflaaGreatDoor
namespace Go.Proofs.YtalmnogdplhflaaGreatDoor
open Go.RowKit
set_option linter.unusedVariables false
end Go.Proofs.YtalmnogdplhflaaGreatDoor
namespace Go.Proofs.YtalmnogdplhflaaGreatDoor
open Go.RowKit
set_option linter.unusedVariables false
set_option maxRecDepth 20000
end Go.Proofs.YtalmnogdplhflaaGreatDoor
namespace Go.Proofs.YtalmnogdplhflaaGreatDoor
open Go.RowKit
set_option linter.unusedVariables false
set_option maxRecDepth 20000
end Go.Proofs.YtalmnogdplhflaaGreatDoor
namespace Go.Proofs.YtalmnogdplhflaaGreatDoor
open Go.RowKit
set_option linter.unusedVariables false
set_option maxRecDepth 20000
end Go.Proofs.YtalmnogdplhflaaGreatDoor
namespace Go.Proofs.YtalmnogdplhflaaGreatDoor
open Go.RowKit
set_option linter.unusedVariables false
end Go.Proofs.YtalmnogdplhflaaGreatDoor
namespace Go.Proofs.YtalmnogdplhflaaGreatDoor
open Go.RowKit
set_option linter.unusedVariables false
end Go.Proofs.YtalmnogdplhflaaGreatDoor
namespace Go.Proofs.YtalmnogdplhflaaGreatDoor
open Go.RowKit
set_option linter.unusedVariables false
end Go.Proofs.YtalmnogdplhflaaGreatDoor
namespace Go.Proofs.YtalmnogdplhflaaGreatDoor
open Go.RowKit
set_option linter.unusedVariables false
end Go.Proofs.YtalmnogdplhflaaGreatDoor
namespace Go.Proofs.YtalmnogdplhflaaGreatDoor
open Go.RowKit
set_option linter.unusedVariables false
end Go.Proofs.YtalmnogdplhflaaGreatDoor
namespace Go.Proofs.YtalmnogdplhflaaGreatDoor
open Go.RowKit
set_option linter.unusedVariables false
set_option maxRecDepth 20000
theorem FiveZ.below {W W' : World} {g : Nat} (h : FiveZ W g) (hb : Below W.heap.size W W') : FiveZ W' g :=
  ⟨Nat.lt_of_lt_of_le h.1 hb.size, fun j hj => ⟨(hb.cell (p := ⟨g, j, none⟩) h.1).trans (h.2 j hj).1, (hb.frozen (p := ⟨g, j, none⟩) h.1).trans (h.2 j hj).2⟩⟩
end Go.Proofs.YtalmnogdplhflaaGreatDoor
namespace Go.Proofs.YtalmnogdplhflaaGreatDoor
open Go.RowKit
set_option linter.unusedVariables false
end Go.Proofs.YtalmnogdplhflaaGreatDoor
namespace Go.Proofs.YtalmnogdplhflaaGreatDoor
open Go.RowKit
set_option linter.unusedVariables false
end Go.Proofs.YtalmnogdplhflaaGreatDoor
namespace Go.Proofs.YtalmnogdplhflaaGreatDoor
open Go.RowKit
set_option linter.unusedVariables false
end Go.Proofs.YtalmnogdplhflaaGreatDoor
namespace Go.Proofs.YtalmnogdplhflaaGreatDoor
open Go.RowKit
set_option linter.unusedVariables false
set_option maxRecDepth 20000
end Go.Proofs.YtalmnogdplhflaaGreatDoor
namespace Go.Proofs.YtalmnogdplhflaaGreatDoor
open Go.RowKit
set_option linter.unusedVariables false
end Go.Proofs.YtalmnogdplhflaaGreatDoor
namespace Go.Proofs.YtalmnogdplhflaaGreatDoor
end Go.Proofs.YtalmnogdplhflaaGreatDoor
namespace Go.Proofs.YtalmnogdplhflaaGreatDoor
open Go.RowKit
set_option linter.unusedVariables false
structure Rd (w : World) (r : Nat) (a : Option Addr) (len cap : Nat) (p : Int) : Prop where
  b : w.cell? ⟨r, 0, none⟩ = some (.slice a len cap)
  p : w.cell? ⟨r, 1, none⟩ = some (.int .i64 p)
  f : w.frozen? ⟨r, 1, none⟩ = false
  le : len ≤ 2000
  bytes : 0 < len → ∃ k off, a = some ⟨k, off, none⟩ ∧ k < r ∧ ∀ i, i < len → ∃ z : Int, w.cell? ⟨k, off + i, none⟩ = some (.int .u8 z) ∧ 0 ≤ z ∧ z ≤ 255
theorem i64_xor_nat (a b : Nat) (ha : a < 4611686018427387904) (hb : b < 4611686018427387904) : bits .xor .i64 (a : Int) (b : Int) = ((a ^^^ b : Nat) : Int) := by
  have hx : a ^^^ b < 2 ^ 62 := Nat.xor_lt_two_pow (by omega) (by omega)
  have h1 : (BitVec.ofInt 64 (a : Int)).toNat = a := by
    rw [BitVec.ofInt_natCast, BitVec.toNat_ofNat]; exact Nat.mod_eq_of_lt (by omega)
  have h2 : (BitVec.ofInt 64 (b : Int)).toNat = b := by
    rw [BitVec.ofInt_natCast, BitVec.toNat_ofNat]; exact Nat.mod_eq_of_lt (by omega)
  show IntKind.i64.wrap ((BitVec.ofInt 64 (a : Int) ^^^ BitVec.ofInt 64 (b : Int)).toNat : Int) = _
  rw [BitVec.toNat_xor, h1, h2, IntKind.wrap_i64]
  omega
theorem i64_xor_nn (a b : Int) (h1 : 0 ≤ a) (h2 : a < 4611686018427387904) (h3 : 0 ≤ b) (h4 : b < 4611686018427387904) : 0 ≤ bits .xor .i64 a b := by
  obtain ⟨A, rfl⟩ := Int.eq_ofNat_of_zero_le h1
  obtain ⟨C, rfl⟩ := Int.eq_ofNat_of_zero_le h3
  rw [i64_xor_nat A C (by omega) (by omega)]
  omega
def PickOut (n x : Int) : Prop := 0 ≤ x ∧ (1 ≤ n → x < n) ∧ (n < 1 → x = 0)
set_option maxHeartbeats 400000 in
theorem pick_near (r k off : Nat) (len cap : Nat) (p n z : Int) (w : World) (h0 : 0 ≤ p) (h1 : p < len) (hl : len ≤ 2000) (hn : 1 ≤ n) (hk : k < r)
    (cb : w.cell? ⟨r, 0, none⟩ = some (.slice (some ⟨k, off, none⟩) len cap)) (cp : w.cell? ⟨r, 1, none⟩ = some (.int .i64 p)) (cf : w.frozen? ⟨r, 1, none⟩ = false)
    (cz : w.cell? ⟨k, off + p.toNat, none⟩ = some (.int .u8 z)) (z0 : 0 ≤ z) (z1 : z ≤ 255) :
    Calls Tryz.prog 18 #[.pointer (some ⟨r, 0, none⟩), .int .i64 n] w fun e w' => ∃ x, e = .returned (.int .i64 x) ∧ PickOut n x ∧ ∃ nq, w' = (w.setCell ⟨r, 1, none⟩ (.int .i64 (p + 1))).drewN nq := by
  have hlen : ((len : Int) == 0) = false := by simp; omega
  have hn1 : ¬ n < 1 := by omega
  have hne : ¬ k = r := by omega
  go_enter Tryz.func18, Tryz.ntmps18
  go_wp2
  go_ret
  exact ⟨_, rfl, ⟨by apply Int.emod_nonneg; omega, fun _ => Int.emod_lt_of_pos _ (by omega), fun h => by omega⟩, 0, rfl⟩
set_option maxHeartbeats 1000000 in
theorem pick_far (r k off : Nat) (len cap : Nat) (p n z y : Int) (w : World) (h0 : (len : Int) ≤ p) (h1 : p ≤ 1000000) (hl : len ≤ 2000) (hl0 : 0 < len) (hn : 1 ≤ n) (hk : k < r)
    (cb : w.cell? ⟨r, 0, none⟩ = some (.slice (some ⟨k, off, none⟩) len cap)) (cp : w.cell? ⟨r, 1, none⟩ = some (.int .i64 p)) (cf : w.frozen? ⟨r, 1, none⟩ = false)
    (cz : w.cell? ⟨k, off + (p % (len : Int)).toNat, none⟩ = some (.int .u8 z)) (z0 : 0 ≤ z) (z1 : z ≤ 255)
    (cy : w.cell? ⟨k, off + ((p * 7 + 3) % (len : Int)).toNat, none⟩ = some (.int .u8 y)) (y0 : 0 ≤ y) (y1 : y ≤ 255) :
    Calls Tryz.prog 18 #[.pointer (some ⟨r, 0, none⟩), .int .i64 n] w fun e w' => ∃ x, e = .returned (.int .i64 x) ∧ PickOut n x ∧ ∃ nq, w' = (w.setCell ⟨r, 1, none⟩ (.int .i64 (p + 1))).drewN nq := by
  have hlen : ((len : Int) == 0) = false := by simp; omega
  have hn1 : ¬ n < 1 := by omega
  have hne : ¬ k = r := by omega
  have hp : ¬ p < (len : Int) := by omega
  have i0 : 0 ≤ p % (len : Int) := Int.emod_nonneg _ (by omega)
  have i1 : p % (len : Int) < len := Int.emod_lt_of_pos _ (by omega)
  have j0 : 0 ≤ (p * 7 + 3) % (len : Int) := Int.emod_nonneg _ (by omega)
  have j1 : (p * 7 + 3) % (len : Int) < len := Int.emod_lt_of_pos _ (by omega)
  have q0 : 0 ≤ p / (len : Int) := Int.ediv_nonneg (by omega) (by omega)
  have q1 : p / (len : Int) ≤ p := Int.ediv_le_self _ (by omega)
  go_enter Tryz.func18, Tryz.ntmps18
  go_wp2
  go_quiet (fail)
  go_wp2
  go_ret
  refine ⟨_, rfl, ?_, nq, rfl⟩
  have hx := i64_xor_nn (z * 131 + y * 1117 + p * 29 + p / (len : Int) * 53) ((z * 131 + y * 1117 + p * 29 + p / (len : Int) * 53) / 64) (by omega) (by omega) (by omega) (by omega)
  exact ⟨by apply Int.tmod_nonneg; exact hx, fun _ => Int.tmod_lt_of_pos _ (by omega), fun h => by omega⟩
set_option maxHeartbeats 400000 in
theorem pick_low (r : Nat) (a : Option Addr) (len cap : Nat) (p n : Int) (w : World) (h0 : 0 ≤ p) (h1 : p ≤ 1000000) (hn : n < 1)
    (cb : w.cell? ⟨r, 0, none⟩ = some (.slice a len cap)) (cp : w.cell? ⟨r, 1, none⟩ = some (.int .i64 p)) (cf : w.frozen? ⟨r, 1, none⟩ = false) :
    Calls Tryz.prog 18 #[.pointer (some ⟨r, 0, none⟩), .int .i64 n] w fun e w' => ∃ x, e = .returned (.int .i64 x) ∧ PickOut n x ∧ ∃ nq, w' = (w.setCell ⟨r, 1, none⟩ (.int .i64 (p + 1))).drewN nq := by
  go_enter Tryz.func18, Tryz.ntmps18
  go_wp2
  go_ret
  exact ⟨_, rfl, ⟨by omega, fun _ => by omega, fun h => rfl⟩, 0, rfl⟩
set_option maxHeartbeats 400000 in
theorem pick_none (r : Nat) (a : Option Addr) (cap : Nat) (p n : Int) (w : World) (h0 : 0 ≤ p) (h1 : p ≤ 1000000) (hn : 1 ≤ n)
    (cb : w.cell? ⟨r, 0, none⟩ = some (.slice a 0 cap)) (cp : w.cell? ⟨r, 1, none⟩ = some (.int .i64 p)) (cf : w.frozen? ⟨r, 1, none⟩ = false) :
    Calls Tryz.prog 18 #[.pointer (some ⟨r, 0, none⟩), .int .i64 n] w fun e w' => ∃ x, e = .returned (.int .i64 x) ∧ PickOut n x ∧ ∃ nq, w' = (w.setCell ⟨r, 1, none⟩ (.int .i64 (p + 1))).drewN nq := by
  have hn1 : ¬ n < 1 := by omega
  go_enter Tryz.func18, Tryz.ntmps18
  go_wp2
  go_ret
  exact ⟨_, rfl, ⟨by omega, fun _ => by omega, fun h => rfl⟩, 0, rfl⟩
theorem pick_any (r : Nat) (a : Option Addr) (len cap : Nat) (p n : Int) (w : World) (h : Rd w r a len cap p) (h0 : 0 ≤ p) (h1 : p ≤ 1000000) :
    Calls Tryz.prog 18 #[.pointer (some ⟨r, 0, none⟩), .int .i64 n] w fun e w' => ∃ x, e = .returned (.int .i64 x) ∧ PickOut n x ∧ ∃ nq, w' = (w.setCell ⟨r, 1, none⟩ (.int .i64 (p + 1))).drewN nq := by
  obtain ⟨cb, cp, cf, hle, hby⟩ := h
  by_cases hn : n < 1
  · exact pick_low r a len cap p n w h0 h1 hn cb cp cf
  · by_cases hl : len = 0
    · subst hl
      exact pick_none r a cap p n w h0 h1 (by omega) cb cp cf
    · obtain ⟨k, off, rfl, hk, hz⟩ := hby (by omega)
      by_cases hp : p < (len : Int)
      · obtain ⟨z, cz, z0, z1⟩ := hz p.toNat (by omega)
        exact pick_near r k off len cap p n z w h0 hp hle (by omega) hk cb cp cf cz z0 z1
      · have i0 : 0 ≤ p % (len : Int) := Int.emod_nonneg _ (by omega)
        have i1 : p % (len : Int) < len := Int.emod_lt_of_pos _ (by omega)
        have j0 : 0 ≤ (p * 7 + 3) % (len : Int) := Int.emod_nonneg _ (by omega)
        have j1 : (p * 7 + 3) % (len : Int) < len := Int.emod_lt_of_pos _ (by omega)
        obtain ⟨z, cz, z0, z1⟩ := hz (p % (len : Int)).toNat (by omega)
        obtain ⟨y, cy, y0, y1⟩ := hz ((p * 7 + 3) % (len : Int)).toNat (by omega)
        exact pick_far r k off len cap p n z y w (by omega) h1 hle (by omega) (by omega) hk cb cp cf cz z0 z1 cy y0 y1
/-- The reader behind a step that touches no block up to its own. -/
theorem Rd.below {w w' : World} {r : Nat} {a : Option Addr} {len cap : Nat} {p : Int} (h : Rd w r a len cap p) (hb : Below (r + 1) w w') : Rd w' r a len cap p := by
  obtain ⟨cb, cp, cf, hle, hby⟩ := h
  refine ⟨(hb.cell (p := ⟨r, 0, none⟩) (by simp)).trans cb, (hb.cell (p := ⟨r, 1, none⟩) (by simp)).trans cp, (hb.frozen (p := ⟨r, 1, none⟩) (by simp)).trans cf, hle, ?_⟩
  intro h0
  obtain ⟨k, off, e, hk, hz⟩ := hby h0
  refine ⟨k, off, e, hk, fun i hi => ?_⟩
  obtain ⟨z, cz, z0, z1⟩ := hz i hi
  exact ⟨z, (hb.cell (p := ⟨k, off + i, none⟩) (by show k < r + 1; omega)).trans cz, z0, z1⟩
end Go.Proofs.YtalmnogdplhflaaGreatDoor
namespace Go.Proofs.YtalmnogdplhflaaGreatDoor
open Go.RowKit
set_option linter.unusedVariables false
/-- What the law is told of a slice of bytes that came in. -/
def IsRow (w : World) (a : Option Addr) (len cap : Nat) (zs : List Int) : Prop :=
  (a = none ∧ len = 0 ∧ cap = 0 ∧ zs = []) ∨
  ∃ x, a = some x ∧ len ≤ cap ∧ cap ≤ maxLen ∧ zs.length = cap ∧ (∀ i, i < zs.length → w.cell? (x.add i) = some (.int .u8 (zs.getD i 0))) ∧ ∀ n ∈ zs, (Lit.int .u8 n).wf = true
theorem u8_bounds {n : Int} (h : (Lit.int .u8 n).wf = true) : 0 ≤ n ∧ n ≤ 255 := by
  have := bounds_u8 h
  omega
theorem open_any (a : Option Addr) (len cap : Nat) (zs : List Int) (w : World) (h : IsRow w a len cap zs) :
    Calls Tryz.prog 8 #[.slice a len cap] w fun e w' => e = .returned (.pointer (some ⟨w.heap.size, 0, none⟩)) ∧ Rd w' w.heap.size a (min len 2000) cap 0 ∧ Below w.heap.size w w' ∧ w'.heap.size = w.heap.size + 1 := by
  have hrow : 0 < min len 2000 → ∃ k off, a = some ⟨k, off, none⟩ ∧ k < w.heap.size ∧ ∀ i, i < min len 2000 → ∃ z : Int, w.cell? ⟨k, off + i, none⟩ = some (.int .u8 z) ∧ 0 ≤ z ∧ z ≤ 255 := by
    intro h0
    rcases h with ⟨rfl, rfl, rfl, rfl⟩ | ⟨x, rfl, hl, hm, hz, hc, hw⟩
    · omega
    · obtain ⟨k, off, spot⟩ := x
      have c0 := hc 0 (by omega)
      have hspot : spot = none := by simpa [Addr.add] using World.cell?_spot c0
      subst hspot
      refine ⟨k, off, rfl, ?_, fun i hi => ?_⟩
      · have c1 : w.cell? ⟨k, off, none⟩ = some (.int .u8 (zs.getD 0 0)) := by simpa [Addr.add] using c0
        by_cases hlt : k < w.heap.size
        · exact hlt
        · exfalso
          have : w.heap[k]? = none := by simp; omega
          simp [World.cell?, this] at c1
      · have hlt : i < zs.length := by omega
        have e : zs.getD i 0 = zs[i] := by simp [List.getD, hlt]
        have := u8_bounds (hw zs[i] (List.getElem_mem hlt))
        have ci := hc i hlt
        rw [show (Addr.mk k off none).add i = ⟨k, off + i, none⟩ by unfold Addr.add; split <;> simp_all] at ci
        exact ⟨zs.getD i 0, ci, by rw [e]; omega, by rw [e]; omega⟩
  have fin : ∀ w' : World, w' = w.alloc (.cells #[.slice a (min len 2000) cap, .int .i64 0] 53) → Rd w' w.heap.size a (min len 2000) cap 0 ∧ Below w.heap.size w w' ∧ w'.heap.size = w.heap.size + 1 := by
    rintro w' rfl
    refine ⟨⟨by simp, by simp, by simp, by omega, ?_⟩, (Below.refl _ _).alloc (by simp) _, by simp⟩
    intro h0
    obtain ⟨k, off, e, hk, hz⟩ := hrow h0
    refine ⟨k, off, e, hk, fun i hi => ?_⟩
    obtain ⟨z, cz, z0, z1⟩ := hz i hi
    exact ⟨z, by rw [World.cell?_alloc_past _ _ _ hk]; exact cz, z0, z1⟩
  have hcap : len ≤ cap := by
    rcases h with ⟨rfl, rfl, rfl, rfl⟩ | ⟨x, rfl, hl, _⟩
    · exact Nat.le_refl _
    · exact hl
  clear hrow h
  by_cases hlen : (2000 : Int) < (len : Int)
  · have hm : min len 2000 = 2000 := by omega
    rw [hm] at fin ⊢
    have F : Hid (∀ w' : World, w' = w.alloc (.cells #[.slice a 2000 cap, .int .i64 0] 53) → Rd w' w.heap.size a 2000 cap 0 ∧ Below w.heap.size w w' ∧ w'.heap.size = w.heap.size + 1) := fin
    clear fin hm
    have h2 : ¬ (cap : Int) < 2000 := by omega
    go_enter Tryz.func8, Tryz.ntmps8
    go_wp2
    go_ret
    exact ⟨rfl, F.out _ rfl⟩
  · have hm : min len 2000 = len := by omega
    rw [hm] at fin ⊢
    have F : Hid (∀ w' : World, w' = w.alloc (.cells #[.slice a len cap, .int .i64 0] 53) → Rd w' w.heap.size a len cap 0 ∧ Below w.heap.size w w' ∧ w'.heap.size = w.heap.size + 1) := fin
    clear fin hm
    go_enter Tryz.func8, Tryz.ntmps8
    go_wp2
    go_ret
    exact ⟨rfl, F.out _ rfl⟩
theorem Rd.next {w : World} {r : Nat} {a : Option Addr} {len cap : Nat} {p : Int} (h : Rd w r a len cap p) (q : Int) (nq : Nat) : Rd ((w.setCell ⟨r, 1, none⟩ (.int .i64 q)).drewN nq) r a len cap q := by
  obtain ⟨cb, cp, cf, hle, hby⟩ := h
  refine ⟨?_, ?_, ?_, hle, ?_⟩
  · simp [go_sem, cb]
  · simp [go_sem, cp]
  · simp [cf]
  · intro h0
    obtain ⟨k, off, e, hk, hz⟩ := hby h0
    have hne : ¬ k = r := by omega
    refine ⟨k, off, e, hk, fun i hi => ?_⟩
    obtain ⟨z, cz, z0, z1⟩ := hz i hi
    exact ⟨z, by simp [go_sem, cz], z0, z1⟩
theorem Rd.alloc {w : World} {r : Nat} {a : Option Addr} {len cap : Nat} {p : Int} (h : Rd w r a len cap p) (hr : r < w.heap.size) (o : Obj) : Rd (w.alloc o) r a len cap p :=
  h.below ((Below.refl _ _).alloc (by omega) o)
/-- w' is w, but for block r and for new blocks. -/
structure Kept (r : Nat) (w w' : World) : Prop where
  os : w'.os = w.os
  tape : w'.tape = w.tape
  output : w'.output = w.output
  size : w.heap.size ≤ w'.heap.size
  block : ∀ k, k < w.heap.size → ¬ k = r → w'.heap[k]? = w.heap[k]?
theorem Kept.refl (r : Nat) (w : World) : Kept r w w := ⟨rfl, rfl, rfl, Nat.le_refl _, fun _ _ _ => rfl⟩
theorem Kept.trans {r : Nat} {a b c : World} (h : Kept r a b) (k : Kept r b c) : Kept r a c :=
  ⟨k.os.trans h.os, k.tape.trans h.tape, k.output.trans h.output, Nat.le_trans h.size k.size, fun i hi hn => (k.block i (Nat.lt_of_lt_of_le hi h.size) hn).trans (h.block i hi hn)⟩
theorem Kept.ofBelow {r : Nat} {a b : World} (h : Below a.heap.size a b) : Kept r a b := ⟨h.os, h.tape, h.output, h.size, fun k hk _ => h.block k hk⟩
theorem Kept.alloc {r : Nat} {a w : World} (h : Kept r a w) (o : Obj) : Kept r a (w.alloc o) := h.trans (Kept.ofBelow ((Below.refl _ _).alloc (by simp) _))
theorem Kept.drewN {r : Nat} {a w : World} (h : Kept r a w) (n : Nat) : Kept r a (w.drewN n) := h.trans ⟨rfl, rfl, rfl, Nat.le_refl _, fun _ _ _ => rfl⟩
theorem Kept.drew {r : Nat} {a w : World} (h : Kept r a w) : Kept r a w.drew := h.trans ⟨rfl, rfl, rfl, Nat.le_refl _, fun _ _ _ => rfl⟩
theorem Kept.setCell {r : Nat} {a w : World} (h : Kept r a w) {q : Addr} (hq : a.heap.size ≤ q.block ∨ q.block = r) (u : Value) : Kept r a (w.setCell q u) :=
  ⟨h.os, h.tape, h.output, by have := h.size; simpa [World.setCell] using this, fun k hk hn => (Below.heap_setCell _ _ _ _ (by rcases hq with hq | hq <;> omega)).trans (h.block k hk hn)⟩
theorem Kept.below {r : Nat} {a w : World} (h : Kept r a w) {n : Nat} (hn : n ≤ r) (hs : n ≤ a.heap.size) : Below n a w :=
  ⟨h.os, h.tape, h.output, h.size, fun k hk => h.block k (by omega) (by omega)⟩
theorem kcell {r : Nat} {w w' : World} (h : Kept r w w') : (∀ b o, b < w.heap.size → ¬ b = r → w'.cell? ⟨b, o, none⟩ = w.cell? ⟨b, o, none⟩) ∧ (∀ b o, b < w.heap.size → ¬ b = r → w'.frozen? ⟨b, o, none⟩ = w.frozen? ⟨b, o, none⟩) :=
  ⟨fun b o hb hn => World.cell?_of_block (w := w) (h.block b hb hn), fun b o hb hn => World.frozen?_of_block (w := w) (h.block b hb hn)⟩
/-- pick, the world behind it a variable. -/
theorem pick_kept (r : Nat) (a : Option Addr) (len cap : Nat) (p n : Int) (w : World) (h : Rd w r a len cap p) (h0 : 0 ≤ p) (h1 : p ≤ 1000000) :
    Calls Tryz.prog 18 #[.pointer (some ⟨r, 0, none⟩), .int .i64 n] w fun e w' => ∃ x, e = .returned (.int .i64 x) ∧ PickOut n x ∧ Rd w' r a len cap (p + 1) ∧ Kept r w w' := by
  refine (pick_any r a len cap p n w h h0 h1).mono ?_
  rintro e w' ⟨x, rfl, hx, nq, rfl⟩
  exact ⟨x, rfl, hx, h.next _ _, ((Kept.refl r w).setCell (q := ⟨r, 1, none⟩) (.inr rfl) _).drewN nq⟩
/-- Two cells of a block that is not the reader's, carried on. -/
theorem Kept.two {r : Nat} {w w' : World} (h : Kept r w w') {b : Nat} (hb : b < w.heap.size) (hn : ¬ b = r) {u v : Value}
    (c : w.cell? ⟨b, 0, none⟩ = some u ∧ w.cell? ⟨b, 1, none⟩ = some v ∧ w.frozen? ⟨b, 0, none⟩ = false ∧ w.frozen? ⟨b, 1, none⟩ = false) :
    w'.cell? ⟨b, 0, none⟩ = some u ∧ w'.cell? ⟨b, 1, none⟩ = some v ∧ w'.frozen? ⟨b, 0, none⟩ = false ∧ w'.frozen? ⟨b, 1, none⟩ = false := by
  obtain ⟨hc, hf⟩ := kcell h
  rw [hc b 0 hb hn, hc b 1 hb hn, hf b 0 hb hn, hf b 1 hb hn]
  exact c
theorem Rd.lt {w : World} {r : Nat} {a : Option Addr} {len cap : Nat} {p : Int} (h : Rd w r a len cap p) : r < w.heap.size := by
  have c := h.p
  by_cases hlt : r < w.heap.size
  · exact hlt
  · exfalso
    have : w.heap[r]? = none := by simp; omega
    simp [World.cell?, this] at c
/-- The reader, at most m steps on. -/
def RdB (w : World) (r : Nat) (a : Option Addr) (len cap : Nat) (m : Int) : Prop := ∃ p, 0 ≤ p ∧ p ≤ m ∧ Rd w r a len cap p
theorem RdB.lt {w : World} {r : Nat} {a : Option Addr} {len cap : Nat} {m : Int} (h : RdB w r a len cap m) : r < w.heap.size := by
  obtain ⟨p, _, _, h⟩ := h; exact h.lt
theorem RdB.alloc {w : World} {r : Nat} {a : Option Addr} {len cap : Nat} {m : Int} (h : RdB w r a len cap m) (o : Obj) : RdB (w.alloc o) r a len cap m := by
  obtain ⟨p, h0, h1, h⟩ := h; exact ⟨p, h0, h1, h.alloc h.lt o⟩
theorem RdB.drew {w : World} {r : Nat} {a : Option Addr} {len cap : Nat} {m : Int} (h : RdB w r a len cap m) : RdB w.drew r a len cap m := by
  obtain ⟨p, h0, h1, h⟩ := h; exact ⟨p, h0, h1, h.below ⟨rfl, rfl, rfl, Nat.le_refl _, fun _ _ => rfl⟩⟩
theorem RdB.drewN {w : World} {r : Nat} {a : Option Addr} {len cap : Nat} {m : Int} (h : RdB w r a len cap m) (n : Nat) : RdB (w.drewN n) r a len cap m := by
  obtain ⟨p, h0, h1, h⟩ := h; exact ⟨p, h0, h1, h.below ⟨rfl, rfl, rfl, Nat.le_refl _, fun _ _ => rfl⟩⟩
theorem pick_B {r : Nat} {a : Option Addr} {len cap : Nat} {m n : Int} {w : World} (h : RdB w r a len cap m) (hm : m ≤ 1000000) :
    Calls Tryz.prog 18 #[.pointer (some ⟨r, 0, none⟩), .int .i64 n] w fun e w' => ∃ x, e = .returned (.int .i64 x) ∧ PickOut n x ∧ RdB w' r a len cap (m + 1) ∧ Kept r w w' := by
  obtain ⟨p, h0, h1, h⟩ := h
  refine (pick_kept r a len cap p n w h h0 (by omega)).mono ?_
  rintro e w' ⟨x, rfl, hx, R, K⟩
  exact ⟨x, rfl, hx, ⟨p + 1, by omega, by omega, R⟩, K⟩
end Go.Proofs.YtalmnogdplhflaaGreatDoor
namespace Go.Proofs.YtalmnogdplhflaaGreatDoor
open Go.RowKit
set_option linter.unusedVariables false
theorem bcell' {W w1 : World} (hb : Below W.heap.size W w1) {q : Addr} (h : q.block < W.heap.size) : w1.cell? q = W.cell? q := hb.cell h
/-- Two cells of a block, neither of them frozen. -/
def Two (W : World) (b : Nat) (u v : Value) : Prop := W.cell? ⟨b, 0, none⟩ = some u ∧ W.cell? ⟨b, 1, none⟩ = some v ∧ W.frozen? ⟨b, 0, none⟩ = false ∧ W.frozen? ⟨b, 1, none⟩ = false
theorem cell_lt {W : World} {b o : Nat} {u : Value} (c : W.cell? ⟨b, o, none⟩ = some u) : b < W.heap.size := by
  by_cases hlt : b < W.heap.size
  · exact hlt
  · exfalso
    have : W.heap[b]? = none := by simp; omega
    simp [World.cell?, this] at c
theorem Two.below {W W' : World} {b : Nat} {u v : Value} (h : Two W b u v) (hb : Below W.heap.size W W') : Two W' b u v := by
  have hlt := cell_lt h.1
  obtain ⟨hc, hf⟩ := bcell hb
  unfold Two
  rw [hc b 0 hlt, hc b 1 hlt, hf b 0 hlt, hf b 1 hlt]
  exact h
theorem Two.alloc {W : World} {b : Nat} {u v : Value} (h : Two W b u v) (o : Obj) : Two (W.alloc o) b u v := h.below ((Below.refl _ _).alloc (by simp) _)
theorem Two.drew {W : World} {b : Nat} {u v : Value} (h : Two W b u v) : Two W.drew b u v := h
theorem Two.kept {r : Nat} {W W' : World} {b : Nat} {u v : Value} (K : Kept r W W') (h : Two W b u v) (hn : ¬ b = r) : Two W' b u v := K.two (cell_lt h.1) hn h
/-- 'Kept', under a name that the walk doesn't open. -/
def KK (r : Nat) (w w' : World) : Prop := Kept r w w'
theorem KK.alloc {r : Nat} {w W : World} (h : KK r w W) (o : Obj) : KK r w (W.alloc o) := Kept.alloc h o
theorem KK.drew {r : Nat} {w W : World} (h : KK r w W) : KK r w W.drew := Kept.drew h
theorem KK.kept {r : Nat} {w W W' : World} (K : Kept r W W') (h : KK r w W) : KK r w W' := Kept.trans h K
/-- A block that begins with these numbers. -/
def Lits (W : World) (g : Nat) (zs : List Int) : Prop := g < W.heap.size ∧ ∀ u : Int, 0 ≤ u → u < zs.length → W.cell? ⟨g, u.toNat, none⟩ = some (.int .i64 (zs.getD u.toNat 0))
theorem Lits.below {W W' : World} {g : Nat} {zs : List Int} (h : Lits W g zs) (hb : Below W.heap.size W W') : Lits W' g zs :=
  ⟨Nat.lt_of_lt_of_le h.1 hb.size, fun u h0 h1 => (hb.cell (p := ⟨g, u.toNat, none⟩) h.1).trans (h.2 u h0 h1)⟩
theorem Lits.alloc {W : World} {g : Nat} {zs : List Int} (h : Lits W g zs) (o : Obj) : Lits (W.alloc o) g zs := h.below ((Below.refl _ _).alloc (by simp) _)
theorem Lits.drew {W : World} {g : Nat} {zs : List Int} (h : Lits W g zs) : Lits W.drew g zs := h
theorem Lits.kept {r : Nat} {W W' : World} {g : Nat} {zs : List Int} (K : Kept r W W') (h : Lits W g zs) (hn : ¬ g = r) : Lits W' g zs :=
  ⟨Nat.lt_of_lt_of_le h.1 K.size, fun u h0 h1 => ((kcell K).1 g u.toNat h.1 hn).trans (h.2 u h0 h1)⟩
theorem Lits.new (zs : List Int) (W : World) (t : TypeId) : Lits (W.alloc (.cells (zs.map (Value.int .i64)).toArray t)) W.heap.size zs := by
  refine ⟨by simp, fun u h0 h1 => ?_⟩
  have hlt : u.toNat < zs.length := by omega
  simp [hlt]
end Go.Proofs.YtalmnogdplhflaaGreatDoor
namespace Go.Proofs.YtalmnogdplhflaaGreatDoor
open Go
set_option linter.unusedVariables false
section
variable {P : Program} {ops : Array Oper} {Q : Exit → Act → World → Prop}
/-- L with i come up. -/
def mark1 (L : Nat → Bool) (i : Nat) : Nat → Bool := fun j => if j = i then true else L j
theorem mark1_self (L : Nat → Bool) (i : Nat) : mark1 L i i = true := by simp [mark1]
theorem mark1_ne (L : Nat → Bool) {i j : Nat} (h : j ≠ i) : mark1 L i j = L j := by simp [mark1, h]
theorem mark1_true {L : Nat → Bool} {i j : Nat} (h : L j = true) : mark1 L i j = true := by unfold mark1; split <;> simp_all
theorem keepL {L : Nat → Bool} {i j : Nat} {p : Prop} (hne : j ≠ i) (h : L j = true → p) : mark1 L i j = true → p := fun e => h (by rwa [mark1_ne L hne] at e)
/-- How many of these have come up. -/
def cntL : List Nat → (Nat → Bool) → Int
  | [], _ => 0
  | p :: r, L => (if L p = true then 1 else 0) + cntL r L
theorem cntL_bd (L : Nat → Bool) : ∀ ps : List Nat, 0 ≤ cntL ps L ∧ cntL ps L ≤ ps.length
  | [] => by simp [cntL]
  | p :: r => by
    have := cntL_bd L r
    simp only [cntL, List.length_cons]
    split <;> omega
theorem cntL_out {L : Nat → Bool} {i : Nat} : ∀ {ps : List Nat}, i ∉ ps → cntL ps (mark1 L i) = cntL ps L
  | [], _ => rfl
  | p :: r, h => by
    simp only [List.mem_cons, not_or] at h
    simp only [cntL]
    rw [cntL_out h.2, mark1_ne L (fun e => h.1 e.symm)]
theorem cntL_in {L : Nat → Bool} {i : Nat} (hL : L i = false) : ∀ {ps : List Nat}, ps.Nodup → i ∈ ps → cntL ps (mark1 L i) = cntL ps L + 1
  | [], _, h => by simp at h
  | p :: r, hn, h => by
    obtain ⟨h1, h2⟩ := List.nodup_cons.1 hn
    simp only [cntL]
    by_cases e : i = p
    · subst e
      rw [mark1_self, cntL_out h1, hL]
      simp
      omega
    · have hr : i ∈ r := by simpa [e] using h
      rw [cntL_in hL h2 hr, mark1_ne L (fun e' => e e'.symm)]
      omega
theorem cntL_none : ∀ ps : List Nat, cntL ps (fun _ => false) = 0
  | [] => rfl
  | p :: r => by simp [cntL, cntL_none r]
/-- All that o waits for has come up. -/
def Dep (o : Oper) (L : Nat → Bool) : Prop := ∀ e ∈ o.after, Region.binds .any e = true → L e.on = true
/-- Each operation, whenever it comes up, leads from the invariant to the invariant. -/
def StepAll (P : Program) (ops : Array Oper) (Q : Exit → Act → World → Prop) (Inv : (Nat → Bool) → Act → World → Prop) : List Oper → Nat → Prop
  | [], _ => True
  | o :: r, i => (∀ (L : Nat → Bool) (a : Act) (w : World) (K' : Act → World → Prop), Dep o L → L i = false → Inv L a w → Shut (∀ a' w', Inv (mark1 L i) a' w' → K' a' w') →
      if Region.wanted o (yielded ops a.tmps) = true then Oper.wp P o a w K' Q else K' (a.put o.dst undef) w) ∧ StepAll P ops Q Inv r (i + 1)
theorem StepAll.at {Inv : (Nat → Bool) → Act → World → Prop} : ∀ {l : List Oper} {k : Nat}, StepAll P ops Q Inv l k → ∀ {i : Nat} {o : Oper}, l[i]? = some o →
    ∀ (L : Nat → Bool) (a : Act) (w : World) (K' : Act → World → Prop), Dep o L → L (k + i) = false → Inv L a w → Shut (∀ a' w', Inv (mark1 L (k + i)) a' w' → K' a' w') →
      if Region.wanted o (yielded ops a.tmps) = true then Oper.wp P o a w K' Q else K' (a.put o.dst undef) w
  | [], _, _, i, o, h => by simp at h
  | x :: r, k, hs, 0, o, h => by
    simp at h
    subst h
    exact hs.1
  | x :: r, k, hs, i + 1, o, h => by
    have := StepAll.at hs.2 (i := i) (o := o) (by simpa using h)
    rw [show k + 1 + i = k + (i + 1) by omega] at this
    exact this
theorem set_getD (l : Array Bool) (i j : Nat) (hi : i < l.size) : (l.setIfInBounds i true).getD j false = mark1 (fun k => l.getD k false) i j := by
  unfold mark1
  by_cases h : j = i
  · subst h
    simp [Array.getD, hi]
  · rw [if_neg h]
    simp only [Array.getD_eq_getD_getElem?, Array.getElem?_setIfInBounds]
    rw [if_neg (fun e => h e.symm)]
theorem wpAny_inv (Inv : (Nat → Bool) → Act → World → Prop) (hord : ∀ (i : Nat) (o : Oper), ops[i]? = some o → ∀ e ∈ o.after, e.on < i) (hstep : StepAll P ops Q Inv ops.toList 0)
    (hdone : ∀ L a w, (∀ i, i < ops.size → L i = true) → Inv L a w → Q .normal a w) :
    ∀ (fuel : Nat) (listed : Array Bool) (a : Act) (w : World), listed.size = ops.size → (listed.toList.filter (fun b => !b)).length ≤ fuel → Inv (fun k => listed.getD k false) a w → wpAny P .any ops Q fuel listed a w := by
  have hall : ∀ listed : Array Bool, listed.size = ops.size → Region.ready .any ops listed = [] → ∀ i, i < ops.size → listed.getD i false = true := by
    intro listed hsz hr i
    induction i using Nat.strongRecOn with
    | ind i ih =>
      intro hi
      cases hc : listed.getD i false with
      | true => rfl
      | false =>
        exfalso
        have hmem : i ∈ Region.ready .any ops listed := by
          unfold Region.ready
          rw [List.mem_filter]
          refine ⟨List.mem_range.2 hi, ?_⟩
          have h1 : listed.getD i true = false := by
            have hl : i < listed.size := by omega
            simp [Array.getD, hl] at hc ⊢
            exact hc
          rw [h1, Array.getElem?_eq_getElem hi]
          simp only [Bool.not_false, Bool.true_and, Option.map_some, Option.getD_some]
          rw [Array.all_eq_true_iff_forall_mem]
          intro e he
          have hlt := hord i ops[i] (Array.getElem?_eq_getElem hi) e he
          rw [ih e.on hlt (by omega)]
          simp
        rw [hr] at hmem
        cases hmem
  intro fuel
  induction fuel with
  | zero =>
    intro listed a w hsz hf hI
    have hno : ∀ i, i < ops.size → listed.getD i false = true := by
      intro i hi
      have hl : i < listed.size := by omega
      cases hc : listed[i] with
      | true => simp [Array.getD, hl, hc]
      | false =>
        exfalso
        have : listed[i] ∈ listed.toList.filter (fun b => !b) := List.mem_filter.2 ⟨by simp, by rw [hc]; rfl⟩
        rw [List.eq_nil_of_length_eq_zero (by omega : (listed.toList.filter (fun b => !b)).length = 0)] at this
        cases this
    refine ⟨?_, hdone _ a w hno hI⟩
    unfold Region.ready
    rw [List.filter_eq_nil_iff]
    intro i hi
    have hi' := List.mem_range.1 hi
    have h1 : listed.getD i true = true := by
      have hl : i < listed.size := by omega
      have := hno i hi'
      simp [Array.getD, hl] at this ⊢
      exact this
    rw [h1]
    simp
  | succ fuel ih =>
    intro listed a w hsz hf hI
    refine ⟨fun hr => hdone _ a w (hall listed hsz hr) hI, fun i hi => ?_⟩
    unfold Region.ready at hi
    obtain ⟨h1, h2⟩ := List.mem_filter.1 hi
    have hi' := List.mem_range.1 h1
    have hl : i < listed.size := by omega
    rw [Array.getElem?_eq_getElem hi'] at h2
    simp only [Option.map_some, Option.getD_some, Bool.and_eq_true, Bool.not_eq_true'] at h2
    obtain ⟨hun, hdep⟩ := h2
    have hun' : listed[i] = false := by simpa [Array.getD, hl] using hun
    have hfalse : listed.getD i false = false := by simp [Array.getD, hl, hun']
    have hd : Dep ops[i] (fun k => listed.getD k false) := by
      intro e he hb
      rw [Array.all_eq_true_iff_forall_mem] at hdep
      have := hdep e he
      rw [hb] at this
      simpa using this
    have ho : ops[i]? = some ops[i] := Array.getElem?_eq_getElem hi'
    refine wpOp_step ho (fun K' hK => ?_)
    have hstp := hstep.at (i := i) (o := ops[i]) (by simp [hi']) (fun k => listed.getD k false) a w K' hd (by simpa using hfalse) hI
    refine hstp (fun a' w' hI' => hK a' w' (ih _ a' w' (by simpa using hsz) ?_ ?_))
    · have : (listed.toList.set i true).filter (fun b => !b) = (listed.toList.filter (fun b => !b)).eraseIdx ((listed.toList.take i).filter (fun b => !b)).length := by
        have hlt : i < listed.toList.length := by simpa using hl
        have e1 : listed.toList = listed.toList.take i ++ false :: listed.toList.drop (i + 1) := by
          have e2 := List.drop_eq_getElem_cons hlt
          rw [show listed.toList[i] = false by simpa using hun'] at e2
          rw [← e2, List.take_append_drop]
        have hlen : (listed.toList.take i).length = i := by simp; omega
        rw [e1]
        rw [List.set_append_right _ _ (by rw [hlen]; exact Nat.le_refl _), hlen, Nat.sub_self, List.set_cons_zero]
        simp only [List.filter_append, List.filter_cons]
        rw [show List.take i (List.take i listed.toList ++ false :: List.drop (i + 1) listed.toList) = List.take i listed.toList from List.take_left' hlen]
        simp [List.eraseIdx_append_of_length_le]
      have hle : ((listed.setIfInBounds i true).toList.filter (fun b => !b)).length + 1 ≤ (listed.toList.filter (fun b => !b)).length := by
        rw [Array.toList_setIfInBounds, this]
        have hpos : ((listed.toList.take i).filter (fun b => !b)).length < (listed.toList.filter (fun b => !b)).length := by
          have hlt : i < listed.toList.length := by simpa using hl
          have e2 := List.drop_eq_getElem_cons hlt
          rw [show listed.toList[i] = false by simpa using hun'] at e2
          have e1 : listed.toList = listed.toList.take i ++ false :: listed.toList.drop (i + 1) := by rw [← e2, List.take_append_drop]
          have e3 : listed.toList.filter (fun b => !b) = (listed.toList.take i).filter (fun b => !b) ++ (false :: listed.toList.drop (i + 1)).filter (fun b => !b) := by
            rw [← List.filter_append, ← e1]
          rw [e3, List.length_append]
          simp
        rw [List.length_eraseIdx_of_lt hpos]
        omega
      omega
    · have e : (fun k => (listed.setIfInBounds i true).getD k false) = mark1 (fun k => listed.getD k false) (0 + i) := by
        funext k
        rw [Nat.zero_add]
        exact set_getD listed i k hl
      rw [e]
      exact hI'
/-- A region that draws its order, by an invariant. -/
theorem wp_region_inv {id : Nat} {a : Act} {w : World} (hm : P.follows .mixedOrders = true) (hord : (ops.toList.zipIdx.all fun x => x.1.after.all fun e => decide (e.on < x.2)) = true)
    (Inv : (Nat → Bool) → Act → World → Prop) (h0 : Inv (fun _ => false) a w.drew) (hstep : StepAll P ops Q Inv ops.toList 0)
    (hdone : ∀ L a w, (∀ i, i < ops.size → L i = true) → Inv L a w → Q .normal a w) : (Code.region id ops true).wp P Q a w := by
  have hord' : ∀ (i : Nat) (o : Oper), ops[i]? = some o → ∀ e ∈ o.after, e.on < i := by
    intro i o ho e he
    have h1 := List.all_eq_true.1 hord (o, i) (by
      rw [List.mem_zipIdx_iff_getElem?]
      simpa using ho)
    have h2 := Array.all_eq_true_iff_forall_mem.1 h1 e he
    simpa using h2
  refine wp_region_any hm (wpAny_inv Inv hord' hstep hdone ops.size _ a _ (by simp) ?_ ?_)
  · simp
  · have : (fun k => (Array.replicate ops.size false).getD k false) = fun _ => false := by
      funext k
      simp only [Array.getD_eq_getD_getElem?, Array.getElem?_replicate]
      split <;> rfl
    rw [this]
    exact h0
end
end Go.Proofs.YtalmnogdplhflaaGreatDoor
namespace Go.Proofs.YtalmnogdplhflaaGreatDoor
open Go.RowKit
set_option linter.unusedVariables false
/-- A number that fits in any bound asked for. -/
def Small (z : Int) : Prop := -100000 ≤ z ∧ z ≤ 100000
theorem pick_small {n x : Int} (h : PickOut n x) (hn : n ≤ 100000) : Small x := by
  obtain ⟨a1, a2, a3⟩ := h
  unfold Small
  by_cases h : 1 ≤ n
  · have := a2 h; omega
  · have := a3 (by omega); omega
theorem lits_small (zs : List Int) (h : ∀ z ∈ zs, -100000 ≤ z ∧ z ≤ 100000) {k : Nat} : Small (zs.getD k 0) := by
  by_cases hk : k < zs.length
  · rw [show zs.getD k 0 = zs[k] by simp [List.getD, hk]]
    exact h _ (List.getElem_mem hk)
  · rw [show zs.getD k 0 = 0 by simp [List.getD, hk]]
    exact ⟨by decide, by decide⟩
theorem RdB.more {w : World} {r : Nat} {a : Option Addr} {len cap : Nat} {m m' : Int} (h : RdB w r a len cap m) (hm : m ≤ m') : RdB w r a len cap m' := by
  obtain ⟨p, h0, h1, h⟩ := h; exact ⟨p, h0, by omega, h⟩
/-- Five cells of a block that may be written. -/
def Wr5 (w : World) (b : Nat) : Prop := ∀ j, j < 5 → ∃ v, w.cell? ⟨b, j, none⟩ = some v ∧ w.frozen? ⟨b, j, none⟩ = false
theorem Wr5.kept {r : Nat} {w w' : World} {b : Nat} (h : Wr5 w b) (K : Kept r w w') (hn : ¬ b = r) : Wr5 w' b := by
  intro j hj
  obtain ⟨v, h1, h2⟩ := h j hj
  have hlt := cell_lt h1
  exact ⟨v, ((kcell K).1 b j hlt hn).trans h1, ((kcell K).2 b j hlt hn).trans h2⟩
/-- Block g is as it was. -/
def Stay (g : Nat) (w w' : World) : Prop := w.heap.size ≤ w'.heap.size ∧ ∀ o, w'.cell? ⟨g, o, none⟩ = w.cell? ⟨g, o, none⟩
theorem Kept.stay {r g : Nat} {w w' : World} (h : Kept r w w') (hl : g < w.heap.size) (hn : ¬ g = r) : Stay g w w' := ⟨h.size, fun o => (kcell h).1 g o hl hn⟩
theorem Lits.stay {g : Nat} {w w' : World} {zs : List Int} (h : Lits w g zs) (k : Stay g w w') : Lits w' g zs := ⟨Nat.lt_of_lt_of_le h.1 k.1, fun u h0 h1 => (k.2 _).trans (h.2 u h0 h1)⟩
/-- Five cells written. -/
def put5c (w : World) (b : Nat) (x0 x1 x2 x3 x4 : Value) : World :=
  ((((w.setCell ⟨b, 0, none⟩ x0).setCell ⟨b, 1, none⟩ x1).setCell ⟨b, 2, none⟩ x2).setCell ⟨b, 3, none⟩ x3).setCell ⟨b, 4, none⟩ x4
theorem below_put5c {B : Nat} {a w : World} (h : Below B a w) {b : Nat} (hb : B ≤ b) (x0 x1 x2 x3 x4 : Value) : Below B a (put5c w b x0 x1 x2 x3 x4) :=
  ((((h.setCell (p := ⟨b, 0, none⟩) hb _).setCell (p := ⟨b, 1, none⟩) hb _).setCell (p := ⟨b, 2, none⟩) hb _).setCell (p := ⟨b, 3, none⟩) hb _).setCell (p := ⟨b, 4, none⟩) hb _
theorem RdB.p5 {w : World} {r : Nat} {a : Option Addr} {len cap : Nat} {m : Int} (h : RdB w r a len cap m) {b : Nat} (hb : r < b) (x0 x1 x2 x3 x4 : Value) : RdB (put5c w b x0 x1 x2 x3 x4) r a len cap m := by
  obtain ⟨p, h0, h1, h⟩ := h
  exact ⟨p, h0, h1, h.below (below_put5c (Below.refl _ _) hb _ _ _ _ _)⟩
theorem Kept.p5 {r : Nat} {a w : World} (h : Kept r a w) {b : Nat} (hb : a.heap.size ≤ b) (x0 x1 x2 x3 x4 : Value) : Kept r a (put5c w b x0 x1 x2 x3 x4) :=
  ((((h.setCell (q := ⟨b, 0, none⟩) (.inl hb) _).setCell (q := ⟨b, 1, none⟩) (.inl hb) _).setCell (q := ⟨b, 2, none⟩) (.inl hb) _).setCell (q := ⟨b, 3, none⟩) (.inl hb) _).setCell (q := ⟨b, 4, none⟩) (.inl hb) _
/-- Block b begins with these five numbers. -/
def Five (w : World) (b : Nat) (z0 z1 z2 z3 z4 : Int) : Prop :=
  w.cell? ⟨b, 0, none⟩ = some (.int .i64 z0) ∧ w.cell? ⟨b, 1, none⟩ = some (.int .i64 z1) ∧ w.cell? ⟨b, 2, none⟩ = some (.int .i64 z2) ∧ w.cell? ⟨b, 3, none⟩ = some (.int .i64 z3) ∧ w.cell? ⟨b, 4, none⟩ = some (.int .i64 z4)
theorem Five.stay {w w' : World} {b : Nat} {z0 z1 z2 z3 z4 : Int} (h : Five w b z0 z1 z2 z3 z4) (k : Stay b w w') : Five w' b z0 z1 z2 z3 z4 := by
  unfold Five
  rw [k.2, k.2, k.2, k.2, k.2]
  exact h
theorem stay5 {w : World} {g b : Nat} (h : ¬ g = b) (x0 x1 x2 x3 x4 : Value) : Stay g w (put5c w b x0 x1 x2 x3 x4) := by
  refine ⟨by simp [put5c, World.setCell], fun o => ?_⟩
  have far : ∀ (o' : Nat) (W : World) (z : Value), (W.setCell ⟨b, o', none⟩ z).cell? ⟨g, o, none⟩ = W.cell? ⟨g, o, none⟩ := fun o' W z => World.cell?_setCell_other _ _ _ _ (by intro e; exact h (by injection e with e1; exact e1.symm))
  unfold put5c
  rw [far, far, far, far, far]
theorem put5c_cells {w : World} {b : Nat} (h : Wr5 w b) (x0 x1 x2 x3 x4 : Value) : (put5c w b x0 x1 x2 x3 x4).cell? ⟨b, 0, none⟩ = some x0 ∧ (put5c w b x0 x1 x2 x3 x4).cell? ⟨b, 1, none⟩ = some x1 ∧ (put5c w b x0 x1 x2 x3 x4).cell? ⟨b, 2, none⟩ = some x2 ∧ (put5c w b x0 x1 x2 x3 x4).cell? ⟨b, 3, none⟩ = some x3 ∧ (put5c w b x0 x1 x2 x3 x4).cell? ⟨b, 4, none⟩ = some x4 := by
  have e : put5c w b x0 x1 x2 x3 x4 = w.setCells b 0 [x0, x1, x2, x3, x4] := rfl
  have g := World.cell?_setCells_in b [x0, x1, x2, x3, x4] 0 w (fun j hj => by
    obtain ⟨v, h1, _⟩ := h j (by simpa using hj)
    rw [Nat.zero_add, h1]; rfl)
  rw [e]
  exact ⟨g 0 (by simp), g 1 (by simp), g 2 (by simp), g 3 (by simp), g 4 (by simp)⟩
theorem five_set {w : World} {b : Nat} (h : Wr5 w b) (z0 z1 z2 z3 z4 : Int) : Five (put5c w b (.int .i64 z0) (.int .i64 z1) (.int .i64 z2) (.int .i64 z3) (.int .i64 z4)) b z0 z1 z2 z3 z4 := put5c_cells h _ _ _ _ _
theorem Wr5.p5 {w : World} {b : Nat} (h : Wr5 w b) (x0 x1 x2 x3 x4 : Value) : Wr5 (put5c w b x0 x1 x2 x3 x4) b := by
  have hc := put5c_cells h x0 x1 x2 x3 x4
  have hfr : ∀ j, (put5c w b x0 x1 x2 x3 x4).frozen? ⟨b, j, none⟩ = w.frozen? ⟨b, j, none⟩ := fun j => by
    unfold put5c
    rw [World.frozen?_setCell, World.frozen?_setCell, World.frozen?_setCell, World.frozen?_setCell, World.frozen?_setCell]
  generalize put5c w b x0 x1 x2 x3 x4 = W at hc hfr ⊢
  obtain ⟨g0, g1, g2, g3, g4⟩ := hc
  intro j hj
  obtain ⟨v, _, hf⟩ := h j hj
  rw [hfr j]
  have : j = 0 ∨ j = 1 ∨ j = 2 ∨ j = 3 ∨ j = 4 := by omega
  rcases this with rfl | rfl | rfl | rfl | rfl
  · exact ⟨_, g0, hf⟩
  · exact ⟨_, g1, hf⟩
  · exact ⟨_, g2, hf⟩
  · exact ⟨_, g3, hf⟩
  · exact ⟨_, g4, hf⟩
end Go.Proofs.YtalmnogdplhflaaGreatDoor
namespace Go.Proofs.YtalmnogdplhflaaGreatDoor
open Go.RowKit
set_option linter.unusedVariables false
theorem up3 {u : Value} {p : Nat → Value} {n m : Nat} (h : u = undef ∨ ∃ g, u = p g ∧ g < n) (hs : n ≤ m) : u = undef ∨ ∃ g, u = p g ∧ g < m := by
  rcases h with h | ⟨g, h1, h2⟩
  · exact .inl h
  · exact .inr ⟨g, h1, Nat.lt_of_lt_of_le h2 hs⟩
theorem ptr_blk {a b : Nat} (h : Value.pointer (some ⟨a, 0, none⟩) = .pointer (some ⟨b, 0, none⟩)) : a = b := by simpa using h
theorem undef_pointer {a : Option Addr} : ¬ undef = Value.pointer a := by intro h; cases h
theorem new_ne {u : Value} {n ga : Nat} (h : u = undef ∨ ∃ g, u = Value.pointer (some ⟨g, 0, none⟩) ∧ g < n) (e : u = .pointer (some ⟨ga, 0, none⟩)) : ¬ n = ga := by
  rcases h with h | ⟨g, h1, h2⟩
  · exact absurd (h.symm.trans e) undef_pointer
  · have := ptr_blk (h1.symm.trans e); omega
theorem tmod5 (z : Int) : -5 ≤ Int.tmod z 5 ∧ Int.tmod z 5 ≤ 5 := by
  by_cases h : 0 ≤ z
  · rw [Int.tmod_eq_emod_of_nonneg h]; omega
  · have e : Int.tmod z 5 = - Int.tmod (-z) 5 := by rw [Int.neg_tmod, Int.neg_neg]
    rw [e, Int.tmod_eq_emod_of_nonneg (by omega)]; omega
/-- Block g begins with five small numbers, and may be written. -/
def Ord5 (W : World) (g : Nat) : Prop := ∃ f : Nat → Int, ∀ i, i < 5 → Small (f i) ∧ W.cell? ⟨g, i, none⟩ = some (.int .i64 (f i)) ∧ W.frozen? ⟨g, i, none⟩ = false
theorem Ord5.kept {r : Nat} {W W' : World} {g : Nat} (h : Ord5 W g) (K : Kept r W W') (hn : ¬ g = r) : Ord5 W' g := by
  obtain ⟨f, h⟩ := h
  refine ⟨f, fun i hi => ?_⟩
  obtain ⟨h1, h2, h3⟩ := h i hi
  have hlt := cell_lt h2
  exact ⟨h1, ((kcell K).1 g i hlt hn).trans h2, ((kcell K).2 g i hlt hn).trans h3⟩
theorem Ord5.set {W : World} {g j : Nat} (h : Ord5 W g) (hj : j < 5) {z : Int} (hz : Small z) : Ord5 (W.setCell ⟨g, j, none⟩ (.int .i64 z)) g := by
  obtain ⟨f, h⟩ := h
  refine ⟨fun i => if i = j then z else f i, fun i hi => ?_⟩
  obtain ⟨h1, h2, h3⟩ := h i hi
  rw [World.frozen?_setCell]
  by_cases e : i = j
  · subst e
    have := World.cell?_setCells_in g [.int .i64 z] i W (fun j' hj' => by
      have : j' = 0 := by simpa using hj'
      subst this; rw [Nat.add_zero, h2]; rfl) 0 (by simp)
    refine ⟨by simpa using hz, ?_, h3⟩
    rw [show W.setCell ⟨g, i, none⟩ (.int .i64 z) = W.setCells g i [.int .i64 z] from rfl]
    simpa using this
  · refine ⟨by simpa [e] using h1, ?_, h3⟩
    simp only [e, if_false]
    exact (World.cell?_setCell_other _ _ _ _ (by intro e'; injection e' with _ e2; exact e e2.symm)).trans h2
theorem ord5_of {W : World} {g : Nat} (h : Wr5 W g) {z0 z1 z2 z3 z4 : Int} (s0 : Small z0) (s1 : Small z1) (s2 : Small z2) (s3 : Small z3) (s4 : Small z4) : Ord5 (put5c W g (.int .i64 z0) (.int .i64 z1) (.int .i64 z2) (.int .i64 z3) (.int .i64 z4)) g := by
  obtain ⟨c0, c1, c2, c3, c4⟩ := five_set h z0 z1 z2 z3 z4
  have hw := h.p5 (.int .i64 z0) (.int .i64 z1) (.int .i64 z2) (.int .i64 z3) (.int .i64 z4)
  refine ⟨fun i => [z0, z1, z2, z3, z4].getD i 0, fun i hi => ?_⟩
  generalize put5c W g (.int .i64 z0) (.int .i64 z1) (.int .i64 z2) (.int .i64 z3) (.int .i64 z4) = W' at *
  obtain ⟨v, _, hf⟩ := hw i hi
  have : i = 0 ∨ i = 1 ∨ i = 2 ∨ i = 3 ∨ i = 4 := by omega
  rcases this with rfl | rfl | rfl | rfl | rfl
  · exact ⟨s0, c0, hf⟩
  · exact ⟨s1, c1, hf⟩
  · exact ⟨s2, c2, hf⟩
  · exact ⟨s3, c3, hf⟩
  · exact ⟨s4, c4, hf⟩
theorem wr5_new (W : World) (t : TypeId) : Wr5 (W.alloc (.cells #[.int .i64 0, .int .i64 0, .int .i64 0, .int .i64 0, .int .i64 0] t)) W.heap.size := by
  intro j hj
  match j, hj with
  | 0, _ => exact ⟨.int .i64 0, by simp⟩
  | 1, _ => exact ⟨.int .i64 0, by simp⟩
  | 2, _ => exact ⟨.int .i64 0, by simp⟩
  | 3, _ => exact ⟨.int .i64 0, by simp⟩
  | 4, _ => exact ⟨.int .i64 0, by simp⟩
theorem Wr5.far {W : World} {b g : Nat} (h : Wr5 W b) (hn : ¬ b = g) (x0 x1 x2 x3 x4 : Value) : Wr5 (put5c W g x0 x1 x2 x3 x4) b := by
  intro j hj
  obtain ⟨v, h1, h2⟩ := h j hj
  refine ⟨v, ((stay5 hn x0 x1 x2 x3 x4).2 j).trans h1, ?_⟩
  unfold put5c
  rw [World.frozen?_setCell, World.frozen?_setCell, World.frozen?_setCell, World.frozen?_setCell, World.frozen?_setCell]
  exact h2
theorem Wr5.set {W : World} {b g j : Nat} (h : Wr5 W b) (hn : ¬ b = g) (x : Value) : Wr5 (W.setCell ⟨g, j, none⟩ x) b := by
  intro i hi
  obtain ⟨v, h1, h2⟩ := h i hi
  refine ⟨v, (World.cell?_setCell_other _ _ _ _ (by intro e; injection e with e1; exact hn e1.symm)).trans h1, ?_⟩
  rw [World.frozen?_setCell]; exact h2
theorem RdB.set {w : World} {r : Nat} {a : Option Addr} {len cap : Nat} {m : Int} (h : RdB w r a len cap m) {b j : Nat} (hb : r < b) (x : Value) : RdB (w.setCell ⟨b, j, none⟩ x) r a len cap m := by
  obtain ⟨p, h0, h1, h⟩ := h
  exact ⟨p, h0, h1, h.below ((Below.refl _ _).setCell (p := ⟨b, j, none⟩) hb _)⟩
set_option maxRecDepth 20000 in
set_option maxHeartbeats 4000000 in
theorem order_B {r : Nat} {ad : Option Addr} {len cap : Nat} {m : Int} {w : World} (h : RdB w r ad len cap m) (hm : m ≤ 100000) :
    Calls Tryz.prog 19 #[.pointer (some ⟨r, 0, none⟩)] w fun e w' => ∃ z0 z1 z2 z3 z4, e = .returned (.agg #[.int .i64 z0, .int .i64 z1, .int .i64 z2, .int .i64 z3, .int .i64 z4]) ∧ (Small z0 ∧ Small z1 ∧ Small z2 ∧ Small z3 ∧ Small z4) ∧ RdB w' r ad len cap (m + 6) ∧ Kept r w w' := by
  have hrl := h.lt
  have S0 : Hid ((RdB ((w.alloc (.cells #[.int .i64 0, .int .i64 0, .int .i64 0, .int .i64 0, .int .i64 0] 46)).drew) r ad len cap (m + cntL [1, 5, 9] (fun _ => false)) ∧ Kept r w ((w.alloc (.cells #[.int .i64 0, .int .i64 0, .int .i64 0, .int .i64 0, .int .i64 0] 46)).drew) ∧ Wr5 ((w.alloc (.cells #[.int .i64 0, .int .i64 0, .int .i64 0, .int .i64 0, .int .i64 0] 46)).drew) w.heap.size ∧ w.heap.size < ((w.alloc (.cells #[.int .i64 0, .int .i64 0, .int .i64 0, .int .i64 0, .int .i64 0] 46)).drew).heap.size ∧ (undef = undef ∨ ∃ g, undef = Value.pointer (some ⟨g, 0, none⟩) ∧ g < ((w.alloc (.cells #[.int .i64 0, .int .i64 0, .int .i64 0, .int .i64 0, .int .i64 0] 46)).drew).heap.size) ∧ (undef = undef ∨ ∃ g, undef = Value.slice (some ⟨g, 0, none⟩) 5 5 ∧ g < ((w.alloc (.cells #[.int .i64 0, .int .i64 0, .int .i64 0, .int .i64 0, .int .i64 0] 46)).drew).heap.size) ∧ ((fun _ => false : Nat → Bool) 12 = true → (fun _ => false : Nat → Bool) 11 = true))) :=
    ⟨by rw [cntL_none, Int.add_zero]; exact (h.alloc _).drew, ((Kept.refl r w).alloc _).drew, wr5_new w 46, by simp [World.drew], .inl rfl, .inl rfl, fun h => absurd h (by simp)⟩
  clear h
  go_enter Tryz.func19, Tryz.ntmps19
  go_upto_region 1 with fail
  refine wp_region_inv (by kernel_rfl) (by kernel_rfl) (fun L a w' => ∃ u3 u4 u5 u6 u7 u8 u9 u10 u11 u12 u13 u14 : Value, a = ⟨#[.pointer (some ⟨r, 0, none⟩), undef, .pointer (some ⟨w.heap.size, 0, none⟩), u3, u4, u5, u6, u7, u8, u9, u10, u11, u12, u13, u14, undef, undef, undef, undef, undef, undef, undef, undef, undef, undef, undef, undef, undef, undef, undef, undef, undef, undef, undef, undef, undef, undef, undef, undef, undef, undef, undef, undef, undef, undef, undef, undef, undef, undef, undef, undef, undef, undef, undef, undef, undef, undef, undef, undef, undef, undef, undef, undef, undef, undef, undef, undef, undef, undef, undef, undef, undef, undef, undef, undef, undef], []⟩ ∧ (RdB w' r ad len cap (m + cntL [1, 5, 9] L) ∧ Kept r w w' ∧ Wr5 w' w.heap.size ∧ w.heap.size < w'.heap.size ∧ (u3 = undef ∨ ∃ g, u3 = .pointer (some ⟨g, 0, none⟩) ∧ g < w'.heap.size) ∧ (u7 = undef ∨ ∃ g, u7 = .slice (some ⟨g, 0, none⟩) 5 5 ∧ g < w'.heap.size) ∧ (L 12 = true → L 11 = true)) ∧ (L 0 = true → u4 = .pointer (some ⟨r, 0, none⟩)) ∧ (L 1 = true → ∃ x, u5 = .int .i64 x ∧ PickOut 5 x) ∧ (L 2 = true → ∃ z, u6 = .int .i64 z ∧ Small z) ∧ (L 3 = true → ∃ g, u7 = .slice (some ⟨g, 0, none⟩) 5 5 ∧ Lits w' g [1, 1, 2, 8, 900] ∧ ¬ g = r ∧ (∀ ga, u3 = .pointer (some ⟨ga, 0, none⟩) → ¬ g = ga)) ∧ (L 4 = true → u8 = .pointer (some ⟨r, 0, none⟩)) ∧ (L 5 = true → ∃ x, u9 = .int .i64 x ∧ PickOut 5 x) ∧ (L 6 = true → ∃ (g : Nat) (x : Int), u10 = .pointer (some ⟨g, x.toNat, none⟩) ∧ Lits w' g [1, 1, 2, 8, 900] ∧ 0 ≤ x ∧ x < 5 ∧ ¬ g = r ∧ (∀ ga, u3 = .pointer (some ⟨ga, 0, none⟩) → ¬ g = ga)) ∧ (L 7 = true → ∃ z, u11 = .int .i64 z ∧ Small z) ∧ (L 8 = true → u12 = .pointer (some ⟨r, 0, none⟩)) ∧ (L 9 = true → ∃ z, u13 = .int .i64 z ∧ Small z) ∧ (L 10 = true → ∃ z0 z1 z3, u14 = .agg #[.int .i64 z0, .int .i64 z1, .int .i64 1, .int .i64 z3, .int .i64 0] ∧ (Small z0 ∧ Small z1 ∧ Small z3)) ∧ (L 11 = true → ∃ ga, u3 = .pointer (some ⟨ga, 0, none⟩) ∧ Wr5 w' ga ∧ ¬ ga = r ∧ w.heap.size < ga) ∧ (L 12 = true → ∃ ga, u3 = .pointer (some ⟨ga, 0, none⟩) ∧ Ord5 w' ga ∧ w.heap.size < ga ∧ ¬ ga = r)) ?h0 ?hstep ?hdone
  case h0 => exact ⟨undef, undef, undef, undef, undef, undef, undef, undef, undef, undef, undef, undef, rfl, S0.out, fun h => absurd h (by simp), fun h => absurd h (by simp), fun h => absurd h (by simp), fun h => absurd h (by simp), fun h => absurd h (by simp), fun h => absurd h (by simp), fun h => absurd h (by simp), fun h => absurd h (by simp), fun h => absurd h (by simp), fun h => absurd h (by simp), fun h => absurd h (by simp), fun h => absurd h (by simp), fun h => absurd h (by simp)⟩
  case hstep =>
    refine ⟨?_, ?_, ?_, ?_, ?_, ?_, ?_, ?_, ?_, ?_, ?_, ?_, ?_, trivial⟩
    · intro L a w' K' hd hL hI hK
      obtain ⟨u3, u4, u5, u6, u7, u8, u9, u10, u11, u12, u13, u14, rfl, ⟨hR, hKp, hW, hz, hU3, hU7, hP⟩, h0, h1, h2, h3, h4, h5, h6, h7, h8, h9, h10, h11, h12⟩ := hI
      go_simp
      exact hK.out _ _ ⟨_, _, _, _, _, _, _, _, _, _, _, _, rfl, ⟨by rw [cntL_out (by decide)]; exact hR, hKp, hW, hz, hU3, hU7, keepL (by decide) (fun e => mark1_true (hP e))⟩, fun _ => rfl, keepL (by decide) h1, keepL (by decide) h2, keepL (by decide) h3, keepL (by decide) h4, keepL (by decide) h5, keepL (by decide) h6, keepL (by decide) h7, keepL (by decide) h8, keepL (by decide) h9, keepL (by decide) h10, keepL (by decide) h11, keepL (by decide) h12⟩
    · intro L a w' K' hd hL hI hK
      obtain ⟨u3, u4, u5, u6, u7, u8, u9, u10, u11, u12, u13, u14, rfl, ⟨hR, hKp, hW, hz, hU3, hU7, hP⟩, h0, h1, h2, h3, h4, h5, h6, h7, h8, h9, h10, h11, h12⟩ := hI
      have hrl := hR.lt
      obtain rfl := h0 (hd ⟨0, .data⟩ (by simp) rfl)
      go_simp
      go_wp2_with (go_at_call 18; refine (pick_B hR (by have := (cntL_bd L [1, 5, 9]).2; simp at this; omega)).mono ?_; rintro e w2 ⟨x, rfl, hx, hR2, K2⟩)
      exact hK.out _ _ ⟨_, _, _, _, _, _, _, _, _, _, _, _, rfl, ⟨by rw [cntL_in hL (by decide) (by decide), ← Int.add_assoc]; exact hR2, hKp.trans K2, hW.kept K2 (by omega), Nat.lt_of_lt_of_le hz K2.size, up3 hU3 K2.size, up3 hU7 K2.size, keepL (by decide) (fun e => mark1_true (hP e))⟩, keepL (by decide) (fun _ => rfl), fun _ => ⟨x, rfl, hx⟩, keepL (by decide) h2, keepL (by decide) (fun e => match (h3 e) with | ⟨g, e1, e2, e3, e4⟩ => ⟨g, e1, Lits.kept K2 e2 e3, e3, e4⟩), keepL (by decide) h4, keepL (by decide) h5, keepL (by decide) (fun e => match (h6 e) with | ⟨g, x, e1, e2, e5, e6, e3, e4⟩ => ⟨g, x, e1, Lits.kept K2 e2 e3, e5, e6, e3, e4⟩), keepL (by decide) h7, keepL (by decide) h8, keepL (by decide) h9, keepL (by decide) h10, keepL (by decide) (fun e => match (h11 e) with | ⟨ga, e1, e2, e3, e4⟩ => ⟨ga, e1, e2.kept K2 e3, e3, e4⟩), keepL (by decide) (fun e => match (h12 e) with | ⟨ga, e1, e2, e3, e4⟩ => ⟨ga, e1, e2.kept K2 e4, e3, e4⟩)⟩
    · intro L a w' K' hd hL hI hK
      obtain ⟨u3, u4, u5, u6, u7, u8, u9, u10, u11, u12, u13, u14, rfl, ⟨hR, hKp, hW, hz, hU3, hU7, hP⟩, h0, h1, h2, h3, h4, h5, h6, h7, h8, h9, h10, h11, h12⟩ := hI
      have hrl := hR.lt
      obtain ⟨x, rfl, hx⟩ := h1 (hd ⟨1, .data⟩ (by simp) rfl)
      have hx0 := hx.1
      have hx1 := hx.2.1 (by decide)
      have hwr : IntKind.i64.wrap (1 + x) = 1 + x := by rw [IntKind.wrap_i64]; omega
      go_simp
      exact hK.out _ _ ⟨_, _, _, _, _, _, _, _, _, _, _, _, rfl, ⟨by rw [cntL_out (by decide)]; exact hR, hKp, hW, hz, hU3, hU7, keepL (by decide) (fun e => mark1_true (hP e))⟩, keepL (by decide) h0, keepL (by decide) (fun _ => ⟨x, rfl, hx⟩), fun _ => ⟨1 + x, rfl, by unfold Small; omega⟩, keepL (by decide) h3, keepL (by decide) h4, keepL (by decide) h5, keepL (by decide) h6, keepL (by decide) h7, keepL (by decide) h8, keepL (by decide) h9, keepL (by decide) h10, keepL (by decide) h11, keepL (by decide) h12⟩
    · intro L a w' K' hd hL hI hK
      obtain ⟨u3, u4, u5, u6, u7, u8, u9, u10, u11, u12, u13, u14, rfl, ⟨hR, hKp, hW, hz, hU3, hU7, hP⟩, h0, h1, h2, h3, h4, h5, h6, h7, h8, h9, h10, h11, h12⟩ := hI
      have hrl := hR.lt
      go_simp
      exact hK.out _ _ ⟨_, _, _, _, _, _, _, _, _, _, _, _, rfl, ⟨by rw [cntL_out (by decide)]; exact hR.alloc _, hKp.alloc _, hW.kept ((Kept.refl r w').alloc _) (by omega), by simp; omega, up3 hU3 (by simp), .inr ⟨w'.heap.size, rfl, by simp⟩, keepL (by decide) (fun e => mark1_true (hP e))⟩, keepL (by decide) h0, keepL (by decide) h1, keepL (by decide) h2, fun _ => ⟨w'.heap.size, rfl, Lits.new [1, 1, 2, 8, 900] w' 3, by omega, fun ga eg => new_ne hU3 eg⟩, keepL (by decide) h4, keepL (by decide) h5, keepL (by decide) (fun e => match (h6 e) with | ⟨g, x, e1, e2, e5, e6, e3, e4⟩ => ⟨g, x, e1, Lits.kept ((Kept.refl r w').alloc _) e2 e3, e5, e6, e3, e4⟩), keepL (by decide) h7, keepL (by decide) h8, keepL (by decide) h9, keepL (by decide) h10, keepL (by decide) (fun e => match (h11 e) with | ⟨ga, e1, e2, e3, e4⟩ => ⟨ga, e1, e2.kept ((Kept.refl r w').alloc _) e3, e3, e4⟩), keepL (by decide) (fun e => match (h12 e) with | ⟨ga, e1, e2, e3, e4⟩ => ⟨ga, e1, e2.kept ((Kept.refl r w').alloc _) e4, e3, e4⟩)⟩
    · intro L a w' K' hd hL hI hK
      obtain ⟨u3, u4, u5, u6, u7, u8, u9, u10, u11, u12, u13, u14, rfl, ⟨hR, hKp, hW, hz, hU3, hU7, hP⟩, h0, h1, h2, h3, h4, h5, h6, h7, h8, h9, h10, h11, h12⟩ := hI
      go_simp
      exact hK.out _ _ ⟨_, _, _, _, _, _, _, _, _, _, _, _, rfl, ⟨by rw [cntL_out (by decide)]; exact hR, hKp, hW, hz, hU3, hU7, keepL (by decide) (fun e => mark1_true (hP e))⟩, keepL (by decide) h0, keepL (by decide) h1, keepL (by decide) h2, keepL (by decide) h3, fun _ => rfl, keepL (by decide) h5, keepL (by decide) h6, keepL (by decide) h7, keepL (by decide) h8, keepL (by decide) h9, keepL (by decide) h10, keepL (by decide) h11, keepL (by decide) h12⟩
    · intro L a w' K' hd hL hI hK
      obtain ⟨u3, u4, u5, u6, u7, u8, u9, u10, u11, u12, u13, u14, rfl, ⟨hR, hKp, hW, hz, hU3, hU7, hP⟩, h0, h1, h2, h3, h4, h5, h6, h7, h8, h9, h10, h11, h12⟩ := hI
      have hrl := hR.lt
      obtain rfl := h4 (hd ⟨4, .data⟩ (by simp) rfl)
      go_simp
      go_wp2_with (go_at_call 18; refine (pick_B hR (by have := (cntL_bd L [1, 5, 9]).2; simp at this; omega)).mono ?_; rintro e w2 ⟨x, rfl, hx, hR2, K2⟩)
      exact hK.out _ _ ⟨_, _, _, _, _, _, _, _, _, _, _, _, rfl, ⟨by rw [cntL_in hL (by decide) (by decide), ← Int.add_assoc]; exact hR2, hKp.trans K2, hW.kept K2 (by omega), Nat.lt_of_lt_of_le hz K2.size, up3 hU3 K2.size, up3 hU7 K2.size, keepL (by decide) (fun e => mark1_true (hP e))⟩, keepL (by decide) h0, keepL (by decide) h1, keepL (by decide) h2, keepL (by decide) (fun e => match (h3 e) with | ⟨g, e1, e2, e3, e4⟩ => ⟨g, e1, Lits.kept K2 e2 e3, e3, e4⟩), keepL (by decide) (fun _ => rfl), fun _ => ⟨x, rfl, hx⟩, keepL (by decide) (fun e => match (h6 e) with | ⟨g, x, e1, e2, e5, e6, e3, e4⟩ => ⟨g, x, e1, Lits.kept K2 e2 e3, e5, e6, e3, e4⟩), keepL (by decide) h7, keepL (by decide) h8, keepL (by decide) h9, keepL (by decide) h10, keepL (by decide) (fun e => match (h11 e) with | ⟨ga, e1, e2, e3, e4⟩ => ⟨ga, e1, e2.kept K2 e3, e3, e4⟩), keepL (by decide) (fun e => match (h12 e) with | ⟨ga, e1, e2, e3, e4⟩ => ⟨ga, e1, e2.kept K2 e4, e3, e4⟩)⟩
    · intro L a w' K' hd hL hI hK
      obtain ⟨u3, u4, u5, u6, u7, u8, u9, u10, u11, u12, u13, u14, rfl, ⟨hR, hKp, hW, hz, hU3, hU7, hP⟩, h0, h1, h2, h3, h4, h5, h6, h7, h8, h9, h10, h11, h12⟩ := hI
      have hrl := hR.lt
      obtain ⟨g, rfl, hg, hn, hn2⟩ := h3 (hd ⟨3, .data⟩ (by simp) rfl)
      obtain ⟨x, rfl, hx⟩ := h5 (hd ⟨5, .data⟩ (by simp) rfl)
      have hx0 := hx.1
      have hx1 := hx.2.1 (by decide)
      go_simp
      exact hK.out _ _ ⟨_, _, _, _, _, _, _, _, _, _, _, _, rfl, ⟨by rw [cntL_out (by decide)]; exact hR, hKp, hW, hz, hU3, hU7, keepL (by decide) (fun e => mark1_true (hP e))⟩, keepL (by decide) h0, keepL (by decide) h1, keepL (by decide) h2, keepL (by decide) (fun _ => ⟨g, rfl, hg, hn, hn2⟩), keepL (by decide) h4, keepL (by decide) (fun _ => ⟨x, rfl, hx⟩), fun _ => ⟨g, x, rfl, hg, hx0, hx1, hn, hn2⟩, keepL (by decide) h7, keepL (by decide) h8, keepL (by decide) h9, keepL (by decide) h10, keepL (by decide) h11, keepL (by decide) h12⟩
    · intro L a w' K' hd hL hI hK
      obtain ⟨u3, u4, u5, u6, u7, u8, u9, u10, u11, u12, u13, u14, rfl, ⟨hR, hKp, hW, hz, hU3, hU7, hP⟩, h0, h1, h2, h3, h4, h5, h6, h7, h8, h9, h10, h11, h12⟩ := hI
      have hrl := hR.lt
      obtain ⟨g, x, rfl, hg, hx0, hx1, hn, hn2⟩ := h6 (hd ⟨6, .data⟩ (by simp) rfl)
      obtain ⟨z, hcz, hsz⟩ : ∃ z, w'.cell? ⟨g, x.toNat, none⟩ = some (.int .i64 z) ∧ Small z := ⟨_, hg.2 x hx0 hx1, lits_small _ (by decide)⟩
      go_simp
      exact hK.out _ _ ⟨_, _, _, _, _, _, _, _, _, _, _, _, rfl, ⟨by rw [cntL_out (by decide)]; exact hR, hKp, hW, hz, hU3, hU7, keepL (by decide) (fun e => mark1_true (hP e))⟩, keepL (by decide) h0, keepL (by decide) h1, keepL (by decide) h2, keepL (by decide) h3, keepL (by decide) h4, keepL (by decide) h5, keepL (by decide) (fun _ => ⟨g, x, rfl, hg, hx0, hx1, hn, hn2⟩), fun _ => ⟨z, rfl, hsz⟩, keepL (by decide) h8, keepL (by decide) h9, keepL (by decide) h10, keepL (by decide) h11, keepL (by decide) h12⟩
    · intro L a w' K' hd hL hI hK
      obtain ⟨u3, u4, u5, u6, u7, u8, u9, u10, u11, u12, u13, u14, rfl, ⟨hR, hKp, hW, hz, hU3, hU7, hP⟩, h0, h1, h2, h3, h4, h5, h6, h7, h8, h9, h10, h11, h12⟩ := hI
      go_simp
      exact hK.out _ _ ⟨_, _, _, _, _, _, _, _, _, _, _, _, rfl, ⟨by rw [cntL_out (by decide)]; exact hR, hKp, hW, hz, hU3, hU7, keepL (by decide) (fun e => mark1_true (hP e))⟩, keepL (by decide) h0, keepL (by decide) h1, keepL (by decide) h2, keepL (by decide) h3, keepL (by decide) h4, keepL (by decide) h5, keepL (by decide) h6, keepL (by decide) h7, fun _ => rfl, keepL (by decide) h9, keepL (by decide) h10, keepL (by decide) h11, keepL (by decide) h12⟩
    · intro L a w' K' hd hL hI hK
      obtain ⟨u3, u4, u5, u6, u7, u8, u9, u10, u11, u12, u13, u14, rfl, ⟨hR, hKp, hW, hz, hU3, hU7, hP⟩, h0, h1, h2, h3, h4, h5, h6, h7, h8, h9, h10, h11, h12⟩ := hI
      have hrl := hR.lt
      obtain rfl := h8 (hd ⟨8, .data⟩ (by simp) rfl)
      go_simp
      go_wp2_with (go_at_call 18; refine (pick_B hR (by have := (cntL_bd L [1, 5, 9]).2; simp at this; omega)).mono ?_; rintro e w2 ⟨x, rfl, hx, hR2, K2⟩)
      exact hK.out _ _ ⟨_, _, _, _, _, _, _, _, _, _, _, _, rfl, ⟨by rw [cntL_in hL (by decide) (by decide), ← Int.add_assoc]; exact hR2, hKp.trans K2, hW.kept K2 (by omega), Nat.lt_of_lt_of_le hz K2.size, up3 hU3 K2.size, up3 hU7 K2.size, keepL (by decide) (fun e => mark1_true (hP e))⟩, keepL (by decide) h0, keepL (by decide) h1, keepL (by decide) h2, keepL (by decide) (fun e => match (h3 e) with | ⟨g, e1, e2, e3, e4⟩ => ⟨g, e1, Lits.kept K2 e2 e3, e3, e4⟩), keepL (by decide) h4, keepL (by decide) h5, keepL (by decide) (fun e => match (h6 e) with | ⟨g, x, e1, e2, e5, e6, e3, e4⟩ => ⟨g, x, e1, Lits.kept K2 e2 e3, e5, e6, e3, e4⟩), keepL (by decide) h7, keepL (by decide) (fun _ => rfl), fun _ => ⟨x, rfl, pick_small hx (by decide)⟩, keepL (by decide) h10, keepL (by decide) (fun e => match (h11 e) with | ⟨ga, e1, e2, e3, e4⟩ => ⟨ga, e1, e2.kept K2 e3, e3, e4⟩), keepL (by decide) (fun e => match (h12 e) with | ⟨ga, e1, e2, e3, e4⟩ => ⟨ga, e1, e2.kept K2 e4, e3, e4⟩)⟩
    · intro L a w' K' hd hL hI hK
      obtain ⟨u3, u4, u5, u6, u7, u8, u9, u10, u11, u12, u13, u14, rfl, ⟨hR, hKp, hW, hz, hU3, hU7, hP⟩, h0, h1, h2, h3, h4, h5, h6, h7, h8, h9, h10, h11, h12⟩ := hI
      have hrl := hR.lt
      obtain ⟨z0, rfl, s0⟩ := h2 (hd ⟨2, .data⟩ (by simp) rfl)
      obtain ⟨z1, rfl, s1⟩ := h7 (hd ⟨7, .data⟩ (by simp) rfl)
      obtain ⟨z3, rfl, s3⟩ := h9 (hd ⟨9, .data⟩ (by simp) rfl)
      go_simp
      exact hK.out _ _ ⟨_, _, _, _, _, _, _, _, _, _, _, _, rfl, ⟨by rw [cntL_out (by decide)]; exact hR, hKp, hW, hz, hU3, hU7, keepL (by decide) (fun e => mark1_true (hP e))⟩, keepL (by decide) h0, keepL (by decide) h1, keepL (by decide) (fun _ => ⟨z0, rfl, s0⟩), keepL (by decide) h3, keepL (by decide) h4, keepL (by decide) h5, keepL (by decide) h6, keepL (by decide) (fun _ => ⟨z1, rfl, s1⟩), keepL (by decide) h8, keepL (by decide) (fun _ => ⟨z3, rfl, s3⟩), fun _ => ⟨z0, z1, z3, rfl, s0, s1, s3⟩, keepL (by decide) h11, keepL (by decide) h12⟩
    · intro L a w' K' hd hL hI hK
      obtain ⟨u3, u4, u5, u6, u7, u8, u9, u10, u11, u12, u13, u14, rfl, ⟨hR, hKp, hW, hz, hU3, hU7, hP⟩, h0, h1, h2, h3, h4, h5, h6, h7, h8, h9, h10, h11, h12⟩ := hI
      have hrl := hR.lt
      go_simp
      exact hK.out _ _ ⟨_, _, _, _, _, _, _, _, _, _, _, _, rfl, ⟨by rw [cntL_out (by decide)]; exact hR.alloc _, hKp.alloc _, hW.kept ((Kept.refl r w').alloc _) (by omega), by simp; omega, .inr ⟨w'.heap.size, rfl, by simp⟩, up3 hU7 (by simp), keepL (by decide) (fun e => mark1_true (hP e))⟩, keepL (by decide) h0, keepL (by decide) h1, keepL (by decide) h2, keepL (by decide) (fun e => match (h3 e) with | ⟨g, e1, e2, e3, e4⟩ => ⟨g, e1, Lits.kept ((Kept.refl r w').alloc _) e2 e3, e3, fun ga eg => by have h1 := ptr_blk eg; have h2 := e2.1; omega⟩), keepL (by decide) h4, keepL (by decide) h5, keepL (by decide) (fun e => match (h6 e) with | ⟨g, x, e1, e2, e5, e6, e3, e4⟩ => ⟨g, x, e1, Lits.kept ((Kept.refl r w').alloc _) e2 e3, e5, e6, e3, fun ga eg => by have h1 := ptr_blk eg; have h2 := e2.1; omega⟩), keepL (by decide) h7, keepL (by decide) h8, keepL (by decide) h9, keepL (by decide) h10, fun _ => ⟨w'.heap.size, rfl, wr5_new w' _, by omega, by omega⟩, keepL (by decide) (fun e => absurd (hP e) (by simp [hL]))⟩
    · intro L a w' K' hd hL hI hK
      obtain ⟨u3, u4, u5, u6, u7, u8, u9, u10, u11, u12, u13, u14, rfl, ⟨hR, hKp, hW, hz, hU3, hU7, hP⟩, h0, h1, h2, h3, h4, h5, h6, h7, h8, h9, h10, h11, h12⟩ := hI
      have hrl := hR.lt
      obtain ⟨z0, z1, z3, rfl, s0, s1, s3⟩ := h10 (hd ⟨10, .data⟩ (by simp) rfl)
      obtain ⟨ga, rfl, hWa, hra, hga⟩ := h11 (hd ⟨11, .data⟩ (by simp) rfl)
      obtain ⟨v0, q0, f0⟩ := hWa 0 (by decide)
      obtain ⟨v1, q1, f1⟩ := hWa 1 (by decide)
      obtain ⟨v2, q2, f2⟩ := hWa 2 (by decide)
      obtain ⟨v3, q3, f3⟩ := hWa 3 (by decide)
      obtain ⟨v4, q4, f4⟩ := hWa 4 (by decide)
      go_simp
      exact hK.out _ _ ⟨_, _, _, _, _, _, _, _, _, _, _, _, rfl, ⟨by rw [cntL_out (by decide)]; exact hR.p5 (by omega) _ _ _ _ _, hKp.p5 (by omega) _ _ _ _ _, hW.far (by omega) _ _ _ _ _, by simpa [World.setCell] using hz, .inr ⟨ga, rfl, by have := cell_lt q0; simpa [World.setCell] using this⟩, up3 hU7 (by simp [World.setCell]), fun _ => mark1_true (hd ⟨11, .data⟩ (by simp) rfl)⟩, keepL (by decide) h0, keepL (by decide) h1, keepL (by decide) h2, keepL (by decide) (fun e => match (h3 e) with | ⟨g, e1, e2, e3, e4⟩ => ⟨g, e1, e2.stay (stay5 (e4 ga rfl) _ _ _ _ _), e3, e4⟩), keepL (by decide) h4, keepL (by decide) h5, keepL (by decide) (fun e => match (h6 e) with | ⟨g, x, e1, e2, e5, e6, e3, e4⟩ => ⟨g, x, e1, e2.stay (stay5 (e4 ga rfl) _ _ _ _ _), e5, e6, e3, e4⟩), keepL (by decide) h7, keepL (by decide) h8, keepL (by decide) h9, keepL (by decide) (fun _ => ⟨z0, z1, z3, rfl, s0, s1, s3⟩), keepL (by decide) (fun e => ⟨_, rfl, hWa.p5 _ _ _ _ _, hra, hga⟩), fun _ => ⟨ga, rfl, ord5_of hWa s0 s1 (by unfold Small; omega) s3 (by unfold Small; omega), hga, hra⟩⟩
  case hdone =>
    intro L a w' hL hI
    obtain ⟨u3, u4, u5, u6, u7, u8, u9, u10, u11, u12, u13, u14, rfl, ⟨hR, hKp, hW, hz, hU3, hU7, hP⟩, h0, h1, h2, h3, h4, h5, h6, h7, h8, h9, h10, h11, h12⟩ := hI
    obtain ⟨ga, rfl, hO, hga, hgr⟩ := h12 (hL 12 (by decide))
    have hcb := (cntL_bd L [1, 5, 9]).2
    simp at hcb
    have R3 : Hid (RdB w' r ad len cap (m + 3)) := hR.more (by omega)
    have K3 : Hid (Kept r w w') := hKp
    have O3 : Hid (Ord5 w' ga) := hO
    have W3 : Hid (Wr5 w' w.heap.size) := hW
    clear h0 h1 h2 h3 h4 h5 h6 h7 h8 h9 h10 h11 h12 hL hW hR hKp hO hcb hU3 hU7 S0 hP hz
    go_wp2_with fail
    refine (pick_B R3.out (by omega)).mono ?_
    rintro e w4 ⟨x4, rfl, hx4, hR4, hK4⟩
    have R4 : Hid (RdB w4 r ad len cap (m + 4)) := hR4.more (by omega)
    have K4 : Hid (Kept r w w4) := K3.out.trans hK4
    have O4 : Hid (Ord5 w4 ga) := O3.out.kept hK4 hgr
    have W4 : Hid (Wr5 w4 w.heap.size) := W3.out.kept hK4 (by omega)
    have x4l := hx4.1
    have x4h := hx4.2.1 (by decide)
    clear hR4 hK4 hx4
    clear R3 K3 O3 W3
    have hx : x4 = 0 ∨ x4 = 1 ∨ x4 = 2 ∨ x4 = 3 ∨ x4 = 4 ∨ x4 = 5 ∨ x4 = 6 ∨ x4 = 7 := by omega
    rcases hx with rfl | rfl | rfl | rfl | rfl | rfl | rfl | rfl
    · obtain ⟨f, hf⟩ := O4.out
      have HF : Hid (∀ i, i < 5 → Small (f i)) := fun i hi => (hf i hi).1
      have c0 := (hf 0 (by decide)).2.1
      have z0 := (hf 0 (by decide)).2.2
      have c1 := (hf 1 (by decide)).2.1
      have z1 := (hf 1 (by decide)).2.2
      have c2 := (hf 2 (by decide)).2.1
      have z2 := (hf 2 (by decide)).2.2
      have c3 := (hf 3 (by decide)).2.1
      have z3 := (hf 3 (by decide)).2.2
      have c4 := (hf 4 (by decide)).2.1
      have z4 := (hf 4 (by decide)).2.2
      obtain ⟨v0, q0, y0⟩ := W4.out 0 (by decide)
      obtain ⟨v1, q1, y1⟩ := W4.out 1 (by decide)
      obtain ⟨v2, q2, y2⟩ := W4.out 2 (by decide)
      obtain ⟨v3, q3, y3⟩ := W4.out 3 (by decide)
      obtain ⟨v4, q4, y4⟩ := W4.out 4 (by decide)
      have b0 := HF.out 0 (by decide)
      have b1 := HF.out 3 (by decide)
      unfold Small at b0 b1
      clear hf
      go_upto_region 6 with fail
      refine wp_region_inv (by kernel_rfl) (by kernel_rfl) (fun L a w' => ∃ u21 u22 u23 u24 u25 u26 u27 u28 : Value, a = ⟨#[.pointer (some ⟨r, 0, none⟩), undef, .pointer (some ⟨w.heap.size, 0, none⟩), .pointer (some ⟨ga, 0, none⟩), u4, u5, u6, u7, u8, u9, u10, u11, u12, u13, u14, .pointer (some ⟨r, 0, none⟩), .int .i64 0, .bool true, .bool true, undef, .pointer (some ⟨ga, 2, none⟩), u21, u22, u23, u24, u25, u26, u27, u28, undef, undef, undef, undef, undef, undef, undef, undef, undef, undef, undef, undef, undef, undef, undef, undef, undef, undef, undef, undef, undef, undef, undef, undef, undef, undef, undef, undef, undef, undef, undef, undef, undef, undef, undef, undef, undef, undef, undef, undef, undef, undef, undef, undef, undef, undef, undef], []⟩ ∧ (RdB w' r ad len cap (m + 4 + cntL [3] L) ∧ Kept r w w' ∧ Ord5 w' ga ∧ Wr5 w' w.heap.size) ∧ (L 0 = true → u21 = .pointer (some ⟨ga, 0, none⟩)) ∧ (L 1 = true → ∃ z, u22 = .int .i64 z ∧ Small z) ∧ (L 2 = true → u23 = .pointer (some ⟨r, 0, none⟩)) ∧ (L 3 = true → ∃ x, u24 = .int .i64 x ∧ PickOut 4 x) ∧ (L 4 = true → ∃ z, u25 = .int .i64 z ∧ -200000 ≤ z ∧ z ≤ 200000) ∧ (L 5 = true → ∃ z, u26 = .int .i64 z ∧ -5 ≤ z ∧ z ≤ 5) ∧ (L 6 = true → ∃ z, u27 = .int .i64 z ∧ Small z) ∧ (L 7 = true → u28 = .pointer (some ⟨ga, 3, none⟩)) ∧ (L 8 = true → True)) ?h0 ?hstep ?hdone
      case h0 => exact ⟨undef, undef, undef, undef, undef, undef, undef, undef, rfl, ⟨by rw [cntL_none, Int.add_zero]; exact (R4.out.set (by omega) _).drew, (K4.out.setCell (.inl (by simp; omega)) _).drew, O4.out.set (j := 2) (by decide) (by unfold Small; omega), W4.out.set (by omega) _⟩, fun h => absurd h (by simp), fun h => absurd h (by simp), fun h => absurd h (by simp), fun h => absurd h (by simp), fun h => absurd h (by simp), fun h => absurd h (by simp), fun h => absurd h (by simp), fun h => absurd h (by simp), fun h => absurd h (by simp)⟩
      case hstep =>
        clear R4 K4 O4 W4 c0 c1 c2 c3 c4 z0 z1 z2 z3 z4 q0 q1 q2 q3 q4 y0 y1 y2 y3 y4 b0 b1 HF
        refine ⟨?_, ?_, ?_, ?_, ?_, ?_, ?_, ?_, ?_, trivial⟩
        · intro L a w' K' hd hL hI hK
          obtain ⟨u21, u22, u23, u24, u25, u26, u27, u28, rfl, ⟨hR, hKp, hO, hW⟩, h0, h1, h2, h3, h4, h5, h6, h7, h8⟩ := hI
          go_simp
          exact hK.out _ _ ⟨_, _, _, _, _, _, _, _, rfl, ⟨by rw [cntL_out (by decide)]; exact hR, hKp, hO, hW⟩, fun _ => rfl, keepL (by decide) h1, keepL (by decide) h2, keepL (by decide) h3, keepL (by decide) h4, keepL (by decide) h5, keepL (by decide) h6, keepL (by decide) h7, keepL (by decide) h8⟩
        · intro L a w' K' hd hL hI hK
          obtain ⟨u21, u22, u23, u24, u25, u26, u27, u28, rfl, ⟨hR, hKp, hO, hW⟩, h0, h1, h2, h3, h4, h5, h6, h7, h8⟩ := hI
          obtain rfl := h0 (hd ⟨0, .data⟩ (by simp) rfl)
          have hO' := hO
          obtain ⟨f, hf⟩ := hO'
          have c0 := (hf 0 (by decide)).2.1
          have s0 := (hf 0 (by decide)).1
          clear hf
          go_simp
          exact hK.out _ _ ⟨_, _, _, _, _, _, _, _, rfl, ⟨by rw [cntL_out (by decide)]; exact hR, hKp, hO, hW⟩, keepL (by decide) (fun _ => rfl), fun _ => ⟨f 0, rfl, s0⟩, keepL (by decide) h2, keepL (by decide) h3, keepL (by decide) h4, keepL (by decide) h5, keepL (by decide) h6, keepL (by decide) h7, keepL (by decide) h8⟩
        · intro L a w' K' hd hL hI hK
          obtain ⟨u21, u22, u23, u24, u25, u26, u27, u28, rfl, ⟨hR, hKp, hO, hW⟩, h0, h1, h2, h3, h4, h5, h6, h7, h8⟩ := hI
          go_simp
          exact hK.out _ _ ⟨_, _, _, _, _, _, _, _, rfl, ⟨by rw [cntL_out (by decide)]; exact hR, hKp, hO, hW⟩, keepL (by decide) h0, keepL (by decide) h1, fun _ => rfl, keepL (by decide) h3, keepL (by decide) h4, keepL (by decide) h5, keepL (by decide) h6, keepL (by decide) h7, keepL (by decide) h8⟩
        · intro L a w' K' hd hL hI hK
          obtain ⟨u21, u22, u23, u24, u25, u26, u27, u28, rfl, ⟨hR, hKp, hO, hW⟩, h0, h1, h2, h3, h4, h5, h6, h7, h8⟩ := hI
          obtain rfl := h2 (hd ⟨2, .data⟩ (by simp) rfl)
          go_simp
          go_wp2_with (go_at_call 18; refine (pick_B hR (by have := (cntL_bd L [3]).2; simp at this; omega)).mono ?_; rintro e w2 ⟨x, rfl, hx, hR2, K2⟩)
          exact hK.out _ _ ⟨_, _, _, _, _, _, _, _, rfl, ⟨by rw [cntL_in hL (by decide) (by decide), ← Int.add_assoc]; exact hR2, hKp.trans K2, hO.kept K2 hgr, hW.kept K2 (by omega)⟩, keepL (by decide) h0, keepL (by decide) h1, keepL (by decide) (fun _ => rfl), fun _ => ⟨x, rfl, hx⟩, keepL (by decide) h4, keepL (by decide) h5, keepL (by decide) h6, keepL (by decide) h7, keepL (by decide) h8⟩
        · intro L a w' K' hd hL hI hK
          obtain ⟨u21, u22, u23, u24, u25, u26, u27, u28, rfl, ⟨hR, hKp, hO, hW⟩, h0, h1, h2, h3, h4, h5, h6, h7, h8⟩ := hI
          obtain ⟨z, rfl, hs⟩ := h1 (hd ⟨1, .data⟩ (by simp) rfl)
          obtain ⟨x, rfl, hx⟩ := h3 (hd ⟨3, .data⟩ (by simp) rfl)
          have hx0 := hx.1
          have hx1 := hx.2.1 (by decide)
          obtain ⟨s1, s2⟩ := id hs
          have hwr : IntKind.i64.wrap (z + x) = z + x := by rw [IntKind.wrap_i64]; omega
          go_simp
          exact hK.out _ _ ⟨_, _, _, _, _, _, _, _, rfl, ⟨by rw [cntL_out (by decide)]; exact hR, hKp, hO, hW⟩, keepL (by decide) h0, keepL (by decide) (fun _ => ⟨z, rfl, hs⟩), keepL (by decide) h2, keepL (by decide) (fun _ => ⟨x, rfl, hx⟩), fun _ => ⟨z + x, rfl, by omega, by omega⟩, keepL (by decide) h5, keepL (by decide) h6, keepL (by decide) h7, keepL (by decide) h8⟩
        · intro L a w' K' hd hL hI hK
          obtain ⟨u21, u22, u23, u24, u25, u26, u27, u28, rfl, ⟨hR, hKp, hO, hW⟩, h0, h1, h2, h3, h4, h5, h6, h7, h8⟩ := hI
          obtain ⟨z, rfl, t1, t2⟩ := h4 (hd ⟨4, .data⟩ (by simp) rfl)
          have ht := tmod5 z
          have hwr : IntKind.i64.wrap (Int.tmod z 5) = Int.tmod z 5 := by rw [IntKind.wrap_i64]; omega
          go_simp
          exact hK.out _ _ ⟨_, _, _, _, _, _, _, _, rfl, ⟨by rw [cntL_out (by decide)]; exact hR, hKp, hO, hW⟩, keepL (by decide) h0, keepL (by decide) h1, keepL (by decide) h2, keepL (by decide) h3, keepL (by decide) (fun _ => ⟨z, rfl, t1, t2⟩), fun _ => ⟨_, rfl, ht.1, ht.2⟩, keepL (by decide) h6, keepL (by decide) h7, keepL (by decide) h8⟩
        · intro L a w' K' hd hL hI hK
          obtain ⟨u21, u22, u23, u24, u25, u26, u27, u28, rfl, ⟨hR, hKp, hO, hW⟩, h0, h1, h2, h3, h4, h5, h6, h7, h8⟩ := hI
          obtain ⟨z, rfl, t1, t2⟩ := h5 (hd ⟨5, .data⟩ (by simp) rfl)
          have hwr : IntKind.i64.wrap (1 + z) = 1 + z := by rw [IntKind.wrap_i64]; omega
          go_simp
          exact hK.out _ _ ⟨_, _, _, _, _, _, _, _, rfl, ⟨by rw [cntL_out (by decide)]; exact hR, hKp, hO, hW⟩, keepL (by decide) h0, keepL (by decide) h1, keepL (by decide) h2, keepL (by decide) h3, keepL (by decide) h4, keepL (by decide) (fun _ => ⟨z, rfl, t1, t2⟩), fun _ => ⟨1 + z, rfl, by unfold Small; omega⟩, keepL (by decide) h7, keepL (by decide) h8⟩
        · intro L a w' K' hd hL hI hK
          obtain ⟨u21, u22, u23, u24, u25, u26, u27, u28, rfl, ⟨hR, hKp, hO, hW⟩, h0, h1, h2, h3, h4, h5, h6, h7, h8⟩ := hI
          go_simp
          exact hK.out _ _ ⟨_, _, _, _, _, _, _, _, rfl, ⟨by rw [cntL_out (by decide)]; exact hR, hKp, hO, hW⟩, keepL (by decide) h0, keepL (by decide) h1, keepL (by decide) h2, keepL (by decide) h3, keepL (by decide) h4, keepL (by decide) h5, keepL (by decide) h6, fun _ => rfl, keepL (by decide) h8⟩
        · intro L a w' K' hd hL hI hK
          obtain ⟨u21, u22, u23, u24, u25, u26, u27, u28, rfl, ⟨hR, hKp, hO, hW⟩, h0, h1, h2, h3, h4, h5, h6, h7, h8⟩ := hI
          obtain ⟨z, rfl, hs⟩ := h6 (hd ⟨6, .data⟩ (by simp) rfl)
          obtain rfl := h7 (hd ⟨7, .data⟩ (by simp) rfl)
          have hO' := hO
          obtain ⟨f, hf⟩ := hO'
          have c3 := (hf 3 (by decide)).2.1
          have z3 := (hf 3 (by decide)).2.2
          clear hf
          go_simp
          exact hK.out _ _ ⟨_, _, _, _, _, _, _, _, rfl, ⟨by rw [cntL_out (by decide)]; exact hR.set (by omega) _, hKp.setCell (.inl (by simp; omega)) _, hO.set (j := 3) (by decide) hs, hW.set (by omega) _⟩, keepL (by decide) h0, keepL (by decide) h1, keepL (by decide) h2, keepL (by decide) h3, keepL (by decide) h4, keepL (by decide) h5, keepL (by decide) (fun _ => ⟨z, rfl, hs⟩), keepL (by decide) (fun _ => rfl), fun _ => trivial⟩
      case hdone =>
        clear R4 K4 O4 W4 c0 c1 c2 c3 c4 z0 z1 z2 z3 z4 q0 q1 q2 q3 q4 y0 y1 y2 y3 y4 b0 b1 HF
        intro L5 a5 w5 hL hI
        obtain ⟨u21, u22, u23, u24, u25, u26, u27, u28, rfl, ⟨hR, hKp, hO, hW⟩, h0, h1, h2, h3, h4, h5, h6, h7, h8⟩ := hI
        have hcb := (cntL_bd L5 [3]).2
        simp at hcb
        have R5 : Hid (RdB w5 r ad len cap (m + 5)) := hR.more (by omega)
        have K5 : Hid (Kept r w w5) := hKp
        have O5 : Hid (Ord5 w5 ga) := hO
        have W5 : Hid (Wr5 w5 w.heap.size) := hW
        clear hR hKp hO hW hcb hL h0 h1 h2 h3 h4 h5 h6 h7 h8
        obtain ⟨f, hf⟩ := O5.out
        have HF : Hid (∀ i, i < 5 → Small (f i)) := fun i hi => (hf i hi).1
        have c0 := (hf 0 (by decide)).2.1
        have z0 := (hf 0 (by decide)).2.2
        have c1 := (hf 1 (by decide)).2.1
        have z1 := (hf 1 (by decide)).2.2
        have c2 := (hf 2 (by decide)).2.1
        have z2 := (hf 2 (by decide)).2.2
        have c3 := (hf 3 (by decide)).2.1
        have z3 := (hf 3 (by decide)).2.2
        have c4 := (hf 4 (by decide)).2.1
        have z4 := (hf 4 (by decide)).2.2
        obtain ⟨v0, q0, y0⟩ := W5.out 0 (by decide)
        obtain ⟨v1, q1, y1⟩ := W5.out 1 (by decide)
        obtain ⟨v2, q2, y2⟩ := W5.out 2 (by decide)
        obtain ⟨v3, q3, y3⟩ := W5.out 3 (by decide)
        obtain ⟨v4, q4, y4⟩ := W5.out 4 (by decide)
        have b0 := HF.out 0 (by decide)
        have b1 := HF.out 3 (by decide)
        unfold Small at b0 b1
        clear hf
        by_cases he : f 3 = f 0
        · have he2 : (f 3 == f 0) = true := by simp [he]
          go_wp2_with fail
          clear c0 z0 q0 y0 c1 z1 q1 y1 c2 z2 q2 y2 c3 z3 q3 y3 c4 z4 q4 y4 b0 b1 HF he he2
          refine (pick_B (R5.out.set (by omega) _) (by omega)).mono ?_
          rintro e w6 ⟨x6, rfl, hx6, hR6, hK6⟩
          have R6 : Hid (RdB w6 r ad len cap (m + 6)) := hR6.more (by omega)
          have K6 : Hid (Kept r w w6) := (K5.out.setCell (.inl (by simp; omega)) _).trans hK6
          have O6 : Hid (Ord5 w6 ga) := (O5.out.set (j := 3) (by decide) (by unfold Small; omega)).kept hK6 hgr
          have W6 : Hid (Wr5 w6 w.heap.size) := (W5.out.set (by omega) _).kept hK6 (by omega)
          have x6l := hx6.1
          have x6h := hx6.2.1 (by decide)
          clear hR6 hK6 hx6
          obtain ⟨f, hf⟩ := O6.out
          have HF : Hid (∀ i, i < 5 → Small (f i)) := fun i hi => (hf i hi).1
          have c0 := (hf 0 (by decide)).2.1
          have z0 := (hf 0 (by decide)).2.2
          have c1 := (hf 1 (by decide)).2.1
          have z1 := (hf 1 (by decide)).2.2
          have c2 := (hf 2 (by decide)).2.1
          have z2 := (hf 2 (by decide)).2.2
          have c3 := (hf 3 (by decide)).2.1
          have z3 := (hf 3 (by decide)).2.2
          have c4 := (hf 4 (by decide)).2.1
          have z4 := (hf 4 (by decide)).2.2
          obtain ⟨v0, q0, y0⟩ := W6.out 0 (by decide)
          obtain ⟨v1, q1, y1⟩ := W6.out 1 (by decide)
          obtain ⟨v2, q2, y2⟩ := W6.out 2 (by decide)
          obtain ⟨v3, q3, y3⟩ := W6.out 3 (by decide)
          obtain ⟨v4, q4, y4⟩ := W6.out 4 (by decide)
          have b0 := HF.out 0 (by decide)
          have b1 := HF.out 3 (by decide)
          unfold Small at b0 b1
          clear hf
          go_wp2
          refine bodyPost_ret (v := .agg #[.int .i64 (f 0), .int .i64 (f 1), .int .i64 (f 2), .int .i64 (f 3), .int .i64 (1 + x6)]) (by simp [results, Tryz.results19, go_sem, q0, q1, q2, q3, q4]) rfl ?_
          refine ⟨f 0, f 1, f 2, f 3, 1 + x6, rfl, ⟨HF.out 0 (by decide), HF.out 1 (by decide), HF.out 2 (by decide), HF.out 3 (by decide), by unfold Small; omega⟩, RdB.more (m := m + 6) ?_ (by omega), ?_⟩
          · exact ((((((R6.out.set (by omega) _).set (by omega) _).set (by omega) _).set (by omega) _).set (by omega) _).set (by omega) _)
          · refine Kept.setCell ?_ (.inl (by simp)) _
            refine Kept.setCell ?_ (.inl (by simp)) _
            refine Kept.setCell ?_ (.inl (by simp)) _
            refine Kept.setCell ?_ (.inl (by simp)) _
            refine Kept.setCell ?_ (.inl (by simp)) _
            refine Kept.setCell ?_ (.inl (by simp; omega)) _
            exact K6.out
        · have he2 : (f 3 == f 0) = false := by simpa using he
          go_wp2_with fail
          clear c0 z0 q0 y0 c1 z1 q1 y1 c2 z2 q2 y2 c3 z3 q3 y3 c4 z4 q4 y4 b0 b1 HF he he2
          refine (pick_B R5.out (by omega)).mono ?_
          rintro e w6 ⟨x6, rfl, hx6, hR6, hK6⟩
          have R6 : Hid (RdB w6 r ad len cap (m + 6)) := hR6.more (by omega)
          have K6 : Hid (Kept r w w6) := K5.out.trans hK6
          have O6 : Hid (Ord5 w6 ga) := O5.out.kept hK6 hgr
          have W6 : Hid (Wr5 w6 w.heap.size) := W5.out.kept hK6 (by omega)
          have x6l := hx6.1
          have x6h := hx6.2.1 (by decide)
          clear hR6 hK6 hx6
          obtain ⟨f, hf⟩ := O6.out
          have HF : Hid (∀ i, i < 5 → Small (f i)) := fun i hi => (hf i hi).1
          have c0 := (hf 0 (by decide)).2.1
          have z0 := (hf 0 (by decide)).2.2
          have c1 := (hf 1 (by decide)).2.1
          have z1 := (hf 1 (by decide)).2.2
          have c2 := (hf 2 (by decide)).2.1
          have z2 := (hf 2 (by decide)).2.2
          have c3 := (hf 3 (by decide)).2.1
          have z3 := (hf 3 (by decide)).2.2
          have c4 := (hf 4 (by decide)).2.1
          have z4 := (hf 4 (by decide)).2.2
          obtain ⟨v0, q0, y0⟩ := W6.out 0 (by decide)
          obtain ⟨v1, q1, y1⟩ := W6.out 1 (by decide)
          obtain ⟨v2, q2, y2⟩ := W6.out 2 (by decide)
          obtain ⟨v3, q3, y3⟩ := W6.out 3 (by decide)
          obtain ⟨v4, q4, y4⟩ := W6.out 4 (by decide)
          have b0 := HF.out 0 (by decide)
          have b1 := HF.out 3 (by decide)
          unfold Small at b0 b1
          clear hf
          go_wp2
          refine bodyPost_ret (v := .agg #[.int .i64 (f 0), .int .i64 (f 1), .int .i64 (f 2), .int .i64 (f 3), .int .i64 (1 + x6)]) (by simp [results, Tryz.results19, go_sem, q0, q1, q2, q3, q4]) rfl ?_
          refine ⟨f 0, f 1, f 2, f 3, 1 + x6, rfl, ⟨HF.out 0 (by decide), HF.out 1 (by decide), HF.out 2 (by decide), HF.out 3 (by decide), by unfold Small; omega⟩, RdB.more (m := m + 6) ?_ (by omega), ?_⟩
          · exact ((((((R6.out.set (by omega) _).set (by omega) _).set (by omega) _).set (by omega) _).set (by omega) _).set (by omega) _)
          · refine Kept.setCell ?_ (.inl (by simp)) _
            refine Kept.setCell ?_ (.inl (by simp)) _
            refine Kept.setCell ?_ (.inl (by simp)) _
            refine Kept.setCell ?_ (.inl (by simp)) _
            refine Kept.setCell ?_ (.inl (by simp)) _
            refine Kept.setCell ?_ (.inl (by simp; omega)) _
            exact K6.out
    · obtain ⟨f, hf⟩ := O4.out
      have HF : Hid (∀ i, i < 5 → Small (f i)) := fun i hi => (hf i hi).1
      have c0 := (hf 0 (by decide)).2.1
      have z0 := (hf 0 (by decide)).2.2
      have c1 := (hf 1 (by decide)).2.1
      have z1 := (hf 1 (by decide)).2.2
      have c2 := (hf 2 (by decide)).2.1
      have z2 := (hf 2 (by decide)).2.2
      have c3 := (hf 3 (by decide)).2.1
      have z3 := (hf 3 (by decide)).2.2
      have c4 := (hf 4 (by decide)).2.1
      have z4 := (hf 4 (by decide)).2.2
      obtain ⟨v0, q0, y0⟩ := W4.out 0 (by decide)
      obtain ⟨v1, q1, y1⟩ := W4.out 1 (by decide)
      obtain ⟨v2, q2, y2⟩ := W4.out 2 (by decide)
      obtain ⟨v3, q3, y3⟩ := W4.out 3 (by decide)
      obtain ⟨v4, q4, y4⟩ := W4.out 4 (by decide)
      have b0 := HF.out 0 (by decide)
      have b1 := HF.out 3 (by decide)
      unfold Small at b0 b1
      clear hf
      go_upto_region 6 with fail
      refine wp_region_inv (by kernel_rfl) (by kernel_rfl) (fun L a w' => ∃ u21 u22 u23 u24 u25 u26 u27 u28 : Value, a = ⟨#[.pointer (some ⟨r, 0, none⟩), undef, .pointer (some ⟨w.heap.size, 0, none⟩), .pointer (some ⟨ga, 0, none⟩), u4, u5, u6, u7, u8, u9, u10, u11, u12, u13, u14, .pointer (some ⟨r, 0, none⟩), .int .i64 1, .bool true, .bool false, .bool true, .pointer (some ⟨ga, 2, none⟩), u21, u22, u23, u24, u25, u26, u27, u28, undef, undef, undef, undef, undef, undef, undef, undef, undef, undef, undef, undef, undef, undef, undef, undef, undef, undef, undef, undef, undef, undef, undef, undef, undef, undef, undef, undef, undef, undef, undef, undef, undef, undef, undef, undef, undef, undef, undef, undef, undef, undef, undef, undef, undef, undef, undef], []⟩ ∧ (RdB w' r ad len cap (m + 4 + cntL [3] L) ∧ Kept r w w' ∧ Ord5 w' ga ∧ Wr5 w' w.heap.size) ∧ (L 0 = true → u21 = .pointer (some ⟨ga, 0, none⟩)) ∧ (L 1 = true → ∃ z, u22 = .int .i64 z ∧ Small z) ∧ (L 2 = true → u23 = .pointer (some ⟨r, 0, none⟩)) ∧ (L 3 = true → ∃ x, u24 = .int .i64 x ∧ PickOut 4 x) ∧ (L 4 = true → ∃ z, u25 = .int .i64 z ∧ -200000 ≤ z ∧ z ≤ 200000) ∧ (L 5 = true → ∃ z, u26 = .int .i64 z ∧ -5 ≤ z ∧ z ≤ 5) ∧ (L 6 = true → ∃ z, u27 = .int .i64 z ∧ Small z) ∧ (L 7 = true → u28 = .pointer (some ⟨ga, 3, none⟩)) ∧ (L 8 = true → True)) ?h0 ?hstep ?hdone
      case h0 => exact ⟨undef, undef, undef, undef, undef, undef, undef, undef, rfl, ⟨by rw [cntL_none, Int.add_zero]; exact (R4.out.set (by omega) _).drew, (K4.out.setCell (.inl (by simp; omega)) _).drew, O4.out.set (j := 2) (by decide) (by unfold Small; omega), W4.out.set (by omega) _⟩, fun h => absurd h (by simp), fun h => absurd h (by simp), fun h => absurd h (by simp), fun h => absurd h (by simp), fun h => absurd h (by simp), fun h => absurd h (by simp), fun h => absurd h (by simp), fun h => absurd h (by simp), fun h => absurd h (by simp)⟩
      case hstep =>
        clear R4 K4 O4 W4 c0 c1 c2 c3 c4 z0 z1 z2 z3 z4 q0 q1 q2 q3 q4 y0 y1 y2 y3 y4 b0 b1 HF
        refine ⟨?_, ?_, ?_, ?_, ?_, ?_, ?_, ?_, ?_, trivial⟩
        · intro L a w' K' hd hL hI hK
          obtain ⟨u21, u22, u23, u24, u25, u26, u27, u28, rfl, ⟨hR, hKp, hO, hW⟩, h0, h1, h2, h3, h4, h5, h6, h7, h8⟩ := hI
          go_simp
          exact hK.out _ _ ⟨_, _, _, _, _, _, _, _, rfl, ⟨by rw [cntL_out (by decide)]; exact hR, hKp, hO, hW⟩, fun _ => rfl, keepL (by decide) h1, keepL (by decide) h2, keepL (by decide) h3, keepL (by decide) h4, keepL (by decide) h5, keepL (by decide) h6, keepL (by decide) h7, keepL (by decide) h8⟩
        · intro L a w' K' hd hL hI hK
          obtain ⟨u21, u22, u23, u24, u25, u26, u27, u28, rfl, ⟨hR, hKp, hO, hW⟩, h0, h1, h2, h3, h4, h5, h6, h7, h8⟩ := hI
          obtain rfl := h0 (hd ⟨0, .data⟩ (by simp) rfl)
          have hO' := hO
          obtain ⟨f, hf⟩ := hO'
          have c0 := (hf 0 (by decide)).2.1
          have s0 := (hf 0 (by decide)).1
          clear hf
          go_simp
          exact hK.out _ _ ⟨_, _, _, _, _, _, _, _, rfl, ⟨by rw [cntL_out (by decide)]; exact hR, hKp, hO, hW⟩, keepL (by decide) (fun _ => rfl), fun _ => ⟨f 0, rfl, s0⟩, keepL (by decide) h2, keepL (by decide) h3, keepL (by decide) h4, keepL (by decide) h5, keepL (by decide) h6, keepL (by decide) h7, keepL (by decide) h8⟩
        · intro L a w' K' hd hL hI hK
          obtain ⟨u21, u22, u23, u24, u25, u26, u27, u28, rfl, ⟨hR, hKp, hO, hW⟩, h0, h1, h2, h3, h4, h5, h6, h7, h8⟩ := hI
          go_simp
          exact hK.out _ _ ⟨_, _, _, _, _, _, _, _, rfl, ⟨by rw [cntL_out (by decide)]; exact hR, hKp, hO, hW⟩, keepL (by decide) h0, keepL (by decide) h1, fun _ => rfl, keepL (by decide) h3, keepL (by decide) h4, keepL (by decide) h5, keepL (by decide) h6, keepL (by decide) h7, keepL (by decide) h8⟩
        · intro L a w' K' hd hL hI hK
          obtain ⟨u21, u22, u23, u24, u25, u26, u27, u28, rfl, ⟨hR, hKp, hO, hW⟩, h0, h1, h2, h3, h4, h5, h6, h7, h8⟩ := hI
          obtain rfl := h2 (hd ⟨2, .data⟩ (by simp) rfl)
          go_simp
          go_wp2_with (go_at_call 18; refine (pick_B hR (by have := (cntL_bd L [3]).2; simp at this; omega)).mono ?_; rintro e w2 ⟨x, rfl, hx, hR2, K2⟩)
          exact hK.out _ _ ⟨_, _, _, _, _, _, _, _, rfl, ⟨by rw [cntL_in hL (by decide) (by decide), ← Int.add_assoc]; exact hR2, hKp.trans K2, hO.kept K2 hgr, hW.kept K2 (by omega)⟩, keepL (by decide) h0, keepL (by decide) h1, keepL (by decide) (fun _ => rfl), fun _ => ⟨x, rfl, hx⟩, keepL (by decide) h4, keepL (by decide) h5, keepL (by decide) h6, keepL (by decide) h7, keepL (by decide) h8⟩
        · intro L a w' K' hd hL hI hK
          obtain ⟨u21, u22, u23, u24, u25, u26, u27, u28, rfl, ⟨hR, hKp, hO, hW⟩, h0, h1, h2, h3, h4, h5, h6, h7, h8⟩ := hI
          obtain ⟨z, rfl, hs⟩ := h1 (hd ⟨1, .data⟩ (by simp) rfl)
          obtain ⟨x, rfl, hx⟩ := h3 (hd ⟨3, .data⟩ (by simp) rfl)
          have hx0 := hx.1
          have hx1 := hx.2.1 (by decide)
          obtain ⟨s1, s2⟩ := id hs
          have hwr : IntKind.i64.wrap (z + x) = z + x := by rw [IntKind.wrap_i64]; omega
          go_simp
          exact hK.out _ _ ⟨_, _, _, _, _, _, _, _, rfl, ⟨by rw [cntL_out (by decide)]; exact hR, hKp, hO, hW⟩, keepL (by decide) h0, keepL (by decide) (fun _ => ⟨z, rfl, hs⟩), keepL (by decide) h2, keepL (by decide) (fun _ => ⟨x, rfl, hx⟩), fun _ => ⟨z + x, rfl, by omega, by omega⟩, keepL (by decide) h5, keepL (by decide) h6, keepL (by decide) h7, keepL (by decide) h8⟩
        · intro L a w' K' hd hL hI hK
          obtain ⟨u21, u22, u23, u24, u25, u26, u27, u28, rfl, ⟨hR, hKp, hO, hW⟩, h0, h1, h2, h3, h4, h5, h6, h7, h8⟩ := hI
          obtain ⟨z, rfl, t1, t2⟩ := h4 (hd ⟨4, .data⟩ (by simp) rfl)
          have ht := tmod5 z
          have hwr : IntKind.i64.wrap (Int.tmod z 5) = Int.tmod z 5 := by rw [IntKind.wrap_i64]; omega
          go_simp
          exact hK.out _ _ ⟨_, _, _, _, _, _, _, _, rfl, ⟨by rw [cntL_out (by decide)]; exact hR, hKp, hO, hW⟩, keepL (by decide) h0, keepL (by decide) h1, keepL (by decide) h2, keepL (by decide) h3, keepL (by decide) (fun _ => ⟨z, rfl, t1, t2⟩), fun _ => ⟨_, rfl, ht.1, ht.2⟩, keepL (by decide) h6, keepL (by decide) h7, keepL (by decide) h8⟩
        · intro L a w' K' hd hL hI hK
          obtain ⟨u21, u22, u23, u24, u25, u26, u27, u28, rfl, ⟨hR, hKp, hO, hW⟩, h0, h1, h2, h3, h4, h5, h6, h7, h8⟩ := hI
          obtain ⟨z, rfl, t1, t2⟩ := h5 (hd ⟨5, .data⟩ (by simp) rfl)
          have hwr : IntKind.i64.wrap (1 + z) = 1 + z := by rw [IntKind.wrap_i64]; omega
          go_simp
          exact hK.out _ _ ⟨_, _, _, _, _, _, _, _, rfl, ⟨by rw [cntL_out (by decide)]; exact hR, hKp, hO, hW⟩, keepL (by decide) h0, keepL (by decide) h1, keepL (by decide) h2, keepL (by decide) h3, keepL (by decide) h4, keepL (by decide) (fun _ => ⟨z, rfl, t1, t2⟩), fun _ => ⟨1 + z, rfl, by unfold Small; omega⟩, keepL (by decide) h7, keepL (by decide) h8⟩
        · intro L a w' K' hd hL hI hK
          obtain ⟨u21, u22, u23, u24, u25, u26, u27, u28, rfl, ⟨hR, hKp, hO, hW⟩, h0, h1, h2, h3, h4, h5, h6, h7, h8⟩ := hI
          go_simp
          exact hK.out _ _ ⟨_, _, _, _, _, _, _, _, rfl, ⟨by rw [cntL_out (by decide)]; exact hR, hKp, hO, hW⟩, keepL (by decide) h0, keepL (by decide) h1, keepL (by decide) h2, keepL (by decide) h3, keepL (by decide) h4, keepL (by decide) h5, keepL (by decide) h6, fun _ => rfl, keepL (by decide) h8⟩
        · intro L a w' K' hd hL hI hK
          obtain ⟨u21, u22, u23, u24, u25, u26, u27, u28, rfl, ⟨hR, hKp, hO, hW⟩, h0, h1, h2, h3, h4, h5, h6, h7, h8⟩ := hI
          obtain ⟨z, rfl, hs⟩ := h6 (hd ⟨6, .data⟩ (by simp) rfl)
          obtain rfl := h7 (hd ⟨7, .data⟩ (by simp) rfl)
          have hO' := hO
          obtain ⟨f, hf⟩ := hO'
          have c3 := (hf 3 (by decide)).2.1
          have z3 := (hf 3 (by decide)).2.2
          clear hf
          go_simp
          exact hK.out _ _ ⟨_, _, _, _, _, _, _, _, rfl, ⟨by rw [cntL_out (by decide)]; exact hR.set (by omega) _, hKp.setCell (.inl (by simp; omega)) _, hO.set (j := 3) (by decide) hs, hW.set (by omega) _⟩, keepL (by decide) h0, keepL (by decide) h1, keepL (by decide) h2, keepL (by decide) h3, keepL (by decide) h4, keepL (by decide) h5, keepL (by decide) (fun _ => ⟨z, rfl, hs⟩), keepL (by decide) (fun _ => rfl), fun _ => trivial⟩
      case hdone =>
        clear R4 K4 O4 W4 c0 c1 c2 c3 c4 z0 z1 z2 z3 z4 q0 q1 q2 q3 q4 y0 y1 y2 y3 y4 b0 b1 HF
        intro L5 a5 w5 hL hI
        obtain ⟨u21, u22, u23, u24, u25, u26, u27, u28, rfl, ⟨hR, hKp, hO, hW⟩, h0, h1, h2, h3, h4, h5, h6, h7, h8⟩ := hI
        have hcb := (cntL_bd L5 [3]).2
        simp at hcb
        have R5 : Hid (RdB w5 r ad len cap (m + 5)) := hR.more (by omega)
        have K5 : Hid (Kept r w w5) := hKp
        have O5 : Hid (Ord5 w5 ga) := hO
        have W5 : Hid (Wr5 w5 w.heap.size) := hW
        clear hR hKp hO hW hcb hL h0 h1 h2 h3 h4 h5 h6 h7 h8
        obtain ⟨f, hf⟩ := O5.out
        have HF : Hid (∀ i, i < 5 → Small (f i)) := fun i hi => (hf i hi).1
        have c0 := (hf 0 (by decide)).2.1
        have z0 := (hf 0 (by decide)).2.2
        have c1 := (hf 1 (by decide)).2.1
        have z1 := (hf 1 (by decide)).2.2
        have c2 := (hf 2 (by decide)).2.1
        have z2 := (hf 2 (by decide)).2.2
        have c3 := (hf 3 (by decide)).2.1
        have z3 := (hf 3 (by decide)).2.2
        have c4 := (hf 4 (by decide)).2.1
        have z4 := (hf 4 (by decide)).2.2
        obtain ⟨v0, q0, y0⟩ := W5.out 0 (by decide)
        obtain ⟨v1, q1, y1⟩ := W5.out 1 (by decide)
        obtain ⟨v2, q2, y2⟩ := W5.out 2 (by decide)
        obtain ⟨v3, q3, y3⟩ := W5.out 3 (by decide)
        obtain ⟨v4, q4, y4⟩ := W5.out 4 (by decide)
        have b0 := HF.out 0 (by decide)
        have b1 := HF.out 3 (by decide)
        unfold Small at b0 b1
        clear hf
        by_cases he : f 3 = f 0
        · have he2 : (f 3 == f 0) = true := by simp [he]
          go_wp2_with fail
          clear c0 z0 q0 y0 c1 z1 q1 y1 c2 z2 q2 y2 c3 z3 q3 y3 c4 z4 q4 y4 b0 b1 HF he he2
          refine (pick_B (R5.out.set (by omega) _) (by omega)).mono ?_
          rintro e w6 ⟨x6, rfl, hx6, hR6, hK6⟩
          have R6 : Hid (RdB w6 r ad len cap (m + 6)) := hR6.more (by omega)
          have K6 : Hid (Kept r w w6) := (K5.out.setCell (.inl (by simp; omega)) _).trans hK6
          have O6 : Hid (Ord5 w6 ga) := (O5.out.set (j := 3) (by decide) (by unfold Small; omega)).kept hK6 hgr
          have W6 : Hid (Wr5 w6 w.heap.size) := (W5.out.set (by omega) _).kept hK6 (by omega)
          have x6l := hx6.1
          have x6h := hx6.2.1 (by decide)
          clear hR6 hK6 hx6
          obtain ⟨f, hf⟩ := O6.out
          have HF : Hid (∀ i, i < 5 → Small (f i)) := fun i hi => (hf i hi).1
          have c0 := (hf 0 (by decide)).2.1
          have z0 := (hf 0 (by decide)).2.2
          have c1 := (hf 1 (by decide)).2.1
          have z1 := (hf 1 (by decide)).2.2
          have c2 := (hf 2 (by decide)).2.1
          have z2 := (hf 2 (by decide)).2.2
          have c3 := (hf 3 (by decide)).2.1
          have z3 := (hf 3 (by decide)).2.2
          have c4 := (hf 4 (by decide)).2.1
          have z4 := (hf 4 (by decide)).2.2
          obtain ⟨v0, q0, y0⟩ := W6.out 0 (by decide)
          obtain ⟨v1, q1, y1⟩ := W6.out 1 (by decide)
          obtain ⟨v2, q2, y2⟩ := W6.out 2 (by decide)
          obtain ⟨v3, q3, y3⟩ := W6.out 3 (by decide)
          obtain ⟨v4, q4, y4⟩ := W6.out 4 (by decide)
          have b0 := HF.out 0 (by decide)
          have b1 := HF.out 3 (by decide)
          unfold Small at b0 b1
          clear hf
          go_wp2
          refine bodyPost_ret (v := .agg #[.int .i64 (f 0), .int .i64 (f 1), .int .i64 (f 2), .int .i64 (f 3), .int .i64 (1 + x6)]) (by simp [results, Tryz.results19, go_sem, q0, q1, q2, q3, q4]) rfl ?_
          refine ⟨f 0, f 1, f 2, f 3, 1 + x6, rfl, ⟨HF.out 0 (by decide), HF.out 1 (by decide), HF.out 2 (by decide), HF.out 3 (by decide), by unfold Small; omega⟩, RdB.more (m := m + 6) ?_ (by omega), ?_⟩
          · exact ((((((R6.out.set (by omega) _).set (by omega) _).set (by omega) _).set (by omega) _).set (by omega) _).set (by omega) _)
          · refine Kept.setCell ?_ (.inl (by simp)) _
            refine Kept.setCell ?_ (.inl (by simp)) _
            refine Kept.setCell ?_ (.inl (by simp)) _
            refine Kept.setCell ?_ (.inl (by simp)) _
            refine Kept.setCell ?_ (.inl (by simp)) _
            refine Kept.setCell ?_ (.inl (by simp; omega)) _
            exact K6.out
        · have he2 : (f 3 == f 0) = false := by simpa using he
          go_wp2_with fail
          clear c0 z0 q0 y0 c1 z1 q1 y1 c2 z2 q2 y2 c3 z3 q3 y3 c4 z4 q4 y4 b0 b1 HF he he2
          refine (pick_B R5.out (by omega)).mono ?_
          rintro e w6 ⟨x6, rfl, hx6, hR6, hK6⟩
          have R6 : Hid (RdB w6 r ad len cap (m + 6)) := hR6.more (by omega)
          have K6 : Hid (Kept r w w6) := K5.out.trans hK6
          have O6 : Hid (Ord5 w6 ga) := O5.out.kept hK6 hgr
          have W6 : Hid (Wr5 w6 w.heap.size) := W5.out.kept hK6 (by omega)
          have x6l := hx6.1
          have x6h := hx6.2.1 (by decide)
          clear hR6 hK6 hx6
          obtain ⟨f, hf⟩ := O6.out
          have HF : Hid (∀ i, i < 5 → Small (f i)) := fun i hi => (hf i hi).1
          have c0 := (hf 0 (by decide)).2.1
          have z0 := (hf 0 (by decide)).2.2
          have c1 := (hf 1 (by decide)).2.1
          have z1 := (hf 1 (by decide)).2.2
          have c2 := (hf 2 (by decide)).2.1
          have z2 := (hf 2 (by decide)).2.2
          have c3 := (hf 3 (by decide)).2.1
          have z3 := (hf 3 (by decide)).2.2
          have c4 := (hf 4 (by decide)).2.1
          have z4 := (hf 4 (by decide)).2.2
          obtain ⟨v0, q0, y0⟩ := W6.out 0 (by decide)
          obtain ⟨v1, q1, y1⟩ := W6.out 1 (by decide)
          obtain ⟨v2, q2, y2⟩ := W6.out 2 (by decide)
          obtain ⟨v3, q3, y3⟩ := W6.out 3 (by decide)
          obtain ⟨v4, q4, y4⟩ := W6.out 4 (by decide)
          have b0 := HF.out 0 (by decide)
          have b1 := HF.out 3 (by decide)
          unfold Small at b0 b1
          clear hf
          go_wp2
          refine bodyPost_ret (v := .agg #[.int .i64 (f 0), .int .i64 (f 1), .int .i64 (f 2), .int .i64 (f 3), .int .i64 (1 + x6)]) (by simp [results, Tryz.results19, go_sem, q0, q1, q2, q3, q4]) rfl ?_
          refine ⟨f 0, f 1, f 2, f 3, 1 + x6, rfl, ⟨HF.out 0 (by decide), HF.out 1 (by decide), HF.out 2 (by decide), HF.out 3 (by decide), by unfold Small; omega⟩, RdB.more (m := m + 6) ?_ (by omega), ?_⟩
          · exact ((((((R6.out.set (by omega) _).set (by omega) _).set (by omega) _).set (by omega) _).set (by omega) _).set (by omega) _)
          · refine Kept.setCell ?_ (.inl (by simp)) _
            refine Kept.setCell ?_ (.inl (by simp)) _
            refine Kept.setCell ?_ (.inl (by simp)) _
            refine Kept.setCell ?_ (.inl (by simp)) _
            refine Kept.setCell ?_ (.inl (by simp)) _
            refine Kept.setCell ?_ (.inl (by simp; omega)) _
            exact K6.out
    · obtain ⟨f, hf⟩ := O4.out
      have HF : Hid (∀ i, i < 5 → Small (f i)) := fun i hi => (hf i hi).1
      have c0 := (hf 0 (by decide)).2.1
      have z0 := (hf 0 (by decide)).2.2
      have c1 := (hf 1 (by decide)).2.1
      have z1 := (hf 1 (by decide)).2.2
      have c2 := (hf 2 (by decide)).2.1
      have z2 := (hf 2 (by decide)).2.2
      have c3 := (hf 3 (by decide)).2.1
      have z3 := (hf 3 (by decide)).2.2
      have c4 := (hf 4 (by decide)).2.1
      have z4 := (hf 4 (by decide)).2.2
      obtain ⟨v0, q0, y0⟩ := W4.out 0 (by decide)
      obtain ⟨v1, q1, y1⟩ := W4.out 1 (by decide)
      obtain ⟨v2, q2, y2⟩ := W4.out 2 (by decide)
      obtain ⟨v3, q3, y3⟩ := W4.out 3 (by decide)
      obtain ⟨v4, q4, y4⟩ := W4.out 4 (by decide)
      have b0 := HF.out 0 (by decide)
      have b1 := HF.out 3 (by decide)
      unfold Small at b0 b1
      clear hf
      go_wp2_with fail
      clear c0 z0 q0 y0 c1 z1 q1 y1 c2 z2 q2 y2 c3 z3 q3 y3 c4 z4 q4 y4 b0 b1 HF
      refine (pick_B ((R4.out.set (by omega) _).set (by omega) _) (by omega)).mono ?_
      rintro e w5 ⟨x5, rfl, hx5, hR5, hK5⟩
      have R5 : Hid (RdB w5 r ad len cap (m + 5)) := hR5.more (by omega)
      have K5 : Hid (Kept r w w5) := ((K4.out.setCell (.inl (by simp; omega)) _).setCell (.inl (by simp; omega)) _).trans hK5
      have O5 : Hid (Ord5 w5 ga) := ((O4.out.set (j := 2) (by decide) (by unfold Small; omega)).set (j := 3) (by decide) (by unfold Small; omega)).kept hK5 hgr
      have W5 : Hid (Wr5 w5 w.heap.size) := ((W4.out.set (by omega) _).set (by omega) _).kept hK5 (by omega)
      have x5l := hx5.1
      have x5h := hx5.2.1 (by decide)
      clear hR5 hK5 hx5
      obtain ⟨f, hf⟩ := O5.out
      have HF : Hid (∀ i, i < 5 → Small (f i)) := fun i hi => (hf i hi).1
      have c0 := (hf 0 (by decide)).2.1
      have z0 := (hf 0 (by decide)).2.2
      have c1 := (hf 1 (by decide)).2.1
      have z1 := (hf 1 (by decide)).2.2
      have c2 := (hf 2 (by decide)).2.1
      have z2 := (hf 2 (by decide)).2.2
      have c3 := (hf 3 (by decide)).2.1
      have z3 := (hf 3 (by decide)).2.2
      have c4 := (hf 4 (by decide)).2.1
      have z4 := (hf 4 (by decide)).2.2
      obtain ⟨v0, q0, y0⟩ := W5.out 0 (by decide)
      obtain ⟨v1, q1, y1⟩ := W5.out 1 (by decide)
      obtain ⟨v2, q2, y2⟩ := W5.out 2 (by decide)
      obtain ⟨v3, q3, y3⟩ := W5.out 3 (by decide)
      obtain ⟨v4, q4, y4⟩ := W5.out 4 (by decide)
      have b0 := HF.out 0 (by decide)
      have b1 := HF.out 3 (by decide)
      unfold Small at b0 b1
      clear hf
      go_wp2
      refine bodyPost_ret (v := .agg #[.int .i64 (f 0), .int .i64 (f 1), .int .i64 (f 2), .int .i64 (f 3), .int .i64 (1 + x5)]) (by simp [results, Tryz.results19, go_sem, q0, q1, q2, q3, q4]) rfl ?_
      refine ⟨f 0, f 1, f 2, f 3, 1 + x5, rfl, ⟨HF.out 0 (by decide), HF.out 1 (by decide), HF.out 2 (by decide), HF.out 3 (by decide), by unfold Small; omega⟩, RdB.more (m := m + 5) ?_ (by omega), ?_⟩
      · exact ((((((R5.out.set (by omega) _).set (by omega) _).set (by omega) _).set (by omega) _).set (by omega) _).set (by omega) _)
      · refine Kept.setCell ?_ (.inl (by simp)) _
        refine Kept.setCell ?_ (.inl (by simp)) _
        refine Kept.setCell ?_ (.inl (by simp)) _
        refine Kept.setCell ?_ (.inl (by simp)) _
        refine Kept.setCell ?_ (.inl (by simp)) _
        refine Kept.setCell ?_ (.inl (by simp; omega)) _
        exact K5.out
    · obtain ⟨f, hf⟩ := O4.out
      have HF : Hid (∀ i, i < 5 → Small (f i)) := fun i hi => (hf i hi).1
      have c0 := (hf 0 (by decide)).2.1
      have z0 := (hf 0 (by decide)).2.2
      have c1 := (hf 1 (by decide)).2.1
      have z1 := (hf 1 (by decide)).2.2
      have c2 := (hf 2 (by decide)).2.1
      have z2 := (hf 2 (by decide)).2.2
      have c3 := (hf 3 (by decide)).2.1
      have z3 := (hf 3 (by decide)).2.2
      have c4 := (hf 4 (by decide)).2.1
      have z4 := (hf 4 (by decide)).2.2
      obtain ⟨v0, q0, y0⟩ := W4.out 0 (by decide)
      obtain ⟨v1, q1, y1⟩ := W4.out 1 (by decide)
      obtain ⟨v2, q2, y2⟩ := W4.out 2 (by decide)
      obtain ⟨v3, q3, y3⟩ := W4.out 3 (by decide)
      obtain ⟨v4, q4, y4⟩ := W4.out 4 (by decide)
      have b0 := HF.out 0 (by decide)
      have b1 := HF.out 3 (by decide)
      unfold Small at b0 b1
      clear hf
      go_wp2_with fail
      clear c0 z0 q0 y0 c1 z1 q1 y1 c2 z2 q2 y2 c3 z3 q3 y3 c4 z4 q4 y4 b0 b1 HF
      refine (pick_B ((R4.out.set (by omega) _).set (by omega) _) (by omega)).mono ?_
      rintro e w5 ⟨x5, rfl, hx5, hR5, hK5⟩
      have R5 : Hid (RdB w5 r ad len cap (m + 5)) := hR5.more (by omega)
      have K5 : Hid (Kept r w w5) := ((K4.out.setCell (.inl (by simp; omega)) _).setCell (.inl (by simp; omega)) _).trans hK5
      have O5 : Hid (Ord5 w5 ga) := ((O4.out.set (j := 2) (by decide) (by unfold Small; omega)).set (j := 3) (by decide) (by unfold Small; omega)).kept hK5 hgr
      have W5 : Hid (Wr5 w5 w.heap.size) := ((W4.out.set (by omega) _).set (by omega) _).kept hK5 (by omega)
      have x5l := hx5.1
      have x5h := hx5.2.1 (by decide)
      clear hR5 hK5 hx5
      obtain ⟨f, hf⟩ := O5.out
      have HF : Hid (∀ i, i < 5 → Small (f i)) := fun i hi => (hf i hi).1
      have c0 := (hf 0 (by decide)).2.1
      have z0 := (hf 0 (by decide)).2.2
      have c1 := (hf 1 (by decide)).2.1
      have z1 := (hf 1 (by decide)).2.2
      have c2 := (hf 2 (by decide)).2.1
      have z2 := (hf 2 (by decide)).2.2
      have c3 := (hf 3 (by decide)).2.1
      have z3 := (hf 3 (by decide)).2.2
      have c4 := (hf 4 (by decide)).2.1
      have z4 := (hf 4 (by decide)).2.2
      obtain ⟨v0, q0, y0⟩ := W5.out 0 (by decide)
      obtain ⟨v1, q1, y1⟩ := W5.out 1 (by decide)
      obtain ⟨v2, q2, y2⟩ := W5.out 2 (by decide)
      obtain ⟨v3, q3, y3⟩ := W5.out 3 (by decide)
      obtain ⟨v4, q4, y4⟩ := W5.out 4 (by decide)
      have b0 := HF.out 0 (by decide)
      have b1 := HF.out 3 (by decide)
      unfold Small at b0 b1
      clear hf
      go_wp2
      refine bodyPost_ret (v := .agg #[.int .i64 (f 0), .int .i64 (f 1), .int .i64 (f 2), .int .i64 (f 3), .int .i64 (1 + x5)]) (by simp [results, Tryz.results19, go_sem, q0, q1, q2, q3, q4]) rfl ?_
      refine ⟨f 0, f 1, f 2, f 3, 1 + x5, rfl, ⟨HF.out 0 (by decide), HF.out 1 (by decide), HF.out 2 (by decide), HF.out 3 (by decide), by unfold Small; omega⟩, RdB.more (m := m + 5) ?_ (by omega), ?_⟩
      · exact ((((((R5.out.set (by omega) _).set (by omega) _).set (by omega) _).set (by omega) _).set (by omega) _).set (by omega) _)
      · refine Kept.setCell ?_ (.inl (by simp)) _
        refine Kept.setCell ?_ (.inl (by simp)) _
        refine Kept.setCell ?_ (.inl (by simp)) _
        refine Kept.setCell ?_ (.inl (by simp)) _
        refine Kept.setCell ?_ (.inl (by simp)) _
        refine Kept.setCell ?_ (.inl (by simp; omega)) _
        exact K5.out
    · obtain ⟨f, hf⟩ := O4.out
      have HF : Hid (∀ i, i < 5 → Small (f i)) := fun i hi => (hf i hi).1
      have c0 := (hf 0 (by decide)).2.1
      have z0 := (hf 0 (by decide)).2.2
      have c1 := (hf 1 (by decide)).2.1
      have z1 := (hf 1 (by decide)).2.2
      have c2 := (hf 2 (by decide)).2.1
      have z2 := (hf 2 (by decide)).2.2
      have c3 := (hf 3 (by decide)).2.1
      have z3 := (hf 3 (by decide)).2.2
      have c4 := (hf 4 (by decide)).2.1
      have z4 := (hf 4 (by decide)).2.2
      obtain ⟨v0, q0, y0⟩ := W4.out 0 (by decide)
      obtain ⟨v1, q1, y1⟩ := W4.out 1 (by decide)
      obtain ⟨v2, q2, y2⟩ := W4.out 2 (by decide)
      obtain ⟨v3, q3, y3⟩ := W4.out 3 (by decide)
      obtain ⟨v4, q4, y4⟩ := W4.out 4 (by decide)
      have b0 := HF.out 0 (by decide)
      have b1 := HF.out 3 (by decide)
      unfold Small at b0 b1
      clear hf
      go_wp2_with fail
      clear c0 z0 q0 y0 c1 z1 q1 y1 c2 z2 q2 y2 c3 z3 q3 y3 c4 z4 q4 y4 b0 b1 HF
      refine (pick_B (R4.out.set (by omega) _) (by omega)).mono ?_
      rintro e w5 ⟨x5, rfl, hx5, hR5, hK5⟩
      have R5 : Hid (RdB w5 r ad len cap (m + 5)) := hR5.more (by omega)
      have K5 : Hid (Kept r w w5) := (K4.out.setCell (.inl (by simp; omega)) _).trans hK5
      have O5 : Hid (Ord5 w5 ga) := (O4.out.set (j := 2) (by decide) (by unfold Small; omega)).kept hK5 hgr
      have W5 : Hid (Wr5 w5 w.heap.size) := (W4.out.set (by omega) _).kept hK5 (by omega)
      have x5l := hx5.1
      have x5h := hx5.2.1 (by decide)
      clear hR5 hK5 hx5
      obtain ⟨f, hf⟩ := O5.out
      have HF : Hid (∀ i, i < 5 → Small (f i)) := fun i hi => (hf i hi).1
      have c0 := (hf 0 (by decide)).2.1
      have z0 := (hf 0 (by decide)).2.2
      have c1 := (hf 1 (by decide)).2.1
      have z1 := (hf 1 (by decide)).2.2
      have c2 := (hf 2 (by decide)).2.1
      have z2 := (hf 2 (by decide)).2.2
      have c3 := (hf 3 (by decide)).2.1
      have z3 := (hf 3 (by decide)).2.2
      have c4 := (hf 4 (by decide)).2.1
      have z4 := (hf 4 (by decide)).2.2
      obtain ⟨v0, q0, y0⟩ := W5.out 0 (by decide)
      obtain ⟨v1, q1, y1⟩ := W5.out 1 (by decide)
      obtain ⟨v2, q2, y2⟩ := W5.out 2 (by decide)
      obtain ⟨v3, q3, y3⟩ := W5.out 3 (by decide)
      obtain ⟨v4, q4, y4⟩ := W5.out 4 (by decide)
      have b0 := HF.out 0 (by decide)
      have b1 := HF.out 3 (by decide)
      unfold Small at b0 b1
      clear hf
      go_wp2
      refine bodyPost_ret (v := .agg #[.int .i64 (f 0), .int .i64 (f 1), .int .i64 (f 2), .int .i64 (f 3), .int .i64 (1 + x5)]) (by simp [results, Tryz.results19, go_sem, q0, q1, q2, q3, q4]) rfl ?_
      refine ⟨f 0, f 1, f 2, f 3, 1 + x5, rfl, ⟨HF.out 0 (by decide), HF.out 1 (by decide), HF.out 2 (by decide), HF.out 3 (by decide), by unfold Small; omega⟩, RdB.more (m := m + 5) ?_ (by omega), ?_⟩
      · exact ((((((R5.out.set (by omega) _).set (by omega) _).set (by omega) _).set (by omega) _).set (by omega) _).set (by omega) _)
      · refine Kept.setCell ?_ (.inl (by simp)) _
        refine Kept.setCell ?_ (.inl (by simp)) _
        refine Kept.setCell ?_ (.inl (by simp)) _
        refine Kept.setCell ?_ (.inl (by simp)) _
        refine Kept.setCell ?_ (.inl (by simp)) _
        refine Kept.setCell ?_ (.inl (by simp; omega)) _
        exact K5.out
    · obtain ⟨f, hf⟩ := O4.out
      have HF : Hid (∀ i, i < 5 → Small (f i)) := fun i hi => (hf i hi).1
      have c0 := (hf 0 (by decide)).2.1
      have z0 := (hf 0 (by decide)).2.2
      have c1 := (hf 1 (by decide)).2.1
      have z1 := (hf 1 (by decide)).2.2
      have c2 := (hf 2 (by decide)).2.1
      have z2 := (hf 2 (by decide)).2.2
      have c3 := (hf 3 (by decide)).2.1
      have z3 := (hf 3 (by decide)).2.2
      have c4 := (hf 4 (by decide)).2.1
      have z4 := (hf 4 (by decide)).2.2
      obtain ⟨v0, q0, y0⟩ := W4.out 0 (by decide)
      obtain ⟨v1, q1, y1⟩ := W4.out 1 (by decide)
      obtain ⟨v2, q2, y2⟩ := W4.out 2 (by decide)
      obtain ⟨v3, q3, y3⟩ := W4.out 3 (by decide)
      obtain ⟨v4, q4, y4⟩ := W4.out 4 (by decide)
      have b0 := HF.out 0 (by decide)
      have b1 := HF.out 3 (by decide)
      unfold Small at b0 b1
      clear hf
      go_wp2_with fail
      clear c0 z0 q0 y0 c1 z1 q1 y1 c2 z2 q2 y2 c3 z3 q3 y3 c4 z4 q4 y4 b0 b1 HF
      refine (pick_B (R4.out.set (by omega) _) (by omega)).mono ?_
      rintro e w5 ⟨x5, rfl, hx5, hR5, hK5⟩
      have R5 : Hid (RdB w5 r ad len cap (m + 5)) := hR5.more (by omega)
      have K5 : Hid (Kept r w w5) := (K4.out.setCell (.inl (by simp; omega)) _).trans hK5
      have O5 : Hid (Ord5 w5 ga) := (O4.out.set (j := 2) (by decide) (by unfold Small; omega)).kept hK5 hgr
      have W5 : Hid (Wr5 w5 w.heap.size) := (W4.out.set (by omega) _).kept hK5 (by omega)
      have x5l := hx5.1
      have x5h := hx5.2.1 (by decide)
      clear hR5 hK5 hx5
      obtain ⟨f, hf⟩ := O5.out
      have HF : Hid (∀ i, i < 5 → Small (f i)) := fun i hi => (hf i hi).1
      have c0 := (hf 0 (by decide)).2.1
      have z0 := (hf 0 (by decide)).2.2
      have c1 := (hf 1 (by decide)).2.1
      have z1 := (hf 1 (by decide)).2.2
      have c2 := (hf 2 (by decide)).2.1
      have z2 := (hf 2 (by decide)).2.2
      have c3 := (hf 3 (by decide)).2.1
      have z3 := (hf 3 (by decide)).2.2
      have c4 := (hf 4 (by decide)).2.1
      have z4 := (hf 4 (by decide)).2.2
      obtain ⟨v0, q0, y0⟩ := W5.out 0 (by decide)
      obtain ⟨v1, q1, y1⟩ := W5.out 1 (by decide)
      obtain ⟨v2, q2, y2⟩ := W5.out 2 (by decide)
      obtain ⟨v3, q3, y3⟩ := W5.out 3 (by decide)
      obtain ⟨v4, q4, y4⟩ := W5.out 4 (by decide)
      have b0 := HF.out 0 (by decide)
      have b1 := HF.out 3 (by decide)
      unfold Small at b0 b1
      clear hf
      go_wp2
      refine bodyPost_ret (v := .agg #[.int .i64 (f 0), .int .i64 (f 1), .int .i64 (f 2), .int .i64 (f 3), .int .i64 (1 + x5)]) (by simp [results, Tryz.results19, go_sem, q0, q1, q2, q3, q4]) rfl ?_
      refine ⟨f 0, f 1, f 2, f 3, 1 + x5, rfl, ⟨HF.out 0 (by decide), HF.out 1 (by decide), HF.out 2 (by decide), HF.out 3 (by decide), by unfold Small; omega⟩, RdB.more (m := m + 5) ?_ (by omega), ?_⟩
      · exact ((((((R5.out.set (by omega) _).set (by omega) _).set (by omega) _).set (by omega) _).set (by omega) _).set (by omega) _)
      · refine Kept.setCell ?_ (.inl (by simp)) _
        refine Kept.setCell ?_ (.inl (by simp)) _
        refine Kept.setCell ?_ (.inl (by simp)) _
        refine Kept.setCell ?_ (.inl (by simp)) _
        refine Kept.setCell ?_ (.inl (by simp)) _
        refine Kept.setCell ?_ (.inl (by simp; omega)) _
        exact K5.out
    · obtain ⟨f, hf⟩ := O4.out
      have HF : Hid (∀ i, i < 5 → Small (f i)) := fun i hi => (hf i hi).1
      have c0 := (hf 0 (by decide)).2.1
      have z0 := (hf 0 (by decide)).2.2
      have c1 := (hf 1 (by decide)).2.1
      have z1 := (hf 1 (by decide)).2.2
      have c2 := (hf 2 (by decide)).2.1
      have z2 := (hf 2 (by decide)).2.2
      have c3 := (hf 3 (by decide)).2.1
      have z3 := (hf 3 (by decide)).2.2
      have c4 := (hf 4 (by decide)).2.1
      have z4 := (hf 4 (by decide)).2.2
      obtain ⟨v0, q0, y0⟩ := W4.out 0 (by decide)
      obtain ⟨v1, q1, y1⟩ := W4.out 1 (by decide)
      obtain ⟨v2, q2, y2⟩ := W4.out 2 (by decide)
      obtain ⟨v3, q3, y3⟩ := W4.out 3 (by decide)
      obtain ⟨v4, q4, y4⟩ := W4.out 4 (by decide)
      have b0 := HF.out 0 (by decide)
      have b1 := HF.out 3 (by decide)
      unfold Small at b0 b1
      clear hf
      go_wp2_with fail
      clear c0 z0 q0 y0 c1 z1 q1 y1 c2 z2 q2 y2 c3 z3 q3 y3 c4 z4 q4 y4 b0 b1 HF
      have hg4 : r < w4.heap.size := R4.out.lt
      refine (pick_B (R4.out.alloc _) (by omega)).mono ?_
      rintro e w5 ⟨x5, rfl, hx5, hR5, hK5⟩
      have R5 : Hid (RdB w5 r ad len cap (m + 5)) := hR5.more (by omega)
      have K5 : Hid (Kept r w w5) := (K4.out.alloc _).trans hK5
      have O5 : Hid (Ord5 w5 ga) := (O4.out.kept ((Kept.refl r w4).alloc (.cells #[.int .i64 6, .int .i64 1] 3)) hgr).kept hK5 hgr
      have W5 : Hid (Wr5 w5 w.heap.size) := (W4.out.kept ((Kept.refl r w4).alloc (.cells #[.int .i64 6, .int .i64 1] 3)) (by omega)).kept hK5 (by omega)
      have l0 : w5.cell? ⟨w4.heap.size, 0, none⟩ = some (.int .i64 6) := ((kcell hK5).1 w4.heap.size 0 (by simp) (by omega)).trans (by simp)
      have l1 : w5.cell? ⟨w4.heap.size, 1, none⟩ = some (.int .i64 1) := ((kcell hK5).1 w4.heap.size 1 (by simp) (by omega)).trans (by simp)
      have x5l := hx5.1
      have x5h := hx5.2.1 (by decide)
      clear hR5 hK5 hx5
      obtain ⟨f, hf⟩ := O5.out
      have HF : Hid (∀ i, i < 5 → Small (f i)) := fun i hi => (hf i hi).1
      have c0 := (hf 0 (by decide)).2.1
      have z0 := (hf 0 (by decide)).2.2
      have c1 := (hf 1 (by decide)).2.1
      have z1 := (hf 1 (by decide)).2.2
      have c2 := (hf 2 (by decide)).2.1
      have z2 := (hf 2 (by decide)).2.2
      have c3 := (hf 3 (by decide)).2.1
      have z3 := (hf 3 (by decide)).2.2
      have c4 := (hf 4 (by decide)).2.1
      have z4 := (hf 4 (by decide)).2.2
      obtain ⟨v0, q0, y0⟩ := W5.out 0 (by decide)
      obtain ⟨v1, q1, y1⟩ := W5.out 1 (by decide)
      obtain ⟨v2, q2, y2⟩ := W5.out 2 (by decide)
      obtain ⟨v3, q3, y3⟩ := W5.out 3 (by decide)
      obtain ⟨v4, q4, y4⟩ := W5.out 4 (by decide)
      have b0 := HF.out 0 (by decide)
      have b1 := HF.out 3 (by decide)
      unfold Small at b0 b1
      clear hf
      have hx : x5 = 0 ∨ x5 = 1 := by omega
      rcases hx with rfl | rfl
      · go_wp2
        refine bodyPost_ret (v := .agg #[.int .i64 (f 0), .int .i64 (f 1), .int .i64 (6), .int .i64 (0), .int .i64 (f 4)]) (by simp [results, Tryz.results19, go_sem, q0, q1, q2, q3, q4]) rfl ?_
        refine ⟨f 0, f 1, 6, 0, f 4, rfl, ⟨HF.out 0 (by decide), HF.out 1 (by decide), by unfold Small; omega, by unfold Small; omega, HF.out 4 (by decide)⟩, RdB.more (m := m + 5) ?_ (by omega), ?_⟩
        · exact (((((((R5.out.set (by omega) _).set (by omega) _).set (by omega) _).set (by omega) _).set (by omega) _).set (by omega) _).set (by omega) _)
        · refine Kept.setCell ?_ (.inl (by simp)) _
          refine Kept.setCell ?_ (.inl (by simp)) _
          refine Kept.setCell ?_ (.inl (by simp)) _
          refine Kept.setCell ?_ (.inl (by simp)) _
          refine Kept.setCell ?_ (.inl (by simp)) _
          refine Kept.setCell ?_ (.inl (by simp; omega)) _
          refine Kept.setCell ?_ (.inl (by simp; omega)) _
          exact K5.out
      · go_wp2
        refine bodyPost_ret (v := .agg #[.int .i64 (f 0), .int .i64 (f 1), .int .i64 (1), .int .i64 (f 3), .int .i64 (f 4)]) (by simp [results, Tryz.results19, go_sem, q0, q1, q2, q3, q4]) rfl ?_
        refine ⟨f 0, f 1, 1, f 3, f 4, rfl, ⟨HF.out 0 (by decide), HF.out 1 (by decide), by unfold Small; omega, HF.out 3 (by decide), HF.out 4 (by decide)⟩, RdB.more (m := m + 5) ?_ (by omega), ?_⟩
        · exact ((((((R5.out.set (by omega) _).set (by omega) _).set (by omega) _).set (by omega) _).set (by omega) _).set (by omega) _)
        · refine Kept.setCell ?_ (.inl (by simp)) _
          refine Kept.setCell ?_ (.inl (by simp)) _
          refine Kept.setCell ?_ (.inl (by simp)) _
          refine Kept.setCell ?_ (.inl (by simp)) _
          refine Kept.setCell ?_ (.inl (by simp)) _
          refine Kept.setCell ?_ (.inl (by simp; omega)) _
          exact K5.out
    · obtain ⟨f, hf⟩ := O4.out
      have HF : Hid (∀ i, i < 5 → Small (f i)) := fun i hi => (hf i hi).1
      have c0 := (hf 0 (by decide)).2.1
      have z0 := (hf 0 (by decide)).2.2
      have c1 := (hf 1 (by decide)).2.1
      have z1 := (hf 1 (by decide)).2.2
      have c2 := (hf 2 (by decide)).2.1
      have z2 := (hf 2 (by decide)).2.2
      have c3 := (hf 3 (by decide)).2.1
      have z3 := (hf 3 (by decide)).2.2
      have c4 := (hf 4 (by decide)).2.1
      have z4 := (hf 4 (by decide)).2.2
      obtain ⟨v0, q0, y0⟩ := W4.out 0 (by decide)
      obtain ⟨v1, q1, y1⟩ := W4.out 1 (by decide)
      obtain ⟨v2, q2, y2⟩ := W4.out 2 (by decide)
      obtain ⟨v3, q3, y3⟩ := W4.out 3 (by decide)
      obtain ⟨v4, q4, y4⟩ := W4.out 4 (by decide)
      have b0 := HF.out 0 (by decide)
      have b1 := HF.out 3 (by decide)
      unfold Small at b0 b1
      clear hf
      go_wp2
      refine bodyPost_ret (v := .agg #[.int .i64 (f 0), .int .i64 (f 1), .int .i64 (f 2), .int .i64 (f 3), .int .i64 (f 4)]) (by simp [results, Tryz.results19, go_sem, q0, q1, q2, q3, q4]) rfl ?_
      refine ⟨f 0, f 1, f 2, f 3, f 4, rfl, ⟨HF.out 0 (by decide), HF.out 1 (by decide), HF.out 2 (by decide), HF.out 3 (by decide), HF.out 4 (by decide)⟩, RdB.more (m := m + 4) ?_ (by omega), ?_⟩
      · exact (((((R4.out.set (by omega) _).set (by omega) _).set (by omega) _).set (by omega) _).set (by omega) _)
      · refine Kept.setCell ?_ (.inl (by simp)) _
        refine Kept.setCell ?_ (.inl (by simp)) _
        refine Kept.setCell ?_ (.inl (by simp)) _
        refine Kept.setCell ?_ (.inl (by simp)) _
        refine Kept.setCell ?_ (.inl (by simp)) _
        exact K4.out
end Go.Proofs.YtalmnogdplhflaaGreatDoor
namespace Go.Proofs.YtalmnogdplhflaaGreatDoor
open Go.RowKit
set_option linter.unusedVariables false
end Go.Proofs.YtalmnogdplhflaaGreatDoor
namespace Go.Proofs.YtalmnogdplhflaaGreatDoor
open Go.RowKit
set_option linter.unusedVariables false
set_option maxRecDepth 20000
theorem IsRow.below {w w' : World} {a : Option Addr} {len cap : Nat} {zs : List Int} (h : IsRow w a len cap zs) (hb : Below w.heap.size w w') : IsRow w' a len cap zs := by
  rcases h with h | ⟨x, rfl, hl, hm, hz, hc, hw⟩
  · exact .inl h
  · refine .inr ⟨x, rfl, hl, hm, hz, fun i hi => ?_, hw⟩
    have hlt : (x.add i).block < w.heap.size := by
      by_cases g : (x.add i).block < w.heap.size
      · exact g
      · exfalso
        have : w.heap[(x.add i).block]? = none := by simp; omega
        have c := hc i hi
        simp [World.cell?, this] at c
    rw [bcell' hb hlt]; exact hc i hi
/-- What one more box leaves of an older one. -/
def Fv (w : World) (r : Nat) (i a n s l : Int) : Prop := w.cell? ⟨r, 0, none⟩ = some (.int .i64 i) ∧ w.cell? ⟨r, 1, none⟩ = some (.int .i64 a) ∧ w.cell? ⟨r, 2, none⟩ = some (.int .i64 n) ∧ w.cell? ⟨r, 3, none⟩ = some (.int .i64 s) ∧ w.cell? ⟨r, 4, none⟩ = some (.int .i64 l) ∧ r < w.heap.size
theorem Fv.new (w : World) (i a n s l : Int) : Fv (w.alloc (.cells #[.int .i64 i, .int .i64 a, .int .i64 n, .int .i64 s, .int .i64 l] 46)) w.heap.size i a n s l := ⟨by simp, by simp, by simp, by simp, by simp, by simp⟩
theorem Fv.below {w w' : World} {r : Nat} {i a n s l : Int} (h : Fv w r i a n s l) (hb : Below w.heap.size w w') : Fv w' r i a n s l := by
  obtain ⟨c0, c1, c2, c3, c4, hr⟩ := h
  exact ⟨(bcell' hb hr).trans c0, (bcell' hb hr).trans c1, (bcell' hb hr).trans c2, (bcell' hb hr).trans c3, (bcell' hb hr).trans c4, Nat.lt_of_lt_of_le hr hb.size⟩
end Go.Proofs.YtalmnogdplhflaaGreatDoor
namespace Go.Proofs.YtalmnogdplhflaaGreatDoor
open Go.RowKit
set_option linter.unusedVariables false
set_option maxRecDepth 20000 in
set_option maxHeartbeats 2000000 in
theorem bent_B {r : Nat} {ad : Option Addr} {len cap : Nat} {m : Int} {s : ByteArray} {w : World} (h : RdB w r ad len cap m) (hm : m ≤ 1000) (hs : s.size ≤ 200) :
    Calls Tryz.prog 23 #[.pointer (some ⟨r, 0, none⟩), .string s] w fun e w' => ∃ t : ByteArray, e = .returned (.string t) ∧ t.size ≤ 400 ∧ Kept r w w' := by
  have H : Hid (RdB w r ad len cap m) := h
  have hrl := h.lt
  clear h
  go_enter Tryz.func23, Tryz.ntmps23
  go_wp2_with fail
  refine (pick_B (n := (s.size : Int) + 1) H.out (by omega)).mono ?_
  rintro e w1 ⟨k0, rfl, hk, R1, K1⟩
  obtain ⟨k, rfl⟩ := Int.eq_ofNat_of_zero_le hk.1
  have hk1 : k ≤ s.size := by have := hk.2.1 (by omega); omega
  have KA : Hid (Kept r w w1) := K1
  clear K1 H hk
  go_wp2_with fail
  refine (pick_B R1 (by omega)).mono ?_
  rintro e w2 ⟨x, rfl, hx, R2, K2⟩
  have KB : Hid (Kept r w w2) := KA.out.trans K2
  have hx0 := hx.1
  have hx1 := hx.2.1 (by decide)
  clear K2 KA R1 hx
  go_wp2_with fail
  refine (pick_B (R2.alloc _) (by omega)).mono ?_
  rintro e w3 ⟨y, rfl, hy, R3, K3⟩
  have KC : Hid (Kept r w w3) := (KB.out.alloc _).trans K3
  have hy0 := hy.1
  have hy1 := hy.2.1 (by decide)
  obtain ⟨z, hcz, hz0, hz1⟩ : ∃ z, w3.cell? ⟨w2.heap.size, y.toNat, none⟩ = some (.int .i64 z) ∧ 0 ≤ z ∧ z < 256 := by
    have hl := (Lits.new [32, 48, 97, 45, 57, 0, x] w2 3).kept K3 (by have := KB.out.size; omega)
    refine ⟨_, hl.2 y hy0 hy1, ?_⟩
    have hall : ∀ u ∈ [32, 48, 97, 45, 57, 0, x], 0 ≤ u ∧ u < 256 := by
      intro u hu
      simp at hu
      omega
    have hlt : y.toNat < [32, 48, 97, 45, 57, 0, x].length := by simp; omega
    rw [List.getD_eq_getElem?_getD, List.getElem?_eq_getElem hlt, Option.getD_some]
    exact hall _ (List.getElem_mem hlt)
  clear K3 KB R2 hy
  have hwr : IntKind.u8.wrap z = z := by simp [IntKind.wrap, IntKind.bits, IntKind.signed]; omega
  have hcv := fun (W : World) => conv1 W z
  go_wp2_with fail
  refine (pick_B (R3.alloc _) (by omega)).mono ?_
  rintro e w4 ⟨q, rfl, hq, R4, K4⟩
  have KD : Hid (Kept r w w4) := (KC.out.alloc _).trans K4
  clear K4 KC R3 hq hcz hcv hwr
  obtain ⟨cb, hcb, hcs⟩ : ∃ cb : ByteArray, cb = ⟨#[UInt8.ofNat z.toNat]⟩ ∧ cb.size = 1 := ⟨_, rfl, rfl⟩
  rw [← hcb]
  clear hcb
  have hki : (k : Int) ≤ (s.size : Int) := by omega
  by_cases hq0 : q = 0
  · subst hq0
    go_wp2_with fail
    go_quiet (fail)
    go_wp2
    go_ret
    exact ⟨_, rfl, by simp only [ByteArray.size_append, ByteArray.size_extract]; omega, KD.out.drewN nq⟩
  · have eq0 : (q == 0) = false := by simpa using hq0
    by_cases hks : k = s.size
    · have hks' : ((k : Int) == (s.size : Int)) = true := by simp [hks]
      have HKS : Hid (k = s.size) := hks
      clear hks
      go_wp2
      go_ret
      exact ⟨_, rfl, by simp only [ByteArray.size_append]; omega, KD.out⟩
    · have hks' : ((k : Int) == (s.size : Int)) = false := by simp; omega
      have hkl : (k : Int) + 1 ≤ (s.size : Int) := by omega
      have hkl' : k + 1 ≤ s.size := by omega
      have hk1' : (0 : Int) ≤ (k : Int) + 1 := by omega
      have htn : ((k : Int) + 1).toNat = k + 1 := by omega
      have hwk : IntKind.i64.wrap ((k : Int) + 1) = (k : Int) + 1 := by rw [IntKind.wrap_i64]; omega
      clear hks
      go_wp2_with fail
      refine (pick_B R4 (by omega)).mono ?_
      rintro e w5 ⟨q2, rfl, hq2, R5, K5⟩
      have KE : Hid (Kept r w w5) := KD.out.trans K5
      clear K5 KD R4 R5 hq2
      by_cases hq3 : q2 = 0
      · subst hq3
        go_wp2_with fail
        go_quiet (fail)
        go_wp2
        go_ret
        exact ⟨_, rfl, by simp only [ByteArray.size_append, ByteArray.size_extract]; omega, KE.out.drewN nq⟩
      · have eq3 : (q2 == 0) = false := by simpa using hq3
        go_wp2_with fail
        go_quiet (fail)
        go_wp2
        go_ret
        exact ⟨_, rfl, by simp only [ByteArray.size_append, ByteArray.size_extract]; omega, KE.out.drewN nq⟩
end Go.Proofs.YtalmnogdplhflaaGreatDoor
