/- What is carried: lemmas on lists, cells and draws; conditions: those typed. -/
import Derived.WalkKit
import Derived.ProofKit
import Derived.OpenShut
import Derived.Below
import Derived.Test.YtjllgmkficjiaaaRows
import Derived.WalkSpells
import Derived.Deep.RegionHeld3
import Derived.Deep.QuietTactic
import Derived.BigQuiet
import Derived.LoopTactic
import Derived.Deep.Slices
import Derived.Deep.OwnRows
import Derived.Laws.IdiomCopy
import Derived.Laws.AppendOwn
import Derived.Deep.DeepCutAuto
import Derived.Maps.AppendAt
import Derived.Laws.Bits64
import Derived.Deep.RegionWith
import Derived.Test.YtjllgmkficjiaaaCA
import Derived.Test.YtjllgmkficjiaaaCB
import Derived.Test.YtjllgmkficjiaaaCC
import Derived.Test.YtjllgmkficjiaaaCE1
namespace Go.Proofs.Ytjllgmkficjiaaa
open Go.RowKit Go.ChangeShapes Go.WideShapes Go.ChangeAt
end Go.Proofs.Ytjllgmkficjiaaa
namespace Go.Proofs.Ytjllgmkficjiaaa
open Go.RowKit
set_option linter.unusedVariables false
end Go.Proofs.Ytjllgmkficjiaaa
namespace Go.Proofs.Ytjllgmkficjiaaa
open Go.RowKit
set_option linter.unusedVariables false
end Go.Proofs.Ytjllgmkficjiaaa
namespace Go.Proofs.Ytjllgmkficjiaaa
open Go.RowKit Go.ChangeShapes Go.WideShapes Go.ChangeAt Go.Deep
set_option linter.unusedVariables false
variable {H : Type} {enc : TypeId × Value → H} {P : Program} {w : World} {base : Nat} {spare : Nat → Bool} {held : Bool}
theorem row1_below {w w' : World} {a : Option Addr} {n : Nat} {X : Nat → Int} (h : Row1 w a n X) (hb : Below w.heap.size w w') : Row1 w' a n X := by
  rcases h with rfl | ⟨b, o, rfl, hlt, hr⟩
  · exact .inl rfl
  · exact .inr ⟨b, o, rfl, Nat.lt_of_lt_of_le hlt hb.size, fun k hk => (hb.cell (p := ⟨b, _, none⟩) hlt).trans (hr k hk)⟩
end Go.Proofs.Ytjllgmkficjiaaa
namespace Go.Proofs.Ytjllgmkficjiaaa
open Go.RowKit Go.Deep
set_option linter.unusedVariables false
/-- Block b of W begins with these values, and may be written. -/
def Bk (W : World) (b : Nat) (l : List Value) : Prop := b < W.heap.size ∧ ∀ i, i < l.length → W.cell? ⟨b, i, none⟩ = some (l.getD i undef) ∧ W.frozen? ⟨b, i, none⟩ = false
theorem Bk.below {W W' : World} {b : Nat} {l : List Value} (h : Bk W b l) (k : Below W.heap.size W W') : Bk W' b l := ⟨Nat.lt_of_lt_of_le h.1 k.size, fun i hi => by
  rw [k.cell (p := ⟨b, i, none⟩) h.1, k.frozen (p := ⟨b, i, none⟩) h.1]; exact h.2 i hi⟩
end Go.Proofs.Ytjllgmkficjiaaa
namespace Go.Proofs.Ytjllgmkficjiaaa
open Go.RowKit Go.ChangeShapes Go.WideShapes Go.ChangeAt Go.Deep
set_option linter.unusedVariables false
/-- What a table holds: so many servers, so many ages. -/
structure TV where
  nS : Nat
  S : Nat → Int
  nA : Nat
  A : Nat → Int
/-- The value v is a table that holds T, in w. -/
def TabAt (w : World) (v : Value) (T : TV) : Prop :=
  ∃ aS kS aA kA, v = .agg #[.slice aS T.nS kS, .slice aA T.nA kA] ∧ Row1 w aS T.nS T.S ∧ Row1 w aA T.nA T.A
theorem TabAt.below {w w' : World} {v : Value} {T : TV} (h : TabAt w v T) (hb : Below w.heap.size w w') : TabAt w' v T := by
  obtain ⟨aS, kS, aA, kA, e, h1, h2⟩ := h
  exact ⟨aS, kS, aA, kA, e, row1_below h1 hb, row1_below h2 hb⟩
section
variable {H : Type} {enc : TypeId × Value → H} {P : Program} {w : World} {base : Nat} {spare : Nat → Bool} {held : Bool}
end
/-- v is a table that holds T, each of its lists in a block of its own, between lo and hi. -/
def OwnT (lo hi : Nat) (w : World) (v : Value) (T : TV) : Prop :=
  ∃ v0 v1 g0 g1, v = .agg #[v0, v1] ∧ RI lo hi w v0 T.nS T.S g0 ∧ RI lo hi w v1 T.nA T.A g1 ∧ ¬ g0 = g1
theorem ri_row {lo hi : Nat} {w : World} {v : Value} {n : Nat} {X : Nat → Int} {g : Nat} (h : RI lo hi w v n X g) : ∃ a c, v = .slice a n c ∧ Row1 w a n X := by
  rcases h with ⟨rfl, a, c, rfl⟩ | ⟨c, rfl, h1, h2, h3, h4⟩
  · exact ⟨a, c, rfl, .inl rfl⟩
  · exact ⟨_, c, rfl, row1_of_own h4 (by omega)⟩
theorem OwnT.at {lo hi : Nat} {w : World} {v : Value} {T : TV} (h : OwnT lo hi w v T) : TabAt w v T := by
  obtain ⟨v0, v1, g0, g1, rfl, r0, r1, _⟩ := h
  obtain ⟨a0, c0, rfl, h0⟩ := ri_row r0
  obtain ⟨a1, c1, rfl, h1⟩ := ri_row r1
  exact ⟨_, _, _, _, rfl, h0, h1⟩
theorem OwnT.below {lo hi : Nat} {w w' : World} {v : Value} {T : TV} (h : OwnT lo hi w v T) (hb : Below w.heap.size w w') : OwnT lo hi w' v T := by
  obtain ⟨v0, v1, g0, g1, e, r0, r1, hn⟩ := h
  refine ⟨v0, v1, g0, g1, e, ?_, ?_, hn⟩
  · rcases r0 with h | ⟨c, h1, h2, h3, h4, h5⟩
    · exact .inl h
    · exact .inr ⟨c, h1, h2, h3, Nat.le_trans h4 hb.size, own1_sm h5 (sm_below hb (by omega))⟩
  · rcases r1 with h | ⟨c, h1, h2, h3, h4, h5⟩
    · exact .inl h
    · exact .inr ⟨c, h1, h2, h3, Nat.le_trans h4 hb.size, own1_sm h5 (sm_below hb (by omega))⟩
end Go.Proofs.Ytjllgmkficjiaaa
namespace Go.Proofs.Ytjllgmkficjiaaa
open Go.RowKit Go.Deep
set_option linter.unusedVariables false
end Go.Proofs.Ytjllgmkficjiaaa
namespace Go.Proofs.Ytjllgmkficjiaaa
open Go.RowKit Go.Deep
set_option linter.unusedVariables false
end Go.Proofs.Ytjllgmkficjiaaa
namespace Go.Proofs.Ytjllgmkficjiaaa
open Go.RowKit Go.Deep
set_option linter.unusedVariables false
end Go.Proofs.Ytjllgmkficjiaaa
namespace Go.Proofs.Ytjllgmkficjiaaa
open Go.RowKit Go.Deep
set_option linter.unusedVariables false
end Go.Proofs.Ytjllgmkficjiaaa
namespace Go.Proofs.Ytjllgmkficjiaaa
open Go.RowKit Go.Deep
set_option linter.unusedVariables false
end Go.Proofs.Ytjllgmkficjiaaa
namespace Go.Proofs.Ytjllgmkficjiaaa
open Go.RowKit Go.Deep
set_option linter.unusedVariables false
theorem OwnT.mono {lo hi lo' hi' : Nat} {w : World} {v : Value} {T : TV} (h : OwnT lo hi w v T) (h1 : lo' ≤ lo) (h2 : hi ≤ hi') (h3 : hi' ≤ w.heap.size) : OwnT lo' hi' w v T := by
  obtain ⟨v0, v1, g0, g1, e, r0, r1, hn⟩ := h
  have m : ∀ {v n X g}, RI lo hi w v n X g → RI lo' hi' w v n X g := fun h => by
    rcases h with h | ⟨c, q1, q2, q3, q4, q5⟩
    · exact .inl h
    · exact .inr ⟨c, q1, by omega, by omega, h3, q5⟩
  exact ⟨v0, v1, g0, g1, e, m r0, m r1, hn⟩
end Go.Proofs.Ytjllgmkficjiaaa
namespace Go.Proofs.Ytjllgmkficjiaaa
open Go.RowKit Go.Deep
set_option linter.unusedVariables false
end Go.Proofs.Ytjllgmkficjiaaa
namespace Go.Proofs.Ytjllgmkficjiaaa
open Go.RowKit Go.Deep
set_option linter.unusedVariables false
end Go.Proofs.Ytjllgmkficjiaaa
namespace Go.Proofs.Ytjllgmkficjiaaa
open Go.RowKit Go.Deep
set_option linter.unusedVariables false
end Go.Proofs.Ytjllgmkficjiaaa
namespace Go.Proofs.Ytjllgmkficjiaaa
open Go.RowKit
set_option linter.unusedVariables false
end Go.Proofs.Ytjllgmkficjiaaa
namespace Go.Proofs.Ytjllgmkficjiaaa
open Go.RowKit
set_option linter.unusedVariables false
end Go.Proofs.Ytjllgmkficjiaaa
namespace Go.Proofs.Ytjllgmkficjiaaa
open Go.RowKit
set_option linter.unusedVariables false
end Go.Proofs.Ytjllgmkficjiaaa
namespace Go.Proofs.Ytjllgmkficjiaaa
open Go.RowKit
set_option linter.unusedVariables false
end Go.Proofs.Ytjllgmkficjiaaa
namespace Go.Proofs.Ytjllgmkficjiaaa
open Go.RowKit Go.Deep
set_option linter.unusedVariables false
theorem RdB.on {w w' : World} {r : Nat} {a : Option Addr} {len cap : Nat} {m : Int} (h : RdB w r a len cap m) (hb : Below w.heap.size w w') : RdB w' r a len cap m := h.below (hb.mono h.lt)
set_option maxRecDepth 20000 in
set_option maxHeartbeats 2000000 in
theorem maInts_row (g1 o1 c1 g2 o2 c2 n : Nat) (X : Nat → Int) (hn : n ≤ 1000) (w : World) (l1 : g1 < w.heap.size) (l2 : g2 < w.heap.size)
    (h1 : ∀ k, k < n → w.cell? ⟨g1, o1 + k, none⟩ = some (.int .i64 (X k))) (h2 : ∀ k, k < n → w.cell? ⟨g2, o2 + k, none⟩ = some (.int .i64 (X k))) :
    Calls Try.prog 20 #[.slice (some ⟨g1, o1, none⟩) n c1, .slice (some ⟨g2, o2, none⟩) n c2] w fun e w' => e = .returned (.bool true) ∧ Below w.heap.size w w' := by
  have H1 : Hid (∀ k, k < n → w.cell? ⟨g1, o1 + k, none⟩ = some (.int .i64 (X k))) := h1
  have H2 : Hid (∀ k, k < n → w.cell? ⟨g2, o2 + k, none⟩ = some (.int .i64 (X k))) := h2
  clear h1 h2
  go_enter Try.func20, Try.ntmps20
  go_wp2
  go_loopw [5] (fun i wr => ∃ k q : Nat, k ≤ n ∧ .int .i64 k = i ∧ wr = w.drewN q) (fun i _ => n - (intOf i).toNat)
  case atStart => exact ⟨0, 0, Nat.zero_le _, rfl, rfl⟩
  case round =>
    obtain ⟨k, q, hk, rfl, rfl⟩ := hrel
    by_cases hkn : k < n
    · have hkn' : (k : Int) < (n : Int) := by omega
      have a0 := H1.out k hkn
      have b0 := H2.out k hkn
      go_wp2_with fail
      go_quiet (fail)
      go_wp2
      go_roundw
      case rel => exact ⟨k + 1, q + nq, by omega, by go_num, by simp [World.drewN]⟩
      case measure => simp [intOf]; omega
    · have hkn' : k = n := by omega
      subst hkn'
      go_wp2
      go_ret
      exact ⟨rfl, bdrewN (Below.refl _ _) q⟩
theorem maInts_nil (a1 a2 : Option Addr) (c1 c2 : Nat) (w : World) : Calls Try.prog 20 #[.slice a1 0 c1, .slice a2 0 c2] w fun e w' => e = .returned (.bool true) ∧ Below w.heap.size w w' := by
  go_enter Try.func20, Try.ntmps20
  go_wp2
  go_loopw [5] (fun i wr => .int .i64 0 = i ∧ wr = w) (fun i _ => 0)
  case atStart => exact ⟨rfl, rfl⟩
  case round =>
    obtain ⟨rfl, rfl⟩ := hrel
    go_wp2
    go_ret
    exact ⟨rfl, Below.refl _ _⟩
theorem maInts {w : World} {a1 a2 : Option Addr} {n c1 c2 : Nat} {X : Nat → Int} (h1 : Row1 w a1 n X) (h2 : Row1 w a2 n X) (hn : n ≤ 1000) : Calls Try.prog 20 #[.slice a1 n c1, .slice a2 n c2] w fun e w' => e = .returned (.bool true) ∧ Below w.heap.size w w' := by
  by_cases h0 : n = 0
  · subst h0; exact maInts_nil a1 a2 c1 c2 w
  · rcases h1 with h | ⟨b1, o1, rfl, l1, k1⟩
    · exact absurd h h0
    · rcases h2 with h | ⟨b2, o2, rfl, l2, k2⟩
      · exact absurd h h0
      · exact maInts_row b1 o1 c1 b2 o2 c2 n X hn w l1 l2 k1 k2
/-- n integers from a on, in a block from lo on. -/
def RowIn (lo : Nat) (w : World) (a : Option Addr) (n : Nat) (X : Nat → Int) : Prop := n = 0 ∨ ∃ b o, a = some ⟨b, o, none⟩ ∧ lo ≤ b ∧ b < w.heap.size ∧ ∀ k, k < n → w.cell? ⟨b, o + k, none⟩ = some (.int .i64 (X k))
def TabIn (lo : Nat) (w : World) (v : Value) (T : TV) : Prop := ∃ aS kS aA kA, v = .agg #[.slice aS T.nS kS, .slice aA T.nA kA] ∧ RowIn lo w aS T.nS T.S ∧ RowIn lo w aA T.nA T.A
theorem RowIn.mono {lo lo' : Nat} {w : World} {a : Option Addr} {n : Nat} {X : Nat → Int} (h : RowIn lo w a n X) (hl : lo' ≤ lo) : RowIn lo' w a n X := by
  rcases h with h | ⟨b, o, e, h1, h2, h3⟩
  · exact .inl h
  · exact .inr ⟨b, o, e, by omega, h2, h3⟩
theorem TabIn.mono {lo lo' : Nat} {w : World} {v : Value} {T : TV} (h : TabIn lo w v T) (hl : lo' ≤ lo) : TabIn lo' w v T := by
  obtain ⟨aS, kS, aA, kA, e, h1, h2⟩ := h
  exact ⟨aS, kS, aA, kA, e, h1.mono hl, h2.mono hl⟩
theorem RowIn.row {lo : Nat} {w : World} {a : Option Addr} {n : Nat} {X : Nat → Int} (h : RowIn lo w a n X) : Row1 w a n X := by
  rcases h with h | ⟨b, o, e, h1, h2, h3⟩
  · exact .inl h
  · exact .inr ⟨b, o, e, h2, h3⟩
theorem TabIn.at {lo : Nat} {w : World} {v : Value} {T : TV} (h : TabIn lo w v T) : TabAt w v T := by
  obtain ⟨aS, kS, aA, kA, e, h1, h2⟩ := h
  exact ⟨aS, kS, aA, kA, e, h1.row, h2.row⟩
theorem maOk_any (w : World) : Calls Try.prog 10 #[] w fun e w' => e = .returned (.bool true) ∧ Below w.heap.size w w' := by
  have hok : okB 2 2 = true := by decide
  have hcon := ok_impl 2 2 w
  rw [hok] at hcon
  clear hok
  go_enter Try.func10, Try.ntmps10
  go_wp2_with (go_at_call 25; refine hcon.mono ?_; rintro e w' ⟨rfl, hb⟩)
  go_ret
  exact ⟨rfl, hb⟩
end Go.Proofs.Ytjllgmkficjiaaa
