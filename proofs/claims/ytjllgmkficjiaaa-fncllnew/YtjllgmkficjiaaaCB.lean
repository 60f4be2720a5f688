/- What is carried: lemmas on lists, cells and draws; conditions: those typed. -/
import Derived.WalkKit
import Derived.ProofKit
import Derived.OpenShut
import Derived.Below
import Derived.Test.YtjllgmkficjiaaaRows
import Derived.WalkSpells
import Derived.Test.YtjllgmkficjiaaaProg
import Derived.Deep.RegionHeld3
import Derived.Deep.QuietTactic
import Derived.BigQuiet
import Derived.LoopTactic
import Derived.Deep.OwnRows
import Derived.Laws.IdiomCopy
import Derived.Deep.Slices
import Derived.Maps.Keyed
import Derived.Maps.AppendAt
import Derived.Maps.RangeWalk
import Derived.OwnWalk
import Derived.Lib.AppendZerosOnto
import Derived.Laws.Bits64
import Derived.Deep.RegionWith
import Derived.Deep.RegionHeld
import Derived.Deep.DeepCutAuto
import Derived.Test.YtjllgmkficjiaaaCA
namespace Go.Proofs.Ytjllgmkficjiaaa
open Go.RowKit Go.ChangeShapes Go.WideShapes Go.ChangeAt
end Go.Proofs.Ytjllgmkficjiaaa
namespace Go.Proofs.Ytjllgmkficjiaaa
open Go.RowKit
set_option linter.unusedVariables false
end Go.Proofs.Ytjllgmkficjiaaa
namespace Go.Proofs
set_option maxRecDepth 100000
end Go.Proofs
namespace Go.Proofs.Ytjllgmkficjiaaa
open Go.RowKit
set_option linter.unusedVariables false
end Go.Proofs.Ytjllgmkficjiaaa
namespace Go.Proofs.Ytjllgmkficjiaaa
open Go.RowKit Go.Deep
set_option linter.unusedVariables false
end Go.Proofs.Ytjllgmkficjiaaa
namespace Go.Proofs.Ytjllgmkficjiaaa
open Go.RowKit Go.ChangeShapes Go.WideShapes Go.ChangeAt Go.Deep
end Go.Proofs.Ytjllgmkficjiaaa
namespace Go.Proofs.Ytjllgmkficjiaaa
open Go.RowKit Go.Deep
set_option linter.unusedVariables false
theorem cells_below {w w' : World} {b o n : Nat} {Z : Nat → Nat → Int} (h : ∀ k j, k < n → j < 5 → w.cell? ⟨b, o + k * 5 + j, none⟩ = some (.int .i64 (Z k j))) (hlt : b < w.heap.size) (hb : Below w.heap.size w w') :
    ∀ k j, k < n → j < 5 → w'.cell? ⟨b, o + k * 5 + j, none⟩ = some (.int .i64 (Z k j)) := fun k j hk hj => (hb.cell (p := ⟨b, _, none⟩) hlt).trans (h k j hk hj)
end Go.Proofs.Ytjllgmkficjiaaa
namespace Go.Proofs.Ytjllgmkficjiaaa
open Go.RowKit Go.Maps Go.WideMaps Go.ChangeMaps Go.MapKept
set_option linter.unusedVariables false
theorem grown_of_below {w w' : World} (h : Below w.heap.size w w') : w.grownBy w' none := ⟨h.os, h.tape, h.output, h.size, fun k hk _ => h.block k hk⟩
end Go.Proofs.Ytjllgmkficjiaaa
namespace Go.Proofs.Ytjllgmkficjiaaa
open Go.RowKit Go.Deep Go.Maps
set_option linter.unusedVariables false
end Go.Proofs.Ytjllgmkficjiaaa
namespace Go.Proofs.Ytjllgmkficjiaaa
open Go.RowKit Go.Deep Go.Maps Go.MapKept
set_option linter.unusedVariables false
/-- The places of those that have not the number id. -/
def rest (Z : Nat → Nat → Int) (n : Nat) (id : Int) : List Nat := (List.range n).filter (fun k => decide (Z k 0 ≠ id))
/-- The flat row's t-th cell. -/
theorem get_flat {α : Type} [Inhabited α] {m : Nat} (f : α → List Value) (hf : ∀ x, (f x).length = m) : ∀ (L : List α) (i c : Nat), i < L.length → c < m → (L.flatMap f)[i * m + c]? = some (f L[i]!)[c]!
  | [], i, c, hi, _ => absurd hi (by simp)
  | x :: r, 0, c, _, hc => by
    rw [List.flatMap_cons, List.getElem?_append_left (by rw [hf]; omega)]
    have : c < (f x).length := by rw [hf]; exact hc
    simp [this]
  | x :: r, i + 1, c, hi, hc => by
    have h := get_flat f hf r i c (by simpa using hi) hc
    rw [List.flatMap_cons, List.getElem?_append_right (by rw [hf, Nat.add_mul]; omega), hf]
    rw [show (i + 1) * m + c - m = i * m + c by rw [Nat.add_mul]; omega, h]
    simp
end Go.Proofs.Ytjllgmkficjiaaa
namespace Go.Proofs.Ytjllgmkficjiaaa
open Go.RowKit Go.Deep Go.Maps Go.Lib
set_option linter.unusedVariables false
end Go.Proofs.Ytjllgmkficjiaaa
namespace Go.Proofs.Ytjllgmkficjiaaa
open Go.RowKit Go.Deep Go.Maps Go.MapKept
set_option linter.unusedVariables false
/-- The cells of the k-th walker. -/
def five (Z : Nat → Nat → Int) (k : Nat) : List Value := [.int .i64 (Z k 0), .int .i64 (Z k 1), .int .i64 (Z k 2), .int .i64 (Z k 3), .int .i64 (Z k 4)]
end Go.Proofs.Ytjllgmkficjiaaa
namespace Go.Proofs.Ytjllgmkficjiaaa
open Go.RowKit Go.Deep Go.Maps
set_option linter.unusedVariables false
theorem ownsRow_base {w : World} {base base' : Nat} {e : TypeId} {size : Nat} {v : Value} {n : Nat} {xs : List Value} (h : w.ownsRow base e size v n xs) (hb : base' ≤ base) : w.ownsRow base' e size v n xs := by
  refine ⟨h.1, ?_⟩
  rcases h.2 with h | ⟨g, cap, cur, hv, hg, r⟩
  · exact .inl h
  · exact .inr ⟨g, cap, cur, hv, Nat.le_trans hb hg, r⟩
/-- A slice of the call's own, not nil, that holds the walkers L of Z. -/
def Walks (w : World) (base : Nat) (v : Value) (L : List Nat) (Z : Nat → Nat → Int) : Prop :=
  ∃ g cap, v = .slice (some ⟨g, 0, none⟩) L.length cap ∧ w.ownsRow base 46 5 v L.length (L.flatMap (five Z))
theorem rest_next (Z : Nat → Nat → Int) (k : Nat) (z : Int) : rest Z (k + 1) z = rest Z k z ++ (if Z k 0 ≠ z then [k] else []) := by
  unfold rest
  rw [List.range_succ, List.filter_append]
  congr 1
  by_cases h : Z k 0 = z <;> simp [h]
theorem rest_len (Z : Nat → Nat → Int) (k : Nat) (z : Int) : (rest Z k z).length ≤ k := by
  have := (List.filter_sublist (p := fun k => decide (Z k 0 ≠ z)) (l := List.range k)).length_le
  rw [List.length_range] at this
  exact this
set_option maxHeartbeats 1000000 in
set_option maxRecDepth 20000 in
theorem out_spec (z : Int) (b o n cap : Nat) (Z : Nat → Nat → Int) (hn : n ≤ 1048576) (w : World) (hb : b < w.heap.size)
    (hr : ∀ k j, k < n → j < 5 → w.cell? ⟨b, o + k * 5 + j, none⟩ = some (.int .i64 (Z k j))) :
    Calls Try.prog 36 #[.slice (some ⟨b, o, none⟩) n cap, .int .i64 z] w fun e w' => ∃ v, e = .returned v ∧ Walks w' w.heap.size v (rest Z n z) Z ∧ Below w.heap.size w w' := by
  have HR : Hid (∀ k j, k < n → j < 5 → w.cell? ⟨b, o + k * 5 + j, none⟩ = some (.int .i64 (Z k j))) := hr
  clear hr
  obtain ⟨i5, hi5, hz50, hz51, hz52⟩ := info_parts Try.info46
  go_enter Try.func36, Try.ntmps36
  go_wp2
  go_loopw [5, 6] (fun s i wr => ∃ (k : Nat) (v : Value), k ≤ n ∧ .int .i64 k = i ∧ v = s ∧ v ≠ .slice none 0 0 ∧ wr.ownsRow w.heap.size 46 5 v (rest Z k z).length ((rest Z k z).flatMap (five Z)) ∧ w.heap.size ≤ wr.heap.size ∧ Below w.heap.size w wr) (fun _ i _ => n - (intOf i).toNat)
  case atStart => exact ⟨0, _, Nat.zero_le _, rfl, rfl, by simp, World.ownsRow_lit w #[] 0 (Nat.le_refl _) (by simp) (by simp), by simp, (Below.refl _ _).alloc (by simp) _⟩
  case round =>
    obtain ⟨k, v, hk, rfl, rfl, hnn, ho, hsz, hbel⟩ := hrel
    by_cases hkn : k < n
    · have hkn' : (k : Int) < (n : Int) := by omega
      have c0 : wr.cell? ⟨b, o + k * 5, none⟩ = some (.int .i64 (Z k 0)) := (hbel.cell (by exact hb)).trans (HR.out k 0 hkn (by omega))
      have c1 : wr.cell? ⟨b, o + k * 5 + 1, none⟩ = some (.int .i64 (Z k 1)) := (hbel.cell (by exact hb)).trans (HR.out k 1 hkn (by omega))
      have c2 : wr.cell? ⟨b, o + k * 5 + 2, none⟩ = some (.int .i64 (Z k 2)) := (hbel.cell (by exact hb)).trans (HR.out k 2 hkn (by omega))
      have c3 : wr.cell? ⟨b, o + k * 5 + 3, none⟩ = some (.int .i64 (Z k 3)) := (hbel.cell (by exact hb)).trans (HR.out k 3 hkn (by omega))
      have c4 : wr.cell? ⟨b, o + k * 5 + 4, none⟩ = some (.int .i64 (Z k 4)) := (hbel.cell (by exact hb)).trans (HR.out k 4 hkn (by omega))
      have HLEN : Hid ((rest Z k z).length ≤ k) := rest_len Z k z
      by_cases hz : Z k 0 = z
      · have ez : (Z k 0 == z) = true := by simp [hz]
        have HO : Hid (wr.ownsRow w.heap.size 46 5 v (rest Z (k + 1) z).length ((rest Z (k + 1) z).flatMap (five Z))) := by
          unfold Hid
          rw [rest_next, if_neg (by simp [hz]), List.append_nil]
          exact ho
        have HNN : Hid (v ≠ .slice none 0 0) := hnn
        clear ho hz hnn
        go_wp2
        go_roundw
        case rel => exact ⟨k + 1, _, by omega, by go_num, rfl, HNN.out, HO.out, hsz, hbel⟩
        case measure => simp [intOf]; omega
      · have ez : (Z k 0 == z) = false := by simp [hz]
        have HZ : Hid (¬ Z k 0 = z) := hz
        have HNN : Hid (v ≠ .slice none 0 0) := hnn
        clear hz hnn
        go_wp2_with (at_builtin; refine wpList_append_own _ rfl _ _ 25 rfl w.heap.size 46 i5 (.agg #[.int .i64 0, .int .i64 0, .int .i64 0, .int .i64 0, .int .i64 0]) 5 40 Try.underlying25 hi5 hz50 hz51 hz52 rfl (by decide) _ _ _ rfl (ho.alloc _) ⟨wr.heap.size, 0, none⟩ 1 1 (five Z k) rfl rfl ?d1 ?d2 ?d3 ?d4 ?d5 ?_)
        case d1 =>
          intro j u hj
          match j, hj with
          | 0, hj => simp [five] at hj; subst hj; simp [Addr.add]
          | 1, hj => simp [five] at hj; subst hj; simp [Addr.add]
          | 2, hj => simp [five] at hj; subst hj; simp [Addr.add]
          | 3, hj => simp [five] at hj; subst hj; simp [Addr.add]
          | 4, hj => simp [five] at hj; subst hj; simp [Addr.add]
          | j + 5, hj => simp [five] at hj
        case d2 => intro u hu; simp [five] at hu; rcases hu with rfl | rfl | rfl | rfl | rfl <;> rfl
        case d3 => have := HLEN.out; unfold maxLen; omega
        case d4 => have := HLEN.out; omega
        case d5 => simp; omega
        · intro v' w2 hown' hg2 hnil
          have hall := (World.grownBy_alloc wr _ _).trans hg2
          have HO : Hid (w2.ownsRow w.heap.size 46 5 v' (rest Z (k + 1) z).length ((rest Z (k + 1) z).flatMap (five Z))) := by
            unfold Hid
            rw [rest_next, if_pos HZ.out, List.length_append, List.flatMap_append]
            simpa using hown'
          have HNN' : Hid (v' ≠ .slice none 0 0) := hnil
          have hs2 : w.heap.size ≤ w2.heap.size := Nat.le_trans hsz hall.size
          have hb2 : Below w.heap.size w w2 := hbel.grown hall hsz (fun kk e => (ho.lt kk e).1)
          clear hown' hg2 hnil hall ho c0 c1 c2 c3 c4 HZ HNN
          go_wp2
          go_roundw
          case rel => exact ⟨k + 1, _, by omega, by go_num, rfl, HNN'.out, HO.out, hs2, hb2⟩
          case measure => simp [intOf]; omega
    · have hkn' : k = n := by omega
      subst hkn'
      have HO : Hid (wr.ownsRow w.heap.size 46 5 v (rest Z k z).length ((rest Z k z).flatMap (five Z))) := ho
      have HW : Hid (Walks wr w.heap.size v (rest Z k z) Z) := by
        rcases ho.2 with ⟨e, _⟩ | ⟨g, c, _, e, _⟩
        · exact absurd e hnn
        · exact ⟨g, c, e, ho⟩
      clear ho hnn
      go_wp2
      go_ret
      exact ⟨_, rfl, HW.out, hbel⟩
end Go.Proofs.Ytjllgmkficjiaaa
namespace Go.Proofs.Ytjllgmkficjiaaa
open Go.RowKit Go.Deep Go.Maps
set_option linter.unusedVariables false
/-- The marks. -/
def M (k j : Nat) : Int := ((1 + k * 5 + j : Nat) : Int)
theorem Walks.kept {w w' : World} {base : Nat} {v : Value} {L : List Nat} {Z : Nat → Nat → Int} {row : Option Nat} (h : Walks w base v L Z) (hg : w.grownBy w' row) (hne : v.ownBlock ≠ row) : Walks w' base v L Z := by
  obtain ⟨g, cap, hv, ho⟩ := h
  exact ⟨g, cap, hv, ho.kept hg (.inr hne)⟩
theorem Walks.below {w w' : World} {base : Nat} {v : Value} {L : List Nat} {Z : Nat → Nat → Int} (h : Walks w base v L Z) (hb : Below w.heap.size w w') : Walks w' base v L Z := by
  obtain ⟨g, cap, hv, ho⟩ := h
  exact ⟨g, cap, hv, ho.kept (grown_of_below hb) (by subst hv; simp [Value.ownBlock])⟩
theorem Walks.block {w : World} {base : Nat} {v : Value} {L : List Nat} {Z : Nat → Nat → Int} (h : Walks w base v L Z) : ∃ g, v.ownBlock = some g ∧ base ≤ g ∧ g < w.heap.size := by
  obtain ⟨g, cap, rfl, ho⟩ := h
  exact ⟨g, rfl, ho.lt g rfl⟩
theorem Walks.own {w : World} {base : Nat} {v : Value} {L : List Nat} {Z : Nat → Nat → Int} (h : Walks w base v L Z) : ∃ g cap, v = .slice (some ⟨g, 0, none⟩) L.length cap ∧ base ≤ g ∧ g < w.heap.size ∧ Own5 w g L.length (fun k j => Z L[k]! j) L.length := by
  obtain ⟨g, cap, rfl, ho⟩ := h
  refine ⟨g, cap, rfl, (ho.lt g rfl).1, (ho.lt g rfl).2, fun i hi => ⟨?_, ho.frozenAt i⟩, fun k j hk hj => ?_⟩
  · rw [ho.cellAt i hi]
    have : i < (L.flatMap (five Z)).length := by rw [ho.1]; exact hi
    rw [List.getElem?_eq_getElem this]
    rfl
  · rw [ho.cellAt (k * 5 + j) (by omega), get_flat (m := 5) (five Z) (fun _ => rfl) L k j hk hj]
    match j, hj with
    | 0, _ => rfl
    | 1, _ => rfl
    | 2, _ => rfl
    | 3, _ => rfl
    | 4, _ => rfl
end Go.Proofs.Ytjllgmkficjiaaa
namespace Go.Proofs.Ytjllgmkficjiaaa
open Go.RowKit Go.Deep Go.Maps
set_option linter.unusedVariables false
/-- A slice of the call's own that bears marks. -/
def Marked (w : World) (base : Nat) (v : Value) (N : Nat) : Prop := ∃ g cap, v = .slice (some ⟨g, 0, none⟩) N cap ∧ base ≤ g ∧ g < w.heap.size ∧ Own5 w g N M N
theorem Marked.below {w w' : World} {base : Nat} {v : Value} {N : Nat} (h : Marked w base v N) (hb : Below w.heap.size w w') : Marked w' base v N := by
  obtain ⟨g, cap, hv, h1, h2, h3⟩ := h
  exact ⟨g, cap, hv, h1, Nat.lt_of_lt_of_le h2 hb.size, own_below h3 h2 hb⟩
end Go.Proofs.Ytjllgmkficjiaaa
namespace Go.Proofs.Ytjllgmkficjiaaa
open Go.RowKit Go.Deep Go.Maps
set_option linter.unusedVariables false
/-- Where the n-th of Z belongs among L. -/
def spot (Z : Nat → Nat → Int) (n : Nat) (L : List Nat) : Nat := L.findIdx (fun k => decide (Z n 0 < Z k 0))
/-- L with n put there. -/
def putAt (Z : Nat → Nat → Int) (n : Nat) (L : List Nat) : List Nat := L.take (spot Z n L) ++ n :: L.drop (spot Z n L)
/-- The walkers of Z's first n with the n-th one put among them. -/
def putL (Z : Nat → Nat → Int) (n : Nat) : List Nat := putAt Z n (rest Z n (Z n 0))
theorem spot_le (Z : Nat → Nat → Int) (n : Nat) (L : List Nat) : spot Z n L ≤ L.length := List.findIdx_le_length
theorem spot_lt {Z : Nat → Nat → Int} {n : Nat} {L : List Nat} {k : Nat} (h : k < spot Z n L) : ¬ Z n 0 < Z L[k]! 0 := by
  have h2 := List.not_of_lt_findIdx h
  have hk : k < L.length := Nat.lt_of_lt_of_le h (spot_le Z n L)
  rw [getElem!_pos L k hk]
  simpa using h2
theorem spot_at {Z : Nat → Nat → Int} {n : Nat} {L : List Nat} (h : spot Z n L < L.length) : Z n 0 < Z L[spot Z n L]! 0 := by
  have h2 := List.findIdx_getElem (p := fun k => decide (Z n 0 < Z k 0)) (xs := L) (w := h)
  rw [getElem!_pos L (spot Z n L) h]
  exact of_decide_eq_true h2
theorem putAt_len (Z : Nat → Nat → Int) (n : Nat) (L : List Nat) : (putAt Z n L).length = L.length + 1 := by
  have := spot_le Z n L
  unfold putAt
  simp
  omega
end Go.Proofs.Ytjllgmkficjiaaa
namespace Go.Proofs.Ytjllgmkficjiaaa
open Go.RowKit Go.Deep Go.Maps Go.Lib
set_option linter.unusedVariables false
theorem five_one (Z : Nat → Nat → Int) (L : List Nat) : ∀ u ∈ L.flatMap (five Z), u.oneCell' = true := by
  intro u hu
  obtain ⟨k, _, hk⟩ := List.mem_flatMap.1 hu
  simp [five] at hk
  rcases hk with rfl | rfl | rfl | rfl | rfl <;> rfl
end Go.Proofs.Ytjllgmkficjiaaa
namespace Go.Proofs.Ytjllgmkficjiaaa
open Go.RowKit Go.Deep Go.Maps
set_option linter.unusedVariables false
theorem walks_base {w : World} {base base' : Nat} {v : Value} {L : List Nat} {Z : Nat → Nat → Int} (h : Walks w base v L Z) (hb : base' ≤ base) : Walks w base' v L Z := by
  obtain ⟨g, cap, hv, ho⟩ := h
  exact ⟨g, cap, hv, ownsRow_base ho hb⟩
end Go.Proofs.Ytjllgmkficjiaaa
namespace Go.Proofs.Ytjllgmkficjiaaa
open Go.RowKit Go.Deep Go.Maps
set_option linter.unusedVariables false
/-- What the model has written behind k rounds. -/
def pre (Z : Nat → Nat → Int) (n : Nat) (L : List Nat) (k : Nat) : List Nat := if k ≤ spot Z n L then L.take k else L.take (spot Z n L) ++ n :: (L.take k).drop (spot Z n L)
theorem take_next {L : List Nat} {k : Nat} (hk : k < L.length) : L.take (k + 1) = L.take k ++ [L[k]!] := by
  rw [List.take_succ_eq_append_getElem hk, getElem!_pos L k hk]
theorem pre_lt {Z : Nat → Nat → Int} {n : Nat} {L : List Nat} {k : Nat} (hk : k < L.length) (h : k < spot Z n L) : pre Z n L (k + 1) = pre Z n L k ++ [L[k]!] := by
  unfold pre
  rw [if_pos (by omega), if_pos (by omega), take_next hk]
theorem pre_eq {Z : Nat → Nat → Int} {n : Nat} {L : List Nat} {k : Nat} (hk : k < L.length) (h : k = spot Z n L) : pre Z n L (k + 1) = pre Z n L k ++ [n] ++ [L[k]!] := by
  unfold pre
  rw [if_neg (by omega), if_pos (by omega), take_next hk, ← h, List.drop_append_of_le_length (by simp; omega), List.drop_of_length_le (by simp; omega)]
  simp
theorem pre_gt {Z : Nat → Nat → Int} {n : Nat} {L : List Nat} {k : Nat} (hk : k < L.length) (h : spot Z n L < k) : pre Z n L (k + 1) = pre Z n L k ++ [L[k]!] := by
  unfold pre
  rw [if_neg (by omega), if_neg (by omega), take_next hk, List.drop_append_of_le_length (by simp; omega)]
  simp
theorem pre_done {Z : Nat → Nat → Int} {n : Nat} {L : List Nat} (h : spot Z n L < L.length) : pre Z n L L.length = putAt Z n L := by
  unfold pre putAt
  rw [if_neg (by omega), List.take_length]
theorem pre_not {Z : Nat → Nat → Int} {n : Nat} {L : List Nat} (h : ¬ spot Z n L < L.length) : pre Z n L L.length ++ [n] = putAt Z n L := by
  have := spot_le Z n L
  unfold pre putAt
  rw [if_pos (by omega), show spot Z n L = L.length by omega, List.drop_length]
theorem pre_len {Z : Nat → Nat → Int} {n : Nat} {L : List Nat} (k : Nat) : (pre Z n L k).length ≤ k + 1 := by
  have := spot_le Z n L
  unfold pre
  split
  · simp; omega
  · simp; omega
theorem five_cells (w : World) (Z : Nat → Nat → Int) (k : Nat) (t : TypeId) : ∀ j u, (five Z k)[j]? = some u → (w.alloc (.cells #[.int .i64 (Z k 0), .int .i64 (Z k 1), .int .i64 (Z k 2), .int .i64 (Z k 3), .int .i64 (Z k 4)] t)).cell? ((⟨w.heap.size, 0, none⟩ : Addr).add j) = some u := by
  intro j u hj
  match j, hj with
  | 0, hj => simp [five] at hj; subst hj; simp [Addr.add]
  | 1, hj => simp [five] at hj; subst hj; simp [Addr.add]
  | 2, hj => simp [five] at hj; subst hj; simp [Addr.add]
  | 3, hj => simp [five] at hj; subst hj; simp [Addr.add]
  | 4, hj => simp [five] at hj; subst hj; simp [Addr.add]
  | j + 5, hj => simp [five] at hj
theorem five_one1 (Z : Nat → Nat → Int) (k : Nat) : ∀ u ∈ five Z k, u.oneCell' = true := fun u hu => five_one Z [k] u (by simpa using hu)
set_option maxRecDepth 20000 in
set_option maxHeartbeats 4000000 in
theorem put_spec (b o n cap : Nat) (Z : Nat → Nat → Int) (hn : n ≤ 1048576) (w : World) (hb : b < w.heap.size)
    (hr : ∀ k j, k < n → j < 5 → w.cell? ⟨b, o + k * 5 + j, none⟩ = some (.int .i64 (Z k j))) :
    Calls Try.prog 29 #[.slice (some ⟨b, o, none⟩) n cap, .agg #[.int .i64 (Z n 0), .int .i64 (Z n 1), .int .i64 (Z n 2), .int .i64 (Z n 3), .int .i64 (Z n 4)]] w fun e w' => ∃ v, e = .returned v ∧ Walks w' w.heap.size v (putL Z n) Z ∧ Below w.heap.size w w' := by
  obtain ⟨i5, hi5, hz50, hz51, hz52⟩ := info_parts Try.info46
  have hb0 : ∀ o : Obj, Below w.heap.size w (w.alloc o) := fun o => (Below.refl _ _).alloc (Nat.le_refl _) o
  have HB0 : Hid (∀ o : Obj, Below w.heap.size w (w.alloc o)) := hb0
  have HC : Hid (∀ ob : Obj, Calls Try.prog 36 #[.slice (some ⟨b, o, none⟩) n cap, .int .i64 (Z n 0)] (w.alloc ob) fun e w' => ∃ v, e = .returned v ∧ Walks w' (w.heap.size + 1) v (rest Z n (Z n 0)) Z ∧ Below (w.heap.size + 1) (w.alloc ob) w') := fun ob => by
    have := out_spec (Z n 0) b o n cap Z hn (w.alloc ob) (by simp; omega) (cells_below hr hb (hb0 ob))
    simpa using this
  have hLn : (rest Z n (Z n 0)).length ≤ 1048576 := Nat.le_trans (rest_len Z n (Z n 0)) hn
  have HLn : Hid ((rest Z n (Z n 0)).length ≤ 1048576) := hLn
  clear hr hb0 hLn
  go_enter Try.func29, Try.ntmps29
  go_wp2_with fail
  refine (HC.out _).mono ?_
  rintro e w1 ⟨v, rfl, hW, hb1⟩
  have x0 : w1.cell? ⟨w.heap.size, 0, none⟩ = some (.int .i64 (Z n 0)) := (hb1.cell (p := ⟨w.heap.size, 0, none⟩) (by simp)).trans (by simp)
  have x1 : w1.cell? ⟨w.heap.size, 1, none⟩ = some (.int .i64 (Z n 1)) := (hb1.cell (p := ⟨w.heap.size, 1, none⟩) (by simp)).trans (by simp)
  have x2 : w1.cell? ⟨w.heap.size, 2, none⟩ = some (.int .i64 (Z n 2)) := (hb1.cell (p := ⟨w.heap.size, 2, none⟩) (by simp)).trans (by simp)
  have x3 : w1.cell? ⟨w.heap.size, 3, none⟩ = some (.int .i64 (Z n 3)) := (hb1.cell (p := ⟨w.heap.size, 3, none⟩) (by simp)).trans (by simp)
  have x4 : w1.cell? ⟨w.heap.size, 4, none⟩ = some (.int .i64 (Z n 4)) := (hb1.cell (p := ⟨w.heap.size, 4, none⟩) (by simp)).trans (by simp)
  have hs1 : w.heap.size < w1.heap.size := by have := hb1.size; simp at this; omega
  have B1 : Below w.heap.size w w1 := (HB0.out _).trans (hb1.mono (Nat.le_succ _))
  obtain ⟨L, hL⟩ : ∃ L, L = rest Z n (Z n 0) := ⟨_, rfl⟩
  have HPL : Hid (putL Z n = putAt Z n L) := by rw [hL]; rfl
  rw [← hL] at hW HLn
  obtain ⟨g, c, hv, hbg, hgl, hown⟩ := hW.own
  subst hv
  have HR : Hid (∀ k j, k < L.length → j < 5 → w1.cell? ⟨g, k * 5 + j, none⟩ = some (.int .i64 (Z L[k]! j))) := fun k j hk hj => hown.2 k j hk hj
  have HS : Hid (spot Z n L ≤ L.length) := spot_le Z n L
  have HX : Hid (w1.cell? ⟨w.heap.size, 0, none⟩ = some (.int .i64 (Z n 0)) ∧ w1.cell? ⟨w.heap.size, 1, none⟩ = some (.int .i64 (Z n 1)) ∧ w1.cell? ⟨w.heap.size, 2, none⟩ = some (.int .i64 (Z n 2)) ∧ w1.cell? ⟨w.heap.size, 3, none⟩ = some (.int .i64 (Z n 3)) ∧ w1.cell? ⟨w.heap.size, 4, none⟩ = some (.int .i64 (Z n 4))) := ⟨x0, x1, x2, x3, x4⟩
  clear hW hb1 HC hL HB0 hown x0 x1 x2 x3 x4 hbg
  go_wp2
  go_loopw [6, 7, 8] (fun s d i wr => ∃ (k : Nat) (v : Value), k ≤ L.length ∧ .int .i64 k = i ∧ v = s ∧ .bool (decide (spot Z n L < k)) = d ∧ v ≠ .slice none 0 0 ∧ wr.ownsRow w1.heap.size 46 5 v (pre Z n L k).length ((pre Z n L k).flatMap (five Z)) ∧ w1.heap.size ≤ wr.heap.size ∧ Below w1.heap.size w1 wr) (fun _ _ i _ => L.length - (intOf i).toNat)
  case atStart => exact ⟨0, _, Nat.zero_le _, rfl, rfl, by simp, by simp, World.ownsRow_lit w1 #[] 0 (Nat.le_refl _) (by simp) (by simp), by simp, (Below.refl _ _).alloc (by simp) _⟩
  case round =>
    obtain ⟨k, v, hk, rfl, rfl, rfl, hnn, ho, hsz, hbel⟩ := hrel
    have x0 : wr.cell? ⟨w.heap.size, 0, none⟩ = some (.int .i64 (Z n 0)) := (hbel.cell (by exact hs1)).trans HX.out.1
    have x1 : wr.cell? ⟨w.heap.size, 1, none⟩ = some (.int .i64 (Z n 1)) := (hbel.cell (by exact hs1)).trans HX.out.2.1
    have x2 : wr.cell? ⟨w.heap.size, 2, none⟩ = some (.int .i64 (Z n 2)) := (hbel.cell (by exact hs1)).trans HX.out.2.2.1
    have x3 : wr.cell? ⟨w.heap.size, 3, none⟩ = some (.int .i64 (Z n 3)) := (hbel.cell (by exact hs1)).trans HX.out.2.2.2.1
    have x4 : wr.cell? ⟨w.heap.size, 4, none⟩ = some (.int .i64 (Z n 4)) := (hbel.cell (by exact hs1)).trans HX.out.2.2.2.2
    have HNN : Hid (v ≠ .slice none 0 0) := hnn
    have hll : L.length ≤ 1048576 := HLn.out
    have HPN : Hid ((pre Z n L k).length ≤ k + 1) := pre_len k
    clear hnn
    by_cases hkn : k < L.length
    · have hkn' : (k : Int) < (L.length : Int) := by omega
      obtain ⟨p, hp⟩ : ∃ p, L[k]! = p := ⟨_, rfl⟩
      have HP0 : Hid (L[k]! = p) := hp
      have HP1 : Hid (k = spot Z n L → Z n 0 < Z p 0) := fun e => by rw [← hp, e]; exact spot_at (by rw [← e]; exact hkn)
      have HP2 : Hid (k < spot Z n L → decide (Z n 0 < Z p 0) = false) := fun e => by rw [← hp]; exact decide_eq_false (spot_lt e)
      have c0 : wr.cell? ⟨g, k * 5, none⟩ = some (.int .i64 (Z p 0)) := (hbel.cell (by exact hgl)).trans (by rw [← hp]; exact HR.out k 0 hkn (by omega))
      have c1 : wr.cell? ⟨g, k * 5 + 1, none⟩ = some (.int .i64 (Z p 1)) := (hbel.cell (by exact hgl)).trans (by rw [← hp]; exact HR.out k 1 hkn (by omega))
      have c2 : wr.cell? ⟨g, k * 5 + 2, none⟩ = some (.int .i64 (Z p 2)) := (hbel.cell (by exact hgl)).trans (by rw [← hp]; exact HR.out k 2 hkn (by omega))
      have c3 : wr.cell? ⟨g, k * 5 + 3, none⟩ = some (.int .i64 (Z p 3)) := (hbel.cell (by exact hgl)).trans (by rw [← hp]; exact HR.out k 3 hkn (by omega))
      have c4 : wr.cell? ⟨g, k * 5 + 4, none⟩ = some (.int .i64 (Z p 4)) := (hbel.cell (by exact hgl)).trans (by rw [← hp]; exact HR.out k 4 hkn (by omega))
      clear hp
      rcases Nat.lt_trichotomy k (spot Z n L) with hlt | heq | hgt
      · have hd : decide (spot Z n L < k) = false := decide_eq_false (by omega)
        have hd2 : decide (Z n 0 < Z p 0) = false := HP2.out hlt
        rw [hd]
        have HLT : Hid (k < spot Z n L) := hlt
        clear hlt hd
        go_wp2_with fail
        go_quiet (fail)
        go_wp2_with (at_builtin; refine wpList_append_own _ rfl _ _ 25 rfl w1.heap.size 46 i5 (.agg #[.int .i64 0, .int .i64 0, .int .i64 0, .int .i64 0, .int .i64 0]) 5 40 Try.underlying25 hi5 hz50 hz51 hz52 rfl (by decide) _ _ _ rfl (ho.alloc _) ⟨wr.heap.size, 0, none⟩ 1 1 (five Z p) rfl rfl (five_cells _ Z p 46) (five_one1 Z p) ?d3 ?d4 ?d5 ?_)
        case d3 => have := HPN.out; have := HLn.out; unfold maxLen; omega
        case d4 => have := HPN.out; have := HLn.out; omega
        case d5 => simp; omega
        · intro v' w2 hown' hg2 hnil
          have hall0 := (World.grownBy_alloc (wr.drewN nq) _ _).trans hg2
          have hall : wr.grownBy w2 v.ownBlock := ⟨hall0.os, hall0.tape, hall0.output, hall0.size, hall0.block⟩
          clear hall0
          have HO : Hid (w2.ownsRow w1.heap.size 46 5 v' (pre Z n L (k + 1)).length ((pre Z n L (k + 1)).flatMap (five Z))) := by
            unfold Hid
            rw [pre_lt hkn HLT.out, HP0.out, List.length_append, List.flatMap_append]
            simpa using hown'
          have HNN' : Hid (v' ≠ .slice none 0 0) := by
            intro e
            have h0 := HNN.out
            simp [e] at hnil
          have hs2 : w1.heap.size ≤ w2.heap.size := Nat.le_trans hsz hall.size
          have hb2 : Below w1.heap.size w1 w2 := hbel.grown hall hsz (fun kk e => (ho.lt kk e).1)
          clear hown' hg2 hnil hall ho c0 c1 c2 c3 c4 HNN x0 x1 x2 x3 x4
          go_wp2
          go_roundw
          case rel => exact ⟨k + 1, _, by omega, by go_num, rfl, by have := HLT.out; rw [decide_eq_false (by omega)], HNN'.out, HO.out, hs2, hb2⟩
          case measure => simp [intOf]; omega
      · have hd : decide (spot Z n L < k) = false := decide_eq_false (by omega)
        have hd2 : decide (Z n 0 < Z p 0) = true := decide_eq_true (HP1.out heq)
        rw [hd]
        have HEQ : Hid (k = spot Z n L) := heq
        clear heq hd
        go_wp2_with fail
        go_quiet (fail)
        go_wp2_with (at_builtin; refine wpList_append_own _ rfl _ _ 25 rfl w1.heap.size 46 i5 (.agg #[.int .i64 0, .int .i64 0, .int .i64 0, .int .i64 0, .int .i64 0]) 5 40 Try.underlying25 hi5 hz50 hz51 hz52 rfl (by decide) _ _ _ rfl (ho.alloc _) ⟨wr.heap.size, 0, none⟩ 1 1 (five Z n) rfl rfl (five_cells _ Z n 46) (five_one1 Z n) ?d3 ?d4 ?d5 ?_)
        case d3 => have := HPN.out; have := HLn.out; unfold maxLen; omega
        case d4 => have := HPN.out; have := HLn.out; omega
        case d5 => simp; omega
        · intro v1 w2 hown' hg2 hnil
          have hall0 := (World.grownBy_alloc (wr.drewN nq) _ _).trans hg2
          have hall : wr.grownBy w2 v.ownBlock := ⟨hall0.os, hall0.tape, hall0.output, hall0.size, hall0.block⟩
          clear hall0
          have HO1 : w2.ownsRow w1.heap.size 46 5 v1 ((pre Z n L k).length + 1) ((pre Z n L k).flatMap (five Z) ++ five Z n) := hown'
          have HNN1 : Hid (v1 ≠ .slice none 0 0) := by
            intro e
            have h0 := HNN.out
            simp [e] at hnil
          have hs2 : w1.heap.size ≤ w2.heap.size := Nat.le_trans hsz hall.size
          have hb2 : Below w1.heap.size w1 w2 := hbel.grown hall hsz (fun kk e => (ho.lt kk e).1)
          have c0 : w2.cell? ⟨g, k * 5, none⟩ = some (.int .i64 (Z p 0)) := (hb2.cell (by exact hgl)).trans (by rw [← HP0.out]; exact HR.out k 0 hkn (by omega))
          have c1 : w2.cell? ⟨g, k * 5 + 1, none⟩ = some (.int .i64 (Z p 1)) := (hb2.cell (by exact hgl)).trans (by rw [← HP0.out]; exact HR.out k 1 hkn (by omega))
          have c2 : w2.cell? ⟨g, k * 5 + 2, none⟩ = some (.int .i64 (Z p 2)) := (hb2.cell (by exact hgl)).trans (by rw [← HP0.out]; exact HR.out k 2 hkn (by omega))
          have c3 : w2.cell? ⟨g, k * 5 + 3, none⟩ = some (.int .i64 (Z p 3)) := (hb2.cell (by exact hgl)).trans (by rw [← HP0.out]; exact HR.out k 3 hkn (by omega))
          have c4 : w2.cell? ⟨g, k * 5 + 4, none⟩ = some (.int .i64 (Z p 4)) := (hb2.cell (by exact hgl)).trans (by rw [← HP0.out]; exact HR.out k 4 hkn (by omega))
          clear hown' hg2 hnil hall ho HNN x0 x1 x2 x3 x4 hbel hsz hd2
          go_wp2_with (at_builtin; refine wpList_append_own _ rfl _ _ 25 rfl w1.heap.size 46 i5 (.agg #[.int .i64 0, .int .i64 0, .int .i64 0, .int .i64 0, .int .i64 0]) 5 40 Try.underlying25 hi5 hz50 hz51 hz52 rfl (by decide) _ _ _ rfl (HO1.alloc _) ⟨w2.heap.size, 0, none⟩ 1 1 (five Z p) rfl rfl (five_cells _ Z p 46) (five_one1 Z p) ?d3 ?d4 ?d5 ?_)
          case d3 => have := HPN.out; have := HLn.out; unfold maxLen; omega
          case d4 => have := HPN.out; have := HLn.out; omega
          case d5 => simp; omega
          · intro v' w3 hown' hg3 hnil
            have hall := (World.grownBy_alloc w2 _ _).trans hg3
            have HO : Hid (w3.ownsRow w1.heap.size 46 5 v' (pre Z n L (k + 1)).length ((pre Z n L (k + 1)).flatMap (five Z))) := by
              unfold Hid
              rw [pre_eq hkn HEQ.out, HP0.out, List.length_append, List.length_append, List.flatMap_append, List.flatMap_append]
              simpa using hown'
            have HNN' : Hid (v' ≠ .slice none 0 0) := by
              intro e
              have h0 := HNN1.out
              simp [e] at hnil
            have hs3 : w1.heap.size ≤ w3.heap.size := Nat.le_trans hs2 hall.size
            have hb3 : Below w1.heap.size w1 w3 := hb2.grown hall hs2 (fun kk e => (HO1.lt kk e).1)
            clear hown' hg3 hnil hall HO1 c0 c1 c2 c3 c4 HNN1
            go_wp2
            go_roundw
            case rel => exact ⟨k + 1, _, by omega, by go_num, rfl, by have := HEQ.out; rw [decide_eq_true (by omega)], HNN'.out, HO.out, hs3, hb3⟩
            case measure => simp [intOf]; omega
      · have hd : decide (spot Z n L < k) = true := decide_eq_true hgt
        rw [hd]
        have HGT : Hid (spot Z n L < k) := hgt
        clear hgt hd
        go_wp2_with fail
        go_quiet (fail)
        go_wp2_with (at_builtin; refine wpList_append_own _ rfl _ _ 25 rfl w1.heap.size 46 i5 (.agg #[.int .i64 0, .int .i64 0, .int .i64 0, .int .i64 0, .int .i64 0]) 5 40 Try.underlying25 hi5 hz50 hz51 hz52 rfl (by decide) _ _ _ rfl (ho.alloc _) ⟨wr.heap.size, 0, none⟩ 1 1 (five Z p) rfl rfl (five_cells _ Z p 46) (five_one1 Z p) ?d3 ?d4 ?d5 ?_)
        case d3 => have := HPN.out; have := HLn.out; unfold maxLen; omega
        case d4 => have := HPN.out; have := HLn.out; omega
        case d5 => simp; omega
        · intro v' w2 hown' hg2 hnil
          have hall0 := (World.grownBy_alloc (wr.drewN nq) _ _).trans hg2
          have hall : wr.grownBy w2 v.ownBlock := ⟨hall0.os, hall0.tape, hall0.output, hall0.size, hall0.block⟩
          clear hall0
          have HO : Hid (w2.ownsRow w1.heap.size 46 5 v' (pre Z n L (k + 1)).length ((pre Z n L (k + 1)).flatMap (five Z))) := by
            unfold Hid
            rw [pre_gt hkn HGT.out, HP0.out, List.length_append, List.flatMap_append]
            simpa using hown'
          have HNN' : Hid (v' ≠ .slice none 0 0) := by
            intro e
            have h0 := HNN.out
            simp [e] at hnil
          have hs2 : w1.heap.size ≤ w2.heap.size := Nat.le_trans hsz hall.size
          have hb2 : Below w1.heap.size w1 w2 := hbel.grown hall hsz (fun kk e => (ho.lt kk e).1)
          clear hown' hg2 hnil hall ho c0 c1 c2 c3 c4 HNN x0 x1 x2 x3 x4
          go_wp2
          go_roundw
          case rel => exact ⟨k + 1, _, by omega, by go_num, rfl, by have := HGT.out; rw [decide_eq_true (by omega)], HNN'.out, HO.out, hs2, hb2⟩
          case measure => simp [intOf]; omega
    · have hkn' : k = L.length := by omega
      subst hkn'
      have close : ∀ (v' : Value) (w' : World), v' ≠ .slice none 0 0 → w'.ownsRow w1.heap.size 46 5 v' (putAt Z n L).length ((putAt Z n L).flatMap (five Z)) → Walks w' w.heap.size v' (putL Z n) Z := fun v' w' h1 h2 => by
        rw [HPL.out]
        rcases h2.2 with ⟨e, _⟩ | ⟨g, c, _, e, _⟩
        · exact absurd e h1
        · exact walks_base ⟨g, c, e, h2⟩ (Nat.le_of_lt hs1)
      have HCL : Hid (∀ (v' : Value) (w' : World), v' ≠ .slice none 0 0 → w'.ownsRow w1.heap.size 46 5 v' (putAt Z n L).length ((putAt Z n L).flatMap (five Z)) → Walks w' w.heap.size v' (putL Z n) Z) := close
      clear close
      by_cases hsp : spot Z n L < L.length
      · have hd : decide (spot Z n L < L.length) = true := decide_eq_true hsp
        rw [hd]
        have HW : Hid (Walks wr w.heap.size v (putL Z n) Z) := HCL.out v wr HNN.out (by rw [← pre_done hsp]; exact ho)
        have hbb : Below w.heap.size w wr := B1.trans (hbel.mono (Nat.le_of_lt hs1))
        clear ho hsp hd
        go_wp2
        go_ret
        exact ⟨_, rfl, HW.out, hbb⟩
      · have hd : decide (spot Z n L < L.length) = false := decide_eq_false hsp
        rw [hd]
        have HSP : Hid (¬ spot Z n L < L.length) := hsp
        clear hsp hd
        go_wp2_with (at_builtin; refine wpList_append_own _ rfl _ _ 25 rfl w1.heap.size 46 i5 (.agg #[.int .i64 0, .int .i64 0, .int .i64 0, .int .i64 0, .int .i64 0]) 5 40 Try.underlying25 hi5 hz50 hz51 hz52 rfl (by decide) _ _ _ rfl (ho.alloc _) ⟨wr.heap.size, 0, none⟩ 1 1 (five Z n) rfl rfl (five_cells _ Z n 46) (five_one1 Z n) ?d3 ?d4 ?d5 ?_)
        case d3 => have := HPN.out; have := HLn.out; unfold maxLen; omega
        case d4 => have := HPN.out; have := HLn.out; omega
        case d5 => simp; omega
        · intro v' w2 hown' hg2 hnil
          have hall := (World.grownBy_alloc wr _ _).trans hg2
          have HNN' : v' ≠ .slice none 0 0 := by
            intro e
            have h0 := HNN.out
            simp [e] at hnil
          have HW : Hid (Walks w2 w.heap.size v' (putL Z n) Z) := HCL.out v' w2 HNN' (by
            rw [← pre_not HSP.out, List.length_append, List.flatMap_append]
            simpa using hown')
          have hb2 : Below w1.heap.size w1 w2 := hbel.grown hall hsz (fun kk e => (ho.lt kk e).1)
          have hbb : Below w.heap.size w w2 := B1.trans (hb2.mono (Nat.le_of_lt hs1))
          clear hown' hg2 hnil hall ho HNN x0 x1 x2 x3 x4 HNN'
          go_wp2
          go_ret
          exact ⟨_, rfl, HW.out, hbb⟩
end Go.Proofs.Ytjllgmkficjiaaa
namespace Go.Proofs.Ytjllgmkficjiaaa
open Go.RowKit
set_option linter.unusedVariables false
structure Rd (w : World) (r : Nat) (a : Option Addr) (len cap : Nat) (p : Int) : Prop where
  b : w.cell? ⟨r, 0, none⟩ = some (.slice a len cap)
  p : w.cell? ⟨r, 1, none⟩ = some (.int .i64 p)
  f : w.frozen? ⟨r, 1, none⟩ = false
  le : len ≤ 2000
  bytes : 0 < len → ∃ k off, a = some ⟨k, off, none⟩ ∧ k < r ∧ ∀ i, i < len → ∃ z : Int, w.cell? ⟨k, off + i, none⟩ = some (.int .u8 z) ∧ 0 ≤ z ∧ z ≤ 255
theorem i64_xor_nat (a b : Nat) (ha : a < 4611686018427387904) (hb : b < 4611686018427387904) : bits .xor .i64 (a : Int) (b : Int) = ((a ^^^ b : Nat) : Int) := by
  have hx : a ^^^ b < 2 ^ 62 := Nat.xor_lt_two_pow (by omega) (by omega)
  have h1 : (BitVec.ofInt 64 (a : Int)).toNat = a := by
    rw [BitVec.ofInt_natCast, BitVec.toNat_ofNat]; exact Nat.mod_eq_of_lt (by omega)
  have h2 : (BitVec.ofInt 64 (b : Int)).toNat = b := by
    rw [BitVec.ofInt_natCast, BitVec.toNat_ofNat]; exact Nat.mod_eq_of_lt (by omega)
  show IntKind.i64.wrap ((BitVec.ofInt 64 (a : Int) ^^^ BitVec.ofInt 64 (b : Int)).toNat : Int) = _
  rw [BitVec.toNat_xor, h1, h2, IntKind.wrap_i64]
  omega
theorem i64_xor_nn (a b : Int) (h1 : 0 ≤ a) (h2 : a < 4611686018427387904) (h3 : 0 ≤ b) (h4 : b < 4611686018427387904) : 0 ≤ bits .xor .i64 a b := by
  obtain ⟨A, rfl⟩ := Int.eq_ofNat_of_zero_le h1
  obtain ⟨C, rfl⟩ := Int.eq_ofNat_of_zero_le h3
  rw [i64_xor_nat A C (by omega) (by omega)]
  omega
def PickOut (n x : Int) : Prop := 0 ≤ x ∧ (1 ≤ n → x < n) ∧ (n < 1 → x = 0)
set_option maxHeartbeats 400000 in
theorem pick_near (r k off : Nat) (len cap : Nat) (p n z : Int) (w : World) (h0 : 0 ≤ p) (h1 : p < len) (hl : len ≤ 2000) (hn : 1 ≤ n) (hk : k < r)
    (cb : w.cell? ⟨r, 0, none⟩ = some (.slice (some ⟨k, off, none⟩) len cap)) (cp : w.cell? ⟨r, 1, none⟩ = some (.int .i64 p)) (cf : w.frozen? ⟨r, 1, none⟩ = false)
    (cz : w.cell? ⟨k, off + p.toNat, none⟩ = some (.int .u8 z)) (z0 : 0 ≤ z) (z1 : z ≤ 255) :
    Calls Try.prog 14 #[.pointer (some ⟨r, 0, none⟩), .int .i64 n] w fun e w' => ∃ x, e = .returned (.int .i64 x) ∧ PickOut n x ∧ ∃ nq, w' = (w.setCell ⟨r, 1, none⟩ (.int .i64 (p + 1))).drewN nq := by
  have hlen : ((len : Int) == 0) = false := by simp; omega
  have hn1 : ¬ n < 1 := by omega
  have hne : ¬ k = r := by omega
  go_enter Try.func14, Try.ntmps14
  go_wp2
  go_ret
  exact ⟨_, rfl, ⟨by apply Int.emod_nonneg; omega, fun _ => Int.emod_lt_of_pos _ (by omega), fun h => by omega⟩, 0, rfl⟩
set_option maxHeartbeats 1000000 in
theorem pick_far (r k off : Nat) (len cap : Nat) (p n z y : Int) (w : World) (h0 : (len : Int) ≤ p) (h1 : p ≤ 1000000) (hl : len ≤ 2000) (hl0 : 0 < len) (hn : 1 ≤ n) (hk : k < r)
    (cb : w.cell? ⟨r, 0, none⟩ = some (.slice (some ⟨k, off, none⟩) len cap)) (cp : w.cell? ⟨r, 1, none⟩ = some (.int .i64 p)) (cf : w.frozen? ⟨r, 1, none⟩ = false)
    (cz : w.cell? ⟨k, off + (p % (len : Int)).toNat, none⟩ = some (.int .u8 z)) (z0 : 0 ≤ z) (z1 : z ≤ 255)
    (cy : w.cell? ⟨k, off + ((p * 7 + 3) % (len : Int)).toNat, none⟩ = some (.int .u8 y)) (y0 : 0 ≤ y) (y1 : y ≤ 255) :
    Calls Try.prog 14 #[.pointer (some ⟨r, 0, none⟩), .int .i64 n] w fun e w' => ∃ x, e = .returned (.int .i64 x) ∧ PickOut n x ∧ ∃ nq, w' = (w.setCell ⟨r, 1, none⟩ (.int .i64 (p + 1))).drewN nq := by
  have hlen : ((len : Int) == 0) = false := by simp; omega
  have hn1 : ¬ n < 1 := by omega
  have hne : ¬ k = r := by omega
  have hp : ¬ p < (len : Int) := by omega
  have i0 : 0 ≤ p % (len : Int) := Int.emod_nonneg _ (by omega)
  have i1 : p % (len : Int) < len := Int.emod_lt_of_pos _ (by omega)
  have j0 : 0 ≤ (p * 7 + 3) % (len : Int) := Int.emod_nonneg _ (by omega)
  have j1 : (p * 7 + 3) % (len : Int) < len := Int.emod_lt_of_pos _ (by omega)
  have q0 : 0 ≤ p / (len : Int) := Int.ediv_nonneg (by omega) (by omega)
  have q1 : p / (len : Int) ≤ p := Int.ediv_le_self _ (by omega)
  go_enter Try.func14, Try.ntmps14
  go_wp2
  go_quiet (fail)
  go_wp2
  go_ret
  refine ⟨_, rfl, ?_, nq, rfl⟩
  have hx := i64_xor_nn (z * 131 + y * 1117 + p * 29 + p / (len : Int) * 53) ((z * 131 + y * 1117 + p * 29 + p / (len : Int) * 53) / 64) (by omega) (by omega) (by omega) (by omega)
  exact ⟨by apply Int.tmod_nonneg; exact hx, fun _ => Int.tmod_lt_of_pos _ (by omega), fun h => by omega⟩
set_option maxHeartbeats 400000 in
theorem pick_low (r : Nat) (a : Option Addr) (len cap : Nat) (p n : Int) (w : World) (h0 : 0 ≤ p) (h1 : p ≤ 1000000) (hn : n < 1)
    (cb : w.cell? ⟨r, 0, none⟩ = some (.slice a len cap)) (cp : w.cell? ⟨r, 1, none⟩ = some (.int .i64 p)) (cf : w.frozen? ⟨r, 1, none⟩ = false) :
    Calls Try.prog 14 #[.pointer (some ⟨r, 0, none⟩), .int .i64 n] w fun e w' => ∃ x, e = .returned (.int .i64 x) ∧ PickOut n x ∧ ∃ nq, w' = (w.setCell ⟨r, 1, none⟩ (.int .i64 (p + 1))).drewN nq := by
  go_enter Try.func14, Try.ntmps14
  go_wp2
  go_ret
  exact ⟨_, rfl, ⟨by omega, fun _ => by omega, fun h => rfl⟩, 0, rfl⟩
set_option maxHeartbeats 400000 in
theorem pick_none (r : Nat) (a : Option Addr) (cap : Nat) (p n : Int) (w : World) (h0 : 0 ≤ p) (h1 : p ≤ 1000000) (hn : 1 ≤ n)
    (cb : w.cell? ⟨r, 0, none⟩ = some (.slice a 0 cap)) (cp : w.cell? ⟨r, 1, none⟩ = some (.int .i64 p)) (cf : w.frozen? ⟨r, 1, none⟩ = false) :
    Calls Try.prog 14 #[.pointer (some ⟨r, 0, none⟩), .int .i64 n] w fun e w' => ∃ x, e = .returned (.int .i64 x) ∧ PickOut n x ∧ ∃ nq, w' = (w.setCell ⟨r, 1, none⟩ (.int .i64 (p + 1))).drewN nq := by
  have hn1 : ¬ n < 1 := by omega
  go_enter Try.func14, Try.ntmps14
  go_wp2
  go_ret
  exact ⟨_, rfl, ⟨by omega, fun _ => by omega, fun h => rfl⟩, 0, rfl⟩
theorem pick_any (r : Nat) (a : Option Addr) (len cap : Nat) (p n : Int) (w : World) (h : Rd w r a len cap p) (h0 : 0 ≤ p) (h1 : p ≤ 1000000) :
    Calls Try.prog 14 #[.pointer (some ⟨r, 0, none⟩), .int .i64 n] w fun e w' => ∃ x, e = .returned (.int .i64 x) ∧ PickOut n x ∧ ∃ nq, w' = (w.setCell ⟨r, 1, none⟩ (.int .i64 (p + 1))).drewN nq := by
  obtain ⟨cb, cp, cf, hle, hby⟩ := h
  by_cases hn : n < 1
  · exact pick_low r a len cap p n w h0 h1 hn cb cp cf
  · by_cases hl : len = 0
    · subst hl
      exact pick_none r a cap p n w h0 h1 (by omega) cb cp cf
    · obtain ⟨k, off, rfl, hk, hz⟩ := hby (by omega)
      by_cases hp : p < (len : Int)
      · obtain ⟨z, cz, z0, z1⟩ := hz p.toNat (by omega)
        exact pick_near r k off len cap p n z w h0 hp hle (by omega) hk cb cp cf cz z0 z1
      · have i0 : 0 ≤ p % (len : Int) := Int.emod_nonneg _ (by omega)
        have i1 : p % (len : Int) < len := Int.emod_lt_of_pos _ (by omega)
        have j0 : 0 ≤ (p * 7 + 3) % (len : Int) := Int.emod_nonneg _ (by omega)
        have j1 : (p * 7 + 3) % (len : Int) < len := Int.emod_lt_of_pos _ (by omega)
        obtain ⟨z, cz, z0, z1⟩ := hz (p % (len : Int)).toNat (by omega)
        obtain ⟨y, cy, y0, y1⟩ := hz ((p * 7 + 3) % (len : Int)).toNat (by omega)
        exact pick_far r k off len cap p n z y w (by omega) h1 hle (by omega) (by omega) hk cb cp cf cz z0 z1 cy y0 y1
/-- The reader behind a step that touches no block up to its own. -/
theorem Rd.below {w w' : World} {r : Nat} {a : Option Addr} {len cap : Nat} {p : Int} (h : Rd w r a len cap p) (hb : Below (r + 1) w w') : Rd w' r a len cap p := by
  obtain ⟨cb, cp, cf, hle, hby⟩ := h
  refine ⟨(hb.cell (p := ⟨r, 0, none⟩) (by simp)).trans cb, (hb.cell (p := ⟨r, 1, none⟩) (by simp)).trans cp, (hb.frozen (p := ⟨r, 1, none⟩) (by simp)).trans cf, hle, ?_⟩
  intro h0
  obtain ⟨k, off, e, hk, hz⟩ := hby h0
  refine ⟨k, off, e, hk, fun i hi => ?_⟩
  obtain ⟨z, cz, z0, z1⟩ := hz i hi
  exact ⟨z, (hb.cell (p := ⟨k, off + i, none⟩) (by show k < r + 1; omega)).trans cz, z0, z1⟩
end Go.Proofs.Ytjllgmkficjiaaa
namespace Go.Proofs.Ytjllgmkficjiaaa
open Go.RowKit
set_option linter.unusedVariables false
theorem Rd.next {w : World} {r : Nat} {a : Option Addr} {len cap : Nat} {p : Int} (h : Rd w r a len cap p) (q : Int) (nq : Nat) : Rd ((w.setCell ⟨r, 1, none⟩ (.int .i64 q)).drewN nq) r a len cap q := by
  obtain ⟨cb, cp, cf, hle, hby⟩ := h
  refine ⟨?_, ?_, ?_, hle, ?_⟩
  · simp [go_sem, cb]
  · simp [go_sem, cp]
  · simp [cf]
  · intro h0
    obtain ⟨k, off, e, hk, hz⟩ := hby h0
    have hne : ¬ k = r := by omega
    refine ⟨k, off, e, hk, fun i hi => ?_⟩
    obtain ⟨z, cz, z0, z1⟩ := hz i hi
    exact ⟨z, by simp [go_sem, cz], z0, z1⟩
theorem Rd.alloc {w : World} {r : Nat} {a : Option Addr} {len cap : Nat} {p : Int} (h : Rd w r a len cap p) (hr : r < w.heap.size) (o : Obj) : Rd (w.alloc o) r a len cap p :=
  h.below ((Below.refl _ _).alloc (by omega) o)
/-- w' is w, but for block r and for new blocks. -/
structure Kept (r : Nat) (w w' : World) : Prop where
  os : w'.os = w.os
  tape : w'.tape = w.tape
  output : w'.output = w.output
  size : w.heap.size ≤ w'.heap.size
  block : ∀ k, k < w.heap.size → ¬ k = r → w'.heap[k]? = w.heap[k]?
theorem Kept.refl (r : Nat) (w : World) : Kept r w w := ⟨rfl, rfl, rfl, Nat.le_refl _, fun _ _ _ => rfl⟩
theorem Kept.trans {r : Nat} {a b c : World} (h : Kept r a b) (k : Kept r b c) : Kept r a c :=
  ⟨k.os.trans h.os, k.tape.trans h.tape, k.output.trans h.output, Nat.le_trans h.size k.size, fun i hi hn => (k.block i (Nat.lt_of_lt_of_le hi h.size) hn).trans (h.block i hi hn)⟩
theorem Kept.ofBelow {r : Nat} {a b : World} (h : Below a.heap.size a b) : Kept r a b := ⟨h.os, h.tape, h.output, h.size, fun k hk _ => h.block k hk⟩
theorem Kept.alloc {r : Nat} {a w : World} (h : Kept r a w) (o : Obj) : Kept r a (w.alloc o) := h.trans (Kept.ofBelow ((Below.refl _ _).alloc (by simp) _))
theorem Kept.drewN {r : Nat} {a w : World} (h : Kept r a w) (n : Nat) : Kept r a (w.drewN n) := h.trans ⟨rfl, rfl, rfl, Nat.le_refl _, fun _ _ _ => rfl⟩
theorem Kept.drew {r : Nat} {a w : World} (h : Kept r a w) : Kept r a w.drew := h.trans ⟨rfl, rfl, rfl, Nat.le_refl _, fun _ _ _ => rfl⟩
theorem Kept.setCell {r : Nat} {a w : World} (h : Kept r a w) {q : Addr} (hq : a.heap.size ≤ q.block ∨ q.block = r) (u : Value) : Kept r a (w.setCell q u) :=
  ⟨h.os, h.tape, h.output, by have := h.size; simpa [World.setCell] using this, fun k hk hn => (Below.heap_setCell _ _ _ _ (by rcases hq with hq | hq <;> omega)).trans (h.block k hk hn)⟩
theorem Kept.below {r : Nat} {a w : World} (h : Kept r a w) {n : Nat} (hn : n ≤ r) (hs : n ≤ a.heap.size) : Below n a w :=
  ⟨h.os, h.tape, h.output, h.size, fun k hk => h.block k (by omega) (by omega)⟩
theorem kcell {r : Nat} {w w' : World} (h : Kept r w w') : (∀ b o, b < w.heap.size → ¬ b = r → w'.cell? ⟨b, o, none⟩ = w.cell? ⟨b, o, none⟩) ∧ (∀ b o, b < w.heap.size → ¬ b = r → w'.frozen? ⟨b, o, none⟩ = w.frozen? ⟨b, o, none⟩) :=
  ⟨fun b o hb hn => World.cell?_of_block (w := w) (h.block b hb hn), fun b o hb hn => World.frozen?_of_block (w := w) (h.block b hb hn)⟩
/-- pick, the world behind it a variable. -/
theorem pick_kept (r : Nat) (a : Option Addr) (len cap : Nat) (p n : Int) (w : World) (h : Rd w r a len cap p) (h0 : 0 ≤ p) (h1 : p ≤ 1000000) :
    Calls Try.prog 14 #[.pointer (some ⟨r, 0, none⟩), .int .i64 n] w fun e w' => ∃ x, e = .returned (.int .i64 x) ∧ PickOut n x ∧ Rd w' r a len cap (p + 1) ∧ Kept r w w' := by
  refine (pick_any r a len cap p n w h h0 h1).mono ?_
  rintro e w' ⟨x, rfl, hx, nq, rfl⟩
  exact ⟨x, rfl, hx, h.next _ _, ((Kept.refl r w).setCell (q := ⟨r, 1, none⟩) (.inr rfl) _).drewN nq⟩
/-- Two cells of a block that is not the reader's, carried on. -/
theorem Kept.two {r : Nat} {w w' : World} (h : Kept r w w') {b : Nat} (hb : b < w.heap.size) (hn : ¬ b = r) {u v : Value}
    (c : w.cell? ⟨b, 0, none⟩ = some u ∧ w.cell? ⟨b, 1, none⟩ = some v ∧ w.frozen? ⟨b, 0, none⟩ = false ∧ w.frozen? ⟨b, 1, none⟩ = false) :
    w'.cell? ⟨b, 0, none⟩ = some u ∧ w'.cell? ⟨b, 1, none⟩ = some v ∧ w'.frozen? ⟨b, 0, none⟩ = false ∧ w'.frozen? ⟨b, 1, none⟩ = false := by
  obtain ⟨hc, hf⟩ := kcell h
  rw [hc b 0 hb hn, hc b 1 hb hn, hf b 0 hb hn, hf b 1 hb hn]
  exact c
def MapOut (c d : Int) : Prop := -1 ≤ c ∧ c ≤ 5 ∧ 0 ≤ d ∧ d ≤ 9
theorem Rd.lt {w : World} {r : Nat} {a : Option Addr} {len cap : Nat} {p : Int} (h : Rd w r a len cap p) : r < w.heap.size := by
  have c := h.p
  by_cases hlt : r < w.heap.size
  · exact hlt
  · exfalso
    have : w.heap[r]? = none := by simp; omega
    simp [World.cell?, this] at c
/-- The reader, at most m steps on. -/
def RdB (w : World) (r : Nat) (a : Option Addr) (len cap : Nat) (m : Int) : Prop := ∃ p, 0 ≤ p ∧ p ≤ m ∧ Rd w r a len cap p
theorem RdB.lt {w : World} {r : Nat} {a : Option Addr} {len cap : Nat} {m : Int} (h : RdB w r a len cap m) : r < w.heap.size := by
  obtain ⟨p, _, _, h⟩ := h; exact h.lt
theorem RdB.alloc {w : World} {r : Nat} {a : Option Addr} {len cap : Nat} {m : Int} (h : RdB w r a len cap m) (o : Obj) : RdB (w.alloc o) r a len cap m := by
  obtain ⟨p, h0, h1, h⟩ := h; exact ⟨p, h0, h1, h.alloc h.lt o⟩
theorem RdB.drew {w : World} {r : Nat} {a : Option Addr} {len cap : Nat} {m : Int} (h : RdB w r a len cap m) : RdB w.drew r a len cap m := by
  obtain ⟨p, h0, h1, h⟩ := h; exact ⟨p, h0, h1, h.below ⟨rfl, rfl, rfl, Nat.le_refl _, fun _ _ => rfl⟩⟩
theorem RdB.drewN {w : World} {r : Nat} {a : Option Addr} {len cap : Nat} {m : Int} (h : RdB w r a len cap m) (n : Nat) : RdB (w.drewN n) r a len cap m := by
  obtain ⟨p, h0, h1, h⟩ := h; exact ⟨p, h0, h1, h.below ⟨rfl, rfl, rfl, Nat.le_refl _, fun _ _ => rfl⟩⟩
theorem pick_B {r : Nat} {a : Option Addr} {len cap : Nat} {m n : Int} {w : World} (h : RdB w r a len cap m) (hm : m ≤ 1000000) :
    Calls Try.prog 14 #[.pointer (some ⟨r, 0, none⟩), .int .i64 n] w fun e w' => ∃ x, e = .returned (.int .i64 x) ∧ PickOut n x ∧ RdB w' r a len cap (m + 1) ∧ Kept r w w' := by
  obtain ⟨p, h0, h1, h⟩ := h
  refine (pick_kept r a len cap p n w h h0 (by omega)).mono ?_
  rintro e w' ⟨x, rfl, hx, R, K⟩
  exact ⟨x, rfl, hx, ⟨p + 1, by omega, by omega, R⟩, K⟩
end Go.Proofs.Ytjllgmkficjiaaa
namespace Go.Proofs.Ytjllgmkficjiaaa
open Go.RowKit
set_option linter.unusedVariables false
/-- Two cells of a block, neither of them frozen. -/
def Two (W : World) (b : Nat) (u v : Value) : Prop := W.cell? ⟨b, 0, none⟩ = some u ∧ W.cell? ⟨b, 1, none⟩ = some v ∧ W.frozen? ⟨b, 0, none⟩ = false ∧ W.frozen? ⟨b, 1, none⟩ = false
theorem cell_lt {W : World} {b o : Nat} {u : Value} (c : W.cell? ⟨b, o, none⟩ = some u) : b < W.heap.size := by
  by_cases hlt : b < W.heap.size
  · exact hlt
  · exfalso
    have : W.heap[b]? = none := by simp; omega
    simp [World.cell?, this] at c
theorem Two.below {W W' : World} {b : Nat} {u v : Value} (h : Two W b u v) (hb : Below W.heap.size W W') : Two W' b u v := by
  have hlt := cell_lt h.1
  obtain ⟨hc, hf⟩ := bcell hb
  unfold Two
  rw [hc b 0 hlt, hc b 1 hlt, hf b 0 hlt, hf b 1 hlt]
  exact h
theorem Two.alloc {W : World} {b : Nat} {u v : Value} (h : Two W b u v) (o : Obj) : Two (W.alloc o) b u v := h.below ((Below.refl _ _).alloc (by simp) _)
theorem Two.drew {W : World} {b : Nat} {u v : Value} (h : Two W b u v) : Two W.drew b u v := h
theorem Two.kept {r : Nat} {W W' : World} {b : Nat} {u v : Value} (K : Kept r W W') (h : Two W b u v) (hn : ¬ b = r) : Two W' b u v := K.two (cell_lt h.1) hn h
/-- 'Kept', under a name that the walk doesn't open. -/
def KK (r : Nat) (w w' : World) : Prop := Kept r w w'
theorem KK.alloc {r : Nat} {w W : World} (h : KK r w W) (o : Obj) : KK r w (W.alloc o) := Kept.alloc h o
theorem KK.drew {r : Nat} {w W : World} (h : KK r w W) : KK r w W.drew := Kept.drew h
theorem KK.kept {r : Nat} {w W W' : World} (K : Kept r W W') (h : KK r w W) : KK r w W' := Kept.trans h K
/-- A block that begins with these numbers. -/
def Lits (W : World) (g : Nat) (zs : List Int) : Prop := g < W.heap.size ∧ ∀ u : Int, 0 ≤ u → u < zs.length → W.cell? ⟨g, u.toNat, none⟩ = some (.int .i64 (zs.getD u.toNat 0))
theorem Lits.below {W W' : World} {g : Nat} {zs : List Int} (h : Lits W g zs) (hb : Below W.heap.size W W') : Lits W' g zs :=
  ⟨Nat.lt_of_lt_of_le h.1 hb.size, fun u h0 h1 => (hb.cell (p := ⟨g, u.toNat, none⟩) h.1).trans (h.2 u h0 h1)⟩
theorem Lits.alloc {W : World} {g : Nat} {zs : List Int} (h : Lits W g zs) (o : Obj) : Lits (W.alloc o) g zs := h.below ((Below.refl _ _).alloc (by simp) _)
theorem Lits.drew {W : World} {g : Nat} {zs : List Int} (h : Lits W g zs) : Lits W.drew g zs := h
theorem Lits.kept {r : Nat} {W W' : World} {g : Nat} {zs : List Int} (K : Kept r W W') (h : Lits W g zs) (hn : ¬ g = r) : Lits W' g zs :=
  ⟨Nat.lt_of_lt_of_le h.1 K.size, fun u h0 h1 => ((kcell K).1 g u.toNat h.1 hn).trans (h.2 u h0 h1)⟩
theorem Lits.new (zs : List Int) (W : World) (t : TypeId) : Lits (W.alloc (.cells (zs.map (Value.int .i64)).toArray t)) W.heap.size zs := by
  refine ⟨by simp, fun u h0 h1 => ?_⟩
  have hlt : u.toNat < zs.length := by omega
  simp [hlt]
end Go.Proofs.Ytjllgmkficjiaaa
namespace Go.Proofs.Ytjllgmkficjiaaa
open Go
set_option linter.unusedVariables false
section
variable {P : Program} {ops : Array Oper} {Q : Exit → Act → World → Prop}
theorem mark1_self (L : Nat → Bool) (i : Nat) : mark1 L i i = true := by simp [mark1]
/-- How many of these have come up. -/
def cntL : List Nat → (Nat → Bool) → Int
  | [], _ => 0
  | p :: r, L => (if L p = true then 1 else 0) + cntL r L
theorem cntL_bd (L : Nat → Bool) : ∀ ps : List Nat, 0 ≤ cntL ps L ∧ cntL ps L ≤ ps.length
  | [] => by simp [cntL]
  | p :: r => by
    have := cntL_bd L r
    simp only [cntL, List.length_cons]
    split <;> omega
theorem cntL_out {L : Nat → Bool} {i : Nat} : ∀ {ps : List Nat}, i ∉ ps → cntL ps (mark1 L i) = cntL ps L
  | [], _ => rfl
  | p :: r, h => by
    simp only [List.mem_cons, not_or] at h
    simp only [cntL]
    rw [cntL_out h.2, mark1_ne L (fun e => h.1 e.symm)]
theorem cntL_in {L : Nat → Bool} {i : Nat} (hL : L i = false) : ∀ {ps : List Nat}, ps.Nodup → i ∈ ps → cntL ps (mark1 L i) = cntL ps L + 1
  | [], _, h => by simp at h
  | p :: r, hn, h => by
    obtain ⟨h1, h2⟩ := List.nodup_cons.1 hn
    simp only [cntL]
    by_cases e : i = p
    · subst e
      rw [mark1_self, cntL_out h1, hL]
      simp
      omega
    · have hr : i ∈ r := by simpa [e] using h
      rw [cntL_in hL h2 hr, mark1_ne L (fun e' => e e'.symm)]
      omega
theorem cntL_none : ∀ ps : List Nat, cntL ps (fun _ => false) = 0
  | [] => rfl
  | p :: r => by simp [cntL, cntL_none r]
end
end Go.Proofs.Ytjllgmkficjiaaa
namespace Go.Proofs.Ytjllgmkficjiaaa
open Go.RowKit
set_option linter.unusedVariables false
/-- A number that fits in any bound asked for. -/
def Small (z : Int) : Prop := -100000 ≤ z ∧ z ≤ 100000
theorem pick_small {n x : Int} (h : PickOut n x) (hn : n ≤ 100000) : Small x := by
  obtain ⟨a1, a2, a3⟩ := h
  unfold Small
  by_cases h : 1 ≤ n
  · have := a2 h; omega
  · have := a3 (by omega); omega
theorem lits_small (zs : List Int) (h : ∀ z ∈ zs, -100000 ≤ z ∧ z ≤ 100000) {k : Nat} : Small (zs.getD k 0) := by
  by_cases hk : k < zs.length
  · rw [show zs.getD k 0 = zs[k] by simp [List.getD, hk]]
    exact h _ (List.getElem_mem hk)
  · rw [show zs.getD k 0 = 0 by simp [List.getD, hk]]
    exact ⟨by decide, by decide⟩
theorem RdB.more {w : World} {r : Nat} {a : Option Addr} {len cap : Nat} {m m' : Int} (h : RdB w r a len cap m) (hm : m ≤ m') : RdB w r a len cap m' := by
  obtain ⟨p, h0, h1, h⟩ := h; exact ⟨p, h0, by omega, h⟩
/-- Five cells of a block that may be written. -/
def Wr5 (w : World) (b : Nat) : Prop := ∀ j, j < 5 → ∃ v, w.cell? ⟨b, j, none⟩ = some v ∧ w.frozen? ⟨b, j, none⟩ = false
theorem Wr5.kept {r : Nat} {w w' : World} {b : Nat} (h : Wr5 w b) (K : Kept r w w') (hn : ¬ b = r) : Wr5 w' b := by
  intro j hj
  obtain ⟨v, h1, h2⟩ := h j hj
  have hlt := cell_lt h1
  exact ⟨v, ((kcell K).1 b j hlt hn).trans h1, ((kcell K).2 b j hlt hn).trans h2⟩
/-- Block g is as it was. -/
def Stay (g : Nat) (w w' : World) : Prop := w.heap.size ≤ w'.heap.size ∧ ∀ o, w'.cell? ⟨g, o, none⟩ = w.cell? ⟨g, o, none⟩
theorem Kept.stay {r g : Nat} {w w' : World} (h : Kept r w w') (hl : g < w.heap.size) (hn : ¬ g = r) : Stay g w w' := ⟨h.size, fun o => (kcell h).1 g o hl hn⟩
theorem Lits.stay {g : Nat} {w w' : World} {zs : List Int} (h : Lits w g zs) (k : Stay g w w') : Lits w' g zs := ⟨Nat.lt_of_lt_of_le h.1 k.1, fun u h0 h1 => (k.2 _).trans (h.2 u h0 h1)⟩
/-- Five cells written. -/
def put5c (w : World) (b : Nat) (x0 x1 x2 x3 x4 : Value) : World :=
  ((((w.setCell ⟨b, 0, none⟩ x0).setCell ⟨b, 1, none⟩ x1).setCell ⟨b, 2, none⟩ x2).setCell ⟨b, 3, none⟩ x3).setCell ⟨b, 4, none⟩ x4
theorem below_put5c {B : Nat} {a w : World} (h : Below B a w) {b : Nat} (hb : B ≤ b) (x0 x1 x2 x3 x4 : Value) : Below B a (put5c w b x0 x1 x2 x3 x4) :=
  ((((h.setCell (p := ⟨b, 0, none⟩) hb _).setCell (p := ⟨b, 1, none⟩) hb _).setCell (p := ⟨b, 2, none⟩) hb _).setCell (p := ⟨b, 3, none⟩) hb _).setCell (p := ⟨b, 4, none⟩) hb _
theorem RdB.p5 {w : World} {r : Nat} {a : Option Addr} {len cap : Nat} {m : Int} (h : RdB w r a len cap m) {b : Nat} (hb : r < b) (x0 x1 x2 x3 x4 : Value) : RdB (put5c w b x0 x1 x2 x3 x4) r a len cap m := by
  obtain ⟨p, h0, h1, h⟩ := h
  exact ⟨p, h0, h1, h.below (below_put5c (Below.refl _ _) hb _ _ _ _ _)⟩
theorem Kept.p5 {r : Nat} {a w : World} (h : Kept r a w) {b : Nat} (hb : a.heap.size ≤ b) (x0 x1 x2 x3 x4 : Value) : Kept r a (put5c w b x0 x1 x2 x3 x4) :=
  ((((h.setCell (q := ⟨b, 0, none⟩) (.inl hb) _).setCell (q := ⟨b, 1, none⟩) (.inl hb) _).setCell (q := ⟨b, 2, none⟩) (.inl hb) _).setCell (q := ⟨b, 3, none⟩) (.inl hb) _).setCell (q := ⟨b, 4, none⟩) (.inl hb) _
/-- Block b begins with these five numbers. -/
def Five (w : World) (b : Nat) (z0 z1 z2 z3 z4 : Int) : Prop :=
  w.cell? ⟨b, 0, none⟩ = some (.int .i64 z0) ∧ w.cell? ⟨b, 1, none⟩ = some (.int .i64 z1) ∧ w.cell? ⟨b, 2, none⟩ = some (.int .i64 z2) ∧ w.cell? ⟨b, 3, none⟩ = some (.int .i64 z3) ∧ w.cell? ⟨b, 4, none⟩ = some (.int .i64 z4)
theorem Five.stay {w w' : World} {b : Nat} {z0 z1 z2 z3 z4 : Int} (h : Five w b z0 z1 z2 z3 z4) (k : Stay b w w') : Five w' b z0 z1 z2 z3 z4 := by
  unfold Five
  rw [k.2, k.2, k.2, k.2, k.2]
  exact h
theorem stay5 {w : World} {g b : Nat} (h : ¬ g = b) (x0 x1 x2 x3 x4 : Value) : Stay g w (put5c w b x0 x1 x2 x3 x4) := by
  refine ⟨by simp [put5c, World.setCell], fun o => ?_⟩
  have far : ∀ (o' : Nat) (W : World) (z : Value), (W.setCell ⟨b, o', none⟩ z).cell? ⟨g, o, none⟩ = W.cell? ⟨g, o, none⟩ := fun o' W z => World.cell?_setCell_other _ _ _ _ (by intro e; exact h (by injection e with e1; exact e1.symm))
  unfold put5c
  rw [far, far, far, far, far]
theorem put5c_cells {w : World} {b : Nat} (h : Wr5 w b) (x0 x1 x2 x3 x4 : Value) : (put5c w b x0 x1 x2 x3 x4).cell? ⟨b, 0, none⟩ = some x0 ∧ (put5c w b x0 x1 x2 x3 x4).cell? ⟨b, 1, none⟩ = some x1 ∧ (put5c w b x0 x1 x2 x3 x4).cell? ⟨b, 2, none⟩ = some x2 ∧ (put5c w b x0 x1 x2 x3 x4).cell? ⟨b, 3, none⟩ = some x3 ∧ (put5c w b x0 x1 x2 x3 x4).cell? ⟨b, 4, none⟩ = some x4 := by
  have e : put5c w b x0 x1 x2 x3 x4 = w.setCells b 0 [x0, x1, x2, x3, x4] := rfl
  have g := World.cell?_setCells_in b [x0, x1, x2, x3, x4] 0 w (fun j hj => by
    obtain ⟨v, h1, _⟩ := h j (by simpa using hj)
    rw [Nat.zero_add, h1]; rfl)
  rw [e]
  exact ⟨g 0 (by simp), g 1 (by simp), g 2 (by simp), g 3 (by simp), g 4 (by simp)⟩
theorem five_set {w : World} {b : Nat} (h : Wr5 w b) (z0 z1 z2 z3 z4 : Int) : Five (put5c w b (.int .i64 z0) (.int .i64 z1) (.int .i64 z2) (.int .i64 z3) (.int .i64 z4)) b z0 z1 z2 z3 z4 := put5c_cells h _ _ _ _ _
theorem Wr5.p5 {w : World} {b : Nat} (h : Wr5 w b) (x0 x1 x2 x3 x4 : Value) : Wr5 (put5c w b x0 x1 x2 x3 x4) b := by
  have hc := put5c_cells h x0 x1 x2 x3 x4
  have hfr : ∀ j, (put5c w b x0 x1 x2 x3 x4).frozen? ⟨b, j, none⟩ = w.frozen? ⟨b, j, none⟩ := fun j => by
    unfold put5c
    rw [World.frozen?_setCell, World.frozen?_setCell, World.frozen?_setCell, World.frozen?_setCell, World.frozen?_setCell]
  generalize put5c w b x0 x1 x2 x3 x4 = W at hc hfr ⊢
  obtain ⟨g0, g1, g2, g3, g4⟩ := hc
  intro j hj
  obtain ⟨v, _, hf⟩ := h j hj
  rw [hfr j]
  have : j = 0 ∨ j = 1 ∨ j = 2 ∨ j = 3 ∨ j = 4 := by omega
  rcases this with rfl | rfl | rfl | rfl | rfl
  · exact ⟨_, g0, hf⟩
  · exact ⟨_, g1, hf⟩
  · exact ⟨_, g2, hf⟩
  · exact ⟨_, g3, hf⟩
  · exact ⟨_, g4, hf⟩
set_option maxRecDepth 20000 in
set_option maxHeartbeats 2000000 in
theorem walker_B {r : Nat} {ad : Option Addr} {len cap : Nat} {m c d : Int} {w : World} (h : RdB w r ad len cap m) (hm : m ≤ 100000) (hc : MapOut c d) :
    Calls Try.prog 30 #[.pointer (some ⟨r, 0, none⟩), .agg #[.int .i64 c, .int .i64 d]] w fun e w' => ∃ z0 z1 z2 z3 z4, e = .returned (.agg #[.int .i64 z0, .int .i64 z1, .int .i64 z2, .int .i64 z3, .int .i64 z4]) ∧ (Small z0 ∧ Small z1 ∧ Small z2 ∧ Small z3 ∧ Small z4) ∧ RdB w' r ad len cap (m + 5) ∧ Kept r w w' := by
  have H : Hid (RdB w r ad len cap m) := h
  have hrl := h.lt
  obtain ⟨c0, c1, d0, d1⟩ := hc
  have hcd : -9 ≤ c * d ∧ c * d ≤ 45 := by
    have : d = 0 ∨ d = 1 ∨ d = 2 ∨ d = 3 ∨ d = 4 ∨ d = 5 ∨ d = 6 ∨ d = 7 ∨ d = 8 ∨ d = 9 := by omega
    rcases this with rfl | rfl | rfl | rfl | rfl | rfl | rfl | rfl | rfl | rfl <;> omega
  obtain ⟨e0, e1⟩ := hcd
  clear h
  go_enter Try.func30, Try.ntmps30
  go_wp2_with fail
  refine (ok_spec _ _ _).mono ?_
  rintro e w1 ⟨rfl, hb1⟩
  have K1 : Kept r w w1 := (((Kept.refl r w).alloc _).alloc _).trans (Kept.ofBelow hb1)
  have R1 : Hid (RdB w1 r ad len cap m) := by
    obtain ⟨p, h0, h1, h⟩ := (H.out.alloc (.cells #[.int .i64 c, .int .i64 d] 24)).alloc (.cells #[.int .i64 0, .int .i64 0, .int .i64 0, .int .i64 0, .int .i64 0] 46)
    exact ⟨p, h0, h1, h.below (hb1.mono (by simp; omega))⟩
  have hz1 : w.heap.size + 1 < w1.heap.size := by have := hb1.size; simp at this; omega
  have f1 : (∀ j, j < 5 → ∃ v, w1.cell? ⟨w.heap.size + 1, j, none⟩ = some v ∧ w1.frozen? ⟨w.heap.size + 1, j, none⟩ = false) := by
    intro j hj
    rw [hb1.cell (p := ⟨w.heap.size + 1, j, none⟩) (by simp), hb1.frozen (p := ⟨w.heap.size + 1, j, none⟩) (by simp)]
    match j, hj with
    | 0, _ => exact ⟨.int .i64 0, by simp⟩
    | 1, _ => exact ⟨.int .i64 0, by simp⟩
    | 2, _ => exact ⟨.int .i64 0, by simp⟩
    | 3, _ => exact ⟨.int .i64 0, by simp⟩
    | 4, _ => exact ⟨.int .i64 0, by simp⟩
  have F1 : Hid (∀ j, j < 5 → ∃ v, w1.cell? ⟨w.heap.size + 1, j, none⟩ = some v ∧ w1.frozen? ⟨w.heap.size + 1, j, none⟩ = false) := f1
  have KK1 : Hid (Kept r w w1) := K1
  clear f1 hb1 H K1
  go_upto_if 13 with fail
  go_cut [5] (fun s wx => ∃ n, .int .i64 n = s ∧ -9 ≤ n ∧ n ≤ 45 ∧ wx = w1)
  case first =>
    cases hok : okB c d
    · go_wp2
      go_meet
      case rel => exact ⟨4, rfl, by omega, by omega, rfl⟩
    · go_wp2
      go_meet
      case rel => exact ⟨c * d, rfl, by omega, by omega, rfl⟩
  case rest =>
    obtain ⟨n, rfl, n0, n1, rfl⟩ := hcut
    go_upto_region 4 with fail
    refine wp_region_inv (by kernel_rfl) (by kernel_rfl) (fun L a w' => ∃ u14 u15 u16 u17 u18 u19 u20 u21 u22 u23 u24 u25 u26 u27 u28 u29 u30 u31 u32 : Value, a = ⟨#[.pointer (some ⟨r, 0, none⟩), .agg #[.int .i64 c, .int .i64 d], undef, .pointer (some ⟨w.heap.size, 0, none⟩), .pointer (some ⟨w.heap.size + 1, 0, none⟩), .int .i64 n, u6, u7, u8, u9, u10, u11, u12, u13, u14, u15, u16, u17, u18, u19, u20, u21, u22, u23, u24, u25, u26, u27, u28, u29, u30, u31, u32], []⟩ ∧ (RdB w' r ad len cap (m + cntL [1, 5, 8, 13, 17] L) ∧ Kept r w w' ∧ Wr5 w' (w.heap.size + 1) ∧ w.heap.size + 1 < w'.heap.size) ∧ (L 0 = true → u14 = .pointer (some ⟨r, 0, none⟩)) ∧ (L 1 = true → ∃ x, u15 = .int .i64 x ∧ PickOut 9 x) ∧ (L 2 = true → ∃ z, u16 = .int .i64 z ∧ Small z) ∧ (L 3 = true → u17 = .pointer (some ⟨r, 0, none⟩)) ∧ (L 4 = true → u18 = .int .i64 n) ∧ (L 5 = true → ∃ z, u19 = .int .i64 z ∧ Small z) ∧ (L 6 = true → ∃ g, u20 = .slice (some ⟨g, 0, none⟩) 6 6 ∧ Lits w' g [0, 1, 5, 20, 95, 99] ∧ ¬ g = r ∧ ¬ g = w.heap.size + 1) ∧ (L 7 = true → u21 = .pointer (some ⟨r, 0, none⟩)) ∧ (L 8 = true → ∃ x, u22 = .int .i64 x ∧ PickOut 6 x) ∧ (L 9 = true → ∃ (g : Nat) (x : Int), u23 = .pointer (some ⟨g, x.toNat, none⟩) ∧ Lits w' g [0, 1, 5, 20, 95, 99] ∧ 0 ≤ x ∧ x < 6 ∧ ¬ g = r ∧ ¬ g = w.heap.size + 1) ∧ (L 10 = true → ∃ z, u24 = .int .i64 z ∧ Small z) ∧ (L 11 = true → ∃ g, u25 = .slice (some ⟨g, 0, none⟩) 5 5 ∧ Lits w' g [0, 0, 1, 7, 900] ∧ ¬ g = r ∧ ¬ g = w.heap.size + 1) ∧ (L 12 = true → u26 = .pointer (some ⟨r, 0, none⟩)) ∧ (L 13 = true → ∃ x, u27 = .int .i64 x ∧ PickOut 5 x) ∧ (L 14 = true → ∃ (g : Nat) (x : Int), u28 = .pointer (some ⟨g, x.toNat, none⟩) ∧ Lits w' g [0, 0, 1, 7, 900] ∧ 0 ≤ x ∧ x < 5 ∧ ¬ g = r ∧ ¬ g = w.heap.size + 1) ∧ (L 15 = true → ∃ z, u29 = .int .i64 z ∧ Small z) ∧ (L 16 = true → u30 = .pointer (some ⟨r, 0, none⟩)) ∧ (L 17 = true → ∃ z, u31 = .int .i64 z ∧ Small z) ∧ (L 18 = true → ∃ z0 z1 z2 z3 z4, u32 = .agg #[.int .i64 z0, .int .i64 z1, .int .i64 z2, .int .i64 z3, .int .i64 z4] ∧ (Small z0 ∧ Small z1 ∧ Small z2 ∧ Small z3 ∧ Small z4)) ∧ (L 19 = true → ∃ z0 z1 z2 z3 z4, (Small z0 ∧ Small z1 ∧ Small z2 ∧ Small z3 ∧ Small z4) ∧ Five w' (w.heap.size + 1) z0 z1 z2 z3 z4)) ?h0 ?hstep ?hdone
    case h0 => exact ⟨u14, u15, u16, u17, u18, u19, u20, u21, u22, u23, u24, u25, u26, u27, u28, u29, u30, u31, u32, rfl, ⟨by rw [cntL_none, Int.add_zero]; exact R1.out.drew, KK1.out.drew, F1.out, hz1⟩, fun h => absurd h (by simp), fun h => absurd h (by simp), fun h => absurd h (by simp), fun h => absurd h (by simp), fun h => absurd h (by simp), fun h => absurd h (by simp), fun h => absurd h (by simp), fun h => absurd h (by simp), fun h => absurd h (by simp), fun h => absurd h (by simp), fun h => absurd h (by simp), fun h => absurd h (by simp), fun h => absurd h (by simp), fun h => absurd h (by simp), fun h => absurd h (by simp), fun h => absurd h (by simp), fun h => absurd h (by simp), fun h => absurd h (by simp), fun h => absurd h (by simp), fun h => absurd h (by simp)⟩
    case hstep =>
      refine ⟨?_, ?_, ?_, ?_, ?_, ?_, ?_, ?_, ?_, ?_, ?_, ?_, ?_, ?_, ?_, ?_, ?_, ?_, ?_, ?_, trivial⟩
      · intro L a w' K' hd hL hI hK
        obtain ⟨u14, u15, u16, u17, u18, u19, u20, u21, u22, u23, u24, u25, u26, u27, u28, u29, u30, u31, u32, rfl, ⟨hR, hKp, hW, hz⟩, h0, h1, h2, h3, h4, h5, h6, h7, h8, h9, h10, h11, h12, h13, h14, h15, h16, h17, h18, h19⟩ := hI
        go_simp
        exact hK.out _ _ ⟨_, _, _, _, _, _, _, _, _, _, _, _, _, _, _, _, _, _, _, rfl, ⟨by rw [cntL_out (by decide)]; exact hR, hKp, hW, hz⟩, fun _ => rfl, keepL (by decide) h1, keepL (by decide) h2, keepL (by decide) h3, keepL (by decide) h4, keepL (by decide) h5, keepL (by decide) h6, keepL (by decide) h7, keepL (by decide) h8, keepL (by decide) h9, keepL (by decide) h10, keepL (by decide) h11, keepL (by decide) h12, keepL (by decide) h13, keepL (by decide) h14, keepL (by decide) h15, keepL (by decide) h16, keepL (by decide) h17, keepL (by decide) h18, keepL (by decide) h19⟩
      · intro L a w' K' hd hL hI hK
        obtain ⟨u14, u15, u16, u17, u18, u19, u20, u21, u22, u23, u24, u25, u26, u27, u28, u29, u30, u31, u32, rfl, ⟨hR, hKp, hW, hz⟩, h0, h1, h2, h3, h4, h5, h6, h7, h8, h9, h10, h11, h12, h13, h14, h15, h16, h17, h18, h19⟩ := hI
        obtain rfl := h0 (hd ⟨0, .data⟩ (by simp) rfl)
        go_simp
        go_wp2_with (go_at_call 14; refine (pick_B hR (by have := (cntL_bd L [1, 5, 8, 13, 17]).2; simp at this; omega)).mono ?_; rintro e w2 ⟨x, rfl, hx, hR2, K2⟩)
        exact hK.out _ _ ⟨_, _, _, _, _, _, _, _, _, _, _, _, _, _, _, _, _, _, _, rfl, ⟨by rw [cntL_in hL (by decide) (by decide), ← Int.add_assoc]; exact hR2, hKp.trans K2, hW.kept K2 (by omega), Nat.lt_of_lt_of_le hz K2.size⟩, keepL (by decide) (fun _ => rfl), fun _ => ⟨x, rfl, hx⟩, keepL (by decide) h2, keepL (by decide) h3, keepL (by decide) h4, keepL (by decide) h5, keepL (by decide) (fun e => match (h6 e) with | ⟨g, e1, e2, e3, e4⟩ => ⟨g, e1, e2.stay (K2.stay e2.1 e3), e3, e4⟩), keepL (by decide) h7, keepL (by decide) h8, keepL (by decide) (fun e => match (h9 e) with | ⟨g, x, e1, e2, e5, e6, e3, e4⟩ => ⟨g, x, e1, e2.stay (K2.stay e2.1 e3), e5, e6, e3, e4⟩), keepL (by decide) h10, keepL (by decide) (fun e => match (h11 e) with | ⟨g, e1, e2, e3, e4⟩ => ⟨g, e1, e2.stay (K2.stay e2.1 e3), e3, e4⟩), keepL (by decide) h12, keepL (by decide) h13, keepL (by decide) (fun e => match (h14 e) with | ⟨g, x, e1, e2, e5, e6, e3, e4⟩ => ⟨g, x, e1, e2.stay (K2.stay e2.1 e3), e5, e6, e3, e4⟩), keepL (by decide) h15, keepL (by decide) h16, keepL (by decide) h17, keepL (by decide) h18, keepL (by decide) (fun e => match (h19 e) with | ⟨z0, z1, z2, z3, z4, e1, e2⟩ => ⟨z0, z1, z2, z3, z4, e1, e2.stay (K2.stay (by omega) (by omega))⟩)⟩
      · intro L a w' K' hd hL hI hK
        obtain ⟨u14, u15, u16, u17, u18, u19, u20, u21, u22, u23, u24, u25, u26, u27, u28, u29, u30, u31, u32, rfl, ⟨hR, hKp, hW, hz⟩, h0, h1, h2, h3, h4, h5, h6, h7, h8, h9, h10, h11, h12, h13, h14, h15, h16, h17, h18, h19⟩ := hI
        obtain ⟨x, rfl, hx⟩ := h1 (hd ⟨1, .data⟩ (by simp) rfl)
        have hx0 := hx.1
        have hx1 := hx.2.1 (by decide)
        have hwr : IntKind.i64.wrap (1 + x) = 1 + x := by rw [IntKind.wrap_i64]; omega
        go_simp
        exact hK.out _ _ ⟨_, _, _, _, _, _, _, _, _, _, _, _, _, _, _, _, _, _, _, rfl, ⟨by rw [cntL_out (by decide)]; exact hR, hKp, hW, hz⟩, keepL (by decide) h0, keepL (by decide) (fun _ => ⟨x, rfl, hx⟩), fun _ => ⟨1 + x, rfl, by unfold Small; omega⟩, keepL (by decide) h3, keepL (by decide) h4, keepL (by decide) h5, keepL (by decide) h6, keepL (by decide) h7, keepL (by decide) h8, keepL (by decide) h9, keepL (by decide) h10, keepL (by decide) h11, keepL (by decide) h12, keepL (by decide) h13, keepL (by decide) h14, keepL (by decide) h15, keepL (by decide) h16, keepL (by decide) h17, keepL (by decide) h18, keepL (by decide) h19⟩
      · intro L a w' K' hd hL hI hK
        obtain ⟨u14, u15, u16, u17, u18, u19, u20, u21, u22, u23, u24, u25, u26, u27, u28, u29, u30, u31, u32, rfl, ⟨hR, hKp, hW, hz⟩, h0, h1, h2, h3, h4, h5, h6, h7, h8, h9, h10, h11, h12, h13, h14, h15, h16, h17, h18, h19⟩ := hI
        go_simp
        exact hK.out _ _ ⟨_, _, _, _, _, _, _, _, _, _, _, _, _, _, _, _, _, _, _, rfl, ⟨by rw [cntL_out (by decide)]; exact hR, hKp, hW, hz⟩, keepL (by decide) h0, keepL (by decide) h1, keepL (by decide) h2, fun _ => rfl, keepL (by decide) h4, keepL (by decide) h5, keepL (by decide) h6, keepL (by decide) h7, keepL (by decide) h8, keepL (by decide) h9, keepL (by decide) h10, keepL (by decide) h11, keepL (by decide) h12, keepL (by decide) h13, keepL (by decide) h14, keepL (by decide) h15, keepL (by decide) h16, keepL (by decide) h17, keepL (by decide) h18, keepL (by decide) h19⟩
      · intro L a w' K' hd hL hI hK
        obtain ⟨u14, u15, u16, u17, u18, u19, u20, u21, u22, u23, u24, u25, u26, u27, u28, u29, u30, u31, u32, rfl, ⟨hR, hKp, hW, hz⟩, h0, h1, h2, h3, h4, h5, h6, h7, h8, h9, h10, h11, h12, h13, h14, h15, h16, h17, h18, h19⟩ := hI
        go_simp
        exact hK.out _ _ ⟨_, _, _, _, _, _, _, _, _, _, _, _, _, _, _, _, _, _, _, rfl, ⟨by rw [cntL_out (by decide)]; exact hR, hKp, hW, hz⟩, keepL (by decide) h0, keepL (by decide) h1, keepL (by decide) h2, keepL (by decide) h3, fun _ => rfl, keepL (by decide) h5, keepL (by decide) h6, keepL (by decide) h7, keepL (by decide) h8, keepL (by decide) h9, keepL (by decide) h10, keepL (by decide) h11, keepL (by decide) h12, keepL (by decide) h13, keepL (by decide) h14, keepL (by decide) h15, keepL (by decide) h16, keepL (by decide) h17, keepL (by decide) h18, keepL (by decide) h19⟩
      · intro L a w' K' hd hL hI hK
        obtain ⟨u14, u15, u16, u17, u18, u19, u20, u21, u22, u23, u24, u25, u26, u27, u28, u29, u30, u31, u32, rfl, ⟨hR, hKp, hW, hz⟩, h0, h1, h2, h3, h4, h5, h6, h7, h8, h9, h10, h11, h12, h13, h14, h15, h16, h17, h18, h19⟩ := hI
        obtain rfl := h3 (hd ⟨3, .data⟩ (by simp) rfl)
        obtain rfl := h4 (hd ⟨4, .data⟩ (by simp) rfl)
        go_simp
        go_wp2_with (go_at_call 14; refine (pick_B hR (by have := (cntL_bd L [1, 5, 8, 13, 17]).2; simp at this; omega)).mono ?_; rintro e w2 ⟨x, rfl, hx, hR2, K2⟩)
        exact hK.out _ _ ⟨_, _, _, _, _, _, _, _, _, _, _, _, _, _, _, _, _, _, _, rfl, ⟨by rw [cntL_in hL (by decide) (by decide), ← Int.add_assoc]; exact hR2, hKp.trans K2, hW.kept K2 (by omega), Nat.lt_of_lt_of_le hz K2.size⟩, keepL (by decide) h0, keepL (by decide) h1, keepL (by decide) h2, keepL (by decide) (fun _ => rfl), keepL (by decide) (fun _ => rfl), fun _ => ⟨x, rfl, pick_small hx (by omega)⟩, keepL (by decide) (fun e => match (h6 e) with | ⟨g, e1, e2, e3, e4⟩ => ⟨g, e1, e2.stay (K2.stay e2.1 e3), e3, e4⟩), keepL (by decide) h7, keepL (by decide) h8, keepL (by decide) (fun e => match (h9 e) with | ⟨g, x, e1, e2, e5, e6, e3, e4⟩ => ⟨g, x, e1, e2.stay (K2.stay e2.1 e3), e5, e6, e3, e4⟩), keepL (by decide) h10, keepL (by decide) (fun e => match (h11 e) with | ⟨g, e1, e2, e3, e4⟩ => ⟨g, e1, e2.stay (K2.stay e2.1 e3), e3, e4⟩), keepL (by decide) h12, keepL (by decide) h13, keepL (by decide) (fun e => match (h14 e) with | ⟨g, x, e1, e2, e5, e6, e3, e4⟩ => ⟨g, x, e1, e2.stay (K2.stay e2.1 e3), e5, e6, e3, e4⟩), keepL (by decide) h15, keepL (by decide) h16, keepL (by decide) h17, keepL (by decide) h18, keepL (by decide) (fun e => match (h19 e) with | ⟨z0, z1, z2, z3, z4, e1, e2⟩ => ⟨z0, z1, z2, z3, z4, e1, e2.stay (K2.stay (by omega) (by omega))⟩)⟩
      · intro L a w' K' hd hL hI hK
        obtain ⟨u14, u15, u16, u17, u18, u19, u20, u21, u22, u23, u24, u25, u26, u27, u28, u29, u30, u31, u32, rfl, ⟨hR, hKp, hW, hz⟩, h0, h1, h2, h3, h4, h5, h6, h7, h8, h9, h10, h11, h12, h13, h14, h15, h16, h17, h18, h19⟩ := hI
        go_simp
        exact hK.out _ _ ⟨_, _, _, _, _, _, _, _, _, _, _, _, _, _, _, _, _, _, _, rfl, ⟨by rw [cntL_out (by decide)]; exact hR.alloc _, hKp.alloc _, hW.kept ((Kept.refl r w').alloc _) (by omega), by simp; omega⟩, keepL (by decide) h0, keepL (by decide) h1, keepL (by decide) h2, keepL (by decide) h3, keepL (by decide) h4, keepL (by decide) h5, fun _ => ⟨w'.heap.size, rfl, Lits.new [0, 1, 5, 20, 95, 99] w' 3, by omega, by omega⟩, keepL (by decide) h7, keepL (by decide) h8, keepL (by decide) (fun e => match (h9 e) with | ⟨g, x, e1, e2, e5, e6, e3, e4⟩ => ⟨g, x, e1, e2.stay (((Kept.refl r w').alloc _).stay e2.1 e3), e5, e6, e3, e4⟩), keepL (by decide) h10, keepL (by decide) (fun e => match (h11 e) with | ⟨g, e1, e2, e3, e4⟩ => ⟨g, e1, e2.stay (((Kept.refl r w').alloc _).stay e2.1 e3), e3, e4⟩), keepL (by decide) h12, keepL (by decide) h13, keepL (by decide) (fun e => match (h14 e) with | ⟨g, x, e1, e2, e5, e6, e3, e4⟩ => ⟨g, x, e1, e2.stay (((Kept.refl r w').alloc _).stay e2.1 e3), e5, e6, e3, e4⟩), keepL (by decide) h15, keepL (by decide) h16, keepL (by decide) h17, keepL (by decide) h18, keepL (by decide) (fun e => match (h19 e) with | ⟨z0, z1, z2, z3, z4, e1, e2⟩ => ⟨z0, z1, z2, z3, z4, e1, e2.stay (((Kept.refl r w').alloc _).stay (by omega) (by omega))⟩)⟩
      · intro L a w' K' hd hL hI hK
        obtain ⟨u14, u15, u16, u17, u18, u19, u20, u21, u22, u23, u24, u25, u26, u27, u28, u29, u30, u31, u32, rfl, ⟨hR, hKp, hW, hz⟩, h0, h1, h2, h3, h4, h5, h6, h7, h8, h9, h10, h11, h12, h13, h14, h15, h16, h17, h18, h19⟩ := hI
        go_simp
        exact hK.out _ _ ⟨_, _, _, _, _, _, _, _, _, _, _, _, _, _, _, _, _, _, _, rfl, ⟨by rw [cntL_out (by decide)]; exact hR, hKp, hW, hz⟩, keepL (by decide) h0, keepL (by decide) h1, keepL (by decide) h2, keepL (by decide) h3, keepL (by decide) h4, keepL (by decide) h5, keepL (by decide) h6, fun _ => rfl, keepL (by decide) h8, keepL (by decide) h9, keepL (by decide) h10, keepL (by decide) h11, keepL (by decide) h12, keepL (by decide) h13, keepL (by decide) h14, keepL (by decide) h15, keepL (by decide) h16, keepL (by decide) h17, keepL (by decide) h18, keepL (by decide) h19⟩
      · intro L a w' K' hd hL hI hK
        obtain ⟨u14, u15, u16, u17, u18, u19, u20, u21, u22, u23, u24, u25, u26, u27, u28, u29, u30, u31, u32, rfl, ⟨hR, hKp, hW, hz⟩, h0, h1, h2, h3, h4, h5, h6, h7, h8, h9, h10, h11, h12, h13, h14, h15, h16, h17, h18, h19⟩ := hI
        obtain rfl := h7 (hd ⟨7, .data⟩ (by simp) rfl)
        go_simp
        go_wp2_with (go_at_call 14; refine (pick_B hR (by have := (cntL_bd L [1, 5, 8, 13, 17]).2; simp at this; omega)).mono ?_; rintro e w2 ⟨x, rfl, hx, hR2, K2⟩)
        exact hK.out _ _ ⟨_, _, _, _, _, _, _, _, _, _, _, _, _, _, _, _, _, _, _, rfl, ⟨by rw [cntL_in hL (by decide) (by decide), ← Int.add_assoc]; exact hR2, hKp.trans K2, hW.kept K2 (by omega), Nat.lt_of_lt_of_le hz K2.size⟩, keepL (by decide) h0, keepL (by decide) h1, keepL (by decide) h2, keepL (by decide) h3, keepL (by decide) h4, keepL (by decide) h5, keepL (by decide) (fun e => match (h6 e) with | ⟨g, e1, e2, e3, e4⟩ => ⟨g, e1, e2.stay (K2.stay e2.1 e3), e3, e4⟩), keepL (by decide) (fun _ => rfl), fun _ => ⟨x, rfl, hx⟩, keepL (by decide) (fun e => match (h9 e) with | ⟨g, x, e1, e2, e5, e6, e3, e4⟩ => ⟨g, x, e1, e2.stay (K2.stay e2.1 e3), e5, e6, e3, e4⟩), keepL (by decide) h10, keepL (by decide) (fun e => match (h11 e) with | ⟨g, e1, e2, e3, e4⟩ => ⟨g, e1, e2.stay (K2.stay e2.1 e3), e3, e4⟩), keepL (by decide) h12, keepL (by decide) h13, keepL (by decide) (fun e => match (h14 e) with | ⟨g, x, e1, e2, e5, e6, e3, e4⟩ => ⟨g, x, e1, e2.stay (K2.stay e2.1 e3), e5, e6, e3, e4⟩), keepL (by decide) h15, keepL (by decide) h16, keepL (by decide) h17, keepL (by decide) h18, keepL (by decide) (fun e => match (h19 e) with | ⟨z0, z1, z2, z3, z4, e1, e2⟩ => ⟨z0, z1, z2, z3, z4, e1, e2.stay (K2.stay (by omega) (by omega))⟩)⟩
      · intro L a w' K' hd hL hI hK
        obtain ⟨u14, u15, u16, u17, u18, u19, u20, u21, u22, u23, u24, u25, u26, u27, u28, u29, u30, u31, u32, rfl, ⟨hR, hKp, hW, hz⟩, h0, h1, h2, h3, h4, h5, h6, h7, h8, h9, h10, h11, h12, h13, h14, h15, h16, h17, h18, h19⟩ := hI
        obtain ⟨g, rfl, hg, hn, hn2⟩ := h6 (hd ⟨6, .data⟩ (by simp) rfl)
        obtain ⟨x, rfl, hx⟩ := h8 (hd ⟨8, .data⟩ (by simp) rfl)
        have hx0 := hx.1
        have hx1 := hx.2.1 (by decide)
        go_simp
        exact hK.out _ _ ⟨_, _, _, _, _, _, _, _, _, _, _, _, _, _, _, _, _, _, _, rfl, ⟨by rw [cntL_out (by decide)]; exact hR, hKp, hW, hz⟩, keepL (by decide) h0, keepL (by decide) h1, keepL (by decide) h2, keepL (by decide) h3, keepL (by decide) h4, keepL (by decide) h5, keepL (by decide) (fun _ => ⟨g, rfl, hg, hn, hn2⟩), keepL (by decide) h7, keepL (by decide) (fun _ => ⟨x, rfl, hx⟩), fun _ => ⟨g, x, rfl, hg, hx0, hx1, hn, hn2⟩, keepL (by decide) h10, keepL (by decide) h11, keepL (by decide) h12, keepL (by decide) h13, keepL (by decide) h14, keepL (by decide) h15, keepL (by decide) h16, keepL (by decide) h17, keepL (by decide) h18, keepL (by decide) h19⟩
      · intro L a w' K' hd hL hI hK
        obtain ⟨u14, u15, u16, u17, u18, u19, u20, u21, u22, u23, u24, u25, u26, u27, u28, u29, u30, u31, u32, rfl, ⟨hR, hKp, hW, hz⟩, h0, h1, h2, h3, h4, h5, h6, h7, h8, h9, h10, h11, h12, h13, h14, h15, h16, h17, h18, h19⟩ := hI
        obtain ⟨g, x, rfl, hg, hx0, hx1, hn, hn2⟩ := h9 (hd ⟨9, .data⟩ (by simp) rfl)
        obtain ⟨z, hcz, hsz⟩ : ∃ z, w'.cell? ⟨g, x.toNat, none⟩ = some (.int .i64 z) ∧ Small z := ⟨_, hg.2 x hx0 hx1, lits_small _ (by decide)⟩
        go_simp
        exact hK.out _ _ ⟨_, _, _, _, _, _, _, _, _, _, _, _, _, _, _, _, _, _, _, rfl, ⟨by rw [cntL_out (by decide)]; exact hR, hKp, hW, hz⟩, keepL (by decide) h0, keepL (by decide) h1, keepL (by decide) h2, keepL (by decide) h3, keepL (by decide) h4, keepL (by decide) h5, keepL (by decide) h6, keepL (by decide) h7, keepL (by decide) h8, keepL (by decide) (fun _ => ⟨g, x, rfl, hg, hx0, hx1, hn, hn2⟩), fun _ => ⟨z, rfl, hsz⟩, keepL (by decide) h11, keepL (by decide) h12, keepL (by decide) h13, keepL (by decide) h14, keepL (by decide) h15, keepL (by decide) h16, keepL (by decide) h17, keepL (by decide) h18, keepL (by decide) h19⟩
      · intro L a w' K' hd hL hI hK
        obtain ⟨u14, u15, u16, u17, u18, u19, u20, u21, u22, u23, u24, u25, u26, u27, u28, u29, u30, u31, u32, rfl, ⟨hR, hKp, hW, hz⟩, h0, h1, h2, h3, h4, h5, h6, h7, h8, h9, h10, h11, h12, h13, h14, h15, h16, h17, h18, h19⟩ := hI
        go_simp
        exact hK.out _ _ ⟨_, _, _, _, _, _, _, _, _, _, _, _, _, _, _, _, _, _, _, rfl, ⟨by rw [cntL_out (by decide)]; exact hR.alloc _, hKp.alloc _, hW.kept ((Kept.refl r w').alloc _) (by omega), by simp; omega⟩, keepL (by decide) h0, keepL (by decide) h1, keepL (by decide) h2, keepL (by decide) h3, keepL (by decide) h4, keepL (by decide) h5, keepL (by decide) (fun e => match (h6 e) with | ⟨g, e1, e2, e3, e4⟩ => ⟨g, e1, e2.stay (((Kept.refl r w').alloc _).stay e2.1 e3), e3, e4⟩), keepL (by decide) h7, keepL (by decide) h8, keepL (by decide) (fun e => match (h9 e) with | ⟨g, x, e1, e2, e5, e6, e3, e4⟩ => ⟨g, x, e1, e2.stay (((Kept.refl r w').alloc _).stay e2.1 e3), e5, e6, e3, e4⟩), keepL (by decide) h10, fun _ => ⟨w'.heap.size, rfl, Lits.new [0, 0, 1, 7, 900] w' 3, by omega, by omega⟩, keepL (by decide) h12, keepL (by decide) h13, keepL (by decide) (fun e => match (h14 e) with | ⟨g, x, e1, e2, e5, e6, e3, e4⟩ => ⟨g, x, e1, e2.stay (((Kept.refl r w').alloc _).stay e2.1 e3), e5, e6, e3, e4⟩), keepL (by decide) h15, keepL (by decide) h16, keepL (by decide) h17, keepL (by decide) h18, keepL (by decide) (fun e => match (h19 e) with | ⟨z0, z1, z2, z3, z4, e1, e2⟩ => ⟨z0, z1, z2, z3, z4, e1, e2.stay (((Kept.refl r w').alloc _).stay (by omega) (by omega))⟩)⟩
      · intro L a w' K' hd hL hI hK
        obtain ⟨u14, u15, u16, u17, u18, u19, u20, u21, u22, u23, u24, u25, u26, u27, u28, u29, u30, u31, u32, rfl, ⟨hR, hKp, hW, hz⟩, h0, h1, h2, h3, h4, h5, h6, h7, h8, h9, h10, h11, h12, h13, h14, h15, h16, h17, h18, h19⟩ := hI
        go_simp
        exact hK.out _ _ ⟨_, _, _, _, _, _, _, _, _, _, _, _, _, _, _, _, _, _, _, rfl, ⟨by rw [cntL_out (by decide)]; exact hR, hKp, hW, hz⟩, keepL (by decide) h0, keepL (by decide) h1, keepL (by decide) h2, keepL (by decide) h3, keepL (by decide) h4, keepL (by decide) h5, keepL (by decide) h6, keepL (by decide) h7, keepL (by decide) h8, keepL (by decide) h9, keepL (by decide) h10, keepL (by decide) h11, fun _ => rfl, keepL (by decide) h13, keepL (by decide) h14, keepL (by decide) h15, keepL (by decide) h16, keepL (by decide) h17, keepL (by decide) h18, keepL (by decide) h19⟩
      · intro L a w' K' hd hL hI hK
        obtain ⟨u14, u15, u16, u17, u18, u19, u20, u21, u22, u23, u24, u25, u26, u27, u28, u29, u30, u31, u32, rfl, ⟨hR, hKp, hW, hz⟩, h0, h1, h2, h3, h4, h5, h6, h7, h8, h9, h10, h11, h12, h13, h14, h15, h16, h17, h18, h19⟩ := hI
        obtain rfl := h12 (hd ⟨12, .data⟩ (by simp) rfl)
        go_simp
        go_wp2_with (go_at_call 14; refine (pick_B hR (by have := (cntL_bd L [1, 5, 8, 13, 17]).2; simp at this; omega)).mono ?_; rintro e w2 ⟨x, rfl, hx, hR2, K2⟩)
        exact hK.out _ _ ⟨_, _, _, _, _, _, _, _, _, _, _, _, _, _, _, _, _, _, _, rfl, ⟨by rw [cntL_in hL (by decide) (by decide), ← Int.add_assoc]; exact hR2, hKp.trans K2, hW.kept K2 (by omega), Nat.lt_of_lt_of_le hz K2.size⟩, keepL (by decide) h0, keepL (by decide) h1, keepL (by decide) h2, keepL (by decide) h3, keepL (by decide) h4, keepL (by decide) h5, keepL (by decide) (fun e => match (h6 e) with | ⟨g, e1, e2, e3, e4⟩ => ⟨g, e1, e2.stay (K2.stay e2.1 e3), e3, e4⟩), keepL (by decide) h7, keepL (by decide) h8, keepL (by decide) (fun e => match (h9 e) with | ⟨g, x, e1, e2, e5, e6, e3, e4⟩ => ⟨g, x, e1, e2.stay (K2.stay e2.1 e3), e5, e6, e3, e4⟩), keepL (by decide) h10, keepL (by decide) (fun e => match (h11 e) with | ⟨g, e1, e2, e3, e4⟩ => ⟨g, e1, e2.stay (K2.stay e2.1 e3), e3, e4⟩), keepL (by decide) (fun _ => rfl), fun _ => ⟨x, rfl, hx⟩, keepL (by decide) (fun e => match (h14 e) with | ⟨g, x, e1, e2, e5, e6, e3, e4⟩ => ⟨g, x, e1, e2.stay (K2.stay e2.1 e3), e5, e6, e3, e4⟩), keepL (by decide) h15, keepL (by decide) h16, keepL (by decide) h17, keepL (by decide) h18, keepL (by decide) (fun e => match (h19 e) with | ⟨z0, z1, z2, z3, z4, e1, e2⟩ => ⟨z0, z1, z2, z3, z4, e1, e2.stay (K2.stay (by omega) (by omega))⟩)⟩
      · intro L a w' K' hd hL hI hK
        obtain ⟨u14, u15, u16, u17, u18, u19, u20, u21, u22, u23, u24, u25, u26, u27, u28, u29, u30, u31, u32, rfl, ⟨hR, hKp, hW, hz⟩, h0, h1, h2, h3, h4, h5, h6, h7, h8, h9, h10, h11, h12, h13, h14, h15, h16, h17, h18, h19⟩ := hI
        obtain ⟨g, rfl, hg, hn, hn2⟩ := h11 (hd ⟨11, .data⟩ (by simp) rfl)
        obtain ⟨x, rfl, hx⟩ := h13 (hd ⟨13, .data⟩ (by simp) rfl)
        have hx0 := hx.1
        have hx1 := hx.2.1 (by decide)
        go_simp
        exact hK.out _ _ ⟨_, _, _, _, _, _, _, _, _, _, _, _, _, _, _, _, _, _, _, rfl, ⟨by rw [cntL_out (by decide)]; exact hR, hKp, hW, hz⟩, keepL (by decide) h0, keepL (by decide) h1, keepL (by decide) h2, keepL (by decide) h3, keepL (by decide) h4, keepL (by decide) h5, keepL (by decide) h6, keepL (by decide) h7, keepL (by decide) h8, keepL (by decide) h9, keepL (by decide) h10, keepL (by decide) (fun _ => ⟨g, rfl, hg, hn, hn2⟩), keepL (by decide) h12, keepL (by decide) (fun _ => ⟨x, rfl, hx⟩), fun _ => ⟨g, x, rfl, hg, hx0, hx1, hn, hn2⟩, keepL (by decide) h15, keepL (by decide) h16, keepL (by decide) h17, keepL (by decide) h18, keepL (by decide) h19⟩
      · intro L a w' K' hd hL hI hK
        obtain ⟨u14, u15, u16, u17, u18, u19, u20, u21, u22, u23, u24, u25, u26, u27, u28, u29, u30, u31, u32, rfl, ⟨hR, hKp, hW, hz⟩, h0, h1, h2, h3, h4, h5, h6, h7, h8, h9, h10, h11, h12, h13, h14, h15, h16, h17, h18, h19⟩ := hI
        obtain ⟨g, x, rfl, hg, hx0, hx1, hn, hn2⟩ := h14 (hd ⟨14, .data⟩ (by simp) rfl)
        obtain ⟨z, hcz, hsz⟩ : ∃ z, w'.cell? ⟨g, x.toNat, none⟩ = some (.int .i64 z) ∧ Small z := ⟨_, hg.2 x hx0 hx1, lits_small _ (by decide)⟩
        go_simp
        exact hK.out _ _ ⟨_, _, _, _, _, _, _, _, _, _, _, _, _, _, _, _, _, _, _, rfl, ⟨by rw [cntL_out (by decide)]; exact hR, hKp, hW, hz⟩, keepL (by decide) h0, keepL (by decide) h1, keepL (by decide) h2, keepL (by decide) h3, keepL (by decide) h4, keepL (by decide) h5, keepL (by decide) h6, keepL (by decide) h7, keepL (by decide) h8, keepL (by decide) h9, keepL (by decide) h10, keepL (by decide) h11, keepL (by decide) h12, keepL (by decide) h13, keepL (by decide) (fun _ => ⟨g, x, rfl, hg, hx0, hx1, hn, hn2⟩), fun _ => ⟨z, rfl, hsz⟩, keepL (by decide) h16, keepL (by decide) h17, keepL (by decide) h18, keepL (by decide) h19⟩
      · intro L a w' K' hd hL hI hK
        obtain ⟨u14, u15, u16, u17, u18, u19, u20, u21, u22, u23, u24, u25, u26, u27, u28, u29, u30, u31, u32, rfl, ⟨hR, hKp, hW, hz⟩, h0, h1, h2, h3, h4, h5, h6, h7, h8, h9, h10, h11, h12, h13, h14, h15, h16, h17, h18, h19⟩ := hI
        go_simp
        exact hK.out _ _ ⟨_, _, _, _, _, _, _, _, _, _, _, _, _, _, _, _, _, _, _, rfl, ⟨by rw [cntL_out (by decide)]; exact hR, hKp, hW, hz⟩, keepL (by decide) h0, keepL (by decide) h1, keepL (by decide) h2, keepL (by decide) h3, keepL (by decide) h4, keepL (by decide) h5, keepL (by decide) h6, keepL (by decide) h7, keepL (by decide) h8, keepL (by decide) h9, keepL (by decide) h10, keepL (by decide) h11, keepL (by decide) h12, keepL (by decide) h13, keepL (by decide) h14, keepL (by decide) h15, fun _ => rfl, keepL (by decide) h17, keepL (by decide) h18, keepL (by decide) h19⟩
      · intro L a w' K' hd hL hI hK
        obtain ⟨u14, u15, u16, u17, u18, u19, u20, u21, u22, u23, u24, u25, u26, u27, u28, u29, u30, u31, u32, rfl, ⟨hR, hKp, hW, hz⟩, h0, h1, h2, h3, h4, h5, h6, h7, h8, h9, h10, h11, h12, h13, h14, h15, h16, h17, h18, h19⟩ := hI
        obtain rfl := h16 (hd ⟨16, .data⟩ (by simp) rfl)
        go_simp
        go_wp2_with (go_at_call 14; refine (pick_B hR (by have := (cntL_bd L [1, 5, 8, 13, 17]).2; simp at this; omega)).mono ?_; rintro e w2 ⟨x, rfl, hx, hR2, K2⟩)
        exact hK.out _ _ ⟨_, _, _, _, _, _, _, _, _, _, _, _, _, _, _, _, _, _, _, rfl, ⟨by rw [cntL_in hL (by decide) (by decide), ← Int.add_assoc]; exact hR2, hKp.trans K2, hW.kept K2 (by omega), Nat.lt_of_lt_of_le hz K2.size⟩, keepL (by decide) h0, keepL (by decide) h1, keepL (by decide) h2, keepL (by decide) h3, keepL (by decide) h4, keepL (by decide) h5, keepL (by decide) (fun e => match (h6 e) with | ⟨g, e1, e2, e3, e4⟩ => ⟨g, e1, e2.stay (K2.stay e2.1 e3), e3, e4⟩), keepL (by decide) h7, keepL (by decide) h8, keepL (by decide) (fun e => match (h9 e) with | ⟨g, x, e1, e2, e5, e6, e3, e4⟩ => ⟨g, x, e1, e2.stay (K2.stay e2.1 e3), e5, e6, e3, e4⟩), keepL (by decide) h10, keepL (by decide) (fun e => match (h11 e) with | ⟨g, e1, e2, e3, e4⟩ => ⟨g, e1, e2.stay (K2.stay e2.1 e3), e3, e4⟩), keepL (by decide) h12, keepL (by decide) h13, keepL (by decide) (fun e => match (h14 e) with | ⟨g, x, e1, e2, e5, e6, e3, e4⟩ => ⟨g, x, e1, e2.stay (K2.stay e2.1 e3), e5, e6, e3, e4⟩), keepL (by decide) h15, keepL (by decide) (fun _ => rfl), fun _ => ⟨x, rfl, pick_small hx (by decide)⟩, keepL (by decide) h18, keepL (by decide) (fun e => match (h19 e) with | ⟨z0, z1, z2, z3, z4, e1, e2⟩ => ⟨z0, z1, z2, z3, z4, e1, e2.stay (K2.stay (by omega) (by omega))⟩)⟩
      · intro L a w' K' hd hL hI hK
        obtain ⟨u14, u15, u16, u17, u18, u19, u20, u21, u22, u23, u24, u25, u26, u27, u28, u29, u30, u31, u32, rfl, ⟨hR, hKp, hW, hz⟩, h0, h1, h2, h3, h4, h5, h6, h7, h8, h9, h10, h11, h12, h13, h14, h15, h16, h17, h18, h19⟩ := hI
        obtain ⟨z0, rfl, s0⟩ := h2 (hd ⟨2, .data⟩ (by simp) rfl)
        obtain ⟨z1, rfl, s1⟩ := h5 (hd ⟨5, .data⟩ (by simp) rfl)
        obtain ⟨z2, rfl, s2⟩ := h10 (hd ⟨10, .data⟩ (by simp) rfl)
        obtain ⟨z3, rfl, s3⟩ := h15 (hd ⟨15, .data⟩ (by simp) rfl)
        obtain ⟨z4, rfl, s4⟩ := h17 (hd ⟨17, .data⟩ (by simp) rfl)
        go_simp
        exact hK.out _ _ ⟨_, _, _, _, _, _, _, _, _, _, _, _, _, _, _, _, _, _, _, rfl, ⟨by rw [cntL_out (by decide)]; exact hR, hKp, hW, hz⟩, keepL (by decide) h0, keepL (by decide) h1, keepL (by decide) (fun _ => ⟨z0, rfl, s0⟩), keepL (by decide) h3, keepL (by decide) h4, keepL (by decide) (fun _ => ⟨z1, rfl, s1⟩), keepL (by decide) h6, keepL (by decide) h7, keepL (by decide) h8, keepL (by decide) h9, keepL (by decide) (fun _ => ⟨z2, rfl, s2⟩), keepL (by decide) h11, keepL (by decide) h12, keepL (by decide) h13, keepL (by decide) h14, keepL (by decide) (fun _ => ⟨z3, rfl, s3⟩), keepL (by decide) h16, keepL (by decide) (fun _ => ⟨z4, rfl, s4⟩), fun _ => ⟨z0, z1, z2, z3, z4, rfl, s0, s1, s2, s3, s4⟩, keepL (by decide) h19⟩
      · intro L a w' K' hd hL hI hK
        obtain ⟨u14, u15, u16, u17, u18, u19, u20, u21, u22, u23, u24, u25, u26, u27, u28, u29, u30, u31, u32, rfl, ⟨hR, hKp, hW, hz⟩, h0, h1, h2, h3, h4, h5, h6, h7, h8, h9, h10, h11, h12, h13, h14, h15, h16, h17, h18, h19⟩ := hI
        obtain ⟨z0, z1, z2, z3, z4, rfl, hsm⟩ := h18 (hd ⟨18, .data⟩ (by simp) rfl)
        obtain ⟨v0, q0, f0⟩ := hW 0 (by decide)
        obtain ⟨v1, q1, f1⟩ := hW 1 (by decide)
        obtain ⟨v2, q2, f2⟩ := hW 2 (by decide)
        obtain ⟨v3, q3, f3⟩ := hW 3 (by decide)
        obtain ⟨v4, q4, f4⟩ := hW 4 (by decide)
        go_simp
        exact hK.out _ _ ⟨_, _, _, _, _, _, _, _, _, _, _, _, _, _, _, _, _, _, _, rfl, ⟨by rw [cntL_out (by decide)]; exact hR.p5 (by omega) _ _ _ _ _, hKp.p5 (by omega) _ _ _ _ _, hW.p5 _ _ _ _ _, by simpa [World.setCell] using hz⟩, keepL (by decide) h0, keepL (by decide) h1, keepL (by decide) h2, keepL (by decide) h3, keepL (by decide) h4, keepL (by decide) h5, keepL (by decide) (fun e => match (h6 e) with | ⟨g, e1, e2, e3, e4⟩ => ⟨g, e1, e2.stay (stay5 e4 _ _ _ _ _), e3, e4⟩), keepL (by decide) h7, keepL (by decide) h8, keepL (by decide) (fun e => match (h9 e) with | ⟨g, x, e1, e2, e5, e6, e3, e4⟩ => ⟨g, x, e1, e2.stay (stay5 e4 _ _ _ _ _), e5, e6, e3, e4⟩), keepL (by decide) h10, keepL (by decide) (fun e => match (h11 e) with | ⟨g, e1, e2, e3, e4⟩ => ⟨g, e1, e2.stay (stay5 e4 _ _ _ _ _), e3, e4⟩), keepL (by decide) h12, keepL (by decide) h13, keepL (by decide) (fun e => match (h14 e) with | ⟨g, x, e1, e2, e5, e6, e3, e4⟩ => ⟨g, x, e1, e2.stay (stay5 e4 _ _ _ _ _), e5, e6, e3, e4⟩), keepL (by decide) h15, keepL (by decide) h16, keepL (by decide) h17, keepL (by decide) (fun _ => ⟨z0, z1, z2, z3, z4, rfl, hsm⟩), fun _ => ⟨z0, z1, z2, z3, z4, hsm, five_set hW _ _ _ _ _⟩⟩
    case hdone =>
      intro L a w' hL hI
      obtain ⟨u14, u15, u16, u17, u18, u19, u20, u21, u22, u23, u24, u25, u26, u27, u28, u29, u30, u31, u32, rfl, ⟨hR, hKp, hW, hz⟩, h0, h1, h2, h3, h4, h5, h6, h7, h8, h9, h10, h11, h12, h13, h14, h15, h16, h17, h18, h19⟩ := hI
      obtain ⟨z0, z1, z2, z3, z4, hsm, c0, c1, c2, c3, c4⟩ := h19 (hL 19 (by decide))
      have hcb := (cntL_bd L [1, 5, 8, 13, 17]).2
      simp at hcb
      clear h0 h1 h2 h3 h4 h5 h6 h7 h8 h9 h10 h11 h12 h13 h14 h15 h16 h17 h18 h19 hL hW
      go_wp2
      refine bodyPost_ret (v := .agg #[.int .i64 z0, .int .i64 z1, .int .i64 z2, .int .i64 z3, .int .i64 z4]) (by simp [results, Try.results30, go_sem, c0, c1, c2, c3, c4]) rfl ⟨z0, z1, z2, z3, z4, rfl, hsm, hR.more (by omega), hKp⟩
end Go.Proofs.Ytjllgmkficjiaaa
namespace Go.Proofs.Ytjllgmkficjiaaa
open Go.RowKit
set_option linter.unusedVariables false
theorem Wr5.five {w : World} {b : Nat} {z0 z1 z2 z3 z4 : Int} (h : Five w b z0 z1 z2 z3 z4) (hf : ∀ j, j < 5 → w.frozen? ⟨b, j, none⟩ = false) : Wr5 w b := by
  obtain ⟨c0, c1, c2, c3, c4⟩ := h
  intro j hj
  have := hf j hj
  have h5 : j = 0 ∨ j = 1 ∨ j = 2 ∨ j = 3 ∨ j = 4 := by omega
  rcases h5 with rfl | rfl | rfl | rfl | rfl
  · exact ⟨_, c0, this⟩
  · exact ⟨_, c1, this⟩
  · exact ⟨_, c2, this⟩
  · exact ⟨_, c3, this⟩
  · exact ⟨_, c4, this⟩
theorem old_cell {W : World} {b o : Nat} (ob : Obj) (h : b < W.heap.size) : (W.alloc ob).cell? ⟨b, o, none⟩ = W.cell? ⟨b, o, none⟩ := ((Below.refl _ W).alloc (Nat.le_refl _) ob).cell (p := ⟨b, o, none⟩) h
theorem old_frozen {W : World} {b o : Nat} (ob : Obj) (h : b < W.heap.size) : (W.alloc ob).frozen? ⟨b, o, none⟩ = W.frozen? ⟨b, o, none⟩ := ((Below.refl _ W).alloc (Nat.le_refl _) ob).frozen (p := ⟨b, o, none⟩) h
set_option maxRecDepth 20000 in
set_option maxHeartbeats 2000000 in
theorem bad_B {r : Nat} {ad : Option Addr} {len cap : Nat} {m : Int} {z0 z1 z2 z3 z4 : Int} {w : World} (h : RdB w r ad len cap m) (hm : m ≤ 100000) (hs : Small z0 ∧ Small z1 ∧ Small z2 ∧ Small z3 ∧ Small z4) :
    Calls Try.prog 31 #[.pointer (some ⟨r, 0, none⟩), .agg #[.int .i64 z0, .int .i64 z1, .int .i64 z2, .int .i64 z3, .int .i64 z4]] w fun e w' => ∃ y0 y1 y2 y3 y4, e = .returned (.agg #[.int .i64 y0, .int .i64 y1, .int .i64 y2, .int .i64 y3, .int .i64 y4]) ∧ (Small y0 ∧ Small y1 ∧ Small y2 ∧ Small y3 ∧ Small y4) ∧ RdB w' r ad len cap (m + 2) ∧ Kept r w w' := by
  have H : Hid (RdB w r ad len cap m) := h
  have hrl := h.lt
  obtain ⟨s0, s1, s2, s3, s4⟩ := hs
  clear h
  go_enter Try.func31, Try.ntmps31
  go_wp2_with fail
  refine (pick_B ((((H.out.alloc _).alloc _).alloc _)) (by omega)).mono ?_
  rintro e w1 ⟨x, rfl, hx, R1, K1⟩
  have a0 : w1.cell? ⟨w.heap.size, 0, none⟩ = some (.int .i64 z0) := by rw [(kcell K1).1 (w.heap.size) 0 (by simp <;> omega) (by omega), old_cell _ (by simp <;> omega), old_cell _ (by simp <;> omega)]; simp
  have fa0 : w1.frozen? ⟨w.heap.size, 0, none⟩ = false := by rw [(kcell K1).2 (w.heap.size) 0 (by simp <;> omega) (by omega), old_frozen _ (by simp <;> omega), old_frozen _ (by simp <;> omega)]; simp
  have a1 : w1.cell? ⟨w.heap.size, 1, none⟩ = some (.int .i64 z1) := by rw [(kcell K1).1 (w.heap.size) 1 (by simp <;> omega) (by omega), old_cell _ (by simp <;> omega), old_cell _ (by simp <;> omega)]; simp
  have fa1 : w1.frozen? ⟨w.heap.size, 1, none⟩ = false := by rw [(kcell K1).2 (w.heap.size) 1 (by simp <;> omega) (by omega), old_frozen _ (by simp <;> omega), old_frozen _ (by simp <;> omega)]; simp
  have a2 : w1.cell? ⟨w.heap.size, 2, none⟩ = some (.int .i64 z2) := by rw [(kcell K1).1 (w.heap.size) 2 (by simp <;> omega) (by omega), old_cell _ (by simp <;> omega), old_cell _ (by simp <;> omega)]; simp
  have fa2 : w1.frozen? ⟨w.heap.size, 2, none⟩ = false := by rw [(kcell K1).2 (w.heap.size) 2 (by simp <;> omega) (by omega), old_frozen _ (by simp <;> omega), old_frozen _ (by simp <;> omega)]; simp
  have a3 : w1.cell? ⟨w.heap.size, 3, none⟩ = some (.int .i64 z3) := by rw [(kcell K1).1 (w.heap.size) 3 (by simp <;> omega) (by omega), old_cell _ (by simp <;> omega), old_cell _ (by simp <;> omega)]; simp
  have fa3 : w1.frozen? ⟨w.heap.size, 3, none⟩ = false := by rw [(kcell K1).2 (w.heap.size) 3 (by simp <;> omega) (by omega), old_frozen _ (by simp <;> omega), old_frozen _ (by simp <;> omega)]; simp
  have a4 : w1.cell? ⟨w.heap.size, 4, none⟩ = some (.int .i64 z4) := by rw [(kcell K1).1 (w.heap.size) 4 (by simp <;> omega) (by omega), old_cell _ (by simp <;> omega), old_cell _ (by simp <;> omega)]; simp
  have fa4 : w1.frozen? ⟨w.heap.size, 4, none⟩ = false := by rw [(kcell K1).2 (w.heap.size) 4 (by simp <;> omega) (by omega), old_frozen _ (by simp <;> omega), old_frozen _ (by simp <;> omega)]; simp
  have b0 : w1.cell? ⟨w.heap.size + 1, 0, none⟩ = some (.int .i64 0) := by rw [(kcell K1).1 (w.heap.size + 1) 0 (by simp <;> omega) (by omega), old_cell _ (by simp <;> omega)]; simp
  have fb0 : w1.frozen? ⟨w.heap.size + 1, 0, none⟩ = false := by rw [(kcell K1).2 (w.heap.size + 1) 0 (by simp <;> omega) (by omega), old_frozen _ (by simp <;> omega)]; simp
  have b1 : w1.cell? ⟨w.heap.size + 1, 1, none⟩ = some (.int .i64 0) := by rw [(kcell K1).1 (w.heap.size + 1) 1 (by simp <;> omega) (by omega), old_cell _ (by simp <;> omega)]; simp
  have fb1 : w1.frozen? ⟨w.heap.size + 1, 1, none⟩ = false := by rw [(kcell K1).2 (w.heap.size + 1) 1 (by simp <;> omega) (by omega), old_frozen _ (by simp <;> omega)]; simp
  have b2 : w1.cell? ⟨w.heap.size + 1, 2, none⟩ = some (.int .i64 0) := by rw [(kcell K1).1 (w.heap.size + 1) 2 (by simp <;> omega) (by omega), old_cell _ (by simp <;> omega)]; simp
  have fb2 : w1.frozen? ⟨w.heap.size + 1, 2, none⟩ = false := by rw [(kcell K1).2 (w.heap.size + 1) 2 (by simp <;> omega) (by omega), old_frozen _ (by simp <;> omega)]; simp
  have b3 : w1.cell? ⟨w.heap.size + 1, 3, none⟩ = some (.int .i64 0) := by rw [(kcell K1).1 (w.heap.size + 1) 3 (by simp <;> omega) (by omega), old_cell _ (by simp <;> omega)]; simp
  have fb3 : w1.frozen? ⟨w.heap.size + 1, 3, none⟩ = false := by rw [(kcell K1).2 (w.heap.size + 1) 3 (by simp <;> omega) (by omega), old_frozen _ (by simp <;> omega)]; simp
  have b4 : w1.cell? ⟨w.heap.size + 1, 4, none⟩ = some (.int .i64 0) := by rw [(kcell K1).1 (w.heap.size + 1) 4 (by simp <;> omega) (by omega), old_cell _ (by simp <;> omega)]; simp
  have fb4 : w1.frozen? ⟨w.heap.size + 1, 4, none⟩ = false := by rw [(kcell K1).2 (w.heap.size + 1) 4 (by simp <;> omega) (by omega), old_frozen _ (by simp <;> omega)]; simp
  have hz1 : w.heap.size + 2 < w1.heap.size := by have := K1.size; simp at this; omega
  obtain ⟨z, hcz, hsz⟩ : ∃ z, w1.cell? ⟨w.heap.size + 1 + 1, x.toNat, none⟩ = some (.int .i64 z) ∧ Small z := by
    have hl := (Lits.new [-1, 10, 100, 901, 64, 0] ((w.alloc (.cells #[.int .i64 z0, .int .i64 z1, .int .i64 z2, .int .i64 z3, .int .i64 z4] 46)).alloc (.cells #[.int .i64 0, .int .i64 0, .int .i64 0, .int .i64 0, .int .i64 0] 46)) 3).kept K1 (by simp; omega)
    have h2 := hl.2 x hx.1 (hx.2.1 (by decide))
    simp only [World.size_alloc] at h2
    exact ⟨_, h2, lits_small _ (by decide)⟩
  have KA : Hid (Kept r w w1) := ((((Kept.refl r w).alloc _).alloc _).alloc _).trans K1
  have hx0 := hx.1
  have hx1 := hx.2.1 (by decide)
  clear K1 H hx
  go_wp2_with fail
  refine (pick_B R1 (by omega)).mono ?_
  rintro e w2 ⟨y, rfl, hy, R2, K2⟩
  replace a0 : w2.cell? ⟨w.heap.size, 0, none⟩ = some (.int .i64 z0) := ((kcell K2).1 (w.heap.size) 0 (by omega) (by omega)).trans (a0)
  replace fa0 : w2.frozen? ⟨w.heap.size, 0, none⟩ = false := ((kcell K2).2 (w.heap.size) 0 (by omega) (by omega)).trans (fa0)
  replace a1 : w2.cell? ⟨w.heap.size, 1, none⟩ = some (.int .i64 z1) := ((kcell K2).1 (w.heap.size) 1 (by omega) (by omega)).trans (a1)
  replace fa1 : w2.frozen? ⟨w.heap.size, 1, none⟩ = false := ((kcell K2).2 (w.heap.size) 1 (by omega) (by omega)).trans (fa1)
  replace a2 : w2.cell? ⟨w.heap.size, 2, none⟩ = some (.int .i64 z2) := ((kcell K2).1 (w.heap.size) 2 (by omega) (by omega)).trans (a2)
  replace fa2 : w2.frozen? ⟨w.heap.size, 2, none⟩ = false := ((kcell K2).2 (w.heap.size) 2 (by omega) (by omega)).trans (fa2)
  replace a3 : w2.cell? ⟨w.heap.size, 3, none⟩ = some (.int .i64 z3) := ((kcell K2).1 (w.heap.size) 3 (by omega) (by omega)).trans (a3)
  replace fa3 : w2.frozen? ⟨w.heap.size, 3, none⟩ = false := ((kcell K2).2 (w.heap.size) 3 (by omega) (by omega)).trans (fa3)
  replace a4 : w2.cell? ⟨w.heap.size, 4, none⟩ = some (.int .i64 z4) := ((kcell K2).1 (w.heap.size) 4 (by omega) (by omega)).trans (a4)
  replace fa4 : w2.frozen? ⟨w.heap.size, 4, none⟩ = false := ((kcell K2).2 (w.heap.size) 4 (by omega) (by omega)).trans (fa4)
  replace b0 : w2.cell? ⟨w.heap.size + 1, 0, none⟩ = some (.int .i64 0) := ((kcell K2).1 (w.heap.size + 1) 0 (by omega) (by omega)).trans (b0)
  replace fb0 : w2.frozen? ⟨w.heap.size + 1, 0, none⟩ = false := ((kcell K2).2 (w.heap.size + 1) 0 (by omega) (by omega)).trans (fb0)
  replace b1 : w2.cell? ⟨w.heap.size + 1, 1, none⟩ = some (.int .i64 0) := ((kcell K2).1 (w.heap.size + 1) 1 (by omega) (by omega)).trans (b1)
  replace fb1 : w2.frozen? ⟨w.heap.size + 1, 1, none⟩ = false := ((kcell K2).2 (w.heap.size + 1) 1 (by omega) (by omega)).trans (fb1)
  replace b2 : w2.cell? ⟨w.heap.size + 1, 2, none⟩ = some (.int .i64 0) := ((kcell K2).1 (w.heap.size + 1) 2 (by omega) (by omega)).trans (b2)
  replace fb2 : w2.frozen? ⟨w.heap.size + 1, 2, none⟩ = false := ((kcell K2).2 (w.heap.size + 1) 2 (by omega) (by omega)).trans (fb2)
  replace b3 : w2.cell? ⟨w.heap.size + 1, 3, none⟩ = some (.int .i64 0) := ((kcell K2).1 (w.heap.size + 1) 3 (by omega) (by omega)).trans (b3)
  replace fb3 : w2.frozen? ⟨w.heap.size + 1, 3, none⟩ = false := ((kcell K2).2 (w.heap.size + 1) 3 (by omega) (by omega)).trans (fb3)
  replace b4 : w2.cell? ⟨w.heap.size + 1, 4, none⟩ = some (.int .i64 0) := ((kcell K2).1 (w.heap.size + 1) 4 (by omega) (by omega)).trans (b4)
  replace fb4 : w2.frozen? ⟨w.heap.size + 1, 4, none⟩ = false := ((kcell K2).2 (w.heap.size + 1) 4 (by omega) (by omega)).trans (fb4)
  have hz2 : w.heap.size + 2 < w2.heap.size := by have := K2.size; omega
  have KB : Hid (Kept r w w2) := KA.out.trans K2
  have hy0 := hy.1
  have hy1 := hy.2.1 (by decide)
  have RB : Hid (RdB w2 r ad len cap (m + 2)) := R2.more (by omega)
  clear K2 KA R1 R2 hy hcz
  by_cases g0 : y = 0
  · subst g0
    go_wp2
    refine bodyPost_ret (v := .agg #[.int .i64 z, .int .i64 z1, .int .i64 z2, .int .i64 z3, .int .i64 z4]) (by simp [results, Try.results31, go_sem, b0, b1, b2, b3, b4]) rfl ⟨z, z1, z2, z3, z4, rfl, ⟨hsz, s1, s2, s3, s4⟩, ?_, ?_⟩
    · obtain ⟨p, p0, p1, hp⟩ := RB.out
      exact ⟨p, p0, p1, hp.below (((((((Below.refl _ _).setCell (by simp <;> omega) _).setCell (by simp <;> omega) _).setCell (by simp <;> omega) _).setCell (by simp <;> omega) _).setCell (by simp <;> omega) _).setCell (by simp <;> omega) _)⟩
    · exact ((((((KB.out).setCell (.inl (by simp <;> omega)) _).setCell (.inl (by simp <;> omega)) _).setCell (.inl (by simp <;> omega)) _).setCell (.inl (by simp <;> omega)) _).setCell (.inl (by simp <;> omega)) _).setCell (.inl (by simp <;> omega)) _
  · have e0 : (y == 0) = false := by simpa using g0
    by_cases g1 : y = 1
    · subst g1
      go_wp2
      refine bodyPost_ret (v := .agg #[.int .i64 z0, .int .i64 z, .int .i64 z2, .int .i64 z3, .int .i64 z4]) (by simp [results, Try.results31, go_sem, b0, b1, b2, b3, b4]) rfl ⟨z0, z, z2, z3, z4, rfl, ⟨s0, hsz, s2, s3, s4⟩, ?_, ?_⟩
      · obtain ⟨p, p0, p1, hp⟩ := RB.out
        exact ⟨p, p0, p1, hp.below (((((((Below.refl _ _).setCell (by simp <;> omega) _).setCell (by simp <;> omega) _).setCell (by simp <;> omega) _).setCell (by simp <;> omega) _).setCell (by simp <;> omega) _).setCell (by simp <;> omega) _)⟩
      · exact ((((((KB.out).setCell (.inl (by simp <;> omega)) _).setCell (.inl (by simp <;> omega)) _).setCell (.inl (by simp <;> omega)) _).setCell (.inl (by simp <;> omega)) _).setCell (.inl (by simp <;> omega)) _).setCell (.inl (by simp <;> omega)) _
    · have e1 : (y == 1) = false := by simpa using g1
      by_cases g2 : y = 2
      · subst g2
        go_wp2
        refine bodyPost_ret (v := .agg #[.int .i64 z0, .int .i64 z1, .int .i64 z, .int .i64 z3, .int .i64 z4]) (by simp [results, Try.results31, go_sem, b0, b1, b2, b3, b4]) rfl ⟨z0, z1, z, z3, z4, rfl, ⟨s0, s1, hsz, s3, s4⟩, ?_, ?_⟩
        · obtain ⟨p, p0, p1, hp⟩ := RB.out
          exact ⟨p, p0, p1, hp.below (((((((Below.refl _ _).setCell (by simp <;> omega) _).setCell (by simp <;> omega) _).setCell (by simp <;> omega) _).setCell (by simp <;> omega) _).setCell (by simp <;> omega) _).setCell (by simp <;> omega) _)⟩
        · exact ((((((KB.out).setCell (.inl (by simp <;> omega)) _).setCell (.inl (by simp <;> omega)) _).setCell (.inl (by simp <;> omega)) _).setCell (.inl (by simp <;> omega)) _).setCell (.inl (by simp <;> omega)) _).setCell (.inl (by simp <;> omega)) _
      · have e2 : (y == 2) = false := by simpa using g2
        by_cases g3 : y = 3
        · subst g3
          go_wp2
          refine bodyPost_ret (v := .agg #[.int .i64 z0, .int .i64 z1, .int .i64 z2, .int .i64 z, .int .i64 z4]) (by simp [results, Try.results31, go_sem, b0, b1, b2, b3, b4]) rfl ⟨z0, z1, z2, z, z4, rfl, ⟨s0, s1, s2, hsz, s4⟩, ?_, ?_⟩
          · obtain ⟨p, p0, p1, hp⟩ := RB.out
            exact ⟨p, p0, p1, hp.below (((((((Below.refl _ _).setCell (by simp <;> omega) _).setCell (by simp <;> omega) _).setCell (by simp <;> omega) _).setCell (by simp <;> omega) _).setCell (by simp <;> omega) _).setCell (by simp <;> omega) _)⟩
          · exact ((((((KB.out).setCell (.inl (by simp <;> omega)) _).setCell (.inl (by simp <;> omega)) _).setCell (.inl (by simp <;> omega)) _).setCell (.inl (by simp <;> omega)) _).setCell (.inl (by simp <;> omega)) _).setCell (.inl (by simp <;> omega)) _
        · have e3 : (y == 3) = false := by simpa using g3
          go_wp2
          refine bodyPost_ret (v := .agg #[.int .i64 z0, .int .i64 z1, .int .i64 z2, .int .i64 z3, .int .i64 z]) (by simp [results, Try.results31, go_sem, b0, b1, b2, b3, b4]) rfl ⟨z0, z1, z2, z3, z, rfl, ⟨s0, s1, s2, s3, hsz⟩, ?_, ?_⟩
          · obtain ⟨p, p0, p1, hp⟩ := RB.out
            exact ⟨p, p0, p1, hp.below (((((((Below.refl _ _).setCell (by simp <;> omega) _).setCell (by simp <;> omega) _).setCell (by simp <;> omega) _).setCell (by simp <;> omega) _).setCell (by simp <;> omega) _).setCell (by simp <;> omega) _)⟩
          · exact ((((((KB.out).setCell (.inl (by simp <;> omega)) _).setCell (.inl (by simp <;> omega)) _).setCell (.inl (by simp <;> omega)) _).setCell (.inl (by simp <;> omega)) _).setCell (.inl (by simp <;> omega)) _).setCell (.inl (by simp <;> omega)) _
end Go.Proofs.Ytjllgmkficjiaaa
namespace Go.Proofs.Ytjllgmkficjiaaa
open Go.RowKit Go.Deep Go.Maps
set_option linter.unusedVariables false
/-- v is a slice of the call's own, not nil, of n walkers, the k-th one's fields Z k 0 .. Z k 4. -/
def Wk (w : World) (base : Nat) (v : Value) (n : Nat) (Z : Nat → Nat → Int) : Prop :=
  ∃ g cap xs, v = .slice (some ⟨g, 0, none⟩) n cap ∧ w.ownsRow base 46 5 v n xs ∧ ∀ k j, k < n → j < 5 → xs[k * 5 + j]? = some (.int .i64 (Z k j))
theorem five_at (Z : Nat → Nat → Int) (k j : Nat) (hj : j < 5) : (five Z k)[j]? = some (.int .i64 (Z k j)) := by
  have h5 : j = 0 ∨ j = 1 ∨ j = 2 ∨ j = 3 ∨ j = 4 := by omega
  rcases h5 with rfl | rfl | rfl | rfl | rfl <;> rfl
theorem Walks.wk {w : World} {base : Nat} {v : Value} {L : List Nat} {Z : Nat → Nat → Int} (h : Walks w base v L Z) : Wk w base v L.length (fun k j => Z L[k]! j) := by
  obtain ⟨g, cap, hv, ho⟩ := h
  refine ⟨g, cap, _, hv, ho, fun k j hk hj => ?_⟩
  rw [get_flat (m := 5) (five Z) (fun _ => rfl) L k j hk hj]
  have := five_at Z L[k]! j hj
  have hl : j < (five Z L[k]!).length := hj
  rw [List.getElem?_eq_getElem hl] at this
  rw [getElem!_pos (five Z L[k]!) j hl]
  exact this
theorem Wk.kept {w w' : World} {base : Nat} {v : Value} {n : Nat} {Z : Nat → Nat → Int} {row : Option Nat} (h : Wk w base v n Z) (hg : w.grownBy w' row) (hr : ∀ k, row = some k → k < base) : Wk w' base v n Z := by
  obtain ⟨g, cap, xs, hv, ho, hc⟩ := h
  refine ⟨g, cap, xs, hv, ho.kept hg (.inr ?_), hc⟩
  subst hv
  intro e
  have := hr g e.symm
  have := (ho.lt g rfl).1
  omega
theorem Wk.below {w w' : World} {base : Nat} {v : Value} {n : Nat} {Z : Nat → Nat → Int} (h : Wk w base v n Z) (hb : Below w.heap.size w w') : Wk w' base v n Z := h.kept (grown_of_below hb) (by simp)
theorem Wk.base {w : World} {base base' : Nat} {v : Value} {n : Nat} {Z : Nat → Nat → Int} (h : Wk w base v n Z) (hb : base' ≤ base) : Wk w base' v n Z := by
  obtain ⟨g, cap, xs, hv, ho, hc⟩ := h
  exact ⟨g, cap, xs, hv, ownsRow_base ho hb, hc⟩
theorem Kept.grown {r : Nat} {w w' : World} (h : Kept r w w') : w.grownBy w' (some r) := ⟨h.os, h.tape, h.output, h.size, fun k hk hn => h.block k hk (fun e => hn (by rw [e]))⟩
theorem Wk.cells {w : World} {base : Nat} {v : Value} {n : Nat} {Z : Nat → Nat → Int} (h : Wk w base v n Z) :
    ∃ g cap, v = .slice (some ⟨g, 0, none⟩) n cap ∧ base ≤ g ∧ g < w.heap.size ∧ (∀ k j, k < n → j < 5 → w.cell? ⟨g, 0 + k * 5 + j, none⟩ = some (.int .i64 (Z k j))) ∧ (∀ j, w.frozen? ⟨g, j, none⟩ = false) := by
  obtain ⟨g, cap, xs, rfl, ho, hc⟩ := h
  refine ⟨g, cap, rfl, (ho.lt g rfl).1, (ho.lt g rfl).2, fun k j hk hj => ?_, fun j => ho.frozenAt j⟩
  rw [Nat.zero_add, ho.cellAt (k * 5 + j) (by omega)]
  exact hc k j hk hj
/-- The k-th one is written anew. -/
theorem Wk.put {w : World} {base : Nat} {n : Nat} {Z Z' : Nat → Nat → Int} {g cap k : Nat} (h : Wk w base (.slice (some ⟨g, 0, none⟩) n cap) n Z) (hk : k < n) (hZ : ∀ i j, i ≠ k → Z' i j = Z i j) : Wk (put5 w g k Z') base (.slice (some ⟨g, 0, none⟩) n cap) n Z' := by
  obtain ⟨g', cap', xs, hv, ho, hc⟩ := h
  cases hv
  have hl : xs.length = n * 5 := ho.1
  refine ⟨g, cap, _, rfl, ((((ho.stored (k * 5) (.int .i64 (Z' k 0))).1.stored (k * 5 + 1) (.int .i64 (Z' k 1))).1.stored (k * 5 + 2) (.int .i64 (Z' k 2))).1.stored (k * 5 + 3) (.int .i64 (Z' k 3))).1.stored (k * 5 + 4) (.int .i64 (Z' k 4)) |>.1, fun i j hi hj => ?_⟩
  simp only [List.getElem?_set, List.length_set]
  by_cases e : i = k
  · subst e
    have h5 : j = 0 ∨ j = 1 ∨ j = 2 ∨ j = 3 ∨ j = 4 := by omega
    rcases h5 with rfl | rfl | rfl | rfl | rfl
    · simp; omega
    · simp; omega
    · simp; omega
    · simp; omega
    · simp; omega
  · rw [if_neg (by omega), if_neg (by omega), if_neg (by omega), if_neg (by omega), if_neg (by omega), hZ i j e]
    exact hc i j hi hj
/-- One more at the end. -/
theorem wk_more {w : World} {base : Nat} {v' : Value} {n : Nat} {Z : Nat → Nat → Int} {xs : List Value} (ho : w.ownsRow base 46 5 v' (n + 1) (xs ++ five Z n)) (hl : xs.length = n * 5) (hn : v' ≠ .slice none 0 0) (hc : ∀ k j, k < n → j < 5 → xs[k * 5 + j]? = some (.int .i64 (Z k j))) : Wk w base v' (n + 1) Z := by
  rcases ho.2 with ⟨e, _⟩ | ⟨g, c, cur, e, _⟩
  · exact absurd e hn
  · refine ⟨g, c, _, e, ho, fun k j hk hj => ?_⟩
    by_cases hkn : k < n
    · rw [List.getElem?_append_left (by omega)]
      exact hc k j hkn hj
    · have : k = n := by omega
      subst this
      rw [List.getElem?_append_right (by omega), hl, show k * 5 + j - k * 5 = j by omega]
      exact five_at Z k j hj
theorem rest_mem {Z : Nat → Nat → Int} {n : Nat} {z : Int} {k : Nat} (h : k ∈ rest Z n z) : k < n ∧ Z k 0 ≠ z := by
  unfold rest at h
  simpa using h
theorem putAt_mem {Z : Nat → Nat → Int} {n : Nat} {L : List Nat} {k : Nat} (h : k ∈ putAt Z n L) : k = n ∨ k ∈ L := by
  unfold putAt at h
  rcases List.mem_append.1 h with h | h
  · exact .inr (List.mem_of_mem_take h)
  · rcases List.mem_cons.1 h with h | h
    · exact .inl h
    · exact .inr (List.mem_of_mem_drop h)
theorem putL_mem {Z : Nat → Nat → Int} {n k : Nat} (h : k ∈ putL Z n) : k < n + 1 := by
  rcases putAt_mem h with h | h
  · omega
  · have := (rest_mem h).1; omega
theorem putL_len (Z : Nat → Nat → Int) (n : Nat) : (putL Z n).length ≤ n + 1 := by
  unfold putL
  rw [putAt_len]
  have := rest_len Z n (Z n 0)
  omega
end Go.Proofs.Ytjllgmkficjiaaa
namespace Go.Proofs.Ytjllgmkficjiaaa
open Go.RowKit Go.Deep Go.Maps
set_option linter.unusedVariables false
theorem exists_ext (Z : Nat → Nat → Int) (n : Nat) (z0 z1 z2 z3 z4 : Int) : ∃ Z' : Nat → Nat → Int, (∀ k j, k < n → Z' k j = Z k j) ∧ Z' n 0 = z0 ∧ Z' n 1 = z1 ∧ Z' n 2 = z2 ∧ Z' n 3 = z3 ∧ Z' n 4 = z4 :=
  ⟨fun k j => if k < n then Z k j else [z0, z1, z2, z3, z4].getD j 0, fun k j hk => if_pos hk, by simp, by simp, by simp, by simp, by simp⟩
theorem five_cases {p : Nat → Prop} (h0 : p 0) (h1 : p 1) (h2 : p 2) (h3 : p 3) (h4 : p 4) (j : Nat) (hj : j < 5) : p j := by
  have h5 : j = 0 ∨ j = 1 ∨ j = 2 ∨ j = 3 ∨ j = 4 := by omega
  rcases h5 with rfl | rfl | rfl | rfl | rfl <;> assumption
theorem below_put5 {B : Nat} {a w : World} (h : Below B a w) {b : Nat} (hb : B ≤ b) (k : Nat) (Z : Nat → Nat → Int) : Below B a (put5 w b k Z) :=
  ((((h.setCell (p := ⟨b, k * 5, none⟩) hb _).setCell (p := ⟨b, k * 5 + 1, none⟩) hb _).setCell (p := ⟨b, k * 5 + 2, none⟩) hb _).setCell (p := ⟨b, k * 5 + 3, none⟩) hb _).setCell (p := ⟨b, k * 5 + 4, none⟩) hb _
theorem kept_put5 {r : Nat} {a w : World} (h : Kept r a w) {b : Nat} (hb : a.heap.size ≤ b) (k : Nat) (Z : Nat → Nat → Int) : Kept r a (put5 w b k Z) :=
  ((((h.setCell (q := ⟨b, k * 5, none⟩) (.inl hb) _).setCell (q := ⟨b, k * 5 + 1, none⟩) (.inl hb) _).setCell (q := ⟨b, k * 5 + 2, none⟩) (.inl hb) _).setCell (q := ⟨b, k * 5 + 3, none⟩) (.inl hb) _).setCell (q := ⟨b, k * 5 + 4, none⟩) (.inl hb) _
theorem RdB.below {w w' : World} {r : Nat} {a : Option Addr} {len cap : Nat} {m : Int} (h : RdB w r a len cap m) (hb : Below (r + 1) w w') : RdB w' r a len cap m := by
  obtain ⟨p, h0, h1, h⟩ := h; exact ⟨p, h0, h1, h.below hb⟩
set_option maxRecDepth 20000 in
set_option maxHeartbeats 4000000 in
theorem list_B {r : Nat} {ad : Option Addr} {len cap : Nat} {m c d nn : Int} {w : World} (h : RdB w r ad len cap m) (hm : m ≤ 1000) (hc : MapOut c d) :
    Calls Try.prog 15 #[.pointer (some ⟨r, 0, none⟩), .agg #[.int .i64 c, .int .i64 d], .int .i64 nn] w fun e w' => ∃ v n Z, e = .returned v ∧ Wk w' w.heap.size v n Z ∧ n ≤ 6 ∧ (∀ k j, k < n → j < 5 → Small (Z k j)) ∧ RdB w' r ad len cap (m + 50) ∧ Kept r w w' := by
  have H : Hid (RdB w r ad len cap m) := h
  have hrl := h.lt
  have HC : Hid (MapOut c d) := hc
  obtain ⟨i5, hi5, hz50, hz51, hz52⟩ := info_parts Try.info46
  clear h hc
  go_enter Try.func15, Try.ntmps15
  go_wp2_with fail
  refine (pick_B ((H.out.alloc _).alloc _) (by omega)).mono ?_
  rintro e w1 ⟨x, rfl, hx, R1, K1⟩
  have hx0 := hx.1
  have hx1 := hx.2.1 (by decide)
  have KA : Hid (Kept r w w1) := (((Kept.refl r w).alloc _).alloc _).trans K1
  have TA : Hid (Two w1 w.heap.size (.int .i64 c) (.int .i64 d)) := K1.two (b := w.heap.size) (by simp <;> omega) (by omega) ⟨by rw [old_cell _ (by simp)]; simp, by rw [old_cell _ (by simp)]; simp, by rw [old_frozen _ (by simp)]; simp, by rw [old_frozen _ (by simp)]; simp⟩
  have WA : Hid (Wk w1 w.heap.size (.slice (some ⟨w.heap.size + 1, 0, none⟩) 0 0) 0 (fun _ _ => 0)) := by
    refine Wk.kept (w := (w.alloc _).alloc _) ⟨w.heap.size + 1, 0, [], rfl, ?_, fun k j hk => absurd hk (by omega)⟩ K1.grown (fun k e => by cases e; exact hrl)
    have := World.ownsRow_lit (base := w.heap.size) (e := 46) (size := 5) (w.alloc (.cells #[.int .i64 c, .int .i64 d] 24)) #[] 0 (by simp) (by simp) (by simp)
    simpa using this
  have hz1 : w.heap.size + 1 < w1.heap.size := by have := K1.size; simp at this; omega
  clear K1 hx H
  go_wp2_with fail
  go_loopw [7, 8] (fun s i wr => ∃ (y : Int) (v : Value) (n : Nat) (Z : Nat → Nat → Int), .int .i64 y = i ∧ v = s ∧ 0 ≤ y ∧ (n : Int) + y ≤ 5 ∧ Wk wr w.heap.size v n Z ∧ (∀ k j, k < n → j < 5 → Small (Z k j)) ∧ RdB wr r ad len cap (m + 1 + 5 * (5 - y)) ∧ Kept r w wr ∧ Two wr w.heap.size (.int .i64 c) (.int .i64 d) ∧ w.heap.size < wr.heap.size) (fun _ i _ => (intOf i).toNat)
  case atStart => exact ⟨x, _, 0, _, rfl, rfl, hx0, by omega, WA.out, fun k j hk => absurd hk (by omega), R1.more (by omega), KA.out, TA.out, by omega⟩
  case round =>
    obtain ⟨y, v, n, Z, rfl, rfl, hy0, hny, hW, hS, hR, hK, hT, hsz⟩ := hrel
    have HS : Hid (∀ k j, k < n → j < 5 → Small (Z k j)) := hS
    obtain ⟨g, cp, hv, hbg, hgl, hcl, hfr⟩ := hW.cells
    subst hv
    have HCL : Hid (∀ k j, k < n → j < 5 → wr.cell? ⟨g, 0 + k * 5 + j, none⟩ = some (.int .i64 (Z k j))) := hcl
    have HW : Hid (Wk wr w.heap.size (.slice (some ⟨g, 0, none⟩) n cp) n Z) := hW
    have HK : Hid (Kept r w wr) := hK
    have HT : Hid (Two wr w.heap.size (.int .i64 c) (.int .i64 d)) := hT
    obtain ⟨t0, t1, _, _⟩ := hT
    have HF : Hid (∀ j, wr.frozen? ⟨g, j, none⟩ = false) := hfr
    clear KA TA WA R1 hS hW hcl hK hfr
    by_cases hy : 0 < y
    · go_wp2_with fail
      refine (walker_B hR (by omega) HC.out).mono ?_
      rintro e w2 ⟨z0, z1, z2, z3, z4, rfl, hs, R2, K2⟩
      obtain ⟨Z', hlow, e0, e1, e2, e3, e4⟩ := exists_ext Z n z0 z1 z2 z3 z4
      have hcl2 : ∀ k j, k < n → j < 5 → w2.cell? ⟨g, 0 + k * 5 + j, none⟩ = some (.int .i64 (Z' k j)) := fun k j hk hj => by
        rw [hlow k j hk]
        exact ((kcell K2).1 g _ hgl (by omega)).trans (HCL.out k j hk hj)
      have hg2 : g < w2.heap.size := Nat.lt_of_lt_of_le hgl K2.size
      have hcon := put_spec g 0 n cp Z' (by omega) w2 hg2 hcl2
      rw [e0, e1, e2, e3, e4] at hcon
      have HSM : Hid (∀ k j, k < n + 1 → j < 5 → Small (Z' k j)) := by
        intro k j hk hj
        by_cases hkn : k < n
        · rw [hlow k j hkn]; exact HS.out k j hkn hj
        · have : k = n := by omega
          subst this
          exact five_cases (p := fun j => Small (Z' k j)) (by rw [e0]; exact hs.1) (by rw [e1]; exact hs.2.1) (by rw [e2]; exact hs.2.2.1) (by rw [e3]; exact hs.2.2.2.1) (by rw [e4]; exact hs.2.2.2.2) j hj
      have HCON : Hid (Calls Try.prog 29 #[.slice (some ⟨g, 0, none⟩) n cp, .agg #[.int .i64 z0, .int .i64 z1, .int .i64 z2, .int .i64 z3, .int .i64 z4]] w2 fun e w' => ∃ v, e = .returned v ∧ Walks w' w2.heap.size v (putL Z' n) Z' ∧ Below w2.heap.size w2 w') := hcon
      have HT2 : Hid (Two w2 w.heap.size (.int .i64 c) (.int .i64 d)) := HT.out.kept K2 (by omega)
      have HK2 : Hid (Kept r w w2) := HK.out.trans K2
      have hsz2 : w.heap.size < w2.heap.size := Nat.lt_of_lt_of_le hsz K2.size
      clear hcon hlow e0 e1 e2 e3 e4 hcl2 K2 hR t0 t1 HT HK HW HCL HF hs HS
      go_wp2_with fail
      refine HCON.out.mono ?_
      rintro e w3 ⟨v', rfl, hw3, hb3⟩
      have HW3 : Hid (Wk w3 w.heap.size v' (putL Z' n).length (fun k j => Z' (putL Z' n)[k]! j)) := hw3.wk.base (by omega)
      have HSM3 : Hid (∀ k j, k < (putL Z' n).length → j < 5 → Small (Z' (putL Z' n)[k]! j)) := fun k j hk hj => by
        refine HSM.out _ j (putL_mem (Z := Z') ?_) hj
        rw [getElem!_pos _ k hk]
        exact List.getElem_mem hk
      have HT3 : Hid (Two w3 w.heap.size (.int .i64 c) (.int .i64 d)) := HT2.out.below hb3
      have HK3 : Hid (Kept r w w3) := HK2.out.trans (Kept.ofBelow hb3)
      have hR3 : RdB w3 r ad len cap (m + 1 + 5 * (5 - (y - 1))) := by
        obtain ⟨p, p0, p1, hp⟩ := R2
        exact ⟨p, p0, by omega, hp.below (hb3.mono (by omega))⟩
      have hsz3 : w.heap.size < w3.heap.size := Nat.lt_of_lt_of_le hsz2 hb3.size
      have hln : (((putL Z' n).length : Nat) : Int) + (y - 1) ≤ 5 := by have := putL_len Z' n; omega
      clear hw3 hb3 HT2 HK2 R2 HCON HSM
      go_wp2
      go_roundw
      case rel => exact ⟨y - 1, _, _, _, by go_num, rfl, by omega, hln, HW3.out, HSM3.out, hR3, HK3.out, HT3.out, hsz3⟩
      case measure => simp [intOf]; omega
    · have hyz : y = 0 := by omega
      subst hyz
      clear hy
      go_wp2_with fail
      refine (pick_B hR (by omega)).mono ?_
      rintro e w2 ⟨q, rfl, hq, R2, K2⟩
      have HW2 : Hid (Wk w2 w.heap.size (.slice (some ⟨g, 0, none⟩) n cp) n Z) := HW.out.kept K2.grown (fun k e => by cases e; exact hrl)
      have HK2 : Hid (Kept r w w2) := HK.out.trans K2
      have hg2 : g < w2.heap.size := Nat.lt_of_lt_of_le hgl K2.size
      clear HW HK HT t0 t1 HCL HF K2 hR hq
      by_cases hq0 : q = 0
      · subst hq0
        by_cases hn0 : 0 < n
        · have hn0' : (0 : Int) < (n : Int) := by omega
          go_wp2_with fail
          refine (pick_B (n := (n : Int)) R2 (by omega)).mono ?_
          rintro e w3 ⟨k0, rfl, hk, R3, K3⟩
          obtain ⟨k, rfl⟩ := Int.eq_ofNat_of_zero_le hk.1
          have hkn : k < n := by have := hk.2.1 (by omega); omega
          have hkn' : (k : Int) < (n : Int) := by omega
          have HW3 : Hid (Wk w3 w.heap.size (.slice (some ⟨g, 0, none⟩) n cp) n Z) := HW2.out.kept K3.grown (fun k e => by cases e; exact hrl)
          have HK3 : Hid (Kept r w w3) := HK2.out.trans K3
          have hg3 : g < w3.heap.size := Nat.lt_of_lt_of_le hg2 K3.size
          obtain ⟨g', cp', hv', _, _, hc3, hf3⟩ := HW3.out.cells
          cases hv'
          have c0 : w3.cell? ⟨g, k * 5, none⟩ = some (.int .i64 (Z k 0)) := by have := hc3 k 0 hkn (by omega); simpa using this
          have c1 : w3.cell? ⟨g, k * 5 + 1, none⟩ = some (.int .i64 (Z k 1)) := by have := hc3 k 1 hkn (by omega); simpa using this
          have c2 : w3.cell? ⟨g, k * 5 + 2, none⟩ = some (.int .i64 (Z k 2)) := by have := hc3 k 2 hkn (by omega); simpa using this
          have c3 : w3.cell? ⟨g, k * 5 + 3, none⟩ = some (.int .i64 (Z k 3)) := by have := hc3 k 3 hkn (by omega); simpa using this
          have c4 : w3.cell? ⟨g, k * 5 + 4, none⟩ = some (.int .i64 (Z k 4)) := by have := hc3 k 4 hkn (by omega); simpa using this
          have HF3 : Hid (∀ j, w3.frozen? ⟨g, j, none⟩ = false) := hf3
          clear hc3 hf3 HW2 HK2 K3 R2 hk
          go_wp2_with fail
          refine (bad_B R3 (by omega) ⟨HS.out k 0 hkn (by omega), HS.out k 1 hkn (by omega), HS.out k 2 hkn (by omega), HS.out k 3 hkn (by omega), HS.out k 4 hkn (by omega)⟩).mono ?_
          rintro e w4 ⟨y0, y1, y2, y3, y4, rfl, hys, R4, K4⟩
          replace c0 := ((kcell K4).1 g (k * 5) hg3 (by omega)).trans c0
          replace c1 := ((kcell K4).1 g (k * 5 + 1) hg3 (by omega)).trans c1
          replace c2 := ((kcell K4).1 g (k * 5 + 2) hg3 (by omega)).trans c2
          replace c3 := ((kcell K4).1 g (k * 5 + 3) hg3 (by omega)).trans c3
          replace c4 := ((kcell K4).1 g (k * 5 + 4) hg3 (by omega)).trans c4
          have f0 : w4.frozen? ⟨g, k * 5, none⟩ = false := ((kcell K4).2 g (k * 5) hg3 (by omega)).trans (HF3.out _)
          have f1 : w4.frozen? ⟨g, k * 5 + 1, none⟩ = false := ((kcell K4).2 g (k * 5 + 1) hg3 (by omega)).trans (HF3.out _)
          have f2 : w4.frozen? ⟨g, k * 5 + 2, none⟩ = false := ((kcell K4).2 g (k * 5 + 2) hg3 (by omega)).trans (HF3.out _)
          have f3 : w4.frozen? ⟨g, k * 5 + 3, none⟩ = false := ((kcell K4).2 g (k * 5 + 3) hg3 (by omega)).trans (HF3.out _)
          have f4 : w4.frozen? ⟨g, k * 5 + 4, none⟩ = false := ((kcell K4).2 g (k * 5 + 4) hg3 (by omega)).trans (HF3.out _)
          have HW4 : Hid (Wk w4 w.heap.size (.slice (some ⟨g, 0, none⟩) n cp) n Z) := HW3.out.kept K4.grown (fun k e => by cases e; exact hrl)
          have HK4 : Hid (Kept r w w4) := HK3.out.trans K4
          obtain ⟨Z', hZ', z0, z1, z2, z3, z4⟩ : ∃ Z' : Nat → Nat → Int, (∀ i j, i ≠ k → Z' i j = Z i j) ∧ Z' k 0 = y0 ∧ Z' k 1 = y1 ∧ Z' k 2 = y2 ∧ Z' k 3 = y3 ∧ Z' k 4 = y4 :=
            ⟨fun i j => if i = k then [y0, y1, y2, y3, y4].getD j 0 else Z i j, fun i j hi => if_neg hi, by simp, by simp, by simp, by simp, by simp⟩
          have HW5 : Hid (Wk (put5 w4 g k Z') w.heap.size (.slice (some ⟨g, 0, none⟩) n cp) n Z') := HW4.out.put hkn hZ'
          have HSZ : Hid (∀ i j, i < n → j < 5 → Small (Z' i j)) := by
            intro i j hi hj
            by_cases e : i = k
            · subst e
              exact five_cases (p := fun j => Small (Z' i j)) (by rw [z0]; exact hys.1) (by rw [z1]; exact hys.2.1) (by rw [z2]; exact hys.2.2.1) (by rw [z3]; exact hys.2.2.2.1) (by rw [z4]; exact hys.2.2.2.2) j hj
            · rw [hZ' i j e]; exact HS.out i j hi hj
          have HR5 : Hid (RdB (put5 w4 g k Z') r ad len cap (m + 1 + 25 + 1 + 1 + 2)) := (R4.more (by omega)).below (below_put5 (Below.refl _ _) (by omega) k Z')
          have HK5 : Hid (Kept r w (put5 w4 g k Z')) := kept_put5 HK4.out hbg k Z'
          have EP : Hid (put5 w4 g k Z' = ((((w4.setCell ⟨g, k * 5, none⟩ (.int .i64 y0)).setCell ⟨g, k * 5 + 1, none⟩ (.int .i64 y1)).setCell ⟨g, k * 5 + 2, none⟩ (.int .i64 y2)).setCell ⟨g, k * 5 + 3, none⟩ (.int .i64 y3)).setCell ⟨g, k * 5 + 4, none⟩ (.int .i64 y4)) := by
            unfold Hid put5
            rw [z0, z1, z2, z3, z4]
          clear HW3 HK3 K4 R3 R4 HF3 hys HK4 hZ' z0 z1 z2 z3 z4 HS HW4
          go_wp2_with fail
          rw [← EP.out]
          generalize put5 w4 g k Z' = w5 at *
          refine (pick_B HR5.out (by omega)).mono ?_
          rintro e w6 ⟨q2, rfl, hq2, R6, K6⟩
          have HW6 : Hid (Wk w6 w.heap.size (.slice (some ⟨g, 0, none⟩) n cp) n Z') := HW5.out.kept K6.grown (fun k e => by cases e; exact hrl)
          have HK6 : Hid (Kept r w w6) := HK5.out.trans K6
          have HR6 : Hid (RdB w6 r ad len cap (m + 50)) := R6.more (by omega)
          have hz6 : r < w6.heap.size := R6.lt
          clear HW5 HK5 K6 HR5 EP R6 hq2 c0 c1 c2 c3 c4 f0 f1 f2 f3 f4
          by_cases hq3 : q2 = 0
          · subst hq3
            obtain ⟨g', cp', hv', _, hg6, hc6, _⟩ := HW6.out.cells
            cases hv'
            have c0 : w6.cell? ⟨g, 0, none⟩ = some (.int .i64 (Z' 0 0)) := by have := hc6 0 0 hn0 (by omega); simpa using this
            have c1 : w6.cell? ⟨g, 1, none⟩ = some (.int .i64 (Z' 0 1)) := by have := hc6 0 1 hn0 (by omega); simpa using this
            have c2 : w6.cell? ⟨g, 2, none⟩ = some (.int .i64 (Z' 0 2)) := by have := hc6 0 2 hn0 (by omega); simpa using this
            have c3 : w6.cell? ⟨g, 3, none⟩ = some (.int .i64 (Z' 0 3)) := by have := hc6 0 3 hn0 (by omega); simpa using this
            have c4 : w6.cell? ⟨g, 4, none⟩ = some (.int .i64 (Z' 0 4)) := by have := hc6 0 4 hn0 (by omega); simpa using this
            obtain ⟨g', cp', xs, hv', ho, hcx⟩ := HW6.out
            cases hv'
            have HCX : Hid (∀ k j, k < n → j < 5 → xs[k * 5 + j]? = some (.int .i64 (Z' k j))) := hcx
            have HXL : Hid (xs.length = n * 5) := ho.1
            clear hc6 hcx HW6
            go_wp2_with (at_builtin; refine wpList_append_own _ rfl _ _ 25 rfl w.heap.size 46 i5 (.agg #[.int .i64 0, .int .i64 0, .int .i64 0, .int .i64 0, .int .i64 0]) 5 40 Try.underlying25 hi5 hz50 hz51 hz52 rfl (by decide) _ _ _ rfl (ho.alloc _) ⟨w6.heap.size, 0, none⟩ 1 1 (five Z' 0) rfl rfl (five_cells _ Z' 0 46) (five_one1 Z' 0) ?d3 ?d4 ?d5 ?_)
            case d3 => unfold maxLen; omega
            case d4 => omega
            case d5 => simp; omega
            · intro v' w7 hown' hg7 hnil
              have hall := (World.grownBy_alloc w6 _ _).trans hg7
              obtain ⟨Z3, hl3, e0, e1, e2, e3, e4⟩ := exists_ext Z' n (Z' 0 0) (Z' 0 1) (Z' 0 2) (Z' 0 3) (Z' 0 4)
              have e5 : five Z3 n = five Z' 0 := by unfold five; rw [e0, e1, e2, e3, e4]
              have HW7 : Hid (Wk w7 w.heap.size v' (n + 1) Z3) := wk_more (by rw [e5]; exact hown') HXL.out (fun e => by simp [e] at hnil) (fun k j hk hj => by rw [hl3 k j hk]; exact HCX.out k j hk hj)
              have HS7 : Hid (∀ k j, k < n + 1 → j < 5 → Small (Z3 k j)) := by
                intro i j hi hj
                by_cases hin : i < n
                · rw [hl3 i j hin]; exact HSZ.out i j hin hj
                · have : i = n := by omega
                  subst this
                  exact five_cases (p := fun j => Small (Z3 i j)) (by rw [e0]; exact HSZ.out 0 0 hn0 (by omega)) (by rw [e1]; exact HSZ.out 0 1 hn0 (by omega)) (by rw [e2]; exact HSZ.out 0 2 hn0 (by omega)) (by rw [e3]; exact HSZ.out 0 3 hn0 (by omega)) (by rw [e4]; exact HSZ.out 0 4 hn0 (by omega)) j hj
              have HK7 : Hid (Kept r w w7) := by
                refine ⟨hall.os.trans HK6.out.os, hall.tape.trans HK6.out.tape, hall.output.trans HK6.out.output, Nat.le_trans HK6.out.size hall.size, fun k hk hn => ?_⟩
                refine (hall.block k (Nat.lt_of_lt_of_le hk HK6.out.size) (fun e => ?_)).trans (HK6.out.block k hk hn)
                have := (ho.lt k e.symm).1
                omega
              have HR7 : Hid (RdB w7 r ad len cap (m + 50)) := HR6.out.below ⟨hall.os, hall.tape, hall.output, hall.size, fun k hk => hall.block k (by omega) (fun e => by have := (ho.lt k e.symm).1; omega)⟩
              clear hown' hg7 hnil hall ho HR6 c0 c1 c2 c3 c4 HCX HXL HSZ HK6 hl3 e0 e1 e2 e3 e4 e5
              go_wp2
              go_ret
              exact ⟨_, n + 1, Z3, rfl, HW7.out, by omega, HS7.out, HR7.out, HK7.out⟩
          · have eq3 : (q2 == 0) = false := by simpa using hq3
            go_wp2
            go_ret
            exact ⟨_, n, Z', rfl, HW6.out, by omega, HSZ.out, HR6.out, HK6.out⟩
        · have hn0' : ¬ (0 : Int) < (n : Int) := by omega
          go_wp2
          go_ret
          exact ⟨_, n, Z, rfl, HW2.out, by omega, HS.out, R2.more (by omega), HK2.out⟩
      · have eq0 : (q == 0) = false := by simpa using hq0
        go_wp2
        go_ret
        exact ⟨_, n, Z, rfl, HW2.out, by omega, HS.out, R2.more (by omega), HK2.out⟩
end Go.Proofs.Ytjllgmkficjiaaa
