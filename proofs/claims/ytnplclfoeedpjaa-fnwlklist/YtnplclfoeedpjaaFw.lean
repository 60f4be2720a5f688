/- Finding, striking and putting among walkers of the call's own: what comes of one behind the other; conditions: those typed. -/
import Derived.Test.YtnplclfoeedpjaaOL2
import Derived.Test.YtnplclfoeedpjaaFind2
import Derived.Test.YtnplclfoeedpjaaDP
namespace Go.Proofs.Ytnplclfoeedpjaa
open Go.RowKit Go.Deep Go.Maps
set_option linter.unusedVariables false

/-- What is found, as a place. -/
def fnd (Z : Nat → Nat → Int) (L : List Nat) (id : Int) : Option Nat := L.find? (fun k => decide (Z k 0 = id))
/-- The numbers of what is found; noughts, if nothing is. -/
def oz (Z : Nat → Nat → Int) (o : Option Nat) (j : Nat) : Int := match o with
  | some i => Z i j
  | none => 0

theorem fnd_none {Z : Nat → Nat → Int} {L : List Nat} {id : Int} (h : fnd Z L id = none) : Noone (fun k j => Z L[k]! j) L.length id := by
  intro j hj e
  unfold fnd at h
  rw [List.find?_eq_none] at h
  have := h L[j]! (by rw [getElem!_pos _ j hj]; exact List.getElem_mem hj)
  exact this (by simpa using e)

theorem fnd_some {Z : Nat → Nat → Int} {L : List Nat} {id : Int} {i : Nat} (h : fnd Z L id = some i) : ∃ m, First (fun k j => Z L[k]! j) L.length id m ∧ L[m]! = i := by
  unfold fnd at h
  rw [List.find?_eq_some_iff_getElem] at h
  obtain ⟨hp, m, hm, he, hlt⟩ := h
  refine ⟨m, ⟨hm, ?_, fun j hj e => ?_⟩, by rw [getElem!_pos _ m hm]; exact he⟩
  · show Z L[m]! 0 = id
    rw [getElem!_pos _ m hm, he]
    simpa using hp
  · have h1 := hlt j hj
    have e' : Z L[j]! 0 = id := e
    rw [getElem!_pos _ j (by omega)] at e'
    simp [e'] at h1

theorem range_get {n k : Nat} (h : k < n) : (List.range n)[k]! = k := by rw [getElem!_pos _ k (by simpa using h)]; simp

theorem all_get (L : List Nat) : (List.range L.length).map (fun k => L[k]!) = L := by
  apply List.ext_getElem
  · simp
  · intro k h1 h2
    rw [List.getElem_map, List.getElem_range, getElem!_pos _ k h2]

theorem map_rest (Z : Nat → Nat → Int) (L : List Nat) (id : Int) : (rest (fun k j => Z L[k]! j) L.length id).map (fun k => L[k]!) = L.filter (fun k => decide (Z k 0 ≠ id)) := by
  have h := congrArg (List.filter (fun k => decide (Z k 0 ≠ id))) (all_get L)
  rw [List.filter_map] at h
  exact h

theorem filter_putL (Z : Nat → Nat → Int) (n : Nat) : (putL Z n).filter (fun k => decide (Z k 0 ≠ Z n 0)) = rest Z n (Z n 0) := by
  unfold putL putAt
  rw [List.filter_append, List.filter_cons_of_neg (by simp), ← List.filter_append, List.take_append_drop, List.filter_eq_self]
  intro k hk
  simpa using (rest_mem hk).2

theorem fnd_putL {Z : Nat → Nat → Int} {n : Nat} {id : Int} (h : id ≠ Z n 0) : fnd Z (putL Z n) id = fnd Z (List.range n) id := by
  unfold fnd putL putAt
  rw [List.find?_append, List.find?_cons_of_neg (by simpa using fun e => h e.symm), ← List.find?_append, List.take_append_drop]
  unfold rest
  rw [List.find?_filter]
  congr 1
  funext k
  by_cases e : Z k 0 = id
  · simp [e, h]
  · simp [e]

theorem fnd_self (Z : Nat → Nat → Int) (n : Nat) : fnd Z (putL Z n) (Z n 0) = some n := by
  unfold fnd putL putAt
  rw [List.find?_append, List.find?_cons_of_pos (by simp)]
  have : (List.take (spot Z n (rest Z n (Z n 0))) (rest Z n (Z n 0))).find? (fun k => decide (Z k 0 = Z n 0)) = none := by
    rw [List.find?_eq_none]
    intro k hk
    simpa using (rest_mem (List.mem_of_mem_take hk)).2
  rw [this]
  rfl

theorem find_wk {w : World} {base : Nat} {v : Value} {L : List Nat} {Z : Nat → Nat → Int} (h : Wk w base v L.length (fun k j => Z L[k]! j)) (hn : L.length ≤ 100) (hs : ∀ k j, k < L.length → j < 5 → Small (Z L[k]! j)) (id : Int) (hid : Small id) :
    Calls Try.prog 8 #[v, .int .i64 id] w fun e w' => e = .returned (.tuple #[.agg #[.int .i64 (oz Z (fnd Z L id) 0), .int .i64 (oz Z (fnd Z L id) 1), .int .i64 (oz Z (fnd Z L id) 2), .int .i64 (oz Z (fnd Z L id) 3), .int .i64 (oz Z (fnd Z L id) 4)], .bool (fnd Z L id).isSome]) ∧ Below w.heap.size w w' := by
  obtain ⟨g, cp, rfl, _, hgl, hcl, _⟩ := h.cells
  cases hf : fnd Z L id with
  | none => exact find_impl_no id g 0 L.length cp (fun k j => Z L[k]! j) (by omega) w hgl (small_wf hid) (fnd_none hf) hcl (fun k j hk hj => small_wf (hs k j hk hj))
  | some i =>
    obtain ⟨m, hF, rfl⟩ := fnd_some hf
    exact find_impl_yes id g 0 L.length cp m (fun k j => Z L[k]! j) (by omega) w hgl (small_wf hid) hF hcl (fun k j hk hj => small_wf (hs k j hk hj))

theorem find_list {w : World} {base : Nat} {v : Value} {n : Nat} {Z : Nat → Nat → Int} (h : Wk w base v n Z) (hn : n ≤ 100) (hs : ∀ k j, k < n → j < 5 → Small (Z k j)) (id : Int) (hid : Small id) :
    Calls Try.prog 8 #[v, .int .i64 id] w fun e w' => e = .returned (.tuple #[.agg #[.int .i64 (oz Z (fnd Z (List.range n) id) 0), .int .i64 (oz Z (fnd Z (List.range n) id) 1), .int .i64 (oz Z (fnd Z (List.range n) id) 2), .int .i64 (oz Z (fnd Z (List.range n) id) 3), .int .i64 (oz Z (fnd Z (List.range n) id) 4)], .bool (fnd Z (List.range n) id).isSome]) ∧ Below w.heap.size w w' := by
  have h' : Wk w base v (List.range n).length (fun k j => Z (List.range n)[k]! j) := by
    rw [List.length_range]
    exact h.same (fun k j hk hj => by rw [range_get hk])
  refine find_wk h' (by simpa using hn) (fun k j hk hj => ?_) id hid
  rw [List.length_range] at hk
  rw [range_get hk]
  exact hs k j hk hj

theorem out_wk {w : World} {base : Nat} {v : Value} {n : Nat} {Z : Nat → Nat → Int} (h : Wk w base v n Z) (hn : n ≤ 100) (hs : ∀ k j, k < n → j < 5 → Small (Z k j)) (id : Int) (hid : Small id) :
    Calls Try.prog 9 #[v, .int .i64 id] w fun e w' => ∃ v', e = .returned v' ∧ Wk w' w.heap.size v' (rest Z n id).length (fun k j => Z (rest Z n id)[k]! j) ∧ Below w.heap.size w w' := by
  obtain ⟨g, cp, rfl, _, hgl, hcl, _⟩ := h.cells
  refine (out_impl id g 0 n cp Z (by omega) w hgl (small_wf hid) hcl (fun k j hk hj => small_wf (hs k j hk hj))).mono ?_
  rintro e w' ⟨v', rfl, hw, hb⟩
  exact ⟨v', rfl, hw.wk, hb⟩

theorem put_wk2 {w : World} {base : Nat} {v : Value} {n : Nat} {Z : Nat → Nat → Int} (h : Wk w base v n Z) (hn : n ≤ 100) (hs : ∀ k j, k < n + 1 → j < 5 → Small (Z k j)) :
    Calls Try.prog 5 #[v, .agg #[.int .i64 (Z n 0), .int .i64 (Z n 1), .int .i64 (Z n 2), .int .i64 (Z n 3), .int .i64 (Z n 4)]] w fun e w' => ∃ v', e = .returned v' ∧ Wk w' w.heap.size v' (putL Z n).length (fun k j => Z (putL Z n)[k]! j) ∧ Below w.heap.size w w' := by
  obtain ⟨g, cp, rfl, _, hgl, hcl, _⟩ := h.cells
  refine (put_impl g 0 n cp Z (by omega) w hgl (small_wf (hs n 0 (by omega) (by omega))) hcl (fun k j hk hj => small_wf (hs k j (by omega) hj))).mono ?_
  rintro e w' ⟨v', rfl, hw, hb⟩
  exact ⟨v', rfl, hw.wk, hb⟩

theorem put_wk3 {w : World} {base : Nat} {v : Value} {n : Nat} {Z : Nat → Nat → Int} (h : Wk w base v n Z) (hn : n ≤ 100) :
    Calls Try.prog 7 #[v, .agg #[.int .i64 (Z n 0), .int .i64 (Z n 1), .int .i64 (Z n 2), .int .i64 (Z n 3), .int .i64 (Z n 4)]] w fun e w' => ∃ v', e = .returned v' ∧ Wk w' w.heap.size v' (putL Z n).length (fun k j => Z (putL Z n)[k]! j) ∧ Below w.heap.size w w' := by
  obtain ⟨g, cp, rfl, _, hgl, hcl, _⟩ := h.cells
  refine (put_spec g 0 n cp Z (by omega) w hgl hcl).mono ?_
  rintro e w' ⟨v', rfl, hw, hb⟩
  exact ⟨v', rfl, hw.wk, hb⟩

/-- Behind the one that was put is struck again, the same walkers are there. -/
theorem same_out {w : World} {base : Nat} {v : Value} {n : Nat} {Z : Nat → Nat → Int} (h : Wk w base v (rest (fun k j => Z (putL Z n)[k]! j) (putL Z n).length (Z n 0)).length (fun k j => Z (putL Z n)[(rest (fun k j => Z (putL Z n)[k]! j) (putL Z n).length (Z n 0))[k]!]! j)) :
    Wk w base v (rest Z n (Z n 0)).length (fun k j => Z (rest Z n (Z n 0))[k]! j) := by
  have e : (rest (fun k j => Z (putL Z n)[k]! j) (putL Z n).length (Z n 0)).map (fun k => (putL Z n)[k]!) = rest Z n (Z n 0) := (map_rest Z (putL Z n) (Z n 0)).trans (filter_putL Z n)
  rw [← e, List.length_map]
  refine h.same (fun k j hk hj => ?_)
  rw [getElem!_pos _ k hk, getElem!_pos _ k (by rw [List.length_map]; exact hk), List.getElem_map]

/-- Block b of W begins with these values, and may be written. -/
def Bk (W : World) (b : Nat) (l : List Value) : Prop := b < W.heap.size ∧ ∀ i, i < l.length → W.cell? ⟨b, i, none⟩ = some (l.getD i undef) ∧ W.frozen? ⟨b, i, none⟩ = false

theorem Bk.below {W W' : World} {b : Nat} {l : List Value} (h : Bk W b l) (k : Below W.heap.size W W') : Bk W' b l := ⟨Nat.lt_of_lt_of_le h.1 k.size, fun i hi => by
  rw [k.cell (p := ⟨b, i, none⟩) h.1, k.frozen (p := ⟨b, i, none⟩) h.1]; exact h.2 i hi⟩

theorem bk_new (W : World) (t : TypeId) (l : List Value) : Bk (W.alloc (.cells l.toArray t)) W.heap.size l := ⟨by simp, fun i hi => by
  have e : l.getD i undef = l[i] := by simp [List.getD, List.getElem?_eq_getElem hi]
  rw [e]
  exact ⟨by simp [hi], by simp⟩⟩
end Go.Proofs.Ytnplclfoeedpjaa
