/- Lists of places: those of one number, those of all others, in whatever order the groups come; no Go text in sight; conditions: none beyond those typed. -/
import Derived.Test.YtnplclfoeedpjaaFind1
import Derived.Shelf.SlSortCmp.WholeK
namespace Go.Proofs.Ytnplclfoeedpjaa
open Go.RowKit Go.Deep Go.Maps Go.Sort Go.MapKept
set_option linter.unusedVariables false

/-- The places of those of the number z. -/
def idx (Z : Nat → Nat → Int) (n : Nat) (z : Int) : List Nat := (List.range n).filter (fun k => decide (Z k 0 = z))
/-- The places of those that have not the number id. -/
def rest (Z : Nat → Nat → Int) (n : Nat) (id : Int) : List Nat := (List.range n).filter (fun k => decide (Z k 0 ≠ id))

theorem grp_flat (Z : Nat → Nat → Int) (z : Int) : ∀ n, grp Z n z = (idx Z n z).flatMap (six Z)
  | 0 => rfl
  | n + 1 => by
    have e : idx Z (n + 1) z = idx Z n z ++ (if Z n 0 = z then [n] else []) := by
      unfold idx
      rw [List.range_succ, List.filter_append]
      congr 1
      by_cases h : Z n 0 = z <;> simp [h]
    rw [e, List.flatMap_append, ← grp_flat Z z n, grp]
    congr 1
    by_cases h : Z n 0 = z <;> simp [h]

def idx' (Z : Nat → Nat → Int) (n : Nat) (id : Int) (z : Int) : List Nat := if z = id then [] else idx Z n z
/-- The cells of the groups without that of id. -/
def grp' (Z : Nat → Nat → Int) (n : Nat) (id : Int) : Int → List Value := fun y => if y = id then [] else grp Z n y
theorem grp'_flat (Z : Nat → Nat → Int) (n : Nat) (id z : Int) : grp' Z n id z = (idx' Z n id z).flatMap (six Z) := by
  unfold grp' idx'
  split
  · rfl
  · exact grp_flat Z z n

theorem perm_rest {Z : Nat → Nat → Int} {n : Nat} {id : Int} {w : World} {b : Nat} {es : Array MapEntry} {clock : Nat} {vis : List MapEntry} (he : Ent w b (grp' Z n id) es) (hs : Stamped es clock) (hv : vis.Perm es.toList) :
    (vis.flatMap (fun x => idx' Z n id (intOf x.key))).Perm (rest Z n id) := by
  have hkey : ∀ x ∈ vis, ∃ z, x.key = KI z := fun x hx => by
    obtain ⟨z, _, hk, _⟩ := he.1 x (hv.mem_iff.1 hx)
    exact ⟨z, hk⟩
  have hpw : vis.Pairwise (fun x y => x.key ≠ y.key) := (hv.pairwise_iff (fun {_ _} h => Ne.symm h)).2 ((stamped_iff es clock).1 hs).2.2
  have hmem : ∀ z k, k ∈ idx' Z n id z ↔ (z ≠ id ∧ k < n ∧ Z k 0 = z) := by
    intro z k
    unfold idx' idx
    by_cases h : z = id <;> simp [h]
  refine (List.perm_ext_iff_of_nodup ?_ ?_).2 (fun k => ?_)
  · refine List.pairwise_flatMap.2 ⟨fun x _ => ?_, ?_⟩
    · unfold idx' idx
      split
      · exact List.Pairwise.nil
      · exact (List.nodup_range).filter _
    · refine hpw.imp_of_mem (fun {x y} hx hy hne k hk l hl e => ?_)
      subst e
      obtain ⟨zx, ex⟩ := hkey x hx
      obtain ⟨zy, ey⟩ := hkey y hy
      have h1 := ((hmem _ _).1 hk).2.2
      have h2 := ((hmem _ _).1 hl).2.2
      rw [ex] at h1 hne
      rw [ey] at h2 hne
      simp only [KI, intOf] at h1 h2
      exact hne (by rw [← h1, ← h2])
  · exact (List.nodup_range).filter _
  · rw [List.mem_flatMap]
    constructor
    · rintro ⟨x, hx, hk⟩
      obtain ⟨h1, h2, h3⟩ := (hmem _ _).1 hk
      unfold rest
      simp [h2, h3, h1]
    · intro hk
      unfold rest at hk
      simp at hk
      obtain ⟨hk, hz⟩ := hk
      have hin : k ∈ idx' Z n id (Z k 0) := (hmem _ _).2 ⟨hz, hk, rfl⟩
      have : ∃ x ∈ es.toList, x.key = KI (Z k 0) := by
        refine Classical.byContradiction fun hno => ?_
        have h0 := he.2.1 (Z k 0) (fun x hx e => hno ⟨x, hx, e⟩)
        rw [grp'_flat] at h0
        have := List.flatMap_eq_nil_iff.1 h0 k hin
        simp [six] at this
      obtain ⟨x, hx, ex⟩ := this
      exact ⟨x, hv.mem_iff.2 hx, by rw [ex]; exact hin⟩

theorem rest_sorted (Z : Nat → Nat → Int) (n : Nat) (id : Int) : (rest Z n id).Pairwise (· ≤ ·) :=
  ((List.pairwise_lt_range (n := n)).imp (fun h => Nat.le_of_lt h)).filter _

theorem sorted_is_rest {Z : Nat → Nat → Int} {n : Nat} {id : Int} {L : List Nat} (hp : L.Perm (rest Z n id)) (hs : L.Pairwise (· ≤ ·)) : L = rest Z n id :=
  List.Perm.eq_of_pairwise (fun _ _ _ _ h1 h2 => Nat.le_antisymm h1 h2) hs (rest_sorted Z n id) hp

theorem len_flat {α : Type} {m : Nat} (f : α → List Value) (hf : ∀ x, (f x).length = m) : ∀ L : List α, (L.flatMap f).length = L.length * m
  | [] => by simp
  | x :: r => by rw [List.flatMap_cons, List.length_append, hf, len_flat f hf r, List.length_cons, Nat.add_mul, Nat.one_mul, Nat.add_comm]

/-- The flat row's t-th cell. -/
theorem get_flat {α : Type} [Inhabited α] {m : Nat} (f : α → List Value) (hf : ∀ x, (f x).length = m) : ∀ (L : List α) (i c : Nat), i < L.length → c < m → (L.flatMap f)[i * m + c]? = some (f L[i]!)[c]!
  | [], i, c, hi, _ => absurd hi (by simp)
  | x :: r, 0, c, _, hc => by
    rw [List.flatMap_cons, List.getElem?_append_left (by rw [hf]; omega)]
    have : c < (f x).length := by rw [hf]; exact hc
    simp [this]
  | x :: r, i + 1, c, hi, hc => by
    have h := get_flat f hf r i c (by simpa using hi) hc
    rw [List.flatMap_cons, List.getElem?_append_right (by rw [hf, Nat.add_mul]; omega), hf]
    rw [show (i + 1) * m + c - m = i * m + c by rw [Nat.add_mul]; omega, h]
    simp

theorem flatK_toList {α : Type} [Inhabited α] {m : Nat} (hm : 0 < m) (f : α → List Value) (hf : ∀ x, (f x).length = m) (d : Array α) : (flatK f m d).toList = d.toList.flatMap f := by
  apply List.ext_getElem?
  intro t
  by_cases ht : t < d.size * m
  · have h1 : t / m < d.size := Nat.div_lt_of_lt_mul (by rw [Nat.mul_comm]; exact ht)
    have h2 := get_flat f hf d.toList (t / m) (t % m) (by simpa using h1) (Nat.mod_lt _ hm)
    rw [show t / m * m + t % m = t from Nat.div_add_mod' t m] at h2
    rw [h2, Array.getElem?_toList, Array.getElem?_eq_getElem (by rw [size_flatK]; exact ht)]
    have h3 := get_flatK f m d t ht
    rw [getElem!_pos (flatK f m d) t (by rw [size_flatK]; exact ht)] at h3
    rw [h3]
    simp [h1]
  · rw [List.getElem?_eq_none (by simp; omega), List.getElem?_eq_none (by rw [len_flat f hf]; simpa using Nat.le_of_not_lt ht)]

theorem holdsK_of_row {α : Type} [Inhabited α] {m : Nat} (hm : 0 < m) (f : α → List Value) (hf : ∀ x, (f x).length = m) {w : World} {g : Nat} {cur : Array Value} {e : TypeId} {L : List α} (hb : w.heap[g]? = some (.cells cur e (0, 0)))
    (ht : cur.toList.take (L.length * m) = L.flatMap f) : HoldsK f m w g 0 L.toArray := by
  intro j hj
  have hj' : j < L.length * m := by simpa using hj
  refine ⟨?_, by simp [World.frozen?, hb]⟩
  have h1 : (cur.toList.take (L.length * m))[j]? = (L.flatMap f)[j]? := by rw [ht]
  rw [List.getElem?_take_of_lt hj', ← flatK_toList hm f hf L.toArray] at h1
  simp only [World.cell?, hb, Nat.zero_add, Option.isSome_none, Bool.false_eq_true, if_false]
  rw [← Array.getElem?_toList, h1]
  rw [Array.getElem?_toList, Array.getElem?_eq_getElem (by rw [size_flatK]; simpa using hj'), getElem!_pos (flatK f m L.toArray) j (by rw [size_flatK]; simpa using hj')]
  rfl

/-- Behind the sort the same slice owns the cells in their new order. -/
theorem ownsRow_sortedK {α : Type} [Inhabited α] {m : Nat} (hm : 0 < m) (f : α → List Value) (hf : ∀ x, (f x).length = m) {w : World} {base g cap n N : Nat} {e : TypeId} {os : Array Obj} {cur : Array Value} {d : Array α} (hl : d.size = N) (hbase : base ≤ g) (hb : w.heap[g]? = some (.cells cur e (0, 0)))
    (h1 : N ≤ cap) (h2 : cap ≤ maxLen) (h3 : cur.size = cap * m) :
    (sortWorldK f m w g 0 n d os).ownsRow base e m (.slice (some ⟨g, 0, none⟩) N cap) N (d.toList.flatMap f) ∧ w.grownBy (sortWorldK f m w g 0 n d os) (some g) := by
  have hg : g < w.heap.size := (Array.getElem?_eq_some_iff.1 hb).1
  refine ⟨⟨by rw [len_flat f hf]; simp [hl], .inr ⟨g, cap, putCells id 0 (flatK f m d) cur, rfl, hbase, ?_, h1, h2, by simp [putCells, h3], ?_⟩⟩, ⟨rfl, rfl, rfl, by simp [sortWorldK, putRowK, putRow, mapBlock, Sort.ahead], fun k hk hne => ?_⟩⟩
  · unfold sortWorldK putRowK
    rw [heap_grow_old _ _ (by simpa [putRow, mapBlock, Sort.ahead] using hg)]
    simp [putRow, mapBlock, Sort.ahead, Array.getElem?_modify, hb, onCells]
  · have hsz : N * m ≤ cur.size := by rw [h3]; exact Nat.mul_le_mul_right _ h1
    rw [← flatK_toList hm f hf d]
    apply List.ext_getElem?
    intro j
    by_cases hj : j < N * m
    · have hj2 : j < (flatK f m d).size := by rw [size_flatK, hl]; exact hj
      rw [List.getElem?_take_of_lt hj, Array.getElem?_toList, Array.getElem?_toList]
      simp only [putCells, Array.getElem?_mapIdx, Nat.zero_le, Nat.zero_add, hj2, and_self, if_true, Nat.sub_zero, id]
      rw [Array.getElem?_eq_getElem (show j < cur.size by omega), Array.getElem?_eq_getElem hj2, getElem!_pos (flatK f m d) j hj2]
      rfl
    · rw [List.getElem?_take_eq_none (by omega), List.getElem?_eq_none (by simp [hl]; omega)]
  · unfold sortWorldK putRowK
    rw [heap_grow_old _ _ (by simpa [putRow, mapBlock, Sort.ahead] using hk)]
    have : g ≠ k := fun e => hne (by rw [e])
    simp [putRow, mapBlock, Sort.ahead, Array.getElem?_modify, this]
end Go.Proofs.Ytnplclfoeedpjaa
