/- Places of rows in a map by their walkers: made, looked up, stored; no Go text in sight but the map's types; conditions: those typed. -/
import Derived.Test.YtgjapdjidighlabGreatRows
import Derived.WalkKit
import Derived.Maps.Keyed
import Derived.Maps.Own
import Derived.OwnWalk
import Derived.Below
namespace Go.Proofs.YtgjapdjidighlabGreat
open Go.RowKit Go.Maps Go.WideMaps Go.ChangeMaps Go.MapKept
open Go.WideElems (Fit rd rg pl)
set_option linter.unusedVariables false
def pv (g : Nat) : Value := .pointer (some ⟨g, 0, none⟩)
def pvo : Option Nat → Value
  | some g => pv g
  | none => .pointer none
def kI (z : Int) : Value := .int .i64 z
theorem kI_inj {a b : Int} (h : kI a = kI b) : a = b := by simpa [kI] using h
def Wm (w : World) (b n : Nat) (M : Int → Option Nat) : Prop :=
  ∃ (es : Array MapEntry) (clock : Nat), w.heap[b]? = some (.map es clock) ∧ Stamped es clock ∧ es.size ≤ n ∧
    (∀ x ∈ es.toList, ∃ z Z, x.key = kI z ∧ (Lit.int .i64 z).wf = true ∧ M z = some Z ∧ x.val = pv Z) ∧ ∀ z Z, M z = some Z → ∃ x ∈ es.toList, x.key = kI z
theorem Wm.new (w : World) : Wm (w.alloc (.map #[] 0)) w.heap.size 0 (fun _ => none) :=
  ⟨#[], 0, (MapKept.heap_alloc w _).1, stamped_empty 0, Nat.le_refl _, by simp, fun _ _ h => by cases h⟩
theorem Wm.lt {w : World} {b n : Nat} {M : Int → Option Nat} (h : Wm w b n M) : b < w.heap.size := by
  obtain ⟨es, clock, hb, _⟩ := h
  exact (Array.getElem?_eq_some_iff.1 hb).1
theorem Wm.kept {w w' : World} {b n : Nat} {M : Int → Option Nat} {row : Option Nat} (h : Wm w b n M) (hg : w.grownBy w' row) (hne : some b ≠ row) : Wm w' b n M := by
  have hlt := h.lt
  obtain ⟨es, clock, hb, r⟩ := h
  exact ⟨es, clock, (hg.block b hlt hne).trans hb, r⟩
theorem Wm.below {w w' : World} {b n k : Nat} {M : Int → Option Nat} (h : Wm w b n M) (hk : b < k) (hb : Below k w w') : Wm w' b n M := by
  obtain ⟨es, clock, h1, r⟩ := h
  exact ⟨es, clock, (hb.block b hk).trans h1, r⟩
theorem keys_of {es : Array MapEntry} {M : Int → Option Nat} (h : ∀ x ∈ es.toList, ∃ z Z, x.key = kI z ∧ (Lit.int .i64 z).wf = true ∧ M z = some Z ∧ x.val = pv Z) : ∀ e ∈ es.toList, ∃ l, keyOf Tryz.prog 3 e.key = some l := fun e he => by
  obtain ⟨z, Z, hk, hw, _⟩ := h e he
  exact ⟨_, by rw [hk]; exact keyOf_int_mk Tryz.underlying3 hw⟩
theorem Wm.look {w : World} {b n : Nat} {M : Int → Option Nat} (h : Wm w b n M) {z : Int} (hw : (Lit.int .i64 z).wf = true) :
    (Instr.lookup 69 (.map (some b)) (.int .i64 z) true).run Tryz.prog w = .ok (.tuple #[pvo (M z), .bool (M z).isSome]) w := by
  obtain ⟨es, clock, hb, hs, hn, hent, hno⟩ := h
  have K : Keyed Tryz.prog 3 := int_keyed Tryz.underlying3
  have hkey : keyOf Tryz.prog 3 (.int .i64 z) = some (.int .i64 z) := keyOf_int_mk Tryz.underlying3 hw
  rcases K.find w hkey es.toList (keys_of hent) with ⟨h1, h2⟩ | ⟨j, e0, h1, h2, h3⟩
  · have hM : M z = none := by
      cases hM : M z with
      | none => rfl
      | some Z => obtain ⟨x, hx, hk⟩ := hno z Z hM; exact absurd hk (h2 x hx)
    rw [hM]
    simp [Instr.lookup, run_underlying Tryz.underlying69, MapKept.run_getObj_map hb, K.check w _ hkey, h1, pvo, Result.andThen]
  · obtain ⟨z', Z, hk, _, hM, hv⟩ := hent e0 (List.mem_of_getElem? h2)
    have : z' = z := kI_inj (by rw [← hk, h3]; rfl)
    subst this
    rw [hM]
    simp [Instr.lookup, run_underlying Tryz.underlying69, MapKept.run_getObj_map hb, K.check w _ hkey, h1, hv, pvo, Result.andThen]
theorem Wm.look1 {w : World} {b n : Nat} {M : Int → Option Nat} (h : Wm w b n M) {z : Int} (hw : (Lit.int .i64 z).wf = true) :
    (Instr.lookup 68 (.map (some b)) (.int .i64 z) false).run Tryz.prog w = .ok (pvo (M z)) w := by
  obtain ⟨es, clock, hb, hs, hn, hent, hno⟩ := h
  have K : Keyed Tryz.prog 3 := int_keyed Tryz.underlying3
  have hkey : keyOf Tryz.prog 3 (.int .i64 z) = some (.int .i64 z) := keyOf_int_mk Tryz.underlying3 hw
  rcases K.find w hkey es.toList (keys_of hent) with ⟨h1, h2⟩ | ⟨j, e0, h1, h2, h3⟩
  · have hM : M z = none := by
      cases hM : M z with
      | none => rfl
      | some Z => obtain ⟨x, hx, hk⟩ := hno z Z hM; exact absurd hk (h2 x hx)
    rw [hM]
    simp [Instr.lookup, run_underlying Tryz.underlying68, MapKept.run_getObj_map hb, K.check w _ hkey, h1, pvo, Result.andThen]
  · obtain ⟨z', Z, hk, _, hM, hv⟩ := hent e0 (List.mem_of_getElem? h2)
    have : z' = z := kI_inj (by rw [← hk, h3]; rfl)
    subst this
    rw [hM]
    simp [Instr.lookup, run_underlying Tryz.underlying68, MapKept.run_getObj_map hb, K.check w _ hkey, h1, hv, pvo, Result.andThen]
def putM (M : Int → Option Nat) (z : Int) (Z : Nat) : Int → Option Nat := fun y => if y = z then some Z else M y
theorem stamps_apart {es : Array MapEntry} {clock : Nat} (hs : Stamped es clock) {i j : Nat} {x y : MapEntry} (hx : es.toList[i]? = some x) (hy : es.toList[j]? = some y) (hij : i ≠ j) : x.key ≠ y.key := by
  have hp := ((stamped_iff es clock).1 hs).2.2
  obtain ⟨h1, rfl⟩ := List.getElem?_eq_some_iff.1 hx
  obtain ⟨h2, rfl⟩ := List.getElem?_eq_some_iff.1 hy
  rcases Nat.lt_or_gt_of_ne hij with h | h
  · exact (List.pairwise_iff_getElem.1 hp) i j h1 h2 h
  · exact ((List.pairwise_iff_getElem.1 hp) j i h2 h1 h).symm
theorem Wm.put {w : World} {b n : Nat} {M : Int → Option Nat} (h : Wm w b n M) {z : Int} (hw : (Lit.int .i64 z).wf = true) (Z : Nat) :
    ∃ w2, (Instr.mapUpdate 69 (.map (some b)) (.int .i64 z) (pv Z)).run Tryz.prog w = .ok () w2 ∧ Wm w2 b (n + 1) (putM M z Z) ∧ w.grownBy w2 (some b) := by
  obtain ⟨es, clock, hb, hs, hn, hent, hno⟩ := h
  have K : Keyed Tryz.prog 3 := int_keyed Tryz.underlying3
  have hkey : keyOf Tryz.prog 3 (.int .i64 z) = some (.int .i64 z) := keyOf_int_mk Tryz.underlying3 hw
  have hst : ∃ (es' : Array MapEntry) (clock' : Nat), (Instr.mapUpdate 69 (.map (some b)) (.int .i64 z) (pv Z)).run Tryz.prog w = .ok () (setBlock w b (.map es' clock')) ∧ es'.size ≤ n + 1 ∧
      (∀ x ∈ es'.toList, (x ∈ es.toList ∧ x.key ≠ kI z) ∨ (x.key = kI z ∧ x.val = pv Z)) ∧ (∃ x ∈ es'.toList, x.key = kI z) ∧ (∀ x ∈ es.toList, x.key ≠ kI z → x ∈ es'.toList) ∧ Stamped es' clock' := by
    rcases K.find w hkey es.toList (keys_of hent) with ⟨h1, h2⟩ | ⟨j, e0, h1, h2, h3⟩
    · refine ⟨es.push ⟨.int .i64 z, pv Z, clock⟩, clock + 1, ?_, by simp; omega, ?_, ⟨⟨.int .i64 z, pv Z, clock⟩, by simp, rfl⟩, fun x hx _ => by simp [hx], stamped_push hs h2⟩
      · simp [Instr.mapUpdate, run_underlying Tryz.underlying69, MapKept.run_getObj_map hb, K.check w false hkey, h1, MapKept.run_setObj_map _ hb, Result.andThen, setBlock]
      · intro x hx
        simp only [Array.toList_push, List.mem_append, List.mem_singleton] at hx
        rcases hx with hx | rfl
        · exact .inl ⟨hx, h2 x hx⟩
        · exact .inr ⟨rfl, rfl⟩
    · have hget : ∀ i : Nat, (es.modify j fun e => { e with key := .int .i64 z, val := pv Z }).toList[i]? = if i = j then (es.toList[i]?).map (fun e => { e with key := .int .i64 z, val := pv Z }) else es.toList[i]? := by
        intro i
        simp only [Array.getElem?_toList, Array.getElem?_modify]
        by_cases hij : j = i
        · subst hij; simp
        · rw [if_neg hij, if_neg (fun e => hij e.symm)]
      have hj : es[j]? = some e0 := by simpa using h2
      refine ⟨es.modify j fun e => { e with key := .int .i64 z, val := pv Z }, clock, ?_, by simp; omega, ?_, ?_, ?_, stamped_modify hs j _ (fun _ _ => rfl) (fun e _ h => by rw [hj] at h; cases h; exact h3.symm)⟩
      · simp [Instr.mapUpdate, run_underlying Tryz.underlying69, MapKept.run_getObj_map hb, K.check w false hkey, h1, hj, h3, K.stays w hkey, MapKept.run_setObj_map _ hb, Result.andThen, setBlock]
      · intro x hx
        obtain ⟨i, hi⟩ := List.getElem?_of_mem hx
        rw [hget i] at hi
        split at hi
        · rename_i hij
          subst hij
          rw [h2] at hi
          simp at hi
          subst hi
          exact .inr ⟨rfl, rfl⟩
        · rename_i hij
          refine .inl ⟨List.mem_of_getElem? hi, ?_⟩
          have := stamps_apart hs hi h2 hij
          rw [h3] at this
          exact this
      · exact ⟨{ e0 with key := .int .i64 z, val := pv Z }, List.mem_of_getElem? (i := j) (by rw [hget j, if_pos rfl, h2]; rfl), rfl⟩
      · intro x hx hne
        obtain ⟨i, hi⟩ := List.getElem?_of_mem hx
        have hij : i ≠ j := by
          intro e; subst e
          rw [h2] at hi
          simp at hi
          subst hi
          exact hne h3
        exact List.mem_of_getElem? (i := i) (by rw [hget i, if_neg hij]; exact hi)
  obtain ⟨es', clock', hrun, hn', hwho, ⟨xk, hxk, hxk'⟩, hold, hs'⟩ := hst
  refine ⟨_, hrun, ⟨es', clock', heap_setBlock_same hb _, hs', hn', ?_, ?_⟩, ⟨rfl, rfl, rfl, by simp [setBlock], fun i _ hi => heap_setBlock_other hb _ (fun e1 => hi (by rw [e1]))⟩⟩
  · intro x hx
    rcases hwho x hx with ⟨hx0, hne⟩ | ⟨hk, hval⟩
    · obtain ⟨z', Z', hk, hw', hM, hv⟩ := hent x hx0
      have hz : ¬ z' = z := fun e => hne (by rw [hk, e])
      exact ⟨z', Z', hk, hw', by simp [putM, hz, hM], hv⟩
    · exact ⟨z, Z, hk, hw, by simp [putM], hval⟩
  · intro y Y hy
    by_cases hyz : y = z
    · subst hyz; exact ⟨xk, hxk, hxk'⟩
    · simp [putM, hyz] at hy
      obtain ⟨x, hx, hk⟩ := hno y Y hy
      exact ⟨x, hold x hx (fun e => hyz (kI_inj (hk.symm.trans e))), hk⟩
end Go.Proofs.YtgjapdjidighlabGreat
