/- Groups of structs of six cells in a map by int: looked up, grown and stored back; no Go text in sight but the map's types; conditions: those typed. -/
import Derived.Test.YtflgffmoccakcaaRows
import Derived.WalkKit
import Derived.Maps.Keyed
import Derived.Maps.AppendAt
import Derived.OwnWalk
import Derived.Below
namespace Go.Proofs.Ytflgffmoccakcaa
open Go.RowKit Go.Maps Go.WideMaps Go.ChangeMaps
set_option linter.unusedVariables false

theorem zero35 (w : World) : (zeroValue 35).run Try.prog w = .ok (.slice none 0 0) w := by kernel_rfl
def KI (z : Int) : Value := .int .i64 z

/-- Block b is a map by int; each of its entries is a slice of the call's own, whose cells are C of its key; no two keys' slices lie in one block. -/
def Gr (w : World) (b : Nat) (C : Int → List Value) : Prop :=
  ∃ (es : Array MapEntry) (clock : Nat), w.heap[b]? = some (.map es clock) ∧
    (∀ x ∈ es.toList, ∃ z n, x.key = KI z ∧ (Lit.int .i64 z).wf = true ∧ w.ownsRow (b + 1) 41 6 x.val n (C z)) ∧
    (∀ z, (∀ x ∈ es.toList, x.key ≠ KI z) → C z = []) ∧
    (∀ (i j : Nat) x y, es.toList[i]? = some x → es.toList[j]? = some y → i ≠ j → x.key ≠ y.key) ∧
    (∀ x ∈ es.toList, ∀ y ∈ es.toList, x.key ≠ y.key → x.val.ownBlock = none ∨ x.val.ownBlock ≠ y.val.ownBlock)

theorem KI_inj {a b : Int} (h : KI a = KI b) : a = b := by simpa [KI] using h

theorem Gr.new (w : World) : Gr (w.alloc (.map #[] 0)) w.heap.size (fun _ => []) :=
  ⟨#[], 0, (MapKept.heap_alloc w _).1, by simp, fun _ _ => rfl, by simp, by simp⟩

theorem own_apart {w : World} {b : Nat} {v : Value} {n : Nat} {xs : List Value} (h : w.ownsRow (b + 1) 41 6 v n xs) : v.ownBlock ≠ some b := by
  intro e
  have := (h.lt b e).1
  omega

theorem Gr.kept {w w' : World} {b : Nat} {C : Int → List Value} (h : Gr w b C) (hg : w.grownBy w' none) : Gr w' b C := by
  obtain ⟨es, clock, hb, hent, hno, huq, hap⟩ := h
  refine ⟨es, clock, (hg.block b (Array.getElem?_eq_some_iff.1 hb).1 (by simp)).trans hb, ?_, hno, huq, hap⟩
  intro x hx
  obtain ⟨z, n, hk, hw, ho⟩ := hent x hx
  refine ⟨z, n, hk, hw, ho.kept hg ?_⟩
  cases x.val.ownBlock <;> simp

theorem grown_of_below {w w' : World} (h : Below w.heap.size w w') : w.grownBy w' none := ⟨h.os, h.tape, h.output, h.size, fun k hk _ => h.block k hk⟩

/-- The way back: whatever is done to v's own block and to new ones, a store at this key makes the groups whole again. -/
def Back (w : World) (b : Nat) (C : Int → List Value) (z : Int) (v : Value) : Prop :=
  ∀ (w1 : World) (v' : Value) (n' : Nat) (xs' : List Value), w.grownBy w1 v.ownBlock → w1.ownsRow (b + 1) 41 6 v' n' xs' → (v'.ownBlock = v.ownBlock ∨ ∃ g, v'.ownBlock = some g ∧ w.heap.size ≤ g) →
    ∃ w2, (Instr.mapUpdate 36 (.map (some b)) (.int .i64 z) v').run Try.prog w1 = .ok () w2 ∧ Gr w2 b (fun y => if y = z then xs' else C y) ∧ w1.grownBy w2 (some b)

theorem back_of {w : World} {b : Nat} {C : Int → List Value} {z : Int} {v : Value} {es : Array MapEntry} {clock : Nat} (hb : w.heap[b]? = some (.map es clock))
    (hent : ∀ x ∈ es.toList, ∃ z n, x.key = KI z ∧ (Lit.int .i64 z).wf = true ∧ w.ownsRow (b + 1) 41 6 x.val n (C z))
    (hno : ∀ z, (∀ x ∈ es.toList, x.key ≠ KI z) → C z = []) (huq : ∀ (i j : Nat) x y, es.toList[i]? = some x → es.toList[j]? = some y → i ≠ j → x.key ≠ y.key)
    (hap : ∀ x ∈ es.toList, ∀ y ∈ es.toList, x.key ≠ y.key → x.val.ownBlock = none ∨ x.val.ownBlock ≠ y.val.ownBlock)
    (hw : (Lit.int .i64 z).wf = true) (hv : ∀ x ∈ es.toList, x.key ≠ KI z → x.val.ownBlock = none ∨ x.val.ownBlock ≠ v.ownBlock) (hvb : v.ownBlock ≠ some b) : Back w b C z v := by
  intro w1 v' n' xs' hg hown' hloc
  have K : Keyed Try.prog 3 := int_keyed Try.underlying3
  have hkey : keyOf Try.prog 3 (.int .i64 z) = some (.int .i64 z) := keyOf_int_mk Try.underlying3 hw
  have hall : ∀ e ∈ es.toList, ∃ l, keyOf Try.prog 3 e.key = some l := fun e he => by
    obtain ⟨z', n, hk, hw', _⟩ := hent e he
    exact ⟨_, by rw [hk]; exact keyOf_int_mk Try.underlying3 hw'⟩
  have hb1 : w1.heap[b]? = some (.map es clock) := (hg.block b (Array.getElem?_eq_some_iff.1 hb).1 (fun e => hvb e.symm)).trans hb
  -- what the store leaves
  have hst : ∃ (es' : Array MapEntry) (clock' : Nat), (Instr.mapUpdate 36 (.map (some b)) (.int .i64 z) v').run Try.prog w1 = .ok () (setBlock w1 b (.map es' clock')) ∧
      (∀ x ∈ es'.toList, (x ∈ es.toList ∧ x.key ≠ KI z) ∨ (x.key = KI z ∧ x.val = v')) ∧ (∃ x ∈ es'.toList, x.key = KI z) ∧ (∀ x ∈ es.toList, x.key ≠ KI z → x ∈ es'.toList) ∧
      (∀ (i j : Nat) x y, es'.toList[i]? = some x → es'.toList[j]? = some y → i ≠ j → x.key ≠ y.key) := by
    rcases K.find w1 hkey es.toList hall with ⟨h1, h2⟩ | ⟨j, e0, h1, h2, h3⟩
    · refine ⟨es.push ⟨.int .i64 z, v', clock⟩, clock + 1, ?_, ?_, ⟨⟨.int .i64 z, v', clock⟩, by simp, rfl⟩, fun x hx _ => by simp [hx], ?_⟩
      · simp [Instr.mapUpdate, run_underlying Try.underlying36, MapKept.run_getObj_map hb1, K.check w1 false hkey, h1, MapKept.run_setObj_map _ hb1, Result.andThen, setBlock]
      · intro x hx
        simp only [Array.toList_push, List.mem_append, List.mem_singleton] at hx
        rcases hx with hx | rfl
        · exact .inl ⟨hx, h2 x hx⟩
        · exact .inr ⟨rfl, rfl⟩
      · intro i j x y hx hy hij
        simp only [Array.toList_push] at hx hy
        rw [List.getElem?_append] at hx hy
        split at hx <;> split at hy
        · exact huq i j x y hx hy hij
        · have ey : y = ⟨.int .i64 z, v', clock⟩ := by
            have := List.mem_of_getElem? hy; simpa using this
          subst ey
          exact h2 x (List.mem_of_getElem? hx)
        · have ex : x = ⟨.int .i64 z, v', clock⟩ := by
            have := List.mem_of_getElem? hx; simpa using this
          subst ex
          exact fun e => h2 y (List.mem_of_getElem? hy) e.symm
        · rename_i ha hc
          have l1 := (List.getElem?_eq_some_iff.1 hx).1
          have l2 := (List.getElem?_eq_some_iff.1 hy).1
          have e : es.toList.length = es.size := Array.length_toList
          simp at l1 l2
          omega
    · have hlt : j < es.size := by have := (List.getElem?_eq_some_iff.1 h2).1; simpa using this
      have hget : ∀ i : Nat, (es.modify j fun e => { e with key := .int .i64 z, val := v' }).toList[i]? = if i = j then (es.toList[i]?).map (fun e => { e with key := .int .i64 z, val := v' }) else es.toList[i]? := by
        intro i
        simp only [Array.getElem?_toList, Array.getElem?_modify]
        by_cases hij : j = i
        · subst hij; simp
        · rw [if_neg hij, if_neg (fun e => hij e.symm)]
      refine ⟨es.modify j fun e => { e with key := .int .i64 z, val := v' }, clock, ?_, ?_, ?_, ?_, ?_⟩
      · have hj : es[j]? = some e0 := by simpa using h2
        simp [Instr.mapUpdate, run_underlying Try.underlying36, MapKept.run_getObj_map hb1, K.check w1 false hkey, h1, hj, h3, K.stays w1 hkey, MapKept.run_setObj_map _ hb1, Result.andThen, setBlock]
      · intro x hx
        obtain ⟨i, hi⟩ := List.getElem?_of_mem hx
        rw [hget i] at hi
        split at hi
        · rename_i hij
          subst hij
          rw [h2] at hi
          simp at hi
          subst hi
          exact .inr ⟨rfl, rfl⟩
        · rename_i hij
          refine .inl ⟨List.mem_of_getElem? hi, ?_⟩
          have := huq i j x e0 hi h2 hij
          rw [h3] at this
          exact this
      · exact ⟨{ e0 with key := .int .i64 z, val := v' }, List.mem_of_getElem? (i := j) (by rw [hget j, if_pos rfl, h2]; rfl), rfl⟩
      · intro x hx hne
        obtain ⟨i, hi⟩ := List.getElem?_of_mem hx
        have hij : i ≠ j := by
          intro e; subst e
          rw [h2] at hi
          simp at hi
          subst hi
          exact hne h3
        exact List.mem_of_getElem? (i := i) (by rw [hget i, if_neg hij]; exact hi)
      · have hkeys : ∀ (i : Nat) x, (es.modify j fun e => { e with key := .int .i64 z, val := v' }).toList[i]? = some x → ∃ x0, es.toList[i]? = some x0 ∧ x0.key = x.key := by
          intro i x hx
          rw [hget i] at hx
          split at hx
          · rename_i hij
            subst hij
            rw [h2] at hx
            simp at hx
            subst hx
            exact ⟨e0, h2, h3⟩
          · exact ⟨x, hx, rfl⟩
        intro i i' x y hx hy hij
        obtain ⟨x0, hx0, ex⟩ := hkeys i x hx
        obtain ⟨y0, hy0, ey⟩ := hkeys i' y hy
        rw [← ex, ← ey]
        exact huq i i' x0 y0 hx0 hy0 hij
  obtain ⟨es', clock', hrun, hwho, ⟨xk, hxk, hxk'⟩, hold, huq'⟩ := hst
  have hg2 : w1.grownBy (setBlock w1 b (.map es' clock')) (some b) := ⟨rfl, rfl, rfl, by simp [setBlock], fun i _ hi => heap_setBlock_other hb1 _ (fun e1 => hi (by rw [e1]))⟩
  have kept2 : ∀ {u : Value} {n : Nat} {ys : List Value}, w1.ownsRow (b + 1) 41 6 u n ys → (setBlock w1 b (.map es' clock')).ownsRow (b + 1) 41 6 u n ys := fun ho => ho.kept hg2 (.inr (own_apart ho))
  have old_new : ∀ x ∈ es.toList, x.key ≠ KI z → x.val.ownBlock = none ∨ x.val.ownBlock ≠ v'.ownBlock := by
    intro x hx hne
    rcases hloc with h1 | ⟨g, h1, h2⟩
    · rw [h1]; exact hv x hx hne
    · cases hx' : x.val.ownBlock with
      | none => exact .inl rfl
      | some gx =>
        obtain ⟨_, _, _, _, ho⟩ := hent x hx
        have := (ho.lt gx hx').2
        refine .inr (fun e1 => ?_)
        rw [h1] at e1
        cases e1
        omega
  refine ⟨_, hrun, ⟨es', clock', heap_setBlock_same hb1 _, ?_, ?_, huq', ?_⟩, hg2⟩
  · intro x hx
    rcases hwho x hx with ⟨hx0, hne⟩ | ⟨hk, hval⟩
    · obtain ⟨z', n, hk, hw', ho⟩ := hent x hx0
      have hz : ¬ z' = z := fun e => hne (by rw [hk, e])
      refine ⟨z', n, hk, hw', ?_⟩
      simp only [if_neg hz]
      exact kept2 (ho.kept hg (hv x hx0 hne))
    · refine ⟨z, n', hk, hw, ?_⟩
      simp only [if_true]
      rw [hval]
      exact kept2 hown'
  · intro y hy
    by_cases hyz : y = z
    · subst hyz; exact absurd hxk' (hy xk hxk)
    · simp only [if_neg hyz]
      refine hno y (fun x hx e => ?_)
      exact hy x (hold x hx (by rw [e]; intro e2; exact hyz (KI_inj e2))) e
  · intro x hx y hy hne
    rcases hwho x hx with ⟨hx0, hxk⟩ | ⟨hxk, hxv⟩ <;> rcases hwho y hy with ⟨hy0, hyk⟩ | ⟨hyk, hyv⟩
    · exact hap x hx0 y hy0 hne
    · rw [hyv]; exact old_new x hx0 hxk
    · rw [hxv]
      cases hv' : v'.ownBlock with
      | none => exact .inl rfl
      | some g =>
        refine .inr (fun e1 => ?_)
        rcases old_new y hy0 hyk with h | h
        · rw [h] at e1; cases e1
        · exact h (by rw [hv', e1])
    · exact absurd (hxk.trans hyk.symm) hne

theorem Gr.look {w : World} {b : Nat} {C : Int → List Value} (h : Gr w b C) (z : Int) (hw : (Lit.int .i64 z).wf = true) :
    ∃ v n, (Instr.lookup 36 (.map (some b)) (.int .i64 z) false).run Try.prog w = .ok v w ∧ w.ownsRow (b + 1) 41 6 v n (C z) ∧ Back w b C z v := by
  obtain ⟨es, clock, hb, hent, hno, huq, hap⟩ := h
  have K : Keyed Try.prog 3 := int_keyed Try.underlying3
  have hkey : keyOf Try.prog 3 (.int .i64 z) = some (.int .i64 z) := keyOf_int_mk Try.underlying3 hw
  have hall : ∀ e ∈ es.toList, ∃ l, keyOf Try.prog 3 e.key = some l := fun e he => by
    obtain ⟨z', n, hk, hw', _⟩ := hent e he
    exact ⟨_, by rw [hk]; exact keyOf_int_mk Try.underlying3 hw'⟩
  rcases K.find w hkey es.toList hall with ⟨h1, h2⟩ | ⟨j, e0, h1, h2, h3⟩
  · refine ⟨.slice none 0 0, 0, by simp [Instr.lookup, run_underlying Try.underlying36, MapKept.run_getObj_map hb, K.check w _ hkey, h1, Result.andThen], ?_, ?_⟩
    · rw [hno z h2]; exact World.ownsRow_nil _ _ _ _
    · refine back_of hb hent hno huq hap hw (fun x hx _ => ?_) (by simp [Value.ownBlock])
      cases x.val.ownBlock <;> simp [Value.ownBlock]
  · have hm0 : e0 ∈ es.toList := List.mem_of_getElem? h2
    obtain ⟨z', n, hk, hw', ho⟩ := hent e0 hm0
    have hz : z' = z := KI_inj (hk.symm.trans h3)
    subst hz
    refine ⟨e0.val, n, by simp [Instr.lookup, run_underlying Try.underlying36, MapKept.run_getObj_map hb, K.check w _ hkey, h1, Result.andThen], ho, ?_⟩
    exact back_of hb hent hno huq hap hw (fun x hx hne => hap x hx e0 hm0 (by rw [h3]; exact hne)) (own_apart ho)
end Go.Proofs.Ytflgffmoccakcaa
