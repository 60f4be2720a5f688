/- Groups of structs of six cells in a map by int: looked up, grown and stored back, struck, gone through in whatever order; no Go text in sight but the map's types; conditions: those typed. -/
import Derived.Test.YtnplclfoeedpjaaRows
import Derived.WalkKit
import Derived.Maps.Keyed
import Derived.Maps.AppendAt
import Derived.Maps.RangeWalk
import Derived.OwnWalk
import Derived.Below
namespace Go.Proofs.Ytnplclfoeedpjaa
open Go.RowKit Go.Maps Go.WideMaps Go.ChangeMaps Go.MapKept
set_option linter.unusedVariables false

theorem zero43 (w : World) : (zeroValue 43).run Try.prog w = .ok (.slice none 0 0) w := by kernel_rfl
def KI (z : Int) : Value := .int .i64 z

/-- The entries es of a map at block b: each is a slice of the call's own, whose cells are C of its key; no two keys' slices lie in one block. -/
def Ent (w : World) (b : Nat) (C : Int → List Value) (es : Array MapEntry) : Prop :=
  (∀ x ∈ es.toList, ∃ z n, x.key = KI z ∧ (Lit.int .i64 z).wf = true ∧ w.ownsRow (b + 1) 49 6 x.val n (C z)) ∧
    (∀ z, (∀ x ∈ es.toList, x.key ≠ KI z) → C z = []) ∧
    (∀ x ∈ es.toList, ∀ y ∈ es.toList, x.key ≠ y.key → x.val.ownBlock = none ∨ x.val.ownBlock ≠ y.val.ownBlock)
/-- Block b is such a map. -/
def Gr (w : World) (b : Nat) (C : Int → List Value) : Prop :=
  ∃ (es : Array MapEntry) (clock : Nat), w.heap[b]? = some (.map es clock) ∧ Stamped es clock ∧ Ent w b C es

theorem KI_inj {a b : Int} (h : KI a = KI b) : a = b := by simpa [KI] using h

theorem Gr.new (w : World) : Gr (w.alloc (.map #[] 0)) w.heap.size (fun _ => []) :=
  ⟨#[], 0, (MapKept.heap_alloc w _).1, stamped_empty 0, by simp, fun _ _ => rfl, by simp⟩

theorem own_apart {w : World} {b : Nat} {v : Value} {n : Nat} {xs : List Value} (h : w.ownsRow (b + 1) 49 6 v n xs) : v.ownBlock ≠ some b := by
  intro e
  have := (h.lt b e).1
  omega

theorem Ent.kept {w w' : World} {b : Nat} {C : Int → List Value} {es : Array MapEntry} (h : Ent w b C es) (hg : w.grownBy w' none) : Ent w' b C es := by
  obtain ⟨hent, hno, hap⟩ := h
  refine ⟨fun x hx => ?_, hno, hap⟩
  obtain ⟨z, n, hk, hw, ho⟩ := hent x hx
  refine ⟨z, n, hk, hw, ho.kept hg ?_⟩
  cases x.val.ownBlock <;> simp

theorem Gr.kept {w w' : World} {b : Nat} {C : Int → List Value} (h : Gr w b C) (hg : w.grownBy w' none) : Gr w' b C := by
  obtain ⟨es, clock, hb, hs, he⟩ := h
  exact ⟨es, clock, (hg.block b (Array.getElem?_eq_some_iff.1 hb).1 (by simp)).trans hb, hs, he.kept hg⟩

theorem grown_of_below {w w' : World} (h : Below w.heap.size w w') : w.grownBy w' none := ⟨h.os, h.tape, h.output, h.size, fun k hk _ => h.block k hk⟩

theorem Ent.keys {w : World} {b : Nat} {C : Int → List Value} {es : Array MapEntry} (h : Ent w b C es) : ∀ e ∈ es.toList, ∃ l, keyOf Try.prog 3 e.key = some l := fun e he => by
  obtain ⟨z', n, hk, hw', _⟩ := h.1 e he
  exact ⟨_, by rw [hk]; exact keyOf_int_mk Try.underlying3 hw'⟩

theorem apart_of {es : Array MapEntry} {clock : Nat} (hs : Stamped es clock) {i j : Nat} {x y : MapEntry} (hx : es.toList[i]? = some x) (hy : es.toList[j]? = some y) (hij : i ≠ j) : x.key ≠ y.key := by
  have hp := ((stamped_iff es clock).1 hs).2.2
  obtain ⟨h1, rfl⟩ := List.getElem?_eq_some_iff.1 hx
  obtain ⟨h2, rfl⟩ := List.getElem?_eq_some_iff.1 hy
  rcases Nat.lt_or_gt_of_ne hij with h | h
  · exact (List.pairwise_iff_getElem.1 hp) i j h1 h2 h
  · exact ((List.pairwise_iff_getElem.1 hp) j i h2 h1 h).symm

/-- The way back: whatever is done to v's own block and to new ones, a store at this key makes the groups whole again. -/
def Back (w : World) (b : Nat) (C : Int → List Value) (z : Int) (v : Value) : Prop :=
  ∀ (w1 : World) (v' : Value) (n' : Nat) (xs' : List Value), w.grownBy w1 v.ownBlock → w1.ownsRow (b + 1) 49 6 v' n' xs' → (v'.ownBlock = v.ownBlock ∨ ∃ g, v'.ownBlock = some g ∧ w.heap.size ≤ g) →
    ∃ w2, (Instr.mapUpdate 44 (.map (some b)) (.int .i64 z) v').run Try.prog w1 = .ok () w2 ∧ Gr w2 b (fun y => if y = z then xs' else C y) ∧ w1.grownBy w2 (some b)

theorem back_of {w : World} {b : Nat} {C : Int → List Value} {z : Int} {v : Value} {es : Array MapEntry} {clock : Nat} (hb : w.heap[b]? = some (.map es clock)) (hs : Stamped es clock) (he : Ent w b C es)
    (hw : (Lit.int .i64 z).wf = true) (hv : ∀ x ∈ es.toList, x.key ≠ KI z → x.val.ownBlock = none ∨ x.val.ownBlock ≠ v.ownBlock) (hvb : v.ownBlock ≠ some b) : Back w b C z v := by
  intro w1 v' n' xs' hg hown' hloc
  have K : Keyed Try.prog 3 := int_keyed Try.underlying3
  have hkey : keyOf Try.prog 3 (.int .i64 z) = some (.int .i64 z) := keyOf_int_mk Try.underlying3 hw
  have hall := he.keys
  obtain ⟨hent, hno, hap⟩ := he
  have hb1 : w1.heap[b]? = some (.map es clock) := (hg.block b (Array.getElem?_eq_some_iff.1 hb).1 (fun e => hvb e.symm)).trans hb
  -- what the store leaves
  have hst : ∃ (es' : Array MapEntry) (clock' : Nat), (Instr.mapUpdate 44 (.map (some b)) (.int .i64 z) v').run Try.prog w1 = .ok () (setBlock w1 b (.map es' clock')) ∧
      (∀ x ∈ es'.toList, (x ∈ es.toList ∧ x.key ≠ KI z) ∨ (x.key = KI z ∧ x.val = v')) ∧ (∃ x ∈ es'.toList, x.key = KI z) ∧ (∀ x ∈ es.toList, x.key ≠ KI z → x ∈ es'.toList) ∧ Stamped es' clock' := by
    rcases K.find w1 hkey es.toList hall with ⟨h1, h2⟩ | ⟨j, e0, h1, h2, h3⟩
    · refine ⟨es.push ⟨.int .i64 z, v', clock⟩, clock + 1, ?_, ?_, ⟨⟨.int .i64 z, v', clock⟩, by simp, rfl⟩, fun x hx _ => by simp [hx], stamped_push hs h2⟩
      · simp [Instr.mapUpdate, run_underlying Try.underlying44, MapKept.run_getObj_map hb1, K.check w1 false hkey, h1, MapKept.run_setObj_map _ hb1, Result.andThen, setBlock]
      · intro x hx
        simp only [Array.toList_push, List.mem_append, List.mem_singleton] at hx
        rcases hx with hx | rfl
        · exact .inl ⟨hx, h2 x hx⟩
        · exact .inr ⟨rfl, rfl⟩
    · have hlt : j < es.size := by have := (List.getElem?_eq_some_iff.1 h2).1; simpa using this
      have hget : ∀ i : Nat, (es.modify j fun e => { e with key := .int .i64 z, val := v' }).toList[i]? = if i = j then (es.toList[i]?).map (fun e => { e with key := .int .i64 z, val := v' }) else es.toList[i]? := by
        intro i
        simp only [Array.getElem?_toList, Array.getElem?_modify]
        by_cases hij : j = i
        · subst hij; simp
        · rw [if_neg hij, if_neg (fun e => hij e.symm)]
      have hj : es[j]? = some e0 := by simpa using h2
      refine ⟨es.modify j fun e => { e with key := .int .i64 z, val := v' }, clock, ?_, ?_, ?_, ?_, stamped_modify hs j _ (fun _ _ => rfl) (fun e _ h => by rw [hj] at h; cases h; exact h3.symm)⟩
      · simp [Instr.mapUpdate, run_underlying Try.underlying44, MapKept.run_getObj_map hb1, K.check w1 false hkey, h1, hj, h3, K.stays w1 hkey, MapKept.run_setObj_map _ hb1, Result.andThen, setBlock]
      · intro x hx
        obtain ⟨i, hi⟩ := List.getElem?_of_mem hx
        rw [hget i] at hi
        split at hi
        · rename_i hij
          subst hij
          rw [h2] at hi
          simp at hi
          subst hi
          exact .inr ⟨rfl, rfl⟩
        · rename_i hij
          refine .inl ⟨List.mem_of_getElem? hi, ?_⟩
          have := apart_of hs hi h2 hij
          rw [h3] at this
          exact this
      · exact ⟨{ e0 with key := .int .i64 z, val := v' }, List.mem_of_getElem? (i := j) (by rw [hget j, if_pos rfl, h2]; rfl), rfl⟩
      · intro x hx hne
        obtain ⟨i, hi⟩ := List.getElem?_of_mem hx
        have hij : i ≠ j := by
          intro e; subst e
          rw [h2] at hi
          simp at hi
          subst hi
          exact hne h3
        exact List.mem_of_getElem? (i := i) (by rw [hget i, if_neg hij]; exact hi)
  obtain ⟨es', clock', hrun, hwho, ⟨xk, hxk, hxk'⟩, hold, hs'⟩ := hst
  have hg2 : w1.grownBy (setBlock w1 b (.map es' clock')) (some b) := ⟨rfl, rfl, rfl, by simp [setBlock], fun i _ hi => heap_setBlock_other hb1 _ (fun e1 => hi (by rw [e1]))⟩
  have kept2 : ∀ {u : Value} {n : Nat} {ys : List Value}, w1.ownsRow (b + 1) 49 6 u n ys → (setBlock w1 b (.map es' clock')).ownsRow (b + 1) 49 6 u n ys := fun ho => ho.kept hg2 (.inr (own_apart ho))
  have old_new : ∀ x ∈ es.toList, x.key ≠ KI z → x.val.ownBlock = none ∨ x.val.ownBlock ≠ v'.ownBlock := by
    intro x hx hne
    rcases hloc with h1 | ⟨g, h1, h2⟩
    · rw [h1]; exact hv x hx hne
    · cases hx' : x.val.ownBlock with
      | none => exact .inl rfl
      | some gx =>
        obtain ⟨_, _, _, _, ho⟩ := hent x hx
        have := (ho.lt gx hx').2
        refine .inr (fun e1 => ?_)
        rw [h1] at e1
        cases e1
        omega
  refine ⟨_, hrun, ⟨es', clock', heap_setBlock_same hb1 _, hs', ?_, ?_, ?_⟩, hg2⟩
  · intro x hx
    rcases hwho x hx with ⟨hx0, hne⟩ | ⟨hk, hval⟩
    · obtain ⟨z', n, hk, hw', ho⟩ := hent x hx0
      have hz : ¬ z' = z := fun e => hne (by rw [hk, e])
      refine ⟨z', n, hk, hw', ?_⟩
      simp only [if_neg hz]
      exact kept2 (ho.kept hg (hv x hx0 hne))
    · refine ⟨z, n', hk, hw, ?_⟩
      simp only [if_true]
      rw [hval]
      exact kept2 hown'
  · intro y hy
    by_cases hyz : y = z
    · subst hyz; exact absurd hxk' (hy xk hxk)
    · simp only [if_neg hyz]
      refine hno y (fun x hx e => ?_)
      exact hy x (hold x hx (by rw [e]; intro e2; exact hyz (KI_inj e2))) e
  · intro x hx y hy hne
    rcases hwho x hx with ⟨hx0, hxk⟩ | ⟨hxk, hxv⟩ <;> rcases hwho y hy with ⟨hy0, hyk⟩ | ⟨hyk, hyv⟩
    · exact hap x hx0 y hy0 hne
    · rw [hyv]; exact old_new x hx0 hxk
    · rw [hxv]
      cases hv' : v'.ownBlock with
      | none => exact .inl rfl
      | some g =>
        refine .inr (fun e1 => ?_)
        rcases old_new y hy0 hyk with h | h
        · rw [h] at e1; cases e1
        · exact h (by rw [hv', e1])
    · exact absurd (hxk.trans hyk.symm) hne

theorem Gr.look {w : World} {b : Nat} {C : Int → List Value} (h : Gr w b C) (z : Int) (hw : (Lit.int .i64 z).wf = true) :
    ∃ v n, (Instr.lookup 44 (.map (some b)) (.int .i64 z) false).run Try.prog w = .ok v w ∧ w.ownsRow (b + 1) 49 6 v n (C z) ∧ Back w b C z v := by
  obtain ⟨es, clock, hb, hs, he⟩ := h
  have K : Keyed Try.prog 3 := int_keyed Try.underlying3
  have hkey : keyOf Try.prog 3 (.int .i64 z) = some (.int .i64 z) := keyOf_int_mk Try.underlying3 hw
  rcases K.find w hkey es.toList he.keys with ⟨h1, h2⟩ | ⟨j, e0, h1, h2, h3⟩
  · refine ⟨.slice none 0 0, 0, by simp [Instr.lookup, run_underlying Try.underlying44, MapKept.run_getObj_map hb, K.check w _ hkey, h1, Result.andThen], ?_, ?_⟩
    · rw [he.2.1 z h2]; exact World.ownsRow_nil _ _ _ _
    · refine back_of hb hs he hw (fun x hx _ => ?_) (by simp [Value.ownBlock])
      cases x.val.ownBlock <;> simp [Value.ownBlock]
  · have hm0 : e0 ∈ es.toList := List.mem_of_getElem? h2
    obtain ⟨z', n, hk, hw', ho⟩ := he.1 e0 hm0
    have hz : z' = z := KI_inj (hk.symm.trans h3)
    subst hz
    refine ⟨e0.val, n, by simp [Instr.lookup, run_underlying Try.underlying44, MapKept.run_getObj_map hb, K.check w _ hkey, h1, Result.andThen], ho, ?_⟩
    exact back_of hb hs he hw (fun x hx hne => he.2.2 x hx e0 hm0 (by rw [h3]; exact hne)) (own_apart ho)

/-- A group is struck. -/
theorem Gr.drop {w : World} {b : Nat} {C : Int → List Value} (h : Gr w b C) (z : Int) (hw : (Lit.int .i64 z).wf = true) (ty : TypeId) :
    ∃ w', (Builtin.delete_ #[44, 3] ty #[.map (some b), .int .i64 z]).run Try.prog w = .ok (.tuple #[]) w' ∧ Gr w' b (fun y => if y = z then [] else C y) ∧ w.grownBy w' (some b) := by
  obtain ⟨es, clock, hb, hs, he⟩ := h
  have K : Keyed Try.prog 3 := int_keyed Try.underlying3
  have hkey : keyOf Try.prog 3 (.int .i64 z) = some (.int .i64 z) := keyOf_int_mk Try.underlying3 hw
  have hst : ∃ es' : Array MapEntry, (Builtin.delete_ #[44, 3] ty #[.map (some b), .int .i64 z]).run Try.prog w = .ok (.tuple #[]) (setBlock w b (.map es' clock)) ∧ Stamped es' clock ∧ ∀ x, x ∈ es'.toList ↔ (x ∈ es.toList ∧ x.key ≠ KI z) := by
    rcases K.find w hkey es.toList he.keys with ⟨h1, h2⟩ | ⟨j, e0, h1, h2, h3⟩
    · refine ⟨es, ?_, hs, fun x => ⟨fun hx => ⟨hx, h2 x hx⟩, fun hx => hx.1⟩⟩
      simp [Builtin.delete_, run_underlying Try.underlying44, MapKept.run_getObj_map hb, K.check w _ hkey, h1, MapKept.run_setObj_map _ hb, Result.andThen, setBlock]
    · have hjl : j < es.toList.length := (List.getElem?_eq_some_iff.1 h2).1
      have hjs : j < es.size := by simpa using hjl
      have hsub : (es.eraseIdxIfInBounds j).toList = es.toList.eraseIdx j := by
        unfold Array.eraseIdxIfInBounds
        rw [dif_pos hjs]
        simp
      refine ⟨es.eraseIdxIfInBounds j, ?_, stamped_erase hs j, fun x => ?_⟩
      · simp [Builtin.delete_, run_underlying Try.underlying44, MapKept.run_getObj_map hb, K.check w _ hkey, h1, MapKept.run_setObj_map _ hb, Result.andThen, setBlock]
      · rw [hsub, List.mem_eraseIdx_iff_getElem?]
        constructor
        · rintro ⟨i, hne, hi⟩
          refine ⟨List.mem_of_getElem? hi, ?_⟩
          have := apart_of hs hi h2 hne
          rw [h3] at this
          exact this
        · rintro ⟨hx, hne⟩
          obtain ⟨i, hi⟩ := List.getElem?_of_mem hx
          refine ⟨i, fun e1 => hne ?_, hi⟩
          rw [e1, h2] at hi
          cases hi
          exact h3
  obtain ⟨es', hrun, hs', hwho⟩ := hst
  have hg2 : w.grownBy (setBlock w b (.map es' clock)) (some b) := ⟨rfl, rfl, rfl, by simp [setBlock], fun i _ hi => heap_setBlock_other hb _ (fun e1 => hi (by rw [e1]))⟩
  refine ⟨_, hrun, ⟨es', clock, heap_setBlock_same hb _, hs', ?_, ?_, ?_⟩, hg2⟩
  · intro x hx
    obtain ⟨hx0, hne⟩ := (hwho x).1 hx
    obtain ⟨z', n, hk, hw', ho⟩ := he.1 x hx0
    have hz : ¬ z' = z := fun e => hne (by rw [hk, e])
    refine ⟨z', n, hk, hw', ?_⟩
    simp only [if_neg hz]
    exact ho.kept hg2 (.inr (own_apart ho))
  · intro y hy
    by_cases hyz : y = z
    · simp [hyz]
    · simp only [if_neg hyz]
      refine he.2.1 y (fun x hx e => ?_)
      exact hy x ((hwho x).2 ⟨hx, by rw [e]; intro e2; exact hyz (KI_inj e2)⟩) e
  · intro x hx y hy hne
    exact he.2.2 x ((hwho x).1 hx).1 y ((hwho y).1 hy).1 hne

/-- 'delete(m, k)' at the operation. -/
theorem wpList_drop_own {ops : Array Oper} {rest : List Oper} {o : Oper} {a : Act} {Q : Exit → Act → World → Prop} (w : World) (hg : o.guard = none) (m x : Operand)
    (hop : o.op = Op.call { callee := Callee.builtin Builtin.delete, args := #[m, x], argTypes := #[44, 3] }) (b : Nat) (C : Int → List Value) (z : Int) (hm : a.eval m = .map (some b)) (hx : a.eval x = .int .i64 z) (h : Gr w b C) (hw : (Lit.int .i64 z).wf = true)
    (hK : ∀ w', Gr w' b (fun y => if y = z then [] else C y) → w.grownBy w' (some b) → wpList Try.prog ops Q rest (a.put o.dst (.tuple #[])) w') :
    wpList Try.prog ops Q (o :: rest) a w := by
  refine wpList_plain hg fun K' hK' => ?_
  obtain ⟨w', hrun, r1, r2⟩ := h.drop z hw o.type
  unfold Oper.wp
  simp [execOp, hop, resolve, invoke, builtin, hm, hx, hrun, Result.andThen]
  exact hK' _ _ (hK w' r1 r2)

/-- Block r of wr is an iterator over the map at b, whose entries are es; those of vis have come, each once, in that order. -/
def It (wr : World) (b r : Nat) (es : Array MapEntry) (clock : Nat) (vis : List MapEntry) : Prop :=
  ∃ seen c0, wr.heap[b]? = some (.map es clock) ∧ wr.heap[r]? = some (.mapIter (some b) clock seen c0) ∧ clock ≤ c0 ∧ seen.toList = vis.map (·.born) ∧ vis.Nodup ∧ ∀ x ∈ vis, x ∈ es.toList

theorem It.kept {wr w' : World} {b r : Nat} {es : Array MapEntry} {clock : Nat} {vis : List MapEntry} {row : Option Nat} (h : It wr b r es clock vis) (hg : wr.grownBy w' row) (hb : some b ≠ row) (hr : some r ≠ row) : It w' b r es clock vis := by
  obtain ⟨seen, c0, h1, h2, h3⟩ := h
  exact ⟨seen, c0, (hg.block b (Array.getElem?_eq_some_iff.1 h1).1 hb).trans h1, (hg.block r (Array.getElem?_eq_some_iff.1 h2).1 hr).trans h2, h3⟩

theorem It.start {w : World} {b : Nat} {es : Array MapEntry} {clock : Nat} (hb : w.heap[b]? = some (.map es clock)) : It (w.alloc (.mapIter (some b) clock #[] clock)) b w.heap.size es clock [] :=
  ⟨#[], clock, ((MapKept.heap_alloc w _).2 b (Array.getElem?_eq_some_iff.1 hb).1).trans hb, (MapKept.heap_alloc w _).1, Nat.le_refl _, rfl, List.nodup_nil, by simp⟩

theorem It.next {wr : World} {b r : Nat} {es : Array MapEntry} {clock : Nat} {vis : List MapEntry} (h : It wr b r es clock vis) (hs : Stamped es clock) (ty : TypeId) :
    (vis.Perm es.toList ∧ (Instr.next (.pointer (some ⟨r, 0, none⟩)) false ty).run Try.prog wr = .ok (.tuple #[.bool false]) wr) ∨
    ∃ e w', e ∈ es.toList ∧ (Instr.next (.pointer (some ⟨r, 0, none⟩)) false ty).run Try.prog wr = .ok (.tuple #[.bool true, e.key, e.val]) w' ∧ It w' b r es clock (vis ++ [e]) ∧ w'.rangeLeft b r < wr.rangeLeft b r ∧
      wr.grownBy w' (some r) ∧ w'.heap.size = wr.heap.size ∧ (Instr.entry (.pointer (some ⟨r, 0, none⟩))).run Try.prog w' = .ok (.tuple #[e.key, e.val]) w' := by
  obtain ⟨seen, c0, hb, hr, hc, hseen, hnd, hsub⟩ := h
  have hst := (stamped_iff es clock).1 hs
  have hne : r ≠ b := by intro e; rw [e, hb] at hr; cases hr
  have hesn : es.toList.Nodup := by
    have := hst.2.1
    exact List.Pairwise.imp (fun h e => h (by rw [e])) (List.pairwise_map.1 this)
  rcases run_next_at (P := Try.prog) wr ty r b clock c0 seen es clock hr hb hst.1 hc with ⟨h0, hrun⟩ | ⟨e, he, w1, hal, hrun⟩
  · refine .inl ⟨(List.perm_ext_iff_of_nodup hnd hesn).2 (fun x => ⟨hsub x, fun hx => ?_⟩), hrun⟩
    have h1 := all_seen es seen h0 x hx
    have h2 : x.born ∈ seen.toList := by simpa using h1
    rw [hseen] at h2
    obtain ⟨y, hy, hyb⟩ := List.mem_map.1 h2
    have := born_inj hst.2.1 (hsub y hy) hx hyb
    rwa [this] at hy
  · obtain ⟨hem, hes⟩ := mem_left he
    have hnv : e ∉ vis := by
      intro hv
      have : e.born ∈ seen.toList := by rw [hseen]; exact List.mem_map_of_mem hv
      have h2 : seen.contains e.born = true := by simpa using this
      rw [h2] at hes
      cases hes
    have hr1 : w1.heap[r]? = some (.mapIter (some b) clock seen c0) := by rcases hal with rfl | rfl <;> exact hr
    have hb1 : w1.heap[b]? = some (.map es clock) := by rcases hal with rfl | rfl <;> exact hb
    have hset := heap_set (o' := .mapIter (some b) clock (seen.push e.born) clock) hr1
    have hb' : (setBlock w1 r (.mapIter (some b) clock (seen.push e.born) clock)).heap[b]? = some (.map es clock) := (hset.2 b (fun e1 => hne e1.symm)).trans hb1
    refine .inr ⟨e, _, hem, hrun, ⟨seen.push e.born, clock, hb', hset.1, Nat.le_refl _, by simp [hseen], ?_, ?_⟩, ?_, ?_, ?_, run_entry_at _ r b clock seen es clock e hset.1 hb' hem hst.2.1⟩
    · refine List.nodup_append.2 ⟨hnd, by simp, ?_⟩
      intro x hx y hy exy
      simp at hy
      subst exy hy
      exact hnv hx
    · intro x hx
      rcases List.mem_append.1 hx with h | h
      · exact hsub x h
      · simp at h; rw [h]; exact hem
    · have e1 : (setBlock w1 r (.mapIter (some b) clock (seen.push e.born) clock)).rangeLeft b r = (leftOf es (seen.push e.born)).size := by
        have hr' : (setBlock w1 r (.mapIter (some b) clock (seen.push e.born) clock)).heap[r]? = some (.mapIter (some b) clock (seen.push e.born) clock) := hset.1
        unfold World.rangeLeft
        rw [hb', hr']
      have e2 : wr.rangeLeft b r = (leftOf es seen).size := by
        unfold World.rangeLeft
        rw [hb, hr]
      have h3 := left_shrinks es seen e he
      rw [← e1, ← e2] at h3
      exact h3
    · rcases hal with rfl | rfl <;> exact ⟨rfl, rfl, rfl, by simp [setBlock], fun i _ hi => hset.2 i (fun e1 => hi (by rw [e1]))⟩
    · rcases hal with rfl | rfl <;> simp [setBlock]
end Go.Proofs.Ytnplclfoeedpjaa
