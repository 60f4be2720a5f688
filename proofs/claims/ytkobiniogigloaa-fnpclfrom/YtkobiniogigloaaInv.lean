/- A region that draws its order, gone through by what holds of each operation that has come up: one step an operation, not one walk an order; no Go text in sight; conditions: none beyond those typed. -/
import Derived.WalkKit
import Derived.Deep.RegionHeld
namespace Go.Proofs.Ytkobiniogigloaa
open Go
set_option linter.unusedVariables false

section
variable {P : Program} {ops : Array Oper} {Q : Exit → Act → World → Prop}

/-- L with i come up. -/
def mark1 (L : Nat → Bool) (i : Nat) : Nat → Bool := fun j => if j = i then true else L j
theorem mark1_self (L : Nat → Bool) (i : Nat) : mark1 L i i = true := by simp [mark1]
theorem mark1_ne (L : Nat → Bool) {i j : Nat} (h : j ≠ i) : mark1 L i j = L j := by simp [mark1, h]
theorem mark1_true {L : Nat → Bool} {i j : Nat} (h : L j = true) : mark1 L i j = true := by unfold mark1; split <;> simp_all

theorem keepL {L : Nat → Bool} {i j : Nat} {p : Prop} (hne : j ≠ i) (h : L j = true → p) : mark1 L i j = true → p := fun e => h (by rwa [mark1_ne L hne] at e)

/-- How many of these have come up. -/
def cntL : List Nat → (Nat → Bool) → Int
  | [], _ => 0
  | p :: r, L => (if L p = true then 1 else 0) + cntL r L
theorem cntL_bd (L : Nat → Bool) : ∀ ps : List Nat, 0 ≤ cntL ps L ∧ cntL ps L ≤ ps.length
  | [] => by simp [cntL]
  | p :: r => by
    have := cntL_bd L r
    simp only [cntL, List.length_cons]
    split <;> omega
theorem cntL_out {L : Nat → Bool} {i : Nat} : ∀ {ps : List Nat}, i ∉ ps → cntL ps (mark1 L i) = cntL ps L
  | [], _ => rfl
  | p :: r, h => by
    simp only [List.mem_cons, not_or] at h
    simp only [cntL]
    rw [cntL_out h.2, mark1_ne L (fun e => h.1 e.symm)]
theorem cntL_in {L : Nat → Bool} {i : Nat} (hL : L i = false) : ∀ {ps : List Nat}, ps.Nodup → i ∈ ps → cntL ps (mark1 L i) = cntL ps L + 1
  | [], _, h => by simp at h
  | p :: r, hn, h => by
    obtain ⟨h1, h2⟩ := List.nodup_cons.1 hn
    simp only [cntL]
    by_cases e : i = p
    · subst e
      rw [mark1_self, cntL_out h1, hL]
      simp
      omega
    · have hr : i ∈ r := by simpa [e] using h
      rw [cntL_in hL h2 hr, mark1_ne L (fun e' => e e'.symm)]
      omega
theorem cntL_none : ∀ ps : List Nat, cntL ps (fun _ => false) = 0
  | [] => rfl
  | p :: r => by simp [cntL, cntL_none r]

/-- All that o waits for has come up. -/
def Dep (o : Oper) (L : Nat → Bool) : Prop := ∀ e ∈ o.after, Region.binds .any e = true → L e.on = true

/-- Each operation, whenever it comes up, leads from the invariant to the invariant. -/
def StepAll (P : Program) (ops : Array Oper) (Q : Exit → Act → World → Prop) (Inv : (Nat → Bool) → Act → World → Prop) : List Oper → Nat → Prop
  | [], _ => True
  | o :: r, i => (∀ (L : Nat → Bool) (a : Act) (w : World) (K' : Act → World → Prop), Dep o L → L i = false → Inv L a w → Shut (∀ a' w', Inv (mark1 L i) a' w' → K' a' w') →
      if Region.wanted o (yielded ops a.tmps) = true then Oper.wp P o a w K' Q else K' (a.put o.dst undef) w) ∧ StepAll P ops Q Inv r (i + 1)

theorem StepAll.at {Inv : (Nat → Bool) → Act → World → Prop} : ∀ {l : List Oper} {k : Nat}, StepAll P ops Q Inv l k → ∀ {i : Nat} {o : Oper}, l[i]? = some o →
    ∀ (L : Nat → Bool) (a : Act) (w : World) (K' : Act → World → Prop), Dep o L → L (k + i) = false → Inv L a w → Shut (∀ a' w', Inv (mark1 L (k + i)) a' w' → K' a' w') →
      if Region.wanted o (yielded ops a.tmps) = true then Oper.wp P o a w K' Q else K' (a.put o.dst undef) w
  | [], _, _, i, o, h => by simp at h
  | x :: r, k, hs, 0, o, h => by
    simp at h
    subst h
    exact hs.1
  | x :: r, k, hs, i + 1, o, h => by
    have := StepAll.at hs.2 (i := i) (o := o) (by simpa using h)
    rw [show k + 1 + i = k + (i + 1) by omega] at this
    exact this

theorem set_getD (l : Array Bool) (i j : Nat) (hi : i < l.size) : (l.setIfInBounds i true).getD j false = mark1 (fun k => l.getD k false) i j := by
  unfold mark1
  by_cases h : j = i
  · subst h
    simp [Array.getD, hi]
  · rw [if_neg h]
    simp only [Array.getD_eq_getD_getElem?, Array.getElem?_setIfInBounds]
    rw [if_neg (fun e => h e.symm)]

theorem wpAny_inv (Inv : (Nat → Bool) → Act → World → Prop) (hord : ∀ (i : Nat) (o : Oper), ops[i]? = some o → ∀ e ∈ o.after, e.on < i) (hstep : StepAll P ops Q Inv ops.toList 0)
    (hdone : ∀ L a w, (∀ i, i < ops.size → L i = true) → Inv L a w → Q .normal a w) :
    ∀ (fuel : Nat) (listed : Array Bool) (a : Act) (w : World), listed.size = ops.size → (listed.toList.filter (fun b => !b)).length ≤ fuel → Inv (fun k => listed.getD k false) a w → wpAny P .any ops Q fuel listed a w := by
  have hall : ∀ listed : Array Bool, listed.size = ops.size → Region.ready .any ops listed = [] → ∀ i, i < ops.size → listed.getD i false = true := by
    intro listed hsz hr i
    induction i using Nat.strongRecOn with
    | ind i ih =>
      intro hi
      cases hc : listed.getD i false with
      | true => rfl
      | false =>
        exfalso
        have hmem : i ∈ Region.ready .any ops listed := by
          unfold Region.ready
          rw [List.mem_filter]
          refine ⟨List.mem_range.2 hi, ?_⟩
          have h1 : listed.getD i true = false := by
            have hl : i < listed.size := by omega
            simp [Array.getD, hl] at hc ⊢
            exact hc
          rw [h1, Array.getElem?_eq_getElem hi]
          simp only [Bool.not_false, Bool.true_and, Option.map_some, Option.getD_some]
          rw [Array.all_eq_true_iff_forall_mem]
          intro e he
          have hlt := hord i ops[i] (Array.getElem?_eq_getElem hi) e he
          rw [ih e.on hlt (by omega)]
          simp
        rw [hr] at hmem
        cases hmem
  intro fuel
  induction fuel with
  | zero =>
    intro listed a w hsz hf hI
    have hno : ∀ i, i < ops.size → listed.getD i false = true := by
      intro i hi
      have hl : i < listed.size := by omega
      cases hc : listed[i] with
      | true => simp [Array.getD, hl, hc]
      | false =>
        exfalso
        have : listed[i] ∈ listed.toList.filter (fun b => !b) := List.mem_filter.2 ⟨by simp, by rw [hc]; rfl⟩
        rw [List.eq_nil_of_length_eq_zero (by omega : (listed.toList.filter (fun b => !b)).length = 0)] at this
        cases this
    refine ⟨?_, hdone _ a w hno hI⟩
    unfold Region.ready
    rw [List.filter_eq_nil_iff]
    intro i hi
    have hi' := List.mem_range.1 hi
    have h1 : listed.getD i true = true := by
      have hl : i < listed.size := by omega
      have := hno i hi'
      simp [Array.getD, hl] at this ⊢
      exact this
    rw [h1]
    simp
  | succ fuel ih =>
    intro listed a w hsz hf hI
    refine ⟨fun hr => hdone _ a w (hall listed hsz hr) hI, fun i hi => ?_⟩
    unfold Region.ready at hi
    obtain ⟨h1, h2⟩ := List.mem_filter.1 hi
    have hi' := List.mem_range.1 h1
    have hl : i < listed.size := by omega
    rw [Array.getElem?_eq_getElem hi'] at h2
    simp only [Option.map_some, Option.getD_some, Bool.and_eq_true, Bool.not_eq_true'] at h2
    obtain ⟨hun, hdep⟩ := h2
    have hun' : listed[i] = false := by simpa [Array.getD, hl] using hun
    have hfalse : listed.getD i false = false := by simp [Array.getD, hl, hun']
    have hd : Dep ops[i] (fun k => listed.getD k false) := by
      intro e he hb
      rw [Array.all_eq_true_iff_forall_mem] at hdep
      have := hdep e he
      rw [hb] at this
      simpa using this
    have ho : ops[i]? = some ops[i] := Array.getElem?_eq_getElem hi'
    refine wpOp_step ho (fun K' hK => ?_)
    have hstp := hstep.at (i := i) (o := ops[i]) (by simp [hi']) (fun k => listed.getD k false) a w K' hd (by simpa using hfalse) hI
    refine hstp (fun a' w' hI' => hK a' w' (ih _ a' w' (by simpa using hsz) ?_ ?_))
    · have : (listed.toList.set i true).filter (fun b => !b) = (listed.toList.filter (fun b => !b)).eraseIdx ((listed.toList.take i).filter (fun b => !b)).length := by
        have hlt : i < listed.toList.length := by simpa using hl
        have e1 : listed.toList = listed.toList.take i ++ false :: listed.toList.drop (i + 1) := by
          have e2 := List.drop_eq_getElem_cons hlt
          rw [show listed.toList[i] = false by simpa using hun'] at e2
          rw [← e2, List.take_append_drop]
        have hlen : (listed.toList.take i).length = i := by simp; omega
        rw [e1]
        rw [List.set_append_right _ _ (by rw [hlen]; exact Nat.le_refl _), hlen, Nat.sub_self, List.set_cons_zero]
        simp only [List.filter_append, List.filter_cons]
        rw [show List.take i (List.take i listed.toList ++ false :: List.drop (i + 1) listed.toList) = List.take i listed.toList from List.take_left' hlen]
        simp [List.eraseIdx_append_of_length_le]
      have hle : ((listed.setIfInBounds i true).toList.filter (fun b => !b)).length + 1 ≤ (listed.toList.filter (fun b => !b)).length := by
        rw [Array.toList_setIfInBounds, this]
        have hpos : ((listed.toList.take i).filter (fun b => !b)).length < (listed.toList.filter (fun b => !b)).length := by
          have hlt : i < listed.toList.length := by simpa using hl
          have e2 := List.drop_eq_getElem_cons hlt
          rw [show listed.toList[i] = false by simpa using hun'] at e2
          have e1 : listed.toList = listed.toList.take i ++ false :: listed.toList.drop (i + 1) := by rw [← e2, List.take_append_drop]
          have e3 : listed.toList.filter (fun b => !b) = (listed.toList.take i).filter (fun b => !b) ++ (false :: listed.toList.drop (i + 1)).filter (fun b => !b) := by
            rw [← List.filter_append, ← e1]
          rw [e3, List.length_append]
          simp
        rw [List.length_eraseIdx_of_lt hpos]
        omega
      omega
    · have e : (fun k => (listed.setIfInBounds i true).getD k false) = mark1 (fun k => listed.getD k false) (0 + i) := by
        funext k
        rw [Nat.zero_add]
        exact set_getD listed i k hl
      rw [e]
      exact hI'

/-- A region that draws its order, by an invariant. -/
theorem wp_region_inv {id : Nat} {a : Act} {w : World} (hm : P.follows .mixedOrders = true) (hord : (ops.toList.zipIdx.all fun x => x.1.after.all fun e => decide (e.on < x.2)) = true)
    (Inv : (Nat → Bool) → Act → World → Prop) (h0 : Inv (fun _ => false) a w.drew) (hstep : StepAll P ops Q Inv ops.toList 0)
    (hdone : ∀ L a w, (∀ i, i < ops.size → L i = true) → Inv L a w → Q .normal a w) : (Code.region id ops true).wp P Q a w := by
  have hord' : ∀ (i : Nat) (o : Oper), ops[i]? = some o → ∀ e ∈ o.after, e.on < i := by
    intro i o ho e he
    have h1 := List.all_eq_true.1 hord (o, i) (by
      rw [List.mem_zipIdx_iff_getElem?]
      simpa using ho)
    have h2 := Array.all_eq_true_iff_forall_mem.1 h1 e he
    simpa using h2
  refine wp_region_any hm (wpAny_inv Inv hord' hstep hdone ops.size _ a _ (by simp) ?_ ?_)
  · simp
  · have : (fun k => (Array.replicate ops.size false).getD k false) = fun _ => false := by
      funext k
      simp only [Array.getD_eq_getD_getElem?, Array.getElem?_replicate]
      split <;> rfl
    rw [this]
    exact h0
end
end Go.Proofs.Ytkobiniogigloaa
