/- Tables (which server has which cell, in which age): how they lie, how the laws copy, compare and mark them; conditions: the lists lie in memory. -/
import Derived.Test.YtodmfbbicdbjdaaBk
namespace Go.Proofs.Ytodmfbbicdbjdaa
open Go.RowKit Go.ChangeShapes Go.WideShapes Go.ChangeAt Go.Deep
set_option linter.unusedVariables false

theorem keepS {W w1 w2 : World} {m : Nat} (h : (∀ b o, b < m → w1.cell? ⟨b, o, none⟩ = W.cell? ⟨b, o, none⟩) ∧ m ≤ w1.heap.size) (hb : Below w1.heap.size w1 w2) :
    (∀ b o, b < m → w2.cell? ⟨b, o, none⟩ = W.cell? ⟨b, o, none⟩) ∧ m ≤ w2.heap.size :=
  ⟨fun b o hlt => (hb.cell (p := ⟨b, o, none⟩) (Nat.lt_of_lt_of_le hlt h.2)).trans (h.1 b o hlt), Nat.le_trans h.2 hb.size⟩

/-- What a table holds: so many servers, so many ages. -/
structure TV where
  nS : Nat
  S : Nat → Int
  nA : Nat
  A : Nat → Int
def TV.short (T : TV) (m : Nat) : Prop := T.nS ≤ m ∧ T.nA ≤ m
/-- The value v is a table that holds T, in w. -/
def TabAt (w : World) (v : Value) (T : TV) : Prop :=
  ∃ aS kS aA kA, v = .agg #[.slice aS T.nS kS, .slice aA T.nA kA] ∧ Row1 w aS T.nS T.S ∧ Row1 w aA T.nA T.A
theorem TabAt.below {w w' : World} {v : Value} {T : TV} (h : TabAt w v T) (hb : Below w.heap.size w w') : TabAt w' v T := by
  obtain ⟨aS, kS, aA, kA, e, h1, h2⟩ := h
  exact ⟨aS, kS, aA, kA, e, row1_below h1 hb, row1_below h2 hb⟩

section
variable {H : Type} {enc : TypeId × Value → H} {P : Program} {w : World} {base : Nat} {spare : Nat → Bool} {held : Bool}
/-- A table by value. -/
theorem open_tab {b0 : Nat} {r : Reach} {t tX ti : TypeId} {f0 f1 : Field} {v : Value} {d : DataW H} {pl : List MemPlace}
    (ht : P.underlying t = some (.struct #[f0, f1])) (hct : P.cellsOf t = 2) (q0 : f0.offset = 0 ∧ f0.type = tX) (q1 : f1.offset = 1 ∧ f1.type = tX)
    (hX : P.underlying tX = some (.slice ti)) (hcX : P.cellsOf tX = 1) (hi : P.underlying ti = some (.int .i64)) (hi1 : P.cellsOf ti = 1)
    (hv : Value.okWide P w r b0 t v) (h : DataW.Trod enc P w base spare held t v d pl) : ∃ T, TabAt w v T ∧ T.short maxLen := by
  obtain ⟨cs, rfl, hsize⟩ := okWide_struct ht hv
  obtain ⟨fuel, hf⟩ := h
  obtain ⟨xs, n, _, _, hl, hlen, hfld⟩ := DataW.trod_struct ht hf
  simp only [Value.cells] at hl hfld
  rw [hct] at hl
  have one : ∀ (i : Nat) (f : Field) (ty : TypeId), (#[f0, f1] : Array Field)[i]? = some f → f.offset = i ∧ f.type = ty → P.cellsOf ty = 1 → (hi : i < cs.toList.length) → ∃ x, DataW.trod enc P w base spare held n ty [cs.toList[i]] = some x := by
    intro i f ty hg ho h1 hi
    have := hfld i f hg
    rw [ho.1, ho.2, h1] at this
    have e : (cs.toList.drop i).take 1 = [cs.toList[i]] := by
      rw [List.drop_eq_getElem_cons hi, List.take_succ_cons, List.take_zero]
    rw [e] at this
    have hx : i < xs.length := by rw [hlen]; exact (by rw [hl] at hi; simpa using hi)
    rw [List.getElem?_eq_getElem hx] at this
    exact ⟨_, this⟩
  obtain ⟨x0, t0⟩ := one 0 f0 tX rfl q0 hcX (by omega)
  obtain ⟨x1, t1⟩ := one 1 f1 tX rfl q1 hcX (by omega)
  obtain ⟨aX, nX, kX, X, e0, lX, rX⟩ := open_row1 hX hi hi1 t0
  obtain ⟨aI, nI, kI, I, e1, lI, rI⟩ := open_row1 hX hi hi1 t1
  simp only [List.cons.injEq, and_true] at e0 e1
  refine ⟨⟨nX, X, nI, I⟩, ⟨aX, kX, aI, kI, ?_, rX, rI⟩, lX, lI⟩
  congr 1
  apply Array.ext'
  apply List.ext_getElem?
  intro i
  match i with
  | 0 => rw [List.getElem?_eq_getElem (by omega), e0]; rfl
  | 1 => rw [List.getElem?_eq_getElem (by omega), e1]; rfl
  | i + 2 => rw [List.getElem?_eq_none (by omega), List.getElem?_eq_none (by simp)]
end

/-- v is a table that holds T, each of its lists in a block of its own, between lo and hi. -/
def OwnT (lo hi : Nat) (w : World) (v : Value) (T : TV) : Prop :=
  ∃ v0 v1 g0 g1, v = .agg #[v0, v1] ∧ RI lo hi w v0 T.nS T.S g0 ∧ RI lo hi w v1 T.nA T.A g1 ∧ ¬ g0 = g1
theorem ri_row {lo hi : Nat} {w : World} {v : Value} {n : Nat} {X : Nat → Int} {g : Nat} (h : RI lo hi w v n X g) : ∃ a c, v = .slice a n c ∧ Row1 w a n X := by
  rcases h with ⟨rfl, a, c, rfl⟩ | ⟨c, rfl, h1, h2, h3, h4⟩
  · exact ⟨a, c, rfl, .inl rfl⟩
  · exact ⟨_, c, rfl, row1_of_own h4 (by omega)⟩
theorem OwnT.at {lo hi : Nat} {w : World} {v : Value} {T : TV} (h : OwnT lo hi w v T) : TabAt w v T := by
  obtain ⟨v0, v1, g0, g1, rfl, r0, r1, _⟩ := h
  obtain ⟨a0, c0, rfl, h0⟩ := ri_row r0
  obtain ⟨a1, c1, rfl, h1⟩ := ri_row r1
  exact ⟨_, _, _, _, rfl, h0, h1⟩
theorem OwnT.below {lo hi : Nat} {w w' : World} {v : Value} {T : TV} (h : OwnT lo hi w v T) (hb : Below w.heap.size w w') : OwnT lo hi w' v T := by
  obtain ⟨v0, v1, g0, g1, e, r0, r1, hn⟩ := h
  refine ⟨v0, v1, g0, g1, e, ?_, ?_, hn⟩
  · rcases r0 with h | ⟨c, h1, h2, h3, h4, h5⟩
    · exact .inl h
    · exact .inr ⟨c, h1, h2, h3, Nat.le_trans h4 hb.size, own1_sm h5 (sm_below hb (by omega))⟩
  · rcases r1 with h | ⟨c, h1, h2, h3, h4, h5⟩
    · exact .inl h
    · exact .inr ⟨c, h1, h2, h3, Nat.le_trans h4 hb.size, own1_sm h5 (sm_below hb (by omega))⟩

end Go.Proofs.Ytodmfbbicdbjdaa
