/- Holds: how they lie, their size, their copy, and that two of the same are the same; conditions: the hold lies in memory. -/
import Derived.Test.YtlbjgecjonegkaaBase
import Derived.Test.YtlbjgecjonegkaaCEq
namespace Go.Proofs.Ytlbjgecjonegkaa
open Go.RowKit Go.ChangeShapes Go.WideShapes Go.ChangeAt Go.Deep
set_option linter.unusedVariables false

/-- The value v is a hold of the age ag that has read ct records and holds V, in w. -/
def HoldAt (w : World) (v : Value) (ag ct : Int) (V : CV) : Prop :=
  ∃ aW kW aO kO aX kX aI kI, v = .agg #[.int .i64 ag, .int .i64 ct, .int .i64 V.c, .slice aW V.nW kW, .int .i64 V.g, .slice aO V.nO kO, .slice aX V.nX kX, .slice aI V.nI kI] ∧ Row5 w aW V.nW V.W ∧ RowO w aO V.nO V.N V.O ∧ Row1 w aX V.nX V.X ∧ Row1 w aI V.nI V.I
theorem HoldAt.below {w w' : World} {v : Value} {ag ct : Int} {V : CV} (h : HoldAt w v ag ct V) (hb : Below w.heap.size w w') : HoldAt w' v ag ct V := by
  obtain ⟨aW, kW, aO, kO, aX, kX, aI, kI, e, h1, h2, h3, h4⟩ := h
  exact ⟨aW, kW, aO, kO, aX, kX, aI, kI, e, row5_below h1 hb, rowO_below h2 hb, row1_below h3 hb, row1_below h4 hb⟩
theorem cell_of_rows {w : World} {V : CV} {aW aO aX aI : Option Addr} {kW kO kX kI : Nat} (h : Row5 w aW V.nW V.W ∧ RowO w aO V.nO V.N V.O ∧ Row1 w aX V.nX V.X ∧ Row1 w aI V.nI V.I) : CellAt w (.agg #[.int .i64 V.c, .slice aW V.nW kW, .int .i64 V.g, .slice aO V.nO kO, .slice aX V.nX kX, .slice aI V.nI kI]) V :=
  ⟨aW, kW, aO, kO, aX, kX, aI, kI, rfl, h.1, h.2.1, h.2.2.1, h.2.2.2⟩

/-- v is a hold whose cell is a copy in memory of its own, from block lo on. -/
def HCopy (lo : Nat) (w : World) (v : Value) (ag ct : Int) (V : CV) : Prop :=
  ∃ bW bO bX bI, v = .agg #[.int .i64 ag, .int .i64 ct, .int .i64 V.c, .slice (some ⟨bW, 0, none⟩) V.nW V.nW, .int .i64 V.g, .slice (some ⟨bO, 0, none⟩) V.nO V.nO, .slice (some ⟨bX, 0, none⟩) V.nX V.nX, .slice (some ⟨bI, 0, none⟩) V.nI V.nI] ∧ CopyAt lo w (.agg #[.int .i64 V.c, .slice (some ⟨bW, 0, none⟩) V.nW V.nW, .int .i64 V.g, .slice (some ⟨bO, 0, none⟩) V.nO V.nO, .slice (some ⟨bX, 0, none⟩) V.nX V.nX, .slice (some ⟨bI, 0, none⟩) V.nI V.nI]) V
theorem HCopy.at {lo : Nat} {w : World} {v : Value} {ag ct : Int} {V : CV} (h : HCopy lo w v ag ct V) : HoldAt w v ag ct V := by
  obtain ⟨bW, bO, bX, bI, rfl, h⟩ := h
  obtain ⟨aW, kW, aO, kO, aX, kX, aI, kI, e, h1, h2, h3, h4⟩ := h.at
  injection e with e
  simp only [Array.mk.injEq, List.cons.injEq, Value.slice.injEq, and_true, true_and] at e
  obtain ⟨⟨rfl, rfl⟩, ⟨rfl, rfl⟩, ⟨rfl, rfl⟩, ⟨rfl, rfl⟩⟩ := e
  exact ⟨_, _, _, _, _, _, _, _, rfl, h1, h2, h3, h4⟩
theorem HCopy.below {lo : Nat} {w w' : World} {v : Value} {ag ct : Int} {V : CV} (h : HCopy lo w v ag ct V) (hb : Below w.heap.size w w') : HCopy lo w' v ag ct V := by
  obtain ⟨bW, bO, bX, bI, e, h⟩ := h
  exact ⟨bW, bO, bX, bI, e, h.below hb⟩
theorem CopyAt.set {lo B j : Nat} {w : World} {v u : Value} {V : CV} (h : CopyAt lo w v V) (hB : B < lo) : CopyAt lo (w.setCell ⟨B, j, none⟩ u) v V := by
  obtain ⟨bW, bO, bX, bI, h0, h1, h2, h3, h4, rfl, g1, g2, g3, g4⟩ := h
  exact ⟨bW, bO, bX, bI, h0, h1, h2, h3, by rw [set_size]; exact h4, rfl, own5_set g1 (by omega), ownO_set g2 (by omega), own1_set g3 (by omega), own1_set g4 (by omega)⟩
section
variable {H : Type} {enc : TypeId × Value → H} {P : Program} {w : World} {base : Nat} {spare : Nat → Bool} {held : Bool}
variable {tw8 ti : TypeId} {fs5 : Array Field} {g0 g1 g2 g3 : Field}
/-- A cell, as a struct of six. -/
theorem open_cellA {t tW e5 tO eO p tX : TypeId} {f0 f1 f2 f3 f4 f5 : Field} {q5 : Array Field} {cs : Array Value} {d : DataW H} {pl : List MemPlace}
    (ht : P.underlying t = some (.struct #[f0, f1, f2, f3, f4, f5])) (hct : P.cellsOf t = 6)
    (q0 : f0.offset = 0 ∧ f0.type = ti) (q1 : f1.offset = 1 ∧ f1.type = tW) (q2 : f2.offset = 2 ∧ f2.type = ti) (q3 : f3.offset = 3 ∧ f3.type = tO) (q4 : f4.offset = 4 ∧ f4.type = tX) (q5' : f5.offset = 5 ∧ f5.type = tX)
    (hW : P.underlying tW = some (.slice e5)) (hW5 : P.underlying e5 = some (.struct q5)) (hc5 : P.cellsOf e5 = 5) (hsz5 : q5.size = 5) (hoff5 : ∀ (i : Nat) (f : Field), q5[i]? = some f → f.offset = i ∧ f.type = ti)
    (hX : P.underlying tX = some (.slice ti)) (hcW : P.cellsOf tW = 1) (hcO : P.cellsOf tO = 1) (hcX : P.cellsOf tX = 1)
    (hO : P.underlying tO = some (.slice eO)) (he : P.underlying eO = some (.slice p)) (h1 : P.cellsOf eO = 1)
    (hs : P.underlying p = some (.struct #[g0, g1, g2, g3])) (hw5 : P.underlying tw8 = some (.struct fs5)) (hi : P.underlying ti = some (.int .i64)) (hi1 : P.cellsOf ti = 1) (hC : P.cellsOf p = 8) (hC5 : P.cellsOf tw8 = 5) (hsz : fs5.size = 5)
    (hoff : ∀ (i : Nat) (f : Field), fs5[i]? = some f → f.offset = i ∧ f.type = ti)
    (o0 : g0.offset = 0 ∧ g0.type = ti) (o1 : g1.offset = 1 ∧ g1.type = ti) (o2 : g2.offset = 2 ∧ g2.type = tw8) (o3 : g3.offset = 7 ∧ g3.type = ti)
    (h : DataW.Trod enc P w base spare held t (.agg cs) d pl) : ∃ V, CellAt w (.agg cs) V ∧ V.short maxLen ∧ (∀ k j, k < V.nW → j < 5 → (Lit.int .i64 (V.W k j)).wf = true) := by
  obtain ⟨fuel, hf⟩ := h
  obtain ⟨xs, n, _, _, hl, hlen, hfld⟩ := DataW.trod_struct ht hf
  simp only [Value.cells] at hl hfld
  rw [hct] at hl
  have one : ∀ (i : Nat) (f : Field) (ty : TypeId), (#[f0, f1, f2, f3, f4, f5] : Array Field)[i]? = some f → f.offset = i ∧ f.type = ty → P.cellsOf ty = 1 → (hi : i < cs.toList.length) → ∃ x, DataW.trod enc P w base spare held n ty [cs.toList[i]] = some x := by
    intro i f ty hg ho h1 hi
    have := hfld i f hg
    rw [ho.1, ho.2, h1] at this
    have e : (cs.toList.drop i).take 1 = [cs.toList[i]] := by
      rw [List.drop_eq_getElem_cons hi, List.take_succ_cons, List.take_zero]
    rw [e] at this
    have hx : i < xs.length := by rw [hlen]; exact (by rw [hl] at hi; simpa using hi)
    rw [List.getElem?_eq_getElem hx] at this
    exact ⟨_, this⟩
  obtain ⟨x0, t0⟩ := one 0 f0 ti rfl q0 hi1 (by omega)
  obtain ⟨x1, t1⟩ := one 1 f1 tW rfl q1 hcW (by omega)
  obtain ⟨x2, t2⟩ := one 2 f2 ti rfl q2 hi1 (by omega)
  obtain ⟨x3, t3⟩ := one 3 f3 tO rfl q3 hcO (by omega)
  obtain ⟨x4, t4⟩ := one 4 f4 tX rfl q4 hcX (by omega)
  obtain ⟨x5, t5⟩ := one 5 f5 tX rfl q5' hcX (by omega)
  obtain ⟨z0, e0, _, _⟩ := DataW.trod_int hi t0
  obtain ⟨z2, e2, _, _⟩ := DataW.trod_int hi t2
  obtain ⟨aX, nX, kX, X, e4, lX, rX⟩ := open_row1 hX hi hi1 t4
  obtain ⟨aI, nI, kI, I, e5, lI, rI⟩ := open_row1 hX hi hi1 t5
  obtain ⟨aO, nO, kO, N, O, e3, lO, lN, rO⟩ := open_rowO hO he h1 hs hw5 hi hi1 hC hC5 hsz hoff o0 o1 o2 o3 t3
  have hsl : ∃ xa ln cp, cs.toList[1] = .slice xa ln cp := by
    rcases open_slice hW t1 with ⟨hq, _⟩ | ⟨_, _, _, _, _, _, _, hq, _⟩
    · exact ⟨_, _, _, by simpa using hq⟩
    · exact ⟨_, _, _, by simpa using hq⟩
  obtain ⟨aW, nW, kW, e1⟩ := hsl
  rw [e1] at t1
  obtain ⟨lW, W, rW, fW⟩ := open_row5 hW hW5 hi hi1 hc5 hsz5 hoff5 (show DataW.Trod enc P w base spare held tW (.slice aW nW kW) x1.1 x1.2 from ⟨n, t1⟩)
  simp only [List.cons.injEq, and_true] at e0 e2 e3 e4 e5
  refine ⟨⟨z0, nW, W, z2, nO, N, O, nX, X, nI, I⟩, ⟨aW, kW, aO, kO, aX, kX, aI, kI, ?_, rW, rO, rX, rI⟩, ⟨lW, lO, lN, lX, lI⟩, fW⟩
  congr 1
  apply Array.ext'
  apply List.ext_getElem?
  intro i
  match i with
  | 0 => rw [List.getElem?_eq_getElem (by omega), e0]; rfl
  | 1 => rw [List.getElem?_eq_getElem (by omega), e1]; rfl
  | 2 => rw [List.getElem?_eq_getElem (by omega), e2]; rfl
  | 3 => rw [List.getElem?_eq_getElem (by omega), e3]; rfl
  | 4 => rw [List.getElem?_eq_getElem (by omega), e4]; rfl
  | 5 => rw [List.getElem?_eq_getElem (by omega), e5]; rfl
  | i + 6 => rw [List.getElem?_eq_none (by omega), List.getElem?_eq_none (by simp)]

/-- A hold by value. -/
theorem open_hold {b0 : Nat} {r : Reach} {th t tW e5 tO eO p tX : TypeId} {k0 k1 k2 f0 f1 f2 f3 f4 f5 : Field} {q5 : Array Field} {v : Value} {d : DataW H} {pl : List MemPlace}
    (hth : P.underlying th = some (.struct #[k0, k1, k2])) (hcth : P.cellsOf th = 8) (p0 : k0.offset = 0 ∧ k0.type = ti) (p1 : k1.offset = 1 ∧ k1.type = ti) (p2 : k2.offset = 2 ∧ k2.type = t)
    (ht : P.underlying t = some (.struct #[f0, f1, f2, f3, f4, f5])) (hct : P.cellsOf t = 6)
    (q0 : f0.offset = 0 ∧ f0.type = ti) (q1 : f1.offset = 1 ∧ f1.type = tW) (q2 : f2.offset = 2 ∧ f2.type = ti) (q3 : f3.offset = 3 ∧ f3.type = tO) (q4 : f4.offset = 4 ∧ f4.type = tX) (q5' : f5.offset = 5 ∧ f5.type = tX)
    (hW : P.underlying tW = some (.slice e5)) (hW5 : P.underlying e5 = some (.struct q5)) (hc5 : P.cellsOf e5 = 5) (hsz5 : q5.size = 5) (hoff5 : ∀ (i : Nat) (f : Field), q5[i]? = some f → f.offset = i ∧ f.type = ti)
    (hX : P.underlying tX = some (.slice ti)) (hcW : P.cellsOf tW = 1) (hcO : P.cellsOf tO = 1) (hcX : P.cellsOf tX = 1)
    (hO : P.underlying tO = some (.slice eO)) (he : P.underlying eO = some (.slice p)) (h1 : P.cellsOf eO = 1)
    (hs : P.underlying p = some (.struct #[g0, g1, g2, g3])) (hw5 : P.underlying tw8 = some (.struct fs5)) (hi : P.underlying ti = some (.int .i64)) (hi1 : P.cellsOf ti = 1) (hC : P.cellsOf p = 8) (hC5 : P.cellsOf tw8 = 5) (hsz : fs5.size = 5)
    (hoff : ∀ (i : Nat) (f : Field), fs5[i]? = some f → f.offset = i ∧ f.type = ti)
    (o0 : g0.offset = 0 ∧ g0.type = ti) (o1 : g1.offset = 1 ∧ g1.type = ti) (o2 : g2.offset = 2 ∧ g2.type = tw8) (o3 : g3.offset = 7 ∧ g3.type = ti)
    (hv : Value.okWide P w r b0 th v) (h : DataW.Trod enc P w base spare held th v d pl) : ∃ ag ct V, HoldAt w v ag ct V ∧ V.short maxLen := by
  obtain ⟨cs, rfl, hsize⟩ := okWide_struct hth hv
  obtain ⟨fuel, hf⟩ := h
  obtain ⟨xs, n, _, _, hl, hlen, hfld⟩ := DataW.trod_struct hth hf
  simp only [Value.cells] at hl hfld
  rw [hcth] at hl
  have t0 := hfld 0 k0 rfl
  have t1 := hfld 1 k1 rfl
  have t2 := hfld 2 k2 rfl
  have hx : ∀ i, i < 3 → ∃ y, xs[i]? = some y := fun i hi => ⟨xs[i]'(by rw [hlen]; exact hi), List.getElem?_eq_getElem (by rw [hlen]; exact hi)⟩
  obtain ⟨y0, e0⟩ := hx 0 (by omega)
  obtain ⟨y1, e1⟩ := hx 1 (by omega)
  obtain ⟨y2, e2⟩ := hx 2 (by omega)
  rw [e0, p0.1, p0.2, hi1] at t0
  rw [e1, p1.1, p1.2, hi1] at t1
  rw [e2, p2.1, p2.2, hct] at t2
  obtain ⟨z0, u0, _, _⟩ := DataW.trod_int hi t0
  obtain ⟨z1, u1, _, _⟩ := DataW.trod_int hi t1
  have T2 : DataW.Trod enc P w base spare held t (.agg ((cs.toList.drop 2).take 6).toArray) y2.1 y2.2 := ⟨n, t2⟩
  obtain ⟨V, ⟨aW, kW, aO, kO, aX, kX, aI, kI, ev, rW, rO, rX, rI⟩, hV, _⟩ := open_cellA ht hct q0 q1 q2 q3 q4 q5' hW hW5 hc5 hsz5 hoff5 hX hcW hcO hcX hO he h1 hs hw5 hi hi1 hC hC5 hsz hoff o0 o1 o2 o3 T2
  refine ⟨z0, z1, V, ⟨aW, kW, aO, kO, aX, kX, aI, kI, ?_, rW, rO, rX, rI⟩, hV⟩
  congr 1
  apply Array.ext'
  have ev2 : (cs.toList.drop 2).take 6 = [.int .i64 V.c, .slice aW V.nW kW, .int .i64 V.g, .slice aO V.nO kO, .slice aX V.nX kX, .slice aI V.nI kI] := by
    have := congrArg (fun v => match v with | .agg a => a.toList | _ => []) ev
    simpa using this
  have u0' : cs.toList.take 1 = [.int .i64 z0] := by simpa using u0
  have u1' : (cs.toList.drop 1).take 1 = [.int .i64 z1] := by simpa using u1
  have q1 : cs.toList = cs.toList.take 1 ++ ((cs.toList.drop 1).take 1 ++ ((cs.toList.drop 2).take 6)) := by
    have a1 : (cs.toList.drop 2).take 6 = cs.toList.drop 2 := List.take_of_length_le (by simp at hl ⊢; omega)
    rw [a1, show cs.toList.drop 2 = (cs.toList.drop 1).drop 1 by rw [List.drop_drop], List.take_append_drop, List.take_append_drop]
  rw [q1, u0', u1', ev2]
  rfl
end

set_option maxHeartbeats 1000000 in
theorem szHold (v : Value) (ag ct : Int) (V : CV) (hs : V.short maxLen) (w : World) (h : HoldAt w v ag ct V) :
    Calls Try.prog 36 #[v, .int .i64 1048576] w fun e w' => (∃ r : Int, e = .returned (.int .i64 r) ∧ (r < 0 ∨ (0 ≤ r ∧ V.short 1048576))) ∧ Below w.heap.size w w' := by
  obtain ⟨aW, kW, aO, kO, aX, kX, aI, kI, rfl, rW, rO, rX, rI⟩ := h
  have HC : Hid (CellAt w (.agg #[.int .i64 V.c, .slice aW V.nW kW, .int .i64 V.g, .slice aO V.nO kO, .slice aX V.nX kX, .slice aI V.nI kI]) V) := cell_of_rows ⟨rW, rO, rX, rI⟩
  have HS : Hid (V.short maxLen) := hs
  clear rW rO rX rI hs
  go_enter Try.func36, Try.ntmps36
  go_wp2_with fail
  refine (szCell _ V HS.out _ (cellAt_below HC.out ((Below.refl _ _).alloc (by simp) _))).mono ?_
  rintro e w1 ⟨⟨r, rfl, hr⟩, hb1⟩
  have B1 : Below w.heap.size w w1 := bthen ((Below.refl _ _).alloc (by simp) _) hb1
  rcases hr with hr | ⟨hr, hV⟩
  · go_wp2
    go_ret
    exact ⟨⟨-1, rfl, .inl (by omega)⟩, B1⟩
  · have hr2 : ¬ r < 0 := by omega
    go_wp2
    go_ret
    exact ⟨⟨r, rfl, .inr ⟨hr, hV⟩⟩, B1⟩

set_option maxHeartbeats 8000000 in
theorem toHold (v : Value) (ag ct : Int) (V : CV) (hs : V.short 1048576) (w : World) (h : HoldAt w v ag ct V) :
    Calls Try.prog 41 #[v] w fun e w' => (∃ v', e = .returned v' ∧ ∃ lo, HCopy lo w' v' ag ct V) ∧ Below w.heap.size w w' := by
  obtain ⟨aW, kW, aO, kO, aX, kX, aI, kI, rfl, rW, rO, rX, rI⟩ := h
  have HC : Hid (CellAt w (.agg #[.int .i64 V.c, .slice aW V.nW kW, .int .i64 V.g, .slice aO V.nO kO, .slice aX V.nX kX, .slice aI V.nI kI]) V) := cell_of_rows ⟨rW, rO, rX, rI⟩
  have HS : Hid (V.short 1048576) := hs
  clear rW rO rX rI hs
  go_enter Try.func41, Try.ntmps41
  go_wp2_with fail
  obtain ⟨w0, e0⟩ : ∃ w0, w0 = ((w.alloc (.cells #[.int .i64 ag, .int .i64 ct, .int .i64 V.c, .slice aW V.nW kW, .int .i64 V.g, .slice aO V.nO kO, .slice aX V.nX kX, .slice aI V.nI kI] 72)).alloc (.cells #[.int .i64 0, .int .i64 0, .int .i64 0, .slice none 0 0, .int .i64 0, .slice none 0 0, .slice none 0 0, .slice none 0 0] 45)).alloc (.cells #[.int .i64 ag, .int .i64 ct, .int .i64 0, .slice none 0 0, .int .i64 0, .slice none 0 0, .slice none 0 0, .slice none 0 0] 45) := ⟨_, rfl⟩
  have B1 : Hid (Below w.heap.size w w0) := by rw [e0]; exact (((Below.refl _ _).alloc (by simp) _).alloc (by simp) _).alloc (by simp; omega) _
  have R2 : Hid (Bk w0 (w.heap.size + 1) [.int .i64 0, .int .i64 0, .int .i64 0, .slice none 0 0, .int .i64 0, .slice none 0 0, .slice none 0 0, .slice none 0 0]) := by rw [e0]; have := (bk_new (w.alloc (.cells #[.int .i64 ag, .int .i64 ct, .int .i64 V.c, .slice aW V.nW kW, .int .i64 V.g, .slice aO V.nO kO, .slice aX V.nX kX, .slice aI V.nI kI] 72)) 45 [.int .i64 0, .int .i64 0, .int .i64 0, .slice none 0 0, .int .i64 0, .slice none 0 0, .slice none 0 0, .slice none 0 0]).below ((Below.refl _ _).alloc (Nat.le_refl _) (.cells #[.int .i64 ag, .int .i64 ct, .int .i64 0, .slice none 0 0, .int .i64 0, .slice none 0 0, .slice none 0 0, .slice none 0 0] 45)); rwa [show (w.alloc (.cells #[.int .i64 ag, .int .i64 ct, .int .i64 V.c, .slice aW V.nW kW, .int .i64 V.g, .slice aO V.nO kO, .slice aX V.nX kX, .slice aI V.nI kI] 72)).heap.size = w.heap.size + 1 by simp] at this
  have O3 : Hid (Bk w0 (w.heap.size + 1 + 1) [.int .i64 ag, .int .i64 ct, .int .i64 0, .slice none 0 0, .int .i64 0, .slice none 0 0, .slice none 0 0, .slice none 0 0]) := by rw [e0]; have := bk_new ((w.alloc (.cells #[.int .i64 ag, .int .i64 ct, .int .i64 V.c, .slice aW V.nW kW, .int .i64 V.g, .slice aO V.nO kO, .slice aX V.nX kX, .slice aI V.nI kI] 72)).alloc (.cells #[.int .i64 0, .int .i64 0, .int .i64 0, .slice none 0 0, .int .i64 0, .slice none 0 0, .slice none 0 0, .slice none 0 0] 45)) 45 [.int .i64 ag, .int .i64 ct, .int .i64 0, .slice none 0 0, .int .i64 0, .slice none 0 0, .slice none 0 0, .slice none 0 0]; rwa [show ((w.alloc (.cells #[.int .i64 ag, .int .i64 ct, .int .i64 V.c, .slice aW V.nW kW, .int .i64 V.g, .slice aO V.nO kO, .slice aX V.nX kX, .slice aI V.nI kI] 72)).alloc (.cells #[.int .i64 0, .int .i64 0, .int .i64 0, .slice none 0 0, .int .i64 0, .slice none 0 0, .slice none 0 0, .slice none 0 0] 45)).heap.size = w.heap.size + 1 + 1 by simp] at this
  rw [← e0]
  clear e0
  have z0 : w.heap.size + 1 + 1 < w0.heap.size := O3.out.1
  refine (toCell _ V HS.out _ (cellAt_below HC.out B1.out)).mono ?_
  rintro e w1 ⟨⟨v1, rfl, hC1⟩, hb1⟩
  have B4 : Hid (Below w.heap.size w w1) := bthen B1.out hb1
  have R4 : Hid (Bk w1 (w.heap.size + 1) [.int .i64 0, .int .i64 0, .int .i64 0, .slice none 0 0, .int .i64 0, .slice none 0 0, .slice none 0 0, .slice none 0 0]) := R2.out.below hb1
  have O4 : Hid (Bk w1 (w.heap.size + 1 + 1) [.int .i64 ag, .int .i64 ct, .int .i64 0, .slice none 0 0, .int .i64 0, .slice none 0 0, .slice none 0 0, .slice none 0 0]) := O3.out.below hb1
  clear B1 R2 O3
  clear hb1
  obtain ⟨bW, bO, bX, bI, q0, q1, q2, q3, q4, rfl, g1, g2, g3, g4⟩ := hC1
  have C1 : Hid (CopyAt w0.heap.size w1 (.agg #[.int .i64 V.c, .slice (some ⟨bW, 0, none⟩) V.nW V.nW, .int .i64 V.g, .slice (some ⟨bO, 0, none⟩) V.nO V.nO, .slice (some ⟨bX, 0, none⟩) V.nX V.nX, .slice (some ⟨bI, 0, none⟩) V.nI V.nI]) V) := ⟨bW, bO, bX, bI, q0, q1, q2, q3, q4, rfl, g1, g2, g3, g4⟩
  clear g1 g2 g3 g4
  have yR0 : w1.cell? ⟨(w.heap.size + 1), 0, none⟩ = some (.int .i64 0) := (R4.out.2 0 (by simp)).1
  have zR0 : w1.frozen? ⟨(w.heap.size + 1), 0, none⟩ = false := (R4.out.2 0 (by simp)).2
  have yR1 : w1.cell? ⟨(w.heap.size + 1), 1, none⟩ = some (.int .i64 0) := (R4.out.2 1 (by simp)).1
  have zR1 : w1.frozen? ⟨(w.heap.size + 1), 1, none⟩ = false := (R4.out.2 1 (by simp)).2
  have yR2 : w1.cell? ⟨(w.heap.size + 1), 2, none⟩ = some (.int .i64 0) := (R4.out.2 2 (by simp)).1
  have zR2 : w1.frozen? ⟨(w.heap.size + 1), 2, none⟩ = false := (R4.out.2 2 (by simp)).2
  have yR3 : w1.cell? ⟨(w.heap.size + 1), 3, none⟩ = some (.slice none 0 0) := (R4.out.2 3 (by simp)).1
  have zR3 : w1.frozen? ⟨(w.heap.size + 1), 3, none⟩ = false := (R4.out.2 3 (by simp)).2
  have yR4 : w1.cell? ⟨(w.heap.size + 1), 4, none⟩ = some (.int .i64 0) := (R4.out.2 4 (by simp)).1
  have zR4 : w1.frozen? ⟨(w.heap.size + 1), 4, none⟩ = false := (R4.out.2 4 (by simp)).2
  have yR5 : w1.cell? ⟨(w.heap.size + 1), 5, none⟩ = some (.slice none 0 0) := (R4.out.2 5 (by simp)).1
  have zR5 : w1.frozen? ⟨(w.heap.size + 1), 5, none⟩ = false := (R4.out.2 5 (by simp)).2
  have yR6 : w1.cell? ⟨(w.heap.size + 1), 6, none⟩ = some (.slice none 0 0) := (R4.out.2 6 (by simp)).1
  have zR6 : w1.frozen? ⟨(w.heap.size + 1), 6, none⟩ = false := (R4.out.2 6 (by simp)).2
  have yR7 : w1.cell? ⟨(w.heap.size + 1), 7, none⟩ = some (.slice none 0 0) := (R4.out.2 7 (by simp)).1
  have zR7 : w1.frozen? ⟨(w.heap.size + 1), 7, none⟩ = false := (R4.out.2 7 (by simp)).2
  have hlR : (w.heap.size + 1) < w1.heap.size := R4.out.1
  have yO0 : w1.cell? ⟨(w.heap.size + 1 + 1), 0, none⟩ = some (.int .i64 ag) := (O4.out.2 0 (by simp)).1
  have zO0 : w1.frozen? ⟨(w.heap.size + 1 + 1), 0, none⟩ = false := (O4.out.2 0 (by simp)).2
  have yO1 : w1.cell? ⟨(w.heap.size + 1 + 1), 1, none⟩ = some (.int .i64 ct) := (O4.out.2 1 (by simp)).1
  have zO1 : w1.frozen? ⟨(w.heap.size + 1 + 1), 1, none⟩ = false := (O4.out.2 1 (by simp)).2
  have yO2 : w1.cell? ⟨(w.heap.size + 1 + 1), 2, none⟩ = some (.int .i64 0) := (O4.out.2 2 (by simp)).1
  have zO2 : w1.frozen? ⟨(w.heap.size + 1 + 1), 2, none⟩ = false := (O4.out.2 2 (by simp)).2
  have yO3 : w1.cell? ⟨(w.heap.size + 1 + 1), 3, none⟩ = some (.slice none 0 0) := (O4.out.2 3 (by simp)).1
  have zO3 : w1.frozen? ⟨(w.heap.size + 1 + 1), 3, none⟩ = false := (O4.out.2 3 (by simp)).2
  have yO4 : w1.cell? ⟨(w.heap.size + 1 + 1), 4, none⟩ = some (.int .i64 0) := (O4.out.2 4 (by simp)).1
  have zO4 : w1.frozen? ⟨(w.heap.size + 1 + 1), 4, none⟩ = false := (O4.out.2 4 (by simp)).2
  have yO5 : w1.cell? ⟨(w.heap.size + 1 + 1), 5, none⟩ = some (.slice none 0 0) := (O4.out.2 5 (by simp)).1
  have zO5 : w1.frozen? ⟨(w.heap.size + 1 + 1), 5, none⟩ = false := (O4.out.2 5 (by simp)).2
  have yO6 : w1.cell? ⟨(w.heap.size + 1 + 1), 6, none⟩ = some (.slice none 0 0) := (O4.out.2 6 (by simp)).1
  have zO6 : w1.frozen? ⟨(w.heap.size + 1 + 1), 6, none⟩ = false := (O4.out.2 6 (by simp)).2
  have yO7 : w1.cell? ⟨(w.heap.size + 1 + 1), 7, none⟩ = some (.slice none 0 0) := (O4.out.2 7 (by simp)).1
  have zO7 : w1.frozen? ⟨(w.heap.size + 1 + 1), 7, none⟩ = false := (O4.out.2 7 (by simp)).2
  have hlO : (w.heap.size + 1 + 1) < w1.heap.size := O4.out.1
  go_wp2
  refine bodyPost_ret (v := .agg #[.int .i64 ag, .int .i64 ct, .int .i64 V.c, .slice (some ⟨bW, 0, none⟩) V.nW V.nW, .int .i64 V.g, .slice (some ⟨bO, 0, none⟩) V.nO V.nO, .slice (some ⟨bX, 0, none⟩) V.nX V.nX, .slice (some ⟨bI, 0, none⟩) V.nI V.nI]) (by simp [results, Try.results41, go_sem, *]) rfl ?_
  exact ⟨⟨_, rfl, w0.heap.size, bW, bO, bX, bI, rfl, ((((((((((((((C1.out.set (by omega)).set (by omega)).set (by omega)).set (by omega)).set (by omega)).set (by omega)).set (by omega)).set (by omega)).set (by omega)).set (by omega)).set (by omega)).set (by omega)).set (by omega)).set (by omega))⟩, ((((((((((((((B4.out.setCell (by first | (simp; done) | (simp; omega) | omega) _).setCell (by first | (simp; done) | (simp; omega) | omega) _).setCell (by first | (simp; done) | (simp; omega) | omega) _).setCell (by first | (simp; done) | (simp; omega) | omega) _).setCell (by first | (simp; done) | (simp; omega) | omega) _).setCell (by first | (simp; done) | (simp; omega) | omega) _).setCell (by first | (simp; done) | (simp; omega) | omega) _).setCell (by first | (simp; done) | (simp; omega) | omega) _).setCell (by first | (simp; done) | (simp; omega) | omega) _).setCell (by first | (simp; done) | (simp; omega) | omega) _).setCell (by first | (simp; done) | (simp; omega) | omega) _).setCell (by first | (simp; done) | (simp; omega) | omega) _).setCell (by first | (simp; done) | (simp; omega) | omega) _).setCell (by first | (simp; done) | (simp; omega) | omega) _)⟩

set_option maxHeartbeats 2000000 in
theorem eqHold (v1 v2 : Value) (ag ct : Int) (V : CV) (hs : V.short 2000000) (w : World) (h1 : HoldAt w v1 ag ct V) (h2 : HoldAt w v2 ag ct V) :
    Calls Try.prog 13 #[v1, v2] w fun e w' => e = .returned (.bool true) ∧ Below w.heap.size w w' := by
  obtain ⟨a1W, k1W, a1O, k1O, a1X, k1X, a1I, k1I, rfl, rW, rO, rX, rI⟩ := h1
  obtain ⟨a2W, k2W, a2O, k2O, a2X, k2X, a2I, k2I, rfl, sW, sO, sX, sI⟩ := h2
  have HC : Hid (CellAt w (.agg #[.int .i64 V.c, .slice a1W V.nW k1W, .int .i64 V.g, .slice a1O V.nO k1O, .slice a1X V.nX k1X, .slice a1I V.nI k1I]) V) := cell_of_rows ⟨rW, rO, rX, rI⟩
  have HD : Hid (CellAt w (.agg #[.int .i64 V.c, .slice a2W V.nW k2W, .int .i64 V.g, .slice a2O V.nO k2O, .slice a2X V.nX k2X, .slice a2I V.nI k2I]) V) := cell_of_rows ⟨sW, sO, sX, sI⟩
  have HS : Hid (V.short 2000000) := hs
  clear rW rO rX rI sW sO sX sI hs
  go_enter Try.func13, Try.ntmps13
  go_wp2_with fail
  have B0 : Hid (Below w.heap.size w ((w.alloc (.cells #[.int .i64 ag, .int .i64 ct, .int .i64 V.c, .slice a1W V.nW k1W, .int .i64 V.g, .slice a1O V.nO k1O, .slice a1X V.nX k1X, .slice a1I V.nI k1I] 45)).alloc (.cells #[.int .i64 ag, .int .i64 ct, .int .i64 V.c, .slice a2W V.nW k2W, .int .i64 V.g, .slice a2O V.nO k2O, .slice a2X V.nX k2X, .slice a2I V.nI k2I] 45))) := ((Below.refl _ _).alloc (by simp) _).alloc (by simp) _
  refine (eqCell _ _ V HS.out _ (cellAt_below HC.out B0.out) (cellAt_below HD.out B0.out)).mono ?_
  rintro e w1 ⟨rfl, hb1⟩
  have B1 : Below w.heap.size w w1 := bthen B0.out hb1
  clear hb1 B0
  go_wp2
  go_ret
  exact ⟨rfl, B1⟩
end Go.Proofs.Ytlbjgecjonegkaa
