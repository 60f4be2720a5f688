/- A cell that came in by value: where its walkers, parcels and numbers lie; no Go text in sight; conditions: none beyond those typed. -/
import Derived.Test.YtjmjffhommlbnaaGreatKit
import Derived.Deep.Slices
namespace Go.Proofs.YtjmjffhommlbnaaGreat
open Go.RowKit Go.ChangeShapes Go.WideShapes Go.ChangeAt Go.Deep

theorem cells_ints {H : Type} {enc : TypeId × Value → H} {P : Program} {w : World} {base : Nat} {spare : Nat → Bool} {held : Bool} {fuel : Nat} {t ti : TypeId} {fs : Array Field} {k : IntKind} {cs : List Value} {x : DataW H × List MemPlace}
    (hs : P.underlying t = some (.struct fs)) (hi : P.underlying ti = some (.int k)) (h1 : P.cellsOf ti = 1) (hC : P.cellsOf t = fs.size)
    (hoff : ∀ (i : Nat) (f : Field), fs[i]? = some f → f.offset = i ∧ f.type = ti)
    (hf : DataW.trod enc P w base spare held fuel t cs = some x) : ∀ i, i < fs.size → ∃ z, cs[i]? = some (.int k z) ∧ (Lit.int k z).wf = true := by
  obtain ⟨xs, n, _, _, hl, hlen, hfld⟩ := DataW.trod_struct hs hf
  intro i hlt
  have hg : fs[i]? = some fs[i] := by simp [hlt]
  obtain ⟨ho, hty⟩ := hoff i _ hg
  have := hfld i _ hg
  rw [ho, hty, h1] at this
  have hx : ∃ x, xs[i]? = some x := ⟨xs[i], by simp [hlen, hlt]⟩
  obtain ⟨x, hx⟩ := hx
  rw [hx] at this
  obtain ⟨z, hz, _, hw⟩ := DataW.trod_int hi this
  refine ⟨z, ?_, hw⟩
  have hlt' : i < cs.length := by rw [hl, hC]; exact hlt
  have : (cs.drop i).take 1 = [cs[i]] := by
    rw [List.drop_eq_getElem_cons hlt', List.take_succ_cons, List.take_zero]
  rw [this] at hz
  rw [List.getElem?_eq_getElem hlt']
  simpa using hz

/-- In w there lie n structs of five integers, from a on: the k-th one's fields are Z k 0 .. Z k 4. -/
def Row5 (w : World) (a : Option Addr) (n : Nat) (Z : Nat → Nat → Int) : Prop :=
  n = 0 ∨ ∃ b o, a = some ⟨b, o, none⟩ ∧ b < w.heap.size ∧ ∀ k j, k < n → j < 5 → w.cell? ⟨b, o + k * 5 + j, none⟩ = some (.int .i64 (Z k j))

theorem open_row5 {H : Type} {enc : TypeId × Value → H} {P : Program} {w : World} {base : Nat} {spare : Nat → Bool} {held : Bool} {t e ti : TypeId} {fs : Array Field} {a : Option Addr} {len cap : Nat} {d : DataW H} {p : List MemPlace}
    (ht : P.underlying t = some (.slice e)) (hs : P.underlying e = some (.struct fs)) (hi : P.underlying ti = some (.int .i64)) (h1 : P.cellsOf ti = 1) (hC : P.cellsOf e = 5) (hsz : fs.size = 5)
    (hoff : ∀ (i : Nat) (f : Field), fs[i]? = some f → f.offset = i ∧ f.type = ti)
    (h : DataW.Trod enc P w base spare held t (.slice a len cap) d p) : len ≤ maxLen ∧ ∃ Z, Row5 w a len Z ∧ ∀ k j, k < len → j < 5 → (Lit.int .i64 (Z k j)).wf = true := by
  obtain ⟨fuel, hf⟩ := h
  rcases open_slice ht hf with ⟨hcs, _⟩ | ⟨x, l, c, m, n, D, Pl, hcs, _, hl, hm, hmm, _, hel⟩
  · simp [Value.cells] at hcs
    obtain ⟨rfl, rfl, rfl⟩ := hcs
    exact ⟨Nat.zero_le _, fun _ _ => 0, .inl rfl, fun _ _ h => absurd h (by omega)⟩
  · simp [Value.cells] at hcs
    obtain ⟨rfl, rfl, rfl⟩ := hcs
    refine ⟨Nat.le_trans hl hm, ?_⟩
    by_cases h0 : len = 0
    · exact ⟨fun _ _ => 0, .inl h0, fun _ _ h => absurd h (by omega)⟩
    have hlm : len ≤ m := by rw [hmm]; split <;> omega
    have hall : ∀ k j, k < len → j < 5 → ∃ z, w.cell? ((x.add (k * 5)).add j) = some (.int .i64 z) ∧ (Lit.int .i64 z).wf = true := by
      intro k j hk hj
      obtain ⟨cs', hcs', htr⟩ := hel k (by omega)
      rw [hC] at hcs'
      obtain ⟨_, hlen, hc⟩ := World.cells?_some hcs'
      obtain ⟨z, hz, hzw⟩ := cells_ints hs hi h1 (by rw [hC, hsz]) hoff htr j (by omega)
      refine ⟨z, ?_, hzw⟩
      rw [← hz]
      exact hc j hj
    obtain ⟨b, o, spot⟩ := x
    have hspot : spot = none := by
      obtain ⟨z, hz, _⟩ := hall 0 0 (by omega) (by omega)
      simpa [Addr.add] using World.cell?_spot hz
    subst hspot
    have hadd : ∀ k j, ((⟨b, o, none⟩ : Addr).add (k * 5)).add j = ⟨b, o + k * 5 + j, none⟩ := by
      intro k j
      unfold Addr.add
      split <;> split <;> simp_all
    have hblk : b < w.heap.size := by
      obtain ⟨z, hz, _⟩ := hall 0 0 (by omega) (by omega)
      exact World.block_lt_of_cell? w _ hz
    refine ⟨fun k j => match w.cell? ⟨b, o + k * 5 + j, none⟩ with | some (.int _ z) => z | _ => 0, .inr ⟨b, o, rfl, hblk, ?_⟩, ?_⟩
    · intro k j hk hj
      obtain ⟨z, hz, _⟩ := hall k j hk hj
      rw [hadd] at hz
      simp only [hz]
    · intro k j hk hj
      obtain ⟨z, hz, hzw⟩ := hall k j hk hj
      rw [hadd] at hz
      simp only [hz]
      exact hzw
end Go.Proofs.YtjmjffhommlbnaaGreat
namespace Go.Proofs.YtjmjffhommlbnaaGreat.P8
open Go.RowKit Go.ChangeShapes Go.WideShapes Go.ChangeAt Go.Deep

theorem cells_ints {H : Type} {enc : TypeId × Value → H} {P : Program} {w : World} {base : Nat} {spare : Nat → Bool} {held : Bool} {fuel : Nat} {t ti : TypeId} {fs : Array Field} {k : IntKind} {cs : List Value} {x : DataW H × List MemPlace}
    (hs : P.underlying t = some (.struct fs)) (hi : P.underlying ti = some (.int k)) (h1 : P.cellsOf ti = 1) (hC : P.cellsOf t = fs.size)
    (hoff : ∀ (i : Nat) (f : Field), fs[i]? = some f → f.offset = i ∧ f.type = ti)
    (hf : DataW.trod enc P w base spare held fuel t cs = some x) : ∀ i, i < fs.size → ∃ z, cs[i]? = some (.int k z) ∧ (Lit.int k z).wf = true := by
  obtain ⟨xs, n, _, _, hl, hlen, hfld⟩ := DataW.trod_struct hs hf
  intro i hlt
  have hg : fs[i]? = some fs[i] := by simp [hlt]
  obtain ⟨ho, hty⟩ := hoff i _ hg
  have := hfld i _ hg
  rw [ho, hty, h1] at this
  have hx : ∃ x, xs[i]? = some x := ⟨xs[i], by simp [hlen, hlt]⟩
  obtain ⟨x, hx⟩ := hx
  rw [hx] at this
  obtain ⟨z, hz, _, hw⟩ := DataW.trod_int hi this
  refine ⟨z, ?_, hw⟩
  have hlt' : i < cs.length := by rw [hl, hC]; exact hlt
  have : (cs.drop i).take 1 = [cs[i]] := by
    rw [List.drop_eq_getElem_cons hlt', List.take_succ_cons, List.take_zero]
  rw [this] at hz
  rw [List.getElem?_eq_getElem hlt']
  simpa using hz

/-- A struct of two integers, a struct of five integers and one integer more: its eight cells are integers. -/
theorem cells_parcel {H : Type} {enc : TypeId × Value → H} {P : Program} {w : World} {base : Nat} {spare : Nat → Bool} {held : Bool} {fuel : Nat} {t ti tw : TypeId} {fs : Array Field} {f0 f1 f2 f3 : Field} {k : IntKind} {cs : List Value} {x : DataW H × List MemPlace}
    (hs : P.underlying t = some (.struct #[f0, f1, f2, f3])) (hw5 : P.underlying tw = some (.struct fs)) (hi : P.underlying ti = some (.int k)) (h1 : P.cellsOf ti = 1) (hC : P.cellsOf t = 8) (hC5 : P.cellsOf tw = 5) (hsz : fs.size = 5)
    (hoff : ∀ (i : Nat) (f : Field), fs[i]? = some f → f.offset = i ∧ f.type = ti)
    (o0 : f0.offset = 0 ∧ f0.type = ti) (o1 : f1.offset = 1 ∧ f1.type = ti) (o2 : f2.offset = 2 ∧ f2.type = tw) (o3 : f3.offset = 7 ∧ f3.type = ti)
    (hf : DataW.trod enc P w base spare held fuel t cs = some x) : ∀ i, i < 8 → ∃ z, cs[i]? = some (.int k z) ∧ (Lit.int k z).wf = true := by
  obtain ⟨xs, n, _, _, hl, hlen, hfld⟩ := DataW.trod_struct hs hf
  rw [hC] at hl
  have hxs : ∀ i, i < 4 → ∃ x, xs[i]? = some x := fun i hi => ⟨xs[i]'(by rw [hlen]; simpa using hi), List.getElem?_eq_getElem _⟩
  have one : ∀ (i q : Nat) (f : Field), i < 4 → q < 8 → (#[f0, f1, f2, f3] : Array Field)[i]? = some f → f.offset = q ∧ f.type = ti → ∃ z, cs[q]? = some (.int k z) ∧ (Lit.int k z).wf = true := by
    intro i q f hi4 hq hg ho
    have := hfld i f hg
    rw [ho.1, ho.2, h1] at this
    obtain ⟨x, hx⟩ := hxs i hi4
    rw [hx] at this
    obtain ⟨z, hz, _, hw⟩ := DataW.trod_int hi this
    refine ⟨z, ?_, hw⟩
    have hlt' : q < cs.length := by omega
    have : (cs.drop q).take 1 = [cs[q]] := by
      rw [List.drop_eq_getElem_cons hlt', List.take_succ_cons, List.take_zero]
    rw [this] at hz
    rw [List.getElem?_eq_getElem hlt']
    simpa using hz
  have five : ∀ j, j < 5 → ∃ z, cs[2 + j]? = some (.int k z) ∧ (Lit.int k z).wf = true := by
    intro j hj
    have := hfld 2 f2 rfl
    rw [o2.1, o2.2, hC5] at this
    obtain ⟨x, hx⟩ := hxs 2 (by omega)
    rw [hx] at this
    obtain ⟨z, hz, hw⟩ := cells_ints hw5 hi h1 (by rw [hC5, hsz]) hoff this j (by omega)
    refine ⟨z, ?_, hw⟩
    rw [← hz, List.getElem?_take_of_lt hj, List.getElem?_drop]
  intro i hi8
  match i, hi8 with
  | 0, _ => exact one 0 0 f0 (by omega) (by omega) rfl o0
  | 1, _ => exact one 1 1 f1 (by omega) (by omega) rfl o1
  | 2, _ => exact five 0 (by omega)
  | 3, _ => exact five 1 (by omega)
  | 4, _ => exact five 2 (by omega)
  | 5, _ => exact five 3 (by omega)
  | 6, _ => exact five 4 (by omega)
  | 7, _ => exact one 3 7 f3 (by omega) (by omega) rfl o3

/-- Such a struct by value: its eight numbers. -/
theorem open_int8 {H : Type} {enc : TypeId × Value → H} {P : Program} {w : World} {base b0 : Nat} {spare : Nat → Bool} {held : Bool} {r : Reach} {t ti tw : TypeId} {fs : Array Field} {f0 f1 f2 f3 : Field} {k : IntKind} {v : Value} {d : DataW H} {p : List MemPlace}
    (hs : P.underlying t = some (.struct #[f0, f1, f2, f3])) (hw5 : P.underlying tw = some (.struct fs)) (hi : P.underlying ti = some (.int k)) (h1 : P.cellsOf ti = 1) (hC : P.cellsOf t = 8) (hC5 : P.cellsOf tw = 5) (hsz : fs.size = 5)
    (hoff : ∀ (i : Nat) (f : Field), fs[i]? = some f → f.offset = i ∧ f.type = ti)
    (o0 : f0.offset = 0 ∧ f0.type = ti) (o1 : f1.offset = 1 ∧ f1.type = ti) (o2 : f2.offset = 2 ∧ f2.type = tw) (o3 : f3.offset = 7 ∧ f3.type = ti)
    (hv : Value.okWide P w r b0 t v) (h : DataW.Trod enc P w base spare held t v d p) :
    ∃ x0 x1 x2 x3 x4 x5 x6 x7 : Int, v = .agg #[.int k x0, .int k x1, .int k x2, .int k x3, .int k x4, .int k x5, .int k x6, .int k x7] ∧
      (Lit.int k x0).wf = true ∧ (Lit.int k x1).wf = true ∧ (Lit.int k x2).wf = true ∧ (Lit.int k x3).wf = true ∧ (Lit.int k x4).wf = true ∧ (Lit.int k x5).wf = true ∧ (Lit.int k x6).wf = true ∧ (Lit.int k x7).wf = true := by
  obtain ⟨cs, rfl, hsz8⟩ := okWide_struct hs hv
  obtain ⟨fuel, hf⟩ := h
  have hall := cells_parcel hs hw5 hi h1 hC hC5 hsz hoff o0 o1 o2 o3 hf
  simp only [Value.cells] at hall
  obtain ⟨x0, e0, w0⟩ := hall 0 (by omega)
  obtain ⟨x1, e1, w1⟩ := hall 1 (by omega)
  obtain ⟨x2, e2, w2⟩ := hall 2 (by omega)
  obtain ⟨x3, e3, w3⟩ := hall 3 (by omega)
  obtain ⟨x4, e4, w4⟩ := hall 4 (by omega)
  obtain ⟨x5, e5, w5⟩ := hall 5 (by omega)
  obtain ⟨x6, e6, w6⟩ := hall 6 (by omega)
  obtain ⟨x7, e7, w7⟩ := hall 7 (by omega)
  refine ⟨x0, x1, x2, x3, x4, x5, x6, x7, ?_, w0, w1, w2, w3, w4, w5, w6, w7⟩
  congr 1
  apply Array.ext'
  apply List.ext_getElem?
  intro i
  have hlen : cs.toList.length = 8 := by simp [hsz8, hC]
  match i with
  | 0 => simpa using e0
  | 1 => simpa using e1
  | 2 => simpa using e2
  | 3 => simpa using e3
  | 4 => simpa using e4
  | 5 => simpa using e5
  | 6 => simpa using e6
  | 7 => simpa using e7
  | i + 8 => rw [List.getElem?_eq_none (by omega), List.getElem?_eq_none (by simp)]

/-- In w there lie n parcels, from a on: the k-th one's numbers are Z k 0 .. Z k 7. -/
def Row8 (w : World) (a : Option Addr) (n : Nat) (Z : Nat → Nat → Int) : Prop :=
  n = 0 ∨ ∃ b o, a = some ⟨b, o, none⟩ ∧ b < w.heap.size ∧ ∀ k j, k < n → j < 8 → w.cell? ⟨b, o + k * 8 + j, none⟩ = some (.int .i64 (Z k j))

theorem open_row8 {H : Type} {enc : TypeId × Value → H} {P : Program} {w : World} {base : Nat} {spare : Nat → Bool} {held : Bool} {t e ti tw : TypeId} {fs : Array Field} {f0 f1 f2 f3 : Field} {a : Option Addr} {len cap : Nat} {d : DataW H} {p : List MemPlace}
    (ht : P.underlying t = some (.slice e)) (hs : P.underlying e = some (.struct #[f0, f1, f2, f3])) (hw5 : P.underlying tw = some (.struct fs)) (hi : P.underlying ti = some (.int .i64)) (h1 : P.cellsOf ti = 1) (hC : P.cellsOf e = 8) (hC5 : P.cellsOf tw = 5) (hsz : fs.size = 5)
    (hoff : ∀ (i : Nat) (f : Field), fs[i]? = some f → f.offset = i ∧ f.type = ti)
    (o0 : f0.offset = 0 ∧ f0.type = ti) (o1 : f1.offset = 1 ∧ f1.type = ti) (o2 : f2.offset = 2 ∧ f2.type = tw) (o3 : f3.offset = 7 ∧ f3.type = ti)
    (h : DataW.Trod enc P w base spare held t (.slice a len cap) d p) : len ≤ maxLen ∧ ∃ Z, Row8 w a len Z ∧ ∀ k j, k < len → j < 8 → (Lit.int .i64 (Z k j)).wf = true := by
  obtain ⟨fuel, hf⟩ := h
  rcases open_slice ht hf with ⟨hcs, _⟩ | ⟨x, l, c, m, n, D, Pl, hcs, _, hl, hm, hmm, _, hel⟩
  · simp [Value.cells] at hcs
    obtain ⟨rfl, rfl, rfl⟩ := hcs
    exact ⟨Nat.zero_le _, fun _ _ => 0, .inl rfl, fun _ _ h => absurd h (by omega)⟩
  · simp [Value.cells] at hcs
    obtain ⟨rfl, rfl, rfl⟩ := hcs
    refine ⟨Nat.le_trans hl hm, ?_⟩
    by_cases h0 : len = 0
    · exact ⟨fun _ _ => 0, .inl h0, fun _ _ h => absurd h (by omega)⟩
    have hlm : len ≤ m := by rw [hmm]; split <;> omega
    have hall : ∀ k j, k < len → j < 8 → ∃ z, w.cell? ((x.add (k * 8)).add j) = some (.int .i64 z) ∧ (Lit.int .i64 z).wf = true := by
      intro k j hk hj
      obtain ⟨cs', hcs', htr⟩ := hel k (by omega)
      rw [hC] at hcs'
      obtain ⟨_, hlen, hc⟩ := World.cells?_some hcs'
      obtain ⟨z, hz, hzw⟩ := cells_parcel hs hw5 hi h1 hC hC5 hsz hoff o0 o1 o2 o3 htr j (by omega)
      refine ⟨z, ?_, hzw⟩
      rw [← hz]
      exact hc j hj
    obtain ⟨b, o, spot⟩ := x
    have hspot : spot = none := by
      obtain ⟨z, hz, _⟩ := hall 0 0 (by omega) (by omega)
      simpa [Addr.add] using World.cell?_spot hz
    subst hspot
    have hadd : ∀ k j, ((⟨b, o, none⟩ : Addr).add (k * 8)).add j = ⟨b, o + k * 8 + j, none⟩ := by
      intro k j
      unfold Addr.add
      split <;> split <;> simp_all
    have hblk : b < w.heap.size := by
      obtain ⟨z, hz, _⟩ := hall 0 0 (by omega) (by omega)
      exact World.block_lt_of_cell? w _ hz
    refine ⟨fun k j => match w.cell? ⟨b, o + k * 8 + j, none⟩ with | some (.int _ z) => z | _ => 0, .inr ⟨b, o, rfl, hblk, ?_⟩, ?_⟩
    · intro k j hk hj
      obtain ⟨z, hz, _⟩ := hall k j hk hj
      rw [hadd] at hz
      simp only [hz]
    · intro k j hk hj
      obtain ⟨z, hz, hzw⟩ := hall k j hk hj
      rw [hadd] at hz
      simp only [hz]
      exact hzw
end Go.Proofs.YtjmjffhommlbnaaGreat.P8
namespace Go.Proofs.YtjmjffhommlbnaaGreat
open Go.RowKit Go.ChangeShapes Go.WideShapes Go.ChangeAt Go.Deep

/-- In w there lie n integers, from a on: the k-th one is X k. -/
def Row1 (w : World) (a : Option Addr) (n : Nat) (X : Nat → Int) : Prop :=
  n = 0 ∨ ∃ b o, a = some ⟨b, o, none⟩ ∧ b < w.heap.size ∧ ∀ k, k < n → w.cell? ⟨b, o + k, none⟩ = some (.int .i64 (X k))

/-- In w there lie n lists of parcels, from a on: the k-th one has N k parcels, and their numbers are O k. -/
def RowO (w : World) (a : Option Addr) (n : Nat) (N : Nat → Nat) (O : Nat → Nat → Nat → Int) : Prop :=
  n = 0 ∨ ∃ b o, a = some ⟨b, o, none⟩ ∧ b < w.heap.size ∧ ∀ k, k < n → ∃ x c, w.cell? ⟨b, o + k, none⟩ = some (.slice x (N k) c) ∧ P8.Row8 w x (N k) (O k)

/-- What a cell holds. -/
structure CV where
  c : Int
  nW : Nat
  W : Nat → Nat → Int
  g : Int
  nO : Nat
  N : Nat → Nat
  O : Nat → Nat → Nat → Int
  nX : Nat
  X : Nat → Int
  nI : Nat
  I : Nat → Int

/-- The value v is a cell that holds V, in w. -/
def CellAt (w : World) (v : Value) (V : CV) : Prop :=
  ∃ aW kW aO kO aX kX aI kI, v = .agg #[.int .i64 V.c, .slice aW V.nW kW, .int .i64 V.g, .slice aO V.nO kO, .slice aX V.nX kX, .slice aI V.nI kI] ∧
    Row5 w aW V.nW V.W ∧ RowO w aO V.nO V.N V.O ∧ Row1 w aX V.nX V.X ∧ Row1 w aI V.nI V.I

/-- Its lists are no longer than lists can be. -/
def CV.short (V : CV) (m : Nat) : Prop := V.nW ≤ m ∧ V.nO ≤ m ∧ (∀ k, k < V.nO → V.N k ≤ m) ∧ V.nX ≤ m ∧ V.nI ≤ m

theorem row1_below {w w' : World} {a : Option Addr} {n : Nat} {X : Nat → Int} (h : Row1 w a n X) (hb : Below w.heap.size w w') : Row1 w' a n X := by
  rcases h with rfl | ⟨b, o, rfl, hlt, hr⟩
  · exact .inl rfl
  · exact .inr ⟨b, o, rfl, Nat.lt_of_lt_of_le hlt hb.size, fun k hk => (hb.cell (p := ⟨b, _, none⟩) hlt).trans (hr k hk)⟩

theorem row5_below {w w' : World} {a : Option Addr} {n : Nat} {Z : Nat → Nat → Int} (h : Row5 w a n Z) (hb : Below w.heap.size w w') : Row5 w' a n Z := by
  rcases h with rfl | ⟨b, o, rfl, hlt, hr⟩
  · exact .inl rfl
  · exact .inr ⟨b, o, rfl, Nat.lt_of_lt_of_le hlt hb.size, fun k j hk hj => (hb.cell (p := ⟨b, _, none⟩) hlt).trans (hr k j hk hj)⟩

theorem row8_below {w w' : World} {a : Option Addr} {n : Nat} {Z : Nat → Nat → Int} (h : P8.Row8 w a n Z) (hb : Below w.heap.size w w') : P8.Row8 w' a n Z := by
  rcases h with rfl | ⟨b, o, rfl, hlt, hr⟩
  · exact .inl rfl
  · exact .inr ⟨b, o, rfl, Nat.lt_of_lt_of_le hlt hb.size, fun k j hk hj => (hb.cell (p := ⟨b, _, none⟩) hlt).trans (hr k j hk hj)⟩

theorem rowO_below {w w' : World} {a : Option Addr} {n : Nat} {N : Nat → Nat} {O : Nat → Nat → Nat → Int} (h : RowO w a n N O) (hb : Below w.heap.size w w') : RowO w' a n N O := by
  rcases h with rfl | ⟨b, o, rfl, hlt, hr⟩
  · exact .inl rfl
  · refine .inr ⟨b, o, rfl, Nat.lt_of_lt_of_le hlt hb.size, fun k hk => ?_⟩
    obtain ⟨x, c, h1, h2⟩ := hr k hk
    exact ⟨x, c, (hb.cell (p := ⟨b, _, none⟩) hlt).trans h1, row8_below h2 hb⟩

theorem cellAt_below {w w' : World} {v : Value} {V : CV} (h : CellAt w v V) (hb : Below w.heap.size w w') : CellAt w' v V := by
  obtain ⟨aW, kW, aO, kO, aX, kX, aI, kI, e, h1, h2, h3, h4⟩ := h
  exact ⟨aW, kW, aO, kO, aX, kX, aI, kI, e, row5_below h1 hb, rowO_below h2 hb, row1_below h3 hb, row1_below h4 hb⟩

section
variable {H : Type} {enc : TypeId × Value → H} {P : Program} {w : World} {base : Nat} {spare : Nat → Bool} {held : Bool}

theorem add_none (b o k : Nat) : (⟨b, o, none⟩ : Addr).add k = ⟨b, o + k, none⟩ := by
  unfold Addr.add
  split <;> simp_all

theorem spot_none {x : Addr} {v : Value} (h : w.cell? (x.add 0) = some v) : ∃ b o, x = ⟨b, o, none⟩ ∧ b < w.heap.size := by
  obtain ⟨b, o, spot⟩ := x
  have hs := World.cell?_spot h
  have hb := World.block_lt_of_cell? w _ h
  simp [Addr.add] at hs hb
  subst hs
  exact ⟨b, o, rfl, hb⟩

theorem open_row1 {t e : TypeId} {fuel : Nat} {cs : List Value} {x : DataW H × List MemPlace} (ht : P.underlying t = some (.slice e)) (hi : P.underlying e = some (.int .i64)) (h1 : P.cellsOf e = 1)
    (h : DataW.trod enc P w base spare held fuel t cs = some x) : ∃ a len cap X, cs = [.slice a len cap] ∧ len ≤ maxLen ∧ Row1 w a len X := by
  rcases open_slice1 ht h1 h with ⟨hcs, _⟩ | ⟨x, l, c, m, n, V, D, Pl, hcs, _, hl, hm, hmm, _, hel⟩
  · exact ⟨none, 0, 0, fun _ => 0, hcs, Nat.zero_le _, .inl rfl⟩
  · by_cases h0 : l = 0
    · subst h0
      exact ⟨some x, 0, c, fun _ => 0, hcs, Nat.zero_le _, .inl rfl⟩
    have hlm : l ≤ m := by rw [hmm]; split <;> omega
    obtain ⟨b, o, rfl, hb⟩ := spot_none (hel 0 (by omega)).1
    refine ⟨_, l, c, fun k => match V k with | .int _ z => z | _ => 0, hcs, Nat.le_trans hl hm, .inr ⟨b, o, rfl, hb, fun k hk => ?_⟩⟩
    obtain ⟨hc, htr⟩ := hel k (by omega)
    obtain ⟨z, hz, _, _⟩ := DataW.trod_int hi htr
    rw [add_none] at hc
    have hv : V k = .int .i64 z := by simpa using hz
    rw [hc]
    simp [hv]

variable {tw8 ti : TypeId} {fs5 : Array Field} {g0 g1 g2 g3 : Field}

theorem open_rowO {t e p : TypeId} {fuel : Nat} {cs : List Value} {x : DataW H × List MemPlace} (ht : P.underlying t = some (.slice e)) (he : P.underlying e = some (.slice p)) (h1 : P.cellsOf e = 1)
    (hs : P.underlying p = some (.struct #[g0, g1, g2, g3])) (hw5 : P.underlying tw8 = some (.struct fs5)) (hi : P.underlying ti = some (.int .i64)) (hi1 : P.cellsOf ti = 1) (hC : P.cellsOf p = 8) (hC5 : P.cellsOf tw8 = 5) (hsz : fs5.size = 5)
    (hoff : ∀ (i : Nat) (f : Field), fs5[i]? = some f → f.offset = i ∧ f.type = ti)
    (o0 : g0.offset = 0 ∧ g0.type = ti) (o1 : g1.offset = 1 ∧ g1.type = ti) (o2 : g2.offset = 2 ∧ g2.type = tw8) (o3 : g3.offset = 7 ∧ g3.type = ti)
    (h : DataW.trod enc P w base spare held fuel t cs = some x) : ∃ a len cap N O, cs = [.slice a len cap] ∧ len ≤ maxLen ∧ (∀ k, k < len → N k ≤ maxLen) ∧ RowO w a len N O := by
  rcases open_slice1 ht h1 h with ⟨hcs, _⟩ | ⟨x, l, c, m, n, V, D, Pl, hcs, _, hl, hm, hmm, _, hel⟩
  · exact ⟨none, 0, 0, fun _ => 0, fun _ _ _ => 0, hcs, Nat.zero_le _, fun _ h => absurd h (by omega), .inl rfl⟩
  · by_cases h0 : l = 0
    · subst h0
      exact ⟨some x, 0, c, fun _ => 0, fun _ _ _ => 0, hcs, Nat.zero_le _, fun _ h => absurd h (by omega), .inl rfl⟩
    have hlm : l ≤ m := by rw [hmm]; split <;> omega
    obtain ⟨b, o, rfl, hb⟩ := spot_none (hel 0 (by omega)).1
    have hin : ∀ k, ∃ q : Nat × (Nat → Nat → Int), k < l → ∃ xa c, w.cell? ⟨b, o + k, none⟩ = some (.slice xa q.1 c) ∧ q.1 ≤ maxLen ∧ P8.Row8 w xa q.1 q.2 := by
      intro k
      by_cases hk : k < l
      · obtain ⟨hc, htr⟩ := hel k (by omega)
        rw [add_none] at hc
        have hsl : ∃ xa ln cp, V k = .slice xa ln cp := by
          rcases open_slice he htr with ⟨hq, _⟩ | ⟨_, _, _, _, _, _, _, hq, _⟩
          · exact ⟨_, _, _, by simpa using hq⟩
          · exact ⟨_, _, _, by simpa using hq⟩
        obtain ⟨xa, ln, cp, hV⟩ := hsl
        rw [hV] at hc htr
        obtain ⟨hln, Z, hZ, _⟩ := P8.open_row8 he hs hw5 hi hi1 hC hC5 hsz hoff o0 o1 o2 o3 (show DataW.Trod enc P w base spare held e (.slice xa ln cp) (D k) (Pl k) from ⟨n, htr⟩)
        exact ⟨(ln, Z), fun _ => ⟨xa, cp, hc, hln, hZ⟩⟩
      · exact ⟨(0, fun _ _ => 0), fun h => absurd h hk⟩
    refine ⟨_, l, c, fun k => (Classical.choose (hin k)).1, fun k => (Classical.choose (hin k)).2, hcs, Nat.le_trans hl hm, fun k hk => ?_, .inr ⟨b, o, rfl, hb, fun k hk => ?_⟩⟩
    · obtain ⟨_, _, _, h2, _⟩ := Classical.choose_spec (hin k) hk
      exact h2
    · obtain ⟨xa, cp, h1, _, h3⟩ := Classical.choose_spec (hin k) hk
      exact ⟨xa, cp, h1, h3⟩

/-- A cell by value. -/
theorem open_cell {b0 : Nat} {r : Reach} {t tW e5 tO eO p tX : TypeId} {f0 f1 f2 f3 f4 f5 : Field} {q5 : Array Field} {v : Value} {d : DataW H} {pl : List MemPlace}
    (ht : P.underlying t = some (.struct #[f0, f1, f2, f3, f4, f5])) (hct : P.cellsOf t = 6)
    (q0 : f0.offset = 0 ∧ f0.type = ti) (q1 : f1.offset = 1 ∧ f1.type = tW) (q2 : f2.offset = 2 ∧ f2.type = ti) (q3 : f3.offset = 3 ∧ f3.type = tO) (q4 : f4.offset = 4 ∧ f4.type = tX) (q5' : f5.offset = 5 ∧ f5.type = tX)
    (hW : P.underlying tW = some (.slice e5)) (hW5 : P.underlying e5 = some (.struct q5)) (hc5 : P.cellsOf e5 = 5) (hsz5 : q5.size = 5) (hoff5 : ∀ (i : Nat) (f : Field), q5[i]? = some f → f.offset = i ∧ f.type = ti)
    (hX : P.underlying tX = some (.slice ti)) (hcW : P.cellsOf tW = 1) (hcO : P.cellsOf tO = 1) (hcX : P.cellsOf tX = 1)
    (hO : P.underlying tO = some (.slice eO)) (he : P.underlying eO = some (.slice p)) (h1 : P.cellsOf eO = 1)
    (hs : P.underlying p = some (.struct #[g0, g1, g2, g3])) (hw5 : P.underlying tw8 = some (.struct fs5)) (hi : P.underlying ti = some (.int .i64)) (hi1 : P.cellsOf ti = 1) (hC : P.cellsOf p = 8) (hC5 : P.cellsOf tw8 = 5) (hsz : fs5.size = 5)
    (hoff : ∀ (i : Nat) (f : Field), fs5[i]? = some f → f.offset = i ∧ f.type = ti)
    (o0 : g0.offset = 0 ∧ g0.type = ti) (o1 : g1.offset = 1 ∧ g1.type = ti) (o2 : g2.offset = 2 ∧ g2.type = tw8) (o3 : g3.offset = 7 ∧ g3.type = ti)
    (hv : Value.okWide P w r b0 t v) (h : DataW.Trod enc P w base spare held t v d pl) : ∃ V, CellAt w v V ∧ V.short maxLen ∧ (∀ k j, k < V.nW → j < 5 → (Lit.int .i64 (V.W k j)).wf = true) := by
  obtain ⟨cs, rfl, hsize⟩ := okWide_struct ht hv
  obtain ⟨fuel, hf⟩ := h
  obtain ⟨xs, n, _, _, hl, hlen, hfld⟩ := DataW.trod_struct ht hf
  simp only [Value.cells] at hl hfld
  rw [hct] at hl
  have one : ∀ (i : Nat) (f : Field) (ty : TypeId), (#[f0, f1, f2, f3, f4, f5] : Array Field)[i]? = some f → f.offset = i ∧ f.type = ty → P.cellsOf ty = 1 → (hi : i < cs.toList.length) → ∃ x, DataW.trod enc P w base spare held n ty [cs.toList[i]] = some x := by
    intro i f ty hg ho h1 hi
    have := hfld i f hg
    rw [ho.1, ho.2, h1] at this
    have e : (cs.toList.drop i).take 1 = [cs.toList[i]] := by
      rw [List.drop_eq_getElem_cons hi, List.take_succ_cons, List.take_zero]
    rw [e] at this
    have hx : i < xs.length := by rw [hlen]; exact (by rw [hl] at hi; simpa using hi)
    rw [List.getElem?_eq_getElem hx] at this
    exact ⟨_, this⟩
  obtain ⟨x0, t0⟩ := one 0 f0 ti rfl q0 hi1 (by omega)
  obtain ⟨x1, t1⟩ := one 1 f1 tW rfl q1 hcW (by omega)
  obtain ⟨x2, t2⟩ := one 2 f2 ti rfl q2 hi1 (by omega)
  obtain ⟨x3, t3⟩ := one 3 f3 tO rfl q3 hcO (by omega)
  obtain ⟨x4, t4⟩ := one 4 f4 tX rfl q4 hcX (by omega)
  obtain ⟨x5, t5⟩ := one 5 f5 tX rfl q5' hcX (by omega)
  obtain ⟨z0, e0, _, _⟩ := DataW.trod_int hi t0
  obtain ⟨z2, e2, _, _⟩ := DataW.trod_int hi t2
  obtain ⟨aX, nX, kX, X, e4, lX, rX⟩ := open_row1 hX hi hi1 t4
  obtain ⟨aI, nI, kI, I, e5, lI, rI⟩ := open_row1 hX hi hi1 t5
  obtain ⟨aO, nO, kO, N, O, e3, lO, lN, rO⟩ := open_rowO hO he h1 hs hw5 hi hi1 hC hC5 hsz hoff o0 o1 o2 o3 t3
  have hsl : ∃ xa ln cp, cs.toList[1] = .slice xa ln cp := by
    rcases open_slice hW t1 with ⟨hq, _⟩ | ⟨_, _, _, _, _, _, _, hq, _⟩
    · exact ⟨_, _, _, by simpa using hq⟩
    · exact ⟨_, _, _, by simpa using hq⟩
  obtain ⟨aW, nW, kW, e1⟩ := hsl
  rw [e1] at t1
  obtain ⟨lW, W, rW, fW⟩ := open_row5 hW hW5 hi hi1 hc5 hsz5 hoff5 (show DataW.Trod enc P w base spare held tW (.slice aW nW kW) x1.1 x1.2 from ⟨n, t1⟩)
  simp only [List.cons.injEq, and_true] at e0 e2 e3 e4 e5
  refine ⟨⟨z0, nW, W, z2, nO, N, O, nX, X, nI, I⟩, ⟨aW, kW, aO, kO, aX, kX, aI, kI, ?_, rW, rO, rX, rI⟩, ⟨lW, lO, lN, lX, lI⟩, fW⟩
  congr 1
  apply Array.ext'
  apply List.ext_getElem?
  intro i
  match i with
  | 0 => rw [List.getElem?_eq_getElem (by omega), e0]; rfl
  | 1 => rw [List.getElem?_eq_getElem (by omega), e1]; rfl
  | 2 => rw [List.getElem?_eq_getElem (by omega), e2]; rfl
  | 3 => rw [List.getElem?_eq_getElem (by omega), e3]; rfl
  | 4 => rw [List.getElem?_eq_getElem (by omega), e4]; rfl
  | 5 => rw [List.getElem?_eq_getElem (by omega), e5]; rfl
  | i + 6 => rw [List.getElem?_eq_none (by omega), List.getElem?_eq_none (by simp)]
end
end Go.Proofs.YtjmjffhommlbnaaGreat
