/- A parcel that came in, by value or in a slice: where its eight numbers lie; no Go text in sight; conditions: none beyond those typed. -/
import Derived.Test.YtkobiniogigloaaKit
import Derived.Deep.Slices
namespace Go.Proofs.Ytkobiniogigloaa
open Go.RowKit Go.ChangeShapes Go.WideShapes Go.ChangeAt Go.Deep

theorem cells_ints {H : Type} {enc : TypeId × Value → H} {P : Program} {w : World} {base : Nat} {spare : Nat → Bool} {held : Bool} {fuel : Nat} {t ti : TypeId} {fs : Array Field} {k : IntKind} {cs : List Value} {x : DataW H × List MemPlace}
    (hs : P.underlying t = some (.struct fs)) (hi : P.underlying ti = some (.int k)) (h1 : P.cellsOf ti = 1) (hC : P.cellsOf t = fs.size)
    (hoff : ∀ (i : Nat) (f : Field), fs[i]? = some f → f.offset = i ∧ f.type = ti)
    (hf : DataW.trod enc P w base spare held fuel t cs = some x) : ∀ i, i < fs.size → ∃ z, cs[i]? = some (.int k z) ∧ (Lit.int k z).wf = true := by
  obtain ⟨xs, n, _, _, hl, hlen, hfld⟩ := DataW.trod_struct hs hf
  intro i hlt
  have hg : fs[i]? = some fs[i] := by simp [hlt]
  obtain ⟨ho, hty⟩ := hoff i _ hg
  have := hfld i _ hg
  rw [ho, hty, h1] at this
  have hx : ∃ x, xs[i]? = some x := ⟨xs[i], by simp [hlen, hlt]⟩
  obtain ⟨x, hx⟩ := hx
  rw [hx] at this
  obtain ⟨z, hz, _, hw⟩ := DataW.trod_int hi this
  refine ⟨z, ?_, hw⟩
  have hlt' : i < cs.length := by rw [hl, hC]; exact hlt
  have : (cs.drop i).take 1 = [cs[i]] := by
    rw [List.drop_eq_getElem_cons hlt', List.take_succ_cons, List.take_zero]
  rw [this] at hz
  rw [List.getElem?_eq_getElem hlt']
  simpa using hz

/-- A struct of two integers, a struct of five integers and one integer more: its eight cells are integers. -/
theorem cells_parcel {H : Type} {enc : TypeId × Value → H} {P : Program} {w : World} {base : Nat} {spare : Nat → Bool} {held : Bool} {fuel : Nat} {t ti tw : TypeId} {fs : Array Field} {f0 f1 f2 f3 : Field} {k : IntKind} {cs : List Value} {x : DataW H × List MemPlace}
    (hs : P.underlying t = some (.struct #[f0, f1, f2, f3])) (hw5 : P.underlying tw = some (.struct fs)) (hi : P.underlying ti = some (.int k)) (h1 : P.cellsOf ti = 1) (hC : P.cellsOf t = 8) (hC5 : P.cellsOf tw = 5) (hsz : fs.size = 5)
    (hoff : ∀ (i : Nat) (f : Field), fs[i]? = some f → f.offset = i ∧ f.type = ti)
    (o0 : f0.offset = 0 ∧ f0.type = ti) (o1 : f1.offset = 1 ∧ f1.type = ti) (o2 : f2.offset = 2 ∧ f2.type = tw) (o3 : f3.offset = 7 ∧ f3.type = ti)
    (hf : DataW.trod enc P w base spare held fuel t cs = some x) : ∀ i, i < 8 → ∃ z, cs[i]? = some (.int k z) ∧ (Lit.int k z).wf = true := by
  obtain ⟨xs, n, _, _, hl, hlen, hfld⟩ := DataW.trod_struct hs hf
  rw [hC] at hl
  have hxs : ∀ i, i < 4 → ∃ x, xs[i]? = some x := fun i hi => ⟨xs[i]'(by rw [hlen]; simpa using hi), List.getElem?_eq_getElem _⟩
  have one : ∀ (i q : Nat) (f : Field), i < 4 → q < 8 → (#[f0, f1, f2, f3] : Array Field)[i]? = some f → f.offset = q ∧ f.type = ti → ∃ z, cs[q]? = some (.int k z) ∧ (Lit.int k z).wf = true := by
    intro i q f hi4 hq hg ho
    have := hfld i f hg
    rw [ho.1, ho.2, h1] at this
    obtain ⟨x, hx⟩ := hxs i hi4
    rw [hx] at this
    obtain ⟨z, hz, _, hw⟩ := DataW.trod_int hi this
    refine ⟨z, ?_, hw⟩
    have hlt' : q < cs.length := by omega
    have : (cs.drop q).take 1 = [cs[q]] := by
      rw [List.drop_eq_getElem_cons hlt', List.take_succ_cons, List.take_zero]
    rw [this] at hz
    rw [List.getElem?_eq_getElem hlt']
    simpa using hz
  have five : ∀ j, j < 5 → ∃ z, cs[2 + j]? = some (.int k z) ∧ (Lit.int k z).wf = true := by
    intro j hj
    have := hfld 2 f2 rfl
    rw [o2.1, o2.2, hC5] at this
    obtain ⟨x, hx⟩ := hxs 2 (by omega)
    rw [hx] at this
    obtain ⟨z, hz, hw⟩ := cells_ints hw5 hi h1 (by rw [hC5, hsz]) hoff this j (by omega)
    refine ⟨z, ?_, hw⟩
    rw [← hz, List.getElem?_take_of_lt hj, List.getElem?_drop]
  intro i hi8
  match i, hi8 with
  | 0, _ => exact one 0 0 f0 (by omega) (by omega) rfl o0
  | 1, _ => exact one 1 1 f1 (by omega) (by omega) rfl o1
  | 2, _ => exact five 0 (by omega)
  | 3, _ => exact five 1 (by omega)
  | 4, _ => exact five 2 (by omega)
  | 5, _ => exact five 3 (by omega)
  | 6, _ => exact five 4 (by omega)
  | 7, _ => exact one 3 7 f3 (by omega) (by omega) rfl o3

/-- Such a struct by value: its eight numbers. -/
theorem open_int8 {H : Type} {enc : TypeId × Value → H} {P : Program} {w : World} {base b0 : Nat} {spare : Nat → Bool} {held : Bool} {r : Reach} {t ti tw : TypeId} {fs : Array Field} {f0 f1 f2 f3 : Field} {k : IntKind} {v : Value} {d : DataW H} {p : List MemPlace}
    (hs : P.underlying t = some (.struct #[f0, f1, f2, f3])) (hw5 : P.underlying tw = some (.struct fs)) (hi : P.underlying ti = some (.int k)) (h1 : P.cellsOf ti = 1) (hC : P.cellsOf t = 8) (hC5 : P.cellsOf tw = 5) (hsz : fs.size = 5)
    (hoff : ∀ (i : Nat) (f : Field), fs[i]? = some f → f.offset = i ∧ f.type = ti)
    (o0 : f0.offset = 0 ∧ f0.type = ti) (o1 : f1.offset = 1 ∧ f1.type = ti) (o2 : f2.offset = 2 ∧ f2.type = tw) (o3 : f3.offset = 7 ∧ f3.type = ti)
    (hv : Value.okWide P w r b0 t v) (h : DataW.Trod enc P w base spare held t v d p) :
    ∃ x0 x1 x2 x3 x4 x5 x6 x7 : Int, v = .agg #[.int k x0, .int k x1, .int k x2, .int k x3, .int k x4, .int k x5, .int k x6, .int k x7] ∧
      (Lit.int k x0).wf = true ∧ (Lit.int k x1).wf = true ∧ (Lit.int k x2).wf = true ∧ (Lit.int k x3).wf = true ∧ (Lit.int k x4).wf = true ∧ (Lit.int k x5).wf = true ∧ (Lit.int k x6).wf = true ∧ (Lit.int k x7).wf = true := by
  obtain ⟨cs, rfl, hsz8⟩ := okWide_struct hs hv
  obtain ⟨fuel, hf⟩ := h
  have hall := cells_parcel hs hw5 hi h1 hC hC5 hsz hoff o0 o1 o2 o3 hf
  simp only [Value.cells] at hall
  obtain ⟨x0, e0, w0⟩ := hall 0 (by omega)
  obtain ⟨x1, e1, w1⟩ := hall 1 (by omega)
  obtain ⟨x2, e2, w2⟩ := hall 2 (by omega)
  obtain ⟨x3, e3, w3⟩ := hall 3 (by omega)
  obtain ⟨x4, e4, w4⟩ := hall 4 (by omega)
  obtain ⟨x5, e5, w5⟩ := hall 5 (by omega)
  obtain ⟨x6, e6, w6⟩ := hall 6 (by omega)
  obtain ⟨x7, e7, w7⟩ := hall 7 (by omega)
  refine ⟨x0, x1, x2, x3, x4, x5, x6, x7, ?_, w0, w1, w2, w3, w4, w5, w6, w7⟩
  congr 1
  apply Array.ext'
  apply List.ext_getElem?
  intro i
  have hlen : cs.toList.length = 8 := by simp [hsz8, hC]
  match i with
  | 0 => simpa using e0
  | 1 => simpa using e1
  | 2 => simpa using e2
  | 3 => simpa using e3
  | 4 => simpa using e4
  | 5 => simpa using e5
  | 6 => simpa using e6
  | 7 => simpa using e7
  | i + 8 => rw [List.getElem?_eq_none (by omega), List.getElem?_eq_none (by simp)]

/-- In w there lie n parcels, from a on: the k-th one's numbers are Z k 0 .. Z k 7. -/
def Row8 (w : World) (a : Option Addr) (n : Nat) (Z : Nat → Nat → Int) : Prop :=
  n = 0 ∨ ∃ b o, a = some ⟨b, o, none⟩ ∧ b < w.heap.size ∧ ∀ k j, k < n → j < 8 → w.cell? ⟨b, o + k * 8 + j, none⟩ = some (.int .i64 (Z k j))

theorem open_row8 {H : Type} {enc : TypeId × Value → H} {P : Program} {w : World} {base : Nat} {spare : Nat → Bool} {held : Bool} {t e ti tw : TypeId} {fs : Array Field} {f0 f1 f2 f3 : Field} {a : Option Addr} {len cap : Nat} {d : DataW H} {p : List MemPlace}
    (ht : P.underlying t = some (.slice e)) (hs : P.underlying e = some (.struct #[f0, f1, f2, f3])) (hw5 : P.underlying tw = some (.struct fs)) (hi : P.underlying ti = some (.int .i64)) (h1 : P.cellsOf ti = 1) (hC : P.cellsOf e = 8) (hC5 : P.cellsOf tw = 5) (hsz : fs.size = 5)
    (hoff : ∀ (i : Nat) (f : Field), fs[i]? = some f → f.offset = i ∧ f.type = ti)
    (o0 : f0.offset = 0 ∧ f0.type = ti) (o1 : f1.offset = 1 ∧ f1.type = ti) (o2 : f2.offset = 2 ∧ f2.type = tw) (o3 : f3.offset = 7 ∧ f3.type = ti)
    (h : DataW.Trod enc P w base spare held t (.slice a len cap) d p) : len ≤ maxLen ∧ ∃ Z, Row8 w a len Z ∧ ∀ k j, k < len → j < 8 → (Lit.int .i64 (Z k j)).wf = true := by
  obtain ⟨fuel, hf⟩ := h
  rcases open_slice ht hf with ⟨hcs, _⟩ | ⟨x, l, c, m, n, D, Pl, hcs, _, hl, hm, hmm, _, hel⟩
  · simp [Value.cells] at hcs
    obtain ⟨rfl, rfl, rfl⟩ := hcs
    exact ⟨Nat.zero_le _, fun _ _ => 0, .inl rfl, fun _ _ h => absurd h (by omega)⟩
  · simp [Value.cells] at hcs
    obtain ⟨rfl, rfl, rfl⟩ := hcs
    refine ⟨Nat.le_trans hl hm, ?_⟩
    by_cases h0 : len = 0
    · exact ⟨fun _ _ => 0, .inl h0, fun _ _ h => absurd h (by omega)⟩
    have hlm : len ≤ m := by rw [hmm]; split <;> omega
    have hall : ∀ k j, k < len → j < 8 → ∃ z, w.cell? ((x.add (k * 8)).add j) = some (.int .i64 z) ∧ (Lit.int .i64 z).wf = true := by
      intro k j hk hj
      obtain ⟨cs', hcs', htr⟩ := hel k (by omega)
      rw [hC] at hcs'
      obtain ⟨_, hlen, hc⟩ := World.cells?_some hcs'
      obtain ⟨z, hz, hzw⟩ := cells_parcel hs hw5 hi h1 hC hC5 hsz hoff o0 o1 o2 o3 htr j (by omega)
      refine ⟨z, ?_, hzw⟩
      rw [← hz]
      exact hc j hj
    obtain ⟨b, o, spot⟩ := x
    have hspot : spot = none := by
      obtain ⟨z, hz, _⟩ := hall 0 0 (by omega) (by omega)
      simpa [Addr.add] using World.cell?_spot hz
    subst hspot
    have hadd : ∀ k j, ((⟨b, o, none⟩ : Addr).add (k * 8)).add j = ⟨b, o + k * 8 + j, none⟩ := by
      intro k j
      unfold Addr.add
      split <;> split <;> simp_all
    have hblk : b < w.heap.size := by
      obtain ⟨z, hz, _⟩ := hall 0 0 (by omega) (by omega)
      exact World.block_lt_of_cell? w _ hz
    refine ⟨fun k j => match w.cell? ⟨b, o + k * 8 + j, none⟩ with | some (.int _ z) => z | _ => 0, .inr ⟨b, o, rfl, hblk, ?_⟩, ?_⟩
    · intro k j hk hj
      obtain ⟨z, hz, _⟩ := hall k j hk hj
      rw [hadd] at hz
      simp only [hz]
    · intro k j hk hj
      obtain ⟨z, hz, hzw⟩ := hall k j hk hj
      rw [hadd] at hz
      simp only [hz]
      exact hzw
end Go.Proofs.Ytkobiniogigloaa
