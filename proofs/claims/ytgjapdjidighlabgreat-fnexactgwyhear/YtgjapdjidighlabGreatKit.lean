/- Small facts on structs of integers and on worlds that have only grown: no Go text in sight; conditions: none beyond those typed. -/
import Derived.WalkKit
import Derived.ProofKit
import Derived.OpenShut
import Derived.Below
namespace Go.Proofs.YtgjapdjidighlabGreat
open Go.RowKit Go.ChangeShapes Go.WideShapes Go.ChangeAt
theorem hid {p : Prop} (h : p) : Hid p := h
theorem one_bl {w v : World} {b i : Nat} {x : Option Value} (hl : b < w.heap.size) (hb : Below w.heap.size w v) (h : w.cell? ⟨b, i, none⟩ = x) : v.cell? ⟨b, i, none⟩ = x := (hb.cell (p := ⟨b, i, none⟩) hl).trans h
theorem two_bl {w v : World} {b : Nat} {x y : Option Value} (hl : b < w.heap.size) (hb : Below w.heap.size w v) (h : w.cell? ⟨b, 0, none⟩ = x ∧ w.cell? ⟨b, 1, none⟩ = y) : v.cell? ⟨b, 0, none⟩ = x ∧ v.cell? ⟨b, 1, none⟩ = y := ⟨one_bl hl hb h.1, one_bl hl hb h.2⟩
theorem bcell {W w1 : World} (hb : Below W.heap.size W w1) : (∀ b o, b < W.heap.size → w1.cell? ⟨b, o, none⟩ = W.cell? ⟨b, o, none⟩) ∧ (∀ b o, b < W.heap.size → w1.frozen? ⟨b, o, none⟩ = W.frozen? ⟨b, o, none⟩) :=
  ⟨fun b o h => hb.cell (p := ⟨b, o, none⟩) h, fun b o h => hb.frozen (p := ⟨b, o, none⟩) h⟩
theorem bthen {a b c : World} (h : Below a.heap.size a b) (k : Below b.heap.size b c) : Below a.heap.size a c := h.trans (k.mono h.size)
theorem open_intStruct {H : Type} {enc : TypeId × Value → H} {P : Program} {w : World} {base b0 : Nat} {spare : Nat → Bool} {held : Bool} {r : Reach} {t ti : TypeId} {fs : Array Field} {k : IntKind} {v : Value} {d : DataW H} {p : List MemPlace}
    (hs : P.underlying t = some (.struct fs)) (hi : P.underlying ti = some (.int k)) (h1 : P.cellsOf ti = 1) (hC : P.cellsOf t = fs.size)
    (hoff : ∀ (i : Nat) (f : Field), fs[i]? = some f → f.offset = i ∧ f.type = ti)
    (hv : Value.okWide P w r b0 t v) (h : DataW.Trod enc P w base spare held t v d p) :
    ∃ zs : List Int, v = .agg (zs.map (Value.int k)).toArray ∧ zs.length = fs.size ∧ ∀ z ∈ zs, (Lit.int k z).wf = true := by
  obtain ⟨cs, rfl, hsz⟩ := okWide_struct hs hv
  obtain ⟨fuel, hf⟩ := h
  obtain ⟨xs, n, _, _, hl, hlen, hfld⟩ := DataW.trod_struct hs hf
  have hall : ∀ i, i < fs.size → ∃ z, cs.toList[i]? = some (.int k z) ∧ (Lit.int k z).wf = true := by
    intro i hlt
    have hg : fs[i]? = some fs[i] := by simp [hlt]
    obtain ⟨ho, hty⟩ := hoff i _ hg
    have := hfld i _ hg
    rw [ho, hty, h1] at this
    have hx : ∃ x, xs[i]? = some x := ⟨xs[i], by simp [hlen, hlt]⟩
    obtain ⟨x, hx⟩ := hx
    rw [hx] at this
    obtain ⟨z, hz, _, hw⟩ := DataW.trod_int hi this
    refine ⟨z, ?_, hw⟩
    have hlt' : i < cs.toList.length := by rw [show cs.toList.length = cs.size from by simp, hsz, hC]; exact hlt
    have : (cs.toList.drop i).take 1 = [cs.toList[i]] := by
      rw [List.drop_eq_getElem_cons hlt']; simp
    simp only [Value.cells] at hz
    rw [this] at hz
    rw [List.getElem?_eq_getElem hlt']
    simpa using hz
  have hsize : cs.toList.length = fs.size := by simp [hsz, hC]
  refine ⟨cs.toList.map intOf, ?_, by simp [hsz, hC], ?_⟩
  · congr 1
    apply Array.ext'
    simp only [List.map_map]
    apply List.ext_getElem?
    intro i
    by_cases hlt : i < fs.size
    · obtain ⟨z, hz, _⟩ := hall i hlt
      simp only [List.getElem?_map, hz, Option.map_some, Function.comp]
      rfl
    · rw [List.getElem?_eq_none (by omega), List.getElem?_eq_none (by simp only [List.length_map]; omega)]
  · intro z hz
    obtain ⟨c, hc, rfl⟩ := List.mem_map.1 hz
    obtain ⟨i, hi'⟩ := List.getElem?_of_mem hc
    have hlt : i < fs.size := by
      rw [← hsize]; exact (List.getElem?_eq_some_iff.1 hi').1
    obtain ⟨z, hz, hw⟩ := hall i hlt
    rw [hi'] at hz
    cases hz
    exact hw
theorem open_int2 {H : Type} {enc : TypeId × Value → H} {P : Program} {w : World} {base b0 : Nat} {spare : Nat → Bool} {held : Bool} {r : Reach} {t ti : TypeId} {k : IntKind} {v : Value} {d : DataW H} {p : List MemPlace} {f0 f1 : Field}
    (hs : P.underlying t = some (.struct #[f0, f1])) (hi : P.underlying ti = some (.int k)) (h1 : P.cellsOf ti = 1) (hC : P.cellsOf t = 2)
    (o0 : f0.offset = 0 ∧ f0.type = ti) (o1 : f1.offset = 1 ∧ f1.type = ti)
    (hv : Value.okWide P w r b0 t v) (h : DataW.Trod enc P w base spare held t v d p) :
    ∃ x0 x1 : Int, v = .agg #[.int k x0, .int k x1] ∧ (Lit.int k x0).wf = true ∧ (Lit.int k x1).wf = true := by
  obtain ⟨zs, hz, hl, hwf⟩ := open_intStruct hs hi h1 (by simpa using hC) (by
    intro i f hf
    match i, hf with
    | 0, hf => simp at hf; subst hf; exact o0
    | 1, hf => simp at hf; subst hf; exact o1
    | i + 2, hf => simp at hf) hv h
  match zs, hl with
  | [x0, x1], _ => exact ⟨x0, x1, by simpa using hz, hwf _ (by simp), hwf _ (by simp)⟩
end Go.Proofs.YtgjapdjidighlabGreat
