/- SrvOk of the law FnExactSrvOk: a server by value; conditions: the holds and ghosts lie in memory. -/
import Derived.Test.YtlbjgecjonegkaaHS8
namespace Go.Proofs.Ytlbjgecjonegkaa
open Go.RowKit Go.Deep
set_option linter.unusedVariables false
open Go.ChangeShapes Go.WideShapes Go.ChangeAt
theorem slice_shape {H : Type} {enc : TypeId × Value → H} {P : Program} {w : World} {base : Nat} {spare : Nat → Bool} {held : Bool} {fuel : Nat} {t e : TypeId} {v : Value} {x : DataW H × List MemPlace} (ht : P.underlying t = some (.slice e)) (h : DataW.trod enc P w base spare held fuel t [v] = some x) : ∃ a l c, v = .slice a l c := by
  rcases open_slice ht h with ⟨hcs, _⟩ | ⟨x, l, c, m, n, D, Pl, hcs, _⟩
  · exact ⟨none, 0, 0, by simpa using hcs⟩
  · exact ⟨some x, l, c, by simpa using hcs⟩
set_option maxRecDepth 100000 in
theorem open_srv {H : Type} {enc : TypeId × Value → H} {w : World} {base b0 : Nat} {spare : Nat → Bool} {held : Bool} {r : Reach} {v : Value} {d : DataW H} {pl : List MemPlace} (hv : Value.okWide Try.prog w r b0 27 v) (h : DataW.Trod enc Try.prog w base spare held 27 v d pl) :
    ∃ up aH n cH F aG g cG Z, v = .agg #[.bool up, .slice aH n cH, .slice aG g cG] ∧ n ≤ maxLen ∧ g ≤ maxLen ∧ (∀ k, k < n → (F k).V.short maxLen) ∧ HRow w aH n F ∧ P7.RowK w aG g Z := by
  obtain ⟨cs, rfl, hsize⟩ := okWide_struct Try.underlying27 hv
  obtain ⟨fuel, hf⟩ := h
  obtain ⟨xs, n, _, _, hl, hlen, hfld⟩ := DataW.trod_struct Try.underlying27 hf
  simp only [Value.cells] at hl hfld
  rw [show Try.prog.cellsOf 27 = 3 by kernel_rfl] at hl
  have one : ∀ (i : Nat) (ty : TypeId), i < 3 → (∃ f, (#[{ name := "Up", type := 4, offset := 0, embedded := false, tag := "", pkgPath := "", byteOffset := 0 }, { name := "Holds", type := 24, offset := 1, embedded := false, tag := "", pkgPath := "", byteOffset := 8 }, { name := "Ghosts", type := 25, offset := 2, embedded := false, tag := "", pkgPath := "", byteOffset := 32 }] : Array Field)[i]? = some f ∧ f.offset = i ∧ f.type = ty) → Try.prog.cellsOf ty = 1 → (hi : i < cs.toList.length) → ∃ x, DataW.trod enc Try.prog w base spare held n ty [cs.toList[i]] = some x := by
    intro i ty hi3 hf' h1 hi
    obtain ⟨f, hg, ho⟩ := hf'
    have := hfld i f hg
    rw [ho.1, ho.2, h1] at this
    have e : (cs.toList.drop i).take 1 = [cs.toList[i]] := by
      rw [List.drop_eq_getElem_cons hi, List.take_succ_cons, List.take_zero]
    rw [e] at this
    have hx : i < xs.length := by rw [hlen]; exact hi3
    rw [List.getElem?_eq_getElem hx] at this
    exact ⟨_, this⟩
  obtain ⟨x0, t0⟩ := one 0 4 (by omega) ⟨_, rfl, rfl, rfl⟩ (by kernel_rfl) (by omega)
  obtain ⟨x1, t1⟩ := one 1 24 (by omega) ⟨_, rfl, rfl, rfl⟩ (by kernel_rfl) (by omega)
  obtain ⟨x2, t2⟩ := one 2 25 (by omega) ⟨_, rfl, rfl, rfl⟩ (by kernel_rfl) (by omega)
  obtain ⟨up, e0, _⟩ := DataW.trod_bool Try.underlying4 t0
  obtain ⟨aH, nH, cH, e1⟩ := slice_shape Try.underlying24 t1
  obtain ⟨aG, g, cG, e2⟩ := slice_shape Try.underlying25 t2
  rw [e1] at t1
  rw [e2] at t2
  obtain ⟨h1, F, h2, h3⟩ := open_holds (ti := 3) (tW := 67) (tO := 68) (tX := 41) Try.underlying24 Try.underlying72 (by kernel_rfl) ⟨rfl, rfl⟩ ⟨rfl, rfl⟩ ⟨rfl, rfl⟩ Try.underlying70 (by kernel_rfl) ⟨rfl, rfl⟩ ⟨rfl, rfl⟩ ⟨rfl, rfl⟩ ⟨rfl, rfl⟩ ⟨rfl, rfl⟩ ⟨rfl, rfl⟩ Try.underlying67 Try.underlying83 (by kernel_rfl) rfl (by intro i f hf; match i, hf with | 0, hf => (cases hf; exact ⟨rfl, rfl⟩) | 1, hf => (cases hf; exact ⟨rfl, rfl⟩) | 2, hf => (cases hf; exact ⟨rfl, rfl⟩) | 3, hf => (cases hf; exact ⟨rfl, rfl⟩) | 4, hf => (cases hf; exact ⟨rfl, rfl⟩) | i + 5, hf => simp at hf) Try.underlying41 (by kernel_rfl) (by kernel_rfl) (by kernel_rfl) Try.underlying68 Try.underlying129 (by kernel_rfl) Try.underlying136 Try.underlying83 Try.underlying3 (by kernel_rfl) (by kernel_rfl) (by kernel_rfl) rfl (by intro i f hf; match i, hf with | 0, hf => (cases hf; exact ⟨rfl, rfl⟩) | 1, hf => (cases hf; exact ⟨rfl, rfl⟩) | 2, hf => (cases hf; exact ⟨rfl, rfl⟩) | 3, hf => (cases hf; exact ⟨rfl, rfl⟩) | 4, hf => (cases hf; exact ⟨rfl, rfl⟩) | i + 5, hf => simp at hf) ⟨rfl, rfl⟩ ⟨rfl, rfl⟩ ⟨rfl, rfl⟩ ⟨rfl, rfl⟩ (dd := x1.1) (pl := x1.2) ⟨n, t1⟩
  obtain ⟨h4, Z, h5⟩ := open_ghosts (ti := 3) Try.underlying25 Try.underlying85 (by kernel_rfl) ⟨rfl, rfl⟩ ⟨rfl, rfl⟩ ⟨rfl, rfl⟩ Try.underlying83 (by kernel_rfl) rfl (by intro i f hf; match i, hf with | 0, hf => (cases hf; exact ⟨rfl, rfl⟩) | 1, hf => (cases hf; exact ⟨rfl, rfl⟩) | 2, hf => (cases hf; exact ⟨rfl, rfl⟩) | 3, hf => (cases hf; exact ⟨rfl, rfl⟩) | 4, hf => (cases hf; exact ⟨rfl, rfl⟩) | i + 5, hf => simp at hf) Try.underlying3 (by kernel_rfl) (dd := x2.1) (p := x2.2) ⟨n, t2⟩
  refine ⟨up, aH, nH, cH, F, aG, g, cG, Z, ?_, h1, h4, h3, h2, h5⟩
  simp only [List.cons.injEq, and_true] at e0
  congr 1
  apply Array.ext'
  apply List.ext_getElem?
  intro i
  match i with
  | 0 => rw [List.getElem?_eq_getElem (by omega), e0]; rfl
  | 1 => rw [List.getElem?_eq_getElem (by omega), e1]; rfl
  | 2 => rw [List.getElem?_eq_getElem (by omega), e2]; rfl
  | i + 3 => rw [List.getElem?_eq_none (by omega), List.getElem?_eq_none (by simp)]
end Go.Proofs.Ytlbjgecjonegkaa
