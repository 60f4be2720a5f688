/- Messages that come in by value; conditions: none. -/
import Derived.Test.YtgjapdjidighlabGreatFlat
import Derived.Test.YtgjapdjidighlabGreatMsg8
namespace Go.Proofs.YtgjapdjidighlabGreat
open Go.RowKit Go.ChangeShapes Go.WideShapes Go.ChangeAt Go.Deep
theorem open_ints25 {H : Type} {enc : TypeId × Value → H} {P : Program} {w : World} {base b0 : Nat} {spare : Nat → Bool} {held : Bool} {r : Reach} {t : TypeId} {gs : Array Field} {v : Value} {d : DataW H} {p : List MemPlace}
    (hs : P.underlying t = some (.struct gs)) (hC : P.cellsOf t = 25) (hF : Flat enc P w base spare held t) (hv : Value.okWide P w r b0 t v) (h : DataW.Trod enc P w base spare held t v d p) :
    ∃ X : Nat → Int, v = .agg #[.int .i64 (X 0), .int .i64 (X 1), .int .i64 (X 2), .int .i64 (X 3), .int .i64 (X 4), .int .i64 (X 5), .int .i64 (X 6), .int .i64 (X 7), .int .i64 (X 8), .int .i64 (X 9), .int .i64 (X 10), .int .i64 (X 11), .int .i64 (X 12), .int .i64 (X 13), .int .i64 (X 14), .int .i64 (X 15), .int .i64 (X 16), .int .i64 (X 17), .int .i64 (X 18), .int .i64 (X 19), .int .i64 (X 20), .int .i64 (X 21), .int .i64 (X 22), .int .i64 (X 23), .int .i64 (X 24)] := by
  obtain ⟨cs, rfl, hsz⟩ := okWide_struct hs hv
  obtain ⟨fuel, hf⟩ := h
  have hall := hF _ _ _ hf
  rw [hC] at hall
  simp only [Value.cells] at hall
  obtain ⟨X, hX⟩ : ∃ X : Nat → Int, ∀ j, j < 25 → cs.toList[j]? = some (.int .i64 (X j)) := by
    refine ⟨fun i => intOf (cs.toList[i]?.getD undef), fun j hj => ?_⟩
    obtain ⟨z, e⟩ := hall j hj
    show _ = some (Value.int .i64 (intOf (cs.toList[j]?.getD undef)))
    rw [e]
    rfl
  refine ⟨X, ?_⟩
  congr 1
  apply Array.ext'
  apply List.ext_getElem?
  intro i
  have hlen : cs.toList.length = 25 := by simp [hsz, hC]
  match i with
  | 0 => exact hX 0 (by omega)
  | 1 => exact hX 1 (by omega)
  | 2 => exact hX 2 (by omega)
  | 3 => exact hX 3 (by omega)
  | 4 => exact hX 4 (by omega)
  | 5 => exact hX 5 (by omega)
  | 6 => exact hX 6 (by omega)
  | 7 => exact hX 7 (by omega)
  | 8 => exact hX 8 (by omega)
  | 9 => exact hX 9 (by omega)
  | 10 => exact hX 10 (by omega)
  | 11 => exact hX 11 (by omega)
  | 12 => exact hX 12 (by omega)
  | 13 => exact hX 13 (by omega)
  | 14 => exact hX 14 (by omega)
  | 15 => exact hX 15 (by omega)
  | 16 => exact hX 16 (by omega)
  | 17 => exact hX 17 (by omega)
  | 18 => exact hX 18 (by omega)
  | 19 => exact hX 19 (by omega)
  | 20 => exact hX 20 (by omega)
  | 21 => exact hX 21 (by omega)
  | 22 => exact hX 22 (by omega)
  | 23 => exact hX 23 (by omega)
  | 24 => exact hX 24 (by omega)
  | i + 25 => rw [List.getElem?_eq_none (by omega), List.getElem?_eq_none (by simp)]
set_option maxRecDepth 10000 in
theorem flat25 {H : Type} (enc : TypeId × Value → H) (w : World) (base : Nat) (spare : Nat → Bool) (held : Bool) : Flat enc Tryz.prog w base spare held 28 := by
  refine flat_struct _ _ _ _ _ _ Tryz.underlying28 ?_
  rw [show Tryz.prog.cellsOf 28 = 5 by kernel_rfl]
  intro q hq
  match q, hq with
  | 0, _ => exact ⟨0, _, rfl, of_decide_eq_true (by kernel_rfl), of_decide_eq_true (by kernel_rfl), flat_int _ _ _ _ _ _ Tryz.underlying3 (by kernel_rfl)⟩
  | 1, _ => exact ⟨1, _, rfl, of_decide_eq_true (by kernel_rfl), of_decide_eq_true (by kernel_rfl), flat_int _ _ _ _ _ _ Tryz.underlying3 (by kernel_rfl)⟩
  | 2, _ => exact ⟨2, _, rfl, of_decide_eq_true (by kernel_rfl), of_decide_eq_true (by kernel_rfl), flat_int _ _ _ _ _ _ Tryz.underlying3 (by kernel_rfl)⟩
  | 3, _ => exact ⟨3, _, rfl, of_decide_eq_true (by kernel_rfl), of_decide_eq_true (by kernel_rfl), flat_int _ _ _ _ _ _ Tryz.underlying3 (by kernel_rfl)⟩
  | 4, _ => exact ⟨4, _, rfl, of_decide_eq_true (by kernel_rfl), of_decide_eq_true (by kernel_rfl), flat_int _ _ _ _ _ _ Tryz.underlying3 (by kernel_rfl)⟩
  | q + 5, hq => omega
set_option maxRecDepth 10000 in
theorem flat27 {H : Type} (enc : TypeId × Value → H) (w : World) (base : Nat) (spare : Nat → Bool) (held : Bool) : Flat enc Tryz.prog w base spare held 30 := by
  refine flat_struct _ _ _ _ _ _ Tryz.underlying30 ?_
  rw [show Tryz.prog.cellsOf 30 = 5 by kernel_rfl]
  intro q hq
  match q, hq with
  | 0, _ => exact ⟨0, _, rfl, of_decide_eq_true (by kernel_rfl), of_decide_eq_true (by kernel_rfl), flat_int _ _ _ _ _ _ Tryz.underlying3 (by kernel_rfl)⟩
  | 1, _ => exact ⟨1, _, rfl, of_decide_eq_true (by kernel_rfl), of_decide_eq_true (by kernel_rfl), flat_int _ _ _ _ _ _ Tryz.underlying3 (by kernel_rfl)⟩
  | 2, _ => exact ⟨2, _, rfl, of_decide_eq_true (by kernel_rfl), of_decide_eq_true (by kernel_rfl), flat_int _ _ _ _ _ _ Tryz.underlying3 (by kernel_rfl)⟩
  | 3, _ => exact ⟨3, _, rfl, of_decide_eq_true (by kernel_rfl), of_decide_eq_true (by kernel_rfl), flat_int _ _ _ _ _ _ Tryz.underlying3 (by kernel_rfl)⟩
  | 4, _ => exact ⟨4, _, rfl, of_decide_eq_true (by kernel_rfl), of_decide_eq_true (by kernel_rfl), flat_int _ _ _ _ _ _ Tryz.underlying3 (by kernel_rfl)⟩
  | q + 5, hq => omega
set_option maxRecDepth 10000 in
theorem flat29 {H : Type} (enc : TypeId × Value → H) (w : World) (base : Nat) (spare : Nat → Bool) (held : Bool) : Flat enc Tryz.prog w base spare held 32 := by
  refine flat_struct _ _ _ _ _ _ Tryz.underlying32 ?_
  rw [show Tryz.prog.cellsOf 32 = 8 by kernel_rfl]
  intro q hq
  match q, hq with
  | 0, _ => exact ⟨0, _, rfl, of_decide_eq_true (by kernel_rfl), of_decide_eq_true (by kernel_rfl), flat_int _ _ _ _ _ _ Tryz.underlying3 (by kernel_rfl)⟩
  | 1, _ => exact ⟨1, _, rfl, of_decide_eq_true (by kernel_rfl), of_decide_eq_true (by kernel_rfl), flat_int _ _ _ _ _ _ Tryz.underlying3 (by kernel_rfl)⟩
  | 2, _ => exact ⟨2, _, rfl, of_decide_eq_true (by kernel_rfl), of_decide_eq_true (by kernel_rfl), flat27 enc w base spare held⟩
  | 3, _ => exact ⟨2, _, rfl, of_decide_eq_true (by kernel_rfl), of_decide_eq_true (by kernel_rfl), flat27 enc w base spare held⟩
  | 4, _ => exact ⟨2, _, rfl, of_decide_eq_true (by kernel_rfl), of_decide_eq_true (by kernel_rfl), flat27 enc w base spare held⟩
  | 5, _ => exact ⟨2, _, rfl, of_decide_eq_true (by kernel_rfl), of_decide_eq_true (by kernel_rfl), flat27 enc w base spare held⟩
  | 6, _ => exact ⟨2, _, rfl, of_decide_eq_true (by kernel_rfl), of_decide_eq_true (by kernel_rfl), flat27 enc w base spare held⟩
  | 7, _ => exact ⟨3, _, rfl, of_decide_eq_true (by kernel_rfl), of_decide_eq_true (by kernel_rfl), flat_int _ _ _ _ _ _ Tryz.underlying3 (by kernel_rfl)⟩
  | q + 8, hq => omega
set_option maxRecDepth 10000 in
theorem flat31 {H : Type} (enc : TypeId × Value → H) (w : World) (base : Nat) (spare : Nat → Bool) (held : Bool) : Flat enc Tryz.prog w base spare held 34 := by
  refine flat_struct _ _ _ _ _ _ Tryz.underlying34 ?_
  rw [show Tryz.prog.cellsOf 34 = 7 by kernel_rfl]
  intro q hq
  match q, hq with
  | 0, _ => exact ⟨0, _, rfl, of_decide_eq_true (by kernel_rfl), of_decide_eq_true (by kernel_rfl), flat_int _ _ _ _ _ _ Tryz.underlying3 (by kernel_rfl)⟩
  | 1, _ => exact ⟨1, _, rfl, of_decide_eq_true (by kernel_rfl), of_decide_eq_true (by kernel_rfl), flat_int _ _ _ _ _ _ Tryz.underlying3 (by kernel_rfl)⟩
  | 2, _ => exact ⟨2, _, rfl, of_decide_eq_true (by kernel_rfl), of_decide_eq_true (by kernel_rfl), flat27 enc w base spare held⟩
  | 3, _ => exact ⟨2, _, rfl, of_decide_eq_true (by kernel_rfl), of_decide_eq_true (by kernel_rfl), flat27 enc w base spare held⟩
  | 4, _ => exact ⟨2, _, rfl, of_decide_eq_true (by kernel_rfl), of_decide_eq_true (by kernel_rfl), flat27 enc w base spare held⟩
  | 5, _ => exact ⟨2, _, rfl, of_decide_eq_true (by kernel_rfl), of_decide_eq_true (by kernel_rfl), flat27 enc w base spare held⟩
  | 6, _ => exact ⟨2, _, rfl, of_decide_eq_true (by kernel_rfl), of_decide_eq_true (by kernel_rfl), flat27 enc w base spare held⟩
  | q + 7, hq => omega
set_option maxRecDepth 10000 in
theorem flat33 {H : Type} (enc : TypeId × Value → H) (w : World) (base : Nat) (spare : Nat → Bool) (held : Bool) : Flat enc Tryz.prog w base spare held 36 := by
  refine flat_struct _ _ _ _ _ _ Tryz.underlying36 ?_
  rw [show Tryz.prog.cellsOf 36 = 25 by kernel_rfl]
  intro q hq
  match q, hq with
  | 0, _ => exact ⟨0, _, rfl, of_decide_eq_true (by kernel_rfl), of_decide_eq_true (by kernel_rfl), flat_int _ _ _ _ _ _ Tryz.underlying3 (by kernel_rfl)⟩
  | 1, _ => exact ⟨1, _, rfl, of_decide_eq_true (by kernel_rfl), of_decide_eq_true (by kernel_rfl), flat_int _ _ _ _ _ _ Tryz.underlying3 (by kernel_rfl)⟩
  | 2, _ => exact ⟨2, _, rfl, of_decide_eq_true (by kernel_rfl), of_decide_eq_true (by kernel_rfl), flat_int _ _ _ _ _ _ Tryz.underlying3 (by kernel_rfl)⟩
  | 3, _ => exact ⟨3, _, rfl, of_decide_eq_true (by kernel_rfl), of_decide_eq_true (by kernel_rfl), flat_int _ _ _ _ _ _ Tryz.underlying3 (by kernel_rfl)⟩
  | 4, _ => exact ⟨4, _, rfl, of_decide_eq_true (by kernel_rfl), of_decide_eq_true (by kernel_rfl), flat_int _ _ _ _ _ _ Tryz.underlying3 (by kernel_rfl)⟩
  | 5, _ => exact ⟨5, _, rfl, of_decide_eq_true (by kernel_rfl), of_decide_eq_true (by kernel_rfl), flat25 enc w base spare held⟩
  | 6, _ => exact ⟨5, _, rfl, of_decide_eq_true (by kernel_rfl), of_decide_eq_true (by kernel_rfl), flat25 enc w base spare held⟩
  | 7, _ => exact ⟨5, _, rfl, of_decide_eq_true (by kernel_rfl), of_decide_eq_true (by kernel_rfl), flat25 enc w base spare held⟩
  | 8, _ => exact ⟨5, _, rfl, of_decide_eq_true (by kernel_rfl), of_decide_eq_true (by kernel_rfl), flat25 enc w base spare held⟩
  | 9, _ => exact ⟨5, _, rfl, of_decide_eq_true (by kernel_rfl), of_decide_eq_true (by kernel_rfl), flat25 enc w base spare held⟩
  | 10, _ => exact ⟨6, _, rfl, of_decide_eq_true (by kernel_rfl), of_decide_eq_true (by kernel_rfl), flat29 enc w base spare held⟩
  | 11, _ => exact ⟨6, _, rfl, of_decide_eq_true (by kernel_rfl), of_decide_eq_true (by kernel_rfl), flat29 enc w base spare held⟩
  | 12, _ => exact ⟨6, _, rfl, of_decide_eq_true (by kernel_rfl), of_decide_eq_true (by kernel_rfl), flat29 enc w base spare held⟩
  | 13, _ => exact ⟨6, _, rfl, of_decide_eq_true (by kernel_rfl), of_decide_eq_true (by kernel_rfl), flat29 enc w base spare held⟩
  | 14, _ => exact ⟨6, _, rfl, of_decide_eq_true (by kernel_rfl), of_decide_eq_true (by kernel_rfl), flat29 enc w base spare held⟩
  | 15, _ => exact ⟨6, _, rfl, of_decide_eq_true (by kernel_rfl), of_decide_eq_true (by kernel_rfl), flat29 enc w base spare held⟩
  | 16, _ => exact ⟨6, _, rfl, of_decide_eq_true (by kernel_rfl), of_decide_eq_true (by kernel_rfl), flat29 enc w base spare held⟩
  | 17, _ => exact ⟨6, _, rfl, of_decide_eq_true (by kernel_rfl), of_decide_eq_true (by kernel_rfl), flat29 enc w base spare held⟩
  | 18, _ => exact ⟨7, _, rfl, of_decide_eq_true (by kernel_rfl), of_decide_eq_true (by kernel_rfl), flat31 enc w base spare held⟩
  | 19, _ => exact ⟨7, _, rfl, of_decide_eq_true (by kernel_rfl), of_decide_eq_true (by kernel_rfl), flat31 enc w base spare held⟩
  | 20, _ => exact ⟨7, _, rfl, of_decide_eq_true (by kernel_rfl), of_decide_eq_true (by kernel_rfl), flat31 enc w base spare held⟩
  | 21, _ => exact ⟨7, _, rfl, of_decide_eq_true (by kernel_rfl), of_decide_eq_true (by kernel_rfl), flat31 enc w base spare held⟩
  | 22, _ => exact ⟨7, _, rfl, of_decide_eq_true (by kernel_rfl), of_decide_eq_true (by kernel_rfl), flat31 enc w base spare held⟩
  | 23, _ => exact ⟨7, _, rfl, of_decide_eq_true (by kernel_rfl), of_decide_eq_true (by kernel_rfl), flat31 enc w base spare held⟩
  | 24, _ => exact ⟨7, _, rfl, of_decide_eq_true (by kernel_rfl), of_decide_eq_true (by kernel_rfl), flat31 enc w base spare held⟩
  | q + 25, hq => omega
end Go.Proofs.YtgjapdjidighlabGreat
