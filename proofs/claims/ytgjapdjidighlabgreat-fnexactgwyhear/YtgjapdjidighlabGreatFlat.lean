/- Structs all of whose cells are integers, however they lie within each other; no Go text in sight; conditions: none beyond those typed. -/
import Derived.Test.YtgjapdjidighlabGreatKit
import Derived.OpenShut
import Derived.Deep.Slices
namespace Go.Proofs.YtgjapdjidighlabGreat
open Go.RowKit Go.ChangeShapes Go.WideShapes Go.ChangeAt Go.Deep
section
variable {H : Type} (enc : TypeId × Value → H) (P : Program) (w : World) (base : Nat) (spare : Nat → Bool) (held : Bool)
def Flat (t : TypeId) : Prop := ∀ (fuel : Nat) (cs : List Value) (x : DataW H × List MemPlace), DataW.trod enc P w base spare held fuel t cs = some x →
  ∀ j, j < P.cellsOf t → ∃ z, cs[j]? = some (.int .i64 z)
theorem flat_int {t : TypeId} (hi : P.underlying t = some (.int .i64)) (h1 : P.cellsOf t = 1) : Flat enc P w base spare held t := by
  intro fuel cs x h j hj
  obtain ⟨z, hz, _, _⟩ := DataW.trod_int hi h
  rw [h1] at hj
  obtain rfl : j = 0 := by omega
  exact ⟨z, by rw [hz]; rfl⟩
theorem flat_struct {t : TypeId} {gs : Array Field} (hs : P.underlying t = some (.struct gs))
    (hF : ∀ q, q < P.cellsOf t → ∃ (i : Nat) (f : Field), gs[i]? = some f ∧ f.offset ≤ q ∧ q < f.offset + P.cellsOf f.type ∧ Flat enc P w base spare held f.type) : Flat enc P w base spare held t := by
  intro fuel cs x h q hq
  obtain ⟨xs, n, _, _, hl, hlen, hfld⟩ := DataW.trod_struct hs h
  obtain ⟨i, f, hg, h1, h2, hf⟩ := hF q hq
  have hi : i < gs.size := (Array.getElem?_eq_some_iff.1 hg).1
  have g := hfld i f hg
  rw [List.getElem?_eq_getElem (by rw [hlen]; exact hi)] at g
  obtain ⟨z, hz⟩ := hf _ _ _ g (q - f.offset) (by omega)
  refine ⟨z, ?_⟩
  rw [List.getElem?_take_of_lt (by omega), List.getElem?_drop] at hz
  rwa [show f.offset + (q - f.offset) = q by omega] at hz
end
end Go.Proofs.YtgjapdjidighlabGreat
