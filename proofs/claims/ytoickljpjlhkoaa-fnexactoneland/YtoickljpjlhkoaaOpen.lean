/- A slice of structs of five integers that came in: where its numbers lie; no Go text in sight; conditions: none beyond those typed. -/
import Derived.Test.YtoickljpjlhkoaaKit
import Derived.Deep.Slices
namespace Go.Proofs.Ytoickljpjlhkoaa
open Go.RowKit Go.ChangeShapes Go.WideShapes Go.ChangeAt Go.Deep

theorem cells_ints {H : Type} {enc : TypeId × Value → H} {P : Program} {w : World} {base : Nat} {spare : Nat → Bool} {held : Bool} {fuel : Nat} {t ti : TypeId} {fs : Array Field} {k : IntKind} {cs : List Value} {x : DataW H × List MemPlace}
    (hs : P.underlying t = some (.struct fs)) (hi : P.underlying ti = some (.int k)) (h1 : P.cellsOf ti = 1) (hC : P.cellsOf t = fs.size)
    (hoff : ∀ (i : Nat) (f : Field), fs[i]? = some f → f.offset = i ∧ f.type = ti)
    (hf : DataW.trod enc P w base spare held fuel t cs = some x) : ∀ i, i < fs.size → ∃ z, cs[i]? = some (.int k z) ∧ (Lit.int k z).wf = true := by
  obtain ⟨xs, n, _, _, hl, hlen, hfld⟩ := DataW.trod_struct hs hf
  intro i hlt
  have hg : fs[i]? = some fs[i] := by simp [hlt]
  obtain ⟨ho, hty⟩ := hoff i _ hg
  have := hfld i _ hg
  rw [ho, hty, h1] at this
  have hx : ∃ x, xs[i]? = some x := ⟨xs[i], by simp [hlen, hlt]⟩
  obtain ⟨x, hx⟩ := hx
  rw [hx] at this
  obtain ⟨z, hz, _, hw⟩ := DataW.trod_int hi this
  refine ⟨z, ?_, hw⟩
  have hlt' : i < cs.length := by rw [hl, hC]; exact hlt
  have : (cs.drop i).take 1 = [cs[i]] := by
    rw [List.drop_eq_getElem_cons hlt', List.take_succ_cons, List.take_zero]
  rw [this] at hz
  rw [List.getElem?_eq_getElem hlt']
  simpa using hz

/-- In w there lie n structs of five integers, from a on: the k-th one's fields are Z k 0 .. Z k 4. -/
def Row5 (w : World) (a : Option Addr) (n : Nat) (Z : Nat → Nat → Int) : Prop :=
  n = 0 ∨ ∃ b o, a = some ⟨b, o, none⟩ ∧ b < w.heap.size ∧ ∀ k j, k < n → j < 5 → w.cell? ⟨b, o + k * 5 + j, none⟩ = some (.int .i64 (Z k j))

theorem open_row5 {H : Type} {enc : TypeId × Value → H} {P : Program} {w : World} {base : Nat} {spare : Nat → Bool} {held : Bool} {t e ti : TypeId} {fs : Array Field} {a : Option Addr} {len cap : Nat} {d : DataW H} {p : List MemPlace}
    (ht : P.underlying t = some (.slice e)) (hs : P.underlying e = some (.struct fs)) (hi : P.underlying ti = some (.int .i64)) (h1 : P.cellsOf ti = 1) (hC : P.cellsOf e = 5) (hsz : fs.size = 5)
    (hoff : ∀ (i : Nat) (f : Field), fs[i]? = some f → f.offset = i ∧ f.type = ti)
    (h : DataW.Trod enc P w base spare held t (.slice a len cap) d p) : len ≤ maxLen ∧ ∃ Z, Row5 w a len Z ∧ ∀ k j, k < len → j < 5 → (Lit.int .i64 (Z k j)).wf = true := by
  obtain ⟨fuel, hf⟩ := h
  rcases open_slice ht hf with ⟨hcs, _⟩ | ⟨x, l, c, m, n, D, Pl, hcs, _, hl, hm, hmm, _, hel⟩
  · simp [Value.cells] at hcs
    obtain ⟨rfl, rfl, rfl⟩ := hcs
    exact ⟨Nat.zero_le _, fun _ _ => 0, .inl rfl, fun _ _ h => absurd h (by omega)⟩
  · simp [Value.cells] at hcs
    obtain ⟨rfl, rfl, rfl⟩ := hcs
    refine ⟨Nat.le_trans hl hm, ?_⟩
    by_cases h0 : len = 0
    · exact ⟨fun _ _ => 0, .inl h0, fun _ _ h => absurd h (by omega)⟩
    have hlm : len ≤ m := by rw [hmm]; split <;> omega
    have hall : ∀ k j, k < len → j < 5 → ∃ z, w.cell? ((x.add (k * 5)).add j) = some (.int .i64 z) ∧ (Lit.int .i64 z).wf = true := by
      intro k j hk hj
      obtain ⟨cs', hcs', htr⟩ := hel k (by omega)
      rw [hC] at hcs'
      obtain ⟨_, hlen, hc⟩ := World.cells?_some hcs'
      obtain ⟨z, hz, hzw⟩ := cells_ints hs hi h1 (by rw [hC, hsz]) hoff htr j (by omega)
      refine ⟨z, ?_, hzw⟩
      rw [← hz]
      exact hc j hj
    obtain ⟨b, o, spot⟩ := x
    have hspot : spot = none := by
      obtain ⟨z, hz, _⟩ := hall 0 0 (by omega) (by omega)
      simpa [Addr.add] using World.cell?_spot hz
    subst hspot
    have hadd : ∀ k j, ((⟨b, o, none⟩ : Addr).add (k * 5)).add j = ⟨b, o + k * 5 + j, none⟩ := by
      intro k j
      unfold Addr.add
      split <;> split <;> simp_all
    have hblk : b < w.heap.size := by
      obtain ⟨z, hz, _⟩ := hall 0 0 (by omega) (by omega)
      exact World.block_lt_of_cell? w _ hz
    refine ⟨fun k j => match w.cell? ⟨b, o + k * 5 + j, none⟩ with | some (.int _ z) => z | _ => 0, .inr ⟨b, o, rfl, hblk, ?_⟩, ?_⟩
    · intro k j hk hj
      obtain ⟨z, hz, _⟩ := hall k j hk hj
      rw [hadd] at hz
      simp only [hz]
    · intro k j hk hj
      obtain ⟨z, hz, hzw⟩ := hall k j hk hj
      rw [hadd] at hz
      simp only [hz]
      exact hzw
end Go.Proofs.Ytoickljpjlhkoaa
