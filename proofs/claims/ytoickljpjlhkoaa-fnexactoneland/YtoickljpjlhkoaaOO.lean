/- One worlds that come in; conditions: those typed. -/
import Derived.Test.YtoickljpjlhkoaaOW
import Derived.Test.YtoickljpjlhkoaaOpen
import Derived.ChangeArms
import Derived.Deep.Slices
namespace Go.Proofs.Ytoickljpjlhkoaa
open Go.RowKit Go.Deep
set_option linter.unusedVariables false

open Go.ChangeShapes Go.WideShapes Go.ChangeAt
section
variable {H : Type} {enc : TypeId × Value → H} {P : Program} {w : World} {base : Nat} {spare : Nat → Bool} {held : Bool}
/-- Every cell of such a value is an integer, or a truth where bs says so. -/
def Mixed (enc : TypeId × Value → H) (P : Program) (w : World) (base : Nat) (spare : Nat → Bool) (held : Bool) (t : TypeId) (bs : Nat → Bool) : Prop := ∀ (fuel : Nat) (cs : List Value) (x : DataW H × List MemPlace), DataW.trod enc P w base spare held fuel t cs = some x →
  ∀ j, j < P.cellsOf t → ∃ u, cs[j]? = some u ∧ (if bs j = true then ∃ b, u = .bool b else ∃ z, u = .int .i64 z)
theorem mixed_int {t : TypeId} {bs : Nat → Bool} (hi : P.underlying t = some (.int .i64)) (h1 : P.cellsOf t = 1) (hb : bs 0 = false) : Mixed enc P w base spare held t bs := by
  intro fuel cs x h j hj
  obtain ⟨z, hz, _, _⟩ := DataW.trod_int hi h
  rw [h1] at hj
  obtain rfl : j = 0 := by omega
  exact ⟨.int .i64 z, by rw [hz]; rfl, by rw [hb]; exact ⟨z, rfl⟩⟩
theorem mixed_bool {t : TypeId} {bs : Nat → Bool} (hi : P.underlying t = some .bool) (h1 : P.cellsOf t = 1) (hb : bs 0 = true) : Mixed enc P w base spare held t bs := by
  intro fuel cs x h j hj
  obtain ⟨z, hz, _⟩ := DataW.trod_bool hi h
  rw [h1] at hj
  obtain rfl : j = 0 := by omega
  exact ⟨.bool z, by rw [hz]; rfl, by rw [hb]; exact ⟨z, rfl⟩⟩
theorem mixed_struct {t : TypeId} {gs : Array Field} {bs : Nat → Bool} (hs : P.underlying t = some (.struct gs))
    (hF : ∀ q, q < P.cellsOf t → ∃ (i : Nat) (f : Field), gs[i]? = some f ∧ f.offset ≤ q ∧ q < f.offset + P.cellsOf f.type ∧ Mixed enc P w base spare held f.type (fun j => bs (f.offset + j))) : Mixed enc P w base spare held t bs := by
  intro fuel cs x h q hq
  obtain ⟨xs, n, _, _, hl, hlen, hfld⟩ := DataW.trod_struct hs h
  obtain ⟨i, f, hg, h1, h2, hf⟩ := hF q hq
  have hi : i < gs.size := (Array.getElem?_eq_some_iff.1 hg).1
  have g := hfld i f hg
  rw [List.getElem?_eq_getElem (by rw [hlen]; exact hi)] at g
  obtain ⟨u, hz, hu⟩ := hf _ _ _ g (q - f.offset) (by omega)
  rw [List.getElem?_take_of_lt (by omega), List.getElem?_drop] at hz
  rw [show f.offset + (q - f.offset) = q by omega] at hz
  simp only [show f.offset + (q - f.offset) = q by omega] at hu
  exact ⟨u, hz, hu⟩
def trOf (v : Value) : Int := match v with | .bool true => 0 | .bool false => 1 | .int _ z => z | _ => 0
theorem cv_trOf {j : Nat} {u : Value} (h : if (j == 5) = true then ∃ b, u = .bool b else ∃ z, u = .int .i64 z) : u = P6.cv j (trOf u) := by
  unfold P6.cv
  by_cases hj : j = 5
  · subst hj
    simp at h
    rcases h with rfl | rfl <;> rfl
  · rw [if_neg (by simpa using hj)] at h
    obtain ⟨z, rfl⟩ := h
    rw [if_neg hj]; rfl
theorem open_rows {t e : TypeId} {a : Option Addr} {len cap : Nat} {dd : DataW H} {p : List MemPlace} (ht : P.underlying t = some (.slice e)) (hC : P.cellsOf e = 6) (he : Mixed enc P w base spare held e (fun j => j == 5))
    (h : DataW.Trod enc P w base spare held t (.slice a len cap) dd p) : len ≤ maxLen ∧ ∃ Z, P6.RowK w a len Z := by
  obtain ⟨fuel, hf⟩ := h
  rcases open_slice ht hf with ⟨hcs, _⟩ | ⟨x, l, c, m, n, D, Pl, hcs, _, hl, hm, hmm, _, hel⟩
  · simp [Value.cells] at hcs
    obtain ⟨rfl, rfl, rfl⟩ := hcs
    exact ⟨Nat.zero_le _, fun _ _ => 0, .inl rfl⟩
  · simp [Value.cells] at hcs
    obtain ⟨rfl, rfl, rfl⟩ := hcs
    refine ⟨Nat.le_trans hl hm, ?_⟩
    by_cases h0 : len = 0
    · exact ⟨fun _ _ => 0, .inl h0⟩
    have hlm : len ≤ m := by rw [hmm]; split <;> omega
    have hall : ∀ k j, k < len → j < 6 → ∃ u, w.cell? ((x.add (k * 6)).add j) = some u ∧ u = P6.cv j (trOf u) := by
      intro k j hk hj
      obtain ⟨cs', hcs', htr⟩ := hel k (by omega)
      rw [hC] at hcs'
      obtain ⟨_, hlen, hc⟩ := World.cells?_some hcs'
      obtain ⟨u, hz, hu⟩ := he _ _ _ htr j (by omega)
      exact ⟨u, by rw [← hz]; exact hc j hj, cv_trOf hu⟩
    obtain ⟨b, o, spot⟩ := x
    have hspot : spot = none := by
      obtain ⟨z, hz, _⟩ := hall 0 0 (by omega) (by omega)
      simpa [Addr.add] using World.cell?_spot hz
    subst hspot
    have hadd : ∀ k j, ((⟨b, o, none⟩ : Addr).add (k * 6)).add j = ⟨b, o + k * 6 + j, none⟩ := by
      intro k j
      unfold Addr.add
      split <;> split <;> simp_all
    have hblk : b < w.heap.size := by
      obtain ⟨z, hz, _⟩ := hall 0 0 (by omega) (by omega)
      exact World.block_lt_of_cell? w _ hz
    refine ⟨fun k j => trOf ((w.cell? ⟨b, o + k * 6 + j, none⟩).getD undef), .inr ⟨b, o, rfl, hblk, fun k j hk hj => ?_⟩⟩
    obtain ⟨u, hz, hu⟩ := hall k j hk hj
    rw [hadd] at hz
    simp only [hz, Option.getD_some]
    exact congrArg some hu
end
set_option maxRecDepth 10000 in
theorem mixed73 {H : Type} {enc : TypeId × Value → H} {w : World} {base : Nat} {spare : Nat → Bool} {held : Bool} : Mixed enc Try.prog w base spare held 73 (fun j => (0 + j) == 5) := by
  refine mixed_struct Try.underlying73 ?_
  rw [show Try.prog.cellsOf 73 = 5 by kernel_rfl]
  intro q hq
  match q, hq with
  | 0, _ => exact ⟨0, _, rfl, of_decide_eq_true (by kernel_rfl), of_decide_eq_true (by kernel_rfl), mixed_int Try.underlying3 (by kernel_rfl) rfl⟩
  | 1, _ => exact ⟨1, _, rfl, of_decide_eq_true (by kernel_rfl), of_decide_eq_true (by kernel_rfl), mixed_int Try.underlying3 (by kernel_rfl) rfl⟩
  | 2, _ => exact ⟨2, _, rfl, of_decide_eq_true (by kernel_rfl), of_decide_eq_true (by kernel_rfl), mixed_int Try.underlying3 (by kernel_rfl) rfl⟩
  | 3, _ => exact ⟨3, _, rfl, of_decide_eq_true (by kernel_rfl), of_decide_eq_true (by kernel_rfl), mixed_int Try.underlying3 (by kernel_rfl) rfl⟩
  | 4, _ => exact ⟨4, _, rfl, of_decide_eq_true (by kernel_rfl), of_decide_eq_true (by kernel_rfl), mixed_int Try.underlying3 (by kernel_rfl) rfl⟩
  | q + 5, hq => omega
set_option maxRecDepth 10000 in
theorem mixed75 {H : Type} {enc : TypeId × Value → H} {w : World} {base : Nat} {spare : Nat → Bool} {held : Bool} : Mixed enc Try.prog w base spare held 75 (fun j => j == 5) := by
  refine mixed_struct Try.underlying75 ?_
  rw [show Try.prog.cellsOf 75 = 6 by kernel_rfl]
  intro q hq
  match q, hq with
  | 0, _ => exact ⟨0, _, rfl, of_decide_eq_true (by kernel_rfl), of_decide_eq_true (by kernel_rfl), mixed73⟩
  | 1, _ => exact ⟨0, _, rfl, of_decide_eq_true (by kernel_rfl), of_decide_eq_true (by kernel_rfl), mixed73⟩
  | 2, _ => exact ⟨0, _, rfl, of_decide_eq_true (by kernel_rfl), of_decide_eq_true (by kernel_rfl), mixed73⟩
  | 3, _ => exact ⟨0, _, rfl, of_decide_eq_true (by kernel_rfl), of_decide_eq_true (by kernel_rfl), mixed73⟩
  | 4, _ => exact ⟨0, _, rfl, of_decide_eq_true (by kernel_rfl), of_decide_eq_true (by kernel_rfl), mixed73⟩
  | 5, _ => exact ⟨1, _, rfl, of_decide_eq_true (by kernel_rfl), of_decide_eq_true (by kernel_rfl), mixed_bool Try.underlying4 (by kernel_rfl) rfl⟩
  | q + 6, hq => omega
set_option maxRecDepth 10000 in
theorem mixed23 {H : Type} {enc : TypeId × Value → H} {w : World} {base : Nat} {spare : Nat → Bool} {held : Bool} : Mixed enc Try.prog w base spare held 23 (fun _ => false) := by
  refine mixed_struct Try.underlying23 ?_
  rw [show Try.prog.cellsOf 23 = 2 by kernel_rfl]
  intro q hq
  match q, hq with
  | 0, _ => exact ⟨0, _, rfl, of_decide_eq_true (by kernel_rfl), of_decide_eq_true (by kernel_rfl), mixed_int Try.underlying3 (by kernel_rfl) rfl⟩
  | 1, _ => exact ⟨1, _, rfl, of_decide_eq_true (by kernel_rfl), of_decide_eq_true (by kernel_rfl), mixed_int Try.underlying3 (by kernel_rfl) rfl⟩
  | q + 2, hq => omega

theorem open_rowA {H : Type} {enc : TypeId × Value → H} {P : Program} {w : World} {base : Nat} {spare : Nat → Bool} {held : Bool} {t e ti : TypeId} {fuel : Nat} {cs : List Value} {x : DataW H × List MemPlace} (ht : P.underlying t = some (.slice e)) (he : P.underlying e = some (.slice ti)) (h1 : P.cellsOf e = 1) (hi : P.underlying ti = some (.int .i64)) (hi1 : P.cellsOf ti = 1)
    (h : DataW.trod enc P w base spare held fuel t cs = some x) : ∃ a len cap N O, cs = [.slice a len cap] ∧ len ≤ maxLen ∧ (∀ k, k < len → N k ≤ maxLen) ∧ RowO w a len N O := by
  rcases open_slice1 ht h1 h with ⟨hcs, _⟩ | ⟨x, l, c, m, n, V, D, Pl, hcs, _, hl, hm, hmm, _, hel⟩
  · exact ⟨none, 0, 0, fun _ => 0, fun _ _ => 0, hcs, Nat.zero_le _, fun _ h => absurd h (by omega), .inl rfl⟩
  · by_cases h0 : l = 0
    · subst h0
      exact ⟨some x, 0, c, fun _ => 0, fun _ _ => 0, hcs, Nat.zero_le _, fun _ h => absurd h (by omega), .inl rfl⟩
    have hlm : l ≤ m := by rw [hmm]; split <;> omega
    obtain ⟨b, o, rfl, hb⟩ := spot_none (hel 0 (by omega)).1
    have hin : ∀ k, ∃ q : Nat × (Nat → Int), k < l → ∃ xa c, w.cell? ⟨b, o + k, none⟩ = some (.slice xa q.1 c) ∧ q.1 ≤ maxLen ∧ Row1 w xa q.1 q.2 := by
      intro k
      by_cases hk : k < l
      · obtain ⟨hc, htr⟩ := hel k (by omega)
        rw [add_none] at hc
        obtain ⟨xa, ln, cp, X, hV, hln, hX⟩ := open_row1 he hi hi1 htr
        have hV' : V k = .slice xa ln cp := by simpa using hV
        exact ⟨(ln, X), fun _ => ⟨xa, cp, by rw [hc, hV'], hln, hX⟩⟩
      · exact ⟨(0, fun _ => 0), fun h => absurd h hk⟩
    refine ⟨_, l, c, fun k => (Classical.choose (hin k)).1, fun k => (Classical.choose (hin k)).2, hcs, Nat.le_trans hl hm, fun k hk => ?_, .inr ⟨b, o, rfl, hb, fun k hk => ?_⟩⟩
    · obtain ⟨xa, c', _, h2, _⟩ := Classical.choose_spec (hin k) hk
      exact h2
    · obtain ⟨xa, c', h1', _, h3⟩ := Classical.choose_spec (hin k) hk
      exact ⟨xa, c', h1', h3⟩

set_option maxRecDepth 10000 in
theorem open_one {H : Type} {enc : TypeId × Value → H} {w : World} {base b0 : Nat} {spare : Nat → Bool} {held : Bool} {r : Reach} {v : Value} {dd : DataW H} {p : List MemPlace} (hv : Value.okWide Try.prog w r b0 28 v)
    (h : DataW.Trod enc Try.prog w base spare held 28 v dd p) : ∃ V, OneAt w v V ∧ V.short maxLen := by
  obtain ⟨cs, rfl, hsz⟩ := okWide_struct Try.underlying28 hv
  obtain ⟨fuel, hf⟩ := h
  obtain ⟨xs, n, _, _, hl, hlen, hfld⟩ := DataW.trod_struct Try.underlying28 hf
  have h5 : Try.prog.cellsOf 28 = 5 := by kernel_rfl
  rw [h5] at hsz
  obtain ⟨u0, u1, u2, u3, u4, rfl⟩ : ∃ u0 u1 u2 u3 u4, cs = #[u0, u1, u2, u3, u4] := by
    obtain ⟨l⟩ := cs
    match l, hsz with
    | [u0, u1, u2, u3, u4], _ => exact ⟨u0, u1, u2, u3, u4, rfl⟩
  have hx : xs.length = 4 := hlen
  obtain ⟨y0, hy0⟩ : ∃ y, xs[0]? = some y := ⟨_, List.getElem?_eq_getElem (by rw [hx]; decide)⟩
  have g0 : DataW.trod enc Try.prog w base spare held n 23 (List.take (Try.prog.cellsOf 23) (List.drop 0 [u0, u1, u2, u3, u4])) = xs[0]? := hfld 0 _ rfl
  rw [show List.take (Try.prog.cellsOf 23) (List.drop 0 [u0, u1, u2, u3, u4]) = [u0, u1] by rw [show Try.prog.cellsOf 23 = 2 by kernel_rfl]; rfl, hy0] at g0
  obtain ⟨y1, hy1⟩ : ∃ y, xs[1]? = some y := ⟨_, List.getElem?_eq_getElem (by rw [hx]; decide)⟩
  have g1 : DataW.trod enc Try.prog w base spare held n 24 (List.take (Try.prog.cellsOf 24) (List.drop 2 [u0, u1, u2, u3, u4])) = xs[1]? := hfld 1 _ rfl
  rw [show List.take (Try.prog.cellsOf 24) (List.drop 2 [u0, u1, u2, u3, u4]) = [u2] by rw [show Try.prog.cellsOf 24 = 1 by kernel_rfl]; rfl, hy1] at g1
  obtain ⟨y2, hy2⟩ : ∃ y, xs[2]? = some y := ⟨_, List.getElem?_eq_getElem (by rw [hx]; decide)⟩
  have g2 : DataW.trod enc Try.prog w base spare held n 25 (List.take (Try.prog.cellsOf 25) (List.drop 3 [u0, u1, u2, u3, u4])) = xs[2]? := hfld 2 _ rfl
  rw [show List.take (Try.prog.cellsOf 25) (List.drop 3 [u0, u1, u2, u3, u4]) = [u3] by rw [show Try.prog.cellsOf 25 = 1 by kernel_rfl]; rfl, hy2] at g2
  obtain ⟨y3, hy3⟩ : ∃ y, xs[3]? = some y := ⟨_, List.getElem?_eq_getElem (by rw [hx]; decide)⟩
  have g3 : DataW.trod enc Try.prog w base spare held n 26 (List.take (Try.prog.cellsOf 26) (List.drop 4 [u0, u1, u2, u3, u4])) = xs[3]? := hfld 3 _ rfl
  rw [show List.take (Try.prog.cellsOf 26) (List.drop 4 [u0, u1, u2, u3, u4]) = [u4] by rw [show Try.prog.cellsOf 26 = 1 by kernel_rfl]; rfl, hy3] at g3
  have c2 : Try.prog.cellsOf 23 = 2 := by kernel_rfl
  obtain ⟨m0, e0, z0⟩ := mixed23 _ _ _ g0 0 (by rw [c2]; omega)
  obtain ⟨m1, e1, z1⟩ := mixed23 _ _ _ g0 1 (by rw [c2]; omega)
  rw [if_neg (by simp)] at z0 z1
  obtain ⟨zc, rfl⟩ := z0
  obtain ⟨zd, rfl⟩ := z1
  obtain rfl : u0 = .int .i64 zc := by simpa using e0
  obtain rfl : u1 = .int .i64 zd := by simpa using e1
  obtain ⟨aG, nG, kG, G, eG, lG, rG⟩ := open_row1 Try.underlying25 Try.underlying3 (by kernel_rfl) g2
  obtain rfl : u3 = .slice aG nG kG := by simpa using eG
  obtain ⟨aA, nA, kA, N, O, eA, lA, lN, rA⟩ := open_rowA Try.underlying26 Try.underlying25 (by kernel_rfl) Try.underlying3 (by kernel_rfl) g3
  obtain rfl : u4 = .slice aA nA kA := by simpa using eA
  obtain ⟨aW, nW, kW, rfl⟩ : ∃ a n k, u2 = .slice a n k := by
    rcases open_slice Try.underlying24 g1 with ⟨hcs, _⟩ | ⟨x, l, c, m, n', D, Pl, hcs, _⟩
    · exact ⟨none, 0, 0, by simpa using hcs⟩
    · exact ⟨some x, l, c, by simpa using hcs⟩
  obtain ⟨lW, Z, rW⟩ := open_rows (a := aW) (len := nW) (cap := kW) Try.underlying24 (by kernel_rfl) mixed75 (dd := y1.1) (p := y1.2) ⟨n, g1⟩
  exact ⟨⟨zc, zd, nW, Z, nG, G, nA, N, O⟩, ⟨aW, kW, aG, kG, aA, kA, rfl, rW, rG, rA⟩, lW, lG, lA, lN⟩
end Go.Proofs.Ytoickljpjlhkoaa
