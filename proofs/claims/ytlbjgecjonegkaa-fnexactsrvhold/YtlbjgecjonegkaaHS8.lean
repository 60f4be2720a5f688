/- SrvOk of the law FnExactSrvOk: servers that come in; conditions: the holds and ghosts lie in memory. -/
import Derived.Test.YtlbjgecjonegkaaHS6
import Derived.Deep.Slices
import Derived.ChangeArms
namespace Go.Proofs.Ytlbjgecjonegkaa
open Go.RowKit Go.Deep
set_option linter.unusedVariables false
open Go.ChangeShapes Go.WideShapes Go.ChangeAt
section
variable {H : Type} {enc : TypeId × Value → H} {P : Program} {w : World} {base : Nat} {spare : Nat → Bool} {held : Bool}
variable {tw8 ti : TypeId} {fs5 : Array Field} {g0 g1 g2 g3 : Field}
def hv0 : HV := ⟨0, 0, ⟨0, 0, fun _ _ => 0, 0, 0, fun _ => 0, fun _ _ _ => 0, 0, fun _ => 0, 0, fun _ => 0⟩⟩
theorem open_holdA {th t tW e5 tO eO p tX : TypeId} {k0 k1 k2 f0 f1 f2 f3 f4 f5 : Field} {q5 : Array Field} {cs : Array Value} {d : DataW H} {pl : List MemPlace}
    (hth : P.underlying th = some (.struct #[k0, k1, k2])) (hcth : P.cellsOf th = 8) (p0 : k0.offset = 0 ∧ k0.type = ti) (p1 : k1.offset = 1 ∧ k1.type = ti) (p2 : k2.offset = 2 ∧ k2.type = t)
    (ht : P.underlying t = some (.struct #[f0, f1, f2, f3, f4, f5])) (hct : P.cellsOf t = 6)
    (q0 : f0.offset = 0 ∧ f0.type = ti) (q1 : f1.offset = 1 ∧ f1.type = tW) (q2 : f2.offset = 2 ∧ f2.type = ti) (q3 : f3.offset = 3 ∧ f3.type = tO) (q4 : f4.offset = 4 ∧ f4.type = tX) (q5' : f5.offset = 5 ∧ f5.type = tX)
    (hW : P.underlying tW = some (.slice e5)) (hW5 : P.underlying e5 = some (.struct q5)) (hc5 : P.cellsOf e5 = 5) (hsz5 : q5.size = 5) (hoff5 : ∀ (i : Nat) (f : Field), q5[i]? = some f → f.offset = i ∧ f.type = ti)
    (hX : P.underlying tX = some (.slice ti)) (hcW : P.cellsOf tW = 1) (hcO : P.cellsOf tO = 1) (hcX : P.cellsOf tX = 1)
    (hO : P.underlying tO = some (.slice eO)) (he : P.underlying eO = some (.slice p)) (h1 : P.cellsOf eO = 1)
    (hs : P.underlying p = some (.struct #[g0, g1, g2, g3])) (hw5 : P.underlying tw8 = some (.struct fs5)) (hi : P.underlying ti = some (.int .i64)) (hi1 : P.cellsOf ti = 1) (hC : P.cellsOf p = 8) (hC5 : P.cellsOf tw8 = 5) (hsz : fs5.size = 5)
    (hoff : ∀ (i : Nat) (f : Field), fs5[i]? = some f → f.offset = i ∧ f.type = ti)
    (o0 : g0.offset = 0 ∧ g0.type = ti) (o1 : g1.offset = 1 ∧ g1.type = ti) (o2 : g2.offset = 2 ∧ g2.type = tw8) (o3 : g3.offset = 7 ∧ g3.type = ti)
    (h : DataW.Trod enc P w base spare held th (.agg cs) d pl) : ∃ ag ct V, HoldAt w (.agg cs) ag ct V ∧ V.short maxLen := by
  obtain ⟨fuel, hf⟩ := h
  obtain ⟨xs, n, _, _, hl, hlen, hfld⟩ := DataW.trod_struct hth hf
  simp only [Value.cells] at hl hfld
  rw [hcth] at hl
  have t0 := hfld 0 k0 rfl
  have t1 := hfld 1 k1 rfl
  have t2 := hfld 2 k2 rfl
  have hx : ∀ i, i < 3 → ∃ y, xs[i]? = some y := fun i hi => ⟨xs[i]'(by rw [hlen]; exact hi), List.getElem?_eq_getElem (by rw [hlen]; exact hi)⟩
  obtain ⟨y0, e0⟩ := hx 0 (by omega)
  obtain ⟨y1, e1⟩ := hx 1 (by omega)
  obtain ⟨y2, e2⟩ := hx 2 (by omega)
  rw [e0, p0.1, p0.2, hi1] at t0
  rw [e1, p1.1, p1.2, hi1] at t1
  rw [e2, p2.1, p2.2, hct] at t2
  obtain ⟨z0, u0, _, _⟩ := DataW.trod_int hi t0
  obtain ⟨z1, u1, _, _⟩ := DataW.trod_int hi t1
  have T2 : DataW.Trod enc P w base spare held t (.agg ((cs.toList.drop 2).take 6).toArray) y2.1 y2.2 := ⟨n, t2⟩
  obtain ⟨V, ⟨aW, kW, aO, kO, aX, kX, aI, kI, ev, rW, rO, rX, rI⟩, hV, _⟩ := open_cellA ht hct q0 q1 q2 q3 q4 q5' hW hW5 hc5 hsz5 hoff5 hX hcW hcO hcX hO he h1 hs hw5 hi hi1 hC hC5 hsz hoff o0 o1 o2 o3 T2
  refine ⟨z0, z1, V, ⟨aW, kW, aO, kO, aX, kX, aI, kI, ?_, rW, rO, rX, rI⟩, hV⟩
  congr 1
  apply Array.ext'
  have ev2 : (cs.toList.drop 2).take 6 = [.int .i64 V.c, .slice aW V.nW kW, .int .i64 V.g, .slice aO V.nO kO, .slice aX V.nX kX, .slice aI V.nI kI] := by
    have := congrArg (fun v => match v with | .agg a => a.toList | _ => []) ev
    simpa using this
  have u0' : cs.toList.take 1 = [.int .i64 z0] := by simpa using u0
  have u1' : (cs.toList.drop 1).take 1 = [.int .i64 z1] := by simpa using u1
  have q1 : cs.toList = cs.toList.take 1 ++ ((cs.toList.drop 1).take 1 ++ ((cs.toList.drop 2).take 6)) := by
    have a1 : (cs.toList.drop 2).take 6 = cs.toList.drop 2 := List.take_of_length_le (by simp at hl ⊢; omega)
    rw [a1, show cs.toList.drop 2 = (cs.toList.drop 1).drop 1 by rw [List.drop_drop], List.take_append_drop, List.take_append_drop]
  rw [q1, u0', u1', ev2]
  rfl
theorem open_holds {ts : TypeId} {th t tW e5 tO eO p tX : TypeId} {k0 k1 k2 f0 f1 f2 f3 f4 f5 : Field} {q5 : Array Field} {a : Option Addr} {len cap : Nat} {dd : DataW H} {pl : List MemPlace} (hts : P.underlying ts = some (.slice th)) (hth : P.underlying th = some (.struct #[k0, k1, k2])) (hcth : P.cellsOf th = 8) (p0 : k0.offset = 0 ∧ k0.type = ti) (p1 : k1.offset = 1 ∧ k1.type = ti) (p2 : k2.offset = 2 ∧ k2.type = t)
    (ht : P.underlying t = some (.struct #[f0, f1, f2, f3, f4, f5])) (hct : P.cellsOf t = 6)
    (q0 : f0.offset = 0 ∧ f0.type = ti) (q1 : f1.offset = 1 ∧ f1.type = tW) (q2 : f2.offset = 2 ∧ f2.type = ti) (q3 : f3.offset = 3 ∧ f3.type = tO) (q4 : f4.offset = 4 ∧ f4.type = tX) (q5' : f5.offset = 5 ∧ f5.type = tX)
    (hW : P.underlying tW = some (.slice e5)) (hW5 : P.underlying e5 = some (.struct q5)) (hc5 : P.cellsOf e5 = 5) (hsz5 : q5.size = 5) (hoff5 : ∀ (i : Nat) (f : Field), q5[i]? = some f → f.offset = i ∧ f.type = ti)
    (hX : P.underlying tX = some (.slice ti)) (hcW : P.cellsOf tW = 1) (hcO : P.cellsOf tO = 1) (hcX : P.cellsOf tX = 1)
    (hO : P.underlying tO = some (.slice eO)) (he : P.underlying eO = some (.slice p)) (h1 : P.cellsOf eO = 1)
    (hs : P.underlying p = some (.struct #[g0, g1, g2, g3])) (hw5 : P.underlying tw8 = some (.struct fs5)) (hi : P.underlying ti = some (.int .i64)) (hi1 : P.cellsOf ti = 1) (hC : P.cellsOf p = 8) (hC5 : P.cellsOf tw8 = 5) (hsz : fs5.size = 5)
    (hoff : ∀ (i : Nat) (f : Field), fs5[i]? = some f → f.offset = i ∧ f.type = ti)
    (o0 : g0.offset = 0 ∧ g0.type = ti) (o1 : g1.offset = 1 ∧ g1.type = ti) (o2 : g2.offset = 2 ∧ g2.type = tw8) (o3 : g3.offset = 7 ∧ g3.type = ti)
    
    (h : DataW.Trod enc P w base spare held ts (.slice a len cap) dd pl) : len ≤ maxLen ∧ ∃ F, HRow w a len F ∧ ∀ k, k < len → (F k).V.short maxLen := by
  obtain ⟨fuel, hf⟩ := h
  rcases open_slice hts hf with ⟨hcs, _⟩ | ⟨x, l, c, m, n, D, Pl, hcs, _, hl, hm, hmm, _, hel⟩
  · simp [Value.cells] at hcs
    obtain ⟨rfl, rfl, rfl⟩ := hcs
    exact ⟨Nat.zero_le _, fun _ => hv0, .inl rfl, fun _ h => absurd h (by omega)⟩
  · simp [Value.cells] at hcs
    obtain ⟨rfl, rfl, rfl⟩ := hcs
    refine ⟨Nat.le_trans hl hm, ?_⟩
    by_cases h0 : len = 0
    · exact ⟨fun _ => hv0, .inl h0, fun _ h => absurd h (by omega)⟩
    have hlm : len ≤ m := by rw [hmm]; split <;> omega
    have hall : ∀ k, k < len → ∃ cs' : List Value, (∀ j, j < 8 → w.cell? ((x.add (k * 8)).add j) = cs'[j]?) ∧ ∃ ag ct V, HoldAt w (.agg cs'.toArray) ag ct V ∧ V.short maxLen := by
      intro k hk
      obtain ⟨cs', hcs', htr⟩ := hel k (by omega)
      rw [hcth] at hcs'
      obtain ⟨_, hlen, hc⟩ := World.cells?_some hcs'
      exact ⟨cs', fun j hj => hc j hj, open_holdA hth hcth p0 p1 p2 ht hct q0 q1 q2 q3 q4 q5' hW hW5 hc5 hsz5 hoff5 hX hcW hcO hcX hO he h1 hs hw5 hi hi1 hC hC5 hsz hoff o0 o1 o2 o3 (pl := _) ⟨_, htr⟩⟩
    obtain ⟨b, o, spot⟩ := x
    have hcell : ∀ k, k < len → ∃ z, w.cell? (((⟨b, o, spot⟩ : Addr).add (k * 8)).add 0) = some z := by
      intro k hk
      obtain ⟨cs', hc, ag, ct, V, ⟨aW, kW, aO, kO, aX, kX, aI, kI, e, _⟩, _⟩ := hall k hk
      have ev : cs' = [.int .i64 ag, .int .i64 ct, .int .i64 V.c, .slice aW V.nW kW, .int .i64 V.g, .slice aO V.nO kO, .slice aX V.nX kX, .slice aI V.nI kI] := by
        have := congrArg (fun v => match v with | .agg a => a.toList | _ => []) e
        simpa using this
      exact ⟨_, (hc 0 (by omega)).trans (by rw [ev]; rfl)⟩
    have hspot : spot = none := by
      obtain ⟨z, hz⟩ := hcell 0 (by omega)
      simpa [Addr.add] using World.cell?_spot hz
    subst hspot
    have hadd : ∀ k j, ((⟨b, o, none⟩ : Addr).add (k * 8)).add j = ⟨b, o + k * 8 + j, none⟩ := by
      intro k j
      unfold Addr.add
      split <;> split <;> simp_all
    have hblk : b < w.heap.size := by
      obtain ⟨z, hz⟩ := hcell 0 (by omega)
      exact World.block_lt_of_cell? w _ hz
    have hx : ∀ k, k < len → ∃ X : HV, HSpot w b (o + k * 8) X ∧ X.V.short maxLen := by
      intro k hk
      obtain ⟨cs', hc, ag, ct, V, ⟨aW, kW, aO, kO, aX, kX, aI, kI, e, rW, rO, rX, rI⟩, hV⟩ := hall k hk
      have ev : cs' = [.int .i64 ag, .int .i64 ct, .int .i64 V.c, .slice aW V.nW kW, .int .i64 V.g, .slice aO V.nO kO, .slice aX V.nX kX, .slice aI V.nI kI] := by
        have := congrArg (fun v => match v with | .agg a => a.toList | _ => []) e
        simpa using this
      have cj : ∀ j, j < 8 → w.cell? ⟨b, o + k * 8 + j, none⟩ = cs'[j]? := fun j hj => by rw [← hadd]; exact hc j hj
      rw [ev] at cj
      exact ⟨⟨ag, ct, V⟩, ⟨aW, kW, aO, kO, aX, kX, aI, kI, ⟨cj 0 (by omega), cj 1 (by omega), cj 2 (by omega), cj 3 (by omega), cj 4 (by omega), cj 5 (by omega), cj 6 (by omega), cj 7 (by omega)⟩, rW, rO, rX, rI⟩, hV⟩
    obtain ⟨F, hF⟩ : ∃ F : Nat → HV, ∀ k, k < len → HSpot w b (o + k * 8) (F k) ∧ (F k).V.short maxLen := ⟨fun k => if h : k < len then (hx k h).choose else hv0, fun k hk => by simp only [dif_pos hk]; exact (hx k hk).choose_spec⟩
    exact ⟨F, .inr ⟨b, o, rfl, hblk, fun k hk => (hF k hk).1⟩, fun k hk => (hF k hk).2⟩
theorem open_ghosts {t e tw ti : TypeId} {f0 f1 f2 : Field} {q5 : Array Field} {a : Option Addr} {len cap : Nat} {dd : DataW H} {p : List MemPlace} (ht : P.underlying t = some (.slice e))
    (he : P.underlying e = some (.struct #[f0, f1, f2])) (hC : P.cellsOf e = 7) (o0 : f0.offset = 0 ∧ f0.type = ti) (o1 : f1.offset = 1 ∧ f1.type = ti) (o2 : f2.offset = 2 ∧ f2.type = tw)
    (hw : P.underlying tw = some (.struct q5)) (hcw : P.cellsOf tw = 5) (hsz : q5.size = 5) (hoff : ∀ (i : Nat) (f : Field), q5[i]? = some f → f.offset = i ∧ f.type = ti)
    (hi : P.underlying ti = some (.int .i64)) (hi1 : P.cellsOf ti = 1)
    (h : DataW.Trod enc P w base spare held t (.slice a len cap) dd p) : len ≤ maxLen ∧ ∃ Z, P7.RowK w a len Z := by
  obtain ⟨fuel, hf⟩ := h
  rcases open_slice ht hf with ⟨hcs, _⟩ | ⟨x, l, c, m, n, D, Pl, hcs, _, hl, hm, hmm, _, hel⟩
  · simp [Value.cells] at hcs
    obtain ⟨rfl, rfl, rfl⟩ := hcs
    exact ⟨Nat.zero_le _, fun _ _ => 0, .inl rfl⟩
  · simp [Value.cells] at hcs
    obtain ⟨rfl, rfl, rfl⟩ := hcs
    refine ⟨Nat.le_trans hl hm, ?_⟩
    by_cases h0 : len = 0
    · exact ⟨fun _ _ => 0, .inl h0⟩
    have hlm : len ≤ m := by rw [hmm]; split <;> omega
    have hall : ∀ k j, k < len → j < 7 → ∃ z, w.cell? ((x.add (k * 7)).add j) = some (.int .i64 z) := by
      intro k j hk hj
      obtain ⟨cs', hcs', htr⟩ := hel k (by omega)
      rw [hC] at hcs'
      obtain ⟨_, hlen, hc⟩ := World.cells?_some hcs'
      obtain ⟨z, hz, _⟩ := (trod_ghost he hC o0 o1 o2 hw hcw hsz hoff hi hi1 htr).2 j hj
      exact ⟨z, by rw [← hz]; exact hc j hj⟩
    obtain ⟨b, o, spot⟩ := x
    have hspot : spot = none := by
      obtain ⟨z, hz⟩ := hall 0 0 (by omega) (by omega)
      simpa [Addr.add] using World.cell?_spot hz
    subst hspot
    have hadd : ∀ k j, ((⟨b, o, none⟩ : Addr).add (k * 7)).add j = ⟨b, o + k * 7 + j, none⟩ := by
      intro k j
      unfold Addr.add
      split <;> split <;> simp_all
    have hblk : b < w.heap.size := by
      obtain ⟨z, hz⟩ := hall 0 0 (by omega) (by omega)
      exact World.block_lt_of_cell? w _ hz
    refine ⟨fun k j => match w.cell? ⟨b, o + k * 7 + j, none⟩ with | some (.int _ z) => z | _ => 0, .inr ⟨b, o, rfl, hblk, fun k j hk hj => ?_⟩⟩
    obtain ⟨z, hz⟩ := hall k j hk hj
    rw [hadd] at hz
    simp only [hz]
end
end Go.Proofs.Ytlbjgecjonegkaa
