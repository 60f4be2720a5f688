/- A cell of one's own, changed: the ground, the next number from a side, the walkers; conditions: none beyond those typed. -/
import Derived.Test.YtjmjffhommlbnaaGreatIn7
namespace Go.Proofs.YtjmjffhommlbnaaGreat
open Go.RowKit Go.Deep
set_option linter.unusedVariables false

theorem OwnC.more {lo lo' hi hi' : Nat} {w w' : World} {v : Value} {V : CV} (h : OwnC lo hi w v V) (h0 : lo' ≤ lo) (h1 : hi ≤ hi') (h2 : hi' ≤ w'.heap.size) (k : ∀ b, lo ≤ b → b < hi → Sm w w' b) : OwnC lo' hi' w' v V := by
  obtain ⟨vW, vO, vX, vI, gW, gO, gX, gI, sl, xs, e, rW, rO, rX, rI, hd, hx1, hx2⟩ := h
  refine ⟨vW, vO, vX, vI, gW, gO, gX, gI, sl, xs, e, rW.go h0 h1 h2 (fun _ => k _), ?_, rX.go h0 h1 h2 (fun _ => k _), rI.go h0 h1 h2 (fun _ => k _), hd, hx1, hx2⟩
  rcases rO with r | ⟨co, e1, l1, l2, l3, hc⟩
  · exact .inl r
  · exact .inr ⟨co, e1, by omega, by omega, h2, fun j hj => ⟨(k gO l1 l2 j).1.trans (hc j hj).1, (hc j hj).2.go h0 h1 h2 (fun _ => k _)⟩⟩
theorem OwnC.gr {lo hi : Nat} {w : World} {x0 x1 x2 x3 x4 x5 : Value} {V : CV} (h : OwnC lo hi w (.agg #[x0, x1, x2, x3, x4, x5]) V) (z : Int) : OwnC lo hi w (.agg #[.int .i64 V.c, x1, .int .i64 z, x3, x4, x5]) { V with g := z } := by
  obtain ⟨vW, vO, vX, vI, gW, gO, gX, gI, sl, xs, e, rW, rO, rX, rI, hd, hx1, hx2⟩ := h
  obtain ⟨rfl, rfl, rfl, rfl⟩ := agg6 e
  exact ⟨_, _, _, _, gW, gO, gX, gI, sl, xs, rfl, rW, rO, rX, rI, hd, hx1, hx2⟩
theorem OwnC.ins {lo hi : Nat} {w : World} {x0 x1 x2 x3 x4 : Value} {aI : Option Addr} {kI q : Nat} {V : CV} (h : OwnC lo hi w (.agg #[x0, x1, x2, x3, x4, .slice aI V.nI kI]) V) (hq : q < V.nI) :
    ∃ gI, aI = some ⟨gI, 0, none⟩ ∧ lo ≤ gI ∧ gI < hi ∧ hi ≤ w.heap.size ∧ w.cell? ⟨gI, q, none⟩ = some (.int .i64 (V.I q)) ∧ w.frozen? ⟨gI, q, none⟩ = false ∧ ∀ z, OwnC lo hi (w.setCell ⟨gI, q, none⟩ (.int .i64 z)) (.agg #[x0, x1, x2, x3, x4, .slice aI V.nI kI]) { V with I := updI V.I q z } := by
  obtain ⟨vW, vO, vX, vI, gW, gO, gX, gI, sl, xs, e, rW, rO, rX, rI, ⟨d1, d2, d3, d4, d5, d6⟩, hx1, hx2⟩ := h
  have e' := e
  obtain ⟨rfl, rfl, rfl, rfl⟩ := agg6 e
  rcases rI with ⟨e, _⟩ | ⟨cI, eI, i1, i2, i3, i4⟩
  · omega
  simp only [Value.slice.injEq, true_and] at eI
  obtain ⟨rfl, rfl⟩ := eI
  refine ⟨gI, rfl, i1, i2, i3, i4.2 q hq, (i4.1 q hq).2, fun z => ?_⟩
  have hz : hi ≤ (w.setCell ⟨gI, q, none⟩ (.int .i64 z)).heap.size := by rw [set_size]; exact i3
  have k : ∀ g, ¬ g = gI → Sm w (w.setCell ⟨gI, q, none⟩ (.int .i64 z)) g := fun g hg => sm_set hg
  refine ⟨_, _, _, _, gW, gO, gX, gI, sl, xs, e', rW.go (Nat.le_refl _) (Nat.le_refl _) hz (fun _ _ _ => k _ d3), ?_, rX.go (Nat.le_refl _) (Nat.le_refl _) hz (fun _ _ _ => k _ d6), .inr ⟨_, rfl, i1, i2, hz, own1_upd i4 hq⟩, ⟨d1, d2, d3, d4, d5, d6⟩, hx1, hx2⟩
  rcases rO with r | ⟨co, e1, l1, l2, l3, hc⟩
  · exact .inl r
  · exact .inr ⟨co, e1, l1, l2, hz, fun j hj => ⟨(k gO d5 j).1.trans (hc j hj).1, (hc j hj).2.go (Nat.le_refl _) (Nat.le_refl _) hz (fun _ _ _ => k _ (hx1 j hj).2.2.2)⟩⟩
theorem OwnC.wk {lo hi base n : Nat} {w w' : World} {x0 x1 x2 x3 x4 x5 v : Value} {V : CV} {Z : Nat → Nat → Int} (h : OwnC lo hi w (.agg #[x0, x1, x2, x3, x4, x5]) V) (hO : V.nO ≠ 0) (hX : V.nX ≠ 0) (hI : V.nI ≠ 0) (hn : n ≠ 0) (h1 : hi ≤ base) (h2 : base ≤ w'.heap.size) (k : ∀ b, lo ≤ b → b < hi → Sm w w' b) (ho : w'.ownsRow base 43 5 v n ((List.range n).flatMap (five5 Z))) :
    OwnC lo w'.heap.size w' (.agg #[.int .i64 V.c, v, .int .i64 V.g, x3, x4, x5]) { V with nW := n, W := Z } := by
  obtain ⟨vW, vO, vX, vI, gW, gO, gX, gI, sl, xs, e, rW, rO, rX, rI, ⟨d1, d2, d3, d4, d5, d6⟩, hx1, hx2⟩ := h
  obtain ⟨rfl, rfl, rfl, rfl⟩ := agg6 e
  obtain ⟨g, hR, _⟩ := rw_of_own ho
  have hh : hi ≤ w'.heap.size := Nat.le_trans h1 h2
  have lX := rX.in hX
  have lI := rI.in hI
  have lg := hR.in hn
  rcases rO with ⟨e, _⟩ | ⟨co, e1, l1, l2, l3, hc⟩
  · exact absurd e hO
  subst e1
  have hlo : lo ≤ base := by omega
  have lx : ∀ j, j < V.nO → V.N j ≠ 0 → xs j < hi := fun j hj e => ((hc j hj).2.in e).2
  refine ownC_any (V := { V with nW := n, W := Z }) (gW := g) (gO := gO) (gX := gX) (gI := gI) (sl := sl) (xs := xs) (hR.go hlo (Nat.le_refl _) (Nat.le_refl _) (fun _ _ _ => Sm.refl _ _)) l1 (by omega) (Nat.le_refl _) (fun j hj => ⟨(k gO l1 l2 j).1.trans (hc j hj).1, (hc j hj).2.go (Nat.le_refl _) hh (Nat.le_refl _) (fun _ => k _)⟩) (rX.go (Nat.le_refl _) hh (Nat.le_refl _) (fun _ => k _)) (rI.go (Nat.le_refl _) hh (Nat.le_refl _) (fun _ => k _)) (fun _ => by omega) (fun _ _ => by omega) (fun _ _ => by omega) (fun _ => d4) (fun _ => d5) (fun _ _ => d6) (fun j hj e => ⟨fun _ => by have := lx j hj e; omega, (hx1 j hj).2.1, fun _ => (hx1 j hj).2.2.1, fun _ => (hx1 j hj).2.2.2⟩) (fun i j hij hj _ _ => hx2 i j (Nat.lt_trans hij hj) hj (Nat.ne_of_lt hij))
theorem OwnC.row {lo hi : Nat} {w : World} {x0 x2 x3 x4 x5 : Value} {aW : Option Addr} {kW : Nat} {V : CV} (h : OwnC lo hi w (.agg #[x0, .slice aW V.nW kW, x2, x3, x4, x5]) V) : ∃ g, (V.nW ≠ 0 → aW = some ⟨g, 0, none⟩) ∧ (V.nW ≠ 0 → g < w.heap.size) ∧ ∀ k j, k < V.nW → j < 5 → w.cell? ⟨g, k * 5 + j, none⟩ = some (.int .i64 (V.W k j)) := by
  obtain ⟨vW, vO, vX, vI, gW, gO, gX, gI, sl, xs, e, rW, rO, rX, rI, hd, hx1, hx2⟩ := h
  obtain ⟨rfl, rfl, rfl, rfl⟩ := agg6 e
  rcases rW with ⟨e, _⟩ | ⟨c, e, l1, l2, l3, h4⟩
  · exact ⟨gW, fun h => absurd e h, fun h => absurd e h, fun k j hk => by omega⟩
  · simp only [Value.slice.injEq, true_and] at e
    exact ⟨gW, fun _ => e.1, fun _ => by omega, fun k j hk hj => h4.2 k j hk hj⟩
theorem Six.put {w : World} {g : Nat} {x0 x1 x2 x3 x4 x5 : Value} (h : Six w g [x0, x1, x2, x3, x4, x5]) : (∀ v, Six (w.setCell ⟨g, 1, none⟩ v) g [x0, v, x2, x3, x4, x5]) ∧ ∀ v, Six (w.setCell ⟨g, 2, none⟩ v) g [x0, x1, v, x3, x4, x5] := by
  refine ⟨fun v i hi => ?_, fun v i hi => ?_⟩
  · rw [set_frozen]
    refine ⟨?_, (h i hi).2⟩
    by_cases e : i = 1
    · subst e
      rw [set_in (by rw [(h 1 (by decide)).1]; rfl)]; rfl
    · rw [set_out (fun q => e q.2.symm), (h i hi).1]
      match i, hi, e with
      | 0, _, _ => rfl
      | 2, _, _ => rfl
      | 3, _, _ => rfl
      | 4, _, _ => rfl
      | 5, _, _ => rfl
  · rw [set_frozen]
    refine ⟨?_, (h i hi).2⟩
    by_cases e : i = 2
    · subst e
      rw [set_in (by rw [(h 2 (by decide)).1]; rfl)]; rfl
    · rw [set_out (fun q => e q.2.symm), (h i hi).1]
      match i, hi, e with
      | 0, _, _ => rfl
      | 1, _, _ => rfl
      | 3, _, _ => rfl
      | 4, _, _ => rfl
      | 5, _, _ => rfl
end Go.Proofs.YtjmjffhommlbnaaGreat
