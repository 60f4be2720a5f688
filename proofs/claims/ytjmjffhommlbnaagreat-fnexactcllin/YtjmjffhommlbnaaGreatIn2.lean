/- What happens in a scene: a number of the next parcel, coins on the ground, a walker in the map; conditions: the scene lies in memory. -/
import Derived.Test.YtjmjffhommlbnaaGreatIn1
namespace Go.Proofs.YtjmjffhommlbnaaGreat
open Go.RowKit Go.Deep
set_option linter.unusedVariables false

theorem Wm.mono {w : World} {b n m : Nat} {M : Int → Option (Nat → Int)} (h : Wm w b n M) (hnm : n ≤ m) : Wm w b m M := by
  obtain ⟨es, clock, h1, h2, h3, r⟩ := h
  exact ⟨es, clock, h1, h2, Nat.le_trans h3 hnm, r⟩
theorem Sc.mono {w : World} {c d : Int} {s b lo : Nat} {V : CV} {n m : Nat} {M : Int → Option (Nat → Int)} (h : Sc w c d s b lo V n M) (hnm : n ≤ m) : Sc w c d s b lo V m M := by
  obtain ⟨aW, kW, kO, aX, kX, aI, kI, gW, gO, gX, gI, sl, xs, hN, rW, rX, rI, hO, hM, ⟨l1, l2, l3, l4, l5, l6, l7, l8⟩, ⟨d1, d2, d3, d4, d5, d6⟩, hx1, hx2⟩ := h
  exact ⟨aW, kW, kO, aX, kX, aI, kI, gW, gO, gX, gI, sl, xs, hN, rW, rX, rI, hO, hM.mono hnm, ⟨l1, l2, l3, l4, l5, l6, l7, l8⟩, ⟨d1, d2, d3, d4, d5, d6⟩, hx1, hx2⟩
def updI (X : Nat → Int) (q : Nat) (z : Int) : Nat → Int := fun j => if j = q then z else X j
theorem own1_upd {w : World} {B n k : Nat} {X : Nat → Int} {z : Int} (h : Own1 w B n X n) (hk : k < n) : Own1 (w.setCell ⟨B, k, none⟩ (.int .i64 z)) B n (updI X k z) n := by
  refine ⟨fun i hi => ⟨?_, by rw [set_frozen]; exact (h.1 i hi).2⟩, fun j hj => ?_⟩
  · by_cases hc : k = i
    · subst hc; rw [set_in (h.1 k hk).1]; rfl
    · rw [set_out (fun e => hc e.2)]; exact (h.1 i hi).1
  · by_cases hc : k = j
    · subst hc; rw [set_in (h.1 k hk).1]; simp [updI]
    · rw [set_out (fun e => hc e.2)]
      show _ = some (Value.int .i64 (if j = k then z else X j))
      rw [if_neg (fun e => hc e.symm)]; exact h.2 j hj
theorem sm_set {w : World} {B j b : Nat} {u : Value} (h : ¬ b = B) : Sm w (w.setCell ⟨B, j, none⟩ u) b := fun o => ⟨set_out (fun e => h e.1.symm), set_frozen⟩

/-- The number of the next parcel from a side, written. -/
theorem Sc.ins {w : World} {c d : Int} {s b lo : Nat} {V : CV} {n : Nat} {M : Int → Option (Nat → Int)} (h : Sc w c d s b lo V n M) {q : Nat} (hq : q < V.nI) :
    ∃ gI kI, w.cell? ⟨s, 7, none⟩ = some (.slice (some ⟨gI, 0, none⟩) V.nI kI) ∧ w.cell? ⟨gI, q, none⟩ = some (.int .i64 (V.I q)) ∧ w.frozen? ⟨gI, q, none⟩ = false ∧ lo ≤ gI ∧ gI < w.heap.size ∧ ¬ gI = s ∧
      ∀ z, Sc (w.setCell ⟨gI, q, none⟩ (.int .i64 z)) c d s b lo { V with I := updI V.I q z } n M := by
  obtain ⟨aW, kW, kO, aX, kX, aI, kI, gW, gO, gX, gI, sl, xs, hN, rW, rX, rI, hO, hM, ⟨l1, l2, l3, l4, l5, l6, l7, l8⟩, ⟨d1, d2, d3, d4, d5, d6⟩, hx1, hx2⟩ := h
  have h0 : V.nI ≠ 0 := by omega
  obtain ⟨e1, e2, e3⟩ := d3 h0
  rcases rI with ⟨e, _⟩ | ⟨cI, eI, i1, i2, i3, i4⟩
  · omega
  simp only [Value.slice.injEq, true_and] at eI
  obtain ⟨rfl, rfl⟩ := eI
  refine ⟨gI, kI, (hN 7 (by decide)).1, i4.2 q hq, (i4.1 q hq).2, i1, i2, e1, fun z => ?_⟩
  have hz : w.heap.size = (w.setCell ⟨gI, q, none⟩ (.int .i64 z)).heap.size := set_size.symm
  have k : ∀ g, ¬ g = gI → Sm w (w.setCell ⟨gI, q, none⟩ (.int .i64 z)) g := fun g hg => sm_set hg
  refine ⟨aW, kW, kO, aX, kX, _, kI, gW, gO, gX, gI, sl, xs, hN.sm (k s (fun e => e1 e.symm)), rW.go (Nat.le_refl _) (Nat.le_of_eq hz) (Nat.le_refl _) (fun e _ _ => k gW (d5 e h0)), rX.go (Nat.le_refl _) (Nat.le_of_eq hz) (Nat.le_refl _) (fun e _ _ => k gX (d6 e h0)), .inr ⟨kI, rfl, i1, by omega, Nat.le_refl _, own1_upd i4 hq⟩,
    fun j hj => ⟨((k gO e3 j).1).trans (hO j hj).1, ((k gO e3 j).2).trans (hO j hj).2.1, (hO j hj).2.2.go (Nat.le_refl _) (Nat.le_of_eq hz) (Nat.le_refl _) (fun e _ _ => k (xs j) ((hx1 j hj e).2.2.2 h0))⟩, hM.kept (P8.set_grown w gI q _).1 (fun e => e2 (by injection e with e; exact e.symm)), ⟨l1, by omega, l3, by omega, l5, l6, l7, l8⟩, ⟨d1, d2, d3, d4, d5, d6⟩, hx1, hx2⟩

/-- Coins on the ground, written. -/
theorem Sc.ground {w : World} {c d : Int} {s b lo : Nat} {V : CV} {n : Nat} {M : Int → Option (Nat → Int)} (h : Sc w c d s b lo V n M) (z : Int) : Sc (w.setCell ⟨s, 4, none⟩ (.int .i64 z)) c d s b lo { V with g := z } n M := by
  obtain ⟨aW, kW, kO, aX, kX, aI, kI, gW, gO, gX, gI, sl, xs, hN, rW, rX, rI, hO, hM, ⟨l1, l2, l3, l4, l5, l6, l7, l8⟩, ⟨d1, d2, d3, d4, d5, d6⟩, hx1, hx2⟩ := h
  have hz : w.heap.size = (w.setCell ⟨s, 4, none⟩ (.int .i64 z)).heap.size := set_size.symm
  have k : ∀ g, ¬ g = s → Sm w (w.setCell ⟨s, 4, none⟩ (.int .i64 z)) g := fun g hg => sm_set hg
  refine ⟨aW, kW, kO, aX, kX, aI, kI, gW, gO, gX, gI, sl, xs, fun i hi => ?_, rW.go (Nat.le_refl _) (Nat.le_of_eq hz) (Nat.le_refl _) (fun e _ _ => k gW (d1 e).1), rX.go (Nat.le_refl _) (Nat.le_of_eq hz) (Nat.le_refl _) (fun e _ _ => k gX (d2 e).1), rI.go (Nat.le_refl _) (Nat.le_of_eq hz) (Nat.le_refl _) (fun e _ _ => k gI (d3 e).1),
    fun j hj => ⟨((k gO l7 j).1).trans (hO j hj).1, ((k gO l7 j).2).trans (hO j hj).2.1, (hO j hj).2.2.go (Nat.le_refl _) (Nat.le_of_eq hz) (Nat.le_refl _) (fun e _ _ => k (xs j) (hx1 j hj e).1.1)⟩, hM.kept (P8.set_grown w s 4 _).1 (fun e => l6 (by injection e with e; exact e.symm)), ⟨l1, by omega, l3, by omega, l5, l6, l7, l8⟩, ⟨d1, d2, d3, d4, d5, d6⟩, hx1, hx2⟩
  rw [set_frozen]
  refine ⟨?_, (hN i hi).2⟩
  by_cases e : i = 4
  · subst e
    rw [set_in (by rw [(hN 4 (by decide)).1]; rfl)]
    rfl
  · rw [set_out (fun q => e q.2.symm), (hN i hi).1]
    match i, hi, e with
    | 0, _, _ => rfl
    | 1, _, _ => rfl
    | 2, _, _ => rfl
    | 3, _, _ => rfl
    | 4, _, e => exact absurd rfl e
    | 5, _, _ => rfl
    | 6, _, _ => rfl
    | 7, _, _ => rfl
    | 8, _, _ => rfl

/-- A walker, put into the map. -/
theorem Sc.put {w : World} {c d : Int} {s b lo : Nat} {V : CV} {n : Nat} {M : Int → Option (Nat → Int)} (h : Sc w c d s b lo V n M) {z : Int} (hw : (Lit.int .i64 z).wf = true) (Z : Nat → Int) :
    ∃ w2, (Instr.mapUpdate 90 (.map (some b)) (.int .i64 z) (wv Z)).run Tryz.prog w = .ok () w2 ∧ Sc w2 c d s b lo V (n + 1) (putM M z Z) ∧ Below lo w w2 ∧ w.grownBy w2 (some b) := by
  obtain ⟨aW, kW, kO, aX, kX, aI, kI, gW, gO, gX, gI, sl, xs, hN, rW, rX, rI, hO, hM, ⟨l1, l2, l3, l4, l5, l6, l7, l8⟩, ⟨d1, d2, d3, d4, d5, d6⟩, hx1, hx2⟩ := h
  obtain ⟨w2, hr, hm, hg⟩ := hM.put hw Z
  have hbl := hM.lt
  have hz := hg.size
  have k : ∀ g, g < w.heap.size → ¬ g = b → Sm w w2 g := fun g hg' hne => sm_grown hg hg' (fun e => hne (by injection e))
  refine ⟨w2, hr, ⟨aW, kW, kO, aX, kX, aI, kI, gW, gO, gX, gI, sl, xs, hN.sm (k s l4 l6), rW.go (Nat.le_refl _) hz (Nat.le_refl _) (fun e _ h => k gW h (d1 e).2.1), rX.go (Nat.le_refl _) hz (Nat.le_refl _) (fun e _ h => k gX h (d2 e).2.1), rI.go (Nat.le_refl _) hz (Nat.le_refl _) (fun e _ h => k gI h (d3 e).2.1),
    fun j hj => ⟨((k gO l2 l8 j).1).trans (hO j hj).1, ((k gO l2 l8 j).2).trans (hO j hj).2.1, (hO j hj).2.2.go (Nat.le_refl _) hz (Nat.le_refl _) (fun e _ h => k (xs j) h (hx1 j hj e).1.2.1)⟩, hm, ⟨l1, by omega, l3, by omega, l5, l6, l7, l8⟩, ⟨d1, d2, d3, d4, d5, d6⟩, hx1, hx2⟩, below_grown hg l5 (by omega), hg⟩

end Go.Proofs.YtjmjffhommlbnaaGreat
