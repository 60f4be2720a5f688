/- Laws on a region whose condition grows while it is gone through; and small facts on the literals that DrawPlcEdge reads; conditions: none. -/
import Derived.Test.YtebjnolfknngbaaDraw2
import Derived.Deep.RegionHeld3
namespace Go.Proofs.Ytebjnolfknngbaa
open Go.RowKit
set_option linter.unusedVariables false

theorem wpAnyH_more {P : Program} {ops : Array Oper} {Q : Exit → Act → World → Prop} {md : Region.Mode} {S S' : World → Prop} (hS : ∀ w, S' w → S w) :
    ∀ (fuel : Nat) (listed : Array Bool) (a : Act) (w : World), wpAnyH P md ops Q S' fuel listed a w → wpAnyH P md ops Q S fuel listed a w
  | 0, _, _, _, h => h
  | fuel + 1, _, _, _, h => ⟨h.1, fun i hi => wpOp_mono (fun a' w' h' => ⟨hS w' h'.1, wpAnyH_more hS fuel _ a' w' h'.2⟩) (h.2 i hi)⟩

theorem wrap_id {n : Int} (h1 : -1000000 ≤ n) (h2 : n ≤ 1000000) : IntKind.i64.wrap n = n := by
  rw [IntKind.wrap_i64]; omega

theorem finB {w W : World} (h : KK (w.heap.size + 1) w W) : Below w.heap.size w W := Kept.below h (by omega) (Nat.le_refl _)

theorem rowAlloc {w : World} {a : Option Addr} {len cap : Nat} {zs : List Int} (h : IsRow w a len cap zs) (o : Obj) : IsRow (w.alloc o) a len cap zs := by
  rcases h with h | ⟨x, rfl, hl, hm, hz, hc, hw⟩
  · exact .inl h
  · refine .inr ⟨x, rfl, hl, hm, hz, fun i hi => ?_, hw⟩
    have hlt : (x.add i).block < w.heap.size := by
      by_cases g : (x.add i).block < w.heap.size
      · exact g
      · exfalso
        have : w.heap[(x.add i).block]? = none := by simp; omega
        have c := hc i hi
        simp [World.cell?, this] at c
    rw [(bcell' ((Below.refl _ _).alloc (by simp) _) hlt)]; exact hc i hi

theorem two_put {W : World} {g : Nat} {x y u v : Value} (t0 : W.cell? ⟨g, 0, none⟩ = some x) (t1 : W.cell? ⟨g, 1, none⟩ = some y) (t2 : W.frozen? ⟨g, 0, none⟩ = false) (t3 : W.frozen? ⟨g, 1, none⟩ = false) :
    Two ((W.setCell ⟨g, 0, none⟩ u).setCell ⟨g, 1, none⟩ v) g u v := by
  have e1 : (W.setCell ⟨g, 0, none⟩ u).cell? ⟨g, 1, none⟩ = some y := (World.cell?_setCell_other _ _ _ _ (by simp)).trans t1
  refine ⟨?_, World.cell?_setCell_same _ _ _ e1, by simpa [World.frozen?_setCell] using t2, by simpa [World.frozen?_setCell] using t3⟩
  rw [World.cell?_setCell_other _ _ _ _ (by simp)]
  exact World.cell?_setCell_same _ _ _ t0
theorem Two.put {W : World} {b g : Nat} {x y u v : Value} (h : Two W b x y) (hn : ¬ b = g) : Two ((W.setCell ⟨g, 0, none⟩ u).setCell ⟨g, 1, none⟩ v) b x y := by
  have far : ∀ (o o' : Nat) (W : World) (z : Value), (W.setCell ⟨g, o', none⟩ z).cell? ⟨b, o, none⟩ = W.cell? ⟨b, o, none⟩ := fun o o' W z => World.cell?_setCell_other _ _ _ _ (by intro e; exact hn (by injection e with e1; exact e1.symm))
  unfold Two
  rw [far, far, far, far]
  exact ⟨h.1, h.2.1, by simpa [World.frozen?_setCell] using h.2.2.1, by simpa [World.frozen?_setCell] using h.2.2.2⟩
theorem Lits.put {W : World} {b g : Nat} {zs : List Int} {u v : Value} (h : Lits W b zs) (hn : ¬ b = g) : Lits ((W.setCell ⟨g, 0, none⟩ u).setCell ⟨g, 1, none⟩ v) b zs := by
  have far : ∀ (o o' : Nat) (W : World) (z : Value), (W.setCell ⟨g, o', none⟩ z).cell? ⟨b, o, none⟩ = W.cell? ⟨b, o, none⟩ := fun o o' W z => World.cell?_setCell_other _ _ _ _ (by intro e; exact hn (by injection e with e1; exact e1.symm))
  refine ⟨by simpa [World.setCell] using h.1, fun z h0 h1 => ?_⟩
  rw [far, far]
  exact h.2 z h0 h1
theorem kk_put {w W : World} {u v : Value} (h : KK (w.heap.size + 1) w W) : KK (w.heap.size + 1) w ((W.setCell ⟨w.heap.size, 0, none⟩ u).setCell ⟨w.heap.size, 1, none⟩ v) :=
  Kept.setCell (Kept.setCell h (.inl (Nat.le_refl _)) _) (.inl (Nat.le_refl _)) _

/-- The places among which DrawPlcEdge picks. -/
def lit7 (c d x : Int) : List Int := [0, d - 1, d, 2 * d - 1, c * d - 1, -1, x]
theorem mulOut {c d : Int} (h : MapOut c d) : -9 ≤ c * d ∧ c * d ≤ 45 := by
  obtain ⟨c0, c1, d0, d1⟩ := h
  have : d = 0 ∨ d = 1 ∨ d = 2 ∨ d = 3 ∨ d = 4 ∨ d = 5 ∨ d = 6 ∨ d = 7 ∨ d = 8 ∨ d = 9 := by omega
  rcases this with rfl | rfl | rfl | rfl | rfl | rfl | rfl | rfl | rfl | rfl <;> omega
theorem lit7_bd {c d x : Int} (h : MapOut c d) (x0 : 0 ≤ x) (x1 : x < 12) (n : Nat) : -100 ≤ (lit7 c d x).getD n 0 ∧ (lit7 c d x).getD n 0 ≤ 100 := by
  obtain ⟨m0, m1⟩ := mulOut h
  obtain ⟨c0, c1, d0, d1⟩ := h
  match n with
  | 0 => simp [lit7]
  | 1 => simp [lit7]; omega
  | 2 => simp [lit7]; omega
  | 3 => simp [lit7]; omega
  | 4 => simp [lit7]; omega
  | 5 => simp [lit7]
  | 6 => simp [lit7]; omega
  | n + 7 => simp [lit7]
end Go.Proofs.Ytebjnolfknngbaa
