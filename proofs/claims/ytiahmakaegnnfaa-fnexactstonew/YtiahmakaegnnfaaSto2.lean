/- The program's StoNew answers a store of age 0 with no records, whose state is the new cell; conditions: the list lies in memory. -/
import Derived.Test.YtiahmakaegnnfaaSto1
namespace Go.Proofs.Ytiahmakaegnnfaa
open Go.RowKit Go.Deep
set_option linter.unusedVariables false

/-- Eight cells of a block that may be written. -/
def Eight (W : World) (b : Nat) (l : List Value) : Prop := ∀ i, i < 8 → W.cell? ⟨b, i, none⟩ = some (l.getD i undef) ∧ W.frozen? ⟨b, i, none⟩ = false
theorem Eight.below {W W' : World} {b : Nat} {l : List Value} (h : Eight W b l) (hb : b < W.heap.size) (k : Below W.heap.size W W') : Eight W' b l := fun i hi => by
  rw [k.cell (p := ⟨b, i, none⟩) hb, k.frozen (p := ⟨b, i, none⟩) hb]; exact h i hi
theorem eight_new (w : World) (t : TypeId) (v0 v1 v2 v3 v4 v5 v6 v7 : Value) : Eight (w.alloc (.cells #[v0, v1, v2, v3, v4, v5, v6, v7] t)) w.heap.size [v0, v1, v2, v3, v4, v5, v6, v7] := by
  intro i hi
  have : i = 0 ∨ i = 1 ∨ i = 2 ∨ i = 3 ∨ i = 4 ∨ i = 5 ∨ i = 6 ∨ i = 7 := by omega
  rcases this with rfl | rfl | rfl | rfl | rfl | rfl | rfl | rfl <;> simp
theorem eight_box2 (w : World) (cs : Array Value) (t0 t : TypeId) (v0 v1 v2 v3 v4 v5 v6 v7 : Value) : Eight ((w.alloc (.cells cs t0)).alloc (.cells #[v0, v1, v2, v3, v4, v5, v6, v7] t)) (w.heap.size + 1) [v0, v1, v2, v3, v4, v5, v6, v7] := by
  have h := eight_new (w.alloc (.cells cs t0)) t v0 v1 v2 v3 v4 v5 v6 v7
  rw [show (w.alloc (.cells cs t0)).heap.size = w.heap.size + 1 by simp] at h
  exact h
/-- Eight cells written. -/
def put8 (w : World) (g : Nat) (v0 v1 v2 v3 v4 v5 v6 v7 : Value) : World := ((((((((w.setCell ⟨g, 0, none⟩ v0).setCell ⟨g, 1, none⟩ v1).setCell ⟨g, 2, none⟩ v2).setCell ⟨g, 3, none⟩ v3).setCell ⟨g, 4, none⟩ v4).setCell ⟨g, 5, none⟩ v5).setCell ⟨g, 6, none⟩ v6).setCell ⟨g, 7, none⟩ v7)
theorem eight_put {w : World} {g : Nat} {l : List Value} (h : Eight w g l) (v0 v1 v2 v3 v4 v5 v6 v7 : Value) : Eight (put8 w g v0 v1 v2 v3 v4 v5 v6 v7) g [v0, v1, v2, v3, v4, v5, v6, v7] := by
  have e : put8 w g v0 v1 v2 v3 v4 v5 v6 v7 = w.setCells g 0 [v0, v1, v2, v3, v4, v5, v6, v7] := rfl
  have q := World.cell?_setCells_in g [v0, v1, v2, v3, v4, v5, v6, v7] 0 w (fun j hj => by
    have := (h j (by simpa using hj)).1
    rw [Nat.zero_add, this]; rfl)
  intro i hi
  rw [e, World.frozen?_setCells]
  refine ⟨?_, (h i hi).2⟩
  have := q i (by simpa using hi)
  rw [Nat.zero_add] at this
  rw [this]
  have : i = 0 ∨ i = 1 ∨ i = 2 ∨ i = 3 ∨ i = 4 ∨ i = 5 ∨ i = 6 ∨ i = 7 := by omega
  rcases this with rfl | rfl | rfl | rfl | rfl | rfl | rfl | rfl <;> rfl
theorem below_put8 {n : Nat} {a w : World} (h : Below n a w) {g : Nat} (hg : n ≤ g) (v0 v1 v2 v3 v4 v5 v6 v7 : Value) : Below n a (put8 w g v0 v1 v2 v3 v4 v5 v6 v7) :=
  ((((((((h.setCell (p := ⟨g, 0, none⟩) hg _).setCell (p := ⟨g, 1, none⟩) hg _).setCell (p := ⟨g, 2, none⟩) hg _).setCell (p := ⟨g, 3, none⟩) hg _).setCell (p := ⟨g, 4, none⟩) hg _).setCell (p := ⟨g, 5, none⟩) hg _).setCell (p := ⟨g, 6, none⟩) hg _).setCell (p := ⟨g, 7, none⟩) hg _)
theorem size_put8 (w : World) (g : Nat) (v0 v1 v2 v3 v4 v5 v6 v7 : Value) : (put8 w g v0 v1 v2 v3 v4 v5 v6 v7).heap.size = w.heap.size := by simp [put8, World.setCell]
theorem sm_put8 {w : World} {g b : Nat} (h : ¬ g = b) (v0 v1 v2 v3 v4 v5 v6 v7 : Value) : Sm w (put8 w g v0 v1 v2 v3 v4 v5 v6 v7) b := by
  intro o
  unfold put8
  refine ⟨?_, ?_⟩
  · rw [set_out (fun e => h e.1), set_out (fun e => h e.1), set_out (fun e => h e.1), set_out (fun e => h e.1), set_out (fun e => h e.1), set_out (fun e => h e.1), set_out (fun e => h e.1), set_out (fun e => h e.1)]
  · rw [set_frozen, set_frozen, set_frozen, set_frozen, set_frozen, set_frozen, set_frozen, set_frozen]

set_option maxRecDepth 20000 in
set_option maxHeartbeats 4000000 in
theorem stoNew_impl (c d cell : Int) (b n cap : Nat) (Z : Nat → Nat → Int) (hn : n ≤ 1048576) (w : World) (hb : b < w.heap.size) (hr : ∀ k j, k < n → j < 5 → w.cell? ⟨b, 0 + k * 5 + j, none⟩ = some (.int .i64 (Z k j))) :
    Calls Try.prog 13 #[.agg #[.int .i64 c, .int .i64 d], .int .i64 cell, .slice (some ⟨b, 0, none⟩) n cap] w fun e w' => (∃ v, e = .returned v ∧ OwnS (w.heap.size + 2) w'.heap.size w' v (newV c d cell Z n)) ∧ Below w.heap.size w w' := by
  have HR : Hid (∀ k j, k < n → j < 5 → w.cell? ⟨b, 0 + k * 5 + j, none⟩ = some (.int .i64 (Z k j))) := hr
  clear hr
  go_enter Try.func13, Try.ntmps13
  go_wp2_with fail
  obtain ⟨w0, e0⟩ : ∃ w0, w0 = (w.alloc (.cells #[.int .i64 c, .int .i64 d] 33)).alloc (.cells #[.int .i64 0, .int .i64 0, .slice none 0 0, .int .i64 0, .slice none 0 0, .slice none 0 0, .slice none 0 0, .slice none 0 0] 52) := ⟨_, rfl⟩
  have z0 : w0.heap.size = w.heap.size + 2 := by rw [e0]; simp
  have z0' : w.heap.size + 2 ≤ w0.heap.size := by omega
  have B0 : Hid (Below w.heap.size w w0) := by rw [e0]; exact ((Below.refl _ _).alloc (by simp) _).alloc (by simp) _
  have R0 : Hid (Eight w0 (w.heap.size + 1) [.int .i64 0, .int .i64 0, .slice none 0 0, .int .i64 0, .slice none 0 0, .slice none 0 0, .slice none 0 0, .slice none 0 0]) := by rw [e0]; exact eight_box2 w _ 33 52 _ _ _ _ _ _ _ _
  have Z0 : Hid (w0.heap.size = w.heap.size + 2) := z0
  rw [← e0]
  clear e0 z0
  refine (new_impl c d cell b n cap Z hn _ (by omega) (fun k j a1 a2 => (B0.out.cell (p := ⟨b, _, none⟩) hb).trans (HR.out k j a1 a2))).mono ?_
  rintro e w1 ⟨⟨v, rfl, hv⟩, hb1⟩
  rw [Z0.out] at hv
  obtain ⟨V, eV⟩ : ∃ V, newV c d cell Z n = V := ⟨_, rfl⟩
  rw [eV] at hv
  have EV : Hid (newV c d cell Z n = V) := eV
  clear eV
  have z1 : w.heap.size + 2 ≤ w1.heap.size := Nat.le_trans z0' hb1.size
  have HV : Hid (OwnC (w.heap.size + 2) w1.heap.size w1 v V) := hv
  obtain ⟨aW, kW, aO, kO, aX, kX, aI, kI, rfl, _, _, _, _⟩ := hv.at
  clear hv
  have B1 : Hid (Below w.heap.size w w1) := bthen B0.out hb1
  have R1 : Hid (Eight w1 (w.heap.size + 1) [.int .i64 0, .int .i64 0, .slice none 0 0, .int .i64 0, .slice none 0 0, .slice none 0 0, .slice none 0 0, .slice none 0 0]) := R0.out.below (by omega) hb1
  clear hb1 B0 R0 z0' Z0
  have r0 := (R1.out 0 (by decide)).1
  have q0 := (R1.out 0 (by decide)).2
  have r1 := (R1.out 1 (by decide)).1
  have q1 := (R1.out 1 (by decide)).2
  have r2 := (R1.out 2 (by decide)).1
  have q2 := (R1.out 2 (by decide)).2
  have r3 := (R1.out 3 (by decide)).1
  have q3 := (R1.out 3 (by decide)).2
  have r4 := (R1.out 4 (by decide)).1
  have q4 := (R1.out 4 (by decide)).2
  have r5 := (R1.out 5 (by decide)).1
  have q5 := (R1.out 5 (by decide)).2
  have r6 := (R1.out 6 (by decide)).1
  have q6 := (R1.out 6 (by decide)).2
  have r7 := (R1.out 7 (by decide)).1
  have q7 := (R1.out 7 (by decide)).2
  simp only [List.getD, List.getElem?_cons_zero, List.getElem?_cons_succ, Option.getD_some] at r0 r1 r2 r3 r4 r5 r6 r7
  have lr : w.heap.size + 1 < w1.heap.size := by omega
  go_wp2
  refine bodyPost_ret (v := .agg #[.int .i64 0, .int .i64 V.c, (.slice aW V.nW kW), .int .i64 V.g, (.slice aO V.nO kO), (.slice aX V.nX kX), (.slice aI V.nI kI), .slice none 0 0]) (by simp [results, Try.results13, go_sem, r0, r1, r2, r3, r4, r5, r6, r7]) rfl ?_
  rw [EV.out]
  refine ⟨⟨_, rfl, ⟨_, _, _, _, rfl, ?_⟩⟩, below_put8 B1.out (Nat.le_succ w.heap.size) _ _ _ _ _ _ _ _⟩
  have hs := size_put8 w1 (w.heap.size + 1) (.int .i64 0) (.int .i64 V.c) (.slice aW V.nW kW) (.int .i64 V.g) (.slice aO V.nO kO) (.slice aX V.nX kX) (.slice aI V.nI kI) (.slice none 0 0)
  show OwnC _ (put8 w1 (w.heap.size + 1) (.int .i64 0) (.int .i64 V.c) (.slice aW V.nW kW) (.int .i64 V.g) (.slice aO V.nO kO) (.slice aX V.nX kX) (.slice aI V.nI kI) (.slice none 0 0)).heap.size _ _ _
  rw [hs]
  exact HV.out.sm (Nat.le_of_eq hs.symm) (fun b h1 h2 => sm_put8 (by omega) _ _ _ _ _ _ _ _)

end Go.Proofs.Ytiahmakaegnnfaa
