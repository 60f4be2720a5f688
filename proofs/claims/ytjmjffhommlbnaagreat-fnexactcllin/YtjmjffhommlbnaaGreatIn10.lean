/- l5In of the model, walkers; conditions: the cell lies in memory of its own. -/
import Derived.Test.YtjmjffhommlbnaaGreatIn9
namespace Go.Proofs.YtjmjffhommlbnaaGreat
open Go.RowKit Go.Deep
set_option linter.unusedVariables false

theorem OwnC.wk2 {lo hi base n g : Nat} {w w' : World} {x0 x1 x2 x3 x4 x5 v : Value} {V : CV} {Z : Nat → Nat → Int} (h : OwnC lo hi w (.agg #[x0, x1, x2, x3, x4, x5]) V) (hO : V.nO ≠ 0) (hX : V.nX ≠ 0) (hI : V.nI ≠ 0) (hn : n ≠ 0) (h1 : hi ≤ base) (h2 : base ≤ w'.heap.size) (k : ∀ b, lo ≤ b → b < hi → Sm w w' b) (hR : RW base w'.heap.size w' v n Z g) :
    OwnC lo w'.heap.size w' (.agg #[.int .i64 V.c, v, .int .i64 V.g, x3, x4, x5]) { V with nW := n, W := Z } := by
  obtain ⟨vW, vO, vX, vI, gW, gO, gX, gI, sl, xs, e, rW, rO, rX, rI, ⟨d1, d2, d3, d4, d5, d6⟩, hx1, hx2⟩ := h
  obtain ⟨rfl, rfl, rfl, rfl⟩ := agg6 e
  have hh : hi ≤ w'.heap.size := Nat.le_trans h1 h2
  have lX := rX.in hX
  have lI := rI.in hI
  have lg := hR.in hn
  rcases rO with ⟨e, _⟩ | ⟨co, e1, l1, l2, l3, hc⟩
  · exact absurd e hO
  subst e1
  have hlo : lo ≤ base := by omega
  have lx : ∀ j, j < V.nO → V.N j ≠ 0 → xs j < hi := fun j hj e => ((hc j hj).2.in e).2
  refine ownC_any (V := { V with nW := n, W := Z }) (gW := g) (gO := gO) (gX := gX) (gI := gI) (sl := sl) (xs := xs) (hR.go hlo (Nat.le_refl _) (Nat.le_refl _) (fun _ _ _ => Sm.refl _ _)) l1 (by omega) (Nat.le_refl _) (fun j hj => ⟨(k gO l1 l2 j).1.trans (hc j hj).1, (hc j hj).2.go (Nat.le_refl _) hh (Nat.le_refl _) (fun _ => k _)⟩) (rX.go (Nat.le_refl _) hh (Nat.le_refl _) (fun _ => k _)) (rI.go (Nat.le_refl _) hh (Nat.le_refl _) (fun _ => k _)) (fun _ => by omega) (fun _ _ => by omega) (fun _ _ => by omega) (fun _ => d4) (fun _ => d5) (fun _ _ => d6) (fun j hj e => ⟨fun _ => by have := lx j hj e; omega, (hx1 j hj).2.1, fun _ => (hx1 j hj).2.2.1, fun _ => (hx1 j hj).2.2.2⟩) (fun i j hij hj _ _ => hx2 i j (Nat.lt_trans hij hj) hj (Nat.ne_of_lt hij))

set_option maxRecDepth 20000 in
set_option maxHeartbeats 8000000 in
theorem l5In_spec1 (c d pn pi pa pm ps pl pc : Int) (v : Value) (V : CV) (lo q : Nat) (h1 : cllB c d V = true) (hs0 : V.short 1048576) (hn0 : V.nW + 1 ≤ 1048576) (hq : q < V.nI) (hI : 0 ≤ V.I q ∧ V.I q ≤ 5000) (hg : 0 ≤ V.g ∧ V.g ≤ 900) (hpc : 0 ≤ pc ∧ pc ≤ 900) (w : World) (h : CopyAt lo w v V) :
    Calls Tryz.prog 19 #[.agg #[.int .i64 c, .int .i64 d], v, .int .i64 (q : Int), .agg #[.int .i64 pn, .int .i64 1, .int .i64 pi, .int .i64 pa, .int .i64 pm, .int .i64 ps, .int .i64 pl, .int .i64 pc]] w fun e w' => (∃ u, e = .returned (.tuple #[u, .bool (takeB c d V (mapW V.W V.nW) q pn 1 pi pa pc)]) ∧ OwnC w.heap.size w'.heap.size w' u (CV.inn c d V q pn 1 pi pa pm ps pl pc)) ∧ Below w.heap.size w w' := by
  obtain ⟨bW, bO, bX, bI, q0, q1, q2, q3, q4, rfl, g1, g2, g3, g4⟩ := h
  have CP : Hid (CopyAt lo w (.agg #[.int .i64 V.c, .slice (some ⟨bW, 0, none⟩) V.nW V.nW, .int .i64 V.g, .slice (some ⟨bO, 0, none⟩) V.nO V.nO, .slice (some ⟨bX, 0, none⟩) V.nX V.nX, .slice (some ⟨bI, 0, none⟩) V.nI V.nI]) V) := ⟨bW, bO, bX, bI, q0, q1, q2, q3, q4, rfl, g1, g2, g3, g4⟩
  have hs : Hid (V.short 1048576) := hs0
  have hnW : Hid (V.nW + 1 ≤ 1048576) := hn0
  clear g1 g2 g3 g4 hs0 hn0 q0 q1 q2 q3 q4
  go_enter Tryz.func19, Tryz.ntmps19
  go_wp2_with fail
  obtain ⟨w0, e0⟩ : ∃ w0, w0 = ((((w.alloc (.cells #[.int .i64 c, .int .i64 d] 40)).alloc (.cells #[.int .i64 V.c, .slice (some ⟨bW, 0, none⟩) V.nW V.nW, .int .i64 V.g, .slice (some ⟨bO, 0, none⟩) V.nO V.nO, .slice (some ⟨bX, 0, none⟩) V.nX V.nX, .slice (some ⟨bI, 0, none⟩) V.nI V.nI] 37)).alloc (.cells #[.int .i64 pn, .int .i64 1, .int .i64 pi, .int .i64 pa, .int .i64 pm, .int .i64 ps, .int .i64 pl, .int .i64 pc] 45)).alloc (.cells #[.int .i64 0, .slice none 0 0, .int .i64 0, .slice none 0 0, .slice none 0 0, .slice none 0 0] 37)) := ⟨_, rfl⟩
  have z0 : w.heap.size + 4 ≤ w0.heap.size := by rw [e0]; simp
  have B0 : Hid (Below w.heap.size w w0) := by rw [e0]; exact ((((Below.refl _ _).alloc (by simp) _).alloc (by simp) _).alloc (by simp; omega) _).alloc (by simp; omega) _
  have M0 : Hid (Bk w0 w.heap.size [.int .i64 c, .int .i64 d]) := by rw [e0]; exact (bk_new w 40 [.int .i64 c, .int .i64 d]).below ((((Below.refl _ _).alloc (Nat.le_refl _) _).alloc (by simp) _).alloc (by simp) _)
  have P0 : Hid (Bk w0 (w.heap.size + 1 + 1) [.int .i64 pn, .int .i64 1, .int .i64 pi, .int .i64 pa, .int .i64 pm, .int .i64 ps, .int .i64 pl, .int .i64 pc]) := by rw [e0]; have h := bk_new ((w.alloc (.cells #[.int .i64 c, .int .i64 d] 40)).alloc (.cells #[.int .i64 V.c, .slice (some ⟨bW, 0, none⟩) V.nW V.nW, .int .i64 V.g, .slice (some ⟨bO, 0, none⟩) V.nO V.nO, .slice (some ⟨bX, 0, none⟩) V.nX V.nX, .slice (some ⟨bI, 0, none⟩) V.nI V.nI] 37)) 45 [.int .i64 pn, .int .i64 1, .int .i64 pi, .int .i64 pa, .int .i64 pm, .int .i64 ps, .int .i64 pl, .int .i64 pc]; rw [World.size_alloc, World.size_alloc] at h; exact h.below ((Below.refl _ _).alloc (Nat.le_refl _) _)
  have R0 : Hid (Bk w0 (w.heap.size + 1 + 1 + 1) [.int .i64 0, .slice none 0 0, .int .i64 0, .slice none 0 0, .slice none 0 0, .slice none 0 0]) := by rw [e0]; have h := bk_new (((w.alloc (.cells #[.int .i64 c, .int .i64 d] 40)).alloc (.cells #[.int .i64 V.c, .slice (some ⟨bW, 0, none⟩) V.nW V.nW, .int .i64 V.g, .slice (some ⟨bO, 0, none⟩) V.nO V.nO, .slice (some ⟨bX, 0, none⟩) V.nX V.nX, .slice (some ⟨bI, 0, none⟩) V.nI V.nI] 37)).alloc (.cells #[.int .i64 pn, .int .i64 1, .int .i64 pi, .int .i64 pa, .int .i64 pm, .int .i64 ps, .int .i64 pl, .int .i64 pc] 45)) 37 [.int .i64 0, .slice none 0 0, .int .i64 0, .slice none 0 0, .slice none 0 0, .slice none 0 0]; rw [World.size_alloc, World.size_alloc, World.size_alloc] at h; exact h
  rw [← e0]
  clear e0
  refine (copyC_spec _ V lo hs.out _ (CP.out.below B0.out)).mono ?_
  rintro e w1 ⟨⟨v1, rfl, hO, hT⟩, hb1⟩
  obtain ⟨aW, kW, aO, kO, aX, kX, aI, kI, rfl, _, _, _, _⟩ := hO.at
  clear hT
  have z1 : w0.heap.size ≤ w1.heap.size := hb1.size
  have HO : Hid (OwnC w0.heap.size w1.heap.size w1 (.agg #[.int .i64 V.c, .slice aW V.nW kW, .int .i64 V.g, .slice aO V.nO kO, .slice aX V.nX kX, .slice aI V.nI kI]) V) := hO
  clear hO
  have HB1 : Hid (Below w0.heap.size w0 w1) := hb1
  clear hb1
  go_wp2_with fail
  obtain ⟨w2, e2⟩ : ∃ w2, w2 = w1.alloc (.cells #[.int .i64 V.c, .slice aW V.nW kW, .int .i64 V.g, .slice aO V.nO kO, .slice aX V.nX kX, .slice aI V.nI kI] 37) := ⟨_, rfl⟩
  have k2 : Below w1.heap.size w1 w2 := by rw [e2]; exact (Below.refl _ _).alloc (Nat.le_refl _) _
  have X2 : Bk w2 w1.heap.size [.int .i64 V.c, .slice aW V.nW kW, .int .i64 V.g, .slice aO V.nO kO, .slice aX V.nX kX, .slice aI V.nI kI] := by rw [e2]; exact bk_new w1 37 [.int .i64 V.c, .slice aW V.nW kW, .int .i64 V.g, .slice aO V.nO kO, .slice aX V.nX kX, .slice aI V.nI kI]
  have z2 : w1.heap.size < w2.heap.size := X2.1
  rw [← e2]
  clear e2
  have k02 : Below w0.heap.size w0 w2 := bthen HB1.out k2
  have B1 : Hid (Below w.heap.size w w2) := bthen B0.out k02
  have M2 : Hid (Bk w2 w.heap.size [.int .i64 c, .int .i64 d]) := M0.out.below k02
  have P3 : Hid (Bk w2 (w.heap.size + 1 + 1) [.int .i64 pn, .int .i64 1, .int .i64 pi, .int .i64 pa, .int .i64 pm, .int .i64 ps, .int .i64 pl, .int .i64 pc]) := P0.out.below k02
  have R4 : Hid (Bk w2 (w.heap.size + 1 + 1 + 1) [.int .i64 0, .slice none 0 0, .int .i64 0, .slice none 0 0, .slice none 0 0, .slice none 0 0]) := R0.out.below k02
  have O2 := HO.out.below (Nat.le_refl _) k2
  clear B0 M0 P0 R0 HO HB1 k2 k02
  obtain ⟨gI, rfl, g1, g2, g3, iq, fq, hset⟩ := O2.ins hq
  clear hset
  generalize w1.heap.size = x8 at *
  generalize w0.heap.size = l0 at *
  have X5 : Hid (Bk w2 x8 [.int .i64 V.c, .slice aW V.nW kW, .int .i64 V.g, .slice aO V.nO kO, .slice aX V.nX kX, .slice (some ⟨gI, 0, none⟩) V.nI kI]) := X2
  have O6 : Hid (OwnC l0 x8 w2 (.agg #[.int .i64 V.c, .slice aW V.nW kW, .int .i64 V.g, .slice aO V.nO kO, .slice aX V.nX kX, .slice (some ⟨gI, 0, none⟩) V.nI kI]) V) := O2
  have I7 : Hid (w2.cell? ⟨gI, q, none⟩ = some (.int .i64 (V.I q)) ∧ w2.frozen? ⟨gI, q, none⟩ = false) := ⟨iq, fq⟩
  clear X2 O2 iq fq
  have hq' : (q : Int) < V.nI := by omega
  cases hne : (pn != V.I q)
  · rcases first_or V.W pi V.nW with hno | ⟨m, hm⟩
    · have HNO : Hid (Noone V.W V.nW pi) := hno
      clear hno
      have hmp : mapW V.W V.nW pi = none := by
        cases e : mapW V.W V.nW pi
        · rfl
        · obtain ⟨m, h1, h2⟩ := mapW_in V.nW (show (mapW V.W V.nW pi).isSome = true by rw [e]; rfl)
          exact absurd h2 (HNO.out m h1)
      have ht0 : Hid (takeB c d V (mapW V.W V.nW) q pn 1 pi pa pc = (cellF c d pa == V.c)) := by unfold Hid; simp [takeB, hne, roomB, hmp]
      clear hmp
      cases hce : (cellF c d pa != V.c)
      · have ht : Hid (takeB c d V (mapW V.W V.nW) q pn 1 pi pa pc = true) := by unfold Hid; rw [ht0.out]; simpa using hce
        have yP0 : w2.cell? ⟨(w.heap.size + 1 + 1), 0, none⟩ = some (.int .i64 pn) := (P3.out.2 0 (by simp)).1
        have yP1 : w2.cell? ⟨(w.heap.size + 1 + 1), 1, none⟩ = some (.int .i64 1) := (P3.out.2 1 (by simp)).1
        have yP2 : w2.cell? ⟨(w.heap.size + 1 + 1), 2, none⟩ = some (.int .i64 pi) := (P3.out.2 2 (by simp)).1
        have yP3 : w2.cell? ⟨(w.heap.size + 1 + 1), 3, none⟩ = some (.int .i64 pa) := (P3.out.2 3 (by simp)).1
        have yP4 : w2.cell? ⟨(w.heap.size + 1 + 1), 4, none⟩ = some (.int .i64 pm) := (P3.out.2 4 (by simp)).1
        have yP5 : w2.cell? ⟨(w.heap.size + 1 + 1), 5, none⟩ = some (.int .i64 ps) := (P3.out.2 5 (by simp)).1
        have yP6 : w2.cell? ⟨(w.heap.size + 1 + 1), 6, none⟩ = some (.int .i64 pl) := (P3.out.2 6 (by simp)).1
        have yP7 : w2.cell? ⟨(w.heap.size + 1 + 1), 7, none⟩ = some (.int .i64 pc) := (P3.out.2 7 (by simp)).1
        have hlP : (w.heap.size + 1 + 1) < w2.heap.size := P3.out.1
        have yX0 : w2.cell? ⟨x8, 0, none⟩ = some (.int .i64 V.c) := (X5.out.2 0 (by simp)).1
        have yX1 : w2.cell? ⟨x8, 1, none⟩ = some (.slice aW V.nW kW) := (X5.out.2 1 (by simp)).1
        have yX2 : w2.cell? ⟨x8, 2, none⟩ = some (.int .i64 V.g) := (X5.out.2 2 (by simp)).1
        have yX3 : w2.cell? ⟨x8, 3, none⟩ = some (.slice aO V.nO kO) := (X5.out.2 3 (by simp)).1
        have yX4 : w2.cell? ⟨x8, 4, none⟩ = some (.slice aX V.nX kX) := (X5.out.2 4 (by simp)).1
        have yX5 : w2.cell? ⟨x8, 5, none⟩ = some (.slice (some ⟨gI, 0, none⟩) V.nI kI) := (X5.out.2 5 (by simp)).1
        have hlX : x8 < w2.heap.size := X5.out.1
        have iq : w2.cell? ⟨gI, q, none⟩ = some (.int .i64 (V.I q)) := I7.out.1
        have fq : w2.frozen? ⟨gI, q, none⟩ = false := I7.out.2
        have lg : gI < w2.heap.size := by have := X5.out.1; omega
        go_upto_region 2 with fail
        go_quiet (fail)
        obtain ⟨w3, e3⟩ : ∃ W, W = w2.drewN nq := ⟨_, rfl⟩
        rw [← e3]
        have k3 : Below w2.heap.size w2 w3 := by rw [e3]; exact bdrewN (Below.refl _ _) _
        have kz : w2.heap.size ≤ w3.heap.size := k3.size
        clear e3
        clear yP0 yP1 yP2 yP3 yP4 yP5 yP6 yP7 hlP yX0 yX1 yX2 yX3 yX4 yX5 hlX iq fq lg
        have y_w3 : w2.heap.size ≤ w3.heap.size := k3.size
        have B8 : Hid (Below w.heap.size w w3) := bthen B1.out k3
        have M8 : Hid (Bk w3 w.heap.size [.int .i64 c, .int .i64 d]) := M2.out.below k3
        have P8 : Hid (Bk w3 (w.heap.size + 1 + 1) [.int .i64 pn, .int .i64 1, .int .i64 pi, .int .i64 pa, .int .i64 pm, .int .i64 ps, .int .i64 pl, .int .i64 pc]) := P3.out.below k3
        have R8 : Hid (Bk w3 (w.heap.size + 1 + 1 + 1) [.int .i64 0, .slice none 0 0, .int .i64 0, .slice none 0 0, .slice none 0 0, .slice none 0 0]) := R4.out.below k3
        have X8 : Hid (Bk w3 x8 [.int .i64 V.c, .slice aW V.nW kW, .int .i64 V.g, .slice aO V.nO kO, .slice aX V.nX kX, .slice (some ⟨gI, 0, none⟩) V.nI kI]) := X5.out.below k3
        have O8 : Hid (OwnC l0 x8 w3 (.agg #[.int .i64 V.c, .slice aW V.nW kW, .int .i64 V.g, .slice aO V.nO kO, .slice aX V.nX kX, .slice (some ⟨gI, 0, none⟩) V.nI kI]) V) := O6.out.below (by omega) k3
        have I8 : Hid (w3.cell? ⟨gI, q, none⟩ = some (.int .i64 (V.I q)) ∧ w3.frozen? ⟨gI, q, none⟩ = false) := ⟨(k3.cell (p := ⟨gI, q, none⟩) (by show gI < _; omega)).trans I7.out.1, (k3.frozen (p := ⟨gI, q, none⟩) (by show gI < _; omega)).trans I7.out.2⟩
        clear B1 M2 P3 R4 X5 O6 I7
        clear k3
        have yP0 : w3.cell? ⟨(w.heap.size + 1 + 1), 0, none⟩ = some (.int .i64 pn) := (P8.out.2 0 (by simp)).1
        have yP1 : w3.cell? ⟨(w.heap.size + 1 + 1), 1, none⟩ = some (.int .i64 1) := (P8.out.2 1 (by simp)).1
        have yP2 : w3.cell? ⟨(w.heap.size + 1 + 1), 2, none⟩ = some (.int .i64 pi) := (P8.out.2 2 (by simp)).1
        have yP3 : w3.cell? ⟨(w.heap.size + 1 + 1), 3, none⟩ = some (.int .i64 pa) := (P8.out.2 3 (by simp)).1
        have yP4 : w3.cell? ⟨(w.heap.size + 1 + 1), 4, none⟩ = some (.int .i64 pm) := (P8.out.2 4 (by simp)).1
        have yP5 : w3.cell? ⟨(w.heap.size + 1 + 1), 5, none⟩ = some (.int .i64 ps) := (P8.out.2 5 (by simp)).1
        have yP6 : w3.cell? ⟨(w.heap.size + 1 + 1), 6, none⟩ = some (.int .i64 pl) := (P8.out.2 6 (by simp)).1
        have yP7 : w3.cell? ⟨(w.heap.size + 1 + 1), 7, none⟩ = some (.int .i64 pc) := (P8.out.2 7 (by simp)).1
        have hlP : (w.heap.size + 1 + 1) < w3.heap.size := P8.out.1
        have yX0 : w3.cell? ⟨x8, 0, none⟩ = some (.int .i64 V.c) := (X8.out.2 0 (by simp)).1
        have yX1 : w3.cell? ⟨x8, 1, none⟩ = some (.slice aW V.nW kW) := (X8.out.2 1 (by simp)).1
        have yX2 : w3.cell? ⟨x8, 2, none⟩ = some (.int .i64 V.g) := (X8.out.2 2 (by simp)).1
        have yX3 : w3.cell? ⟨x8, 3, none⟩ = some (.slice aO V.nO kO) := (X8.out.2 3 (by simp)).1
        have yX4 : w3.cell? ⟨x8, 4, none⟩ = some (.slice aX V.nX kX) := (X8.out.2 4 (by simp)).1
        have yX5 : w3.cell? ⟨x8, 5, none⟩ = some (.slice (some ⟨gI, 0, none⟩) V.nI kI) := (X8.out.2 5 (by simp)).1
        have hlX : x8 < w3.heap.size := X8.out.1
        go_wp2_with fail
        obtain ⟨gW, ha, hgl, hrow⟩ := O8.out.row
        refine (find_no pi aW gW V.nW kW V.W (by have := hnW.out; omega) _ hgl ha HNO.out hrow).mono ?_
        rintro e w4 ⟨rfl, hb4⟩
        clear ha hgl hrow
        have kz4 : w3.heap.size ≤ w4.heap.size := hb4.size
        clear yP0 yP1 yP2 yP3 yP4 yP5 yP6 yP7 hlP yX0 yX1 yX2 yX3 yX4 yX5 hlX
        have y_w4 : w3.heap.size ≤ w4.heap.size := hb4.size
        have B9 : Hid (Below w.heap.size w w4) := bthen B8.out hb4
        have M9 : Hid (Bk w4 w.heap.size [.int .i64 c, .int .i64 d]) := M8.out.below hb4
        have P9 : Hid (Bk w4 (w.heap.size + 1 + 1) [.int .i64 pn, .int .i64 1, .int .i64 pi, .int .i64 pa, .int .i64 pm, .int .i64 ps, .int .i64 pl, .int .i64 pc]) := P8.out.below hb4
        have R9 : Hid (Bk w4 (w.heap.size + 1 + 1 + 1) [.int .i64 0, .slice none 0 0, .int .i64 0, .slice none 0 0, .slice none 0 0, .slice none 0 0]) := R8.out.below hb4
        have X9 : Hid (Bk w4 x8 [.int .i64 V.c, .slice aW V.nW kW, .int .i64 V.g, .slice aO V.nO kO, .slice aX V.nX kX, .slice (some ⟨gI, 0, none⟩) V.nI kI]) := X8.out.below hb4
        have O9 : Hid (OwnC l0 x8 w4 (.agg #[.int .i64 V.c, .slice aW V.nW kW, .int .i64 V.g, .slice aO V.nO kO, .slice aX V.nX kX, .slice (some ⟨gI, 0, none⟩) V.nI kI]) V) := O8.out.below (by omega) hb4
        have I9 : Hid (w4.cell? ⟨gI, q, none⟩ = some (.int .i64 (V.I q)) ∧ w4.frozen? ⟨gI, q, none⟩ = false) := ⟨(hb4.cell (p := ⟨gI, q, none⟩) (by show gI < _; omega)).trans I8.out.1, (hb4.frozen (p := ⟨gI, q, none⟩) (by show gI < _; omega)).trans I8.out.2⟩
        clear B8 M8 P8 R8 X8 O8 I8
        clear hb4
        go_upto_region 9 with fail
        obtain ⟨w5, e5⟩ : ∃ W, W = w4.alloc (.cells #[.int .i64 0, .int .i64 0, .int .i64 0, .int .i64 0, .int .i64 0] 43) := ⟨_, rfl⟩
        rw [← e5]
        have hb5 : Below w4.heap.size w4 w5 := by rw [e5]; exact (Below.refl _ _).alloc (Nat.le_refl _) _
        have kz5 : w4.heap.size ≤ w5.heap.size := hb5.size
        clear e5
        have y_w5 : w4.heap.size ≤ w5.heap.size := hb5.size
        have B10 : Hid (Below w.heap.size w w5) := bthen B9.out hb5
        have M10 : Hid (Bk w5 w.heap.size [.int .i64 c, .int .i64 d]) := M9.out.below hb5
        have P10 : Hid (Bk w5 (w.heap.size + 1 + 1) [.int .i64 pn, .int .i64 1, .int .i64 pi, .int .i64 pa, .int .i64 pm, .int .i64 ps, .int .i64 pl, .int .i64 pc]) := P9.out.below hb5
        have R10 : Hid (Bk w5 (w.heap.size + 1 + 1 + 1) [.int .i64 0, .slice none 0 0, .int .i64 0, .slice none 0 0, .slice none 0 0, .slice none 0 0]) := R9.out.below hb5
        have X10 : Hid (Bk w5 x8 [.int .i64 V.c, .slice aW V.nW kW, .int .i64 V.g, .slice aO V.nO kO, .slice aX V.nX kX, .slice (some ⟨gI, 0, none⟩) V.nI kI]) := X9.out.below hb5
        have O10 : Hid (OwnC l0 x8 w5 (.agg #[.int .i64 V.c, .slice aW V.nW kW, .int .i64 V.g, .slice aO V.nO kO, .slice aX V.nX kX, .slice (some ⟨gI, 0, none⟩) V.nI kI]) V) := O9.out.below (by omega) hb5
        have I10 : Hid (w5.cell? ⟨gI, q, none⟩ = some (.int .i64 (V.I q)) ∧ w5.frozen? ⟨gI, q, none⟩ = false) := ⟨(hb5.cell (p := ⟨gI, q, none⟩) (by show gI < _; omega)).trans I9.out.1, (hb5.frozen (p := ⟨gI, q, none⟩) (by show gI < _; omega)).trans I9.out.2⟩
        clear B9 M9 P9 R9 X9 O9 I9
        clear hb5
        have yP0 : w5.cell? ⟨(w.heap.size + 1 + 1), 0, none⟩ = some (.int .i64 pn) := (P10.out.2 0 (by simp)).1
        have yP1 : w5.cell? ⟨(w.heap.size + 1 + 1), 1, none⟩ = some (.int .i64 1) := (P10.out.2 1 (by simp)).1
        have yP2 : w5.cell? ⟨(w.heap.size + 1 + 1), 2, none⟩ = some (.int .i64 pi) := (P10.out.2 2 (by simp)).1
        have yP3 : w5.cell? ⟨(w.heap.size + 1 + 1), 3, none⟩ = some (.int .i64 pa) := (P10.out.2 3 (by simp)).1
        have yP4 : w5.cell? ⟨(w.heap.size + 1 + 1), 4, none⟩ = some (.int .i64 pm) := (P10.out.2 4 (by simp)).1
        have yP5 : w5.cell? ⟨(w.heap.size + 1 + 1), 5, none⟩ = some (.int .i64 ps) := (P10.out.2 5 (by simp)).1
        have yP6 : w5.cell? ⟨(w.heap.size + 1 + 1), 6, none⟩ = some (.int .i64 pl) := (P10.out.2 6 (by simp)).1
        have yP7 : w5.cell? ⟨(w.heap.size + 1 + 1), 7, none⟩ = some (.int .i64 pc) := (P10.out.2 7 (by simp)).1
        have hlP : (w.heap.size + 1 + 1) < w5.heap.size := P10.out.1
        have yX0 : w5.cell? ⟨x8, 0, none⟩ = some (.int .i64 V.c) := (X10.out.2 0 (by simp)).1
        have yX1 : w5.cell? ⟨x8, 1, none⟩ = some (.slice aW V.nW kW) := (X10.out.2 1 (by simp)).1
        have yX2 : w5.cell? ⟨x8, 2, none⟩ = some (.int .i64 V.g) := (X10.out.2 2 (by simp)).1
        have yX3 : w5.cell? ⟨x8, 3, none⟩ = some (.slice aO V.nO kO) := (X10.out.2 3 (by simp)).1
        have yX4 : w5.cell? ⟨x8, 4, none⟩ = some (.slice aX V.nX kX) := (X10.out.2 4 (by simp)).1
        have yX5 : w5.cell? ⟨x8, 5, none⟩ = some (.slice (some ⟨gI, 0, none⟩) V.nI kI) := (X10.out.2 5 (by simp)).1
        have hlX : x8 < w5.heap.size := X10.out.1
        have yM0 : w5.cell? ⟨w.heap.size, 0, none⟩ = some (.int .i64 c) := (M10.out.2 0 (by simp)).1
        have yM1 : w5.cell? ⟨w.heap.size, 1, none⟩ = some (.int .i64 d) := (M10.out.2 1 (by simp)).1
        have hlM : w.heap.size < w5.heap.size := M10.out.1
        refine wp_region_held_drew (S := fun w' => Below (w5.heap.size) w5 w') (by kernel_rfl) ((Below.refl _ _).drew) ?_
        intro hHeld
        obtain ⟨X0, hX0⟩ : ∃ X, X = w5.drew := ⟨_, rfl⟩
        have hz0 : w5.heap.size ≤ X0.heap.size := by rw [hX0]; exact Nat.le_refl _
        rw [← hX0] at hHeld ⊢
        clear hX0
        refine wpAnyH_take (i := 0) (v := .bool false) rfl (by kernel_rfl) (by kernel_rfl) (by kernel_rfl) (fun _ _ _ h => h) (Or.inl ⟨by rfl, ?_⟩) (by assumption) ?_
        · intro wx hSw; obtain ⟨hcS, hfS⟩ := bcellN hSw; go_simp
        try simp only [Act.put, List.setIfInBounds_toArray, List.set_cons_zero, List.set_cons_succ, List.getElem_toArray, List.getElem_cons_zero]
        refine wpAnyH_take (i := 1) (v := .bool false) rfl (by kernel_rfl) (by kernel_rfl) (by kernel_rfl) (fun _ _ _ h => h) (Or.inl ⟨by rfl, ?_⟩) (by assumption) ?_
        · intro wx hSw; obtain ⟨hcS, hfS⟩ := bcellN hSw; go_simp
        try simp only [Act.put, List.setIfInBounds_toArray, List.set_cons_zero, List.set_cons_succ, List.getElem_toArray, List.getElem_cons_zero, List.getElem_cons_succ]
        refine wpAnyH_take (i := 2) (v := .agg #[.int .i64 c, .int .i64 d]) rfl (by kernel_rfl) (by kernel_rfl) (by kernel_rfl) (fun _ _ _ h => h) (Or.inl ⟨by rfl, ?_⟩) (by assumption) ?_
        · intro wx hSw; obtain ⟨hcS, hfS⟩ := bcellN hSw; go_simp
        try simp only [Act.put, List.setIfInBounds_toArray, List.set_cons_zero, List.set_cons_succ, List.getElem_toArray, List.getElem_cons_zero, List.getElem_cons_succ]
        refine wpAnyH_take (i := 3) (v := .pointer (some ⟨(w.heap.size + 1 + 1), 2, none⟩)) rfl (by kernel_rfl) (by kernel_rfl) (by kernel_rfl) (fun _ _ _ h => h) (Or.inl ⟨by rfl, ?_⟩) (by assumption) ?_
        · intro wx hSw; obtain ⟨hcS, hfS⟩ := bcellN hSw; go_simp
        try simp only [Act.put, List.setIfInBounds_toArray, List.set_cons_zero, List.set_cons_succ, List.getElem_toArray, List.getElem_cons_zero, List.getElem_cons_succ]
        refine wpAnyH_take (i := 7) (v := .pointer (some ⟨x8, 0, none⟩)) rfl (by kernel_rfl) (by kernel_rfl) (by kernel_rfl) (fun _ _ _ h => h) (Or.inl ⟨by rfl, ?_⟩) (by assumption) ?_
        · intro wx hSw; obtain ⟨hcS, hfS⟩ := bcellN hSw; go_simp
        try simp only [Act.put, List.setIfInBounds_toArray, List.set_cons_zero, List.set_cons_succ, List.getElem_toArray, List.getElem_cons_zero, List.getElem_cons_succ]
        refine wpAnyH_take (i := 4) (v := .pointer (some ⟨(w.heap.size + 1 + 1), 3, none⟩)) rfl (by kernel_rfl) (by kernel_rfl) (by kernel_rfl) (fun _ _ _ h => h) (Or.inl ⟨by rfl, ?_⟩) (by assumption) ?_
        · intro wx hSw; obtain ⟨hcS, hfS⟩ := bcellN hSw; go_simp
        try simp only [Act.put, List.setIfInBounds_toArray, List.set_cons_zero, List.set_cons_succ, List.getElem_toArray, List.getElem_cons_zero, List.getElem_cons_succ]
        refine wpAnyH_take (i := 8) (v := .int .i64 V.c) rfl (by kernel_rfl) (by kernel_rfl) (by kernel_rfl) (fun _ _ _ h => h) (Or.inl ⟨by rfl, ?_⟩) (by assumption) ?_
        · intro wx hSw; obtain ⟨hcS, hfS⟩ := bcellN hSw; go_simp
        try simp only [Act.put, List.setIfInBounds_toArray, List.set_cons_zero, List.set_cons_succ, List.getElem_toArray, List.getElem_cons_zero, List.getElem_cons_succ]
        refine wpAnyH_take (i := 5) (v := .int .i64 pa) rfl (by kernel_rfl) (by kernel_rfl) (by kernel_rfl) (fun _ _ _ h => h) (Or.inl ⟨by rfl, ?_⟩) (by assumption) ?_
        · intro wx hSw; obtain ⟨hcS, hfS⟩ := bcellN hSw; go_simp
        try simp only [Act.put, List.setIfInBounds_toArray, List.set_cons_zero, List.set_cons_succ, List.getElem_toArray, List.getElem_cons_zero, List.getElem_cons_succ]
        refine wpAnyH_ready (rs := [6]) (by kernel_rfl) (by simp) ?_
        refine (AllReadyH.cons rfl (fun K hK => ?_) AllReadyH.nil)
        go_simp
        go_wp2_with fail
        refine (cell_spec c d pa _).mono ?_
        rintro e xc ⟨rfl, hxc⟩
        have hsz_xc := hxc.size
        refine hK.out _ _ (bthenN hHeld (by omega) hxc) (fun hNew => ?_)
        clear hK K hHeld
        have hHeld := hNew
        clear hNew
        try simp only [Act.put, List.setIfInBounds_toArray, List.set_cons_zero, List.set_cons_succ, List.getElem_toArray, List.getElem_cons_zero, List.getElem_cons_succ]
        refine wpAnyH_take (i := 9) (v := .bool false) rfl (by kernel_rfl) (by kernel_rfl) (by kernel_rfl) (fun _ _ _ h => h) (Or.inl ⟨by rfl, ?_⟩) (by assumption) ?_
        · intro wx hSw; obtain ⟨hcS, hfS⟩ := bcellN hSw; go_simp
        try simp only [Act.put, List.setIfInBounds_toArray, List.set_cons_zero, List.set_cons_succ, List.getElem_toArray, List.getElem_cons_zero, List.getElem_cons_succ]
        refine wpAnyH_take (i := 10) (v := .bool false) rfl (by kernel_rfl) (by kernel_rfl) (by kernel_rfl) (fun _ _ _ h => h) (Or.inl ⟨by rfl, ?_⟩) (by assumption) ?_
        · intro wx hSw; obtain ⟨hcS, hfS⟩ := bcellN hSw; go_simp
        try simp only [Act.put, List.setIfInBounds_toArray, List.set_cons_zero, List.set_cons_succ, List.getElem_toArray, List.getElem_cons_zero, List.getElem_cons_succ]
        refine wpAnyH_done (by kernel_rfl) ?_ _
        have kzc : w5.heap.size ≤ xc.heap.size := hHeld.size
        clear yP0 yP1 yP2 yP3 yP4 yP5 yP6 yP7 hlP yX0 yX1 yX2 yX3 yX4 yX5 hlX yM0 yM1 hlM
        have y_xc : w5.heap.size ≤ xc.heap.size := hHeld.size
        have B11 : Hid (Below w.heap.size w xc) := bthen B10.out hHeld
        have M11 : Hid (Bk xc w.heap.size [.int .i64 c, .int .i64 d]) := M10.out.below hHeld
        have P11 : Hid (Bk xc (w.heap.size + 1 + 1) [.int .i64 pn, .int .i64 1, .int .i64 pi, .int .i64 pa, .int .i64 pm, .int .i64 ps, .int .i64 pl, .int .i64 pc]) := P10.out.below hHeld
        have R11 : Hid (Bk xc (w.heap.size + 1 + 1 + 1) [.int .i64 0, .slice none 0 0, .int .i64 0, .slice none 0 0, .slice none 0 0, .slice none 0 0]) := R10.out.below hHeld
        have X11 : Hid (Bk xc x8 [.int .i64 V.c, .slice aW V.nW kW, .int .i64 V.g, .slice aO V.nO kO, .slice aX V.nX kX, .slice (some ⟨gI, 0, none⟩) V.nI kI]) := X10.out.below hHeld
        have O11 : Hid (OwnC l0 x8 xc (.agg #[.int .i64 V.c, .slice aW V.nW kW, .int .i64 V.g, .slice aO V.nO kO, .slice aX V.nX kX, .slice (some ⟨gI, 0, none⟩) V.nI kI]) V) := O10.out.below (by omega) hHeld
        have I11 : Hid (xc.cell? ⟨gI, q, none⟩ = some (.int .i64 (V.I q)) ∧ xc.frozen? ⟨gI, q, none⟩ = false) := ⟨(hHeld.cell (p := ⟨gI, q, none⟩) (by show gI < _; omega)).trans I10.out.1, (hHeld.frozen (p := ⟨gI, q, none⟩) (by show gI < _; omega)).trans I10.out.2⟩
        clear B10 M10 P10 R10 X10 O10 I10
        clear hHeld
        have yP0 : xc.cell? ⟨(w.heap.size + 1 + 1), 0, none⟩ = some (.int .i64 pn) := (P11.out.2 0 (by simp)).1
        have yP1 : xc.cell? ⟨(w.heap.size + 1 + 1), 1, none⟩ = some (.int .i64 1) := (P11.out.2 1 (by simp)).1
        have yP2 : xc.cell? ⟨(w.heap.size + 1 + 1), 2, none⟩ = some (.int .i64 pi) := (P11.out.2 2 (by simp)).1
        have yP3 : xc.cell? ⟨(w.heap.size + 1 + 1), 3, none⟩ = some (.int .i64 pa) := (P11.out.2 3 (by simp)).1
        have yP4 : xc.cell? ⟨(w.heap.size + 1 + 1), 4, none⟩ = some (.int .i64 pm) := (P11.out.2 4 (by simp)).1
        have yP5 : xc.cell? ⟨(w.heap.size + 1 + 1), 5, none⟩ = some (.int .i64 ps) := (P11.out.2 5 (by simp)).1
        have yP6 : xc.cell? ⟨(w.heap.size + 1 + 1), 6, none⟩ = some (.int .i64 pl) := (P11.out.2 6 (by simp)).1
        have yP7 : xc.cell? ⟨(w.heap.size + 1 + 1), 7, none⟩ = some (.int .i64 pc) := (P11.out.2 7 (by simp)).1
        have hlP : (w.heap.size + 1 + 1) < xc.heap.size := P11.out.1
        have yX0 : xc.cell? ⟨x8, 0, none⟩ = some (.int .i64 V.c) := (X11.out.2 0 (by simp)).1
        have yX1 : xc.cell? ⟨x8, 1, none⟩ = some (.slice aW V.nW kW) := (X11.out.2 1 (by simp)).1
        have yX2 : xc.cell? ⟨x8, 2, none⟩ = some (.int .i64 V.g) := (X11.out.2 2 (by simp)).1
        have yX3 : xc.cell? ⟨x8, 3, none⟩ = some (.slice aO V.nO kO) := (X11.out.2 3 (by simp)).1
        have yX4 : xc.cell? ⟨x8, 4, none⟩ = some (.slice aX V.nX kX) := (X11.out.2 4 (by simp)).1
        have yX5 : xc.cell? ⟨x8, 5, none⟩ = some (.slice (some ⟨gI, 0, none⟩) V.nI kI) := (X11.out.2 5 (by simp)).1
        have hlX : x8 < xc.heap.size := X11.out.1
        go_wp2_with fail
        obtain ⟨gW, ha, hgl, hrow⟩ := O11.out.row
        refine (put_new aW gW V.nW kW V.W (zp pi pa pm ps pl) hnW.out _ hgl ha (cllB_rise h1) HNO.out hrow).mono ?_
        rintro e w7 ⟨v7, rfl, hown, hb7⟩
        clear ha hgl hrow
        have kz7 : xc.heap.size ≤ w7.heap.size := hb7.size
        obtain ⟨gN, hR, _⟩ := rw_of_own hown
        obtain ⟨aN, kN, rfl, hN⟩ := hR.is
        obtain rfl := hN (by omega)
        clear hN
        have lN := hR.in (by omega)
        have HRN : Hid (RW xc.heap.size w7.heap.size w7 (.slice (some ⟨gN, 0, none⟩) (V.nW + 1) kN) (V.nW + 1) (insW V.W V.nW pi (zp pi pa pm ps pl)) gN) := hR
        clear hown hR
        clear yP0 yP1 yP2 yP3 yP4 yP5 yP6 yP7 hlP yX0 yX1 yX2 yX3 yX4 yX5 hlX
        have y_w7 : xc.heap.size ≤ w7.heap.size := hb7.size
        have B12 : Hid (Below w.heap.size w w7) := bthen B11.out hb7
        have M12 : Hid (Bk w7 w.heap.size [.int .i64 c, .int .i64 d]) := M11.out.below hb7
        have P12 : Hid (Bk w7 (w.heap.size + 1 + 1) [.int .i64 pn, .int .i64 1, .int .i64 pi, .int .i64 pa, .int .i64 pm, .int .i64 ps, .int .i64 pl, .int .i64 pc]) := P11.out.below hb7
        have R12 : Hid (Bk w7 (w.heap.size + 1 + 1 + 1) [.int .i64 0, .slice none 0 0, .int .i64 0, .slice none 0 0, .slice none 0 0, .slice none 0 0]) := R11.out.below hb7
        have X12 : Hid (Bk w7 x8 [.int .i64 V.c, .slice aW V.nW kW, .int .i64 V.g, .slice aO V.nO kO, .slice aX V.nX kX, .slice (some ⟨gI, 0, none⟩) V.nI kI]) := X11.out.below hb7
        have O12 : Hid (OwnC l0 x8 w7 (.agg #[.int .i64 V.c, .slice aW V.nW kW, .int .i64 V.g, .slice aO V.nO kO, .slice aX V.nX kX, .slice (some ⟨gI, 0, none⟩) V.nI kI]) V) := O11.out.below (by omega) hb7
        have I12 : Hid (w7.cell? ⟨gI, q, none⟩ = some (.int .i64 (V.I q)) ∧ w7.frozen? ⟨gI, q, none⟩ = false) := ⟨(hb7.cell (p := ⟨gI, q, none⟩) (by show gI < _; omega)).trans I11.out.1, (hb7.frozen (p := ⟨gI, q, none⟩) (by show gI < _; omega)).trans I11.out.2⟩
        clear B11 M11 P11 R11 X11 O11 I11
        clear hb7
        have yX0 : w7.cell? ⟨x8, 0, none⟩ = some (.int .i64 V.c) := (X12.out.2 0 (by simp)).1
        have zX0 : w7.frozen? ⟨x8, 0, none⟩ = false := (X12.out.2 0 (by simp)).2
        have yX1 : w7.cell? ⟨x8, 1, none⟩ = some (.slice aW V.nW kW) := (X12.out.2 1 (by simp)).1
        have zX1 : w7.frozen? ⟨x8, 1, none⟩ = false := (X12.out.2 1 (by simp)).2
        have yX2 : w7.cell? ⟨x8, 2, none⟩ = some (.int .i64 V.g) := (X12.out.2 2 (by simp)).1
        have zX2 : w7.frozen? ⟨x8, 2, none⟩ = false := (X12.out.2 2 (by simp)).2
        have yX3 : w7.cell? ⟨x8, 3, none⟩ = some (.slice aO V.nO kO) := (X12.out.2 3 (by simp)).1
        have zX3 : w7.frozen? ⟨x8, 3, none⟩ = false := (X12.out.2 3 (by simp)).2
        have yX4 : w7.cell? ⟨x8, 4, none⟩ = some (.slice aX V.nX kX) := (X12.out.2 4 (by simp)).1
        have zX4 : w7.frozen? ⟨x8, 4, none⟩ = false := (X12.out.2 4 (by simp)).2
        have yX5 : w7.cell? ⟨x8, 5, none⟩ = some (.slice (some ⟨gI, 0, none⟩) V.nI kI) := (X12.out.2 5 (by simp)).1
        have zX5 : w7.frozen? ⟨x8, 5, none⟩ = false := (X12.out.2 5 (by simp)).2
        have hlX : x8 < w7.heap.size := X12.out.1
        go_upto_region 12 with fail
        clear yX0 zX0 yX1 zX1 yX2 zX2 yX3 zX3 yX4 zX4 yX5 zX5 hlX
        obtain ⟨w8, e8⟩ : ∃ W, W = w7.setCell ⟨x8, 1, none⟩ (.slice (some ⟨gN, 0, none⟩) (V.nW + 1) kN) := ⟨_, rfl⟩
        rw [← e8]
        have z8 : w8.heap.size = w7.heap.size := by rw [e8]; exact set_size
        have s8 : ∀ b, ¬ b = x8 → Sm w7 w8 b := by rw [e8]; exact fun b hb => sm_set hb
        have B8 : Hid (Below w.heap.size w w8) := by rw [e8]; exact B12.out.setCell (by show w.heap.size ≤ x8; omega) _
        have X8 : Hid (Bk w8 x8 [.int .i64 V.c, .slice (some ⟨gN, 0, none⟩) (V.nW + 1) kN, .int .i64 V.g, .slice aO V.nO kO, .slice aX V.nX kX, .slice (some ⟨gI, 0, none⟩) V.nI kI]) := by rw [e8]; exact X12.out.put1
        have R8 : Hid (Bk w8 (w.heap.size + 1 + 1 + 1) [.int .i64 0, .slice none 0 0, .int .i64 0, .slice none 0 0, .slice none 0 0, .slice none 0 0]) := R12.out.sm (Nat.le_of_eq z8.symm) (s8 _ (by omega))
        have O8 : Hid (OwnC l0 w8.heap.size w8 (.agg #[.int .i64 V.c, .slice (some ⟨gN, 0, none⟩) (V.nW + 1) kN, .int .i64 V.g, .slice aO V.nO kO, .slice aX V.nX kX, .slice (some ⟨gI, 0, none⟩) V.nI kI]) ({ V with nW := V.nW + 1, W := insW V.W V.nW pi (zp pi pa pm ps pl) } : CV)) := by
          obtain ⟨e1, e2, e3⟩ := cllB_two h1
          exact O12.out.wk2 (base := xc.heap.size) (by omega) (by omega) (by omega) (by omega) (by omega) (by omega) (fun b _ hb => s8 b (by omega)) (HRN.out.go (Nat.le_refl _) (Nat.le_of_eq z8.symm) (Nat.le_refl _) (fun _ _ _ => s8 _ (by omega)))
        have I8 : Hid (w8.cell? ⟨gI, q, none⟩ = some (.int .i64 (V.I q)) ∧ w8.frozen? ⟨gI, q, none⟩ = false) := ⟨(s8 gI (by omega) q).1.trans I12.out.1, (s8 gI (by omega) q).2.trans I12.out.2⟩
        clear e8 s8 HRN
        have yX0 : w8.cell? ⟨x8, 0, none⟩ = some (.int .i64 V.c) := (X8.out.2 0 (by simp)).1
        have yX1 : w8.cell? ⟨x8, 1, none⟩ = some (.slice (some ⟨gN, 0, none⟩) (V.nW + 1) kN) := (X8.out.2 1 (by simp)).1
        have yX2 : w8.cell? ⟨x8, 2, none⟩ = some (.int .i64 V.g) := (X8.out.2 2 (by simp)).1
        have yX3 : w8.cell? ⟨x8, 3, none⟩ = some (.slice aO V.nO kO) := (X8.out.2 3 (by simp)).1
        have yX4 : w8.cell? ⟨x8, 4, none⟩ = some (.slice aX V.nX kX) := (X8.out.2 4 (by simp)).1
        have yX5 : w8.cell? ⟨x8, 5, none⟩ = some (.slice (some ⟨gI, 0, none⟩) V.nI kI) := (X8.out.2 5 (by simp)).1
        have hlX : x8 < w8.heap.size := X8.out.1
        have iq : w8.cell? ⟨gI, q, none⟩ = some (.int .i64 (V.I q)) := I8.out.1
        have fq : w8.frozen? ⟨gI, q, none⟩ = false := I8.out.2
        have lg : gI < w8.heap.size := by have := X8.out.1; omega
        have SE : Hid (∀ z, OwnC l0 w8.heap.size (w8.setCell ⟨gI, q, none⟩ (.int .i64 z)) (.agg #[.int .i64 V.c, .slice (some ⟨gN, 0, none⟩) (V.nW + 1) kN, .int .i64 V.g, .slice aO V.nO kO, .slice aX V.nX kX, .slice (some ⟨gI, 0, none⟩) V.nI kI]) { ({ V with nW := V.nW + 1, W := insW V.W V.nW pi (zp pi pa pm ps pl) } : CV) with I := updI ({ V with nW := V.nW + 1, W := insW V.W V.nW pi (zp pi pa pm ps pl) } : CV).I q z }) := fun z => by
          obtain ⟨gJ, eJ, _, _, _, _, _, hset⟩ := OwnC.ins (q := q) (V := ({ V with nW := V.nW + 1, W := insW V.W V.nW pi (zp pi pa pm ps pl) } : CV)) O8.out hq
          simp only [Option.some.injEq, Addr.mk.injEq, and_true] at eJ
          subst eJ
          exact hset z
        go_upto_region 12 with fail
        go_region
        clear yX0 yX1 yX2 yX3 yX4 yX5 hlX iq fq lg
        obtain ⟨w9, e5⟩ : ∃ W, W = (w8.setCell ⟨gI, q, none⟩ (.int .i64 (V.I q + 1))).drew := ⟨_, rfl⟩
        rw [← e5]
        have z5 : w9.heap.size = w8.heap.size := by rw [e5]; exact set_size
        have s5 : ∀ b, ¬ b = gI → Sm w8 w9 b := by rw [e5]; exact fun b hb => sm_set hb
        have B5 : Hid (Below w.heap.size w w9) := by rw [e5]; exact (B8.out.setCell (by show w.heap.size ≤ gI; omega) _).drew
        have X5 : Hid (Bk w9 x8 [.int .i64 V.c, .slice (some ⟨gN, 0, none⟩) (V.nW + 1) kN, .int .i64 V.g, .slice aO V.nO kO, .slice aX V.nX kX, .slice (some ⟨gI, 0, none⟩) V.nI kI]) := X8.out.sm (Nat.le_of_eq z5.symm) (s5 _ (by omega))
        have R5 : Hid (Bk w9 (w.heap.size + 1 + 1 + 1) [.int .i64 0, .slice none 0 0, .int .i64 0, .slice none 0 0, .slice none 0 0, .slice none 0 0]) := R8.out.sm (Nat.le_of_eq z5.symm) (s5 _ (by omega))
        have O5 : Hid (OwnC l0 w8.heap.size w9 (.agg #[.int .i64 V.c, .slice (some ⟨gN, 0, none⟩) (V.nW + 1) kN, .int .i64 V.g, .slice aO V.nO kO, .slice aX V.nX kX, .slice (some ⟨gI, 0, none⟩) V.nI kI]) { (({ V with nW := V.nW + 1, W := insW V.W V.nW pi (zp pi pa pm ps pl) } : CV) : CV) with I := updI V.I q (V.I q + 1) }) := by rw [e5]; exact (SE.out (V.I q + 1)).drew
        clear e5 s5 SE
        have yX0 : w9.cell? ⟨x8, 0, none⟩ = some (.int .i64 V.c) := (X5.out.2 0 (by simp)).1
        have yX1 : w9.cell? ⟨x8, 1, none⟩ = some (.slice (some ⟨gN, 0, none⟩) (V.nW + 1) kN) := (X5.out.2 1 (by simp)).1
        have yX2 : w9.cell? ⟨x8, 2, none⟩ = some (.int .i64 V.g) := (X5.out.2 2 (by simp)).1
        have yX3 : w9.cell? ⟨x8, 3, none⟩ = some (.slice aO V.nO kO) := (X5.out.2 3 (by simp)).1
        have yX4 : w9.cell? ⟨x8, 4, none⟩ = some (.slice aX V.nX kX) := (X5.out.2 4 (by simp)).1
        have yX5 : w9.cell? ⟨x8, 5, none⟩ = some (.slice (some ⟨gI, 0, none⟩) V.nI kI) := (X5.out.2 5 (by simp)).1
        have hlX : x8 < w9.heap.size := X5.out.1
        have yR0 : w9.cell? ⟨(w.heap.size + 1 + 1 + 1), 0, none⟩ = some (.int .i64 0) := (R5.out.2 0 (by simp)).1
        have zR0 : w9.frozen? ⟨(w.heap.size + 1 + 1 + 1), 0, none⟩ = false := (R5.out.2 0 (by simp)).2
        have yR1 : w9.cell? ⟨(w.heap.size + 1 + 1 + 1), 1, none⟩ = some (.slice none 0 0) := (R5.out.2 1 (by simp)).1
        have zR1 : w9.frozen? ⟨(w.heap.size + 1 + 1 + 1), 1, none⟩ = false := (R5.out.2 1 (by simp)).2
        have yR2 : w9.cell? ⟨(w.heap.size + 1 + 1 + 1), 2, none⟩ = some (.int .i64 0) := (R5.out.2 2 (by simp)).1
        have zR2 : w9.frozen? ⟨(w.heap.size + 1 + 1 + 1), 2, none⟩ = false := (R5.out.2 2 (by simp)).2
        have yR3 : w9.cell? ⟨(w.heap.size + 1 + 1 + 1), 3, none⟩ = some (.slice none 0 0) := (R5.out.2 3 (by simp)).1
        have zR3 : w9.frozen? ⟨(w.heap.size + 1 + 1 + 1), 3, none⟩ = false := (R5.out.2 3 (by simp)).2
        have yR4 : w9.cell? ⟨(w.heap.size + 1 + 1 + 1), 4, none⟩ = some (.slice none 0 0) := (R5.out.2 4 (by simp)).1
        have zR4 : w9.frozen? ⟨(w.heap.size + 1 + 1 + 1), 4, none⟩ = false := (R5.out.2 4 (by simp)).2
        have yR5 : w9.cell? ⟨(w.heap.size + 1 + 1 + 1), 5, none⟩ = some (.slice none 0 0) := (R5.out.2 5 (by simp)).1
        have zR5 : w9.frozen? ⟨(w.heap.size + 1 + 1 + 1), 5, none⟩ = false := (R5.out.2 5 (by simp)).2
        have hlR : (w.heap.size + 1 + 1 + 1) < w9.heap.size := R5.out.1
        go_wp2
        refine bodyPost_ret (v := .tuple #[.agg #[.int .i64 V.c, .slice (some ⟨gN, 0, none⟩) (V.nW + 1) kN, .int .i64 V.g, .slice aO V.nO kO, .slice aX V.nX kX, .slice (some ⟨gI, 0, none⟩) V.nI kI], .bool true]) (by simp [results, Tryz.results19, go_sem, yR0, yR1, yR2, yR3, yR4, yR5]) rfl ?_
        have hzz := size_put6 w9 (w.heap.size + 1 + 1 + 1) (.int .i64 V.c) (.slice (some ⟨gN, 0, none⟩) (V.nW + 1) kN) (.int .i64 V.g) (.slice aO V.nO kO) (.slice aX V.nX kX) (.slice (some ⟨gI, 0, none⟩) V.nI kI)
        have hzw : w8.heap.size ≤ w9.heap.size := by have := X5.out.1; omega
        refine ⟨⟨.agg #[.int .i64 V.c, .slice (some ⟨gN, 0, none⟩) (V.nW + 1) kN, .int .i64 V.g, .slice aO V.nO kO, .slice aX V.nX kX, .slice (some ⟨gI, 0, none⟩) V.nI kI], by rw [ht.out], ?_⟩, below_put6 B5.out (by omega) _ _ _ _ _ _⟩
        rw [inn_walker ht.out]
        show OwnC w.heap.size (put6 w9 (w.heap.size + 1 + 1 + 1) (.int .i64 V.c) (.slice (some ⟨gN, 0, none⟩) (V.nW + 1) kN) (.int .i64 V.g) (.slice aO V.nO kO) (.slice aX V.nX kX) (.slice (some ⟨gI, 0, none⟩) V.nI kI)).heap.size (put6 w9 (w.heap.size + 1 + 1 + 1) (.int .i64 V.c) (.slice (some ⟨gN, 0, none⟩) (V.nW + 1) kN) (.int .i64 V.g) (.slice aO V.nO kO) (.slice aX V.nX kX) (.slice (some ⟨gI, 0, none⟩) V.nI kI)) _ _
        rw [hzz]
        exact O5.out.more (by omega) hzw (Nat.le_of_eq hzz.symm) (fun y h1 h2 => sm_put6 (by omega) (.int .i64 V.c) (.slice (some ⟨gN, 0, none⟩) (V.nW + 1) kN) (.int .i64 V.g) (.slice aO V.nO kO) (.slice aX V.nX kX) (.slice (some ⟨gI, 0, none⟩) V.nI kI))
      · have ht : Hid (takeB c d V (mapW V.W V.nW) q pn 1 pi pa pc = false) := by unfold Hid; rw [ht0.out]; simpa using hce
        have yP0 : w2.cell? ⟨(w.heap.size + 1 + 1), 0, none⟩ = some (.int .i64 pn) := (P3.out.2 0 (by simp)).1
        have yP1 : w2.cell? ⟨(w.heap.size + 1 + 1), 1, none⟩ = some (.int .i64 1) := (P3.out.2 1 (by simp)).1
        have yP2 : w2.cell? ⟨(w.heap.size + 1 + 1), 2, none⟩ = some (.int .i64 pi) := (P3.out.2 2 (by simp)).1
        have yP3 : w2.cell? ⟨(w.heap.size + 1 + 1), 3, none⟩ = some (.int .i64 pa) := (P3.out.2 3 (by simp)).1
        have yP4 : w2.cell? ⟨(w.heap.size + 1 + 1), 4, none⟩ = some (.int .i64 pm) := (P3.out.2 4 (by simp)).1
        have yP5 : w2.cell? ⟨(w.heap.size + 1 + 1), 5, none⟩ = some (.int .i64 ps) := (P3.out.2 5 (by simp)).1
        have yP6 : w2.cell? ⟨(w.heap.size + 1 + 1), 6, none⟩ = some (.int .i64 pl) := (P3.out.2 6 (by simp)).1
        have yP7 : w2.cell? ⟨(w.heap.size + 1 + 1), 7, none⟩ = some (.int .i64 pc) := (P3.out.2 7 (by simp)).1
        have hlP : (w.heap.size + 1 + 1) < w2.heap.size := P3.out.1
        have yX0 : w2.cell? ⟨x8, 0, none⟩ = some (.int .i64 V.c) := (X5.out.2 0 (by simp)).1
        have yX1 : w2.cell? ⟨x8, 1, none⟩ = some (.slice aW V.nW kW) := (X5.out.2 1 (by simp)).1
        have yX2 : w2.cell? ⟨x8, 2, none⟩ = some (.int .i64 V.g) := (X5.out.2 2 (by simp)).1
        have yX3 : w2.cell? ⟨x8, 3, none⟩ = some (.slice aO V.nO kO) := (X5.out.2 3 (by simp)).1
        have yX4 : w2.cell? ⟨x8, 4, none⟩ = some (.slice aX V.nX kX) := (X5.out.2 4 (by simp)).1
        have yX5 : w2.cell? ⟨x8, 5, none⟩ = some (.slice (some ⟨gI, 0, none⟩) V.nI kI) := (X5.out.2 5 (by simp)).1
        have hlX : x8 < w2.heap.size := X5.out.1
        have iq : w2.cell? ⟨gI, q, none⟩ = some (.int .i64 (V.I q)) := I7.out.1
        have fq : w2.frozen? ⟨gI, q, none⟩ = false := I7.out.2
        have lg : gI < w2.heap.size := by have := X5.out.1; omega
        go_upto_region 2 with fail
        go_quiet (fail)
        obtain ⟨w3, e3⟩ : ∃ W, W = w2.drewN nq := ⟨_, rfl⟩
        rw [← e3]
        have k3 : Below w2.heap.size w2 w3 := by rw [e3]; exact bdrewN (Below.refl _ _) _
        have kz : w2.heap.size ≤ w3.heap.size := k3.size
        clear e3
        clear yP0 yP1 yP2 yP3 yP4 yP5 yP6 yP7 hlP yX0 yX1 yX2 yX3 yX4 yX5 hlX iq fq lg
        have y_w3 : w2.heap.size ≤ w3.heap.size := k3.size
        have B8 : Hid (Below w.heap.size w w3) := bthen B1.out k3
        have M8 : Hid (Bk w3 w.heap.size [.int .i64 c, .int .i64 d]) := M2.out.below k3
        have P8 : Hid (Bk w3 (w.heap.size + 1 + 1) [.int .i64 pn, .int .i64 1, .int .i64 pi, .int .i64 pa, .int .i64 pm, .int .i64 ps, .int .i64 pl, .int .i64 pc]) := P3.out.below k3
        have R8 : Hid (Bk w3 (w.heap.size + 1 + 1 + 1) [.int .i64 0, .slice none 0 0, .int .i64 0, .slice none 0 0, .slice none 0 0, .slice none 0 0]) := R4.out.below k3
        have X8 : Hid (Bk w3 x8 [.int .i64 V.c, .slice aW V.nW kW, .int .i64 V.g, .slice aO V.nO kO, .slice aX V.nX kX, .slice (some ⟨gI, 0, none⟩) V.nI kI]) := X5.out.below k3
        have O8 : Hid (OwnC l0 x8 w3 (.agg #[.int .i64 V.c, .slice aW V.nW kW, .int .i64 V.g, .slice aO V.nO kO, .slice aX V.nX kX, .slice (some ⟨gI, 0, none⟩) V.nI kI]) V) := O6.out.below (by omega) k3
        have I8 : Hid (w3.cell? ⟨gI, q, none⟩ = some (.int .i64 (V.I q)) ∧ w3.frozen? ⟨gI, q, none⟩ = false) := ⟨(k3.cell (p := ⟨gI, q, none⟩) (by show gI < _; omega)).trans I7.out.1, (k3.frozen (p := ⟨gI, q, none⟩) (by show gI < _; omega)).trans I7.out.2⟩
        clear B1 M2 P3 R4 X5 O6 I7
        clear k3
        have yP0 : w3.cell? ⟨(w.heap.size + 1 + 1), 0, none⟩ = some (.int .i64 pn) := (P8.out.2 0 (by simp)).1
        have yP1 : w3.cell? ⟨(w.heap.size + 1 + 1), 1, none⟩ = some (.int .i64 1) := (P8.out.2 1 (by simp)).1
        have yP2 : w3.cell? ⟨(w.heap.size + 1 + 1), 2, none⟩ = some (.int .i64 pi) := (P8.out.2 2 (by simp)).1
        have yP3 : w3.cell? ⟨(w.heap.size + 1 + 1), 3, none⟩ = some (.int .i64 pa) := (P8.out.2 3 (by simp)).1
        have yP4 : w3.cell? ⟨(w.heap.size + 1 + 1), 4, none⟩ = some (.int .i64 pm) := (P8.out.2 4 (by simp)).1
        have yP5 : w3.cell? ⟨(w.heap.size + 1 + 1), 5, none⟩ = some (.int .i64 ps) := (P8.out.2 5 (by simp)).1
        have yP6 : w3.cell? ⟨(w.heap.size + 1 + 1), 6, none⟩ = some (.int .i64 pl) := (P8.out.2 6 (by simp)).1
        have yP7 : w3.cell? ⟨(w.heap.size + 1 + 1), 7, none⟩ = some (.int .i64 pc) := (P8.out.2 7 (by simp)).1
        have hlP : (w.heap.size + 1 + 1) < w3.heap.size := P8.out.1
        have yX0 : w3.cell? ⟨x8, 0, none⟩ = some (.int .i64 V.c) := (X8.out.2 0 (by simp)).1
        have yX1 : w3.cell? ⟨x8, 1, none⟩ = some (.slice aW V.nW kW) := (X8.out.2 1 (by simp)).1
        have yX2 : w3.cell? ⟨x8, 2, none⟩ = some (.int .i64 V.g) := (X8.out.2 2 (by simp)).1
        have yX3 : w3.cell? ⟨x8, 3, none⟩ = some (.slice aO V.nO kO) := (X8.out.2 3 (by simp)).1
        have yX4 : w3.cell? ⟨x8, 4, none⟩ = some (.slice aX V.nX kX) := (X8.out.2 4 (by simp)).1
        have yX5 : w3.cell? ⟨x8, 5, none⟩ = some (.slice (some ⟨gI, 0, none⟩) V.nI kI) := (X8.out.2 5 (by simp)).1
        have hlX : x8 < w3.heap.size := X8.out.1
        go_wp2_with fail
        obtain ⟨gW, ha, hgl, hrow⟩ := O8.out.row
        refine (find_no pi aW gW V.nW kW V.W (by have := hnW.out; omega) _ hgl ha HNO.out hrow).mono ?_
        rintro e w4 ⟨rfl, hb4⟩
        clear ha hgl hrow
        have kz4 : w3.heap.size ≤ w4.heap.size := hb4.size
        clear yP0 yP1 yP2 yP3 yP4 yP5 yP6 yP7 hlP yX0 yX1 yX2 yX3 yX4 yX5 hlX
        have y_w4 : w3.heap.size ≤ w4.heap.size := hb4.size
        have B9 : Hid (Below w.heap.size w w4) := bthen B8.out hb4
        have M9 : Hid (Bk w4 w.heap.size [.int .i64 c, .int .i64 d]) := M8.out.below hb4
        have P9 : Hid (Bk w4 (w.heap.size + 1 + 1) [.int .i64 pn, .int .i64 1, .int .i64 pi, .int .i64 pa, .int .i64 pm, .int .i64 ps, .int .i64 pl, .int .i64 pc]) := P8.out.below hb4
        have R9 : Hid (Bk w4 (w.heap.size + 1 + 1 + 1) [.int .i64 0, .slice none 0 0, .int .i64 0, .slice none 0 0, .slice none 0 0, .slice none 0 0]) := R8.out.below hb4
        have X9 : Hid (Bk w4 x8 [.int .i64 V.c, .slice aW V.nW kW, .int .i64 V.g, .slice aO V.nO kO, .slice aX V.nX kX, .slice (some ⟨gI, 0, none⟩) V.nI kI]) := X8.out.below hb4
        have O9 : Hid (OwnC l0 x8 w4 (.agg #[.int .i64 V.c, .slice aW V.nW kW, .int .i64 V.g, .slice aO V.nO kO, .slice aX V.nX kX, .slice (some ⟨gI, 0, none⟩) V.nI kI]) V) := O8.out.below (by omega) hb4
        have I9 : Hid (w4.cell? ⟨gI, q, none⟩ = some (.int .i64 (V.I q)) ∧ w4.frozen? ⟨gI, q, none⟩ = false) := ⟨(hb4.cell (p := ⟨gI, q, none⟩) (by show gI < _; omega)).trans I8.out.1, (hb4.frozen (p := ⟨gI, q, none⟩) (by show gI < _; omega)).trans I8.out.2⟩
        clear B8 M8 P8 R8 X8 O8 I8
        clear hb4
        go_upto_region 9 with fail
        obtain ⟨w5, e5⟩ : ∃ W, W = w4.alloc (.cells #[.int .i64 0, .int .i64 0, .int .i64 0, .int .i64 0, .int .i64 0] 43) := ⟨_, rfl⟩
        rw [← e5]
        have hb5 : Below w4.heap.size w4 w5 := by rw [e5]; exact (Below.refl _ _).alloc (Nat.le_refl _) _
        have kz5 : w4.heap.size ≤ w5.heap.size := hb5.size
        clear e5
        have y_w5 : w4.heap.size ≤ w5.heap.size := hb5.size
        have B10 : Hid (Below w.heap.size w w5) := bthen B9.out hb5
        have M10 : Hid (Bk w5 w.heap.size [.int .i64 c, .int .i64 d]) := M9.out.below hb5
        have P10 : Hid (Bk w5 (w.heap.size + 1 + 1) [.int .i64 pn, .int .i64 1, .int .i64 pi, .int .i64 pa, .int .i64 pm, .int .i64 ps, .int .i64 pl, .int .i64 pc]) := P9.out.below hb5
        have R10 : Hid (Bk w5 (w.heap.size + 1 + 1 + 1) [.int .i64 0, .slice none 0 0, .int .i64 0, .slice none 0 0, .slice none 0 0, .slice none 0 0]) := R9.out.below hb5
        have X10 : Hid (Bk w5 x8 [.int .i64 V.c, .slice aW V.nW kW, .int .i64 V.g, .slice aO V.nO kO, .slice aX V.nX kX, .slice (some ⟨gI, 0, none⟩) V.nI kI]) := X9.out.below hb5
        have O10 : Hid (OwnC l0 x8 w5 (.agg #[.int .i64 V.c, .slice aW V.nW kW, .int .i64 V.g, .slice aO V.nO kO, .slice aX V.nX kX, .slice (some ⟨gI, 0, none⟩) V.nI kI]) V) := O9.out.below (by omega) hb5
        have I10 : Hid (w5.cell? ⟨gI, q, none⟩ = some (.int .i64 (V.I q)) ∧ w5.frozen? ⟨gI, q, none⟩ = false) := ⟨(hb5.cell (p := ⟨gI, q, none⟩) (by show gI < _; omega)).trans I9.out.1, (hb5.frozen (p := ⟨gI, q, none⟩) (by show gI < _; omega)).trans I9.out.2⟩
        clear B9 M9 P9 R9 X9 O9 I9
        clear hb5
        have yP0 : w5.cell? ⟨(w.heap.size + 1 + 1), 0, none⟩ = some (.int .i64 pn) := (P10.out.2 0 (by simp)).1
        have yP1 : w5.cell? ⟨(w.heap.size + 1 + 1), 1, none⟩ = some (.int .i64 1) := (P10.out.2 1 (by simp)).1
        have yP2 : w5.cell? ⟨(w.heap.size + 1 + 1), 2, none⟩ = some (.int .i64 pi) := (P10.out.2 2 (by simp)).1
        have yP3 : w5.cell? ⟨(w.heap.size + 1 + 1), 3, none⟩ = some (.int .i64 pa) := (P10.out.2 3 (by simp)).1
        have yP4 : w5.cell? ⟨(w.heap.size + 1 + 1), 4, none⟩ = some (.int .i64 pm) := (P10.out.2 4 (by simp)).1
        have yP5 : w5.cell? ⟨(w.heap.size + 1 + 1), 5, none⟩ = some (.int .i64 ps) := (P10.out.2 5 (by simp)).1
        have yP6 : w5.cell? ⟨(w.heap.size + 1 + 1), 6, none⟩ = some (.int .i64 pl) := (P10.out.2 6 (by simp)).1
        have yP7 : w5.cell? ⟨(w.heap.size + 1 + 1), 7, none⟩ = some (.int .i64 pc) := (P10.out.2 7 (by simp)).1
        have hlP : (w.heap.size + 1 + 1) < w5.heap.size := P10.out.1
        have yX0 : w5.cell? ⟨x8, 0, none⟩ = some (.int .i64 V.c) := (X10.out.2 0 (by simp)).1
        have yX1 : w5.cell? ⟨x8, 1, none⟩ = some (.slice aW V.nW kW) := (X10.out.2 1 (by simp)).1
        have yX2 : w5.cell? ⟨x8, 2, none⟩ = some (.int .i64 V.g) := (X10.out.2 2 (by simp)).1
        have yX3 : w5.cell? ⟨x8, 3, none⟩ = some (.slice aO V.nO kO) := (X10.out.2 3 (by simp)).1
        have yX4 : w5.cell? ⟨x8, 4, none⟩ = some (.slice aX V.nX kX) := (X10.out.2 4 (by simp)).1
        have yX5 : w5.cell? ⟨x8, 5, none⟩ = some (.slice (some ⟨gI, 0, none⟩) V.nI kI) := (X10.out.2 5 (by simp)).1
        have hlX : x8 < w5.heap.size := X10.out.1
        have yM0 : w5.cell? ⟨w.heap.size, 0, none⟩ = some (.int .i64 c) := (M10.out.2 0 (by simp)).1
        have yM1 : w5.cell? ⟨w.heap.size, 1, none⟩ = some (.int .i64 d) := (M10.out.2 1 (by simp)).1
        have hlM : w.heap.size < w5.heap.size := M10.out.1
        refine wp_region_held_drew (S := fun w' => Below (w5.heap.size) w5 w') (by kernel_rfl) ((Below.refl _ _).drew) ?_
        intro hHeld
        obtain ⟨X0, hX0⟩ : ∃ X, X = w5.drew := ⟨_, rfl⟩
        have hz0 : w5.heap.size ≤ X0.heap.size := by rw [hX0]; exact Nat.le_refl _
        rw [← hX0] at hHeld ⊢
        clear hX0
        refine wpAnyH_take (i := 0) (v := .bool false) rfl (by kernel_rfl) (by kernel_rfl) (by kernel_rfl) (fun _ _ _ h => h) (Or.inl ⟨by rfl, ?_⟩) (by assumption) ?_
        · intro wx hSw; obtain ⟨hcS, hfS⟩ := bcellN hSw; go_simp
        try simp only [Act.put, List.setIfInBounds_toArray, List.set_cons_zero, List.set_cons_succ, List.getElem_toArray, List.getElem_cons_zero]
        refine wpAnyH_take (i := 1) (v := .bool false) rfl (by kernel_rfl) (by kernel_rfl) (by kernel_rfl) (fun _ _ _ h => h) (Or.inl ⟨by rfl, ?_⟩) (by assumption) ?_
        · intro wx hSw; obtain ⟨hcS, hfS⟩ := bcellN hSw; go_simp
        try simp only [Act.put, List.setIfInBounds_toArray, List.set_cons_zero, List.set_cons_succ, List.getElem_toArray, List.getElem_cons_zero, List.getElem_cons_succ]
        refine wpAnyH_take (i := 2) (v := .agg #[.int .i64 c, .int .i64 d]) rfl (by kernel_rfl) (by kernel_rfl) (by kernel_rfl) (fun _ _ _ h => h) (Or.inl ⟨by rfl, ?_⟩) (by assumption) ?_
        · intro wx hSw; obtain ⟨hcS, hfS⟩ := bcellN hSw; go_simp
        try simp only [Act.put, List.setIfInBounds_toArray, List.set_cons_zero, List.set_cons_succ, List.getElem_toArray, List.getElem_cons_zero, List.getElem_cons_succ]
        refine wpAnyH_take (i := 3) (v := .pointer (some ⟨(w.heap.size + 1 + 1), 2, none⟩)) rfl (by kernel_rfl) (by kernel_rfl) (by kernel_rfl) (fun _ _ _ h => h) (Or.inl ⟨by rfl, ?_⟩) (by assumption) ?_
        · intro wx hSw; obtain ⟨hcS, hfS⟩ := bcellN hSw; go_simp
        try simp only [Act.put, List.setIfInBounds_toArray, List.set_cons_zero, List.set_cons_succ, List.getElem_toArray, List.getElem_cons_zero, List.getElem_cons_succ]
        refine wpAnyH_take (i := 7) (v := .pointer (some ⟨x8, 0, none⟩)) rfl (by kernel_rfl) (by kernel_rfl) (by kernel_rfl) (fun _ _ _ h => h) (Or.inl ⟨by rfl, ?_⟩) (by assumption) ?_
        · intro wx hSw; obtain ⟨hcS, hfS⟩ := bcellN hSw; go_simp
        try simp only [Act.put, List.setIfInBounds_toArray, List.set_cons_zero, List.set_cons_succ, List.getElem_toArray, List.getElem_cons_zero, List.getElem_cons_succ]
        refine wpAnyH_take (i := 4) (v := .pointer (some ⟨(w.heap.size + 1 + 1), 3, none⟩)) rfl (by kernel_rfl) (by kernel_rfl) (by kernel_rfl) (fun _ _ _ h => h) (Or.inl ⟨by rfl, ?_⟩) (by assumption) ?_
        · intro wx hSw; obtain ⟨hcS, hfS⟩ := bcellN hSw; go_simp
        try simp only [Act.put, List.setIfInBounds_toArray, List.set_cons_zero, List.set_cons_succ, List.getElem_toArray, List.getElem_cons_zero, List.getElem_cons_succ]
        refine wpAnyH_take (i := 8) (v := .int .i64 V.c) rfl (by kernel_rfl) (by kernel_rfl) (by kernel_rfl) (fun _ _ _ h => h) (Or.inl ⟨by rfl, ?_⟩) (by assumption) ?_
        · intro wx hSw; obtain ⟨hcS, hfS⟩ := bcellN hSw; go_simp
        try simp only [Act.put, List.setIfInBounds_toArray, List.set_cons_zero, List.set_cons_succ, List.getElem_toArray, List.getElem_cons_zero, List.getElem_cons_succ]
        refine wpAnyH_take (i := 5) (v := .int .i64 pa) rfl (by kernel_rfl) (by kernel_rfl) (by kernel_rfl) (fun _ _ _ h => h) (Or.inl ⟨by rfl, ?_⟩) (by assumption) ?_
        · intro wx hSw; obtain ⟨hcS, hfS⟩ := bcellN hSw; go_simp
        try simp only [Act.put, List.setIfInBounds_toArray, List.set_cons_zero, List.set_cons_succ, List.getElem_toArray, List.getElem_cons_zero, List.getElem_cons_succ]
        refine wpAnyH_ready (rs := [6]) (by kernel_rfl) (by simp) ?_
        refine (AllReadyH.cons rfl (fun K hK => ?_) AllReadyH.nil)
        go_simp
        go_wp2_with fail
        refine (cell_spec c d pa _).mono ?_
        rintro e xc ⟨rfl, hxc⟩
        have hsz_xc := hxc.size
        refine hK.out _ _ (bthenN hHeld (by omega) hxc) (fun hNew => ?_)
        clear hK K hHeld
        have hHeld := hNew
        clear hNew
        try simp only [Act.put, List.setIfInBounds_toArray, List.set_cons_zero, List.set_cons_succ, List.getElem_toArray, List.getElem_cons_zero, List.getElem_cons_succ]
        refine wpAnyH_take (i := 9) (v := .bool true) rfl (by kernel_rfl) (by kernel_rfl) (by kernel_rfl) (fun _ _ _ h => h) (Or.inl ⟨by rfl, ?_⟩) (by assumption) ?_
        · intro wx hSw; obtain ⟨hcS, hfS⟩ := bcellN hSw; go_simp
        try simp only [Act.put, List.setIfInBounds_toArray, List.set_cons_zero, List.set_cons_succ, List.getElem_toArray, List.getElem_cons_zero, List.getElem_cons_succ]
        refine wpAnyH_take (i := 10) (v := .bool true) rfl (by kernel_rfl) (by kernel_rfl) (by kernel_rfl) (fun _ _ _ h => h) (Or.inl ⟨by rfl, ?_⟩) (by assumption) ?_
        · intro wx hSw; obtain ⟨hcS, hfS⟩ := bcellN hSw; go_simp
        try simp only [Act.put, List.setIfInBounds_toArray, List.set_cons_zero, List.set_cons_succ, List.getElem_toArray, List.getElem_cons_zero, List.getElem_cons_succ]
        refine wpAnyH_done (by kernel_rfl) ?_ _
        have kzc : w5.heap.size ≤ xc.heap.size := hHeld.size
        clear yP0 yP1 yP2 yP3 yP4 yP5 yP6 yP7 hlP yX0 yX1 yX2 yX3 yX4 yX5 hlX yM0 yM1 hlM
        have y_xc : w5.heap.size ≤ xc.heap.size := hHeld.size
        have B11 : Hid (Below w.heap.size w xc) := bthen B10.out hHeld
        have M11 : Hid (Bk xc w.heap.size [.int .i64 c, .int .i64 d]) := M10.out.below hHeld
        have P11 : Hid (Bk xc (w.heap.size + 1 + 1) [.int .i64 pn, .int .i64 1, .int .i64 pi, .int .i64 pa, .int .i64 pm, .int .i64 ps, .int .i64 pl, .int .i64 pc]) := P10.out.below hHeld
        have R11 : Hid (Bk xc (w.heap.size + 1 + 1 + 1) [.int .i64 0, .slice none 0 0, .int .i64 0, .slice none 0 0, .slice none 0 0, .slice none 0 0]) := R10.out.below hHeld
        have X11 : Hid (Bk xc x8 [.int .i64 V.c, .slice aW V.nW kW, .int .i64 V.g, .slice aO V.nO kO, .slice aX V.nX kX, .slice (some ⟨gI, 0, none⟩) V.nI kI]) := X10.out.below hHeld
        have O11 : Hid (OwnC l0 x8 xc (.agg #[.int .i64 V.c, .slice aW V.nW kW, .int .i64 V.g, .slice aO V.nO kO, .slice aX V.nX kX, .slice (some ⟨gI, 0, none⟩) V.nI kI]) V) := O10.out.below (by omega) hHeld
        have I11 : Hid (xc.cell? ⟨gI, q, none⟩ = some (.int .i64 (V.I q)) ∧ xc.frozen? ⟨gI, q, none⟩ = false) := ⟨(hHeld.cell (p := ⟨gI, q, none⟩) (by show gI < _; omega)).trans I10.out.1, (hHeld.frozen (p := ⟨gI, q, none⟩) (by show gI < _; omega)).trans I10.out.2⟩
        clear B10 M10 P10 R10 X10 O10 I10
        clear hHeld
        have yX0 : xc.cell? ⟨x8, 0, none⟩ = some (.int .i64 V.c) := (X11.out.2 0 (by simp)).1
        have yX1 : xc.cell? ⟨x8, 1, none⟩ = some (.slice aW V.nW kW) := (X11.out.2 1 (by simp)).1
        have yX2 : xc.cell? ⟨x8, 2, none⟩ = some (.int .i64 V.g) := (X11.out.2 2 (by simp)).1
        have yX3 : xc.cell? ⟨x8, 3, none⟩ = some (.slice aO V.nO kO) := (X11.out.2 3 (by simp)).1
        have yX4 : xc.cell? ⟨x8, 4, none⟩ = some (.slice aX V.nX kX) := (X11.out.2 4 (by simp)).1
        have yX5 : xc.cell? ⟨x8, 5, none⟩ = some (.slice (some ⟨gI, 0, none⟩) V.nI kI) := (X11.out.2 5 (by simp)).1
        have hlX : x8 < xc.heap.size := X11.out.1
        have yR0 : xc.cell? ⟨(w.heap.size + 1 + 1 + 1), 0, none⟩ = some (.int .i64 0) := (R11.out.2 0 (by simp)).1
        have zR0 : xc.frozen? ⟨(w.heap.size + 1 + 1 + 1), 0, none⟩ = false := (R11.out.2 0 (by simp)).2
        have yR1 : xc.cell? ⟨(w.heap.size + 1 + 1 + 1), 1, none⟩ = some (.slice none 0 0) := (R11.out.2 1 (by simp)).1
        have zR1 : xc.frozen? ⟨(w.heap.size + 1 + 1 + 1), 1, none⟩ = false := (R11.out.2 1 (by simp)).2
        have yR2 : xc.cell? ⟨(w.heap.size + 1 + 1 + 1), 2, none⟩ = some (.int .i64 0) := (R11.out.2 2 (by simp)).1
        have zR2 : xc.frozen? ⟨(w.heap.size + 1 + 1 + 1), 2, none⟩ = false := (R11.out.2 2 (by simp)).2
        have yR3 : xc.cell? ⟨(w.heap.size + 1 + 1 + 1), 3, none⟩ = some (.slice none 0 0) := (R11.out.2 3 (by simp)).1
        have zR3 : xc.frozen? ⟨(w.heap.size + 1 + 1 + 1), 3, none⟩ = false := (R11.out.2 3 (by simp)).2
        have yR4 : xc.cell? ⟨(w.heap.size + 1 + 1 + 1), 4, none⟩ = some (.slice none 0 0) := (R11.out.2 4 (by simp)).1
        have zR4 : xc.frozen? ⟨(w.heap.size + 1 + 1 + 1), 4, none⟩ = false := (R11.out.2 4 (by simp)).2
        have yR5 : xc.cell? ⟨(w.heap.size + 1 + 1 + 1), 5, none⟩ = some (.slice none 0 0) := (R11.out.2 5 (by simp)).1
        have zR5 : xc.frozen? ⟨(w.heap.size + 1 + 1 + 1), 5, none⟩ = false := (R11.out.2 5 (by simp)).2
        have hlR : (w.heap.size + 1 + 1 + 1) < xc.heap.size := R11.out.1
        go_wp2
        refine bodyPost_ret (v := .tuple #[.agg #[.int .i64 V.c, .slice aW V.nW kW, .int .i64 V.g, .slice aO V.nO kO, .slice aX V.nX kX, .slice (some ⟨gI, 0, none⟩) V.nI kI], .bool false]) (by simp [results, Tryz.results19, go_sem, yR0, yR1, yR2, yR3, yR4, yR5]) rfl ?_
        have hzz := size_put6 xc (w.heap.size + 1 + 1 + 1) (.int .i64 V.c) (.slice aW V.nW kW) (.int .i64 V.g) (.slice aO V.nO kO) (.slice aX V.nX kX) (.slice (some ⟨gI, 0, none⟩) V.nI kI)
        have hzw : x8 ≤ xc.heap.size := by have := X11.out.1; omega
        refine ⟨⟨.agg #[.int .i64 V.c, .slice aW V.nW kW, .int .i64 V.g, .slice aO V.nO kO, .slice aX V.nX kX, .slice (some ⟨gI, 0, none⟩) V.nI kI], by rw [ht.out], ?_⟩, below_put6 B11.out (by omega) _ _ _ _ _ _⟩
        rw [inn_no (pm := pm) (ps := ps) (pl := pl) ht.out]
        show OwnC w.heap.size (put6 xc (w.heap.size + 1 + 1 + 1) (.int .i64 V.c) (.slice aW V.nW kW) (.int .i64 V.g) (.slice aO V.nO kO) (.slice aX V.nX kX) (.slice (some ⟨gI, 0, none⟩) V.nI kI)).heap.size (put6 xc (w.heap.size + 1 + 1 + 1) (.int .i64 V.c) (.slice aW V.nW kW) (.int .i64 V.g) (.slice aO V.nO kO) (.slice aX V.nX kX) (.slice (some ⟨gI, 0, none⟩) V.nI kI)) _ _
        rw [hzz]
        exact O11.out.more (by omega) hzw (Nat.le_of_eq hzz.symm) (fun y h1 h2 => sm_put6 (by omega) (.int .i64 V.c) (.slice aW V.nW kW) (.int .i64 V.g) (.slice aO V.nO kO) (.slice aX V.nX kX) (.slice (some ⟨gI, 0, none⟩) V.nI kI))
    · have HMm : Hid (First V.W V.nW pi m) := hm
      have hmp : (mapW V.W V.nW pi).isSome = true := by rw [← hm.2.1, map_at h1 m hm.1]; rfl
      have ht : Hid (takeB c d V (mapW V.W V.nW) q pn 1 pi pa pc = false) := by unfold Hid; simp [takeB, hne, roomB, hmp]
      clear hmp hm
      have yP0 : w2.cell? ⟨(w.heap.size + 1 + 1), 0, none⟩ = some (.int .i64 pn) := (P3.out.2 0 (by simp)).1
      have yP1 : w2.cell? ⟨(w.heap.size + 1 + 1), 1, none⟩ = some (.int .i64 1) := (P3.out.2 1 (by simp)).1
      have yP2 : w2.cell? ⟨(w.heap.size + 1 + 1), 2, none⟩ = some (.int .i64 pi) := (P3.out.2 2 (by simp)).1
      have yP3 : w2.cell? ⟨(w.heap.size + 1 + 1), 3, none⟩ = some (.int .i64 pa) := (P3.out.2 3 (by simp)).1
      have yP4 : w2.cell? ⟨(w.heap.size + 1 + 1), 4, none⟩ = some (.int .i64 pm) := (P3.out.2 4 (by simp)).1
      have yP5 : w2.cell? ⟨(w.heap.size + 1 + 1), 5, none⟩ = some (.int .i64 ps) := (P3.out.2 5 (by simp)).1
      have yP6 : w2.cell? ⟨(w.heap.size + 1 + 1), 6, none⟩ = some (.int .i64 pl) := (P3.out.2 6 (by simp)).1
      have yP7 : w2.cell? ⟨(w.heap.size + 1 + 1), 7, none⟩ = some (.int .i64 pc) := (P3.out.2 7 (by simp)).1
      have hlP : (w.heap.size + 1 + 1) < w2.heap.size := P3.out.1
      have yX0 : w2.cell? ⟨x8, 0, none⟩ = some (.int .i64 V.c) := (X5.out.2 0 (by simp)).1
      have yX1 : w2.cell? ⟨x8, 1, none⟩ = some (.slice aW V.nW kW) := (X5.out.2 1 (by simp)).1
      have yX2 : w2.cell? ⟨x8, 2, none⟩ = some (.int .i64 V.g) := (X5.out.2 2 (by simp)).1
      have yX3 : w2.cell? ⟨x8, 3, none⟩ = some (.slice aO V.nO kO) := (X5.out.2 3 (by simp)).1
      have yX4 : w2.cell? ⟨x8, 4, none⟩ = some (.slice aX V.nX kX) := (X5.out.2 4 (by simp)).1
      have yX5 : w2.cell? ⟨x8, 5, none⟩ = some (.slice (some ⟨gI, 0, none⟩) V.nI kI) := (X5.out.2 5 (by simp)).1
      have hlX : x8 < w2.heap.size := X5.out.1
      have iq : w2.cell? ⟨gI, q, none⟩ = some (.int .i64 (V.I q)) := I7.out.1
      have fq : w2.frozen? ⟨gI, q, none⟩ = false := I7.out.2
      have lg : gI < w2.heap.size := by have := X5.out.1; omega
      go_upto_region 2 with fail
      go_quiet (fail)
      obtain ⟨w3, e3⟩ : ∃ W, W = w2.drewN nq := ⟨_, rfl⟩
      rw [← e3]
      have k3 : Below w2.heap.size w2 w3 := by rw [e3]; exact bdrewN (Below.refl _ _) _
      have kz : w2.heap.size ≤ w3.heap.size := k3.size
      clear e3
      clear yP0 yP1 yP2 yP3 yP4 yP5 yP6 yP7 hlP yX0 yX1 yX2 yX3 yX4 yX5 hlX iq fq lg
      have y_w3 : w2.heap.size ≤ w3.heap.size := k3.size
      have B8 : Hid (Below w.heap.size w w3) := bthen B1.out k3
      have M8 : Hid (Bk w3 w.heap.size [.int .i64 c, .int .i64 d]) := M2.out.below k3
      have P8 : Hid (Bk w3 (w.heap.size + 1 + 1) [.int .i64 pn, .int .i64 1, .int .i64 pi, .int .i64 pa, .int .i64 pm, .int .i64 ps, .int .i64 pl, .int .i64 pc]) := P3.out.below k3
      have R8 : Hid (Bk w3 (w.heap.size + 1 + 1 + 1) [.int .i64 0, .slice none 0 0, .int .i64 0, .slice none 0 0, .slice none 0 0, .slice none 0 0]) := R4.out.below k3
      have X8 : Hid (Bk w3 x8 [.int .i64 V.c, .slice aW V.nW kW, .int .i64 V.g, .slice aO V.nO kO, .slice aX V.nX kX, .slice (some ⟨gI, 0, none⟩) V.nI kI]) := X5.out.below k3
      have O8 : Hid (OwnC l0 x8 w3 (.agg #[.int .i64 V.c, .slice aW V.nW kW, .int .i64 V.g, .slice aO V.nO kO, .slice aX V.nX kX, .slice (some ⟨gI, 0, none⟩) V.nI kI]) V) := O6.out.below (by omega) k3
      have I8 : Hid (w3.cell? ⟨gI, q, none⟩ = some (.int .i64 (V.I q)) ∧ w3.frozen? ⟨gI, q, none⟩ = false) := ⟨(k3.cell (p := ⟨gI, q, none⟩) (by show gI < _; omega)).trans I7.out.1, (k3.frozen (p := ⟨gI, q, none⟩) (by show gI < _; omega)).trans I7.out.2⟩
      clear B1 M2 P3 R4 X5 O6 I7
      clear k3
      have yP0 : w3.cell? ⟨(w.heap.size + 1 + 1), 0, none⟩ = some (.int .i64 pn) := (P8.out.2 0 (by simp)).1
      have yP1 : w3.cell? ⟨(w.heap.size + 1 + 1), 1, none⟩ = some (.int .i64 1) := (P8.out.2 1 (by simp)).1
      have yP2 : w3.cell? ⟨(w.heap.size + 1 + 1), 2, none⟩ = some (.int .i64 pi) := (P8.out.2 2 (by simp)).1
      have yP3 : w3.cell? ⟨(w.heap.size + 1 + 1), 3, none⟩ = some (.int .i64 pa) := (P8.out.2 3 (by simp)).1
      have yP4 : w3.cell? ⟨(w.heap.size + 1 + 1), 4, none⟩ = some (.int .i64 pm) := (P8.out.2 4 (by simp)).1
      have yP5 : w3.cell? ⟨(w.heap.size + 1 + 1), 5, none⟩ = some (.int .i64 ps) := (P8.out.2 5 (by simp)).1
      have yP6 : w3.cell? ⟨(w.heap.size + 1 + 1), 6, none⟩ = some (.int .i64 pl) := (P8.out.2 6 (by simp)).1
      have yP7 : w3.cell? ⟨(w.heap.size + 1 + 1), 7, none⟩ = some (.int .i64 pc) := (P8.out.2 7 (by simp)).1
      have hlP : (w.heap.size + 1 + 1) < w3.heap.size := P8.out.1
      have yX0 : w3.cell? ⟨x8, 0, none⟩ = some (.int .i64 V.c) := (X8.out.2 0 (by simp)).1
      have yX1 : w3.cell? ⟨x8, 1, none⟩ = some (.slice aW V.nW kW) := (X8.out.2 1 (by simp)).1
      have yX2 : w3.cell? ⟨x8, 2, none⟩ = some (.int .i64 V.g) := (X8.out.2 2 (by simp)).1
      have yX3 : w3.cell? ⟨x8, 3, none⟩ = some (.slice aO V.nO kO) := (X8.out.2 3 (by simp)).1
      have yX4 : w3.cell? ⟨x8, 4, none⟩ = some (.slice aX V.nX kX) := (X8.out.2 4 (by simp)).1
      have yX5 : w3.cell? ⟨x8, 5, none⟩ = some (.slice (some ⟨gI, 0, none⟩) V.nI kI) := (X8.out.2 5 (by simp)).1
      have hlX : x8 < w3.heap.size := X8.out.1
      go_wp2_with fail
      obtain ⟨gW, ha, hgl, hrow⟩ := O8.out.row
      refine (find_yes pi aW gW V.nW kW m V.W (by have := hnW.out; omega) _ hgl ha HMm.out hrow).mono ?_
      rintro e w4 ⟨rfl, hb4⟩
      clear ha hgl hrow
      have kz4 : w3.heap.size ≤ w4.heap.size := hb4.size
      clear yP0 yP1 yP2 yP3 yP4 yP5 yP6 yP7 hlP yX0 yX1 yX2 yX3 yX4 yX5 hlX
      have y_w4 : w3.heap.size ≤ w4.heap.size := hb4.size
      have B9 : Hid (Below w.heap.size w w4) := bthen B8.out hb4
      have M9 : Hid (Bk w4 w.heap.size [.int .i64 c, .int .i64 d]) := M8.out.below hb4
      have P9 : Hid (Bk w4 (w.heap.size + 1 + 1) [.int .i64 pn, .int .i64 1, .int .i64 pi, .int .i64 pa, .int .i64 pm, .int .i64 ps, .int .i64 pl, .int .i64 pc]) := P8.out.below hb4
      have R9 : Hid (Bk w4 (w.heap.size + 1 + 1 + 1) [.int .i64 0, .slice none 0 0, .int .i64 0, .slice none 0 0, .slice none 0 0, .slice none 0 0]) := R8.out.below hb4
      have X9 : Hid (Bk w4 x8 [.int .i64 V.c, .slice aW V.nW kW, .int .i64 V.g, .slice aO V.nO kO, .slice aX V.nX kX, .slice (some ⟨gI, 0, none⟩) V.nI kI]) := X8.out.below hb4
      have O9 : Hid (OwnC l0 x8 w4 (.agg #[.int .i64 V.c, .slice aW V.nW kW, .int .i64 V.g, .slice aO V.nO kO, .slice aX V.nX kX, .slice (some ⟨gI, 0, none⟩) V.nI kI]) V) := O8.out.below (by omega) hb4
      have I9 : Hid (w4.cell? ⟨gI, q, none⟩ = some (.int .i64 (V.I q)) ∧ w4.frozen? ⟨gI, q, none⟩ = false) := ⟨(hb4.cell (p := ⟨gI, q, none⟩) (by show gI < _; omega)).trans I8.out.1, (hb4.frozen (p := ⟨gI, q, none⟩) (by show gI < _; omega)).trans I8.out.2⟩
      clear B8 M8 P8 R8 X8 O8 I8
      clear hb4
      go_upto_region 9 with fail
      obtain ⟨w5, e5⟩ : ∃ W, W = w4.alloc (.cells #[.int .i64 (V.W m 0), .int .i64 (V.W m 1), .int .i64 (V.W m 2), .int .i64 (V.W m 3), .int .i64 (V.W m 4)] 43) := ⟨_, rfl⟩
      rw [← e5]
      have hb5 : Below w4.heap.size w4 w5 := by rw [e5]; exact (Below.refl _ _).alloc (Nat.le_refl _) _
      have kz5 : w4.heap.size ≤ w5.heap.size := hb5.size
      clear e5
      have y_w5 : w4.heap.size ≤ w5.heap.size := hb5.size
      have B10 : Hid (Below w.heap.size w w5) := bthen B9.out hb5
      have M10 : Hid (Bk w5 w.heap.size [.int .i64 c, .int .i64 d]) := M9.out.below hb5
      have P10 : Hid (Bk w5 (w.heap.size + 1 + 1) [.int .i64 pn, .int .i64 1, .int .i64 pi, .int .i64 pa, .int .i64 pm, .int .i64 ps, .int .i64 pl, .int .i64 pc]) := P9.out.below hb5
      have R10 : Hid (Bk w5 (w.heap.size + 1 + 1 + 1) [.int .i64 0, .slice none 0 0, .int .i64 0, .slice none 0 0, .slice none 0 0, .slice none 0 0]) := R9.out.below hb5
      have X10 : Hid (Bk w5 x8 [.int .i64 V.c, .slice aW V.nW kW, .int .i64 V.g, .slice aO V.nO kO, .slice aX V.nX kX, .slice (some ⟨gI, 0, none⟩) V.nI kI]) := X9.out.below hb5
      have O10 : Hid (OwnC l0 x8 w5 (.agg #[.int .i64 V.c, .slice aW V.nW kW, .int .i64 V.g, .slice aO V.nO kO, .slice aX V.nX kX, .slice (some ⟨gI, 0, none⟩) V.nI kI]) V) := O9.out.below (by omega) hb5
      have I10 : Hid (w5.cell? ⟨gI, q, none⟩ = some (.int .i64 (V.I q)) ∧ w5.frozen? ⟨gI, q, none⟩ = false) := ⟨(hb5.cell (p := ⟨gI, q, none⟩) (by show gI < _; omega)).trans I9.out.1, (hb5.frozen (p := ⟨gI, q, none⟩) (by show gI < _; omega)).trans I9.out.2⟩
      clear B9 M9 P9 R9 X9 O9 I9
      clear hb5
      have yP0 : w5.cell? ⟨(w.heap.size + 1 + 1), 0, none⟩ = some (.int .i64 pn) := (P10.out.2 0 (by simp)).1
      have yP1 : w5.cell? ⟨(w.heap.size + 1 + 1), 1, none⟩ = some (.int .i64 1) := (P10.out.2 1 (by simp)).1
      have yP2 : w5.cell? ⟨(w.heap.size + 1 + 1), 2, none⟩ = some (.int .i64 pi) := (P10.out.2 2 (by simp)).1
      have yP3 : w5.cell? ⟨(w.heap.size + 1 + 1), 3, none⟩ = some (.int .i64 pa) := (P10.out.2 3 (by simp)).1
      have yP4 : w5.cell? ⟨(w.heap.size + 1 + 1), 4, none⟩ = some (.int .i64 pm) := (P10.out.2 4 (by simp)).1
      have yP5 : w5.cell? ⟨(w.heap.size + 1 + 1), 5, none⟩ = some (.int .i64 ps) := (P10.out.2 5 (by simp)).1
      have yP6 : w5.cell? ⟨(w.heap.size + 1 + 1), 6, none⟩ = some (.int .i64 pl) := (P10.out.2 6 (by simp)).1
      have yP7 : w5.cell? ⟨(w.heap.size + 1 + 1), 7, none⟩ = some (.int .i64 pc) := (P10.out.2 7 (by simp)).1
      have hlP : (w.heap.size + 1 + 1) < w5.heap.size := P10.out.1
      have yX0 : w5.cell? ⟨x8, 0, none⟩ = some (.int .i64 V.c) := (X10.out.2 0 (by simp)).1
      have yX1 : w5.cell? ⟨x8, 1, none⟩ = some (.slice aW V.nW kW) := (X10.out.2 1 (by simp)).1
      have yX2 : w5.cell? ⟨x8, 2, none⟩ = some (.int .i64 V.g) := (X10.out.2 2 (by simp)).1
      have yX3 : w5.cell? ⟨x8, 3, none⟩ = some (.slice aO V.nO kO) := (X10.out.2 3 (by simp)).1
      have yX4 : w5.cell? ⟨x8, 4, none⟩ = some (.slice aX V.nX kX) := (X10.out.2 4 (by simp)).1
      have yX5 : w5.cell? ⟨x8, 5, none⟩ = some (.slice (some ⟨gI, 0, none⟩) V.nI kI) := (X10.out.2 5 (by simp)).1
      have hlX : x8 < w5.heap.size := X10.out.1
      have yM0 : w5.cell? ⟨w.heap.size, 0, none⟩ = some (.int .i64 c) := (M10.out.2 0 (by simp)).1
      have yM1 : w5.cell? ⟨w.heap.size, 1, none⟩ = some (.int .i64 d) := (M10.out.2 1 (by simp)).1
      have hlM : w.heap.size < w5.heap.size := M10.out.1
      go_quiet (fail)
      obtain ⟨w6, e3⟩ : ∃ W, W = w5.drewN nq := ⟨_, rfl⟩
      rw [← e3]
      have k3 : Below w5.heap.size w5 w6 := by rw [e3]; exact bdrewN (Below.refl _ _) _
      have kz : w5.heap.size ≤ w6.heap.size := k3.size
      clear e3
      clear yP0 yP1 yP2 yP3 yP4 yP5 yP6 yP7 hlP yX0 yX1 yX2 yX3 yX4 yX5 hlX yM0 yM1 hlM
      have y_w6 : w5.heap.size ≤ w6.heap.size := k3.size
      have B11 : Hid (Below w.heap.size w w6) := bthen B10.out k3
      have M11 : Hid (Bk w6 w.heap.size [.int .i64 c, .int .i64 d]) := M10.out.below k3
      have P11 : Hid (Bk w6 (w.heap.size + 1 + 1) [.int .i64 pn, .int .i64 1, .int .i64 pi, .int .i64 pa, .int .i64 pm, .int .i64 ps, .int .i64 pl, .int .i64 pc]) := P10.out.below k3
      have R11 : Hid (Bk w6 (w.heap.size + 1 + 1 + 1) [.int .i64 0, .slice none 0 0, .int .i64 0, .slice none 0 0, .slice none 0 0, .slice none 0 0]) := R10.out.below k3
      have X11 : Hid (Bk w6 x8 [.int .i64 V.c, .slice aW V.nW kW, .int .i64 V.g, .slice aO V.nO kO, .slice aX V.nX kX, .slice (some ⟨gI, 0, none⟩) V.nI kI]) := X10.out.below k3
      have O11 : Hid (OwnC l0 x8 w6 (.agg #[.int .i64 V.c, .slice aW V.nW kW, .int .i64 V.g, .slice aO V.nO kO, .slice aX V.nX kX, .slice (some ⟨gI, 0, none⟩) V.nI kI]) V) := O10.out.below (by omega) k3
      have I11 : Hid (w6.cell? ⟨gI, q, none⟩ = some (.int .i64 (V.I q)) ∧ w6.frozen? ⟨gI, q, none⟩ = false) := ⟨(k3.cell (p := ⟨gI, q, none⟩) (by show gI < _; omega)).trans I10.out.1, (k3.frozen (p := ⟨gI, q, none⟩) (by show gI < _; omega)).trans I10.out.2⟩
      clear B10 M10 P10 R10 X10 O10 I10
      clear k3
      have yX0 : w6.cell? ⟨x8, 0, none⟩ = some (.int .i64 V.c) := (X11.out.2 0 (by simp)).1
      have yX1 : w6.cell? ⟨x8, 1, none⟩ = some (.slice aW V.nW kW) := (X11.out.2 1 (by simp)).1
      have yX2 : w6.cell? ⟨x8, 2, none⟩ = some (.int .i64 V.g) := (X11.out.2 2 (by simp)).1
      have yX3 : w6.cell? ⟨x8, 3, none⟩ = some (.slice aO V.nO kO) := (X11.out.2 3 (by simp)).1
      have yX4 : w6.cell? ⟨x8, 4, none⟩ = some (.slice aX V.nX kX) := (X11.out.2 4 (by simp)).1
      have yX5 : w6.cell? ⟨x8, 5, none⟩ = some (.slice (some ⟨gI, 0, none⟩) V.nI kI) := (X11.out.2 5 (by simp)).1
      have hlX : x8 < w6.heap.size := X11.out.1
      have yR0 : w6.cell? ⟨(w.heap.size + 1 + 1 + 1), 0, none⟩ = some (.int .i64 0) := (R11.out.2 0 (by simp)).1
      have zR0 : w6.frozen? ⟨(w.heap.size + 1 + 1 + 1), 0, none⟩ = false := (R11.out.2 0 (by simp)).2
      have yR1 : w6.cell? ⟨(w.heap.size + 1 + 1 + 1), 1, none⟩ = some (.slice none 0 0) := (R11.out.2 1 (by simp)).1
      have zR1 : w6.frozen? ⟨(w.heap.size + 1 + 1 + 1), 1, none⟩ = false := (R11.out.2 1 (by simp)).2
      have yR2 : w6.cell? ⟨(w.heap.size + 1 + 1 + 1), 2, none⟩ = some (.int .i64 0) := (R11.out.2 2 (by simp)).1
      have zR2 : w6.frozen? ⟨(w.heap.size + 1 + 1 + 1), 2, none⟩ = false := (R11.out.2 2 (by simp)).2
      have yR3 : w6.cell? ⟨(w.heap.size + 1 + 1 + 1), 3, none⟩ = some (.slice none 0 0) := (R11.out.2 3 (by simp)).1
      have zR3 : w6.frozen? ⟨(w.heap.size + 1 + 1 + 1), 3, none⟩ = false := (R11.out.2 3 (by simp)).2
      have yR4 : w6.cell? ⟨(w.heap.size + 1 + 1 + 1), 4, none⟩ = some (.slice none 0 0) := (R11.out.2 4 (by simp)).1
      have zR4 : w6.frozen? ⟨(w.heap.size + 1 + 1 + 1), 4, none⟩ = false := (R11.out.2 4 (by simp)).2
      have yR5 : w6.cell? ⟨(w.heap.size + 1 + 1 + 1), 5, none⟩ = some (.slice none 0 0) := (R11.out.2 5 (by simp)).1
      have zR5 : w6.frozen? ⟨(w.heap.size + 1 + 1 + 1), 5, none⟩ = false := (R11.out.2 5 (by simp)).2
      have hlR : (w.heap.size + 1 + 1 + 1) < w6.heap.size := R11.out.1
      go_wp2
      refine bodyPost_ret (v := .tuple #[.agg #[.int .i64 V.c, .slice aW V.nW kW, .int .i64 V.g, .slice aO V.nO kO, .slice aX V.nX kX, .slice (some ⟨gI, 0, none⟩) V.nI kI], .bool false]) (by simp [results, Tryz.results19, go_sem, yR0, yR1, yR2, yR3, yR4, yR5]) rfl ?_
      have hzz := size_put6 w6 (w.heap.size + 1 + 1 + 1) (.int .i64 V.c) (.slice aW V.nW kW) (.int .i64 V.g) (.slice aO V.nO kO) (.slice aX V.nX kX) (.slice (some ⟨gI, 0, none⟩) V.nI kI)
      have hzw : x8 ≤ w6.heap.size := by have := X11.out.1; omega
      refine ⟨⟨.agg #[.int .i64 V.c, .slice aW V.nW kW, .int .i64 V.g, .slice aO V.nO kO, .slice aX V.nX kX, .slice (some ⟨gI, 0, none⟩) V.nI kI], by rw [ht.out], ?_⟩, below_put6 B11.out (by omega) _ _ _ _ _ _⟩
      rw [inn_no (pm := pm) (ps := ps) (pl := pl) ht.out]
      show OwnC w.heap.size (put6 w6 (w.heap.size + 1 + 1 + 1) (.int .i64 V.c) (.slice aW V.nW kW) (.int .i64 V.g) (.slice aO V.nO kO) (.slice aX V.nX kX) (.slice (some ⟨gI, 0, none⟩) V.nI kI)).heap.size (put6 w6 (w.heap.size + 1 + 1 + 1) (.int .i64 V.c) (.slice aW V.nW kW) (.int .i64 V.g) (.slice aO V.nO kO) (.slice aX V.nX kX) (.slice (some ⟨gI, 0, none⟩) V.nI kI)) _ _
      rw [hzz]
      exact O11.out.more (by omega) hzw (Nat.le_of_eq hzz.symm) (fun y h1 h2 => sm_put6 (by omega) (.int .i64 V.c) (.slice aW V.nW kW) (.int .i64 V.g) (.slice aO V.nO kO) (.slice aX V.nX kX) (.slice (some ⟨gI, 0, none⟩) V.nI kI))
  · have ht : Hid (takeB c d V (mapW V.W V.nW) q pn 1 pi pa pc = false) := by unfold Hid; simp [takeB, hne]
    have yP0 : w2.cell? ⟨(w.heap.size + 1 + 1), 0, none⟩ = some (.int .i64 pn) := (P3.out.2 0 (by simp)).1
    have yP1 : w2.cell? ⟨(w.heap.size + 1 + 1), 1, none⟩ = some (.int .i64 1) := (P3.out.2 1 (by simp)).1
    have yP2 : w2.cell? ⟨(w.heap.size + 1 + 1), 2, none⟩ = some (.int .i64 pi) := (P3.out.2 2 (by simp)).1
    have yP3 : w2.cell? ⟨(w.heap.size + 1 + 1), 3, none⟩ = some (.int .i64 pa) := (P3.out.2 3 (by simp)).1
    have yP4 : w2.cell? ⟨(w.heap.size + 1 + 1), 4, none⟩ = some (.int .i64 pm) := (P3.out.2 4 (by simp)).1
    have yP5 : w2.cell? ⟨(w.heap.size + 1 + 1), 5, none⟩ = some (.int .i64 ps) := (P3.out.2 5 (by simp)).1
    have yP6 : w2.cell? ⟨(w.heap.size + 1 + 1), 6, none⟩ = some (.int .i64 pl) := (P3.out.2 6 (by simp)).1
    have yP7 : w2.cell? ⟨(w.heap.size + 1 + 1), 7, none⟩ = some (.int .i64 pc) := (P3.out.2 7 (by simp)).1
    have hlP : (w.heap.size + 1 + 1) < w2.heap.size := P3.out.1
    have yX0 : w2.cell? ⟨x8, 0, none⟩ = some (.int .i64 V.c) := (X5.out.2 0 (by simp)).1
    have yX1 : w2.cell? ⟨x8, 1, none⟩ = some (.slice aW V.nW kW) := (X5.out.2 1 (by simp)).1
    have yX2 : w2.cell? ⟨x8, 2, none⟩ = some (.int .i64 V.g) := (X5.out.2 2 (by simp)).1
    have yX3 : w2.cell? ⟨x8, 3, none⟩ = some (.slice aO V.nO kO) := (X5.out.2 3 (by simp)).1
    have yX4 : w2.cell? ⟨x8, 4, none⟩ = some (.slice aX V.nX kX) := (X5.out.2 4 (by simp)).1
    have yX5 : w2.cell? ⟨x8, 5, none⟩ = some (.slice (some ⟨gI, 0, none⟩) V.nI kI) := (X5.out.2 5 (by simp)).1
    have hlX : x8 < w2.heap.size := X5.out.1
    have iq : w2.cell? ⟨gI, q, none⟩ = some (.int .i64 (V.I q)) := I7.out.1
    have fq : w2.frozen? ⟨gI, q, none⟩ = false := I7.out.2
    have lg : gI < w2.heap.size := by have := X5.out.1; omega
    go_upto_region 2 with fail
    go_quiet (fail)
    obtain ⟨w3, e3⟩ : ∃ W, W = w2.drewN nq := ⟨_, rfl⟩
    rw [← e3]
    have k3 : Below w2.heap.size w2 w3 := by rw [e3]; exact bdrewN (Below.refl _ _) _
    have kz : w2.heap.size ≤ w3.heap.size := k3.size
    clear e3
    clear yP0 yP1 yP2 yP3 yP4 yP5 yP6 yP7 hlP yX0 yX1 yX2 yX3 yX4 yX5 hlX iq fq lg
    have y_w3 : w2.heap.size ≤ w3.heap.size := k3.size
    have B8 : Hid (Below w.heap.size w w3) := bthen B1.out k3
    have M8 : Hid (Bk w3 w.heap.size [.int .i64 c, .int .i64 d]) := M2.out.below k3
    have P8 : Hid (Bk w3 (w.heap.size + 1 + 1) [.int .i64 pn, .int .i64 1, .int .i64 pi, .int .i64 pa, .int .i64 pm, .int .i64 ps, .int .i64 pl, .int .i64 pc]) := P3.out.below k3
    have R8 : Hid (Bk w3 (w.heap.size + 1 + 1 + 1) [.int .i64 0, .slice none 0 0, .int .i64 0, .slice none 0 0, .slice none 0 0, .slice none 0 0]) := R4.out.below k3
    have X8 : Hid (Bk w3 x8 [.int .i64 V.c, .slice aW V.nW kW, .int .i64 V.g, .slice aO V.nO kO, .slice aX V.nX kX, .slice (some ⟨gI, 0, none⟩) V.nI kI]) := X5.out.below k3
    have O8 : Hid (OwnC l0 x8 w3 (.agg #[.int .i64 V.c, .slice aW V.nW kW, .int .i64 V.g, .slice aO V.nO kO, .slice aX V.nX kX, .slice (some ⟨gI, 0, none⟩) V.nI kI]) V) := O6.out.below (by omega) k3
    have I8 : Hid (w3.cell? ⟨gI, q, none⟩ = some (.int .i64 (V.I q)) ∧ w3.frozen? ⟨gI, q, none⟩ = false) := ⟨(k3.cell (p := ⟨gI, q, none⟩) (by show gI < _; omega)).trans I7.out.1, (k3.frozen (p := ⟨gI, q, none⟩) (by show gI < _; omega)).trans I7.out.2⟩
    clear B1 M2 P3 R4 X5 O6 I7
    clear k3
    have yX0 : w3.cell? ⟨x8, 0, none⟩ = some (.int .i64 V.c) := (X8.out.2 0 (by simp)).1
    have yX1 : w3.cell? ⟨x8, 1, none⟩ = some (.slice aW V.nW kW) := (X8.out.2 1 (by simp)).1
    have yX2 : w3.cell? ⟨x8, 2, none⟩ = some (.int .i64 V.g) := (X8.out.2 2 (by simp)).1
    have yX3 : w3.cell? ⟨x8, 3, none⟩ = some (.slice aO V.nO kO) := (X8.out.2 3 (by simp)).1
    have yX4 : w3.cell? ⟨x8, 4, none⟩ = some (.slice aX V.nX kX) := (X8.out.2 4 (by simp)).1
    have yX5 : w3.cell? ⟨x8, 5, none⟩ = some (.slice (some ⟨gI, 0, none⟩) V.nI kI) := (X8.out.2 5 (by simp)).1
    have hlX : x8 < w3.heap.size := X8.out.1
    have yR0 : w3.cell? ⟨(w.heap.size + 1 + 1 + 1), 0, none⟩ = some (.int .i64 0) := (R8.out.2 0 (by simp)).1
    have zR0 : w3.frozen? ⟨(w.heap.size + 1 + 1 + 1), 0, none⟩ = false := (R8.out.2 0 (by simp)).2
    have yR1 : w3.cell? ⟨(w.heap.size + 1 + 1 + 1), 1, none⟩ = some (.slice none 0 0) := (R8.out.2 1 (by simp)).1
    have zR1 : w3.frozen? ⟨(w.heap.size + 1 + 1 + 1), 1, none⟩ = false := (R8.out.2 1 (by simp)).2
    have yR2 : w3.cell? ⟨(w.heap.size + 1 + 1 + 1), 2, none⟩ = some (.int .i64 0) := (R8.out.2 2 (by simp)).1
    have zR2 : w3.frozen? ⟨(w.heap.size + 1 + 1 + 1), 2, none⟩ = false := (R8.out.2 2 (by simp)).2
    have yR3 : w3.cell? ⟨(w.heap.size + 1 + 1 + 1), 3, none⟩ = some (.slice none 0 0) := (R8.out.2 3 (by simp)).1
    have zR3 : w3.frozen? ⟨(w.heap.size + 1 + 1 + 1), 3, none⟩ = false := (R8.out.2 3 (by simp)).2
    have yR4 : w3.cell? ⟨(w.heap.size + 1 + 1 + 1), 4, none⟩ = some (.slice none 0 0) := (R8.out.2 4 (by simp)).1
    have zR4 : w3.frozen? ⟨(w.heap.size + 1 + 1 + 1), 4, none⟩ = false := (R8.out.2 4 (by simp)).2
    have yR5 : w3.cell? ⟨(w.heap.size + 1 + 1 + 1), 5, none⟩ = some (.slice none 0 0) := (R8.out.2 5 (by simp)).1
    have zR5 : w3.frozen? ⟨(w.heap.size + 1 + 1 + 1), 5, none⟩ = false := (R8.out.2 5 (by simp)).2
    have hlR : (w.heap.size + 1 + 1 + 1) < w3.heap.size := R8.out.1
    go_wp2
    refine bodyPost_ret (v := .tuple #[.agg #[.int .i64 V.c, .slice aW V.nW kW, .int .i64 V.g, .slice aO V.nO kO, .slice aX V.nX kX, .slice (some ⟨gI, 0, none⟩) V.nI kI], .bool false]) (by simp [results, Tryz.results19, go_sem, yR0, yR1, yR2, yR3, yR4, yR5]) rfl ?_
    have hzz := size_put6 w3 (w.heap.size + 1 + 1 + 1) (.int .i64 V.c) (.slice aW V.nW kW) (.int .i64 V.g) (.slice aO V.nO kO) (.slice aX V.nX kX) (.slice (some ⟨gI, 0, none⟩) V.nI kI)
    have hzw : x8 ≤ w3.heap.size := by have := X8.out.1; omega
    refine ⟨⟨.agg #[.int .i64 V.c, .slice aW V.nW kW, .int .i64 V.g, .slice aO V.nO kO, .slice aX V.nX kX, .slice (some ⟨gI, 0, none⟩) V.nI kI], by rw [ht.out], ?_⟩, below_put6 B8.out (by omega) _ _ _ _ _ _⟩
    rw [inn_no (pm := pm) (ps := ps) (pl := pl) ht.out]
    show OwnC w.heap.size (put6 w3 (w.heap.size + 1 + 1 + 1) (.int .i64 V.c) (.slice aW V.nW kW) (.int .i64 V.g) (.slice aO V.nO kO) (.slice aX V.nX kX) (.slice (some ⟨gI, 0, none⟩) V.nI kI)).heap.size (put6 w3 (w.heap.size + 1 + 1 + 1) (.int .i64 V.c) (.slice aW V.nW kW) (.int .i64 V.g) (.slice aO V.nO kO) (.slice aX V.nX kX) (.slice (some ⟨gI, 0, none⟩) V.nI kI)) _ _
    rw [hzz]
    exact O8.out.more (by omega) hzw (Nat.le_of_eq hzz.symm) (fun y h1 h2 => sm_put6 (by omega) (.int .i64 V.c) (.slice aW V.nW kW) (.int .i64 V.g) (.slice aO V.nO kO) (.slice aX V.nX kX) (.slice (some ⟨gI, 0, none⟩) V.nI kI))
end Go.Proofs.YtjmjffhommlbnaaGreat
