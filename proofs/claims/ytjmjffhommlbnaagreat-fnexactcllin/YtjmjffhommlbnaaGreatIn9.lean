/- l5In of the model; conditions: the cell lies in memory of its own. -/
import Derived.Test.YtjmjffhommlbnaaGreatIn8
namespace Go.Proofs.YtjmjffhommlbnaaGreat
open Go.RowKit Go.Deep
set_option linter.unusedVariables false

theorem OwnC.drew {lo hi : Nat} {w : World} {v : Value} {V : CV} (h : OwnC lo hi w v V) : OwnC lo hi w.drew v V := h
theorem Bk.put2 {w : World} {g : Nat} {x0 x1 x2 x3 x4 x5 u : Value} (h : Bk w g [x0, x1, x2, x3, x4, x5]) : Bk (w.setCell ⟨g, 2, none⟩ u) g [x0, x1, u, x3, x4, x5] := ⟨by rw [set_size]; exact h.1, (Six.put h.2).2 u⟩
theorem Bk.put1 {w : World} {g : Nat} {x0 x1 x2 x3 x4 x5 u : Value} (h : Bk w g [x0, x1, x2, x3, x4, x5]) : Bk (w.setCell ⟨g, 1, none⟩ u) g [x0, u, x2, x3, x4, x5] := ⟨by rw [set_size]; exact h.1, (Six.put h.2).1 u⟩
theorem inn_no {c d pn pk pi pa pm ps pl pc : Int} {V : CV} {q : Nat} (h : takeB c d V (mapW V.W V.nW) q pn pk pi pa pc = false) : CV.inn c d V q pn pk pi pa pm ps pl pc = V := by simp [CV.inn, h]
theorem inn_coins {c d pn pi pa pm ps pl pc : Int} {V : CV} {q : Nat} (h : takeB c d V (mapW V.W V.nW) q pn 2 pi pa pc = true) : CV.inn c d V q pn 2 pi pa pm ps pl pc = { V with g := V.g + pc, I := updI V.I q (V.I q + 1) } := by simp [CV.inn, h, CV.took]
theorem inn_walker {c d pn pi pa pm ps pl pc : Int} {V : CV} {q : Nat} (h : takeB c d V (mapW V.W V.nW) q pn 1 pi pa pc = true) : CV.inn c d V q pn 1 pi pa pm ps pl pc = { V with nW := V.nW + 1, W := insW V.W V.nW pi (zp pi pa pm ps pl), I := updI V.I q (V.I q + 1) } := by simp [CV.inn, h, CV.took, CV.with]

set_option maxRecDepth 20000 in
set_option maxHeartbeats 8000000 in
theorem l5In_spec2 (c d pn pi pa pm ps pl pc : Int) (v : Value) (V : CV) (lo q : Nat) (h1 : cllB c d V = true) (hs0 : V.short 1048576) (hn0 : V.nW + 1 ≤ 1048576) (hq : q < V.nI) (hI : 0 ≤ V.I q ∧ V.I q ≤ 5000) (hg : 0 ≤ V.g ∧ V.g ≤ 900) (hpc : 0 ≤ pc ∧ pc ≤ 900) (w : World) (h : CopyAt lo w v V) :
    Calls Tryz.prog 19 #[.agg #[.int .i64 c, .int .i64 d], v, .int .i64 (q : Int), .agg #[.int .i64 pn, .int .i64 2, .int .i64 pi, .int .i64 pa, .int .i64 pm, .int .i64 ps, .int .i64 pl, .int .i64 pc]] w fun e w' => (∃ u, e = .returned (.tuple #[u, .bool (takeB c d V (mapW V.W V.nW) q pn 2 pi pa pc)]) ∧ OwnC w.heap.size w'.heap.size w' u (CV.inn c d V q pn 2 pi pa pm ps pl pc)) ∧ Below w.heap.size w w' := by
  obtain ⟨bW, bO, bX, bI, q0, q1, q2, q3, q4, rfl, g1, g2, g3, g4⟩ := h
  have CP : Hid (CopyAt lo w (.agg #[.int .i64 V.c, .slice (some ⟨bW, 0, none⟩) V.nW V.nW, .int .i64 V.g, .slice (some ⟨bO, 0, none⟩) V.nO V.nO, .slice (some ⟨bX, 0, none⟩) V.nX V.nX, .slice (some ⟨bI, 0, none⟩) V.nI V.nI]) V) := ⟨bW, bO, bX, bI, q0, q1, q2, q3, q4, rfl, g1, g2, g3, g4⟩
  have hs : Hid (V.short 1048576) := hs0
  have hnW : Hid (V.nW + 1 ≤ 1048576) := hn0
  clear g1 g2 g3 g4 hs0 hn0 q0 q1 q2 q3 q4
  go_enter Tryz.func19, Tryz.ntmps19
  go_wp2_with fail
  obtain ⟨w0, e0⟩ : ∃ w0, w0 = ((((w.alloc (.cells #[.int .i64 c, .int .i64 d] 40)).alloc (.cells #[.int .i64 V.c, .slice (some ⟨bW, 0, none⟩) V.nW V.nW, .int .i64 V.g, .slice (some ⟨bO, 0, none⟩) V.nO V.nO, .slice (some ⟨bX, 0, none⟩) V.nX V.nX, .slice (some ⟨bI, 0, none⟩) V.nI V.nI] 37)).alloc (.cells #[.int .i64 pn, .int .i64 2, .int .i64 pi, .int .i64 pa, .int .i64 pm, .int .i64 ps, .int .i64 pl, .int .i64 pc] 45)).alloc (.cells #[.int .i64 0, .slice none 0 0, .int .i64 0, .slice none 0 0, .slice none 0 0, .slice none 0 0] 37)) := ⟨_, rfl⟩
  have z0 : w.heap.size + 4 ≤ w0.heap.size := by rw [e0]; simp
  have B0 : Hid (Below w.heap.size w w0) := by rw [e0]; exact ((((Below.refl _ _).alloc (by simp) _).alloc (by simp) _).alloc (by simp; omega) _).alloc (by simp; omega) _
  have M0 : Hid (Bk w0 w.heap.size [.int .i64 c, .int .i64 d]) := by rw [e0]; exact (bk_new w 40 [.int .i64 c, .int .i64 d]).below ((((Below.refl _ _).alloc (Nat.le_refl _) _).alloc (by simp) _).alloc (by simp) _)
  have P0 : Hid (Bk w0 (w.heap.size + 1 + 1) [.int .i64 pn, .int .i64 2, .int .i64 pi, .int .i64 pa, .int .i64 pm, .int .i64 ps, .int .i64 pl, .int .i64 pc]) := by rw [e0]; have h := bk_new ((w.alloc (.cells #[.int .i64 c, .int .i64 d] 40)).alloc (.cells #[.int .i64 V.c, .slice (some ⟨bW, 0, none⟩) V.nW V.nW, .int .i64 V.g, .slice (some ⟨bO, 0, none⟩) V.nO V.nO, .slice (some ⟨bX, 0, none⟩) V.nX V.nX, .slice (some ⟨bI, 0, none⟩) V.nI V.nI] 37)) 45 [.int .i64 pn, .int .i64 2, .int .i64 pi, .int .i64 pa, .int .i64 pm, .int .i64 ps, .int .i64 pl, .int .i64 pc]; rw [World.size_alloc, World.size_alloc] at h; exact h.below ((Below.refl _ _).alloc (Nat.le_refl _) _)
  have R0 : Hid (Bk w0 (w.heap.size + 1 + 1 + 1) [.int .i64 0, .slice none 0 0, .int .i64 0, .slice none 0 0, .slice none 0 0, .slice none 0 0]) := by rw [e0]; have h := bk_new (((w.alloc (.cells #[.int .i64 c, .int .i64 d] 40)).alloc (.cells #[.int .i64 V.c, .slice (some ⟨bW, 0, none⟩) V.nW V.nW, .int .i64 V.g, .slice (some ⟨bO, 0, none⟩) V.nO V.nO, .slice (some ⟨bX, 0, none⟩) V.nX V.nX, .slice (some ⟨bI, 0, none⟩) V.nI V.nI] 37)).alloc (.cells #[.int .i64 pn, .int .i64 2, .int .i64 pi, .int .i64 pa, .int .i64 pm, .int .i64 ps, .int .i64 pl, .int .i64 pc] 45)) 37 [.int .i64 0, .slice none 0 0, .int .i64 0, .slice none 0 0, .slice none 0 0, .slice none 0 0]; rw [World.size_alloc, World.size_alloc, World.size_alloc] at h; exact h
  rw [← e0]
  clear e0
  refine (copyC_spec _ V lo hs.out _ (CP.out.below B0.out)).mono ?_
  rintro e w1 ⟨⟨v1, rfl, hO, hT⟩, hb1⟩
  obtain ⟨aW, kW, aO, kO, aX, kX, aI, kI, rfl, _, _, _, _⟩ := hO.at
  clear hT
  have z1 : w0.heap.size ≤ w1.heap.size := hb1.size
  have HO : Hid (OwnC w0.heap.size w1.heap.size w1 (.agg #[.int .i64 V.c, .slice aW V.nW kW, .int .i64 V.g, .slice aO V.nO kO, .slice aX V.nX kX, .slice aI V.nI kI]) V) := hO
  clear hO
  have HB1 : Hid (Below w0.heap.size w0 w1) := hb1
  clear hb1
  go_wp2_with fail
  obtain ⟨w2, e2⟩ : ∃ w2, w2 = w1.alloc (.cells #[.int .i64 V.c, .slice aW V.nW kW, .int .i64 V.g, .slice aO V.nO kO, .slice aX V.nX kX, .slice aI V.nI kI] 37) := ⟨_, rfl⟩
  have k2 : Below w1.heap.size w1 w2 := by rw [e2]; exact (Below.refl _ _).alloc (Nat.le_refl _) _
  have X2 : Bk w2 w1.heap.size [.int .i64 V.c, .slice aW V.nW kW, .int .i64 V.g, .slice aO V.nO kO, .slice aX V.nX kX, .slice aI V.nI kI] := by rw [e2]; exact bk_new w1 37 [.int .i64 V.c, .slice aW V.nW kW, .int .i64 V.g, .slice aO V.nO kO, .slice aX V.nX kX, .slice aI V.nI kI]
  have z2 : w1.heap.size < w2.heap.size := X2.1
  rw [← e2]
  clear e2
  have k02 : Below w0.heap.size w0 w2 := bthen HB1.out k2
  have B1 : Hid (Below w.heap.size w w2) := bthen B0.out k02
  have M2 : Hid (Bk w2 w.heap.size [.int .i64 c, .int .i64 d]) := M0.out.below k02
  have P3 : Hid (Bk w2 (w.heap.size + 1 + 1) [.int .i64 pn, .int .i64 2, .int .i64 pi, .int .i64 pa, .int .i64 pm, .int .i64 ps, .int .i64 pl, .int .i64 pc]) := P0.out.below k02
  have R4 : Hid (Bk w2 (w.heap.size + 1 + 1 + 1) [.int .i64 0, .slice none 0 0, .int .i64 0, .slice none 0 0, .slice none 0 0, .slice none 0 0]) := R0.out.below k02
  have O2 := HO.out.below (Nat.le_refl _) k2
  clear B0 M0 P0 R0 HO HB1 k2 k02
  obtain ⟨gI, rfl, g1, g2, g3, iq, fq, hset⟩ := O2.ins hq
  clear hset
  generalize w1.heap.size = x8 at *
  generalize w0.heap.size = l0 at *
  have X5 : Hid (Bk w2 x8 [.int .i64 V.c, .slice aW V.nW kW, .int .i64 V.g, .slice aO V.nO kO, .slice aX V.nX kX, .slice (some ⟨gI, 0, none⟩) V.nI kI]) := X2
  have O6 : Hid (OwnC l0 x8 w2 (.agg #[.int .i64 V.c, .slice aW V.nW kW, .int .i64 V.g, .slice aO V.nO kO, .slice aX V.nX kX, .slice (some ⟨gI, 0, none⟩) V.nI kI]) V) := O2
  have I7 : Hid (w2.cell? ⟨gI, q, none⟩ = some (.int .i64 (V.I q)) ∧ w2.frozen? ⟨gI, q, none⟩ = false) := ⟨iq, fq⟩
  clear X2 O2 iq fq
  have hq' : (q : Int) < V.nI := by omega
  cases hne : (pn != V.I q)
  · have ht0 : Hid (takeB c d V (mapW V.W V.nW) q pn 2 pi pa pc = decide (V.g + pc ≤ 900)) := by unfold Hid; simp [takeB, hne, roomB]
    by_cases hgt : V.g + pc ≤ 900
    · have hd : decide (900 < V.g + pc) = false := decide_eq_false (by omega)
      have ht : Hid (takeB c d V (mapW V.W V.nW) q pn 2 pi pa pc = true) := by rw [ht0.out]; exact decide_eq_true hgt
      have yP0 : w2.cell? ⟨(w.heap.size + 1 + 1), 0, none⟩ = some (.int .i64 pn) := (P3.out.2 0 (by simp)).1
      have yP1 : w2.cell? ⟨(w.heap.size + 1 + 1), 1, none⟩ = some (.int .i64 2) := (P3.out.2 1 (by simp)).1
      have yP2 : w2.cell? ⟨(w.heap.size + 1 + 1), 2, none⟩ = some (.int .i64 pi) := (P3.out.2 2 (by simp)).1
      have yP3 : w2.cell? ⟨(w.heap.size + 1 + 1), 3, none⟩ = some (.int .i64 pa) := (P3.out.2 3 (by simp)).1
      have yP4 : w2.cell? ⟨(w.heap.size + 1 + 1), 4, none⟩ = some (.int .i64 pm) := (P3.out.2 4 (by simp)).1
      have yP5 : w2.cell? ⟨(w.heap.size + 1 + 1), 5, none⟩ = some (.int .i64 ps) := (P3.out.2 5 (by simp)).1
      have yP6 : w2.cell? ⟨(w.heap.size + 1 + 1), 6, none⟩ = some (.int .i64 pl) := (P3.out.2 6 (by simp)).1
      have yP7 : w2.cell? ⟨(w.heap.size + 1 + 1), 7, none⟩ = some (.int .i64 pc) := (P3.out.2 7 (by simp)).1
      have hlP : (w.heap.size + 1 + 1) < w2.heap.size := P3.out.1
      have yX0 : w2.cell? ⟨x8, 0, none⟩ = some (.int .i64 V.c) := (X5.out.2 0 (by simp)).1
      have zX0 : w2.frozen? ⟨x8, 0, none⟩ = false := (X5.out.2 0 (by simp)).2
      have yX1 : w2.cell? ⟨x8, 1, none⟩ = some (.slice aW V.nW kW) := (X5.out.2 1 (by simp)).1
      have zX1 : w2.frozen? ⟨x8, 1, none⟩ = false := (X5.out.2 1 (by simp)).2
      have yX2 : w2.cell? ⟨x8, 2, none⟩ = some (.int .i64 V.g) := (X5.out.2 2 (by simp)).1
      have zX2 : w2.frozen? ⟨x8, 2, none⟩ = false := (X5.out.2 2 (by simp)).2
      have yX3 : w2.cell? ⟨x8, 3, none⟩ = some (.slice aO V.nO kO) := (X5.out.2 3 (by simp)).1
      have zX3 : w2.frozen? ⟨x8, 3, none⟩ = false := (X5.out.2 3 (by simp)).2
      have yX4 : w2.cell? ⟨x8, 4, none⟩ = some (.slice aX V.nX kX) := (X5.out.2 4 (by simp)).1
      have zX4 : w2.frozen? ⟨x8, 4, none⟩ = false := (X5.out.2 4 (by simp)).2
      have yX5 : w2.cell? ⟨x8, 5, none⟩ = some (.slice (some ⟨gI, 0, none⟩) V.nI kI) := (X5.out.2 5 (by simp)).1
      have zX5 : w2.frozen? ⟨x8, 5, none⟩ = false := (X5.out.2 5 (by simp)).2
      have hlX : x8 < w2.heap.size := X5.out.1
      have iq : w2.cell? ⟨gI, q, none⟩ = some (.int .i64 (V.I q)) := I7.out.1
      have fq : w2.frozen? ⟨gI, q, none⟩ = false := I7.out.2
      have lg : gI < w2.heap.size := by have := X5.out.1; omega
      go_upto_region 2 with fail
      go_quiet (fail)
      obtain ⟨w3, e3⟩ : ∃ W, W = w2.drewN nq := ⟨_, rfl⟩
      rw [← e3]
      have k3 : Below w2.heap.size w2 w3 := by rw [e3]; exact bdrewN (Below.refl _ _) _
      have kz : w2.heap.size ≤ w3.heap.size := k3.size
      clear e3
      clear yP0 yP1 yP2 yP3 yP4 yP5 yP6 yP7 hlP yX0 zX0 yX1 zX1 yX2 zX2 yX3 zX3 yX4 zX4 yX5 zX5 hlX iq fq lg
      have y_w3 : w2.heap.size ≤ w3.heap.size := k3.size
      have B8 : Hid (Below w.heap.size w w3) := bthen B1.out k3
      have M8 : Hid (Bk w3 w.heap.size [.int .i64 c, .int .i64 d]) := M2.out.below k3
      have P8 : Hid (Bk w3 (w.heap.size + 1 + 1) [.int .i64 pn, .int .i64 2, .int .i64 pi, .int .i64 pa, .int .i64 pm, .int .i64 ps, .int .i64 pl, .int .i64 pc]) := P3.out.below k3
      have R8 : Hid (Bk w3 (w.heap.size + 1 + 1 + 1) [.int .i64 0, .slice none 0 0, .int .i64 0, .slice none 0 0, .slice none 0 0, .slice none 0 0]) := R4.out.below k3
      have X8 : Hid (Bk w3 x8 [.int .i64 V.c, .slice aW V.nW kW, .int .i64 V.g, .slice aO V.nO kO, .slice aX V.nX kX, .slice (some ⟨gI, 0, none⟩) V.nI kI]) := X5.out.below k3
      have O8 : Hid (OwnC l0 x8 w3 (.agg #[.int .i64 V.c, .slice aW V.nW kW, .int .i64 V.g, .slice aO V.nO kO, .slice aX V.nX kX, .slice (some ⟨gI, 0, none⟩) V.nI kI]) V) := O6.out.below (by omega) k3
      have I8 : Hid (w3.cell? ⟨gI, q, none⟩ = some (.int .i64 (V.I q)) ∧ w3.frozen? ⟨gI, q, none⟩ = false) := ⟨(k3.cell (p := ⟨gI, q, none⟩) (by show gI < _; omega)).trans I7.out.1, (k3.frozen (p := ⟨gI, q, none⟩) (by show gI < _; omega)).trans I7.out.2⟩
      clear B1 M2 P3 R4 X5 O6 I7
      clear k3
      have yP0 : w3.cell? ⟨(w.heap.size + 1 + 1), 0, none⟩ = some (.int .i64 pn) := (P8.out.2 0 (by simp)).1
      have yP1 : w3.cell? ⟨(w.heap.size + 1 + 1), 1, none⟩ = some (.int .i64 2) := (P8.out.2 1 (by simp)).1
      have yP2 : w3.cell? ⟨(w.heap.size + 1 + 1), 2, none⟩ = some (.int .i64 pi) := (P8.out.2 2 (by simp)).1
      have yP3 : w3.cell? ⟨(w.heap.size + 1 + 1), 3, none⟩ = some (.int .i64 pa) := (P8.out.2 3 (by simp)).1
      have yP4 : w3.cell? ⟨(w.heap.size + 1 + 1), 4, none⟩ = some (.int .i64 pm) := (P8.out.2 4 (by simp)).1
      have yP5 : w3.cell? ⟨(w.heap.size + 1 + 1), 5, none⟩ = some (.int .i64 ps) := (P8.out.2 5 (by simp)).1
      have yP6 : w3.cell? ⟨(w.heap.size + 1 + 1), 6, none⟩ = some (.int .i64 pl) := (P8.out.2 6 (by simp)).1
      have yP7 : w3.cell? ⟨(w.heap.size + 1 + 1), 7, none⟩ = some (.int .i64 pc) := (P8.out.2 7 (by simp)).1
      have hlP : (w.heap.size + 1 + 1) < w3.heap.size := P8.out.1
      have yX0 : w3.cell? ⟨x8, 0, none⟩ = some (.int .i64 V.c) := (X8.out.2 0 (by simp)).1
      have zX0 : w3.frozen? ⟨x8, 0, none⟩ = false := (X8.out.2 0 (by simp)).2
      have yX1 : w3.cell? ⟨x8, 1, none⟩ = some (.slice aW V.nW kW) := (X8.out.2 1 (by simp)).1
      have zX1 : w3.frozen? ⟨x8, 1, none⟩ = false := (X8.out.2 1 (by simp)).2
      have yX2 : w3.cell? ⟨x8, 2, none⟩ = some (.int .i64 V.g) := (X8.out.2 2 (by simp)).1
      have zX2 : w3.frozen? ⟨x8, 2, none⟩ = false := (X8.out.2 2 (by simp)).2
      have yX3 : w3.cell? ⟨x8, 3, none⟩ = some (.slice aO V.nO kO) := (X8.out.2 3 (by simp)).1
      have zX3 : w3.frozen? ⟨x8, 3, none⟩ = false := (X8.out.2 3 (by simp)).2
      have yX4 : w3.cell? ⟨x8, 4, none⟩ = some (.slice aX V.nX kX) := (X8.out.2 4 (by simp)).1
      have zX4 : w3.frozen? ⟨x8, 4, none⟩ = false := (X8.out.2 4 (by simp)).2
      have yX5 : w3.cell? ⟨x8, 5, none⟩ = some (.slice (some ⟨gI, 0, none⟩) V.nI kI) := (X8.out.2 5 (by simp)).1
      have zX5 : w3.frozen? ⟨x8, 5, none⟩ = false := (X8.out.2 5 (by simp)).2
      have hlX : x8 < w3.heap.size := X8.out.1
      go_upto_region 12 with fail
      clear yP0 yP1 yP2 yP3 yP4 yP5 yP6 yP7 hlP yX0 zX0 yX1 zX1 yX2 zX2 yX3 zX3 yX4 zX4 yX5 zX5 hlX
      obtain ⟨w4, e4⟩ : ∃ W, W = w3.setCell ⟨x8, 2, none⟩ (.int .i64 (V.g + pc)) := ⟨_, rfl⟩
      rw [← e4]
      have z4 : w4.heap.size = w3.heap.size := by rw [e4]; exact set_size
      have s4 : ∀ b, ¬ b = x8 → Sm w3 w4 b := by rw [e4]; exact fun b hb => sm_set hb
      have B4 : Hid (Below w.heap.size w w4) := by rw [e4]; exact B8.out.setCell (by show w.heap.size ≤ x8; omega) _
      have X4 : Hid (Bk w4 x8 [.int .i64 V.c, .slice aW V.nW kW, .int .i64 (V.g + pc), .slice aO V.nO kO, .slice aX V.nX kX, .slice (some ⟨gI, 0, none⟩) V.nI kI]) := by rw [e4]; exact X8.out.put2
      have R4 : Hid (Bk w4 (w.heap.size + 1 + 1 + 1) [.int .i64 0, .slice none 0 0, .int .i64 0, .slice none 0 0, .slice none 0 0, .slice none 0 0]) := R8.out.sm (Nat.le_of_eq z4.symm) (s4 _ (by omega))
      have O4 : Hid (OwnC l0 x8 w4 (.agg #[.int .i64 V.c, .slice aW V.nW kW, .int .i64 (V.g + pc), .slice aO V.nO kO, .slice aX V.nX kX, .slice (some ⟨gI, 0, none⟩) V.nI kI]) { V with g := V.g + pc }) := (O8.out.gr (V.g + pc)).sm (Nat.le_of_eq z4.symm) (fun b _ hb => s4 b (by omega))
      have I4 : Hid (w4.cell? ⟨gI, q, none⟩ = some (.int .i64 (V.I q)) ∧ w4.frozen? ⟨gI, q, none⟩ = false) := ⟨(s4 gI (by omega) q).1.trans I8.out.1, (s4 gI (by omega) q).2.trans I8.out.2⟩
      clear e4 s4
      have yX0 : w4.cell? ⟨x8, 0, none⟩ = some (.int .i64 V.c) := (X4.out.2 0 (by simp)).1
      have yX1 : w4.cell? ⟨x8, 1, none⟩ = some (.slice aW V.nW kW) := (X4.out.2 1 (by simp)).1
      have yX2 : w4.cell? ⟨x8, 2, none⟩ = some (.int .i64 (V.g + pc)) := (X4.out.2 2 (by simp)).1
      have yX3 : w4.cell? ⟨x8, 3, none⟩ = some (.slice aO V.nO kO) := (X4.out.2 3 (by simp)).1
      have yX4 : w4.cell? ⟨x8, 4, none⟩ = some (.slice aX V.nX kX) := (X4.out.2 4 (by simp)).1
      have yX5 : w4.cell? ⟨x8, 5, none⟩ = some (.slice (some ⟨gI, 0, none⟩) V.nI kI) := (X4.out.2 5 (by simp)).1
      have hlX : x8 < w4.heap.size := X4.out.1
      have iq : w4.cell? ⟨gI, q, none⟩ = some (.int .i64 (V.I q)) := I4.out.1
      have fq : w4.frozen? ⟨gI, q, none⟩ = false := I4.out.2
      have lg : gI < w4.heap.size := by have := X4.out.1; omega
      have SE : Hid (∀ z, OwnC l0 x8 (w4.setCell ⟨gI, q, none⟩ (.int .i64 z)) (.agg #[.int .i64 V.c, .slice aW V.nW kW, .int .i64 (V.g + pc), .slice aO V.nO kO, .slice aX V.nX kX, .slice (some ⟨gI, 0, none⟩) V.nI kI]) { ({ V with g := V.g + pc } : CV) with I := updI ({ V with g := V.g + pc } : CV).I q z }) := fun z => by
        obtain ⟨gJ, eJ, _, _, _, _, _, hset⟩ := OwnC.ins (q := q) (V := ({ V with g := V.g + pc } : CV)) O4.out hq
        simp only [Option.some.injEq, Addr.mk.injEq, and_true] at eJ
        subst eJ
        exact hset z
      go_upto_region 12 with fail
      go_region
      clear yX0 yX1 yX2 yX3 yX4 yX5 hlX iq fq lg
      obtain ⟨w5, e5⟩ : ∃ W, W = (w4.setCell ⟨gI, q, none⟩ (.int .i64 (V.I q + 1))).drew := ⟨_, rfl⟩
      rw [← e5]
      have z5 : w5.heap.size = w4.heap.size := by rw [e5]; exact set_size
      have s5 : ∀ b, ¬ b = gI → Sm w4 w5 b := by rw [e5]; exact fun b hb => sm_set hb
      have B5 : Hid (Below w.heap.size w w5) := by rw [e5]; exact (B4.out.setCell (by show w.heap.size ≤ gI; omega) _).drew
      have X5 : Hid (Bk w5 x8 [.int .i64 V.c, .slice aW V.nW kW, .int .i64 (V.g + pc), .slice aO V.nO kO, .slice aX V.nX kX, .slice (some ⟨gI, 0, none⟩) V.nI kI]) := X4.out.sm (Nat.le_of_eq z5.symm) (s5 _ (by omega))
      have R5 : Hid (Bk w5 (w.heap.size + 1 + 1 + 1) [.int .i64 0, .slice none 0 0, .int .i64 0, .slice none 0 0, .slice none 0 0, .slice none 0 0]) := R4.out.sm (Nat.le_of_eq z5.symm) (s5 _ (by omega))
      have O5 : Hid (OwnC l0 x8 w5 (.agg #[.int .i64 V.c, .slice aW V.nW kW, .int .i64 (V.g + pc), .slice aO V.nO kO, .slice aX V.nX kX, .slice (some ⟨gI, 0, none⟩) V.nI kI]) { ({ V with g := V.g + pc } : CV) with I := updI V.I q (V.I q + 1) }) := by rw [e5]; exact (SE.out (V.I q + 1)).drew
      clear e5 s5 SE
      have yX0 : w5.cell? ⟨x8, 0, none⟩ = some (.int .i64 V.c) := (X5.out.2 0 (by simp)).1
      have yX1 : w5.cell? ⟨x8, 1, none⟩ = some (.slice aW V.nW kW) := (X5.out.2 1 (by simp)).1
      have yX2 : w5.cell? ⟨x8, 2, none⟩ = some (.int .i64 (V.g + pc)) := (X5.out.2 2 (by simp)).1
      have yX3 : w5.cell? ⟨x8, 3, none⟩ = some (.slice aO V.nO kO) := (X5.out.2 3 (by simp)).1
      have yX4 : w5.cell? ⟨x8, 4, none⟩ = some (.slice aX V.nX kX) := (X5.out.2 4 (by simp)).1
      have yX5 : w5.cell? ⟨x8, 5, none⟩ = some (.slice (some ⟨gI, 0, none⟩) V.nI kI) := (X5.out.2 5 (by simp)).1
      have hlX : x8 < w5.heap.size := X5.out.1
      have yR0 : w5.cell? ⟨(w.heap.size + 1 + 1 + 1), 0, none⟩ = some (.int .i64 0) := (R5.out.2 0 (by simp)).1
      have zR0 : w5.frozen? ⟨(w.heap.size + 1 + 1 + 1), 0, none⟩ = false := (R5.out.2 0 (by simp)).2
      have yR1 : w5.cell? ⟨(w.heap.size + 1 + 1 + 1), 1, none⟩ = some (.slice none 0 0) := (R5.out.2 1 (by simp)).1
      have zR1 : w5.frozen? ⟨(w.heap.size + 1 + 1 + 1), 1, none⟩ = false := (R5.out.2 1 (by simp)).2
      have yR2 : w5.cell? ⟨(w.heap.size + 1 + 1 + 1), 2, none⟩ = some (.int .i64 0) := (R5.out.2 2 (by simp)).1
      have zR2 : w5.frozen? ⟨(w.heap.size + 1 + 1 + 1), 2, none⟩ = false := (R5.out.2 2 (by simp)).2
      have yR3 : w5.cell? ⟨(w.heap.size + 1 + 1 + 1), 3, none⟩ = some (.slice none 0 0) := (R5.out.2 3 (by simp)).1
      have zR3 : w5.frozen? ⟨(w.heap.size + 1 + 1 + 1), 3, none⟩ = false := (R5.out.2 3 (by simp)).2
      have yR4 : w5.cell? ⟨(w.heap.size + 1 + 1 + 1), 4, none⟩ = some (.slice none 0 0) := (R5.out.2 4 (by simp)).1
      have zR4 : w5.frozen? ⟨(w.heap.size + 1 + 1 + 1), 4, none⟩ = false := (R5.out.2 4 (by simp)).2
      have yR5 : w5.cell? ⟨(w.heap.size + 1 + 1 + 1), 5, none⟩ = some (.slice none 0 0) := (R5.out.2 5 (by simp)).1
      have zR5 : w5.frozen? ⟨(w.heap.size + 1 + 1 + 1), 5, none⟩ = false := (R5.out.2 5 (by simp)).2
      have hlR : (w.heap.size + 1 + 1 + 1) < w5.heap.size := R5.out.1
      go_wp2
      refine bodyPost_ret (v := .tuple #[.agg #[.int .i64 V.c, .slice aW V.nW kW, .int .i64 (V.g + pc), .slice aO V.nO kO, .slice aX V.nX kX, .slice (some ⟨gI, 0, none⟩) V.nI kI], .bool true]) (by simp [results, Tryz.results19, go_sem, yR0, yR1, yR2, yR3, yR4, yR5]) rfl ?_
      have hzz := size_put6 w5 (w.heap.size + 1 + 1 + 1) (.int .i64 V.c) (.slice aW V.nW kW) (.int .i64 (V.g + pc)) (.slice aO V.nO kO) (.slice aX V.nX kX) (.slice (some ⟨gI, 0, none⟩) V.nI kI)
      have hzw : x8 ≤ w5.heap.size := by have := X5.out.1; omega
      refine ⟨⟨.agg #[.int .i64 V.c, .slice aW V.nW kW, .int .i64 (V.g + pc), .slice aO V.nO kO, .slice aX V.nX kX, .slice (some ⟨gI, 0, none⟩) V.nI kI], by rw [ht.out], ?_⟩, below_put6 B5.out (by omega) _ _ _ _ _ _⟩
      rw [inn_coins (pm := pm) (ps := ps) (pl := pl) ht.out]
      show OwnC w.heap.size (put6 w5 (w.heap.size + 1 + 1 + 1) (.int .i64 V.c) (.slice aW V.nW kW) (.int .i64 (V.g + pc)) (.slice aO V.nO kO) (.slice aX V.nX kX) (.slice (some ⟨gI, 0, none⟩) V.nI kI)).heap.size (put6 w5 (w.heap.size + 1 + 1 + 1) (.int .i64 V.c) (.slice aW V.nW kW) (.int .i64 (V.g + pc)) (.slice aO V.nO kO) (.slice aX V.nX kX) (.slice (some ⟨gI, 0, none⟩) V.nI kI)) _ _
      rw [hzz]
      exact O5.out.more (by omega) hzw (Nat.le_of_eq hzz.symm) (fun y h1 h2 => sm_put6 (by omega) (.int .i64 V.c) (.slice aW V.nW kW) (.int .i64 (V.g + pc)) (.slice aO V.nO kO) (.slice aX V.nX kX) (.slice (some ⟨gI, 0, none⟩) V.nI kI))
    · have hd : decide (900 < V.g + pc) = true := decide_eq_true (by omega)
      have ht : Hid (takeB c d V (mapW V.W V.nW) q pn 2 pi pa pc = false) := by rw [ht0.out]; exact decide_eq_false hgt
      have yP0 : w2.cell? ⟨(w.heap.size + 1 + 1), 0, none⟩ = some (.int .i64 pn) := (P3.out.2 0 (by simp)).1
      have yP1 : w2.cell? ⟨(w.heap.size + 1 + 1), 1, none⟩ = some (.int .i64 2) := (P3.out.2 1 (by simp)).1
      have yP2 : w2.cell? ⟨(w.heap.size + 1 + 1), 2, none⟩ = some (.int .i64 pi) := (P3.out.2 2 (by simp)).1
      have yP3 : w2.cell? ⟨(w.heap.size + 1 + 1), 3, none⟩ = some (.int .i64 pa) := (P3.out.2 3 (by simp)).1
      have yP4 : w2.cell? ⟨(w.heap.size + 1 + 1), 4, none⟩ = some (.int .i64 pm) := (P3.out.2 4 (by simp)).1
      have yP5 : w2.cell? ⟨(w.heap.size + 1 + 1), 5, none⟩ = some (.int .i64 ps) := (P3.out.2 5 (by simp)).1
      have yP6 : w2.cell? ⟨(w.heap.size + 1 + 1), 6, none⟩ = some (.int .i64 pl) := (P3.out.2 6 (by simp)).1
      have yP7 : w2.cell? ⟨(w.heap.size + 1 + 1), 7, none⟩ = some (.int .i64 pc) := (P3.out.2 7 (by simp)).1
      have hlP : (w.heap.size + 1 + 1) < w2.heap.size := P3.out.1
      have yX0 : w2.cell? ⟨x8, 0, none⟩ = some (.int .i64 V.c) := (X5.out.2 0 (by simp)).1
      have yX1 : w2.cell? ⟨x8, 1, none⟩ = some (.slice aW V.nW kW) := (X5.out.2 1 (by simp)).1
      have yX2 : w2.cell? ⟨x8, 2, none⟩ = some (.int .i64 V.g) := (X5.out.2 2 (by simp)).1
      have yX3 : w2.cell? ⟨x8, 3, none⟩ = some (.slice aO V.nO kO) := (X5.out.2 3 (by simp)).1
      have yX4 : w2.cell? ⟨x8, 4, none⟩ = some (.slice aX V.nX kX) := (X5.out.2 4 (by simp)).1
      have yX5 : w2.cell? ⟨x8, 5, none⟩ = some (.slice (some ⟨gI, 0, none⟩) V.nI kI) := (X5.out.2 5 (by simp)).1
      have hlX : x8 < w2.heap.size := X5.out.1
      have iq : w2.cell? ⟨gI, q, none⟩ = some (.int .i64 (V.I q)) := I7.out.1
      have fq : w2.frozen? ⟨gI, q, none⟩ = false := I7.out.2
      have lg : gI < w2.heap.size := by have := X5.out.1; omega
      go_upto_region 2 with fail
      go_quiet (fail)
      obtain ⟨w3, e3⟩ : ∃ W, W = w2.drewN nq := ⟨_, rfl⟩
      rw [← e3]
      have k3 : Below w2.heap.size w2 w3 := by rw [e3]; exact bdrewN (Below.refl _ _) _
      have kz : w2.heap.size ≤ w3.heap.size := k3.size
      clear e3
      clear yP0 yP1 yP2 yP3 yP4 yP5 yP6 yP7 hlP yX0 yX1 yX2 yX3 yX4 yX5 hlX iq fq lg
      have y_w3 : w2.heap.size ≤ w3.heap.size := k3.size
      have B8 : Hid (Below w.heap.size w w3) := bthen B1.out k3
      have M8 : Hid (Bk w3 w.heap.size [.int .i64 c, .int .i64 d]) := M2.out.below k3
      have P8 : Hid (Bk w3 (w.heap.size + 1 + 1) [.int .i64 pn, .int .i64 2, .int .i64 pi, .int .i64 pa, .int .i64 pm, .int .i64 ps, .int .i64 pl, .int .i64 pc]) := P3.out.below k3
      have R8 : Hid (Bk w3 (w.heap.size + 1 + 1 + 1) [.int .i64 0, .slice none 0 0, .int .i64 0, .slice none 0 0, .slice none 0 0, .slice none 0 0]) := R4.out.below k3
      have X8 : Hid (Bk w3 x8 [.int .i64 V.c, .slice aW V.nW kW, .int .i64 V.g, .slice aO V.nO kO, .slice aX V.nX kX, .slice (some ⟨gI, 0, none⟩) V.nI kI]) := X5.out.below k3
      have O8 : Hid (OwnC l0 x8 w3 (.agg #[.int .i64 V.c, .slice aW V.nW kW, .int .i64 V.g, .slice aO V.nO kO, .slice aX V.nX kX, .slice (some ⟨gI, 0, none⟩) V.nI kI]) V) := O6.out.below (by omega) k3
      have I8 : Hid (w3.cell? ⟨gI, q, none⟩ = some (.int .i64 (V.I q)) ∧ w3.frozen? ⟨gI, q, none⟩ = false) := ⟨(k3.cell (p := ⟨gI, q, none⟩) (by show gI < _; omega)).trans I7.out.1, (k3.frozen (p := ⟨gI, q, none⟩) (by show gI < _; omega)).trans I7.out.2⟩
      clear B1 M2 P3 R4 X5 O6 I7
      clear k3
      have yP0 : w3.cell? ⟨(w.heap.size + 1 + 1), 0, none⟩ = some (.int .i64 pn) := (P8.out.2 0 (by simp)).1
      have yP1 : w3.cell? ⟨(w.heap.size + 1 + 1), 1, none⟩ = some (.int .i64 2) := (P8.out.2 1 (by simp)).1
      have yP2 : w3.cell? ⟨(w.heap.size + 1 + 1), 2, none⟩ = some (.int .i64 pi) := (P8.out.2 2 (by simp)).1
      have yP3 : w3.cell? ⟨(w.heap.size + 1 + 1), 3, none⟩ = some (.int .i64 pa) := (P8.out.2 3 (by simp)).1
      have yP4 : w3.cell? ⟨(w.heap.size + 1 + 1), 4, none⟩ = some (.int .i64 pm) := (P8.out.2 4 (by simp)).1
      have yP5 : w3.cell? ⟨(w.heap.size + 1 + 1), 5, none⟩ = some (.int .i64 ps) := (P8.out.2 5 (by simp)).1
      have yP6 : w3.cell? ⟨(w.heap.size + 1 + 1), 6, none⟩ = some (.int .i64 pl) := (P8.out.2 6 (by simp)).1
      have yP7 : w3.cell? ⟨(w.heap.size + 1 + 1), 7, none⟩ = some (.int .i64 pc) := (P8.out.2 7 (by simp)).1
      have hlP : (w.heap.size + 1 + 1) < w3.heap.size := P8.out.1
      have yX0 : w3.cell? ⟨x8, 0, none⟩ = some (.int .i64 V.c) := (X8.out.2 0 (by simp)).1
      have yX1 : w3.cell? ⟨x8, 1, none⟩ = some (.slice aW V.nW kW) := (X8.out.2 1 (by simp)).1
      have yX2 : w3.cell? ⟨x8, 2, none⟩ = some (.int .i64 V.g) := (X8.out.2 2 (by simp)).1
      have yX3 : w3.cell? ⟨x8, 3, none⟩ = some (.slice aO V.nO kO) := (X8.out.2 3 (by simp)).1
      have yX4 : w3.cell? ⟨x8, 4, none⟩ = some (.slice aX V.nX kX) := (X8.out.2 4 (by simp)).1
      have yX5 : w3.cell? ⟨x8, 5, none⟩ = some (.slice (some ⟨gI, 0, none⟩) V.nI kI) := (X8.out.2 5 (by simp)).1
      have hlX : x8 < w3.heap.size := X8.out.1
      have yR0 : w3.cell? ⟨(w.heap.size + 1 + 1 + 1), 0, none⟩ = some (.int .i64 0) := (R8.out.2 0 (by simp)).1
      have zR0 : w3.frozen? ⟨(w.heap.size + 1 + 1 + 1), 0, none⟩ = false := (R8.out.2 0 (by simp)).2
      have yR1 : w3.cell? ⟨(w.heap.size + 1 + 1 + 1), 1, none⟩ = some (.slice none 0 0) := (R8.out.2 1 (by simp)).1
      have zR1 : w3.frozen? ⟨(w.heap.size + 1 + 1 + 1), 1, none⟩ = false := (R8.out.2 1 (by simp)).2
      have yR2 : w3.cell? ⟨(w.heap.size + 1 + 1 + 1), 2, none⟩ = some (.int .i64 0) := (R8.out.2 2 (by simp)).1
      have zR2 : w3.frozen? ⟨(w.heap.size + 1 + 1 + 1), 2, none⟩ = false := (R8.out.2 2 (by simp)).2
      have yR3 : w3.cell? ⟨(w.heap.size + 1 + 1 + 1), 3, none⟩ = some (.slice none 0 0) := (R8.out.2 3 (by simp)).1
      have zR3 : w3.frozen? ⟨(w.heap.size + 1 + 1 + 1), 3, none⟩ = false := (R8.out.2 3 (by simp)).2
      have yR4 : w3.cell? ⟨(w.heap.size + 1 + 1 + 1), 4, none⟩ = some (.slice none 0 0) := (R8.out.2 4 (by simp)).1
      have zR4 : w3.frozen? ⟨(w.heap.size + 1 + 1 + 1), 4, none⟩ = false := (R8.out.2 4 (by simp)).2
      have yR5 : w3.cell? ⟨(w.heap.size + 1 + 1 + 1), 5, none⟩ = some (.slice none 0 0) := (R8.out.2 5 (by simp)).1
      have zR5 : w3.frozen? ⟨(w.heap.size + 1 + 1 + 1), 5, none⟩ = false := (R8.out.2 5 (by simp)).2
      have hlR : (w.heap.size + 1 + 1 + 1) < w3.heap.size := R8.out.1
      go_wp2
      refine bodyPost_ret (v := .tuple #[.agg #[.int .i64 V.c, .slice aW V.nW kW, .int .i64 V.g, .slice aO V.nO kO, .slice aX V.nX kX, .slice (some ⟨gI, 0, none⟩) V.nI kI], .bool false]) (by simp [results, Tryz.results19, go_sem, yR0, yR1, yR2, yR3, yR4, yR5]) rfl ?_
      have hzz := size_put6 w3 (w.heap.size + 1 + 1 + 1) (.int .i64 V.c) (.slice aW V.nW kW) (.int .i64 V.g) (.slice aO V.nO kO) (.slice aX V.nX kX) (.slice (some ⟨gI, 0, none⟩) V.nI kI)
      have hzw : x8 ≤ w3.heap.size := by have := X8.out.1; omega
      refine ⟨⟨.agg #[.int .i64 V.c, .slice aW V.nW kW, .int .i64 V.g, .slice aO V.nO kO, .slice aX V.nX kX, .slice (some ⟨gI, 0, none⟩) V.nI kI], by rw [ht.out], ?_⟩, below_put6 B8.out (by omega) _ _ _ _ _ _⟩
      rw [inn_no (pm := pm) (ps := ps) (pl := pl) ht.out]
      show OwnC w.heap.size (put6 w3 (w.heap.size + 1 + 1 + 1) (.int .i64 V.c) (.slice aW V.nW kW) (.int .i64 V.g) (.slice aO V.nO kO) (.slice aX V.nX kX) (.slice (some ⟨gI, 0, none⟩) V.nI kI)).heap.size (put6 w3 (w.heap.size + 1 + 1 + 1) (.int .i64 V.c) (.slice aW V.nW kW) (.int .i64 V.g) (.slice aO V.nO kO) (.slice aX V.nX kX) (.slice (some ⟨gI, 0, none⟩) V.nI kI)) _ _
      rw [hzz]
      exact O8.out.more (by omega) hzw (Nat.le_of_eq hzz.symm) (fun y h1 h2 => sm_put6 (by omega) (.int .i64 V.c) (.slice aW V.nW kW) (.int .i64 V.g) (.slice aO V.nO kO) (.slice aX V.nX kX) (.slice (some ⟨gI, 0, none⟩) V.nI kI))
  · have ht : Hid (takeB c d V (mapW V.W V.nW) q pn 2 pi pa pc = false) := by unfold Hid; simp [takeB, hne]
    have yP0 : w2.cell? ⟨(w.heap.size + 1 + 1), 0, none⟩ = some (.int .i64 pn) := (P3.out.2 0 (by simp)).1
    have yP1 : w2.cell? ⟨(w.heap.size + 1 + 1), 1, none⟩ = some (.int .i64 2) := (P3.out.2 1 (by simp)).1
    have yP2 : w2.cell? ⟨(w.heap.size + 1 + 1), 2, none⟩ = some (.int .i64 pi) := (P3.out.2 2 (by simp)).1
    have yP3 : w2.cell? ⟨(w.heap.size + 1 + 1), 3, none⟩ = some (.int .i64 pa) := (P3.out.2 3 (by simp)).1
    have yP4 : w2.cell? ⟨(w.heap.size + 1 + 1), 4, none⟩ = some (.int .i64 pm) := (P3.out.2 4 (by simp)).1
    have yP5 : w2.cell? ⟨(w.heap.size + 1 + 1), 5, none⟩ = some (.int .i64 ps) := (P3.out.2 5 (by simp)).1
    have yP6 : w2.cell? ⟨(w.heap.size + 1 + 1), 6, none⟩ = some (.int .i64 pl) := (P3.out.2 6 (by simp)).1
    have yP7 : w2.cell? ⟨(w.heap.size + 1 + 1), 7, none⟩ = some (.int .i64 pc) := (P3.out.2 7 (by simp)).1
    have hlP : (w.heap.size + 1 + 1) < w2.heap.size := P3.out.1
    have yX0 : w2.cell? ⟨x8, 0, none⟩ = some (.int .i64 V.c) := (X5.out.2 0 (by simp)).1
    have yX1 : w2.cell? ⟨x8, 1, none⟩ = some (.slice aW V.nW kW) := (X5.out.2 1 (by simp)).1
    have yX2 : w2.cell? ⟨x8, 2, none⟩ = some (.int .i64 V.g) := (X5.out.2 2 (by simp)).1
    have yX3 : w2.cell? ⟨x8, 3, none⟩ = some (.slice aO V.nO kO) := (X5.out.2 3 (by simp)).1
    have yX4 : w2.cell? ⟨x8, 4, none⟩ = some (.slice aX V.nX kX) := (X5.out.2 4 (by simp)).1
    have yX5 : w2.cell? ⟨x8, 5, none⟩ = some (.slice (some ⟨gI, 0, none⟩) V.nI kI) := (X5.out.2 5 (by simp)).1
    have hlX : x8 < w2.heap.size := X5.out.1
    have iq : w2.cell? ⟨gI, q, none⟩ = some (.int .i64 (V.I q)) := I7.out.1
    have fq : w2.frozen? ⟨gI, q, none⟩ = false := I7.out.2
    have lg : gI < w2.heap.size := by have := X5.out.1; omega
    go_upto_region 2 with fail
    go_quiet (fail)
    obtain ⟨w3, e3⟩ : ∃ W, W = w2.drewN nq := ⟨_, rfl⟩
    rw [← e3]
    have k3 : Below w2.heap.size w2 w3 := by rw [e3]; exact bdrewN (Below.refl _ _) _
    have kz : w2.heap.size ≤ w3.heap.size := k3.size
    clear e3
    clear yP0 yP1 yP2 yP3 yP4 yP5 yP6 yP7 hlP yX0 yX1 yX2 yX3 yX4 yX5 hlX iq fq lg
    have y_w3 : w2.heap.size ≤ w3.heap.size := k3.size
    have B8 : Hid (Below w.heap.size w w3) := bthen B1.out k3
    have M8 : Hid (Bk w3 w.heap.size [.int .i64 c, .int .i64 d]) := M2.out.below k3
    have P8 : Hid (Bk w3 (w.heap.size + 1 + 1) [.int .i64 pn, .int .i64 2, .int .i64 pi, .int .i64 pa, .int .i64 pm, .int .i64 ps, .int .i64 pl, .int .i64 pc]) := P3.out.below k3
    have R8 : Hid (Bk w3 (w.heap.size + 1 + 1 + 1) [.int .i64 0, .slice none 0 0, .int .i64 0, .slice none 0 0, .slice none 0 0, .slice none 0 0]) := R4.out.below k3
    have X8 : Hid (Bk w3 x8 [.int .i64 V.c, .slice aW V.nW kW, .int .i64 V.g, .slice aO V.nO kO, .slice aX V.nX kX, .slice (some ⟨gI, 0, none⟩) V.nI kI]) := X5.out.below k3
    have O8 : Hid (OwnC l0 x8 w3 (.agg #[.int .i64 V.c, .slice aW V.nW kW, .int .i64 V.g, .slice aO V.nO kO, .slice aX V.nX kX, .slice (some ⟨gI, 0, none⟩) V.nI kI]) V) := O6.out.below (by omega) k3
    have I8 : Hid (w3.cell? ⟨gI, q, none⟩ = some (.int .i64 (V.I q)) ∧ w3.frozen? ⟨gI, q, none⟩ = false) := ⟨(k3.cell (p := ⟨gI, q, none⟩) (by show gI < _; omega)).trans I7.out.1, (k3.frozen (p := ⟨gI, q, none⟩) (by show gI < _; omega)).trans I7.out.2⟩
    clear B1 M2 P3 R4 X5 O6 I7
    clear k3
    have yX0 : w3.cell? ⟨x8, 0, none⟩ = some (.int .i64 V.c) := (X8.out.2 0 (by simp)).1
    have yX1 : w3.cell? ⟨x8, 1, none⟩ = some (.slice aW V.nW kW) := (X8.out.2 1 (by simp)).1
    have yX2 : w3.cell? ⟨x8, 2, none⟩ = some (.int .i64 V.g) := (X8.out.2 2 (by simp)).1
    have yX3 : w3.cell? ⟨x8, 3, none⟩ = some (.slice aO V.nO kO) := (X8.out.2 3 (by simp)).1
    have yX4 : w3.cell? ⟨x8, 4, none⟩ = some (.slice aX V.nX kX) := (X8.out.2 4 (by simp)).1
    have yX5 : w3.cell? ⟨x8, 5, none⟩ = some (.slice (some ⟨gI, 0, none⟩) V.nI kI) := (X8.out.2 5 (by simp)).1
    have hlX : x8 < w3.heap.size := X8.out.1
    have yR0 : w3.cell? ⟨(w.heap.size + 1 + 1 + 1), 0, none⟩ = some (.int .i64 0) := (R8.out.2 0 (by simp)).1
    have zR0 : w3.frozen? ⟨(w.heap.size + 1 + 1 + 1), 0, none⟩ = false := (R8.out.2 0 (by simp)).2
    have yR1 : w3.cell? ⟨(w.heap.size + 1 + 1 + 1), 1, none⟩ = some (.slice none 0 0) := (R8.out.2 1 (by simp)).1
    have zR1 : w3.frozen? ⟨(w.heap.size + 1 + 1 + 1), 1, none⟩ = false := (R8.out.2 1 (by simp)).2
    have yR2 : w3.cell? ⟨(w.heap.size + 1 + 1 + 1), 2, none⟩ = some (.int .i64 0) := (R8.out.2 2 (by simp)).1
    have zR2 : w3.frozen? ⟨(w.heap.size + 1 + 1 + 1), 2, none⟩ = false := (R8.out.2 2 (by simp)).2
    have yR3 : w3.cell? ⟨(w.heap.size + 1 + 1 + 1), 3, none⟩ = some (.slice none 0 0) := (R8.out.2 3 (by simp)).1
    have zR3 : w3.frozen? ⟨(w.heap.size + 1 + 1 + 1), 3, none⟩ = false := (R8.out.2 3 (by simp)).2
    have yR4 : w3.cell? ⟨(w.heap.size + 1 + 1 + 1), 4, none⟩ = some (.slice none 0 0) := (R8.out.2 4 (by simp)).1
    have zR4 : w3.frozen? ⟨(w.heap.size + 1 + 1 + 1), 4, none⟩ = false := (R8.out.2 4 (by simp)).2
    have yR5 : w3.cell? ⟨(w.heap.size + 1 + 1 + 1), 5, none⟩ = some (.slice none 0 0) := (R8.out.2 5 (by simp)).1
    have zR5 : w3.frozen? ⟨(w.heap.size + 1 + 1 + 1), 5, none⟩ = false := (R8.out.2 5 (by simp)).2
    have hlR : (w.heap.size + 1 + 1 + 1) < w3.heap.size := R8.out.1
    go_wp2
    refine bodyPost_ret (v := .tuple #[.agg #[.int .i64 V.c, .slice aW V.nW kW, .int .i64 V.g, .slice aO V.nO kO, .slice aX V.nX kX, .slice (some ⟨gI, 0, none⟩) V.nI kI], .bool false]) (by simp [results, Tryz.results19, go_sem, yR0, yR1, yR2, yR3, yR4, yR5]) rfl ?_
    have hzz := size_put6 w3 (w.heap.size + 1 + 1 + 1) (.int .i64 V.c) (.slice aW V.nW kW) (.int .i64 V.g) (.slice aO V.nO kO) (.slice aX V.nX kX) (.slice (some ⟨gI, 0, none⟩) V.nI kI)
    have hzw : x8 ≤ w3.heap.size := by have := X8.out.1; omega
    refine ⟨⟨.agg #[.int .i64 V.c, .slice aW V.nW kW, .int .i64 V.g, .slice aO V.nO kO, .slice aX V.nX kX, .slice (some ⟨gI, 0, none⟩) V.nI kI], by rw [ht.out], ?_⟩, below_put6 B8.out (by omega) _ _ _ _ _ _⟩
    rw [inn_no (pm := pm) (ps := ps) (pl := pl) ht.out]
    show OwnC w.heap.size (put6 w3 (w.heap.size + 1 + 1 + 1) (.int .i64 V.c) (.slice aW V.nW kW) (.int .i64 V.g) (.slice aO V.nO kO) (.slice aX V.nX kX) (.slice (some ⟨gI, 0, none⟩) V.nI kI)).heap.size (put6 w3 (w.heap.size + 1 + 1 + 1) (.int .i64 V.c) (.slice aW V.nW kW) (.int .i64 V.g) (.slice aO V.nO kO) (.slice aX V.nX kX) (.slice (some ⟨gI, 0, none⟩) V.nI kI)) _ _
    rw [hzz]
    exact O8.out.more (by omega) hzw (Nat.le_of_eq hzz.symm) (fun y h1 h2 => sm_put6 (by omega) (.int .i64 V.c) (.slice aW V.nW kW) (.int .i64 V.g) (.slice aO V.nO kO) (.slice aX V.nX kX) (.slice (some ⟨gI, 0, none⟩) V.nI kI))
end Go.Proofs.YtjmjffhommlbnaaGreat
