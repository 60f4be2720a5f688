/- CllIn of the model; conditions: the cell lies in memory of its own. -/
import Derived.Test.YtjmjffhommlbnaaGreatIn10
namespace Go.Proofs.YtjmjffhommlbnaaGreat
open Go.RowKit Go.Deep
set_option linter.unusedVariables false

theorem l5In_spec (c d pn pk pi pa pm ps pl pc : Int) (v : Value) (V : CV) (lo q : Nat) (hk : pk = 1 ∨ pk = 2) (h1 : cllB c d V = true) (hs0 : V.short 1048576) (hn0 : V.nW + 1 ≤ 1048576) (hq : q < V.nI) (hI : 0 ≤ V.I q ∧ V.I q ≤ 5000) (hg : 0 ≤ V.g ∧ V.g ≤ 900) (hpc : 0 ≤ pc ∧ pc ≤ 900) (w : World) (h : CopyAt lo w v V) :
    Calls Tryz.prog 19 #[.agg #[.int .i64 c, .int .i64 d], v, .int .i64 (q : Int), .agg #[.int .i64 pn, .int .i64 pk, .int .i64 pi, .int .i64 pa, .int .i64 pm, .int .i64 ps, .int .i64 pl, .int .i64 pc]] w fun e w' => (∃ u, e = .returned (.tuple #[u, .bool (takeB c d V (mapW V.W V.nW) q pn pk pi pa pc)]) ∧ OwnC w.heap.size w'.heap.size w' u (CV.inn c d V q pn pk pi pa pm ps pl pc)) ∧ Below w.heap.size w w' := by
  rcases hk with rfl | rfl
  · exact l5In_spec1 c d pn pi pa pm ps pl pc v V lo q h1 hs0 hn0 hq hI hg hpc w h
  · exact l5In_spec2 c d pn pi pa pm ps pl pc v V lo q h1 hs0 hn0 hq hI hg hpc w h

set_option maxRecDepth 20000 in
set_option maxHeartbeats 8000000 in
theorem cllIn_spec (c d : Int) (v : Value) (V : CV) (lo : Nat) (side pn pk pi pa pm ps pl pc : Int) (hs0 : V.short 1048576) (w : World) (h : CopyAt lo w v V) :
    Calls Tryz.prog 5 #[.agg #[.int .i64 c, .int .i64 d], v, .int .i64 side, .agg #[.int .i64 pn, .int .i64 pk, .int .i64 pi, .int .i64 pa, .int .i64 pm, .int .i64 ps, .int .i64 pl, .int .i64 pc]] w fun e w' => (∃ u t, e = .returned (.tuple #[u, .bool t]) ∧ t = (inR c d V side pn pk pi pa pm ps pl pc).2 ∧ OwnC w.heap.size w'.heap.size w' u (inR c d V side pn pk pi pa pm ps pl pc).1) ∧ Below w.heap.size w w' := by
  obtain ⟨bW, bO, bX, bI, q0, q1, q2, q3, q4, rfl, g1, g2, g3, g4⟩ := h
  have CP : Hid (CopyAt lo w (.agg #[.int .i64 V.c, .slice (some ⟨bW, 0, none⟩) V.nW V.nW, .int .i64 V.g, .slice (some ⟨bO, 0, none⟩) V.nO V.nO, .slice (some ⟨bX, 0, none⟩) V.nX V.nX, .slice (some ⟨bI, 0, none⟩) V.nI V.nI]) V) := ⟨bW, bO, bX, bI, q0, q1, q2, q3, q4, rfl, g1, g2, g3, g4⟩
  have hs : Hid (V.short 1048576) := hs0
  clear g1 g2 g3 g4 hs0 q0 q1 q2 q3 q4
  cases h1 : cllB c d V
  · skip
    go_enter Tryz.func5, Tryz.ntmps5
    go_wp2_with fail
    obtain ⟨w0, e0⟩ : ∃ w0, w0 = ((((w.alloc (.cells #[.int .i64 c, .int .i64 d] 40)).alloc (.cells #[.int .i64 V.c, .slice (some ⟨bW, 0, none⟩) V.nW V.nW, .int .i64 V.g, .slice (some ⟨bO, 0, none⟩) V.nO V.nO, .slice (some ⟨bX, 0, none⟩) V.nX V.nX, .slice (some ⟨bI, 0, none⟩) V.nI V.nI] 37)).alloc (.cells #[.int .i64 pn, .int .i64 pk, .int .i64 pi, .int .i64 pa, .int .i64 pm, .int .i64 ps, .int .i64 pl, .int .i64 pc] 45)).alloc (.cells #[.int .i64 0, .slice none 0 0, .int .i64 0, .slice none 0 0, .slice none 0 0, .slice none 0 0] 37)) := ⟨_, rfl⟩
    have z0 : w.heap.size + 4 ≤ w0.heap.size := by rw [e0]; simp
    have B0 : Hid (Below w.heap.size w w0) := by rw [e0]; exact ((((Below.refl _ _).alloc (by simp) _).alloc (by simp) _).alloc (by simp; omega) _).alloc (by simp; omega) _
    have A0 : Hid (Six w0 (w.heap.size + 1) [.int .i64 V.c, .slice (some ⟨bW, 0, none⟩) V.nW V.nW, .int .i64 V.g, .slice (some ⟨bO, 0, none⟩) V.nO V.nO, .slice (some ⟨bX, 0, none⟩) V.nX V.nX, .slice (some ⟨bI, 0, none⟩) V.nI V.nI]) := by rw [e0]; exact (six_box2 w #[.int .i64 c, .int .i64 d] 40 37 (.int .i64 V.c) (.slice (some ⟨bW, 0, none⟩) V.nW V.nW) (.int .i64 V.g) (.slice (some ⟨bO, 0, none⟩) V.nO V.nO) (.slice (some ⟨bX, 0, none⟩) V.nX V.nX) (.slice (some ⟨bI, 0, none⟩) V.nI V.nI)).below (by simp) (((Below.refl _ _).alloc (Nat.le_refl _) _).alloc (by simp) _)
    have P0 : Hid (Bk w0 (w.heap.size + 1 + 1) [.int .i64 pn, .int .i64 pk, .int .i64 pi, .int .i64 pa, .int .i64 pm, .int .i64 ps, .int .i64 pl, .int .i64 pc]) := by rw [e0]; have h := bk_new ((w.alloc (.cells #[.int .i64 c, .int .i64 d] 40)).alloc (.cells #[.int .i64 V.c, .slice (some ⟨bW, 0, none⟩) V.nW V.nW, .int .i64 V.g, .slice (some ⟨bO, 0, none⟩) V.nO V.nO, .slice (some ⟨bX, 0, none⟩) V.nX V.nX, .slice (some ⟨bI, 0, none⟩) V.nI V.nI] 37)) 45 [.int .i64 pn, .int .i64 pk, .int .i64 pi, .int .i64 pa, .int .i64 pm, .int .i64 ps, .int .i64 pl, .int .i64 pc]; rw [World.size_alloc, World.size_alloc] at h; exact h.below ((Below.refl _ _).alloc (Nat.le_refl _) _)
    have R0 : Hid (Six w0 (w.heap.size + 1 + 1 + 1) [.int .i64 0, .slice none 0 0, .int .i64 0, .slice none 0 0, .slice none 0 0, .slice none 0 0]) := by rw [e0]; have h := six_new (((w.alloc (.cells #[.int .i64 c, .int .i64 d] 40)).alloc (.cells #[.int .i64 V.c, .slice (some ⟨bW, 0, none⟩) V.nW V.nW, .int .i64 V.g, .slice (some ⟨bO, 0, none⟩) V.nO V.nO, .slice (some ⟨bX, 0, none⟩) V.nX V.nX, .slice (some ⟨bI, 0, none⟩) V.nI V.nI] 37)).alloc (.cells #[.int .i64 pn, .int .i64 pk, .int .i64 pi, .int .i64 pa, .int .i64 pm, .int .i64 ps, .int .i64 pl, .int .i64 pc] 45)) 37 (.int .i64 0) (.slice none 0 0) (.int .i64 0) (.slice none 0 0) (.slice none 0 0) (.slice none 0 0); rw [World.size_alloc, World.size_alloc, World.size_alloc] at h; exact h
    have m00 : Hid (w0.cell? ⟨w.heap.size, 0, none⟩ = some (.int .i64 c)) := by rw [e0]; exact (((((Below.refl _ (w.alloc (.cells #[.int .i64 c, .int .i64 d] 40))).alloc (Nat.le_refl _) _).alloc (by simp) _).alloc (by simp) _).cell (p := ⟨w.heap.size, 0, none⟩) (by simp)).trans (by simp)
    have m10 : Hid (w0.cell? ⟨w.heap.size, 1, none⟩ = some (.int .i64 d)) := by rw [e0]; exact (((((Below.refl _ (w.alloc (.cells #[.int .i64 c, .int .i64 d] 40))).alloc (Nat.le_refl _) _).alloc (by simp) _).alloc (by simp) _).cell (p := ⟨w.heap.size, 1, none⟩) (by simp)).trans (by simp)
    rw [← e0]
    clear e0
    refine (cllOk_spec c d _ V lo hs.out _ (CP.out.below B0.out)).mono ?_
    rintro e w1 ⟨rfl, hb1⟩
    rw [h1]
    have B1 : Hid (Below w.heap.size w w1) := bthen B0.out hb1
    have A1 : Hid (Six w1 (w.heap.size + 1) [.int .i64 V.c, .slice (some ⟨bW, 0, none⟩) V.nW V.nW, .int .i64 V.g, .slice (some ⟨bO, 0, none⟩) V.nO V.nO, .slice (some ⟨bX, 0, none⟩) V.nX V.nX, .slice (some ⟨bI, 0, none⟩) V.nI V.nI]) := A0.out.below (by omega) hb1
    have P1 : Hid (Bk w1 (w.heap.size + 1 + 1) [.int .i64 pn, .int .i64 pk, .int .i64 pi, .int .i64 pa, .int .i64 pm, .int .i64 ps, .int .i64 pl, .int .i64 pc]) := P0.out.below hb1
    have R1 : Hid (Six w1 (w.heap.size + 1 + 1 + 1) [.int .i64 0, .slice none 0 0, .int .i64 0, .slice none 0 0, .slice none 0 0, .slice none 0 0]) := R0.out.below (by omega) hb1
    have m01 : Hid (w1.cell? ⟨w.heap.size, 0, none⟩ = some (.int .i64 c)) := (hb1.cell (p := ⟨w.heap.size, 0, none⟩) (by show w.heap.size < _; omega)).trans m00.out
    have m11 : Hid (w1.cell? ⟨w.heap.size, 1, none⟩ = some (.int .i64 d)) := (hb1.cell (p := ⟨w.heap.size, 1, none⟩) (by show w.heap.size < _; omega)).trans m10.out
    have z1 : w.heap.size + 4 ≤ w1.heap.size := Nat.le_trans z0 hb1.size
    clear A0 B0 P0 R0 m00 m10
    clear hb1
    have m0 : w1.cell? ⟨w.heap.size, 0, none⟩ = some (.int .i64 c) := m01.out
    have m1 : w1.cell? ⟨w.heap.size, 1, none⟩ = some (.int .i64 d) := m11.out
    have a0 : w1.cell? ⟨w.heap.size + 1, 0, none⟩ = some (.int .i64 V.c) := (A1.out 0 (by decide)).1
    have a1 : w1.cell? ⟨w.heap.size + 1, 1, none⟩ = some (.slice (some ⟨bW, 0, none⟩) V.nW V.nW) := (A1.out 1 (by decide)).1
    have a2 : w1.cell? ⟨w.heap.size + 1, 2, none⟩ = some (.int .i64 V.g) := (A1.out 2 (by decide)).1
    have a3 : w1.cell? ⟨w.heap.size + 1, 3, none⟩ = some (.slice (some ⟨bO, 0, none⟩) V.nO V.nO) := (A1.out 3 (by decide)).1
    have a4 : w1.cell? ⟨w.heap.size + 1, 4, none⟩ = some (.slice (some ⟨bX, 0, none⟩) V.nX V.nX) := (A1.out 4 (by decide)).1
    have a5 : w1.cell? ⟨w.heap.size + 1, 5, none⟩ = some (.slice (some ⟨bI, 0, none⟩) V.nI V.nI) := (A1.out 5 (by decide)).1
    have lA : w.heap.size + 1 < w1.heap.size := by omega
    have lM : w.heap.size < w1.heap.size := by omega
    have p0 : w1.cell? ⟨w.heap.size + 1 + 1, 0, none⟩ = some (.int .i64 pn) := (P1.out.2 0 (by simp)).1
    have p1 : w1.cell? ⟨w.heap.size + 1 + 1, 1, none⟩ = some (.int .i64 pk) := (P1.out.2 1 (by simp)).1
    have p2 : w1.cell? ⟨w.heap.size + 1 + 1, 2, none⟩ = some (.int .i64 pi) := (P1.out.2 2 (by simp)).1
    have p3 : w1.cell? ⟨w.heap.size + 1 + 1, 3, none⟩ = some (.int .i64 pa) := (P1.out.2 3 (by simp)).1
    have p4 : w1.cell? ⟨w.heap.size + 1 + 1, 4, none⟩ = some (.int .i64 pm) := (P1.out.2 4 (by simp)).1
    have p5 : w1.cell? ⟨w.heap.size + 1 + 1, 5, none⟩ = some (.int .i64 ps) := (P1.out.2 5 (by simp)).1
    have p6 : w1.cell? ⟨w.heap.size + 1 + 1, 6, none⟩ = some (.int .i64 pl) := (P1.out.2 6 (by simp)).1
    have p7 : w1.cell? ⟨w.heap.size + 1 + 1, 7, none⟩ = some (.int .i64 pc) := (P1.out.2 7 (by simp)).1
    have lP : w.heap.size + 1 + 1 < w1.heap.size := by omega
    have r0 : w1.cell? ⟨w.heap.size + 1 + 1 + 1, 0, none⟩ = some (.int .i64 0) := (R1.out 0 (by decide)).1
    have r1 : w1.cell? ⟨w.heap.size + 1 + 1 + 1, 1, none⟩ = some (.slice none 0 0) := (R1.out 1 (by decide)).1
    have r2 : w1.cell? ⟨w.heap.size + 1 + 1 + 1, 2, none⟩ = some (.int .i64 0) := (R1.out 2 (by decide)).1
    have r3 : w1.cell? ⟨w.heap.size + 1 + 1 + 1, 3, none⟩ = some (.slice none 0 0) := (R1.out 3 (by decide)).1
    have r4 : w1.cell? ⟨w.heap.size + 1 + 1 + 1, 4, none⟩ = some (.slice none 0 0) := (R1.out 4 (by decide)).1
    have r5 : w1.cell? ⟨w.heap.size + 1 + 1 + 1, 5, none⟩ = some (.slice none 0 0) := (R1.out 5 (by decide)).1
    have q0 : w1.frozen? ⟨w.heap.size + 1 + 1 + 1, 0, none⟩ = false := (R1.out 0 (by decide)).2
    have q1 : w1.frozen? ⟨w.heap.size + 1 + 1 + 1, 1, none⟩ = false := (R1.out 1 (by decide)).2
    have q2 : w1.frozen? ⟨w.heap.size + 1 + 1 + 1, 2, none⟩ = false := (R1.out 2 (by decide)).2
    have q3 : w1.frozen? ⟨w.heap.size + 1 + 1 + 1, 3, none⟩ = false := (R1.out 3 (by decide)).2
    have q4 : w1.frozen? ⟨w.heap.size + 1 + 1 + 1, 4, none⟩ = false := (R1.out 4 (by decide)).2
    have q5 : w1.frozen? ⟨w.heap.size + 1 + 1 + 1, 5, none⟩ = false := (R1.out 5 (by decide)).2
    have lR : w.heap.size + 1 + 1 + 1 < w1.heap.size := by omega
    go_wp2
    refine bodyPost_ret (v := .tuple #[.agg #[.int .i64 0, .slice none 0 0, .int .i64 0, .slice none 0 0, .slice none 0 0, .slice none 0 0], .bool false]) (by simp [results, Tryz.results5, go_sem, r0, r1, r2, r3, r4, r5]) rfl ?_
    exact ⟨⟨_, _, rfl, by rw [inR_no (.inl h1)], by rw [inR_no (.inl h1)]; exact nothing_own _ _ _⟩, below_put6 B1.out (by omega) _ _ _ _ _ _⟩
  cases h3 : pclB c d pn pk pi pa pm ps pl pc
  · skip
    go_enter Tryz.func5, Tryz.ntmps5
    go_wp2_with fail
    obtain ⟨w0, e0⟩ : ∃ w0, w0 = ((((w.alloc (.cells #[.int .i64 c, .int .i64 d] 40)).alloc (.cells #[.int .i64 V.c, .slice (some ⟨bW, 0, none⟩) V.nW V.nW, .int .i64 V.g, .slice (some ⟨bO, 0, none⟩) V.nO V.nO, .slice (some ⟨bX, 0, none⟩) V.nX V.nX, .slice (some ⟨bI, 0, none⟩) V.nI V.nI] 37)).alloc (.cells #[.int .i64 pn, .int .i64 pk, .int .i64 pi, .int .i64 pa, .int .i64 pm, .int .i64 ps, .int .i64 pl, .int .i64 pc] 45)).alloc (.cells #[.int .i64 0, .slice none 0 0, .int .i64 0, .slice none 0 0, .slice none 0 0, .slice none 0 0] 37)) := ⟨_, rfl⟩
    have z0 : w.heap.size + 4 ≤ w0.heap.size := by rw [e0]; simp
    have B0 : Hid (Below w.heap.size w w0) := by rw [e0]; exact ((((Below.refl _ _).alloc (by simp) _).alloc (by simp) _).alloc (by simp; omega) _).alloc (by simp; omega) _
    have A0 : Hid (Six w0 (w.heap.size + 1) [.int .i64 V.c, .slice (some ⟨bW, 0, none⟩) V.nW V.nW, .int .i64 V.g, .slice (some ⟨bO, 0, none⟩) V.nO V.nO, .slice (some ⟨bX, 0, none⟩) V.nX V.nX, .slice (some ⟨bI, 0, none⟩) V.nI V.nI]) := by rw [e0]; exact (six_box2 w #[.int .i64 c, .int .i64 d] 40 37 (.int .i64 V.c) (.slice (some ⟨bW, 0, none⟩) V.nW V.nW) (.int .i64 V.g) (.slice (some ⟨bO, 0, none⟩) V.nO V.nO) (.slice (some ⟨bX, 0, none⟩) V.nX V.nX) (.slice (some ⟨bI, 0, none⟩) V.nI V.nI)).below (by simp) (((Below.refl _ _).alloc (Nat.le_refl _) _).alloc (by simp) _)
    have P0 : Hid (Bk w0 (w.heap.size + 1 + 1) [.int .i64 pn, .int .i64 pk, .int .i64 pi, .int .i64 pa, .int .i64 pm, .int .i64 ps, .int .i64 pl, .int .i64 pc]) := by rw [e0]; have h := bk_new ((w.alloc (.cells #[.int .i64 c, .int .i64 d] 40)).alloc (.cells #[.int .i64 V.c, .slice (some ⟨bW, 0, none⟩) V.nW V.nW, .int .i64 V.g, .slice (some ⟨bO, 0, none⟩) V.nO V.nO, .slice (some ⟨bX, 0, none⟩) V.nX V.nX, .slice (some ⟨bI, 0, none⟩) V.nI V.nI] 37)) 45 [.int .i64 pn, .int .i64 pk, .int .i64 pi, .int .i64 pa, .int .i64 pm, .int .i64 ps, .int .i64 pl, .int .i64 pc]; rw [World.size_alloc, World.size_alloc] at h; exact h.below ((Below.refl _ _).alloc (Nat.le_refl _) _)
    have R0 : Hid (Six w0 (w.heap.size + 1 + 1 + 1) [.int .i64 0, .slice none 0 0, .int .i64 0, .slice none 0 0, .slice none 0 0, .slice none 0 0]) := by rw [e0]; have h := six_new (((w.alloc (.cells #[.int .i64 c, .int .i64 d] 40)).alloc (.cells #[.int .i64 V.c, .slice (some ⟨bW, 0, none⟩) V.nW V.nW, .int .i64 V.g, .slice (some ⟨bO, 0, none⟩) V.nO V.nO, .slice (some ⟨bX, 0, none⟩) V.nX V.nX, .slice (some ⟨bI, 0, none⟩) V.nI V.nI] 37)).alloc (.cells #[.int .i64 pn, .int .i64 pk, .int .i64 pi, .int .i64 pa, .int .i64 pm, .int .i64 ps, .int .i64 pl, .int .i64 pc] 45)) 37 (.int .i64 0) (.slice none 0 0) (.int .i64 0) (.slice none 0 0) (.slice none 0 0) (.slice none 0 0); rw [World.size_alloc, World.size_alloc, World.size_alloc] at h; exact h
    have m00 : Hid (w0.cell? ⟨w.heap.size, 0, none⟩ = some (.int .i64 c)) := by rw [e0]; exact (((((Below.refl _ (w.alloc (.cells #[.int .i64 c, .int .i64 d] 40))).alloc (Nat.le_refl _) _).alloc (by simp) _).alloc (by simp) _).cell (p := ⟨w.heap.size, 0, none⟩) (by simp)).trans (by simp)
    have m10 : Hid (w0.cell? ⟨w.heap.size, 1, none⟩ = some (.int .i64 d)) := by rw [e0]; exact (((((Below.refl _ (w.alloc (.cells #[.int .i64 c, .int .i64 d] 40))).alloc (Nat.le_refl _) _).alloc (by simp) _).alloc (by simp) _).cell (p := ⟨w.heap.size, 1, none⟩) (by simp)).trans (by simp)
    rw [← e0]
    clear e0
    refine (cllOk_spec c d _ V lo hs.out _ (CP.out.below B0.out)).mono ?_
    rintro e w1 ⟨rfl, hb1⟩
    rw [h1]
    have B1 : Hid (Below w.heap.size w w1) := bthen B0.out hb1
    have A1 : Hid (Six w1 (w.heap.size + 1) [.int .i64 V.c, .slice (some ⟨bW, 0, none⟩) V.nW V.nW, .int .i64 V.g, .slice (some ⟨bO, 0, none⟩) V.nO V.nO, .slice (some ⟨bX, 0, none⟩) V.nX V.nX, .slice (some ⟨bI, 0, none⟩) V.nI V.nI]) := A0.out.below (by omega) hb1
    have P1 : Hid (Bk w1 (w.heap.size + 1 + 1) [.int .i64 pn, .int .i64 pk, .int .i64 pi, .int .i64 pa, .int .i64 pm, .int .i64 ps, .int .i64 pl, .int .i64 pc]) := P0.out.below hb1
    have R1 : Hid (Six w1 (w.heap.size + 1 + 1 + 1) [.int .i64 0, .slice none 0 0, .int .i64 0, .slice none 0 0, .slice none 0 0, .slice none 0 0]) := R0.out.below (by omega) hb1
    have m01 : Hid (w1.cell? ⟨w.heap.size, 0, none⟩ = some (.int .i64 c)) := (hb1.cell (p := ⟨w.heap.size, 0, none⟩) (by show w.heap.size < _; omega)).trans m00.out
    have m11 : Hid (w1.cell? ⟨w.heap.size, 1, none⟩ = some (.int .i64 d)) := (hb1.cell (p := ⟨w.heap.size, 1, none⟩) (by show w.heap.size < _; omega)).trans m10.out
    have z1 : w.heap.size + 4 ≤ w1.heap.size := Nat.le_trans z0 hb1.size
    clear A0 B0 P0 R0 m00 m10
    clear hb1
    have m0 : w1.cell? ⟨w.heap.size, 0, none⟩ = some (.int .i64 c) := m01.out
    have m1 : w1.cell? ⟨w.heap.size, 1, none⟩ = some (.int .i64 d) := m11.out
    have a0 : w1.cell? ⟨w.heap.size + 1, 0, none⟩ = some (.int .i64 V.c) := (A1.out 0 (by decide)).1
    have a1 : w1.cell? ⟨w.heap.size + 1, 1, none⟩ = some (.slice (some ⟨bW, 0, none⟩) V.nW V.nW) := (A1.out 1 (by decide)).1
    have a2 : w1.cell? ⟨w.heap.size + 1, 2, none⟩ = some (.int .i64 V.g) := (A1.out 2 (by decide)).1
    have a3 : w1.cell? ⟨w.heap.size + 1, 3, none⟩ = some (.slice (some ⟨bO, 0, none⟩) V.nO V.nO) := (A1.out 3 (by decide)).1
    have a4 : w1.cell? ⟨w.heap.size + 1, 4, none⟩ = some (.slice (some ⟨bX, 0, none⟩) V.nX V.nX) := (A1.out 4 (by decide)).1
    have a5 : w1.cell? ⟨w.heap.size + 1, 5, none⟩ = some (.slice (some ⟨bI, 0, none⟩) V.nI V.nI) := (A1.out 5 (by decide)).1
    have lA : w.heap.size + 1 < w1.heap.size := by omega
    have lM : w.heap.size < w1.heap.size := by omega
    have p0 : w1.cell? ⟨w.heap.size + 1 + 1, 0, none⟩ = some (.int .i64 pn) := (P1.out.2 0 (by simp)).1
    have p1 : w1.cell? ⟨w.heap.size + 1 + 1, 1, none⟩ = some (.int .i64 pk) := (P1.out.2 1 (by simp)).1
    have p2 : w1.cell? ⟨w.heap.size + 1 + 1, 2, none⟩ = some (.int .i64 pi) := (P1.out.2 2 (by simp)).1
    have p3 : w1.cell? ⟨w.heap.size + 1 + 1, 3, none⟩ = some (.int .i64 pa) := (P1.out.2 3 (by simp)).1
    have p4 : w1.cell? ⟨w.heap.size + 1 + 1, 4, none⟩ = some (.int .i64 pm) := (P1.out.2 4 (by simp)).1
    have p5 : w1.cell? ⟨w.heap.size + 1 + 1, 5, none⟩ = some (.int .i64 ps) := (P1.out.2 5 (by simp)).1
    have p6 : w1.cell? ⟨w.heap.size + 1 + 1, 6, none⟩ = some (.int .i64 pl) := (P1.out.2 6 (by simp)).1
    have p7 : w1.cell? ⟨w.heap.size + 1 + 1, 7, none⟩ = some (.int .i64 pc) := (P1.out.2 7 (by simp)).1
    have lP : w.heap.size + 1 + 1 < w1.heap.size := by omega
    go_wp2_with fail
    clear m0 m1 a0 a1 a2 a3 a4 a5 lA lM p0 p1 p2 p3 p4 p5 p6 p7 lP
    refine (pclOk_spec c d pn pk pi pa pm ps pl pc _).mono ?_
    rintro e w2 ⟨rfl, hb2⟩
    rw [h3]
    have B2 : Hid (Below w.heap.size w w2) := bthen B1.out hb2
    have A2 : Hid (Six w2 (w.heap.size + 1) [.int .i64 V.c, .slice (some ⟨bW, 0, none⟩) V.nW V.nW, .int .i64 V.g, .slice (some ⟨bO, 0, none⟩) V.nO V.nO, .slice (some ⟨bX, 0, none⟩) V.nX V.nX, .slice (some ⟨bI, 0, none⟩) V.nI V.nI]) := A1.out.below (by omega) hb2
    have P2 : Hid (Bk w2 (w.heap.size + 1 + 1) [.int .i64 pn, .int .i64 pk, .int .i64 pi, .int .i64 pa, .int .i64 pm, .int .i64 ps, .int .i64 pl, .int .i64 pc]) := P1.out.below hb2
    have R2 : Hid (Six w2 (w.heap.size + 1 + 1 + 1) [.int .i64 0, .slice none 0 0, .int .i64 0, .slice none 0 0, .slice none 0 0, .slice none 0 0]) := R1.out.below (by omega) hb2
    have m02 : Hid (w2.cell? ⟨w.heap.size, 0, none⟩ = some (.int .i64 c)) := (hb2.cell (p := ⟨w.heap.size, 0, none⟩) (by show w.heap.size < _; omega)).trans m01.out
    have m12 : Hid (w2.cell? ⟨w.heap.size, 1, none⟩ = some (.int .i64 d)) := (hb2.cell (p := ⟨w.heap.size, 1, none⟩) (by show w.heap.size < _; omega)).trans m11.out
    have z2 : w.heap.size + 4 ≤ w2.heap.size := Nat.le_trans z1 hb2.size
    clear A1 B1 P1 R1 m01 m11
    clear hb2
    have m0 : w2.cell? ⟨w.heap.size, 0, none⟩ = some (.int .i64 c) := m02.out
    have m1 : w2.cell? ⟨w.heap.size, 1, none⟩ = some (.int .i64 d) := m12.out
    have a0 : w2.cell? ⟨w.heap.size + 1, 0, none⟩ = some (.int .i64 V.c) := (A2.out 0 (by decide)).1
    have a1 : w2.cell? ⟨w.heap.size + 1, 1, none⟩ = some (.slice (some ⟨bW, 0, none⟩) V.nW V.nW) := (A2.out 1 (by decide)).1
    have a2 : w2.cell? ⟨w.heap.size + 1, 2, none⟩ = some (.int .i64 V.g) := (A2.out 2 (by decide)).1
    have a3 : w2.cell? ⟨w.heap.size + 1, 3, none⟩ = some (.slice (some ⟨bO, 0, none⟩) V.nO V.nO) := (A2.out 3 (by decide)).1
    have a4 : w2.cell? ⟨w.heap.size + 1, 4, none⟩ = some (.slice (some ⟨bX, 0, none⟩) V.nX V.nX) := (A2.out 4 (by decide)).1
    have a5 : w2.cell? ⟨w.heap.size + 1, 5, none⟩ = some (.slice (some ⟨bI, 0, none⟩) V.nI V.nI) := (A2.out 5 (by decide)).1
    have lA : w.heap.size + 1 < w2.heap.size := by omega
    have lM : w.heap.size < w2.heap.size := by omega
    have p0 : w2.cell? ⟨w.heap.size + 1 + 1, 0, none⟩ = some (.int .i64 pn) := (P2.out.2 0 (by simp)).1
    have p1 : w2.cell? ⟨w.heap.size + 1 + 1, 1, none⟩ = some (.int .i64 pk) := (P2.out.2 1 (by simp)).1
    have p2 : w2.cell? ⟨w.heap.size + 1 + 1, 2, none⟩ = some (.int .i64 pi) := (P2.out.2 2 (by simp)).1
    have p3 : w2.cell? ⟨w.heap.size + 1 + 1, 3, none⟩ = some (.int .i64 pa) := (P2.out.2 3 (by simp)).1
    have p4 : w2.cell? ⟨w.heap.size + 1 + 1, 4, none⟩ = some (.int .i64 pm) := (P2.out.2 4 (by simp)).1
    have p5 : w2.cell? ⟨w.heap.size + 1 + 1, 5, none⟩ = some (.int .i64 ps) := (P2.out.2 5 (by simp)).1
    have p6 : w2.cell? ⟨w.heap.size + 1 + 1, 6, none⟩ = some (.int .i64 pl) := (P2.out.2 6 (by simp)).1
    have p7 : w2.cell? ⟨w.heap.size + 1 + 1, 7, none⟩ = some (.int .i64 pc) := (P2.out.2 7 (by simp)).1
    have lP : w.heap.size + 1 + 1 < w2.heap.size := by omega
    have r0 : w2.cell? ⟨w.heap.size + 1 + 1 + 1, 0, none⟩ = some (.int .i64 0) := (R2.out 0 (by decide)).1
    have r1 : w2.cell? ⟨w.heap.size + 1 + 1 + 1, 1, none⟩ = some (.slice none 0 0) := (R2.out 1 (by decide)).1
    have r2 : w2.cell? ⟨w.heap.size + 1 + 1 + 1, 2, none⟩ = some (.int .i64 0) := (R2.out 2 (by decide)).1
    have r3 : w2.cell? ⟨w.heap.size + 1 + 1 + 1, 3, none⟩ = some (.slice none 0 0) := (R2.out 3 (by decide)).1
    have r4 : w2.cell? ⟨w.heap.size + 1 + 1 + 1, 4, none⟩ = some (.slice none 0 0) := (R2.out 4 (by decide)).1
    have r5 : w2.cell? ⟨w.heap.size + 1 + 1 + 1, 5, none⟩ = some (.slice none 0 0) := (R2.out 5 (by decide)).1
    have q0 : w2.frozen? ⟨w.heap.size + 1 + 1 + 1, 0, none⟩ = false := (R2.out 0 (by decide)).2
    have q1 : w2.frozen? ⟨w.heap.size + 1 + 1 + 1, 1, none⟩ = false := (R2.out 1 (by decide)).2
    have q2 : w2.frozen? ⟨w.heap.size + 1 + 1 + 1, 2, none⟩ = false := (R2.out 2 (by decide)).2
    have q3 : w2.frozen? ⟨w.heap.size + 1 + 1 + 1, 3, none⟩ = false := (R2.out 3 (by decide)).2
    have q4 : w2.frozen? ⟨w.heap.size + 1 + 1 + 1, 4, none⟩ = false := (R2.out 4 (by decide)).2
    have q5 : w2.frozen? ⟨w.heap.size + 1 + 1 + 1, 5, none⟩ = false := (R2.out 5 (by decide)).2
    have lR : w.heap.size + 1 + 1 + 1 < w2.heap.size := by omega
    go_wp2
    refine bodyPost_ret (v := .tuple #[.agg #[.int .i64 0, .slice none 0 0, .int .i64 0, .slice none 0 0, .slice none 0 0, .slice none 0 0], .bool false]) (by simp [results, Tryz.results5, go_sem, r0, r1, r2, r3, r4, r5]) rfl ?_
    exact ⟨⟨_, _, rfl, by rw [inR_no (.inr (.inl h3))], by rw [inR_no (.inr (.inl h3))]; exact nothing_own _ _ _⟩, below_put6 B2.out (by omega) _ _ _ _ _ _⟩
  by_cases h2 : sideF c d V.c side = -1
  · skip
    go_enter Tryz.func5, Tryz.ntmps5
    go_wp2_with fail
    obtain ⟨w0, e0⟩ : ∃ w0, w0 = ((((w.alloc (.cells #[.int .i64 c, .int .i64 d] 40)).alloc (.cells #[.int .i64 V.c, .slice (some ⟨bW, 0, none⟩) V.nW V.nW, .int .i64 V.g, .slice (some ⟨bO, 0, none⟩) V.nO V.nO, .slice (some ⟨bX, 0, none⟩) V.nX V.nX, .slice (some ⟨bI, 0, none⟩) V.nI V.nI] 37)).alloc (.cells #[.int .i64 pn, .int .i64 pk, .int .i64 pi, .int .i64 pa, .int .i64 pm, .int .i64 ps, .int .i64 pl, .int .i64 pc] 45)).alloc (.cells #[.int .i64 0, .slice none 0 0, .int .i64 0, .slice none 0 0, .slice none 0 0, .slice none 0 0] 37)) := ⟨_, rfl⟩
    have z0 : w.heap.size + 4 ≤ w0.heap.size := by rw [e0]; simp
    have B0 : Hid (Below w.heap.size w w0) := by rw [e0]; exact ((((Below.refl _ _).alloc (by simp) _).alloc (by simp) _).alloc (by simp; omega) _).alloc (by simp; omega) _
    have A0 : Hid (Six w0 (w.heap.size + 1) [.int .i64 V.c, .slice (some ⟨bW, 0, none⟩) V.nW V.nW, .int .i64 V.g, .slice (some ⟨bO, 0, none⟩) V.nO V.nO, .slice (some ⟨bX, 0, none⟩) V.nX V.nX, .slice (some ⟨bI, 0, none⟩) V.nI V.nI]) := by rw [e0]; exact (six_box2 w #[.int .i64 c, .int .i64 d] 40 37 (.int .i64 V.c) (.slice (some ⟨bW, 0, none⟩) V.nW V.nW) (.int .i64 V.g) (.slice (some ⟨bO, 0, none⟩) V.nO V.nO) (.slice (some ⟨bX, 0, none⟩) V.nX V.nX) (.slice (some ⟨bI, 0, none⟩) V.nI V.nI)).below (by simp) (((Below.refl _ _).alloc (Nat.le_refl _) _).alloc (by simp) _)
    have P0 : Hid (Bk w0 (w.heap.size + 1 + 1) [.int .i64 pn, .int .i64 pk, .int .i64 pi, .int .i64 pa, .int .i64 pm, .int .i64 ps, .int .i64 pl, .int .i64 pc]) := by rw [e0]; have h := bk_new ((w.alloc (.cells #[.int .i64 c, .int .i64 d] 40)).alloc (.cells #[.int .i64 V.c, .slice (some ⟨bW, 0, none⟩) V.nW V.nW, .int .i64 V.g, .slice (some ⟨bO, 0, none⟩) V.nO V.nO, .slice (some ⟨bX, 0, none⟩) V.nX V.nX, .slice (some ⟨bI, 0, none⟩) V.nI V.nI] 37)) 45 [.int .i64 pn, .int .i64 pk, .int .i64 pi, .int .i64 pa, .int .i64 pm, .int .i64 ps, .int .i64 pl, .int .i64 pc]; rw [World.size_alloc, World.size_alloc] at h; exact h.below ((Below.refl _ _).alloc (Nat.le_refl _) _)
    have R0 : Hid (Six w0 (w.heap.size + 1 + 1 + 1) [.int .i64 0, .slice none 0 0, .int .i64 0, .slice none 0 0, .slice none 0 0, .slice none 0 0]) := by rw [e0]; have h := six_new (((w.alloc (.cells #[.int .i64 c, .int .i64 d] 40)).alloc (.cells #[.int .i64 V.c, .slice (some ⟨bW, 0, none⟩) V.nW V.nW, .int .i64 V.g, .slice (some ⟨bO, 0, none⟩) V.nO V.nO, .slice (some ⟨bX, 0, none⟩) V.nX V.nX, .slice (some ⟨bI, 0, none⟩) V.nI V.nI] 37)).alloc (.cells #[.int .i64 pn, .int .i64 pk, .int .i64 pi, .int .i64 pa, .int .i64 pm, .int .i64 ps, .int .i64 pl, .int .i64 pc] 45)) 37 (.int .i64 0) (.slice none 0 0) (.int .i64 0) (.slice none 0 0) (.slice none 0 0) (.slice none 0 0); rw [World.size_alloc, World.size_alloc, World.size_alloc] at h; exact h
    have m00 : Hid (w0.cell? ⟨w.heap.size, 0, none⟩ = some (.int .i64 c)) := by rw [e0]; exact (((((Below.refl _ (w.alloc (.cells #[.int .i64 c, .int .i64 d] 40))).alloc (Nat.le_refl _) _).alloc (by simp) _).alloc (by simp) _).cell (p := ⟨w.heap.size, 0, none⟩) (by simp)).trans (by simp)
    have m10 : Hid (w0.cell? ⟨w.heap.size, 1, none⟩ = some (.int .i64 d)) := by rw [e0]; exact (((((Below.refl _ (w.alloc (.cells #[.int .i64 c, .int .i64 d] 40))).alloc (Nat.le_refl _) _).alloc (by simp) _).alloc (by simp) _).cell (p := ⟨w.heap.size, 1, none⟩) (by simp)).trans (by simp)
    rw [← e0]
    clear e0
    refine (cllOk_spec c d _ V lo hs.out _ (CP.out.below B0.out)).mono ?_
    rintro e w1 ⟨rfl, hb1⟩
    rw [h1]
    have B1 : Hid (Below w.heap.size w w1) := bthen B0.out hb1
    have A1 : Hid (Six w1 (w.heap.size + 1) [.int .i64 V.c, .slice (some ⟨bW, 0, none⟩) V.nW V.nW, .int .i64 V.g, .slice (some ⟨bO, 0, none⟩) V.nO V.nO, .slice (some ⟨bX, 0, none⟩) V.nX V.nX, .slice (some ⟨bI, 0, none⟩) V.nI V.nI]) := A0.out.below (by omega) hb1
    have P1 : Hid (Bk w1 (w.heap.size + 1 + 1) [.int .i64 pn, .int .i64 pk, .int .i64 pi, .int .i64 pa, .int .i64 pm, .int .i64 ps, .int .i64 pl, .int .i64 pc]) := P0.out.below hb1
    have R1 : Hid (Six w1 (w.heap.size + 1 + 1 + 1) [.int .i64 0, .slice none 0 0, .int .i64 0, .slice none 0 0, .slice none 0 0, .slice none 0 0]) := R0.out.below (by omega) hb1
    have m01 : Hid (w1.cell? ⟨w.heap.size, 0, none⟩ = some (.int .i64 c)) := (hb1.cell (p := ⟨w.heap.size, 0, none⟩) (by show w.heap.size < _; omega)).trans m00.out
    have m11 : Hid (w1.cell? ⟨w.heap.size, 1, none⟩ = some (.int .i64 d)) := (hb1.cell (p := ⟨w.heap.size, 1, none⟩) (by show w.heap.size < _; omega)).trans m10.out
    have z1 : w.heap.size + 4 ≤ w1.heap.size := Nat.le_trans z0 hb1.size
    clear A0 B0 P0 R0 m00 m10
    clear hb1
    have m0 : w1.cell? ⟨w.heap.size, 0, none⟩ = some (.int .i64 c) := m01.out
    have m1 : w1.cell? ⟨w.heap.size, 1, none⟩ = some (.int .i64 d) := m11.out
    have a0 : w1.cell? ⟨w.heap.size + 1, 0, none⟩ = some (.int .i64 V.c) := (A1.out 0 (by decide)).1
    have a1 : w1.cell? ⟨w.heap.size + 1, 1, none⟩ = some (.slice (some ⟨bW, 0, none⟩) V.nW V.nW) := (A1.out 1 (by decide)).1
    have a2 : w1.cell? ⟨w.heap.size + 1, 2, none⟩ = some (.int .i64 V.g) := (A1.out 2 (by decide)).1
    have a3 : w1.cell? ⟨w.heap.size + 1, 3, none⟩ = some (.slice (some ⟨bO, 0, none⟩) V.nO V.nO) := (A1.out 3 (by decide)).1
    have a4 : w1.cell? ⟨w.heap.size + 1, 4, none⟩ = some (.slice (some ⟨bX, 0, none⟩) V.nX V.nX) := (A1.out 4 (by decide)).1
    have a5 : w1.cell? ⟨w.heap.size + 1, 5, none⟩ = some (.slice (some ⟨bI, 0, none⟩) V.nI V.nI) := (A1.out 5 (by decide)).1
    have lA : w.heap.size + 1 < w1.heap.size := by omega
    have lM : w.heap.size < w1.heap.size := by omega
    have p0 : w1.cell? ⟨w.heap.size + 1 + 1, 0, none⟩ = some (.int .i64 pn) := (P1.out.2 0 (by simp)).1
    have p1 : w1.cell? ⟨w.heap.size + 1 + 1, 1, none⟩ = some (.int .i64 pk) := (P1.out.2 1 (by simp)).1
    have p2 : w1.cell? ⟨w.heap.size + 1 + 1, 2, none⟩ = some (.int .i64 pi) := (P1.out.2 2 (by simp)).1
    have p3 : w1.cell? ⟨w.heap.size + 1 + 1, 3, none⟩ = some (.int .i64 pa) := (P1.out.2 3 (by simp)).1
    have p4 : w1.cell? ⟨w.heap.size + 1 + 1, 4, none⟩ = some (.int .i64 pm) := (P1.out.2 4 (by simp)).1
    have p5 : w1.cell? ⟨w.heap.size + 1 + 1, 5, none⟩ = some (.int .i64 ps) := (P1.out.2 5 (by simp)).1
    have p6 : w1.cell? ⟨w.heap.size + 1 + 1, 6, none⟩ = some (.int .i64 pl) := (P1.out.2 6 (by simp)).1
    have p7 : w1.cell? ⟨w.heap.size + 1 + 1, 7, none⟩ = some (.int .i64 pc) := (P1.out.2 7 (by simp)).1
    have lP : w.heap.size + 1 + 1 < w1.heap.size := by omega
    go_wp2_with fail
    clear m0 m1 a0 a1 a2 a3 a4 a5 lA lM p0 p1 p2 p3 p4 p5 p6 p7 lP
    refine (pclOk_spec c d pn pk pi pa pm ps pl pc _).mono ?_
    rintro e w2 ⟨rfl, hb2⟩
    rw [h3]
    have B2 : Hid (Below w.heap.size w w2) := bthen B1.out hb2
    have A2 : Hid (Six w2 (w.heap.size + 1) [.int .i64 V.c, .slice (some ⟨bW, 0, none⟩) V.nW V.nW, .int .i64 V.g, .slice (some ⟨bO, 0, none⟩) V.nO V.nO, .slice (some ⟨bX, 0, none⟩) V.nX V.nX, .slice (some ⟨bI, 0, none⟩) V.nI V.nI]) := A1.out.below (by omega) hb2
    have P2 : Hid (Bk w2 (w.heap.size + 1 + 1) [.int .i64 pn, .int .i64 pk, .int .i64 pi, .int .i64 pa, .int .i64 pm, .int .i64 ps, .int .i64 pl, .int .i64 pc]) := P1.out.below hb2
    have R2 : Hid (Six w2 (w.heap.size + 1 + 1 + 1) [.int .i64 0, .slice none 0 0, .int .i64 0, .slice none 0 0, .slice none 0 0, .slice none 0 0]) := R1.out.below (by omega) hb2
    have m02 : Hid (w2.cell? ⟨w.heap.size, 0, none⟩ = some (.int .i64 c)) := (hb2.cell (p := ⟨w.heap.size, 0, none⟩) (by show w.heap.size < _; omega)).trans m01.out
    have m12 : Hid (w2.cell? ⟨w.heap.size, 1, none⟩ = some (.int .i64 d)) := (hb2.cell (p := ⟨w.heap.size, 1, none⟩) (by show w.heap.size < _; omega)).trans m11.out
    have z2 : w.heap.size + 4 ≤ w2.heap.size := Nat.le_trans z1 hb2.size
    clear A1 B1 P1 R1 m01 m11
    clear hb2
    have m0 : w2.cell? ⟨w.heap.size, 0, none⟩ = some (.int .i64 c) := m02.out
    have m1 : w2.cell? ⟨w.heap.size, 1, none⟩ = some (.int .i64 d) := m12.out
    have a0 : w2.cell? ⟨w.heap.size + 1, 0, none⟩ = some (.int .i64 V.c) := (A2.out 0 (by decide)).1
    have a1 : w2.cell? ⟨w.heap.size + 1, 1, none⟩ = some (.slice (some ⟨bW, 0, none⟩) V.nW V.nW) := (A2.out 1 (by decide)).1
    have a2 : w2.cell? ⟨w.heap.size + 1, 2, none⟩ = some (.int .i64 V.g) := (A2.out 2 (by decide)).1
    have a3 : w2.cell? ⟨w.heap.size + 1, 3, none⟩ = some (.slice (some ⟨bO, 0, none⟩) V.nO V.nO) := (A2.out 3 (by decide)).1
    have a4 : w2.cell? ⟨w.heap.size + 1, 4, none⟩ = some (.slice (some ⟨bX, 0, none⟩) V.nX V.nX) := (A2.out 4 (by decide)).1
    have a5 : w2.cell? ⟨w.heap.size + 1, 5, none⟩ = some (.slice (some ⟨bI, 0, none⟩) V.nI V.nI) := (A2.out 5 (by decide)).1
    have lA : w.heap.size + 1 < w2.heap.size := by omega
    have lM : w.heap.size < w2.heap.size := by omega
    have p0 : w2.cell? ⟨w.heap.size + 1 + 1, 0, none⟩ = some (.int .i64 pn) := (P2.out.2 0 (by simp)).1
    have p1 : w2.cell? ⟨w.heap.size + 1 + 1, 1, none⟩ = some (.int .i64 pk) := (P2.out.2 1 (by simp)).1
    have p2 : w2.cell? ⟨w.heap.size + 1 + 1, 2, none⟩ = some (.int .i64 pi) := (P2.out.2 2 (by simp)).1
    have p3 : w2.cell? ⟨w.heap.size + 1 + 1, 3, none⟩ = some (.int .i64 pa) := (P2.out.2 3 (by simp)).1
    have p4 : w2.cell? ⟨w.heap.size + 1 + 1, 4, none⟩ = some (.int .i64 pm) := (P2.out.2 4 (by simp)).1
    have p5 : w2.cell? ⟨w.heap.size + 1 + 1, 5, none⟩ = some (.int .i64 ps) := (P2.out.2 5 (by simp)).1
    have p6 : w2.cell? ⟨w.heap.size + 1 + 1, 6, none⟩ = some (.int .i64 pl) := (P2.out.2 6 (by simp)).1
    have p7 : w2.cell? ⟨w.heap.size + 1 + 1, 7, none⟩ = some (.int .i64 pc) := (P2.out.2 7 (by simp)).1
    have lP : w.heap.size + 1 + 1 < w2.heap.size := by omega
    go_wp2_with fail
    clear m0 m1 a0 a1 a2 a3 a4 a5 lA lM p0 p1 p2 p3 p4 p5 p6 p7 lP
    refine (plcSide_spec c d V.c side _).mono ?_
    rintro e w3 ⟨rfl, hb3⟩
    have B3 : Hid (Below w.heap.size w w3) := bthen B2.out hb3
    have A3 : Hid (Six w3 (w.heap.size + 1) [.int .i64 V.c, .slice (some ⟨bW, 0, none⟩) V.nW V.nW, .int .i64 V.g, .slice (some ⟨bO, 0, none⟩) V.nO V.nO, .slice (some ⟨bX, 0, none⟩) V.nX V.nX, .slice (some ⟨bI, 0, none⟩) V.nI V.nI]) := A2.out.below (by omega) hb3
    have P3 : Hid (Bk w3 (w.heap.size + 1 + 1) [.int .i64 pn, .int .i64 pk, .int .i64 pi, .int .i64 pa, .int .i64 pm, .int .i64 ps, .int .i64 pl, .int .i64 pc]) := P2.out.below hb3
    have R3 : Hid (Six w3 (w.heap.size + 1 + 1 + 1) [.int .i64 0, .slice none 0 0, .int .i64 0, .slice none 0 0, .slice none 0 0, .slice none 0 0]) := R2.out.below (by omega) hb3
    have m03 : Hid (w3.cell? ⟨w.heap.size, 0, none⟩ = some (.int .i64 c)) := (hb3.cell (p := ⟨w.heap.size, 0, none⟩) (by show w.heap.size < _; omega)).trans m02.out
    have m13 : Hid (w3.cell? ⟨w.heap.size, 1, none⟩ = some (.int .i64 d)) := (hb3.cell (p := ⟨w.heap.size, 1, none⟩) (by show w.heap.size < _; omega)).trans m12.out
    have z3 : w.heap.size + 4 ≤ w3.heap.size := Nat.le_trans z2 hb3.size
    clear A2 B2 P2 R2 m02 m12
    clear hb3
    rw [h2]
    have m0 : w3.cell? ⟨w.heap.size, 0, none⟩ = some (.int .i64 c) := m03.out
    have m1 : w3.cell? ⟨w.heap.size, 1, none⟩ = some (.int .i64 d) := m13.out
    have a0 : w3.cell? ⟨w.heap.size + 1, 0, none⟩ = some (.int .i64 V.c) := (A3.out 0 (by decide)).1
    have a1 : w3.cell? ⟨w.heap.size + 1, 1, none⟩ = some (.slice (some ⟨bW, 0, none⟩) V.nW V.nW) := (A3.out 1 (by decide)).1
    have a2 : w3.cell? ⟨w.heap.size + 1, 2, none⟩ = some (.int .i64 V.g) := (A3.out 2 (by decide)).1
    have a3 : w3.cell? ⟨w.heap.size + 1, 3, none⟩ = some (.slice (some ⟨bO, 0, none⟩) V.nO V.nO) := (A3.out 3 (by decide)).1
    have a4 : w3.cell? ⟨w.heap.size + 1, 4, none⟩ = some (.slice (some ⟨bX, 0, none⟩) V.nX V.nX) := (A3.out 4 (by decide)).1
    have a5 : w3.cell? ⟨w.heap.size + 1, 5, none⟩ = some (.slice (some ⟨bI, 0, none⟩) V.nI V.nI) := (A3.out 5 (by decide)).1
    have lA : w.heap.size + 1 < w3.heap.size := by omega
    have lM : w.heap.size < w3.heap.size := by omega
    have p0 : w3.cell? ⟨w.heap.size + 1 + 1, 0, none⟩ = some (.int .i64 pn) := (P3.out.2 0 (by simp)).1
    have p1 : w3.cell? ⟨w.heap.size + 1 + 1, 1, none⟩ = some (.int .i64 pk) := (P3.out.2 1 (by simp)).1
    have p2 : w3.cell? ⟨w.heap.size + 1 + 1, 2, none⟩ = some (.int .i64 pi) := (P3.out.2 2 (by simp)).1
    have p3 : w3.cell? ⟨w.heap.size + 1 + 1, 3, none⟩ = some (.int .i64 pa) := (P3.out.2 3 (by simp)).1
    have p4 : w3.cell? ⟨w.heap.size + 1 + 1, 4, none⟩ = some (.int .i64 pm) := (P3.out.2 4 (by simp)).1
    have p5 : w3.cell? ⟨w.heap.size + 1 + 1, 5, none⟩ = some (.int .i64 ps) := (P3.out.2 5 (by simp)).1
    have p6 : w3.cell? ⟨w.heap.size + 1 + 1, 6, none⟩ = some (.int .i64 pl) := (P3.out.2 6 (by simp)).1
    have p7 : w3.cell? ⟨w.heap.size + 1 + 1, 7, none⟩ = some (.int .i64 pc) := (P3.out.2 7 (by simp)).1
    have lP : w.heap.size + 1 + 1 < w3.heap.size := by omega
    have r0 : w3.cell? ⟨w.heap.size + 1 + 1 + 1, 0, none⟩ = some (.int .i64 0) := (R3.out 0 (by decide)).1
    have r1 : w3.cell? ⟨w.heap.size + 1 + 1 + 1, 1, none⟩ = some (.slice none 0 0) := (R3.out 1 (by decide)).1
    have r2 : w3.cell? ⟨w.heap.size + 1 + 1 + 1, 2, none⟩ = some (.int .i64 0) := (R3.out 2 (by decide)).1
    have r3 : w3.cell? ⟨w.heap.size + 1 + 1 + 1, 3, none⟩ = some (.slice none 0 0) := (R3.out 3 (by decide)).1
    have r4 : w3.cell? ⟨w.heap.size + 1 + 1 + 1, 4, none⟩ = some (.slice none 0 0) := (R3.out 4 (by decide)).1
    have r5 : w3.cell? ⟨w.heap.size + 1 + 1 + 1, 5, none⟩ = some (.slice none 0 0) := (R3.out 5 (by decide)).1
    have q0 : w3.frozen? ⟨w.heap.size + 1 + 1 + 1, 0, none⟩ = false := (R3.out 0 (by decide)).2
    have q1 : w3.frozen? ⟨w.heap.size + 1 + 1 + 1, 1, none⟩ = false := (R3.out 1 (by decide)).2
    have q2 : w3.frozen? ⟨w.heap.size + 1 + 1 + 1, 2, none⟩ = false := (R3.out 2 (by decide)).2
    have q3 : w3.frozen? ⟨w.heap.size + 1 + 1 + 1, 3, none⟩ = false := (R3.out 3 (by decide)).2
    have q4 : w3.frozen? ⟨w.heap.size + 1 + 1 + 1, 4, none⟩ = false := (R3.out 4 (by decide)).2
    have q5 : w3.frozen? ⟨w.heap.size + 1 + 1 + 1, 5, none⟩ = false := (R3.out 5 (by decide)).2
    have lR : w.heap.size + 1 + 1 + 1 < w3.heap.size := by omega
    go_wp2
    refine bodyPost_ret (v := .tuple #[.agg #[.int .i64 0, .slice none 0 0, .int .i64 0, .slice none 0 0, .slice none 0 0, .slice none 0 0], .bool false]) (by simp [results, Tryz.results5, go_sem, r0, r1, r2, r3, r4, r5]) rfl ?_
    exact ⟨⟨_, _, rfl, by rw [inR_no (.inr (.inr h2))], by rw [inR_no (.inr (.inr h2))]; exact nothing_own _ _ _⟩, below_put6 B3.out (by omega) _ _ _ _ _ _⟩
  obtain ⟨e1, e2, e3⟩ := cllB_two h1
  obtain ⟨q, hq, hq2⟩ : ∃ q : Nat, side = (q : Int) ∧ q < 2 := by
    by_cases s0 : side = 0
    · exact ⟨0, s0, by omega⟩
    · by_cases s1 : side = 1
      · exact ⟨1, s1, by omega⟩
      · exact absurd (side_else s0 s1) h2
  have hqI : q < V.nI := by omega
  have hnW : Hid (V.nW + 1 ≤ 1048576) := by have := cllB_nine h1; show _ ≤ _; omega
  have hg : Hid (0 ≤ V.g ∧ V.g ≤ 900) := (cllB_in h1).1
  have hI : Hid (0 ≤ V.I q ∧ V.I q ≤ 5000) := (cllB_in h1).2 q hq2
  have hk : Hid ((pk = 1 ∨ pk = 2) ∧ (0 ≤ pc ∧ pc ≤ 900)) := pcl_kind h3
  clear e1 e2 e3 hq2
  subst hq
  go_enter Tryz.func5, Tryz.ntmps5
  go_wp2_with fail
  obtain ⟨w0, e0⟩ : ∃ w0, w0 = ((((w.alloc (.cells #[.int .i64 c, .int .i64 d] 40)).alloc (.cells #[.int .i64 V.c, .slice (some ⟨bW, 0, none⟩) V.nW V.nW, .int .i64 V.g, .slice (some ⟨bO, 0, none⟩) V.nO V.nO, .slice (some ⟨bX, 0, none⟩) V.nX V.nX, .slice (some ⟨bI, 0, none⟩) V.nI V.nI] 37)).alloc (.cells #[.int .i64 pn, .int .i64 pk, .int .i64 pi, .int .i64 pa, .int .i64 pm, .int .i64 ps, .int .i64 pl, .int .i64 pc] 45)).alloc (.cells #[.int .i64 0, .slice none 0 0, .int .i64 0, .slice none 0 0, .slice none 0 0, .slice none 0 0] 37)) := ⟨_, rfl⟩
  have z0 : w.heap.size + 4 ≤ w0.heap.size := by rw [e0]; simp
  have B0 : Hid (Below w.heap.size w w0) := by rw [e0]; exact ((((Below.refl _ _).alloc (by simp) _).alloc (by simp) _).alloc (by simp; omega) _).alloc (by simp; omega) _
  have A0 : Hid (Six w0 (w.heap.size + 1) [.int .i64 V.c, .slice (some ⟨bW, 0, none⟩) V.nW V.nW, .int .i64 V.g, .slice (some ⟨bO, 0, none⟩) V.nO V.nO, .slice (some ⟨bX, 0, none⟩) V.nX V.nX, .slice (some ⟨bI, 0, none⟩) V.nI V.nI]) := by rw [e0]; exact (six_box2 w #[.int .i64 c, .int .i64 d] 40 37 (.int .i64 V.c) (.slice (some ⟨bW, 0, none⟩) V.nW V.nW) (.int .i64 V.g) (.slice (some ⟨bO, 0, none⟩) V.nO V.nO) (.slice (some ⟨bX, 0, none⟩) V.nX V.nX) (.slice (some ⟨bI, 0, none⟩) V.nI V.nI)).below (by simp) (((Below.refl _ _).alloc (Nat.le_refl _) _).alloc (by simp) _)
  have P0 : Hid (Bk w0 (w.heap.size + 1 + 1) [.int .i64 pn, .int .i64 pk, .int .i64 pi, .int .i64 pa, .int .i64 pm, .int .i64 ps, .int .i64 pl, .int .i64 pc]) := by rw [e0]; have h := bk_new ((w.alloc (.cells #[.int .i64 c, .int .i64 d] 40)).alloc (.cells #[.int .i64 V.c, .slice (some ⟨bW, 0, none⟩) V.nW V.nW, .int .i64 V.g, .slice (some ⟨bO, 0, none⟩) V.nO V.nO, .slice (some ⟨bX, 0, none⟩) V.nX V.nX, .slice (some ⟨bI, 0, none⟩) V.nI V.nI] 37)) 45 [.int .i64 pn, .int .i64 pk, .int .i64 pi, .int .i64 pa, .int .i64 pm, .int .i64 ps, .int .i64 pl, .int .i64 pc]; rw [World.size_alloc, World.size_alloc] at h; exact h.below ((Below.refl _ _).alloc (Nat.le_refl _) _)
  have R0 : Hid (Six w0 (w.heap.size + 1 + 1 + 1) [.int .i64 0, .slice none 0 0, .int .i64 0, .slice none 0 0, .slice none 0 0, .slice none 0 0]) := by rw [e0]; have h := six_new (((w.alloc (.cells #[.int .i64 c, .int .i64 d] 40)).alloc (.cells #[.int .i64 V.c, .slice (some ⟨bW, 0, none⟩) V.nW V.nW, .int .i64 V.g, .slice (some ⟨bO, 0, none⟩) V.nO V.nO, .slice (some ⟨bX, 0, none⟩) V.nX V.nX, .slice (some ⟨bI, 0, none⟩) V.nI V.nI] 37)).alloc (.cells #[.int .i64 pn, .int .i64 pk, .int .i64 pi, .int .i64 pa, .int .i64 pm, .int .i64 ps, .int .i64 pl, .int .i64 pc] 45)) 37 (.int .i64 0) (.slice none 0 0) (.int .i64 0) (.slice none 0 0) (.slice none 0 0) (.slice none 0 0); rw [World.size_alloc, World.size_alloc, World.size_alloc] at h; exact h
  have m00 : Hid (w0.cell? ⟨w.heap.size, 0, none⟩ = some (.int .i64 c)) := by rw [e0]; exact (((((Below.refl _ (w.alloc (.cells #[.int .i64 c, .int .i64 d] 40))).alloc (Nat.le_refl _) _).alloc (by simp) _).alloc (by simp) _).cell (p := ⟨w.heap.size, 0, none⟩) (by simp)).trans (by simp)
  have m10 : Hid (w0.cell? ⟨w.heap.size, 1, none⟩ = some (.int .i64 d)) := by rw [e0]; exact (((((Below.refl _ (w.alloc (.cells #[.int .i64 c, .int .i64 d] 40))).alloc (Nat.le_refl _) _).alloc (by simp) _).alloc (by simp) _).cell (p := ⟨w.heap.size, 1, none⟩) (by simp)).trans (by simp)
  rw [← e0]
  clear e0
  refine (cllOk_spec c d _ V lo hs.out _ (CP.out.below B0.out)).mono ?_
  rintro e w1 ⟨rfl, hb1⟩
  rw [h1]
  have B1 : Hid (Below w.heap.size w w1) := bthen B0.out hb1
  have A1 : Hid (Six w1 (w.heap.size + 1) [.int .i64 V.c, .slice (some ⟨bW, 0, none⟩) V.nW V.nW, .int .i64 V.g, .slice (some ⟨bO, 0, none⟩) V.nO V.nO, .slice (some ⟨bX, 0, none⟩) V.nX V.nX, .slice (some ⟨bI, 0, none⟩) V.nI V.nI]) := A0.out.below (by omega) hb1
  have P1 : Hid (Bk w1 (w.heap.size + 1 + 1) [.int .i64 pn, .int .i64 pk, .int .i64 pi, .int .i64 pa, .int .i64 pm, .int .i64 ps, .int .i64 pl, .int .i64 pc]) := P0.out.below hb1
  have R1 : Hid (Six w1 (w.heap.size + 1 + 1 + 1) [.int .i64 0, .slice none 0 0, .int .i64 0, .slice none 0 0, .slice none 0 0, .slice none 0 0]) := R0.out.below (by omega) hb1
  have m01 : Hid (w1.cell? ⟨w.heap.size, 0, none⟩ = some (.int .i64 c)) := (hb1.cell (p := ⟨w.heap.size, 0, none⟩) (by show w.heap.size < _; omega)).trans m00.out
  have m11 : Hid (w1.cell? ⟨w.heap.size, 1, none⟩ = some (.int .i64 d)) := (hb1.cell (p := ⟨w.heap.size, 1, none⟩) (by show w.heap.size < _; omega)).trans m10.out
  have z1 : w.heap.size + 4 ≤ w1.heap.size := Nat.le_trans z0 hb1.size
  clear A0 B0 P0 R0 m00 m10
  clear hb1
  have m0 : w1.cell? ⟨w.heap.size, 0, none⟩ = some (.int .i64 c) := m01.out
  have m1 : w1.cell? ⟨w.heap.size, 1, none⟩ = some (.int .i64 d) := m11.out
  have a0 : w1.cell? ⟨w.heap.size + 1, 0, none⟩ = some (.int .i64 V.c) := (A1.out 0 (by decide)).1
  have a1 : w1.cell? ⟨w.heap.size + 1, 1, none⟩ = some (.slice (some ⟨bW, 0, none⟩) V.nW V.nW) := (A1.out 1 (by decide)).1
  have a2 : w1.cell? ⟨w.heap.size + 1, 2, none⟩ = some (.int .i64 V.g) := (A1.out 2 (by decide)).1
  have a3 : w1.cell? ⟨w.heap.size + 1, 3, none⟩ = some (.slice (some ⟨bO, 0, none⟩) V.nO V.nO) := (A1.out 3 (by decide)).1
  have a4 : w1.cell? ⟨w.heap.size + 1, 4, none⟩ = some (.slice (some ⟨bX, 0, none⟩) V.nX V.nX) := (A1.out 4 (by decide)).1
  have a5 : w1.cell? ⟨w.heap.size + 1, 5, none⟩ = some (.slice (some ⟨bI, 0, none⟩) V.nI V.nI) := (A1.out 5 (by decide)).1
  have lA : w.heap.size + 1 < w1.heap.size := by omega
  have lM : w.heap.size < w1.heap.size := by omega
  have p0 : w1.cell? ⟨w.heap.size + 1 + 1, 0, none⟩ = some (.int .i64 pn) := (P1.out.2 0 (by simp)).1
  have p1 : w1.cell? ⟨w.heap.size + 1 + 1, 1, none⟩ = some (.int .i64 pk) := (P1.out.2 1 (by simp)).1
  have p2 : w1.cell? ⟨w.heap.size + 1 + 1, 2, none⟩ = some (.int .i64 pi) := (P1.out.2 2 (by simp)).1
  have p3 : w1.cell? ⟨w.heap.size + 1 + 1, 3, none⟩ = some (.int .i64 pa) := (P1.out.2 3 (by simp)).1
  have p4 : w1.cell? ⟨w.heap.size + 1 + 1, 4, none⟩ = some (.int .i64 pm) := (P1.out.2 4 (by simp)).1
  have p5 : w1.cell? ⟨w.heap.size + 1 + 1, 5, none⟩ = some (.int .i64 ps) := (P1.out.2 5 (by simp)).1
  have p6 : w1.cell? ⟨w.heap.size + 1 + 1, 6, none⟩ = some (.int .i64 pl) := (P1.out.2 6 (by simp)).1
  have p7 : w1.cell? ⟨w.heap.size + 1 + 1, 7, none⟩ = some (.int .i64 pc) := (P1.out.2 7 (by simp)).1
  have lP : w.heap.size + 1 + 1 < w1.heap.size := by omega
  go_wp2_with fail
  clear m0 m1 a0 a1 a2 a3 a4 a5 lA lM p0 p1 p2 p3 p4 p5 p6 p7 lP
  refine (pclOk_spec c d pn pk pi pa pm ps pl pc _).mono ?_
  rintro e w2 ⟨rfl, hb2⟩
  rw [h3]
  have B2 : Hid (Below w.heap.size w w2) := bthen B1.out hb2
  have A2 : Hid (Six w2 (w.heap.size + 1) [.int .i64 V.c, .slice (some ⟨bW, 0, none⟩) V.nW V.nW, .int .i64 V.g, .slice (some ⟨bO, 0, none⟩) V.nO V.nO, .slice (some ⟨bX, 0, none⟩) V.nX V.nX, .slice (some ⟨bI, 0, none⟩) V.nI V.nI]) := A1.out.below (by omega) hb2
  have P2 : Hid (Bk w2 (w.heap.size + 1 + 1) [.int .i64 pn, .int .i64 pk, .int .i64 pi, .int .i64 pa, .int .i64 pm, .int .i64 ps, .int .i64 pl, .int .i64 pc]) := P1.out.below hb2
  have R2 : Hid (Six w2 (w.heap.size + 1 + 1 + 1) [.int .i64 0, .slice none 0 0, .int .i64 0, .slice none 0 0, .slice none 0 0, .slice none 0 0]) := R1.out.below (by omega) hb2
  have m02 : Hid (w2.cell? ⟨w.heap.size, 0, none⟩ = some (.int .i64 c)) := (hb2.cell (p := ⟨w.heap.size, 0, none⟩) (by show w.heap.size < _; omega)).trans m01.out
  have m12 : Hid (w2.cell? ⟨w.heap.size, 1, none⟩ = some (.int .i64 d)) := (hb2.cell (p := ⟨w.heap.size, 1, none⟩) (by show w.heap.size < _; omega)).trans m11.out
  have z2 : w.heap.size + 4 ≤ w2.heap.size := Nat.le_trans z1 hb2.size
  clear A1 B1 P1 R1 m01 m11
  clear hb2
  have m0 : w2.cell? ⟨w.heap.size, 0, none⟩ = some (.int .i64 c) := m02.out
  have m1 : w2.cell? ⟨w.heap.size, 1, none⟩ = some (.int .i64 d) := m12.out
  have a0 : w2.cell? ⟨w.heap.size + 1, 0, none⟩ = some (.int .i64 V.c) := (A2.out 0 (by decide)).1
  have a1 : w2.cell? ⟨w.heap.size + 1, 1, none⟩ = some (.slice (some ⟨bW, 0, none⟩) V.nW V.nW) := (A2.out 1 (by decide)).1
  have a2 : w2.cell? ⟨w.heap.size + 1, 2, none⟩ = some (.int .i64 V.g) := (A2.out 2 (by decide)).1
  have a3 : w2.cell? ⟨w.heap.size + 1, 3, none⟩ = some (.slice (some ⟨bO, 0, none⟩) V.nO V.nO) := (A2.out 3 (by decide)).1
  have a4 : w2.cell? ⟨w.heap.size + 1, 4, none⟩ = some (.slice (some ⟨bX, 0, none⟩) V.nX V.nX) := (A2.out 4 (by decide)).1
  have a5 : w2.cell? ⟨w.heap.size + 1, 5, none⟩ = some (.slice (some ⟨bI, 0, none⟩) V.nI V.nI) := (A2.out 5 (by decide)).1
  have lA : w.heap.size + 1 < w2.heap.size := by omega
  have lM : w.heap.size < w2.heap.size := by omega
  have p0 : w2.cell? ⟨w.heap.size + 1 + 1, 0, none⟩ = some (.int .i64 pn) := (P2.out.2 0 (by simp)).1
  have p1 : w2.cell? ⟨w.heap.size + 1 + 1, 1, none⟩ = some (.int .i64 pk) := (P2.out.2 1 (by simp)).1
  have p2 : w2.cell? ⟨w.heap.size + 1 + 1, 2, none⟩ = some (.int .i64 pi) := (P2.out.2 2 (by simp)).1
  have p3 : w2.cell? ⟨w.heap.size + 1 + 1, 3, none⟩ = some (.int .i64 pa) := (P2.out.2 3 (by simp)).1
  have p4 : w2.cell? ⟨w.heap.size + 1 + 1, 4, none⟩ = some (.int .i64 pm) := (P2.out.2 4 (by simp)).1
  have p5 : w2.cell? ⟨w.heap.size + 1 + 1, 5, none⟩ = some (.int .i64 ps) := (P2.out.2 5 (by simp)).1
  have p6 : w2.cell? ⟨w.heap.size + 1 + 1, 6, none⟩ = some (.int .i64 pl) := (P2.out.2 6 (by simp)).1
  have p7 : w2.cell? ⟨w.heap.size + 1 + 1, 7, none⟩ = some (.int .i64 pc) := (P2.out.2 7 (by simp)).1
  have lP : w.heap.size + 1 + 1 < w2.heap.size := by omega
  go_wp2_with fail
  clear m0 m1 a0 a1 a2 a3 a4 a5 lA lM p0 p1 p2 p3 p4 p5 p6 p7 lP
  refine (plcSide_spec c d V.c (q : Int) _).mono ?_
  rintro e w3 ⟨rfl, hb3⟩
  have B3 : Hid (Below w.heap.size w w3) := bthen B2.out hb3
  have A3 : Hid (Six w3 (w.heap.size + 1) [.int .i64 V.c, .slice (some ⟨bW, 0, none⟩) V.nW V.nW, .int .i64 V.g, .slice (some ⟨bO, 0, none⟩) V.nO V.nO, .slice (some ⟨bX, 0, none⟩) V.nX V.nX, .slice (some ⟨bI, 0, none⟩) V.nI V.nI]) := A2.out.below (by omega) hb3
  have P3 : Hid (Bk w3 (w.heap.size + 1 + 1) [.int .i64 pn, .int .i64 pk, .int .i64 pi, .int .i64 pa, .int .i64 pm, .int .i64 ps, .int .i64 pl, .int .i64 pc]) := P2.out.below hb3
  have R3 : Hid (Six w3 (w.heap.size + 1 + 1 + 1) [.int .i64 0, .slice none 0 0, .int .i64 0, .slice none 0 0, .slice none 0 0, .slice none 0 0]) := R2.out.below (by omega) hb3
  have m03 : Hid (w3.cell? ⟨w.heap.size, 0, none⟩ = some (.int .i64 c)) := (hb3.cell (p := ⟨w.heap.size, 0, none⟩) (by show w.heap.size < _; omega)).trans m02.out
  have m13 : Hid (w3.cell? ⟨w.heap.size, 1, none⟩ = some (.int .i64 d)) := (hb3.cell (p := ⟨w.heap.size, 1, none⟩) (by show w.heap.size < _; omega)).trans m12.out
  have z3 : w.heap.size + 4 ≤ w3.heap.size := Nat.le_trans z2 hb3.size
  clear A2 B2 P2 R2 m02 m12
  clear hb3
  have m0 : w3.cell? ⟨w.heap.size, 0, none⟩ = some (.int .i64 c) := m03.out
  have m1 : w3.cell? ⟨w.heap.size, 1, none⟩ = some (.int .i64 d) := m13.out
  have a0 : w3.cell? ⟨w.heap.size + 1, 0, none⟩ = some (.int .i64 V.c) := (A3.out 0 (by decide)).1
  have a1 : w3.cell? ⟨w.heap.size + 1, 1, none⟩ = some (.slice (some ⟨bW, 0, none⟩) V.nW V.nW) := (A3.out 1 (by decide)).1
  have a2 : w3.cell? ⟨w.heap.size + 1, 2, none⟩ = some (.int .i64 V.g) := (A3.out 2 (by decide)).1
  have a3 : w3.cell? ⟨w.heap.size + 1, 3, none⟩ = some (.slice (some ⟨bO, 0, none⟩) V.nO V.nO) := (A3.out 3 (by decide)).1
  have a4 : w3.cell? ⟨w.heap.size + 1, 4, none⟩ = some (.slice (some ⟨bX, 0, none⟩) V.nX V.nX) := (A3.out 4 (by decide)).1
  have a5 : w3.cell? ⟨w.heap.size + 1, 5, none⟩ = some (.slice (some ⟨bI, 0, none⟩) V.nI V.nI) := (A3.out 5 (by decide)).1
  have lA : w.heap.size + 1 < w3.heap.size := by omega
  have lM : w.heap.size < w3.heap.size := by omega
  have p0 : w3.cell? ⟨w.heap.size + 1 + 1, 0, none⟩ = some (.int .i64 pn) := (P3.out.2 0 (by simp)).1
  have p1 : w3.cell? ⟨w.heap.size + 1 + 1, 1, none⟩ = some (.int .i64 pk) := (P3.out.2 1 (by simp)).1
  have p2 : w3.cell? ⟨w.heap.size + 1 + 1, 2, none⟩ = some (.int .i64 pi) := (P3.out.2 2 (by simp)).1
  have p3 : w3.cell? ⟨w.heap.size + 1 + 1, 3, none⟩ = some (.int .i64 pa) := (P3.out.2 3 (by simp)).1
  have p4 : w3.cell? ⟨w.heap.size + 1 + 1, 4, none⟩ = some (.int .i64 pm) := (P3.out.2 4 (by simp)).1
  have p5 : w3.cell? ⟨w.heap.size + 1 + 1, 5, none⟩ = some (.int .i64 ps) := (P3.out.2 5 (by simp)).1
  have p6 : w3.cell? ⟨w.heap.size + 1 + 1, 6, none⟩ = some (.int .i64 pl) := (P3.out.2 6 (by simp)).1
  have p7 : w3.cell? ⟨w.heap.size + 1 + 1, 7, none⟩ = some (.int .i64 pc) := (P3.out.2 7 (by simp)).1
  have lP : w.heap.size + 1 + 1 < w3.heap.size := by omega
  have hneg : (sideF c d V.c (q : Int) == -1) = false := by simp; exact h2
  go_wp2_with fail
  clear m0 m1 a0 a1 a2 a3 a4 a5 lA lM p0 p1 p2 p3 p4 p5 p6 p7 lP
  refine (l5In_spec c d pn pk pi pa pm ps pl pc _ V lo q hk.out.1 h1 hs.out hnW.out hqI hI.out hg.out hk.out.2 _ (CP.out.below B3.out)).mono ?_
  rintro e w4 ⟨⟨u, rfl, hO⟩, hb4⟩
  obtain ⟨U, eU⟩ : ∃ U, U = CV.inn c d V q pn pk pi pa pm ps pl pc := ⟨_, rfl⟩
  rw [← eU] at hO
  have EU : Hid (U = CV.inn c d V q pn pk pi pa pm ps pl pc) := eU
  obtain ⟨aW, kW, aO, kO, aX, kX, aI, kI, rfl, _, _, _, _⟩ := hO.at
  have O4 : Hid (OwnC w3.heap.size w4.heap.size w4 (.agg #[.int .i64 U.c, .slice aW U.nW kW, .int .i64 U.g, .slice aO U.nO kO, .slice aX U.nX kX, .slice aI U.nI kI]) U) := hO
  have lo2 : w3.heap.size ≤ w4.heap.size := hb4.size
  have B4 : Hid (Below w.heap.size w w4) := bthen B3.out hb4
  have A4 : Hid (Six w4 (w.heap.size + 1) [.int .i64 V.c, .slice (some ⟨bW, 0, none⟩) V.nW V.nW, .int .i64 V.g, .slice (some ⟨bO, 0, none⟩) V.nO V.nO, .slice (some ⟨bX, 0, none⟩) V.nX V.nX, .slice (some ⟨bI, 0, none⟩) V.nI V.nI]) := A3.out.below (by omega) hb4
  have P4 : Hid (Bk w4 (w.heap.size + 1 + 1) [.int .i64 pn, .int .i64 pk, .int .i64 pi, .int .i64 pa, .int .i64 pm, .int .i64 ps, .int .i64 pl, .int .i64 pc]) := P3.out.below hb4
  have R4 : Hid (Six w4 (w.heap.size + 1 + 1 + 1) [.int .i64 0, .slice none 0 0, .int .i64 0, .slice none 0 0, .slice none 0 0, .slice none 0 0]) := R3.out.below (by omega) hb4
  have m04 : Hid (w4.cell? ⟨w.heap.size, 0, none⟩ = some (.int .i64 c)) := (hb4.cell (p := ⟨w.heap.size, 0, none⟩) (by show w.heap.size < _; omega)).trans m03.out
  have m14 : Hid (w4.cell? ⟨w.heap.size, 1, none⟩ = some (.int .i64 d)) := (hb4.cell (p := ⟨w.heap.size, 1, none⟩) (by show w.heap.size < _; omega)).trans m13.out
  have z4 : w.heap.size + 4 ≤ w4.heap.size := Nat.le_trans z3 hb4.size
  clear A3 B3 P3 R3 m03 m13
  clear hO hb4 eU
  obtain ⟨l2, el2⟩ : ∃ l2, l2 = w3.heap.size := ⟨_, rfl⟩
  rw [← el2] at O4 lo2 z3
  clear el2
  obtain ⟨tb, etb⟩ : ∃ tb, tb = takeB c d V (mapW V.W V.nW) q pn pk pi pa pc := ⟨_, rfl⟩
  have ETB : Hid (tb = takeB c d V (mapW V.W V.nW) q pn pk pi pa pc) := etb
  rw [← etb]
  clear etb
  have r0 : w4.cell? ⟨w.heap.size + 1 + 1 + 1, 0, none⟩ = some (.int .i64 0) := (R4.out 0 (by decide)).1
  have r1 : w4.cell? ⟨w.heap.size + 1 + 1 + 1, 1, none⟩ = some (.slice none 0 0) := (R4.out 1 (by decide)).1
  have r2 : w4.cell? ⟨w.heap.size + 1 + 1 + 1, 2, none⟩ = some (.int .i64 0) := (R4.out 2 (by decide)).1
  have r3 : w4.cell? ⟨w.heap.size + 1 + 1 + 1, 3, none⟩ = some (.slice none 0 0) := (R4.out 3 (by decide)).1
  have r4 : w4.cell? ⟨w.heap.size + 1 + 1 + 1, 4, none⟩ = some (.slice none 0 0) := (R4.out 4 (by decide)).1
  have r5 : w4.cell? ⟨w.heap.size + 1 + 1 + 1, 5, none⟩ = some (.slice none 0 0) := (R4.out 5 (by decide)).1
  have q0 : w4.frozen? ⟨w.heap.size + 1 + 1 + 1, 0, none⟩ = false := (R4.out 0 (by decide)).2
  have q1 : w4.frozen? ⟨w.heap.size + 1 + 1 + 1, 1, none⟩ = false := (R4.out 1 (by decide)).2
  have q2 : w4.frozen? ⟨w.heap.size + 1 + 1 + 1, 2, none⟩ = false := (R4.out 2 (by decide)).2
  have q3 : w4.frozen? ⟨w.heap.size + 1 + 1 + 1, 3, none⟩ = false := (R4.out 3 (by decide)).2
  have q4 : w4.frozen? ⟨w.heap.size + 1 + 1 + 1, 4, none⟩ = false := (R4.out 4 (by decide)).2
  have q5 : w4.frozen? ⟨w.heap.size + 1 + 1 + 1, 5, none⟩ = false := (R4.out 5 (by decide)).2
  have lR : w.heap.size + 1 + 1 + 1 < w4.heap.size := by omega
  go_wp2
  refine bodyPost_ret (v := .tuple #[.agg #[.int .i64 U.c, .slice aW U.nW kW, .int .i64 U.g, .slice aO U.nO kO, .slice aX U.nX kX, .slice aI U.nI kI], .bool tb]) (by simp [results, Tryz.results5, go_sem, r0, r1, r2, r3, r4, r5]) rfl ?_
  have hzz := size_put6 w4 (w.heap.size + 1 + 1 + 1) (.int .i64 U.c) (.slice aW U.nW kW) (.int .i64 U.g) (.slice aO U.nO kO) (.slice aX U.nX kX) (.slice aI U.nI kI)
  refine ⟨⟨_, _, rfl, by rw [inR_yes (q := q) h1 h3 h2 rfl]; exact ETB.out, ?_⟩, below_put6 B4.out (by omega) _ _ _ _ _ _⟩
  rw [inR_yes (q := q) h1 h3 h2 rfl]
  show OwnC w.heap.size (put6 w4 (w.heap.size + 1 + 1 + 1) (.int .i64 U.c) (.slice aW U.nW kW) (.int .i64 U.g) (.slice aO U.nO kO) (.slice aX U.nX kX) (.slice aI U.nI kI)).heap.size (put6 w4 (w.heap.size + 1 + 1 + 1) (.int .i64 U.c) (.slice aW U.nW kW) (.int .i64 U.g) (.slice aO U.nO kO) (.slice aX U.nX kX) (.slice aI U.nI kI)) _ _
  rw [hzz]
  rw [← EU.out]
  exact O4.out.more (by omega) (Nat.le_refl _) (Nat.le_of_eq hzz.symm) (fun y g1 g2 => sm_put6 (by omega) (.int .i64 U.c) (.slice aW U.nW kW) (.int .i64 U.g) (.slice aO U.nO kO) (.slice aX U.nX kX) (.slice aI U.nI kI))

end Go.Proofs.YtjmjffhommlbnaaGreat
