/- The walk of CllOk, the model's; conditions: the cell lies in memory of its own. -/
import Derived.Test.YthbkjfkkdaheoaaGreatDoorTk
import Derived.Test.YthbkjfkkdaheoaaGreatDoorCOk4
namespace Go.Proofs.YthbkjfkkdaheoaaGreatDoor
open Go.RowKit Go.Deep
set_option linter.unusedVariables false
set_option maxRecDepth 20000 in
set_option maxHeartbeats 8000000 in
theorem cllOk_spec (c d : Int) (v : Value) (V : CV) (lo : Nat) (hs : V.short 1048576) (w : World) (h : CopyAt lo w v V) :
    Calls Tryz.prog 41 #[.agg #[.int .i64 c, .int .i64 d], v] w fun e w' => e = .returned (.bool (cllB c d V)) ∧ Below w.heap.size w w' := by
  obtain ⟨bW, bO, bX, bI, q0, q1, q2, q3, q4, rfl, gW0, gO0, gX0, gI0⟩ := h
  obtain ⟨VC, nW, W, VG, nO, N, O, nX, X, nI, I⟩ := V
  simp only at gW0 gO0 gX0 gI0
  obtain ⟨sW, sO, sN, sX, sI⟩ := hs
  simp only at sW sO sN sX sI
  have gW : Hid (Own5 w bW nW W nW) := gW0
  have gO : Hid (OwnO w bO nO N O nO) := gO0
  have gX : Hid (Own1 w bX nX X nX) := gX0
  have gI : Hid (Own1 w bI nI I nI) := gI0
  have HN : Hid (∀ k, k < nO → N k ≤ 1048576) := sN
  have lW : bW < w.heap.size := by omega
  have lO : bO < w.heap.size := by omega
  have lX : bX < w.heap.size := by omega
  have lI : bI < w.heap.size := by omega
  clear gW0 gO0 gX0 gI0 sN q0 q1 q2 q3 q4
  cases h0 : okB c d
  · have E : Hid (cllB c d ⟨VC, nW, W, VG, nO, N, O, nX, X, nI, I⟩ = false) := by show cllB c d ⟨VC, nW, W, VG, nO, N, O, nX, X, nI, I⟩ = false; simp only [cllB]; simp [hasB, h0]
    go_enter Tryz.func41, Tryz.ntmps41
    go_wp2_with fail
    obtain ⟨w0, e0⟩ : ∃ w0, w0 = ((w.alloc (.cells #[.int .i64 c, .int .i64 d] 38)).alloc (.cells #[.int .i64 VC, .slice (some ⟨bW, 0, none⟩) nW nW, .int .i64 VG, .slice (some ⟨bO, 0, none⟩) nO nO, .slice (some ⟨bX, 0, none⟩) nX nX, .slice (some ⟨bI, 0, none⟩) nI nI] 35)) := ⟨_, rfl⟩
    have z0 : w.heap.size + 2 ≤ w0.heap.size := by rw [e0]; simp
    have B0 : Hid (Below w.heap.size w w0) := by rw [e0]; exact ((Below.refl _ _).alloc (by simp) _).alloc (by simp) _
    have A0 : Hid (Six w0 (w.heap.size + 1) [.int .i64 VC, .slice (some ⟨bW, 0, none⟩) nW nW, .int .i64 VG, .slice (some ⟨bO, 0, none⟩) nO nO, .slice (some ⟨bX, 0, none⟩) nX nX, .slice (some ⟨bI, 0, none⟩) nI nI]) := by rw [e0]; exact six_box2 w _ 38 35 _ _ _ _ _ _
    have M0 : Hid (w0.cell? ⟨w.heap.size, 0, none⟩ = some (.int .i64 c) ∧ w0.cell? ⟨w.heap.size, 1, none⟩ = some (.int .i64 d)) := by rw [e0]; exact two_box w c d _
    rw [← e0]
    clear e0
    refine (ok_spec _ _ _).mono ?_
    rintro e w1 ⟨rfl, hb1⟩
    rw [h0]
    have B1 := hid (bthen B0.out hb1)
    have A1 := hid (A0.out.below (by omega) hb1)
    have M1 := hid (two_bl (by omega) hb1 M0.out)
    have z1 : w.heap.size + 2 ≤ w1.heap.size := Nat.le_trans z0 hb1.size
    clear hb1 A0 M0 B0
    obtain ⟨a0, a1, a2, a3, a4, a5⟩ := A1.out.a6
    have m0 := M1.out.1
    have m1 := M1.out.2
    have lA : w.heap.size + 1 < w1.heap.size := by omega
    have lM : w.heap.size < w1.heap.size := by omega
    go_wp2
    go_ret
    exact ⟨by rw [E.out]; rfl, B1.out⟩
  obtain ⟨x1, x2, x3, x4⟩ := okB_bounds h0
  cases h1 : inB VC 0 (c - 1)
  · have E : Hid (cllB c d ⟨VC, nW, W, VG, nO, N, O, nX, X, nI, I⟩ = false) := by show cllB c d ⟨VC, nW, W, VG, nO, N, O, nX, X, nI, I⟩ = false; simp only [cllB]; simp [hasB, h0, h1]
    go_enter Tryz.func41, Tryz.ntmps41
    go_wp2_with fail
    obtain ⟨w0, e0⟩ : ∃ w0, w0 = ((w.alloc (.cells #[.int .i64 c, .int .i64 d] 38)).alloc (.cells #[.int .i64 VC, .slice (some ⟨bW, 0, none⟩) nW nW, .int .i64 VG, .slice (some ⟨bO, 0, none⟩) nO nO, .slice (some ⟨bX, 0, none⟩) nX nX, .slice (some ⟨bI, 0, none⟩) nI nI] 35)) := ⟨_, rfl⟩
    have z0 : w.heap.size + 2 ≤ w0.heap.size := by rw [e0]; simp
    have B0 : Hid (Below w.heap.size w w0) := by rw [e0]; exact ((Below.refl _ _).alloc (by simp) _).alloc (by simp) _
    have A0 : Hid (Six w0 (w.heap.size + 1) [.int .i64 VC, .slice (some ⟨bW, 0, none⟩) nW nW, .int .i64 VG, .slice (some ⟨bO, 0, none⟩) nO nO, .slice (some ⟨bX, 0, none⟩) nX nX, .slice (some ⟨bI, 0, none⟩) nI nI]) := by rw [e0]; exact six_box2 w _ 38 35 _ _ _ _ _ _
    have M0 : Hid (w0.cell? ⟨w.heap.size, 0, none⟩ = some (.int .i64 c) ∧ w0.cell? ⟨w.heap.size, 1, none⟩ = some (.int .i64 d)) := by rw [e0]; exact two_box w c d _
    rw [← e0]
    clear e0
    refine (ok_spec _ _ _).mono ?_
    rintro e w1 ⟨rfl, hb1⟩
    rw [h0]
    have B1 := hid (bthen B0.out hb1)
    have A1 := hid (A0.out.below (by omega) hb1)
    have M1 := hid (two_bl (by omega) hb1 M0.out)
    have z1 : w.heap.size + 2 ≤ w1.heap.size := Nat.le_trans z0 hb1.size
    clear hb1 A0 M0 B0
    obtain ⟨a0, a1, a2, a3, a4, a5⟩ := A1.out.a6
    have m0 := M1.out.1
    have m1 := M1.out.2
    have lA : w.heap.size + 1 < w1.heap.size := by omega
    have lM : w.heap.size < w1.heap.size := by omega
    go_wp2_with fail
    refine (in_spec _ _ _ _).mono ?_
    rintro e w2 ⟨rfl, e2⟩
    rw [e2, h1]
    clear e2 w2
    go_wp2
    go_ret
    exact ⟨by rw [E.out]; rfl, B1.out⟩
  have h01 : hasB c d VC = true := by simp [hasB, h0, h1]
  cases h2 : allB c d W nW
  · have E : Hid (cllB c d ⟨VC, nW, W, VG, nO, N, O, nX, X, nI, I⟩ = false) := by show cllB c d ⟨VC, nW, W, VG, nO, N, O, nX, X, nI, I⟩ = false; simp only [cllB]; rw [h2]; simp
    go_enter Tryz.func41, Tryz.ntmps41
    go_wp2_with fail
    obtain ⟨w0, e0⟩ : ∃ w0, w0 = ((w.alloc (.cells #[.int .i64 c, .int .i64 d] 38)).alloc (.cells #[.int .i64 VC, .slice (some ⟨bW, 0, none⟩) nW nW, .int .i64 VG, .slice (some ⟨bO, 0, none⟩) nO nO, .slice (some ⟨bX, 0, none⟩) nX nX, .slice (some ⟨bI, 0, none⟩) nI nI] 35)) := ⟨_, rfl⟩
    have z0 : w.heap.size + 2 ≤ w0.heap.size := by rw [e0]; simp
    have B0 : Hid (Below w.heap.size w w0) := by rw [e0]; exact ((Below.refl _ _).alloc (by simp) _).alloc (by simp) _
    have A0 : Hid (Six w0 (w.heap.size + 1) [.int .i64 VC, .slice (some ⟨bW, 0, none⟩) nW nW, .int .i64 VG, .slice (some ⟨bO, 0, none⟩) nO nO, .slice (some ⟨bX, 0, none⟩) nX nX, .slice (some ⟨bI, 0, none⟩) nI nI]) := by rw [e0]; exact six_box2 w _ 38 35 _ _ _ _ _ _
    have M0 : Hid (w0.cell? ⟨w.heap.size, 0, none⟩ = some (.int .i64 c) ∧ w0.cell? ⟨w.heap.size, 1, none⟩ = some (.int .i64 d)) := by rw [e0]; exact two_box w c d _
    rw [← e0]
    clear e0
    refine (ok_spec _ _ _).mono ?_
    rintro e w1 ⟨rfl, hb1⟩
    rw [h0]
    have B1 := hid (bthen B0.out hb1)
    have A1 := hid (A0.out.below (by omega) hb1)
    have M1 := hid (two_bl (by omega) hb1 M0.out)
    have z1 : w.heap.size + 2 ≤ w1.heap.size := Nat.le_trans z0 hb1.size
    clear hb1 A0 M0 B0
    obtain ⟨a0, a1, a2, a3, a4, a5⟩ := A1.out.a6
    have m0 := M1.out.1
    have m1 := M1.out.2
    have lA : w.heap.size + 1 < w1.heap.size := by omega
    have lM : w.heap.size < w1.heap.size := by omega
    go_wp2_with fail
    refine (in_spec _ _ _ _).mono ?_
    rintro e w2 ⟨rfl, e2⟩
    rw [e2, h1]
    clear e2 w2
    go_wp2_with fail
    refine (listOk_spec c d bW 0 nW nW W sW _ (by omega) (fun k j h1 h2 => (B1.out.cell (p := ⟨bW, _, none⟩) lW).trans (own_row gW.out k j h1 h2))).mono ?_
    rintro e w2 ⟨rfl, hb2⟩
    rw [h2]
    clear a0 a1 a2 a3 a4 a5 m0 m1 lA lM
    have B2 := hid (bthen B1.out hb2)
    have A2 := hid (A1.out.below (by omega) hb2)
    have M2 := hid (two_bl (by omega) hb2 M1.out)
    have z2 : w.heap.size + 2 ≤ w2.heap.size := Nat.le_trans z1 hb2.size
    clear hb2 A1 M1 B1
    obtain ⟨a0, a1, a2, a3, a4, a5⟩ := A2.out.a6
    have m0 := M2.out.1
    have m1 := M2.out.2
    have lA : w.heap.size + 1 < w2.heap.size := by omega
    have lM : w.heap.size < w2.heap.size := by omega
    go_wp2
    go_ret
    exact ⟨by rw [E.out]; rfl, B2.out⟩
  cases h3 : inB VG 0 900
  · have E : Hid (cllB c d ⟨VC, nW, W, VG, nO, N, O, nX, X, nI, I⟩ = false) := by show cllB c d ⟨VC, nW, W, VG, nO, N, O, nX, X, nI, I⟩ = false; simp only [cllB]; rw [h3]; simp
    go_enter Tryz.func41, Tryz.ntmps41
    go_wp2_with fail
    obtain ⟨w0, e0⟩ : ∃ w0, w0 = ((w.alloc (.cells #[.int .i64 c, .int .i64 d] 38)).alloc (.cells #[.int .i64 VC, .slice (some ⟨bW, 0, none⟩) nW nW, .int .i64 VG, .slice (some ⟨bO, 0, none⟩) nO nO, .slice (some ⟨bX, 0, none⟩) nX nX, .slice (some ⟨bI, 0, none⟩) nI nI] 35)) := ⟨_, rfl⟩
    have z0 : w.heap.size + 2 ≤ w0.heap.size := by rw [e0]; simp
    have B0 : Hid (Below w.heap.size w w0) := by rw [e0]; exact ((Below.refl _ _).alloc (by simp) _).alloc (by simp) _
    have A0 : Hid (Six w0 (w.heap.size + 1) [.int .i64 VC, .slice (some ⟨bW, 0, none⟩) nW nW, .int .i64 VG, .slice (some ⟨bO, 0, none⟩) nO nO, .slice (some ⟨bX, 0, none⟩) nX nX, .slice (some ⟨bI, 0, none⟩) nI nI]) := by rw [e0]; exact six_box2 w _ 38 35 _ _ _ _ _ _
    have M0 : Hid (w0.cell? ⟨w.heap.size, 0, none⟩ = some (.int .i64 c) ∧ w0.cell? ⟨w.heap.size, 1, none⟩ = some (.int .i64 d)) := by rw [e0]; exact two_box w c d _
    rw [← e0]
    clear e0
    refine (ok_spec _ _ _).mono ?_
    rintro e w1 ⟨rfl, hb1⟩
    rw [h0]
    have B1 := hid (bthen B0.out hb1)
    have A1 := hid (A0.out.below (by omega) hb1)
    have M1 := hid (two_bl (by omega) hb1 M0.out)
    have z1 : w.heap.size + 2 ≤ w1.heap.size := Nat.le_trans z0 hb1.size
    clear hb1 A0 M0 B0
    obtain ⟨a0, a1, a2, a3, a4, a5⟩ := A1.out.a6
    have m0 := M1.out.1
    have m1 := M1.out.2
    have lA : w.heap.size + 1 < w1.heap.size := by omega
    have lM : w.heap.size < w1.heap.size := by omega
    go_wp2_with fail
    refine (in_spec _ _ _ _).mono ?_
    rintro e w2 ⟨rfl, e2⟩
    rw [e2, h1]
    clear e2 w2
    go_wp2_with fail
    refine (listOk_spec c d bW 0 nW nW W sW _ (by omega) (fun k j h1 h2 => (B1.out.cell (p := ⟨bW, _, none⟩) lW).trans (own_row gW.out k j h1 h2))).mono ?_
    rintro e w2 ⟨rfl, hb2⟩
    rw [h2]
    clear a0 a1 a2 a3 a4 a5 m0 m1 lA lM
    have B2 := hid (bthen B1.out hb2)
    have A2 := hid (A1.out.below (by omega) hb2)
    have M2 := hid (two_bl (by omega) hb2 M1.out)
    have z2 : w.heap.size + 2 ≤ w2.heap.size := Nat.le_trans z1 hb2.size
    clear hb2 A1 M1 B1
    obtain ⟨a0, a1, a2, a3, a4, a5⟩ := A2.out.a6
    have m0 := M2.out.1
    have m1 := M2.out.2
    have lA : w.heap.size + 1 < w2.heap.size := by omega
    have lM : w.heap.size < w2.heap.size := by omega
    go_wp2_with fail
    refine (in_spec _ _ _ _).mono ?_
    rintro e w3 ⟨rfl, e3⟩
    rw [e3, h3]
    clear e3 w3
    go_wp2
    go_ret
    exact ⟨by rw [E.out]; rfl, B2.out⟩
  by_cases gO2 : ¬ nO = 2
  · have gO2' : ((nO : Int) != 2) = true := by simp; omega
    have E : Hid (cllB c d ⟨VC, nW, W, VG, nO, N, O, nX, X, nI, I⟩ = false) := by show cllB c d ⟨VC, nW, W, VG, nO, N, O, nX, X, nI, I⟩ = false; simp only [cllB]; simp [gO2]
    clear gO2
    go_enter Tryz.func41, Tryz.ntmps41
    go_wp2_with fail
    obtain ⟨w0, e0⟩ : ∃ w0, w0 = ((w.alloc (.cells #[.int .i64 c, .int .i64 d] 38)).alloc (.cells #[.int .i64 VC, .slice (some ⟨bW, 0, none⟩) nW nW, .int .i64 VG, .slice (some ⟨bO, 0, none⟩) nO nO, .slice (some ⟨bX, 0, none⟩) nX nX, .slice (some ⟨bI, 0, none⟩) nI nI] 35)) := ⟨_, rfl⟩
    have z0 : w.heap.size + 2 ≤ w0.heap.size := by rw [e0]; simp
    have B0 : Hid (Below w.heap.size w w0) := by rw [e0]; exact ((Below.refl _ _).alloc (by simp) _).alloc (by simp) _
    have A0 : Hid (Six w0 (w.heap.size + 1) [.int .i64 VC, .slice (some ⟨bW, 0, none⟩) nW nW, .int .i64 VG, .slice (some ⟨bO, 0, none⟩) nO nO, .slice (some ⟨bX, 0, none⟩) nX nX, .slice (some ⟨bI, 0, none⟩) nI nI]) := by rw [e0]; exact six_box2 w _ 38 35 _ _ _ _ _ _
    have M0 : Hid (w0.cell? ⟨w.heap.size, 0, none⟩ = some (.int .i64 c) ∧ w0.cell? ⟨w.heap.size, 1, none⟩ = some (.int .i64 d)) := by rw [e0]; exact two_box w c d _
    rw [← e0]
    clear e0
    refine (ok_spec _ _ _).mono ?_
    rintro e w1 ⟨rfl, hb1⟩
    rw [h0]
    have B1 := hid (bthen B0.out hb1)
    have A1 := hid (A0.out.below (by omega) hb1)
    have M1 := hid (two_bl (by omega) hb1 M0.out)
    have z1 : w.heap.size + 2 ≤ w1.heap.size := Nat.le_trans z0 hb1.size
    clear hb1 A0 M0 B0
    obtain ⟨a0, a1, a2, a3, a4, a5⟩ := A1.out.a6
    have m0 := M1.out.1
    have m1 := M1.out.2
    have lA : w.heap.size + 1 < w1.heap.size := by omega
    have lM : w.heap.size < w1.heap.size := by omega
    go_wp2_with fail
    refine (in_spec _ _ _ _).mono ?_
    rintro e w2 ⟨rfl, e2⟩
    rw [e2, h1]
    clear e2 w2
    go_wp2_with fail
    refine (listOk_spec c d bW 0 nW nW W sW _ (by omega) (fun k j h1 h2 => (B1.out.cell (p := ⟨bW, _, none⟩) lW).trans (own_row gW.out k j h1 h2))).mono ?_
    rintro e w2 ⟨rfl, hb2⟩
    rw [h2]
    clear a0 a1 a2 a3 a4 a5 m0 m1 lA lM
    have B2 := hid (bthen B1.out hb2)
    have A2 := hid (A1.out.below (by omega) hb2)
    have M2 := hid (two_bl (by omega) hb2 M1.out)
    have z2 : w.heap.size + 2 ≤ w2.heap.size := Nat.le_trans z1 hb2.size
    clear hb2 A1 M1 B1
    obtain ⟨a0, a1, a2, a3, a4, a5⟩ := A2.out.a6
    have m0 := M2.out.1
    have m1 := M2.out.2
    have lA : w.heap.size + 1 < w2.heap.size := by omega
    have lM : w.heap.size < w2.heap.size := by omega
    go_wp2_with fail
    refine (in_spec _ _ _ _).mono ?_
    rintro e w3 ⟨rfl, e3⟩
    rw [e3, h3]
    clear e3 w3
    go_wp2
    go_ret
    exact ⟨by rw [E.out]; rfl, B2.out⟩
  by_cases gX2 : ¬ nX = 2
  · have gX2' : ((nX : Int) != 2) = true := by simp; omega
    have E : Hid (cllB c d ⟨VC, nW, W, VG, nO, N, O, nX, X, nI, I⟩ = false) := by show cllB c d ⟨VC, nW, W, VG, nO, N, O, nX, X, nI, I⟩ = false; simp only [cllB]; simp [gX2]
    have gO2' : ((nO : Int) != 2) = false := by simp; omega
    clear gX2 gO2
    go_enter Tryz.func41, Tryz.ntmps41
    go_wp2_with fail
    obtain ⟨w0, e0⟩ : ∃ w0, w0 = ((w.alloc (.cells #[.int .i64 c, .int .i64 d] 38)).alloc (.cells #[.int .i64 VC, .slice (some ⟨bW, 0, none⟩) nW nW, .int .i64 VG, .slice (some ⟨bO, 0, none⟩) nO nO, .slice (some ⟨bX, 0, none⟩) nX nX, .slice (some ⟨bI, 0, none⟩) nI nI] 35)) := ⟨_, rfl⟩
    have z0 : w.heap.size + 2 ≤ w0.heap.size := by rw [e0]; simp
    have B0 : Hid (Below w.heap.size w w0) := by rw [e0]; exact ((Below.refl _ _).alloc (by simp) _).alloc (by simp) _
    have A0 : Hid (Six w0 (w.heap.size + 1) [.int .i64 VC, .slice (some ⟨bW, 0, none⟩) nW nW, .int .i64 VG, .slice (some ⟨bO, 0, none⟩) nO nO, .slice (some ⟨bX, 0, none⟩) nX nX, .slice (some ⟨bI, 0, none⟩) nI nI]) := by rw [e0]; exact six_box2 w _ 38 35 _ _ _ _ _ _
    have M0 : Hid (w0.cell? ⟨w.heap.size, 0, none⟩ = some (.int .i64 c) ∧ w0.cell? ⟨w.heap.size, 1, none⟩ = some (.int .i64 d)) := by rw [e0]; exact two_box w c d _
    rw [← e0]
    clear e0
    refine (ok_spec _ _ _).mono ?_
    rintro e w1 ⟨rfl, hb1⟩
    rw [h0]
    have B1 := hid (bthen B0.out hb1)
    have A1 := hid (A0.out.below (by omega) hb1)
    have M1 := hid (two_bl (by omega) hb1 M0.out)
    have z1 : w.heap.size + 2 ≤ w1.heap.size := Nat.le_trans z0 hb1.size
    clear hb1 A0 M0 B0
    obtain ⟨a0, a1, a2, a3, a4, a5⟩ := A1.out.a6
    have m0 := M1.out.1
    have m1 := M1.out.2
    have lA : w.heap.size + 1 < w1.heap.size := by omega
    have lM : w.heap.size < w1.heap.size := by omega
    go_wp2_with fail
    refine (in_spec _ _ _ _).mono ?_
    rintro e w2 ⟨rfl, e2⟩
    rw [e2, h1]
    clear e2 w2
    go_wp2_with fail
    refine (listOk_spec c d bW 0 nW nW W sW _ (by omega) (fun k j h1 h2 => (B1.out.cell (p := ⟨bW, _, none⟩) lW).trans (own_row gW.out k j h1 h2))).mono ?_
    rintro e w2 ⟨rfl, hb2⟩
    rw [h2]
    clear a0 a1 a2 a3 a4 a5 m0 m1 lA lM
    have B2 := hid (bthen B1.out hb2)
    have A2 := hid (A1.out.below (by omega) hb2)
    have M2 := hid (two_bl (by omega) hb2 M1.out)
    have z2 : w.heap.size + 2 ≤ w2.heap.size := Nat.le_trans z1 hb2.size
    clear hb2 A1 M1 B1
    obtain ⟨a0, a1, a2, a3, a4, a5⟩ := A2.out.a6
    have m0 := M2.out.1
    have m1 := M2.out.2
    have lA : w.heap.size + 1 < w2.heap.size := by omega
    have lM : w.heap.size < w2.heap.size := by omega
    go_wp2_with fail
    refine (in_spec _ _ _ _).mono ?_
    rintro e w3 ⟨rfl, e3⟩
    rw [e3, h3]
    clear e3 w3
    go_wp2
    go_ret
    exact ⟨by rw [E.out]; rfl, B2.out⟩
  by_cases gI2 : ¬ nI = 2
  · have gI2' : ((nI : Int) != 2) = true := by simp; omega
    have E : Hid (cllB c d ⟨VC, nW, W, VG, nO, N, O, nX, X, nI, I⟩ = false) := by show cllB c d ⟨VC, nW, W, VG, nO, N, O, nX, X, nI, I⟩ = false; simp only [cllB]; simp [gI2]
    have gO2' : ((nO : Int) != 2) = false := by simp; omega
    have gX2' : ((nX : Int) != 2) = false := by simp; omega
    clear gI2 gX2 gO2
    go_enter Tryz.func41, Tryz.ntmps41
    go_wp2_with fail
    obtain ⟨w0, e0⟩ : ∃ w0, w0 = ((w.alloc (.cells #[.int .i64 c, .int .i64 d] 38)).alloc (.cells #[.int .i64 VC, .slice (some ⟨bW, 0, none⟩) nW nW, .int .i64 VG, .slice (some ⟨bO, 0, none⟩) nO nO, .slice (some ⟨bX, 0, none⟩) nX nX, .slice (some ⟨bI, 0, none⟩) nI nI] 35)) := ⟨_, rfl⟩
    have z0 : w.heap.size + 2 ≤ w0.heap.size := by rw [e0]; simp
    have B0 : Hid (Below w.heap.size w w0) := by rw [e0]; exact ((Below.refl _ _).alloc (by simp) _).alloc (by simp) _
    have A0 : Hid (Six w0 (w.heap.size + 1) [.int .i64 VC, .slice (some ⟨bW, 0, none⟩) nW nW, .int .i64 VG, .slice (some ⟨bO, 0, none⟩) nO nO, .slice (some ⟨bX, 0, none⟩) nX nX, .slice (some ⟨bI, 0, none⟩) nI nI]) := by rw [e0]; exact six_box2 w _ 38 35 _ _ _ _ _ _
    have M0 : Hid (w0.cell? ⟨w.heap.size, 0, none⟩ = some (.int .i64 c) ∧ w0.cell? ⟨w.heap.size, 1, none⟩ = some (.int .i64 d)) := by rw [e0]; exact two_box w c d _
    rw [← e0]
    clear e0
    refine (ok_spec _ _ _).mono ?_
    rintro e w1 ⟨rfl, hb1⟩
    rw [h0]
    have B1 := hid (bthen B0.out hb1)
    have A1 := hid (A0.out.below (by omega) hb1)
    have M1 := hid (two_bl (by omega) hb1 M0.out)
    have z1 : w.heap.size + 2 ≤ w1.heap.size := Nat.le_trans z0 hb1.size
    clear hb1 A0 M0 B0
    obtain ⟨a0, a1, a2, a3, a4, a5⟩ := A1.out.a6
    have m0 := M1.out.1
    have m1 := M1.out.2
    have lA : w.heap.size + 1 < w1.heap.size := by omega
    have lM : w.heap.size < w1.heap.size := by omega
    go_wp2_with fail
    refine (in_spec _ _ _ _).mono ?_
    rintro e w2 ⟨rfl, e2⟩
    rw [e2, h1]
    clear e2 w2
    go_wp2_with fail
    refine (listOk_spec c d bW 0 nW nW W sW _ (by omega) (fun k j h1 h2 => (B1.out.cell (p := ⟨bW, _, none⟩) lW).trans (own_row gW.out k j h1 h2))).mono ?_
    rintro e w2 ⟨rfl, hb2⟩
    rw [h2]
    clear a0 a1 a2 a3 a4 a5 m0 m1 lA lM
    have B2 := hid (bthen B1.out hb2)
    have A2 := hid (A1.out.below (by omega) hb2)
    have M2 := hid (two_bl (by omega) hb2 M1.out)
    have z2 : w.heap.size + 2 ≤ w2.heap.size := Nat.le_trans z1 hb2.size
    clear hb2 A1 M1 B1
    obtain ⟨a0, a1, a2, a3, a4, a5⟩ := A2.out.a6
    have m0 := M2.out.1
    have m1 := M2.out.2
    have lA : w.heap.size + 1 < w2.heap.size := by omega
    have lM : w.heap.size < w2.heap.size := by omega
    go_wp2_with fail
    refine (in_spec _ _ _ _).mono ?_
    rintro e w3 ⟨rfl, e3⟩
    rw [e3, h3]
    clear e3 w3
    go_wp2
    go_ret
    exact ⟨by rw [E.out]; rfl, B2.out⟩
  obtain rfl : nO = 2 := by omega
  obtain rfl : nX = 2 := by omega
  obtain rfl : nI = 2 := by omega
  clear gO2 gX2 gI2
  have EL : Hid (cllB c d ⟨VC, nW, W, VG, 2, N, O, 2, X, 2, I⟩ = (allK (fun k => !(cellF c d (W k 1) != VC)) nW && (sideK c d VC 0 (N 0) (O 0) (X 0) (I 0) && sideK c d VC 1 (N 1) (O 1) (X 1) (I 1)))) := by
    show cllB c d ⟨VC, nW, W, VG, 2, N, O, 2, X, 2, I⟩ = _
    simp only [cllB]
    rw [h01, h2, h3]; rfl
  have ES : Hid (allK (fun k => !(cellF c d (W k 1) != VC)) nW = false → cllB c d ⟨VC, nW, W, VG, 2, N, O, 2, X, 2, I⟩ = false) := fun h => by rw [EL.out, h]; rfl
  go_enter Tryz.func41, Tryz.ntmps41
  go_wp2_with fail
  obtain ⟨w0, e0⟩ : ∃ w0, w0 = ((w.alloc (.cells #[.int .i64 c, .int .i64 d] 38)).alloc (.cells #[.int .i64 VC, .slice (some ⟨bW, 0, none⟩) nW nW, .int .i64 VG, .slice (some ⟨bO, 0, none⟩) 2 2, .slice (some ⟨bX, 0, none⟩) 2 2, .slice (some ⟨bI, 0, none⟩) 2 2] 35)) := ⟨_, rfl⟩
  have z0 : w.heap.size + 2 ≤ w0.heap.size := by rw [e0]; simp
  have B0 : Hid (Below w.heap.size w w0) := by rw [e0]; exact ((Below.refl _ _).alloc (by simp) _).alloc (by simp) _
  have A0 : Hid (Six w0 (w.heap.size + 1) [.int .i64 VC, .slice (some ⟨bW, 0, none⟩) nW nW, .int .i64 VG, .slice (some ⟨bO, 0, none⟩) 2 2, .slice (some ⟨bX, 0, none⟩) 2 2, .slice (some ⟨bI, 0, none⟩) 2 2]) := by rw [e0]; exact six_box2 w _ 38 35 _ _ _ _ _ _
  have M0 : Hid (w0.cell? ⟨w.heap.size, 0, none⟩ = some (.int .i64 c) ∧ w0.cell? ⟨w.heap.size, 1, none⟩ = some (.int .i64 d)) := by rw [e0]; exact two_box w c d _
  rw [← e0]
  clear e0
  refine (ok_spec _ _ _).mono ?_
  rintro e w1 ⟨rfl, hb1⟩
  rw [h0]
  have B1 := hid (bthen B0.out hb1)
  have A1 := hid (A0.out.below (by omega) hb1)
  have M1 := hid (two_bl (by omega) hb1 M0.out)
  have z1 : w.heap.size + 2 ≤ w1.heap.size := Nat.le_trans z0 hb1.size
  clear hb1 A0 M0 B0
  obtain ⟨a0, a1, a2, a3, a4, a5⟩ := A1.out.a6
  have m0 := M1.out.1
  have m1 := M1.out.2
  have lA : w.heap.size + 1 < w1.heap.size := by omega
  have lM : w.heap.size < w1.heap.size := by omega
  go_wp2_with fail
  refine (in_spec _ _ _ _).mono ?_
  rintro e w2 ⟨rfl, e2⟩
  rw [e2, h1]
  clear e2 w2
  go_wp2_with fail
  refine (listOk_spec c d bW 0 nW nW W sW _ (by omega) (fun k j h1 h2 => (B1.out.cell (p := ⟨bW, _, none⟩) lW).trans (own_row gW.out k j h1 h2))).mono ?_
  rintro e w2 ⟨rfl, hb2⟩
  rw [h2]
  clear a0 a1 a2 a3 a4 a5 m0 m1 lA lM
  have B2 := hid (bthen B1.out hb2)
  have A2 := hid (A1.out.below (by omega) hb2)
  have M2 := hid (two_bl (by omega) hb2 M1.out)
  have z2 : w.heap.size + 2 ≤ w2.heap.size := Nat.le_trans z1 hb2.size
  clear hb2 A1 M1 B1
  obtain ⟨a0, a1, a2, a3, a4, a5⟩ := A2.out.a6
  have m0 := M2.out.1
  have m1 := M2.out.2
  have lA : w.heap.size + 1 < w2.heap.size := by omega
  have lM : w.heap.size < w2.heap.size := by omega
  go_wp2_with fail
  refine (in_spec _ _ _ _).mono ?_
  rintro e w3 ⟨rfl, e3⟩
  rw [e3, h3]
  clear e3 w3
  go_wp2
  go_loopw [5] (fun i wr => ∃ k : Nat, k ≤ nW ∧ i = .int .i64 k ∧ allK (fun k => !(cellF c d (W k 1) != VC)) k = true ∧ Below w2.heap.size w2 wr) (fun i _ => nW - (intOf i).toNat)
  case atStart => exact ⟨0, Nat.zero_le _, rfl, rfl, Below.refl _ _⟩
  case round =>
    clear a0 a1 a2 a3 a4 a5 m0 m1 lA lM
    obtain ⟨k, hk, rfl, hall, BR⟩ := hrel
    have HALL : Hid (allK (fun k => !(cellF c d (W k 1) != VC)) k = true) := hall
    clear hall
    have hl3 := BR.size
    have lA : w.heap.size + 1 < wr.heap.size := by omega
    have lM : w.heap.size < wr.heap.size := by omega
    have lW' : bW < wr.heap.size := by omega
    have a0 : wr.cell? ⟨w.heap.size + 1, 0, none⟩ = some (.int .i64 VC) := (BR.cell (p := ⟨w.heap.size + 1, 0, none⟩) (by show w.heap.size + 1 < _; omega)).trans (A2.out 0 (by decide)).1
    have a1 : wr.cell? ⟨w.heap.size + 1, 1, none⟩ = some (.slice (some ⟨bW, 0, none⟩) nW nW) := (BR.cell (p := ⟨w.heap.size + 1, 1, none⟩) (by show w.heap.size + 1 < _; omega)).trans (A2.out 1 (by decide)).1
    have a2 : wr.cell? ⟨w.heap.size + 1, 2, none⟩ = some (.int .i64 VG) := (BR.cell (p := ⟨w.heap.size + 1, 2, none⟩) (by show w.heap.size + 1 < _; omega)).trans (A2.out 2 (by decide)).1
    have a3 : wr.cell? ⟨w.heap.size + 1, 3, none⟩ = some (.slice (some ⟨bO, 0, none⟩) 2 2) := (BR.cell (p := ⟨w.heap.size + 1, 3, none⟩) (by show w.heap.size + 1 < _; omega)).trans (A2.out 3 (by decide)).1
    have a4 : wr.cell? ⟨w.heap.size + 1, 4, none⟩ = some (.slice (some ⟨bX, 0, none⟩) 2 2) := (BR.cell (p := ⟨w.heap.size + 1, 4, none⟩) (by show w.heap.size + 1 < _; omega)).trans (A2.out 4 (by decide)).1
    have a5 : wr.cell? ⟨w.heap.size + 1, 5, none⟩ = some (.slice (some ⟨bI, 0, none⟩) 2 2) := (BR.cell (p := ⟨w.heap.size + 1, 5, none⟩) (by show w.heap.size + 1 < _; omega)).trans (A2.out 5 (by decide)).1
    have m0 : wr.cell? ⟨w.heap.size, 0, none⟩ = some (.int .i64 c) := (BR.cell (p := ⟨w.heap.size, 0, none⟩) (by show w.heap.size < _; omega)).trans M2.out.1
    have m1 : wr.cell? ⟨w.heap.size, 1, none⟩ = some (.int .i64 d) := (BR.cell (p := ⟨w.heap.size, 1, none⟩) (by show w.heap.size < _; omega)).trans M2.out.2
    by_cases hkn : k < nW
    · have hkn' : (k : Int) < nW := by omega
      have c0 : wr.cell? ⟨bW, k * 5, none⟩ = some (.int .i64 (W k 0)) := by have := (BR.cell (p := ⟨bW, 0 + k * 5 + 0, none⟩) (by show bW < _; omega)).trans ((B2.out.cell (p := ⟨bW, 0 + k * 5 + 0, none⟩) lW).trans (own_row gW.out k 0 hkn (by omega))); simpa using this
      have c1 : wr.cell? ⟨bW, k * 5 + 1, none⟩ = some (.int .i64 (W k 1)) := by have := (BR.cell (p := ⟨bW, 0 + k * 5 + 1, none⟩) (by show bW < _; omega)).trans ((B2.out.cell (p := ⟨bW, 0 + k * 5 + 1, none⟩) lW).trans (own_row gW.out k 1 hkn (by omega))); simpa using this
      have c2 : wr.cell? ⟨bW, k * 5 + 2, none⟩ = some (.int .i64 (W k 2)) := by have := (BR.cell (p := ⟨bW, 0 + k * 5 + 2, none⟩) (by show bW < _; omega)).trans ((B2.out.cell (p := ⟨bW, 0 + k * 5 + 2, none⟩) lW).trans (own_row gW.out k 2 hkn (by omega))); simpa using this
      have c3 : wr.cell? ⟨bW, k * 5 + 3, none⟩ = some (.int .i64 (W k 3)) := by have := (BR.cell (p := ⟨bW, 0 + k * 5 + 3, none⟩) (by show bW < _; omega)).trans ((B2.out.cell (p := ⟨bW, 0 + k * 5 + 3, none⟩) lW).trans (own_row gW.out k 3 hkn (by omega))); simpa using this
      have c4 : wr.cell? ⟨bW, k * 5 + 4, none⟩ = some (.int .i64 (W k 4)) := by have := (BR.cell (p := ⟨bW, 0 + k * 5 + 4, none⟩) (by show bW < _; omega)).trans ((B2.out.cell (p := ⟨bW, 0 + k * 5 + 4, none⟩) lW).trans (own_row gW.out k 4 hkn (by omega))); simpa using this
      cases hp : (cellF c d (W k 1) != VC)
      · go_wp2
        refine wp_region_held_drew (S := fun w' => (∀ b o, b < wr.heap.size → w'.cell? ⟨b, o, none⟩ = wr.cell? ⟨b, o, none⟩) ∧ wr.heap.size ≤ w'.heap.size) (by kernel_rfl) ⟨fun _ _ _ => rfl, Nat.le_refl _⟩ ?_
        intro hHeld
        refine tkl 0 (.agg #[.int .i64 c, .int .i64 d]) rfl ?_ ?_
        · intro wx hSw; go_simp
        try simp only [Act.put, aS]
        refine tkl 1 (.pointer (some ⟨w.heap.size + 1, 1, none⟩)) rfl ?_ ?_
        · intro wx hSw; go_simp
        try simp only [Act.put, aS]
        refine tkl 2 (.slice (some ⟨bW, 0, none⟩) nW nW) rfl ?_ ?_
        · intro wx hSw; go_simp
        try simp only [Act.put, aS]
        refine tkl 3 (.int .i64 (k : Int)) rfl ?_ ?_
        · intro wx hSw; go_simp
        try simp only [Act.put, aS]
        refine tkl 4 (.pointer (some ⟨bW, k * 5, none⟩)) rfl ?_ ?_
        · intro wx hSw; go_simp
        try simp only [Act.put, aS]
        refine tkl 5 (.pointer (some ⟨bW, k * 5 + 1, none⟩)) rfl ?_ ?_
        · intro wx hSw; go_simp
        try simp only [Act.put, aS]
        refine tkl 6 (.int .i64 (W k 1)) rfl ?_ ?_
        · intro wx hSw; go_simp
        try simp only [Act.put, aS]
        refine tkl 8 (.pointer (some ⟨w.heap.size + 1, 0, none⟩)) rfl ?_ ?_
        · intro wx hSw; go_simp
        try simp only [Act.put, aS]
        refine tkl 9 (.int .i64 VC) rfl ?_ ?_
        · intro wx hSw; go_simp
        try simp only [Act.put, aS]
        refine rd1 7 rfl fun K hK => ?_
        go_simp
        go_wp2_with (go_at_call 78; refine (cell_spec _ _ _ _).mono ?_; rintro e v2 ⟨rfl, hbv2⟩)
        refine hK.out _ _ (keepS (by assumption) hbv2) (fun hHeld => ?_)
        clear hK K
        try simp only [Act.put, aS]
        refine tkl 10 (.bool false) rfl ?_ ?_
        · intro wx hSw; go_simp
        try simp only [Act.put, aS]
        refine wpAnyH_done (by kernel_rfl) ?_ _
        go_wp2
        go_roundw
        case rel => exact ⟨k + 1, by omega, by go_num, allK_step HALL.out (by simp [hp]), by repeat (first | exact BR | refine bthen ?_ (by assumption) | apply Below.drew)⟩
        case measure => simp [intOf]; omega
      · have EG : allK (fun k => !(cellF c d (W k 1) != VC)) nW = false := allK_stop hkn (by simp [hp])
        go_wp2
        refine wp_region_held_drew (S := fun w' => (∀ b o, b < wr.heap.size → w'.cell? ⟨b, o, none⟩ = wr.cell? ⟨b, o, none⟩) ∧ wr.heap.size ≤ w'.heap.size) (by kernel_rfl) ⟨fun _ _ _ => rfl, Nat.le_refl _⟩ ?_
        intro hHeld
        refine tkl 0 (.agg #[.int .i64 c, .int .i64 d]) rfl ?_ ?_
        · intro wx hSw; go_simp
        try simp only [Act.put, aS]
        refine tkl 1 (.pointer (some ⟨w.heap.size + 1, 1, none⟩)) rfl ?_ ?_
        · intro wx hSw; go_simp
        try simp only [Act.put, aS]
        refine tkl 2 (.slice (some ⟨bW, 0, none⟩) nW nW) rfl ?_ ?_
        · intro wx hSw; go_simp
        try simp only [Act.put, aS]
        refine tkl 3 (.int .i64 (k : Int)) rfl ?_ ?_
        · intro wx hSw; go_simp
        try simp only [Act.put, aS]
        refine tkl 4 (.pointer (some ⟨bW, k * 5, none⟩)) rfl ?_ ?_
        · intro wx hSw; go_simp
        try simp only [Act.put, aS]
        refine tkl 5 (.pointer (some ⟨bW, k * 5 + 1, none⟩)) rfl ?_ ?_
        · intro wx hSw; go_simp
        try simp only [Act.put, aS]
        refine tkl 6 (.int .i64 (W k 1)) rfl ?_ ?_
        · intro wx hSw; go_simp
        try simp only [Act.put, aS]
        refine tkl 8 (.pointer (some ⟨w.heap.size + 1, 0, none⟩)) rfl ?_ ?_
        · intro wx hSw; go_simp
        try simp only [Act.put, aS]
        refine tkl 9 (.int .i64 VC) rfl ?_ ?_
        · intro wx hSw; go_simp
        try simp only [Act.put, aS]
        refine rd1 7 rfl fun K hK => ?_
        go_simp
        go_wp2_with (go_at_call 78; refine (cell_spec _ _ _ _).mono ?_; rintro e v2 ⟨rfl, hbv2⟩)
        refine hK.out _ _ (keepS (by assumption) hbv2) (fun hHeld => ?_)
        clear hK K
        try simp only [Act.put, aS]
        refine tkl 10 (.bool true) rfl ?_ ?_
        · intro wx hSw; go_simp
        try simp only [Act.put, aS]
        refine wpAnyH_done (by kernel_rfl) ?_ _
        go_wp2
        go_ret
        exact ⟨by rw [ES.out EG]; rfl, bthen B2.out (by repeat (first | exact BR | refine bthen ?_ (by assumption) | apply Below.drew))⟩
    · have : k = nW := by omega
      subst this
      have B3 := hid (bthen B2.out BR)
      have A3 : Hid (Six wr (w.heap.size + 1) [.int .i64 VC, .slice (some ⟨bW, 0, none⟩) k k, .int .i64 VG, .slice (some ⟨bO, 0, none⟩) 2 2, .slice (some ⟨bX, 0, none⟩) 2 2, .slice (some ⟨bI, 0, none⟩) 2 2]) := A2.out.below (by omega) BR
      have M3 : Hid (wr.cell? ⟨w.heap.size, 0, none⟩ = some (.int .i64 c) ∧ wr.cell? ⟨w.heap.size, 1, none⟩ = some (.int .i64 d)) := ⟨m0, m1⟩
      have z3 : w.heap.size + 2 ≤ wr.heap.size := by omega
      clear BR A2 M2 B2
      cases h4 : sideK c d VC 0 (N 0) (O 0) (X 0) (I 0)
      · go_wp2_with fail
        obtain ⟨g, fg, fO, fX, fI, fr⟩ := side_facts (ownO_below gO.out lO B3.out) (own1_below gX.out lX B3.out) (own1_below gI.out lI B3.out) 0 (by decide)
        refine (side_spec c d VC VG _ bO bX bI 2 2 2 0 g (N 0) (N 0) (O 0) (X 0) (I 0) 0 (.inl ⟨rfl, rfl⟩) (HN.out 0 (by decide)) _ (by omega) (by omega) (by omega) fg fO fX fI fr).mono ?_
        rintro e w4 ⟨rfl, hb4⟩
        clear g fg fO fX fI fr
        rw [h4]
        clear a0 a1 a2 a3 a4 a5 m0 m1 lA lM
        have B4 := hid (bthen B3.out hb4)
        have A4 := hid (A3.out.below (by omega) hb4)
        have M4 := hid (two_bl (by omega) hb4 M3.out)
        have z4 : w.heap.size + 2 ≤ w4.heap.size := Nat.le_trans z3 hb4.size
        clear hb4 A3 M3 B3
        obtain ⟨a0, a1, a2, a3, a4, a5⟩ := A4.out.a6
        have m0 := M4.out.1
        have m1 := M4.out.2
        have lA : w.heap.size + 1 < w4.heap.size := by omega
        have lM : w.heap.size < w4.heap.size := by omega
        go_wp2
        go_ret
        exact ⟨by rw [EL.out, HALL.out, h4]; rfl, B4.out⟩
      · cases h5 : sideK c d VC 1 (N 1) (O 1) (X 1) (I 1)
        all_goals
          go_wp2_with fail
          obtain ⟨g, fg, fO, fX, fI, fr⟩ := side_facts (ownO_below gO.out lO B3.out) (own1_below gX.out lX B3.out) (own1_below gI.out lI B3.out) 0 (by decide)
          refine (side_spec c d VC VG _ bO bX bI 2 2 2 0 g (N 0) (N 0) (O 0) (X 0) (I 0) 0 (.inl ⟨rfl, rfl⟩) (HN.out 0 (by decide)) _ (by omega) (by omega) (by omega) fg fO fX fI fr).mono ?_
          rintro e w4 ⟨rfl, hb4⟩
          clear g fg fO fX fI fr
          rw [h4]
          clear a0 a1 a2 a3 a4 a5 m0 m1 lA lM
          have B4 := hid (bthen B3.out hb4)
          have A4 := hid (A3.out.below (by omega) hb4)
          have M4 := hid (two_bl (by omega) hb4 M3.out)
          have z4 : w.heap.size + 2 ≤ w4.heap.size := Nat.le_trans z3 hb4.size
          clear hb4 A3 M3 B3
          obtain ⟨a0, a1, a2, a3, a4, a5⟩ := A4.out.a6
          have m0 := M4.out.1
          have m1 := M4.out.2
          have lA : w.heap.size + 1 < w4.heap.size := by omega
          have lM : w.heap.size < w4.heap.size := by omega
          go_wp2_with fail
          obtain ⟨g, fg, fO, fX, fI, fr⟩ := side_facts (ownO_below gO.out lO B4.out) (own1_below gX.out lX B4.out) (own1_below gI.out lI B4.out) 1 (by decide)
          refine (side_spec c d VC VG _ bO bX bI 2 2 2 1 g (N 1) (N 1) (O 1) (X 1) (I 1) 1 (.inr ⟨rfl, rfl⟩) (HN.out 1 (by decide)) _ (by omega) (by omega) (by omega) fg fO fX fI fr).mono ?_
          rintro e w5 ⟨rfl, hb5⟩
          clear g fg fO fX fI fr
          rw [h5]
          clear a0 a1 a2 a3 a4 a5 m0 m1 lA lM
          have B5 := hid (bthen B4.out hb5)
          have A5 := hid (A4.out.below (by omega) hb5)
          have M5 := hid (two_bl (by omega) hb5 M4.out)
          have z5 : w.heap.size + 2 ≤ w5.heap.size := Nat.le_trans z4 hb5.size
          clear hb5 A4 M4 B4
          go_wp2
          go_ret
          exact ⟨by rw [EL.out, HALL.out, h4, h5]; rfl, B5.out⟩
end Go.Proofs.YthbkjfkkdaheoaaGreatDoor
