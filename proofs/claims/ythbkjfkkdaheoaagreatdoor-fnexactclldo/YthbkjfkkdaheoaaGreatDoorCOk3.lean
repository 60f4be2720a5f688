/- The walk of what a cell has for a side, the model's; conditions: it lies in memory. -/
import Derived.Test.YthbkjfkkdaheoaaGreatDoorTk
import Derived.Test.YthbkjfkkdaheoaaGreatDoorCOk2
namespace Go.Proofs.YthbkjfkkdaheoaaGreatDoor
open Go.RowKit Go.Deep
set_option linter.unusedVariables false
theorem in_specB (n lo hi : Int) (w : World) : Calls Tryz.prog 69 #[.int .i64 n, .int .i64 lo, .int .i64 hi] w fun e w' => e = .returned (.bool (inB n lo hi)) ∧ Below w.heap.size w w' := by
  refine (in_spec n lo hi w).mono ?_
  rintro e w' ⟨rfl, rfl⟩
  exact ⟨rfl, Below.refl _ _⟩
theorem six_box2 (w : World) (cs : Array Value) (t0 t : TypeId) (v0 v1 v2 v3 v4 v5 : Value) : Six ((w.alloc (.cells cs t0)).alloc (.cells #[v0, v1, v2, v3, v4, v5] t)) (w.heap.size + 1) [v0, v1, v2, v3, v4, v5] := by
  have h := six_new (w.alloc (.cells cs t0)) t v0 v1 v2 v3 v4 v5
  rw [show (w.alloc (.cells cs t0)).heap.size = w.heap.size + 1 by simp] at h
  exact h
theorem two_box (w : World) (c d : Int) (o : Obj) : ((w.alloc (.cells #[.int .i64 c, .int .i64 d] 38)).alloc o).cell? ⟨w.heap.size, 0, none⟩ = some (.int .i64 c) ∧ ((w.alloc (.cells #[.int .i64 c, .int .i64 d] 38)).alloc o).cell? ⟨w.heap.size, 1, none⟩ = some (.int .i64 d) := by
  have k : Below (w.heap.size + 1) (w.alloc (.cells #[.int .i64 c, .int .i64 d] 38)) ((w.alloc (.cells #[.int .i64 c, .int .i64 d] 38)).alloc o) := (Below.refl _ _).alloc (by simp) _
  exact ⟨(k.cell (p := ⟨w.heap.size, 0, none⟩) (Nat.lt_succ_self _)).trans (by simp), (k.cell (p := ⟨w.heap.size, 1, none⟩) (Nat.lt_succ_self _)).trans (by simp)⟩
set_option maxRecDepth 20000 in
set_option maxHeartbeats 8000000 in
theorem side_spec (c d VC VG : Int) (x1 : Value) (bO bX bI kO kX kI : Nat) (s g N cc : Nat) (Z : Nat → Nat → Int) (xn xi si : Int) (hs : (s = 0 ∧ si = 0) ∨ (s = 1 ∧ si = 1)) (hN : N ≤ 1048576) (w : World)
    (lO : bO < w.heap.size) (lX : bX < w.heap.size) (lI : bI < w.heap.size) (lg : g < w.heap.size)
    (hO : w.cell? ⟨bO, s, none⟩ = some (.slice (some ⟨g, 0, none⟩) N cc)) (hX : w.cell? ⟨bX, s, none⟩ = some (.int .i64 xn)) (hI : w.cell? ⟨bI, s, none⟩ = some (.int .i64 xi))
    (hr : ∀ k j, k < N → j < 8 → w.cell? ⟨g, 0 + k * 8 + j, none⟩ = some (.int .i64 (Z k j))) :
    Calls Tryz.prog 79 #[.agg #[.int .i64 c, .int .i64 d], .agg #[.int .i64 VC, x1, .int .i64 VG, .slice (some ⟨bO, 0, none⟩) 2 kO, .slice (some ⟨bX, 0, none⟩) 2 kX, .slice (some ⟨bI, 0, none⟩) 2 kI], .int .i64 si] w fun e w' => e = .returned (.bool (sideK c d VC si N Z xn xi)) ∧ Below w.heap.size w w' := by
  have HR : Hid (∀ k j, k < N → j < 8 → w.cell? ⟨g, 0 + k * 8 + j, none⟩ = some (.int .i64 (Z k j))) := hr
  have hO0 : Hid (w.cell? ⟨bO, s, none⟩ = some (.slice (some ⟨g, 0, none⟩) N cc)) := hO
  have hX0 : Hid (w.cell? ⟨bX, s, none⟩ = some (.int .i64 xn)) := hX
  have hI0 : Hid (w.cell? ⟨bI, s, none⟩ = some (.int .i64 xi)) := hI
  clear hr hO hX hI
  rcases hs with ⟨rfl, rfl⟩ | ⟨rfl, rfl⟩
  · have E : Hid (sideK c d VC 0 N Z xn xi = (P8.listP c d xn N Z && (inB xi 0 5000 && (if sideF c d VC 0 = -1 then (xn == 0 && xi == 0) else allK (fun j => !(Z j 1 == 1 && cellF c d (Z j 3) != sideF c d VC 0)) N)))) := rfl
    cases h1 : P8.listP c d xn N Z
    · rw [h1] at E
      go_enter Tryz.func79, Tryz.ntmps79
      go_wp2_with fail
      obtain ⟨w0, e0⟩ : ∃ w0, w0 = ((w.alloc (.cells #[.int .i64 c, .int .i64 d] 38)).alloc (.cells #[.int .i64 VC, x1, .int .i64 VG, .slice (some ⟨bO, 0, none⟩) 2 kO, .slice (some ⟨bX, 0, none⟩) 2 kX, .slice (some ⟨bI, 0, none⟩) 2 kI] 35)) := ⟨_, rfl⟩
      have z0 : w.heap.size + 2 ≤ w0.heap.size := by rw [e0]; simp
      have B0 : Hid (Below w.heap.size w w0) := by rw [e0]; exact ((Below.refl _ _).alloc (by simp) _).alloc (by simp) _
      have A0 : Hid (Six w0 (w.heap.size + 1) [.int .i64 VC, x1, .int .i64 VG, .slice (some ⟨bO, 0, none⟩) 2 kO, .slice (some ⟨bX, 0, none⟩) 2 kX, .slice (some ⟨bI, 0, none⟩) 2 kI]) := by rw [e0]; exact six_box2 w _ 38 35 _ _ _ _ _ _
      have M0 : Hid (w0.cell? ⟨w.heap.size, 0, none⟩ = some (.int .i64 c) ∧ w0.cell? ⟨w.heap.size, 1, none⟩ = some (.int .i64 d)) := by rw [e0]; exact two_box w c d _
      rw [← e0]
      clear e0
      refine (plcSide_spec _ _ _ _ _).mono ?_
      rintro e w1 ⟨rfl, hb1⟩
      have B1 := hid (bthen B0.out hb1)
      have A1 := hid (A0.out.below (by omega) hb1)
      have M1 := hid (two_bl (by omega) hb1 M0.out)
      have z1 : w.heap.size + 2 ≤ w1.heap.size := Nat.le_trans z0 hb1.size
      clear hb1 A0 M0 B0
      obtain ⟨a0, a1, a2, a3, a4, a5⟩ := A1.out.a6
      have m0 := M1.out.1
      have m1 := M1.out.2
      have lA : w.heap.size + 1 < w1.heap.size := by omega
      have lM : w.heap.size < w1.heap.size := by omega
      have lbO : bO < w1.heap.size := by omega
      have lbX : bX < w1.heap.size := by omega
      have lbI : bI < w1.heap.size := by omega
      have hX : w1.cell? ⟨bX, 0, none⟩ = some (.int .i64 xn) := (B1.out.cell (p := ⟨bX, _, none⟩) lX).trans hX0.out
      have hI : w1.cell? ⟨bI, 0, none⟩ = some (.int .i64 xi) := (B1.out.cell (p := ⟨bI, _, none⟩) lI).trans hI0.out
      have hO : w1.cell? ⟨bO, 0, none⟩ = some (.slice (some ⟨g, 0, none⟩) N cc) := (B1.out.cell (p := ⟨bO, _, none⟩) lO).trans hO0.out
      have ROWS : Hid (∀ k j, k < N → j < 8 → w1.drew.cell? ⟨g, 0 + k * 8 + j, none⟩ = some (.int .i64 (Z k j))) := fun k j a1 a2 => (B1.out.cell (p := ⟨g, _, none⟩) lg).trans (HR.out k j a1 a2)
      have lg1 : g < w1.drew.heap.size := by show g < w1.heap.size; omega
      generalize hT : sideF c d VC 0 = T at *
      go_wp2
      refine wp_region_held_drew (S := fun w' => (∀ b o, b < w1.heap.size → w'.cell? ⟨b, o, none⟩ = w1.cell? ⟨b, o, none⟩) ∧ w1.heap.size ≤ w'.heap.size) (by kernel_rfl) ⟨fun _ _ _ => rfl, Nat.le_refl _⟩ ?_
      intro hHeld
      refine tkl 0 (.agg #[.int .i64 c, .int .i64 d]) rfl ?_ ?_
      · intro wx hSw; go_simp
      try simp only [Act.put, aS]
      refine tkl 1 (.pointer (some ⟨w.heap.size + 1, 3, none⟩)) rfl ?_ ?_
      · intro wx hSw; go_simp
      try simp only [Act.put, aS]
      refine tkl 2 (.slice (some ⟨bO, 0, none⟩) 2 kO) rfl ?_ ?_
      · intro wx hSw; go_simp
      try simp only [Act.put, aS]
      refine tkl 3 (.int .i64 0) rfl ?_ ?_
      · intro wx hSw; go_simp
      try simp only [Act.put, aS]
      refine tkl 4 (.pointer (some ⟨bO, 0, none⟩)) rfl ?_ ?_
      · intro wx hSw; go_simp
      try simp only [Act.put, aS]
      refine tkl 5 (.slice (some ⟨g, 0, none⟩) N cc) rfl ?_ ?_
      · intro wx hSw; go_simp
      try simp only [Act.put, aS]
      refine tkl 6 (.pointer (some ⟨w.heap.size + 1, 4, none⟩)) rfl ?_ ?_
      · intro wx hSw; go_simp
      try simp only [Act.put, aS]
      refine tkl 7 (.slice (some ⟨bX, 0, none⟩) 2 kX) rfl ?_ ?_
      · intro wx hSw; go_simp
      try simp only [Act.put, aS]
      refine tkl 8 (.int .i64 0) rfl ?_ ?_
      · intro wx hSw; go_simp
      try simp only [Act.put, aS]
      refine tkl 9 (.pointer (some ⟨bX, 0, none⟩)) rfl ?_ ?_
      · intro wx hSw; go_simp
      try simp only [Act.put, aS]
      refine tkl 10 (.int .i64 xn) rfl ?_ ?_
      · intro wx hSw; go_simp
      try simp only [Act.put, aS]
      refine rd1 11 rfl fun K hK => ?_
      go_simp
      go_wp2_with (go_at_call 118; refine (P8.plist_spec c d xn g 0 N cc Z hN _ lg1 ROWS.out).mono ?_; rintro e w2 ⟨rfl, hbw2⟩; rw [h1])
      refine hK.out _ _ (keepS (by assumption) hbw2) (fun hHeld => ?_)
      clear hK K
      try simp only [Act.put, aS]
      refine tkl 12 (.bool true) rfl ?_ ?_
      · intro wx hSw; go_simp
      try simp only [Act.put, aS]
      refine tkl 13 (.bool true) rfl ?_ ?_
      · intro wx hSw; go_simp
      try simp only [Act.put, aS]
      refine tkr 14 rfl ?_
      try simp only [Act.put, aS]
      refine tkr 15 rfl ?_
      try simp only [Act.put, aS]
      refine tkr 16 rfl ?_
      try simp only [Act.put, aS]
      refine tkr 17 rfl ?_
      try simp only [Act.put, aS]
      refine tkr 18 rfl ?_
      try simp only [Act.put, aS]
      refine tkr 19 rfl ?_
      try simp only [Act.put, aS]
      refine tkr 20 rfl ?_
      try simp only [Act.put, aS]
      refine tkl 21 (.bool true) rfl ?_ ?_
      · intro wx hSw; go_simp
      try simp only [Act.put, aS]
      refine wpAnyH_done (by kernel_rfl) ?_ _
      go_wp2
      go_ret
      exact ⟨by rw [E.out]; rfl, bthen B1.out (bthen ((Below.refl _ _).drew) hbw2)⟩
    cases h2 : inB xi 0 5000
    · rw [h1, h2] at E
      go_enter Tryz.func79, Tryz.ntmps79
      go_wp2_with fail
      obtain ⟨w0, e0⟩ : ∃ w0, w0 = ((w.alloc (.cells #[.int .i64 c, .int .i64 d] 38)).alloc (.cells #[.int .i64 VC, x1, .int .i64 VG, .slice (some ⟨bO, 0, none⟩) 2 kO, .slice (some ⟨bX, 0, none⟩) 2 kX, .slice (some ⟨bI, 0, none⟩) 2 kI] 35)) := ⟨_, rfl⟩
      have z0 : w.heap.size + 2 ≤ w0.heap.size := by rw [e0]; simp
      have B0 : Hid (Below w.heap.size w w0) := by rw [e0]; exact ((Below.refl _ _).alloc (by simp) _).alloc (by simp) _
      have A0 : Hid (Six w0 (w.heap.size + 1) [.int .i64 VC, x1, .int .i64 VG, .slice (some ⟨bO, 0, none⟩) 2 kO, .slice (some ⟨bX, 0, none⟩) 2 kX, .slice (some ⟨bI, 0, none⟩) 2 kI]) := by rw [e0]; exact six_box2 w _ 38 35 _ _ _ _ _ _
      have M0 : Hid (w0.cell? ⟨w.heap.size, 0, none⟩ = some (.int .i64 c) ∧ w0.cell? ⟨w.heap.size, 1, none⟩ = some (.int .i64 d)) := by rw [e0]; exact two_box w c d _
      rw [← e0]
      clear e0
      refine (plcSide_spec _ _ _ _ _).mono ?_
      rintro e w1 ⟨rfl, hb1⟩
      have B1 := hid (bthen B0.out hb1)
      have A1 := hid (A0.out.below (by omega) hb1)
      have M1 := hid (two_bl (by omega) hb1 M0.out)
      have z1 : w.heap.size + 2 ≤ w1.heap.size := Nat.le_trans z0 hb1.size
      clear hb1 A0 M0 B0
      obtain ⟨a0, a1, a2, a3, a4, a5⟩ := A1.out.a6
      have m0 := M1.out.1
      have m1 := M1.out.2
      have lA : w.heap.size + 1 < w1.heap.size := by omega
      have lM : w.heap.size < w1.heap.size := by omega
      have lbO : bO < w1.heap.size := by omega
      have lbX : bX < w1.heap.size := by omega
      have lbI : bI < w1.heap.size := by omega
      have hX : w1.cell? ⟨bX, 0, none⟩ = some (.int .i64 xn) := (B1.out.cell (p := ⟨bX, _, none⟩) lX).trans hX0.out
      have hI : w1.cell? ⟨bI, 0, none⟩ = some (.int .i64 xi) := (B1.out.cell (p := ⟨bI, _, none⟩) lI).trans hI0.out
      have hO : w1.cell? ⟨bO, 0, none⟩ = some (.slice (some ⟨g, 0, none⟩) N cc) := (B1.out.cell (p := ⟨bO, _, none⟩) lO).trans hO0.out
      have ROWS : Hid (∀ k j, k < N → j < 8 → w1.drew.cell? ⟨g, 0 + k * 8 + j, none⟩ = some (.int .i64 (Z k j))) := fun k j a1 a2 => (B1.out.cell (p := ⟨g, _, none⟩) lg).trans (HR.out k j a1 a2)
      have lg1 : g < w1.drew.heap.size := by show g < w1.heap.size; omega
      generalize hT : sideF c d VC 0 = T at *
      go_wp2
      refine wp_region_held_drew (S := fun w' => (∀ b o, b < w1.heap.size → w'.cell? ⟨b, o, none⟩ = w1.cell? ⟨b, o, none⟩) ∧ w1.heap.size ≤ w'.heap.size) (by kernel_rfl) ⟨fun _ _ _ => rfl, Nat.le_refl _⟩ ?_
      intro hHeld
      refine tkl 0 (.agg #[.int .i64 c, .int .i64 d]) rfl ?_ ?_
      · intro wx hSw; go_simp
      try simp only [Act.put, aS]
      refine tkl 1 (.pointer (some ⟨w.heap.size + 1, 3, none⟩)) rfl ?_ ?_
      · intro wx hSw; go_simp
      try simp only [Act.put, aS]
      refine tkl 2 (.slice (some ⟨bO, 0, none⟩) 2 kO) rfl ?_ ?_
      · intro wx hSw; go_simp
      try simp only [Act.put, aS]
      refine tkl 3 (.int .i64 0) rfl ?_ ?_
      · intro wx hSw; go_simp
      try simp only [Act.put, aS]
      refine tkl 4 (.pointer (some ⟨bO, 0, none⟩)) rfl ?_ ?_
      · intro wx hSw; go_simp
      try simp only [Act.put, aS]
      refine tkl 5 (.slice (some ⟨g, 0, none⟩) N cc) rfl ?_ ?_
      · intro wx hSw; go_simp
      try simp only [Act.put, aS]
      refine tkl 6 (.pointer (some ⟨w.heap.size + 1, 4, none⟩)) rfl ?_ ?_
      · intro wx hSw; go_simp
      try simp only [Act.put, aS]
      refine tkl 7 (.slice (some ⟨bX, 0, none⟩) 2 kX) rfl ?_ ?_
      · intro wx hSw; go_simp
      try simp only [Act.put, aS]
      refine tkl 8 (.int .i64 0) rfl ?_ ?_
      · intro wx hSw; go_simp
      try simp only [Act.put, aS]
      refine tkl 9 (.pointer (some ⟨bX, 0, none⟩)) rfl ?_ ?_
      · intro wx hSw; go_simp
      try simp only [Act.put, aS]
      refine tkl 10 (.int .i64 xn) rfl ?_ ?_
      · intro wx hSw; go_simp
      try simp only [Act.put, aS]
      refine rd1 11 rfl fun K hK => ?_
      go_simp
      go_wp2_with (go_at_call 118; refine (P8.plist_spec c d xn g 0 N cc Z hN _ lg1 ROWS.out).mono ?_; rintro e w2 ⟨rfl, hbw2⟩; rw [h1])
      refine hK.out _ _ (keepS (by assumption) hbw2) (fun hHeld => ?_)
      clear hK K
      try simp only [Act.put, aS]
      refine tkl 12 (.bool false) rfl ?_ ?_
      · intro wx hSw; go_simp
      try simp only [Act.put, aS]
      refine tkl 13 (.bool false) rfl ?_ ?_
      · intro wx hSw; go_simp
      try simp only [Act.put, aS]
      refine tkl 14 (.pointer (some ⟨w.heap.size + 1, 5, none⟩)) rfl ?_ ?_
      · intro wx hSw; go_simp
      try simp only [Act.put, aS]
      refine tkl 15 (.slice (some ⟨bI, 0, none⟩) 2 kI) rfl ?_ ?_
      · intro wx hSw; go_simp
      try simp only [Act.put, aS]
      refine tkl 16 (.int .i64 0) rfl ?_ ?_
      · intro wx hSw; go_simp
      try simp only [Act.put, aS]
      refine tkl 17 (.pointer (some ⟨bI, 0, none⟩)) rfl ?_ ?_
      · intro wx hSw; go_simp
      try simp only [Act.put, aS]
      refine tkl 18 (.int .i64 xi) rfl ?_ ?_
      · intro wx hSw; go_simp
      try simp only [Act.put, aS]
      refine rd1 19 rfl fun K hK => ?_
      go_simp
      go_wp2_with (go_at_call 69; refine (in_specB _ _ _ _).mono ?_; rintro e w4 ⟨rfl, hbw4⟩; rw [h2])
      refine hK.out _ _ (keepS (by assumption) hbw4) (fun hHeld => ?_)
      clear hK K
      try simp only [Act.put, aS]
      refine tkl 20 (.bool true) rfl ?_ ?_
      · intro wx hSw; go_simp
      try simp only [Act.put, aS]
      refine tkl 21 (.bool true) rfl ?_ ?_
      · intro wx hSw; go_simp
      try simp only [Act.put, aS]
      refine wpAnyH_done (by kernel_rfl) ?_ _
      go_wp2
      go_ret
      exact ⟨by rw [E.out]; rfl, bthen B1.out (bthen (bthen ((Below.refl _ _).drew) hbw2) hbw4)⟩
    rw [h1, h2] at E
    by_cases h3 : sideF c d VC 0 = -1
    · rw [if_pos h3] at E
      cases hx : (xn == 0)
      all_goals
        go_enter Tryz.func79, Tryz.ntmps79
        go_wp2_with fail
        obtain ⟨w0, e0⟩ : ∃ w0, w0 = ((w.alloc (.cells #[.int .i64 c, .int .i64 d] 38)).alloc (.cells #[.int .i64 VC, x1, .int .i64 VG, .slice (some ⟨bO, 0, none⟩) 2 kO, .slice (some ⟨bX, 0, none⟩) 2 kX, .slice (some ⟨bI, 0, none⟩) 2 kI] 35)) := ⟨_, rfl⟩
        have z0 : w.heap.size + 2 ≤ w0.heap.size := by rw [e0]; simp
        have B0 : Hid (Below w.heap.size w w0) := by rw [e0]; exact ((Below.refl _ _).alloc (by simp) _).alloc (by simp) _
        have A0 : Hid (Six w0 (w.heap.size + 1) [.int .i64 VC, x1, .int .i64 VG, .slice (some ⟨bO, 0, none⟩) 2 kO, .slice (some ⟨bX, 0, none⟩) 2 kX, .slice (some ⟨bI, 0, none⟩) 2 kI]) := by rw [e0]; exact six_box2 w _ 38 35 _ _ _ _ _ _
        have M0 : Hid (w0.cell? ⟨w.heap.size, 0, none⟩ = some (.int .i64 c) ∧ w0.cell? ⟨w.heap.size, 1, none⟩ = some (.int .i64 d)) := by rw [e0]; exact two_box w c d _
        rw [← e0]
        clear e0
        refine (plcSide_spec _ _ _ _ _).mono ?_
        rintro e w1 ⟨rfl, hb1⟩
        have B1 := hid (bthen B0.out hb1)
        have A1 := hid (A0.out.below (by omega) hb1)
        have M1 := hid (two_bl (by omega) hb1 M0.out)
        have z1 : w.heap.size + 2 ≤ w1.heap.size := Nat.le_trans z0 hb1.size
        clear hb1 A0 M0 B0
        obtain ⟨a0, a1, a2, a3, a4, a5⟩ := A1.out.a6
        have m0 := M1.out.1
        have m1 := M1.out.2
        have lA : w.heap.size + 1 < w1.heap.size := by omega
        have lM : w.heap.size < w1.heap.size := by omega
        have lbO : bO < w1.heap.size := by omega
        have lbX : bX < w1.heap.size := by omega
        have lbI : bI < w1.heap.size := by omega
        have hX : w1.cell? ⟨bX, 0, none⟩ = some (.int .i64 xn) := (B1.out.cell (p := ⟨bX, _, none⟩) lX).trans hX0.out
        have hI : w1.cell? ⟨bI, 0, none⟩ = some (.int .i64 xi) := (B1.out.cell (p := ⟨bI, _, none⟩) lI).trans hI0.out
        have hO : w1.cell? ⟨bO, 0, none⟩ = some (.slice (some ⟨g, 0, none⟩) N cc) := (B1.out.cell (p := ⟨bO, _, none⟩) lO).trans hO0.out
        have ROWS : Hid (∀ k j, k < N → j < 8 → w1.drew.cell? ⟨g, 0 + k * 8 + j, none⟩ = some (.int .i64 (Z k j))) := fun k j a1 a2 => (B1.out.cell (p := ⟨g, _, none⟩) lg).trans (HR.out k j a1 a2)
        have lg1 : g < w1.drew.heap.size := by show g < w1.heap.size; omega
        generalize hT : sideF c d VC 0 = T at *
        go_wp2
        refine wp_region_held_drew (S := fun w' => (∀ b o, b < w1.heap.size → w'.cell? ⟨b, o, none⟩ = w1.cell? ⟨b, o, none⟩) ∧ w1.heap.size ≤ w'.heap.size) (by kernel_rfl) ⟨fun _ _ _ => rfl, Nat.le_refl _⟩ ?_
        intro hHeld
        refine tkl 0 (.agg #[.int .i64 c, .int .i64 d]) rfl ?_ ?_
        · intro wx hSw; go_simp
        try simp only [Act.put, aS]
        refine tkl 1 (.pointer (some ⟨w.heap.size + 1, 3, none⟩)) rfl ?_ ?_
        · intro wx hSw; go_simp
        try simp only [Act.put, aS]
        refine tkl 2 (.slice (some ⟨bO, 0, none⟩) 2 kO) rfl ?_ ?_
        · intro wx hSw; go_simp
        try simp only [Act.put, aS]
        refine tkl 3 (.int .i64 0) rfl ?_ ?_
        · intro wx hSw; go_simp
        try simp only [Act.put, aS]
        refine tkl 4 (.pointer (some ⟨bO, 0, none⟩)) rfl ?_ ?_
        · intro wx hSw; go_simp
        try simp only [Act.put, aS]
        refine tkl 5 (.slice (some ⟨g, 0, none⟩) N cc) rfl ?_ ?_
        · intro wx hSw; go_simp
        try simp only [Act.put, aS]
        refine tkl 6 (.pointer (some ⟨w.heap.size + 1, 4, none⟩)) rfl ?_ ?_
        · intro wx hSw; go_simp
        try simp only [Act.put, aS]
        refine tkl 7 (.slice (some ⟨bX, 0, none⟩) 2 kX) rfl ?_ ?_
        · intro wx hSw; go_simp
        try simp only [Act.put, aS]
        refine tkl 8 (.int .i64 0) rfl ?_ ?_
        · intro wx hSw; go_simp
        try simp only [Act.put, aS]
        refine tkl 9 (.pointer (some ⟨bX, 0, none⟩)) rfl ?_ ?_
        · intro wx hSw; go_simp
        try simp only [Act.put, aS]
        refine tkl 10 (.int .i64 xn) rfl ?_ ?_
        · intro wx hSw; go_simp
        try simp only [Act.put, aS]
        refine rd1 11 rfl fun K hK => ?_
        go_simp
        go_wp2_with (go_at_call 118; refine (P8.plist_spec c d xn g 0 N cc Z hN _ lg1 ROWS.out).mono ?_; rintro e w2 ⟨rfl, hbw2⟩; rw [h1])
        refine hK.out _ _ (keepS (by assumption) hbw2) (fun hHeld => ?_)
        clear hK K
        try simp only [Act.put, aS]
        refine tkl 12 (.bool false) rfl ?_ ?_
        · intro wx hSw; go_simp
        try simp only [Act.put, aS]
        refine tkl 13 (.bool false) rfl ?_ ?_
        · intro wx hSw; go_simp
        try simp only [Act.put, aS]
        refine tkl 14 (.pointer (some ⟨w.heap.size + 1, 5, none⟩)) rfl ?_ ?_
        · intro wx hSw; go_simp
        try simp only [Act.put, aS]
        refine tkl 15 (.slice (some ⟨bI, 0, none⟩) 2 kI) rfl ?_ ?_
        · intro wx hSw; go_simp
        try simp only [Act.put, aS]
        refine tkl 16 (.int .i64 0) rfl ?_ ?_
        · intro wx hSw; go_simp
        try simp only [Act.put, aS]
        refine tkl 17 (.pointer (some ⟨bI, 0, none⟩)) rfl ?_ ?_
        · intro wx hSw; go_simp
        try simp only [Act.put, aS]
        refine tkl 18 (.int .i64 xi) rfl ?_ ?_
        · intro wx hSw; go_simp
        try simp only [Act.put, aS]
        refine rd1 19 rfl fun K hK => ?_
        go_simp
        go_wp2_with (go_at_call 69; refine (in_specB _ _ _ _).mono ?_; rintro e w4 ⟨rfl, hbw4⟩; rw [h2])
        refine hK.out _ _ (keepS (by assumption) hbw4) (fun hHeld => ?_)
        clear hK K
        try simp only [Act.put, aS]
        refine tkl 20 (.bool false) rfl ?_ ?_
        · intro wx hSw; go_simp
        try simp only [Act.put, aS]
        refine tkl 21 (.bool false) rfl ?_ ?_
        · intro wx hSw; go_simp
        try simp only [Act.put, aS]
        refine wpAnyH_done (by kernel_rfl) ?_ _
        have hb5 : Below w1.heap.size w1 w4 := bthen (bthen ((Below.refl _ _).drew) hbw2) hbw4
        clear hbw2 hbw4 ROWS lg1 a0 a1 a2 a3 a4 a5 m0 m1 lA lM lbO lbX lbI hX hI hO
        have B5 := hid (bthen B1.out hb5)
        have A5 := hid (A1.out.below (by omega) hb5)
        have M5 := hid (two_bl (by omega) hb5 M1.out)
        have z5 : w.heap.size + 2 ≤ w4.heap.size := Nat.le_trans z1 hb5.size
        clear hb5
        obtain ⟨a0, a1, a2, a3, a4, a5⟩ := A5.out.a6
        have m0 := M5.out.1
        have m1 := M5.out.2
        have lA : w.heap.size + 1 < w4.heap.size := by omega
        have lM : w.heap.size < w4.heap.size := by omega
        have lbO : bO < w4.heap.size := by omega
        have lbX : bX < w4.heap.size := by omega
        have lbI : bI < w4.heap.size := by omega
        have hX : w4.cell? ⟨bX, 0, none⟩ = some (.int .i64 xn) := (B5.out.cell (p := ⟨bX, _, none⟩) lX).trans hX0.out
        have hI : w4.cell? ⟨bI, 0, none⟩ = some (.int .i64 xi) := (B5.out.cell (p := ⟨bI, _, none⟩) lI).trans hI0.out
        have hO : w4.cell? ⟨bO, 0, none⟩ = some (.slice (some ⟨g, 0, none⟩) N cc) := (B5.out.cell (p := ⟨bO, _, none⟩) lO).trans hO0.out
        subst h3
        go_wp2
        go_ret
        exact ⟨by rw [E.out]; simp [hx], B5.out⟩
    · rw [if_neg h3] at E
      have h3' : (sideF c d VC 0 == -1) = false := by simpa using h3
      go_enter Tryz.func79, Tryz.ntmps79
      go_wp2_with fail
      obtain ⟨w0, e0⟩ : ∃ w0, w0 = ((w.alloc (.cells #[.int .i64 c, .int .i64 d] 38)).alloc (.cells #[.int .i64 VC, x1, .int .i64 VG, .slice (some ⟨bO, 0, none⟩) 2 kO, .slice (some ⟨bX, 0, none⟩) 2 kX, .slice (some ⟨bI, 0, none⟩) 2 kI] 35)) := ⟨_, rfl⟩
      have z0 : w.heap.size + 2 ≤ w0.heap.size := by rw [e0]; simp
      have B0 : Hid (Below w.heap.size w w0) := by rw [e0]; exact ((Below.refl _ _).alloc (by simp) _).alloc (by simp) _
      have A0 : Hid (Six w0 (w.heap.size + 1) [.int .i64 VC, x1, .int .i64 VG, .slice (some ⟨bO, 0, none⟩) 2 kO, .slice (some ⟨bX, 0, none⟩) 2 kX, .slice (some ⟨bI, 0, none⟩) 2 kI]) := by rw [e0]; exact six_box2 w _ 38 35 _ _ _ _ _ _
      have M0 : Hid (w0.cell? ⟨w.heap.size, 0, none⟩ = some (.int .i64 c) ∧ w0.cell? ⟨w.heap.size, 1, none⟩ = some (.int .i64 d)) := by rw [e0]; exact two_box w c d _
      rw [← e0]
      clear e0
      refine (plcSide_spec _ _ _ _ _).mono ?_
      rintro e w1 ⟨rfl, hb1⟩
      have B1 := hid (bthen B0.out hb1)
      have A1 := hid (A0.out.below (by omega) hb1)
      have M1 := hid (two_bl (by omega) hb1 M0.out)
      have z1 : w.heap.size + 2 ≤ w1.heap.size := Nat.le_trans z0 hb1.size
      clear hb1 A0 M0 B0
      obtain ⟨a0, a1, a2, a3, a4, a5⟩ := A1.out.a6
      have m0 := M1.out.1
      have m1 := M1.out.2
      have lA : w.heap.size + 1 < w1.heap.size := by omega
      have lM : w.heap.size < w1.heap.size := by omega
      have lbO : bO < w1.heap.size := by omega
      have lbX : bX < w1.heap.size := by omega
      have lbI : bI < w1.heap.size := by omega
      have hX : w1.cell? ⟨bX, 0, none⟩ = some (.int .i64 xn) := (B1.out.cell (p := ⟨bX, _, none⟩) lX).trans hX0.out
      have hI : w1.cell? ⟨bI, 0, none⟩ = some (.int .i64 xi) := (B1.out.cell (p := ⟨bI, _, none⟩) lI).trans hI0.out
      have hO : w1.cell? ⟨bO, 0, none⟩ = some (.slice (some ⟨g, 0, none⟩) N cc) := (B1.out.cell (p := ⟨bO, _, none⟩) lO).trans hO0.out
      have ROWS : Hid (∀ k j, k < N → j < 8 → w1.drew.cell? ⟨g, 0 + k * 8 + j, none⟩ = some (.int .i64 (Z k j))) := fun k j a1 a2 => (B1.out.cell (p := ⟨g, _, none⟩) lg).trans (HR.out k j a1 a2)
      have lg1 : g < w1.drew.heap.size := by show g < w1.heap.size; omega
      generalize hT : sideF c d VC 0 = T at *
      go_wp2
      refine wp_region_held_drew (S := fun w' => (∀ b o, b < w1.heap.size → w'.cell? ⟨b, o, none⟩ = w1.cell? ⟨b, o, none⟩) ∧ w1.heap.size ≤ w'.heap.size) (by kernel_rfl) ⟨fun _ _ _ => rfl, Nat.le_refl _⟩ ?_
      intro hHeld
      refine tkl 0 (.agg #[.int .i64 c, .int .i64 d]) rfl ?_ ?_
      · intro wx hSw; go_simp
      try simp only [Act.put, aS]
      refine tkl 1 (.pointer (some ⟨w.heap.size + 1, 3, none⟩)) rfl ?_ ?_
      · intro wx hSw; go_simp
      try simp only [Act.put, aS]
      refine tkl 2 (.slice (some ⟨bO, 0, none⟩) 2 kO) rfl ?_ ?_
      · intro wx hSw; go_simp
      try simp only [Act.put, aS]
      refine tkl 3 (.int .i64 0) rfl ?_ ?_
      · intro wx hSw; go_simp
      try simp only [Act.put, aS]
      refine tkl 4 (.pointer (some ⟨bO, 0, none⟩)) rfl ?_ ?_
      · intro wx hSw; go_simp
      try simp only [Act.put, aS]
      refine tkl 5 (.slice (some ⟨g, 0, none⟩) N cc) rfl ?_ ?_
      · intro wx hSw; go_simp
      try simp only [Act.put, aS]
      refine tkl 6 (.pointer (some ⟨w.heap.size + 1, 4, none⟩)) rfl ?_ ?_
      · intro wx hSw; go_simp
      try simp only [Act.put, aS]
      refine tkl 7 (.slice (some ⟨bX, 0, none⟩) 2 kX) rfl ?_ ?_
      · intro wx hSw; go_simp
      try simp only [Act.put, aS]
      refine tkl 8 (.int .i64 0) rfl ?_ ?_
      · intro wx hSw; go_simp
      try simp only [Act.put, aS]
      refine tkl 9 (.pointer (some ⟨bX, 0, none⟩)) rfl ?_ ?_
      · intro wx hSw; go_simp
      try simp only [Act.put, aS]
      refine tkl 10 (.int .i64 xn) rfl ?_ ?_
      · intro wx hSw; go_simp
      try simp only [Act.put, aS]
      refine rd1 11 rfl fun K hK => ?_
      go_simp
      go_wp2_with (go_at_call 118; refine (P8.plist_spec c d xn g 0 N cc Z hN _ lg1 ROWS.out).mono ?_; rintro e w2 ⟨rfl, hbw2⟩; rw [h1])
      refine hK.out _ _ (keepS (by assumption) hbw2) (fun hHeld => ?_)
      clear hK K
      try simp only [Act.put, aS]
      refine tkl 12 (.bool false) rfl ?_ ?_
      · intro wx hSw; go_simp
      try simp only [Act.put, aS]
      refine tkl 13 (.bool false) rfl ?_ ?_
      · intro wx hSw; go_simp
      try simp only [Act.put, aS]
      refine tkl 14 (.pointer (some ⟨w.heap.size + 1, 5, none⟩)) rfl ?_ ?_
      · intro wx hSw; go_simp
      try simp only [Act.put, aS]
      refine tkl 15 (.slice (some ⟨bI, 0, none⟩) 2 kI) rfl ?_ ?_
      · intro wx hSw; go_simp
      try simp only [Act.put, aS]
      refine tkl 16 (.int .i64 0) rfl ?_ ?_
      · intro wx hSw; go_simp
      try simp only [Act.put, aS]
      refine tkl 17 (.pointer (some ⟨bI, 0, none⟩)) rfl ?_ ?_
      · intro wx hSw; go_simp
      try simp only [Act.put, aS]
      refine tkl 18 (.int .i64 xi) rfl ?_ ?_
      · intro wx hSw; go_simp
      try simp only [Act.put, aS]
      refine rd1 19 rfl fun K hK => ?_
      go_simp
      go_wp2_with (go_at_call 69; refine (in_specB _ _ _ _).mono ?_; rintro e w4 ⟨rfl, hbw4⟩; rw [h2])
      refine hK.out _ _ (keepS (by assumption) hbw4) (fun hHeld => ?_)
      clear hK K
      try simp only [Act.put, aS]
      refine tkl 20 (.bool false) rfl ?_ ?_
      · intro wx hSw; go_simp
      try simp only [Act.put, aS]
      refine tkl 21 (.bool false) rfl ?_ ?_
      · intro wx hSw; go_simp
      try simp only [Act.put, aS]
      refine wpAnyH_done (by kernel_rfl) ?_ _
      have hb5 : Below w1.heap.size w1 w4 := bthen (bthen ((Below.refl _ _).drew) hbw2) hbw4
      clear hbw2 hbw4 ROWS lg1 a0 a1 a2 a3 a4 a5 m0 m1 lA lM lbO lbX lbI hX hI hO
      have B5 := hid (bthen B1.out hb5)
      have A5 := hid (A1.out.below (by omega) hb5)
      have M5 := hid (two_bl (by omega) hb5 M1.out)
      have z5 : w.heap.size + 2 ≤ w4.heap.size := Nat.le_trans z1 hb5.size
      clear hb5
      obtain ⟨a0, a1, a2, a3, a4, a5⟩ := A5.out.a6
      have m0 := M5.out.1
      have m1 := M5.out.2
      have lA : w.heap.size + 1 < w4.heap.size := by omega
      have lM : w.heap.size < w4.heap.size := by omega
      have lbO : bO < w4.heap.size := by omega
      have lbX : bX < w4.heap.size := by omega
      have lbI : bI < w4.heap.size := by omega
      have hX : w4.cell? ⟨bX, 0, none⟩ = some (.int .i64 xn) := (B5.out.cell (p := ⟨bX, _, none⟩) lX).trans hX0.out
      have hI : w4.cell? ⟨bI, 0, none⟩ = some (.int .i64 xi) := (B5.out.cell (p := ⟨bI, _, none⟩) lI).trans hI0.out
      have hO : w4.cell? ⟨bO, 0, none⟩ = some (.slice (some ⟨g, 0, none⟩) N cc) := (B5.out.cell (p := ⟨bO, _, none⟩) lO).trans hO0.out
      go_wp2
      go_loopw [8] (fun i wr => ∃ k : Nat, k ≤ N ∧ i = .int .i64 k ∧ allK (fun j => !(Z j 1 == 1 && cellF c d (Z j 3) != T)) k = true ∧ Below w4.heap.size w4 wr) (fun i _ => N - (intOf i).toNat)
      case atStart => exact ⟨0, Nat.zero_le _, rfl, rfl, Below.refl _ _⟩
      case round =>
        clear a0 a1 a2 a3 a4 a5 m0 m1 lA lM lbO lbX lbI hX hI hO
        obtain ⟨k, hk, rfl, hall, BR⟩ := hrel
        have HALL : Hid (allK (fun j => !(Z j 1 == 1 && cellF c d (Z j 3) != T)) k = true) := hall
        clear hall
        have hl3 := BR.size
        have lA : w.heap.size + 1 < wr.heap.size := by omega
        have lM : w.heap.size < wr.heap.size := by omega
        have lO' : bO < wr.heap.size := by omega
        have lg' : g < wr.heap.size := by omega
        have a3 : wr.cell? ⟨w.heap.size + 1, 3, none⟩ = some (.slice (some ⟨bO, 0, none⟩) 2 kO) := (BR.cell (p := ⟨w.heap.size + 1, 3, none⟩) (by show w.heap.size + 1 < _; omega)).trans (A5.out 3 (by decide)).1
        have hO : wr.cell? ⟨bO, 0, none⟩ = some (.slice (some ⟨g, 0, none⟩) N cc) := (BR.cell (p := ⟨bO, 0, none⟩) (by show bO < _; omega)).trans ((B5.out.cell (p := ⟨bO, _, none⟩) lO).trans hO0.out)
        by_cases hkn : k < N
        · have hkn' : (k : Int) < N := by omega
          have c0 : wr.cell? ⟨g, k * 8, none⟩ = some (.int .i64 (Z k 0)) := by have := (BR.cell (p := ⟨g, 0 + k * 8 + 0, none⟩) (by show g < _; omega)).trans ((B5.out.cell (p := ⟨g, 0 + k * 8 + 0, none⟩) lg).trans (HR.out k 0 hkn (by omega))); simpa using this
          have c1 : wr.cell? ⟨g, k * 8 + 1, none⟩ = some (.int .i64 (Z k 1)) := by have := (BR.cell (p := ⟨g, 0 + k * 8 + 1, none⟩) (by show g < _; omega)).trans ((B5.out.cell (p := ⟨g, 0 + k * 8 + 1, none⟩) lg).trans (HR.out k 1 hkn (by omega))); simpa using this
          have c2 : wr.cell? ⟨g, k * 8 + 2, none⟩ = some (.int .i64 (Z k 2)) := by have := (BR.cell (p := ⟨g, 0 + k * 8 + 2, none⟩) (by show g < _; omega)).trans ((B5.out.cell (p := ⟨g, 0 + k * 8 + 2, none⟩) lg).trans (HR.out k 2 hkn (by omega))); simpa using this
          have c3 : wr.cell? ⟨g, k * 8 + 3, none⟩ = some (.int .i64 (Z k 3)) := by have := (BR.cell (p := ⟨g, 0 + k * 8 + 3, none⟩) (by show g < _; omega)).trans ((B5.out.cell (p := ⟨g, 0 + k * 8 + 3, none⟩) lg).trans (HR.out k 3 hkn (by omega))); simpa using this
          have c4 : wr.cell? ⟨g, k * 8 + 4, none⟩ = some (.int .i64 (Z k 4)) := by have := (BR.cell (p := ⟨g, 0 + k * 8 + 4, none⟩) (by show g < _; omega)).trans ((B5.out.cell (p := ⟨g, 0 + k * 8 + 4, none⟩) lg).trans (HR.out k 4 hkn (by omega))); simpa using this
          have c5 : wr.cell? ⟨g, k * 8 + 5, none⟩ = some (.int .i64 (Z k 5)) := by have := (BR.cell (p := ⟨g, 0 + k * 8 + 5, none⟩) (by show g < _; omega)).trans ((B5.out.cell (p := ⟨g, 0 + k * 8 + 5, none⟩) lg).trans (HR.out k 5 hkn (by omega))); simpa using this
          have c6 : wr.cell? ⟨g, k * 8 + 6, none⟩ = some (.int .i64 (Z k 6)) := by have := (BR.cell (p := ⟨g, 0 + k * 8 + 6, none⟩) (by show g < _; omega)).trans ((B5.out.cell (p := ⟨g, 0 + k * 8 + 6, none⟩) lg).trans (HR.out k 6 hkn (by omega))); simpa using this
          have c7 : wr.cell? ⟨g, k * 8 + 7, none⟩ = some (.int .i64 (Z k 7)) := by have := (BR.cell (p := ⟨g, 0 + k * 8 + 7, none⟩) (by show g < _; omega)).trans ((B5.out.cell (p := ⟨g, 0 + k * 8 + 7, none⟩) lg).trans (HR.out k 7 hkn (by omega))); simpa using this
          have m0 : wr.cell? ⟨w.heap.size, 0, none⟩ = some (.int .i64 c) := (BR.cell (p := ⟨w.heap.size, 0, none⟩) (by show w.heap.size < _; omega)).trans M5.out.1
          have m1 : wr.cell? ⟨w.heap.size, 1, none⟩ = some (.int .i64 d) := (BR.cell (p := ⟨w.heap.size, 1, none⟩) (by show w.heap.size < _; omega)).trans M5.out.2
          have BR1 : Hid (Below w4.heap.size w4 (wr.alloc (.cells #[.int .i64 (Z k 0), .int .i64 (Z k 1), .int .i64 (Z k 2), .int .i64 (Z k 3), .int .i64 (Z k 4), .int .i64 (Z k 5), .int .i64 (Z k 6), .int .i64 (Z k 7)] 56))) := BR.alloc hl3 _
          cases hk1 : (Z k 1 == 1)
          · go_wp2
            go_roundw
            case rel => exact ⟨k + 1, by omega, by go_num, allK_step HALL.out (by simp [hk1]), BR1.out⟩
            case measure => simp [intOf]; omega
          · cases hp : (cellF c d (Z k 3) != T)
            · go_wp2_with fail
              refine (cell_spec _ _ _ _).mono ?_
              rintro e w6 ⟨rfl, hb6⟩
              go_wp2
              go_roundw
              case rel => exact ⟨k + 1, by omega, by go_num, allK_step HALL.out (by simp [hk1, hp]), bthen BR1.out hb6⟩
              case measure => simp [intOf]; omega
            · go_wp2_with fail
              refine (cell_spec _ _ _ _).mono ?_
              rintro e w6 ⟨rfl, hb6⟩
              go_wp2
              go_ret
              exact ⟨by rw [E.out, allK_stop hkn (by simp [hk1, hp])]; rfl, bthen B5.out (bthen BR1.out hb6)⟩
        · have : k = N := by omega
          subst this
          go_wp2
          go_ret
          exact ⟨by rw [E.out, HALL.out]; rfl, bthen B5.out BR⟩
  · have E : Hid (sideK c d VC 1 N Z xn xi = (P8.listP c d xn N Z && (inB xi 0 5000 && (if sideF c d VC 1 = -1 then (xn == 0 && xi == 0) else allK (fun j => !(Z j 1 == 1 && cellF c d (Z j 3) != sideF c d VC 1)) N)))) := rfl
    cases h1 : P8.listP c d xn N Z
    · rw [h1] at E
      go_enter Tryz.func79, Tryz.ntmps79
      go_wp2_with fail
      obtain ⟨w0, e0⟩ : ∃ w0, w0 = ((w.alloc (.cells #[.int .i64 c, .int .i64 d] 38)).alloc (.cells #[.int .i64 VC, x1, .int .i64 VG, .slice (some ⟨bO, 0, none⟩) 2 kO, .slice (some ⟨bX, 0, none⟩) 2 kX, .slice (some ⟨bI, 0, none⟩) 2 kI] 35)) := ⟨_, rfl⟩
      have z0 : w.heap.size + 2 ≤ w0.heap.size := by rw [e0]; simp
      have B0 : Hid (Below w.heap.size w w0) := by rw [e0]; exact ((Below.refl _ _).alloc (by simp) _).alloc (by simp) _
      have A0 : Hid (Six w0 (w.heap.size + 1) [.int .i64 VC, x1, .int .i64 VG, .slice (some ⟨bO, 0, none⟩) 2 kO, .slice (some ⟨bX, 0, none⟩) 2 kX, .slice (some ⟨bI, 0, none⟩) 2 kI]) := by rw [e0]; exact six_box2 w _ 38 35 _ _ _ _ _ _
      have M0 : Hid (w0.cell? ⟨w.heap.size, 0, none⟩ = some (.int .i64 c) ∧ w0.cell? ⟨w.heap.size, 1, none⟩ = some (.int .i64 d)) := by rw [e0]; exact two_box w c d _
      rw [← e0]
      clear e0
      refine (plcSide_spec _ _ _ _ _).mono ?_
      rintro e w1 ⟨rfl, hb1⟩
      have B1 := hid (bthen B0.out hb1)
      have A1 := hid (A0.out.below (by omega) hb1)
      have M1 := hid (two_bl (by omega) hb1 M0.out)
      have z1 : w.heap.size + 2 ≤ w1.heap.size := Nat.le_trans z0 hb1.size
      clear hb1 A0 M0 B0
      obtain ⟨a0, a1, a2, a3, a4, a5⟩ := A1.out.a6
      have m0 := M1.out.1
      have m1 := M1.out.2
      have lA : w.heap.size + 1 < w1.heap.size := by omega
      have lM : w.heap.size < w1.heap.size := by omega
      have lbO : bO < w1.heap.size := by omega
      have lbX : bX < w1.heap.size := by omega
      have lbI : bI < w1.heap.size := by omega
      have hX : w1.cell? ⟨bX, 1, none⟩ = some (.int .i64 xn) := (B1.out.cell (p := ⟨bX, _, none⟩) lX).trans hX0.out
      have hI : w1.cell? ⟨bI, 1, none⟩ = some (.int .i64 xi) := (B1.out.cell (p := ⟨bI, _, none⟩) lI).trans hI0.out
      have hO : w1.cell? ⟨bO, 1, none⟩ = some (.slice (some ⟨g, 0, none⟩) N cc) := (B1.out.cell (p := ⟨bO, _, none⟩) lO).trans hO0.out
      have ROWS : Hid (∀ k j, k < N → j < 8 → w1.drew.cell? ⟨g, 0 + k * 8 + j, none⟩ = some (.int .i64 (Z k j))) := fun k j a1 a2 => (B1.out.cell (p := ⟨g, _, none⟩) lg).trans (HR.out k j a1 a2)
      have lg1 : g < w1.drew.heap.size := by show g < w1.heap.size; omega
      generalize hT : sideF c d VC 1 = T at *
      go_wp2
      refine wp_region_held_drew (S := fun w' => (∀ b o, b < w1.heap.size → w'.cell? ⟨b, o, none⟩ = w1.cell? ⟨b, o, none⟩) ∧ w1.heap.size ≤ w'.heap.size) (by kernel_rfl) ⟨fun _ _ _ => rfl, Nat.le_refl _⟩ ?_
      intro hHeld
      refine tkl 0 (.agg #[.int .i64 c, .int .i64 d]) rfl ?_ ?_
      · intro wx hSw; go_simp
      try simp only [Act.put, aS]
      refine tkl 1 (.pointer (some ⟨w.heap.size + 1, 3, none⟩)) rfl ?_ ?_
      · intro wx hSw; go_simp
      try simp only [Act.put, aS]
      refine tkl 2 (.slice (some ⟨bO, 0, none⟩) 2 kO) rfl ?_ ?_
      · intro wx hSw; go_simp
      try simp only [Act.put, aS]
      refine tkl 3 (.int .i64 1) rfl ?_ ?_
      · intro wx hSw; go_simp
      try simp only [Act.put, aS]
      refine tkl 4 (.pointer (some ⟨bO, 1, none⟩)) rfl ?_ ?_
      · intro wx hSw; go_simp
      try simp only [Act.put, aS]
      refine tkl 5 (.slice (some ⟨g, 0, none⟩) N cc) rfl ?_ ?_
      · intro wx hSw; go_simp
      try simp only [Act.put, aS]
      refine tkl 6 (.pointer (some ⟨w.heap.size + 1, 4, none⟩)) rfl ?_ ?_
      · intro wx hSw; go_simp
      try simp only [Act.put, aS]
      refine tkl 7 (.slice (some ⟨bX, 0, none⟩) 2 kX) rfl ?_ ?_
      · intro wx hSw; go_simp
      try simp only [Act.put, aS]
      refine tkl 8 (.int .i64 1) rfl ?_ ?_
      · intro wx hSw; go_simp
      try simp only [Act.put, aS]
      refine tkl 9 (.pointer (some ⟨bX, 1, none⟩)) rfl ?_ ?_
      · intro wx hSw; go_simp
      try simp only [Act.put, aS]
      refine tkl 10 (.int .i64 xn) rfl ?_ ?_
      · intro wx hSw; go_simp
      try simp only [Act.put, aS]
      refine rd1 11 rfl fun K hK => ?_
      go_simp
      go_wp2_with (go_at_call 118; refine (P8.plist_spec c d xn g 0 N cc Z hN _ lg1 ROWS.out).mono ?_; rintro e w2 ⟨rfl, hbw2⟩; rw [h1])
      refine hK.out _ _ (keepS (by assumption) hbw2) (fun hHeld => ?_)
      clear hK K
      try simp only [Act.put, aS]
      refine tkl 12 (.bool true) rfl ?_ ?_
      · intro wx hSw; go_simp
      try simp only [Act.put, aS]
      refine tkl 13 (.bool true) rfl ?_ ?_
      · intro wx hSw; go_simp
      try simp only [Act.put, aS]
      refine tkr 14 rfl ?_
      try simp only [Act.put, aS]
      refine tkr 15 rfl ?_
      try simp only [Act.put, aS]
      refine tkr 16 rfl ?_
      try simp only [Act.put, aS]
      refine tkr 17 rfl ?_
      try simp only [Act.put, aS]
      refine tkr 18 rfl ?_
      try simp only [Act.put, aS]
      refine tkr 19 rfl ?_
      try simp only [Act.put, aS]
      refine tkr 20 rfl ?_
      try simp only [Act.put, aS]
      refine tkl 21 (.bool true) rfl ?_ ?_
      · intro wx hSw; go_simp
      try simp only [Act.put, aS]
      refine wpAnyH_done (by kernel_rfl) ?_ _
      go_wp2
      go_ret
      exact ⟨by rw [E.out]; rfl, bthen B1.out (bthen ((Below.refl _ _).drew) hbw2)⟩
    cases h2 : inB xi 0 5000
    · rw [h1, h2] at E
      go_enter Tryz.func79, Tryz.ntmps79
      go_wp2_with fail
      obtain ⟨w0, e0⟩ : ∃ w0, w0 = ((w.alloc (.cells #[.int .i64 c, .int .i64 d] 38)).alloc (.cells #[.int .i64 VC, x1, .int .i64 VG, .slice (some ⟨bO, 0, none⟩) 2 kO, .slice (some ⟨bX, 0, none⟩) 2 kX, .slice (some ⟨bI, 0, none⟩) 2 kI] 35)) := ⟨_, rfl⟩
      have z0 : w.heap.size + 2 ≤ w0.heap.size := by rw [e0]; simp
      have B0 : Hid (Below w.heap.size w w0) := by rw [e0]; exact ((Below.refl _ _).alloc (by simp) _).alloc (by simp) _
      have A0 : Hid (Six w0 (w.heap.size + 1) [.int .i64 VC, x1, .int .i64 VG, .slice (some ⟨bO, 0, none⟩) 2 kO, .slice (some ⟨bX, 0, none⟩) 2 kX, .slice (some ⟨bI, 0, none⟩) 2 kI]) := by rw [e0]; exact six_box2 w _ 38 35 _ _ _ _ _ _
      have M0 : Hid (w0.cell? ⟨w.heap.size, 0, none⟩ = some (.int .i64 c) ∧ w0.cell? ⟨w.heap.size, 1, none⟩ = some (.int .i64 d)) := by rw [e0]; exact two_box w c d _
      rw [← e0]
      clear e0
      refine (plcSide_spec _ _ _ _ _).mono ?_
      rintro e w1 ⟨rfl, hb1⟩
      have B1 := hid (bthen B0.out hb1)
      have A1 := hid (A0.out.below (by omega) hb1)
      have M1 := hid (two_bl (by omega) hb1 M0.out)
      have z1 : w.heap.size + 2 ≤ w1.heap.size := Nat.le_trans z0 hb1.size
      clear hb1 A0 M0 B0
      obtain ⟨a0, a1, a2, a3, a4, a5⟩ := A1.out.a6
      have m0 := M1.out.1
      have m1 := M1.out.2
      have lA : w.heap.size + 1 < w1.heap.size := by omega
      have lM : w.heap.size < w1.heap.size := by omega
      have lbO : bO < w1.heap.size := by omega
      have lbX : bX < w1.heap.size := by omega
      have lbI : bI < w1.heap.size := by omega
      have hX : w1.cell? ⟨bX, 1, none⟩ = some (.int .i64 xn) := (B1.out.cell (p := ⟨bX, _, none⟩) lX).trans hX0.out
      have hI : w1.cell? ⟨bI, 1, none⟩ = some (.int .i64 xi) := (B1.out.cell (p := ⟨bI, _, none⟩) lI).trans hI0.out
      have hO : w1.cell? ⟨bO, 1, none⟩ = some (.slice (some ⟨g, 0, none⟩) N cc) := (B1.out.cell (p := ⟨bO, _, none⟩) lO).trans hO0.out
      have ROWS : Hid (∀ k j, k < N → j < 8 → w1.drew.cell? ⟨g, 0 + k * 8 + j, none⟩ = some (.int .i64 (Z k j))) := fun k j a1 a2 => (B1.out.cell (p := ⟨g, _, none⟩) lg).trans (HR.out k j a1 a2)
      have lg1 : g < w1.drew.heap.size := by show g < w1.heap.size; omega
      generalize hT : sideF c d VC 1 = T at *
      go_wp2
      refine wp_region_held_drew (S := fun w' => (∀ b o, b < w1.heap.size → w'.cell? ⟨b, o, none⟩ = w1.cell? ⟨b, o, none⟩) ∧ w1.heap.size ≤ w'.heap.size) (by kernel_rfl) ⟨fun _ _ _ => rfl, Nat.le_refl _⟩ ?_
      intro hHeld
      refine tkl 0 (.agg #[.int .i64 c, .int .i64 d]) rfl ?_ ?_
      · intro wx hSw; go_simp
      try simp only [Act.put, aS]
      refine tkl 1 (.pointer (some ⟨w.heap.size + 1, 3, none⟩)) rfl ?_ ?_
      · intro wx hSw; go_simp
      try simp only [Act.put, aS]
      refine tkl 2 (.slice (some ⟨bO, 0, none⟩) 2 kO) rfl ?_ ?_
      · intro wx hSw; go_simp
      try simp only [Act.put, aS]
      refine tkl 3 (.int .i64 1) rfl ?_ ?_
      · intro wx hSw; go_simp
      try simp only [Act.put, aS]
      refine tkl 4 (.pointer (some ⟨bO, 1, none⟩)) rfl ?_ ?_
      · intro wx hSw; go_simp
      try simp only [Act.put, aS]
      refine tkl 5 (.slice (some ⟨g, 0, none⟩) N cc) rfl ?_ ?_
      · intro wx hSw; go_simp
      try simp only [Act.put, aS]
      refine tkl 6 (.pointer (some ⟨w.heap.size + 1, 4, none⟩)) rfl ?_ ?_
      · intro wx hSw; go_simp
      try simp only [Act.put, aS]
      refine tkl 7 (.slice (some ⟨bX, 0, none⟩) 2 kX) rfl ?_ ?_
      · intro wx hSw; go_simp
      try simp only [Act.put, aS]
      refine tkl 8 (.int .i64 1) rfl ?_ ?_
      · intro wx hSw; go_simp
      try simp only [Act.put, aS]
      refine tkl 9 (.pointer (some ⟨bX, 1, none⟩)) rfl ?_ ?_
      · intro wx hSw; go_simp
      try simp only [Act.put, aS]
      refine tkl 10 (.int .i64 xn) rfl ?_ ?_
      · intro wx hSw; go_simp
      try simp only [Act.put, aS]
      refine rd1 11 rfl fun K hK => ?_
      go_simp
      go_wp2_with (go_at_call 118; refine (P8.plist_spec c d xn g 0 N cc Z hN _ lg1 ROWS.out).mono ?_; rintro e w2 ⟨rfl, hbw2⟩; rw [h1])
      refine hK.out _ _ (keepS (by assumption) hbw2) (fun hHeld => ?_)
      clear hK K
      try simp only [Act.put, aS]
      refine tkl 12 (.bool false) rfl ?_ ?_
      · intro wx hSw; go_simp
      try simp only [Act.put, aS]
      refine tkl 13 (.bool false) rfl ?_ ?_
      · intro wx hSw; go_simp
      try simp only [Act.put, aS]
      refine tkl 14 (.pointer (some ⟨w.heap.size + 1, 5, none⟩)) rfl ?_ ?_
      · intro wx hSw; go_simp
      try simp only [Act.put, aS]
      refine tkl 15 (.slice (some ⟨bI, 0, none⟩) 2 kI) rfl ?_ ?_
      · intro wx hSw; go_simp
      try simp only [Act.put, aS]
      refine tkl 16 (.int .i64 1) rfl ?_ ?_
      · intro wx hSw; go_simp
      try simp only [Act.put, aS]
      refine tkl 17 (.pointer (some ⟨bI, 1, none⟩)) rfl ?_ ?_
      · intro wx hSw; go_simp
      try simp only [Act.put, aS]
      refine tkl 18 (.int .i64 xi) rfl ?_ ?_
      · intro wx hSw; go_simp
      try simp only [Act.put, aS]
      refine rd1 19 rfl fun K hK => ?_
      go_simp
      go_wp2_with (go_at_call 69; refine (in_specB _ _ _ _).mono ?_; rintro e w4 ⟨rfl, hbw4⟩; rw [h2])
      refine hK.out _ _ (keepS (by assumption) hbw4) (fun hHeld => ?_)
      clear hK K
      try simp only [Act.put, aS]
      refine tkl 20 (.bool true) rfl ?_ ?_
      · intro wx hSw; go_simp
      try simp only [Act.put, aS]
      refine tkl 21 (.bool true) rfl ?_ ?_
      · intro wx hSw; go_simp
      try simp only [Act.put, aS]
      refine wpAnyH_done (by kernel_rfl) ?_ _
      go_wp2
      go_ret
      exact ⟨by rw [E.out]; rfl, bthen B1.out (bthen (bthen ((Below.refl _ _).drew) hbw2) hbw4)⟩
    rw [h1, h2] at E
    by_cases h3 : sideF c d VC 1 = -1
    · rw [if_pos h3] at E
      cases hx : (xn == 0)
      all_goals
        go_enter Tryz.func79, Tryz.ntmps79
        go_wp2_with fail
        obtain ⟨w0, e0⟩ : ∃ w0, w0 = ((w.alloc (.cells #[.int .i64 c, .int .i64 d] 38)).alloc (.cells #[.int .i64 VC, x1, .int .i64 VG, .slice (some ⟨bO, 0, none⟩) 2 kO, .slice (some ⟨bX, 0, none⟩) 2 kX, .slice (some ⟨bI, 0, none⟩) 2 kI] 35)) := ⟨_, rfl⟩
        have z0 : w.heap.size + 2 ≤ w0.heap.size := by rw [e0]; simp
        have B0 : Hid (Below w.heap.size w w0) := by rw [e0]; exact ((Below.refl _ _).alloc (by simp) _).alloc (by simp) _
        have A0 : Hid (Six w0 (w.heap.size + 1) [.int .i64 VC, x1, .int .i64 VG, .slice (some ⟨bO, 0, none⟩) 2 kO, .slice (some ⟨bX, 0, none⟩) 2 kX, .slice (some ⟨bI, 0, none⟩) 2 kI]) := by rw [e0]; exact six_box2 w _ 38 35 _ _ _ _ _ _
        have M0 : Hid (w0.cell? ⟨w.heap.size, 0, none⟩ = some (.int .i64 c) ∧ w0.cell? ⟨w.heap.size, 1, none⟩ = some (.int .i64 d)) := by rw [e0]; exact two_box w c d _
        rw [← e0]
        clear e0
        refine (plcSide_spec _ _ _ _ _).mono ?_
        rintro e w1 ⟨rfl, hb1⟩
        have B1 := hid (bthen B0.out hb1)
        have A1 := hid (A0.out.below (by omega) hb1)
        have M1 := hid (two_bl (by omega) hb1 M0.out)
        have z1 : w.heap.size + 2 ≤ w1.heap.size := Nat.le_trans z0 hb1.size
        clear hb1 A0 M0 B0
        obtain ⟨a0, a1, a2, a3, a4, a5⟩ := A1.out.a6
        have m0 := M1.out.1
        have m1 := M1.out.2
        have lA : w.heap.size + 1 < w1.heap.size := by omega
        have lM : w.heap.size < w1.heap.size := by omega
        have lbO : bO < w1.heap.size := by omega
        have lbX : bX < w1.heap.size := by omega
        have lbI : bI < w1.heap.size := by omega
        have hX : w1.cell? ⟨bX, 1, none⟩ = some (.int .i64 xn) := (B1.out.cell (p := ⟨bX, _, none⟩) lX).trans hX0.out
        have hI : w1.cell? ⟨bI, 1, none⟩ = some (.int .i64 xi) := (B1.out.cell (p := ⟨bI, _, none⟩) lI).trans hI0.out
        have hO : w1.cell? ⟨bO, 1, none⟩ = some (.slice (some ⟨g, 0, none⟩) N cc) := (B1.out.cell (p := ⟨bO, _, none⟩) lO).trans hO0.out
        have ROWS : Hid (∀ k j, k < N → j < 8 → w1.drew.cell? ⟨g, 0 + k * 8 + j, none⟩ = some (.int .i64 (Z k j))) := fun k j a1 a2 => (B1.out.cell (p := ⟨g, _, none⟩) lg).trans (HR.out k j a1 a2)
        have lg1 : g < w1.drew.heap.size := by show g < w1.heap.size; omega
        generalize hT : sideF c d VC 1 = T at *
        go_wp2
        refine wp_region_held_drew (S := fun w' => (∀ b o, b < w1.heap.size → w'.cell? ⟨b, o, none⟩ = w1.cell? ⟨b, o, none⟩) ∧ w1.heap.size ≤ w'.heap.size) (by kernel_rfl) ⟨fun _ _ _ => rfl, Nat.le_refl _⟩ ?_
        intro hHeld
        refine tkl 0 (.agg #[.int .i64 c, .int .i64 d]) rfl ?_ ?_
        · intro wx hSw; go_simp
        try simp only [Act.put, aS]
        refine tkl 1 (.pointer (some ⟨w.heap.size + 1, 3, none⟩)) rfl ?_ ?_
        · intro wx hSw; go_simp
        try simp only [Act.put, aS]
        refine tkl 2 (.slice (some ⟨bO, 0, none⟩) 2 kO) rfl ?_ ?_
        · intro wx hSw; go_simp
        try simp only [Act.put, aS]
        refine tkl 3 (.int .i64 1) rfl ?_ ?_
        · intro wx hSw; go_simp
        try simp only [Act.put, aS]
        refine tkl 4 (.pointer (some ⟨bO, 1, none⟩)) rfl ?_ ?_
        · intro wx hSw; go_simp
        try simp only [Act.put, aS]
        refine tkl 5 (.slice (some ⟨g, 0, none⟩) N cc) rfl ?_ ?_
        · intro wx hSw; go_simp
        try simp only [Act.put, aS]
        refine tkl 6 (.pointer (some ⟨w.heap.size + 1, 4, none⟩)) rfl ?_ ?_
        · intro wx hSw; go_simp
        try simp only [Act.put, aS]
        refine tkl 7 (.slice (some ⟨bX, 0, none⟩) 2 kX) rfl ?_ ?_
        · intro wx hSw; go_simp
        try simp only [Act.put, aS]
        refine tkl 8 (.int .i64 1) rfl ?_ ?_
        · intro wx hSw; go_simp
        try simp only [Act.put, aS]
        refine tkl 9 (.pointer (some ⟨bX, 1, none⟩)) rfl ?_ ?_
        · intro wx hSw; go_simp
        try simp only [Act.put, aS]
        refine tkl 10 (.int .i64 xn) rfl ?_ ?_
        · intro wx hSw; go_simp
        try simp only [Act.put, aS]
        refine rd1 11 rfl fun K hK => ?_
        go_simp
        go_wp2_with (go_at_call 118; refine (P8.plist_spec c d xn g 0 N cc Z hN _ lg1 ROWS.out).mono ?_; rintro e w2 ⟨rfl, hbw2⟩; rw [h1])
        refine hK.out _ _ (keepS (by assumption) hbw2) (fun hHeld => ?_)
        clear hK K
        try simp only [Act.put, aS]
        refine tkl 12 (.bool false) rfl ?_ ?_
        · intro wx hSw; go_simp
        try simp only [Act.put, aS]
        refine tkl 13 (.bool false) rfl ?_ ?_
        · intro wx hSw; go_simp
        try simp only [Act.put, aS]
        refine tkl 14 (.pointer (some ⟨w.heap.size + 1, 5, none⟩)) rfl ?_ ?_
        · intro wx hSw; go_simp
        try simp only [Act.put, aS]
        refine tkl 15 (.slice (some ⟨bI, 0, none⟩) 2 kI) rfl ?_ ?_
        · intro wx hSw; go_simp
        try simp only [Act.put, aS]
        refine tkl 16 (.int .i64 1) rfl ?_ ?_
        · intro wx hSw; go_simp
        try simp only [Act.put, aS]
        refine tkl 17 (.pointer (some ⟨bI, 1, none⟩)) rfl ?_ ?_
        · intro wx hSw; go_simp
        try simp only [Act.put, aS]
        refine tkl 18 (.int .i64 xi) rfl ?_ ?_
        · intro wx hSw; go_simp
        try simp only [Act.put, aS]
        refine rd1 19 rfl fun K hK => ?_
        go_simp
        go_wp2_with (go_at_call 69; refine (in_specB _ _ _ _).mono ?_; rintro e w4 ⟨rfl, hbw4⟩; rw [h2])
        refine hK.out _ _ (keepS (by assumption) hbw4) (fun hHeld => ?_)
        clear hK K
        try simp only [Act.put, aS]
        refine tkl 20 (.bool false) rfl ?_ ?_
        · intro wx hSw; go_simp
        try simp only [Act.put, aS]
        refine tkl 21 (.bool false) rfl ?_ ?_
        · intro wx hSw; go_simp
        try simp only [Act.put, aS]
        refine wpAnyH_done (by kernel_rfl) ?_ _
        have hb5 : Below w1.heap.size w1 w4 := bthen (bthen ((Below.refl _ _).drew) hbw2) hbw4
        clear hbw2 hbw4 ROWS lg1 a0 a1 a2 a3 a4 a5 m0 m1 lA lM lbO lbX lbI hX hI hO
        have B5 := hid (bthen B1.out hb5)
        have A5 := hid (A1.out.below (by omega) hb5)
        have M5 := hid (two_bl (by omega) hb5 M1.out)
        have z5 : w.heap.size + 2 ≤ w4.heap.size := Nat.le_trans z1 hb5.size
        clear hb5
        obtain ⟨a0, a1, a2, a3, a4, a5⟩ := A5.out.a6
        have m0 := M5.out.1
        have m1 := M5.out.2
        have lA : w.heap.size + 1 < w4.heap.size := by omega
        have lM : w.heap.size < w4.heap.size := by omega
        have lbO : bO < w4.heap.size := by omega
        have lbX : bX < w4.heap.size := by omega
        have lbI : bI < w4.heap.size := by omega
        have hX : w4.cell? ⟨bX, 1, none⟩ = some (.int .i64 xn) := (B5.out.cell (p := ⟨bX, _, none⟩) lX).trans hX0.out
        have hI : w4.cell? ⟨bI, 1, none⟩ = some (.int .i64 xi) := (B5.out.cell (p := ⟨bI, _, none⟩) lI).trans hI0.out
        have hO : w4.cell? ⟨bO, 1, none⟩ = some (.slice (some ⟨g, 0, none⟩) N cc) := (B5.out.cell (p := ⟨bO, _, none⟩) lO).trans hO0.out
        subst h3
        go_wp2
        go_ret
        exact ⟨by rw [E.out]; simp [hx], B5.out⟩
    · rw [if_neg h3] at E
      have h3' : (sideF c d VC 1 == -1) = false := by simpa using h3
      go_enter Tryz.func79, Tryz.ntmps79
      go_wp2_with fail
      obtain ⟨w0, e0⟩ : ∃ w0, w0 = ((w.alloc (.cells #[.int .i64 c, .int .i64 d] 38)).alloc (.cells #[.int .i64 VC, x1, .int .i64 VG, .slice (some ⟨bO, 0, none⟩) 2 kO, .slice (some ⟨bX, 0, none⟩) 2 kX, .slice (some ⟨bI, 0, none⟩) 2 kI] 35)) := ⟨_, rfl⟩
      have z0 : w.heap.size + 2 ≤ w0.heap.size := by rw [e0]; simp
      have B0 : Hid (Below w.heap.size w w0) := by rw [e0]; exact ((Below.refl _ _).alloc (by simp) _).alloc (by simp) _
      have A0 : Hid (Six w0 (w.heap.size + 1) [.int .i64 VC, x1, .int .i64 VG, .slice (some ⟨bO, 0, none⟩) 2 kO, .slice (some ⟨bX, 0, none⟩) 2 kX, .slice (some ⟨bI, 0, none⟩) 2 kI]) := by rw [e0]; exact six_box2 w _ 38 35 _ _ _ _ _ _
      have M0 : Hid (w0.cell? ⟨w.heap.size, 0, none⟩ = some (.int .i64 c) ∧ w0.cell? ⟨w.heap.size, 1, none⟩ = some (.int .i64 d)) := by rw [e0]; exact two_box w c d _
      rw [← e0]
      clear e0
      refine (plcSide_spec _ _ _ _ _).mono ?_
      rintro e w1 ⟨rfl, hb1⟩
      have B1 := hid (bthen B0.out hb1)
      have A1 := hid (A0.out.below (by omega) hb1)
      have M1 := hid (two_bl (by omega) hb1 M0.out)
      have z1 : w.heap.size + 2 ≤ w1.heap.size := Nat.le_trans z0 hb1.size
      clear hb1 A0 M0 B0
      obtain ⟨a0, a1, a2, a3, a4, a5⟩ := A1.out.a6
      have m0 := M1.out.1
      have m1 := M1.out.2
      have lA : w.heap.size + 1 < w1.heap.size := by omega
      have lM : w.heap.size < w1.heap.size := by omega
      have lbO : bO < w1.heap.size := by omega
      have lbX : bX < w1.heap.size := by omega
      have lbI : bI < w1.heap.size := by omega
      have hX : w1.cell? ⟨bX, 1, none⟩ = some (.int .i64 xn) := (B1.out.cell (p := ⟨bX, _, none⟩) lX).trans hX0.out
      have hI : w1.cell? ⟨bI, 1, none⟩ = some (.int .i64 xi) := (B1.out.cell (p := ⟨bI, _, none⟩) lI).trans hI0.out
      have hO : w1.cell? ⟨bO, 1, none⟩ = some (.slice (some ⟨g, 0, none⟩) N cc) := (B1.out.cell (p := ⟨bO, _, none⟩) lO).trans hO0.out
      have ROWS : Hid (∀ k j, k < N → j < 8 → w1.drew.cell? ⟨g, 0 + k * 8 + j, none⟩ = some (.int .i64 (Z k j))) := fun k j a1 a2 => (B1.out.cell (p := ⟨g, _, none⟩) lg).trans (HR.out k j a1 a2)
      have lg1 : g < w1.drew.heap.size := by show g < w1.heap.size; omega
      generalize hT : sideF c d VC 1 = T at *
      go_wp2
      refine wp_region_held_drew (S := fun w' => (∀ b o, b < w1.heap.size → w'.cell? ⟨b, o, none⟩ = w1.cell? ⟨b, o, none⟩) ∧ w1.heap.size ≤ w'.heap.size) (by kernel_rfl) ⟨fun _ _ _ => rfl, Nat.le_refl _⟩ ?_
      intro hHeld
      refine tkl 0 (.agg #[.int .i64 c, .int .i64 d]) rfl ?_ ?_
      · intro wx hSw; go_simp
      try simp only [Act.put, aS]
      refine tkl 1 (.pointer (some ⟨w.heap.size + 1, 3, none⟩)) rfl ?_ ?_
      · intro wx hSw; go_simp
      try simp only [Act.put, aS]
      refine tkl 2 (.slice (some ⟨bO, 0, none⟩) 2 kO) rfl ?_ ?_
      · intro wx hSw; go_simp
      try simp only [Act.put, aS]
      refine tkl 3 (.int .i64 1) rfl ?_ ?_
      · intro wx hSw; go_simp
      try simp only [Act.put, aS]
      refine tkl 4 (.pointer (some ⟨bO, 1, none⟩)) rfl ?_ ?_
      · intro wx hSw; go_simp
      try simp only [Act.put, aS]
      refine tkl 5 (.slice (some ⟨g, 0, none⟩) N cc) rfl ?_ ?_
      · intro wx hSw; go_simp
      try simp only [Act.put, aS]
      refine tkl 6 (.pointer (some ⟨w.heap.size + 1, 4, none⟩)) rfl ?_ ?_
      · intro wx hSw; go_simp
      try simp only [Act.put, aS]
      refine tkl 7 (.slice (some ⟨bX, 0, none⟩) 2 kX) rfl ?_ ?_
      · intro wx hSw; go_simp
      try simp only [Act.put, aS]
      refine tkl 8 (.int .i64 1) rfl ?_ ?_
      · intro wx hSw; go_simp
      try simp only [Act.put, aS]
      refine tkl 9 (.pointer (some ⟨bX, 1, none⟩)) rfl ?_ ?_
      · intro wx hSw; go_simp
      try simp only [Act.put, aS]
      refine tkl 10 (.int .i64 xn) rfl ?_ ?_
      · intro wx hSw; go_simp
      try simp only [Act.put, aS]
      refine rd1 11 rfl fun K hK => ?_
      go_simp
      go_wp2_with (go_at_call 118; refine (P8.plist_spec c d xn g 0 N cc Z hN _ lg1 ROWS.out).mono ?_; rintro e w2 ⟨rfl, hbw2⟩; rw [h1])
      refine hK.out _ _ (keepS (by assumption) hbw2) (fun hHeld => ?_)
      clear hK K
      try simp only [Act.put, aS]
      refine tkl 12 (.bool false) rfl ?_ ?_
      · intro wx hSw; go_simp
      try simp only [Act.put, aS]
      refine tkl 13 (.bool false) rfl ?_ ?_
      · intro wx hSw; go_simp
      try simp only [Act.put, aS]
      refine tkl 14 (.pointer (some ⟨w.heap.size + 1, 5, none⟩)) rfl ?_ ?_
      · intro wx hSw; go_simp
      try simp only [Act.put, aS]
      refine tkl 15 (.slice (some ⟨bI, 0, none⟩) 2 kI) rfl ?_ ?_
      · intro wx hSw; go_simp
      try simp only [Act.put, aS]
      refine tkl 16 (.int .i64 1) rfl ?_ ?_
      · intro wx hSw; go_simp
      try simp only [Act.put, aS]
      refine tkl 17 (.pointer (some ⟨bI, 1, none⟩)) rfl ?_ ?_
      · intro wx hSw; go_simp
      try simp only [Act.put, aS]
      refine tkl 18 (.int .i64 xi) rfl ?_ ?_
      · intro wx hSw; go_simp
      try simp only [Act.put, aS]
      refine rd1 19 rfl fun K hK => ?_
      go_simp
      go_wp2_with (go_at_call 69; refine (in_specB _ _ _ _).mono ?_; rintro e w4 ⟨rfl, hbw4⟩; rw [h2])
      refine hK.out _ _ (keepS (by assumption) hbw4) (fun hHeld => ?_)
      clear hK K
      try simp only [Act.put, aS]
      refine tkl 20 (.bool false) rfl ?_ ?_
      · intro wx hSw; go_simp
      try simp only [Act.put, aS]
      refine tkl 21 (.bool false) rfl ?_ ?_
      · intro wx hSw; go_simp
      try simp only [Act.put, aS]
      refine wpAnyH_done (by kernel_rfl) ?_ _
      have hb5 : Below w1.heap.size w1 w4 := bthen (bthen ((Below.refl _ _).drew) hbw2) hbw4
      clear hbw2 hbw4 ROWS lg1 a0 a1 a2 a3 a4 a5 m0 m1 lA lM lbO lbX lbI hX hI hO
      have B5 := hid (bthen B1.out hb5)
      have A5 := hid (A1.out.below (by omega) hb5)
      have M5 := hid (two_bl (by omega) hb5 M1.out)
      have z5 : w.heap.size + 2 ≤ w4.heap.size := Nat.le_trans z1 hb5.size
      clear hb5
      obtain ⟨a0, a1, a2, a3, a4, a5⟩ := A5.out.a6
      have m0 := M5.out.1
      have m1 := M5.out.2
      have lA : w.heap.size + 1 < w4.heap.size := by omega
      have lM : w.heap.size < w4.heap.size := by omega
      have lbO : bO < w4.heap.size := by omega
      have lbX : bX < w4.heap.size := by omega
      have lbI : bI < w4.heap.size := by omega
      have hX : w4.cell? ⟨bX, 1, none⟩ = some (.int .i64 xn) := (B5.out.cell (p := ⟨bX, _, none⟩) lX).trans hX0.out
      have hI : w4.cell? ⟨bI, 1, none⟩ = some (.int .i64 xi) := (B5.out.cell (p := ⟨bI, _, none⟩) lI).trans hI0.out
      have hO : w4.cell? ⟨bO, 1, none⟩ = some (.slice (some ⟨g, 0, none⟩) N cc) := (B5.out.cell (p := ⟨bO, _, none⟩) lO).trans hO0.out
      go_wp2
      go_loopw [8] (fun i wr => ∃ k : Nat, k ≤ N ∧ i = .int .i64 k ∧ allK (fun j => !(Z j 1 == 1 && cellF c d (Z j 3) != T)) k = true ∧ Below w4.heap.size w4 wr) (fun i _ => N - (intOf i).toNat)
      case atStart => exact ⟨0, Nat.zero_le _, rfl, rfl, Below.refl _ _⟩
      case round =>
        clear a0 a1 a2 a3 a4 a5 m0 m1 lA lM lbO lbX lbI hX hI hO
        obtain ⟨k, hk, rfl, hall, BR⟩ := hrel
        have HALL : Hid (allK (fun j => !(Z j 1 == 1 && cellF c d (Z j 3) != T)) k = true) := hall
        clear hall
        have hl3 := BR.size
        have lA : w.heap.size + 1 < wr.heap.size := by omega
        have lM : w.heap.size < wr.heap.size := by omega
        have lO' : bO < wr.heap.size := by omega
        have lg' : g < wr.heap.size := by omega
        have a3 : wr.cell? ⟨w.heap.size + 1, 3, none⟩ = some (.slice (some ⟨bO, 0, none⟩) 2 kO) := (BR.cell (p := ⟨w.heap.size + 1, 3, none⟩) (by show w.heap.size + 1 < _; omega)).trans (A5.out 3 (by decide)).1
        have hO : wr.cell? ⟨bO, 1, none⟩ = some (.slice (some ⟨g, 0, none⟩) N cc) := (BR.cell (p := ⟨bO, 1, none⟩) (by show bO < _; omega)).trans ((B5.out.cell (p := ⟨bO, _, none⟩) lO).trans hO0.out)
        by_cases hkn : k < N
        · have hkn' : (k : Int) < N := by omega
          have c0 : wr.cell? ⟨g, k * 8, none⟩ = some (.int .i64 (Z k 0)) := by have := (BR.cell (p := ⟨g, 0 + k * 8 + 0, none⟩) (by show g < _; omega)).trans ((B5.out.cell (p := ⟨g, 0 + k * 8 + 0, none⟩) lg).trans (HR.out k 0 hkn (by omega))); simpa using this
          have c1 : wr.cell? ⟨g, k * 8 + 1, none⟩ = some (.int .i64 (Z k 1)) := by have := (BR.cell (p := ⟨g, 0 + k * 8 + 1, none⟩) (by show g < _; omega)).trans ((B5.out.cell (p := ⟨g, 0 + k * 8 + 1, none⟩) lg).trans (HR.out k 1 hkn (by omega))); simpa using this
          have c2 : wr.cell? ⟨g, k * 8 + 2, none⟩ = some (.int .i64 (Z k 2)) := by have := (BR.cell (p := ⟨g, 0 + k * 8 + 2, none⟩) (by show g < _; omega)).trans ((B5.out.cell (p := ⟨g, 0 + k * 8 + 2, none⟩) lg).trans (HR.out k 2 hkn (by omega))); simpa using this
          have c3 : wr.cell? ⟨g, k * 8 + 3, none⟩ = some (.int .i64 (Z k 3)) := by have := (BR.cell (p := ⟨g, 0 + k * 8 + 3, none⟩) (by show g < _; omega)).trans ((B5.out.cell (p := ⟨g, 0 + k * 8 + 3, none⟩) lg).trans (HR.out k 3 hkn (by omega))); simpa using this
          have c4 : wr.cell? ⟨g, k * 8 + 4, none⟩ = some (.int .i64 (Z k 4)) := by have := (BR.cell (p := ⟨g, 0 + k * 8 + 4, none⟩) (by show g < _; omega)).trans ((B5.out.cell (p := ⟨g, 0 + k * 8 + 4, none⟩) lg).trans (HR.out k 4 hkn (by omega))); simpa using this
          have c5 : wr.cell? ⟨g, k * 8 + 5, none⟩ = some (.int .i64 (Z k 5)) := by have := (BR.cell (p := ⟨g, 0 + k * 8 + 5, none⟩) (by show g < _; omega)).trans ((B5.out.cell (p := ⟨g, 0 + k * 8 + 5, none⟩) lg).trans (HR.out k 5 hkn (by omega))); simpa using this
          have c6 : wr.cell? ⟨g, k * 8 + 6, none⟩ = some (.int .i64 (Z k 6)) := by have := (BR.cell (p := ⟨g, 0 + k * 8 + 6, none⟩) (by show g < _; omega)).trans ((B5.out.cell (p := ⟨g, 0 + k * 8 + 6, none⟩) lg).trans (HR.out k 6 hkn (by omega))); simpa using this
          have c7 : wr.cell? ⟨g, k * 8 + 7, none⟩ = some (.int .i64 (Z k 7)) := by have := (BR.cell (p := ⟨g, 0 + k * 8 + 7, none⟩) (by show g < _; omega)).trans ((B5.out.cell (p := ⟨g, 0 + k * 8 + 7, none⟩) lg).trans (HR.out k 7 hkn (by omega))); simpa using this
          have m0 : wr.cell? ⟨w.heap.size, 0, none⟩ = some (.int .i64 c) := (BR.cell (p := ⟨w.heap.size, 0, none⟩) (by show w.heap.size < _; omega)).trans M5.out.1
          have m1 : wr.cell? ⟨w.heap.size, 1, none⟩ = some (.int .i64 d) := (BR.cell (p := ⟨w.heap.size, 1, none⟩) (by show w.heap.size < _; omega)).trans M5.out.2
          have BR1 : Hid (Below w4.heap.size w4 (wr.alloc (.cells #[.int .i64 (Z k 0), .int .i64 (Z k 1), .int .i64 (Z k 2), .int .i64 (Z k 3), .int .i64 (Z k 4), .int .i64 (Z k 5), .int .i64 (Z k 6), .int .i64 (Z k 7)] 56))) := BR.alloc hl3 _
          cases hk1 : (Z k 1 == 1)
          · go_wp2
            go_roundw
            case rel => exact ⟨k + 1, by omega, by go_num, allK_step HALL.out (by simp [hk1]), BR1.out⟩
            case measure => simp [intOf]; omega
          · cases hp : (cellF c d (Z k 3) != T)
            · go_wp2_with fail
              refine (cell_spec _ _ _ _).mono ?_
              rintro e w6 ⟨rfl, hb6⟩
              go_wp2
              go_roundw
              case rel => exact ⟨k + 1, by omega, by go_num, allK_step HALL.out (by simp [hk1, hp]), bthen BR1.out hb6⟩
              case measure => simp [intOf]; omega
            · go_wp2_with fail
              refine (cell_spec _ _ _ _).mono ?_
              rintro e w6 ⟨rfl, hb6⟩
              go_wp2
              go_ret
              exact ⟨by rw [E.out, allK_stop hkn (by simp [hk1, hp])]; rfl, bthen B5.out (bthen BR1.out hb6)⟩
        · have : k = N := by omega
          subst this
          go_wp2
          go_ret
          exact ⟨by rw [E.out, HALL.out]; rfl, bthen B5.out BR⟩
end Go.Proofs.YthbkjfkkdaheoaaGreatDoor
