/- StoNew of the model; conditions: the list lies in memory. -/
import Derived.Test.YtiahmakaegnnfaaSto5
namespace Go.Proofs.Ytiahmakaegnnfaa
open Go.RowKit Go.Deep
set_option linter.unusedVariables false
theorem OwnC.wide {lo hi lo' hi' : Nat} {w : World} {v : Value} {V : CV} (h : OwnC lo hi w v V) (h1 : lo' ≤ lo) (h2 : hi ≤ hi') (h3 : hi' ≤ w.heap.size) : OwnC lo' hi' w v V := by
  obtain ⟨vW, vO, vX, vI, gW, gO, gX, gI, sl, xs, e, rW, rO, rX, rI, hd, hx1, hx2⟩ := h
  have wI : ∀ {v : Value} {n : Nat} {X : Nat → Int} {g : Nat}, RI lo hi w v n X g → RI lo' hi' w v n X g := fun r => by
    rcases r with r | ⟨c, a1, a2, a3, a4, a5⟩
    · exact .inl r
    · exact .inr ⟨c, a1, by omega, by omega, h3, a5⟩
  have wP : ∀ {v : Value} {n : Nat} {Z : Nat → Nat → Int} {g : Nat}, RP lo hi w v n Z g → RP lo' hi' w v n Z g := fun r => by
    rcases r with r | ⟨c, a1, a2, a3, a4, a5⟩
    · exact .inl r
    · exact .inr ⟨c, a1, by omega, by omega, h3, a5⟩
  refine ⟨vW, vO, vX, vI, gW, gO, gX, gI, sl, xs, e, ?_, ?_, wI rX, wI rI, hd, hx1, hx2⟩
  · rcases rW with r | ⟨c, a1, a2, a3, a4, a5⟩
    · exact .inl r
    · exact .inr ⟨c, a1, by omega, by omega, h3, a5⟩
  · rcases rO with r | ⟨c, a1, a2, a3, a4, a5⟩
    · exact .inl r
    · exact .inr ⟨c, a1, by omega, by omega, h3, fun k hk => ⟨(a5 k hk).1, wP (a5 k hk).2⟩⟩

set_option maxHeartbeats 4000000 in
theorem stoNew_spec (c d cell : Int) (b n cap : Nat) (Z : Nat → Nat → Int) (hn : n ≤ 1048576) (w : World) (hb : b < w.heap.size) (hr : ∀ k j, k < n → j < 5 → w.cell? ⟨b, 0 + k * 5 + j, none⟩ = some (.int .i64 (Z k j))) :
    Calls Try.prog 11 #[.agg #[.int .i64 c, .int .i64 d], .int .i64 cell, .slice (some ⟨b, 0, none⟩) n cap] w fun e w' => (∃ v, e = .returned v ∧ OwnS w.heap.size w'.heap.size w' v (newV c d cell Z n)) ∧ Below w.heap.size w w' := by
  have HR : Hid (∀ k j, k < n → j < 5 → w.cell? ⟨b, 0 + k * 5 + j, none⟩ = some (.int .i64 (Z k j))) := hr
  clear hr
  go_enter Try.func11, Try.ntmps11
  go_wp2_with fail
  obtain ⟨w0, e0⟩ : ∃ w0, w0 = (w.alloc (.cells #[.int .i64 c, .int .i64 d] 33)).alloc (.cells #[.int .i64 0, .int .i64 0, .slice none 0 0, .int .i64 0, .slice none 0 0, .slice none 0 0, .slice none 0 0, .slice none 0 0] 52) := ⟨_, rfl⟩
  have z0 : w.heap.size + 2 ≤ w0.heap.size := by rw [e0]; simp
  have B0 : Hid (Below w.heap.size w w0) := by rw [e0]; exact ((Below.refl _ _).alloc (by simp) _).alloc (by simp) _
  have R0 : Hid (Eight w0 (w.heap.size + 1) [.int .i64 0, .int .i64 0, .slice none 0 0, .int .i64 0, .slice none 0 0, .slice none 0 0, .slice none 0 0, .slice none 0 0]) := by rw [e0]; exact eight_box2 w _ 33 52 _ _ _ _ _ _ _ _
  have M0 : Hid (w0.cell? ⟨w.heap.size, 0, none⟩ = some (.int .i64 c) ∧ w0.cell? ⟨w.heap.size, 1, none⟩ = some (.int .i64 d)) := by rw [e0]; exact two_box w c d _
  rw [← e0]
  clear e0
  refine (new_spec2 c d cell b n cap Z hn _ (by omega) (fun k j a1 a2 => (B0.out.cell (p := ⟨b, _, none⟩) hb).trans (HR.out k j a1 a2))).mono ?_
  rintro e w1 ⟨⟨v, rfl, hv, hN⟩, hb1⟩
  have B1 : Hid (Below w.heap.size w w1) := bthen B0.out hb1
  have R1 : Hid (Eight w1 (w.heap.size + 1) [.int .i64 0, .int .i64 0, .slice none 0 0, .int .i64 0, .slice none 0 0, .slice none 0 0, .slice none 0 0, .slice none 0 0]) := R0.out.below (by omega) hb1
  have M1 : Hid (w1.cell? ⟨w.heap.size, 0, none⟩ = some (.int .i64 c) ∧ w1.cell? ⟨w.heap.size, 1, none⟩ = some (.int .i64 d)) := ⟨(hb1.cell (p := ⟨w.heap.size, 0, none⟩) (by show w.heap.size < _; omega)).trans M0.out.1, (hb1.cell (p := ⟨w.heap.size, 1, none⟩) (by show w.heap.size < _; omega)).trans M0.out.2⟩
  have z1 : w.heap.size + 2 ≤ w1.heap.size := Nat.le_trans z0 hb1.size
  have hlo : w.heap.size + 2 ≤ w0.heap.size := z0
  obtain ⟨lo, elo⟩ : ∃ lo, lo = w0.heap.size := ⟨_, rfl⟩
  rw [← elo] at hv hlo
  clear elo hb1 B0 R0 M0 z0
  rcases hN with ⟨hF, rfl⟩ | ⟨hT, aW, kW, g1, g2, g3, rfl, hW, l2, l3, hP, hX, hI⟩
  · have EV : Hid (newV c d cell Z n = ⟨0, 0, fun _ _ => 0, 0, 0, fun _ => 0, fun _ _ _ => 0, 0, fun _ => 0, 0, fun _ => 0⟩) := by show newV c d cell Z n = _; unfold newV; rw [hF]; rfl
    clear hF hv
    have m0 : w1.cell? ⟨w.heap.size, 0, none⟩ = some (.int .i64 c) := M1.out.1
    have m1 : w1.cell? ⟨w.heap.size, 1, none⟩ = some (.int .i64 d) := M1.out.2
    have lM : w.heap.size < w1.heap.size := by omega
    go_wp2_with fail
    clear m0 m1 lM
    obtain ⟨w2, e2⟩ : ∃ w2, w2 = w1.alloc (.cells #[.int .i64 0, .slice none 0 0, .int .i64 0, .slice none 0 0, .slice none 0 0, .slice none 0 0] 49) := ⟨_, rfl⟩
    have hb2 : Below w1.heap.size w1 w2 := by rw [e2]; exact (Below.refl _ _).alloc (Nat.le_refl _) _
    have S2 : Hid (Six w2 w1.heap.size [.int .i64 0, .slice none 0 0, .int .i64 0, .slice none 0 0, .slice none 0 0, .slice none 0 0]) := by rw [e2]; exact six_new w1 49 (.int .i64 0) (.slice none 0 0) (.int .i64 0) (.slice none 0 0) (.slice none 0 0) (.slice none 0 0)
    have y2 : w1.heap.size < w2.heap.size := by rw [e2]; simp
    rw [← e2]
    clear e2
    have B2 : Hid (Below w.heap.size w w2) := bthen B1.out hb2
    have R2 : Hid (Eight w2 (w.heap.size + 1) [.int .i64 0, .int .i64 0, .slice none 0 0, .int .i64 0, .slice none 0 0, .slice none 0 0, .slice none 0 0, .slice none 0 0]) := R1.out.below (by omega) hb2
    have M2 : Hid (w2.cell? ⟨w.heap.size, 0, none⟩ = some (.int .i64 c) ∧ w2.cell? ⟨w.heap.size, 1, none⟩ = some (.int .i64 d)) := ⟨(hb2.cell (p := ⟨w.heap.size, 0, none⟩) (by show w.heap.size < _; omega)).trans M1.out.1, (hb2.cell (p := ⟨w.heap.size, 1, none⟩) (by show w.heap.size < _; omega)).trans M1.out.2⟩
    have z2 : w.heap.size + 2 ≤ w2.heap.size := Nat.le_trans z1 hb2.size
    clear B1 R1 M1
    refine (cllOk_zero c d _).mono ?_
    rintro e w3 ⟨rfl, hb3⟩
    have B3 : Hid (Below w.heap.size w w3) := bthen B2.out hb3
    have R3 : Hid (Eight w3 (w.heap.size + 1) [.int .i64 0, .int .i64 0, .slice none 0 0, .int .i64 0, .slice none 0 0, .slice none 0 0, .slice none 0 0, .slice none 0 0]) := R2.out.below (by omega) hb3
    have M3 : Hid (w3.cell? ⟨w.heap.size, 0, none⟩ = some (.int .i64 c) ∧ w3.cell? ⟨w.heap.size, 1, none⟩ = some (.int .i64 d)) := ⟨(hb3.cell (p := ⟨w.heap.size, 0, none⟩) (by show w.heap.size < _; omega)).trans M2.out.1, (hb3.cell (p := ⟨w.heap.size, 1, none⟩) (by show w.heap.size < _; omega)).trans M2.out.2⟩
    have z3 : w.heap.size + 2 ≤ w3.heap.size := Nat.le_trans z2 hb3.size
    clear hb2 hb3 B2 R2 M2 S2
    have r0 := (R3.out 0 (by decide)).1
    have q0 := (R3.out 0 (by decide)).2
    have r1 := (R3.out 1 (by decide)).1
    have q1 := (R3.out 1 (by decide)).2
    have r2 := (R3.out 2 (by decide)).1
    have q2 := (R3.out 2 (by decide)).2
    have r3 := (R3.out 3 (by decide)).1
    have q3 := (R3.out 3 (by decide)).2
    have r4 := (R3.out 4 (by decide)).1
    have q4 := (R3.out 4 (by decide)).2
    have r5 := (R3.out 5 (by decide)).1
    have q5 := (R3.out 5 (by decide)).2
    have r6 := (R3.out 6 (by decide)).1
    have q6 := (R3.out 6 (by decide)).2
    have r7 := (R3.out 7 (by decide)).1
    have q7 := (R3.out 7 (by decide)).2
    simp only [List.getD, List.getElem?_cons_zero, List.getElem?_cons_succ, Option.getD_some] at r0 r1 r2 r3 r4 r5 r6 r7
    have lr : w.heap.size + 1 < w3.heap.size := by omega
    go_wp2
    refine bodyPost_ret (v := .agg #[.int .i64 0, .int .i64 0, .slice none 0 0, .int .i64 0, .slice none 0 0, .slice none 0 0, .slice none 0 0, .slice none 0 0]) (by simp [results, Try.results11, go_sem, r0, r1, r2, r3, r4, r5, r6, r7]) rfl ?_
    refine ⟨⟨_, rfl, ?_⟩, below_put8 B3.out (Nat.le_succ w.heap.size) (.int .i64 0) (.int .i64 0) (.slice none 0 0) (.int .i64 0) (.slice none 0 0) (.slice none 0 0) (.slice none 0 0) (.slice none 0 0)⟩
    rw [EV.out]
    exact ⟨_, _, _, _, rfl, nothing_own _ _ _⟩
  · have EV : Hid (newV c d cell Z n = ⟨cell, (inL c d cell Z n).length, fun i j => Z (inL c d cell Z n)[i]! j, 0, 2, fun _ => 0, fun _ _ _ => 0, 2, fun _ => 0, 2, fun _ => 0⟩) := by show newV c d cell Z n = _; unfold newV; rw [hT]; rfl
    have HCL : Hid (cllB c d ⟨cell, (inL c d cell Z n).length, fun i j => Z (inL c d cell Z n)[i]! j, 0, 2, fun _ => 0, fun _ _ _ => 0, 2, fun _ => 0, 2, fun _ => 0⟩ = true) := by rw [← EV.out]; show cllB c d (newV c d cell Z n) = true; rw [cllB_new, hT]
    have HV : Hid (OwnC lo w1.heap.size w1 (.agg #[.int .i64 cell, .slice aW (inL c d cell Z n).length kW, .int .i64 0, .slice (some ⟨g1, 0, none⟩) 2 2, .slice (some ⟨g2, 0, none⟩) 2 2, .slice (some ⟨g3, 0, none⟩) 2 2]) (newV c d cell Z n)) := hv
    have HWW : Hid (HW0 w1 aW (inL c d cell Z n).length (fun i j => Z (inL c d cell Z n)[i]! j)) := hW
    have HP : Hid (OwnP w1 g1 (fun _ => 0) (fun _ _ _ => 0)) := hP
    have HX : Hid (Own1 w1 g2 2 (fun _ => 0) 2) := hX
    have HI : Hid (Own1 w1 g3 2 (fun _ => 0) 2) := hI
    obtain ⟨hH, hA⟩ : hasB c d cell = true ∧ allB c d Z n = true := by simpa using hT
    obtain ⟨h0, h1⟩ : okB c d = true ∧ inB cell 0 (c - 1) = true := by simpa [hasB] using hH
    clear hv hW hP hX hI hT hH
    have m0 : w1.cell? ⟨w.heap.size, 0, none⟩ = some (.int .i64 c) := M1.out.1
    have m1 : w1.cell? ⟨w.heap.size, 1, none⟩ = some (.int .i64 d) := M1.out.2
    have lM : w.heap.size < w1.heap.size := by omega
    go_wp2_with fail
    clear m0 m1 lM
    obtain ⟨w2, e2⟩ : ∃ w2, w2 = w1.alloc (.cells #[.int .i64 cell, .slice aW (inL c d cell Z n).length kW, .int .i64 0, .slice (some ⟨g1, 0, none⟩) 2 2, .slice (some ⟨g2, 0, none⟩) 2 2, .slice (some ⟨g3, 0, none⟩) 2 2] 49) := ⟨_, rfl⟩
    have hb2 : Below w1.heap.size w1 w2 := by rw [e2]; exact (Below.refl _ _).alloc (Nat.le_refl _) _
    have S2 : Hid (Six w2 w1.heap.size [.int .i64 cell, .slice aW (inL c d cell Z n).length kW, .int .i64 0, .slice (some ⟨g1, 0, none⟩) 2 2, .slice (some ⟨g2, 0, none⟩) 2 2, .slice (some ⟨g3, 0, none⟩) 2 2]) := by rw [e2]; exact six_new w1 49 (.int .i64 cell) (.slice aW (inL c d cell Z n).length kW) (.int .i64 0) (.slice (some ⟨g1, 0, none⟩) 2 2) (.slice (some ⟨g2, 0, none⟩) 2 2) (.slice (some ⟨g3, 0, none⟩) 2 2)
    have y2 : w1.heap.size < w2.heap.size := by rw [e2]; simp
    rw [← e2]
    clear e2
    have B2 : Hid (Below w.heap.size w w2) := bthen B1.out hb2
    have R2 : Hid (Eight w2 (w.heap.size + 1) [.int .i64 0, .int .i64 0, .slice none 0 0, .int .i64 0, .slice none 0 0, .slice none 0 0, .slice none 0 0, .slice none 0 0]) := R1.out.below (by omega) hb2
    have M2 : Hid (w2.cell? ⟨w.heap.size, 0, none⟩ = some (.int .i64 c) ∧ w2.cell? ⟨w.heap.size, 1, none⟩ = some (.int .i64 d)) := ⟨(hb2.cell (p := ⟨w.heap.size, 0, none⟩) (by show w.heap.size < _; omega)).trans M1.out.1, (hb2.cell (p := ⟨w.heap.size, 1, none⟩) (by show w.heap.size < _; omega)).trans M1.out.2⟩
    have z2 : w.heap.size + 2 ≤ w2.heap.size := Nat.le_trans z1 hb2.size
    have V2 : Hid (OwnC lo w1.heap.size w2 (.agg #[.int .i64 cell, .slice aW (inL c d cell Z n).length kW, .int .i64 0, .slice (some ⟨g1, 0, none⟩) 2 2, .slice (some ⟨g2, 0, none⟩) 2 2, .slice (some ⟨g3, 0, none⟩) 2 2]) (newV c d cell Z n)) := HV.out.below (Nat.le_refl _) hb2
    clear B1 R1 M1 HV
    refine (cllOk_spec_any c d cell 0 aW g1 g2 g3 kW 2 2 2 (inL c d cell Z n).length (fun i j => Z (inL c d cell Z n)[i]! j) (fun _ => 0) (fun _ _ _ => 0) (fun _ => 0) (fun _ => 0) (Nat.le_trans (inL_len c d cell Z n) hn) (fun _ _ => by show 0 ≤ 1048576; omega) w2 (hW_below HWW.out hb2) (by have := HP.out.1; omega) (by omega) (by omega) (ownP_below HP.out hb2) (own1_below HX.out l2 hb2) (own1_below HI.out l3 hb2) h0 h1 (allB_inL hA) rfl).mono ?_
    rintro e w3 ⟨rfl, hb3⟩
    rw [HCL.out]
    have B3 : Hid (Below w.heap.size w w3) := bthen B2.out hb3
    have R3 : Hid (Eight w3 (w.heap.size + 1) [.int .i64 0, .int .i64 0, .slice none 0 0, .int .i64 0, .slice none 0 0, .slice none 0 0, .slice none 0 0, .slice none 0 0]) := R2.out.below (by omega) hb3
    have M3 : Hid (w3.cell? ⟨w.heap.size, 0, none⟩ = some (.int .i64 c) ∧ w3.cell? ⟨w.heap.size, 1, none⟩ = some (.int .i64 d)) := ⟨(hb3.cell (p := ⟨w.heap.size, 0, none⟩) (by show w.heap.size < _; omega)).trans M2.out.1, (hb3.cell (p := ⟨w.heap.size, 1, none⟩) (by show w.heap.size < _; omega)).trans M2.out.2⟩
    have z3 : w.heap.size + 2 ≤ w3.heap.size := Nat.le_trans z2 hb3.size
    have S3 : Hid (Six w3 w1.heap.size [.int .i64 cell, .slice aW (inL c d cell Z n).length kW, .int .i64 0, .slice (some ⟨g1, 0, none⟩) 2 2, .slice (some ⟨g2, 0, none⟩) 2 2, .slice (some ⟨g3, 0, none⟩) 2 2]) := S2.out.below y2 hb3
    have V3 : Hid (OwnC lo w1.heap.size w3 (.agg #[.int .i64 cell, .slice aW (inL c d cell Z n).length kW, .int .i64 0, .slice (some ⟨g1, 0, none⟩) 2 2, .slice (some ⟨g2, 0, none⟩) 2 2, .slice (some ⟨g3, 0, none⟩) 2 2]) (newV c d cell Z n)) := V2.out.below (Nat.le_of_lt y2) hb3
    have y3 : w1.heap.size < w3.heap.size := Nat.lt_of_lt_of_le y2 hb3.size
    clear hb2 hb3 B2 R2 M2 S2 V2 HWW HP HX HI HCL
    have r0 := (R3.out 0 (by decide)).1
    have q0 := (R3.out 0 (by decide)).2
    have r1 := (R3.out 1 (by decide)).1
    have q1 := (R3.out 1 (by decide)).2
    have r2 := (R3.out 2 (by decide)).1
    have q2 := (R3.out 2 (by decide)).2
    have r3 := (R3.out 3 (by decide)).1
    have q3 := (R3.out 3 (by decide)).2
    have r4 := (R3.out 4 (by decide)).1
    have q4 := (R3.out 4 (by decide)).2
    have r5 := (R3.out 5 (by decide)).1
    have q5 := (R3.out 5 (by decide)).2
    have r6 := (R3.out 6 (by decide)).1
    have q6 := (R3.out 6 (by decide)).2
    have r7 := (R3.out 7 (by decide)).1
    have q7 := (R3.out 7 (by decide)).2
    simp only [List.getD, List.getElem?_cons_zero, List.getElem?_cons_succ, Option.getD_some] at r0 r1 r2 r3 r4 r5 r6 r7
    have lr : w.heap.size + 1 < w3.heap.size := by omega
    have s0 : w3.cell? ⟨w1.heap.size, 0, none⟩ = some (.int .i64 cell) := (S3.out 0 (by decide)).1
    have s1 : w3.cell? ⟨w1.heap.size, 1, none⟩ = some (.slice aW (inL c d cell Z n).length kW) := (S3.out 1 (by decide)).1
    have s2 : w3.cell? ⟨w1.heap.size, 2, none⟩ = some (.int .i64 0) := (S3.out 2 (by decide)).1
    have s3 : w3.cell? ⟨w1.heap.size, 3, none⟩ = some (.slice (some ⟨g1, 0, none⟩) 2 2) := (S3.out 3 (by decide)).1
    have s4 : w3.cell? ⟨w1.heap.size, 4, none⟩ = some (.slice (some ⟨g2, 0, none⟩) 2 2) := (S3.out 4 (by decide)).1
    have s5 : w3.cell? ⟨w1.heap.size, 5, none⟩ = some (.slice (some ⟨g3, 0, none⟩) 2 2) := (S3.out 5 (by decide)).1
    have hne : ¬ w.heap.size + 1 = w1.heap.size := by omega
    go_wp2
    refine bodyPost_ret (v := .agg #[.int .i64 0, .int .i64 cell, .slice aW (inL c d cell Z n).length kW, .int .i64 0, .slice (some ⟨g1, 0, none⟩) 2 2, .slice (some ⟨g2, 0, none⟩) 2 2, .slice (some ⟨g3, 0, none⟩) 2 2, .slice none 0 0]) (by simp [results, Try.results11, go_sem, r0, r1, r2, r3, r4, r5, r6, r7]) rfl ?_
    refine ⟨⟨_, rfl, ?_⟩, below_put8 B3.out (Nat.le_succ w.heap.size) (.int .i64 0) (.int .i64 cell) (.slice aW (inL c d cell Z n).length kW) (.int .i64 0) (.slice (some ⟨g1, 0, none⟩) 2 2) (.slice (some ⟨g2, 0, none⟩) 2 2) (.slice (some ⟨g3, 0, none⟩) 2 2) (.slice none 0 0)⟩
    have hs := size_put8 w3 (w.heap.size + 1) (.int .i64 0) (.int .i64 cell) (.slice aW (inL c d cell Z n).length kW) (.int .i64 0) (.slice (some ⟨g1, 0, none⟩) 2 2) (.slice (some ⟨g2, 0, none⟩) 2 2) (.slice (some ⟨g3, 0, none⟩) 2 2) (.slice none 0 0)
    have hV := V3.out
    rw [EV.out] at hV ⊢
    exact ⟨_, _, _, _, rfl, (hV.sm (Nat.le_of_eq hs.symm) (fun b h1 h2 => sm_put8 (by omega) (.int .i64 0) (.int .i64 cell) (.slice aW (inL c d cell Z n).length kW) (.int .i64 0) (.slice (some ⟨g1, 0, none⟩) 2 2) (.slice (some ⟨g2, 0, none⟩) 2 2) (.slice (some ⟨g3, 0, none⟩) 2 2) (.slice none 0 0))).wide (by omega) (by show w1.heap.size ≤ (put8 w3 (w.heap.size + 1) (.int .i64 0) (.int .i64 cell) (.slice aW (inL c d cell Z n).length kW) (.int .i64 0) (.slice (some ⟨g1, 0, none⟩) 2 2) (.slice (some ⟨g2, 0, none⟩) 2 2) (.slice (some ⟨g3, 0, none⟩) 2 2) (.slice none 0 0)).heap.size; omega) (Nat.le_refl _)⟩
end Go.Proofs.Ytiahmakaegnnfaa
