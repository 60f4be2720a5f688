/- CllNew of the model: what its answer looks like; conditions: the list lies in memory. -/
import Derived.Test.YtiahmakaegnnfaaSto4
import Derived.Test.YtiahmakaegnnfaaCNewS
namespace Go.Proofs.Ytiahmakaegnnfaa
open Go.RowKit Go.Deep
set_option linter.unusedVariables false
/-- What the model's CllNew hands back: nothing, or a cell with two sides. -/
def NewAt (c d cell : Int) (Z : Nat → Nat → Int) (n : Nat) (w : World) (v : Value) : Prop :=
  ((hasB c d cell && allB c d Z n) = false ∧ v = .agg #[.int .i64 0, .slice none 0 0, .int .i64 0, .slice none 0 0, .slice none 0 0, .slice none 0 0]) ∨
  ((hasB c d cell && allB c d Z n) = true ∧ ∃ aW kW g1 g2 g3, v = .agg #[.int .i64 cell, .slice aW (inL c d cell Z n).length kW, .int .i64 0, .slice (some ⟨g1, 0, none⟩) 2 2, .slice (some ⟨g2, 0, none⟩) 2 2, .slice (some ⟨g3, 0, none⟩) 2 2] ∧
    HW0 w aW (inL c d cell Z n).length (fun i j => Z (inL c d cell Z n)[i]! j) ∧ g2 < w.heap.size ∧ g3 < w.heap.size ∧ OwnP w g1 (fun _ => 0) (fun _ _ _ => 0) ∧ Own1 w g2 2 (fun _ => 0) 2 ∧ Own1 w g3 2 (fun _ => 0) 2)

set_option maxRecDepth 20000 in
set_option maxHeartbeats 4000000 in
theorem new_spec2 (c d cell : Int) (b n cap : Nat) (Z : Nat → Nat → Int) (hn : n ≤ 1048576) (w : World) (hb : b < w.heap.size) (hr : ∀ k j, k < n → j < 5 → w.cell? ⟨b, 0 + k * 5 + j, none⟩ = some (.int .i64 (Z k j))) :
    Calls Try.prog 36 #[.agg #[.int .i64 c, .int .i64 d], .int .i64 cell, .slice (some ⟨b, 0, none⟩) n cap] w fun e w' => (∃ v, e = .returned v ∧ OwnC w.heap.size w'.heap.size w' v (newV c d cell Z n) ∧ NewAt c d cell Z n w' v) ∧ Below w.heap.size w w' := by
  have HR : Hid (∀ k j, k < n → j < 5 → w.cell? ⟨b, 0 + k * 5 + j, none⟩ = some (.int .i64 (Z k j))) := hr
  clear hr
  obtain ⟨i5, hi5, hzz⟩ := Option.map_eq_some_iff.1 Try.info36
  simp only [Prod.mk.injEq] at hzz
  obtain ⟨hz50, hz51, hz52⟩ := hzz
  cases h0 : okB c d
  · have h01 : hasB c d cell = false := by simp [hasB, h0]
    have E : Hid (newV c d cell Z n = ⟨0, 0, fun _ _ => 0, 0, 0, fun _ => 0, fun _ _ _ => 0, 0, fun _ => 0, 0, fun _ => 0⟩) := by show newV c d cell Z n = _; unfold newV; rw [h01]; rfl
    clear h01
    go_enter Try.func36, Try.ntmps36
    go_wp2_with fail
    obtain ⟨w0, e0⟩ : ∃ w0, w0 = (w.alloc (.cells #[.int .i64 c, .int .i64 d] 33)).alloc (.cells #[.int .i64 0, .slice none 0 0, .int .i64 0, .slice none 0 0, .slice none 0 0, .slice none 0 0] 49) := ⟨_, rfl⟩
    have z0 : w.heap.size + 2 ≤ w0.heap.size := by rw [e0]; simp
    have B0 : Hid (Below w.heap.size w w0) := by rw [e0]; exact ((Below.refl _ _).alloc (by simp) _).alloc (by simp) _
    have M0 : Hid (w0.cell? ⟨w.heap.size, 0, none⟩ = some (.int .i64 c) ∧ w0.cell? ⟨w.heap.size, 1, none⟩ = some (.int .i64 d)) := by rw [e0]; exact two_box w c d _
    have R0 : Hid (Six w0 (w.heap.size + 1) [.int .i64 0, .slice none 0 0, .int .i64 0, .slice none 0 0, .slice none 0 0, .slice none 0 0]) := by rw [e0]; exact six_box2 w _ 33 49 _ _ _ _ _ _
    rw [← e0]
    clear e0
    refine (ok_spec _ _ _).mono ?_
    rintro e w1 ⟨rfl, hb1⟩
    rw [h0]
    have B1 : Hid (Below w.heap.size w w1) := bthen B0.out hb1
    have M1 : Hid (w1.cell? ⟨w.heap.size, 0, none⟩ = some (.int .i64 c) ∧ w1.cell? ⟨w.heap.size, 1, none⟩ = some (.int .i64 d)) := ⟨(hb1.cell (p := ⟨w.heap.size, 0, none⟩) (by show w.heap.size < _; omega)).trans M0.out.1, (hb1.cell (p := ⟨w.heap.size, 1, none⟩) (by show w.heap.size < _; omega)).trans M0.out.2⟩
    have R1 : Hid (Six w1 (w.heap.size + 1) [.int .i64 0, .slice none 0 0, .int .i64 0, .slice none 0 0, .slice none 0 0, .slice none 0 0]) := R0.out.below (by omega) hb1
    have z1 : w.heap.size + 2 ≤ w1.heap.size := Nat.le_trans z0 hb1.size
    clear hb1 B0 M0 R0
    have m0 : w1.cell? ⟨w.heap.size, 0, none⟩ = some (.int .i64 c) := M1.out.1
    have m1 : w1.cell? ⟨w.heap.size, 1, none⟩ = some (.int .i64 d) := M1.out.2
    have lM : w.heap.size < w1.heap.size := by omega
    have r0 := (R1.out 0 (by decide)).1
    have q0 := (R1.out 0 (by decide)).2
    have r1 := (R1.out 1 (by decide)).1
    have q1 := (R1.out 1 (by decide)).2
    have r2 := (R1.out 2 (by decide)).1
    have q2 := (R1.out 2 (by decide)).2
    have r3 := (R1.out 3 (by decide)).1
    have q3 := (R1.out 3 (by decide)).2
    have r4 := (R1.out 4 (by decide)).1
    have q4 := (R1.out 4 (by decide)).2
    have r5 := (R1.out 5 (by decide)).1
    have q5 := (R1.out 5 (by decide)).2
    simp only [List.getD, List.getElem?_cons_zero, List.getElem?_cons_succ, Option.getD_some] at r0 r1 r2 r3 r4 r5
    have lr : w.heap.size + 1 < w1.heap.size := by omega
    go_wp2
    refine bodyPost_ret (v := .agg #[.int .i64 0, .slice none 0 0, .int .i64 0, .slice none 0 0, .slice none 0 0, .slice none 0 0]) (by simp [results, Try.results36, go_sem, r0, r1, r2, r3, r4, r5]) rfl ?_
    exact ⟨⟨_, rfl, by rw [E.out]; exact nothing_own _ _ _, .inl ⟨by simp [hasB, h0], rfl⟩⟩, below_put6 B1.out (Nat.le_succ w.heap.size) _ _ _ _ _ _⟩
  obtain ⟨x1, x2, x3, x4⟩ := okB_bounds h0
  cases h1 : inB cell 0 (c - 1)
  · have h01 : hasB c d cell = false := by simp [hasB, h0, h1]
    have E : Hid (newV c d cell Z n = ⟨0, 0, fun _ _ => 0, 0, 0, fun _ => 0, fun _ _ _ => 0, 0, fun _ => 0, 0, fun _ => 0⟩) := by show newV c d cell Z n = _; unfold newV; rw [h01]; rfl
    clear h01
    go_enter Try.func36, Try.ntmps36
    go_wp2_with fail
    obtain ⟨w0, e0⟩ : ∃ w0, w0 = (w.alloc (.cells #[.int .i64 c, .int .i64 d] 33)).alloc (.cells #[.int .i64 0, .slice none 0 0, .int .i64 0, .slice none 0 0, .slice none 0 0, .slice none 0 0] 49) := ⟨_, rfl⟩
    have z0 : w.heap.size + 2 ≤ w0.heap.size := by rw [e0]; simp
    have B0 : Hid (Below w.heap.size w w0) := by rw [e0]; exact ((Below.refl _ _).alloc (by simp) _).alloc (by simp) _
    have M0 : Hid (w0.cell? ⟨w.heap.size, 0, none⟩ = some (.int .i64 c) ∧ w0.cell? ⟨w.heap.size, 1, none⟩ = some (.int .i64 d)) := by rw [e0]; exact two_box w c d _
    have R0 : Hid (Six w0 (w.heap.size + 1) [.int .i64 0, .slice none 0 0, .int .i64 0, .slice none 0 0, .slice none 0 0, .slice none 0 0]) := by rw [e0]; exact six_box2 w _ 33 49 _ _ _ _ _ _
    rw [← e0]
    clear e0
    refine (ok_spec _ _ _).mono ?_
    rintro e w1 ⟨rfl, hb1⟩
    rw [h0]
    have B1 : Hid (Below w.heap.size w w1) := bthen B0.out hb1
    have M1 : Hid (w1.cell? ⟨w.heap.size, 0, none⟩ = some (.int .i64 c) ∧ w1.cell? ⟨w.heap.size, 1, none⟩ = some (.int .i64 d)) := ⟨(hb1.cell (p := ⟨w.heap.size, 0, none⟩) (by show w.heap.size < _; omega)).trans M0.out.1, (hb1.cell (p := ⟨w.heap.size, 1, none⟩) (by show w.heap.size < _; omega)).trans M0.out.2⟩
    have R1 : Hid (Six w1 (w.heap.size + 1) [.int .i64 0, .slice none 0 0, .int .i64 0, .slice none 0 0, .slice none 0 0, .slice none 0 0]) := R0.out.below (by omega) hb1
    have z1 : w.heap.size + 2 ≤ w1.heap.size := Nat.le_trans z0 hb1.size
    clear hb1 B0 M0 R0
    have m0 : w1.cell? ⟨w.heap.size, 0, none⟩ = some (.int .i64 c) := M1.out.1
    have m1 : w1.cell? ⟨w.heap.size, 1, none⟩ = some (.int .i64 d) := M1.out.2
    have lM : w.heap.size < w1.heap.size := by omega
    go_wp2_with fail
    refine (in_spec _ _ _ _).mono ?_
    rintro e w2 ⟨rfl, e2⟩
    rw [e2, h1]
    clear e2 w2
    have r0 := (R1.out 0 (by decide)).1
    have q0 := (R1.out 0 (by decide)).2
    have r1 := (R1.out 1 (by decide)).1
    have q1 := (R1.out 1 (by decide)).2
    have r2 := (R1.out 2 (by decide)).1
    have q2 := (R1.out 2 (by decide)).2
    have r3 := (R1.out 3 (by decide)).1
    have q3 := (R1.out 3 (by decide)).2
    have r4 := (R1.out 4 (by decide)).1
    have q4 := (R1.out 4 (by decide)).2
    have r5 := (R1.out 5 (by decide)).1
    have q5 := (R1.out 5 (by decide)).2
    simp only [List.getD, List.getElem?_cons_zero, List.getElem?_cons_succ, Option.getD_some] at r0 r1 r2 r3 r4 r5
    have lr : w.heap.size + 1 < w1.heap.size := by omega
    go_wp2
    refine bodyPost_ret (v := .agg #[.int .i64 0, .slice none 0 0, .int .i64 0, .slice none 0 0, .slice none 0 0, .slice none 0 0]) (by simp [results, Try.results36, go_sem, r0, r1, r2, r3, r4, r5]) rfl ?_
    exact ⟨⟨_, rfl, by rw [E.out]; exact nothing_own _ _ _, .inl ⟨by simp [hasB, h0, h1], rfl⟩⟩, below_put6 B1.out (Nat.le_succ w.heap.size) _ _ _ _ _ _⟩
  have h01 : hasB c d cell = true := by simp [hasB, h0, h1]
  have H01 : Hid (hasB c d cell = true) := h01
  clear h01
  cases h2 : allB c d Z n
  · have E : Hid (newV c d cell Z n = ⟨0, 0, fun _ _ => 0, 0, 0, fun _ => 0, fun _ _ _ => 0, 0, fun _ => 0, 0, fun _ => 0⟩) := by show newV c d cell Z n = _; unfold newV; rw [H01.out, h2]; rfl
    go_enter Try.func36, Try.ntmps36
    go_wp2_with fail
    obtain ⟨w0, e0⟩ : ∃ w0, w0 = (w.alloc (.cells #[.int .i64 c, .int .i64 d] 33)).alloc (.cells #[.int .i64 0, .slice none 0 0, .int .i64 0, .slice none 0 0, .slice none 0 0, .slice none 0 0] 49) := ⟨_, rfl⟩
    have z0 : w.heap.size + 2 ≤ w0.heap.size := by rw [e0]; simp
    have B0 : Hid (Below w.heap.size w w0) := by rw [e0]; exact ((Below.refl _ _).alloc (by simp) _).alloc (by simp) _
    have M0 : Hid (w0.cell? ⟨w.heap.size, 0, none⟩ = some (.int .i64 c) ∧ w0.cell? ⟨w.heap.size, 1, none⟩ = some (.int .i64 d)) := by rw [e0]; exact two_box w c d _
    have R0 : Hid (Six w0 (w.heap.size + 1) [.int .i64 0, .slice none 0 0, .int .i64 0, .slice none 0 0, .slice none 0 0, .slice none 0 0]) := by rw [e0]; exact six_box2 w _ 33 49 _ _ _ _ _ _
    rw [← e0]
    clear e0
    refine (ok_spec _ _ _).mono ?_
    rintro e w1 ⟨rfl, hb1⟩
    rw [h0]
    have B1 : Hid (Below w.heap.size w w1) := bthen B0.out hb1
    have M1 : Hid (w1.cell? ⟨w.heap.size, 0, none⟩ = some (.int .i64 c) ∧ w1.cell? ⟨w.heap.size, 1, none⟩ = some (.int .i64 d)) := ⟨(hb1.cell (p := ⟨w.heap.size, 0, none⟩) (by show w.heap.size < _; omega)).trans M0.out.1, (hb1.cell (p := ⟨w.heap.size, 1, none⟩) (by show w.heap.size < _; omega)).trans M0.out.2⟩
    have R1 : Hid (Six w1 (w.heap.size + 1) [.int .i64 0, .slice none 0 0, .int .i64 0, .slice none 0 0, .slice none 0 0, .slice none 0 0]) := R0.out.below (by omega) hb1
    have z1 : w.heap.size + 2 ≤ w1.heap.size := Nat.le_trans z0 hb1.size
    clear hb1 B0 M0 R0
    have m0 : w1.cell? ⟨w.heap.size, 0, none⟩ = some (.int .i64 c) := M1.out.1
    have m1 : w1.cell? ⟨w.heap.size, 1, none⟩ = some (.int .i64 d) := M1.out.2
    have lM : w.heap.size < w1.heap.size := by omega
    go_wp2_with fail
    refine (in_spec _ _ _ _).mono ?_
    rintro e w2 ⟨rfl, e2⟩
    rw [e2, h1]
    clear e2 w2
    go_wp2_with fail
    refine (listOk_spec c d b 0 n cap Z hn _ (by omega) (fun k j a1 a2 => (B1.out.cell (p := ⟨b, _, none⟩) hb).trans (HR.out k j a1 a2))).mono ?_
    rintro e w2 ⟨rfl, hb2⟩
    rw [h2]
    clear m0 m1 lM
    have B2 : Hid (Below w.heap.size w w2) := bthen B1.out hb2
    have M2 : Hid (w2.cell? ⟨w.heap.size, 0, none⟩ = some (.int .i64 c) ∧ w2.cell? ⟨w.heap.size, 1, none⟩ = some (.int .i64 d)) := ⟨(hb2.cell (p := ⟨w.heap.size, 0, none⟩) (by show w.heap.size < _; omega)).trans M1.out.1, (hb2.cell (p := ⟨w.heap.size, 1, none⟩) (by show w.heap.size < _; omega)).trans M1.out.2⟩
    have R2 : Hid (Six w2 (w.heap.size + 1) [.int .i64 0, .slice none 0 0, .int .i64 0, .slice none 0 0, .slice none 0 0, .slice none 0 0]) := R1.out.below (by omega) hb2
    have z2 : w.heap.size + 2 ≤ w2.heap.size := Nat.le_trans z1 hb2.size
    clear hb2 B1 M1 R1
    have m0 : w2.cell? ⟨w.heap.size, 0, none⟩ = some (.int .i64 c) := M2.out.1
    have m1 : w2.cell? ⟨w.heap.size, 1, none⟩ = some (.int .i64 d) := M2.out.2
    have lM : w.heap.size < w2.heap.size := by omega
    have r0 := (R2.out 0 (by decide)).1
    have q0 := (R2.out 0 (by decide)).2
    have r1 := (R2.out 1 (by decide)).1
    have q1 := (R2.out 1 (by decide)).2
    have r2 := (R2.out 2 (by decide)).1
    have q2 := (R2.out 2 (by decide)).2
    have r3 := (R2.out 3 (by decide)).1
    have q3 := (R2.out 3 (by decide)).2
    have r4 := (R2.out 4 (by decide)).1
    have q4 := (R2.out 4 (by decide)).2
    have r5 := (R2.out 5 (by decide)).1
    have q5 := (R2.out 5 (by decide)).2
    simp only [List.getD, List.getElem?_cons_zero, List.getElem?_cons_succ, Option.getD_some] at r0 r1 r2 r3 r4 r5
    have lr : w.heap.size + 1 < w2.heap.size := by omega
    go_wp2
    refine bodyPost_ret (v := .agg #[.int .i64 0, .slice none 0 0, .int .i64 0, .slice none 0 0, .slice none 0 0, .slice none 0 0]) (by simp [results, Try.results36, go_sem, r0, r1, r2, r3, r4, r5]) rfl ?_
    exact ⟨⟨_, rfl, by rw [E.out]; exact nothing_own _ _ _, .inl ⟨by rw [h2, Bool.and_false], rfl⟩⟩, below_put6 B2.out (Nat.le_succ w.heap.size) _ _ _ _ _ _⟩
  go_enter Try.func36, Try.ntmps36
  go_wp2_with fail
  obtain ⟨w0, e0⟩ : ∃ w0, w0 = (w.alloc (.cells #[.int .i64 c, .int .i64 d] 33)).alloc (.cells #[.int .i64 0, .slice none 0 0, .int .i64 0, .slice none 0 0, .slice none 0 0, .slice none 0 0] 49) := ⟨_, rfl⟩
  have z0 : w.heap.size + 2 ≤ w0.heap.size := by rw [e0]; simp
  have B0 : Hid (Below w.heap.size w w0) := by rw [e0]; exact ((Below.refl _ _).alloc (by simp) _).alloc (by simp) _
  have M0 : Hid (w0.cell? ⟨w.heap.size, 0, none⟩ = some (.int .i64 c) ∧ w0.cell? ⟨w.heap.size, 1, none⟩ = some (.int .i64 d)) := by rw [e0]; exact two_box w c d _
  have R0 : Hid (Six w0 (w.heap.size + 1) [.int .i64 0, .slice none 0 0, .int .i64 0, .slice none 0 0, .slice none 0 0, .slice none 0 0]) := by rw [e0]; exact six_box2 w _ 33 49 _ _ _ _ _ _
  rw [← e0]
  clear e0
  refine (ok_spec _ _ _).mono ?_
  rintro e w1 ⟨rfl, hb1⟩
  rw [h0]
  have B1 : Hid (Below w.heap.size w w1) := bthen B0.out hb1
  have M1 : Hid (w1.cell? ⟨w.heap.size, 0, none⟩ = some (.int .i64 c) ∧ w1.cell? ⟨w.heap.size, 1, none⟩ = some (.int .i64 d)) := ⟨(hb1.cell (p := ⟨w.heap.size, 0, none⟩) (by show w.heap.size < _; omega)).trans M0.out.1, (hb1.cell (p := ⟨w.heap.size, 1, none⟩) (by show w.heap.size < _; omega)).trans M0.out.2⟩
  have R1 : Hid (Six w1 (w.heap.size + 1) [.int .i64 0, .slice none 0 0, .int .i64 0, .slice none 0 0, .slice none 0 0, .slice none 0 0]) := R0.out.below (by omega) hb1
  have z1 : w.heap.size + 2 ≤ w1.heap.size := Nat.le_trans z0 hb1.size
  clear hb1 B0 M0 R0
  have m0 : w1.cell? ⟨w.heap.size, 0, none⟩ = some (.int .i64 c) := M1.out.1
  have m1 : w1.cell? ⟨w.heap.size, 1, none⟩ = some (.int .i64 d) := M1.out.2
  have lM : w.heap.size < w1.heap.size := by omega
  go_wp2_with fail
  refine (in_spec _ _ _ _).mono ?_
  rintro e w2 ⟨rfl, e2⟩
  rw [e2, h1]
  clear e2 w2
  go_wp2_with fail
  refine (listOk_spec c d b 0 n cap Z hn _ (by omega) (fun k j a1 a2 => (B1.out.cell (p := ⟨b, _, none⟩) hb).trans (HR.out k j a1 a2))).mono ?_
  rintro e w2 ⟨rfl, hb2⟩
  rw [h2]
  clear m0 m1 lM
  have B2 : Hid (Below w.heap.size w w2) := bthen B1.out hb2
  have M2 : Hid (w2.cell? ⟨w.heap.size, 0, none⟩ = some (.int .i64 c) ∧ w2.cell? ⟨w.heap.size, 1, none⟩ = some (.int .i64 d)) := ⟨(hb2.cell (p := ⟨w.heap.size, 0, none⟩) (by show w.heap.size < _; omega)).trans M1.out.1, (hb2.cell (p := ⟨w.heap.size, 1, none⟩) (by show w.heap.size < _; omega)).trans M1.out.2⟩
  have R2 : Hid (Six w2 (w.heap.size + 1) [.int .i64 0, .slice none 0 0, .int .i64 0, .slice none 0 0, .slice none 0 0, .slice none 0 0]) := R1.out.below (by omega) hb2
  have z2 : w.heap.size + 2 ≤ w2.heap.size := Nat.le_trans z1 hb2.size
  clear hb2 B1 M1 R1
  have m0 : w2.cell? ⟨w.heap.size, 0, none⟩ = some (.int .i64 c) := M2.out.1
  have m1 : w2.cell? ⟨w.heap.size, 1, none⟩ = some (.int .i64 d) := M2.out.2
  have lM : w.heap.size < w2.heap.size := by omega
  go_wp2
  clear m0 m1 lM
  obtain ⟨w3, e3⟩ : ∃ w3, w3 = ((((((w2.alloc (.cells #[] 38)).alloc (.cells #[] 38)).alloc (.cells #[.slice (some ⟨w2.heap.size, 0, none⟩) 0 0, .slice (some ⟨w2.heap.size + 1, 0, none⟩) 0 0] 97)).alloc (.cells #[.int .i64 0, .int .i64 0] 3)).alloc (.cells #[.int .i64 0, .int .i64 0] 3)).alloc (.cells #[.int .i64 cell, .slice none 0 0, .int .i64 0, .slice (some ⟨w2.heap.size + 1 + 1, 0, none⟩) 2 2, .slice (some ⟨w2.heap.size + 1 + 1 + 1, 0, none⟩) 2 2, .slice (some ⟨w2.heap.size + 1 + 1 + 1 + 1, 0, none⟩) 2 2] 49)) := ⟨_, rfl⟩
  have hB : Below w2.heap.size w2 w3 := by rw [e3]; exact (((((((Below.refl _ _).alloc (by simp) _).alloc (by simp) _).alloc (by simp; omega) _).alloc (by simp; omega) _).alloc (by simp; omega) _).alloc (by simp; omega) _)
  have zz3 : w3.heap.size = w2.heap.size + 6 := by rw [e3]; simp
  have FX := snew_facts w2 cell
  rw [← e3] at FX ⊢
  clear e3
  obtain ⟨n1, n2, o2, o3, s7⟩ := FX
  have L7b : w2.heap.size + 1 + 1 + 1 + 1 + 1 < w3.heap.size := by omega
  have L37 : w2.heap.size + 1 + 1 + 1 + 1 < w2.heap.size + 1 + 1 + 1 + 1 + 1 := by omega
  have L23 : w2.heap.size + 1 + 1 + 1 < w2.heap.size + 1 + 1 + 1 + 1 := by omega
  have L12 : w2.heap.size + 1 + 1 < w2.heap.size + 1 + 1 + 1 := by omega
  have L1a : w2.heap.size < w2.heap.size + 1 + 1 := by omega
  have z3 : w2.heap.size + 6 ≤ w3.heap.size := by omega
  clear zz3
  generalize w2.heap.size + 1 + 1 + 1 + 1 + 1 = g7 at *
  generalize w2.heap.size + 1 + 1 + 1 + 1 = g3 at *
  generalize w2.heap.size + 1 + 1 + 1 = g2 at *
  generalize w2.heap.size + 1 + 1 = g1 at *
  have B3 : Hid (Below w.heap.size w w3) := bthen B2.out hB
  have M3 : Hid (w3.cell? ⟨w.heap.size, 0, none⟩ = some (.int .i64 c) ∧ w3.cell? ⟨w.heap.size, 1, none⟩ = some (.int .i64 d)) := ⟨(hB.cell (p := ⟨w.heap.size, 0, none⟩) (by show w.heap.size < _; omega)).trans M2.out.1, (hB.cell (p := ⟨w.heap.size, 1, none⟩) (by show w.heap.size < _; omega)).trans M2.out.2⟩
  have R3 : Hid (Six w3 (w.heap.size + 1) [.int .i64 0, .slice none 0 0, .int .i64 0, .slice none 0 0, .slice none 0 0, .slice none 0 0]) := R2.out.below (by omega) hB
  have S3 : Hid (Six w3 g7 [.int .i64 cell, .slice none 0 0, .int .i64 0, .slice (some ⟨g1, 0, none⟩) 2 2, .slice (some ⟨g2, 0, none⟩) 2 2, .slice (some ⟨g3, 0, none⟩) 2 2]) := s7
  have N1 : Hid (w3.cell? ⟨g1, 0, none⟩ = some (.slice (some ⟨w2.heap.size, 0, none⟩) 0 0) ∧ w3.cell? ⟨g1, 1, none⟩ = some (.slice (some ⟨w2.heap.size + 1, 0, none⟩) 0 0)) := ⟨n1, n2⟩
  have O2 : Hid (Own1 w3 g2 2 (fun _ => 0) 2) := o2
  have O3 : Hid (Own1 w3 g3 2 (fun _ => 0) 2) := o3
  clear hB B2 M2 R2 s7 n1 n2 o2 o3
  go_loopw [8] (fun i wr => ∃ (k : Nat) (v : Value), k ≤ n ∧ i = .int .i64 k ∧ Six wr g7 [.int .i64 cell, v, .int .i64 0, .slice (some ⟨g1, 0, none⟩) 2 2, .slice (some ⟨g2, 0, none⟩) 2 2, .slice (some ⟨g3, 0, none⟩) 2 2] ∧ wr.ownsRow w3.heap.size 36 5 v (inL c d cell Z k).length ((inL c d cell Z k).flatMap (five5 Z)) ∧ (∀ x, x < w3.heap.size → ¬ x = g7 → Sm w3 wr x) ∧ w3.heap.size ≤ wr.heap.size ∧ Below w.heap.size w wr) (fun i _ => n - (intOf i).toNat)
  case atStart => exact ⟨0, _, Nat.zero_le _, rfl, S3.out, ⟨rfl, .inl ⟨rfl, rfl⟩⟩, fun x _ _ => Sm.refl _ _, Nat.le_refl _, B3.out⟩
  case round =>
    obtain ⟨k, v, hk, rfl, hsix, hown, hsm, hsz, hbel⟩ := hrel
    obtain ⟨va, vl, vc, hvv⟩ := own_shape hown
    subst hvv
    have SX : Hid (Six wr g7 [.int .i64 cell, .slice va vl vc, .int .i64 0, .slice (some ⟨g1, 0, none⟩) 2 2, .slice (some ⟨g2, 0, none⟩) 2 2, .slice (some ⟨g3, 0, none⟩) 2 2]) := hsix
    have OW : Hid (wr.ownsRow w3.heap.size 36 5 (.slice va vl vc) (inL c d cell Z k).length ((inL c d cell Z k).flatMap (five5 Z))) := hown
    have SM : Hid (∀ x, x < w3.heap.size → ¬ x = g7 → Sm w3 wr x) := hsm
    have BL : Hid (Below w.heap.size w wr) := hbel
    have hlen : (inL c d cell Z k).length ≤ k := inL_len c d cell Z k
    have m0 : wr.cell? ⟨w.heap.size, 0, none⟩ = some (.int .i64 c) := ((hsm w.heap.size (by omega) (by omega)) 0).1.trans M3.out.1
    have m1 : wr.cell? ⟨w.heap.size, 1, none⟩ = some (.int .i64 d) := ((hsm w.heap.size (by omega) (by omega)) 1).1.trans M3.out.2
    have lM : w.heap.size < wr.heap.size := by omega
    clear hsix hown hsm hbel
    by_cases hkn : k < n
    · have hkn' : (k : Int) < n := by omega
      have c0 : wr.cell? ⟨b, k * 5, none⟩ = some (.int .i64 (Z k 0)) := by have := (BL.out.cell (p := ⟨b, 0 + k * 5 + 0, none⟩) hb).trans (HR.out k 0 hkn (by omega)); simpa using this
      have c1 : wr.cell? ⟨b, k * 5 + 1, none⟩ = some (.int .i64 (Z k 1)) := by have := (BL.out.cell (p := ⟨b, 0 + k * 5 + 1, none⟩) hb).trans (HR.out k 1 hkn (by omega)); simpa using this
      have c2 : wr.cell? ⟨b, k * 5 + 2, none⟩ = some (.int .i64 (Z k 2)) := by have := (BL.out.cell (p := ⟨b, 0 + k * 5 + 2, none⟩) hb).trans (HR.out k 2 hkn (by omega)); simpa using this
      have c3 : wr.cell? ⟨b, k * 5 + 3, none⟩ = some (.int .i64 (Z k 3)) := by have := (BL.out.cell (p := ⟨b, 0 + k * 5 + 3, none⟩) hb).trans (HR.out k 3 hkn (by omega)); simpa using this
      have c4 : wr.cell? ⟨b, k * 5 + 4, none⟩ = some (.int .i64 (Z k 4)) := by have := (BL.out.cell (p := ⟨b, 0 + k * 5 + 4, none⟩) hb).trans (HR.out k 4 hkn (by omega)); simpa using this
      have lb : b < wr.heap.size := by omega
      cases hp : (cellF c d (Z k 1) == cell)
      · go_wp2
        refine wp_region_held_drew (S := fun w' => (∀ b o, b < wr.heap.size → w'.cell? ⟨b, o, none⟩ = wr.cell? ⟨b, o, none⟩) ∧ wr.heap.size ≤ w'.heap.size) (by kernel_rfl) ⟨fun _ _ _ => rfl, Nat.le_refl _⟩ ?_
        intro hHeld
        refine wpAnyH_take (i := 0) (v := .agg #[.int .i64 c, .int .i64 d]) rfl (by kernel_rfl) (by kernel_rfl) (by kernel_rfl) (fun _ _ _ h => h) (Or.inl ⟨by rfl, ?_⟩) (by assumption) ?_
        · intro wx hSw; go_simp
        try simp only [Act.put, List.setIfInBounds_toArray, List.set_cons_zero, List.set_cons_succ, List.getElem_toArray, List.getElem_cons_zero]
        refine wpAnyH_take (i := 1) (v := .slice (some ⟨b, 0, none⟩) n cap) rfl (by kernel_rfl) (by kernel_rfl) (by kernel_rfl) (fun _ _ _ h => h) (Or.inl ⟨by rfl, ?_⟩) (by assumption) ?_
        · intro wx hSw; go_simp
        try simp only [Act.put, List.setIfInBounds_toArray, List.set_cons_zero, List.set_cons_succ, List.getElem_toArray, List.getElem_cons_zero, List.getElem_cons_succ]
        refine wpAnyH_take (i := 2) (v := .int .i64 (k : Int)) rfl (by kernel_rfl) (by kernel_rfl) (by kernel_rfl) (fun _ _ _ h => h) (Or.inl ⟨by rfl, ?_⟩) (by assumption) ?_
        · intro wx hSw; go_simp
        try simp only [Act.put, List.setIfInBounds_toArray, List.set_cons_zero, List.set_cons_succ, List.getElem_toArray, List.getElem_cons_zero, List.getElem_cons_succ]
        refine wpAnyH_take (i := 3) (v := .pointer (some ⟨b, k * 5, none⟩)) rfl (by kernel_rfl) (by kernel_rfl) (by kernel_rfl) (fun _ _ _ h => h) (Or.inl ⟨by rfl, ?_⟩) (by assumption) ?_
        · intro wx hSw; go_simp
        try simp only [Act.put, List.setIfInBounds_toArray, List.set_cons_zero, List.set_cons_succ, List.getElem_toArray, List.getElem_cons_zero, List.getElem_cons_succ]
        refine wpAnyH_take (i := 4) (v := .pointer (some ⟨b, k * 5 + 1, none⟩)) rfl (by kernel_rfl) (by kernel_rfl) (by kernel_rfl) (fun _ _ _ h => h) (Or.inl ⟨by rfl, ?_⟩) (by assumption) ?_
        · intro wx hSw; go_simp
        try simp only [Act.put, List.setIfInBounds_toArray, List.set_cons_zero, List.set_cons_succ, List.getElem_toArray, List.getElem_cons_zero, List.getElem_cons_succ]
        refine wpAnyH_take (i := 5) (v := .int .i64 (Z k 1)) rfl (by kernel_rfl) (by kernel_rfl) (by kernel_rfl) (fun _ _ _ h => h) (Or.inl ⟨by rfl, ?_⟩) (by assumption) ?_
        · intro wx hSw; go_simp
        try simp only [Act.put, List.setIfInBounds_toArray, List.set_cons_zero, List.set_cons_succ, List.getElem_toArray, List.getElem_cons_zero, List.getElem_cons_succ]
        refine wpAnyH_take (i := 7) (v := .int .i64 cell) rfl (by kernel_rfl) (by kernel_rfl) (by kernel_rfl) (fun _ _ _ h => h) (Or.inl ⟨by rfl, ?_⟩) (by assumption) ?_
        · intro wx hSw; go_simp
        try simp only [Act.put, List.setIfInBounds_toArray, List.set_cons_zero, List.set_cons_succ, List.getElem_toArray, List.getElem_cons_zero, List.getElem_cons_succ]
        refine wpAnyH_ready (rs := [6]) (by kernel_rfl) (by simp) ?_
        refine AllReadyH.cons rfl (fun K hK => ?_) AllReadyH.nil
        go_simp
        go_wp2_with fail
        refine (cell_spec _ _ _ _).mono ?_
        rintro e w4 ⟨rfl, hb4⟩
        refine hK.out _ _ (keepS (by assumption) hb4) (fun hNew => ?_)
        clear hK K hHeld
        have hHeld := hNew
        clear hNew
        try simp only [Act.put, List.setIfInBounds_toArray, List.set_cons_zero, List.set_cons_succ, List.getElem_toArray, List.getElem_cons_zero, List.getElem_cons_succ]
        refine wpAnyH_take (i := 8) (v := .bool false) rfl (by kernel_rfl) (by kernel_rfl) (by kernel_rfl) (fun _ _ _ h => h) (Or.inl ⟨by rfl, ?_⟩) (by assumption) ?_
        · intro wx hSw; go_simp
        try simp only [Act.put, List.setIfInBounds_toArray, List.set_cons_zero, List.set_cons_succ, List.getElem_toArray, List.getElem_cons_zero, List.getElem_cons_succ]
        refine wpAnyH_done (by kernel_rfl) ?_ _
        clear hHeld
        have hb5 : Below wr.heap.size wr w4 := bthen ((Below.refl _ _).drew) hb4
        have SX4 : Hid (Six w4 g7 [.int .i64 cell, .slice va vl vc, .int .i64 0, .slice (some ⟨g1, 0, none⟩) 2 2, .slice (some ⟨g2, 0, none⟩) 2 2, .slice (some ⟨g3, 0, none⟩) 2 2]) := SX.out.below (by omega) hb5
        have OW4 : Hid (w4.ownsRow w3.heap.size 36 5 (.slice va vl vc) (inL c d cell Z k).length ((inL c d cell Z k).flatMap (five5 Z))) := World.ownsRow.kept OW.out (P8.grown_of_below hb5) (by cases e : (Value.slice va vl vc).ownBlock <;> simp)
        have SM4 : Hid (∀ x, x < w3.heap.size → ¬ x = g7 → Sm w3 w4 x) := fun x hx hne => (SM.out x hx hne).trans (sm_below hb5 (by omega))
        have BL4 : Hid (Below w.heap.size w w4) := bthen BL.out hb5
        have z4 : w3.heap.size ≤ w4.heap.size := Nat.le_trans hsz hb5.size
        clear hb4 hb5 SX OW SM BL
        go_wp2
        go_roundw
        case rel => exact ⟨k + 1, _, by omega, by go_num, SX4.out, by rw [inL_no hp]; exact OW4.out, SM4.out, z4, BL4.out⟩
        case measure => simp [intOf]; omega
      · go_wp2
        refine wp_region_held_drew (S := fun w' => (∀ b o, b < wr.heap.size → w'.cell? ⟨b, o, none⟩ = wr.cell? ⟨b, o, none⟩) ∧ wr.heap.size ≤ w'.heap.size) (by kernel_rfl) ⟨fun _ _ _ => rfl, Nat.le_refl _⟩ ?_
        intro hHeld
        refine wpAnyH_take (i := 0) (v := .agg #[.int .i64 c, .int .i64 d]) rfl (by kernel_rfl) (by kernel_rfl) (by kernel_rfl) (fun _ _ _ h => h) (Or.inl ⟨by rfl, ?_⟩) (by assumption) ?_
        · intro wx hSw; go_simp
        try simp only [Act.put, List.setIfInBounds_toArray, List.set_cons_zero, List.set_cons_succ, List.getElem_toArray, List.getElem_cons_zero]
        refine wpAnyH_take (i := 1) (v := .slice (some ⟨b, 0, none⟩) n cap) rfl (by kernel_rfl) (by kernel_rfl) (by kernel_rfl) (fun _ _ _ h => h) (Or.inl ⟨by rfl, ?_⟩) (by assumption) ?_
        · intro wx hSw; go_simp
        try simp only [Act.put, List.setIfInBounds_toArray, List.set_cons_zero, List.set_cons_succ, List.getElem_toArray, List.getElem_cons_zero, List.getElem_cons_succ]
        refine wpAnyH_take (i := 2) (v := .int .i64 (k : Int)) rfl (by kernel_rfl) (by kernel_rfl) (by kernel_rfl) (fun _ _ _ h => h) (Or.inl ⟨by rfl, ?_⟩) (by assumption) ?_
        · intro wx hSw; go_simp
        try simp only [Act.put, List.setIfInBounds_toArray, List.set_cons_zero, List.set_cons_succ, List.getElem_toArray, List.getElem_cons_zero, List.getElem_cons_succ]
        refine wpAnyH_take (i := 3) (v := .pointer (some ⟨b, k * 5, none⟩)) rfl (by kernel_rfl) (by kernel_rfl) (by kernel_rfl) (fun _ _ _ h => h) (Or.inl ⟨by rfl, ?_⟩) (by assumption) ?_
        · intro wx hSw; go_simp
        try simp only [Act.put, List.setIfInBounds_toArray, List.set_cons_zero, List.set_cons_succ, List.getElem_toArray, List.getElem_cons_zero, List.getElem_cons_succ]
        refine wpAnyH_take (i := 4) (v := .pointer (some ⟨b, k * 5 + 1, none⟩)) rfl (by kernel_rfl) (by kernel_rfl) (by kernel_rfl) (fun _ _ _ h => h) (Or.inl ⟨by rfl, ?_⟩) (by assumption) ?_
        · intro wx hSw; go_simp
        try simp only [Act.put, List.setIfInBounds_toArray, List.set_cons_zero, List.set_cons_succ, List.getElem_toArray, List.getElem_cons_zero, List.getElem_cons_succ]
        refine wpAnyH_take (i := 5) (v := .int .i64 (Z k 1)) rfl (by kernel_rfl) (by kernel_rfl) (by kernel_rfl) (fun _ _ _ h => h) (Or.inl ⟨by rfl, ?_⟩) (by assumption) ?_
        · intro wx hSw; go_simp
        try simp only [Act.put, List.setIfInBounds_toArray, List.set_cons_zero, List.set_cons_succ, List.getElem_toArray, List.getElem_cons_zero, List.getElem_cons_succ]
        refine wpAnyH_take (i := 7) (v := .int .i64 cell) rfl (by kernel_rfl) (by kernel_rfl) (by kernel_rfl) (fun _ _ _ h => h) (Or.inl ⟨by rfl, ?_⟩) (by assumption) ?_
        · intro wx hSw; go_simp
        try simp only [Act.put, List.setIfInBounds_toArray, List.set_cons_zero, List.set_cons_succ, List.getElem_toArray, List.getElem_cons_zero, List.getElem_cons_succ]
        refine wpAnyH_ready (rs := [6]) (by kernel_rfl) (by simp) ?_
        refine AllReadyH.cons rfl (fun K hK => ?_) AllReadyH.nil
        go_simp
        go_wp2_with fail
        refine (cell_spec _ _ _ _).mono ?_
        rintro e w4 ⟨rfl, hb4⟩
        refine hK.out _ _ (keepS (by assumption) hb4) (fun hNew => ?_)
        clear hK K hHeld
        have hHeld := hNew
        clear hNew
        try simp only [Act.put, List.setIfInBounds_toArray, List.set_cons_zero, List.set_cons_succ, List.getElem_toArray, List.getElem_cons_zero, List.getElem_cons_succ]
        refine wpAnyH_take (i := 8) (v := .bool true) rfl (by kernel_rfl) (by kernel_rfl) (by kernel_rfl) (fun _ _ _ h => h) (Or.inl ⟨by rfl, ?_⟩) (by assumption) ?_
        · intro wx hSw; go_simp
        try simp only [Act.put, List.setIfInBounds_toArray, List.set_cons_zero, List.set_cons_succ, List.getElem_toArray, List.getElem_cons_zero, List.getElem_cons_succ]
        refine wpAnyH_done (by kernel_rfl) ?_ _
        clear hHeld
        have hb5 : Below wr.heap.size wr w4 := bthen ((Below.refl _ _).drew) hb4
        have SX4 : Hid (Six w4 g7 [.int .i64 cell, .slice va vl vc, .int .i64 0, .slice (some ⟨g1, 0, none⟩) 2 2, .slice (some ⟨g2, 0, none⟩) 2 2, .slice (some ⟨g3, 0, none⟩) 2 2]) := SX.out.below (by omega) hb5
        have OW4 : Hid (w4.ownsRow w3.heap.size 36 5 (.slice va vl vc) (inL c d cell Z k).length ((inL c d cell Z k).flatMap (five5 Z))) := World.ownsRow.kept OW.out (P8.grown_of_below hb5) (by cases e : (Value.slice va vl vc).ownBlock <;> simp)
        have SM4 : Hid (∀ x, x < w3.heap.size → ¬ x = g7 → Sm w3 w4 x) := fun x hx hne => (SM.out x hx hne).trans (sm_below hb5 (by omega))
        have BL4 : Hid (Below w.heap.size w w4) := bthen BL.out hb5
        have z4 : w3.heap.size ≤ w4.heap.size := Nat.le_trans hsz hb5.size
        have d0 : w4.cell? ⟨b, k * 5, none⟩ = some (.int .i64 (Z k 0)) := (hb5.cell (p := ⟨b, _, none⟩) lb).trans c0
        have d1 : w4.cell? ⟨b, k * 5 + 1, none⟩ = some (.int .i64 (Z k 1)) := (hb5.cell (p := ⟨b, _, none⟩) lb).trans c1
        have d2 : w4.cell? ⟨b, k * 5 + 2, none⟩ = some (.int .i64 (Z k 2)) := (hb5.cell (p := ⟨b, _, none⟩) lb).trans c2
        have d3 : w4.cell? ⟨b, k * 5 + 3, none⟩ = some (.int .i64 (Z k 3)) := (hb5.cell (p := ⟨b, _, none⟩) lb).trans c3
        have d4 : w4.cell? ⟨b, k * 5 + 4, none⟩ = some (.int .i64 (Z k 4)) := (hb5.cell (p := ⟨b, _, none⟩) lb).trans c4
        have lb4 : b < w4.heap.size := by omega
        have lb3 : b < w3.heap.size := by omega
        have hbg : ¬ b = g7 := by omega
        have lg4 : g7 < w4.heap.size := by omega
        have f1 : w4.cell? ⟨g7, 1, none⟩ = some (.slice va vl vc) := (SX4.out 1 (by decide)).1
        clear hb4 hb5 SX OW SM BL c0 c1 c2 c3 c4 m0 m1
        go_wp2
        refine wp_region_held_drew (S := fun w' => (∀ b o, b < w3.heap.size → ¬ b = g7 → w'.cell? ⟨b, o, none⟩ = w4.cell? ⟨b, o, none⟩) ∧ w4.heap.size ≤ w'.heap.size) (by kernel_rfl) ⟨fun _ _ _ _ => rfl, Nat.le_refl _⟩ ?_
        intro hHeld
        refine wpAnyH_take (i := 0) (v := .pointer (some ⟨g7, 1, none⟩)) rfl (by kernel_rfl) (by kernel_rfl) (by kernel_rfl) (fun _ _ _ h => h) (Or.inl ⟨by rfl, ?_⟩) (by assumption) ?_
        · intro wx hSw; go_simp
        try simp only [Act.put, List.setIfInBounds_toArray, List.set_cons_zero, List.set_cons_succ, List.getElem_toArray, List.getElem_cons_zero]
        refine wpAnyH_take (i := 2) (v := .slice (some ⟨b, 0, none⟩) n cap) rfl (by kernel_rfl) (by kernel_rfl) (by kernel_rfl) (fun _ _ _ h => h) (Or.inl ⟨by rfl, ?_⟩) (by assumption) ?_
        · intro wx hSw; go_simp
        try simp only [Act.put, List.setIfInBounds_toArray, List.set_cons_zero, List.set_cons_succ, List.getElem_toArray, List.getElem_cons_zero, List.getElem_cons_succ]
        refine wpAnyH_take (i := 3) (v := .int .i64 (k : Int)) rfl (by kernel_rfl) (by kernel_rfl) (by kernel_rfl) (fun _ _ _ h => h) (Or.inl ⟨by rfl, ?_⟩) (by assumption) ?_
        · intro wx hSw; go_simp
        try simp only [Act.put, List.setIfInBounds_toArray, List.set_cons_zero, List.set_cons_succ, List.getElem_toArray, List.getElem_cons_zero, List.getElem_cons_succ]
        refine wpAnyH_take (i := 4) (v := .pointer (some ⟨b, k * 5, none⟩)) rfl (by kernel_rfl) (by kernel_rfl) (by kernel_rfl) (fun _ _ _ h => h) (Or.inl ⟨by rfl, ?_⟩) (by assumption) ?_
        · intro wx hSw; go_simp
        try simp only [Act.put, List.setIfInBounds_toArray, List.set_cons_zero, List.set_cons_succ, List.getElem_toArray, List.getElem_cons_zero, List.getElem_cons_succ]
        refine wpAnyH_take (i := 5) (v := .agg #[.int .i64 (Z k 0), .int .i64 (Z k 1), .int .i64 (Z k 2), .int .i64 (Z k 3), .int .i64 (Z k 4)]) rfl (by kernel_rfl) (by kernel_rfl) (by kernel_rfl) (fun _ _ _ h => h) (Or.inl ⟨by rfl, ?_⟩) (by assumption) ?_
        · intro wx hSw; go_simp
        try simp only [Act.put, List.setIfInBounds_toArray, List.set_cons_zero, List.set_cons_succ, List.getElem_toArray, List.getElem_cons_zero, List.getElem_cons_succ]
        refine wpAnyH_ready (rs := [1, 6]) (by kernel_rfl) (by simp) ?_
        refine AllReadyH.cons rfl (fun K hK => ?_) (AllReadyH.cons rfl (fun K hK => ?_) AllReadyH.nil)
        · go_simp
          refine hK.out _ _ (by assumption) (fun hNew => ?_)
          clear hK K hHeld
          have hHeld := hNew
          clear hNew
          try simp only [Act.put, List.setIfInBounds_toArray, List.set_cons_zero, List.set_cons_succ, List.getElem_toArray, List.getElem_cons_zero, List.getElem_cons_succ]
          refine wpAnyH_ready (rs := [6]) (by kernel_rfl) (by simp) ?_
          refine AllReadyH.cons rfl (fun K hK => ?_) AllReadyH.nil
          go_simp
          refine hK.out _ _ (keepG (by assumption) z4 (fun x hx _ => sm_below (n := w4.heap.size) ((Below.refl _ _).drew.alloc (Nat.le_refl _) _) (by omega)) (by simp)) (fun hNew => ?_)
          clear hK K hHeld
          have hHeld := hNew
          clear hNew
          try simp only [Act.put, List.setIfInBounds_toArray, List.set_cons_zero, List.set_cons_succ, List.getElem_toArray, List.getElem_cons_zero, List.getElem_cons_succ]
          refine wpAnyH_ready (rs := [7]) (by kernel_rfl) (by simp) ?_
          refine AllReadyH.cons rfl (fun K hK => ?_) AllReadyH.nil
          rw [if_pos (by rfl)]
          have hb6 : Below w4.heap.size w4 (w4.alloc (.cells #[.int .i64 (Z k 0), .int .i64 (Z k 1), .int .i64 (Z k 2), .int .i64 (Z k 3), .int .i64 (Z k 4)] 36)).drew := ((Below.refl _ _).alloc (Nat.le_refl _) _).drew
          have OW6 : (w4.alloc (.cells #[.int .i64 (Z k 0), .int .i64 (Z k 1), .int .i64 (Z k 2), .int .i64 (Z k 3), .int .i64 (Z k 4)] 36)).drew.ownsRow w3.heap.size 36 5 (.slice va vl vc) (inL c d cell Z k).length ((inL c d cell Z k).flatMap (five5 Z)) := World.ownsRow.kept OW4.out (P8.grown_of_below hb6) (by cases e : (Value.slice va vl vc).ownBlock <;> simp)
          have z6 : w3.heap.size ≤ (w4.alloc (.cells #[.int .i64 (Z k 0), .int .i64 (Z k 1), .int .i64 (Z k 2), .int .i64 (Z k 3), .int .i64 (Z k 4)] 36)).drew.heap.size := Nat.le_trans z4 hb6.size
          have hgr : w4.grownBy (w4.alloc (.cells #[.int .i64 (Z k 0), .int .i64 (Z k 1), .int .i64 (Z k 2), .int .i64 (Z k 3), .int .i64 (Z k 4)] 36)).drew (Value.slice va vl vc).ownBlock := P8.grown_of_below2 hb6
          refine wp_append_own _ _ _ 45 rfl w3.heap.size 36 i5 (.agg #[.int .i64 0, .int .i64 0, .int .i64 0, .int .i64 0, .int .i64 0]) 5 40 Try.underlying45 hi5 hz50 hz51 hz52 rfl (by decide) _ _ _ rfl OW6 ⟨w4.heap.size, 0, none⟩ 1 1 (five5 Z k) rfl rfl ?d1 ?d2 ?d3 ?d4 ?d5 ?_
          case d1 =>
            intro j u hj
            match j, hj with
            | 0, hj => simp [five5] at hj; subst hj; show (w4.alloc (.cells #[.int .i64 (Z k 0), .int .i64 (Z k 1), .int .i64 (Z k 2), .int .i64 (Z k 3), .int .i64 (Z k 4)] 36)).cell? _ = _; simp [Addr.add]
            | 1, hj => simp [five5] at hj; subst hj; show (w4.alloc (.cells #[.int .i64 (Z k 0), .int .i64 (Z k 1), .int .i64 (Z k 2), .int .i64 (Z k 3), .int .i64 (Z k 4)] 36)).cell? _ = _; simp [Addr.add]
            | 2, hj => simp [five5] at hj; subst hj; show (w4.alloc (.cells #[.int .i64 (Z k 0), .int .i64 (Z k 1), .int .i64 (Z k 2), .int .i64 (Z k 3), .int .i64 (Z k 4)] 36)).cell? _ = _; simp [Addr.add]
            | 3, hj => simp [five5] at hj; subst hj; show (w4.alloc (.cells #[.int .i64 (Z k 0), .int .i64 (Z k 1), .int .i64 (Z k 2), .int .i64 (Z k 3), .int .i64 (Z k 4)] 36)).cell? _ = _; simp [Addr.add]
            | 4, hj => simp [five5] at hj; subst hj; show (w4.alloc (.cells #[.int .i64 (Z k 0), .int .i64 (Z k 1), .int .i64 (Z k 2), .int .i64 (Z k 3), .int .i64 (Z k 4)] 36)).cell? _ = _; simp [Addr.add]
            | j + 5, hj => simp [five5] at hj
          case d2 => intro u hu; simp [five5] at hu; rcases hu with rfl | rfl | rfl | rfl | rfl <;> rfl
          case d3 => unfold maxLen; omega
          case d4 => omega
          case d5 => exact z6
          intro v' w5 hown' hg5 hnil
          obtain ⟨xa, xl, xc, hxx⟩ := own_shape hown'
          subst hxx
          have hall : w4.grownBy w5 (Value.slice va vl vc).ownBlock := hgr.trans hg5
          have hz5 : w4.heap.size ≤ w5.heap.size := hall.size
          have hlow : ∀ kk, (Value.slice va vl vc).ownBlock = some kk → w3.heap.size ≤ kk := fun kk e => (OW4.out.lt kk e).1
          have hfar : Hid (∀ x, x < w3.heap.size → Sm w4 w5 x) := fun x hx => sm_grown hall (by omega) (fun e => by have := hlow x e.symm; omega)
          have SX5 : Hid (Six w5 g7 [.int .i64 cell, .slice va vl vc, .int .i64 0, .slice (some ⟨g1, 0, none⟩) 2 2, .slice (some ⟨g2, 0, none⟩) 2 2, .slice (some ⟨g3, 0, none⟩) 2 2]) := fun i hi => by have h1 := hfar.out g7 (by omega) i; rw [h1.1, h1.2]; exact SX4.out i hi
          have SX6 : Hid (Six (w5.setCell ⟨g7, 1, none⟩ (.slice xa xl xc)) g7 [.int .i64 cell, .slice xa xl xc, .int .i64 0, .slice (some ⟨g1, 0, none⟩) 2 2, .slice (some ⟨g2, 0, none⟩) 2 2, .slice (some ⟨g3, 0, none⟩) 2 2]) := SX5.out.set (j := 1) (v := (.slice xa xl xc)) rfl (by decide)
          have OW6b : Hid ((w5.setCell ⟨g7, 1, none⟩ (.slice xa xl xc)).ownsRow w3.heap.size 36 5 (.slice xa xl xc) (inL c d cell Z (k + 1)).length ((inL c d cell Z (k + 1)).flatMap (five5 Z))) := by
            unfold Hid
            rw [inL_yes hp, List.length_append, List.flatMap_append]
            refine World.ownsRow.kept ?_ (P8.set_grown w5 g7 1 (.slice xa xl xc)).1 ?_
            · simpa using hown'
            · cases e : (Value.slice xa xl xc).ownBlock with
              | none => exact .inl rfl
              | some kk => exact .inr (fun e2 => by have := (hown'.lt kk e).1; injection e2 with e2; omega)
          have SM6 : Hid (∀ x, x < w3.heap.size → ¬ x = g7 → Sm w3 (w5.setCell ⟨g7, 1, none⟩ (.slice xa xl xc)) x) := fun x hx hne => ((SM4.out x hx hne).trans (hfar.out x hx)).trans (fun o => ⟨set_out (fun e => hne e.1.symm), set_frozen⟩)
          have BL6 : Hid (Below w.heap.size w (w5.setCell ⟨g7, 1, none⟩ (.slice xa xl xc))) := (BL4.out.grown hall (by omega) (fun kk e => by have := hlow kk e; omega)).setCell (by show w.heap.size ≤ g7; omega) _
          have e1 := (SX5.out 1 (by decide)).1
          have e1f := (SX5.out 1 (by decide)).2
          have lg8 : g7 < w5.heap.size := by omega
          have z7 : w3.heap.size ≤ (w5.setCell ⟨g7, 1, none⟩ (.slice xa xl xc)).heap.size := by rw [set_size]; omega
          refine hK.out _ _ ⟨fun x o hx _ => (hfar.out x hx o).1, hz5⟩ (fun hNew => ?_)
          clear hK K hHeld
          have hHeld := hNew
          clear hNew
          clear hown' hg5 hnil hall hlow hgr hb6 OW6 z6 d0 d1 d2 d3 d4 f1
          try simp only [Act.put, List.setIfInBounds_toArray, List.set_cons_zero, List.set_cons_succ, List.getElem_toArray, List.getElem_cons_zero, List.getElem_cons_succ]
          refine wpAnyH_take (i := 8) (v := .pointer (some ⟨g7, 1, none⟩)) rfl (by kernel_rfl) (by kernel_rfl) (by kernel_rfl) (fun _ _ _ h => h) (Or.inl ⟨by rfl, ?_⟩) (by assumption) ?_
          · intro wx hSw; go_simp
          try simp only [Act.put, List.setIfInBounds_toArray, List.set_cons_zero, List.set_cons_succ, List.getElem_toArray, List.getElem_cons_zero, List.getElem_cons_succ]
          refine wpAnyH_ready (rs := [9]) (by kernel_rfl) (by simp) ?_
          refine AllReadyH.cons rfl (fun K hK => ?_) AllReadyH.nil
          clear hHeld
          go_simp
          refine hK.out _ _ ⟨fun x o hx hne => (set_out (fun e => hne e.1.symm)).trans (hfar.out x hx o).1, by rw [set_size]; exact hz5⟩ (fun hNew => ?_)
          clear hK K hNew
          try simp only [Act.put, List.setIfInBounds_toArray, List.set_cons_zero, List.set_cons_succ, List.getElem_toArray, List.getElem_cons_zero, List.getElem_cons_succ]
          refine wpAnyH_done (by kernel_rfl) ?_ _
          clear OW4 SM4 BL4 SX4 SX5 hfar e1 e1f
          go_wp2
          go_roundw
          case rel => exact ⟨k + 1, _, by omega, by go_num, SX6.out, OW6b.out, SM6.out, z7, BL6.out⟩
          case measure => simp [intOf]; omega
        · go_simp
          refine hK.out _ _ (keepG (by assumption) z4 (fun x hx _ => sm_below (n := w4.heap.size) ((Below.refl _ _).drew.alloc (Nat.le_refl _) _) (by omega)) (by simp)) (fun hNew => ?_)
          clear hK K hHeld
          have hHeld := hNew
          clear hNew
          try simp only [Act.put, List.setIfInBounds_toArray, List.set_cons_zero, List.set_cons_succ, List.getElem_toArray, List.getElem_cons_zero, List.getElem_cons_succ]
          refine wpAnyH_ready (rs := [1]) (by kernel_rfl) (by simp) ?_
          refine AllReadyH.cons rfl (fun K hK => ?_) AllReadyH.nil
          go_simp
          refine hK.out _ _ (by assumption) (fun hNew => ?_)
          clear hK K hHeld
          have hHeld := hNew
          clear hNew
          try simp only [Act.put, List.setIfInBounds_toArray, List.set_cons_zero, List.set_cons_succ, List.getElem_toArray, List.getElem_cons_zero, List.getElem_cons_succ]
          refine wpAnyH_ready (rs := [7]) (by kernel_rfl) (by simp) ?_
          refine AllReadyH.cons rfl (fun K hK => ?_) AllReadyH.nil
          rw [if_pos (by rfl)]
          have hb6 : Below w4.heap.size w4 (w4.alloc (.cells #[.int .i64 (Z k 0), .int .i64 (Z k 1), .int .i64 (Z k 2), .int .i64 (Z k 3), .int .i64 (Z k 4)] 36)).drew := ((Below.refl _ _).alloc (Nat.le_refl _) _).drew
          have OW6 : (w4.alloc (.cells #[.int .i64 (Z k 0), .int .i64 (Z k 1), .int .i64 (Z k 2), .int .i64 (Z k 3), .int .i64 (Z k 4)] 36)).drew.ownsRow w3.heap.size 36 5 (.slice va vl vc) (inL c d cell Z k).length ((inL c d cell Z k).flatMap (five5 Z)) := World.ownsRow.kept OW4.out (P8.grown_of_below hb6) (by cases e : (Value.slice va vl vc).ownBlock <;> simp)
          have z6 : w3.heap.size ≤ (w4.alloc (.cells #[.int .i64 (Z k 0), .int .i64 (Z k 1), .int .i64 (Z k 2), .int .i64 (Z k 3), .int .i64 (Z k 4)] 36)).drew.heap.size := Nat.le_trans z4 hb6.size
          have hgr : w4.grownBy (w4.alloc (.cells #[.int .i64 (Z k 0), .int .i64 (Z k 1), .int .i64 (Z k 2), .int .i64 (Z k 3), .int .i64 (Z k 4)] 36)).drew (Value.slice va vl vc).ownBlock := P8.grown_of_below2 hb6
          refine wp_append_own _ _ _ 45 rfl w3.heap.size 36 i5 (.agg #[.int .i64 0, .int .i64 0, .int .i64 0, .int .i64 0, .int .i64 0]) 5 40 Try.underlying45 hi5 hz50 hz51 hz52 rfl (by decide) _ _ _ rfl OW6 ⟨w4.heap.size, 0, none⟩ 1 1 (five5 Z k) rfl rfl ?d1 ?d2 ?d3 ?d4 ?d5 ?_
          case d1 =>
            intro j u hj
            match j, hj with
            | 0, hj => simp [five5] at hj; subst hj; show (w4.alloc (.cells #[.int .i64 (Z k 0), .int .i64 (Z k 1), .int .i64 (Z k 2), .int .i64 (Z k 3), .int .i64 (Z k 4)] 36)).cell? _ = _; simp [Addr.add]
            | 1, hj => simp [five5] at hj; subst hj; show (w4.alloc (.cells #[.int .i64 (Z k 0), .int .i64 (Z k 1), .int .i64 (Z k 2), .int .i64 (Z k 3), .int .i64 (Z k 4)] 36)).cell? _ = _; simp [Addr.add]
            | 2, hj => simp [five5] at hj; subst hj; show (w4.alloc (.cells #[.int .i64 (Z k 0), .int .i64 (Z k 1), .int .i64 (Z k 2), .int .i64 (Z k 3), .int .i64 (Z k 4)] 36)).cell? _ = _; simp [Addr.add]
            | 3, hj => simp [five5] at hj; subst hj; show (w4.alloc (.cells #[.int .i64 (Z k 0), .int .i64 (Z k 1), .int .i64 (Z k 2), .int .i64 (Z k 3), .int .i64 (Z k 4)] 36)).cell? _ = _; simp [Addr.add]
            | 4, hj => simp [five5] at hj; subst hj; show (w4.alloc (.cells #[.int .i64 (Z k 0), .int .i64 (Z k 1), .int .i64 (Z k 2), .int .i64 (Z k 3), .int .i64 (Z k 4)] 36)).cell? _ = _; simp [Addr.add]
            | j + 5, hj => simp [five5] at hj
          case d2 => intro u hu; simp [five5] at hu; rcases hu with rfl | rfl | rfl | rfl | rfl <;> rfl
          case d3 => unfold maxLen; omega
          case d4 => omega
          case d5 => exact z6
          intro v' w5 hown' hg5 hnil
          obtain ⟨xa, xl, xc, hxx⟩ := own_shape hown'
          subst hxx
          have hall : w4.grownBy w5 (Value.slice va vl vc).ownBlock := hgr.trans hg5
          have hz5 : w4.heap.size ≤ w5.heap.size := hall.size
          have hlow : ∀ kk, (Value.slice va vl vc).ownBlock = some kk → w3.heap.size ≤ kk := fun kk e => (OW4.out.lt kk e).1
          have hfar : Hid (∀ x, x < w3.heap.size → Sm w4 w5 x) := fun x hx => sm_grown hall (by omega) (fun e => by have := hlow x e.symm; omega)
          have SX5 : Hid (Six w5 g7 [.int .i64 cell, .slice va vl vc, .int .i64 0, .slice (some ⟨g1, 0, none⟩) 2 2, .slice (some ⟨g2, 0, none⟩) 2 2, .slice (some ⟨g3, 0, none⟩) 2 2]) := fun i hi => by have h1 := hfar.out g7 (by omega) i; rw [h1.1, h1.2]; exact SX4.out i hi
          have SX6 : Hid (Six (w5.setCell ⟨g7, 1, none⟩ (.slice xa xl xc)) g7 [.int .i64 cell, .slice xa xl xc, .int .i64 0, .slice (some ⟨g1, 0, none⟩) 2 2, .slice (some ⟨g2, 0, none⟩) 2 2, .slice (some ⟨g3, 0, none⟩) 2 2]) := SX5.out.set (j := 1) (v := (.slice xa xl xc)) rfl (by decide)
          have OW6b : Hid ((w5.setCell ⟨g7, 1, none⟩ (.slice xa xl xc)).ownsRow w3.heap.size 36 5 (.slice xa xl xc) (inL c d cell Z (k + 1)).length ((inL c d cell Z (k + 1)).flatMap (five5 Z))) := by
            unfold Hid
            rw [inL_yes hp, List.length_append, List.flatMap_append]
            refine World.ownsRow.kept ?_ (P8.set_grown w5 g7 1 (.slice xa xl xc)).1 ?_
            · simpa using hown'
            · cases e : (Value.slice xa xl xc).ownBlock with
              | none => exact .inl rfl
              | some kk => exact .inr (fun e2 => by have := (hown'.lt kk e).1; injection e2 with e2; omega)
          have SM6 : Hid (∀ x, x < w3.heap.size → ¬ x = g7 → Sm w3 (w5.setCell ⟨g7, 1, none⟩ (.slice xa xl xc)) x) := fun x hx hne => ((SM4.out x hx hne).trans (hfar.out x hx)).trans (fun o => ⟨set_out (fun e => hne e.1.symm), set_frozen⟩)
          have BL6 : Hid (Below w.heap.size w (w5.setCell ⟨g7, 1, none⟩ (.slice xa xl xc))) := (BL4.out.grown hall (by omega) (fun kk e => by have := hlow kk e; omega)).setCell (by show w.heap.size ≤ g7; omega) _
          have e1 := (SX5.out 1 (by decide)).1
          have e1f := (SX5.out 1 (by decide)).2
          have lg8 : g7 < w5.heap.size := by omega
          have z7 : w3.heap.size ≤ (w5.setCell ⟨g7, 1, none⟩ (.slice xa xl xc)).heap.size := by rw [set_size]; omega
          refine hK.out _ _ ⟨fun x o hx _ => (hfar.out x hx o).1, hz5⟩ (fun hNew => ?_)
          clear hK K hHeld
          have hHeld := hNew
          clear hNew
          clear hown' hg5 hnil hall hlow hgr hb6 OW6 z6 d0 d1 d2 d3 d4 f1
          try simp only [Act.put, List.setIfInBounds_toArray, List.set_cons_zero, List.set_cons_succ, List.getElem_toArray, List.getElem_cons_zero, List.getElem_cons_succ]
          refine wpAnyH_take (i := 8) (v := .pointer (some ⟨g7, 1, none⟩)) rfl (by kernel_rfl) (by kernel_rfl) (by kernel_rfl) (fun _ _ _ h => h) (Or.inl ⟨by rfl, ?_⟩) (by assumption) ?_
          · intro wx hSw; go_simp
          try simp only [Act.put, List.setIfInBounds_toArray, List.set_cons_zero, List.set_cons_succ, List.getElem_toArray, List.getElem_cons_zero, List.getElem_cons_succ]
          refine wpAnyH_ready (rs := [9]) (by kernel_rfl) (by simp) ?_
          refine AllReadyH.cons rfl (fun K hK => ?_) AllReadyH.nil
          clear hHeld
          go_simp
          refine hK.out _ _ ⟨fun x o hx hne => (set_out (fun e => hne e.1.symm)).trans (hfar.out x hx o).1, by rw [set_size]; exact hz5⟩ (fun hNew => ?_)
          clear hK K hNew
          try simp only [Act.put, List.setIfInBounds_toArray, List.set_cons_zero, List.set_cons_succ, List.getElem_toArray, List.getElem_cons_zero, List.getElem_cons_succ]
          refine wpAnyH_done (by kernel_rfl) ?_ _
          clear OW4 SM4 BL4 SX4 SX5 hfar e1 e1f
          go_wp2
          go_roundw
          case rel => exact ⟨k + 1, _, by omega, by go_num, SX6.out, OW6b.out, SM6.out, z7, BL6.out⟩
          case measure => simp [intOf]; omega
    · have hkk : k = n := by omega
      subst hkk
      have RR : Hid (Six wr (w.heap.size + 1) [.int .i64 0, .slice none 0 0, .int .i64 0, .slice none 0 0, .slice none 0 0, .slice none 0 0]) := fun i hi => by have h1 := SM.out (w.heap.size + 1) (by omega) (by omega) i; rw [h1.1, h1.2]; exact R3.out i hi
      have y0 : wr.cell? ⟨g7, 0, none⟩ = some (.int .i64 cell) := (SX.out 0 (by decide)).1
      have y1 : wr.cell? ⟨g7, 1, none⟩ = some (.slice va vl vc) := (SX.out 1 (by decide)).1
      have y2 : wr.cell? ⟨g7, 2, none⟩ = some (.int .i64 0) := (SX.out 2 (by decide)).1
      have y3 : wr.cell? ⟨g7, 3, none⟩ = some (.slice (some ⟨g1, 0, none⟩) 2 2) := (SX.out 3 (by decide)).1
      have y4 : wr.cell? ⟨g7, 4, none⟩ = some (.slice (some ⟨g2, 0, none⟩) 2 2) := (SX.out 4 (by decide)).1
      have y5 : wr.cell? ⟨g7, 5, none⟩ = some (.slice (some ⟨g3, 0, none⟩) 2 2) := (SX.out 5 (by decide)).1
      have r0 : wr.cell? ⟨w.heap.size + 1, 0, none⟩ = some (.int .i64 0) := (RR.out 0 (by decide)).1
      have q0 : wr.frozen? ⟨w.heap.size + 1, 0, none⟩ = false := (RR.out 0 (by decide)).2
      have r1 : wr.cell? ⟨w.heap.size + 1, 1, none⟩ = some (.slice none 0 0) := (RR.out 1 (by decide)).1
      have q1 : wr.frozen? ⟨w.heap.size + 1, 1, none⟩ = false := (RR.out 1 (by decide)).2
      have r2 : wr.cell? ⟨w.heap.size + 1, 2, none⟩ = some (.int .i64 0) := (RR.out 2 (by decide)).1
      have q2 : wr.frozen? ⟨w.heap.size + 1, 2, none⟩ = false := (RR.out 2 (by decide)).2
      have r3 : wr.cell? ⟨w.heap.size + 1, 3, none⟩ = some (.slice none 0 0) := (RR.out 3 (by decide)).1
      have q3 : wr.frozen? ⟨w.heap.size + 1, 3, none⟩ = false := (RR.out 3 (by decide)).2
      have r4 : wr.cell? ⟨w.heap.size + 1, 4, none⟩ = some (.slice none 0 0) := (RR.out 4 (by decide)).1
      have q4 : wr.frozen? ⟨w.heap.size + 1, 4, none⟩ = false := (RR.out 4 (by decide)).2
      have r5 : wr.cell? ⟨w.heap.size + 1, 5, none⟩ = some (.slice none 0 0) := (RR.out 5 (by decide)).1
      have q5 : wr.frozen? ⟨w.heap.size + 1, 5, none⟩ = false := (RR.out 5 (by decide)).2
      have lg9 : g7 < wr.heap.size := by omega
      have lr9 : w.heap.size + 1 < wr.heap.size := by omega
      have hne9 : ¬ w.heap.size + 1 = g7 := by omega
      go_wp2
      refine bodyPost_ret (v := .agg #[.int .i64 cell, .slice va vl vc, .int .i64 0, .slice (some ⟨g1, 0, none⟩) 2 2, .slice (some ⟨g2, 0, none⟩) 2 2, .slice (some ⟨g3, 0, none⟩) 2 2]) (by simp [results, Try.results36, go_sem, r0, r1, r2, r3, r4, r5]) rfl ?_
      have hzz := size_put6 wr (w.heap.size + 1) (.int .i64 cell) (.slice va vl vc) (.int .i64 0) (.slice (some ⟨g1, 0, none⟩) 2 2) (.slice (some ⟨g2, 0, none⟩) 2 2) (.slice (some ⟨g3, 0, none⟩) 2 2)
      have hbb := below_put6 BL.out (Nat.le_succ w.heap.size) (.int .i64 cell) (.slice va vl vc) (.int .i64 0) (.slice (some ⟨g1, 0, none⟩) 2 2) (.slice (some ⟨g2, 0, none⟩) 2 2) (.slice (some ⟨g3, 0, none⟩) 2 2)
      have hss : ∀ x, ¬ w.heap.size + 1 = x → Sm wr (put6 wr (w.heap.size + 1) (.int .i64 cell) (.slice va vl vc) (.int .i64 0) (.slice (some ⟨g1, 0, none⟩) 2 2) (.slice (some ⟨g2, 0, none⟩) 2 2) (.slice (some ⟨g3, 0, none⟩) 2 2)) x := fun x hx => sm_put6 hx _ _ _ _ _ _
      refine ⟨⟨_, rfl, ?_, ?_⟩, hbb⟩
      rotate_left
      · show NewAt c d cell Z k (put6 wr (w.heap.size + 1) (.int .i64 cell) (.slice va vl vc) (.int .i64 0) (.slice (some ⟨g1, 0, none⟩) 2 2) (.slice (some ⟨g2, 0, none⟩) 2 2) (.slice (some ⟨g3, 0, none⟩) 2 2)) _
        obtain ⟨gW, hgW, hRW⟩ := rw_ofL (lo := w.heap.size) OW.out (by omega)
        have hvl : vl = (inL c d cell Z k).length ∧ HW0 (put6 wr (w.heap.size + 1) (.int .i64 cell) (.slice va vl vc) (.int .i64 0) (.slice (some ⟨g1, 0, none⟩) 2 2) (.slice (some ⟨g2, 0, none⟩) 2 2) (.slice (some ⟨g3, 0, none⟩) 2 2)) va (inL c d cell Z k).length (fun i j => Z (inL c d cell Z k)[i]! j) := by
          rcases hRW with ⟨h, a, c', e⟩ | ⟨c', e, h2', h3', h4', h5'⟩
          · injection e with q1 q2 q3
            exact ⟨by rw [h, q2], .inl h⟩
          · injection e with q1 q2 q3
            exact ⟨q2, .inr ⟨gW, q1, by rw [hzz]; exact h3', own5_sm h5' (hss gW (by omega))⟩⟩
        refine .inr ⟨by rw [H01.out, h2]; rfl, va, vc, g1, g2, g3, by rw [hvl.1], hvl.2, by rw [hzz]; omega, by rw [hzz]; omega, ⟨by rw [hzz]; omega, fun i => w2.heap.size + i, fun i hi => ⟨by rw [hzz]; show w2.heap.size + i < _; omega, ?_, ⟨fun _ h => absurd h (by simp), fun _ _ h => absurd h (Nat.not_lt_zero _)⟩⟩⟩, own1_sm O2.out ((SM.out g2 (by omega) (by omega)).trans (hss g2 (by omega))), own1_sm O3.out ((SM.out g3 (by omega) (by omega)).trans (hss g3 (by omega)))⟩
        have hx1 := (SM.out g1 (by omega) (by omega)).trans (hss g1 (by omega))
        have : i = 0 ∨ i = 1 := by omega
        rcases this with rfl | rfl
        · exact (hx1 0).1.trans N1.out.1
        · exact (hx1 1).1.trans N1.out.2
      obtain ⟨gW, hgW, hRW⟩ := rw_ofL (lo := w.heap.size) OW.out (by omega)
      rw [show newV c d cell Z k = ⟨cell, (inL c d cell Z k).length, fun i j => Z (inL c d cell Z k)[i]! j, 0, 2, fun _ => 0, fun _ _ _ => 0, 2, fun _ => 0, 2, fun _ => 0⟩ by unfold newV; rw [H01.out, h2]; rfl]
      show OwnC w.heap.size (put6 wr (w.heap.size + 1) (.int .i64 cell) (.slice va vl vc) (.int .i64 0) (.slice (some ⟨g1, 0, none⟩) 2 2) (.slice (some ⟨g2, 0, none⟩) 2 2) (.slice (some ⟨g3, 0, none⟩) 2 2)).heap.size (put6 wr (w.heap.size + 1) (.int .i64 cell) (.slice va vl vc) (.int .i64 0) (.slice (some ⟨g1, 0, none⟩) 2 2) (.slice (some ⟨g2, 0, none⟩) 2 2) (.slice (some ⟨g3, 0, none⟩) 2 2)) _ _
      rw [hzz]
      have hx1 : Sm w3 (put6 wr (w.heap.size + 1) (.int .i64 cell) (.slice va vl vc) (.int .i64 0) (.slice (some ⟨g1, 0, none⟩) 2 2) (.slice (some ⟨g2, 0, none⟩) 2 2) (.slice (some ⟨g3, 0, none⟩) 2 2)) g1 := (SM.out g1 (by omega) (by omega)).trans (hss g1 (by omega))
      have hx2 : Sm w3 (put6 wr (w.heap.size + 1) (.int .i64 cell) (.slice va vl vc) (.int .i64 0) (.slice (some ⟨g1, 0, none⟩) 2 2) (.slice (some ⟨g2, 0, none⟩) 2 2) (.slice (some ⟨g3, 0, none⟩) 2 2)) g2 := (SM.out g2 (by omega) (by omega)).trans (hss g2 (by omega))
      have hx3 : Sm w3 (put6 wr (w.heap.size + 1) (.int .i64 cell) (.slice va vl vc) (.int .i64 0) (.slice (some ⟨g1, 0, none⟩) 2 2) (.slice (some ⟨g2, 0, none⟩) 2 2) (.slice (some ⟨g3, 0, none⟩) 2 2)) g3 := (SM.out g3 (by omega) (by omega)).trans (hss g3 (by omega))
      refine ⟨_, _, _, _, gW, g1, g2, g3, fun i => .slice (some ⟨w2.heap.size + i, 0, none⟩) 0 0, fun i => gW + 1 + i, rfl, hRW.sm (Nat.le_of_eq hzz.symm) (fun _ _ => hss gW (by omega)), .inr ⟨2, rfl, by omega, by omega, Nat.le_of_eq hzz.symm, fun i hi => ⟨?_, .inl ⟨rfl, _, _, rfl⟩⟩⟩, .inr ⟨2, rfl, by omega, by omega, Nat.le_of_eq hzz.symm, own1_sm O2.out hx2⟩, .inr ⟨2, rfl, by omega, by omega, Nat.le_of_eq hzz.symm, own1_sm O3.out hx3⟩, ⟨by omega, by omega, by omega, by omega, by omega, by omega⟩, fun i hi => ⟨by show ¬ gW + 1 + i = gW; omega, by show ¬ gW + 1 + i = g1; omega, by show ¬ gW + 1 + i = g2; omega, by show ¬ gW + 1 + i = g3; omega⟩, fun i j _ _ hij => by show ¬ gW + 1 + i = gW + 1 + j; omega⟩
      have : i = 0 ∨ i = 1 := by have := hi; simp only at this; omega
      rcases this with rfl | rfl
      · exact (hx1 0).1.trans N1.out.1
      · exact (hx1 1).1.trans N1.out.2
end Go.Proofs.Ytiahmakaegnnfaa
