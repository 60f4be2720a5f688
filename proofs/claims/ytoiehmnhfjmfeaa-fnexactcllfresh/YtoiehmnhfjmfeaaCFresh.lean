/- The walks of CllFresh, the program's and the model's; conditions: the cell lies in memory of its own. -/
import Derived.Test.YtoiehmnhfjmfeaaLawOk
import Derived.Test.YtoiehmnhfjmfeaaFind2
import Derived.Test.YtoiehmnhfjmfeaaOrd2
namespace Go.Proofs.Ytoiehmnhfjmfeaa
open Go.RowKit Go.Deep
set_option linter.unusedVariables false

/-- What is found of a number: f is the first walker with it and t is true, or f is nothing and t is false. -/
def Fnd (W : Nat → Nat → Int) (n : Nat) (z : Int) (f : Nat → Int) (t : Bool) : Prop := (Noone W n z ∧ t = false ∧ ∀ j, f j = 0) ∨ ∃ m, First W n z m ∧ t = true ∧ ∀ j, f j = W m j
theorem fnd_some (W : Nat → Nat → Int) (n : Nat) (z : Int) : ∃ f t, Fnd W n z f t := by
  rcases first_or W z n with h | ⟨m, h⟩
  · exact ⟨fun _ => 0, false, .inl ⟨h, rfl, fun _ => rfl⟩⟩
  · exact ⟨W m, true, .inr ⟨m, h, rfl, fun _ => rfl⟩⟩
theorem find_spec (z : Int) (b o n cap : Nat) (Z : Nat → Nat → Int) (f : Nat → Int) (t : Bool) (hn : n ≤ 1048576) (w : World) (hb : b < w.heap.size) (hF : Fnd Z n z f t)
    (hr : ∀ k j, k < n → j < 5 → w.cell? ⟨b, o + k * 5 + j, none⟩ = some (.int .i64 (Z k j))) :
    Calls Try.prog 68 #[.slice (some ⟨b, o, none⟩) n cap, .int .i64 z] w fun e w' => e = .returned (.tuple #[.agg #[.int .i64 (f 0), .int .i64 (f 1), .int .i64 (f 2), .int .i64 (f 3), .int .i64 (f 4)], .bool t]) ∧ Below w.heap.size w w' := by
  rcases hF with ⟨h1, rfl, h3⟩ | ⟨m, h1, rfl, h3⟩
  · simp only [h3]; exact find_spec_no z b o n cap Z hn w hb h1 hr
  · simp only [h3]; exact find_spec_yes z b o n cap m Z hn w hb h1 hr
theorem five_new50 (W : World) (o0 o1 o2 o3 o4 : Int) : ∀ i, i < 5 → (W.alloc (.cells #[.int .i64 o0, .int .i64 o1, .int .i64 o2, .int .i64 o3, .int .i64 o4] 50)).cell? ⟨W.heap.size, i, none⟩ = some (.int .i64 ([o0, o1, o2, o3, o4].getD i 0)) := by
  intro i hi
  have : i = 0 ∨ i = 1 ∨ i = 2 ∨ i = 3 ∨ i = 4 := by omega
  rcases this with rfl | rfl | rfl | rfl | rfl <;> simp
theorem five_box1 (w : World) (o1' : Obj) (o0 o1 o2 o3 o4 : Int) : ∀ i, i < 5 → ((w.alloc o1').alloc (.cells #[.int .i64 o0, .int .i64 o1, .int .i64 o2, .int .i64 o3, .int .i64 o4] 50)).cell? ⟨w.heap.size + 1, i, none⟩ = some (.int .i64 ([o0, o1, o2, o3, o4].getD i 0)) := by
  have h := five_new50 (w.alloc o1') o0 o1 o2 o3 o4
  rw [show (w.alloc o1').heap.size = w.heap.size + 1 by simp] at h
  exact h
theorem five_box50 (w : World) (o1' o2' : Obj) (o0 o1 o2 o3 o4 : Int) : ∀ i, i < 5 → (((w.alloc o1').alloc o2').alloc (.cells #[.int .i64 o0, .int .i64 o1, .int .i64 o2, .int .i64 o3, .int .i64 o4] 50)).cell? ⟨w.heap.size + 1 + 1, i, none⟩ = some (.int .i64 ([o0, o1, o2, o3, o4].getD i 0)) := by
  have h := five_new50 ((w.alloc o1').alloc o2') o0 o1 o2 o3 o4
  rw [show ((w.alloc o1').alloc o2').heap.size = w.heap.size + 1 + 1 by simp] at h
  exact h

set_option maxHeartbeats 4000000 in
theorem l5fresh (o0 o1 o2 o3 o4 : Int) (V : CV) (bW bO bX bI : Nat) (hs0 : V.short 1048576) (w : World) (lW : bW < w.heap.size) (gW0 : Own5 w bW V.nW V.W V.nW) (f : Nat → Int) (t : Bool) (hF0 : Fnd V.W V.nW o0 f t) :
    Calls Try.prog 51 #[.agg #[.int .i64 V.c, .slice (some ⟨bW, 0, none⟩) V.nW V.nW, .int .i64 V.g, .slice (some ⟨bO, 0, none⟩) V.nO V.nO, .slice (some ⟨bX, 0, none⟩) V.nX V.nX, .slice (some ⟨bI, 0, none⟩) V.nI V.nI], .agg #[.int .i64 o0, .int .i64 o1, .int .i64 o2, .int .i64 o3, .int .i64 o4]] w fun e w' => e = .returned (.bool (t && decide (f 3 < o1))) ∧ Below w.heap.size w w' := by
  have gW : Hid (Own5 w bW V.nW V.W V.nW) := gW0
  have hs : Hid (V.short 1048576) := hs0
  have hF : Hid (Fnd V.W V.nW o0 f t) := hF0
  clear gW0 hs0 hF0
  go_enter Try.func51, Try.ntmps51
  go_wp2_with fail
  obtain ⟨w0, e0⟩ : ∃ w0, w0 = ((w.alloc (.cells #[.int .i64 V.c, .slice (some ⟨bW, 0, none⟩) V.nW V.nW, .int .i64 V.g, .slice (some ⟨bO, 0, none⟩) V.nO V.nO, .slice (some ⟨bX, 0, none⟩) V.nX V.nX, .slice (some ⟨bI, 0, none⟩) V.nI V.nI] 30)).alloc (.cells #[.int .i64 o0, .int .i64 o1, .int .i64 o2, .int .i64 o3, .int .i64 o4] 50)) := ⟨_, rfl⟩
  have z0 : w.heap.size + 2 ≤ w0.heap.size := by rw [e0]; simp
  have B0 : Hid (Below w.heap.size w w0) := by rw [e0]; exact ((Below.refl _ _).alloc (by simp) _).alloc (by simp) _
  have O0 : Hid (∀ i, i < 5 → w0.cell? ⟨w.heap.size + 1, i, none⟩ = some (.int .i64 ([o0, o1, o2, o3, o4].getD i 0))) := by rw [e0]; exact five_box1 w _ o0 o1 o2 o3 o4
  rw [← e0]
  clear e0
  refine (find_spec o0 bW 0 V.nW V.nW V.W f t hs.out.1 _ (by omega) hF.out (fun k j a1 a2 => (B0.out.cell (p := ⟨bW, _, none⟩) lW).trans (own_row gW.out k j a1 a2))).mono ?_
  rintro e w1 ⟨rfl, hb1⟩
  have B1 : Hid (Below w.heap.size w w1) := bthen B0.out hb1
  have u1 : w1.cell? ⟨w.heap.size + 1, 1, none⟩ = some (.int .i64 o1) := (hb1.cell (p := ⟨w.heap.size + 1, 1, none⟩) (by show w.heap.size + 1 < _; omega)).trans (O0.out 1 (by decide))
  have lO : w.heap.size + 1 < w1.heap.size := by have := hb1.size; omega
  clear hb1 O0 B0
  cases t
  all_goals
    go_wp2
    go_ret
    exact ⟨by simp, B1.out.alloc (by omega) _⟩

set_option maxHeartbeats 4000000 in
theorem fresh_spec (c d o0 o1 o2 o3 o4 : Int) (v : Value) (V : CV) (lo : Nat) (hs0 : V.short 1048576) (w : World) (h : CopyAt lo w v V) (f : Nat → Int) (t : Bool) (hF0 : Fnd V.W V.nW o0 f t) :
    Calls Try.prog 21 #[.agg #[.int .i64 c, .int .i64 d], v, .agg #[.int .i64 o0, .int .i64 o1, .int .i64 o2, .int .i64 o3, .int .i64 o4]] w fun e w' => e = .returned (.bool (cllB c d V && (ordB o0 o1 o2 o3 o4 && (t && decide (f 3 < o1))))) ∧ Below w.heap.size w w' := by
  obtain ⟨bW, bO, bX, bI, q0, q1, q2, q3, q4, rfl, g1, g2, g3, g4⟩ := h
  have CP : Hid (CopyAt lo w (.agg #[.int .i64 V.c, .slice (some ⟨bW, 0, none⟩) V.nW V.nW, .int .i64 V.g, .slice (some ⟨bO, 0, none⟩) V.nO V.nO, .slice (some ⟨bX, 0, none⟩) V.nX V.nX, .slice (some ⟨bI, 0, none⟩) V.nI V.nI]) V) := ⟨bW, bO, bX, bI, q0, q1, q2, q3, q4, rfl, g1, g2, g3, g4⟩
  have gW : Hid (Own5 w bW V.nW V.W V.nW) := g1
  have hs : Hid (V.short 1048576) := hs0
  have hF : Hid (Fnd V.W V.nW o0 f t) := hF0
  have lW : bW < w.heap.size := by omega
  clear g1 g2 g3 g4 hs0 hF0 q0 q1 q2 q3 q4
  cases h1 : cllB c d V
  · go_enter Try.func21, Try.ntmps21
    go_wp2_with fail
    obtain ⟨w0, e0⟩ : ∃ w0, w0 = (((w.alloc (.cells #[.int .i64 c, .int .i64 d] 32)).alloc (.cells #[.int .i64 V.c, .slice (some ⟨bW, 0, none⟩) V.nW V.nW, .int .i64 V.g, .slice (some ⟨bO, 0, none⟩) V.nO V.nO, .slice (some ⟨bX, 0, none⟩) V.nX V.nX, .slice (some ⟨bI, 0, none⟩) V.nI V.nI] 30)).alloc (.cells #[.int .i64 o0, .int .i64 o1, .int .i64 o2, .int .i64 o3, .int .i64 o4] 50)) := ⟨_, rfl⟩
    have z0 : w.heap.size + 3 ≤ w0.heap.size := by rw [e0]; simp
    have B0 : Hid (Below w.heap.size w w0) := by rw [e0]; exact (((Below.refl _ _).alloc (by simp) _).alloc (by simp) _).alloc (by simp; omega) _
    have A0 : Hid (Six w0 (w.heap.size + 1) [.int .i64 V.c, .slice (some ⟨bW, 0, none⟩) V.nW V.nW, .int .i64 V.g, .slice (some ⟨bO, 0, none⟩) V.nO V.nO, .slice (some ⟨bX, 0, none⟩) V.nX V.nX, .slice (some ⟨bI, 0, none⟩) V.nI V.nI]) := by rw [e0]; exact (six_box2 w #[.int .i64 c, .int .i64 d] 32 30 (.int .i64 V.c) (.slice (some ⟨bW, 0, none⟩) V.nW V.nW) (.int .i64 V.g) (.slice (some ⟨bO, 0, none⟩) V.nO V.nO) (.slice (some ⟨bX, 0, none⟩) V.nX V.nX) (.slice (some ⟨bI, 0, none⟩) V.nI V.nI)).below (by simp) ((Below.refl _ _).alloc (Nat.le_refl _) _)
    have O0 : Hid (∀ i, i < 5 → w0.cell? ⟨w.heap.size + 1 + 1, i, none⟩ = some (.int .i64 ([o0, o1, o2, o3, o4].getD i 0))) := by rw [e0]; exact five_box50 w _ _ o0 o1 o2 o3 o4
    rw [← e0]
    clear e0
    refine (cllOk_spec c d _ V lo hs.out _ (CP.out.below B0.out)).mono ?_
    rintro e w1 ⟨rfl, hb1⟩
    rw [h1]
    have B1 : Hid (Below w.heap.size w w1) := bthen B0.out hb1
    have A1 : Hid (Six w1 (w.heap.size + 1) [.int .i64 V.c, .slice (some ⟨bW, 0, none⟩) V.nW V.nW, .int .i64 V.g, .slice (some ⟨bO, 0, none⟩) V.nO V.nO, .slice (some ⟨bX, 0, none⟩) V.nX V.nX, .slice (some ⟨bI, 0, none⟩) V.nI V.nI]) := A0.out.below (by omega) hb1
    have O1 : Hid (∀ i, i < 5 → w1.cell? ⟨w.heap.size + 1 + 1, i, none⟩ = some (.int .i64 ([o0, o1, o2, o3, o4].getD i 0))) := fun i hi => (hb1.cell (p := ⟨w.heap.size + 1 + 1, i, none⟩) (by show w.heap.size + 1 + 1 < _; omega)).trans (O0.out i hi)
    have z1 : w.heap.size + 3 ≤ w1.heap.size := Nat.le_trans z0 hb1.size
    clear A0 B0 O0
    clear hb1
    have a0 : w1.cell? ⟨w.heap.size + 1, 0, none⟩ = some (.int .i64 V.c) := (A1.out 0 (by decide)).1
    have a1 : w1.cell? ⟨w.heap.size + 1, 1, none⟩ = some (.slice (some ⟨bW, 0, none⟩) V.nW V.nW) := (A1.out 1 (by decide)).1
    have a2 : w1.cell? ⟨w.heap.size + 1, 2, none⟩ = some (.int .i64 V.g) := (A1.out 2 (by decide)).1
    have a3 : w1.cell? ⟨w.heap.size + 1, 3, none⟩ = some (.slice (some ⟨bO, 0, none⟩) V.nO V.nO) := (A1.out 3 (by decide)).1
    have a4 : w1.cell? ⟨w.heap.size + 1, 4, none⟩ = some (.slice (some ⟨bX, 0, none⟩) V.nX V.nX) := (A1.out 4 (by decide)).1
    have a5 : w1.cell? ⟨w.heap.size + 1, 5, none⟩ = some (.slice (some ⟨bI, 0, none⟩) V.nI V.nI) := (A1.out 5 (by decide)).1
    have u0 : w1.cell? ⟨w.heap.size + 1 + 1, 0, none⟩ = some (.int .i64 o0) := O1.out 0 (by decide)
    have u1 : w1.cell? ⟨w.heap.size + 1 + 1, 1, none⟩ = some (.int .i64 o1) := O1.out 1 (by decide)
    have u2 : w1.cell? ⟨w.heap.size + 1 + 1, 2, none⟩ = some (.int .i64 o2) := O1.out 2 (by decide)
    have u3 : w1.cell? ⟨w.heap.size + 1 + 1, 3, none⟩ = some (.int .i64 o3) := O1.out 3 (by decide)
    have u4 : w1.cell? ⟨w.heap.size + 1 + 1, 4, none⟩ = some (.int .i64 o4) := O1.out 4 (by decide)
    have lA : w.heap.size + 1 < w1.heap.size := by omega
    have lO : w.heap.size + 1 + 1 < w1.heap.size := by omega
    go_wp2
    go_ret
    exact ⟨by rw [Bool.false_and]; rfl, B1.out⟩
  cases h2 : ordB o0 o1 o2 o3 o4
  · go_enter Try.func21, Try.ntmps21
    go_wp2_with fail
    obtain ⟨w0, e0⟩ : ∃ w0, w0 = (((w.alloc (.cells #[.int .i64 c, .int .i64 d] 32)).alloc (.cells #[.int .i64 V.c, .slice (some ⟨bW, 0, none⟩) V.nW V.nW, .int .i64 V.g, .slice (some ⟨bO, 0, none⟩) V.nO V.nO, .slice (some ⟨bX, 0, none⟩) V.nX V.nX, .slice (some ⟨bI, 0, none⟩) V.nI V.nI] 30)).alloc (.cells #[.int .i64 o0, .int .i64 o1, .int .i64 o2, .int .i64 o3, .int .i64 o4] 50)) := ⟨_, rfl⟩
    have z0 : w.heap.size + 3 ≤ w0.heap.size := by rw [e0]; simp
    have B0 : Hid (Below w.heap.size w w0) := by rw [e0]; exact (((Below.refl _ _).alloc (by simp) _).alloc (by simp) _).alloc (by simp; omega) _
    have A0 : Hid (Six w0 (w.heap.size + 1) [.int .i64 V.c, .slice (some ⟨bW, 0, none⟩) V.nW V.nW, .int .i64 V.g, .slice (some ⟨bO, 0, none⟩) V.nO V.nO, .slice (some ⟨bX, 0, none⟩) V.nX V.nX, .slice (some ⟨bI, 0, none⟩) V.nI V.nI]) := by rw [e0]; exact (six_box2 w #[.int .i64 c, .int .i64 d] 32 30 (.int .i64 V.c) (.slice (some ⟨bW, 0, none⟩) V.nW V.nW) (.int .i64 V.g) (.slice (some ⟨bO, 0, none⟩) V.nO V.nO) (.slice (some ⟨bX, 0, none⟩) V.nX V.nX) (.slice (some ⟨bI, 0, none⟩) V.nI V.nI)).below (by simp) ((Below.refl _ _).alloc (Nat.le_refl _) _)
    have O0 : Hid (∀ i, i < 5 → w0.cell? ⟨w.heap.size + 1 + 1, i, none⟩ = some (.int .i64 ([o0, o1, o2, o3, o4].getD i 0))) := by rw [e0]; exact five_box50 w _ _ o0 o1 o2 o3 o4
    rw [← e0]
    clear e0
    refine (cllOk_spec c d _ V lo hs.out _ (CP.out.below B0.out)).mono ?_
    rintro e w1 ⟨rfl, hb1⟩
    rw [h1]
    have B1 : Hid (Below w.heap.size w w1) := bthen B0.out hb1
    have A1 : Hid (Six w1 (w.heap.size + 1) [.int .i64 V.c, .slice (some ⟨bW, 0, none⟩) V.nW V.nW, .int .i64 V.g, .slice (some ⟨bO, 0, none⟩) V.nO V.nO, .slice (some ⟨bX, 0, none⟩) V.nX V.nX, .slice (some ⟨bI, 0, none⟩) V.nI V.nI]) := A0.out.below (by omega) hb1
    have O1 : Hid (∀ i, i < 5 → w1.cell? ⟨w.heap.size + 1 + 1, i, none⟩ = some (.int .i64 ([o0, o1, o2, o3, o4].getD i 0))) := fun i hi => (hb1.cell (p := ⟨w.heap.size + 1 + 1, i, none⟩) (by show w.heap.size + 1 + 1 < _; omega)).trans (O0.out i hi)
    have z1 : w.heap.size + 3 ≤ w1.heap.size := Nat.le_trans z0 hb1.size
    clear A0 B0 O0
    clear hb1
    have a0 : w1.cell? ⟨w.heap.size + 1, 0, none⟩ = some (.int .i64 V.c) := (A1.out 0 (by decide)).1
    have a1 : w1.cell? ⟨w.heap.size + 1, 1, none⟩ = some (.slice (some ⟨bW, 0, none⟩) V.nW V.nW) := (A1.out 1 (by decide)).1
    have a2 : w1.cell? ⟨w.heap.size + 1, 2, none⟩ = some (.int .i64 V.g) := (A1.out 2 (by decide)).1
    have a3 : w1.cell? ⟨w.heap.size + 1, 3, none⟩ = some (.slice (some ⟨bO, 0, none⟩) V.nO V.nO) := (A1.out 3 (by decide)).1
    have a4 : w1.cell? ⟨w.heap.size + 1, 4, none⟩ = some (.slice (some ⟨bX, 0, none⟩) V.nX V.nX) := (A1.out 4 (by decide)).1
    have a5 : w1.cell? ⟨w.heap.size + 1, 5, none⟩ = some (.slice (some ⟨bI, 0, none⟩) V.nI V.nI) := (A1.out 5 (by decide)).1
    have u0 : w1.cell? ⟨w.heap.size + 1 + 1, 0, none⟩ = some (.int .i64 o0) := O1.out 0 (by decide)
    have u1 : w1.cell? ⟨w.heap.size + 1 + 1, 1, none⟩ = some (.int .i64 o1) := O1.out 1 (by decide)
    have u2 : w1.cell? ⟨w.heap.size + 1 + 1, 2, none⟩ = some (.int .i64 o2) := O1.out 2 (by decide)
    have u3 : w1.cell? ⟨w.heap.size + 1 + 1, 3, none⟩ = some (.int .i64 o3) := O1.out 3 (by decide)
    have u4 : w1.cell? ⟨w.heap.size + 1 + 1, 4, none⟩ = some (.int .i64 o4) := O1.out 4 (by decide)
    have lA : w.heap.size + 1 < w1.heap.size := by omega
    have lO : w.heap.size + 1 + 1 < w1.heap.size := by omega
    go_wp2_with fail
    refine (ordOk_spec _ _ _ _ _ _).mono ?_
    rintro e w2 ⟨rfl, hb2⟩
    rw [h2]
    clear a0 a1 a2 a3 a4 a5 u0 u1 u2 u3 u4 lA lO
    have B2 : Hid (Below w.heap.size w w2) := bthen B1.out hb2
    have A2 : Hid (Six w2 (w.heap.size + 1) [.int .i64 V.c, .slice (some ⟨bW, 0, none⟩) V.nW V.nW, .int .i64 V.g, .slice (some ⟨bO, 0, none⟩) V.nO V.nO, .slice (some ⟨bX, 0, none⟩) V.nX V.nX, .slice (some ⟨bI, 0, none⟩) V.nI V.nI]) := A1.out.below (by omega) hb2
    have O2 : Hid (∀ i, i < 5 → w2.cell? ⟨w.heap.size + 1 + 1, i, none⟩ = some (.int .i64 ([o0, o1, o2, o3, o4].getD i 0))) := fun i hi => (hb2.cell (p := ⟨w.heap.size + 1 + 1, i, none⟩) (by show w.heap.size + 1 + 1 < _; omega)).trans (O1.out i hi)
    have z2 : w.heap.size + 3 ≤ w2.heap.size := Nat.le_trans z1 hb2.size
    clear A1 B1 O1
    clear hb2
    have a0 : w2.cell? ⟨w.heap.size + 1, 0, none⟩ = some (.int .i64 V.c) := (A2.out 0 (by decide)).1
    have a1 : w2.cell? ⟨w.heap.size + 1, 1, none⟩ = some (.slice (some ⟨bW, 0, none⟩) V.nW V.nW) := (A2.out 1 (by decide)).1
    have a2 : w2.cell? ⟨w.heap.size + 1, 2, none⟩ = some (.int .i64 V.g) := (A2.out 2 (by decide)).1
    have a3 : w2.cell? ⟨w.heap.size + 1, 3, none⟩ = some (.slice (some ⟨bO, 0, none⟩) V.nO V.nO) := (A2.out 3 (by decide)).1
    have a4 : w2.cell? ⟨w.heap.size + 1, 4, none⟩ = some (.slice (some ⟨bX, 0, none⟩) V.nX V.nX) := (A2.out 4 (by decide)).1
    have a5 : w2.cell? ⟨w.heap.size + 1, 5, none⟩ = some (.slice (some ⟨bI, 0, none⟩) V.nI V.nI) := (A2.out 5 (by decide)).1
    have u0 : w2.cell? ⟨w.heap.size + 1 + 1, 0, none⟩ = some (.int .i64 o0) := O2.out 0 (by decide)
    have u1 : w2.cell? ⟨w.heap.size + 1 + 1, 1, none⟩ = some (.int .i64 o1) := O2.out 1 (by decide)
    have u2 : w2.cell? ⟨w.heap.size + 1 + 1, 2, none⟩ = some (.int .i64 o2) := O2.out 2 (by decide)
    have u3 : w2.cell? ⟨w.heap.size + 1 + 1, 3, none⟩ = some (.int .i64 o3) := O2.out 3 (by decide)
    have u4 : w2.cell? ⟨w.heap.size + 1 + 1, 4, none⟩ = some (.int .i64 o4) := O2.out 4 (by decide)
    have lA : w.heap.size + 1 < w2.heap.size := by omega
    have lO : w.heap.size + 1 + 1 < w2.heap.size := by omega
    go_wp2
    go_ret
    exact ⟨by rw [Bool.true_and, Bool.false_and]; rfl, B2.out⟩
  go_enter Try.func21, Try.ntmps21
  go_wp2_with fail
  obtain ⟨w0, e0⟩ : ∃ w0, w0 = (((w.alloc (.cells #[.int .i64 c, .int .i64 d] 32)).alloc (.cells #[.int .i64 V.c, .slice (some ⟨bW, 0, none⟩) V.nW V.nW, .int .i64 V.g, .slice (some ⟨bO, 0, none⟩) V.nO V.nO, .slice (some ⟨bX, 0, none⟩) V.nX V.nX, .slice (some ⟨bI, 0, none⟩) V.nI V.nI] 30)).alloc (.cells #[.int .i64 o0, .int .i64 o1, .int .i64 o2, .int .i64 o3, .int .i64 o4] 50)) := ⟨_, rfl⟩
  have z0 : w.heap.size + 3 ≤ w0.heap.size := by rw [e0]; simp
  have B0 : Hid (Below w.heap.size w w0) := by rw [e0]; exact (((Below.refl _ _).alloc (by simp) _).alloc (by simp) _).alloc (by simp; omega) _
  have A0 : Hid (Six w0 (w.heap.size + 1) [.int .i64 V.c, .slice (some ⟨bW, 0, none⟩) V.nW V.nW, .int .i64 V.g, .slice (some ⟨bO, 0, none⟩) V.nO V.nO, .slice (some ⟨bX, 0, none⟩) V.nX V.nX, .slice (some ⟨bI, 0, none⟩) V.nI V.nI]) := by rw [e0]; exact (six_box2 w #[.int .i64 c, .int .i64 d] 32 30 (.int .i64 V.c) (.slice (some ⟨bW, 0, none⟩) V.nW V.nW) (.int .i64 V.g) (.slice (some ⟨bO, 0, none⟩) V.nO V.nO) (.slice (some ⟨bX, 0, none⟩) V.nX V.nX) (.slice (some ⟨bI, 0, none⟩) V.nI V.nI)).below (by simp) ((Below.refl _ _).alloc (Nat.le_refl _) _)
  have O0 : Hid (∀ i, i < 5 → w0.cell? ⟨w.heap.size + 1 + 1, i, none⟩ = some (.int .i64 ([o0, o1, o2, o3, o4].getD i 0))) := by rw [e0]; exact five_box50 w _ _ o0 o1 o2 o3 o4
  rw [← e0]
  clear e0
  refine (cllOk_spec c d _ V lo hs.out _ (CP.out.below B0.out)).mono ?_
  rintro e w1 ⟨rfl, hb1⟩
  rw [h1]
  have B1 : Hid (Below w.heap.size w w1) := bthen B0.out hb1
  have A1 : Hid (Six w1 (w.heap.size + 1) [.int .i64 V.c, .slice (some ⟨bW, 0, none⟩) V.nW V.nW, .int .i64 V.g, .slice (some ⟨bO, 0, none⟩) V.nO V.nO, .slice (some ⟨bX, 0, none⟩) V.nX V.nX, .slice (some ⟨bI, 0, none⟩) V.nI V.nI]) := A0.out.below (by omega) hb1
  have O1 : Hid (∀ i, i < 5 → w1.cell? ⟨w.heap.size + 1 + 1, i, none⟩ = some (.int .i64 ([o0, o1, o2, o3, o4].getD i 0))) := fun i hi => (hb1.cell (p := ⟨w.heap.size + 1 + 1, i, none⟩) (by show w.heap.size + 1 + 1 < _; omega)).trans (O0.out i hi)
  have z1 : w.heap.size + 3 ≤ w1.heap.size := Nat.le_trans z0 hb1.size
  clear A0 B0 O0
  clear hb1
  have a0 : w1.cell? ⟨w.heap.size + 1, 0, none⟩ = some (.int .i64 V.c) := (A1.out 0 (by decide)).1
  have a1 : w1.cell? ⟨w.heap.size + 1, 1, none⟩ = some (.slice (some ⟨bW, 0, none⟩) V.nW V.nW) := (A1.out 1 (by decide)).1
  have a2 : w1.cell? ⟨w.heap.size + 1, 2, none⟩ = some (.int .i64 V.g) := (A1.out 2 (by decide)).1
  have a3 : w1.cell? ⟨w.heap.size + 1, 3, none⟩ = some (.slice (some ⟨bO, 0, none⟩) V.nO V.nO) := (A1.out 3 (by decide)).1
  have a4 : w1.cell? ⟨w.heap.size + 1, 4, none⟩ = some (.slice (some ⟨bX, 0, none⟩) V.nX V.nX) := (A1.out 4 (by decide)).1
  have a5 : w1.cell? ⟨w.heap.size + 1, 5, none⟩ = some (.slice (some ⟨bI, 0, none⟩) V.nI V.nI) := (A1.out 5 (by decide)).1
  have u0 : w1.cell? ⟨w.heap.size + 1 + 1, 0, none⟩ = some (.int .i64 o0) := O1.out 0 (by decide)
  have u1 : w1.cell? ⟨w.heap.size + 1 + 1, 1, none⟩ = some (.int .i64 o1) := O1.out 1 (by decide)
  have u2 : w1.cell? ⟨w.heap.size + 1 + 1, 2, none⟩ = some (.int .i64 o2) := O1.out 2 (by decide)
  have u3 : w1.cell? ⟨w.heap.size + 1 + 1, 3, none⟩ = some (.int .i64 o3) := O1.out 3 (by decide)
  have u4 : w1.cell? ⟨w.heap.size + 1 + 1, 4, none⟩ = some (.int .i64 o4) := O1.out 4 (by decide)
  have lA : w.heap.size + 1 < w1.heap.size := by omega
  have lO : w.heap.size + 1 + 1 < w1.heap.size := by omega
  go_wp2_with fail
  refine (ordOk_spec _ _ _ _ _ _).mono ?_
  rintro e w2 ⟨rfl, hb2⟩
  rw [h2]
  clear a0 a1 a2 a3 a4 a5 u0 u1 u2 u3 u4 lA lO
  have B2 : Hid (Below w.heap.size w w2) := bthen B1.out hb2
  have A2 : Hid (Six w2 (w.heap.size + 1) [.int .i64 V.c, .slice (some ⟨bW, 0, none⟩) V.nW V.nW, .int .i64 V.g, .slice (some ⟨bO, 0, none⟩) V.nO V.nO, .slice (some ⟨bX, 0, none⟩) V.nX V.nX, .slice (some ⟨bI, 0, none⟩) V.nI V.nI]) := A1.out.below (by omega) hb2
  have O2 : Hid (∀ i, i < 5 → w2.cell? ⟨w.heap.size + 1 + 1, i, none⟩ = some (.int .i64 ([o0, o1, o2, o3, o4].getD i 0))) := fun i hi => (hb2.cell (p := ⟨w.heap.size + 1 + 1, i, none⟩) (by show w.heap.size + 1 + 1 < _; omega)).trans (O1.out i hi)
  have z2 : w.heap.size + 3 ≤ w2.heap.size := Nat.le_trans z1 hb2.size
  clear A1 B1 O1
  clear hb2
  have a0 : w2.cell? ⟨w.heap.size + 1, 0, none⟩ = some (.int .i64 V.c) := (A2.out 0 (by decide)).1
  have a1 : w2.cell? ⟨w.heap.size + 1, 1, none⟩ = some (.slice (some ⟨bW, 0, none⟩) V.nW V.nW) := (A2.out 1 (by decide)).1
  have a2 : w2.cell? ⟨w.heap.size + 1, 2, none⟩ = some (.int .i64 V.g) := (A2.out 2 (by decide)).1
  have a3 : w2.cell? ⟨w.heap.size + 1, 3, none⟩ = some (.slice (some ⟨bO, 0, none⟩) V.nO V.nO) := (A2.out 3 (by decide)).1
  have a4 : w2.cell? ⟨w.heap.size + 1, 4, none⟩ = some (.slice (some ⟨bX, 0, none⟩) V.nX V.nX) := (A2.out 4 (by decide)).1
  have a5 : w2.cell? ⟨w.heap.size + 1, 5, none⟩ = some (.slice (some ⟨bI, 0, none⟩) V.nI V.nI) := (A2.out 5 (by decide)).1
  have u0 : w2.cell? ⟨w.heap.size + 1 + 1, 0, none⟩ = some (.int .i64 o0) := O2.out 0 (by decide)
  have u1 : w2.cell? ⟨w.heap.size + 1 + 1, 1, none⟩ = some (.int .i64 o1) := O2.out 1 (by decide)
  have u2 : w2.cell? ⟨w.heap.size + 1 + 1, 2, none⟩ = some (.int .i64 o2) := O2.out 2 (by decide)
  have u3 : w2.cell? ⟨w.heap.size + 1 + 1, 3, none⟩ = some (.int .i64 o3) := O2.out 3 (by decide)
  have u4 : w2.cell? ⟨w.heap.size + 1 + 1, 4, none⟩ = some (.int .i64 o4) := O2.out 4 (by decide)
  have lA : w.heap.size + 1 < w2.heap.size := by omega
  have lO : w.heap.size + 1 + 1 < w2.heap.size := by omega
  go_wp2_with fail
  refine (l5fresh o0 o1 o2 o3 o4 V bW bO bX bI hs.out _ (by omega) (own_below gW.out lW B2.out) f t hF.out).mono ?_
  rintro e w3 ⟨rfl, hb3⟩
  go_wp2
  go_ret
  exact ⟨by rw [Bool.true_and, Bool.true_and]; rfl, bthen B2.out hb3⟩
end Go.Proofs.Ytoiehmnhfjmfeaa
