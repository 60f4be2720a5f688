/- The walk of the law FnExactStoNew: it answers true; conditions: the walkers lie in memory. -/
import Derived.Test.YtiahmakaegnnfaaSto6
import Derived.Test.YtiahmakaegnnfaaLawNew
import Derived.Test.YtiahmakaegnnfaaLawOk
namespace Go.Proofs.Ytiahmakaegnnfaa
open Go.RowKit Go.Deep
set_option linter.unusedVariables false
theorem OwnS.wide {lo hi lo' : Nat} {w : World} {v : Value} {V : CV} (h : OwnS lo hi w v V) (h1 : lo' ≤ lo) : OwnS lo' hi w v V := by
  obtain ⟨x1, x2, x3, x4, e, h⟩ := h
  refine ⟨x1, x2, x3, x4, e, ?_⟩
  obtain ⟨vW, vO, vX, vI, gW, gO, gX, gI, sl, xs, e, rW, rO, rX, rI, hd, hx1, hx2⟩ := h
  have wI : ∀ {v : Value} {n : Nat} {X : Nat → Int} {g : Nat}, RI lo hi w v n X g → RI lo' hi w v n X g := fun r => by
    rcases r with r | ⟨c, a1, a2, a3, a4, a5⟩
    · exact .inl r
    · exact .inr ⟨c, a1, by omega, a3, a4, a5⟩
  have wP : ∀ {v : Value} {n : Nat} {Z : Nat → Nat → Int} {g : Nat}, RP lo hi w v n Z g → RP lo' hi w v n Z g := fun r => by
    rcases r with r | ⟨c, a1, a2, a3, a4, a5⟩
    · exact .inl r
    · exact .inr ⟨c, a1, by omega, a3, a4, a5⟩
  refine ⟨vW, vO, vX, vI, gW, gO, gX, gI, sl, xs, e, ?_, ?_, wI rX, wI rI, hd, hx1, hx2⟩
  · rcases rW with r | ⟨c, a1, a2, a3, a4, a5⟩
    · exact .inl r
    · exact .inr ⟨c, a1, by omega, a3, a4, a5⟩
  · rcases rO with r | ⟨c, a1, a2, a3, a4, a5⟩
    · exact .inl r
    · exact .inr ⟨c, a1, by omega, a3, a4, fun k hk => ⟨(a5 k hk).1, wP (a5 k hk).2⟩⟩

set_option maxHeartbeats 8000000 in
theorem law_stoNew (c d cell : Int) (a : Option Addr) (n cap : Nat) (Z : Nat → Nat → Int) (hm : n ≤ maxLen) (w : World) (h : Row5 w a n Z) :
    Calls Try.prog 4 #[.agg #[.int .i64 c, .int .i64 d], .int .i64 cell, .slice a n cap] w fun e w' => e = .returned (.bool true) ∧ Below w.heap.size w w' := by
  have H : Hid (Row5 w a n Z) := h
  clear h
  have hm' : (n : Int) ≤ 9223372036854775807 := by unfold maxLen at hm; omega
  clear hm
  go_enter Try.func4, Try.ntmps4
  go_wp2_with fail
  obtain ⟨w0, e0⟩ : ∃ w0, w0 = w.alloc (.cells #[.int .i64 c, .int .i64 d] 23) := ⟨_, rfl⟩
  have z0 : w.heap.size + 1 ≤ w0.heap.size := by rw [e0]; simp
  have B0 : Hid (Below w.heap.size w w0) := by rw [e0]; exact (Below.refl _ _).alloc (by simp) _
  have M0 : Hid (w0.cell? ⟨w.heap.size, 0, none⟩ = some (.int .i64 c) ∧ w0.cell? ⟨w.heap.size, 1, none⟩ = some (.int .i64 d)) := by rw [e0]; exact ⟨by simp, by simp⟩
  rw [← e0]
  clear e0
  refine (szList a n cap hm' _).mono ?_
  rintro e w1 ⟨rfl, hb1⟩
  have B1 : Hid (Below w.heap.size w w1) := bthen B0.out hb1
  have M1 : Hid (w1.cell? ⟨w.heap.size, 0, none⟩ = some (.int .i64 c) ∧ w1.cell? ⟨w.heap.size, 1, none⟩ = some (.int .i64 d)) := ⟨(hb1.cell (p := ⟨w.heap.size, 0, none⟩) (by show w.heap.size < _; omega)).trans M0.out.1, (hb1.cell (p := ⟨w.heap.size, 1, none⟩) (by show w.heap.size < _; omega)).trans M0.out.2⟩
  have z1 : w.heap.size + 1 ≤ w1.heap.size := Nat.le_trans z0 hb1.size
  clear B0 M0
  clear hb1
  by_cases hn : (n : Int) ≤ 1048576
  · rw [if_pos hn]
    have hn2 : n ≤ 1048576 := by omega
    have hlt : ¬ (1048576 - (n : Int)) < 0 := by omega
    obtain ⟨hNS, hNO⟩ := newV_short c d cell Z n hn2
    obtain ⟨NV, eNV⟩ : ∃ NV, NV = newV c d cell Z n := ⟨_, rfl⟩
    rw [← eNV] at hNS hNO
    have HF : Hid NV.few := CV.few_of hNS hNO
    have HS2 : Hid (NV.short 2000000) := hNS.more (by decide)
    have EN : Hid (NV = newV c d cell Z n) := eNV
    clear hNS hNO eNV
    have m0 : w1.cell? ⟨w.heap.size, 0, none⟩ = some (.int .i64 c) := M1.out.1
    have m1 : w1.cell? ⟨w.heap.size, 1, none⟩ = some (.int .i64 d) := M1.out.2
    have lM : w.heap.size < w1.heap.size := by omega
    go_wp2_with fail
    clear m0 m1 lM
    refine (toMap _ _ _).mono ?_
    rintro e w2 ⟨rfl, hb⟩
    have B2 : Hid (Below w.heap.size w w2) := bthen B1.out hb
    have M2 : Hid (w2.cell? ⟨w.heap.size, 0, none⟩ = some (.int .i64 c) ∧ w2.cell? ⟨w.heap.size, 1, none⟩ = some (.int .i64 d)) := ⟨(hb.cell (p := ⟨w.heap.size, 0, none⟩) (by show w.heap.size < _; omega)).trans M1.out.1, (hb.cell (p := ⟨w.heap.size, 1, none⟩) (by show w.heap.size < _; omega)).trans M1.out.2⟩
    have z2 : w.heap.size + 1 ≤ w2.heap.size := Nat.le_trans z1 hb.size
    clear B1 M1
    clear hb
    have m0 : w2.cell? ⟨w.heap.size, 0, none⟩ = some (.int .i64 c) := M2.out.1
    have m1 : w2.cell? ⟨w.heap.size, 1, none⟩ = some (.int .i64 d) := M2.out.2
    have lM : w.heap.size < w2.heap.size := by omega
    go_wp2_with fail
    clear m0 m1 lM
    refine (toWalkers a n cap Z hn2 _ (row5_below H.out B2.out)).mono ?_
    rintro e w3 ⟨rfl, hc, hs, hb⟩
    have B3 : Hid (Below w.heap.size w w3) := bthen B2.out hb
    have M3 : Hid (w3.cell? ⟨w.heap.size, 0, none⟩ = some (.int .i64 c) ∧ w3.cell? ⟨w.heap.size, 1, none⟩ = some (.int .i64 d)) := ⟨(hb.cell (p := ⟨w.heap.size, 0, none⟩) (by show w.heap.size < _; omega)).trans M2.out.1, (hb.cell (p := ⟨w.heap.size, 1, none⟩) (by show w.heap.size < _; omega)).trans M2.out.2⟩
    have z3 : w.heap.size + 1 ≤ w3.heap.size := Nat.le_trans z2 hb.size
    clear B2 M2
    have C3 : Hid (∀ k j, k < n → j < 5 → w3.cell? ⟨w2.heap.size, 0 + k * 5 + j, none⟩ = some (.int .i64 (Z k j))) := own_row hc
    clear hb hc
    have m0 : w3.cell? ⟨w.heap.size, 0, none⟩ = some (.int .i64 c) := M3.out.1
    have m1 : w3.cell? ⟨w.heap.size, 1, none⟩ = some (.int .i64 d) := M3.out.2
    have lM : w.heap.size < w3.heap.size := by omega
    go_wp2_with fail
    clear m0 m1 lM
    refine (stoNew_spec c d cell _ n n Z hn2 _ hs C3.out).mono ?_
    rintro e w4 ⟨⟨v1, rfl, hO⟩, hb⟩
    have B4 : Hid (Below w.heap.size w w4) := bthen B3.out hb
    have M4 : Hid (w4.cell? ⟨w.heap.size, 0, none⟩ = some (.int .i64 c) ∧ w4.cell? ⟨w.heap.size, 1, none⟩ = some (.int .i64 d)) := ⟨(hb.cell (p := ⟨w.heap.size, 0, none⟩) (by show w.heap.size < _; omega)).trans M3.out.1, (hb.cell (p := ⟨w.heap.size, 1, none⟩) (by show w.heap.size < _; omega)).trans M3.out.2⟩
    have z4 : w.heap.size + 1 ≤ w4.heap.size := Nat.le_trans z3 hb.size
    clear B3 M3
    rw [← EN.out] at hO
    have hO2 := OwnS.wide hO (lo' := w3.heap.size) (by omega)
    clear hO
    obtain ⟨x1, x2, x3, x4, rfl, hO⟩ := hO2
    obtain ⟨aW, kW, aO, kO, aX, kX, aI, kI, eO, _, _, _, _⟩ := hO.at
    simp only [Value.agg.injEq, Array.mk.injEq, List.cons.injEq, and_true, true_and] at eO
    obtain ⟨rfl, rfl, rfl, rfl⟩ := eO
    have O1_4 : Hid (OwnS w3.heap.size w4.heap.size w4 (.agg #[.int .i64 0, .int .i64 NV.c, .slice aW NV.nW kW, .int .i64 NV.g, .slice aO NV.nO kO, .slice aX NV.nX kX, .slice aI NV.nI kI, .slice none 0 0]) NV) := ⟨_, _, _, _, rfl, hO⟩
    have yl : w3.heap.size ≤ w4.heap.size := hb.size
    clear hb hO hs C3
    have m0 : w4.cell? ⟨w.heap.size, 0, none⟩ = some (.int .i64 c) := M4.out.1
    have m1 : w4.cell? ⟨w.heap.size, 1, none⟩ = some (.int .i64 d) := M4.out.2
    have lM : w.heap.size < w4.heap.size := by omega
    go_wp2_with fail
    clear m0 m1 lM
    obtain ⟨w5, eb⟩ : ∃ x, x = w4.alloc (.cells #[.int .i64 0, .int .i64 NV.c, .slice aW NV.nW kW, .int .i64 NV.g, .slice aO NV.nO kO, .slice aX NV.nX kX, .slice aI NV.nI kI, .slice none 0 0] 52) := ⟨_, rfl⟩
    have hbx : Below w4.heap.size w4 w5 := by rw [eb]; exact (Below.refl _ _).alloc (Nat.le_refl _) _
    have G8_5 : Hid (Eight w5 w4.heap.size [.int .i64 0, .int .i64 NV.c, .slice aW NV.nW kW, .int .i64 NV.g, .slice aO NV.nO kO, .slice aX NV.nX kX, .slice aI NV.nI kI, .slice none 0 0]) := by rw [eb]; exact eight_new w4 52 (.int .i64 0) (.int .i64 NV.c) (.slice aW NV.nW kW) (.int .i64 NV.g) (.slice aO NV.nO kO) (.slice aX NV.nX kX) (.slice aI NV.nI kI) (.slice none 0 0)
    have y8_5 : w4.heap.size < w5.heap.size := by rw [eb]; simp
    rw [← eb]
    clear eb
    have B5 : Hid (Below w.heap.size w w5) := bthen B4.out hbx
    have M5 : Hid (w5.cell? ⟨w.heap.size, 0, none⟩ = some (.int .i64 c) ∧ w5.cell? ⟨w.heap.size, 1, none⟩ = some (.int .i64 d)) := ⟨(hbx.cell (p := ⟨w.heap.size, 0, none⟩) (by show w.heap.size < _; omega)).trans M4.out.1, (hbx.cell (p := ⟨w.heap.size, 1, none⟩) (by show w.heap.size < _; omega)).trans M4.out.2⟩
    have z5 : w.heap.size + 1 ≤ w5.heap.size := Nat.le_trans z4 hbx.size
    clear B4 M4
    have O1_5 : Hid (OwnS w3.heap.size w4.heap.size w5 (.agg #[.int .i64 0, .int .i64 NV.c, .slice aW NV.nW kW, .int .i64 NV.g, .slice aO NV.nO kO, .slice aX NV.nX kX, .slice aI NV.nI kI, .slice none 0 0]) NV) := O1_4.out.below (Nat.le_refl _) hbx
    clear O1_4 hbx
    generalize w4.heap.size = g8 at *
    generalize w3.heap.size = l1 at *
    refine (toWalkers a n cap Z hn2 _ (row5_below H.out B5.out)).mono ?_
    rintro e w6 ⟨rfl, hc, hs, hb⟩
    have B6 : Hid (Below w.heap.size w w6) := bthen B5.out hb
    have M6 : Hid (w6.cell? ⟨w.heap.size, 0, none⟩ = some (.int .i64 c) ∧ w6.cell? ⟨w.heap.size, 1, none⟩ = some (.int .i64 d)) := ⟨(hb.cell (p := ⟨w.heap.size, 0, none⟩) (by show w.heap.size < _; omega)).trans M5.out.1, (hb.cell (p := ⟨w.heap.size, 1, none⟩) (by show w.heap.size < _; omega)).trans M5.out.2⟩
    have z6 : w.heap.size + 1 ≤ w6.heap.size := Nat.le_trans z5 hb.size
    have G8_6 : Hid (Eight w6 g8 [.int .i64 0, .int .i64 NV.c, .slice aW NV.nW kW, .int .i64 NV.g, .slice aO NV.nO kO, .slice aX NV.nX kX, .slice aI NV.nI kI, .slice none 0 0]) := G8_5.out.below y8_5 hb
    have O1_6 : Hid (OwnS l1 g8 w6 (.agg #[.int .i64 0, .int .i64 NV.c, .slice aW NV.nW kW, .int .i64 NV.g, .slice aO NV.nO kO, .slice aX NV.nX kX, .slice aI NV.nI kI, .slice none 0 0]) NV) := O1_5.out.below (by omega) hb
    have y8_6 : g8 < w6.heap.size := Nat.lt_of_lt_of_le y8_5 hb.size
    clear B5 M5 G8_5 O1_5
    have X6 : Hid (Own5 w6 w5.heap.size n Z n) := hc
    have yp_6 : w5.heap.size < w6.heap.size := hs
    have yp8 : g8 < w5.heap.size := y8_5
    clear hb hc hs
    generalize w5.heap.size = px at *
    have m0 : w6.cell? ⟨w.heap.size, 0, none⟩ = some (.int .i64 c) := M6.out.1
    have m1 : w6.cell? ⟨w.heap.size, 1, none⟩ = some (.int .i64 d) := M6.out.2
    have lM : w.heap.size < w6.heap.size := by omega
    have a0 : w6.cell? ⟨g8, 0, none⟩ = some (.int .i64 0) := (G8_6.out 0 (by decide)).1
    have a1 : w6.cell? ⟨g8, 1, none⟩ = some (.int .i64 NV.c) := (G8_6.out 1 (by decide)).1
    have a2 : w6.cell? ⟨g8, 2, none⟩ = some (.slice aW NV.nW kW) := (G8_6.out 2 (by decide)).1
    have a3 : w6.cell? ⟨g8, 3, none⟩ = some (.int .i64 NV.g) := (G8_6.out 3 (by decide)).1
    have a4 : w6.cell? ⟨g8, 4, none⟩ = some (.slice aO NV.nO kO) := (G8_6.out 4 (by decide)).1
    have a5 : w6.cell? ⟨g8, 5, none⟩ = some (.slice aX NV.nX kX) := (G8_6.out 5 (by decide)).1
    have a6 : w6.cell? ⟨g8, 6, none⟩ = some (.slice aI NV.nI kI) := (G8_6.out 6 (by decide)).1
    have a7 : w6.cell? ⟨g8, 7, none⟩ = some (.slice none 0 0) := (G8_6.out 7 (by decide)).1
    have lg8 : g8 < w6.heap.size := y8_6
    go_wp2_with fail
    clear m0 m1 lM a0 a1 a2 a3 a4 a5 a6 a7 lg8
    refine (toMap _ _ _).mono ?_
    rintro e w7 ⟨rfl, hb⟩
    have B7 : Hid (Below w.heap.size w w7) := bthen B6.out hb
    have M7 : Hid (w7.cell? ⟨w.heap.size, 0, none⟩ = some (.int .i64 c) ∧ w7.cell? ⟨w.heap.size, 1, none⟩ = some (.int .i64 d)) := ⟨(hb.cell (p := ⟨w.heap.size, 0, none⟩) (by show w.heap.size < _; omega)).trans M6.out.1, (hb.cell (p := ⟨w.heap.size, 1, none⟩) (by show w.heap.size < _; omega)).trans M6.out.2⟩
    have z7 : w.heap.size + 1 ≤ w7.heap.size := Nat.le_trans z6 hb.size
    have G8_7 : Hid (Eight w7 g8 [.int .i64 0, .int .i64 NV.c, .slice aW NV.nW kW, .int .i64 NV.g, .slice aO NV.nO kO, .slice aX NV.nX kX, .slice aI NV.nI kI, .slice none 0 0]) := G8_6.out.below y8_6 hb
    have O1_7 : Hid (OwnS l1 g8 w7 (.agg #[.int .i64 0, .int .i64 NV.c, .slice aW NV.nW kW, .int .i64 NV.g, .slice aO NV.nO kO, .slice aX NV.nX kX, .slice aI NV.nI kI, .slice none 0 0]) NV) := O1_6.out.below (by omega) hb
    have y8_7 : g8 < w7.heap.size := Nat.lt_of_lt_of_le y8_6 hb.size
    have X7 : Hid (Own5 w7 px n Z n) := own_below X6.out yp_6 hb
    have yp_7 : px < w7.heap.size := Nat.lt_of_lt_of_le yp_6 hb.size
    clear B6 M6 G8_6 O1_6 X6
    clear hb
    have m0 : w7.cell? ⟨w.heap.size, 0, none⟩ = some (.int .i64 c) := M7.out.1
    have m1 : w7.cell? ⟨w.heap.size, 1, none⟩ = some (.int .i64 d) := M7.out.2
    have lM : w.heap.size < w7.heap.size := by omega
    have a0 : w7.cell? ⟨g8, 0, none⟩ = some (.int .i64 0) := (G8_7.out 0 (by decide)).1
    have a1 : w7.cell? ⟨g8, 1, none⟩ = some (.int .i64 NV.c) := (G8_7.out 1 (by decide)).1
    have a2 : w7.cell? ⟨g8, 2, none⟩ = some (.slice aW NV.nW kW) := (G8_7.out 2 (by decide)).1
    have a3 : w7.cell? ⟨g8, 3, none⟩ = some (.int .i64 NV.g) := (G8_7.out 3 (by decide)).1
    have a4 : w7.cell? ⟨g8, 4, none⟩ = some (.slice aO NV.nO kO) := (G8_7.out 4 (by decide)).1
    have a5 : w7.cell? ⟨g8, 5, none⟩ = some (.slice aX NV.nX kX) := (G8_7.out 5 (by decide)).1
    have a6 : w7.cell? ⟨g8, 6, none⟩ = some (.slice aI NV.nI kI) := (G8_7.out 6 (by decide)).1
    have a7 : w7.cell? ⟨g8, 7, none⟩ = some (.slice none 0 0) := (G8_7.out 7 (by decide)).1
    have lg8 : g8 < w7.heap.size := y8_7
    go_wp2_with fail
    clear m0 m1 lM a0 a1 a2 a3 a4 a5 a6 a7 lg8
    refine (stoNew_impl c d cell _ n n Z hn2 _ yp_7 (own_row X7.out)).mono ?_
    rintro e w8 ⟨⟨v2, rfl, hO⟩, hb⟩
    have B8 : Hid (Below w.heap.size w w8) := bthen B7.out hb
    have M8 : Hid (w8.cell? ⟨w.heap.size, 0, none⟩ = some (.int .i64 c) ∧ w8.cell? ⟨w.heap.size, 1, none⟩ = some (.int .i64 d)) := ⟨(hb.cell (p := ⟨w.heap.size, 0, none⟩) (by show w.heap.size < _; omega)).trans M7.out.1, (hb.cell (p := ⟨w.heap.size, 1, none⟩) (by show w.heap.size < _; omega)).trans M7.out.2⟩
    have z8 : w.heap.size + 1 ≤ w8.heap.size := Nat.le_trans z7 hb.size
    have G8_8 : Hid (Eight w8 g8 [.int .i64 0, .int .i64 NV.c, .slice aW NV.nW kW, .int .i64 NV.g, .slice aO NV.nO kO, .slice aX NV.nX kX, .slice aI NV.nI kI, .slice none 0 0]) := G8_7.out.below y8_7 hb
    have O1_8 : Hid (OwnS l1 g8 w8 (.agg #[.int .i64 0, .int .i64 NV.c, .slice aW NV.nW kW, .int .i64 NV.g, .slice aO NV.nO kO, .slice aX NV.nX kX, .slice aI NV.nI kI, .slice none 0 0]) NV) := O1_7.out.below (by omega) hb
    have y8_8 : g8 < w8.heap.size := Nat.lt_of_lt_of_le y8_7 hb.size
    have X8 : Hid (Own5 w8 px n Z n) := own_below X7.out yp_7 hb
    have yp_8 : px < w8.heap.size := Nat.lt_of_lt_of_le yp_7 hb.size
    clear B7 M7 G8_7 O1_7 X7
    rw [← EN.out] at hO
    have hO2 := OwnS.wide hO (lo' := w7.heap.size) (by omega)
    clear hO
    obtain ⟨y1, y2, y3, y4, rfl, hO⟩ := hO2
    obtain ⟨bW, lW, bO, lO, bX, lX, bI, lI, eO, _, _, _, _⟩ := hO.at
    simp only [Value.agg.injEq, Array.mk.injEq, List.cons.injEq, and_true, true_and] at eO
    obtain ⟨rfl, rfl, rfl, rfl⟩ := eO
    have O2_8 : Hid (OwnS w7.heap.size w8.heap.size w8 (.agg #[.int .i64 0, .int .i64 NV.c, .slice bW NV.nW lW, .int .i64 NV.g, .slice bO NV.nO lO, .slice bX NV.nX lX, .slice bI NV.nI lI, .slice none 0 0]) NV) := ⟨_, _, _, _, rfl, hO⟩
    have yl2 : w7.heap.size ≤ w8.heap.size := hb.size
    have ypl : px < w7.heap.size := yp_7
    clear hb hO
    have m0 : w8.cell? ⟨w.heap.size, 0, none⟩ = some (.int .i64 c) := M8.out.1
    have m1 : w8.cell? ⟨w.heap.size, 1, none⟩ = some (.int .i64 d) := M8.out.2
    have lM : w.heap.size < w8.heap.size := by omega
    have a0 : w8.cell? ⟨g8, 0, none⟩ = some (.int .i64 0) := (G8_8.out 0 (by decide)).1
    have a1 : w8.cell? ⟨g8, 1, none⟩ = some (.int .i64 NV.c) := (G8_8.out 1 (by decide)).1
    have a2 : w8.cell? ⟨g8, 2, none⟩ = some (.slice aW NV.nW kW) := (G8_8.out 2 (by decide)).1
    have a3 : w8.cell? ⟨g8, 3, none⟩ = some (.int .i64 NV.g) := (G8_8.out 3 (by decide)).1
    have a4 : w8.cell? ⟨g8, 4, none⟩ = some (.slice aO NV.nO kO) := (G8_8.out 4 (by decide)).1
    have a5 : w8.cell? ⟨g8, 5, none⟩ = some (.slice aX NV.nX kX) := (G8_8.out 5 (by decide)).1
    have a6 : w8.cell? ⟨g8, 6, none⟩ = some (.slice aI NV.nI kI) := (G8_8.out 6 (by decide)).1
    have a7 : w8.cell? ⟨g8, 7, none⟩ = some (.slice none 0 0) := (G8_8.out 7 (by decide)).1
    have lg8 : g8 < w8.heap.size := y8_8
    go_wp2_with fail
    clear m0 m1 lM a0 a1 a2 a3 a4 a5 a6 a7 lg8
    obtain ⟨w9, eb⟩ : ∃ x, x = w8.alloc (.cells #[.int .i64 0, .int .i64 NV.c, .slice bW NV.nW lW, .int .i64 NV.g, .slice bO NV.nO lO, .slice bX NV.nX lX, .slice bI NV.nI lI, .slice none 0 0] 52) := ⟨_, rfl⟩
    have hbx : Below w8.heap.size w8 w9 := by rw [eb]; exact (Below.refl _ _).alloc (Nat.le_refl _) _
    have G10_9 : Hid (Eight w9 w8.heap.size [.int .i64 0, .int .i64 NV.c, .slice bW NV.nW lW, .int .i64 NV.g, .slice bO NV.nO lO, .slice bX NV.nX lX, .slice bI NV.nI lI, .slice none 0 0]) := by rw [eb]; exact eight_new w8 52 (.int .i64 0) (.int .i64 NV.c) (.slice bW NV.nW lW) (.int .i64 NV.g) (.slice bO NV.nO lO) (.slice bX NV.nX lX) (.slice bI NV.nI lI) (.slice none 0 0)
    have y10_9 : w8.heap.size < w9.heap.size := by rw [eb]; simp
    rw [← eb]
    clear eb
    have B9 : Hid (Below w.heap.size w w9) := bthen B8.out hbx
    have M9 : Hid (w9.cell? ⟨w.heap.size, 0, none⟩ = some (.int .i64 c) ∧ w9.cell? ⟨w.heap.size, 1, none⟩ = some (.int .i64 d)) := ⟨(hbx.cell (p := ⟨w.heap.size, 0, none⟩) (by show w.heap.size < _; omega)).trans M8.out.1, (hbx.cell (p := ⟨w.heap.size, 1, none⟩) (by show w.heap.size < _; omega)).trans M8.out.2⟩
    have z9 : w.heap.size + 1 ≤ w9.heap.size := Nat.le_trans z8 hbx.size
    have G8_9 : Hid (Eight w9 g8 [.int .i64 0, .int .i64 NV.c, .slice aW NV.nW kW, .int .i64 NV.g, .slice aO NV.nO kO, .slice aX NV.nX kX, .slice aI NV.nI kI, .slice none 0 0]) := G8_8.out.below y8_8 hbx
    have O1_9 : Hid (OwnS l1 g8 w9 (.agg #[.int .i64 0, .int .i64 NV.c, .slice aW NV.nW kW, .int .i64 NV.g, .slice aO NV.nO kO, .slice aX NV.nX kX, .slice aI NV.nI kI, .slice none 0 0]) NV) := O1_8.out.below (by omega) hbx
    have y8_9 : g8 < w9.heap.size := Nat.lt_of_lt_of_le y8_8 hbx.size
    have X9 : Hid (Own5 w9 px n Z n) := own_below X8.out yp_8 hbx
    have yp_9 : px < w9.heap.size := Nat.lt_of_lt_of_le yp_8 hbx.size
    clear B8 M8 G8_8 O1_8 X8
    have O2_9 : Hid (OwnS w7.heap.size w8.heap.size w9 (.agg #[.int .i64 0, .int .i64 NV.c, .slice bW NV.nW lW, .int .i64 NV.g, .slice bO NV.nO lO, .slice bX NV.nX lX, .slice bI NV.nI lI, .slice none 0 0]) NV) := O2_8.out.below (Nat.le_refl _) hbx
    clear O2_8 hbx
    generalize w8.heap.size = g10 at *
    generalize w7.heap.size = l2 at *
    refine (eqSto _ _ NV HS2.out _ O2_9.out.at O1_9.out.at).mono ?_
    rintro e w10 ⟨rfl, hb⟩
    have B10 : Hid (Below w.heap.size w w10) := bthen B9.out hb
    have M10 : Hid (w10.cell? ⟨w.heap.size, 0, none⟩ = some (.int .i64 c) ∧ w10.cell? ⟨w.heap.size, 1, none⟩ = some (.int .i64 d)) := ⟨(hb.cell (p := ⟨w.heap.size, 0, none⟩) (by show w.heap.size < _; omega)).trans M9.out.1, (hb.cell (p := ⟨w.heap.size, 1, none⟩) (by show w.heap.size < _; omega)).trans M9.out.2⟩
    have z10 : w.heap.size + 1 ≤ w10.heap.size := Nat.le_trans z9 hb.size
    have G8_10 : Hid (Eight w10 g8 [.int .i64 0, .int .i64 NV.c, .slice aW NV.nW kW, .int .i64 NV.g, .slice aO NV.nO kO, .slice aX NV.nX kX, .slice aI NV.nI kI, .slice none 0 0]) := G8_9.out.below y8_9 hb
    have O1_10 : Hid (OwnS l1 g8 w10 (.agg #[.int .i64 0, .int .i64 NV.c, .slice aW NV.nW kW, .int .i64 NV.g, .slice aO NV.nO kO, .slice aX NV.nX kX, .slice aI NV.nI kI, .slice none 0 0]) NV) := O1_9.out.below (by omega) hb
    have y8_10 : g8 < w10.heap.size := Nat.lt_of_lt_of_le y8_9 hb.size
    have X10 : Hid (Own5 w10 px n Z n) := own_below X9.out yp_9 hb
    have yp_10 : px < w10.heap.size := Nat.lt_of_lt_of_le yp_9 hb.size
    have G10_10 : Hid (Eight w10 g10 [.int .i64 0, .int .i64 NV.c, .slice bW NV.nW lW, .int .i64 NV.g, .slice bO NV.nO lO, .slice bX NV.nX lX, .slice bI NV.nI lI, .slice none 0 0]) := G10_9.out.below y10_9 hb
    have O2_10 : Hid (OwnS l2 g10 w10 (.agg #[.int .i64 0, .int .i64 NV.c, .slice bW NV.nW lW, .int .i64 NV.g, .slice bO NV.nO lO, .slice bX NV.nX lX, .slice bI NV.nI lI, .slice none 0 0]) NV) := O2_9.out.below (by omega) hb
    have y10_10 : g10 < w10.heap.size := Nat.lt_of_lt_of_le y10_9 hb.size
    clear B9 M9 G8_9 O1_9 X9 G10_9 O2_9
    clear hb
    have m0 : w10.cell? ⟨w.heap.size, 0, none⟩ = some (.int .i64 c) := M10.out.1
    have m1 : w10.cell? ⟨w.heap.size, 1, none⟩ = some (.int .i64 d) := M10.out.2
    have lM : w.heap.size < w10.heap.size := by omega
    have a0 : w10.cell? ⟨g8, 0, none⟩ = some (.int .i64 0) := (G8_10.out 0 (by decide)).1
    have a1 : w10.cell? ⟨g8, 1, none⟩ = some (.int .i64 NV.c) := (G8_10.out 1 (by decide)).1
    have a2 : w10.cell? ⟨g8, 2, none⟩ = some (.slice aW NV.nW kW) := (G8_10.out 2 (by decide)).1
    have a3 : w10.cell? ⟨g8, 3, none⟩ = some (.int .i64 NV.g) := (G8_10.out 3 (by decide)).1
    have a4 : w10.cell? ⟨g8, 4, none⟩ = some (.slice aO NV.nO kO) := (G8_10.out 4 (by decide)).1
    have a5 : w10.cell? ⟨g8, 5, none⟩ = some (.slice aX NV.nX kX) := (G8_10.out 5 (by decide)).1
    have a6 : w10.cell? ⟨g8, 6, none⟩ = some (.slice aI NV.nI kI) := (G8_10.out 6 (by decide)).1
    have a7 : w10.cell? ⟨g8, 7, none⟩ = some (.slice none 0 0) := (G8_10.out 7 (by decide)).1
    have lg8 : g8 < w10.heap.size := y8_10
    have b0 : w10.cell? ⟨g10, 0, none⟩ = some (.int .i64 0) := (G10_10.out 0 (by decide)).1
    have b1 : w10.cell? ⟨g10, 1, none⟩ = some (.int .i64 NV.c) := (G10_10.out 1 (by decide)).1
    have b2 : w10.cell? ⟨g10, 2, none⟩ = some (.slice bW NV.nW lW) := (G10_10.out 2 (by decide)).1
    have b3 : w10.cell? ⟨g10, 3, none⟩ = some (.int .i64 NV.g) := (G10_10.out 3 (by decide)).1
    have b4 : w10.cell? ⟨g10, 4, none⟩ = some (.slice bO NV.nO lO) := (G10_10.out 4 (by decide)).1
    have b5 : w10.cell? ⟨g10, 5, none⟩ = some (.slice bX NV.nX lX) := (G10_10.out 5 (by decide)).1
    have b6 : w10.cell? ⟨g10, 6, none⟩ = some (.slice bI NV.nI lI) := (G10_10.out 6 (by decide)).1
    have b7 : w10.cell? ⟨g10, 7, none⟩ = some (.slice none 0 0) := (G10_10.out 7 (by decide)).1
    have lg10 : g10 < w10.heap.size := y10_10
    go_wp2_with fail
    clear m0 m1 lM a0 a1 a2 a3 a4 a5 a6 a7 lg8 b0 b1 b2 b3 b4 b5 b6 b7 lg10
    refine (toWalkers a n cap Z hn2 _ (row5_below H.out B10.out)).mono ?_
    rintro e w11 ⟨rfl, hc, hs, hb⟩
    have B11 : Hid (Below w.heap.size w w11) := bthen B10.out hb
    have M11 : Hid (w11.cell? ⟨w.heap.size, 0, none⟩ = some (.int .i64 c) ∧ w11.cell? ⟨w.heap.size, 1, none⟩ = some (.int .i64 d)) := ⟨(hb.cell (p := ⟨w.heap.size, 0, none⟩) (by show w.heap.size < _; omega)).trans M10.out.1, (hb.cell (p := ⟨w.heap.size, 1, none⟩) (by show w.heap.size < _; omega)).trans M10.out.2⟩
    have z11 : w.heap.size + 1 ≤ w11.heap.size := Nat.le_trans z10 hb.size
    have G8_11 : Hid (Eight w11 g8 [.int .i64 0, .int .i64 NV.c, .slice aW NV.nW kW, .int .i64 NV.g, .slice aO NV.nO kO, .slice aX NV.nX kX, .slice aI NV.nI kI, .slice none 0 0]) := G8_10.out.below y8_10 hb
    have O1_11 : Hid (OwnS l1 g8 w11 (.agg #[.int .i64 0, .int .i64 NV.c, .slice aW NV.nW kW, .int .i64 NV.g, .slice aO NV.nO kO, .slice aX NV.nX kX, .slice aI NV.nI kI, .slice none 0 0]) NV) := O1_10.out.below (by omega) hb
    have y8_11 : g8 < w11.heap.size := Nat.lt_of_lt_of_le y8_10 hb.size
    have X11 : Hid (Own5 w11 px n Z n) := own_below X10.out yp_10 hb
    have yp_11 : px < w11.heap.size := Nat.lt_of_lt_of_le yp_10 hb.size
    have G10_11 : Hid (Eight w11 g10 [.int .i64 0, .int .i64 NV.c, .slice bW NV.nW lW, .int .i64 NV.g, .slice bO NV.nO lO, .slice bX NV.nX lX, .slice bI NV.nI lI, .slice none 0 0]) := G10_10.out.below y10_10 hb
    have O2_11 : Hid (OwnS l2 g10 w11 (.agg #[.int .i64 0, .int .i64 NV.c, .slice bW NV.nW lW, .int .i64 NV.g, .slice bO NV.nO lO, .slice bX NV.nX lX, .slice bI NV.nI lI, .slice none 0 0]) NV) := O2_10.out.below (by omega) hb
    have y10_11 : g10 < w11.heap.size := Nat.lt_of_lt_of_le y10_10 hb.size
    clear B10 M10 G8_10 O1_10 X10 G10_10 O2_10
    have C11 : Hid (Own5 w11 w10.heap.size n Z n) := hc
    clear hb hc
    have m0 : w11.cell? ⟨w.heap.size, 0, none⟩ = some (.int .i64 c) := M11.out.1
    have m1 : w11.cell? ⟨w.heap.size, 1, none⟩ = some (.int .i64 d) := M11.out.2
    have lM : w.heap.size < w11.heap.size := by omega
    have a0 : w11.cell? ⟨g8, 0, none⟩ = some (.int .i64 0) := (G8_11.out 0 (by decide)).1
    have a1 : w11.cell? ⟨g8, 1, none⟩ = some (.int .i64 NV.c) := (G8_11.out 1 (by decide)).1
    have a2 : w11.cell? ⟨g8, 2, none⟩ = some (.slice aW NV.nW kW) := (G8_11.out 2 (by decide)).1
    have a3 : w11.cell? ⟨g8, 3, none⟩ = some (.int .i64 NV.g) := (G8_11.out 3 (by decide)).1
    have a4 : w11.cell? ⟨g8, 4, none⟩ = some (.slice aO NV.nO kO) := (G8_11.out 4 (by decide)).1
    have a5 : w11.cell? ⟨g8, 5, none⟩ = some (.slice aX NV.nX kX) := (G8_11.out 5 (by decide)).1
    have a6 : w11.cell? ⟨g8, 6, none⟩ = some (.slice aI NV.nI kI) := (G8_11.out 6 (by decide)).1
    have a7 : w11.cell? ⟨g8, 7, none⟩ = some (.slice none 0 0) := (G8_11.out 7 (by decide)).1
    have lg8 : g8 < w11.heap.size := y8_11
    have b0 : w11.cell? ⟨g10, 0, none⟩ = some (.int .i64 0) := (G10_11.out 0 (by decide)).1
    have b1 : w11.cell? ⟨g10, 1, none⟩ = some (.int .i64 NV.c) := (G10_11.out 1 (by decide)).1
    have b2 : w11.cell? ⟨g10, 2, none⟩ = some (.slice bW NV.nW lW) := (G10_11.out 2 (by decide)).1
    have b3 : w11.cell? ⟨g10, 3, none⟩ = some (.int .i64 NV.g) := (G10_11.out 3 (by decide)).1
    have b4 : w11.cell? ⟨g10, 4, none⟩ = some (.slice bO NV.nO lO) := (G10_11.out 4 (by decide)).1
    have b5 : w11.cell? ⟨g10, 5, none⟩ = some (.slice bX NV.nX lX) := (G10_11.out 5 (by decide)).1
    have b6 : w11.cell? ⟨g10, 6, none⟩ = some (.slice bI NV.nI lI) := (G10_11.out 6 (by decide)).1
    have b7 : w11.cell? ⟨g10, 7, none⟩ = some (.slice none 0 0) := (G10_11.out 7 (by decide)).1
    have lg10 : g10 < w11.heap.size := y10_11
    go_wp2_with fail
    clear m0 m1 lM a0 a1 a2 a3 a4 a5 a6 a7 lg8 b0 b1 b2 b3 b4 b5 b6 b7 lg10
    refine (eqWalkers (some ⟨px, 0, none⟩) (some ⟨w10.heap.size, 0, none⟩) n n n Z (by omega) _ (row5_of_own X11.out yp_11) (row5_of_own C11.out hs)).mono ?_
    rintro e w12 ⟨rfl, hb⟩
    have B12 : Hid (Below w.heap.size w w12) := bthen B11.out hb
    have M12 : Hid (w12.cell? ⟨w.heap.size, 0, none⟩ = some (.int .i64 c) ∧ w12.cell? ⟨w.heap.size, 1, none⟩ = some (.int .i64 d)) := ⟨(hb.cell (p := ⟨w.heap.size, 0, none⟩) (by show w.heap.size < _; omega)).trans M11.out.1, (hb.cell (p := ⟨w.heap.size, 1, none⟩) (by show w.heap.size < _; omega)).trans M11.out.2⟩
    have z12 : w.heap.size + 1 ≤ w12.heap.size := Nat.le_trans z11 hb.size
    have G8_12 : Hid (Eight w12 g8 [.int .i64 0, .int .i64 NV.c, .slice aW NV.nW kW, .int .i64 NV.g, .slice aO NV.nO kO, .slice aX NV.nX kX, .slice aI NV.nI kI, .slice none 0 0]) := G8_11.out.below y8_11 hb
    have O1_12 : Hid (OwnS l1 g8 w12 (.agg #[.int .i64 0, .int .i64 NV.c, .slice aW NV.nW kW, .int .i64 NV.g, .slice aO NV.nO kO, .slice aX NV.nX kX, .slice aI NV.nI kI, .slice none 0 0]) NV) := O1_11.out.below (by omega) hb
    have y8_12 : g8 < w12.heap.size := Nat.lt_of_lt_of_le y8_11 hb.size
    have X12 : Hid (Own5 w12 px n Z n) := own_below X11.out yp_11 hb
    have yp_12 : px < w12.heap.size := Nat.lt_of_lt_of_le yp_11 hb.size
    have G10_12 : Hid (Eight w12 g10 [.int .i64 0, .int .i64 NV.c, .slice bW NV.nW lW, .int .i64 NV.g, .slice bO NV.nO lO, .slice bX NV.nX lX, .slice bI NV.nI lI, .slice none 0 0]) := G10_11.out.below y10_11 hb
    have O2_12 : Hid (OwnS l2 g10 w12 (.agg #[.int .i64 0, .int .i64 NV.c, .slice bW NV.nW lW, .int .i64 NV.g, .slice bO NV.nO lO, .slice bX NV.nX lX, .slice bI NV.nI lI, .slice none 0 0]) NV) := O2_11.out.below (by omega) hb
    have y10_12 : g10 < w12.heap.size := Nat.lt_of_lt_of_le y10_11 hb.size
    clear B11 M11 G8_11 O1_11 X11 G10_11 O2_11
    clear hb hs C11
    have m0 : w12.cell? ⟨w.heap.size, 0, none⟩ = some (.int .i64 c) := M12.out.1
    have m1 : w12.cell? ⟨w.heap.size, 1, none⟩ = some (.int .i64 d) := M12.out.2
    have lM : w.heap.size < w12.heap.size := by omega
    have a0 : w12.cell? ⟨g8, 0, none⟩ = some (.int .i64 0) := (G8_12.out 0 (by decide)).1
    have a1 : w12.cell? ⟨g8, 1, none⟩ = some (.int .i64 NV.c) := (G8_12.out 1 (by decide)).1
    have a2 : w12.cell? ⟨g8, 2, none⟩ = some (.slice aW NV.nW kW) := (G8_12.out 2 (by decide)).1
    have a3 : w12.cell? ⟨g8, 3, none⟩ = some (.int .i64 NV.g) := (G8_12.out 3 (by decide)).1
    have a4 : w12.cell? ⟨g8, 4, none⟩ = some (.slice aO NV.nO kO) := (G8_12.out 4 (by decide)).1
    have a5 : w12.cell? ⟨g8, 5, none⟩ = some (.slice aX NV.nX kX) := (G8_12.out 5 (by decide)).1
    have a6 : w12.cell? ⟨g8, 6, none⟩ = some (.slice aI NV.nI kI) := (G8_12.out 6 (by decide)).1
    have a7 : w12.cell? ⟨g8, 7, none⟩ = some (.slice none 0 0) := (G8_12.out 7 (by decide)).1
    have lg8 : g8 < w12.heap.size := y8_12
    have b0 : w12.cell? ⟨g10, 0, none⟩ = some (.int .i64 0) := (G10_12.out 0 (by decide)).1
    have b1 : w12.cell? ⟨g10, 1, none⟩ = some (.int .i64 NV.c) := (G10_12.out 1 (by decide)).1
    have b2 : w12.cell? ⟨g10, 2, none⟩ = some (.slice bW NV.nW lW) := (G10_12.out 2 (by decide)).1
    have b3 : w12.cell? ⟨g10, 3, none⟩ = some (.int .i64 NV.g) := (G10_12.out 3 (by decide)).1
    have b4 : w12.cell? ⟨g10, 4, none⟩ = some (.slice bO NV.nO lO) := (G10_12.out 4 (by decide)).1
    have b5 : w12.cell? ⟨g10, 5, none⟩ = some (.slice bX NV.nX lX) := (G10_12.out 5 (by decide)).1
    have b6 : w12.cell? ⟨g10, 6, none⟩ = some (.slice bI NV.nI lI) := (G10_12.out 6 (by decide)).1
    have b7 : w12.cell? ⟨g10, 7, none⟩ = some (.slice none 0 0) := (G10_12.out 7 (by decide)).1
    have lg10 : g10 < w12.heap.size := y10_12
    go_wp2_with fail
    clear m0 m1 lM a0 a1 a2 a3 a4 a5 a6 a7 lg8 b0 b1 b2 b3 b4 b5 b6 b7 lg10
    refine (markW 1 px n n Z (by omega) (by omega) _ yp_12 X12.out).mono ?_
    rintro e w13 ⟨rfl, hX, hg, hz0⟩
    have hz : w12.heap.size ≤ w13.heap.size := Nat.le_of_eq hz0.symm
    have HSM : Hid (∀ b, b < w12.heap.size → ¬ b = px → Sm w12 w13 b) := fun b h1 h2 => sm_grown hg h1 (fun e => by injection e with e; omega)
    have B13 : Hid (Below w.heap.size w w13) := B12.out.grown hg (by omega) (fun k e => by cases e; omega)
    have M13 : Hid (w13.cell? ⟨w.heap.size, 0, none⟩ = some (.int .i64 c) ∧ w13.cell? ⟨w.heap.size, 1, none⟩ = some (.int .i64 d)) := ⟨(HSM.out w.heap.size (by omega) (by omega) 0).1.trans M12.out.1, (HSM.out w.heap.size (by omega) (by omega) 1).1.trans M12.out.2⟩
    have z13 : w.heap.size + 1 ≤ w13.heap.size := by omega
    have G8_13 : Hid (Eight w13 g8 [.int .i64 0, .int .i64 NV.c, .slice aW NV.nW kW, .int .i64 NV.g, .slice aO NV.nO kO, .slice aX NV.nX kX, .slice aI NV.nI kI, .slice none 0 0]) := fun i hi => by have h1 := HSM.out g8 (by omega) (by omega) i; rw [h1.1, h1.2]; exact G8_12.out i hi
    have O1_13 : Hid (OwnS l1 g8 w13 (.agg #[.int .i64 0, .int .i64 NV.c, .slice aW NV.nW kW, .int .i64 NV.g, .slice aO NV.nO kO, .slice aX NV.nX kX, .slice aI NV.nI kI, .slice none 0 0]) NV) := O1_12.out.sm hz (fun b q1 q2 => HSM.out b (by omega) (by omega))
    have y8_13 : g8 < w13.heap.size := by omega
    have yp_13 : px < w13.heap.size := by omega
    have G10_13 : Hid (Eight w13 g10 [.int .i64 0, .int .i64 NV.c, .slice bW NV.nW lW, .int .i64 NV.g, .slice bO NV.nO lO, .slice bX NV.nX lX, .slice bI NV.nI lI, .slice none 0 0]) := fun i hi => by have h1 := HSM.out g10 (by omega) (by omega) i; rw [h1.1, h1.2]; exact G10_12.out i hi
    have y10_13 : g10 < w13.heap.size := by omega
    have O2_13 : Hid (OwnS l2 g10 w13 (.agg #[.int .i64 0, .int .i64 NV.c, .slice bW NV.nW lW, .int .i64 NV.g, .slice bO NV.nO lO, .slice bX NV.nX lX, .slice bI NV.nI lI, .slice none 0 0]) NV) := O2_12.out.sm hz (fun b q1 q2 => HSM.out b (by omega) (by omega))
    clear hX hg hz0 hz HSM X12 O2_12 B12 M12 G8_12 O1_12 G10_12
    have nn13 : ¬ ((1 + n * 5 : Nat) : Int) < 0 := by omega
    have m0 : w13.cell? ⟨w.heap.size, 0, none⟩ = some (.int .i64 c) := M13.out.1
    have m1 : w13.cell? ⟨w.heap.size, 1, none⟩ = some (.int .i64 d) := M13.out.2
    have lM : w.heap.size < w13.heap.size := by omega
    have a0 : w13.cell? ⟨g8, 0, none⟩ = some (.int .i64 0) := (G8_13.out 0 (by decide)).1
    have a1 : w13.cell? ⟨g8, 1, none⟩ = some (.int .i64 NV.c) := (G8_13.out 1 (by decide)).1
    have a2 : w13.cell? ⟨g8, 2, none⟩ = some (.slice aW NV.nW kW) := (G8_13.out 2 (by decide)).1
    have a3 : w13.cell? ⟨g8, 3, none⟩ = some (.int .i64 NV.g) := (G8_13.out 3 (by decide)).1
    have a4 : w13.cell? ⟨g8, 4, none⟩ = some (.slice aO NV.nO kO) := (G8_13.out 4 (by decide)).1
    have a5 : w13.cell? ⟨g8, 5, none⟩ = some (.slice aX NV.nX kX) := (G8_13.out 5 (by decide)).1
    have a6 : w13.cell? ⟨g8, 6, none⟩ = some (.slice aI NV.nI kI) := (G8_13.out 6 (by decide)).1
    have a7 : w13.cell? ⟨g8, 7, none⟩ = some (.slice none 0 0) := (G8_13.out 7 (by decide)).1
    have lg8 : g8 < w13.heap.size := y8_13
    have b0 : w13.cell? ⟨g10, 0, none⟩ = some (.int .i64 0) := (G10_13.out 0 (by decide)).1
    have b1 : w13.cell? ⟨g10, 1, none⟩ = some (.int .i64 NV.c) := (G10_13.out 1 (by decide)).1
    have b2 : w13.cell? ⟨g10, 2, none⟩ = some (.slice bW NV.nW lW) := (G10_13.out 2 (by decide)).1
    have b3 : w13.cell? ⟨g10, 3, none⟩ = some (.int .i64 NV.g) := (G10_13.out 3 (by decide)).1
    have b4 : w13.cell? ⟨g10, 4, none⟩ = some (.slice bO NV.nO lO) := (G10_13.out 4 (by decide)).1
    have b5 : w13.cell? ⟨g10, 5, none⟩ = some (.slice bX NV.nX lX) := (G10_13.out 5 (by decide)).1
    have b6 : w13.cell? ⟨g10, 6, none⟩ = some (.slice bI NV.nI lI) := (G10_13.out 6 (by decide)).1
    have b7 : w13.cell? ⟨g10, 7, none⟩ = some (.slice none 0 0) := (G10_13.out 7 (by decide)).1
    have lg10 : g10 < w13.heap.size := y10_13
    go_wp2_with fail
    clear m0 m1 lM a0 a1 a2 a3 a4 a5 a6 a7 lg8 b0 b1 b2 b3 b4 b5 b6 b7 lg10
    refine (eqSto _ _ NV HS2.out _ O2_13.out.at O1_13.out.at).mono ?_
    rintro e w14 ⟨rfl, hb⟩
    have B14 : Hid (Below w.heap.size w w14) := bthen B13.out hb
    have M14 : Hid (w14.cell? ⟨w.heap.size, 0, none⟩ = some (.int .i64 c) ∧ w14.cell? ⟨w.heap.size, 1, none⟩ = some (.int .i64 d)) := ⟨(hb.cell (p := ⟨w.heap.size, 0, none⟩) (by show w.heap.size < _; omega)).trans M13.out.1, (hb.cell (p := ⟨w.heap.size, 1, none⟩) (by show w.heap.size < _; omega)).trans M13.out.2⟩
    have z14 : w.heap.size + 1 ≤ w14.heap.size := Nat.le_trans z13 hb.size
    have G8_14 : Hid (Eight w14 g8 [.int .i64 0, .int .i64 NV.c, .slice aW NV.nW kW, .int .i64 NV.g, .slice aO NV.nO kO, .slice aX NV.nX kX, .slice aI NV.nI kI, .slice none 0 0]) := G8_13.out.below y8_13 hb
    have O1_14 : Hid (OwnS l1 g8 w14 (.agg #[.int .i64 0, .int .i64 NV.c, .slice aW NV.nW kW, .int .i64 NV.g, .slice aO NV.nO kO, .slice aX NV.nX kX, .slice aI NV.nI kI, .slice none 0 0]) NV) := O1_13.out.below (by omega) hb
    have y8_14 : g8 < w14.heap.size := Nat.lt_of_lt_of_le y8_13 hb.size
    have yp_14 : px < w14.heap.size := Nat.lt_of_lt_of_le yp_13 hb.size
    have G10_14 : Hid (Eight w14 g10 [.int .i64 0, .int .i64 NV.c, .slice bW NV.nW lW, .int .i64 NV.g, .slice bO NV.nO lO, .slice bX NV.nX lX, .slice bI NV.nI lI, .slice none 0 0]) := G10_13.out.below y10_13 hb
    have O2_14 : Hid (OwnS l2 g10 w14 (.agg #[.int .i64 0, .int .i64 NV.c, .slice bW NV.nW lW, .int .i64 NV.g, .slice bO NV.nO lO, .slice bX NV.nX lX, .slice bI NV.nI lI, .slice none 0 0]) NV) := O2_13.out.below (by omega) hb
    have y10_14 : g10 < w14.heap.size := Nat.lt_of_lt_of_le y10_13 hb.size
    clear B13 M13 G8_13 O1_13 G10_13 O2_13
    clear hb
    have m0 : w14.cell? ⟨w.heap.size, 0, none⟩ = some (.int .i64 c) := M14.out.1
    have m1 : w14.cell? ⟨w.heap.size, 1, none⟩ = some (.int .i64 d) := M14.out.2
    have lM : w.heap.size < w14.heap.size := by omega
    have a0 : w14.cell? ⟨g8, 0, none⟩ = some (.int .i64 0) := (G8_14.out 0 (by decide)).1
    have a1 : w14.cell? ⟨g8, 1, none⟩ = some (.int .i64 NV.c) := (G8_14.out 1 (by decide)).1
    have a2 : w14.cell? ⟨g8, 2, none⟩ = some (.slice aW NV.nW kW) := (G8_14.out 2 (by decide)).1
    have a3 : w14.cell? ⟨g8, 3, none⟩ = some (.int .i64 NV.g) := (G8_14.out 3 (by decide)).1
    have a4 : w14.cell? ⟨g8, 4, none⟩ = some (.slice aO NV.nO kO) := (G8_14.out 4 (by decide)).1
    have a5 : w14.cell? ⟨g8, 5, none⟩ = some (.slice aX NV.nX kX) := (G8_14.out 5 (by decide)).1
    have a6 : w14.cell? ⟨g8, 6, none⟩ = some (.slice aI NV.nI kI) := (G8_14.out 6 (by decide)).1
    have a7 : w14.cell? ⟨g8, 7, none⟩ = some (.slice none 0 0) := (G8_14.out 7 (by decide)).1
    have lg8 : g8 < w14.heap.size := y8_14
    have b0 : w14.cell? ⟨g10, 0, none⟩ = some (.int .i64 0) := (G10_14.out 0 (by decide)).1
    have b1 : w14.cell? ⟨g10, 1, none⟩ = some (.int .i64 NV.c) := (G10_14.out 1 (by decide)).1
    have b2 : w14.cell? ⟨g10, 2, none⟩ = some (.slice bW NV.nW lW) := (G10_14.out 2 (by decide)).1
    have b3 : w14.cell? ⟨g10, 3, none⟩ = some (.int .i64 NV.g) := (G10_14.out 3 (by decide)).1
    have b4 : w14.cell? ⟨g10, 4, none⟩ = some (.slice bO NV.nO lO) := (G10_14.out 4 (by decide)).1
    have b5 : w14.cell? ⟨g10, 5, none⟩ = some (.slice bX NV.nX lX) := (G10_14.out 5 (by decide)).1
    have b6 : w14.cell? ⟨g10, 6, none⟩ = some (.slice bI NV.nI lI) := (G10_14.out 6 (by decide)).1
    have b7 : w14.cell? ⟨g10, 7, none⟩ = some (.slice none 0 0) := (G10_14.out 7 (by decide)).1
    have lg10 : g10 < w14.heap.size := y10_14
    go_wp2_with fail
    clear m0 m1 lM a0 a1 a2 a3 a4 a5 a6 a7 lg8 b0 b1 b2 b3 b4 b5 b6 b7 lg10
    refine (markS l2 g10 _ NV HF.out _ (by omega) (by omega) O2_14.out).mono ?_
    rintro e w15 ⟨rfl, hO, hz, hsm, hbl⟩
    have HSM : Hid (∀ b, b < w14.heap.size → (b < l2 ∨ g10 ≤ b) → Sm w14 w15 b) := hsm
    have B15 : Hid (Below w.heap.size w w15) := B14.out.trans (hbl.mono (by omega))
    have M15 : Hid (w15.cell? ⟨w.heap.size, 0, none⟩ = some (.int .i64 c) ∧ w15.cell? ⟨w.heap.size, 1, none⟩ = some (.int .i64 d)) := ⟨(HSM.out w.heap.size (by omega) (by omega) 0).1.trans M14.out.1, (HSM.out w.heap.size (by omega) (by omega) 1).1.trans M14.out.2⟩
    have z15 : w.heap.size + 1 ≤ w15.heap.size := by omega
    have G8_15 : Hid (Eight w15 g8 [.int .i64 0, .int .i64 NV.c, .slice aW NV.nW kW, .int .i64 NV.g, .slice aO NV.nO kO, .slice aX NV.nX kX, .slice aI NV.nI kI, .slice none 0 0]) := fun i hi => by have h1 := HSM.out g8 (by omega) (by omega) i; rw [h1.1, h1.2]; exact G8_14.out i hi
    have O1_15 : Hid (OwnS l1 g8 w15 (.agg #[.int .i64 0, .int .i64 NV.c, .slice aW NV.nW kW, .int .i64 NV.g, .slice aO NV.nO kO, .slice aX NV.nX kX, .slice aI NV.nI kI, .slice none 0 0]) NV) := O1_14.out.sm hz (fun b q1 q2 => HSM.out b (by omega) (by omega))
    have y8_15 : g8 < w15.heap.size := by omega
    have yp_15 : px < w15.heap.size := by omega
    have G10_15 : Hid (Eight w15 g10 [.int .i64 0, .int .i64 NV.c, .slice bW NV.nW lW, .int .i64 NV.g, .slice bO NV.nO lO, .slice bX NV.nX lX, .slice bI NV.nI lI, .slice none 0 0]) := fun i hi => by have h1 := HSM.out g10 (by omega) (by omega) i; rw [h1.1, h1.2]; exact G10_14.out i hi
    have y10_15 : g10 < w15.heap.size := by omega
    have O2_15 : Hid (OwnS l2 g10 w15 (.agg #[.int .i64 0, .int .i64 NV.c, .slice bW NV.nW lW, .int .i64 NV.g, .slice bO NV.nO lO, .slice bX NV.nX lX, .slice bI NV.nI lI, .slice none 0 0]) NV.marked) := hO
    clear hO hz hsm hbl HSM O2_14 B14 M14 G8_14 O1_14 G10_14
    have nn15 : ¬ ((NV.s4 : Nat) : Int) < 0 := by omega
    have m0 : w15.cell? ⟨w.heap.size, 0, none⟩ = some (.int .i64 c) := M15.out.1
    have m1 : w15.cell? ⟨w.heap.size, 1, none⟩ = some (.int .i64 d) := M15.out.2
    have lM : w.heap.size < w15.heap.size := by omega
    have a0 : w15.cell? ⟨g8, 0, none⟩ = some (.int .i64 0) := (G8_15.out 0 (by decide)).1
    have a1 : w15.cell? ⟨g8, 1, none⟩ = some (.int .i64 NV.c) := (G8_15.out 1 (by decide)).1
    have a2 : w15.cell? ⟨g8, 2, none⟩ = some (.slice aW NV.nW kW) := (G8_15.out 2 (by decide)).1
    have a3 : w15.cell? ⟨g8, 3, none⟩ = some (.int .i64 NV.g) := (G8_15.out 3 (by decide)).1
    have a4 : w15.cell? ⟨g8, 4, none⟩ = some (.slice aO NV.nO kO) := (G8_15.out 4 (by decide)).1
    have a5 : w15.cell? ⟨g8, 5, none⟩ = some (.slice aX NV.nX kX) := (G8_15.out 5 (by decide)).1
    have a6 : w15.cell? ⟨g8, 6, none⟩ = some (.slice aI NV.nI kI) := (G8_15.out 6 (by decide)).1
    have a7 : w15.cell? ⟨g8, 7, none⟩ = some (.slice none 0 0) := (G8_15.out 7 (by decide)).1
    have lg8 : g8 < w15.heap.size := y8_15
    have b0 : w15.cell? ⟨g10, 0, none⟩ = some (.int .i64 0) := (G10_15.out 0 (by decide)).1
    have b1 : w15.cell? ⟨g10, 1, none⟩ = some (.int .i64 NV.c) := (G10_15.out 1 (by decide)).1
    have b2 : w15.cell? ⟨g10, 2, none⟩ = some (.slice bW NV.nW lW) := (G10_15.out 2 (by decide)).1
    have b3 : w15.cell? ⟨g10, 3, none⟩ = some (.int .i64 NV.g) := (G10_15.out 3 (by decide)).1
    have b4 : w15.cell? ⟨g10, 4, none⟩ = some (.slice bO NV.nO lO) := (G10_15.out 4 (by decide)).1
    have b5 : w15.cell? ⟨g10, 5, none⟩ = some (.slice bX NV.nX lX) := (G10_15.out 5 (by decide)).1
    have b6 : w15.cell? ⟨g10, 6, none⟩ = some (.slice bI NV.nI lI) := (G10_15.out 6 (by decide)).1
    have b7 : w15.cell? ⟨g10, 7, none⟩ = some (.slice none 0 0) := (G10_15.out 7 (by decide)).1
    have lg10 : g10 < w15.heap.size := y10_15
    go_wp2_with fail
    clear m0 m1 lM a0 a1 a2 a3 a4 a5 a6 a7 lg8 b0 b1 b2 b3 b4 b5 b6 b7 lg10
    refine (heldS l2 g10 _ NV HF.out _ (by omega) O2_15.out).mono ?_
    rintro e w16 ⟨rfl, hb⟩
    have B16 : Hid (Below w.heap.size w w16) := bthen B15.out hb
    have M16 : Hid (w16.cell? ⟨w.heap.size, 0, none⟩ = some (.int .i64 c) ∧ w16.cell? ⟨w.heap.size, 1, none⟩ = some (.int .i64 d)) := ⟨(hb.cell (p := ⟨w.heap.size, 0, none⟩) (by show w.heap.size < _; omega)).trans M15.out.1, (hb.cell (p := ⟨w.heap.size, 1, none⟩) (by show w.heap.size < _; omega)).trans M15.out.2⟩
    have z16 : w.heap.size + 1 ≤ w16.heap.size := Nat.le_trans z15 hb.size
    have G8_16 : Hid (Eight w16 g8 [.int .i64 0, .int .i64 NV.c, .slice aW NV.nW kW, .int .i64 NV.g, .slice aO NV.nO kO, .slice aX NV.nX kX, .slice aI NV.nI kI, .slice none 0 0]) := G8_15.out.below y8_15 hb
    have O1_16 : Hid (OwnS l1 g8 w16 (.agg #[.int .i64 0, .int .i64 NV.c, .slice aW NV.nW kW, .int .i64 NV.g, .slice aO NV.nO kO, .slice aX NV.nX kX, .slice aI NV.nI kI, .slice none 0 0]) NV) := O1_15.out.below (by omega) hb
    have y8_16 : g8 < w16.heap.size := Nat.lt_of_lt_of_le y8_15 hb.size
    have yp_16 : px < w16.heap.size := Nat.lt_of_lt_of_le yp_15 hb.size
    have G10_16 : Hid (Eight w16 g10 [.int .i64 0, .int .i64 NV.c, .slice bW NV.nW lW, .int .i64 NV.g, .slice bO NV.nO lO, .slice bX NV.nX lX, .slice bI NV.nI lI, .slice none 0 0]) := G10_15.out.below y10_15 hb
    have O2_16 : Hid (OwnS l2 g10 w16 (.agg #[.int .i64 0, .int .i64 NV.c, .slice bW NV.nW lW, .int .i64 NV.g, .slice bO NV.nO lO, .slice bX NV.nX lX, .slice bI NV.nI lI, .slice none 0 0]) NV.marked) := O2_15.out.below (by omega) hb
    have y10_16 : g10 < w16.heap.size := Nat.lt_of_lt_of_le y10_15 hb.size
    clear B15 M15 G8_15 O1_15 G10_15 O2_15
    clear hb
    have m0 : w16.cell? ⟨w.heap.size, 0, none⟩ = some (.int .i64 c) := M16.out.1
    have m1 : w16.cell? ⟨w.heap.size, 1, none⟩ = some (.int .i64 d) := M16.out.2
    have lM : w.heap.size < w16.heap.size := by omega
    have a0 : w16.cell? ⟨g8, 0, none⟩ = some (.int .i64 0) := (G8_16.out 0 (by decide)).1
    have a1 : w16.cell? ⟨g8, 1, none⟩ = some (.int .i64 NV.c) := (G8_16.out 1 (by decide)).1
    have a2 : w16.cell? ⟨g8, 2, none⟩ = some (.slice aW NV.nW kW) := (G8_16.out 2 (by decide)).1
    have a3 : w16.cell? ⟨g8, 3, none⟩ = some (.int .i64 NV.g) := (G8_16.out 3 (by decide)).1
    have a4 : w16.cell? ⟨g8, 4, none⟩ = some (.slice aO NV.nO kO) := (G8_16.out 4 (by decide)).1
    have a5 : w16.cell? ⟨g8, 5, none⟩ = some (.slice aX NV.nX kX) := (G8_16.out 5 (by decide)).1
    have a6 : w16.cell? ⟨g8, 6, none⟩ = some (.slice aI NV.nI kI) := (G8_16.out 6 (by decide)).1
    have a7 : w16.cell? ⟨g8, 7, none⟩ = some (.slice none 0 0) := (G8_16.out 7 (by decide)).1
    have lg8 : g8 < w16.heap.size := y8_16
    have b0 : w16.cell? ⟨g10, 0, none⟩ = some (.int .i64 0) := (G10_16.out 0 (by decide)).1
    have b1 : w16.cell? ⟨g10, 1, none⟩ = some (.int .i64 NV.c) := (G10_16.out 1 (by decide)).1
    have b2 : w16.cell? ⟨g10, 2, none⟩ = some (.slice bW NV.nW lW) := (G10_16.out 2 (by decide)).1
    have b3 : w16.cell? ⟨g10, 3, none⟩ = some (.int .i64 NV.g) := (G10_16.out 3 (by decide)).1
    have b4 : w16.cell? ⟨g10, 4, none⟩ = some (.slice bO NV.nO lO) := (G10_16.out 4 (by decide)).1
    have b5 : w16.cell? ⟨g10, 5, none⟩ = some (.slice bX NV.nX lX) := (G10_16.out 5 (by decide)).1
    have b6 : w16.cell? ⟨g10, 6, none⟩ = some (.slice bI NV.nI lI) := (G10_16.out 6 (by decide)).1
    have b7 : w16.cell? ⟨g10, 7, none⟩ = some (.slice none 0 0) := (G10_16.out 7 (by decide)).1
    have lg10 : g10 < w16.heap.size := y10_16
    go_wp2_with fail
    clear m0 m1 lM a0 a1 a2 a3 a4 a5 a6 a7 lg8 b0 b1 b2 b3 b4 b5 b6 b7 lg10
    refine (toMap _ _ _).mono ?_
    rintro e w17 ⟨rfl, hb⟩
    have B17 : Hid (Below w.heap.size w w17) := bthen B16.out hb
    have M17 : Hid (w17.cell? ⟨w.heap.size, 0, none⟩ = some (.int .i64 c) ∧ w17.cell? ⟨w.heap.size, 1, none⟩ = some (.int .i64 d)) := ⟨(hb.cell (p := ⟨w.heap.size, 0, none⟩) (by show w.heap.size < _; omega)).trans M16.out.1, (hb.cell (p := ⟨w.heap.size, 1, none⟩) (by show w.heap.size < _; omega)).trans M16.out.2⟩
    have z17 : w.heap.size + 1 ≤ w17.heap.size := Nat.le_trans z16 hb.size
    have G8_17 : Hid (Eight w17 g8 [.int .i64 0, .int .i64 NV.c, .slice aW NV.nW kW, .int .i64 NV.g, .slice aO NV.nO kO, .slice aX NV.nX kX, .slice aI NV.nI kI, .slice none 0 0]) := G8_16.out.below y8_16 hb
    have O1_17 : Hid (OwnS l1 g8 w17 (.agg #[.int .i64 0, .int .i64 NV.c, .slice aW NV.nW kW, .int .i64 NV.g, .slice aO NV.nO kO, .slice aX NV.nX kX, .slice aI NV.nI kI, .slice none 0 0]) NV) := O1_16.out.below (by omega) hb
    have y8_17 : g8 < w17.heap.size := Nat.lt_of_lt_of_le y8_16 hb.size
    have yp_17 : px < w17.heap.size := Nat.lt_of_lt_of_le yp_16 hb.size
    have G10_17 : Hid (Eight w17 g10 [.int .i64 0, .int .i64 NV.c, .slice bW NV.nW lW, .int .i64 NV.g, .slice bO NV.nO lO, .slice bX NV.nX lX, .slice bI NV.nI lI, .slice none 0 0]) := G10_16.out.below y10_16 hb
    have O2_17 : Hid (OwnS l2 g10 w17 (.agg #[.int .i64 0, .int .i64 NV.c, .slice bW NV.nW lW, .int .i64 NV.g, .slice bO NV.nO lO, .slice bX NV.nX lX, .slice bI NV.nI lI, .slice none 0 0]) NV.marked) := O2_16.out.below (by omega) hb
    have y10_17 : g10 < w17.heap.size := Nat.lt_of_lt_of_le y10_16 hb.size
    clear B16 M16 G8_16 O1_16 G10_16 O2_16
    clear hb
    have m0 : w17.cell? ⟨w.heap.size, 0, none⟩ = some (.int .i64 c) := M17.out.1
    have m1 : w17.cell? ⟨w.heap.size, 1, none⟩ = some (.int .i64 d) := M17.out.2
    have lM : w.heap.size < w17.heap.size := by omega
    have a0 : w17.cell? ⟨g8, 0, none⟩ = some (.int .i64 0) := (G8_17.out 0 (by decide)).1
    have a1 : w17.cell? ⟨g8, 1, none⟩ = some (.int .i64 NV.c) := (G8_17.out 1 (by decide)).1
    have a2 : w17.cell? ⟨g8, 2, none⟩ = some (.slice aW NV.nW kW) := (G8_17.out 2 (by decide)).1
    have a3 : w17.cell? ⟨g8, 3, none⟩ = some (.int .i64 NV.g) := (G8_17.out 3 (by decide)).1
    have a4 : w17.cell? ⟨g8, 4, none⟩ = some (.slice aO NV.nO kO) := (G8_17.out 4 (by decide)).1
    have a5 : w17.cell? ⟨g8, 5, none⟩ = some (.slice aX NV.nX kX) := (G8_17.out 5 (by decide)).1
    have a6 : w17.cell? ⟨g8, 6, none⟩ = some (.slice aI NV.nI kI) := (G8_17.out 6 (by decide)).1
    have a7 : w17.cell? ⟨g8, 7, none⟩ = some (.slice none 0 0) := (G8_17.out 7 (by decide)).1
    have lg8 : g8 < w17.heap.size := y8_17
    have b0 : w17.cell? ⟨g10, 0, none⟩ = some (.int .i64 0) := (G10_17.out 0 (by decide)).1
    have b1 : w17.cell? ⟨g10, 1, none⟩ = some (.int .i64 NV.c) := (G10_17.out 1 (by decide)).1
    have b2 : w17.cell? ⟨g10, 2, none⟩ = some (.slice bW NV.nW lW) := (G10_17.out 2 (by decide)).1
    have b3 : w17.cell? ⟨g10, 3, none⟩ = some (.int .i64 NV.g) := (G10_17.out 3 (by decide)).1
    have b4 : w17.cell? ⟨g10, 4, none⟩ = some (.slice bO NV.nO lO) := (G10_17.out 4 (by decide)).1
    have b5 : w17.cell? ⟨g10, 5, none⟩ = some (.slice bX NV.nX lX) := (G10_17.out 5 (by decide)).1
    have b6 : w17.cell? ⟨g10, 6, none⟩ = some (.slice bI NV.nI lI) := (G10_17.out 6 (by decide)).1
    have b7 : w17.cell? ⟨g10, 7, none⟩ = some (.slice none 0 0) := (G10_17.out 7 (by decide)).1
    have lg10 : g10 < w17.heap.size := y10_17
    go_wp2_with fail
    clear m0 m1 lM a0 a1 a2 a3 a4 a5 a6 a7 lg8 b0 b1 b2 b3 b4 b5 b6 b7 lg10
    refine (toWalkers a n cap Z hn2 _ (row5_below H.out B17.out)).mono ?_
    rintro e w18 ⟨rfl, hc, hs, hb⟩
    have B18 : Hid (Below w.heap.size w w18) := bthen B17.out hb
    have M18 : Hid (w18.cell? ⟨w.heap.size, 0, none⟩ = some (.int .i64 c) ∧ w18.cell? ⟨w.heap.size, 1, none⟩ = some (.int .i64 d)) := ⟨(hb.cell (p := ⟨w.heap.size, 0, none⟩) (by show w.heap.size < _; omega)).trans M17.out.1, (hb.cell (p := ⟨w.heap.size, 1, none⟩) (by show w.heap.size < _; omega)).trans M17.out.2⟩
    have z18 : w.heap.size + 1 ≤ w18.heap.size := Nat.le_trans z17 hb.size
    have G8_18 : Hid (Eight w18 g8 [.int .i64 0, .int .i64 NV.c, .slice aW NV.nW kW, .int .i64 NV.g, .slice aO NV.nO kO, .slice aX NV.nX kX, .slice aI NV.nI kI, .slice none 0 0]) := G8_17.out.below y8_17 hb
    have O1_18 : Hid (OwnS l1 g8 w18 (.agg #[.int .i64 0, .int .i64 NV.c, .slice aW NV.nW kW, .int .i64 NV.g, .slice aO NV.nO kO, .slice aX NV.nX kX, .slice aI NV.nI kI, .slice none 0 0]) NV) := O1_17.out.below (by omega) hb
    have y8_18 : g8 < w18.heap.size := Nat.lt_of_lt_of_le y8_17 hb.size
    have yp_18 : px < w18.heap.size := Nat.lt_of_lt_of_le yp_17 hb.size
    have G10_18 : Hid (Eight w18 g10 [.int .i64 0, .int .i64 NV.c, .slice bW NV.nW lW, .int .i64 NV.g, .slice bO NV.nO lO, .slice bX NV.nX lX, .slice bI NV.nI lI, .slice none 0 0]) := G10_17.out.below y10_17 hb
    have O2_18 : Hid (OwnS l2 g10 w18 (.agg #[.int .i64 0, .int .i64 NV.c, .slice bW NV.nW lW, .int .i64 NV.g, .slice bO NV.nO lO, .slice bX NV.nX lX, .slice bI NV.nI lI, .slice none 0 0]) NV.marked) := O2_17.out.below (by omega) hb
    have y10_18 : g10 < w18.heap.size := Nat.lt_of_lt_of_le y10_17 hb.size
    clear B17 M17 G8_17 O1_17 G10_17 O2_17
    have C18 : Hid (∀ k j, k < n → j < 5 → w18.cell? ⟨w17.heap.size, 0 + k * 5 + j, none⟩ = some (.int .i64 (Z k j))) := own_row hc
    clear hb hc
    have m0 : w18.cell? ⟨w.heap.size, 0, none⟩ = some (.int .i64 c) := M18.out.1
    have m1 : w18.cell? ⟨w.heap.size, 1, none⟩ = some (.int .i64 d) := M18.out.2
    have lM : w.heap.size < w18.heap.size := by omega
    have a0 : w18.cell? ⟨g8, 0, none⟩ = some (.int .i64 0) := (G8_18.out 0 (by decide)).1
    have a1 : w18.cell? ⟨g8, 1, none⟩ = some (.int .i64 NV.c) := (G8_18.out 1 (by decide)).1
    have a2 : w18.cell? ⟨g8, 2, none⟩ = some (.slice aW NV.nW kW) := (G8_18.out 2 (by decide)).1
    have a3 : w18.cell? ⟨g8, 3, none⟩ = some (.int .i64 NV.g) := (G8_18.out 3 (by decide)).1
    have a4 : w18.cell? ⟨g8, 4, none⟩ = some (.slice aO NV.nO kO) := (G8_18.out 4 (by decide)).1
    have a5 : w18.cell? ⟨g8, 5, none⟩ = some (.slice aX NV.nX kX) := (G8_18.out 5 (by decide)).1
    have a6 : w18.cell? ⟨g8, 6, none⟩ = some (.slice aI NV.nI kI) := (G8_18.out 6 (by decide)).1
    have a7 : w18.cell? ⟨g8, 7, none⟩ = some (.slice none 0 0) := (G8_18.out 7 (by decide)).1
    have lg8 : g8 < w18.heap.size := y8_18
    have b0 : w18.cell? ⟨g10, 0, none⟩ = some (.int .i64 0) := (G10_18.out 0 (by decide)).1
    have b1 : w18.cell? ⟨g10, 1, none⟩ = some (.int .i64 NV.c) := (G10_18.out 1 (by decide)).1
    have b2 : w18.cell? ⟨g10, 2, none⟩ = some (.slice bW NV.nW lW) := (G10_18.out 2 (by decide)).1
    have b3 : w18.cell? ⟨g10, 3, none⟩ = some (.int .i64 NV.g) := (G10_18.out 3 (by decide)).1
    have b4 : w18.cell? ⟨g10, 4, none⟩ = some (.slice bO NV.nO lO) := (G10_18.out 4 (by decide)).1
    have b5 : w18.cell? ⟨g10, 5, none⟩ = some (.slice bX NV.nX lX) := (G10_18.out 5 (by decide)).1
    have b6 : w18.cell? ⟨g10, 6, none⟩ = some (.slice bI NV.nI lI) := (G10_18.out 6 (by decide)).1
    have b7 : w18.cell? ⟨g10, 7, none⟩ = some (.slice none 0 0) := (G10_18.out 7 (by decide)).1
    have lg10 : g10 < w18.heap.size := y10_18
    go_wp2_with fail
    clear m0 m1 lM a0 a1 a2 a3 a4 a5 a6 a7 lg8 b0 b1 b2 b3 b4 b5 b6 b7 lg10
    refine (stoNew_impl c d cell _ n n Z hn2 _ hs C18.out).mono ?_
    rintro e w19 ⟨⟨v3, rfl, hO⟩, hb⟩
    have B19 : Hid (Below w.heap.size w w19) := bthen B18.out hb
    have M19 : Hid (w19.cell? ⟨w.heap.size, 0, none⟩ = some (.int .i64 c) ∧ w19.cell? ⟨w.heap.size, 1, none⟩ = some (.int .i64 d)) := ⟨(hb.cell (p := ⟨w.heap.size, 0, none⟩) (by show w.heap.size < _; omega)).trans M18.out.1, (hb.cell (p := ⟨w.heap.size, 1, none⟩) (by show w.heap.size < _; omega)).trans M18.out.2⟩
    have z19 : w.heap.size + 1 ≤ w19.heap.size := Nat.le_trans z18 hb.size
    have G8_19 : Hid (Eight w19 g8 [.int .i64 0, .int .i64 NV.c, .slice aW NV.nW kW, .int .i64 NV.g, .slice aO NV.nO kO, .slice aX NV.nX kX, .slice aI NV.nI kI, .slice none 0 0]) := G8_18.out.below y8_18 hb
    have O1_19 : Hid (OwnS l1 g8 w19 (.agg #[.int .i64 0, .int .i64 NV.c, .slice aW NV.nW kW, .int .i64 NV.g, .slice aO NV.nO kO, .slice aX NV.nX kX, .slice aI NV.nI kI, .slice none 0 0]) NV) := O1_18.out.below (by omega) hb
    have y8_19 : g8 < w19.heap.size := Nat.lt_of_lt_of_le y8_18 hb.size
    have yp_19 : px < w19.heap.size := Nat.lt_of_lt_of_le yp_18 hb.size
    have G10_19 : Hid (Eight w19 g10 [.int .i64 0, .int .i64 NV.c, .slice bW NV.nW lW, .int .i64 NV.g, .slice bO NV.nO lO, .slice bX NV.nX lX, .slice bI NV.nI lI, .slice none 0 0]) := G10_18.out.below y10_18 hb
    have O2_19 : Hid (OwnS l2 g10 w19 (.agg #[.int .i64 0, .int .i64 NV.c, .slice bW NV.nW lW, .int .i64 NV.g, .slice bO NV.nO lO, .slice bX NV.nX lX, .slice bI NV.nI lI, .slice none 0 0]) NV.marked) := O2_18.out.below (by omega) hb
    have y10_19 : g10 < w19.heap.size := Nat.lt_of_lt_of_le y10_18 hb.size
    clear B18 M18 G8_18 O1_18 G10_18 O2_18
    rw [← EN.out] at hO
    have hO2 := OwnS.wide hO (lo' := w18.heap.size) (by omega)
    clear hO
    obtain ⟨u1, u2, u3, u4, rfl, hO⟩ := hO2
    obtain ⟨dW, mW, dO, mO, dX, mX, dI, mI, eO, _, _, _, _⟩ := hO.at
    simp only [Value.agg.injEq, Array.mk.injEq, List.cons.injEq, and_true, true_and] at eO
    obtain ⟨rfl, rfl, rfl, rfl⟩ := eO
    have O3_19 : Hid (OwnS w18.heap.size w19.heap.size w19 (.agg #[.int .i64 0, .int .i64 NV.c, .slice dW NV.nW mW, .int .i64 NV.g, .slice dO NV.nO mO, .slice dX NV.nX mX, .slice dI NV.nI mI, .slice none 0 0]) NV) := ⟨_, _, _, _, rfl, hO⟩
    clear hb hO hs C18
    have m0 : w19.cell? ⟨w.heap.size, 0, none⟩ = some (.int .i64 c) := M19.out.1
    have m1 : w19.cell? ⟨w.heap.size, 1, none⟩ = some (.int .i64 d) := M19.out.2
    have lM : w.heap.size < w19.heap.size := by omega
    have a0 : w19.cell? ⟨g8, 0, none⟩ = some (.int .i64 0) := (G8_19.out 0 (by decide)).1
    have a1 : w19.cell? ⟨g8, 1, none⟩ = some (.int .i64 NV.c) := (G8_19.out 1 (by decide)).1
    have a2 : w19.cell? ⟨g8, 2, none⟩ = some (.slice aW NV.nW kW) := (G8_19.out 2 (by decide)).1
    have a3 : w19.cell? ⟨g8, 3, none⟩ = some (.int .i64 NV.g) := (G8_19.out 3 (by decide)).1
    have a4 : w19.cell? ⟨g8, 4, none⟩ = some (.slice aO NV.nO kO) := (G8_19.out 4 (by decide)).1
    have a5 : w19.cell? ⟨g8, 5, none⟩ = some (.slice aX NV.nX kX) := (G8_19.out 5 (by decide)).1
    have a6 : w19.cell? ⟨g8, 6, none⟩ = some (.slice aI NV.nI kI) := (G8_19.out 6 (by decide)).1
    have a7 : w19.cell? ⟨g8, 7, none⟩ = some (.slice none 0 0) := (G8_19.out 7 (by decide)).1
    have lg8 : g8 < w19.heap.size := y8_19
    have b0 : w19.cell? ⟨g10, 0, none⟩ = some (.int .i64 0) := (G10_19.out 0 (by decide)).1
    have b1 : w19.cell? ⟨g10, 1, none⟩ = some (.int .i64 NV.c) := (G10_19.out 1 (by decide)).1
    have b2 : w19.cell? ⟨g10, 2, none⟩ = some (.slice bW NV.nW lW) := (G10_19.out 2 (by decide)).1
    have b3 : w19.cell? ⟨g10, 3, none⟩ = some (.int .i64 NV.g) := (G10_19.out 3 (by decide)).1
    have b4 : w19.cell? ⟨g10, 4, none⟩ = some (.slice bO NV.nO lO) := (G10_19.out 4 (by decide)).1
    have b5 : w19.cell? ⟨g10, 5, none⟩ = some (.slice bX NV.nX lX) := (G10_19.out 5 (by decide)).1
    have b6 : w19.cell? ⟨g10, 6, none⟩ = some (.slice bI NV.nI lI) := (G10_19.out 6 (by decide)).1
    have b7 : w19.cell? ⟨g10, 7, none⟩ = some (.slice none 0 0) := (G10_19.out 7 (by decide)).1
    have lg10 : g10 < w19.heap.size := y10_19
    go_wp2_with fail
    clear m0 m1 lM a0 a1 a2 a3 a4 a5 a6 a7 lg8 b0 b1 b2 b3 b4 b5 b6 b7 lg10
    obtain ⟨w20, eb⟩ : ∃ x, x = w19.alloc (.cells #[.int .i64 0, .int .i64 NV.c, .slice dW NV.nW mW, .int .i64 NV.g, .slice dO NV.nO mO, .slice dX NV.nX mX, .slice dI NV.nI mI, .slice none 0 0] 52) := ⟨_, rfl⟩
    have hbx : Below w19.heap.size w19 w20 := by rw [eb]; exact (Below.refl _ _).alloc (Nat.le_refl _) _
    have G14_20 : Hid (Eight w20 w19.heap.size [.int .i64 0, .int .i64 NV.c, .slice dW NV.nW mW, .int .i64 NV.g, .slice dO NV.nO mO, .slice dX NV.nX mX, .slice dI NV.nI mI, .slice none 0 0]) := by rw [eb]; exact eight_new w19 52 (.int .i64 0) (.int .i64 NV.c) (.slice dW NV.nW mW) (.int .i64 NV.g) (.slice dO NV.nO mO) (.slice dX NV.nX mX) (.slice dI NV.nI mI) (.slice none 0 0)
    have y14_20 : w19.heap.size < w20.heap.size := by rw [eb]; simp
    rw [← eb]
    clear eb
    have B20 : Hid (Below w.heap.size w w20) := bthen B19.out hbx
    have M20 : Hid (w20.cell? ⟨w.heap.size, 0, none⟩ = some (.int .i64 c) ∧ w20.cell? ⟨w.heap.size, 1, none⟩ = some (.int .i64 d)) := ⟨(hbx.cell (p := ⟨w.heap.size, 0, none⟩) (by show w.heap.size < _; omega)).trans M19.out.1, (hbx.cell (p := ⟨w.heap.size, 1, none⟩) (by show w.heap.size < _; omega)).trans M19.out.2⟩
    have z20 : w.heap.size + 1 ≤ w20.heap.size := Nat.le_trans z19 hbx.size
    have G8_20 : Hid (Eight w20 g8 [.int .i64 0, .int .i64 NV.c, .slice aW NV.nW kW, .int .i64 NV.g, .slice aO NV.nO kO, .slice aX NV.nX kX, .slice aI NV.nI kI, .slice none 0 0]) := G8_19.out.below y8_19 hbx
    have O1_20 : Hid (OwnS l1 g8 w20 (.agg #[.int .i64 0, .int .i64 NV.c, .slice aW NV.nW kW, .int .i64 NV.g, .slice aO NV.nO kO, .slice aX NV.nX kX, .slice aI NV.nI kI, .slice none 0 0]) NV) := O1_19.out.below (by omega) hbx
    have y8_20 : g8 < w20.heap.size := Nat.lt_of_lt_of_le y8_19 hbx.size
    have yp_20 : px < w20.heap.size := Nat.lt_of_lt_of_le yp_19 hbx.size
    have G10_20 : Hid (Eight w20 g10 [.int .i64 0, .int .i64 NV.c, .slice bW NV.nW lW, .int .i64 NV.g, .slice bO NV.nO lO, .slice bX NV.nX lX, .slice bI NV.nI lI, .slice none 0 0]) := G10_19.out.below y10_19 hbx
    have O2_20 : Hid (OwnS l2 g10 w20 (.agg #[.int .i64 0, .int .i64 NV.c, .slice bW NV.nW lW, .int .i64 NV.g, .slice bO NV.nO lO, .slice bX NV.nX lX, .slice bI NV.nI lI, .slice none 0 0]) NV.marked) := O2_19.out.below (by omega) hbx
    have y10_20 : g10 < w20.heap.size := Nat.lt_of_lt_of_le y10_19 hbx.size
    clear B19 M19 G8_19 O1_19 G10_19 O2_19
    have O3_20 : Hid (OwnS w18.heap.size w19.heap.size w20 (.agg #[.int .i64 0, .int .i64 NV.c, .slice dW NV.nW mW, .int .i64 NV.g, .slice dO NV.nO mO, .slice dX NV.nX mX, .slice dI NV.nI mI, .slice none 0 0]) NV) := O3_19.out.below (Nat.le_refl _) hbx
    clear O3_19 hbx
    generalize w19.heap.size = g14 at *
    generalize w18.heap.size = l3 at *
    refine (eqSto _ _ NV HS2.out _ O3_20.out.at O1_20.out.at).mono ?_
    rintro e w21 ⟨rfl, hb⟩
    have B21 : Hid (Below w.heap.size w w21) := bthen B20.out hb
    have M21 : Hid (w21.cell? ⟨w.heap.size, 0, none⟩ = some (.int .i64 c) ∧ w21.cell? ⟨w.heap.size, 1, none⟩ = some (.int .i64 d)) := ⟨(hb.cell (p := ⟨w.heap.size, 0, none⟩) (by show w.heap.size < _; omega)).trans M20.out.1, (hb.cell (p := ⟨w.heap.size, 1, none⟩) (by show w.heap.size < _; omega)).trans M20.out.2⟩
    have z21 : w.heap.size + 1 ≤ w21.heap.size := Nat.le_trans z20 hb.size
    have G8_21 : Hid (Eight w21 g8 [.int .i64 0, .int .i64 NV.c, .slice aW NV.nW kW, .int .i64 NV.g, .slice aO NV.nO kO, .slice aX NV.nX kX, .slice aI NV.nI kI, .slice none 0 0]) := G8_20.out.below y8_20 hb
    have O1_21 : Hid (OwnS l1 g8 w21 (.agg #[.int .i64 0, .int .i64 NV.c, .slice aW NV.nW kW, .int .i64 NV.g, .slice aO NV.nO kO, .slice aX NV.nX kX, .slice aI NV.nI kI, .slice none 0 0]) NV) := O1_20.out.below (by omega) hb
    have y8_21 : g8 < w21.heap.size := Nat.lt_of_lt_of_le y8_20 hb.size
    have yp_21 : px < w21.heap.size := Nat.lt_of_lt_of_le yp_20 hb.size
    have G10_21 : Hid (Eight w21 g10 [.int .i64 0, .int .i64 NV.c, .slice bW NV.nW lW, .int .i64 NV.g, .slice bO NV.nO lO, .slice bX NV.nX lX, .slice bI NV.nI lI, .slice none 0 0]) := G10_20.out.below y10_20 hb
    have O2_21 : Hid (OwnS l2 g10 w21 (.agg #[.int .i64 0, .int .i64 NV.c, .slice bW NV.nW lW, .int .i64 NV.g, .slice bO NV.nO lO, .slice bX NV.nX lX, .slice bI NV.nI lI, .slice none 0 0]) NV.marked) := O2_20.out.below (by omega) hb
    have y10_21 : g10 < w21.heap.size := Nat.lt_of_lt_of_le y10_20 hb.size
    have G14_21 : Hid (Eight w21 g14 [.int .i64 0, .int .i64 NV.c, .slice dW NV.nW mW, .int .i64 NV.g, .slice dO NV.nO mO, .slice dX NV.nX mX, .slice dI NV.nI mI, .slice none 0 0]) := G14_20.out.below y14_20 hb
    have O3_21 : Hid (OwnS l3 g14 w21 (.agg #[.int .i64 0, .int .i64 NV.c, .slice dW NV.nW mW, .int .i64 NV.g, .slice dO NV.nO mO, .slice dX NV.nX mX, .slice dI NV.nI mI, .slice none 0 0]) NV) := O3_20.out.below (by omega) hb
    have y14_21 : g14 < w21.heap.size := Nat.lt_of_lt_of_le y14_20 hb.size
    clear B20 M20 G8_20 O1_20 G10_20 O2_20 G14_20 O3_20
    clear hb
    have m0 : w21.cell? ⟨w.heap.size, 0, none⟩ = some (.int .i64 c) := M21.out.1
    have m1 : w21.cell? ⟨w.heap.size, 1, none⟩ = some (.int .i64 d) := M21.out.2
    have lM : w.heap.size < w21.heap.size := by omega
    have a0 : w21.cell? ⟨g8, 0, none⟩ = some (.int .i64 0) := (G8_21.out 0 (by decide)).1
    have a1 : w21.cell? ⟨g8, 1, none⟩ = some (.int .i64 NV.c) := (G8_21.out 1 (by decide)).1
    have a2 : w21.cell? ⟨g8, 2, none⟩ = some (.slice aW NV.nW kW) := (G8_21.out 2 (by decide)).1
    have a3 : w21.cell? ⟨g8, 3, none⟩ = some (.int .i64 NV.g) := (G8_21.out 3 (by decide)).1
    have a4 : w21.cell? ⟨g8, 4, none⟩ = some (.slice aO NV.nO kO) := (G8_21.out 4 (by decide)).1
    have a5 : w21.cell? ⟨g8, 5, none⟩ = some (.slice aX NV.nX kX) := (G8_21.out 5 (by decide)).1
    have a6 : w21.cell? ⟨g8, 6, none⟩ = some (.slice aI NV.nI kI) := (G8_21.out 6 (by decide)).1
    have a7 : w21.cell? ⟨g8, 7, none⟩ = some (.slice none 0 0) := (G8_21.out 7 (by decide)).1
    have lg8 : g8 < w21.heap.size := y8_21
    have b0 : w21.cell? ⟨g10, 0, none⟩ = some (.int .i64 0) := (G10_21.out 0 (by decide)).1
    have b1 : w21.cell? ⟨g10, 1, none⟩ = some (.int .i64 NV.c) := (G10_21.out 1 (by decide)).1
    have b2 : w21.cell? ⟨g10, 2, none⟩ = some (.slice bW NV.nW lW) := (G10_21.out 2 (by decide)).1
    have b3 : w21.cell? ⟨g10, 3, none⟩ = some (.int .i64 NV.g) := (G10_21.out 3 (by decide)).1
    have b4 : w21.cell? ⟨g10, 4, none⟩ = some (.slice bO NV.nO lO) := (G10_21.out 4 (by decide)).1
    have b5 : w21.cell? ⟨g10, 5, none⟩ = some (.slice bX NV.nX lX) := (G10_21.out 5 (by decide)).1
    have b6 : w21.cell? ⟨g10, 6, none⟩ = some (.slice bI NV.nI lI) := (G10_21.out 6 (by decide)).1
    have b7 : w21.cell? ⟨g10, 7, none⟩ = some (.slice none 0 0) := (G10_21.out 7 (by decide)).1
    have lg10 : g10 < w21.heap.size := y10_21
    have d0 : w21.cell? ⟨g14, 0, none⟩ = some (.int .i64 0) := (G14_21.out 0 (by decide)).1
    have d1 : w21.cell? ⟨g14, 1, none⟩ = some (.int .i64 NV.c) := (G14_21.out 1 (by decide)).1
    have d2 : w21.cell? ⟨g14, 2, none⟩ = some (.slice dW NV.nW mW) := (G14_21.out 2 (by decide)).1
    have d3 : w21.cell? ⟨g14, 3, none⟩ = some (.int .i64 NV.g) := (G14_21.out 3 (by decide)).1
    have d4 : w21.cell? ⟨g14, 4, none⟩ = some (.slice dO NV.nO mO) := (G14_21.out 4 (by decide)).1
    have d5 : w21.cell? ⟨g14, 5, none⟩ = some (.slice dX NV.nX mX) := (G14_21.out 5 (by decide)).1
    have d6 : w21.cell? ⟨g14, 6, none⟩ = some (.slice dI NV.nI mI) := (G14_21.out 6 (by decide)).1
    have d7 : w21.cell? ⟨g14, 7, none⟩ = some (.slice none 0 0) := (G14_21.out 7 (by decide)).1
    have lg14 : g14 < w21.heap.size := y14_21
    go_wp2_with fail
    clear m0 m1 lM a0 a1 a2 a3 a4 a5 a6 a7 lg8 b0 b1 b2 b3 b4 b5 b6 b7 lg10 d0 d1 d2 d3 d4 d5 d6 d7 lg14
    refine (heldS l2 g10 _ NV HF.out _ (by omega) O2_21.out).mono ?_
    rintro e w22 ⟨rfl, hb⟩
    have B22 : Hid (Below w.heap.size w w22) := bthen B21.out hb
    have M22 : Hid (w22.cell? ⟨w.heap.size, 0, none⟩ = some (.int .i64 c) ∧ w22.cell? ⟨w.heap.size, 1, none⟩ = some (.int .i64 d)) := ⟨(hb.cell (p := ⟨w.heap.size, 0, none⟩) (by show w.heap.size < _; omega)).trans M21.out.1, (hb.cell (p := ⟨w.heap.size, 1, none⟩) (by show w.heap.size < _; omega)).trans M21.out.2⟩
    have z22 : w.heap.size + 1 ≤ w22.heap.size := Nat.le_trans z21 hb.size
    have G8_22 : Hid (Eight w22 g8 [.int .i64 0, .int .i64 NV.c, .slice aW NV.nW kW, .int .i64 NV.g, .slice aO NV.nO kO, .slice aX NV.nX kX, .slice aI NV.nI kI, .slice none 0 0]) := G8_21.out.below y8_21 hb
    have O1_22 : Hid (OwnS l1 g8 w22 (.agg #[.int .i64 0, .int .i64 NV.c, .slice aW NV.nW kW, .int .i64 NV.g, .slice aO NV.nO kO, .slice aX NV.nX kX, .slice aI NV.nI kI, .slice none 0 0]) NV) := O1_21.out.below (by omega) hb
    have y8_22 : g8 < w22.heap.size := Nat.lt_of_lt_of_le y8_21 hb.size
    have yp_22 : px < w22.heap.size := Nat.lt_of_lt_of_le yp_21 hb.size
    have G10_22 : Hid (Eight w22 g10 [.int .i64 0, .int .i64 NV.c, .slice bW NV.nW lW, .int .i64 NV.g, .slice bO NV.nO lO, .slice bX NV.nX lX, .slice bI NV.nI lI, .slice none 0 0]) := G10_21.out.below y10_21 hb
    have O2_22 : Hid (OwnS l2 g10 w22 (.agg #[.int .i64 0, .int .i64 NV.c, .slice bW NV.nW lW, .int .i64 NV.g, .slice bO NV.nO lO, .slice bX NV.nX lX, .slice bI NV.nI lI, .slice none 0 0]) NV.marked) := O2_21.out.below (by omega) hb
    have y10_22 : g10 < w22.heap.size := Nat.lt_of_lt_of_le y10_21 hb.size
    have G14_22 : Hid (Eight w22 g14 [.int .i64 0, .int .i64 NV.c, .slice dW NV.nW mW, .int .i64 NV.g, .slice dO NV.nO mO, .slice dX NV.nX mX, .slice dI NV.nI mI, .slice none 0 0]) := G14_21.out.below y14_21 hb
    have O3_22 : Hid (OwnS l3 g14 w22 (.agg #[.int .i64 0, .int .i64 NV.c, .slice dW NV.nW mW, .int .i64 NV.g, .slice dO NV.nO mO, .slice dX NV.nX mX, .slice dI NV.nI mI, .slice none 0 0]) NV) := O3_21.out.below (by omega) hb
    have y14_22 : g14 < w22.heap.size := Nat.lt_of_lt_of_le y14_21 hb.size
    clear B21 M21 G8_21 O1_21 G10_21 O2_21 G14_21 O3_21
    clear hb
    go_wp2
    go_ret
    exact ⟨rfl, B22.out⟩
  · rw [if_neg hn]
    go_wp2
    go_ret
    exact ⟨rfl, B1.out⟩
end Go.Proofs.Ytiahmakaegnnfaa
