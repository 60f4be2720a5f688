/- Lists of holds: how they lie, their size, their copy; conditions: the holds lie in memory. -/
import Derived.Test.YtlbjgecjonegkaaHld1
namespace Go.Proofs.Ytlbjgecjonegkaa
open Go.RowKit Go.Deep
set_option linter.unusedVariables false
/-- A hold: its age, how many records it has read, its state. -/
structure HV where
  ag : Int
  ct : Int
  V : CV
/-- A hold lies in block b of w, from p on. -/
def HSpot (w : World) (b p : Nat) (X : HV) : Prop :=
  ∃ aW kW aO kO aX kX aI kI, (w.cell? ⟨b, p, none⟩ = some (.int .i64 X.ag) ∧ w.cell? ⟨b, p + 1, none⟩ = some (.int .i64 X.ct) ∧ w.cell? ⟨b, p + 2, none⟩ = some (.int .i64 X.V.c) ∧ w.cell? ⟨b, p + 3, none⟩ = some (.slice aW X.V.nW kW) ∧ w.cell? ⟨b, p + 4, none⟩ = some (.int .i64 X.V.g) ∧ w.cell? ⟨b, p + 5, none⟩ = some (.slice aO X.V.nO kO) ∧ w.cell? ⟨b, p + 6, none⟩ = some (.slice aX X.V.nX kX) ∧ w.cell? ⟨b, p + 7, none⟩ = some (.slice aI X.V.nI kI)) ∧ Row5 w aW X.V.nW X.V.W ∧ RowO w aO X.V.nO X.V.N X.V.O ∧ Row1 w aX X.V.nX X.V.X ∧ Row1 w aI X.V.nI X.V.I
theorem HSpot.below {w w' : World} {b p : Nat} {X : HV} (h : HSpot w b p X) (hl : b < w.heap.size) (hb : Below w.heap.size w w') : HSpot w' b p X := by
  obtain ⟨aW, kW, aO, kO, aX, kX, aI, kI, ⟨c0, c1, c2, c3, c4, c5, c6, c7⟩, h1, h2, h3, h4⟩ := h
  have k : ∀ o, w'.cell? ⟨b, o, none⟩ = w.cell? ⟨b, o, none⟩ := fun o => hb.cell (p := ⟨b, o, none⟩) hl
  exact ⟨aW, kW, aO, kO, aX, kX, aI, kI, ⟨(k _).trans c0, (k _).trans c1, (k _).trans c2, (k _).trans c3, (k _).trans c4, (k _).trans c5, (k _).trans c6, (k _).trans c7⟩, row5_below h1 hb, rowO_below h2 hb, row1_below h3 hb, row1_below h4 hb⟩
/-- n holds lie in w, from a on. -/
def HRow (w : World) (a : Option Addr) (n : Nat) (F : Nat → HV) : Prop :=
  n = 0 ∨ ∃ b o, a = some ⟨b, o, none⟩ ∧ b < w.heap.size ∧ ∀ k, k < n → HSpot w b (o + k * 8) (F k)
theorem HRow.below {w w' : World} {a : Option Addr} {n : Nat} {F : Nat → HV} (h : HRow w a n F) (hb : Below w.heap.size w w') : HRow w' a n F := by
  rcases h with h | ⟨b, o, e, h1, h2⟩
  · exact .inl h
  · exact .inr ⟨b, o, e, Nat.lt_of_lt_of_le h1 hb.size, fun k hk => (h2 k hk).below h1 hb⟩

set_option maxHeartbeats 1000000 in
theorem szCellG (v : Value) (V : CV) (hs : V.short maxLen) (left : Int) (g0 : 0 ≤ left) (g1 : left ≤ 1048576) (w : World) (h : CellAt w v V) :
    Calls Try.prog 61 #[v, .int .i64 left] w fun e w' => (∃ r : Int, e = .returned (.int .i64 r) ∧ (r < 0 ∨ (0 ≤ r ∧ r ≤ left ∧ V.short 1048576))) ∧ Below w.heap.size w w' := by
  obtain ⟨aW, kW, aO, kO, aX, kX, aI, kI, rfl, rW, rO, rX, rI⟩ := h
  obtain ⟨VC, nW, W, VG, nO, N, O, nX, X, nI, I⟩ := V
  simp only at rW rO rX rI ⊢
  simp only [CV.short] at hs ⊢
  obtain ⟨sW, sO, sN, sX, sI⟩ := hs
  unfold maxLen at sW sO sN sX sI
  have HO : Hid (RowO w aO nO N O) := rO
  have HN : Hid (∀ k, k < nO → (N k : Int) ≤ 9223372036854775807) := fun k hk => by have := sN k hk; omega
  clear rW rO rX rI sN
  go_enter Try.func61, Try.ntmps61
  go_wp2_with fail
  refine (szWalkers aW nW kW left g0 g1 (by omega) _).mono ?_
  rintro e w1 ⟨rfl, hb1⟩
  have B1 : Below w.heap.size w w1 := bthen (by first | exact Below.refl _ _ | exact (Below.refl _ _).alloc (by simp) _) hb1
  by_cases hW : (nW : Int) ≤ left
  · rw [if_pos hW]
    have hW0 : 0 ≤ left - (nW : Int) := by omega
    obtain ⟨hc1, hf1⟩ := bcell hb1
    have s1 : w.heap.size < w1.heap.size := by have := hb1.size; simp at this; omega
    go_wp2_with fail
    refine (szOuts aO nO kO N O _ hW0 (by omega) (by omega) HN.out _ (rowO_below HO.out B1)).mono ?_
    rintro e w2 ⟨⟨r, rfl, hr⟩, hb2⟩
    have B2 := bthen B1 hb2
    obtain ⟨hc2, hf2⟩ := bcell hb2
    have s2 : w.heap.size < w2.heap.size := Nat.lt_of_lt_of_le s1 hb2.size
    rcases hr with rfl | ⟨r0, r1, r2, r3⟩
    · go_wp2
      go_ret
      exact ⟨⟨-1, rfl, .inl (by omega)⟩, B2⟩
    · have HR3 : Hid (∀ k, k < nO → (N k : Int) ≤ left - (nW : Int)) := r3
      clear r3
      go_wp2_with fail
      refine (szInts aX nX kX _ r0 (by omega) (by omega) _).mono ?_
      rintro e w3 ⟨rfl, hb3⟩
      have B3 := bthen B2 hb3
      obtain ⟨hc3, hf3⟩ := bcell hb3
      have s3 : w.heap.size < w3.heap.size := Nat.lt_of_lt_of_le s2 hb3.size
      by_cases hX : (nX : Int) ≤ r
      · rw [if_pos hX]
        have hX0 : 0 ≤ r - (nX : Int) := by omega
        go_wp2_with fail
        refine (szInts aI nI kI _ hX0 (by omega) (by omega) _).mono ?_
        rintro e w4 ⟨rfl, hb4⟩
        have B4 := bthen B3 hb4
        by_cases hI : (nI : Int) ≤ r - (nX : Int)
        · rw [if_pos hI]
          have hI0 : 0 ≤ r - (nX : Int) - (nI : Int) := by omega
          go_wp2
          go_ret
          exact ⟨⟨_, rfl, .inr ⟨hI0, by omega, by omega, by omega, fun k hk => by have := HR3.out k hk; omega, by omega, by omega⟩⟩, B4⟩
        · rw [if_neg hI]
          go_wp2
          go_ret
          exact ⟨⟨-1, rfl, .inl (by omega)⟩, B4⟩
      · rw [if_neg hX]
        go_wp2
        go_ret
        exact ⟨⟨-1, rfl, .inl (by omega)⟩, B3⟩
  · rw [if_neg hW]
    go_wp2
    go_ret
    exact ⟨⟨-1, rfl, .inl (by omega)⟩, B1⟩

set_option maxHeartbeats 1000000 in
theorem szHoldG (v : Value) (ag ct : Int) (V : CV) (hs : V.short maxLen) (left : Int) (g0 : 0 ≤ left) (g1 : left ≤ 1048576) (w : World) (h : HoldAt w v ag ct V) :
    Calls Try.prog 36 #[v, .int .i64 left] w fun e w' => (∃ r : Int, e = .returned (.int .i64 r) ∧ (r < 0 ∨ (0 ≤ r ∧ r ≤ left ∧ V.short 1048576))) ∧ Below w.heap.size w w' := by
  obtain ⟨aW, kW, aO, kO, aX, kX, aI, kI, rfl, rW, rO, rX, rI⟩ := h
  have HC : Hid (CellAt w (.agg #[.int .i64 V.c, .slice aW V.nW kW, .int .i64 V.g, .slice aO V.nO kO, .slice aX V.nX kX, .slice aI V.nI kI]) V) := cell_of_rows ⟨rW, rO, rX, rI⟩
  have HS : Hid (V.short maxLen) := hs
  clear rW rO rX rI hs
  go_enter Try.func36, Try.ntmps36
  go_wp2_with fail
  refine (szCellG _ V HS.out left g0 g1 _ (cellAt_below HC.out ((Below.refl _ _).alloc (by simp) _))).mono ?_
  rintro e w1 ⟨⟨r, rfl, hr⟩, hb1⟩
  have B1 : Below w.heap.size w w1 := bthen ((Below.refl _ _).alloc (by simp) _) hb1
  rcases hr with hr | ⟨hr, hrl, hV⟩
  · go_wp2
    go_ret
    exact ⟨⟨-1, rfl, .inl (by omega)⟩, B1⟩
  · have hr2 : ¬ r < 0 := by omega
    go_wp2
    go_ret
    exact ⟨⟨r, rfl, .inr ⟨hr, hrl, hV⟩⟩, B1⟩

set_option maxHeartbeats 8000000 in
theorem toHoldB (v : Value) (ag ct : Int) (V : CV) (hs : V.short 1048576) (w : World) (h : HoldAt w v ag ct V) :
    Calls Try.prog 41 #[v] w fun e w' => (∃ v', e = .returned v' ∧ ∃ lo, w.heap.size ≤ lo ∧ HCopy lo w' v' ag ct V) ∧ Below w.heap.size w w' := by
  obtain ⟨aW, kW, aO, kO, aX, kX, aI, kI, rfl, rW, rO, rX, rI⟩ := h
  have HC : Hid (CellAt w (.agg #[.int .i64 V.c, .slice aW V.nW kW, .int .i64 V.g, .slice aO V.nO kO, .slice aX V.nX kX, .slice aI V.nI kI]) V) := cell_of_rows ⟨rW, rO, rX, rI⟩
  have HS : Hid (V.short 1048576) := hs
  clear rW rO rX rI hs
  go_enter Try.func41, Try.ntmps41
  go_wp2_with fail
  obtain ⟨w0, e0⟩ : ∃ w0, w0 = ((w.alloc (.cells #[.int .i64 ag, .int .i64 ct, .int .i64 V.c, .slice aW V.nW kW, .int .i64 V.g, .slice aO V.nO kO, .slice aX V.nX kX, .slice aI V.nI kI] 72)).alloc (.cells #[.int .i64 0, .int .i64 0, .int .i64 0, .slice none 0 0, .int .i64 0, .slice none 0 0, .slice none 0 0, .slice none 0 0] 45)).alloc (.cells #[.int .i64 ag, .int .i64 ct, .int .i64 0, .slice none 0 0, .int .i64 0, .slice none 0 0, .slice none 0 0, .slice none 0 0] 45) := ⟨_, rfl⟩
  have B1 : Hid (Below w.heap.size w w0) := by rw [e0]; exact (((Below.refl _ _).alloc (by simp) _).alloc (by simp) _).alloc (by simp; omega) _
  have R2 : Hid (Bk w0 (w.heap.size + 1) [.int .i64 0, .int .i64 0, .int .i64 0, .slice none 0 0, .int .i64 0, .slice none 0 0, .slice none 0 0, .slice none 0 0]) := by rw [e0]; have := (bk_new (w.alloc (.cells #[.int .i64 ag, .int .i64 ct, .int .i64 V.c, .slice aW V.nW kW, .int .i64 V.g, .slice aO V.nO kO, .slice aX V.nX kX, .slice aI V.nI kI] 72)) 45 [.int .i64 0, .int .i64 0, .int .i64 0, .slice none 0 0, .int .i64 0, .slice none 0 0, .slice none 0 0, .slice none 0 0]).below ((Below.refl _ _).alloc (Nat.le_refl _) (.cells #[.int .i64 ag, .int .i64 ct, .int .i64 0, .slice none 0 0, .int .i64 0, .slice none 0 0, .slice none 0 0, .slice none 0 0] 45)); rwa [show (w.alloc (.cells #[.int .i64 ag, .int .i64 ct, .int .i64 V.c, .slice aW V.nW kW, .int .i64 V.g, .slice aO V.nO kO, .slice aX V.nX kX, .slice aI V.nI kI] 72)).heap.size = w.heap.size + 1 by simp] at this
  have O3 : Hid (Bk w0 (w.heap.size + 1 + 1) [.int .i64 ag, .int .i64 ct, .int .i64 0, .slice none 0 0, .int .i64 0, .slice none 0 0, .slice none 0 0, .slice none 0 0]) := by rw [e0]; have := bk_new ((w.alloc (.cells #[.int .i64 ag, .int .i64 ct, .int .i64 V.c, .slice aW V.nW kW, .int .i64 V.g, .slice aO V.nO kO, .slice aX V.nX kX, .slice aI V.nI kI] 72)).alloc (.cells #[.int .i64 0, .int .i64 0, .int .i64 0, .slice none 0 0, .int .i64 0, .slice none 0 0, .slice none 0 0, .slice none 0 0] 45)) 45 [.int .i64 ag, .int .i64 ct, .int .i64 0, .slice none 0 0, .int .i64 0, .slice none 0 0, .slice none 0 0, .slice none 0 0]; rwa [show ((w.alloc (.cells #[.int .i64 ag, .int .i64 ct, .int .i64 V.c, .slice aW V.nW kW, .int .i64 V.g, .slice aO V.nO kO, .slice aX V.nX kX, .slice aI V.nI kI] 72)).alloc (.cells #[.int .i64 0, .int .i64 0, .int .i64 0, .slice none 0 0, .int .i64 0, .slice none 0 0, .slice none 0 0, .slice none 0 0] 45)).heap.size = w.heap.size + 1 + 1 by simp] at this
  rw [← e0]
  clear e0
  have z0 : w.heap.size + 1 + 1 < w0.heap.size := O3.out.1
  refine (toCell _ V HS.out _ (cellAt_below HC.out B1.out)).mono ?_
  rintro e w1 ⟨⟨v1, rfl, hC1⟩, hb1⟩
  have B4 : Hid (Below w.heap.size w w1) := bthen B1.out hb1
  have R4 : Hid (Bk w1 (w.heap.size + 1) [.int .i64 0, .int .i64 0, .int .i64 0, .slice none 0 0, .int .i64 0, .slice none 0 0, .slice none 0 0, .slice none 0 0]) := R2.out.below hb1
  have O4 : Hid (Bk w1 (w.heap.size + 1 + 1) [.int .i64 ag, .int .i64 ct, .int .i64 0, .slice none 0 0, .int .i64 0, .slice none 0 0, .slice none 0 0, .slice none 0 0]) := O3.out.below hb1
  clear B1 R2 O3
  clear hb1
  obtain ⟨bW, bO, bX, bI, q0, q1, q2, q3, q4, rfl, g1, g2, g3, g4⟩ := hC1
  have C1 : Hid (CopyAt w0.heap.size w1 (.agg #[.int .i64 V.c, .slice (some ⟨bW, 0, none⟩) V.nW V.nW, .int .i64 V.g, .slice (some ⟨bO, 0, none⟩) V.nO V.nO, .slice (some ⟨bX, 0, none⟩) V.nX V.nX, .slice (some ⟨bI, 0, none⟩) V.nI V.nI]) V) := ⟨bW, bO, bX, bI, q0, q1, q2, q3, q4, rfl, g1, g2, g3, g4⟩
  clear g1 g2 g3 g4
  have yR0 : w1.cell? ⟨(w.heap.size + 1), 0, none⟩ = some (.int .i64 0) := (R4.out.2 0 (by simp)).1
  have zR0 : w1.frozen? ⟨(w.heap.size + 1), 0, none⟩ = false := (R4.out.2 0 (by simp)).2
  have yR1 : w1.cell? ⟨(w.heap.size + 1), 1, none⟩ = some (.int .i64 0) := (R4.out.2 1 (by simp)).1
  have zR1 : w1.frozen? ⟨(w.heap.size + 1), 1, none⟩ = false := (R4.out.2 1 (by simp)).2
  have yR2 : w1.cell? ⟨(w.heap.size + 1), 2, none⟩ = some (.int .i64 0) := (R4.out.2 2 (by simp)).1
  have zR2 : w1.frozen? ⟨(w.heap.size + 1), 2, none⟩ = false := (R4.out.2 2 (by simp)).2
  have yR3 : w1.cell? ⟨(w.heap.size + 1), 3, none⟩ = some (.slice none 0 0) := (R4.out.2 3 (by simp)).1
  have zR3 : w1.frozen? ⟨(w.heap.size + 1), 3, none⟩ = false := (R4.out.2 3 (by simp)).2
  have yR4 : w1.cell? ⟨(w.heap.size + 1), 4, none⟩ = some (.int .i64 0) := (R4.out.2 4 (by simp)).1
  have zR4 : w1.frozen? ⟨(w.heap.size + 1), 4, none⟩ = false := (R4.out.2 4 (by simp)).2
  have yR5 : w1.cell? ⟨(w.heap.size + 1), 5, none⟩ = some (.slice none 0 0) := (R4.out.2 5 (by simp)).1
  have zR5 : w1.frozen? ⟨(w.heap.size + 1), 5, none⟩ = false := (R4.out.2 5 (by simp)).2
  have yR6 : w1.cell? ⟨(w.heap.size + 1), 6, none⟩ = some (.slice none 0 0) := (R4.out.2 6 (by simp)).1
  have zR6 : w1.frozen? ⟨(w.heap.size + 1), 6, none⟩ = false := (R4.out.2 6 (by simp)).2
  have yR7 : w1.cell? ⟨(w.heap.size + 1), 7, none⟩ = some (.slice none 0 0) := (R4.out.2 7 (by simp)).1
  have zR7 : w1.frozen? ⟨(w.heap.size + 1), 7, none⟩ = false := (R4.out.2 7 (by simp)).2
  have hlR : (w.heap.size + 1) < w1.heap.size := R4.out.1
  have yO0 : w1.cell? ⟨(w.heap.size + 1 + 1), 0, none⟩ = some (.int .i64 ag) := (O4.out.2 0 (by simp)).1
  have zO0 : w1.frozen? ⟨(w.heap.size + 1 + 1), 0, none⟩ = false := (O4.out.2 0 (by simp)).2
  have yO1 : w1.cell? ⟨(w.heap.size + 1 + 1), 1, none⟩ = some (.int .i64 ct) := (O4.out.2 1 (by simp)).1
  have zO1 : w1.frozen? ⟨(w.heap.size + 1 + 1), 1, none⟩ = false := (O4.out.2 1 (by simp)).2
  have yO2 : w1.cell? ⟨(w.heap.size + 1 + 1), 2, none⟩ = some (.int .i64 0) := (O4.out.2 2 (by simp)).1
  have zO2 : w1.frozen? ⟨(w.heap.size + 1 + 1), 2, none⟩ = false := (O4.out.2 2 (by simp)).2
  have yO3 : w1.cell? ⟨(w.heap.size + 1 + 1), 3, none⟩ = some (.slice none 0 0) := (O4.out.2 3 (by simp)).1
  have zO3 : w1.frozen? ⟨(w.heap.size + 1 + 1), 3, none⟩ = false := (O4.out.2 3 (by simp)).2
  have yO4 : w1.cell? ⟨(w.heap.size + 1 + 1), 4, none⟩ = some (.int .i64 0) := (O4.out.2 4 (by simp)).1
  have zO4 : w1.frozen? ⟨(w.heap.size + 1 + 1), 4, none⟩ = false := (O4.out.2 4 (by simp)).2
  have yO5 : w1.cell? ⟨(w.heap.size + 1 + 1), 5, none⟩ = some (.slice none 0 0) := (O4.out.2 5 (by simp)).1
  have zO5 : w1.frozen? ⟨(w.heap.size + 1 + 1), 5, none⟩ = false := (O4.out.2 5 (by simp)).2
  have yO6 : w1.cell? ⟨(w.heap.size + 1 + 1), 6, none⟩ = some (.slice none 0 0) := (O4.out.2 6 (by simp)).1
  have zO6 : w1.frozen? ⟨(w.heap.size + 1 + 1), 6, none⟩ = false := (O4.out.2 6 (by simp)).2
  have yO7 : w1.cell? ⟨(w.heap.size + 1 + 1), 7, none⟩ = some (.slice none 0 0) := (O4.out.2 7 (by simp)).1
  have zO7 : w1.frozen? ⟨(w.heap.size + 1 + 1), 7, none⟩ = false := (O4.out.2 7 (by simp)).2
  have hlO : (w.heap.size + 1 + 1) < w1.heap.size := O4.out.1
  go_wp2
  refine bodyPost_ret (v := .agg #[.int .i64 ag, .int .i64 ct, .int .i64 V.c, .slice (some ⟨bW, 0, none⟩) V.nW V.nW, .int .i64 V.g, .slice (some ⟨bO, 0, none⟩) V.nO V.nO, .slice (some ⟨bX, 0, none⟩) V.nX V.nX, .slice (some ⟨bI, 0, none⟩) V.nI V.nI]) (by simp [results, Try.results41, go_sem, *]) rfl ?_
  exact ⟨⟨_, rfl, w0.heap.size, by omega, bW, bO, bX, bI, rfl, ((((((((((((((C1.out.set (by omega)).set (by omega)).set (by omega)).set (by omega)).set (by omega)).set (by omega)).set (by omega)).set (by omega)).set (by omega)).set (by omega)).set (by omega)).set (by omega)).set (by omega)).set (by omega))⟩, ((((((((((((((B4.out.setCell (by first | (simp; done) | (simp; omega) | omega) _).setCell (by first | (simp; done) | (simp; omega) | omega) _).setCell (by first | (simp; done) | (simp; omega) | omega) _).setCell (by first | (simp; done) | (simp; omega) | omega) _).setCell (by first | (simp; done) | (simp; omega) | omega) _).setCell (by first | (simp; done) | (simp; omega) | omega) _).setCell (by first | (simp; done) | (simp; omega) | omega) _).setCell (by first | (simp; done) | (simp; omega) | omega) _).setCell (by first | (simp; done) | (simp; omega) | omega) _).setCell (by first | (simp; done) | (simp; omega) | omega) _).setCell (by first | (simp; done) | (simp; omega) | omega) _).setCell (by first | (simp; done) | (simp; omega) | omega) _).setCell (by first | (simp; done) | (simp; omega) | omega) _).setCell (by first | (simp; done) | (simp; omega) | omega) _)⟩

set_option maxHeartbeats 1000000 in
theorem szHolds (a : Option Addr) (n cap : Nat) (F : Nat → HV) (left : Int) (g0 : 0 ≤ left) (g1 : left ≤ 1048576) (hn : (n : Int) ≤ 9223372036854775807) (hN : ∀ k, k < n → (F k).V.short maxLen) (w : World) (h : HRow w a n F) :
    Calls Try.prog 17 #[.slice a n cap, .int .i64 left] w fun e w' => (∃ r : Int, e = .returned (.int .i64 r) ∧ (r < 0 ∨ (0 ≤ r ∧ r ≤ left ∧ (n : Int) ≤ left ∧ ∀ k, k < n → (F k).V.short 1048576))) ∧ Below w.heap.size w w' := by
  have HN : Hid (∀ k, k < n → (F k).V.short maxLen) := hN
  have HR : Hid (HRow w a n F) := h
  clear hN h
  by_cases h : (n : Int) ≤ left
  · have hd : 0 ≤ left - n := by omega
    go_enter Try.func17, Try.ntmps17
    go_wp2
    go_loopw [1, 5] (fun l i wr => ∃ (k : Nat) (r : Int), k ≤ n ∧ i = .int .i64 k ∧ l = .int .i64 r ∧ 0 ≤ r ∧ r ≤ left ∧ (∀ j, j < k → (F j).V.short 1048576) ∧ Below w.heap.size w wr) (fun _ i _ => n - (intOf i).toNat)
    case atStart => exact ⟨0, left - n, Nat.zero_le _, rfl, by go_num, by omega, by omega, fun _ h => absurd h (by omega), Below.refl _ _⟩
    case round =>
      obtain ⟨k, r, hk, rfl, rfl, hr0, hr1, hall, hbel⟩ := hrel
      have HA : Hid (∀ j, j < k → (F j).V.short 1048576) := hall
      clear hall
      by_cases hkn : k < n
      · have hkn' : (k : Int) < n := by omega
        obtain ⟨b, o, rfl, hb, hrow⟩ : ∃ b o, a = some ⟨b, o, none⟩ ∧ b < w.heap.size ∧ ∀ k, k < n → HSpot w b (o + k * 8) (F k) := by
          rcases HR.out with h | h
          · omega
          · exact h
        obtain ⟨aW, kW, aO, kO, aX, kX, aI, kI, ⟨c0, c1, c2, c3, c4, c5, c6, c7⟩, r1, r2, r3, r4⟩ := (hrow k hkn).below hb hbel
        clear hrow
        have HO : Hid (HoldAt wr (.agg #[.int .i64 (F k).ag, .int .i64 (F k).ct, .int .i64 (F k).V.c, .slice aW (F k).V.nW kW, .int .i64 (F k).V.g, .slice aO (F k).V.nO kO, .slice aX (F k).V.nX kX, .slice aI (F k).V.nI kI]) (F k).ag (F k).ct (F k).V) := ⟨aW, kW, aO, kO, aX, kX, aI, kI, rfl, r1, r2, r3, r4⟩
        clear r1 r2 r3 r4
        go_wp2_with fail
        refine (szHoldG _ _ _ (F k).V (HN.out k hkn) r hr0 (by omega) _ HO.out).mono ?_
        rintro e w1 ⟨⟨r', rfl, hr⟩, hb1⟩
        have B1 : Below w.heap.size w w1 := bthen hbel hb1
        clear hb1 hbel c0 c1 c2 c3 c4 c5 c6 c7
        rcases hr with hr | ⟨q0, q1, q2⟩
        · go_wp2
          go_ret
          exact ⟨⟨-1, rfl, .inl (by omega)⟩, B1⟩
        · have hr2 : ¬ r' < 0 := by omega
          have Q2 : Hid ((F k).V.short 1048576) := q2
          clear q2
          go_wp2
          go_roundw
          case rel => exact ⟨k + 1, r', by omega, by go_num, rfl, by omega, by omega, fun j hj => by
            by_cases hjk : j = k
            · subst hjk; exact Q2.out
            · exact HA.out j (by omega), B1⟩
          case measure => simp [intOf]; omega
      · have : k = n := by omega
        subst this
        go_wp2
        go_ret
        exact ⟨⟨r, rfl, .inr ⟨hr0, hr1, h, HA.out⟩⟩, hbel⟩
  · go_enter Try.func17, Try.ntmps17
    go_wp2
    all_goals (go_ret; exact ⟨⟨-1, rfl, .inl (by omega)⟩, Below.refl _ _⟩)
end Go.Proofs.Ytlbjgecjonegkaa
