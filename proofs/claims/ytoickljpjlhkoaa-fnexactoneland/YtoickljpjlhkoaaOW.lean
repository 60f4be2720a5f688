/- One worlds: how they lie, their size, their copies, and that two of the same are the same; conditions: those typed. -/
import Derived.Test.YtoickljpjlhkoaaOL
import Derived.Test.YtoickljpjlhkoaaOA
import Derived.Test.YtoickljpjlhkoaaWalksD
namespace Go.Proofs.Ytoickljpjlhkoaa
open Go.RowKit Go.Deep
set_option linter.unusedVariables false


/-- What a one world holds. -/
structure OV where
  c : Int
  d : Int
  nW : Nat
  W : Nat → Nat → Int
  nG : Nat
  G : Nat → Int
  nA : Nat
  N : Nat → Nat
  A : Nat → Nat → Int

/-- The value v is a one world that holds V, in w. -/
def OneAt (w : World) (v : Value) (V : OV) : Prop :=
  ∃ aW kW aG kG aA kA, v = .agg #[.int .i64 V.c, .int .i64 V.d, .slice aW V.nW kW, .slice aG V.nG kG, .slice aA V.nA kA] ∧
    P6.RowK w aW V.nW V.W ∧ Row1 w aG V.nG V.G ∧ RowO w aA V.nA V.N V.A

/-- Its lists are no longer than so. -/
def OV.short (V : OV) (m : Nat) : Prop := V.nW ≤ m ∧ V.nG ≤ m ∧ V.nA ≤ m ∧ ∀ k, k < V.nA → V.N k ≤ m
/-- .. and all together no longer than the laws take. -/
def OV.few (V : OV) : Prop := V.short 1048576 ∧ sumN V.N V.nA ≤ 1048576

theorem oneAt_below {w w' : World} {v : Value} {V : OV} (h : OneAt w v V) (hb : Below w.heap.size w w') : OneAt w' v V := by
  obtain ⟨aW, kW, aG, kG, aA, kA, e, h1, h2, h3⟩ := h
  exact ⟨aW, kW, aG, kG, aA, kA, e, P6.row_below h1 hb, row1_below h2 hb, rowO_below h3 hb⟩

theorem smf {w : World} {B j b : Nat} {u : Value} (h : ¬ B = b) : Sm w (w.setCell ⟨B, j, none⟩ u) b := fun o => ⟨set_out (fun e => h e.1), set_frozen⟩

theorem toMap (c d : Int) (w : World) :
    Calls Try.prog 26 #[.agg #[.int .i64 c, .int .i64 d]] w fun e w' => e = .returned (.agg #[.int .i64 c, .int .i64 d]) ∧ Below w.heap.size w w' := by
  go_enter Try.func26, Try.ntmps26
  go_wp2
  exact bodyPost_ret (v := .agg #[.int .i64 c, .int .i64 d]) (by simp [results, Try.results26, go_sem]) rfl ⟨rfl, (((Below.refl _ _).alloc (by simp) _).alloc (by simp) _).alloc (by simp; omega) _⟩
theorem eqMap (c d : Int) (w : World) :
    Calls Try.prog 35 #[.agg #[.int .i64 c, .int .i64 d], .agg #[.int .i64 c, .int .i64 d]] w fun e w' => e = .returned (.bool true) ∧ Below w.heap.size w w' := by
  go_enter Try.func35, Try.ntmps35
  go_wp2
  go_ret
  exact ⟨rfl, by repeat (first | exact Below.refl _ _ | refine Below.alloc ?_ (by simp <;> omega) _)⟩

set_option maxHeartbeats 1000000 in
theorem szOne (v : Value) (V : OV) (hs : V.short maxLen) (w : World) (h : OneAt w v V) :
    Calls Try.prog 7 #[v, .int .i64 1048576] w fun e w' => (∃ r : Int, e = .returned (.int .i64 r) ∧ (r < 0 ∨ (0 ≤ r ∧ V.few))) ∧ Below w.heap.size w w' := by
  obtain ⟨aW, kW, aG, kG, aA, kA, rfl, rW, rG, rA⟩ := h
  obtain ⟨c, d, nW, Z, nG, G, nA, N, O⟩ := V
  simp only at rW rG rA ⊢
  simp only [OV.few, OV.short] at hs ⊢
  obtain ⟨sW, sG, sA, sN⟩ := hs
  unfold maxLen at sW sG sA sN
  have HO : Hid (RowO w aA nA N O) := rA
  have HN : Hid (∀ k, k < nA → (N k : Int) ≤ 9223372036854775807) := fun k hk => by have := sN k hk; omega
  clear rW rG rA sN
  go_enter Try.func7, Try.ntmps7
  go_wp2_with fail
  refine (P6.szList aW nW kW 1048576 (by omega) (by omega) (by omega) _).mono ?_
  rintro e w1 ⟨rfl, hb1⟩
  have B1 : Below w.heap.size w w1 := bthen (by first | exact Below.refl _ _ | exact (Below.refl _ _).alloc (by simp) _) hb1
  by_cases hW : (nW : Int) ≤ 1048576
  · rw [if_pos hW]
    have hW0 : 0 ≤ 1048576 - (nW : Int) := by omega
    obtain ⟨hc1, hf1⟩ := bcell hb1
    have s1 : w.heap.size < w1.heap.size := by have := hb1.size; simp at this; omega
    go_wp2_with fail
    refine (szInts aG nG kG _ hW0 (by omega) (by omega) _).mono ?_
    rintro e w2 ⟨rfl, hb2⟩
    have B2 := bthen B1 hb2
    obtain ⟨hc2, hf2⟩ := bcell hb2
    have s2 : w.heap.size < w2.heap.size := Nat.lt_of_lt_of_le s1 hb2.size
    by_cases hX : (nG : Int) ≤ 1048576 - (nW : Int)
    · rw [if_pos hX]
      have hX0 : 0 ≤ 1048576 - (nW : Int) - (nG : Int) := by omega
      go_wp2_with fail
      refine (szOuts2 aA nA kA N O _ hX0 (by omega) (by omega) HN.out _ (rowO_below HO.out B2)).mono ?_
      rintro e w3 ⟨⟨r, rfl, hr⟩, hb3⟩
      have B3 := bthen B2 hb3
      rcases hr with rfl | ⟨r0, r1, r2, r3, r4⟩
      · go_wp2
        go_ret
        exact ⟨⟨-1, rfl, .inl (by omega)⟩, B3⟩
      · have HR3 : Hid ((∀ k, k < nA → (N k : Int) ≤ 1048576 - (nW : Int) - (nG : Int)) ∧ (sumN N nA : Int) ≤ 1048576 - (nW : Int) - (nG : Int)) := ⟨r3, r4⟩
        clear r3 r4
        go_wp2
        go_ret
        exact ⟨⟨_, rfl, .inr ⟨r0, ⟨by omega, by omega, by omega, fun k hk => by have := HR3.out.1 k hk; omega⟩, by have := HR3.out.2; omega⟩⟩, B3⟩
    · rw [if_neg hX]
      go_wp2
      go_ret
      exact ⟨⟨-1, rfl, .inl (by omega)⟩, B2⟩
  · rw [if_neg hW]
    go_wp2
    go_ret
    exact ⟨⟨-1, rfl, .inl (by omega)⟩, B1⟩

/-- v is a copy, in w, that holds V; its lists lie from lo on, one behind the other. -/
def CopyO (lo : Nat) (w : World) (v : Value) (V : OV) : Prop :=
  ∃ b1 b2 b3, lo ≤ b1 ∧ b1 < b2 ∧ b2 < b3 ∧ b3 < w.heap.size ∧ v = .agg #[.int .i64 V.c, .int .i64 V.d, .slice (some ⟨b1, 0, none⟩) V.nW V.nW, .slice (some ⟨b2, 0, none⟩) V.nG V.nG, .slice (some ⟨b3, 0, none⟩) V.nA V.nA] ∧
    P6.OwnK w b1 V.nW V.W V.nW ∧ Own1 w b2 V.nG V.G V.nG ∧ OwnO w b3 V.nA V.N V.A V.nA
theorem CopyO.at {lo : Nat} {w : World} {v : Value} {V : OV} (h : CopyO lo w v V) : OneAt w v V := by
  obtain ⟨b1, b2, b3, l1, l2, l3, l4, e, h1, h2, h3⟩ := h
  exact ⟨_, _, _, _, _, _, e, P6.row_of_own h1 (by omega), row1_of_own h2 (by omega), rowO_of_own h3 l4⟩
theorem CopyO.below {lo : Nat} {w w' : World} {v : Value} {V : OV} (h : CopyO lo w v V) (hb : Below w.heap.size w w') : CopyO lo w' v V := by
  obtain ⟨b1, b2, b3, l1, l2, l3, l4, e, h1, h2, h3⟩ := h
  exact ⟨b1, b2, b3, l1, l2, l3, Nat.lt_of_lt_of_le l4 hb.size, e, P6.own_below h1 (by omega) hb, own1_below h2 (by omega) hb, ownO_below h3 l4 hb⟩

set_option maxHeartbeats 4000000 in
theorem toOne (v : Value) (V : OV) (hs : V.short 1048576) (w : World) (h : OneAt w v V) :
    Calls Try.prog 9 #[v] w fun e w' => (∃ v', e = .returned v' ∧ CopyO w.heap.size w' v' V) ∧ Below w.heap.size w w' := by
  obtain ⟨aW, kW, aG, kG, aA, kA, rfl, rW, rG, rA⟩ := h
  obtain ⟨c, d, nW, Z, nG, G, nA, N, O⟩ := V
  simp only at rW rG rA
  obtain ⟨sW, sG, sA, sN⟩ := hs
  simp only at sW sG sA sN
  have HW : Hid (P6.RowK w aW nW Z) := rW
  have HG : Hid (Row1 w aG nG G) := rG
  have HA : Hid (RowO w aA nA N O) := rA
  have HN : Hid (∀ k, k < nA → N k ≤ 1048576) := sN
  clear rW rG rA sN
  go_enter Try.func9, Try.ntmps9
  go_wp2_with fail
  obtain ⟨w0, e0⟩ : ∃ w0, w0 = ((w.alloc (.cells #[.int .i64 c, .int .i64 d, .slice aW nW kW, .slice aG nG kG, .slice aA nA kA] 28)).alloc (.cells #[.int .i64 0, .int .i64 0, .slice none 0 0, .slice none 0 0, .slice none 0 0] 34)).alloc (.cells #[.int .i64 0, .int .i64 0, .slice none 0 0, .slice none 0 0, .slice none 0 0] 34) := ⟨_, rfl⟩
  have B1 : Hid (Below w.heap.size w w0) := by rw [e0]; exact (((Below.refl _ _).alloc (by simp) _).alloc (by simp) _).alloc (by simp; omega) _
  have A2 : Hid (Bk w0 w.heap.size [.int .i64 c, .int .i64 d, .slice aW nW kW, .slice aG nG kG, .slice aA nA kA]) := by rw [e0]; exact ((bk_new w 28 [.int .i64 c, .int .i64 d, .slice aW nW kW, .slice aG nG kG, .slice aA nA kA]).below ((Below.refl _ _).alloc (Nat.le_refl _) _)).below ((Below.refl _ _).alloc (Nat.le_refl _) _)
  have R3 : Hid (Bk w0 (w.heap.size + 1) [.int .i64 0, .int .i64 0, .slice none 0 0, .slice none 0 0, .slice none 0 0]) := by rw [e0]; have := (bk_new (w.alloc (.cells #[.int .i64 c, .int .i64 d, .slice aW nW kW, .slice aG nG kG, .slice aA nA kA] 28)) 34 [.int .i64 0, .int .i64 0, .slice none 0 0, .slice none 0 0, .slice none 0 0]).below ((Below.refl _ _).alloc (Nat.le_refl _) (.cells #[.int .i64 0, .int .i64 0, .slice none 0 0, .slice none 0 0, .slice none 0 0] 34)); rwa [show (w.alloc (.cells #[.int .i64 c, .int .i64 d, .slice aW nW kW, .slice aG nG kG, .slice aA nA kA] 28)).heap.size = w.heap.size + 1 by simp] at this
  have O4 : Hid (Bk w0 (w.heap.size + 1 + 1) [.int .i64 0, .int .i64 0, .slice none 0 0, .slice none 0 0, .slice none 0 0]) := by rw [e0]; have := bk_new ((w.alloc (.cells #[.int .i64 c, .int .i64 d, .slice aW nW kW, .slice aG nG kG, .slice aA nA kA] 28)).alloc (.cells #[.int .i64 0, .int .i64 0, .slice none 0 0, .slice none 0 0, .slice none 0 0] 34)) 34 [.int .i64 0, .int .i64 0, .slice none 0 0, .slice none 0 0, .slice none 0 0]; rwa [show ((w.alloc (.cells #[.int .i64 c, .int .i64 d, .slice aW nW kW, .slice aG nG kG, .slice aA nA kA] 28)).alloc (.cells #[.int .i64 0, .int .i64 0, .slice none 0 0, .slice none 0 0, .slice none 0 0] 34)).heap.size = w.heap.size + 1 + 1 by simp] at this
  rw [← e0]
  clear e0
  refine (toMap _ _ _).mono ?_
  rintro e w1 ⟨rfl, hb1⟩
  have B5 : Hid (Below w.heap.size w w1) := bthen B1.out hb1
  have A5 : Hid (Bk w1 w.heap.size [.int .i64 c, .int .i64 d, .slice aW nW kW, .slice aG nG kG, .slice aA nA kA]) := A2.out.below hb1
  have R5 : Hid (Bk w1 (w.heap.size + 1) [.int .i64 0, .int .i64 0, .slice none 0 0, .slice none 0 0, .slice none 0 0]) := R3.out.below hb1
  have O5 : Hid (Bk w1 (w.heap.size + 1 + 1) [.int .i64 0, .int .i64 0, .slice none 0 0, .slice none 0 0, .slice none 0 0]) := O4.out.below hb1
  clear B1 A2 R3 O4
  clear hb1
  have yA0 : w1.cell? ⟨w.heap.size, 0, none⟩ = some (.int .i64 c) := (A5.out.2 0 (by simp)).1
  have zA0 : w1.frozen? ⟨w.heap.size, 0, none⟩ = false := (A5.out.2 0 (by simp)).2
  have yA1 : w1.cell? ⟨w.heap.size, 1, none⟩ = some (.int .i64 d) := (A5.out.2 1 (by simp)).1
  have zA1 : w1.frozen? ⟨w.heap.size, 1, none⟩ = false := (A5.out.2 1 (by simp)).2
  have yA2 : w1.cell? ⟨w.heap.size, 2, none⟩ = some (.slice aW nW kW) := (A5.out.2 2 (by simp)).1
  have zA2 : w1.frozen? ⟨w.heap.size, 2, none⟩ = false := (A5.out.2 2 (by simp)).2
  have yA3 : w1.cell? ⟨w.heap.size, 3, none⟩ = some (.slice aG nG kG) := (A5.out.2 3 (by simp)).1
  have zA3 : w1.frozen? ⟨w.heap.size, 3, none⟩ = false := (A5.out.2 3 (by simp)).2
  have yA4 : w1.cell? ⟨w.heap.size, 4, none⟩ = some (.slice aA nA kA) := (A5.out.2 4 (by simp)).1
  have zA4 : w1.frozen? ⟨w.heap.size, 4, none⟩ = false := (A5.out.2 4 (by simp)).2
  have hlA : w.heap.size < w1.heap.size := A5.out.1
  have yR0 : w1.cell? ⟨(w.heap.size + 1), 0, none⟩ = some (.int .i64 0) := (R5.out.2 0 (by simp)).1
  have zR0 : w1.frozen? ⟨(w.heap.size + 1), 0, none⟩ = false := (R5.out.2 0 (by simp)).2
  have yR1 : w1.cell? ⟨(w.heap.size + 1), 1, none⟩ = some (.int .i64 0) := (R5.out.2 1 (by simp)).1
  have zR1 : w1.frozen? ⟨(w.heap.size + 1), 1, none⟩ = false := (R5.out.2 1 (by simp)).2
  have yR2 : w1.cell? ⟨(w.heap.size + 1), 2, none⟩ = some (.slice none 0 0) := (R5.out.2 2 (by simp)).1
  have zR2 : w1.frozen? ⟨(w.heap.size + 1), 2, none⟩ = false := (R5.out.2 2 (by simp)).2
  have yR3 : w1.cell? ⟨(w.heap.size + 1), 3, none⟩ = some (.slice none 0 0) := (R5.out.2 3 (by simp)).1
  have zR3 : w1.frozen? ⟨(w.heap.size + 1), 3, none⟩ = false := (R5.out.2 3 (by simp)).2
  have yR4 : w1.cell? ⟨(w.heap.size + 1), 4, none⟩ = some (.slice none 0 0) := (R5.out.2 4 (by simp)).1
  have zR4 : w1.frozen? ⟨(w.heap.size + 1), 4, none⟩ = false := (R5.out.2 4 (by simp)).2
  have hlR : (w.heap.size + 1) < w1.heap.size := R5.out.1
  have yO0 : w1.cell? ⟨(w.heap.size + 1 + 1), 0, none⟩ = some (.int .i64 0) := (O5.out.2 0 (by simp)).1
  have zO0 : w1.frozen? ⟨(w.heap.size + 1 + 1), 0, none⟩ = false := (O5.out.2 0 (by simp)).2
  have yO1 : w1.cell? ⟨(w.heap.size + 1 + 1), 1, none⟩ = some (.int .i64 0) := (O5.out.2 1 (by simp)).1
  have zO1 : w1.frozen? ⟨(w.heap.size + 1 + 1), 1, none⟩ = false := (O5.out.2 1 (by simp)).2
  have yO2 : w1.cell? ⟨(w.heap.size + 1 + 1), 2, none⟩ = some (.slice none 0 0) := (O5.out.2 2 (by simp)).1
  have zO2 : w1.frozen? ⟨(w.heap.size + 1 + 1), 2, none⟩ = false := (O5.out.2 2 (by simp)).2
  have yO3 : w1.cell? ⟨(w.heap.size + 1 + 1), 3, none⟩ = some (.slice none 0 0) := (O5.out.2 3 (by simp)).1
  have zO3 : w1.frozen? ⟨(w.heap.size + 1 + 1), 3, none⟩ = false := (O5.out.2 3 (by simp)).2
  have yO4 : w1.cell? ⟨(w.heap.size + 1 + 1), 4, none⟩ = some (.slice none 0 0) := (O5.out.2 4 (by simp)).1
  have zO4 : w1.frozen? ⟨(w.heap.size + 1 + 1), 4, none⟩ = false := (O5.out.2 4 (by simp)).2
  have hlO : (w.heap.size + 1 + 1) < w1.heap.size := O5.out.1
  go_wp2_with fail
  clear yA0 zA0 yA1 zA1 yA2 zA2 yA3 zA3 yA4 zA4 hlA yR0 zR0 yR1 zR1 yR2 zR2 yR3 zR3 yR4 zR4 hlR yO0 zO0 yO1 zO1 yO2 zO2 yO3 zO3 yO4 zO4 hlO
  obtain ⟨w15, ee⟩ : ∃ y, y = ((w1.setCell ⟨w.heap.size + 1 + 1, 0, none⟩ (.int .i64 c)).setCell ⟨w.heap.size + 1 + 1, 1, none⟩ (.int .i64 d)) := ⟨_, rfl⟩
  rw [← ee]
  have hz0 := O5.out.1
  have B6 : Hid (Below w.heap.size w w15) := by rw [ee]; exact ((B5.out.setCell (by show w.heap.size ≤ w.heap.size + 1 + 1; omega) _).setCell (by show w.heap.size ≤ w.heap.size + 1 + 1; omega) _)
  have A6 : Hid (Bk w15 w.heap.size [.int .i64 c, .int .i64 d, .slice aW nW kW, .slice aG nG kG, .slice aA nA kA]) := by rw [ee]; exact ((A5.out.far (by omega)).far (by omega))
  have R6 : Hid (Bk w15 (w.heap.size + 1) [.int .i64 0, .int .i64 0, .slice none 0 0, .slice none 0 0, .slice none 0 0]) := by rw [ee]; exact ((R5.out.far (by omega)).far (by omega))
  have O6 : Hid (Bk w15 (w.heap.size + 1 + 1) [.int .i64 c, .int .i64 d, .slice none 0 0, .slice none 0 0, .slice none 0 0]) := by rw [ee]; exact (Bk.set (j := 1) (v := .int .i64 d) (Bk.set (j := 0) (v := .int .i64 c) O5.out (by simp)) (by simp))
  clear B5 A5 R5 O5
  clear ee hz0
  refine (P6.toList_any aW nW kW Z sW _ (P6.row_below HW.out B6.out)).mono ?_
  rintro e w2 ⟨rfl, ho, hz1, hb⟩
  obtain ⟨b1, eb⟩ : ∃ b, b = w15.heap.size := ⟨_, rfl⟩
  rw [← eb] at ho hz1 ⊢
  have zz1 : w15.heap.size ≤ b1 := by omega
  have hw1 : w.heap.size + 1 + 1 < b1 := Nat.lt_of_lt_of_le O6.out.1 zz1
  clear eb
  have B7 : Hid (Below w.heap.size w w2) := bthen B6.out hb
  have A7 : Hid (Bk w2 w.heap.size [.int .i64 c, .int .i64 d, .slice aW nW kW, .slice aG nG kG, .slice aA nA kA]) := A6.out.below hb
  have R7 : Hid (Bk w2 (w.heap.size + 1) [.int .i64 0, .int .i64 0, .slice none 0 0, .slice none 0 0, .slice none 0 0]) := R6.out.below hb
  have O7 : Hid (Bk w2 (w.heap.size + 1 + 1) [.int .i64 c, .int .i64 d, .slice none 0 0, .slice none 0 0, .slice none 0 0]) := O6.out.below hb
  clear B6 A6 R6 O6
  have Q18 : Hid (b1 < w2.heap.size ∧ P6.OwnK w2 b1 nW Z nW) := ⟨hz1, ho⟩
  clear ho hb
  clear hz1 zz1
  have yA0 : w2.cell? ⟨w.heap.size, 0, none⟩ = some (.int .i64 c) := (A7.out.2 0 (by simp)).1
  have zA0 : w2.frozen? ⟨w.heap.size, 0, none⟩ = false := (A7.out.2 0 (by simp)).2
  have yA1 : w2.cell? ⟨w.heap.size, 1, none⟩ = some (.int .i64 d) := (A7.out.2 1 (by simp)).1
  have zA1 : w2.frozen? ⟨w.heap.size, 1, none⟩ = false := (A7.out.2 1 (by simp)).2
  have yA2 : w2.cell? ⟨w.heap.size, 2, none⟩ = some (.slice aW nW kW) := (A7.out.2 2 (by simp)).1
  have zA2 : w2.frozen? ⟨w.heap.size, 2, none⟩ = false := (A7.out.2 2 (by simp)).2
  have yA3 : w2.cell? ⟨w.heap.size, 3, none⟩ = some (.slice aG nG kG) := (A7.out.2 3 (by simp)).1
  have zA3 : w2.frozen? ⟨w.heap.size, 3, none⟩ = false := (A7.out.2 3 (by simp)).2
  have yA4 : w2.cell? ⟨w.heap.size, 4, none⟩ = some (.slice aA nA kA) := (A7.out.2 4 (by simp)).1
  have zA4 : w2.frozen? ⟨w.heap.size, 4, none⟩ = false := (A7.out.2 4 (by simp)).2
  have hlA : w.heap.size < w2.heap.size := A7.out.1
  have yR0 : w2.cell? ⟨(w.heap.size + 1), 0, none⟩ = some (.int .i64 0) := (R7.out.2 0 (by simp)).1
  have zR0 : w2.frozen? ⟨(w.heap.size + 1), 0, none⟩ = false := (R7.out.2 0 (by simp)).2
  have yR1 : w2.cell? ⟨(w.heap.size + 1), 1, none⟩ = some (.int .i64 0) := (R7.out.2 1 (by simp)).1
  have zR1 : w2.frozen? ⟨(w.heap.size + 1), 1, none⟩ = false := (R7.out.2 1 (by simp)).2
  have yR2 : w2.cell? ⟨(w.heap.size + 1), 2, none⟩ = some (.slice none 0 0) := (R7.out.2 2 (by simp)).1
  have zR2 : w2.frozen? ⟨(w.heap.size + 1), 2, none⟩ = false := (R7.out.2 2 (by simp)).2
  have yR3 : w2.cell? ⟨(w.heap.size + 1), 3, none⟩ = some (.slice none 0 0) := (R7.out.2 3 (by simp)).1
  have zR3 : w2.frozen? ⟨(w.heap.size + 1), 3, none⟩ = false := (R7.out.2 3 (by simp)).2
  have yR4 : w2.cell? ⟨(w.heap.size + 1), 4, none⟩ = some (.slice none 0 0) := (R7.out.2 4 (by simp)).1
  have zR4 : w2.frozen? ⟨(w.heap.size + 1), 4, none⟩ = false := (R7.out.2 4 (by simp)).2
  have hlR : (w.heap.size + 1) < w2.heap.size := R7.out.1
  have yO0 : w2.cell? ⟨(w.heap.size + 1 + 1), 0, none⟩ = some (.int .i64 c) := (O7.out.2 0 (by simp)).1
  have zO0 : w2.frozen? ⟨(w.heap.size + 1 + 1), 0, none⟩ = false := (O7.out.2 0 (by simp)).2
  have yO1 : w2.cell? ⟨(w.heap.size + 1 + 1), 1, none⟩ = some (.int .i64 d) := (O7.out.2 1 (by simp)).1
  have zO1 : w2.frozen? ⟨(w.heap.size + 1 + 1), 1, none⟩ = false := (O7.out.2 1 (by simp)).2
  have yO2 : w2.cell? ⟨(w.heap.size + 1 + 1), 2, none⟩ = some (.slice none 0 0) := (O7.out.2 2 (by simp)).1
  have zO2 : w2.frozen? ⟨(w.heap.size + 1 + 1), 2, none⟩ = false := (O7.out.2 2 (by simp)).2
  have yO3 : w2.cell? ⟨(w.heap.size + 1 + 1), 3, none⟩ = some (.slice none 0 0) := (O7.out.2 3 (by simp)).1
  have zO3 : w2.frozen? ⟨(w.heap.size + 1 + 1), 3, none⟩ = false := (O7.out.2 3 (by simp)).2
  have yO4 : w2.cell? ⟨(w.heap.size + 1 + 1), 4, none⟩ = some (.slice none 0 0) := (O7.out.2 4 (by simp)).1
  have zO4 : w2.frozen? ⟨(w.heap.size + 1 + 1), 4, none⟩ = false := (O7.out.2 4 (by simp)).2
  have hlO : (w.heap.size + 1 + 1) < w2.heap.size := O7.out.1
  go_wp2_with fail
  clear yA0 zA0 yA1 zA1 yA2 zA2 yA3 zA3 yA4 zA4 hlA yR0 zR0 yR1 zR1 yR2 zR2 yR3 zR3 yR4 zR4 hlR yO0 zO0 yO1 zO1 yO2 zO2 yO3 zO3 yO4 zO4 hlO
  obtain ⟨w25, ee⟩ : ∃ y, y = (w2.setCell ⟨w.heap.size + 1 + 1, 2, none⟩ (.slice (some ⟨b1, 0, none⟩) nW nW)) := ⟨_, rfl⟩
  rw [← ee]
  have hz0 := O7.out.1
  have B9 : Hid (Below w.heap.size w w25) := by rw [ee]; exact (B7.out.setCell (by show w.heap.size ≤ w.heap.size + 1 + 1; omega) _)
  have A9 : Hid (Bk w25 w.heap.size [.int .i64 c, .int .i64 d, .slice aW nW kW, .slice aG nG kG, .slice aA nA kA]) := by rw [ee]; exact (A7.out.far (by omega))
  have R9 : Hid (Bk w25 (w.heap.size + 1) [.int .i64 0, .int .i64 0, .slice none 0 0, .slice none 0 0, .slice none 0 0]) := by rw [ee]; exact (R7.out.far (by omega))
  have O9 : Hid (Bk w25 (w.heap.size + 1 + 1) [.int .i64 c, .int .i64 d, .slice (some ⟨b1, 0, none⟩) nW nW, .slice none 0 0, .slice none 0 0]) := by rw [ee]; exact (Bk.set (j := 2) (v := .slice (some ⟨b1, 0, none⟩) nW nW) O7.out (by simp))
  have Q19 : Hid (b1 < w25.heap.size ∧ P6.OwnK w25 b1 nW Z nW) := by rw [ee]; exact ⟨by simpa [World.setCell] using Q18.out.1, (P6.ownK_sm Q18.out.2 (smf (by omega)))⟩
  clear B7 A7 R7 O7 Q18
  clear ee hz0
  refine (toInts aG nG kG G sG _ (row1_below HG.out B9.out)).mono ?_
  rintro e w3 ⟨rfl, ho, hz2, hb⟩
  obtain ⟨b2, eb⟩ : ∃ b, b = w25.heap.size := ⟨_, rfl⟩
  rw [← eb] at ho hz2 ⊢
  have zz2 : w25.heap.size ≤ b2 := by omega
  have hw2 : w.heap.size + 1 + 1 < b2 := Nat.lt_of_lt_of_le O9.out.1 zz2
  have hy12 : b1 < b2 := Nat.lt_of_lt_of_le Q19.out.1 zz2
  clear eb
  have B10 : Hid (Below w.heap.size w w3) := bthen B9.out hb
  have A10 : Hid (Bk w3 w.heap.size [.int .i64 c, .int .i64 d, .slice aW nW kW, .slice aG nG kG, .slice aA nA kA]) := A9.out.below hb
  have R10 : Hid (Bk w3 (w.heap.size + 1) [.int .i64 0, .int .i64 0, .slice none 0 0, .slice none 0 0, .slice none 0 0]) := R9.out.below hb
  have O10 : Hid (Bk w3 (w.heap.size + 1 + 1) [.int .i64 c, .int .i64 d, .slice (some ⟨b1, 0, none⟩) nW nW, .slice none 0 0, .slice none 0 0]) := O9.out.below hb
  have Q110 : Hid (b1 < w3.heap.size ∧ P6.OwnK w3 b1 nW Z nW) := ⟨Nat.lt_of_lt_of_le Q19.out.1 hb.size, P6.own_below Q19.out.2 Q19.out.1 hb⟩
  clear B9 A9 R9 O9 Q19
  have Q211 : Hid (b2 < w3.heap.size ∧ Own1 w3 b2 nG G nG) := ⟨hz2, ho⟩
  clear ho hb
  clear hz2 zz2
  have yA0 : w3.cell? ⟨w.heap.size, 0, none⟩ = some (.int .i64 c) := (A10.out.2 0 (by simp)).1
  have zA0 : w3.frozen? ⟨w.heap.size, 0, none⟩ = false := (A10.out.2 0 (by simp)).2
  have yA1 : w3.cell? ⟨w.heap.size, 1, none⟩ = some (.int .i64 d) := (A10.out.2 1 (by simp)).1
  have zA1 : w3.frozen? ⟨w.heap.size, 1, none⟩ = false := (A10.out.2 1 (by simp)).2
  have yA2 : w3.cell? ⟨w.heap.size, 2, none⟩ = some (.slice aW nW kW) := (A10.out.2 2 (by simp)).1
  have zA2 : w3.frozen? ⟨w.heap.size, 2, none⟩ = false := (A10.out.2 2 (by simp)).2
  have yA3 : w3.cell? ⟨w.heap.size, 3, none⟩ = some (.slice aG nG kG) := (A10.out.2 3 (by simp)).1
  have zA3 : w3.frozen? ⟨w.heap.size, 3, none⟩ = false := (A10.out.2 3 (by simp)).2
  have yA4 : w3.cell? ⟨w.heap.size, 4, none⟩ = some (.slice aA nA kA) := (A10.out.2 4 (by simp)).1
  have zA4 : w3.frozen? ⟨w.heap.size, 4, none⟩ = false := (A10.out.2 4 (by simp)).2
  have hlA : w.heap.size < w3.heap.size := A10.out.1
  have yR0 : w3.cell? ⟨(w.heap.size + 1), 0, none⟩ = some (.int .i64 0) := (R10.out.2 0 (by simp)).1
  have zR0 : w3.frozen? ⟨(w.heap.size + 1), 0, none⟩ = false := (R10.out.2 0 (by simp)).2
  have yR1 : w3.cell? ⟨(w.heap.size + 1), 1, none⟩ = some (.int .i64 0) := (R10.out.2 1 (by simp)).1
  have zR1 : w3.frozen? ⟨(w.heap.size + 1), 1, none⟩ = false := (R10.out.2 1 (by simp)).2
  have yR2 : w3.cell? ⟨(w.heap.size + 1), 2, none⟩ = some (.slice none 0 0) := (R10.out.2 2 (by simp)).1
  have zR2 : w3.frozen? ⟨(w.heap.size + 1), 2, none⟩ = false := (R10.out.2 2 (by simp)).2
  have yR3 : w3.cell? ⟨(w.heap.size + 1), 3, none⟩ = some (.slice none 0 0) := (R10.out.2 3 (by simp)).1
  have zR3 : w3.frozen? ⟨(w.heap.size + 1), 3, none⟩ = false := (R10.out.2 3 (by simp)).2
  have yR4 : w3.cell? ⟨(w.heap.size + 1), 4, none⟩ = some (.slice none 0 0) := (R10.out.2 4 (by simp)).1
  have zR4 : w3.frozen? ⟨(w.heap.size + 1), 4, none⟩ = false := (R10.out.2 4 (by simp)).2
  have hlR : (w.heap.size + 1) < w3.heap.size := R10.out.1
  have yO0 : w3.cell? ⟨(w.heap.size + 1 + 1), 0, none⟩ = some (.int .i64 c) := (O10.out.2 0 (by simp)).1
  have zO0 : w3.frozen? ⟨(w.heap.size + 1 + 1), 0, none⟩ = false := (O10.out.2 0 (by simp)).2
  have yO1 : w3.cell? ⟨(w.heap.size + 1 + 1), 1, none⟩ = some (.int .i64 d) := (O10.out.2 1 (by simp)).1
  have zO1 : w3.frozen? ⟨(w.heap.size + 1 + 1), 1, none⟩ = false := (O10.out.2 1 (by simp)).2
  have yO2 : w3.cell? ⟨(w.heap.size + 1 + 1), 2, none⟩ = some (.slice (some ⟨b1, 0, none⟩) nW nW) := (O10.out.2 2 (by simp)).1
  have zO2 : w3.frozen? ⟨(w.heap.size + 1 + 1), 2, none⟩ = false := (O10.out.2 2 (by simp)).2
  have yO3 : w3.cell? ⟨(w.heap.size + 1 + 1), 3, none⟩ = some (.slice none 0 0) := (O10.out.2 3 (by simp)).1
  have zO3 : w3.frozen? ⟨(w.heap.size + 1 + 1), 3, none⟩ = false := (O10.out.2 3 (by simp)).2
  have yO4 : w3.cell? ⟨(w.heap.size + 1 + 1), 4, none⟩ = some (.slice none 0 0) := (O10.out.2 4 (by simp)).1
  have zO4 : w3.frozen? ⟨(w.heap.size + 1 + 1), 4, none⟩ = false := (O10.out.2 4 (by simp)).2
  have hlO : (w.heap.size + 1 + 1) < w3.heap.size := O10.out.1
  go_wp2_with fail
  clear yA0 zA0 yA1 zA1 yA2 zA2 yA3 zA3 yA4 zA4 hlA yR0 zR0 yR1 zR1 yR2 zR2 yR3 zR3 yR4 zR4 hlR yO0 zO0 yO1 zO1 yO2 zO2 yO3 zO3 yO4 zO4 hlO
  obtain ⟨w35, ee⟩ : ∃ y, y = (w3.setCell ⟨w.heap.size + 1 + 1, 3, none⟩ (.slice (some ⟨b2, 0, none⟩) nG nG)) := ⟨_, rfl⟩
  rw [← ee]
  have hz0 := O10.out.1
  have B12 : Hid (Below w.heap.size w w35) := by rw [ee]; exact (B10.out.setCell (by show w.heap.size ≤ w.heap.size + 1 + 1; omega) _)
  have A12 : Hid (Bk w35 w.heap.size [.int .i64 c, .int .i64 d, .slice aW nW kW, .slice aG nG kG, .slice aA nA kA]) := by rw [ee]; exact (A10.out.far (by omega))
  have R12 : Hid (Bk w35 (w.heap.size + 1) [.int .i64 0, .int .i64 0, .slice none 0 0, .slice none 0 0, .slice none 0 0]) := by rw [ee]; exact (R10.out.far (by omega))
  have O12 : Hid (Bk w35 (w.heap.size + 1 + 1) [.int .i64 c, .int .i64 d, .slice (some ⟨b1, 0, none⟩) nW nW, .slice (some ⟨b2, 0, none⟩) nG nG, .slice none 0 0]) := by rw [ee]; exact (Bk.set (j := 3) (v := .slice (some ⟨b2, 0, none⟩) nG nG) O10.out (by simp))
  have Q112 : Hid (b1 < w35.heap.size ∧ P6.OwnK w35 b1 nW Z nW) := by rw [ee]; exact ⟨by simpa [World.setCell] using Q110.out.1, (P6.ownK_sm Q110.out.2 (smf (by omega)))⟩
  have Q212 : Hid (b2 < w35.heap.size ∧ Own1 w35 b2 nG G nG) := by rw [ee]; exact ⟨by simpa [World.setCell] using Q211.out.1, (own1_sm Q211.out.2 (smf (by omega)))⟩
  clear B10 A10 R10 O10 Q110 Q211
  clear ee hz0
  refine (toOuts aA nA kA N O sA HN.out _ (rowO_below HA.out B12.out)).mono ?_
  rintro e w4 ⟨rfl, ho, hz3, hb⟩
  obtain ⟨b3, eb⟩ : ∃ b, b = w35.heap.size := ⟨_, rfl⟩
  rw [← eb] at ho hz3 ⊢
  have zz3 : w35.heap.size ≤ b3 := by omega
  have hw3 : w.heap.size + 1 + 1 < b3 := Nat.lt_of_lt_of_le O12.out.1 zz3
  have hy13 : b1 < b3 := Nat.lt_of_lt_of_le Q112.out.1 zz3
  have hy23 : b2 < b3 := Nat.lt_of_lt_of_le Q212.out.1 zz3
  clear eb
  have B13 : Hid (Below w.heap.size w w4) := bthen B12.out hb
  have A13 : Hid (Bk w4 w.heap.size [.int .i64 c, .int .i64 d, .slice aW nW kW, .slice aG nG kG, .slice aA nA kA]) := A12.out.below hb
  have R13 : Hid (Bk w4 (w.heap.size + 1) [.int .i64 0, .int .i64 0, .slice none 0 0, .slice none 0 0, .slice none 0 0]) := R12.out.below hb
  have O13 : Hid (Bk w4 (w.heap.size + 1 + 1) [.int .i64 c, .int .i64 d, .slice (some ⟨b1, 0, none⟩) nW nW, .slice (some ⟨b2, 0, none⟩) nG nG, .slice none 0 0]) := O12.out.below hb
  have Q113 : Hid (b1 < w4.heap.size ∧ P6.OwnK w4 b1 nW Z nW) := ⟨Nat.lt_of_lt_of_le Q112.out.1 hb.size, P6.own_below Q112.out.2 Q112.out.1 hb⟩
  have Q213 : Hid (b2 < w4.heap.size ∧ Own1 w4 b2 nG G nG) := ⟨Nat.lt_of_lt_of_le Q212.out.1 hb.size, own1_below Q212.out.2 Q212.out.1 hb⟩
  clear B12 A12 R12 O12 Q112 Q212
  have Q314 : Hid (b3 < w4.heap.size ∧ OwnO w4 b3 nA N O nA) := ⟨hz3, ho⟩
  clear ho hb
  clear hz3 zz3
  have yA0 : w4.cell? ⟨w.heap.size, 0, none⟩ = some (.int .i64 c) := (A13.out.2 0 (by simp)).1
  have zA0 : w4.frozen? ⟨w.heap.size, 0, none⟩ = false := (A13.out.2 0 (by simp)).2
  have yA1 : w4.cell? ⟨w.heap.size, 1, none⟩ = some (.int .i64 d) := (A13.out.2 1 (by simp)).1
  have zA1 : w4.frozen? ⟨w.heap.size, 1, none⟩ = false := (A13.out.2 1 (by simp)).2
  have yA2 : w4.cell? ⟨w.heap.size, 2, none⟩ = some (.slice aW nW kW) := (A13.out.2 2 (by simp)).1
  have zA2 : w4.frozen? ⟨w.heap.size, 2, none⟩ = false := (A13.out.2 2 (by simp)).2
  have yA3 : w4.cell? ⟨w.heap.size, 3, none⟩ = some (.slice aG nG kG) := (A13.out.2 3 (by simp)).1
  have zA3 : w4.frozen? ⟨w.heap.size, 3, none⟩ = false := (A13.out.2 3 (by simp)).2
  have yA4 : w4.cell? ⟨w.heap.size, 4, none⟩ = some (.slice aA nA kA) := (A13.out.2 4 (by simp)).1
  have zA4 : w4.frozen? ⟨w.heap.size, 4, none⟩ = false := (A13.out.2 4 (by simp)).2
  have hlA : w.heap.size < w4.heap.size := A13.out.1
  have yR0 : w4.cell? ⟨(w.heap.size + 1), 0, none⟩ = some (.int .i64 0) := (R13.out.2 0 (by simp)).1
  have zR0 : w4.frozen? ⟨(w.heap.size + 1), 0, none⟩ = false := (R13.out.2 0 (by simp)).2
  have yR1 : w4.cell? ⟨(w.heap.size + 1), 1, none⟩ = some (.int .i64 0) := (R13.out.2 1 (by simp)).1
  have zR1 : w4.frozen? ⟨(w.heap.size + 1), 1, none⟩ = false := (R13.out.2 1 (by simp)).2
  have yR2 : w4.cell? ⟨(w.heap.size + 1), 2, none⟩ = some (.slice none 0 0) := (R13.out.2 2 (by simp)).1
  have zR2 : w4.frozen? ⟨(w.heap.size + 1), 2, none⟩ = false := (R13.out.2 2 (by simp)).2
  have yR3 : w4.cell? ⟨(w.heap.size + 1), 3, none⟩ = some (.slice none 0 0) := (R13.out.2 3 (by simp)).1
  have zR3 : w4.frozen? ⟨(w.heap.size + 1), 3, none⟩ = false := (R13.out.2 3 (by simp)).2
  have yR4 : w4.cell? ⟨(w.heap.size + 1), 4, none⟩ = some (.slice none 0 0) := (R13.out.2 4 (by simp)).1
  have zR4 : w4.frozen? ⟨(w.heap.size + 1), 4, none⟩ = false := (R13.out.2 4 (by simp)).2
  have hlR : (w.heap.size + 1) < w4.heap.size := R13.out.1
  have yO0 : w4.cell? ⟨(w.heap.size + 1 + 1), 0, none⟩ = some (.int .i64 c) := (O13.out.2 0 (by simp)).1
  have zO0 : w4.frozen? ⟨(w.heap.size + 1 + 1), 0, none⟩ = false := (O13.out.2 0 (by simp)).2
  have yO1 : w4.cell? ⟨(w.heap.size + 1 + 1), 1, none⟩ = some (.int .i64 d) := (O13.out.2 1 (by simp)).1
  have zO1 : w4.frozen? ⟨(w.heap.size + 1 + 1), 1, none⟩ = false := (O13.out.2 1 (by simp)).2
  have yO2 : w4.cell? ⟨(w.heap.size + 1 + 1), 2, none⟩ = some (.slice (some ⟨b1, 0, none⟩) nW nW) := (O13.out.2 2 (by simp)).1
  have zO2 : w4.frozen? ⟨(w.heap.size + 1 + 1), 2, none⟩ = false := (O13.out.2 2 (by simp)).2
  have yO3 : w4.cell? ⟨(w.heap.size + 1 + 1), 3, none⟩ = some (.slice (some ⟨b2, 0, none⟩) nG nG) := (O13.out.2 3 (by simp)).1
  have zO3 : w4.frozen? ⟨(w.heap.size + 1 + 1), 3, none⟩ = false := (O13.out.2 3 (by simp)).2
  have yO4 : w4.cell? ⟨(w.heap.size + 1 + 1), 4, none⟩ = some (.slice none 0 0) := (O13.out.2 4 (by simp)).1
  have zO4 : w4.frozen? ⟨(w.heap.size + 1 + 1), 4, none⟩ = false := (O13.out.2 4 (by simp)).2
  have hlO : (w.heap.size + 1 + 1) < w4.heap.size := O13.out.1
  go_wp2
  refine bodyPost_ret (v := .agg #[.int .i64 c, .int .i64 d, .slice (some ⟨b1, 0, none⟩) nW nW, .slice (some ⟨b2, 0, none⟩) nG nG, .slice (some ⟨b3, 0, none⟩) nA nA]) (P6.results_mid (P := Try.prog) (fn := Try.f9) Try.results9 _ _ (w.heap.size + 1) [.int .i64 c, .int .i64 d, .slice (some ⟨b1, 0, none⟩) nW nW, .slice (some ⟨b2, 0, none⟩) nG nG, .slice (some ⟨b3, 0, none⟩) nA nA] _ rfl (P6.Bk.range (Bk.set (j := 4) (v := .slice (some ⟨b3, 0, none⟩) nA nA) (Bk.set (j := 3) (v := .slice (some ⟨b2, 0, none⟩) nG nG) (Bk.set (j := 2) (v := .slice (some ⟨b1, 0, none⟩) nW nW) (Bk.set (j := 1) (v := .int .i64 d) (Bk.set (j := 0) (v := .int .i64 c) (R13.out.far (by omega)) (by simp)) (by simp)) (by simp)) (by simp)) (by simp))) Try.underlying34 rfl (by kernel_rfl)) rfl ?_
  have hq3 := Q314.out.1
  refine ⟨⟨_, rfl, b1, b2, b3, by omega, hy12, hy23, by simpa [World.setCell] using hq3, rfl, (P6.ownK_sm (P6.ownK_sm (P6.ownK_sm (P6.ownK_sm (P6.ownK_sm (P6.ownK_sm Q113.out.2 (smf (by omega))) (smf (by omega))) (smf (by omega))) (smf (by omega))) (smf (by omega))) (smf (by omega))), (own1_sm (own1_sm (own1_sm (own1_sm (own1_sm (own1_sm Q213.out.2 (smf (by omega))) (smf (by omega))) (smf (by omega))) (smf (by omega))) (smf (by omega))) (smf (by omega))), (ownO_set (ownO_set (ownO_set (ownO_set (ownO_set (ownO_set Q314.out.2 (by omega)) (by omega)) (by omega)) (by omega)) (by omega)) (by omega))⟩, ((((((B13.out.setCell (by show w.heap.size ≤ w.heap.size + 1 + 1; omega) _).setCell (by show w.heap.size ≤ w.heap.size + 1; omega) _).setCell (by show w.heap.size ≤ w.heap.size + 1; omega) _).setCell (by show w.heap.size ≤ w.heap.size + 1; omega) _).setCell (by show w.heap.size ≤ w.heap.size + 1; omega) _).setCell (by show w.heap.size ≤ w.heap.size + 1; omega) _)⟩

set_option maxHeartbeats 2000000 in
theorem eqOne (v1 v2 : Value) (V : OV) (hs : V.short 2000000) (w : World) (h1 : OneAt w v1 V) (h2 : OneAt w v2 V) :
    Calls Try.prog 11 #[v1, v2] w fun e w' => e = .returned (.bool true) ∧ Below w.heap.size w w' := by
  obtain ⟨aW, kW, aG, kG, aA, kA, rfl, rW, rG, rA⟩ := h1
  obtain ⟨bW, lW, bG, lG, bA, lA, rfl, qW, qG, qA⟩ := h2
  obtain ⟨c, d, nW, Z, nG, G, nA, N, O⟩ := V
  simp only at rW rG rA qW qG qA
  obtain ⟨sW, sG, sA, sN⟩ := hs
  simp only at sW sG sA sN
  have HW : Hid (P6.RowK w aW nW Z ∧ P6.RowK w bW nW Z) := ⟨rW, qW⟩
  have HG : Hid (Row1 w aG nG G ∧ Row1 w bG nG G) := ⟨rG, qG⟩
  have HA : Hid (RowO w aA nA N O ∧ RowO w bA nA N O) := ⟨rA, qA⟩
  have HN : Hid (∀ k, k < nA → N k ≤ 2000000) := sN
  clear rW rG rA sN qW qG qA
  go_enter Try.func11, Try.ntmps11
  go_wp2_with fail
  obtain ⟨w0, e0⟩ : ∃ w0, w0 = (w.alloc (.cells #[.int .i64 c, .int .i64 d, .slice aW nW kW, .slice aG nG kG, .slice aA nA kA] 34)).alloc (.cells #[.int .i64 c, .int .i64 d, .slice bW nW lW, .slice bG nG lG, .slice bA nA lA] 34) := ⟨_, rfl⟩
  have B1 : Hid (Below w.heap.size w w0) := by rw [e0]; exact ((Below.refl _ _).alloc (by simp) _).alloc (by simp) _
  have A2 : Hid (Bk w0 w.heap.size [.int .i64 c, .int .i64 d, .slice aW nW kW, .slice aG nG kG, .slice aA nA kA]) := by rw [e0]; exact (bk_new w 34 [.int .i64 c, .int .i64 d, .slice aW nW kW, .slice aG nG kG, .slice aA nA kA]).below ((Below.refl _ _).alloc (Nat.le_refl _) _)
  have C3 : Hid (Bk w0 (w.heap.size + 1) [.int .i64 c, .int .i64 d, .slice bW nW lW, .slice bG nG lG, .slice bA nA lA]) := by rw [e0]; have := bk_new (w.alloc (.cells #[.int .i64 c, .int .i64 d, .slice aW nW kW, .slice aG nG kG, .slice aA nA kA] 34)) 34 [.int .i64 c, .int .i64 d, .slice bW nW lW, .slice bG nG lG, .slice bA nA lA]; rwa [show (w.alloc (.cells #[.int .i64 c, .int .i64 d, .slice aW nW kW, .slice aG nG kG, .slice aA nA kA] 34)).heap.size = w.heap.size + 1 by simp] at this
  rw [← e0]
  clear e0
  refine (eqMap _ _ _).mono ?_
  rintro e w1 ⟨rfl, hb1⟩
  have B4 : Hid (Below w.heap.size w w1) := bthen B1.out hb1
  have A4 : Hid (Bk w1 w.heap.size [.int .i64 c, .int .i64 d, .slice aW nW kW, .slice aG nG kG, .slice aA nA kA]) := A2.out.below hb1
  have C4 : Hid (Bk w1 (w.heap.size + 1) [.int .i64 c, .int .i64 d, .slice bW nW lW, .slice bG nG lG, .slice bA nA lA]) := C3.out.below hb1
  clear B1 A2 C3
  clear hb1
  have yA0 : w1.cell? ⟨w.heap.size, 0, none⟩ = some (.int .i64 c) := (A4.out.2 0 (by simp)).1
  have yA1 : w1.cell? ⟨w.heap.size, 1, none⟩ = some (.int .i64 d) := (A4.out.2 1 (by simp)).1
  have yA2 : w1.cell? ⟨w.heap.size, 2, none⟩ = some (.slice aW nW kW) := (A4.out.2 2 (by simp)).1
  have yA3 : w1.cell? ⟨w.heap.size, 3, none⟩ = some (.slice aG nG kG) := (A4.out.2 3 (by simp)).1
  have yA4 : w1.cell? ⟨w.heap.size, 4, none⟩ = some (.slice aA nA kA) := (A4.out.2 4 (by simp)).1
  have hlA : w.heap.size < w1.heap.size := A4.out.1
  have yC0 : w1.cell? ⟨(w.heap.size + 1), 0, none⟩ = some (.int .i64 c) := (C4.out.2 0 (by simp)).1
  have yC1 : w1.cell? ⟨(w.heap.size + 1), 1, none⟩ = some (.int .i64 d) := (C4.out.2 1 (by simp)).1
  have yC2 : w1.cell? ⟨(w.heap.size + 1), 2, none⟩ = some (.slice bW nW lW) := (C4.out.2 2 (by simp)).1
  have yC3 : w1.cell? ⟨(w.heap.size + 1), 3, none⟩ = some (.slice bG nG lG) := (C4.out.2 3 (by simp)).1
  have yC4 : w1.cell? ⟨(w.heap.size + 1), 4, none⟩ = some (.slice bA nA lA) := (C4.out.2 4 (by simp)).1
  have hlC : (w.heap.size + 1) < w1.heap.size := C4.out.1
  go_wp2_with fail
  refine (P6.eqList aW kW bW lW nW Z sW _ (P6.row_below HW.out.1 B4.out) (P6.row_below HW.out.2 B4.out)).mono ?_
  rintro e w2 ⟨rfl, hb2⟩
  clear yA0 yA1 yA2 yA3 yA4 hlA yC0 yC1 yC2 yC3 yC4 hlC
  have B5 : Hid (Below w.heap.size w w2) := bthen B4.out hb2
  have A5 : Hid (Bk w2 w.heap.size [.int .i64 c, .int .i64 d, .slice aW nW kW, .slice aG nG kG, .slice aA nA kA]) := A4.out.below hb2
  have C5 : Hid (Bk w2 (w.heap.size + 1) [.int .i64 c, .int .i64 d, .slice bW nW lW, .slice bG nG lG, .slice bA nA lA]) := C4.out.below hb2
  clear B4 A4 C4
  clear hb2
  have yA0 : w2.cell? ⟨w.heap.size, 0, none⟩ = some (.int .i64 c) := (A5.out.2 0 (by simp)).1
  have yA1 : w2.cell? ⟨w.heap.size, 1, none⟩ = some (.int .i64 d) := (A5.out.2 1 (by simp)).1
  have yA2 : w2.cell? ⟨w.heap.size, 2, none⟩ = some (.slice aW nW kW) := (A5.out.2 2 (by simp)).1
  have yA3 : w2.cell? ⟨w.heap.size, 3, none⟩ = some (.slice aG nG kG) := (A5.out.2 3 (by simp)).1
  have yA4 : w2.cell? ⟨w.heap.size, 4, none⟩ = some (.slice aA nA kA) := (A5.out.2 4 (by simp)).1
  have hlA : w.heap.size < w2.heap.size := A5.out.1
  have yC0 : w2.cell? ⟨(w.heap.size + 1), 0, none⟩ = some (.int .i64 c) := (C5.out.2 0 (by simp)).1
  have yC1 : w2.cell? ⟨(w.heap.size + 1), 1, none⟩ = some (.int .i64 d) := (C5.out.2 1 (by simp)).1
  have yC2 : w2.cell? ⟨(w.heap.size + 1), 2, none⟩ = some (.slice bW nW lW) := (C5.out.2 2 (by simp)).1
  have yC3 : w2.cell? ⟨(w.heap.size + 1), 3, none⟩ = some (.slice bG nG lG) := (C5.out.2 3 (by simp)).1
  have yC4 : w2.cell? ⟨(w.heap.size + 1), 4, none⟩ = some (.slice bA nA lA) := (C5.out.2 4 (by simp)).1
  have hlC : (w.heap.size + 1) < w2.heap.size := C5.out.1
  go_wp2_with fail
  refine (eqInts aG bG nG kG lG G sG _ (row1_below HG.out.1 B5.out) (row1_below HG.out.2 B5.out)).mono ?_
  rintro e w3 ⟨rfl, hb3⟩
  clear yA0 yA1 yA2 yA3 yA4 hlA yC0 yC1 yC2 yC3 yC4 hlC
  have B6 : Hid (Below w.heap.size w w3) := bthen B5.out hb3
  have A6 : Hid (Bk w3 w.heap.size [.int .i64 c, .int .i64 d, .slice aW nW kW, .slice aG nG kG, .slice aA nA kA]) := A5.out.below hb3
  have C6 : Hid (Bk w3 (w.heap.size + 1) [.int .i64 c, .int .i64 d, .slice bW nW lW, .slice bG nG lG, .slice bA nA lA]) := C5.out.below hb3
  clear B5 A5 C5
  clear hb3
  have yA0 : w3.cell? ⟨w.heap.size, 0, none⟩ = some (.int .i64 c) := (A6.out.2 0 (by simp)).1
  have yA1 : w3.cell? ⟨w.heap.size, 1, none⟩ = some (.int .i64 d) := (A6.out.2 1 (by simp)).1
  have yA2 : w3.cell? ⟨w.heap.size, 2, none⟩ = some (.slice aW nW kW) := (A6.out.2 2 (by simp)).1
  have yA3 : w3.cell? ⟨w.heap.size, 3, none⟩ = some (.slice aG nG kG) := (A6.out.2 3 (by simp)).1
  have yA4 : w3.cell? ⟨w.heap.size, 4, none⟩ = some (.slice aA nA kA) := (A6.out.2 4 (by simp)).1
  have hlA : w.heap.size < w3.heap.size := A6.out.1
  have yC0 : w3.cell? ⟨(w.heap.size + 1), 0, none⟩ = some (.int .i64 c) := (C6.out.2 0 (by simp)).1
  have yC1 : w3.cell? ⟨(w.heap.size + 1), 1, none⟩ = some (.int .i64 d) := (C6.out.2 1 (by simp)).1
  have yC2 : w3.cell? ⟨(w.heap.size + 1), 2, none⟩ = some (.slice bW nW lW) := (C6.out.2 2 (by simp)).1
  have yC3 : w3.cell? ⟨(w.heap.size + 1), 3, none⟩ = some (.slice bG nG lG) := (C6.out.2 3 (by simp)).1
  have yC4 : w3.cell? ⟨(w.heap.size + 1), 4, none⟩ = some (.slice bA nA lA) := (C6.out.2 4 (by simp)).1
  have hlC : (w.heap.size + 1) < w3.heap.size := C6.out.1
  go_wp2_with fail
  refine (eqOuts aA bA nA kA lA N O sA HN.out _ (rowO_below HA.out.1 B6.out) (rowO_below HA.out.2 B6.out)).mono ?_
  rintro e w4 ⟨rfl, hb4⟩
  clear yA0 yA1 yA2 yA3 yA4 hlA yC0 yC1 yC2 yC3 yC4 hlC
  have B7 : Hid (Below w.heap.size w w4) := bthen B6.out hb4
  have A7 : Hid (Bk w4 w.heap.size [.int .i64 c, .int .i64 d, .slice aW nW kW, .slice aG nG kG, .slice aA nA kA]) := A6.out.below hb4
  have C7 : Hid (Bk w4 (w.heap.size + 1) [.int .i64 c, .int .i64 d, .slice bW nW lW, .slice bG nG lG, .slice bA nA lA]) := C6.out.below hb4
  clear B6 A6 C6
  clear hb4
  go_wp2
  go_ret
  exact ⟨rfl, B7.out⟩
end Go.Proofs.Ytoickljpjlhkoaa
