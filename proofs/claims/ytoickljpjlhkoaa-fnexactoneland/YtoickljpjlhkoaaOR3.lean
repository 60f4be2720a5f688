/- The law FnExactOneLand; conditions: those typed. -/
import Derived.Test.YtoickljpjlhkoaaOR1
import Derived.Test.YtoickljpjlhkoaaOR2
import Derived.Test.YtoickljpjlhkoaaOO
namespace Go.Proofs.Ytoickljpjlhkoaa
open Go.RowKit Go.Deep
set_option linter.unusedVariables false


theorem OwnW.below {lo hi : Nat} {w w' : World} {v : Value} {V : OV} (h : OwnW lo hi w v V) (hb : Below w.heap.size w w') : OwnW lo hi w' v V := by
  obtain ⟨vW, vG, vA, gW, gG, gA, sl, xs, e, h1, h2, h3, h⟩ := h
  exact ⟨vW, vG, vA, gW, gG, gA, sl, xs, e, h1.below hb, h2.below hb, h3.below hb, h⟩
theorem OV.more {V : OV} (h : V.few) : V.short 2000000 := ⟨Nat.le_trans h.1.1 (by decide), Nat.le_trans h.1.2.1 (by decide), Nat.le_trans h.1.2.2.1 (by decide), fun k hk => Nat.le_trans (h.1.2.2.2 k hk) (by decide)⟩

theorem few_land {V : OV} {id : Int} (h : V.few) : (V.land id).few := by
  unfold OV.land
  split
  · exact h
  · exact ⟨⟨Nat.zero_le _, Nat.zero_le _, Nat.zero_le _, fun k hk => absurd hk (by simp [OV.none])⟩, by simp [OV.none, sumN]⟩

set_option maxRecDepth 100000 in
set_option maxHeartbeats 16000000 in
theorem law_oneLand (v : Value) (V : OV) (hs : V.short maxLen) (id : Int) (w : World) (h : OneAt w v V) :
    Calls Try.prog 4 #[v, .int .i64 id] w fun e w' => e = .returned (.bool true) ∧ Below w.heap.size w w' := by
  have H0 : Hid (OneAt w v V) := h
  have HS0 : Hid (V.short maxLen) := hs
  obtain ⟨aW, kW, aG, kG, aA, kA, rfl, _, _, _⟩ := h
  obtain ⟨c, d, nW, Z, nG, G, nA, N, O⟩ := V
  simp only at H0 HS0
  clear hs
  obtain ⟨U, eU⟩ : ∃ U, OV.land ⟨c, d, nW, Z, nG, G, nA, N, O⟩ id = U := ⟨_, rfl⟩
  have EU : Hid (OV.land ⟨c, d, nW, Z, nG, G, nA, N, O⟩ id = U) := eU
  clear eU
  go_enter Try.func4, Try.ntmps4
  go_wp2_with fail
  obtain ⟨w0, e0⟩ : ∃ w0, w0 = w.alloc (.cells #[.int .i64 c, .int .i64 d, .slice aW nW kW, .slice aG nG kG, .slice aA nA kA] 28) := ⟨_, rfl⟩
  have B1 : Hid (Below w.heap.size w w0) := by rw [e0]; exact (Below.refl _ _).alloc (by simp) _
  have A2 : Hid (Bk w0 w.heap.size [.int .i64 c, .int .i64 d, .slice aW nW kW, .slice aG nG kG, .slice aA nA kA]) := by rw [e0]; exact bk_new w 28 [.int .i64 c, .int .i64 d, .slice aW nW kW, .slice aG nG kG, .slice aA nA kA]
  rw [← e0]
  clear e0
  have y0 : w.heap.size < w0.heap.size := A2.out.1
  refine (szOne _ ⟨c, d, nW, Z, nG, G, nA, N, O⟩ HS0.out _ (oneAt_below H0.out B1.out)).mono ?_
  rintro e w1 ⟨⟨r, rfl, hr⟩, hb1⟩
  have y_w1 : w0.heap.size ≤ w1.heap.size := hb1.size
  have B3 : Hid (Below w.heap.size w w1) := bthen B1.out hb1
  have A3 : Hid (Bk w1 w.heap.size [.int .i64 c, .int .i64 d, .slice aW nW kW, .slice aG nG kG, .slice aA nA kA]) := A2.out.below hb1
  clear B1 A2
  clear hb1
  rcases hr with hr | ⟨hr, hV⟩
  · go_wp2
    go_ret
    exact ⟨rfl, B3.out⟩
  have hr2 : ¬ r < 0 := by omega
  have HV : Hid (OV.few ⟨c, d, nW, Z, nG, G, nA, N, O⟩) := hV
  have HU : Hid (U.few) := by rw [← EU.out]; exact few_land hV
  clear hV
  have yA0 : w1.cell? ⟨w.heap.size, 0, none⟩ = some (.int .i64 c) := (A3.out.2 0 (by simp)).1
  have yA1 : w1.cell? ⟨w.heap.size, 1, none⟩ = some (.int .i64 d) := (A3.out.2 1 (by simp)).1
  have yA2 : w1.cell? ⟨w.heap.size, 2, none⟩ = some (.slice aW nW kW) := (A3.out.2 2 (by simp)).1
  have yA3 : w1.cell? ⟨w.heap.size, 3, none⟩ = some (.slice aG nG kG) := (A3.out.2 3 (by simp)).1
  have yA4 : w1.cell? ⟨w.heap.size, 4, none⟩ = some (.slice aA nA kA) := (A3.out.2 4 (by simp)).1
  have hlA : w.heap.size < w1.heap.size := A3.out.1
  go_wp2_with fail
  refine (toOne _ ⟨c, d, nW, Z, nG, G, nA, N, O⟩ HV.out.1 _ (oneAt_below H0.out B3.out)).mono ?_
  rintro e w2 ⟨⟨v1, rfl, hC⟩, hb⟩
  clear yA0 yA1 yA2 yA3 yA4 hlA
  have y_w2 : w1.heap.size ≤ w2.heap.size := hb.size
  have B4 : Hid (Below w.heap.size w w2) := bthen B3.out hb
  have A4 : Hid (Bk w2 w.heap.size [.int .i64 c, .int .i64 d, .slice aW nW kW, .slice aG nG kG, .slice aA nA kA]) := A3.out.below hb
  clear B3 A3
  clear hb
  have HC : Hid (CopyO _ w2 v1 ⟨c, d, nW, Z, nG, G, nA, N, O⟩) := hC
  clear hC
  have yA0 : w2.cell? ⟨w.heap.size, 0, none⟩ = some (.int .i64 c) := (A4.out.2 0 (by simp)).1
  have yA1 : w2.cell? ⟨w.heap.size, 1, none⟩ = some (.int .i64 d) := (A4.out.2 1 (by simp)).1
  have yA2 : w2.cell? ⟨w.heap.size, 2, none⟩ = some (.slice aW nW kW) := (A4.out.2 2 (by simp)).1
  have yA3 : w2.cell? ⟨w.heap.size, 3, none⟩ = some (.slice aG nG kG) := (A4.out.2 3 (by simp)).1
  have yA4 : w2.cell? ⟨w.heap.size, 4, none⟩ = some (.slice aA nA kA) := (A4.out.2 4 (by simp)).1
  have hlA : w.heap.size < w2.heap.size := A4.out.1
  go_wp2_with fail
  refine (oneLand_spec _ _ ⟨c, d, nW, Z, nG, G, nA, N, O⟩ id HV.out.1 _ HC.out).mono ?_
  rintro e w3 ⟨⟨u1, rfl, hO⟩, hb⟩
  rw [EU.out] at hO
  obtain ⟨a1W, k1W, a1G, k1G, a1A, k1A, rfl, _, _, _⟩ := hO.at
  obtain ⟨l1, el⟩ : ∃ l, l = w2.heap.size := ⟨_, rfl⟩
  obtain ⟨h1, eh⟩ : ∃ l, l = w3.heap.size := ⟨_, rfl⟩
  rw [← el, ← eh] at hO
  have el11 : l1 ≤ w2.heap.size := by omega
  have el12 : w2.heap.size ≤ l1 := by omega
  have eh11 : h1 ≤ w3.heap.size := by omega
  have eh12 : w3.heap.size ≤ h1 := by omega
  clear el eh
  clear yA0 yA1 yA2 yA3 yA4 hlA
  have y_w3 : w2.heap.size ≤ w3.heap.size := hb.size
  have B5 : Hid (Below w.heap.size w w3) := bthen B4.out hb
  have A5 : Hid (Bk w3 w.heap.size [.int .i64 c, .int .i64 d, .slice aW nW kW, .slice aG nG kG, .slice aA nA kA]) := A4.out.below hb
  clear B4 A4
  clear hb HC
  have O1_6 : Hid (OwnW l1 h1 w3 (.agg #[.int .i64 U.c, .int .i64 U.d, .slice a1W U.nW k1W, .slice a1G U.nG k1G, .slice a1A U.nA k1A]) U) := hO
  clear hO
  have yA0 : w3.cell? ⟨w.heap.size, 0, none⟩ = some (.int .i64 c) := (A5.out.2 0 (by simp)).1
  have yA1 : w3.cell? ⟨w.heap.size, 1, none⟩ = some (.int .i64 d) := (A5.out.2 1 (by simp)).1
  have yA2 : w3.cell? ⟨w.heap.size, 2, none⟩ = some (.slice aW nW kW) := (A5.out.2 2 (by simp)).1
  have yA3 : w3.cell? ⟨w.heap.size, 3, none⟩ = some (.slice aG nG kG) := (A5.out.2 3 (by simp)).1
  have yA4 : w3.cell? ⟨w.heap.size, 4, none⟩ = some (.slice aA nA kA) := (A5.out.2 4 (by simp)).1
  have hlA : w.heap.size < w3.heap.size := A5.out.1
  go_wp2_with fail
  obtain ⟨w4, e4⟩ : ∃ wq, wq = w3.alloc (.cells #[.int .i64 U.c, .int .i64 U.d, .slice a1W U.nW k1W, .slice a1G U.nG k1G, .slice a1A U.nA k1A] 34) := ⟨_, rfl⟩
  have hb4 : Below w3.heap.size w3 w4 := by rw [e4]; exact (Below.refl _ _).alloc (Nat.le_refl _) _
  have hG : Bk w4 w3.heap.size [.int .i64 U.c, .int .i64 U.d, .slice a1W U.nW k1W, .slice a1G U.nG k1G, .slice a1A U.nA k1A] := by rw [e4]; exact bk_new w3 34 [.int .i64 U.c, .int .i64 U.d, .slice a1W U.nW k1W, .slice a1G U.nG k1G, .slice a1A U.nA k1A]
  rw [← e4]
  clear e4
  clear yA0 yA1 yA2 yA3 yA4 hlA
  have y_w4 : w3.heap.size ≤ w4.heap.size := hb4.size
  have B7 : Hid (Below w.heap.size w w4) := bthen B5.out hb4
  have A7 : Hid (Bk w4 w.heap.size [.int .i64 c, .int .i64 d, .slice aW nW kW, .slice aG nG kG, .slice aA nA kA]) := A5.out.below hb4
  have O1_7 : Hid (OwnW l1 h1 w4 (.agg #[.int .i64 U.c, .int .i64 U.d, .slice a1W U.nW k1W, .slice a1G U.nG k1G, .slice a1A U.nA k1A]) U) := O1_6.out.below hb4
  clear B5 A5 O1_6
  clear hb4
  obtain ⟨g1, egx⟩ : ∃ g, g = w3.heap.size := ⟨_, rfl⟩
  rw [← egx] at hG ⊢
  have g1a : g1 ≤ w3.heap.size := by omega
  have g1b : w3.heap.size ≤ g1 := by omega
  clear egx
  have G1_8 : Hid (Bk w4 g1 [.int .i64 U.c, .int .i64 U.d, .slice a1W U.nW k1W, .slice a1G U.nG k1G, .slice a1A U.nA k1A]) := hG
  clear hG
  have g1c := G1_8.out.1
  refine (toOne _ ⟨c, d, nW, Z, nG, G, nA, N, O⟩ HV.out.1 _ (oneAt_below H0.out B7.out)).mono ?_
  rintro e w5 ⟨⟨v5, rfl, hC⟩, hb⟩
  obtain ⟨d1, d2, d3, q1, q2, q3, q4, e5, q5, q6, q7⟩ := hC
  simp only at e5
  subst e5
  have hC : CopyO w4.heap.size w5 (.agg #[.int .i64 c, .int .i64 d, .slice (some ⟨d1, 0, none⟩) nW nW, .slice (some ⟨d2, 0, none⟩) nG nG, .slice (some ⟨d3, 0, none⟩) nA nA]) ⟨c, d, nW, Z, nG, G, nA, N, O⟩ := ⟨d1, d2, d3, q1, q2, q3, q4, rfl, q5, q6, q7⟩
  clear q1 q2 q3 q4 q5 q6 q7
  obtain ⟨lx, elx⟩ : ∃ l, l = w4.heap.size := ⟨_, rfl⟩
  have hO := hC.own
  obtain ⟨hx, ehx⟩ : ∃ l, l = w5.heap.size := ⟨_, rfl⟩
  rw [← elx] at hC hO
  rw [← ehx] at hO
  have elx1 : lx ≤ w4.heap.size := by omega
  have elx2 : w4.heap.size ≤ lx := by omega
  have ehx1 : hx ≤ w5.heap.size := by omega
  have ehx2 : w5.heap.size ≤ hx := by omega
  clear elx ehx
  have y_w5 : w4.heap.size ≤ w5.heap.size := hb.size
  have B9 : Hid (Below w.heap.size w w5) := bthen B7.out hb
  have A9 : Hid (Bk w5 w.heap.size [.int .i64 c, .int .i64 d, .slice aW nW kW, .slice aG nG kG, .slice aA nA kA]) := A7.out.below hb
  have O1_9 : Hid (OwnW l1 h1 w5 (.agg #[.int .i64 U.c, .int .i64 U.d, .slice a1W U.nW k1W, .slice a1G U.nG k1G, .slice a1A U.nA k1A]) U) := O1_7.out.below hb
  have G1_9 : Hid (Bk w5 g1 [.int .i64 U.c, .int .i64 U.d, .slice a1W U.nW k1W, .slice a1G U.nG k1G, .slice a1A U.nA k1A]) := G1_8.out.below hb
  clear B7 A7 O1_7 G1_8
  clear hb
  have OX_10 : Hid (OwnW lx hx w5 (.agg #[.int .i64 c, .int .i64 d, .slice (some ⟨d1, 0, none⟩) nW nW, .slice (some ⟨d2, 0, none⟩) nG nG, .slice (some ⟨d3, 0, none⟩) nA nA]) ⟨c, d, nW, Z, nG, G, nA, N, O⟩) := hO
  have C11 : Hid (CopyO lx w5 (.agg #[.int .i64 c, .int .i64 d, .slice (some ⟨d1, 0, none⟩) nW nW, .slice (some ⟨d2, 0, none⟩) nG nG, .slice (some ⟨d3, 0, none⟩) nA nA]) ⟨c, d, nW, Z, nG, G, nA, N, O⟩) := hC
  clear hO hC
  have yA0 : w5.cell? ⟨w.heap.size, 0, none⟩ = some (.int .i64 c) := (A9.out.2 0 (by simp)).1
  have yA1 : w5.cell? ⟨w.heap.size, 1, none⟩ = some (.int .i64 d) := (A9.out.2 1 (by simp)).1
  have yA2 : w5.cell? ⟨w.heap.size, 2, none⟩ = some (.slice aW nW kW) := (A9.out.2 2 (by simp)).1
  have yA3 : w5.cell? ⟨w.heap.size, 3, none⟩ = some (.slice aG nG kG) := (A9.out.2 3 (by simp)).1
  have yA4 : w5.cell? ⟨w.heap.size, 4, none⟩ = some (.slice aA nA kA) := (A9.out.2 4 (by simp)).1
  have hlA : w.heap.size < w5.heap.size := A9.out.1
  have yG1_0 : w5.cell? ⟨g1, 0, none⟩ = some (.int .i64 U.c) := (G1_9.out.2 0 (by simp)).1
  have yG1_1 : w5.cell? ⟨g1, 1, none⟩ = some (.int .i64 U.d) := (G1_9.out.2 1 (by simp)).1
  have yG1_2 : w5.cell? ⟨g1, 2, none⟩ = some (.slice a1W U.nW k1W) := (G1_9.out.2 2 (by simp)).1
  have yG1_3 : w5.cell? ⟨g1, 3, none⟩ = some (.slice a1G U.nG k1G) := (G1_9.out.2 3 (by simp)).1
  have yG1_4 : w5.cell? ⟨g1, 4, none⟩ = some (.slice a1A U.nA k1A) := (G1_9.out.2 4 (by simp)).1
  have hlG1_ : g1 < w5.heap.size := G1_9.out.1
  go_wp2_with fail
  obtain ⟨w6, e4⟩ : ∃ wq, wq = w5.alloc (.cells #[.int .i64 c, .int .i64 d, .slice (some ⟨d1, 0, none⟩) nW nW, .slice (some ⟨d2, 0, none⟩) nG nG, .slice (some ⟨d3, 0, none⟩) nA nA] 34) := ⟨_, rfl⟩
  have hb4 : Below w5.heap.size w5 w6 := by rw [e4]; exact (Below.refl _ _).alloc (Nat.le_refl _) _
  have hG : Bk w6 w5.heap.size [.int .i64 c, .int .i64 d, .slice (some ⟨d1, 0, none⟩) nW nW, .slice (some ⟨d2, 0, none⟩) nG nG, .slice (some ⟨d3, 0, none⟩) nA nA] := by rw [e4]; exact bk_new w5 34 [.int .i64 c, .int .i64 d, .slice (some ⟨d1, 0, none⟩) nW nW, .slice (some ⟨d2, 0, none⟩) nG nG, .slice (some ⟨d3, 0, none⟩) nA nA]
  rw [← e4]
  clear e4
  clear yA0 yA1 yA2 yA3 yA4 hlA yG1_0 yG1_1 yG1_2 yG1_3 yG1_4 hlG1_
  have y_w6 : w5.heap.size ≤ w6.heap.size := hb4.size
  have B12 : Hid (Below w.heap.size w w6) := bthen B9.out hb4
  have A12 : Hid (Bk w6 w.heap.size [.int .i64 c, .int .i64 d, .slice aW nW kW, .slice aG nG kG, .slice aA nA kA]) := A9.out.below hb4
  have O1_12 : Hid (OwnW l1 h1 w6 (.agg #[.int .i64 U.c, .int .i64 U.d, .slice a1W U.nW k1W, .slice a1G U.nG k1G, .slice a1A U.nA k1A]) U) := O1_9.out.below hb4
  have G1_12 : Hid (Bk w6 g1 [.int .i64 U.c, .int .i64 U.d, .slice a1W U.nW k1W, .slice a1G U.nG k1G, .slice a1A U.nA k1A]) := G1_9.out.below hb4
  have OX_12 : Hid (OwnW lx hx w6 (.agg #[.int .i64 c, .int .i64 d, .slice (some ⟨d1, 0, none⟩) nW nW, .slice (some ⟨d2, 0, none⟩) nG nG, .slice (some ⟨d3, 0, none⟩) nA nA]) ⟨c, d, nW, Z, nG, G, nA, N, O⟩) := OX_10.out.below hb4
  have C12 : Hid (CopyO lx w6 (.agg #[.int .i64 c, .int .i64 d, .slice (some ⟨d1, 0, none⟩) nW nW, .slice (some ⟨d2, 0, none⟩) nG nG, .slice (some ⟨d3, 0, none⟩) nA nA]) ⟨c, d, nW, Z, nG, G, nA, N, O⟩) := C11.out.below hb4
  clear B9 A9 O1_9 G1_9 OX_10 C11
  clear hb4
  obtain ⟨gx, egx⟩ : ∃ g, g = w5.heap.size := ⟨_, rfl⟩
  rw [← egx] at hG ⊢
  have gxa : gx ≤ w5.heap.size := by omega
  have gxb : w5.heap.size ≤ gx := by omega
  clear egx
  have X13 : Hid (Bk w6 gx [.int .i64 c, .int .i64 d, .slice (some ⟨d1, 0, none⟩) nW nW, .slice (some ⟨d2, 0, none⟩) nG nG, .slice (some ⟨d3, 0, none⟩) nA nA]) := hG
  clear hG
  have gxc := X13.out.1
  refine (oneLand_impl lx _ ⟨c, d, nW, Z, nG, G, nA, N, O⟩ id HV.out.1 _ C12.out).mono ?_
  rintro e w7 ⟨⟨u2, rfl, hO⟩, hb⟩
  rw [EU.out] at hO
  obtain ⟨a2W, k2W, a2G, k2G, a2A, k2A, rfl, _, _, _⟩ := hO.at
  obtain ⟨l2, el⟩ : ∃ l, l = w6.heap.size := ⟨_, rfl⟩
  obtain ⟨h2, eh⟩ : ∃ l, l = w7.heap.size := ⟨_, rfl⟩
  rw [← el, ← eh] at hO
  have el21 : l2 ≤ w6.heap.size := by omega
  have el22 : w6.heap.size ≤ l2 := by omega
  have eh21 : h2 ≤ w7.heap.size := by omega
  have eh22 : w7.heap.size ≤ h2 := by omega
  clear el eh
  have y_w7 : w6.heap.size ≤ w7.heap.size := hb.size
  have B14 : Hid (Below w.heap.size w w7) := bthen B12.out hb
  have A14 : Hid (Bk w7 w.heap.size [.int .i64 c, .int .i64 d, .slice aW nW kW, .slice aG nG kG, .slice aA nA kA]) := A12.out.below hb
  have O1_14 : Hid (OwnW l1 h1 w7 (.agg #[.int .i64 U.c, .int .i64 U.d, .slice a1W U.nW k1W, .slice a1G U.nG k1G, .slice a1A U.nA k1A]) U) := O1_12.out.below hb
  have G1_14 : Hid (Bk w7 g1 [.int .i64 U.c, .int .i64 U.d, .slice a1W U.nW k1W, .slice a1G U.nG k1G, .slice a1A U.nA k1A]) := G1_12.out.below hb
  have OX_14 : Hid (OwnW lx hx w7 (.agg #[.int .i64 c, .int .i64 d, .slice (some ⟨d1, 0, none⟩) nW nW, .slice (some ⟨d2, 0, none⟩) nG nG, .slice (some ⟨d3, 0, none⟩) nA nA]) ⟨c, d, nW, Z, nG, G, nA, N, O⟩) := OX_12.out.below hb
  have C14 : Hid (CopyO lx w7 (.agg #[.int .i64 c, .int .i64 d, .slice (some ⟨d1, 0, none⟩) nW nW, .slice (some ⟨d2, 0, none⟩) nG nG, .slice (some ⟨d3, 0, none⟩) nA nA]) ⟨c, d, nW, Z, nG, G, nA, N, O⟩) := C12.out.below hb
  have X14 : Hid (Bk w7 gx [.int .i64 c, .int .i64 d, .slice (some ⟨d1, 0, none⟩) nW nW, .slice (some ⟨d2, 0, none⟩) nG nG, .slice (some ⟨d3, 0, none⟩) nA nA]) := X13.out.below hb
  clear B12 A12 O1_12 G1_12 OX_12 C12 X13
  clear hb
  have O2_15 : Hid (OwnW l2 h2 w7 (.agg #[.int .i64 U.c, .int .i64 U.d, .slice a2W U.nW k2W, .slice a2G U.nG k2G, .slice a2A U.nA k2A]) U) := hO
  clear hO
  have yA0 : w7.cell? ⟨w.heap.size, 0, none⟩ = some (.int .i64 c) := (A14.out.2 0 (by simp)).1
  have yA1 : w7.cell? ⟨w.heap.size, 1, none⟩ = some (.int .i64 d) := (A14.out.2 1 (by simp)).1
  have yA2 : w7.cell? ⟨w.heap.size, 2, none⟩ = some (.slice aW nW kW) := (A14.out.2 2 (by simp)).1
  have yA3 : w7.cell? ⟨w.heap.size, 3, none⟩ = some (.slice aG nG kG) := (A14.out.2 3 (by simp)).1
  have yA4 : w7.cell? ⟨w.heap.size, 4, none⟩ = some (.slice aA nA kA) := (A14.out.2 4 (by simp)).1
  have hlA : w.heap.size < w7.heap.size := A14.out.1
  have yG1_0 : w7.cell? ⟨g1, 0, none⟩ = some (.int .i64 U.c) := (G1_14.out.2 0 (by simp)).1
  have yG1_1 : w7.cell? ⟨g1, 1, none⟩ = some (.int .i64 U.d) := (G1_14.out.2 1 (by simp)).1
  have yG1_2 : w7.cell? ⟨g1, 2, none⟩ = some (.slice a1W U.nW k1W) := (G1_14.out.2 2 (by simp)).1
  have yG1_3 : w7.cell? ⟨g1, 3, none⟩ = some (.slice a1G U.nG k1G) := (G1_14.out.2 3 (by simp)).1
  have yG1_4 : w7.cell? ⟨g1, 4, none⟩ = some (.slice a1A U.nA k1A) := (G1_14.out.2 4 (by simp)).1
  have hlG1_ : g1 < w7.heap.size := G1_14.out.1
  have yX0 : w7.cell? ⟨gx, 0, none⟩ = some (.int .i64 c) := (X14.out.2 0 (by simp)).1
  have yX1 : w7.cell? ⟨gx, 1, none⟩ = some (.int .i64 d) := (X14.out.2 1 (by simp)).1
  have yX2 : w7.cell? ⟨gx, 2, none⟩ = some (.slice (some ⟨d1, 0, none⟩) nW nW) := (X14.out.2 2 (by simp)).1
  have yX3 : w7.cell? ⟨gx, 3, none⟩ = some (.slice (some ⟨d2, 0, none⟩) nG nG) := (X14.out.2 3 (by simp)).1
  have yX4 : w7.cell? ⟨gx, 4, none⟩ = some (.slice (some ⟨d3, 0, none⟩) nA nA) := (X14.out.2 4 (by simp)).1
  have hlX : gx < w7.heap.size := X14.out.1
  go_wp2_with fail
  obtain ⟨w8, e4⟩ : ∃ wq, wq = w7.alloc (.cells #[.int .i64 U.c, .int .i64 U.d, .slice a2W U.nW k2W, .slice a2G U.nG k2G, .slice a2A U.nA k2A] 34) := ⟨_, rfl⟩
  have hb4 : Below w7.heap.size w7 w8 := by rw [e4]; exact (Below.refl _ _).alloc (Nat.le_refl _) _
  have hG : Bk w8 w7.heap.size [.int .i64 U.c, .int .i64 U.d, .slice a2W U.nW k2W, .slice a2G U.nG k2G, .slice a2A U.nA k2A] := by rw [e4]; exact bk_new w7 34 [.int .i64 U.c, .int .i64 U.d, .slice a2W U.nW k2W, .slice a2G U.nG k2G, .slice a2A U.nA k2A]
  rw [← e4]
  clear e4
  clear yA0 yA1 yA2 yA3 yA4 hlA yG1_0 yG1_1 yG1_2 yG1_3 yG1_4 hlG1_ yX0 yX1 yX2 yX3 yX4 hlX
  have y_w8 : w7.heap.size ≤ w8.heap.size := hb4.size
  have B16 : Hid (Below w.heap.size w w8) := bthen B14.out hb4
  have A16 : Hid (Bk w8 w.heap.size [.int .i64 c, .int .i64 d, .slice aW nW kW, .slice aG nG kG, .slice aA nA kA]) := A14.out.below hb4
  have O1_16 : Hid (OwnW l1 h1 w8 (.agg #[.int .i64 U.c, .int .i64 U.d, .slice a1W U.nW k1W, .slice a1G U.nG k1G, .slice a1A U.nA k1A]) U) := O1_14.out.below hb4
  have G1_16 : Hid (Bk w8 g1 [.int .i64 U.c, .int .i64 U.d, .slice a1W U.nW k1W, .slice a1G U.nG k1G, .slice a1A U.nA k1A]) := G1_14.out.below hb4
  have OX_16 : Hid (OwnW lx hx w8 (.agg #[.int .i64 c, .int .i64 d, .slice (some ⟨d1, 0, none⟩) nW nW, .slice (some ⟨d2, 0, none⟩) nG nG, .slice (some ⟨d3, 0, none⟩) nA nA]) ⟨c, d, nW, Z, nG, G, nA, N, O⟩) := OX_14.out.below hb4
  have C16 : Hid (CopyO lx w8 (.agg #[.int .i64 c, .int .i64 d, .slice (some ⟨d1, 0, none⟩) nW nW, .slice (some ⟨d2, 0, none⟩) nG nG, .slice (some ⟨d3, 0, none⟩) nA nA]) ⟨c, d, nW, Z, nG, G, nA, N, O⟩) := C14.out.below hb4
  have X16 : Hid (Bk w8 gx [.int .i64 c, .int .i64 d, .slice (some ⟨d1, 0, none⟩) nW nW, .slice (some ⟨d2, 0, none⟩) nG nG, .slice (some ⟨d3, 0, none⟩) nA nA]) := X14.out.below hb4
  have O2_16 : Hid (OwnW l2 h2 w8 (.agg #[.int .i64 U.c, .int .i64 U.d, .slice a2W U.nW k2W, .slice a2G U.nG k2G, .slice a2A U.nA k2A]) U) := O2_15.out.below hb4
  clear B14 A14 O1_14 G1_14 OX_14 C14 X14 O2_15
  clear hb4
  obtain ⟨g2, egx⟩ : ∃ g, g = w7.heap.size := ⟨_, rfl⟩
  rw [← egx] at hG ⊢
  have g2a : g2 ≤ w7.heap.size := by omega
  have g2b : w7.heap.size ≤ g2 := by omega
  clear egx
  have G2_17 : Hid (Bk w8 g2 [.int .i64 U.c, .int .i64 U.d, .slice a2W U.nW k2W, .slice a2G U.nG k2G, .slice a2A U.nA k2A]) := hG
  clear hG
  have g2c := G2_17.out.1
  clear C16
  refine (eqOne _ _ U (OV.more HU.out) _ (O2_16.out.at) (O1_16.out.at)).mono ?_
  rintro e w9 ⟨rfl, hb⟩
  have y_w9 : w8.heap.size ≤ w9.heap.size := hb.size
  have B18 : Hid (Below w.heap.size w w9) := bthen B16.out hb
  have A18 : Hid (Bk w9 w.heap.size [.int .i64 c, .int .i64 d, .slice aW nW kW, .slice aG nG kG, .slice aA nA kA]) := A16.out.below hb
  have O1_18 : Hid (OwnW l1 h1 w9 (.agg #[.int .i64 U.c, .int .i64 U.d, .slice a1W U.nW k1W, .slice a1G U.nG k1G, .slice a1A U.nA k1A]) U) := O1_16.out.below hb
  have G1_18 : Hid (Bk w9 g1 [.int .i64 U.c, .int .i64 U.d, .slice a1W U.nW k1W, .slice a1G U.nG k1G, .slice a1A U.nA k1A]) := G1_16.out.below hb
  have OX_18 : Hid (OwnW lx hx w9 (.agg #[.int .i64 c, .int .i64 d, .slice (some ⟨d1, 0, none⟩) nW nW, .slice (some ⟨d2, 0, none⟩) nG nG, .slice (some ⟨d3, 0, none⟩) nA nA]) ⟨c, d, nW, Z, nG, G, nA, N, O⟩) := OX_16.out.below hb
  have X18 : Hid (Bk w9 gx [.int .i64 c, .int .i64 d, .slice (some ⟨d1, 0, none⟩) nW nW, .slice (some ⟨d2, 0, none⟩) nG nG, .slice (some ⟨d3, 0, none⟩) nA nA]) := X16.out.below hb
  have O2_18 : Hid (OwnW l2 h2 w9 (.agg #[.int .i64 U.c, .int .i64 U.d, .slice a2W U.nW k2W, .slice a2G U.nG k2G, .slice a2A U.nA k2A]) U) := O2_16.out.below hb
  have G2_18 : Hid (Bk w9 g2 [.int .i64 U.c, .int .i64 U.d, .slice a2W U.nW k2W, .slice a2G U.nG k2G, .slice a2A U.nA k2A]) := G2_17.out.below hb
  clear B16 A16 O1_16 G1_16 OX_16 X16 O2_16 G2_17
  clear hb
  have yX0 : w9.cell? ⟨gx, 0, none⟩ = some (.int .i64 c) := (X18.out.2 0 (by simp)).1
  have yX1 : w9.cell? ⟨gx, 1, none⟩ = some (.int .i64 d) := (X18.out.2 1 (by simp)).1
  have yX2 : w9.cell? ⟨gx, 2, none⟩ = some (.slice (some ⟨d1, 0, none⟩) nW nW) := (X18.out.2 2 (by simp)).1
  have yX3 : w9.cell? ⟨gx, 3, none⟩ = some (.slice (some ⟨d2, 0, none⟩) nG nG) := (X18.out.2 3 (by simp)).1
  have yX4 : w9.cell? ⟨gx, 4, none⟩ = some (.slice (some ⟨d3, 0, none⟩) nA nA) := (X18.out.2 4 (by simp)).1
  have hlX : gx < w9.heap.size := X18.out.1
  have yA0 : w9.cell? ⟨w.heap.size, 0, none⟩ = some (.int .i64 c) := (A18.out.2 0 (by simp)).1
  have yA1 : w9.cell? ⟨w.heap.size, 1, none⟩ = some (.int .i64 d) := (A18.out.2 1 (by simp)).1
  have yA2 : w9.cell? ⟨w.heap.size, 2, none⟩ = some (.slice aW nW kW) := (A18.out.2 2 (by simp)).1
  have yA3 : w9.cell? ⟨w.heap.size, 3, none⟩ = some (.slice aG nG kG) := (A18.out.2 3 (by simp)).1
  have yA4 : w9.cell? ⟨w.heap.size, 4, none⟩ = some (.slice aA nA kA) := (A18.out.2 4 (by simp)).1
  have hlA : w.heap.size < w9.heap.size := A18.out.1
  go_wp2
  refine wp_region_held_drew (S := fun w' => (∀ b o, b < w9.heap.size → w'.cell? ⟨b, o, none⟩ = w9.cell? ⟨b, o, none⟩) ∧ w9.heap.size ≤ w'.heap.size) (by kernel_rfl) ⟨fun _ _ _ => rfl, Nat.le_refl _⟩ ?_
  intro hHeld
  refine wpAnyH_take (i := 0) (v := .agg #[.int .i64 c, .int .i64 d, .slice (some ⟨d1, 0, none⟩) nW nW, .slice (some ⟨d2, 0, none⟩) nG nG, .slice (some ⟨d3, 0, none⟩) nA nA]) rfl (by kernel_rfl) (by kernel_rfl) (by kernel_rfl) (fun _ _ _ h => h) (Or.inl ⟨by rfl, ?_⟩) (by assumption) ?_
  · intro wx hSw; go_simp
  try simp only [Act.put, List.setIfInBounds_toArray, List.set_cons_zero, List.set_cons_succ, List.getElem_toArray, List.getElem_cons_zero]
  refine wpAnyH_take (i := 1) (v := .agg #[.int .i64 c, .int .i64 d, .slice aW nW kW, .slice aG nG kG, .slice aA nA kA]) rfl (by kernel_rfl) (by kernel_rfl) (by kernel_rfl) (fun _ _ _ h => h) (Or.inl ⟨by rfl, ?_⟩) (by assumption) ?_
  · intro wx hSw; go_simp
  try simp only [Act.put, List.setIfInBounds_toArray, List.set_cons_zero, List.set_cons_succ, List.getElem_toArray, List.getElem_cons_zero, List.getElem_cons_succ]
  refine wpAnyH_ready (rs := [2]) (by kernel_rfl) (by simp) ?_
  refine AllReadyH.cons rfl (fun K hK => ?_) AllReadyH.nil
  go_simp
  go_wp2_with fail
  refine (toOne _ ⟨c, d, nW, Z, nG, G, nA, N, O⟩ HV.out.1 _ (oneAt_below H0.out (bthen B18.out (by repeat (first | exact Below.refl _ _ | refine bthen ?_ (by assumption) | apply Below.drew))))).mono ?_
  rintro e t1 ⟨⟨v10, rfl, C8⟩, ht1⟩
  refine hK.out _ _ (keepS (by assumption) ht1) (fun hNew => ?_)
  clear hK K hHeld
  have hHeld := hNew
  clear hNew
  try simp only [Act.put, List.setIfInBounds_toArray, List.set_cons_zero, List.set_cons_succ, List.getElem_toArray, List.getElem_cons_zero, List.getElem_cons_succ]
  refine wpAnyH_ready (rs := [3]) (by kernel_rfl) (by simp) ?_
  refine AllReadyH.cons rfl (fun K hK => ?_) AllReadyH.nil
  go_simp
  go_wp2_with fail
  refine (eqOne _ _ ⟨c, d, nW, Z, nG, G, nA, N, O⟩ (OV.more HV.out) _ (oneAt_below OX_18.out.at (by repeat (first | exact Below.refl _ _ | refine bthen ?_ (by assumption) | apply Below.drew))) (oneAt_below C8.at (by repeat (first | exact Below.refl _ _ | refine bthen ?_ (by assumption) | apply Below.drew)))).mono ?_
  rintro e t2 ⟨rfl, ht2⟩
  refine hK.out _ _ (keepS (by assumption) ht2) (fun hNew => ?_)
  clear hK K hHeld
  have hHeld := hNew
  clear hNew
  try simp only [Act.put, List.setIfInBounds_toArray, List.set_cons_zero, List.set_cons_succ, List.getElem_toArray, List.getElem_cons_zero, List.getElem_cons_succ]
  refine wpAnyH_take (i := 4) (v := .bool false) rfl (by kernel_rfl) (by kernel_rfl) (by kernel_rfl) (fun _ _ _ h => h) (Or.inl ⟨by rfl, ?_⟩) (by assumption) ?_
  · intro wx hSw; go_simp
  try simp only [Act.put, List.setIfInBounds_toArray, List.set_cons_zero, List.set_cons_succ, List.getElem_toArray, List.getElem_cons_zero, List.getElem_cons_succ]
  refine wpAnyH_done (by kernel_rfl) ?_ _
  clear hHeld
  have hb10 : Below w9.heap.size w9 t2 := by repeat (first | exact Below.refl _ _ | refine bthen ?_ (by assumption) | apply Below.drew)
  generalize t2 = w10 at *
  clear yX0 yX1 yX2 yX3 yX4 hlX yA0 yA1 yA2 yA3 yA4 hlA
  have y_w10 : w9.heap.size ≤ w10.heap.size := hb10.size
  have B19 : Hid (Below w.heap.size w w10) := bthen B18.out hb10
  have A19 : Hid (Bk w10 w.heap.size [.int .i64 c, .int .i64 d, .slice aW nW kW, .slice aG nG kG, .slice aA nA kA]) := A18.out.below hb10
  have O1_19 : Hid (OwnW l1 h1 w10 (.agg #[.int .i64 U.c, .int .i64 U.d, .slice a1W U.nW k1W, .slice a1G U.nG k1G, .slice a1A U.nA k1A]) U) := O1_18.out.below hb10
  have G1_19 : Hid (Bk w10 g1 [.int .i64 U.c, .int .i64 U.d, .slice a1W U.nW k1W, .slice a1G U.nG k1G, .slice a1A U.nA k1A]) := G1_18.out.below hb10
  have OX_19 : Hid (OwnW lx hx w10 (.agg #[.int .i64 c, .int .i64 d, .slice (some ⟨d1, 0, none⟩) nW nW, .slice (some ⟨d2, 0, none⟩) nG nG, .slice (some ⟨d3, 0, none⟩) nA nA]) ⟨c, d, nW, Z, nG, G, nA, N, O⟩) := OX_18.out.below hb10
  have X19 : Hid (Bk w10 gx [.int .i64 c, .int .i64 d, .slice (some ⟨d1, 0, none⟩) nW nW, .slice (some ⟨d2, 0, none⟩) nG nG, .slice (some ⟨d3, 0, none⟩) nA nA]) := X18.out.below hb10
  have O2_19 : Hid (OwnW l2 h2 w10 (.agg #[.int .i64 U.c, .int .i64 U.d, .slice a2W U.nW k2W, .slice a2G U.nG k2G, .slice a2A U.nA k2A]) U) := O2_18.out.below hb10
  have G2_19 : Hid (Bk w10 g2 [.int .i64 U.c, .int .i64 U.d, .slice a2W U.nW k2W, .slice a2G U.nG k2G, .slice a2A U.nA k2A]) := G2_18.out.below hb10
  clear B18 A18 O1_18 G1_18 OX_18 X18 O2_18 G2_18
  clear hb10 ht1 ht2 C8
  have yX0 : w10.cell? ⟨gx, 0, none⟩ = some (.int .i64 c) := (X19.out.2 0 (by simp)).1
  have yX1 : w10.cell? ⟨gx, 1, none⟩ = some (.int .i64 d) := (X19.out.2 1 (by simp)).1
  have yX2 : w10.cell? ⟨gx, 2, none⟩ = some (.slice (some ⟨d1, 0, none⟩) nW nW) := (X19.out.2 2 (by simp)).1
  have yX3 : w10.cell? ⟨gx, 3, none⟩ = some (.slice (some ⟨d2, 0, none⟩) nG nG) := (X19.out.2 3 (by simp)).1
  have yX4 : w10.cell? ⟨gx, 4, none⟩ = some (.slice (some ⟨d3, 0, none⟩) nA nA) := (X19.out.2 4 (by simp)).1
  have hlX : gx < w10.heap.size := X19.out.1
  go_wp2_with fail
  clear yX0 yX1 yX2 yX3 yX4 hlX
  refine (markOne lx hx _ ⟨c, d, nW, Z, nG, G, nA, N, O⟩ HV.out _ (by omega) (by omega) OX_19.out).mono ?_
  rintro e w11 ⟨rfl, hO, hz, hsm, hbl⟩
  have y_w11 : w10.heap.size ≤ w11.heap.size := hz
  have B20 : Hid (Below w.heap.size w w11) := B19.out.trans (hbl.mono (by omega))
  have A20 : Hid (Bk w11 w.heap.size [.int .i64 c, .int .i64 d, .slice aW nW kW, .slice aG nG kG, .slice aA nA kA]) := A19.out.sm hz (hsm (w.heap.size) (by omega) (by omega))
  have O1_20 : Hid (OwnW l1 h1 w11 (.agg #[.int .i64 U.c, .int .i64 U.d, .slice a1W U.nW k1W, .slice a1G U.nG k1G, .slice a1A U.nA k1A]) U) := O1_19.out.sm hz (fun b q1 q2 => hsm b (by omega) (by omega))
  have G1_20 : Hid (Bk w11 g1 [.int .i64 U.c, .int .i64 U.d, .slice a1W U.nW k1W, .slice a1G U.nG k1G, .slice a1A U.nA k1A]) := G1_19.out.sm hz (hsm (g1) (by omega) (by omega))
  have X20 : Hid (Bk w11 gx [.int .i64 c, .int .i64 d, .slice (some ⟨d1, 0, none⟩) nW nW, .slice (some ⟨d2, 0, none⟩) nG nG, .slice (some ⟨d3, 0, none⟩) nA nA]) := X19.out.sm hz (hsm (gx) (by omega) (by omega))
  have O2_20 : Hid (OwnW l2 h2 w11 (.agg #[.int .i64 U.c, .int .i64 U.d, .slice a2W U.nW k2W, .slice a2G U.nG k2G, .slice a2A U.nA k2A]) U) := O2_19.out.sm hz (fun b q1 q2 => hsm b (by omega) (by omega))
  have G2_20 : Hid (Bk w11 g2 [.int .i64 U.c, .int .i64 U.d, .slice a2W U.nW k2W, .slice a2G U.nG k2G, .slice a2A U.nA k2A]) := G2_19.out.sm hz (hsm (g2) (by omega) (by omega))
  clear B19 A19 O1_19 G1_19 X19 O2_19 G2_19
  clear hO hz hsm hbl OX_19
  obtain ⟨n8, en8⟩ : ∃ n, n = OV.s3 ⟨c, d, nW, Z, nG, G, nA, N, O⟩ := ⟨_, rfl⟩
  rw [← en8]
  clear en8
  have nn8 : ¬ (n8 : Int) < 0 := by omega
  have yG1_0 : w11.cell? ⟨g1, 0, none⟩ = some (.int .i64 U.c) := (G1_20.out.2 0 (by simp)).1
  have yG1_1 : w11.cell? ⟨g1, 1, none⟩ = some (.int .i64 U.d) := (G1_20.out.2 1 (by simp)).1
  have yG1_2 : w11.cell? ⟨g1, 2, none⟩ = some (.slice a1W U.nW k1W) := (G1_20.out.2 2 (by simp)).1
  have yG1_3 : w11.cell? ⟨g1, 3, none⟩ = some (.slice a1G U.nG k1G) := (G1_20.out.2 3 (by simp)).1
  have yG1_4 : w11.cell? ⟨g1, 4, none⟩ = some (.slice a1A U.nA k1A) := (G1_20.out.2 4 (by simp)).1
  have hlG1_ : g1 < w11.heap.size := G1_20.out.1
  have yG2_0 : w11.cell? ⟨g2, 0, none⟩ = some (.int .i64 U.c) := (G2_20.out.2 0 (by simp)).1
  have yG2_1 : w11.cell? ⟨g2, 1, none⟩ = some (.int .i64 U.d) := (G2_20.out.2 1 (by simp)).1
  have yG2_2 : w11.cell? ⟨g2, 2, none⟩ = some (.slice a2W U.nW k2W) := (G2_20.out.2 2 (by simp)).1
  have yG2_3 : w11.cell? ⟨g2, 3, none⟩ = some (.slice a2G U.nG k2G) := (G2_20.out.2 3 (by simp)).1
  have yG2_4 : w11.cell? ⟨g2, 4, none⟩ = some (.slice a2A U.nA k2A) := (G2_20.out.2 4 (by simp)).1
  have hlG2_ : g2 < w11.heap.size := G2_20.out.1
  go_wp2_with fail
  refine (eqOne _ _ U (OV.more HU.out) _ (O2_20.out.at) (O1_20.out.at)).mono ?_
  rintro e w12 ⟨rfl, hb⟩
  clear yG1_0 yG1_1 yG1_2 yG1_3 yG1_4 hlG1_ yG2_0 yG2_1 yG2_2 yG2_3 yG2_4 hlG2_
  have y_w12 : w11.heap.size ≤ w12.heap.size := hb.size
  have B21 : Hid (Below w.heap.size w w12) := bthen B20.out hb
  have A21 : Hid (Bk w12 w.heap.size [.int .i64 c, .int .i64 d, .slice aW nW kW, .slice aG nG kG, .slice aA nA kA]) := A20.out.below hb
  have O1_21 : Hid (OwnW l1 h1 w12 (.agg #[.int .i64 U.c, .int .i64 U.d, .slice a1W U.nW k1W, .slice a1G U.nG k1G, .slice a1A U.nA k1A]) U) := O1_20.out.below hb
  have G1_21 : Hid (Bk w12 g1 [.int .i64 U.c, .int .i64 U.d, .slice a1W U.nW k1W, .slice a1G U.nG k1G, .slice a1A U.nA k1A]) := G1_20.out.below hb
  have X21 : Hid (Bk w12 gx [.int .i64 c, .int .i64 d, .slice (some ⟨d1, 0, none⟩) nW nW, .slice (some ⟨d2, 0, none⟩) nG nG, .slice (some ⟨d3, 0, none⟩) nA nA]) := X20.out.below hb
  have O2_21 : Hid (OwnW l2 h2 w12 (.agg #[.int .i64 U.c, .int .i64 U.d, .slice a2W U.nW k2W, .slice a2G U.nG k2G, .slice a2A U.nA k2A]) U) := O2_20.out.below hb
  have G2_21 : Hid (Bk w12 g2 [.int .i64 U.c, .int .i64 U.d, .slice a2W U.nW k2W, .slice a2G U.nG k2G, .slice a2A U.nA k2A]) := G2_20.out.below hb
  clear B20 A20 O1_20 G1_20 X20 O2_20 G2_20
  clear hb
  have yG2_0 : w12.cell? ⟨g2, 0, none⟩ = some (.int .i64 U.c) := (G2_21.out.2 0 (by simp)).1
  have yG2_1 : w12.cell? ⟨g2, 1, none⟩ = some (.int .i64 U.d) := (G2_21.out.2 1 (by simp)).1
  have yG2_2 : w12.cell? ⟨g2, 2, none⟩ = some (.slice a2W U.nW k2W) := (G2_21.out.2 2 (by simp)).1
  have yG2_3 : w12.cell? ⟨g2, 3, none⟩ = some (.slice a2G U.nG k2G) := (G2_21.out.2 3 (by simp)).1
  have yG2_4 : w12.cell? ⟨g2, 4, none⟩ = some (.slice a2A U.nA k2A) := (G2_21.out.2 4 (by simp)).1
  have hlG2_ : g2 < w12.heap.size := G2_21.out.1
  go_wp2_with fail
  clear yG2_0 yG2_1 yG2_2 yG2_3 yG2_4 hlG2_
  refine (markOne l2 h2 _ U HU.out _ (by omega) (by omega) O2_21.out).mono ?_
  rintro e w13 ⟨rfl, hO, hz, hsm, hbl⟩
  have y_w13 : w12.heap.size ≤ w13.heap.size := hz
  have B22 : Hid (Below w.heap.size w w13) := B21.out.trans (hbl.mono (by omega))
  have A22 : Hid (Bk w13 w.heap.size [.int .i64 c, .int .i64 d, .slice aW nW kW, .slice aG nG kG, .slice aA nA kA]) := A21.out.sm hz (hsm (w.heap.size) (by omega) (by omega))
  have O1_22 : Hid (OwnW l1 h1 w13 (.agg #[.int .i64 U.c, .int .i64 U.d, .slice a1W U.nW k1W, .slice a1G U.nG k1G, .slice a1A U.nA k1A]) U) := O1_21.out.sm hz (fun b q1 q2 => hsm b (by omega) (by omega))
  have G1_22 : Hid (Bk w13 g1 [.int .i64 U.c, .int .i64 U.d, .slice a1W U.nW k1W, .slice a1G U.nG k1G, .slice a1A U.nA k1A]) := G1_21.out.sm hz (hsm (g1) (by omega) (by omega))
  have X22 : Hid (Bk w13 gx [.int .i64 c, .int .i64 d, .slice (some ⟨d1, 0, none⟩) nW nW, .slice (some ⟨d2, 0, none⟩) nG nG, .slice (some ⟨d3, 0, none⟩) nA nA]) := X21.out.sm hz (hsm (gx) (by omega) (by omega))
  have G2_22 : Hid (Bk w13 g2 [.int .i64 U.c, .int .i64 U.d, .slice a2W U.nW k2W, .slice a2G U.nG k2G, .slice a2A U.nA k2A]) := G2_21.out.sm hz (hsm (g2) (by omega) (by omega))
  clear B21 A21 O1_21 G1_21 X21 G2_21
  have O2_23 : Hid (OwnW l2 h2 w13 (.agg #[.int .i64 U.c, .int .i64 U.d, .slice a2W U.nW k2W, .slice a2G U.nG k2G, .slice a2A U.nA k2A]) U.marked) := hO
  clear hO hz hsm hbl O2_21
  obtain ⟨n9, en9⟩ : ∃ n, n = U.s3 := ⟨_, rfl⟩
  rw [← en9]
  have EN9 : Hid (n9 = U.s3) := en9
  clear en9
  have nn9 : ¬ (n9 : Int) < 0 := by omega
  have yG2_0 : w13.cell? ⟨g2, 0, none⟩ = some (.int .i64 U.c) := (G2_22.out.2 0 (by simp)).1
  have yG2_1 : w13.cell? ⟨g2, 1, none⟩ = some (.int .i64 U.d) := (G2_22.out.2 1 (by simp)).1
  have yG2_2 : w13.cell? ⟨g2, 2, none⟩ = some (.slice a2W U.nW k2W) := (G2_22.out.2 2 (by simp)).1
  have yG2_3 : w13.cell? ⟨g2, 3, none⟩ = some (.slice a2G U.nG k2G) := (G2_22.out.2 3 (by simp)).1
  have yG2_4 : w13.cell? ⟨g2, 4, none⟩ = some (.slice a2A U.nA k2A) := (G2_22.out.2 4 (by simp)).1
  have hlG2_ : g2 < w13.heap.size := G2_22.out.1
  go_wp2_with fail
  refine (heldOne l2 h2 _ U HU.out _ (by omega) O2_23.out).mono ?_
  rintro e w14 ⟨rfl, hb⟩
  clear yG2_0 yG2_1 yG2_2 yG2_3 yG2_4 hlG2_
  have y_w14 : w13.heap.size ≤ w14.heap.size := hb.size
  have B24 : Hid (Below w.heap.size w w14) := bthen B22.out hb
  have A24 : Hid (Bk w14 w.heap.size [.int .i64 c, .int .i64 d, .slice aW nW kW, .slice aG nG kG, .slice aA nA kA]) := A22.out.below hb
  have O1_24 : Hid (OwnW l1 h1 w14 (.agg #[.int .i64 U.c, .int .i64 U.d, .slice a1W U.nW k1W, .slice a1G U.nG k1G, .slice a1A U.nA k1A]) U) := O1_22.out.below hb
  have G1_24 : Hid (Bk w14 g1 [.int .i64 U.c, .int .i64 U.d, .slice a1W U.nW k1W, .slice a1G U.nG k1G, .slice a1A U.nA k1A]) := G1_22.out.below hb
  have X24 : Hid (Bk w14 gx [.int .i64 c, .int .i64 d, .slice (some ⟨d1, 0, none⟩) nW nW, .slice (some ⟨d2, 0, none⟩) nG nG, .slice (some ⟨d3, 0, none⟩) nA nA]) := X22.out.below hb
  have G2_24 : Hid (Bk w14 g2 [.int .i64 U.c, .int .i64 U.d, .slice a2W U.nW k2W, .slice a2G U.nG k2G, .slice a2A U.nA k2A]) := G2_22.out.below hb
  have O2_24 : Hid (OwnW l2 h2 w14 (.agg #[.int .i64 U.c, .int .i64 U.d, .slice a2W U.nW k2W, .slice a2G U.nG k2G, .slice a2A U.nA k2A]) U.marked) := O2_23.out.below hb
  clear B22 A22 O1_22 G1_22 X22 G2_22 O2_23
  clear hb
  rw [← EN9.out]
  have yA0 : w14.cell? ⟨w.heap.size, 0, none⟩ = some (.int .i64 c) := (A24.out.2 0 (by simp)).1
  have yA1 : w14.cell? ⟨w.heap.size, 1, none⟩ = some (.int .i64 d) := (A24.out.2 1 (by simp)).1
  have yA2 : w14.cell? ⟨w.heap.size, 2, none⟩ = some (.slice aW nW kW) := (A24.out.2 2 (by simp)).1
  have yA3 : w14.cell? ⟨w.heap.size, 3, none⟩ = some (.slice aG nG kG) := (A24.out.2 3 (by simp)).1
  have yA4 : w14.cell? ⟨w.heap.size, 4, none⟩ = some (.slice aA nA kA) := (A24.out.2 4 (by simp)).1
  have hlA : w.heap.size < w14.heap.size := A24.out.1
  go_wp2_with fail
  refine (toOne _ ⟨c, d, nW, Z, nG, G, nA, N, O⟩ HV.out.1 _ (oneAt_below H0.out B24.out)).mono ?_
  rintro e w15 ⟨⟨v15, rfl, hC⟩, hb⟩
  clear yA0 yA1 yA2 yA3 yA4 hlA
  have y_w15 : w14.heap.size ≤ w15.heap.size := hb.size
  have B25 : Hid (Below w.heap.size w w15) := bthen B24.out hb
  have A25 : Hid (Bk w15 w.heap.size [.int .i64 c, .int .i64 d, .slice aW nW kW, .slice aG nG kG, .slice aA nA kA]) := A24.out.below hb
  have O1_25 : Hid (OwnW l1 h1 w15 (.agg #[.int .i64 U.c, .int .i64 U.d, .slice a1W U.nW k1W, .slice a1G U.nG k1G, .slice a1A U.nA k1A]) U) := O1_24.out.below hb
  have G1_25 : Hid (Bk w15 g1 [.int .i64 U.c, .int .i64 U.d, .slice a1W U.nW k1W, .slice a1G U.nG k1G, .slice a1A U.nA k1A]) := G1_24.out.below hb
  have X25 : Hid (Bk w15 gx [.int .i64 c, .int .i64 d, .slice (some ⟨d1, 0, none⟩) nW nW, .slice (some ⟨d2, 0, none⟩) nG nG, .slice (some ⟨d3, 0, none⟩) nA nA]) := X24.out.below hb
  have G2_25 : Hid (Bk w15 g2 [.int .i64 U.c, .int .i64 U.d, .slice a2W U.nW k2W, .slice a2G U.nG k2G, .slice a2A U.nA k2A]) := G2_24.out.below hb
  have O2_25 : Hid (OwnW l2 h2 w15 (.agg #[.int .i64 U.c, .int .i64 U.d, .slice a2W U.nW k2W, .slice a2G U.nG k2G, .slice a2A U.nA k2A]) U.marked) := O2_24.out.below hb
  clear B24 A24 O1_24 G1_24 X24 G2_24 O2_24
  clear hb
  have HC : Hid (CopyO _ w15 v15 ⟨c, d, nW, Z, nG, G, nA, N, O⟩) := hC
  clear hC
  have yA0 : w15.cell? ⟨w.heap.size, 0, none⟩ = some (.int .i64 c) := (A25.out.2 0 (by simp)).1
  have yA1 : w15.cell? ⟨w.heap.size, 1, none⟩ = some (.int .i64 d) := (A25.out.2 1 (by simp)).1
  have yA2 : w15.cell? ⟨w.heap.size, 2, none⟩ = some (.slice aW nW kW) := (A25.out.2 2 (by simp)).1
  have yA3 : w15.cell? ⟨w.heap.size, 3, none⟩ = some (.slice aG nG kG) := (A25.out.2 3 (by simp)).1
  have yA4 : w15.cell? ⟨w.heap.size, 4, none⟩ = some (.slice aA nA kA) := (A25.out.2 4 (by simp)).1
  have hlA : w.heap.size < w15.heap.size := A25.out.1
  go_wp2_with fail
  refine (oneLand_impl _ _ ⟨c, d, nW, Z, nG, G, nA, N, O⟩ id HV.out.1 _ HC.out).mono ?_
  rintro e w16 ⟨⟨u3, rfl, hO⟩, hb⟩
  rw [EU.out] at hO
  obtain ⟨a3W, k3W, a3G, k3G, a3A, k3A, rfl, _, _, _⟩ := hO.at
  obtain ⟨l3, el⟩ : ∃ l, l = w15.heap.size := ⟨_, rfl⟩
  obtain ⟨h3, eh⟩ : ∃ l, l = w16.heap.size := ⟨_, rfl⟩
  rw [← el, ← eh] at hO
  have el31 : l3 ≤ w15.heap.size := by omega
  have el32 : w15.heap.size ≤ l3 := by omega
  have eh31 : h3 ≤ w16.heap.size := by omega
  have eh32 : w16.heap.size ≤ h3 := by omega
  clear el eh
  clear yA0 yA1 yA2 yA3 yA4 hlA
  have y_w16 : w15.heap.size ≤ w16.heap.size := hb.size
  have B26 : Hid (Below w.heap.size w w16) := bthen B25.out hb
  have A26 : Hid (Bk w16 w.heap.size [.int .i64 c, .int .i64 d, .slice aW nW kW, .slice aG nG kG, .slice aA nA kA]) := A25.out.below hb
  have O1_26 : Hid (OwnW l1 h1 w16 (.agg #[.int .i64 U.c, .int .i64 U.d, .slice a1W U.nW k1W, .slice a1G U.nG k1G, .slice a1A U.nA k1A]) U) := O1_25.out.below hb
  have G1_26 : Hid (Bk w16 g1 [.int .i64 U.c, .int .i64 U.d, .slice a1W U.nW k1W, .slice a1G U.nG k1G, .slice a1A U.nA k1A]) := G1_25.out.below hb
  have X26 : Hid (Bk w16 gx [.int .i64 c, .int .i64 d, .slice (some ⟨d1, 0, none⟩) nW nW, .slice (some ⟨d2, 0, none⟩) nG nG, .slice (some ⟨d3, 0, none⟩) nA nA]) := X25.out.below hb
  have G2_26 : Hid (Bk w16 g2 [.int .i64 U.c, .int .i64 U.d, .slice a2W U.nW k2W, .slice a2G U.nG k2G, .slice a2A U.nA k2A]) := G2_25.out.below hb
  have O2_26 : Hid (OwnW l2 h2 w16 (.agg #[.int .i64 U.c, .int .i64 U.d, .slice a2W U.nW k2W, .slice a2G U.nG k2G, .slice a2A U.nA k2A]) U.marked) := O2_25.out.below hb
  clear B25 A25 O1_25 G1_25 X25 G2_25 O2_25
  clear hb HC
  have O3_27 : Hid (OwnW l3 h3 w16 (.agg #[.int .i64 U.c, .int .i64 U.d, .slice a3W U.nW k3W, .slice a3G U.nG k3G, .slice a3A U.nA k3A]) U) := hO
  clear hO
  have yA0 : w16.cell? ⟨w.heap.size, 0, none⟩ = some (.int .i64 c) := (A26.out.2 0 (by simp)).1
  have yA1 : w16.cell? ⟨w.heap.size, 1, none⟩ = some (.int .i64 d) := (A26.out.2 1 (by simp)).1
  have yA2 : w16.cell? ⟨w.heap.size, 2, none⟩ = some (.slice aW nW kW) := (A26.out.2 2 (by simp)).1
  have yA3 : w16.cell? ⟨w.heap.size, 3, none⟩ = some (.slice aG nG kG) := (A26.out.2 3 (by simp)).1
  have yA4 : w16.cell? ⟨w.heap.size, 4, none⟩ = some (.slice aA nA kA) := (A26.out.2 4 (by simp)).1
  have hlA : w.heap.size < w16.heap.size := A26.out.1
  have yG1_0 : w16.cell? ⟨g1, 0, none⟩ = some (.int .i64 U.c) := (G1_26.out.2 0 (by simp)).1
  have yG1_1 : w16.cell? ⟨g1, 1, none⟩ = some (.int .i64 U.d) := (G1_26.out.2 1 (by simp)).1
  have yG1_2 : w16.cell? ⟨g1, 2, none⟩ = some (.slice a1W U.nW k1W) := (G1_26.out.2 2 (by simp)).1
  have yG1_3 : w16.cell? ⟨g1, 3, none⟩ = some (.slice a1G U.nG k1G) := (G1_26.out.2 3 (by simp)).1
  have yG1_4 : w16.cell? ⟨g1, 4, none⟩ = some (.slice a1A U.nA k1A) := (G1_26.out.2 4 (by simp)).1
  have hlG1_ : g1 < w16.heap.size := G1_26.out.1
  have yX0 : w16.cell? ⟨gx, 0, none⟩ = some (.int .i64 c) := (X26.out.2 0 (by simp)).1
  have yX1 : w16.cell? ⟨gx, 1, none⟩ = some (.int .i64 d) := (X26.out.2 1 (by simp)).1
  have yX2 : w16.cell? ⟨gx, 2, none⟩ = some (.slice (some ⟨d1, 0, none⟩) nW nW) := (X26.out.2 2 (by simp)).1
  have yX3 : w16.cell? ⟨gx, 3, none⟩ = some (.slice (some ⟨d2, 0, none⟩) nG nG) := (X26.out.2 3 (by simp)).1
  have yX4 : w16.cell? ⟨gx, 4, none⟩ = some (.slice (some ⟨d3, 0, none⟩) nA nA) := (X26.out.2 4 (by simp)).1
  have hlX : gx < w16.heap.size := X26.out.1
  have yG2_0 : w16.cell? ⟨g2, 0, none⟩ = some (.int .i64 U.c) := (G2_26.out.2 0 (by simp)).1
  have yG2_1 : w16.cell? ⟨g2, 1, none⟩ = some (.int .i64 U.d) := (G2_26.out.2 1 (by simp)).1
  have yG2_2 : w16.cell? ⟨g2, 2, none⟩ = some (.slice a2W U.nW k2W) := (G2_26.out.2 2 (by simp)).1
  have yG2_3 : w16.cell? ⟨g2, 3, none⟩ = some (.slice a2G U.nG k2G) := (G2_26.out.2 3 (by simp)).1
  have yG2_4 : w16.cell? ⟨g2, 4, none⟩ = some (.slice a2A U.nA k2A) := (G2_26.out.2 4 (by simp)).1
  have hlG2_ : g2 < w16.heap.size := G2_26.out.1
  go_wp2_with fail
  obtain ⟨w17, e4⟩ : ∃ wq, wq = w16.alloc (.cells #[.int .i64 U.c, .int .i64 U.d, .slice a3W U.nW k3W, .slice a3G U.nG k3G, .slice a3A U.nA k3A] 34) := ⟨_, rfl⟩
  have hb4 : Below w16.heap.size w16 w17 := by rw [e4]; exact (Below.refl _ _).alloc (Nat.le_refl _) _
  have hG : Bk w17 w16.heap.size [.int .i64 U.c, .int .i64 U.d, .slice a3W U.nW k3W, .slice a3G U.nG k3G, .slice a3A U.nA k3A] := by rw [e4]; exact bk_new w16 34 [.int .i64 U.c, .int .i64 U.d, .slice a3W U.nW k3W, .slice a3G U.nG k3G, .slice a3A U.nA k3A]
  rw [← e4]
  clear e4
  clear yA0 yA1 yA2 yA3 yA4 hlA yG1_0 yG1_1 yG1_2 yG1_3 yG1_4 hlG1_ yX0 yX1 yX2 yX3 yX4 hlX yG2_0 yG2_1 yG2_2 yG2_3 yG2_4 hlG2_
  have y_w17 : w16.heap.size ≤ w17.heap.size := hb4.size
  have B28 : Hid (Below w.heap.size w w17) := bthen B26.out hb4
  have A28 : Hid (Bk w17 w.heap.size [.int .i64 c, .int .i64 d, .slice aW nW kW, .slice aG nG kG, .slice aA nA kA]) := A26.out.below hb4
  have O1_28 : Hid (OwnW l1 h1 w17 (.agg #[.int .i64 U.c, .int .i64 U.d, .slice a1W U.nW k1W, .slice a1G U.nG k1G, .slice a1A U.nA k1A]) U) := O1_26.out.below hb4
  have G1_28 : Hid (Bk w17 g1 [.int .i64 U.c, .int .i64 U.d, .slice a1W U.nW k1W, .slice a1G U.nG k1G, .slice a1A U.nA k1A]) := G1_26.out.below hb4
  have X28 : Hid (Bk w17 gx [.int .i64 c, .int .i64 d, .slice (some ⟨d1, 0, none⟩) nW nW, .slice (some ⟨d2, 0, none⟩) nG nG, .slice (some ⟨d3, 0, none⟩) nA nA]) := X26.out.below hb4
  have G2_28 : Hid (Bk w17 g2 [.int .i64 U.c, .int .i64 U.d, .slice a2W U.nW k2W, .slice a2G U.nG k2G, .slice a2A U.nA k2A]) := G2_26.out.below hb4
  have O2_28 : Hid (OwnW l2 h2 w17 (.agg #[.int .i64 U.c, .int .i64 U.d, .slice a2W U.nW k2W, .slice a2G U.nG k2G, .slice a2A U.nA k2A]) U.marked) := O2_26.out.below hb4
  have O3_28 : Hid (OwnW l3 h3 w17 (.agg #[.int .i64 U.c, .int .i64 U.d, .slice a3W U.nW k3W, .slice a3G U.nG k3G, .slice a3A U.nA k3A]) U) := O3_27.out.below hb4
  clear B26 A26 O1_26 G1_26 X26 G2_26 O2_26 O3_27
  clear hb4
  obtain ⟨g3, egx⟩ : ∃ g, g = w16.heap.size := ⟨_, rfl⟩
  rw [← egx] at hG ⊢
  have g3a : g3 ≤ w16.heap.size := by omega
  have g3b : w16.heap.size ≤ g3 := by omega
  clear egx
  have G3_29 : Hid (Bk w17 g3 [.int .i64 U.c, .int .i64 U.d, .slice a3W U.nW k3W, .slice a3G U.nG k3G, .slice a3A U.nA k3A]) := hG
  clear hG
  have g3c := G3_29.out.1
  refine (eqOne _ _ U (OV.more HU.out) _ (O3_28.out.at) (O1_28.out.at)).mono ?_
  rintro e w18 ⟨rfl, hb⟩
  have y_w18 : w17.heap.size ≤ w18.heap.size := hb.size
  have B30 : Hid (Below w.heap.size w w18) := bthen B28.out hb
  have A30 : Hid (Bk w18 w.heap.size [.int .i64 c, .int .i64 d, .slice aW nW kW, .slice aG nG kG, .slice aA nA kA]) := A28.out.below hb
  have O1_30 : Hid (OwnW l1 h1 w18 (.agg #[.int .i64 U.c, .int .i64 U.d, .slice a1W U.nW k1W, .slice a1G U.nG k1G, .slice a1A U.nA k1A]) U) := O1_28.out.below hb
  have G1_30 : Hid (Bk w18 g1 [.int .i64 U.c, .int .i64 U.d, .slice a1W U.nW k1W, .slice a1G U.nG k1G, .slice a1A U.nA k1A]) := G1_28.out.below hb
  have X30 : Hid (Bk w18 gx [.int .i64 c, .int .i64 d, .slice (some ⟨d1, 0, none⟩) nW nW, .slice (some ⟨d2, 0, none⟩) nG nG, .slice (some ⟨d3, 0, none⟩) nA nA]) := X28.out.below hb
  have G2_30 : Hid (Bk w18 g2 [.int .i64 U.c, .int .i64 U.d, .slice a2W U.nW k2W, .slice a2G U.nG k2G, .slice a2A U.nA k2A]) := G2_28.out.below hb
  have O2_30 : Hid (OwnW l2 h2 w18 (.agg #[.int .i64 U.c, .int .i64 U.d, .slice a2W U.nW k2W, .slice a2G U.nG k2G, .slice a2A U.nA k2A]) U.marked) := O2_28.out.below hb
  have O3_30 : Hid (OwnW l3 h3 w18 (.agg #[.int .i64 U.c, .int .i64 U.d, .slice a3W U.nW k3W, .slice a3G U.nG k3G, .slice a3A U.nA k3A]) U) := O3_28.out.below hb
  have G3_30 : Hid (Bk w18 g3 [.int .i64 U.c, .int .i64 U.d, .slice a3W U.nW k3W, .slice a3G U.nG k3G, .slice a3A U.nA k3A]) := G3_29.out.below hb
  clear B28 A28 O1_28 G1_28 X28 G2_28 O2_28 O3_28 G3_29
  clear hb
  have yG2_0 : w18.cell? ⟨g2, 0, none⟩ = some (.int .i64 U.c) := (G2_30.out.2 0 (by simp)).1
  have yG2_1 : w18.cell? ⟨g2, 1, none⟩ = some (.int .i64 U.d) := (G2_30.out.2 1 (by simp)).1
  have yG2_2 : w18.cell? ⟨g2, 2, none⟩ = some (.slice a2W U.nW k2W) := (G2_30.out.2 2 (by simp)).1
  have yG2_3 : w18.cell? ⟨g2, 3, none⟩ = some (.slice a2G U.nG k2G) := (G2_30.out.2 3 (by simp)).1
  have yG2_4 : w18.cell? ⟨g2, 4, none⟩ = some (.slice a2A U.nA k2A) := (G2_30.out.2 4 (by simp)).1
  have hlG2_ : g2 < w18.heap.size := G2_30.out.1
  go_wp2_with fail
  refine (heldOne l2 h2 _ U HU.out _ (by omega) O2_30.out).mono ?_
  rintro e w19 ⟨rfl, hb⟩
  clear yG2_0 yG2_1 yG2_2 yG2_3 yG2_4 hlG2_
  have y_w19 : w18.heap.size ≤ w19.heap.size := hb.size
  have B31 : Hid (Below w.heap.size w w19) := bthen B30.out hb
  have A31 : Hid (Bk w19 w.heap.size [.int .i64 c, .int .i64 d, .slice aW nW kW, .slice aG nG kG, .slice aA nA kA]) := A30.out.below hb
  have O1_31 : Hid (OwnW l1 h1 w19 (.agg #[.int .i64 U.c, .int .i64 U.d, .slice a1W U.nW k1W, .slice a1G U.nG k1G, .slice a1A U.nA k1A]) U) := O1_30.out.below hb
  have G1_31 : Hid (Bk w19 g1 [.int .i64 U.c, .int .i64 U.d, .slice a1W U.nW k1W, .slice a1G U.nG k1G, .slice a1A U.nA k1A]) := G1_30.out.below hb
  have X31 : Hid (Bk w19 gx [.int .i64 c, .int .i64 d, .slice (some ⟨d1, 0, none⟩) nW nW, .slice (some ⟨d2, 0, none⟩) nG nG, .slice (some ⟨d3, 0, none⟩) nA nA]) := X30.out.below hb
  have G2_31 : Hid (Bk w19 g2 [.int .i64 U.c, .int .i64 U.d, .slice a2W U.nW k2W, .slice a2G U.nG k2G, .slice a2A U.nA k2A]) := G2_30.out.below hb
  have O2_31 : Hid (OwnW l2 h2 w19 (.agg #[.int .i64 U.c, .int .i64 U.d, .slice a2W U.nW k2W, .slice a2G U.nG k2G, .slice a2A U.nA k2A]) U.marked) := O2_30.out.below hb
  have O3_31 : Hid (OwnW l3 h3 w19 (.agg #[.int .i64 U.c, .int .i64 U.d, .slice a3W U.nW k3W, .slice a3G U.nG k3G, .slice a3A U.nA k3A]) U) := O3_30.out.below hb
  have G3_31 : Hid (Bk w19 g3 [.int .i64 U.c, .int .i64 U.d, .slice a3W U.nW k3W, .slice a3G U.nG k3G, .slice a3A U.nA k3A]) := G3_30.out.below hb
  clear B30 A30 O1_30 G1_30 X30 G2_30 O2_30 O3_30 G3_30
  clear hb
  rw [← EN9.out]
  go_wp2
  go_ret
  exact ⟨rfl, B31.out⟩
end Go.Proofs.Ytoickljpjlhkoaa
