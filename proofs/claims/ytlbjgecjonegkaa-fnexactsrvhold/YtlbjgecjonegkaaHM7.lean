/- SrvOk of the law FnExactSrvHold; conditions: the holds and ghosts lie in memory. -/
import Derived.Test.YtlbjgecjonegkaaHM6
namespace Go.Proofs.Ytlbjgecjonegkaa
open Go.RowKit Go.Deep
set_option linter.unusedVariables false

theorem OwnH.open {lo hi : Nat} {w : World} {v : Value} {X : HV} (h : OwnH lo hi w v X) : ∃ aW akW aO akO aX akX aI akI, v = .agg #[.int .i64 X.ag, .int .i64 X.ct, .int .i64 X.V.c, .slice aW X.V.nW akW, .int .i64 X.V.g, .slice aO X.V.nO akO, .slice aX X.V.nX akX, .slice aI X.V.nI akI] := by
  obtain ⟨aW, akW, aO, akO, aX, akX, aI, akI, e, _⟩ := h.at
  exact ⟨aW, akW, aO, akO, aX, akX, aI, akI, e⟩
theorem short_up {V : CV} (h : V.short 1048576) : V.short 2000000 := ⟨Nat.le_trans h.1 (by omega), Nat.le_trans h.2.1 (by omega), fun k hk => Nat.le_trans (h.2.2.1 k hk) (by omega), Nat.le_trans h.2.2.2.1 (by omega), Nat.le_trans h.2.2.2.2 (by omega)⟩
theorem hold_specX (up : Bool) (B n : Nat) (F : Nat → HV) (aG : Option Addr) (g cG : Nat) (cell : Int) (X : HV) (bb : Bool) (eR : goH F cell n 0 = (X, bb)) (hn : n ≤ 1048576) (hS : ∀ k, k < n → (F k).V.short 1048576) (w : World) (hB : B < w.heap.size) (h : HOwn w B n F n) :
    Calls Try.prog 11 #[.agg #[.bool up, .slice (some ⟨B, 0, none⟩) n n, .slice aG g cG], .int .i64 cell] w fun e w' => (∃ v, e = .returned (.tuple #[v, .bool bb]) ∧ OwnH w.heap.size w'.heap.size w' v X) ∧ Below w.heap.size w w' := by
  have := hold_spec up B n F aG g cG cell hn hS w hB h
  rw [eR] at this
  exact this
theorem hold_implX (up : Bool) (B n : Nat) (F : Nat → HV) (aG : Option Addr) (g cG : Nat) (cell : Int) (X : HV) (bb : Bool) (eR : goH F cell n 0 = (X, bb)) (hn : n ≤ 1048576) (hS : ∀ k, k < n → (F k).V.short 1048576) (w : World) (hB : B < w.heap.size) (h : HOwn w B n F n) :
    Calls Try.prog 12 #[.agg #[.bool up, .slice (some ⟨B, 0, none⟩) n n, .slice aG g cG], .int .i64 cell] w fun e w' => (∃ v, e = .returned (.tuple #[v, .bool bb]) ∧ OwnH w.heap.size w'.heap.size w' v X) ∧ Below w.heap.size w w' := by
  have := hold_impl up B n F aG g cG cell hn hS w hB h
  rw [eR] at this
  exact this

set_option maxRecDepth 100000 in
set_option maxHeartbeats 8000000 in
theorem law_srvHold (up : Bool) (aH : Option Addr) (n cH : Nat) (F : Nat → HV) (aG : Option Addr) (g cG : Nat) (Z : Nat → Nat → Int) (hn : n ≤ maxLen) (hg : g ≤ maxLen) (hN : ∀ k, k < n → (F k).V.short maxLen) (cell : Int) (w : World) (hH : HRow w aH n F) (hG : P7.RowK w aG g Z) :
    Calls Try.prog 4 #[.agg #[.bool up, .slice aH n cH, .slice aG g cG], .int .i64 cell] w fun e w' => e = .returned (.bool true) ∧ Below w.heap.size w w' := by
  have HH : Hid (HRow w aH n F) := hH
  have HG : Hid (P7.RowK w aG g Z) := hG
  have HN : Hid (∀ k, k < n → (F k).V.short maxLen) := hN
  clear hH hG hN
  have hn' : (n : Int) ≤ 9223372036854775807 := by unfold maxLen at hn; omega
  have hg' : (g : Int) ≤ 9223372036854775807 := by unfold maxLen at hg; omega
  clear hn hg
  go_enter Try.func4, Try.ntmps4
  go_wp2_with fail
  obtain ⟨w0, e0⟩ : ∃ w0, w0 = w.alloc (.cells #[.bool up, .slice aH n cH, .slice aG g cG] 27) := ⟨_, rfl⟩
  have B1 : Hid (Below w.heap.size w w0) := by rw [e0]; exact (Below.refl _ _).alloc (by simp) _
  have A2 : Hid (Bk w0 w.heap.size [.bool up, .slice aH n cH, .slice aG g cG]) := by rw [e0]; exact bk_new w 27 [.bool up, .slice aH n cH, .slice aG g cG]
  rw [← e0]
  clear e0
  refine (szSrv3 up aH n cH F aG g cG hn' hg' HN.out _ (HH.out.below B1.out)).mono ?_
  rintro e w1 ⟨⟨r, rfl, hr⟩, hb1⟩
  have B3 : Hid (Below w.heap.size w w1) := bthen B1.out hb1
  have A3 : Hid (Bk w1 w.heap.size [.bool up, .slice aH n cH, .slice aG g cG]) := A2.out.below hb1
  clear B1 A2
  clear hb1
  have zA : w.heap.size < w1.heap.size := A3.out.1
  rcases hr with hr | ⟨r0, hsum⟩
  · go_wp2
    go_ret
    exact ⟨rfl, B3.out⟩
  have hr2 : ¬ r < 0 := by omega
  have hn2 : n ≤ 1048576 := by omega
  have hg2 : g ≤ 1048576 := by omega
  have HZ : Hid (∀ k, k < n → szV (F k).V ≤ 1048576) := fun k hk => by have := sumH_at F n k hk; omega
  have HS : Hid (∀ k, k < n → (F k).V.short 1048576) := fun k hk => short_of (HZ.out k hk)
  obtain ⟨X, bb, eR⟩ : ∃ X bb, goH F cell n 0 = (X, bb) := ⟨_, _, rfl⟩
  have ER : Hid (goH F cell n 0 = (X, bb)) := eR
  have hX : szV X.V ≤ 1048576 := by have := goH_in F cell n HZ.out n 0 (by omega); rw [eR] at this; exact this
  have SX : Hid (X.V.short 2000000) := short_up (short_of hX)
  have FX : Hid X.V.few := few_sum (short_of hX) (by unfold szV at hX; omega)
  clear eR hX
  have yA0 : w1.cell? ⟨w.heap.size, 0, none⟩ = some (.bool up) := (A3.out.2 0 (by simp)).1
  have yA1 : w1.cell? ⟨w.heap.size, 1, none⟩ = some (.slice aH n cH) := (A3.out.2 1 (by simp)).1
  have yA2 : w1.cell? ⟨w.heap.size, 2, none⟩ = some (.slice aG g cG) := (A3.out.2 2 (by simp)).1
  have hlA : w.heap.size < w1.heap.size := A3.out.1
  go_wp2_with fail
  refine (toSrv up aH n cH F aG g cG Z hn2 hg2 HS.out _ (HH.out.below B3.out) (P7.row_below HG.out B3.out)).mono ?_
  rintro e w2 ⟨⟨B1, G1, rfl, o1, k1, l1, m1, p1, q1⟩, hb⟩
  clear yA0 yA1 yA2 hlA
  have B4 : Hid (Below w.heap.size w w2) := bthen B3.out hb
  have A4 : Hid (Bk w2 w.heap.size [.bool up, .slice aH n cH, .slice aG g cG]) := A3.out.below hb
  clear B3 A3
  have zzw2a : w1.heap.size ≤ w2.heap.size := hb.size
  clear hb
  have yA0 : w2.cell? ⟨w.heap.size, 0, none⟩ = some (.bool up) := (A4.out.2 0 (by simp)).1
  have yA1 : w2.cell? ⟨w.heap.size, 1, none⟩ = some (.slice aH n cH) := (A4.out.2 1 (by simp)).1
  have yA2 : w2.cell? ⟨w.heap.size, 2, none⟩ = some (.slice aG g cG) := (A4.out.2 2 (by simp)).1
  have hlA : w.heap.size < w2.heap.size := A4.out.1
  go_wp2_with fail
  refine (hold_specX up B1 n F (some ⟨G1, 0, none⟩) g g cell X bb ER.out hn2 HS.out _ l1 o1).mono ?_
  rintro e w3 ⟨⟨v1, rfl, hO⟩, hb⟩
  clear yA0 yA1 yA2 hlA
  have B5 : Hid (Below w.heap.size w w3) := bthen B4.out hb
  have A5 : Hid (Bk w3 w.heap.size [.bool up, .slice aH n cH, .slice aG g cG]) := A4.out.below hb
  clear B4 A4
  have zzw3a : w2.heap.size ≤ w3.heap.size := hb.size
  clear hb
  obtain ⟨aW, akW, aO, akO, aX, akX, aI, akI, rfl⟩ := hO.open
  obtain ⟨lo1, el1⟩ : ∃ y, y = w2.heap.size := ⟨_, rfl⟩
  obtain ⟨hi1, eh1⟩ : ∃ y, y = w3.heap.size := ⟨_, rfl⟩
  rw [← el1, ← eh1] at hO
  have yl1 : w2.heap.size ≤ lo1 := Nat.le_of_eq el1.symm
  have yh1 : hi1 ≤ w3.heap.size := Nat.le_of_eq eh1
  clear el1 eh1 o1 k1 l1 m1 p1 q1
  have O16 : Hid (OwnH lo1 hi1 w3 (.agg #[.int .i64 X.ag, .int .i64 X.ct, .int .i64 X.V.c, .slice aW X.V.nW akW, .int .i64 X.V.g, .slice aO X.V.nO akO, .slice aX X.V.nX akX, .slice aI X.V.nI akI]) X) := hO
  clear hO
  have yA0 : w3.cell? ⟨w.heap.size, 0, none⟩ = some (.bool up) := (A5.out.2 0 (by simp)).1
  have yA1 : w3.cell? ⟨w.heap.size, 1, none⟩ = some (.slice aH n cH) := (A5.out.2 1 (by simp)).1
  have yA2 : w3.cell? ⟨w.heap.size, 2, none⟩ = some (.slice aG g cG) := (A5.out.2 2 (by simp)).1
  have hlA : w.heap.size < w3.heap.size := A5.out.1
  go_wp2_with fail
  obtain ⟨w4, eb⟩ : ∃ y, y = w3.alloc (.cells #[.int .i64 X.ag, .int .i64 X.ct, .int .i64 X.V.c, .slice aW X.V.nW akW, .int .i64 X.V.g, .slice aO X.V.nO akO, .slice aX X.V.nX akX, .slice aI X.V.nI akI] 45) := ⟨_, rfl⟩
  rw [← eb]
  have hb : Below w3.heap.size w3 w4 := by rw [eb]; exact (Below.refl _ _).alloc (Nat.le_refl _) _
  have Xb : Bk w4 w3.heap.size [.int .i64 X.ag, .int .i64 X.ct, .int .i64 X.V.c, .slice aW X.V.nW akW, .int .i64 X.V.g, .slice aO X.V.nO akO, .slice aX X.V.nX akX, .slice aI X.V.nI akI] := by rw [eb]; exact bk_new w3 45 [.int .i64 X.ag, .int .i64 X.ct, .int .i64 X.V.c, .slice aW X.V.nW akW, .int .i64 X.V.g, .slice aO X.V.nO akO, .slice aX X.V.nX akX, .slice aI X.V.nI akI]
  clear eb
  clear yA0 yA1 yA2 hlA
  have B7 : Hid (Below w.heap.size w w4) := bthen B5.out hb
  have A7 : Hid (Bk w4 w.heap.size [.bool up, .slice aH n cH, .slice aG g cG]) := A5.out.below hb
  have O17 : Hid (OwnH lo1 hi1 w4 (.agg #[.int .i64 X.ag, .int .i64 X.ct, .int .i64 X.V.c, .slice aW X.V.nW akW, .int .i64 X.V.g, .slice aO X.V.nO akO, .slice aX X.V.nX akX, .slice aI X.V.nI akI]) X) := O16.out.below (by omega) hb
  clear B5 A5 O16
  obtain ⟨gP, egP⟩ : ∃ y, y = w3.heap.size := ⟨_, rfl⟩
  rw [← egP] at Xb
  have ygPa : gP ≤ w3.heap.size := Nat.le_of_eq egP
  have ygPb : w3.heap.size ≤ gP := Nat.le_of_eq egP.symm
  have ygPc : gP < w4.heap.size := Xb.1
  have P8 : Hid (Bk w4 gP [.int .i64 X.ag, .int .i64 X.ct, .int .i64 X.V.c, .slice aW X.V.nW akW, .int .i64 X.V.g, .slice aO X.V.nO akO, .slice aX X.V.nX akX, .slice aI X.V.nI akI]) := Xb
  rw [← egP]
  clear Xb hb egP
  refine (toSrvT up aH n cH F aG g cG Z hn2 hg2 HS.out _ (HH.out.below B7.out) (P7.row_below HG.out B7.out)).mono ?_
  rintro e w5 ⟨⟨B2, G2, rfl, o2, k2, l2, m2, p2, q2⟩, hb⟩
  have B9 : Hid (Below w.heap.size w w5) := bthen B7.out hb
  have A9 : Hid (Bk w5 w.heap.size [.bool up, .slice aH n cH, .slice aG g cG]) := A7.out.below hb
  have O19 : Hid (OwnH lo1 hi1 w5 (.agg #[.int .i64 X.ag, .int .i64 X.ct, .int .i64 X.V.c, .slice aW X.V.nW akW, .int .i64 X.V.g, .slice aO X.V.nO akO, .slice aX X.V.nX akX, .slice aI X.V.nI akI]) X) := O17.out.below (by omega) hb
  have P9 : Hid (Bk w5 gP [.int .i64 X.ag, .int .i64 X.ct, .int .i64 X.V.c, .slice aW X.V.nW akW, .int .i64 X.V.g, .slice aO X.V.nO akO, .slice aX X.V.nX akX, .slice aI X.V.nI akI]) := P8.out.below hb
  clear B7 A7 O17 P8
  have zzw5a : w4.heap.size ≤ w5.heap.size := hb.size
  clear hb
  have H10 : Hid (HOwT w5 B2 n F G2) := o2
  have K11 : Hid (P7.OwnK w5 G2 g Z g) := k2
  have LB12 : Hid (B2 < w5.heap.size) := l2
  have LG13 : Hid (G2 < w5.heap.size) := m2
  have ym2 := m2
  clear o2 k2 l2 m2
  have yA0 : w5.cell? ⟨w.heap.size, 0, none⟩ = some (.bool up) := (A9.out.2 0 (by simp)).1
  have yA1 : w5.cell? ⟨w.heap.size, 1, none⟩ = some (.slice aH n cH) := (A9.out.2 1 (by simp)).1
  have yA2 : w5.cell? ⟨w.heap.size, 2, none⟩ = some (.slice aG g cG) := (A9.out.2 2 (by simp)).1
  have hlA : w.heap.size < w5.heap.size := A9.out.1
  have yP0 : w5.cell? ⟨gP, 0, none⟩ = some (.int .i64 X.ag) := (P9.out.2 0 (by simp)).1
  have yP1 : w5.cell? ⟨gP, 1, none⟩ = some (.int .i64 X.ct) := (P9.out.2 1 (by simp)).1
  have yP2 : w5.cell? ⟨gP, 2, none⟩ = some (.int .i64 X.V.c) := (P9.out.2 2 (by simp)).1
  have yP3 : w5.cell? ⟨gP, 3, none⟩ = some (.slice aW X.V.nW akW) := (P9.out.2 3 (by simp)).1
  have yP4 : w5.cell? ⟨gP, 4, none⟩ = some (.int .i64 X.V.g) := (P9.out.2 4 (by simp)).1
  have yP5 : w5.cell? ⟨gP, 5, none⟩ = some (.slice aO X.V.nO akO) := (P9.out.2 5 (by simp)).1
  have yP6 : w5.cell? ⟨gP, 6, none⟩ = some (.slice aX X.V.nX akX) := (P9.out.2 6 (by simp)).1
  have yP7 : w5.cell? ⟨gP, 7, none⟩ = some (.slice aI X.V.nI akI) := (P9.out.2 7 (by simp)).1
  have hlP : gP < w5.heap.size := P9.out.1
  go_wp2_with fail
  obtain ⟨w6, eb⟩ : ∃ y, y = w5.alloc (.cells #[.bool up, .slice (some ⟨B2, 0, none⟩) n n, .slice (some ⟨G2, 0, none⟩) g g] 35) := ⟨_, rfl⟩
  rw [← eb]
  have hb : Below w5.heap.size w5 w6 := by rw [eb]; exact (Below.refl _ _).alloc (Nat.le_refl _) _
  have Xb : Bk w6 w5.heap.size [.bool up, .slice (some ⟨B2, 0, none⟩) n n, .slice (some ⟨G2, 0, none⟩) g g] := by rw [eb]; exact bk_new w5 35 [.bool up, .slice (some ⟨B2, 0, none⟩) n n, .slice (some ⟨G2, 0, none⟩) g g]
  clear eb
  clear yA0 yA1 yA2 hlA yP0 yP1 yP2 yP3 yP4 yP5 yP6 yP7 hlP
  have B14 : Hid (Below w.heap.size w w6) := bthen B9.out hb
  have A14 : Hid (Bk w6 w.heap.size [.bool up, .slice aH n cH, .slice aG g cG]) := A9.out.below hb
  have O114 : Hid (OwnH lo1 hi1 w6 (.agg #[.int .i64 X.ag, .int .i64 X.ct, .int .i64 X.V.c, .slice aW X.V.nW akW, .int .i64 X.V.g, .slice aO X.V.nO akO, .slice aX X.V.nX akX, .slice aI X.V.nI akI]) X) := O19.out.below (by omega) hb
  have P14 : Hid (Bk w6 gP [.int .i64 X.ag, .int .i64 X.ct, .int .i64 X.V.c, .slice aW X.V.nW akW, .int .i64 X.V.g, .slice aO X.V.nO akO, .slice aX X.V.nX akX, .slice aI X.V.nI akI]) := P9.out.below hb
  have H14 : Hid (HOwT w6 B2 n F G2) := H10.out.below LB12.out hb
  have K14 : Hid (P7.OwnK w6 G2 g Z g) := P7.own_below K11.out LG13.out hb
  have LB14 : Hid (B2 < w6.heap.size) := Nat.lt_of_lt_of_le LB12.out hb.size
  have LG14 : Hid (G2 < w6.heap.size) := Nat.lt_of_lt_of_le LG13.out hb.size
  clear B9 A9 O19 P9 H10 K11 LB12 LG13
  obtain ⟨gX0, egX0⟩ : ∃ y, y = w5.heap.size := ⟨_, rfl⟩
  rw [← egX0] at Xb
  have ygX0a : gX0 ≤ w5.heap.size := Nat.le_of_eq egX0
  have ygX0b : w5.heap.size ≤ gX0 := Nat.le_of_eq egX0.symm
  have ygX0c : gX0 < w6.heap.size := Xb.1
  have X015 : Hid (Bk w6 gX0 [.bool up, .slice (some ⟨B2, 0, none⟩) n n, .slice (some ⟨G2, 0, none⟩) g g]) := Xb
  rw [← egX0]
  clear Xb hb egX0
  refine (hold_implX up B2 n F (some ⟨G2, 0, none⟩) g g cell X bb ER.out hn2 HS.out _ LB14.out H14.out.own).mono ?_
  rintro e w7 ⟨⟨v2, rfl, hO⟩, hb⟩
  have B16 : Hid (Below w.heap.size w w7) := bthen B14.out hb
  have A16 : Hid (Bk w7 w.heap.size [.bool up, .slice aH n cH, .slice aG g cG]) := A14.out.below hb
  have O116 : Hid (OwnH lo1 hi1 w7 (.agg #[.int .i64 X.ag, .int .i64 X.ct, .int .i64 X.V.c, .slice aW X.V.nW akW, .int .i64 X.V.g, .slice aO X.V.nO akO, .slice aX X.V.nX akX, .slice aI X.V.nI akI]) X) := O114.out.below (by omega) hb
  have P16 : Hid (Bk w7 gP [.int .i64 X.ag, .int .i64 X.ct, .int .i64 X.V.c, .slice aW X.V.nW akW, .int .i64 X.V.g, .slice aO X.V.nO akO, .slice aX X.V.nX akX, .slice aI X.V.nI akI]) := P14.out.below hb
  have H16 : Hid (HOwT w7 B2 n F G2) := H14.out.below LB14.out hb
  have K16 : Hid (P7.OwnK w7 G2 g Z g) := P7.own_below K14.out LG14.out hb
  have LB16 : Hid (B2 < w7.heap.size) := Nat.lt_of_lt_of_le LB14.out hb.size
  have LG16 : Hid (G2 < w7.heap.size) := Nat.lt_of_lt_of_le LG14.out hb.size
  have X016 : Hid (Bk w7 gX0 [.bool up, .slice (some ⟨B2, 0, none⟩) n n, .slice (some ⟨G2, 0, none⟩) g g]) := X015.out.below hb
  clear B14 A14 O114 P14 H14 K14 LB14 LG14 X015
  have zzw7a : w6.heap.size ≤ w7.heap.size := hb.size
  clear hb
  obtain ⟨bW, bkW, bO, bkO, bX, bkX, bI, bkI, rfl⟩ := hO.open
  obtain ⟨lo2, el2⟩ : ∃ y, y = w6.heap.size := ⟨_, rfl⟩
  obtain ⟨hi2, eh2⟩ : ∃ y, y = w7.heap.size := ⟨_, rfl⟩
  rw [← el2, ← eh2] at hO
  have yl2 : w6.heap.size ≤ lo2 := Nat.le_of_eq el2.symm
  have yh2 : hi2 ≤ w7.heap.size := Nat.le_of_eq eh2
  have yh2b : w7.heap.size ≤ hi2 := Nat.le_of_eq eh2.symm
  have ylh2 : lo2 ≤ hi2 := by omega
  clear el2 eh2
  have O217 : Hid (OwnH lo2 hi2 w7 (.agg #[.int .i64 X.ag, .int .i64 X.ct, .int .i64 X.V.c, .slice bW X.V.nW bkW, .int .i64 X.V.g, .slice bO X.V.nO bkO, .slice bX X.V.nX bkX, .slice bI X.V.nI bkI]) X) := hO
  clear hO
  have yA0 : w7.cell? ⟨w.heap.size, 0, none⟩ = some (.bool up) := (A16.out.2 0 (by simp)).1
  have yA1 : w7.cell? ⟨w.heap.size, 1, none⟩ = some (.slice aH n cH) := (A16.out.2 1 (by simp)).1
  have yA2 : w7.cell? ⟨w.heap.size, 2, none⟩ = some (.slice aG g cG) := (A16.out.2 2 (by simp)).1
  have hlA : w.heap.size < w7.heap.size := A16.out.1
  have yP0 : w7.cell? ⟨gP, 0, none⟩ = some (.int .i64 X.ag) := (P16.out.2 0 (by simp)).1
  have yP1 : w7.cell? ⟨gP, 1, none⟩ = some (.int .i64 X.ct) := (P16.out.2 1 (by simp)).1
  have yP2 : w7.cell? ⟨gP, 2, none⟩ = some (.int .i64 X.V.c) := (P16.out.2 2 (by simp)).1
  have yP3 : w7.cell? ⟨gP, 3, none⟩ = some (.slice aW X.V.nW akW) := (P16.out.2 3 (by simp)).1
  have yP4 : w7.cell? ⟨gP, 4, none⟩ = some (.int .i64 X.V.g) := (P16.out.2 4 (by simp)).1
  have yP5 : w7.cell? ⟨gP, 5, none⟩ = some (.slice aO X.V.nO akO) := (P16.out.2 5 (by simp)).1
  have yP6 : w7.cell? ⟨gP, 6, none⟩ = some (.slice aX X.V.nX akX) := (P16.out.2 6 (by simp)).1
  have yP7 : w7.cell? ⟨gP, 7, none⟩ = some (.slice aI X.V.nI akI) := (P16.out.2 7 (by simp)).1
  have hlP : gP < w7.heap.size := P16.out.1
  have yX00 : w7.cell? ⟨gX0, 0, none⟩ = some (.bool up) := (X016.out.2 0 (by simp)).1
  have yX01 : w7.cell? ⟨gX0, 1, none⟩ = some (.slice (some ⟨B2, 0, none⟩) n n) := (X016.out.2 1 (by simp)).1
  have yX02 : w7.cell? ⟨gX0, 2, none⟩ = some (.slice (some ⟨G2, 0, none⟩) g g) := (X016.out.2 2 (by simp)).1
  have hlX0 : gX0 < w7.heap.size := X016.out.1
  go_wp2_with fail
  obtain ⟨w8, eb⟩ : ∃ y, y = w7.alloc (.cells #[.int .i64 X.ag, .int .i64 X.ct, .int .i64 X.V.c, .slice bW X.V.nW bkW, .int .i64 X.V.g, .slice bO X.V.nO bkO, .slice bX X.V.nX bkX, .slice bI X.V.nI bkI] 45) := ⟨_, rfl⟩
  rw [← eb]
  have hb : Below w7.heap.size w7 w8 := by rw [eb]; exact (Below.refl _ _).alloc (Nat.le_refl _) _
  have Xb : Bk w8 w7.heap.size [.int .i64 X.ag, .int .i64 X.ct, .int .i64 X.V.c, .slice bW X.V.nW bkW, .int .i64 X.V.g, .slice bO X.V.nO bkO, .slice bX X.V.nX bkX, .slice bI X.V.nI bkI] := by rw [eb]; exact bk_new w7 45 [.int .i64 X.ag, .int .i64 X.ct, .int .i64 X.V.c, .slice bW X.V.nW bkW, .int .i64 X.V.g, .slice bO X.V.nO bkO, .slice bX X.V.nX bkX, .slice bI X.V.nI bkI]
  clear eb
  clear yA0 yA1 yA2 hlA yP0 yP1 yP2 yP3 yP4 yP5 yP6 yP7 hlP yX00 yX01 yX02 hlX0
  have B18 : Hid (Below w.heap.size w w8) := bthen B16.out hb
  have A18 : Hid (Bk w8 w.heap.size [.bool up, .slice aH n cH, .slice aG g cG]) := A16.out.below hb
  have O118 : Hid (OwnH lo1 hi1 w8 (.agg #[.int .i64 X.ag, .int .i64 X.ct, .int .i64 X.V.c, .slice aW X.V.nW akW, .int .i64 X.V.g, .slice aO X.V.nO akO, .slice aX X.V.nX akX, .slice aI X.V.nI akI]) X) := O116.out.below (by omega) hb
  have P18 : Hid (Bk w8 gP [.int .i64 X.ag, .int .i64 X.ct, .int .i64 X.V.c, .slice aW X.V.nW akW, .int .i64 X.V.g, .slice aO X.V.nO akO, .slice aX X.V.nX akX, .slice aI X.V.nI akI]) := P16.out.below hb
  have H18 : Hid (HOwT w8 B2 n F G2) := H16.out.below LB16.out hb
  have K18 : Hid (P7.OwnK w8 G2 g Z g) := P7.own_below K16.out LG16.out hb
  have LB18 : Hid (B2 < w8.heap.size) := Nat.lt_of_lt_of_le LB16.out hb.size
  have LG18 : Hid (G2 < w8.heap.size) := Nat.lt_of_lt_of_le LG16.out hb.size
  have X018 : Hid (Bk w8 gX0 [.bool up, .slice (some ⟨B2, 0, none⟩) n n, .slice (some ⟨G2, 0, none⟩) g g]) := X016.out.below hb
  have O218 : Hid (OwnH lo2 hi2 w8 (.agg #[.int .i64 X.ag, .int .i64 X.ct, .int .i64 X.V.c, .slice bW X.V.nW bkW, .int .i64 X.V.g, .slice bO X.V.nO bkO, .slice bX X.V.nX bkX, .slice bI X.V.nI bkI]) X) := O217.out.below (by omega) hb
  clear B16 A16 O116 P16 H16 K16 LB16 LG16 X016 O217
  obtain ⟨gQ, egQ⟩ : ∃ y, y = w7.heap.size := ⟨_, rfl⟩
  rw [← egQ] at Xb
  have ygQa : gQ ≤ w7.heap.size := Nat.le_of_eq egQ
  have ygQb : w7.heap.size ≤ gQ := Nat.le_of_eq egQ.symm
  have ygQc : gQ < w8.heap.size := Xb.1
  have Q19 : Hid (Bk w8 gQ [.int .i64 X.ag, .int .i64 X.ct, .int .i64 X.V.c, .slice bW X.V.nW bkW, .int .i64 X.V.g, .slice bO X.V.nO bkO, .slice bX X.V.nX bkX, .slice bI X.V.nI bkI]) := Xb
  rw [← egQ]
  clear Xb hb egQ
  refine (eqHold _ _ X.ag X.ct X.V SX.out _ O218.out.at O118.out.at).mono ?_
  rintro e w9 ⟨rfl, hb⟩
  have B20 : Hid (Below w.heap.size w w9) := bthen B18.out hb
  have A20 : Hid (Bk w9 w.heap.size [.bool up, .slice aH n cH, .slice aG g cG]) := A18.out.below hb
  have O120 : Hid (OwnH lo1 hi1 w9 (.agg #[.int .i64 X.ag, .int .i64 X.ct, .int .i64 X.V.c, .slice aW X.V.nW akW, .int .i64 X.V.g, .slice aO X.V.nO akO, .slice aX X.V.nX akX, .slice aI X.V.nI akI]) X) := O118.out.below (by omega) hb
  have P20 : Hid (Bk w9 gP [.int .i64 X.ag, .int .i64 X.ct, .int .i64 X.V.c, .slice aW X.V.nW akW, .int .i64 X.V.g, .slice aO X.V.nO akO, .slice aX X.V.nX akX, .slice aI X.V.nI akI]) := P18.out.below hb
  have H20 : Hid (HOwT w9 B2 n F G2) := H18.out.below LB18.out hb
  have K20 : Hid (P7.OwnK w9 G2 g Z g) := P7.own_below K18.out LG18.out hb
  have LB20 : Hid (B2 < w9.heap.size) := Nat.lt_of_lt_of_le LB18.out hb.size
  have LG20 : Hid (G2 < w9.heap.size) := Nat.lt_of_lt_of_le LG18.out hb.size
  have X020 : Hid (Bk w9 gX0 [.bool up, .slice (some ⟨B2, 0, none⟩) n n, .slice (some ⟨G2, 0, none⟩) g g]) := X018.out.below hb
  have O220 : Hid (OwnH lo2 hi2 w9 (.agg #[.int .i64 X.ag, .int .i64 X.ct, .int .i64 X.V.c, .slice bW X.V.nW bkW, .int .i64 X.V.g, .slice bO X.V.nO bkO, .slice bX X.V.nX bkX, .slice bI X.V.nI bkI]) X) := O218.out.below (by omega) hb
  have Q20 : Hid (Bk w9 gQ [.int .i64 X.ag, .int .i64 X.ct, .int .i64 X.V.c, .slice bW X.V.nW bkW, .int .i64 X.V.g, .slice bO X.V.nO bkO, .slice bX X.V.nX bkX, .slice bI X.V.nI bkI]) := Q19.out.below hb
  clear B18 A18 O118 P18 H18 K18 LB18 LG18 X018 O218 Q19
  have zzw9a : w8.heap.size ≤ w9.heap.size := hb.size
  clear hb
  have yA0 : w9.cell? ⟨w.heap.size, 0, none⟩ = some (.bool up) := (A20.out.2 0 (by simp)).1
  have yA1 : w9.cell? ⟨w.heap.size, 1, none⟩ = some (.slice aH n cH) := (A20.out.2 1 (by simp)).1
  have yA2 : w9.cell? ⟨w.heap.size, 2, none⟩ = some (.slice aG g cG) := (A20.out.2 2 (by simp)).1
  have hlA : w.heap.size < w9.heap.size := A20.out.1
  have yP0 : w9.cell? ⟨gP, 0, none⟩ = some (.int .i64 X.ag) := (P20.out.2 0 (by simp)).1
  have yP1 : w9.cell? ⟨gP, 1, none⟩ = some (.int .i64 X.ct) := (P20.out.2 1 (by simp)).1
  have yP2 : w9.cell? ⟨gP, 2, none⟩ = some (.int .i64 X.V.c) := (P20.out.2 2 (by simp)).1
  have yP3 : w9.cell? ⟨gP, 3, none⟩ = some (.slice aW X.V.nW akW) := (P20.out.2 3 (by simp)).1
  have yP4 : w9.cell? ⟨gP, 4, none⟩ = some (.int .i64 X.V.g) := (P20.out.2 4 (by simp)).1
  have yP5 : w9.cell? ⟨gP, 5, none⟩ = some (.slice aO X.V.nO akO) := (P20.out.2 5 (by simp)).1
  have yP6 : w9.cell? ⟨gP, 6, none⟩ = some (.slice aX X.V.nX akX) := (P20.out.2 6 (by simp)).1
  have yP7 : w9.cell? ⟨gP, 7, none⟩ = some (.slice aI X.V.nI akI) := (P20.out.2 7 (by simp)).1
  have hlP : gP < w9.heap.size := P20.out.1
  have yX00 : w9.cell? ⟨gX0, 0, none⟩ = some (.bool up) := (X020.out.2 0 (by simp)).1
  have yX01 : w9.cell? ⟨gX0, 1, none⟩ = some (.slice (some ⟨B2, 0, none⟩) n n) := (X020.out.2 1 (by simp)).1
  have yX02 : w9.cell? ⟨gX0, 2, none⟩ = some (.slice (some ⟨G2, 0, none⟩) g g) := (X020.out.2 2 (by simp)).1
  have hlX0 : gX0 < w9.heap.size := X020.out.1
  have yQ0 : w9.cell? ⟨gQ, 0, none⟩ = some (.int .i64 X.ag) := (Q20.out.2 0 (by simp)).1
  have yQ1 : w9.cell? ⟨gQ, 1, none⟩ = some (.int .i64 X.ct) := (Q20.out.2 1 (by simp)).1
  have yQ2 : w9.cell? ⟨gQ, 2, none⟩ = some (.int .i64 X.V.c) := (Q20.out.2 2 (by simp)).1
  have yQ3 : w9.cell? ⟨gQ, 3, none⟩ = some (.slice bW X.V.nW bkW) := (Q20.out.2 3 (by simp)).1
  have yQ4 : w9.cell? ⟨gQ, 4, none⟩ = some (.int .i64 X.V.g) := (Q20.out.2 4 (by simp)).1
  have yQ5 : w9.cell? ⟨gQ, 5, none⟩ = some (.slice bO X.V.nO bkO) := (Q20.out.2 5 (by simp)).1
  have yQ6 : w9.cell? ⟨gQ, 6, none⟩ = some (.slice bX X.V.nX bkX) := (Q20.out.2 6 (by simp)).1
  have yQ7 : w9.cell? ⟨gQ, 7, none⟩ = some (.slice bI X.V.nI bkI) := (Q20.out.2 7 (by simp)).1
  have hlQ : gQ < w9.heap.size := Q20.out.1
  go_wp2
  refine wp_region_held_drew (S := fun w' => (∀ b o, b < w9.heap.size → w'.cell? ⟨b, o, none⟩ = w9.cell? ⟨b, o, none⟩) ∧ w9.heap.size ≤ w'.heap.size) (by kernel_rfl) ⟨fun _ _ _ => rfl, Nat.le_refl _⟩ ?_
  intro hHeld
  refine wpAnyH_take (i := 0) (v := .agg #[.bool up, .slice (some ⟨B2, 0, none⟩) n n, .slice (some ⟨G2, 0, none⟩) g g]) rfl (by kernel_rfl) (by kernel_rfl) (by kernel_rfl) (fun _ _ _ h => h) (Or.inl ⟨by rfl, ?_⟩) (by assumption) ?_
  · intro wx hSw; go_simp
  try simp only [Act.put, List.setIfInBounds_toArray, List.set_cons_zero, List.set_cons_succ, List.getElem_toArray, List.getElem_cons_zero]
  refine wpAnyH_take (i := 1) (v := .agg #[.bool up, .slice aH n cH, .slice aG g cG]) rfl (by kernel_rfl) (by kernel_rfl) (by kernel_rfl) (fun _ _ _ h => h) (Or.inl ⟨by rfl, ?_⟩) (by assumption) ?_
  · intro wx hSw; go_simp
  try simp only [Act.put, List.setIfInBounds_toArray, List.set_cons_zero, List.set_cons_succ, List.getElem_toArray, List.getElem_cons_zero, List.getElem_cons_succ]
  refine wpAnyH_ready (rs := [2]) (by kernel_rfl) (by simp) ?_
  refine AllReadyH.cons rfl (fun K hK => ?_) AllReadyH.nil
  go_simp
  go_wp2_with fail
  refine (toSrv up aH n cH F aG g cG Z hn2 hg2 HS.out _ (HH.out.below (bthen B20.out (by repeat (first | exact Below.refl _ _ | refine bthen ?_ (by assumption) | apply Below.drew)))) (P7.row_below HG.out (bthen B20.out (by repeat (first | exact Below.refl _ _ | refine bthen ?_ (by assumption) | apply Below.drew))))).mono ?_
  rintro e xa ⟨⟨B3, G3, rfl, o3, k3, l3, m3, p3, q3⟩, hxa⟩
  refine hK.out _ _ (keepS (by assumption) hxa) (fun hNew => ?_)
  clear hK K hHeld
  have hHeld := hNew
  clear hNew
  try simp only [Act.put, List.setIfInBounds_toArray, List.set_cons_zero, List.set_cons_succ, List.getElem_toArray, List.getElem_cons_zero, List.getElem_cons_succ]
  refine wpAnyH_ready (rs := [3]) (by kernel_rfl) (by simp) ?_
  refine AllReadyH.cons rfl (fun K hK => ?_) AllReadyH.nil
  go_simp
  go_wp2_with fail
  refine (eqSrv up (some ⟨B2, 0, none⟩) n (some ⟨B3, 0, none⟩) n n F (some ⟨G2, 0, none⟩) g (some ⟨G3, 0, none⟩) g g Z (by omega) (by omega) (fun k hk => short_up (HS.out k hk)) _ ((H20.out.own.row LB20.out).below (by repeat (first | exact Below.refl _ _ | refine bthen ?_ (by assumption) | apply Below.drew))) (o3.row l3) (P7.row_below (P7.row_of_own K20.out LG20.out) (by repeat (first | exact Below.refl _ _ | refine bthen ?_ (by assumption) | apply Below.drew))) (P7.row_of_own k3 m3)).mono ?_
  rintro e xb ⟨rfl, hxb⟩
  refine hK.out _ _ (keepS (by assumption) hxb) (fun hNew => ?_)
  clear hK K hHeld
  have hHeld := hNew
  clear hNew
  try simp only [Act.put, List.setIfInBounds_toArray, List.set_cons_zero, List.set_cons_succ, List.getElem_toArray, List.getElem_cons_zero, List.getElem_cons_succ]
  refine wpAnyH_take (i := 4) (v := .bool false) rfl (by kernel_rfl) (by kernel_rfl) (by kernel_rfl) (fun _ _ _ h => h) (Or.inl ⟨by rfl, ?_⟩) (by assumption) ?_
  · intro wx hSw; go_simp
  try simp only [Act.put, List.setIfInBounds_toArray, List.set_cons_zero, List.set_cons_succ, List.getElem_toArray, List.getElem_cons_zero, List.getElem_cons_succ]
  refine wpAnyH_done (by kernel_rfl) ?_ _
  clear hHeld
  have hb : Below w9.heap.size w9 xb := by repeat (first | exact Below.refl _ _ | refine bthen ?_ (by assumption) | apply Below.drew)
  clear yA0 yA1 yA2 hlA yP0 yP1 yP2 yP3 yP4 yP5 yP6 yP7 hlP yX00 yX01 yX02 hlX0 yQ0 yQ1 yQ2 yQ3 yQ4 yQ5 yQ6 yQ7 hlQ
  have B21 : Hid (Below w.heap.size w xb) := bthen B20.out hb
  have A21 : Hid (Bk xb w.heap.size [.bool up, .slice aH n cH, .slice aG g cG]) := A20.out.below hb
  have O121 : Hid (OwnH lo1 hi1 xb (.agg #[.int .i64 X.ag, .int .i64 X.ct, .int .i64 X.V.c, .slice aW X.V.nW akW, .int .i64 X.V.g, .slice aO X.V.nO akO, .slice aX X.V.nX akX, .slice aI X.V.nI akI]) X) := O120.out.below (by omega) hb
  have P21 : Hid (Bk xb gP [.int .i64 X.ag, .int .i64 X.ct, .int .i64 X.V.c, .slice aW X.V.nW akW, .int .i64 X.V.g, .slice aO X.V.nO akO, .slice aX X.V.nX akX, .slice aI X.V.nI akI]) := P20.out.below hb
  have H21 : Hid (HOwT xb B2 n F G2) := H20.out.below LB20.out hb
  have K21 : Hid (P7.OwnK xb G2 g Z g) := P7.own_below K20.out LG20.out hb
  have LB21 : Hid (B2 < xb.heap.size) := Nat.lt_of_lt_of_le LB20.out hb.size
  have LG21 : Hid (G2 < xb.heap.size) := Nat.lt_of_lt_of_le LG20.out hb.size
  have X021 : Hid (Bk xb gX0 [.bool up, .slice (some ⟨B2, 0, none⟩) n n, .slice (some ⟨G2, 0, none⟩) g g]) := X020.out.below hb
  have O221 : Hid (OwnH lo2 hi2 xb (.agg #[.int .i64 X.ag, .int .i64 X.ct, .int .i64 X.V.c, .slice bW X.V.nW bkW, .int .i64 X.V.g, .slice bO X.V.nO bkO, .slice bX X.V.nX bkX, .slice bI X.V.nI bkI]) X) := O220.out.below (by omega) hb
  have Q21 : Hid (Bk xb gQ [.int .i64 X.ag, .int .i64 X.ct, .int .i64 X.V.c, .slice bW X.V.nW bkW, .int .i64 X.V.g, .slice bO X.V.nO bkO, .slice bX X.V.nX bkX, .slice bI X.V.nI bkI]) := Q20.out.below hb
  clear B20 A20 O120 P20 H20 K20 LB20 LG20 X020 O220 Q20
  have zzxb : w9.heap.size ≤ xb.heap.size := hb.size
  clear hb hxa hxb o3 k3 l3 m3 p3 q3
  have yA0 : xb.cell? ⟨w.heap.size, 0, none⟩ = some (.bool up) := (A21.out.2 0 (by simp)).1
  have yA1 : xb.cell? ⟨w.heap.size, 1, none⟩ = some (.slice aH n cH) := (A21.out.2 1 (by simp)).1
  have yA2 : xb.cell? ⟨w.heap.size, 2, none⟩ = some (.slice aG g cG) := (A21.out.2 2 (by simp)).1
  have hlA : w.heap.size < xb.heap.size := A21.out.1
  have yP0 : xb.cell? ⟨gP, 0, none⟩ = some (.int .i64 X.ag) := (P21.out.2 0 (by simp)).1
  have yP1 : xb.cell? ⟨gP, 1, none⟩ = some (.int .i64 X.ct) := (P21.out.2 1 (by simp)).1
  have yP2 : xb.cell? ⟨gP, 2, none⟩ = some (.int .i64 X.V.c) := (P21.out.2 2 (by simp)).1
  have yP3 : xb.cell? ⟨gP, 3, none⟩ = some (.slice aW X.V.nW akW) := (P21.out.2 3 (by simp)).1
  have yP4 : xb.cell? ⟨gP, 4, none⟩ = some (.int .i64 X.V.g) := (P21.out.2 4 (by simp)).1
  have yP5 : xb.cell? ⟨gP, 5, none⟩ = some (.slice aO X.V.nO akO) := (P21.out.2 5 (by simp)).1
  have yP6 : xb.cell? ⟨gP, 6, none⟩ = some (.slice aX X.V.nX akX) := (P21.out.2 6 (by simp)).1
  have yP7 : xb.cell? ⟨gP, 7, none⟩ = some (.slice aI X.V.nI akI) := (P21.out.2 7 (by simp)).1
  have hlP : gP < xb.heap.size := P21.out.1
  have yX00 : xb.cell? ⟨gX0, 0, none⟩ = some (.bool up) := (X021.out.2 0 (by simp)).1
  have yX01 : xb.cell? ⟨gX0, 1, none⟩ = some (.slice (some ⟨B2, 0, none⟩) n n) := (X021.out.2 1 (by simp)).1
  have yX02 : xb.cell? ⟨gX0, 2, none⟩ = some (.slice (some ⟨G2, 0, none⟩) g g) := (X021.out.2 2 (by simp)).1
  have hlX0 : gX0 < xb.heap.size := X021.out.1
  have yQ0 : xb.cell? ⟨gQ, 0, none⟩ = some (.int .i64 X.ag) := (Q21.out.2 0 (by simp)).1
  have yQ1 : xb.cell? ⟨gQ, 1, none⟩ = some (.int .i64 X.ct) := (Q21.out.2 1 (by simp)).1
  have yQ2 : xb.cell? ⟨gQ, 2, none⟩ = some (.int .i64 X.V.c) := (Q21.out.2 2 (by simp)).1
  have yQ3 : xb.cell? ⟨gQ, 3, none⟩ = some (.slice bW X.V.nW bkW) := (Q21.out.2 3 (by simp)).1
  have yQ4 : xb.cell? ⟨gQ, 4, none⟩ = some (.int .i64 X.V.g) := (Q21.out.2 4 (by simp)).1
  have yQ5 : xb.cell? ⟨gQ, 5, none⟩ = some (.slice bO X.V.nO bkO) := (Q21.out.2 5 (by simp)).1
  have yQ6 : xb.cell? ⟨gQ, 6, none⟩ = some (.slice bX X.V.nX bkX) := (Q21.out.2 6 (by simp)).1
  have yQ7 : xb.cell? ⟨gQ, 7, none⟩ = some (.slice bI X.V.nI bkI) := (Q21.out.2 7 (by simp)).1
  have hlQ : gQ < xb.heap.size := Q21.out.1
  go_wp2_with fail
  refine (markSrv up B2 n G2 g F Z (by omega) _ LB21.out LG21.out q2 H21.out K21.out).mono ?_
  rintro e xc ⟨⟨sm0, rfl⟩, hz, hsm, hbl⟩
  have HSM : Hid (∀ b, b < xb.heap.size → (b < B2 ∨ G2 < b) → Sm xb xc b) := hsm
  clear hsm
  clear yA0 yA1 yA2 hlA yP0 yP1 yP2 yP3 yP4 yP5 yP6 yP7 hlP yX00 yX01 yX02 hlX0 yQ0 yQ1 yQ2 yQ3 yQ4 yQ5 yQ6 yQ7 hlQ
  clear H21
  clear K21
  have B22 : Hid (Below w.heap.size w xc) := B21.out.trans (hbl.mono (by omega))
  have A22 : Hid (Bk xc w.heap.size [.bool up, .slice aH n cH, .slice aG g cG]) := A21.out.sm hz (HSM.out w.heap.size (by omega) (by omega))
  have O122 : Hid (OwnH lo1 hi1 xc (.agg #[.int .i64 X.ag, .int .i64 X.ct, .int .i64 X.V.c, .slice aW X.V.nW akW, .int .i64 X.V.g, .slice aO X.V.nO akO, .slice aX X.V.nX akX, .slice aI X.V.nI akI]) X) := O121.out.sm hz (fun b q1 q2 => HSM.out b (by omega) (by omega))
  have P22 : Hid (Bk xc gP [.int .i64 X.ag, .int .i64 X.ct, .int .i64 X.V.c, .slice aW X.V.nW akW, .int .i64 X.V.g, .slice aO X.V.nO akO, .slice aX X.V.nX akX, .slice aI X.V.nI akI]) := P21.out.sm hz (HSM.out gP (by omega) (by omega))
  have LB22 : Hid (B2 < xc.heap.size) := Nat.lt_of_lt_of_le LB21.out hz
  have LG22 : Hid (G2 < xc.heap.size) := Nat.lt_of_lt_of_le LG21.out hz
  have X022 : Hid (Bk xc gX0 [.bool up, .slice (some ⟨B2, 0, none⟩) n n, .slice (some ⟨G2, 0, none⟩) g g]) := X021.out.sm hz (HSM.out gX0 (by omega) (by omega))
  have O222 : Hid (OwnH lo2 hi2 xc (.agg #[.int .i64 X.ag, .int .i64 X.ct, .int .i64 X.V.c, .slice bW X.V.nW bkW, .int .i64 X.V.g, .slice bO X.V.nO bkO, .slice bX X.V.nX bkX, .slice bI X.V.nI bkI]) X) := O221.out.sm hz (fun b q1 q2 => HSM.out b (by omega) (by omega))
  have Q22 : Hid (Bk xc gQ [.int .i64 X.ag, .int .i64 X.ct, .int .i64 X.V.c, .slice bW X.V.nW bkW, .int .i64 X.V.g, .slice bO X.V.nO bkO, .slice bX X.V.nX bkX, .slice bI X.V.nI bkI]) := Q21.out.sm hz (HSM.out gQ (by omega) (by omega))
  clear B21 A21 O121 P21 LB21 LG21 X021 O221 Q21
  have zzxc : xb.heap.size ≤ xc.heap.size := hz
  have nn1 : ¬ (sm0 : Int) < 0 := by omega
  clear hz hbl HSM
  have yA0 : xc.cell? ⟨w.heap.size, 0, none⟩ = some (.bool up) := (A22.out.2 0 (by simp)).1
  have yA1 : xc.cell? ⟨w.heap.size, 1, none⟩ = some (.slice aH n cH) := (A22.out.2 1 (by simp)).1
  have yA2 : xc.cell? ⟨w.heap.size, 2, none⟩ = some (.slice aG g cG) := (A22.out.2 2 (by simp)).1
  have hlA : w.heap.size < xc.heap.size := A22.out.1
  have yP0 : xc.cell? ⟨gP, 0, none⟩ = some (.int .i64 X.ag) := (P22.out.2 0 (by simp)).1
  have yP1 : xc.cell? ⟨gP, 1, none⟩ = some (.int .i64 X.ct) := (P22.out.2 1 (by simp)).1
  have yP2 : xc.cell? ⟨gP, 2, none⟩ = some (.int .i64 X.V.c) := (P22.out.2 2 (by simp)).1
  have yP3 : xc.cell? ⟨gP, 3, none⟩ = some (.slice aW X.V.nW akW) := (P22.out.2 3 (by simp)).1
  have yP4 : xc.cell? ⟨gP, 4, none⟩ = some (.int .i64 X.V.g) := (P22.out.2 4 (by simp)).1
  have yP5 : xc.cell? ⟨gP, 5, none⟩ = some (.slice aO X.V.nO akO) := (P22.out.2 5 (by simp)).1
  have yP6 : xc.cell? ⟨gP, 6, none⟩ = some (.slice aX X.V.nX akX) := (P22.out.2 6 (by simp)).1
  have yP7 : xc.cell? ⟨gP, 7, none⟩ = some (.slice aI X.V.nI akI) := (P22.out.2 7 (by simp)).1
  have hlP : gP < xc.heap.size := P22.out.1
  have yX00 : xc.cell? ⟨gX0, 0, none⟩ = some (.bool up) := (X022.out.2 0 (by simp)).1
  have yX01 : xc.cell? ⟨gX0, 1, none⟩ = some (.slice (some ⟨B2, 0, none⟩) n n) := (X022.out.2 1 (by simp)).1
  have yX02 : xc.cell? ⟨gX0, 2, none⟩ = some (.slice (some ⟨G2, 0, none⟩) g g) := (X022.out.2 2 (by simp)).1
  have hlX0 : gX0 < xc.heap.size := X022.out.1
  have yQ0 : xc.cell? ⟨gQ, 0, none⟩ = some (.int .i64 X.ag) := (Q22.out.2 0 (by simp)).1
  have yQ1 : xc.cell? ⟨gQ, 1, none⟩ = some (.int .i64 X.ct) := (Q22.out.2 1 (by simp)).1
  have yQ2 : xc.cell? ⟨gQ, 2, none⟩ = some (.int .i64 X.V.c) := (Q22.out.2 2 (by simp)).1
  have yQ3 : xc.cell? ⟨gQ, 3, none⟩ = some (.slice bW X.V.nW bkW) := (Q22.out.2 3 (by simp)).1
  have yQ4 : xc.cell? ⟨gQ, 4, none⟩ = some (.int .i64 X.V.g) := (Q22.out.2 4 (by simp)).1
  have yQ5 : xc.cell? ⟨gQ, 5, none⟩ = some (.slice bO X.V.nO bkO) := (Q22.out.2 5 (by simp)).1
  have yQ6 : xc.cell? ⟨gQ, 6, none⟩ = some (.slice bX X.V.nX bkX) := (Q22.out.2 6 (by simp)).1
  have yQ7 : xc.cell? ⟨gQ, 7, none⟩ = some (.slice bI X.V.nI bkI) := (Q22.out.2 7 (by simp)).1
  have hlQ : gQ < xc.heap.size := Q22.out.1
  go_wp2_with fail
  refine (eqHold _ _ X.ag X.ct X.V SX.out _ O222.out.at O122.out.at).mono ?_
  rintro e w10 ⟨rfl, hb⟩
  clear yA0 yA1 yA2 hlA yP0 yP1 yP2 yP3 yP4 yP5 yP6 yP7 hlP yX00 yX01 yX02 hlX0 yQ0 yQ1 yQ2 yQ3 yQ4 yQ5 yQ6 yQ7 hlQ
  have B23 : Hid (Below w.heap.size w w10) := bthen B22.out hb
  have A23 : Hid (Bk w10 w.heap.size [.bool up, .slice aH n cH, .slice aG g cG]) := A22.out.below hb
  have O123 : Hid (OwnH lo1 hi1 w10 (.agg #[.int .i64 X.ag, .int .i64 X.ct, .int .i64 X.V.c, .slice aW X.V.nW akW, .int .i64 X.V.g, .slice aO X.V.nO akO, .slice aX X.V.nX akX, .slice aI X.V.nI akI]) X) := O122.out.below (by omega) hb
  have P23 : Hid (Bk w10 gP [.int .i64 X.ag, .int .i64 X.ct, .int .i64 X.V.c, .slice aW X.V.nW akW, .int .i64 X.V.g, .slice aO X.V.nO akO, .slice aX X.V.nX akX, .slice aI X.V.nI akI]) := P22.out.below hb
  have LB23 : Hid (B2 < w10.heap.size) := Nat.lt_of_lt_of_le LB22.out hb.size
  have LG23 : Hid (G2 < w10.heap.size) := Nat.lt_of_lt_of_le LG22.out hb.size
  have X023 : Hid (Bk w10 gX0 [.bool up, .slice (some ⟨B2, 0, none⟩) n n, .slice (some ⟨G2, 0, none⟩) g g]) := X022.out.below hb
  have O223 : Hid (OwnH lo2 hi2 w10 (.agg #[.int .i64 X.ag, .int .i64 X.ct, .int .i64 X.V.c, .slice bW X.V.nW bkW, .int .i64 X.V.g, .slice bO X.V.nO bkO, .slice bX X.V.nX bkX, .slice bI X.V.nI bkI]) X) := O222.out.below (by omega) hb
  have Q23 : Hid (Bk w10 gQ [.int .i64 X.ag, .int .i64 X.ct, .int .i64 X.V.c, .slice bW X.V.nW bkW, .int .i64 X.V.g, .slice bO X.V.nO bkO, .slice bX X.V.nX bkX, .slice bI X.V.nI bkI]) := Q22.out.below hb
  clear B22 A22 O122 P22 LB22 LG22 X022 O222 Q22
  have zzw10a : xc.heap.size ≤ w10.heap.size := hb.size
  clear hb
  have yA0 : w10.cell? ⟨w.heap.size, 0, none⟩ = some (.bool up) := (A23.out.2 0 (by simp)).1
  have yA1 : w10.cell? ⟨w.heap.size, 1, none⟩ = some (.slice aH n cH) := (A23.out.2 1 (by simp)).1
  have yA2 : w10.cell? ⟨w.heap.size, 2, none⟩ = some (.slice aG g cG) := (A23.out.2 2 (by simp)).1
  have hlA : w.heap.size < w10.heap.size := A23.out.1
  have yP0 : w10.cell? ⟨gP, 0, none⟩ = some (.int .i64 X.ag) := (P23.out.2 0 (by simp)).1
  have yP1 : w10.cell? ⟨gP, 1, none⟩ = some (.int .i64 X.ct) := (P23.out.2 1 (by simp)).1
  have yP2 : w10.cell? ⟨gP, 2, none⟩ = some (.int .i64 X.V.c) := (P23.out.2 2 (by simp)).1
  have yP3 : w10.cell? ⟨gP, 3, none⟩ = some (.slice aW X.V.nW akW) := (P23.out.2 3 (by simp)).1
  have yP4 : w10.cell? ⟨gP, 4, none⟩ = some (.int .i64 X.V.g) := (P23.out.2 4 (by simp)).1
  have yP5 : w10.cell? ⟨gP, 5, none⟩ = some (.slice aO X.V.nO akO) := (P23.out.2 5 (by simp)).1
  have yP6 : w10.cell? ⟨gP, 6, none⟩ = some (.slice aX X.V.nX akX) := (P23.out.2 6 (by simp)).1
  have yP7 : w10.cell? ⟨gP, 7, none⟩ = some (.slice aI X.V.nI akI) := (P23.out.2 7 (by simp)).1
  have hlP : gP < w10.heap.size := P23.out.1
  have yX00 : w10.cell? ⟨gX0, 0, none⟩ = some (.bool up) := (X023.out.2 0 (by simp)).1
  have yX01 : w10.cell? ⟨gX0, 1, none⟩ = some (.slice (some ⟨B2, 0, none⟩) n n) := (X023.out.2 1 (by simp)).1
  have yX02 : w10.cell? ⟨gX0, 2, none⟩ = some (.slice (some ⟨G2, 0, none⟩) g g) := (X023.out.2 2 (by simp)).1
  have hlX0 : gX0 < w10.heap.size := X023.out.1
  have yQ0 : w10.cell? ⟨gQ, 0, none⟩ = some (.int .i64 X.ag) := (Q23.out.2 0 (by simp)).1
  have yQ1 : w10.cell? ⟨gQ, 1, none⟩ = some (.int .i64 X.ct) := (Q23.out.2 1 (by simp)).1
  have yQ2 : w10.cell? ⟨gQ, 2, none⟩ = some (.int .i64 X.V.c) := (Q23.out.2 2 (by simp)).1
  have yQ3 : w10.cell? ⟨gQ, 3, none⟩ = some (.slice bW X.V.nW bkW) := (Q23.out.2 3 (by simp)).1
  have yQ4 : w10.cell? ⟨gQ, 4, none⟩ = some (.int .i64 X.V.g) := (Q23.out.2 4 (by simp)).1
  have yQ5 : w10.cell? ⟨gQ, 5, none⟩ = some (.slice bO X.V.nO bkO) := (Q23.out.2 5 (by simp)).1
  have yQ6 : w10.cell? ⟨gQ, 6, none⟩ = some (.slice bX X.V.nX bkX) := (Q23.out.2 6 (by simp)).1
  have yQ7 : w10.cell? ⟨gQ, 7, none⟩ = some (.slice bI X.V.nI bkI) := (Q23.out.2 7 (by simp)).1
  have hlQ : gQ < w10.heap.size := Q23.out.1
  go_wp2_with fail
  refine (markH lo2 hi2 _ X FX.out _ (by omega) (by omega) O223.out).mono ?_
  rintro e xd ⟨rfl, hO, hz, hsm, hbl⟩
  have HSM : Hid (∀ b, b < w10.heap.size → (b < lo2 ∨ hi2 ≤ b) → Sm w10 xd b) := hsm
  clear hsm
  clear yA0 yA1 yA2 hlA yP0 yP1 yP2 yP3 yP4 yP5 yP6 yP7 hlP yX00 yX01 yX02 hlX0 yQ0 yQ1 yQ2 yQ3 yQ4 yQ5 yQ6 yQ7 hlQ
  clear O223
  have B24 : Hid (Below w.heap.size w xd) := B23.out.trans (hbl.mono (by omega))
  have A24 : Hid (Bk xd w.heap.size [.bool up, .slice aH n cH, .slice aG g cG]) := A23.out.sm hz (HSM.out w.heap.size (by omega) (by omega))
  have O124 : Hid (OwnH lo1 hi1 xd (.agg #[.int .i64 X.ag, .int .i64 X.ct, .int .i64 X.V.c, .slice aW X.V.nW akW, .int .i64 X.V.g, .slice aO X.V.nO akO, .slice aX X.V.nX akX, .slice aI X.V.nI akI]) X) := O123.out.sm hz (fun b q1 q2 => HSM.out b (by omega) (by omega))
  have P24 : Hid (Bk xd gP [.int .i64 X.ag, .int .i64 X.ct, .int .i64 X.V.c, .slice aW X.V.nW akW, .int .i64 X.V.g, .slice aO X.V.nO akO, .slice aX X.V.nX akX, .slice aI X.V.nI akI]) := P23.out.sm hz (HSM.out gP (by omega) (by omega))
  have LB24 : Hid (B2 < xd.heap.size) := Nat.lt_of_lt_of_le LB23.out hz
  have LG24 : Hid (G2 < xd.heap.size) := Nat.lt_of_lt_of_le LG23.out hz
  have X024 : Hid (Bk xd gX0 [.bool up, .slice (some ⟨B2, 0, none⟩) n n, .slice (some ⟨G2, 0, none⟩) g g]) := X023.out.sm hz (HSM.out gX0 (by omega) (by omega))
  have Q24 : Hid (Bk xd gQ [.int .i64 X.ag, .int .i64 X.ct, .int .i64 X.V.c, .slice bW X.V.nW bkW, .int .i64 X.V.g, .slice bO X.V.nO bkO, .slice bX X.V.nX bkX, .slice bI X.V.nI bkI]) := Q23.out.sm hz (HSM.out gQ (by omega) (by omega))
  clear B23 A23 O123 P23 LB23 LG23 X023 Q23
  have O225 : Hid (OwnH lo2 hi2 xd (.agg #[.int .i64 X.ag, .int .i64 X.ct, .int .i64 X.V.c, .slice bW X.V.nW bkW, .int .i64 X.V.g, .slice bO X.V.nO bkO, .slice bX X.V.nX bkX, .slice bI X.V.nI bkI]) X.marked) := hO
  have zzxd : w10.heap.size ≤ xd.heap.size := hz
  have nn2 : ¬ ((X.V.s4 : Nat) : Int) < 0 := by omega
  clear hz hbl HSM hO
  have yA0 : xd.cell? ⟨w.heap.size, 0, none⟩ = some (.bool up) := (A24.out.2 0 (by simp)).1
  have yA1 : xd.cell? ⟨w.heap.size, 1, none⟩ = some (.slice aH n cH) := (A24.out.2 1 (by simp)).1
  have yA2 : xd.cell? ⟨w.heap.size, 2, none⟩ = some (.slice aG g cG) := (A24.out.2 2 (by simp)).1
  have hlA : w.heap.size < xd.heap.size := A24.out.1
  have yP0 : xd.cell? ⟨gP, 0, none⟩ = some (.int .i64 X.ag) := (P24.out.2 0 (by simp)).1
  have yP1 : xd.cell? ⟨gP, 1, none⟩ = some (.int .i64 X.ct) := (P24.out.2 1 (by simp)).1
  have yP2 : xd.cell? ⟨gP, 2, none⟩ = some (.int .i64 X.V.c) := (P24.out.2 2 (by simp)).1
  have yP3 : xd.cell? ⟨gP, 3, none⟩ = some (.slice aW X.V.nW akW) := (P24.out.2 3 (by simp)).1
  have yP4 : xd.cell? ⟨gP, 4, none⟩ = some (.int .i64 X.V.g) := (P24.out.2 4 (by simp)).1
  have yP5 : xd.cell? ⟨gP, 5, none⟩ = some (.slice aO X.V.nO akO) := (P24.out.2 5 (by simp)).1
  have yP6 : xd.cell? ⟨gP, 6, none⟩ = some (.slice aX X.V.nX akX) := (P24.out.2 6 (by simp)).1
  have yP7 : xd.cell? ⟨gP, 7, none⟩ = some (.slice aI X.V.nI akI) := (P24.out.2 7 (by simp)).1
  have hlP : gP < xd.heap.size := P24.out.1
  have yX00 : xd.cell? ⟨gX0, 0, none⟩ = some (.bool up) := (X024.out.2 0 (by simp)).1
  have yX01 : xd.cell? ⟨gX0, 1, none⟩ = some (.slice (some ⟨B2, 0, none⟩) n n) := (X024.out.2 1 (by simp)).1
  have yX02 : xd.cell? ⟨gX0, 2, none⟩ = some (.slice (some ⟨G2, 0, none⟩) g g) := (X024.out.2 2 (by simp)).1
  have hlX0 : gX0 < xd.heap.size := X024.out.1
  have yQ0 : xd.cell? ⟨gQ, 0, none⟩ = some (.int .i64 X.ag) := (Q24.out.2 0 (by simp)).1
  have yQ1 : xd.cell? ⟨gQ, 1, none⟩ = some (.int .i64 X.ct) := (Q24.out.2 1 (by simp)).1
  have yQ2 : xd.cell? ⟨gQ, 2, none⟩ = some (.int .i64 X.V.c) := (Q24.out.2 2 (by simp)).1
  have yQ3 : xd.cell? ⟨gQ, 3, none⟩ = some (.slice bW X.V.nW bkW) := (Q24.out.2 3 (by simp)).1
  have yQ4 : xd.cell? ⟨gQ, 4, none⟩ = some (.int .i64 X.V.g) := (Q24.out.2 4 (by simp)).1
  have yQ5 : xd.cell? ⟨gQ, 5, none⟩ = some (.slice bO X.V.nO bkO) := (Q24.out.2 5 (by simp)).1
  have yQ6 : xd.cell? ⟨gQ, 6, none⟩ = some (.slice bX X.V.nX bkX) := (Q24.out.2 6 (by simp)).1
  have yQ7 : xd.cell? ⟨gQ, 7, none⟩ = some (.slice bI X.V.nI bkI) := (Q24.out.2 7 (by simp)).1
  have hlQ : gQ < xd.heap.size := Q24.out.1
  go_wp2_with fail
  refine (heldH lo2 hi2 _ X FX.out _ (by omega) O225.out).mono ?_
  rintro e w11 ⟨rfl, hb⟩
  clear yA0 yA1 yA2 hlA yP0 yP1 yP2 yP3 yP4 yP5 yP6 yP7 hlP yX00 yX01 yX02 hlX0 yQ0 yQ1 yQ2 yQ3 yQ4 yQ5 yQ6 yQ7 hlQ
  have B26 : Hid (Below w.heap.size w w11) := bthen B24.out hb
  have A26 : Hid (Bk w11 w.heap.size [.bool up, .slice aH n cH, .slice aG g cG]) := A24.out.below hb
  have O126 : Hid (OwnH lo1 hi1 w11 (.agg #[.int .i64 X.ag, .int .i64 X.ct, .int .i64 X.V.c, .slice aW X.V.nW akW, .int .i64 X.V.g, .slice aO X.V.nO akO, .slice aX X.V.nX akX, .slice aI X.V.nI akI]) X) := O124.out.below (by omega) hb
  have P26 : Hid (Bk w11 gP [.int .i64 X.ag, .int .i64 X.ct, .int .i64 X.V.c, .slice aW X.V.nW akW, .int .i64 X.V.g, .slice aO X.V.nO akO, .slice aX X.V.nX akX, .slice aI X.V.nI akI]) := P24.out.below hb
  have LB26 : Hid (B2 < w11.heap.size) := Nat.lt_of_lt_of_le LB24.out hb.size
  have LG26 : Hid (G2 < w11.heap.size) := Nat.lt_of_lt_of_le LG24.out hb.size
  have X026 : Hid (Bk w11 gX0 [.bool up, .slice (some ⟨B2, 0, none⟩) n n, .slice (some ⟨G2, 0, none⟩) g g]) := X024.out.below hb
  have Q26 : Hid (Bk w11 gQ [.int .i64 X.ag, .int .i64 X.ct, .int .i64 X.V.c, .slice bW X.V.nW bkW, .int .i64 X.V.g, .slice bO X.V.nO bkO, .slice bX X.V.nX bkX, .slice bI X.V.nI bkI]) := Q24.out.below hb
  have O226 : Hid (OwnH lo2 hi2 w11 (.agg #[.int .i64 X.ag, .int .i64 X.ct, .int .i64 X.V.c, .slice bW X.V.nW bkW, .int .i64 X.V.g, .slice bO X.V.nO bkO, .slice bX X.V.nX bkX, .slice bI X.V.nI bkI]) X.marked) := O225.out.below (by omega) hb
  clear B24 A24 O124 P24 LB24 LG24 X024 Q24 O225
  have zzw11a : xd.heap.size ≤ w11.heap.size := hb.size
  clear hb
  have yA0 : w11.cell? ⟨w.heap.size, 0, none⟩ = some (.bool up) := (A26.out.2 0 (by simp)).1
  have yA1 : w11.cell? ⟨w.heap.size, 1, none⟩ = some (.slice aH n cH) := (A26.out.2 1 (by simp)).1
  have yA2 : w11.cell? ⟨w.heap.size, 2, none⟩ = some (.slice aG g cG) := (A26.out.2 2 (by simp)).1
  have hlA : w.heap.size < w11.heap.size := A26.out.1
  have yP0 : w11.cell? ⟨gP, 0, none⟩ = some (.int .i64 X.ag) := (P26.out.2 0 (by simp)).1
  have yP1 : w11.cell? ⟨gP, 1, none⟩ = some (.int .i64 X.ct) := (P26.out.2 1 (by simp)).1
  have yP2 : w11.cell? ⟨gP, 2, none⟩ = some (.int .i64 X.V.c) := (P26.out.2 2 (by simp)).1
  have yP3 : w11.cell? ⟨gP, 3, none⟩ = some (.slice aW X.V.nW akW) := (P26.out.2 3 (by simp)).1
  have yP4 : w11.cell? ⟨gP, 4, none⟩ = some (.int .i64 X.V.g) := (P26.out.2 4 (by simp)).1
  have yP5 : w11.cell? ⟨gP, 5, none⟩ = some (.slice aO X.V.nO akO) := (P26.out.2 5 (by simp)).1
  have yP6 : w11.cell? ⟨gP, 6, none⟩ = some (.slice aX X.V.nX akX) := (P26.out.2 6 (by simp)).1
  have yP7 : w11.cell? ⟨gP, 7, none⟩ = some (.slice aI X.V.nI akI) := (P26.out.2 7 (by simp)).1
  have hlP : gP < w11.heap.size := P26.out.1
  have yX00 : w11.cell? ⟨gX0, 0, none⟩ = some (.bool up) := (X026.out.2 0 (by simp)).1
  have yX01 : w11.cell? ⟨gX0, 1, none⟩ = some (.slice (some ⟨B2, 0, none⟩) n n) := (X026.out.2 1 (by simp)).1
  have yX02 : w11.cell? ⟨gX0, 2, none⟩ = some (.slice (some ⟨G2, 0, none⟩) g g) := (X026.out.2 2 (by simp)).1
  have hlX0 : gX0 < w11.heap.size := X026.out.1
  have yQ0 : w11.cell? ⟨gQ, 0, none⟩ = some (.int .i64 X.ag) := (Q26.out.2 0 (by simp)).1
  have yQ1 : w11.cell? ⟨gQ, 1, none⟩ = some (.int .i64 X.ct) := (Q26.out.2 1 (by simp)).1
  have yQ2 : w11.cell? ⟨gQ, 2, none⟩ = some (.int .i64 X.V.c) := (Q26.out.2 2 (by simp)).1
  have yQ3 : w11.cell? ⟨gQ, 3, none⟩ = some (.slice bW X.V.nW bkW) := (Q26.out.2 3 (by simp)).1
  have yQ4 : w11.cell? ⟨gQ, 4, none⟩ = some (.int .i64 X.V.g) := (Q26.out.2 4 (by simp)).1
  have yQ5 : w11.cell? ⟨gQ, 5, none⟩ = some (.slice bO X.V.nO bkO) := (Q26.out.2 5 (by simp)).1
  have yQ6 : w11.cell? ⟨gQ, 6, none⟩ = some (.slice bX X.V.nX bkX) := (Q26.out.2 6 (by simp)).1
  have yQ7 : w11.cell? ⟨gQ, 7, none⟩ = some (.slice bI X.V.nI bkI) := (Q26.out.2 7 (by simp)).1
  have hlQ : gQ < w11.heap.size := Q26.out.1
  go_wp2_with fail
  refine (toSrv up aH n cH F aG g cG Z hn2 hg2 HS.out _ (HH.out.below B26.out) (P7.row_below HG.out B26.out)).mono ?_
  rintro e w12 ⟨⟨B4, G4, rfl, o4, k4, l4, m4, p4, q4⟩, hb⟩
  clear yA0 yA1 yA2 hlA yP0 yP1 yP2 yP3 yP4 yP5 yP6 yP7 hlP yX00 yX01 yX02 hlX0 yQ0 yQ1 yQ2 yQ3 yQ4 yQ5 yQ6 yQ7 hlQ
  have B27 : Hid (Below w.heap.size w w12) := bthen B26.out hb
  have A27 : Hid (Bk w12 w.heap.size [.bool up, .slice aH n cH, .slice aG g cG]) := A26.out.below hb
  have O127 : Hid (OwnH lo1 hi1 w12 (.agg #[.int .i64 X.ag, .int .i64 X.ct, .int .i64 X.V.c, .slice aW X.V.nW akW, .int .i64 X.V.g, .slice aO X.V.nO akO, .slice aX X.V.nX akX, .slice aI X.V.nI akI]) X) := O126.out.below (by omega) hb
  have P27 : Hid (Bk w12 gP [.int .i64 X.ag, .int .i64 X.ct, .int .i64 X.V.c, .slice aW X.V.nW akW, .int .i64 X.V.g, .slice aO X.V.nO akO, .slice aX X.V.nX akX, .slice aI X.V.nI akI]) := P26.out.below hb
  have LB27 : Hid (B2 < w12.heap.size) := Nat.lt_of_lt_of_le LB26.out hb.size
  have LG27 : Hid (G2 < w12.heap.size) := Nat.lt_of_lt_of_le LG26.out hb.size
  have X027 : Hid (Bk w12 gX0 [.bool up, .slice (some ⟨B2, 0, none⟩) n n, .slice (some ⟨G2, 0, none⟩) g g]) := X026.out.below hb
  have Q27 : Hid (Bk w12 gQ [.int .i64 X.ag, .int .i64 X.ct, .int .i64 X.V.c, .slice bW X.V.nW bkW, .int .i64 X.V.g, .slice bO X.V.nO bkO, .slice bX X.V.nX bkX, .slice bI X.V.nI bkI]) := Q26.out.below hb
  have O227 : Hid (OwnH lo2 hi2 w12 (.agg #[.int .i64 X.ag, .int .i64 X.ct, .int .i64 X.V.c, .slice bW X.V.nW bkW, .int .i64 X.V.g, .slice bO X.V.nO bkO, .slice bX X.V.nX bkX, .slice bI X.V.nI bkI]) X.marked) := O226.out.below (by omega) hb
  clear B26 A26 O126 P26 LB26 LG26 X026 Q26 O226
  have zzw12a : w11.heap.size ≤ w12.heap.size := hb.size
  clear hb
  have yA0 : w12.cell? ⟨w.heap.size, 0, none⟩ = some (.bool up) := (A27.out.2 0 (by simp)).1
  have yA1 : w12.cell? ⟨w.heap.size, 1, none⟩ = some (.slice aH n cH) := (A27.out.2 1 (by simp)).1
  have yA2 : w12.cell? ⟨w.heap.size, 2, none⟩ = some (.slice aG g cG) := (A27.out.2 2 (by simp)).1
  have hlA : w.heap.size < w12.heap.size := A27.out.1
  have yP0 : w12.cell? ⟨gP, 0, none⟩ = some (.int .i64 X.ag) := (P27.out.2 0 (by simp)).1
  have yP1 : w12.cell? ⟨gP, 1, none⟩ = some (.int .i64 X.ct) := (P27.out.2 1 (by simp)).1
  have yP2 : w12.cell? ⟨gP, 2, none⟩ = some (.int .i64 X.V.c) := (P27.out.2 2 (by simp)).1
  have yP3 : w12.cell? ⟨gP, 3, none⟩ = some (.slice aW X.V.nW akW) := (P27.out.2 3 (by simp)).1
  have yP4 : w12.cell? ⟨gP, 4, none⟩ = some (.int .i64 X.V.g) := (P27.out.2 4 (by simp)).1
  have yP5 : w12.cell? ⟨gP, 5, none⟩ = some (.slice aO X.V.nO akO) := (P27.out.2 5 (by simp)).1
  have yP6 : w12.cell? ⟨gP, 6, none⟩ = some (.slice aX X.V.nX akX) := (P27.out.2 6 (by simp)).1
  have yP7 : w12.cell? ⟨gP, 7, none⟩ = some (.slice aI X.V.nI akI) := (P27.out.2 7 (by simp)).1
  have hlP : gP < w12.heap.size := P27.out.1
  have yX00 : w12.cell? ⟨gX0, 0, none⟩ = some (.bool up) := (X027.out.2 0 (by simp)).1
  have yX01 : w12.cell? ⟨gX0, 1, none⟩ = some (.slice (some ⟨B2, 0, none⟩) n n) := (X027.out.2 1 (by simp)).1
  have yX02 : w12.cell? ⟨gX0, 2, none⟩ = some (.slice (some ⟨G2, 0, none⟩) g g) := (X027.out.2 2 (by simp)).1
  have hlX0 : gX0 < w12.heap.size := X027.out.1
  have yQ0 : w12.cell? ⟨gQ, 0, none⟩ = some (.int .i64 X.ag) := (Q27.out.2 0 (by simp)).1
  have yQ1 : w12.cell? ⟨gQ, 1, none⟩ = some (.int .i64 X.ct) := (Q27.out.2 1 (by simp)).1
  have yQ2 : w12.cell? ⟨gQ, 2, none⟩ = some (.int .i64 X.V.c) := (Q27.out.2 2 (by simp)).1
  have yQ3 : w12.cell? ⟨gQ, 3, none⟩ = some (.slice bW X.V.nW bkW) := (Q27.out.2 3 (by simp)).1
  have yQ4 : w12.cell? ⟨gQ, 4, none⟩ = some (.int .i64 X.V.g) := (Q27.out.2 4 (by simp)).1
  have yQ5 : w12.cell? ⟨gQ, 5, none⟩ = some (.slice bO X.V.nO bkO) := (Q27.out.2 5 (by simp)).1
  have yQ6 : w12.cell? ⟨gQ, 6, none⟩ = some (.slice bX X.V.nX bkX) := (Q27.out.2 6 (by simp)).1
  have yQ7 : w12.cell? ⟨gQ, 7, none⟩ = some (.slice bI X.V.nI bkI) := (Q27.out.2 7 (by simp)).1
  have hlQ : gQ < w12.heap.size := Q27.out.1
  go_wp2_with fail
  refine (hold_implX up B4 n F (some ⟨G4, 0, none⟩) g g cell X bb ER.out hn2 HS.out _ l4 o4).mono ?_
  rintro e w13 ⟨⟨v4, rfl, hO⟩, hb⟩
  clear yA0 yA1 yA2 hlA yP0 yP1 yP2 yP3 yP4 yP5 yP6 yP7 hlP yX00 yX01 yX02 hlX0 yQ0 yQ1 yQ2 yQ3 yQ4 yQ5 yQ6 yQ7 hlQ
  have B28 : Hid (Below w.heap.size w w13) := bthen B27.out hb
  have A28 : Hid (Bk w13 w.heap.size [.bool up, .slice aH n cH, .slice aG g cG]) := A27.out.below hb
  have O128 : Hid (OwnH lo1 hi1 w13 (.agg #[.int .i64 X.ag, .int .i64 X.ct, .int .i64 X.V.c, .slice aW X.V.nW akW, .int .i64 X.V.g, .slice aO X.V.nO akO, .slice aX X.V.nX akX, .slice aI X.V.nI akI]) X) := O127.out.below (by omega) hb
  have P28 : Hid (Bk w13 gP [.int .i64 X.ag, .int .i64 X.ct, .int .i64 X.V.c, .slice aW X.V.nW akW, .int .i64 X.V.g, .slice aO X.V.nO akO, .slice aX X.V.nX akX, .slice aI X.V.nI akI]) := P27.out.below hb
  have LB28 : Hid (B2 < w13.heap.size) := Nat.lt_of_lt_of_le LB27.out hb.size
  have LG28 : Hid (G2 < w13.heap.size) := Nat.lt_of_lt_of_le LG27.out hb.size
  have X028 : Hid (Bk w13 gX0 [.bool up, .slice (some ⟨B2, 0, none⟩) n n, .slice (some ⟨G2, 0, none⟩) g g]) := X027.out.below hb
  have Q28 : Hid (Bk w13 gQ [.int .i64 X.ag, .int .i64 X.ct, .int .i64 X.V.c, .slice bW X.V.nW bkW, .int .i64 X.V.g, .slice bO X.V.nO bkO, .slice bX X.V.nX bkX, .slice bI X.V.nI bkI]) := Q27.out.below hb
  have O228 : Hid (OwnH lo2 hi2 w13 (.agg #[.int .i64 X.ag, .int .i64 X.ct, .int .i64 X.V.c, .slice bW X.V.nW bkW, .int .i64 X.V.g, .slice bO X.V.nO bkO, .slice bX X.V.nX bkX, .slice bI X.V.nI bkI]) X.marked) := O227.out.below (by omega) hb
  clear B27 A27 O127 P27 LB27 LG27 X027 Q27 O227
  have zzw13a : w12.heap.size ≤ w13.heap.size := hb.size
  clear hb
  obtain ⟨dW, dkW, dO, dkO, dX, dkX, dI, dkI, rfl⟩ := hO.open
  clear o4 k4 l4 m4 p4 q4
  obtain ⟨hi4, eh4⟩ : ∃ y, y = w13.heap.size := ⟨_, rfl⟩
  rw [← eh4] at hO
  have yh4 : hi4 ≤ w13.heap.size := Nat.le_of_eq eh4
  clear eh4
  obtain ⟨lo4, hO⟩ : ∃ lo4, OwnH lo4 hi4 w13 (.agg #[.int .i64 X.ag, .int .i64 X.ct, .int .i64 X.V.c, .slice dW X.V.nW dkW, .int .i64 X.V.g, .slice dO X.V.nO dkO, .slice dX X.V.nX dkX, .slice dI X.V.nI dkI]) X := ⟨_, hO⟩
  have O429 : Hid (OwnH lo4 hi4 w13 (.agg #[.int .i64 X.ag, .int .i64 X.ct, .int .i64 X.V.c, .slice dW X.V.nW dkW, .int .i64 X.V.g, .slice dO X.V.nO dkO, .slice dX X.V.nX dkX, .slice dI X.V.nI dkI]) X) := hO
  clear hO
  have yA0 : w13.cell? ⟨w.heap.size, 0, none⟩ = some (.bool up) := (A28.out.2 0 (by simp)).1
  have yA1 : w13.cell? ⟨w.heap.size, 1, none⟩ = some (.slice aH n cH) := (A28.out.2 1 (by simp)).1
  have yA2 : w13.cell? ⟨w.heap.size, 2, none⟩ = some (.slice aG g cG) := (A28.out.2 2 (by simp)).1
  have hlA : w.heap.size < w13.heap.size := A28.out.1
  have yP0 : w13.cell? ⟨gP, 0, none⟩ = some (.int .i64 X.ag) := (P28.out.2 0 (by simp)).1
  have yP1 : w13.cell? ⟨gP, 1, none⟩ = some (.int .i64 X.ct) := (P28.out.2 1 (by simp)).1
  have yP2 : w13.cell? ⟨gP, 2, none⟩ = some (.int .i64 X.V.c) := (P28.out.2 2 (by simp)).1
  have yP3 : w13.cell? ⟨gP, 3, none⟩ = some (.slice aW X.V.nW akW) := (P28.out.2 3 (by simp)).1
  have yP4 : w13.cell? ⟨gP, 4, none⟩ = some (.int .i64 X.V.g) := (P28.out.2 4 (by simp)).1
  have yP5 : w13.cell? ⟨gP, 5, none⟩ = some (.slice aO X.V.nO akO) := (P28.out.2 5 (by simp)).1
  have yP6 : w13.cell? ⟨gP, 6, none⟩ = some (.slice aX X.V.nX akX) := (P28.out.2 6 (by simp)).1
  have yP7 : w13.cell? ⟨gP, 7, none⟩ = some (.slice aI X.V.nI akI) := (P28.out.2 7 (by simp)).1
  have hlP : gP < w13.heap.size := P28.out.1
  have yX00 : w13.cell? ⟨gX0, 0, none⟩ = some (.bool up) := (X028.out.2 0 (by simp)).1
  have yX01 : w13.cell? ⟨gX0, 1, none⟩ = some (.slice (some ⟨B2, 0, none⟩) n n) := (X028.out.2 1 (by simp)).1
  have yX02 : w13.cell? ⟨gX0, 2, none⟩ = some (.slice (some ⟨G2, 0, none⟩) g g) := (X028.out.2 2 (by simp)).1
  have hlX0 : gX0 < w13.heap.size := X028.out.1
  have yQ0 : w13.cell? ⟨gQ, 0, none⟩ = some (.int .i64 X.ag) := (Q28.out.2 0 (by simp)).1
  have yQ1 : w13.cell? ⟨gQ, 1, none⟩ = some (.int .i64 X.ct) := (Q28.out.2 1 (by simp)).1
  have yQ2 : w13.cell? ⟨gQ, 2, none⟩ = some (.int .i64 X.V.c) := (Q28.out.2 2 (by simp)).1
  have yQ3 : w13.cell? ⟨gQ, 3, none⟩ = some (.slice bW X.V.nW bkW) := (Q28.out.2 3 (by simp)).1
  have yQ4 : w13.cell? ⟨gQ, 4, none⟩ = some (.int .i64 X.V.g) := (Q28.out.2 4 (by simp)).1
  have yQ5 : w13.cell? ⟨gQ, 5, none⟩ = some (.slice bO X.V.nO bkO) := (Q28.out.2 5 (by simp)).1
  have yQ6 : w13.cell? ⟨gQ, 6, none⟩ = some (.slice bX X.V.nX bkX) := (Q28.out.2 6 (by simp)).1
  have yQ7 : w13.cell? ⟨gQ, 7, none⟩ = some (.slice bI X.V.nI bkI) := (Q28.out.2 7 (by simp)).1
  have hlQ : gQ < w13.heap.size := Q28.out.1
  go_wp2_with fail
  obtain ⟨w14, eb⟩ : ∃ y, y = w13.alloc (.cells #[.int .i64 X.ag, .int .i64 X.ct, .int .i64 X.V.c, .slice dW X.V.nW dkW, .int .i64 X.V.g, .slice dO X.V.nO dkO, .slice dX X.V.nX dkX, .slice dI X.V.nI dkI] 45) := ⟨_, rfl⟩
  rw [← eb]
  have hb : Below w13.heap.size w13 w14 := by rw [eb]; exact (Below.refl _ _).alloc (Nat.le_refl _) _
  have Xb : Bk w14 w13.heap.size [.int .i64 X.ag, .int .i64 X.ct, .int .i64 X.V.c, .slice dW X.V.nW dkW, .int .i64 X.V.g, .slice dO X.V.nO dkO, .slice dX X.V.nX dkX, .slice dI X.V.nI dkI] := by rw [eb]; exact bk_new w13 45 [.int .i64 X.ag, .int .i64 X.ct, .int .i64 X.V.c, .slice dW X.V.nW dkW, .int .i64 X.V.g, .slice dO X.V.nO dkO, .slice dX X.V.nX dkX, .slice dI X.V.nI dkI]
  clear eb
  clear yA0 yA1 yA2 hlA yP0 yP1 yP2 yP3 yP4 yP5 yP6 yP7 hlP yX00 yX01 yX02 hlX0 yQ0 yQ1 yQ2 yQ3 yQ4 yQ5 yQ6 yQ7 hlQ
  have B30 : Hid (Below w.heap.size w w14) := bthen B28.out hb
  have A30 : Hid (Bk w14 w.heap.size [.bool up, .slice aH n cH, .slice aG g cG]) := A28.out.below hb
  have O130 : Hid (OwnH lo1 hi1 w14 (.agg #[.int .i64 X.ag, .int .i64 X.ct, .int .i64 X.V.c, .slice aW X.V.nW akW, .int .i64 X.V.g, .slice aO X.V.nO akO, .slice aX X.V.nX akX, .slice aI X.V.nI akI]) X) := O128.out.below (by omega) hb
  have P30 : Hid (Bk w14 gP [.int .i64 X.ag, .int .i64 X.ct, .int .i64 X.V.c, .slice aW X.V.nW akW, .int .i64 X.V.g, .slice aO X.V.nO akO, .slice aX X.V.nX akX, .slice aI X.V.nI akI]) := P28.out.below hb
  have LB30 : Hid (B2 < w14.heap.size) := Nat.lt_of_lt_of_le LB28.out hb.size
  have LG30 : Hid (G2 < w14.heap.size) := Nat.lt_of_lt_of_le LG28.out hb.size
  have X030 : Hid (Bk w14 gX0 [.bool up, .slice (some ⟨B2, 0, none⟩) n n, .slice (some ⟨G2, 0, none⟩) g g]) := X028.out.below hb
  have Q30 : Hid (Bk w14 gQ [.int .i64 X.ag, .int .i64 X.ct, .int .i64 X.V.c, .slice bW X.V.nW bkW, .int .i64 X.V.g, .slice bO X.V.nO bkO, .slice bX X.V.nX bkX, .slice bI X.V.nI bkI]) := Q28.out.below hb
  have O230 : Hid (OwnH lo2 hi2 w14 (.agg #[.int .i64 X.ag, .int .i64 X.ct, .int .i64 X.V.c, .slice bW X.V.nW bkW, .int .i64 X.V.g, .slice bO X.V.nO bkO, .slice bX X.V.nX bkX, .slice bI X.V.nI bkI]) X.marked) := O228.out.below (by omega) hb
  have O430 : Hid (OwnH lo4 hi4 w14 (.agg #[.int .i64 X.ag, .int .i64 X.ct, .int .i64 X.V.c, .slice dW X.V.nW dkW, .int .i64 X.V.g, .slice dO X.V.nO dkO, .slice dX X.V.nX dkX, .slice dI X.V.nI dkI]) X) := O429.out.below (by omega) hb
  clear B28 A28 O128 P28 LB28 LG28 X028 Q28 O228 O429
  obtain ⟨gY, egY⟩ : ∃ y, y = w13.heap.size := ⟨_, rfl⟩
  rw [← egY] at Xb
  have ygYa : gY ≤ w13.heap.size := Nat.le_of_eq egY
  have ygYb : w13.heap.size ≤ gY := Nat.le_of_eq egY.symm
  have ygYc : gY < w14.heap.size := Xb.1
  have Y31 : Hid (Bk w14 gY [.int .i64 X.ag, .int .i64 X.ct, .int .i64 X.V.c, .slice dW X.V.nW dkW, .int .i64 X.V.g, .slice dO X.V.nO dkO, .slice dX X.V.nX dkX, .slice dI X.V.nI dkI]) := Xb
  rw [← egY]
  clear Xb hb egY
  refine (eqHold _ _ X.ag X.ct X.V SX.out _ O430.out.at O130.out.at).mono ?_
  rintro e w15 ⟨rfl, hb⟩
  have B32 : Hid (Below w.heap.size w w15) := bthen B30.out hb
  have A32 : Hid (Bk w15 w.heap.size [.bool up, .slice aH n cH, .slice aG g cG]) := A30.out.below hb
  have O132 : Hid (OwnH lo1 hi1 w15 (.agg #[.int .i64 X.ag, .int .i64 X.ct, .int .i64 X.V.c, .slice aW X.V.nW akW, .int .i64 X.V.g, .slice aO X.V.nO akO, .slice aX X.V.nX akX, .slice aI X.V.nI akI]) X) := O130.out.below (by omega) hb
  have P32 : Hid (Bk w15 gP [.int .i64 X.ag, .int .i64 X.ct, .int .i64 X.V.c, .slice aW X.V.nW akW, .int .i64 X.V.g, .slice aO X.V.nO akO, .slice aX X.V.nX akX, .slice aI X.V.nI akI]) := P30.out.below hb
  have LB32 : Hid (B2 < w15.heap.size) := Nat.lt_of_lt_of_le LB30.out hb.size
  have LG32 : Hid (G2 < w15.heap.size) := Nat.lt_of_lt_of_le LG30.out hb.size
  have X032 : Hid (Bk w15 gX0 [.bool up, .slice (some ⟨B2, 0, none⟩) n n, .slice (some ⟨G2, 0, none⟩) g g]) := X030.out.below hb
  have Q32 : Hid (Bk w15 gQ [.int .i64 X.ag, .int .i64 X.ct, .int .i64 X.V.c, .slice bW X.V.nW bkW, .int .i64 X.V.g, .slice bO X.V.nO bkO, .slice bX X.V.nX bkX, .slice bI X.V.nI bkI]) := Q30.out.below hb
  have O232 : Hid (OwnH lo2 hi2 w15 (.agg #[.int .i64 X.ag, .int .i64 X.ct, .int .i64 X.V.c, .slice bW X.V.nW bkW, .int .i64 X.V.g, .slice bO X.V.nO bkO, .slice bX X.V.nX bkX, .slice bI X.V.nI bkI]) X.marked) := O230.out.below (by omega) hb
  have O432 : Hid (OwnH lo4 hi4 w15 (.agg #[.int .i64 X.ag, .int .i64 X.ct, .int .i64 X.V.c, .slice dW X.V.nW dkW, .int .i64 X.V.g, .slice dO X.V.nO dkO, .slice dX X.V.nX dkX, .slice dI X.V.nI dkI]) X) := O430.out.below (by omega) hb
  have Y32 : Hid (Bk w15 gY [.int .i64 X.ag, .int .i64 X.ct, .int .i64 X.V.c, .slice dW X.V.nW dkW, .int .i64 X.V.g, .slice dO X.V.nO dkO, .slice dX X.V.nX dkX, .slice dI X.V.nI dkI]) := Y31.out.below hb
  clear B30 A30 O130 P30 LB30 LG30 X030 Q30 O230 O430 Y31
  have zzw15a : w14.heap.size ≤ w15.heap.size := hb.size
  clear hb
  have yA0 : w15.cell? ⟨w.heap.size, 0, none⟩ = some (.bool up) := (A32.out.2 0 (by simp)).1
  have yA1 : w15.cell? ⟨w.heap.size, 1, none⟩ = some (.slice aH n cH) := (A32.out.2 1 (by simp)).1
  have yA2 : w15.cell? ⟨w.heap.size, 2, none⟩ = some (.slice aG g cG) := (A32.out.2 2 (by simp)).1
  have hlA : w.heap.size < w15.heap.size := A32.out.1
  have yP0 : w15.cell? ⟨gP, 0, none⟩ = some (.int .i64 X.ag) := (P32.out.2 0 (by simp)).1
  have yP1 : w15.cell? ⟨gP, 1, none⟩ = some (.int .i64 X.ct) := (P32.out.2 1 (by simp)).1
  have yP2 : w15.cell? ⟨gP, 2, none⟩ = some (.int .i64 X.V.c) := (P32.out.2 2 (by simp)).1
  have yP3 : w15.cell? ⟨gP, 3, none⟩ = some (.slice aW X.V.nW akW) := (P32.out.2 3 (by simp)).1
  have yP4 : w15.cell? ⟨gP, 4, none⟩ = some (.int .i64 X.V.g) := (P32.out.2 4 (by simp)).1
  have yP5 : w15.cell? ⟨gP, 5, none⟩ = some (.slice aO X.V.nO akO) := (P32.out.2 5 (by simp)).1
  have yP6 : w15.cell? ⟨gP, 6, none⟩ = some (.slice aX X.V.nX akX) := (P32.out.2 6 (by simp)).1
  have yP7 : w15.cell? ⟨gP, 7, none⟩ = some (.slice aI X.V.nI akI) := (P32.out.2 7 (by simp)).1
  have hlP : gP < w15.heap.size := P32.out.1
  have yX00 : w15.cell? ⟨gX0, 0, none⟩ = some (.bool up) := (X032.out.2 0 (by simp)).1
  have yX01 : w15.cell? ⟨gX0, 1, none⟩ = some (.slice (some ⟨B2, 0, none⟩) n n) := (X032.out.2 1 (by simp)).1
  have yX02 : w15.cell? ⟨gX0, 2, none⟩ = some (.slice (some ⟨G2, 0, none⟩) g g) := (X032.out.2 2 (by simp)).1
  have hlX0 : gX0 < w15.heap.size := X032.out.1
  have yQ0 : w15.cell? ⟨gQ, 0, none⟩ = some (.int .i64 X.ag) := (Q32.out.2 0 (by simp)).1
  have yQ1 : w15.cell? ⟨gQ, 1, none⟩ = some (.int .i64 X.ct) := (Q32.out.2 1 (by simp)).1
  have yQ2 : w15.cell? ⟨gQ, 2, none⟩ = some (.int .i64 X.V.c) := (Q32.out.2 2 (by simp)).1
  have yQ3 : w15.cell? ⟨gQ, 3, none⟩ = some (.slice bW X.V.nW bkW) := (Q32.out.2 3 (by simp)).1
  have yQ4 : w15.cell? ⟨gQ, 4, none⟩ = some (.int .i64 X.V.g) := (Q32.out.2 4 (by simp)).1
  have yQ5 : w15.cell? ⟨gQ, 5, none⟩ = some (.slice bO X.V.nO bkO) := (Q32.out.2 5 (by simp)).1
  have yQ6 : w15.cell? ⟨gQ, 6, none⟩ = some (.slice bX X.V.nX bkX) := (Q32.out.2 6 (by simp)).1
  have yQ7 : w15.cell? ⟨gQ, 7, none⟩ = some (.slice bI X.V.nI bkI) := (Q32.out.2 7 (by simp)).1
  have hlQ : gQ < w15.heap.size := Q32.out.1
  have yY0 : w15.cell? ⟨gY, 0, none⟩ = some (.int .i64 X.ag) := (Y32.out.2 0 (by simp)).1
  have yY1 : w15.cell? ⟨gY, 1, none⟩ = some (.int .i64 X.ct) := (Y32.out.2 1 (by simp)).1
  have yY2 : w15.cell? ⟨gY, 2, none⟩ = some (.int .i64 X.V.c) := (Y32.out.2 2 (by simp)).1
  have yY3 : w15.cell? ⟨gY, 3, none⟩ = some (.slice dW X.V.nW dkW) := (Y32.out.2 3 (by simp)).1
  have yY4 : w15.cell? ⟨gY, 4, none⟩ = some (.int .i64 X.V.g) := (Y32.out.2 4 (by simp)).1
  have yY5 : w15.cell? ⟨gY, 5, none⟩ = some (.slice dO X.V.nO dkO) := (Y32.out.2 5 (by simp)).1
  have yY6 : w15.cell? ⟨gY, 6, none⟩ = some (.slice dX X.V.nX dkX) := (Y32.out.2 6 (by simp)).1
  have yY7 : w15.cell? ⟨gY, 7, none⟩ = some (.slice dI X.V.nI dkI) := (Y32.out.2 7 (by simp)).1
  have hlY : gY < w15.heap.size := Y32.out.1
  go_wp2_with fail
  refine (heldH lo2 hi2 _ X FX.out _ (by omega) O232.out).mono ?_
  rintro e w16 ⟨rfl, hb⟩
  clear yA0 yA1 yA2 hlA yP0 yP1 yP2 yP3 yP4 yP5 yP6 yP7 hlP yX00 yX01 yX02 hlX0 yQ0 yQ1 yQ2 yQ3 yQ4 yQ5 yQ6 yQ7 hlQ yY0 yY1 yY2 yY3 yY4 yY5 yY6 yY7 hlY
  have B33 : Hid (Below w.heap.size w w16) := bthen B32.out hb
  have A33 : Hid (Bk w16 w.heap.size [.bool up, .slice aH n cH, .slice aG g cG]) := A32.out.below hb
  have O133 : Hid (OwnH lo1 hi1 w16 (.agg #[.int .i64 X.ag, .int .i64 X.ct, .int .i64 X.V.c, .slice aW X.V.nW akW, .int .i64 X.V.g, .slice aO X.V.nO akO, .slice aX X.V.nX akX, .slice aI X.V.nI akI]) X) := O132.out.below (by omega) hb
  have P33 : Hid (Bk w16 gP [.int .i64 X.ag, .int .i64 X.ct, .int .i64 X.V.c, .slice aW X.V.nW akW, .int .i64 X.V.g, .slice aO X.V.nO akO, .slice aX X.V.nX akX, .slice aI X.V.nI akI]) := P32.out.below hb
  have LB33 : Hid (B2 < w16.heap.size) := Nat.lt_of_lt_of_le LB32.out hb.size
  have LG33 : Hid (G2 < w16.heap.size) := Nat.lt_of_lt_of_le LG32.out hb.size
  have X033 : Hid (Bk w16 gX0 [.bool up, .slice (some ⟨B2, 0, none⟩) n n, .slice (some ⟨G2, 0, none⟩) g g]) := X032.out.below hb
  have Q33 : Hid (Bk w16 gQ [.int .i64 X.ag, .int .i64 X.ct, .int .i64 X.V.c, .slice bW X.V.nW bkW, .int .i64 X.V.g, .slice bO X.V.nO bkO, .slice bX X.V.nX bkX, .slice bI X.V.nI bkI]) := Q32.out.below hb
  have O233 : Hid (OwnH lo2 hi2 w16 (.agg #[.int .i64 X.ag, .int .i64 X.ct, .int .i64 X.V.c, .slice bW X.V.nW bkW, .int .i64 X.V.g, .slice bO X.V.nO bkO, .slice bX X.V.nX bkX, .slice bI X.V.nI bkI]) X.marked) := O232.out.below (by omega) hb
  have O433 : Hid (OwnH lo4 hi4 w16 (.agg #[.int .i64 X.ag, .int .i64 X.ct, .int .i64 X.V.c, .slice dW X.V.nW dkW, .int .i64 X.V.g, .slice dO X.V.nO dkO, .slice dX X.V.nX dkX, .slice dI X.V.nI dkI]) X) := O432.out.below (by omega) hb
  have Y33 : Hid (Bk w16 gY [.int .i64 X.ag, .int .i64 X.ct, .int .i64 X.V.c, .slice dW X.V.nW dkW, .int .i64 X.V.g, .slice dO X.V.nO dkO, .slice dX X.V.nX dkX, .slice dI X.V.nI dkI]) := Y32.out.below hb
  clear B32 A32 O132 P32 LB32 LG32 X032 Q32 O232 O432 Y32
  have zzw16a : w15.heap.size ≤ w16.heap.size := hb.size
  clear hb
  have yA0 : w16.cell? ⟨w.heap.size, 0, none⟩ = some (.bool up) := (A33.out.2 0 (by simp)).1
  have yA1 : w16.cell? ⟨w.heap.size, 1, none⟩ = some (.slice aH n cH) := (A33.out.2 1 (by simp)).1
  have yA2 : w16.cell? ⟨w.heap.size, 2, none⟩ = some (.slice aG g cG) := (A33.out.2 2 (by simp)).1
  have hlA : w.heap.size < w16.heap.size := A33.out.1
  have yP0 : w16.cell? ⟨gP, 0, none⟩ = some (.int .i64 X.ag) := (P33.out.2 0 (by simp)).1
  have yP1 : w16.cell? ⟨gP, 1, none⟩ = some (.int .i64 X.ct) := (P33.out.2 1 (by simp)).1
  have yP2 : w16.cell? ⟨gP, 2, none⟩ = some (.int .i64 X.V.c) := (P33.out.2 2 (by simp)).1
  have yP3 : w16.cell? ⟨gP, 3, none⟩ = some (.slice aW X.V.nW akW) := (P33.out.2 3 (by simp)).1
  have yP4 : w16.cell? ⟨gP, 4, none⟩ = some (.int .i64 X.V.g) := (P33.out.2 4 (by simp)).1
  have yP5 : w16.cell? ⟨gP, 5, none⟩ = some (.slice aO X.V.nO akO) := (P33.out.2 5 (by simp)).1
  have yP6 : w16.cell? ⟨gP, 6, none⟩ = some (.slice aX X.V.nX akX) := (P33.out.2 6 (by simp)).1
  have yP7 : w16.cell? ⟨gP, 7, none⟩ = some (.slice aI X.V.nI akI) := (P33.out.2 7 (by simp)).1
  have hlP : gP < w16.heap.size := P33.out.1
  have yX00 : w16.cell? ⟨gX0, 0, none⟩ = some (.bool up) := (X033.out.2 0 (by simp)).1
  have yX01 : w16.cell? ⟨gX0, 1, none⟩ = some (.slice (some ⟨B2, 0, none⟩) n n) := (X033.out.2 1 (by simp)).1
  have yX02 : w16.cell? ⟨gX0, 2, none⟩ = some (.slice (some ⟨G2, 0, none⟩) g g) := (X033.out.2 2 (by simp)).1
  have hlX0 : gX0 < w16.heap.size := X033.out.1
  have yQ0 : w16.cell? ⟨gQ, 0, none⟩ = some (.int .i64 X.ag) := (Q33.out.2 0 (by simp)).1
  have yQ1 : w16.cell? ⟨gQ, 1, none⟩ = some (.int .i64 X.ct) := (Q33.out.2 1 (by simp)).1
  have yQ2 : w16.cell? ⟨gQ, 2, none⟩ = some (.int .i64 X.V.c) := (Q33.out.2 2 (by simp)).1
  have yQ3 : w16.cell? ⟨gQ, 3, none⟩ = some (.slice bW X.V.nW bkW) := (Q33.out.2 3 (by simp)).1
  have yQ4 : w16.cell? ⟨gQ, 4, none⟩ = some (.int .i64 X.V.g) := (Q33.out.2 4 (by simp)).1
  have yQ5 : w16.cell? ⟨gQ, 5, none⟩ = some (.slice bO X.V.nO bkO) := (Q33.out.2 5 (by simp)).1
  have yQ6 : w16.cell? ⟨gQ, 6, none⟩ = some (.slice bX X.V.nX bkX) := (Q33.out.2 6 (by simp)).1
  have yQ7 : w16.cell? ⟨gQ, 7, none⟩ = some (.slice bI X.V.nI bkI) := (Q33.out.2 7 (by simp)).1
  have hlQ : gQ < w16.heap.size := Q33.out.1
  have yY0 : w16.cell? ⟨gY, 0, none⟩ = some (.int .i64 X.ag) := (Y33.out.2 0 (by simp)).1
  have yY1 : w16.cell? ⟨gY, 1, none⟩ = some (.int .i64 X.ct) := (Y33.out.2 1 (by simp)).1
  have yY2 : w16.cell? ⟨gY, 2, none⟩ = some (.int .i64 X.V.c) := (Y33.out.2 2 (by simp)).1
  have yY3 : w16.cell? ⟨gY, 3, none⟩ = some (.slice dW X.V.nW dkW) := (Y33.out.2 3 (by simp)).1
  have yY4 : w16.cell? ⟨gY, 4, none⟩ = some (.int .i64 X.V.g) := (Y33.out.2 4 (by simp)).1
  have yY5 : w16.cell? ⟨gY, 5, none⟩ = some (.slice dO X.V.nO dkO) := (Y33.out.2 5 (by simp)).1
  have yY6 : w16.cell? ⟨gY, 6, none⟩ = some (.slice dX X.V.nX dkX) := (Y33.out.2 6 (by simp)).1
  have yY7 : w16.cell? ⟨gY, 7, none⟩ = some (.slice dI X.V.nI dkI) := (Y33.out.2 7 (by simp)).1
  have hlY : gY < w16.heap.size := Y33.out.1
  go_wp2
  go_ret
  exact ⟨rfl, B33.out⟩
end Go.Proofs.Ytlbjgecjonegkaa
