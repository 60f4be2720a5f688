/- Servers: their size, copy and compare; conditions: the server lies in memory. -/
import Derived.Test.YtlbjgecjonegkaaHL3
import Derived.Test.YtlbjgecjonegkaaList7
namespace Go.Proofs.Ytlbjgecjonegkaa
open Go.RowKit Go.Deep
set_option linter.unusedVariables false
theorem HC.far {w : World} {B p O j : Nat} {u : Value} {X : HV} (h : HC w B p X) (hO : O < B) : HC (w.setCell ⟨O, j, none⟩ u) B p X := by
  obtain ⟨lo, bW, bO, bX, bI, h0, ⟨c0, c1, c2, c3, c4, c5, c6, c7⟩, h1⟩ := h
  have k : ∀ o, (w.setCell ⟨O, j, none⟩ u).cell? ⟨B, o, none⟩ = w.cell? ⟨B, o, none⟩ := fun o => set_out (fun e => by omega)
  exact ⟨lo, bW, bO, bX, bI, h0, ⟨(k _).trans c0, (k _).trans c1, (k _).trans c2, (k _).trans c3, (k _).trans c4, (k _).trans c5, (k _).trans c6, (k _).trans c7⟩, h1.set (by omega)⟩
theorem HOwn.far {w : World} {B n k O j : Nat} {u : Value} {F : Nat → HV} (h : HOwn w B n F k) (hO : O < B) : HOwn (w.setCell ⟨O, j, none⟩ u) B n F k :=
  ⟨fun i hi => by rw [set_out (fun e => by omega), set_frozen]; exact h.1 i hi, fun k' hk => (h.2 k' hk).far hO⟩
theorem P7.own_far {w : World} {B n k O j : Nat} {u : Value} {Z : Nat → Nat → Int} (h : P7.OwnK w B n Z k) (hO : ¬ O = B) : P7.OwnK (w.setCell ⟨O, j, none⟩ u) B n Z k :=
  ⟨fun i hi => by rw [set_out (fun e => hO e.1), set_frozen]; exact h.1 i hi, fun k' j' h1 h2 => by rw [set_out (fun e => hO e.1)]; exact h.2 k' j' h1 h2⟩

set_option maxHeartbeats 1000000 in
theorem szSrv (up : Bool) (aH : Option Addr) (n cH : Nat) (F : Nat → HV) (aG : Option Addr) (g cG : Nat) (hn : (n : Int) ≤ 9223372036854775807) (hg : (g : Int) ≤ 9223372036854775807) (hN : ∀ k, k < n → (F k).V.short maxLen) (w : World) (hH : HRow w aH n F) :
    Calls Try.prog 5 #[.agg #[.bool up, .slice aH n cH, .slice aG g cG], .int .i64 1048576] w fun e w' => (∃ r : Int, e = .returned (.int .i64 r) ∧ (r < 0 ∨ (0 ≤ r ∧ n ≤ 1048576 ∧ (∀ k, k < n → (F k).V.short 1048576) ∧ g ≤ 1048576))) ∧ Below w.heap.size w w' := by
  have HH : Hid (HRow w aH n F) := hH
  have HN : Hid (∀ k, k < n → (F k).V.short maxLen) := hN
  clear hH hN
  go_enter Try.func5, Try.ntmps5
  go_wp2_with fail
  obtain ⟨w0, e0⟩ : ∃ w0, w0 = w.alloc (.cells #[.bool up, .slice aH n cH, .slice aG g cG] 27) := ⟨_, rfl⟩
  have B1 : Hid (Below w.heap.size w w0) := by rw [e0]; exact (Below.refl _ _).alloc (by simp) _
  have A2 : Hid (Bk w0 w.heap.size [.bool up, .slice aH n cH, .slice aG g cG]) := by rw [e0]; exact bk_new w 27 [.bool up, .slice aH n cH, .slice aG g cG]
  rw [← e0]
  clear e0
  refine (szHolds aH n cH F 1048576 (by omega) (by omega) hn HN.out _ (HH.out.below B1.out)).mono ?_
  rintro e w1 ⟨⟨r, rfl, hr⟩, hb1⟩
  have B3 : Hid (Below w.heap.size w w1) := bthen B1.out hb1
  have A3 : Hid (Bk w1 w.heap.size [.bool up, .slice aH n cH, .slice aG g cG]) := A2.out.below hb1
  clear B1 A2
  clear hb1
  have yA0 : w1.cell? ⟨w.heap.size, 0, none⟩ = some (.bool up) := (A3.out.2 0 (by simp)).1
  have yA1 : w1.cell? ⟨w.heap.size, 1, none⟩ = some (.slice aH n cH) := (A3.out.2 1 (by simp)).1
  have yA2 : w1.cell? ⟨w.heap.size, 2, none⟩ = some (.slice aG g cG) := (A3.out.2 2 (by simp)).1
  have hlA : w.heap.size < w1.heap.size := A3.out.1
  rcases hr with hr | ⟨r0, r1, r2, r3⟩
  · go_wp2
    go_ret
    exact ⟨⟨-1, rfl, .inl (by omega)⟩, B3.out⟩
  · have R3 : Hid (∀ k, k < n → (F k).V.short 1048576) := r3
    have hr' : ¬ r < 0 := by omega
    clear r3
    go_wp2_with fail
    refine (P7.szList aG g cG r r0 (by omega) hg _).mono ?_
    rintro e w2 ⟨rfl, hb2⟩
    have B2 : Hid (Below w.heap.size w w2) := bthen B3.out hb2
    clear hb2 yA0 yA1 yA2 hlA
    by_cases hge : (g : Int) ≤ r
    · rw [if_pos hge]
      have h5 : ¬ r - (g : Int) < 0 := by omega
      go_wp2
      go_ret
      exact ⟨⟨r - (g : Int), rfl, .inr ⟨by omega, by omega, R3.out, by omega⟩⟩, B2.out⟩
    · rw [if_neg hge]
      go_wp2
      go_ret
      exact ⟨⟨-1, rfl, .inl (by omega)⟩, B2.out⟩

set_option maxHeartbeats 2000000 in
theorem toSrv (up : Bool) (aH : Option Addr) (n cH : Nat) (F : Nat → HV) (aG : Option Addr) (g cG : Nat) (Z : Nat → Nat → Int) (hn : n ≤ 1048576) (hg : g ≤ 1048576) (hS : ∀ k, k < n → (F k).V.short 1048576) (w : World) (hH : HRow w aH n F) (hG : P7.RowK w aG g Z) :
    Calls Try.prog 8 #[.agg #[.bool up, .slice aH n cH, .slice aG g cG]] w fun e w' => (∃ B G, e = .returned (.agg #[.bool up, .slice (some ⟨B, 0, none⟩) n n, .slice (some ⟨G, 0, none⟩) g g]) ∧ HOwn w' B n F n ∧ P7.OwnK w' G g Z g ∧ B < w'.heap.size ∧ G < w'.heap.size ∧ w.heap.size ≤ B ∧ B < G) ∧ Below w.heap.size w w' := by
  have HH : Hid (HRow w aH n F) := hH
  have HG : Hid (P7.RowK w aG g Z) := hG
  have HS : Hid (∀ k, k < n → (F k).V.short 1048576) := hS
  clear hH hG hS
  go_enter Try.func8, Try.ntmps8
  go_wp2_with fail
  obtain ⟨w0, e0⟩ : ∃ w0, w0 = ((w.alloc (.cells #[.bool up, .slice aH n cH, .slice aG g cG] 27)).alloc (.cells #[.bool false, .slice none 0 0, .slice none 0 0] 35)).alloc (.cells #[.bool up, .slice none 0 0, .slice none 0 0] 35) := ⟨_, rfl⟩
  have B1 : Hid (Below w.heap.size w w0) := by rw [e0]; exact (((Below.refl _ _).alloc (by simp) _).alloc (by simp) _).alloc (by simp; omega) _
  have A2 : Hid (Bk w0 w.heap.size [.bool up, .slice aH n cH, .slice aG g cG]) := by rw [e0]; exact ((bk_new w 27 [.bool up, .slice aH n cH, .slice aG g cG]).below ((Below.refl _ _).alloc (Nat.le_refl _) _)).below ((Below.refl _ _).alloc (Nat.le_refl _) _)
  have R3 : Hid (Bk w0 (w.heap.size + 1) [.bool false, .slice none 0 0, .slice none 0 0]) := by rw [e0]; have := (bk_new (w.alloc (.cells #[.bool up, .slice aH n cH, .slice aG g cG] 27)) 35 [.bool false, .slice none 0 0, .slice none 0 0]).below ((Below.refl _ _).alloc (Nat.le_refl _) (.cells #[.bool up, .slice none 0 0, .slice none 0 0] 35)); rwa [show (w.alloc (.cells #[.bool up, .slice aH n cH, .slice aG g cG] 27)).heap.size = w.heap.size + 1 by simp] at this
  have O4 : Hid (Bk w0 (w.heap.size + 1 + 1) [.bool up, .slice none 0 0, .slice none 0 0]) := by rw [e0]; have := bk_new ((w.alloc (.cells #[.bool up, .slice aH n cH, .slice aG g cG] 27)).alloc (.cells #[.bool false, .slice none 0 0, .slice none 0 0] 35)) 35 [.bool up, .slice none 0 0, .slice none 0 0]; rwa [show ((w.alloc (.cells #[.bool up, .slice aH n cH, .slice aG g cG] 27)).alloc (.cells #[.bool false, .slice none 0 0, .slice none 0 0] 35)).heap.size = w.heap.size + 1 + 1 by simp] at this
  rw [← e0]
  clear e0
  have z0 : w.heap.size + 1 + 1 < w0.heap.size := O4.out.1
  refine (toHolds_any aH n cH F hn HS.out _ (HH.out.below B1.out)).mono ?_
  rintro e w1 ⟨rfl, ho1, hs1, hb1⟩
  have B5 : Hid (Below w.heap.size w w1) := bthen B1.out hb1
  have A5 : Hid (Bk w1 w.heap.size [.bool up, .slice aH n cH, .slice aG g cG]) := A2.out.below hb1
  have R5 : Hid (Bk w1 (w.heap.size + 1) [.bool false, .slice none 0 0, .slice none 0 0]) := R3.out.below hb1
  have O5 : Hid (Bk w1 (w.heap.size + 1 + 1) [.bool up, .slice none 0 0, .slice none 0 0]) := O4.out.below hb1
  clear B1 A2 R3 O4
  have H1 : Hid (HOwn w1 w0.heap.size n F n) := ho1
  clear ho1 hb1
  obtain ⟨B, eB⟩ : ∃ B, B = w0.heap.size := ⟨_, rfl⟩
  rw [← eB] at z0 hs1 H1 ⊢
  clear eB
  have yO0 : w1.cell? ⟨(w.heap.size + 1 + 1), 0, none⟩ = some (.bool up) := (O5.out.2 0 (by simp)).1
  have zO0 : w1.frozen? ⟨(w.heap.size + 1 + 1), 0, none⟩ = false := (O5.out.2 0 (by simp)).2
  have yO1 : w1.cell? ⟨(w.heap.size + 1 + 1), 1, none⟩ = some (.slice none 0 0) := (O5.out.2 1 (by simp)).1
  have zO1 : w1.frozen? ⟨(w.heap.size + 1 + 1), 1, none⟩ = false := (O5.out.2 1 (by simp)).2
  have yO2 : w1.cell? ⟨(w.heap.size + 1 + 1), 2, none⟩ = some (.slice none 0 0) := (O5.out.2 2 (by simp)).1
  have zO2 : w1.frozen? ⟨(w.heap.size + 1 + 1), 2, none⟩ = false := (O5.out.2 2 (by simp)).2
  have hlO : (w.heap.size + 1 + 1) < w1.heap.size := O5.out.1
  have yA0 : w1.cell? ⟨w.heap.size, 0, none⟩ = some (.bool up) := (A5.out.2 0 (by simp)).1
  have yA1 : w1.cell? ⟨w.heap.size, 1, none⟩ = some (.slice aH n cH) := (A5.out.2 1 (by simp)).1
  have yA2 : w1.cell? ⟨w.heap.size, 2, none⟩ = some (.slice aG g cG) := (A5.out.2 2 (by simp)).1
  have hlA : w.heap.size < w1.heap.size := A5.out.1
  go_wp2_with fail
  obtain ⟨v1, ev1⟩ : ∃ v, v = w1.setCell ⟨w.heap.size + 1 + 1, 1, none⟩ (.slice (some ⟨B, 0, none⟩) n n) := ⟨_, rfl⟩
  clear yO0 zO0 yO1 zO1 yO2 zO2 hlO yA0 yA1 yA2 hlA
  have nB : Hid (Below w.heap.size w v1) := by rw [ev1]; exact B5.out.setCell (by show w.heap.size ≤ w.heap.size + 1 + 1; omega) _
  have nA : Hid (Bk v1 w.heap.size [.bool up, .slice aH n cH, .slice aG g cG]) := by rw [ev1]; exact A5.out.far (by omega)
  have nR : Hid (Bk v1 (w.heap.size + 1) [.bool false, .slice none 0 0, .slice none 0 0]) := by rw [ev1]; exact R5.out.far (by omega)
  have nO : Hid (Bk v1 (w.heap.size + 1 + 1) [.bool up, .slice (some ⟨B, 0, none⟩) n n, .slice none 0 0]) := by rw [ev1]; exact O5.out.set (j := 1) (by simp)
  have nH : Hid (HOwn v1 B n F n) := by rw [ev1]; exact H1.out.far (by omega)
  have hs2 : B < v1.heap.size := by rw [ev1, set_size]; exact hs1
  rw [← ev1]
  clear ev1 B5 A5 R5 O5 H1
  refine (P7.toList_any aG g cG Z hg _ (P7.row_below HG.out nB.out)).mono ?_
  rintro e w2 ⟨rfl, ho2, hs3, hb2⟩
  have B6 : Hid (Below w.heap.size w w2) := bthen nB.out hb2
  have A6 : Hid (Bk w2 w.heap.size [.bool up, .slice aH n cH, .slice aG g cG]) := nA.out.below hb2
  have R6 : Hid (Bk w2 (w.heap.size + 1) [.bool false, .slice none 0 0, .slice none 0 0]) := nR.out.below hb2
  have O6 : Hid (Bk w2 (w.heap.size + 1 + 1) [.bool up, .slice (some ⟨B, 0, none⟩) n n, .slice none 0 0]) := nO.out.below hb2
  clear nB nA nR nO
  have H2 : Hid (HOwn w2 B n F n) := nH.out.below hs2 hb2
  have G2 : Hid (P7.OwnK w2 v1.heap.size g Z g) := ho2
  have hs4 : B < w2.heap.size := Nat.lt_of_lt_of_le hs2 hb2.size
  clear ho2 hb2 nH
  obtain ⟨G, eG⟩ : ∃ G, G = v1.heap.size := ⟨_, rfl⟩
  rw [← eG] at hs2 hs3 G2 ⊢
  clear eG hs1
  have yO0 : w2.cell? ⟨(w.heap.size + 1 + 1), 0, none⟩ = some (.bool up) := (O6.out.2 0 (by simp)).1
  have zO0 : w2.frozen? ⟨(w.heap.size + 1 + 1), 0, none⟩ = false := (O6.out.2 0 (by simp)).2
  have yO1 : w2.cell? ⟨(w.heap.size + 1 + 1), 1, none⟩ = some (.slice (some ⟨B, 0, none⟩) n n) := (O6.out.2 1 (by simp)).1
  have zO1 : w2.frozen? ⟨(w.heap.size + 1 + 1), 1, none⟩ = false := (O6.out.2 1 (by simp)).2
  have yO2 : w2.cell? ⟨(w.heap.size + 1 + 1), 2, none⟩ = some (.slice none 0 0) := (O6.out.2 2 (by simp)).1
  have zO2 : w2.frozen? ⟨(w.heap.size + 1 + 1), 2, none⟩ = false := (O6.out.2 2 (by simp)).2
  have hlO : (w.heap.size + 1 + 1) < w2.heap.size := O6.out.1
  have yR0 : w2.cell? ⟨(w.heap.size + 1), 0, none⟩ = some (.bool false) := (R6.out.2 0 (by simp)).1
  have zR0 : w2.frozen? ⟨(w.heap.size + 1), 0, none⟩ = false := (R6.out.2 0 (by simp)).2
  have yR1 : w2.cell? ⟨(w.heap.size + 1), 1, none⟩ = some (.slice none 0 0) := (R6.out.2 1 (by simp)).1
  have zR1 : w2.frozen? ⟨(w.heap.size + 1), 1, none⟩ = false := (R6.out.2 1 (by simp)).2
  have yR2 : w2.cell? ⟨(w.heap.size + 1), 2, none⟩ = some (.slice none 0 0) := (R6.out.2 2 (by simp)).1
  have zR2 : w2.frozen? ⟨(w.heap.size + 1), 2, none⟩ = false := (R6.out.2 2 (by simp)).2
  have hlR : (w.heap.size + 1) < w2.heap.size := R6.out.1
  go_wp2
  refine bodyPost_ret (v := .agg #[.bool up, .slice (some ⟨B, 0, none⟩) n n, .slice (some ⟨G, 0, none⟩) g g]) (by simp [results, Try.results8, go_sem, *]) rfl ?_
  exact ⟨⟨B, G, rfl, ((((H2.out.far (O := w.heap.size + 1 + 1) (by omega)).far (O := w.heap.size + 1) (by omega)).far (O := w.heap.size + 1) (by omega)).far (O := w.heap.size + 1) (by omega)), (P7.own_far (P7.own_far (P7.own_far (P7.own_far G2.out (O := w.heap.size + 1 + 1) (by omega)) (O := w.heap.size + 1) (by omega)) (O := w.heap.size + 1) (by omega)) (O := w.heap.size + 1) (by omega)), by simpa [World.setCell] using hs4, by simpa [World.setCell] using hs3, by omega, by omega⟩, ((((B6.out.setCell (by show w.heap.size ≤ w.heap.size + 1 + 1; omega) _).setCell (by show w.heap.size ≤ w.heap.size + 1; omega) _).setCell (by show w.heap.size ≤ w.heap.size + 1; omega) _).setCell (by show w.heap.size ≤ w.heap.size + 1; omega) _)⟩

set_option maxHeartbeats 2000000 in
theorem eqSrv (up : Bool) (a1 : Option Addr) (c1 : Nat) (a2 : Option Addr) (c2 n : Nat) (F : Nat → HV) (b1 : Option Addr) (d1 : Nat) (b2 : Option Addr) (d2 g : Nat) (Z : Nat → Nat → Int) (hn : n ≤ 2000000) (hg : g ≤ 2000000) (hS : ∀ k, k < n → (F k).V.short 2000000) (w : World) (h1 : HRow w a1 n F) (h2 : HRow w a2 n F) (g1 : P7.RowK w b1 g Z) (g2 : P7.RowK w b2 g Z) :
    Calls Try.prog 10 #[.agg #[.bool up, .slice a1 n c1, .slice b1 g d1], .agg #[.bool up, .slice a2 n c2, .slice b2 g d2]] w fun e w' => e = .returned (.bool true) ∧ Below w.heap.size w w' := by
  have H1 : Hid (HRow w a1 n F) := h1
  have H2 : Hid (HRow w a2 n F) := h2
  have G1 : Hid (P7.RowK w b1 g Z) := g1
  have G2 : Hid (P7.RowK w b2 g Z) := g2
  have HS : Hid (∀ k, k < n → (F k).V.short 2000000) := hS
  clear h1 h2 g1 g2 hS
  cases up
  · go_enter Try.func10, Try.ntmps10
    go_wp2_with fail
    obtain ⟨w0, e0⟩ : ∃ w0, w0 = (w.alloc (.cells #[.bool false, .slice a1 n c1, .slice b1 g d1] 35)).alloc (.cells #[.bool false, .slice a2 n c2, .slice b2 g d2] 35) := ⟨_, rfl⟩
    have B1 : Hid (Below w.heap.size w w0) := by rw [e0]; exact ((Below.refl _ _).alloc (by simp) _).alloc (by simp) _
    have P2 : Hid (Bk w0 w.heap.size [.bool false, .slice a1 n c1, .slice b1 g d1]) := by rw [e0]; exact (bk_new w 35 [.bool false, .slice a1 n c1, .slice b1 g d1]).below ((Below.refl _ _).alloc (Nat.le_refl _) _)
    have Q3 : Hid (Bk w0 (w.heap.size + 1) [.bool false, .slice a2 n c2, .slice b2 g d2]) := by rw [e0]; have := bk_new (w.alloc (.cells #[.bool false, .slice a1 n c1, .slice b1 g d1] 35)) 35 [.bool false, .slice a2 n c2, .slice b2 g d2]; rwa [show (w.alloc (.cells #[.bool false, .slice a1 n c1, .slice b1 g d1] 35)).heap.size = w.heap.size + 1 by simp] at this
    rw [← e0]
    clear e0
    refine (eqHolds a1 c1 a2 c2 n F hn HS.out _ (H1.out.below B1.out) (H2.out.below B1.out)).mono ?_
    rintro e w1 ⟨rfl, hb1⟩
    have B4 : Hid (Below w.heap.size w w1) := bthen B1.out hb1
    have P4 : Hid (Bk w1 w.heap.size [.bool false, .slice a1 n c1, .slice b1 g d1]) := P2.out.below hb1
    have Q4 : Hid (Bk w1 (w.heap.size + 1) [.bool false, .slice a2 n c2, .slice b2 g d2]) := Q3.out.below hb1
    clear B1 P2 Q3
    clear hb1
    have yP0 : w1.cell? ⟨w.heap.size, 0, none⟩ = some (.bool false) := (P4.out.2 0 (by simp)).1
    have yP1 : w1.cell? ⟨w.heap.size, 1, none⟩ = some (.slice a1 n c1) := (P4.out.2 1 (by simp)).1
    have yP2 : w1.cell? ⟨w.heap.size, 2, none⟩ = some (.slice b1 g d1) := (P4.out.2 2 (by simp)).1
    have hlP : w.heap.size < w1.heap.size := P4.out.1
    have yQ0 : w1.cell? ⟨(w.heap.size + 1), 0, none⟩ = some (.bool false) := (Q4.out.2 0 (by simp)).1
    have yQ1 : w1.cell? ⟨(w.heap.size + 1), 1, none⟩ = some (.slice a2 n c2) := (Q4.out.2 1 (by simp)).1
    have yQ2 : w1.cell? ⟨(w.heap.size + 1), 2, none⟩ = some (.slice b2 g d2) := (Q4.out.2 2 (by simp)).1
    have hlQ : (w.heap.size + 1) < w1.heap.size := Q4.out.1
    go_wp2_with fail
    refine (P7.eqList b1 d1 b2 d2 g Z hg _ (P7.row_below G1.out B4.out) (P7.row_below G2.out B4.out)).mono ?_
    rintro e w2 ⟨rfl, hb2⟩
    clear yP0 yP1 yP2 hlP yQ0 yQ1 yQ2 hlQ
    have B5 : Hid (Below w.heap.size w w2) := bthen B4.out hb2
    have P5 : Hid (Bk w2 w.heap.size [.bool false, .slice a1 n c1, .slice b1 g d1]) := P4.out.below hb2
    have Q5 : Hid (Bk w2 (w.heap.size + 1) [.bool false, .slice a2 n c2, .slice b2 g d2]) := Q4.out.below hb2
    clear B4 P4 Q4
    clear hb2
    have yP0 : w2.cell? ⟨w.heap.size, 0, none⟩ = some (.bool false) := (P5.out.2 0 (by simp)).1
    have yP1 : w2.cell? ⟨w.heap.size, 1, none⟩ = some (.slice a1 n c1) := (P5.out.2 1 (by simp)).1
    have yP2 : w2.cell? ⟨w.heap.size, 2, none⟩ = some (.slice b1 g d1) := (P5.out.2 2 (by simp)).1
    have hlP : w.heap.size < w2.heap.size := P5.out.1
    have yQ0 : w2.cell? ⟨(w.heap.size + 1), 0, none⟩ = some (.bool false) := (Q5.out.2 0 (by simp)).1
    have yQ1 : w2.cell? ⟨(w.heap.size + 1), 1, none⟩ = some (.slice a2 n c2) := (Q5.out.2 1 (by simp)).1
    have yQ2 : w2.cell? ⟨(w.heap.size + 1), 2, none⟩ = some (.slice b2 g d2) := (Q5.out.2 2 (by simp)).1
    have hlQ : (w.heap.size + 1) < w2.heap.size := Q5.out.1
    go_wp2
    go_ret
    exact ⟨rfl, B5.out⟩
  · go_enter Try.func10, Try.ntmps10
    go_wp2_with fail
    obtain ⟨w0, e0⟩ : ∃ w0, w0 = (w.alloc (.cells #[.bool true, .slice a1 n c1, .slice b1 g d1] 35)).alloc (.cells #[.bool true, .slice a2 n c2, .slice b2 g d2] 35) := ⟨_, rfl⟩
    have B1 : Hid (Below w.heap.size w w0) := by rw [e0]; exact ((Below.refl _ _).alloc (by simp) _).alloc (by simp) _
    have P2 : Hid (Bk w0 w.heap.size [.bool true, .slice a1 n c1, .slice b1 g d1]) := by rw [e0]; exact (bk_new w 35 [.bool true, .slice a1 n c1, .slice b1 g d1]).below ((Below.refl _ _).alloc (Nat.le_refl _) _)
    have Q3 : Hid (Bk w0 (w.heap.size + 1) [.bool true, .slice a2 n c2, .slice b2 g d2]) := by rw [e0]; have := bk_new (w.alloc (.cells #[.bool true, .slice a1 n c1, .slice b1 g d1] 35)) 35 [.bool true, .slice a2 n c2, .slice b2 g d2]; rwa [show (w.alloc (.cells #[.bool true, .slice a1 n c1, .slice b1 g d1] 35)).heap.size = w.heap.size + 1 by simp] at this
    rw [← e0]
    clear e0
    refine (eqHolds a1 c1 a2 c2 n F hn HS.out _ (H1.out.below B1.out) (H2.out.below B1.out)).mono ?_
    rintro e w1 ⟨rfl, hb1⟩
    have B4 : Hid (Below w.heap.size w w1) := bthen B1.out hb1
    have P4 : Hid (Bk w1 w.heap.size [.bool true, .slice a1 n c1, .slice b1 g d1]) := P2.out.below hb1
    have Q4 : Hid (Bk w1 (w.heap.size + 1) [.bool true, .slice a2 n c2, .slice b2 g d2]) := Q3.out.below hb1
    clear B1 P2 Q3
    clear hb1
    have yP0 : w1.cell? ⟨w.heap.size, 0, none⟩ = some (.bool true) := (P4.out.2 0 (by simp)).1
    have yP1 : w1.cell? ⟨w.heap.size, 1, none⟩ = some (.slice a1 n c1) := (P4.out.2 1 (by simp)).1
    have yP2 : w1.cell? ⟨w.heap.size, 2, none⟩ = some (.slice b1 g d1) := (P4.out.2 2 (by simp)).1
    have hlP : w.heap.size < w1.heap.size := P4.out.1
    have yQ0 : w1.cell? ⟨(w.heap.size + 1), 0, none⟩ = some (.bool true) := (Q4.out.2 0 (by simp)).1
    have yQ1 : w1.cell? ⟨(w.heap.size + 1), 1, none⟩ = some (.slice a2 n c2) := (Q4.out.2 1 (by simp)).1
    have yQ2 : w1.cell? ⟨(w.heap.size + 1), 2, none⟩ = some (.slice b2 g d2) := (Q4.out.2 2 (by simp)).1
    have hlQ : (w.heap.size + 1) < w1.heap.size := Q4.out.1
    go_wp2_with fail
    refine (P7.eqList b1 d1 b2 d2 g Z hg _ (P7.row_below G1.out B4.out) (P7.row_below G2.out B4.out)).mono ?_
    rintro e w2 ⟨rfl, hb2⟩
    clear yP0 yP1 yP2 hlP yQ0 yQ1 yQ2 hlQ
    have B5 : Hid (Below w.heap.size w w2) := bthen B4.out hb2
    have P5 : Hid (Bk w2 w.heap.size [.bool true, .slice a1 n c1, .slice b1 g d1]) := P4.out.below hb2
    have Q5 : Hid (Bk w2 (w.heap.size + 1) [.bool true, .slice a2 n c2, .slice b2 g d2]) := Q4.out.below hb2
    clear B4 P4 Q4
    clear hb2
    have yP0 : w2.cell? ⟨w.heap.size, 0, none⟩ = some (.bool true) := (P5.out.2 0 (by simp)).1
    have yP1 : w2.cell? ⟨w.heap.size, 1, none⟩ = some (.slice a1 n c1) := (P5.out.2 1 (by simp)).1
    have yP2 : w2.cell? ⟨w.heap.size, 2, none⟩ = some (.slice b1 g d1) := (P5.out.2 2 (by simp)).1
    have hlP : w.heap.size < w2.heap.size := P5.out.1
    have yQ0 : w2.cell? ⟨(w.heap.size + 1), 0, none⟩ = some (.bool true) := (Q5.out.2 0 (by simp)).1
    have yQ1 : w2.cell? ⟨(w.heap.size + 1), 1, none⟩ = some (.slice a2 n c2) := (Q5.out.2 1 (by simp)).1
    have yQ2 : w2.cell? ⟨(w.heap.size + 1), 2, none⟩ = some (.slice b2 g d2) := (Q5.out.2 2 (by simp)).1
    have hlQ : (w.heap.size + 1) < w2.heap.size := Q5.out.1
    go_wp2
    go_ret
    exact ⟨rfl, B5.out⟩
end Go.Proofs.Ytlbjgecjonegkaa
