/- Marks in a list of holds: what lies outside of it reads as it did; conditions: the holds lie in memory of their own. -/
import Derived.Test.YtlbjgecjonegkaaHM2
namespace Go.Proofs.Ytlbjgecjonegkaa
open Go.RowKit Go.Deep
set_option linter.unusedVariables false
/-- As HOwC, all below T. -/
def HOwT (w : World) (B n : Nat) (F : Nat → HV) (T : Nat) : Prop :=
  (∀ i, i < n * 8 → (w.cell? ⟨B, i, none⟩).isSome = true ∧ w.frozen? ⟨B, i, none⟩ = false) ∧ ∃ los his : Nat → Nat, (∀ k, k < n → HCo w B (k * 8) (F k) (los k) (his k) ∧ his k ≤ T) ∧ ∀ i j, i < j → j < n → his i ≤ los j
theorem HOwC.top {w : World} {B n : Nat} {F : Nat → HV} (h : HOwC w B n F n) : HOwT w B n F w.heap.size := by
  obtain ⟨h1, los, his, h2, h3⟩ := h
  refine ⟨h1, los, his, fun k hk => ⟨h2 k hk, ?_⟩, h3⟩
  obtain ⟨_, _, _, _, _, _, a3, _⟩ := h2 k hk
  exact a3
theorem HOwT.below {w w' : World} {B n T : Nat} {F : Nat → HV} (h : HOwT w B n F T) (hB : B < w.heap.size) (hb : Below w.heap.size w w') : HOwT w' B n F T := by
  obtain ⟨h1, los, his, h2, h3⟩ := h
  exact ⟨fun i hi => by rw [hb.cell (p := ⟨B, i, none⟩) hB, hb.frozen (p := ⟨B, i, none⟩) hB]; exact h1 i hi, los, his, fun k hk => ⟨(h2 k hk).1.below hB hb, (h2 k hk).2⟩, h3⟩
theorem HOwT.own {w : World} {B n T : Nat} {F : Nat → HV} (h : HOwT w B n F T) : HOwn w B n F n := by
  obtain ⟨h1, los, his, h2, h3⟩ := h
  exact HOwC.own ⟨h1, los, his, fun k hk => (h2 k hk).1, h3⟩
/-- What is left of a hold while it is marked. -/
def HRest (W : World) (B p : Nat) (vW vO vX vI : Value) : Prop :=
  W.cell? ⟨B, p + 3, none⟩ = some vW ∧ (∃ u, W.cell? ⟨B, p + 4, none⟩ = some u) ∧ W.cell? ⟨B, p + 5, none⟩ = some vO ∧ W.cell? ⟨B, p + 6, none⟩ = some vX ∧ W.cell? ⟨B, p + 7, none⟩ = some vI ∧ W.frozen? ⟨B, p + 4, none⟩ = false
theorem HRest.sm {W W' : World} {B p : Nat} {vW vO vX vI : Value} (h : HRest W B p vW vO vX vI) (k : Sm W W' B) : HRest W' B p vW vO vX vI := by
  obtain ⟨h1, ⟨u, h2⟩, h3, h4, h5, h6⟩ := h
  exact ⟨(k _).1.trans h1, ⟨u, (k _).1.trans h2⟩, (k _).1.trans h3, (k _).1.trans h4, (k _).1.trans h5, (k _).2.trans h6⟩
theorem HRest.ground {W : World} {B p : Nat} {vW vO vX vI u : Value} (h : HRest W B p vW vO vX vI) : HRest (W.setCell ⟨B, p + 4, none⟩ u) B p vW vO vX vI := by
  obtain ⟨h1, ⟨u', h2⟩, h3, h4, h5, h6⟩ := h
  exact ⟨(set_out (fun e => by omega)).trans h1, ⟨u, set_in (by rw [h2]; rfl)⟩, (set_out (fun e => by omega)).trans h3, (set_out (fun e => by omega)).trans h4, (set_out (fun e => by omega)).trans h5, set_frozen.trans h6⟩
theorem HRest.low {W : World} {B p j : Nat} {vW vO vX vI u : Value} (h : HRest W B p vW vO vX vI) (hj : j < p + 3) : HRest (W.setCell ⟨B, j, none⟩ u) B p vW vO vX vI := by
  obtain ⟨h1, ⟨u', h2⟩, h3, h4, h5, h6⟩ := h
  exact ⟨(set_out (fun e => by omega)).trans h1, ⟨u', (set_out (fun e => by omega)).trans h2⟩, (set_out (fun e => by omega)).trans h3, (set_out (fun e => by omega)).trans h4, (set_out (fun e => by omega)).trans h5, set_frozen.trans h6⟩

set_option maxRecDepth 20000 in
set_option maxHeartbeats 8000000 in
theorem markHolds (B n cap : Nat) (F : Nat → HV) (T : Nat) (hn : n + sumH F n ≤ 1048576) (w : World) (hB : B < w.heap.size) (h : HOwT w B n F T) :
    Calls Try.prog 32 #[.slice (some ⟨B, 0, none⟩) n cap, .int .i64 1] w fun e w' => (∃ s : Nat, e = .returned (.int .i64 (s : Int)) ∧ s ≤ 20000000) ∧ w'.heap.size = w.heap.size ∧ (∀ b, b < w.heap.size → (b < B ∨ (T ≤ b ∧ ¬ b = B)) → Sm w w' b) ∧ Below B w w' := by
  obtain ⟨h1, los, his, h2, h3⟩ := h
  have H1 : Hid (∀ i, i < n * 8 → (w.cell? ⟨B, i, none⟩).isSome = true ∧ w.frozen? ⟨B, i, none⟩ = false) := h1
  have H2 : Hid (∀ k, k < n → HCo w B (k * 8) (F k) (los k) (his k) ∧ his k ≤ T) := h2
  have H3 : Hid (∀ i j, i < j → j < n → his i ≤ los j) := h3
  clear h1 h2 h3
  go_enter Try.func32, Try.ntmps32
  go_wp2
  go_loopw [1, 5] (fun l i wr => ∃ k s : Nat, k ≤ n ∧ i = .int .i64 k ∧ l = .int .i64 (s : Int) ∧ s ≤ 1 + 4 * k + 8 * sumH F k ∧ wr.heap.size = w.heap.size ∧ (∀ b, b < w.heap.size → (b < B ∨ (T ≤ b ∧ ¬ b = B) ∨ ∃ k', k ≤ k' ∧ k' < n ∧ los k' ≤ b ∧ b < his k') → Sm w wr b) ∧ (∀ i, k * 8 ≤ i → wr.cell? ⟨B, i, none⟩ = w.cell? ⟨B, i, none⟩ ∧ wr.frozen? ⟨B, i, none⟩ = w.frozen? ⟨B, i, none⟩) ∧ Below B w wr) (fun _ i _ => n - (intOf i).toNat)
  case atStart => exact ⟨0, 1, Nat.zero_le _, rfl, rfl, by simp [sumH], rfl, fun b _ _ => Sm.refl w b, fun _ _ => ⟨rfl, rfl⟩, Below.refl _ _⟩
  case round =>
    obtain ⟨k, s, hk, rfl, rfl, hs, hz, hsm, hcb, hbl⟩ := hrel
    have SM : Hid (∀ b, b < w.heap.size → (b < B ∨ (T ≤ b ∧ ¬ b = B) ∨ ∃ k', k ≤ k' ∧ k' < n ∧ los k' ≤ b ∧ b < his k') → Sm w wr b) := hsm
    have CB : Hid (∀ i, k * 8 ≤ i → wr.cell? ⟨B, i, none⟩ = w.cell? ⟨B, i, none⟩ ∧ wr.frozen? ⟨B, i, none⟩ = w.frozen? ⟨B, i, none⟩) := hcb
    have BL : Hid (Below B w wr) := hbl
    have HZ : Hid (wr.heap.size = w.heap.size) := hz
    have hzle : w.heap.size ≤ wr.heap.size := Nat.le_of_eq hz.symm
    have hzge : wr.heap.size ≤ w.heap.size := Nat.le_of_eq hz
    clear hsm hcb hbl hz
    by_cases hkn : k < n
    · have hkn' : (k : Int) < n := by omega
      obtain ⟨⟨bW, bO, bX, bI, a1, a2, a3, ⟨c0, c1, c2, c3, c4, c5, c6, c7⟩, a5, hown⟩, a7⟩ := H2.out k hkn
      have sz : sumH F k + szV (F k).V ≤ sumH F n := by
        have : ∀ m j, j < m → sumH F j + szV (F j).V ≤ sumH F m := by
          intro m
          induction m with
          | zero => intro j hj; omega
          | succ m ih => intro j hj; by_cases e : j = m; (subst e; simp only [sumH]; omega); (have := ih j (by omega); simp only [sumH]; omega)
        exact this n k hkn
      have hsv : szV (F k).V ≤ 1048576 := by omega
      obtain ⟨tW, tO, tN, tX, tI⟩ := short_of hsv
      have hszV : (F k).V.nW + (F k).V.nO + sumN (F k).V.N (F k).V.nO + (F k).V.nX + (F k).V.nI ≤ szV (F k).V := Nat.le_refl _
      have hown2 := hown.sm (w' := wr) hzle (fun b q1 q2 => SM.out b (by omega) (.inr (.inr ⟨k, Nat.le_refl _, hkn, q1, q2⟩)))
      obtain ⟨vW, vO, vX, vI, gW, gO, gX, gI, sl, xs, ev, rW, rO, rX, rI, ⟨d1, d2, d3, d4, d5, d6⟩, hx1, hx2⟩ := hown2
      simp only [Value.agg.injEq, Array.mk.injEq, List.cons.injEq, and_true, true_and] at ev
      obtain ⟨rfl, rfl, rfl, rfl⟩ := ev
      have cj : ∀ j, wr.cell? ⟨B, k * 8 + j, none⟩ = w.cell? ⟨B, k * 8 + j, none⟩ ∧ wr.frozen? ⟨B, k * 8 + j, none⟩ = w.frozen? ⟨B, k * 8 + j, none⟩ := fun j => CB.out (k * 8 + j) (by omega)
      have y0 := (cj 0).1.trans c0
      have y1 := (cj 1).1.trans c1
      have y2 := (cj 2).1.trans c2
      have y3 := (cj 3).1.trans c3
      have y4 := (cj 4).1.trans c4
      have y5 := (cj 5).1.trans c5
      have y6 := (cj 6).1.trans c6
      have y7 := (cj 7).1.trans c7
      have f0 := (cj 0).2.trans (H1.out (k * 8 + 0) (by omega)).2
      have f1 := (cj 1).2.trans (H1.out (k * 8 + 1) (by omega)).2
      have f2 := (cj 2).2.trans (H1.out (k * 8 + 2) (by omega)).2
      have f4 := (cj 4).2.trans (H1.out (k * 8 + 4) (by omega)).2
      have R0 : Hid (HRest wr B (k * 8) (.slice (some ⟨bW, 0, none⟩) (F k).V.nW (F k).V.nW) (.slice (some ⟨bO, 0, none⟩) (F k).V.nO (F k).V.nO) (.slice (some ⟨bX, 0, none⟩) (F k).V.nX (F k).V.nX) (.slice (some ⟨bI, 0, none⟩) (F k).V.nI (F k).V.nI)) := ⟨y3, ⟨_, y4⟩, y5, y6, y7, f4⟩
      simp only [Nat.add_zero] at y0 f0
      have RW0 : Hid (RW (los k) (his k) wr (.slice (some ⟨bW, 0, none⟩) (F k).V.nW (F k).V.nW) (F k).V.nW (F k).V.W gW) := rW
      have RO0 : Hid (RO (los k) (his k) wr (.slice (some ⟨bO, 0, none⟩) (F k).V.nO (F k).V.nO) (F k).V.nO (F k).V.N (F k).V.O gO sl xs) := rO
      have RX0 : Hid (RI (los k) (his k) wr (.slice (some ⟨bX, 0, none⟩) (F k).V.nX (F k).V.nX) (F k).V.nX (F k).V.X gX) := rX
      have RI0 : Hid (RI (los k) (his k) wr (.slice (some ⟨bI, 0, none⟩) (F k).V.nI (F k).V.nI) (F k).V.nI (F k).V.I gI) := rI
      have X1 : Hid (∀ j, j < (F k).V.nO → ¬ xs j = gW ∧ ¬ xs j = gO ∧ ¬ xs j = gX ∧ ¬ xs j = gI) := hx1
      have X2 : Hid (∀ i j, i < (F k).V.nO → j < (F k).V.nO → ¬ i = j → ¬ xs i = xs j) := hx2
      have HN : Hid (∀ j, j < (F k).V.nO → (F k).V.N j ≤ 1048576) := tN
      clear rW rO rX rI hx1 hx2 tN c0 c1 c2 c3 c4 c5 c6 c7 cj hown a5 y5 y6 y7
      go_wp2_with fail
      obtain ⟨W1, e1⟩ : ∃ W, W = ((wr.setCell ⟨B, k * 8, none⟩ (.int .i64 (s : Int))).setCell ⟨B, k * 8 + 1, none⟩ (.int .i64 ((s : Int) + 1))).setCell ⟨B, k * 8 + 2, none⟩ (.int .i64 ((s : Int) + 1 + 1)) := ⟨_, rfl⟩
      have z1a : w.heap.size ≤ W1.heap.size := by rw [e1, set_size, set_size, set_size]; omega
      have z1b : W1.heap.size ≤ w.heap.size := by rw [e1, set_size, set_size, set_size]; omega
      have SA : Hid (∀ b, ¬ b = B → Sm wr W1 b) := fun b hb o => by rw [e1]; exact ⟨(set_out (fun e => hb e.1.symm)).trans ((set_out (fun e => hb e.1.symm)).trans (set_out (fun e => hb e.1.symm))), set_frozen.trans (set_frozen.trans set_frozen)⟩
      have CA : Hid (∀ i, (k + 1) * 8 ≤ i → W1.cell? ⟨B, i, none⟩ = wr.cell? ⟨B, i, none⟩) := fun i hi => by rw [e1]; exact (set_out (fun e => by omega)).trans ((set_out (fun e => by omega)).trans (set_out (fun e => by omega)))
      have FA : Hid (∀ i, W1.frozen? ⟨B, i, none⟩ = wr.frozen? ⟨B, i, none⟩) := fun i => by rw [e1]; exact set_frozen.trans (set_frozen.trans set_frozen)
      have R1 : Hid (HRest W1 B (k * 8) (.slice (some ⟨bW, 0, none⟩) (F k).V.nW (F k).V.nW) (.slice (some ⟨bO, 0, none⟩) (F k).V.nO (F k).V.nO) (.slice (some ⟨bX, 0, none⟩) (F k).V.nX (F k).V.nX) (.slice (some ⟨bI, 0, none⟩) (F k).V.nI (F k).V.nI)) := by rw [e1]; exact ((R0.out.low (by omega)).low (by omega)).low (by omega)
      have BA : Hid (Below B w W1) := by rw [e1]; exact ((BL.out.setCell (Nat.le_refl _) _).setCell (Nat.le_refl _) _).setCell (Nat.le_refl _) _
      rw [← e1, show (s : Int) + 1 + 1 + 1 = ((s + 3 : Nat) : Int) by omega]
      clear e1 R0 y0 y1 y2 y3 y4 f0 f1 f2 f4 BL
      have RW1 : Hid (RW (los k) (his k) W1 (.slice (some ⟨bW, 0, none⟩) (F k).V.nW (F k).V.nW) (F k).V.nW (F k).V.W gW) := RW0.out.sm (by omega) (fun q _ => SA.out gW (by omega))
      have RO1 : Hid (RO (los k) (his k) W1 (.slice (some ⟨bO, 0, none⟩) (F k).V.nO (F k).V.nO) (F k).V.nO (F k).V.N (F k).V.O gO sl xs) := RO0.out.sm (by omega) (fun q _ => SA.out gO (by omega)) (fun i _ q _ => SA.out (xs i) (by omega))
      have RX1 : Hid (RI (los k) (his k) W1 (.slice (some ⟨bX, 0, none⟩) (F k).V.nX (F k).V.nX) (F k).V.nX (F k).V.X gX) := RX0.out.sm (by omega) (fun q _ => SA.out gX (by omega))
      have RI1 : Hid (RI (los k) (his k) W1 (.slice (some ⟨bI, 0, none⟩) (F k).V.nI (F k).V.nI) (F k).V.nI (F k).V.I gI) := RI0.out.sm (by omega) (fun q _ => SA.out gI (by omega))
      clear RW0 RO0 RX0 RI0
      refine (markW_any (los k) (his k) (s + 3) _ (F k).V.nW (F k).V.W gW (by omega) (by omega) _ RW1.out).mono ?_
      rintro e w1 ⟨rfl, r1, zz, sm1, bl1⟩
      have z2a : w.heap.size ≤ w1.heap.size := by omega
      have z2b : w1.heap.size ≤ w.heap.size := by omega
      have SB : Hid (∀ b, b < w.heap.size → (b < los k ∨ his k ≤ b) → Sm W1 w1 b) := fun b hb q => sm1 b (by omega) (.inr q)
      have R2 : Hid (HRest w1 B (k * 8) (.slice (some ⟨bW, 0, none⟩) (F k).V.nW (F k).V.nW) (.slice (some ⟨bO, 0, none⟩) (F k).V.nO (F k).V.nO) (.slice (some ⟨bX, 0, none⟩) (F k).V.nX (F k).V.nX) (.slice (some ⟨bI, 0, none⟩) (F k).V.nI (F k).V.nI)) := R1.out.sm (SB.out B hB (.inl a1))
      have RO2 : Hid (RO (los k) (his k) w1 (.slice (some ⟨bO, 0, none⟩) (F k).V.nO (F k).V.nO) (F k).V.nO (F k).V.N (F k).V.O gO sl xs) := RO1.out.sm (by omega) (fun _ _ => sm1 gO (by omega) (.inl (fun e => d1 e.symm))) (fun i hi _ _ => sm1 (xs i) (by omega) (.inl (X1.out i hi).1))
      have RX2 : Hid (RI (los k) (his k) w1 (.slice (some ⟨bX, 0, none⟩) (F k).V.nX (F k).V.nX) (F k).V.nX (F k).V.X gX) := RX1.out.sm (by omega) (fun _ _ => sm1 gX (by omega) (.inl (fun e => d2 e.symm)))
      have RI2 : Hid (RI (los k) (his k) w1 (.slice (some ⟨bI, 0, none⟩) (F k).V.nI (F k).V.nI) (F k).V.nI (F k).V.I gI) := RI1.out.sm (by omega) (fun _ _ => sm1 gI (by omega) (.inl (fun e => d3 e.symm)))
      have BB : Hid (Below B w w1) := BA.out.trans (bl1.mono (Nat.le_of_lt a1))
      clear r1 zz sm1 bl1 R1 RW1 RO1 RX1 RI1 BA
      obtain ⟨q3, ⟨u4, q4⟩, q5, q6, q7, g4⟩ := R2.out
      go_wp2_with fail
      obtain ⟨W2, e2⟩ : ∃ W, W = w1.setCell ⟨B, k * 8 + 2 + 2, none⟩ (.int .i64 ((s : Int) + 3 + ((F k).V.nW : Int) * 5)) := ⟨_, rfl⟩
      have z3a : w.heap.size ≤ W2.heap.size := by rw [e2, set_size]; omega
      have z3b : W2.heap.size ≤ w.heap.size := by rw [e2, set_size]; omega
      have SC : Hid (∀ b, ¬ b = B → Sm w1 W2 b) := fun b hb o => by rw [e2]; exact ⟨set_out (fun e => hb e.1.symm), set_frozen⟩
      have CC : Hid (∀ i, (k + 1) * 8 ≤ i → W2.cell? ⟨B, i, none⟩ = w1.cell? ⟨B, i, none⟩) := fun i hi => by rw [e2]; exact set_out (fun e => by omega)
      have FC : Hid (∀ i, W2.frozen? ⟨B, i, none⟩ = w1.frozen? ⟨B, i, none⟩) := fun i => by rw [e2]; exact set_frozen
      have R3 : Hid (HRest W2 B (k * 8) (.slice (some ⟨bW, 0, none⟩) (F k).V.nW (F k).V.nW) (.slice (some ⟨bO, 0, none⟩) (F k).V.nO (F k).V.nO) (.slice (some ⟨bX, 0, none⟩) (F k).V.nX (F k).V.nX) (.slice (some ⟨bI, 0, none⟩) (F k).V.nI (F k).V.nI)) := by rw [e2]; exact R2.out.ground
      have BC : Hid (Below B w W2) := by rw [e2]; exact BB.out.setCell (Nat.le_refl _) _
      rw [← e2, show (s : Int) + 3 + ((F k).V.nW : Int) * 5 + 1 = ((s + 3 + (F k).V.nW * 5 + 1 : Nat) : Int) by omega]
      clear e2 R2 q3 q4 q5 q6 q7 g4 BB
      have RO3 : Hid (RO (los k) (his k) W2 (.slice (some ⟨bO, 0, none⟩) (F k).V.nO (F k).V.nO) (F k).V.nO (F k).V.N (F k).V.O gO sl xs) := RO2.out.sm (by omega) (fun q _ => SC.out gO (by omega)) (fun i _ q _ => SC.out (xs i) (by omega))
      have RX3 : Hid (RI (los k) (his k) W2 (.slice (some ⟨bX, 0, none⟩) (F k).V.nX (F k).V.nX) (F k).V.nX (F k).V.X gX) := RX2.out.sm (by omega) (fun q _ => SC.out gX (by omega))
      have RI3 : Hid (RI (los k) (his k) W2 (.slice (some ⟨bI, 0, none⟩) (F k).V.nI (F k).V.nI) (F k).V.nI (F k).V.I gI) := RI2.out.sm (by omega) (fun q _ => SC.out gI (by omega))
      clear RO2 RX2 RI2
      have HT : ∀ j, j ≤ (F k).V.nO → st (s + 3 + (F k).V.nW * 5 + 1) (F k).V.N j ≤ 2000000000 := fun j hj => by rw [st_sum]; have := sum_le (F k).V.N (F k).V.nO j hj; omega
      have h3 := st_sum (s + 3 + (F k).V.nW * 5 + 1) (F k).V.N (F k).V.nO
      refine (markO (los k) (his k) (s + 3 + (F k).V.nW * 5 + 1) _ (F k).V.nO (F k).V.N (F k).V.O gO sl xs tO HN.out HT (fun j hj => (X1.out j hj).2.1) X2.out _ RO3.out).mono ?_
      rintro e w2 ⟨rfl, r1, zz, sm1, bl1⟩
      have z4a : w.heap.size ≤ w2.heap.size := by omega
      have z4b : w2.heap.size ≤ w.heap.size := by omega
      have SD : Hid (∀ b, b < w.heap.size → (b < los k ∨ his k ≤ b) → Sm W2 w2 b) := fun b hb q => sm1 b (by omega) (.inr q)
      have R4 : Hid (HRest w2 B (k * 8) (.slice (some ⟨bW, 0, none⟩) (F k).V.nW (F k).V.nW) (.slice (some ⟨bO, 0, none⟩) (F k).V.nO (F k).V.nO) (.slice (some ⟨bX, 0, none⟩) (F k).V.nX (F k).V.nX) (.slice (some ⟨bI, 0, none⟩) (F k).V.nI (F k).V.nI)) := R3.out.sm (SD.out B hB (.inl a1))
      have RX4 : Hid (RI (los k) (his k) w2 (.slice (some ⟨bX, 0, none⟩) (F k).V.nX (F k).V.nX) (F k).V.nX (F k).V.X gX) := RX3.out.sm (by omega) (fun _ _ => sm1 gX (by omega) (.inl fun j hj e => (X1.out j hj).2.2.1 e.symm))
      have RI4 : Hid (RI (los k) (his k) w2 (.slice (some ⟨bI, 0, none⟩) (F k).V.nI (F k).V.nI) (F k).V.nI (F k).V.I gI) := RI3.out.sm (by omega) (fun _ _ => sm1 gI (by omega) (.inl fun j hj e => (X1.out j hj).2.2.2 e.symm))
      have BD : Hid (Below B w w2) := BC.out.trans (bl1.mono (Nat.le_of_lt a1))
      obtain ⟨s3, es3⟩ : ∃ s3, s3 = st (s + 3 + (F k).V.nW * 5 + 1) (F k).V.N (F k).V.nO := ⟨_, rfl⟩
      rw [← es3] at h3 ⊢
      have h3a : s3 ≤ s + 3 + (F k).V.nW * 5 + 1 + sumN (F k).V.N (F k).V.nO * 8 := Nat.le_of_eq h3
      clear r1 zz sm1 bl1 R3 RO3 RX3 RI3 BC HT h3 es3
      obtain ⟨q3, ⟨u4', q4⟩, q5, q6, q7, g4⟩ := R4.out
      go_wp2_with fail
      clear q3 q4 q5 q6 q7 g4
      refine (markI_any (los k) (his k) s3 _ (F k).V.nX (F k).V.X gX (by omega) (by omega) _ RX4.out).mono ?_
      rintro e w3 ⟨rfl, r1, zz, sm1, bl1⟩
      have z5a : w.heap.size ≤ w3.heap.size := by omega
      have z5b : w3.heap.size ≤ w.heap.size := by omega
      have SE : Hid (∀ b, b < w.heap.size → (b < los k ∨ his k ≤ b) → Sm w2 w3 b) := fun b hb q => sm1 b (by omega) (.inr q)
      have R5 : Hid (HRest w3 B (k * 8) (.slice (some ⟨bW, 0, none⟩) (F k).V.nW (F k).V.nW) (.slice (some ⟨bO, 0, none⟩) (F k).V.nO (F k).V.nO) (.slice (some ⟨bX, 0, none⟩) (F k).V.nX (F k).V.nX) (.slice (some ⟨bI, 0, none⟩) (F k).V.nI (F k).V.nI)) := R4.out.sm (SE.out B hB (.inl a1))
      have RI5 : Hid (RI (los k) (his k) w3 (.slice (some ⟨bI, 0, none⟩) (F k).V.nI (F k).V.nI) (F k).V.nI (F k).V.I gI) := RI4.out.sm (by omega) (fun _ _ => sm1 gI (by omega) (.inl (fun e => d6 e.symm)))
      have BE : Hid (Below B w w3) := BD.out.trans (bl1.mono (Nat.le_of_lt a1))
      clear r1 zz sm1 bl1 R4 RX4 RI4 BD
      obtain ⟨q3, ⟨u4'', q4⟩, q5, q6, q7, g4⟩ := R5.out
      go_wp2_with fail
      clear q3 q4 q5 q6 q7 g4
      refine (markI_any (los k) (his k) (s3 + (F k).V.nX) _ (F k).V.nI (F k).V.I gI (by omega) (by omega) _ RI5.out).mono ?_
      rintro e w4 ⟨rfl, r1, zz, sm1, bl1⟩
      have z6a : w.heap.size ≤ w4.heap.size := by omega
      have z6b : w4.heap.size ≤ w.heap.size := by omega
      have SF : Hid (∀ b, b < w.heap.size → (b < los k ∨ his k ≤ b) → Sm w3 w4 b) := fun b hb q => sm1 b (by omega) (.inr q)
      have BF : Hid (Below B w w4) := BE.out.trans (bl1.mono (Nat.le_of_lt a1))
      clear r1 zz sm1 bl1 R5 RI5 BE
      have SZ : Hid (∀ b, b < w.heap.size → (b < B ∨ (T ≤ b ∧ ¬ b = B) ∨ ∃ k', k + 1 ≤ k' ∧ k' < n ∧ los k' ≤ b ∧ b < his k') → Sm w w4 b) := by
        intro b hb q
        have hne : ¬ b = B := by
          rcases q with q | q | ⟨k', q1, q2, q3, q4⟩
          · omega
          · exact q.2
          · obtain ⟨⟨_, _, _, _, b1, _⟩, _⟩ := H2.out k' q2; omega
        have hou : b < los k ∨ his k ≤ b := by
          rcases q with q | q | ⟨k', q1, q2, q3, q4⟩
          · left; omega
          · right; omega
          · right; have := H3.out k k' (by omega) q2; omega
        have hin : b < B ∨ (T ≤ b ∧ ¬ b = B) ∨ ∃ k', k ≤ k' ∧ k' < n ∧ los k' ≤ b ∧ b < his k' := by
          rcases q with q | q | ⟨k', q1, q2, q3, q4⟩
          · exact .inl q
          · exact .inr (.inl q)
          · exact .inr (.inr ⟨k', by omega, q2, q3, q4⟩)
        exact (SM.out b hb hin).trans ((SA.out b hne).trans ((SB.out b hb hou).trans ((SC.out b hne).trans ((SD.out b hb hou).trans ((SE.out b hb hou).trans (SF.out b hb hou))))))
      have CZ : Hid (∀ i, (k + 1) * 8 ≤ i → w4.cell? ⟨B, i, none⟩ = w.cell? ⟨B, i, none⟩ ∧ w4.frozen? ⟨B, i, none⟩ = w.frozen? ⟨B, i, none⟩) := by
        intro i hi
        have p1 := CB.out i (by omega)
        have p2 := SB.out B hB (.inl a1) i
        have p3 := SD.out B hB (.inl a1) i
        have p4 := SE.out B hB (.inl a1) i
        have p5 := SF.out B hB (.inl a1) i
        exact ⟨p5.1.trans (p4.1.trans (p3.1.trans ((CC.out i hi).trans (p2.1.trans ((CA.out i hi).trans p1.1))))), p5.2.trans (p4.2.trans (p3.2.trans ((FC.out i).trans (p2.2.trans ((FA.out i).trans p1.2)))))⟩
      clear SM CB SA CA FA SB SC CC FC SD SE SF X1 X2 HN
      go_wp2
      go_roundw
      case rel => exact ⟨k + 1, s3 + (F k).V.nX + (F k).V.nI, by omega, by go_num, rfl, by simp only [sumH]; omega, by omega, SZ.out, CZ.out, BF.out⟩
      case measure => simp [intOf]; omega
    · have : k = n := by omega
      subst this
      go_wp2
      go_ret
      exact ⟨⟨s, rfl, by omega⟩, HZ.out, fun b hb hq => SM.out b hb (by rcases hq with q | q; exact .inl q; exact .inr (.inl q)), BL.out⟩
end Go.Proofs.Ytlbjgecjonegkaa
