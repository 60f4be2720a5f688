/- Holds whose copy's every list is known to lie apart; their marks; conditions: the hold lies in memory. -/
import Derived.Test.YtdmfncopcmhcjaaGof2
import Derived.Test.YtdmfncopcmhcjaaCSz2
import Derived.Test.YtdmfncopcmhcjaaCToB
namespace Go.Proofs.Ytdmfncopcmhcjaa
open Go.RowKit Go.Deep
set_option linter.unusedVariables false

theorem st_sum (s : Nat) (N : Nat → Nat) : ∀ k, st s N k = s + sumN N k * 8
  | 0 => by simp [st, sumN]
  | k + 1 => by simp only [st, sumN, st_sum s N k]; omega
theorem sum_le (N : Nat → Nat) : ∀ n k, k ≤ n → sumN N k ≤ sumN N n
  | 0, k, h => by obtain rfl : k = 0 := by omega
                  exact Nat.le_refl _
  | n + 1, k, h => by
    by_cases e : k = n + 1
    · subst e; exact Nat.le_refl _
    · have := sum_le N n k (by omega); simp only [sumN]; omega
theorem few_sum {V : CV} (h : V.short 1048576) (hs : sumN V.N V.nO ≤ 1048576) : V.few := by
  refine ⟨h, fun k hk => ?_⟩
  rw [st_sum]
  have := sum_le V.N V.nO k hk
  have := h.1
  unfold CV.s1
  omega

/-- A copy of a hold, of which it is known that its lists lie apart, between lo and hi. -/
def HOwn (lo hi : Nat) (w : World) (v : Value) (ag ct : Int) (V : CV) : Prop :=
  ∃ bW bO bX bI, v = .agg #[.int .i64 ag, .int .i64 ct, .int .i64 V.c, .slice (some ⟨bW, 0, none⟩) V.nW V.nW, .int .i64 V.g, .slice (some ⟨bO, 0, none⟩) V.nO V.nO, .slice (some ⟨bX, 0, none⟩) V.nX V.nX, .slice (some ⟨bI, 0, none⟩) V.nI V.nI] ∧ CopyAt lo w (.agg #[.int .i64 V.c, .slice (some ⟨bW, 0, none⟩) V.nW V.nW, .int .i64 V.g, .slice (some ⟨bO, 0, none⟩) V.nO V.nO, .slice (some ⟨bX, 0, none⟩) V.nX V.nX, .slice (some ⟨bI, 0, none⟩) V.nI V.nI]) V ∧ OwnC lo hi w (.agg #[.int .i64 V.c, .slice (some ⟨bW, 0, none⟩) V.nW V.nW, .int .i64 V.g, .slice (some ⟨bO, 0, none⟩) V.nO V.nO, .slice (some ⟨bX, 0, none⟩) V.nX V.nX, .slice (some ⟨bI, 0, none⟩) V.nI V.nI]) V
theorem HOwn.copy {lo hi : Nat} {w : World} {v : Value} {ag ct : Int} {V : CV} (h : HOwn lo hi w v ag ct V) : HCopy lo w v ag ct V := by
  obtain ⟨bW, bO, bX, bI, e, h, _⟩ := h
  exact ⟨bW, bO, bX, bI, e, h⟩

set_option maxHeartbeats 1000000 in
theorem szHold2 (v : Value) (ag ct : Int) (V : CV) (hs : V.short maxLen) (w : World) (h : HoldAt w v ag ct V) :
    Calls Try.prog 5 #[v, .int .i64 1048576] w fun e w' => (∃ r : Int, e = .returned (.int .i64 r) ∧ (r < 0 ∨ (0 ≤ r ∧ V.short 1048576 ∧ sumN V.N V.nO ≤ 1048576))) ∧ Below w.heap.size w w' := by
  obtain ⟨aW, kW, aO, kO, aX, kX, aI, kI, rfl, rW, rO, rX, rI⟩ := h
  have HC : Hid (CellAt w (.agg #[.int .i64 V.c, .slice aW V.nW kW, .int .i64 V.g, .slice aO V.nO kO, .slice aX V.nX kX, .slice aI V.nI kI]) V) := cell_of_rows ⟨rW, rO, rX, rI⟩
  have HS : Hid (V.short maxLen) := hs
  clear rW rO rX rI hs
  go_enter Try.func5, Try.ntmps5
  go_wp2_with fail
  refine (szCell2 _ V HS.out _ (cellAt_below HC.out ((Below.refl _ _).alloc (by simp) _))).mono ?_
  rintro e w1 ⟨⟨r, rfl, hr⟩, hb1⟩
  have B1 : Below w.heap.size w w1 := bthen ((Below.refl _ _).alloc (by simp) _) hb1
  rcases hr with hr | ⟨hr, hV⟩
  · go_wp2
    go_ret
    exact ⟨⟨-1, rfl, .inl (by omega)⟩, B1⟩
  · have hr2 : ¬ r < 0 := by omega
    go_wp2
    go_ret
    exact ⟨⟨r, rfl, .inr ⟨hr, hV⟩⟩, B1⟩

theorem ownC_set {lo hi B j : Nat} {w : World} {v u : Value} {V : CV} (h : OwnC lo hi w v V) (hB : B < lo) : OwnC lo hi (w.setCell ⟨B, j, none⟩ u) v V :=
  h.sm (Nat.le_of_eq set_size.symm) (fun b h1 _ => fun o => ⟨set_out (fun e => by omega), set_frozen⟩)
set_option maxHeartbeats 8000000 in
theorem toHoldB (v : Value) (ag ct : Int) (V : CV) (hs : V.short 1048576) (w : World) (h : HoldAt w v ag ct V) :
    Calls Try.prog 8 #[v] w fun e w' => (∃ v', e = .returned v' ∧ ∃ lo hi, w.heap.size ≤ lo ∧ lo ≤ hi ∧ hi ≤ w'.heap.size ∧ HOwn lo hi w' v' ag ct V) ∧ Below w.heap.size w w' := by
  obtain ⟨aW, kW, aO, kO, aX, kX, aI, kI, rfl, rW, rO, rX, rI⟩ := h
  have HC : Hid (CellAt w (.agg #[.int .i64 V.c, .slice aW V.nW kW, .int .i64 V.g, .slice aO V.nO kO, .slice aX V.nX kX, .slice aI V.nI kI]) V) := cell_of_rows ⟨rW, rO, rX, rI⟩
  have HS : Hid (V.short 1048576) := hs
  clear rW rO rX rI hs
  go_enter Try.func8, Try.ntmps8
  go_wp2_with fail
  obtain ⟨w0, e0⟩ : ∃ w0, w0 = ((w.alloc (.cells #[.int .i64 ag, .int .i64 ct, .int .i64 V.c, .slice aW V.nW kW, .int .i64 V.g, .slice aO V.nO kO, .slice aX V.nX kX, .slice aI V.nI kI] 30)).alloc (.cells #[.int .i64 0, .int .i64 0, .int .i64 0, .slice none 0 0, .int .i64 0, .slice none 0 0, .slice none 0 0, .slice none 0 0] 40)).alloc (.cells #[.int .i64 ag, .int .i64 ct, .int .i64 0, .slice none 0 0, .int .i64 0, .slice none 0 0, .slice none 0 0, .slice none 0 0] 40) := ⟨_, rfl⟩
  have B1 : Hid (Below w.heap.size w w0) := by rw [e0]; exact (((Below.refl _ _).alloc (by simp) _).alloc (by simp) _).alloc (by simp; omega) _
  have R2 : Hid (Bk w0 (w.heap.size + 1) [.int .i64 0, .int .i64 0, .int .i64 0, .slice none 0 0, .int .i64 0, .slice none 0 0, .slice none 0 0, .slice none 0 0]) := by rw [e0]; have := (bk_new (w.alloc (.cells #[.int .i64 ag, .int .i64 ct, .int .i64 V.c, .slice aW V.nW kW, .int .i64 V.g, .slice aO V.nO kO, .slice aX V.nX kX, .slice aI V.nI kI] 30)) 40 [.int .i64 0, .int .i64 0, .int .i64 0, .slice none 0 0, .int .i64 0, .slice none 0 0, .slice none 0 0, .slice none 0 0]).below ((Below.refl _ _).alloc (Nat.le_refl _) (.cells #[.int .i64 ag, .int .i64 ct, .int .i64 0, .slice none 0 0, .int .i64 0, .slice none 0 0, .slice none 0 0, .slice none 0 0] 40)); rwa [show (w.alloc (.cells #[.int .i64 ag, .int .i64 ct, .int .i64 V.c, .slice aW V.nW kW, .int .i64 V.g, .slice aO V.nO kO, .slice aX V.nX kX, .slice aI V.nI kI] 30)).heap.size = w.heap.size + 1 by simp] at this
  have O3 : Hid (Bk w0 (w.heap.size + 1 + 1) [.int .i64 ag, .int .i64 ct, .int .i64 0, .slice none 0 0, .int .i64 0, .slice none 0 0, .slice none 0 0, .slice none 0 0]) := by rw [e0]; have := bk_new ((w.alloc (.cells #[.int .i64 ag, .int .i64 ct, .int .i64 V.c, .slice aW V.nW kW, .int .i64 V.g, .slice aO V.nO kO, .slice aX V.nX kX, .slice aI V.nI kI] 30)).alloc (.cells #[.int .i64 0, .int .i64 0, .int .i64 0, .slice none 0 0, .int .i64 0, .slice none 0 0, .slice none 0 0, .slice none 0 0] 40)) 40 [.int .i64 ag, .int .i64 ct, .int .i64 0, .slice none 0 0, .int .i64 0, .slice none 0 0, .slice none 0 0, .slice none 0 0]; rwa [show ((w.alloc (.cells #[.int .i64 ag, .int .i64 ct, .int .i64 V.c, .slice aW V.nW kW, .int .i64 V.g, .slice aO V.nO kO, .slice aX V.nX kX, .slice aI V.nI kI] 30)).alloc (.cells #[.int .i64 0, .int .i64 0, .int .i64 0, .slice none 0 0, .int .i64 0, .slice none 0 0, .slice none 0 0, .slice none 0 0] 40)).heap.size = w.heap.size + 1 + 1 by simp] at this
  rw [← e0]
  clear e0
  have z0 : w.heap.size + 1 + 1 < w0.heap.size := O3.out.1
  refine (toCellB _ V HS.out _ (cellAt_below HC.out B1.out)).mono ?_
  rintro e w1 ⟨⟨v1, rfl, hCB⟩, hb1⟩
  have B4 : Hid (Below w.heap.size w w1) := bthen B1.out hb1
  have R4 : Hid (Bk w1 (w.heap.size + 1) [.int .i64 0, .int .i64 0, .int .i64 0, .slice none 0 0, .int .i64 0, .slice none 0 0, .slice none 0 0, .slice none 0 0]) := R2.out.below hb1
  have O4 : Hid (Bk w1 (w.heap.size + 1 + 1) [.int .i64 ag, .int .i64 ct, .int .i64 0, .slice none 0 0, .int .i64 0, .slice none 0 0, .slice none 0 0, .slice none 0 0]) := O3.out.below hb1
  clear B1 R2 O3
  clear hb1
  have hOC := hCB.own
  have hC1 := hCB.copy
  obtain ⟨bW, bO, bX, bI, q0, q1, q2, q3, q4, rfl, g1, g2, g3, g4⟩ := hC1
  have C1 : Hid (CopyAt w0.heap.size w1 (.agg #[.int .i64 V.c, .slice (some ⟨bW, 0, none⟩) V.nW V.nW, .int .i64 V.g, .slice (some ⟨bO, 0, none⟩) V.nO V.nO, .slice (some ⟨bX, 0, none⟩) V.nX V.nX, .slice (some ⟨bI, 0, none⟩) V.nI V.nI]) V) := ⟨bW, bO, bX, bI, q0, q1, q2, q3, q4, rfl, g1, g2, g3, g4⟩
  have OC : Hid (OwnC w0.heap.size w1.heap.size w1 (.agg #[.int .i64 V.c, .slice (some ⟨bW, 0, none⟩) V.nW V.nW, .int .i64 V.g, .slice (some ⟨bO, 0, none⟩) V.nO V.nO, .slice (some ⟨bX, 0, none⟩) V.nX V.nX, .slice (some ⟨bI, 0, none⟩) V.nI V.nI]) V) := hOC
  clear g1 g2 g3 g4 hOC hCB
  have yR0 : w1.cell? ⟨(w.heap.size + 1), 0, none⟩ = some (.int .i64 0) := (R4.out.2 0 (by simp)).1
  have zR0 : w1.frozen? ⟨(w.heap.size + 1), 0, none⟩ = false := (R4.out.2 0 (by simp)).2
  have yR1 : w1.cell? ⟨(w.heap.size + 1), 1, none⟩ = some (.int .i64 0) := (R4.out.2 1 (by simp)).1
  have zR1 : w1.frozen? ⟨(w.heap.size + 1), 1, none⟩ = false := (R4.out.2 1 (by simp)).2
  have yR2 : w1.cell? ⟨(w.heap.size + 1), 2, none⟩ = some (.int .i64 0) := (R4.out.2 2 (by simp)).1
  have zR2 : w1.frozen? ⟨(w.heap.size + 1), 2, none⟩ = false := (R4.out.2 2 (by simp)).2
  have yR3 : w1.cell? ⟨(w.heap.size + 1), 3, none⟩ = some (.slice none 0 0) := (R4.out.2 3 (by simp)).1
  have zR3 : w1.frozen? ⟨(w.heap.size + 1), 3, none⟩ = false := (R4.out.2 3 (by simp)).2
  have yR4 : w1.cell? ⟨(w.heap.size + 1), 4, none⟩ = some (.int .i64 0) := (R4.out.2 4 (by simp)).1
  have zR4 : w1.frozen? ⟨(w.heap.size + 1), 4, none⟩ = false := (R4.out.2 4 (by simp)).2
  have yR5 : w1.cell? ⟨(w.heap.size + 1), 5, none⟩ = some (.slice none 0 0) := (R4.out.2 5 (by simp)).1
  have zR5 : w1.frozen? ⟨(w.heap.size + 1), 5, none⟩ = false := (R4.out.2 5 (by simp)).2
  have yR6 : w1.cell? ⟨(w.heap.size + 1), 6, none⟩ = some (.slice none 0 0) := (R4.out.2 6 (by simp)).1
  have zR6 : w1.frozen? ⟨(w.heap.size + 1), 6, none⟩ = false := (R4.out.2 6 (by simp)).2
  have yR7 : w1.cell? ⟨(w.heap.size + 1), 7, none⟩ = some (.slice none 0 0) := (R4.out.2 7 (by simp)).1
  have zR7 : w1.frozen? ⟨(w.heap.size + 1), 7, none⟩ = false := (R4.out.2 7 (by simp)).2
  have hlR : (w.heap.size + 1) < w1.heap.size := R4.out.1
  have yO0 : w1.cell? ⟨(w.heap.size + 1 + 1), 0, none⟩ = some (.int .i64 ag) := (O4.out.2 0 (by simp)).1
  have zO0 : w1.frozen? ⟨(w.heap.size + 1 + 1), 0, none⟩ = false := (O4.out.2 0 (by simp)).2
  have yO1 : w1.cell? ⟨(w.heap.size + 1 + 1), 1, none⟩ = some (.int .i64 ct) := (O4.out.2 1 (by simp)).1
  have zO1 : w1.frozen? ⟨(w.heap.size + 1 + 1), 1, none⟩ = false := (O4.out.2 1 (by simp)).2
  have yO2 : w1.cell? ⟨(w.heap.size + 1 + 1), 2, none⟩ = some (.int .i64 0) := (O4.out.2 2 (by simp)).1
  have zO2 : w1.frozen? ⟨(w.heap.size + 1 + 1), 2, none⟩ = false := (O4.out.2 2 (by simp)).2
  have yO3 : w1.cell? ⟨(w.heap.size + 1 + 1), 3, none⟩ = some (.slice none 0 0) := (O4.out.2 3 (by simp)).1
  have zO3 : w1.frozen? ⟨(w.heap.size + 1 + 1), 3, none⟩ = false := (O4.out.2 3 (by simp)).2
  have yO4 : w1.cell? ⟨(w.heap.size + 1 + 1), 4, none⟩ = some (.int .i64 0) := (O4.out.2 4 (by simp)).1
  have zO4 : w1.frozen? ⟨(w.heap.size + 1 + 1), 4, none⟩ = false := (O4.out.2 4 (by simp)).2
  have yO5 : w1.cell? ⟨(w.heap.size + 1 + 1), 5, none⟩ = some (.slice none 0 0) := (O4.out.2 5 (by simp)).1
  have zO5 : w1.frozen? ⟨(w.heap.size + 1 + 1), 5, none⟩ = false := (O4.out.2 5 (by simp)).2
  have yO6 : w1.cell? ⟨(w.heap.size + 1 + 1), 6, none⟩ = some (.slice none 0 0) := (O4.out.2 6 (by simp)).1
  have zO6 : w1.frozen? ⟨(w.heap.size + 1 + 1), 6, none⟩ = false := (O4.out.2 6 (by simp)).2
  have yO7 : w1.cell? ⟨(w.heap.size + 1 + 1), 7, none⟩ = some (.slice none 0 0) := (O4.out.2 7 (by simp)).1
  have zO7 : w1.frozen? ⟨(w.heap.size + 1 + 1), 7, none⟩ = false := (O4.out.2 7 (by simp)).2
  have hlO : (w.heap.size + 1 + 1) < w1.heap.size := O4.out.1
  go_wp2
  refine bodyPost_ret (v := .agg #[.int .i64 ag, .int .i64 ct, .int .i64 V.c, .slice (some ⟨bW, 0, none⟩) V.nW V.nW, .int .i64 V.g, .slice (some ⟨bO, 0, none⟩) V.nO V.nO, .slice (some ⟨bX, 0, none⟩) V.nX V.nX, .slice (some ⟨bI, 0, none⟩) V.nI V.nI]) (by simp [results, Try.results8, go_sem, *]) rfl ?_
  exact ⟨⟨_, rfl, w0.heap.size, w1.heap.size, by omega, by omega, by simp [World.setCell], bW, bO, bX, bI, rfl, ((((((((((((((C1.out.set (by omega)).set (by omega)).set (by omega)).set (by omega)).set (by omega)).set (by omega)).set (by omega)).set (by omega)).set (by omega)).set (by omega)).set (by omega)).set (by omega)).set (by omega)).set (by omega)), (ownC_set (ownC_set (ownC_set (ownC_set (ownC_set (ownC_set (ownC_set (ownC_set (ownC_set (ownC_set (ownC_set (ownC_set (ownC_set (ownC_set OC.out (by omega)) (by omega)) (by omega)) (by omega)) (by omega)) (by omega)) (by omega)) (by omega)) (by omega)) (by omega)) (by omega)) (by omega)) (by omega)) (by omega))⟩, ((((((((((((((B4.out.setCell (by first | (simp; done) | (simp; omega) | omega) _).setCell (by first | (simp; done) | (simp; omega) | omega) _).setCell (by first | (simp; done) | (simp; omega) | omega) _).setCell (by first | (simp; done) | (simp; omega) | omega) _).setCell (by first | (simp; done) | (simp; omega) | omega) _).setCell (by first | (simp; done) | (simp; omega) | omega) _).setCell (by first | (simp; done) | (simp; omega) | omega) _).setCell (by first | (simp; done) | (simp; omega) | omega) _).setCell (by first | (simp; done) | (simp; omega) | omega) _).setCell (by first | (simp; done) | (simp; omega) | omega) _).setCell (by first | (simp; done) | (simp; omega) | omega) _).setCell (by first | (simp; done) | (simp; omega) | omega) _).setCell (by first | (simp; done) | (simp; omega) | omega) _).setCell (by first | (simp; done) | (simp; omega) | omega) _)⟩

set_option maxHeartbeats 1000000 in
theorem markHold (lo hi : Nat) (v : Value) (ag ct : Int) (V : CV) (hf : V.few) (w : World) (hlh : lo ≤ w.heap.size) (hhi : hi ≤ w.heap.size) (h : HOwn lo hi w v ag ct V) :
    Calls Try.prog 14 #[v, .int .i64 1] w fun e w' => e = .returned (.int .i64 ((V.s4 : Nat) : Int)) ∧ w.heap.size ≤ w'.heap.size ∧ (∀ b, b < w.heap.size → (b < lo ∨ hi ≤ b) → Sm w w' b) ∧ Below lo w w' := by
  obtain ⟨bW, bO, bX, bI, rfl, _, hO⟩ := h
  have O0 : Hid (OwnC lo hi w (.agg #[.int .i64 V.c, .slice (some ⟨bW, 0, none⟩) V.nW V.nW, .int .i64 V.g, .slice (some ⟨bO, 0, none⟩) V.nO V.nO, .slice (some ⟨bX, 0, none⟩) V.nX V.nX, .slice (some ⟨bI, 0, none⟩) V.nI V.nI]) V) := hO
  have HF : Hid V.few := hf
  clear hO hf
  go_enter Try.func14, Try.ntmps14
  go_wp2_with fail
  obtain ⟨w0, e0⟩ : ∃ wq, wq = w.alloc (.cells #[.int .i64 ag, .int .i64 ct, .int .i64 V.c, .slice (some ⟨bW, 0, none⟩) V.nW V.nW, .int .i64 V.g, .slice (some ⟨bO, 0, none⟩) V.nO V.nO, .slice (some ⟨bX, 0, none⟩) V.nX V.nX, .slice (some ⟨bI, 0, none⟩) V.nI V.nI] 40) := ⟨_, rfl⟩
  have hb0 : Below w.heap.size w w0 := by rw [e0]; exact (Below.refl _ _).alloc (Nat.le_refl _) _
  rw [← e0]
  clear e0
  have z0 := hb0.size
  refine (markC lo hi _ V HF.out _ (by omega) (by omega) (O0.out.below hhi hb0)).mono ?_
  rintro e w1 ⟨rfl, hO, hz, hsm, hbl⟩
  have B1 : Hid (Below lo w w1) := (hb0.mono hlh).trans hbl
  have S1 : Hid (∀ b, b < w.heap.size → (b < lo ∨ hi ≤ b) → Sm w w1 b) := fun b hb hq => (sm_below hb0 hb).trans (hsm b (by omega) hq)
  have z1 : w.heap.size ≤ w1.heap.size := by omega
  clear hO hsm hbl
  go_wp2
  go_ret
  exact ⟨rfl, z1, S1.out, B1.out⟩
end Go.Proofs.Ytdmfncopcmhcjaa
