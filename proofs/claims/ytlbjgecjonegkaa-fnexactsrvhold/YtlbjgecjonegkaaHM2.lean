/- Copies of holds whose lists lie apart, one hold behind the other; conditions: the holds lie in memory. -/
import Derived.Test.YtlbjgecjonegkaaHM1
import Derived.Test.YtlbjgecjonegkaaCToB
namespace Go.Proofs.Ytlbjgecjonegkaa
open Go.RowKit Go.Deep
set_option linter.unusedVariables false
theorem st_sum (s : Nat) (N : Nat → Nat) : ∀ k, st s N k = s + sumN N k * 8
  | 0 => by simp [st, sumN]
  | k + 1 => by simp only [st, sumN, st_sum s N k]; omega

theorem sum_le (N : Nat → Nat) : ∀ n k, k ≤ n → sumN N k ≤ sumN N n
  | 0, k, h => by obtain rfl : k = 0 := by omega
                  exact Nat.le_refl _
  | n + 1, k, h => by
    by_cases e : k = n + 1
    · subst e; exact Nat.le_refl _
    · have := sum_le N n k (by omega); simp only [sumN]; omega

theorem few_sum {V : CV} (h : V.short 1048576) (hs : sumN V.N V.nO ≤ 1048576) : V.few := by
  refine ⟨h, fun k hk => ?_⟩
  rw [st_sum]
  have := sum_le V.N V.nO k hk
  have := h.1
  unfold CV.s1
  omega

/-- A copy of a hold, of which it is known that its lists lie apart, between lo and hi. -/
def HOne (lo hi : Nat) (w : World) (v : Value) (ag ct : Int) (V : CV) : Prop :=
  ∃ bW bO bX bI, v = .agg #[.int .i64 ag, .int .i64 ct, .int .i64 V.c, .slice (some ⟨bW, 0, none⟩) V.nW V.nW, .int .i64 V.g, .slice (some ⟨bO, 0, none⟩) V.nO V.nO, .slice (some ⟨bX, 0, none⟩) V.nX V.nX, .slice (some ⟨bI, 0, none⟩) V.nI V.nI] ∧ CopyAt lo w (.agg #[.int .i64 V.c, .slice (some ⟨bW, 0, none⟩) V.nW V.nW, .int .i64 V.g, .slice (some ⟨bO, 0, none⟩) V.nO V.nO, .slice (some ⟨bX, 0, none⟩) V.nX V.nX, .slice (some ⟨bI, 0, none⟩) V.nI V.nI]) V ∧ OwnC lo hi w (.agg #[.int .i64 V.c, .slice (some ⟨bW, 0, none⟩) V.nW V.nW, .int .i64 V.g, .slice (some ⟨bO, 0, none⟩) V.nO V.nO, .slice (some ⟨bX, 0, none⟩) V.nX V.nX, .slice (some ⟨bI, 0, none⟩) V.nI V.nI]) V

theorem ownC_set {lo hi B j : Nat} {w : World} {v u : Value} {V : CV} (h : OwnC lo hi w v V) (hB : B < lo) : OwnC lo hi (w.setCell ⟨B, j, none⟩ u) v V :=
  h.sm (Nat.le_of_eq set_size.symm) (fun b h1 _ => fun o => ⟨set_out (fun e => by omega), set_frozen⟩)

set_option maxHeartbeats 8000000 in
theorem toHoldO (v : Value) (ag ct : Int) (V : CV) (hs : V.short 1048576) (w : World) (h : HoldAt w v ag ct V) :
    Calls Try.prog 41 #[v] w fun e w' => (∃ v', e = .returned v' ∧ ∃ lo hi, w.heap.size ≤ lo ∧ lo ≤ hi ∧ hi ≤ w'.heap.size ∧ HOne lo hi w' v' ag ct V) ∧ Below w.heap.size w w' := by
  obtain ⟨aW, kW, aO, kO, aX, kX, aI, kI, rfl, rW, rO, rX, rI⟩ := h
  have HC : Hid (CellAt w (.agg #[.int .i64 V.c, .slice aW V.nW kW, .int .i64 V.g, .slice aO V.nO kO, .slice aX V.nX kX, .slice aI V.nI kI]) V) := cell_of_rows ⟨rW, rO, rX, rI⟩
  have HS : Hid (V.short 1048576) := hs
  clear rW rO rX rI hs
  go_enter Try.func41, Try.ntmps41
  go_wp2_with fail
  obtain ⟨w0, e0⟩ : ∃ w0, w0 = ((w.alloc (.cells #[.int .i64 ag, .int .i64 ct, .int .i64 V.c, .slice aW V.nW kW, .int .i64 V.g, .slice aO V.nO kO, .slice aX V.nX kX, .slice aI V.nI kI] 72)).alloc (.cells #[.int .i64 0, .int .i64 0, .int .i64 0, .slice none 0 0, .int .i64 0, .slice none 0 0, .slice none 0 0, .slice none 0 0] 45)).alloc (.cells #[.int .i64 ag, .int .i64 ct, .int .i64 0, .slice none 0 0, .int .i64 0, .slice none 0 0, .slice none 0 0, .slice none 0 0] 45) := ⟨_, rfl⟩
  have B1 : Hid (Below w.heap.size w w0) := by rw [e0]; exact (((Below.refl _ _).alloc (by simp) _).alloc (by simp) _).alloc (by simp; omega) _
  have R2 : Hid (Bk w0 (w.heap.size + 1) [.int .i64 0, .int .i64 0, .int .i64 0, .slice none 0 0, .int .i64 0, .slice none 0 0, .slice none 0 0, .slice none 0 0]) := by rw [e0]; have := (bk_new (w.alloc (.cells #[.int .i64 ag, .int .i64 ct, .int .i64 V.c, .slice aW V.nW kW, .int .i64 V.g, .slice aO V.nO kO, .slice aX V.nX kX, .slice aI V.nI kI] 72)) 45 [.int .i64 0, .int .i64 0, .int .i64 0, .slice none 0 0, .int .i64 0, .slice none 0 0, .slice none 0 0, .slice none 0 0]).below ((Below.refl _ _).alloc (Nat.le_refl _) (.cells #[.int .i64 ag, .int .i64 ct, .int .i64 0, .slice none 0 0, .int .i64 0, .slice none 0 0, .slice none 0 0, .slice none 0 0] 45)); rwa [show (w.alloc (.cells #[.int .i64 ag, .int .i64 ct, .int .i64 V.c, .slice aW V.nW kW, .int .i64 V.g, .slice aO V.nO kO, .slice aX V.nX kX, .slice aI V.nI kI] 72)).heap.size = w.heap.size + 1 by simp] at this
  have O3 : Hid (Bk w0 (w.heap.size + 1 + 1) [.int .i64 ag, .int .i64 ct, .int .i64 0, .slice none 0 0, .int .i64 0, .slice none 0 0, .slice none 0 0, .slice none 0 0]) := by rw [e0]; have := bk_new ((w.alloc (.cells #[.int .i64 ag, .int .i64 ct, .int .i64 V.c, .slice aW V.nW kW, .int .i64 V.g, .slice aO V.nO kO, .slice aX V.nX kX, .slice aI V.nI kI] 72)).alloc (.cells #[.int .i64 0, .int .i64 0, .int .i64 0, .slice none 0 0, .int .i64 0, .slice none 0 0, .slice none 0 0, .slice none 0 0] 45)) 45 [.int .i64 ag, .int .i64 ct, .int .i64 0, .slice none 0 0, .int .i64 0, .slice none 0 0, .slice none 0 0, .slice none 0 0]; rwa [show ((w.alloc (.cells #[.int .i64 ag, .int .i64 ct, .int .i64 V.c, .slice aW V.nW kW, .int .i64 V.g, .slice aO V.nO kO, .slice aX V.nX kX, .slice aI V.nI kI] 72)).alloc (.cells #[.int .i64 0, .int .i64 0, .int .i64 0, .slice none 0 0, .int .i64 0, .slice none 0 0, .slice none 0 0, .slice none 0 0] 45)).heap.size = w.heap.size + 1 + 1 by simp] at this
  rw [← e0]
  clear e0
  have z0 : w.heap.size + 1 + 1 < w0.heap.size := O3.out.1
  refine (toCellB _ V HS.out _ (cellAt_below HC.out B1.out)).mono ?_
  rintro e w1 ⟨⟨v1, rfl, hCB⟩, hb1⟩
  have B4 : Hid (Below w.heap.size w w1) := bthen B1.out hb1
  have R4 : Hid (Bk w1 (w.heap.size + 1) [.int .i64 0, .int .i64 0, .int .i64 0, .slice none 0 0, .int .i64 0, .slice none 0 0, .slice none 0 0, .slice none 0 0]) := R2.out.below hb1
  have O4 : Hid (Bk w1 (w.heap.size + 1 + 1) [.int .i64 ag, .int .i64 ct, .int .i64 0, .slice none 0 0, .int .i64 0, .slice none 0 0, .slice none 0 0, .slice none 0 0]) := O3.out.below hb1
  clear B1 R2 O3
  clear hb1
  have hOC := hCB.own
  have hC1 := hCB.copy
  obtain ⟨bW, bO, bX, bI, q0, q1, q2, q3, q4, rfl, g1, g2, g3, g4⟩ := hC1
  have C1 : Hid (CopyAt w0.heap.size w1 (.agg #[.int .i64 V.c, .slice (some ⟨bW, 0, none⟩) V.nW V.nW, .int .i64 V.g, .slice (some ⟨bO, 0, none⟩) V.nO V.nO, .slice (some ⟨bX, 0, none⟩) V.nX V.nX, .slice (some ⟨bI, 0, none⟩) V.nI V.nI]) V) := ⟨bW, bO, bX, bI, q0, q1, q2, q3, q4, rfl, g1, g2, g3, g4⟩
  have OC : Hid (OwnC w0.heap.size w1.heap.size w1 (.agg #[.int .i64 V.c, .slice (some ⟨bW, 0, none⟩) V.nW V.nW, .int .i64 V.g, .slice (some ⟨bO, 0, none⟩) V.nO V.nO, .slice (some ⟨bX, 0, none⟩) V.nX V.nX, .slice (some ⟨bI, 0, none⟩) V.nI V.nI]) V) := hOC
  clear g1 g2 g3 g4 hOC hCB
  have yR0 : w1.cell? ⟨(w.heap.size + 1), 0, none⟩ = some (.int .i64 0) := (R4.out.2 0 (by simp)).1
  have zR0 : w1.frozen? ⟨(w.heap.size + 1), 0, none⟩ = false := (R4.out.2 0 (by simp)).2
  have yR1 : w1.cell? ⟨(w.heap.size + 1), 1, none⟩ = some (.int .i64 0) := (R4.out.2 1 (by simp)).1
  have zR1 : w1.frozen? ⟨(w.heap.size + 1), 1, none⟩ = false := (R4.out.2 1 (by simp)).2
  have yR2 : w1.cell? ⟨(w.heap.size + 1), 2, none⟩ = some (.int .i64 0) := (R4.out.2 2 (by simp)).1
  have zR2 : w1.frozen? ⟨(w.heap.size + 1), 2, none⟩ = false := (R4.out.2 2 (by simp)).2
  have yR3 : w1.cell? ⟨(w.heap.size + 1), 3, none⟩ = some (.slice none 0 0) := (R4.out.2 3 (by simp)).1
  have zR3 : w1.frozen? ⟨(w.heap.size + 1), 3, none⟩ = false := (R4.out.2 3 (by simp)).2
  have yR4 : w1.cell? ⟨(w.heap.size + 1), 4, none⟩ = some (.int .i64 0) := (R4.out.2 4 (by simp)).1
  have zR4 : w1.frozen? ⟨(w.heap.size + 1), 4, none⟩ = false := (R4.out.2 4 (by simp)).2
  have yR5 : w1.cell? ⟨(w.heap.size + 1), 5, none⟩ = some (.slice none 0 0) := (R4.out.2 5 (by simp)).1
  have zR5 : w1.frozen? ⟨(w.heap.size + 1), 5, none⟩ = false := (R4.out.2 5 (by simp)).2
  have yR6 : w1.cell? ⟨(w.heap.size + 1), 6, none⟩ = some (.slice none 0 0) := (R4.out.2 6 (by simp)).1
  have zR6 : w1.frozen? ⟨(w.heap.size + 1), 6, none⟩ = false := (R4.out.2 6 (by simp)).2
  have yR7 : w1.cell? ⟨(w.heap.size + 1), 7, none⟩ = some (.slice none 0 0) := (R4.out.2 7 (by simp)).1
  have zR7 : w1.frozen? ⟨(w.heap.size + 1), 7, none⟩ = false := (R4.out.2 7 (by simp)).2
  have hlR : (w.heap.size + 1) < w1.heap.size := R4.out.1
  have yO0 : w1.cell? ⟨(w.heap.size + 1 + 1), 0, none⟩ = some (.int .i64 ag) := (O4.out.2 0 (by simp)).1
  have zO0 : w1.frozen? ⟨(w.heap.size + 1 + 1), 0, none⟩ = false := (O4.out.2 0 (by simp)).2
  have yO1 : w1.cell? ⟨(w.heap.size + 1 + 1), 1, none⟩ = some (.int .i64 ct) := (O4.out.2 1 (by simp)).1
  have zO1 : w1.frozen? ⟨(w.heap.size + 1 + 1), 1, none⟩ = false := (O4.out.2 1 (by simp)).2
  have yO2 : w1.cell? ⟨(w.heap.size + 1 + 1), 2, none⟩ = some (.int .i64 0) := (O4.out.2 2 (by simp)).1
  have zO2 : w1.frozen? ⟨(w.heap.size + 1 + 1), 2, none⟩ = false := (O4.out.2 2 (by simp)).2
  have yO3 : w1.cell? ⟨(w.heap.size + 1 + 1), 3, none⟩ = some (.slice none 0 0) := (O4.out.2 3 (by simp)).1
  have zO3 : w1.frozen? ⟨(w.heap.size + 1 + 1), 3, none⟩ = false := (O4.out.2 3 (by simp)).2
  have yO4 : w1.cell? ⟨(w.heap.size + 1 + 1), 4, none⟩ = some (.int .i64 0) := (O4.out.2 4 (by simp)).1
  have zO4 : w1.frozen? ⟨(w.heap.size + 1 + 1), 4, none⟩ = false := (O4.out.2 4 (by simp)).2
  have yO5 : w1.cell? ⟨(w.heap.size + 1 + 1), 5, none⟩ = some (.slice none 0 0) := (O4.out.2 5 (by simp)).1
  have zO5 : w1.frozen? ⟨(w.heap.size + 1 + 1), 5, none⟩ = false := (O4.out.2 5 (by simp)).2
  have yO6 : w1.cell? ⟨(w.heap.size + 1 + 1), 6, none⟩ = some (.slice none 0 0) := (O4.out.2 6 (by simp)).1
  have zO6 : w1.frozen? ⟨(w.heap.size + 1 + 1), 6, none⟩ = false := (O4.out.2 6 (by simp)).2
  have yO7 : w1.cell? ⟨(w.heap.size + 1 + 1), 7, none⟩ = some (.slice none 0 0) := (O4.out.2 7 (by simp)).1
  have zO7 : w1.frozen? ⟨(w.heap.size + 1 + 1), 7, none⟩ = false := (O4.out.2 7 (by simp)).2
  have hlO : (w.heap.size + 1 + 1) < w1.heap.size := O4.out.1
  go_wp2
  refine bodyPost_ret (v := .agg #[.int .i64 ag, .int .i64 ct, .int .i64 V.c, .slice (some ⟨bW, 0, none⟩) V.nW V.nW, .int .i64 V.g, .slice (some ⟨bO, 0, none⟩) V.nO V.nO, .slice (some ⟨bX, 0, none⟩) V.nX V.nX, .slice (some ⟨bI, 0, none⟩) V.nI V.nI]) (by simp [results, Try.results41, go_sem, *]) rfl ?_
  exact ⟨⟨_, rfl, w0.heap.size, w1.heap.size, by omega, by omega, by simp [World.setCell], bW, bO, bX, bI, rfl, ((((((((((((((C1.out.set (by omega)).set (by omega)).set (by omega)).set (by omega)).set (by omega)).set (by omega)).set (by omega)).set (by omega)).set (by omega)).set (by omega)).set (by omega)).set (by omega)).set (by omega)).set (by omega)), (ownC_set (ownC_set (ownC_set (ownC_set (ownC_set (ownC_set (ownC_set (ownC_set (ownC_set (ownC_set (ownC_set (ownC_set (ownC_set (ownC_set OC.out (by omega)) (by omega)) (by omega)) (by omega)) (by omega)) (by omega)) (by omega)) (by omega)) (by omega)) (by omega)) (by omega)) (by omega)) (by omega)) (by omega))⟩, ((((((((((((((B4.out.setCell (by first | (simp; done) | (simp; omega) | omega) _).setCell (by first | (simp; done) | (simp; omega) | omega) _).setCell (by first | (simp; done) | (simp; omega) | omega) _).setCell (by first | (simp; done) | (simp; omega) | omega) _).setCell (by first | (simp; done) | (simp; omega) | omega) _).setCell (by first | (simp; done) | (simp; omega) | omega) _).setCell (by first | (simp; done) | (simp; omega) | omega) _).setCell (by first | (simp; done) | (simp; omega) | omega) _).setCell (by first | (simp; done) | (simp; omega) | omega) _).setCell (by first | (simp; done) | (simp; omega) | omega) _).setCell (by first | (simp; done) | (simp; omega) | omega) _).setCell (by first | (simp; done) | (simp; omega) | omega) _).setCell (by first | (simp; done) | (simp; omega) | omega) _).setCell (by first | (simp; done) | (simp; omega) | omega) _)⟩


/-- A hold lies in block B of w, from p on; its lists lie between lo and hi, apart. -/
def HCo (w : World) (B p : Nat) (X : HV) (lo hi : Nat) : Prop := ∃ bW bO bX bI, B < lo ∧ lo ≤ hi ∧ hi ≤ w.heap.size ∧ (w.cell? ⟨B, p, none⟩ = some (.int .i64 X.ag) ∧ w.cell? ⟨B, p + 1, none⟩ = some (.int .i64 X.ct) ∧ w.cell? ⟨B, p + 2, none⟩ = some (.int .i64 X.V.c) ∧ w.cell? ⟨B, p + 3, none⟩ = some (.slice (some ⟨bW, 0, none⟩) X.V.nW X.V.nW) ∧ w.cell? ⟨B, p + 4, none⟩ = some (.int .i64 X.V.g) ∧ w.cell? ⟨B, p + 5, none⟩ = some (.slice (some ⟨bO, 0, none⟩) X.V.nO X.V.nO) ∧ w.cell? ⟨B, p + 6, none⟩ = some (.slice (some ⟨bX, 0, none⟩) X.V.nX X.V.nX) ∧ w.cell? ⟨B, p + 7, none⟩ = some (.slice (some ⟨bI, 0, none⟩) X.V.nI X.V.nI)) ∧ CopyAt lo w (.agg #[.int .i64 X.V.c, .slice (some ⟨bW, 0, none⟩) X.V.nW X.V.nW, .int .i64 X.V.g, .slice (some ⟨bO, 0, none⟩) X.V.nO X.V.nO, .slice (some ⟨bX, 0, none⟩) X.V.nX X.V.nX, .slice (some ⟨bI, 0, none⟩) X.V.nI X.V.nI]) X.V ∧ OwnC lo hi w (.agg #[.int .i64 X.V.c, .slice (some ⟨bW, 0, none⟩) X.V.nW X.V.nW, .int .i64 X.V.g, .slice (some ⟨bO, 0, none⟩) X.V.nO X.V.nO, .slice (some ⟨bX, 0, none⟩) X.V.nX X.V.nX, .slice (some ⟨bI, 0, none⟩) X.V.nI X.V.nI]) X.V
def HOwC (w : World) (B n : Nat) (F : Nat → HV) (k : Nat) : Prop :=
  (∀ i, i < n * 8 → (w.cell? ⟨B, i, none⟩).isSome = true ∧ w.frozen? ⟨B, i, none⟩ = false) ∧ ∃ los his : Nat → Nat, (∀ k', k' < k → HCo w B (k' * 8) (F k') (los k') (his k')) ∧ ∀ i j, i < j → j < k → his i ≤ los j
theorem HOwC.own {w : World} {B n k : Nat} {F : Nat → HV} (h : HOwC w B n F k) : HOwn w B n F k := by
  obtain ⟨h1, los, his, h2, _⟩ := h
  refine ⟨h1, fun k' hk => ?_⟩
  obtain ⟨bW, bO, bX, bI, a1, a2, a3, a4, a5, _⟩ := h2 k' hk
  exact ⟨los k', bW, bO, bX, bI, a1, a4, a5⟩
theorem OwnC.sets {lo hi B : Nat} {v : Value} {V : CV} (hB : B < lo) : ∀ (l : List Value) (o : Nat) (w : World), OwnC lo hi w v V → OwnC lo hi (w.setCells B o l) v V
  | [], _, _, h => h
  | u :: r, o, w, h => by rw [World.setCells]; exact OwnC.sets hB r (o + 1) _ (ownC_set h hB)
theorem size_cells (B : Nat) : ∀ (l : List Value) (o : Nat) (w : World), (w.setCells B o l).heap.size = w.heap.size
  | [], _, _ => rfl
  | u :: r, o, w => by rw [World.setCells, size_cells B r, set_size]
theorem HCo.below {w w' : World} {B p lo hi : Nat} {X : HV} (h : HCo w B p X lo hi) (hl : B < w.heap.size) (hb : Below w.heap.size w w') : HCo w' B p X lo hi := by
  obtain ⟨bW, bO, bX, bI, a1, a2, a3, ⟨c0, c1, c2, c3, c4, c5, c6, c7⟩, a5, a6⟩ := h
  have k : ∀ o, w'.cell? ⟨B, o, none⟩ = w.cell? ⟨B, o, none⟩ := fun o => hb.cell (p := ⟨B, o, none⟩) hl
  exact ⟨bW, bO, bX, bI, a1, a2, Nat.le_trans a3 hb.size, ⟨(k _).trans c0, (k _).trans c1, (k _).trans c2, (k _).trans c3, (k _).trans c4, (k _).trans c5, (k _).trans c6, (k _).trans c7⟩, a5.below hb, a6.below a3 hb⟩
theorem HOwC.below {w w' : World} {B n k : Nat} {F : Nat → HV} (h : HOwC w B n F k) (hB : B < w.heap.size) (hb : Below w.heap.size w w') : HOwC w' B n F k := by
  obtain ⟨h1, los, his, h2, h3⟩ := h
  exact ⟨fun i hi => by rw [hb.cell (p := ⟨B, i, none⟩) hB, hb.frozen (p := ⟨B, i, none⟩) hB]; exact h1 i hi, los, his, fun k' hk => (h2 k' hk).below hB hb, h3⟩
theorem HOwC.cell {w : World} {B n k : Nat} {F : Nat → HV} (h : HOwC w B n F k) (hk : k < n) (j : Nat) (hj : j < 8) : (∃ v, w.cell? ⟨B, k * 8 + j, none⟩ = some v) ∧ w.frozen? ⟨B, k * 8 + j, none⟩ = false := h.own.cell hk j hj
theorem HOwC.put {w0 w : World} {B n k lo hi bW bO bX bI : Nat} {F : Nat → HV} (h : HOwC w B n F k) (hk : k < n) (hlo : B < lo) (hlh : lo ≤ hi) (hhi : hi ≤ w.heap.size) (hC : CopyAt lo w (.agg #[.int .i64 (F k).V.c, .slice (some ⟨bW, 0, none⟩) (F k).V.nW (F k).V.nW, .int .i64 (F k).V.g, .slice (some ⟨bO, 0, none⟩) (F k).V.nO (F k).V.nO, .slice (some ⟨bX, 0, none⟩) (F k).V.nX (F k).V.nX, .slice (some ⟨bI, 0, none⟩) (F k).V.nI (F k).V.nI]) (F k).V) (hO : OwnC lo hi w (.agg #[.int .i64 (F k).V.c, .slice (some ⟨bW, 0, none⟩) (F k).V.nW (F k).V.nW, .int .i64 (F k).V.g, .slice (some ⟨bO, 0, none⟩) (F k).V.nO (F k).V.nO, .slice (some ⟨bX, 0, none⟩) (F k).V.nX (F k).V.nX, .slice (some ⟨bI, 0, none⟩) (F k).V.nI (F k).V.nI]) (F k).V) (hall : ∃ los his : Nat → Nat, (∀ k', k' < k → HCo w B (k' * 8) (F k') (los k') (his k') ∧ his k' ≤ lo) ∧ ∀ i j, i < j → j < k → his i ≤ los j) :
    HOwC (w.setCells B (k * 8) [.int .i64 (F k).ag, .int .i64 (F k).ct, .int .i64 (F k).V.c, .slice (some ⟨bW, 0, none⟩) (F k).V.nW (F k).V.nW, .int .i64 (F k).V.g, .slice (some ⟨bO, 0, none⟩) (F k).V.nO (F k).V.nO, .slice (some ⟨bX, 0, none⟩) (F k).V.nX (F k).V.nX, .slice (some ⟨bI, 0, none⟩) (F k).V.nI (F k).V.nI]) B n F (k + 1) := by
  obtain ⟨los, his, h2, h3⟩ := hall
  refine ⟨fun i hi => ⟨World.isSome_setCells B _ _ w _ (h.1 i hi).1, by rw [World.frozen?_setCells]; exact (h.1 i hi).2⟩, fun j => if j = k then lo else los j, fun j => if j = k then hi else his j, fun k' hk' => ?_, fun i j hij hj => ?_⟩
  · by_cases e : k' = k
    · subst e
      simp only [if_true]
      have hin := World.rangeAt_setCells_same w B (k' * 8) [.int .i64 (F k').ag, .int .i64 (F k').ct, .int .i64 (F k').V.c, .slice (some ⟨bW, 0, none⟩) (F k').V.nW (F k').V.nW, .int .i64 (F k').V.g, .slice (some ⟨bO, 0, none⟩) (F k').V.nO (F k').V.nO, .slice (some ⟨bX, 0, none⟩) (F k').V.nX (F k').V.nX, .slice (some ⟨bI, 0, none⟩) (F k').V.nI (F k').V.nI] (fun j hj => h.1 (k' * 8 + j) (by simp at hj; omega))
      exact ⟨bW, bO, bX, bI, hlo, hlh, by rw [size_cells]; exact hhi, ⟨hin 0 _ rfl, hin 1 _ rfl, hin 2 _ rfl, hin 3 _ rfl, hin 4 _ rfl, hin 5 _ rfl, hin 6 _ rfl, hin 7 _ rfl⟩, hC.sets hlo _ _ _, OwnC.sets hlo _ _ _ hO⟩
    · simp only [if_neg e]
      obtain ⟨⟨cW, cO, cX, cI, a1, a2, a3, ⟨c0, c1, c2, c3, c4, c5, c6, c7⟩, a5, a6⟩, _⟩ := h2 k' (by omega)
      have out : ∀ j, j < 8 → (w.setCells B (k * 8) [.int .i64 (F k).ag, .int .i64 (F k).ct, .int .i64 (F k).V.c, .slice (some ⟨bW, 0, none⟩) (F k).V.nW (F k).V.nW, .int .i64 (F k).V.g, .slice (some ⟨bO, 0, none⟩) (F k).V.nO (F k).V.nO, .slice (some ⟨bX, 0, none⟩) (F k).V.nX (F k).V.nX, .slice (some ⟨bI, 0, none⟩) (F k).V.nI (F k).V.nI]).cell? ⟨B, k' * 8 + j, none⟩ = w.cell? ⟨B, k' * 8 + j, none⟩ := fun j hj =>
        World.cell?_setCells_out B _ _ w _ (fun _ _ => by left; show k' * 8 + j < k * 8; omega)
      exact ⟨cW, cO, cX, cI, a1, a2, by rw [size_cells]; exact a3, ⟨(out 0 (by omega)).trans c0, (out 1 (by omega)).trans c1, (out 2 (by omega)).trans c2, (out 3 (by omega)).trans c3, (out 4 (by omega)).trans c4, (out 5 (by omega)).trans c5, (out 6 (by omega)).trans c6, (out 7 (by omega)).trans c7⟩, CopyAt.sets a1 _ _ _ a5, OwnC.sets a1 _ _ _ a6⟩
  · have hi' : ¬ i = k := by omega
    simp only [if_neg hi']
    by_cases e : j = k
    · rw [if_pos e]; exact (h2 i (by omega)).2
    · rw [if_neg e]; exact h3 i j hij (by omega)
theorem HOwC.far {w : World} {B n k O j : Nat} {u : Value} {F : Nat → HV} (h : HOwC w B n F k) (hO : O < B) : HOwC (w.setCell ⟨O, j, none⟩ u) B n F k := by
  obtain ⟨h1, los, his, h2, h3⟩ := h
  refine ⟨fun i hi => by rw [set_out (fun e => by omega), set_frozen]; exact h1 i hi, los, his, fun k' hk => ?_, h3⟩
  obtain ⟨bW, bO, bX, bI, a1, a2, a3, ⟨c0, c1, c2, c3, c4, c5, c6, c7⟩, a5, a6⟩ := h2 k' hk
  have k : ∀ o, (w.setCell ⟨O, j, none⟩ u).cell? ⟨B, o, none⟩ = w.cell? ⟨B, o, none⟩ := fun o => set_out (fun e => by omega)
  exact ⟨bW, bO, bX, bI, a1, a2, by rw [set_size]; exact a3, ⟨(k _).trans c0, (k _).trans c1, (k _).trans c2, (k _).trans c3, (k _).trans c4, (k _).trans c5, (k _).trans c6, (k _).trans c7⟩, a5.set (by omega), ownC_set a6 (by omega)⟩

set_option maxHeartbeats 4000000 in
theorem toHoldsC (b o : Nat) (n cap : Nat) (F : Nat → HV) (hn : n ≤ 1048576) (hS : ∀ k, k < n → (F k).V.short 1048576) (w : World) (hb : b < w.heap.size) (hr : ∀ k, k < n → HSpot w b (o + k * 8) (F k)) :
    Calls Try.prog 22 #[.slice (some ⟨b, o, none⟩) n cap] w fun e w' => e = .returned (.slice (some ⟨w.heap.size, 0, none⟩) n n) ∧ HOwC w' w.heap.size n F n ∧ w.heap.size < w'.heap.size ∧ Below w.heap.size w w' := by
  have hmk := makeH n hn
  have HR : Hid (∀ k, k < n → HSpot w b (o + k * 8) (F k)) := hr
  have HS : Hid (∀ k, k < n → (F k).V.short 1048576) := hS
  clear hr hS
  go_enter Try.func22, Try.ntmps22
  go_wp2
  go_loopw [4] (fun i wr => ∃ k : Nat, k ≤ n ∧ i = .int .i64 k ∧ HOwC wr w.heap.size n F k ∧ w.heap.size < wr.heap.size ∧ Below w.heap.size w wr) (fun i _ => n - (intOf i).toNat)
  case atStart => exact ⟨0, Nat.zero_le _, rfl, ⟨fun i hi => by simp [size_madeCells, hi], fun _ => 0, fun _ => 0, fun _ h => absurd h (by omega), fun _ _ _ h => absurd h (by omega)⟩, by simp, (Below.refl _ _).alloc (by simp) _⟩
  case round =>
    obtain ⟨k, hk, rfl, hown, hsz, hbel⟩ := hrel
    have HW : Hid (HOwC wr w.heap.size n F k) := hown
    clear hown hmk
    by_cases hkn : k < n
    · have hkn' : (k : Int) < n := by omega
      obtain ⟨aW, kW, aO, kO, aX, kX, aI, kI, ⟨c0, c1, c2, c3, c4, c5, c6, c7⟩, r1, r2, r3, r4⟩ := (HR.out k hkn).below hb hbel
      have HO : Hid (HoldAt wr (.agg #[.int .i64 (F k).ag, .int .i64 (F k).ct, .int .i64 (F k).V.c, .slice aW (F k).V.nW kW, .int .i64 (F k).V.g, .slice aO (F k).V.nO kO, .slice aX (F k).V.nX kX, .slice aI (F k).V.nI kI]) (F k).ag (F k).ct (F k).V) := ⟨aW, kW, aO, kO, aX, kX, aI, kI, rfl, r1, r2, r3, r4⟩
      clear r1 r2 r3 r4
      go_wp2_with fail
      refine (toHoldO _ _ _ (F k).V (HS.out k hkn) _ HO.out).mono ?_
      rintro e w1 ⟨⟨v', rfl, lo, hi, hlo, hlh, hhi, hcp⟩, hb1⟩
      obtain ⟨bW, bO, bX, bI, rfl, hC, hOC⟩ := hcp
      have HCC : Hid (CopyAt lo w1 (.agg #[.int .i64 (F k).V.c, .slice (some ⟨bW, 0, none⟩) (F k).V.nW (F k).V.nW, .int .i64 (F k).V.g, .slice (some ⟨bO, 0, none⟩) (F k).V.nO (F k).V.nO, .slice (some ⟨bX, 0, none⟩) (F k).V.nX (F k).V.nX, .slice (some ⟨bI, 0, none⟩) (F k).V.nI (F k).V.nI]) (F k).V) := hC
      have HOC : Hid (OwnC lo hi w1 (.agg #[.int .i64 (F k).V.c, .slice (some ⟨bW, 0, none⟩) (F k).V.nW (F k).V.nW, .int .i64 (F k).V.g, .slice (some ⟨bO, 0, none⟩) (F k).V.nO (F k).V.nO, .slice (some ⟨bX, 0, none⟩) (F k).V.nX (F k).V.nX, .slice (some ⟨bI, 0, none⟩) (F k).V.nI (F k).V.nI]) (F k).V) := hOC
      have HAL : Hid (∃ los his : Nat → Nat, (∀ k', k' < k → HCo w1 w.heap.size (k' * 8) (F k') (los k') (his k') ∧ his k' ≤ lo) ∧ ∀ i j, i < j → j < k → his i ≤ los j) := by
        obtain ⟨_, los, his, h2, h3⟩ := HW.out
        refine ⟨los, his, fun k' hk' => ⟨(h2 k' hk').below hsz hb1, ?_⟩, h3⟩
        obtain ⟨_, _, _, _, _, _, a3, _⟩ := h2 k' hk'
        omega
      have W1 : Hid (HOwC w1 w.heap.size n F k) := HW.out.below hsz hb1
      have hsz1 : w.heap.size < w1.heap.size := Nat.lt_of_lt_of_le hsz hb1.size
      have hbel1 : Hid (Below w.heap.size w w1) := hbel.trans (hb1.mono (Nat.le_of_lt hsz))
      clear hC hOC HW HO hb1 hbel c0 c1 c2 c3 c4 c5 c6 c7
      obtain ⟨⟨u0, d0⟩, f0⟩ := W1.out.cell hkn 0 (by omega)
      obtain ⟨⟨u1, d1⟩, f1⟩ := W1.out.cell hkn 1 (by omega)
      obtain ⟨⟨u2, d2⟩, f2⟩ := W1.out.cell hkn 2 (by omega)
      obtain ⟨⟨u3, d3⟩, f3⟩ := W1.out.cell hkn 3 (by omega)
      obtain ⟨⟨u4, d4⟩, f4⟩ := W1.out.cell hkn 4 (by omega)
      obtain ⟨⟨u5, d5⟩, f5⟩ := W1.out.cell hkn 5 (by omega)
      obtain ⟨⟨u6, d6⟩, f6⟩ := W1.out.cell hkn 6 (by omega)
      obtain ⟨⟨u7, d7⟩, f7⟩ := W1.out.cell hkn 7 (by omega)
      simp only [Nat.add_zero] at d0 f0
      go_wp2
      go_roundw
      case rel => exact ⟨k + 1, by omega, by go_num, W1.out.put (w0 := w) hkn (by omega) hlh hhi HCC.out HOC.out HAL.out, by simpa [World.setCell] using hsz1, ((((((((hbel1.out.setCell (Nat.le_refl _) _).setCell (Nat.le_refl _) _).setCell (Nat.le_refl _) _).setCell (Nat.le_refl _) _).setCell (Nat.le_refl _) _).setCell (Nat.le_refl _) _).setCell (Nat.le_refl _) _).setCell (Nat.le_refl _) _)⟩
      case measure => simp [intOf]; omega
    · have : k = n := by omega
      subst this
      go_wp2
      go_ret
      exact ⟨rfl, HW.out, hsz, hbel⟩

theorem toHoldsC0 (a : Option Addr) (cap : Nat) (F : Nat → HV) (w : World) :
    Calls Try.prog 22 #[.slice a 0 cap] w fun e w' => e = .returned (.slice (some ⟨w.heap.size, 0, none⟩) 0 0) ∧ HOwC w' w.heap.size 0 F 0 ∧ w.heap.size < w'.heap.size ∧ Below w.heap.size w w' := by
  have hmk : ∀ w : World, (Instr.makeSlice 32 (.int .i64 0) (.int .i64 0)).run Try.prog w = .ok (.slice (some ⟨w.heap.size, 0, none⟩) 0 0) (w.alloc (.cells (madeCells #[.int .i64 0, .int .i64 0, .int .i64 0, .slice none 0 0, .int .i64 0, .slice none 0 0, .slice none 0 0, .slice none 0 0] (0 * 8)) 45)) := makeH 0 (by omega)
  go_enter Try.func22, Try.ntmps22
  go_wp2
  refine wp_loop_rounds 1 ?_
  rw [rounds_succ]
  go_wp2
  go_ret
  exact ⟨rfl, ⟨fun i hi => absurd hi (by omega), fun _ => 0, fun _ => 0, fun _ h => absurd h (by omega), fun _ _ _ h => absurd h (by omega)⟩, by simp, (Below.refl _ _).alloc (by simp) _⟩

theorem toHoldsC_any (a : Option Addr) (n cap : Nat) (F : Nat → HV) (hn : n ≤ 1048576) (hS : ∀ k, k < n → (F k).V.short 1048576) (w : World) (h : HRow w a n F) :
    Calls Try.prog 22 #[.slice a n cap] w fun e w' => e = .returned (.slice (some ⟨w.heap.size, 0, none⟩) n n) ∧ HOwC w' w.heap.size n F n ∧ w.heap.size < w'.heap.size ∧ Below w.heap.size w w' := by
  rcases h with rfl | ⟨b, o, rfl, h1, h2⟩
  · exact toHoldsC0 a cap F w
  · exact toHoldsC b o n cap F hn hS w h1 h2

set_option maxHeartbeats 2000000 in
theorem toSrvC (up : Bool) (aH : Option Addr) (n cH : Nat) (F : Nat → HV) (aG : Option Addr) (g cG : Nat) (Z : Nat → Nat → Int) (hn : n ≤ 1048576) (hg : g ≤ 1048576) (hS : ∀ k, k < n → (F k).V.short 1048576) (w : World) (hH : HRow w aH n F) (hG : P7.RowK w aG g Z) :
    Calls Try.prog 8 #[.agg #[.bool up, .slice aH n cH, .slice aG g cG]] w fun e w' => (∃ B G, e = .returned (.agg #[.bool up, .slice (some ⟨B, 0, none⟩) n n, .slice (some ⟨G, 0, none⟩) g g]) ∧ HOwC w' B n F n ∧ P7.OwnK w' G g Z g ∧ B < w'.heap.size ∧ G < w'.heap.size ∧ w.heap.size ≤ B ∧ B < G) ∧ Below w.heap.size w w' := by
  have HH : Hid (HRow w aH n F) := hH
  have HG : Hid (P7.RowK w aG g Z) := hG
  have HS : Hid (∀ k, k < n → (F k).V.short 1048576) := hS
  clear hH hG hS
  go_enter Try.func8, Try.ntmps8
  go_wp2_with fail
  obtain ⟨w0, e0⟩ : ∃ w0, w0 = ((w.alloc (.cells #[.bool up, .slice aH n cH, .slice aG g cG] 27)).alloc (.cells #[.bool false, .slice none 0 0, .slice none 0 0] 35)).alloc (.cells #[.bool up, .slice none 0 0, .slice none 0 0] 35) := ⟨_, rfl⟩
  have B1 : Hid (Below w.heap.size w w0) := by rw [e0]; exact (((Below.refl _ _).alloc (by simp) _).alloc (by simp) _).alloc (by simp; omega) _
  have A2 : Hid (Bk w0 w.heap.size [.bool up, .slice aH n cH, .slice aG g cG]) := by rw [e0]; exact ((bk_new w 27 [.bool up, .slice aH n cH, .slice aG g cG]).below ((Below.refl _ _).alloc (Nat.le_refl _) _)).below ((Below.refl _ _).alloc (Nat.le_refl _) _)
  have R3 : Hid (Bk w0 (w.heap.size + 1) [.bool false, .slice none 0 0, .slice none 0 0]) := by rw [e0]; have := (bk_new (w.alloc (.cells #[.bool up, .slice aH n cH, .slice aG g cG] 27)) 35 [.bool false, .slice none 0 0, .slice none 0 0]).below ((Below.refl _ _).alloc (Nat.le_refl _) (.cells #[.bool up, .slice none 0 0, .slice none 0 0] 35)); rwa [show (w.alloc (.cells #[.bool up, .slice aH n cH, .slice aG g cG] 27)).heap.size = w.heap.size + 1 by simp] at this
  have O4 : Hid (Bk w0 (w.heap.size + 1 + 1) [.bool up, .slice none 0 0, .slice none 0 0]) := by rw [e0]; have := bk_new ((w.alloc (.cells #[.bool up, .slice aH n cH, .slice aG g cG] 27)).alloc (.cells #[.bool false, .slice none 0 0, .slice none 0 0] 35)) 35 [.bool up, .slice none 0 0, .slice none 0 0]; rwa [show ((w.alloc (.cells #[.bool up, .slice aH n cH, .slice aG g cG] 27)).alloc (.cells #[.bool false, .slice none 0 0, .slice none 0 0] 35)).heap.size = w.heap.size + 1 + 1 by simp] at this
  rw [← e0]
  clear e0
  have z0 : w.heap.size + 1 + 1 < w0.heap.size := O4.out.1
  refine (toHoldsC_any aH n cH F hn HS.out _ (HH.out.below B1.out)).mono ?_
  rintro e w1 ⟨rfl, ho1, hs1, hb1⟩
  have B5 : Hid (Below w.heap.size w w1) := bthen B1.out hb1
  have A5 : Hid (Bk w1 w.heap.size [.bool up, .slice aH n cH, .slice aG g cG]) := A2.out.below hb1
  have R5 : Hid (Bk w1 (w.heap.size + 1) [.bool false, .slice none 0 0, .slice none 0 0]) := R3.out.below hb1
  have O5 : Hid (Bk w1 (w.heap.size + 1 + 1) [.bool up, .slice none 0 0, .slice none 0 0]) := O4.out.below hb1
  clear B1 A2 R3 O4
  have H1 : Hid (HOwC w1 w0.heap.size n F n) := ho1
  clear ho1 hb1
  obtain ⟨B, eB⟩ : ∃ B, B = w0.heap.size := ⟨_, rfl⟩
  rw [← eB] at z0 hs1 H1 ⊢
  clear eB
  have yO0 : w1.cell? ⟨(w.heap.size + 1 + 1), 0, none⟩ = some (.bool up) := (O5.out.2 0 (by simp)).1
  have zO0 : w1.frozen? ⟨(w.heap.size + 1 + 1), 0, none⟩ = false := (O5.out.2 0 (by simp)).2
  have yO1 : w1.cell? ⟨(w.heap.size + 1 + 1), 1, none⟩ = some (.slice none 0 0) := (O5.out.2 1 (by simp)).1
  have zO1 : w1.frozen? ⟨(w.heap.size + 1 + 1), 1, none⟩ = false := (O5.out.2 1 (by simp)).2
  have yO2 : w1.cell? ⟨(w.heap.size + 1 + 1), 2, none⟩ = some (.slice none 0 0) := (O5.out.2 2 (by simp)).1
  have zO2 : w1.frozen? ⟨(w.heap.size + 1 + 1), 2, none⟩ = false := (O5.out.2 2 (by simp)).2
  have hlO : (w.heap.size + 1 + 1) < w1.heap.size := O5.out.1
  have yA0 : w1.cell? ⟨w.heap.size, 0, none⟩ = some (.bool up) := (A5.out.2 0 (by simp)).1
  have yA1 : w1.cell? ⟨w.heap.size, 1, none⟩ = some (.slice aH n cH) := (A5.out.2 1 (by simp)).1
  have yA2 : w1.cell? ⟨w.heap.size, 2, none⟩ = some (.slice aG g cG) := (A5.out.2 2 (by simp)).1
  have hlA : w.heap.size < w1.heap.size := A5.out.1
  go_wp2_with fail
  obtain ⟨v1, ev1⟩ : ∃ v, v = w1.setCell ⟨w.heap.size + 1 + 1, 1, none⟩ (.slice (some ⟨B, 0, none⟩) n n) := ⟨_, rfl⟩
  clear yO0 zO0 yO1 zO1 yO2 zO2 hlO yA0 yA1 yA2 hlA
  have nB : Hid (Below w.heap.size w v1) := by rw [ev1]; exact B5.out.setCell (by show w.heap.size ≤ w.heap.size + 1 + 1; omega) _
  have nA : Hid (Bk v1 w.heap.size [.bool up, .slice aH n cH, .slice aG g cG]) := by rw [ev1]; exact A5.out.far (by omega)
  have nR : Hid (Bk v1 (w.heap.size + 1) [.bool false, .slice none 0 0, .slice none 0 0]) := by rw [ev1]; exact R5.out.far (by omega)
  have nO : Hid (Bk v1 (w.heap.size + 1 + 1) [.bool up, .slice (some ⟨B, 0, none⟩) n n, .slice none 0 0]) := by rw [ev1]; exact O5.out.set (j := 1) (by simp)
  have nH : Hid (HOwC v1 B n F n) := by rw [ev1]; exact H1.out.far (by omega)
  have hs2 : B < v1.heap.size := by rw [ev1, set_size]; exact hs1
  rw [← ev1]
  clear ev1 B5 A5 R5 O5 H1
  refine (P7.toList_any aG g cG Z hg _ (P7.row_below HG.out nB.out)).mono ?_
  rintro e w2 ⟨rfl, ho2, hs3, hb2⟩
  have B6 : Hid (Below w.heap.size w w2) := bthen nB.out hb2
  have A6 : Hid (Bk w2 w.heap.size [.bool up, .slice aH n cH, .slice aG g cG]) := nA.out.below hb2
  have R6 : Hid (Bk w2 (w.heap.size + 1) [.bool false, .slice none 0 0, .slice none 0 0]) := nR.out.below hb2
  have O6 : Hid (Bk w2 (w.heap.size + 1 + 1) [.bool up, .slice (some ⟨B, 0, none⟩) n n, .slice none 0 0]) := nO.out.below hb2
  clear nB nA nR nO
  have H2 : Hid (HOwC w2 B n F n) := nH.out.below hs2 hb2
  have G2 : Hid (P7.OwnK w2 v1.heap.size g Z g) := ho2
  have hs4 : B < w2.heap.size := Nat.lt_of_lt_of_le hs2 hb2.size
  clear ho2 hb2 nH
  obtain ⟨G, eG⟩ : ∃ G, G = v1.heap.size := ⟨_, rfl⟩
  rw [← eG] at hs2 hs3 G2 ⊢
  clear eG hs1
  have yO0 : w2.cell? ⟨(w.heap.size + 1 + 1), 0, none⟩ = some (.bool up) := (O6.out.2 0 (by simp)).1
  have zO0 : w2.frozen? ⟨(w.heap.size + 1 + 1), 0, none⟩ = false := (O6.out.2 0 (by simp)).2
  have yO1 : w2.cell? ⟨(w.heap.size + 1 + 1), 1, none⟩ = some (.slice (some ⟨B, 0, none⟩) n n) := (O6.out.2 1 (by simp)).1
  have zO1 : w2.frozen? ⟨(w.heap.size + 1 + 1), 1, none⟩ = false := (O6.out.2 1 (by simp)).2
  have yO2 : w2.cell? ⟨(w.heap.size + 1 + 1), 2, none⟩ = some (.slice none 0 0) := (O6.out.2 2 (by simp)).1
  have zO2 : w2.frozen? ⟨(w.heap.size + 1 + 1), 2, none⟩ = false := (O6.out.2 2 (by simp)).2
  have hlO : (w.heap.size + 1 + 1) < w2.heap.size := O6.out.1
  have yR0 : w2.cell? ⟨(w.heap.size + 1), 0, none⟩ = some (.bool false) := (R6.out.2 0 (by simp)).1
  have zR0 : w2.frozen? ⟨(w.heap.size + 1), 0, none⟩ = false := (R6.out.2 0 (by simp)).2
  have yR1 : w2.cell? ⟨(w.heap.size + 1), 1, none⟩ = some (.slice none 0 0) := (R6.out.2 1 (by simp)).1
  have zR1 : w2.frozen? ⟨(w.heap.size + 1), 1, none⟩ = false := (R6.out.2 1 (by simp)).2
  have yR2 : w2.cell? ⟨(w.heap.size + 1), 2, none⟩ = some (.slice none 0 0) := (R6.out.2 2 (by simp)).1
  have zR2 : w2.frozen? ⟨(w.heap.size + 1), 2, none⟩ = false := (R6.out.2 2 (by simp)).2
  have hlR : (w.heap.size + 1) < w2.heap.size := R6.out.1
  go_wp2
  refine bodyPost_ret (v := .agg #[.bool up, .slice (some ⟨B, 0, none⟩) n n, .slice (some ⟨G, 0, none⟩) g g]) (by simp [results, Try.results8, go_sem, *]) rfl ?_
  exact ⟨⟨B, G, rfl, ((((H2.out.far (O := w.heap.size + 1 + 1) (by omega)).far (O := w.heap.size + 1) (by omega)).far (O := w.heap.size + 1) (by omega)).far (O := w.heap.size + 1) (by omega)), (P7.own_far (P7.own_far (P7.own_far (P7.own_far G2.out (O := w.heap.size + 1 + 1) (by omega)) (O := w.heap.size + 1) (by omega)) (O := w.heap.size + 1) (by omega)) (O := w.heap.size + 1) (by omega)), by simpa [World.setCell] using hs4, by simpa [World.setCell] using hs3, by omega, by omega⟩, ((((B6.out.setCell (by show w.heap.size ≤ w.heap.size + 1 + 1; omega) _).setCell (by show w.heap.size ≤ w.heap.size + 1; omega) _).setCell (by show w.heap.size ≤ w.heap.size + 1; omega) _).setCell (by show w.heap.size ≤ w.heap.size + 1; omega) _)⟩
end Go.Proofs.Ytlbjgecjonegkaa
