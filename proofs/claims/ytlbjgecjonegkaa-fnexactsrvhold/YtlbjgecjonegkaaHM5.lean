/- SrvOk of the model: SrvHold; copies and marks of holds; conditions: the holds and ghosts lie in memory. -/
import Derived.Test.YtlbjgecjonegkaaHM4
namespace Go.Proofs.Ytlbjgecjonegkaa
open Go.RowKit Go.Deep
set_option linter.unusedVariables false

/-- A hold whose cell's lists are the call's own. -/
def OwnH (lo hi : Nat) (w : World) (v : Value) (X : HV) : Prop :=
  ∃ x1 x2 x3 x4, v = .agg #[.int .i64 X.ag, .int .i64 X.ct, .int .i64 X.V.c, x1, .int .i64 X.V.g, x2, x3, x4] ∧ OwnC lo hi w (.agg #[.int .i64 X.V.c, x1, .int .i64 X.V.g, x2, x3, x4]) X.V
theorem OwnH.sm {lo hi : Nat} {w w' : World} {v : Value} {X : HV} (h : OwnH lo hi w v X) (hs : w.heap.size ≤ w'.heap.size) (k : ∀ b, lo ≤ b → b < hi → Sm w w' b) : OwnH lo hi w' v X := by
  obtain ⟨x1, x2, x3, x4, e, h⟩ := h
  exact ⟨x1, x2, x3, x4, e, h.sm hs k⟩
theorem OwnH.below {lo hi : Nat} {w w' : World} {v : Value} {X : HV} (h : OwnH lo hi w v X) (hh : hi ≤ w.heap.size) (hb : Below w.heap.size w w') : OwnH lo hi w' v X :=
  h.sm hb.size (fun b _ hb' => sm_below hb (Nat.lt_of_lt_of_le hb' hh))
theorem OwnH.at {lo hi : Nat} {w : World} {v : Value} {X : HV} (h : OwnH lo hi w v X) : HoldAt w v X.ag X.ct X.V := by
  obtain ⟨x1, x2, x3, x4, rfl, h⟩ := h
  obtain ⟨aW, kW, aO, kO, aX, kX, aI, kI, e, r1, r2, r3, r4⟩ := h.at
  simp only [Value.agg.injEq, Array.mk.injEq, List.cons.injEq, and_true, true_and] at e
  obtain ⟨rfl, rfl, rfl, rfl⟩ := e
  exact ⟨aW, kW, aO, kO, aX, kX, aI, kI, rfl, r1, r2, r3, r4⟩
theorem ownC_wide {lo hi lo' hi' : Nat} {w : World} {v : Value} {V : CV} (h : OwnC lo hi w v V) (h1 : lo' ≤ lo) (h2 : hi ≤ hi') (h3 : hi' ≤ w.heap.size) : OwnC lo' hi' w v V := by
  obtain ⟨vW, vO, vX, vI, gW, gO, gX, gI, sl, xs, e, rW, rO, rX, rI, hd, hx1, hx2⟩ := h
  have wI : ∀ {v : Value} {n : Nat} {X : Nat → Int} {g : Nat}, RI lo hi w v n X g → RI lo' hi' w v n X g := fun r => by
    rcases r with r | ⟨c, a1, a2, a3, a4, a5⟩
    · exact .inl r
    · exact .inr ⟨c, a1, by omega, by omega, h3, a5⟩
  have wP : ∀ {v : Value} {n : Nat} {Z : Nat → Nat → Int} {g : Nat}, RP lo hi w v n Z g → RP lo' hi' w v n Z g := fun r => by
    rcases r with r | ⟨c, a1, a2, a3, a4, a5⟩
    · exact .inl r
    · exact .inr ⟨c, a1, by omega, by omega, h3, a5⟩
  refine ⟨vW, vO, vX, vI, gW, gO, gX, gI, sl, xs, e, ?_, ?_, wI rX, wI rI, hd, hx1, hx2⟩
  · rcases rW with r | ⟨c, a1, a2, a3, a4, a5⟩
    · exact .inl r
    · exact .inr ⟨c, a1, by omega, by omega, h3, a5⟩
  · rcases rO with r | ⟨c, a1, a2, a3, a4, a5⟩
    · exact .inl r
    · exact .inr ⟨c, a1, by omega, by omega, h3, fun k hk => ⟨(a5 k hk).1, wP (a5 k hk).2⟩⟩
def hz0 : HV := ⟨0, 0, ⟨0, 0, fun _ _ => 0, 0, 0, fun _ => 0, fun _ _ _ => 0, 0, fun _ => 0, 0, fun _ => 0⟩⟩
theorem ownH_zero (lo hi : Nat) (w : World) : OwnH lo hi w (.agg #[.int .i64 0, .int .i64 0, .int .i64 0, .slice none 0 0, .int .i64 0, .slice none 0 0, .slice none 0 0, .slice none 0 0]) hz0 :=
  ⟨_, _, _, _, rfl, .slice none 0 0, .slice none 0 0, .slice none 0 0, .slice none 0 0, 0, 1, 2, 3, fun _ => undef, fun _ => 0, rfl, .inl ⟨rfl, _, _, rfl⟩, .inl ⟨rfl, _, _, rfl⟩, .inl ⟨rfl, _, _, rfl⟩, .inl ⟨rfl, _, _, rfl⟩, ⟨by omega, by omega, by omega, by omega, by omega, by omega⟩, fun k hk => absurd hk (Nat.not_lt_zero _), fun i j hi _ _ => absurd hi (Nat.not_lt_zero _)⟩

set_option maxHeartbeats 4000000 in
theorem copy_spec (v : Value) (X : HV) (lo : Nat) (hs : X.V.short 1048576) (w : World) (h : HCopy lo w v X.ag X.ct X.V) :
    Calls Try.prog 29 #[v] w fun e w' => (∃ v', e = .returned v' ∧ OwnH w.heap.size w'.heap.size w' v' X) ∧ Below w.heap.size w w' := by
  obtain ⟨bW, bO, bX, bI, rfl, hC⟩ := h
  have HC : Hid (CopyAt lo w (.agg #[.int .i64 X.V.c, .slice (some ⟨bW, 0, none⟩) X.V.nW X.V.nW, .int .i64 X.V.g, .slice (some ⟨bO, 0, none⟩) X.V.nO X.V.nO, .slice (some ⟨bX, 0, none⟩) X.V.nX X.V.nX, .slice (some ⟨bI, 0, none⟩) X.V.nI X.V.nI]) X.V) := hC
  clear hC
  go_enter Try.func29, Try.ntmps29
  go_wp2_with fail
  obtain ⟨w0, e0⟩ : ∃ w0, w0 = (w.alloc (.cells #[.int .i64 X.ag, .int .i64 X.ct, .int .i64 X.V.c, .slice (some ⟨bW, 0, none⟩) X.V.nW X.V.nW, .int .i64 X.V.g, .slice (some ⟨bO, 0, none⟩) X.V.nO X.V.nO, .slice (some ⟨bX, 0, none⟩) X.V.nX X.V.nX, .slice (some ⟨bI, 0, none⟩) X.V.nI X.V.nI] 45)).alloc (.cells #[.int .i64 0, .int .i64 0, .int .i64 0, .slice none 0 0, .int .i64 0, .slice none 0 0, .slice none 0 0, .slice none 0 0] 45) := ⟨_, rfl⟩
  have B1 : Hid (Below w.heap.size w w0) := by rw [e0]; exact ((Below.refl _ _).alloc (by simp) _).alloc (by simp) _
  have P2 : Hid (Bk w0 w.heap.size [.int .i64 X.ag, .int .i64 X.ct, .int .i64 X.V.c, .slice (some ⟨bW, 0, none⟩) X.V.nW X.V.nW, .int .i64 X.V.g, .slice (some ⟨bO, 0, none⟩) X.V.nO X.V.nO, .slice (some ⟨bX, 0, none⟩) X.V.nX X.V.nX, .slice (some ⟨bI, 0, none⟩) X.V.nI X.V.nI]) := by rw [e0]; exact (bk_new w 45 [.int .i64 X.ag, .int .i64 X.ct, .int .i64 X.V.c, .slice (some ⟨bW, 0, none⟩) X.V.nW X.V.nW, .int .i64 X.V.g, .slice (some ⟨bO, 0, none⟩) X.V.nO X.V.nO, .slice (some ⟨bX, 0, none⟩) X.V.nX X.V.nX, .slice (some ⟨bI, 0, none⟩) X.V.nI X.V.nI]).below ((Below.refl _ _).alloc (Nat.le_refl _) _)
  have R3 : Hid (Bk w0 (w.heap.size + 1) [.int .i64 0, .int .i64 0, .int .i64 0, .slice none 0 0, .int .i64 0, .slice none 0 0, .slice none 0 0, .slice none 0 0]) := by rw [e0]; have := bk_new (w.alloc (.cells #[.int .i64 X.ag, .int .i64 X.ct, .int .i64 X.V.c, .slice (some ⟨bW, 0, none⟩) X.V.nW X.V.nW, .int .i64 X.V.g, .slice (some ⟨bO, 0, none⟩) X.V.nO X.V.nO, .slice (some ⟨bX, 0, none⟩) X.V.nX X.V.nX, .slice (some ⟨bI, 0, none⟩) X.V.nI X.V.nI] 45)) 45 [.int .i64 0, .int .i64 0, .int .i64 0, .slice none 0 0, .int .i64 0, .slice none 0 0, .slice none 0 0, .slice none 0 0]; rwa [show (w.alloc (.cells #[.int .i64 X.ag, .int .i64 X.ct, .int .i64 X.V.c, .slice (some ⟨bW, 0, none⟩) X.V.nW X.V.nW, .int .i64 X.V.g, .slice (some ⟨bO, 0, none⟩) X.V.nO X.V.nO, .slice (some ⟨bX, 0, none⟩) X.V.nX X.V.nX, .slice (some ⟨bI, 0, none⟩) X.V.nI X.V.nI] 45)).heap.size = w.heap.size + 1 by simp] at this
  rw [← e0]
  clear e0
  have z0 : w.heap.size + 1 < w0.heap.size := R3.out.1
  refine (copyC_spec _ X.V lo hs _ (HC.out.below B1.out)).mono ?_
  rintro e w1 ⟨⟨v1, rfl, hO⟩, hb1⟩
  obtain ⟨aW, kW, aO, kO, aX, kX, aI, kI, rfl, _, _, _, _⟩ := hO.at
  have OC : Hid (OwnC w0.heap.size w1.heap.size w1 (.agg #[.int .i64 X.V.c, .slice aW X.V.nW kW, .int .i64 X.V.g, .slice aO X.V.nO kO, .slice aX X.V.nX kX, .slice aI X.V.nI kI]) X.V) := hO
  clear hO
  have B4 : Hid (Below w.heap.size w w1) := bthen B1.out hb1
  have P4 : Hid (Bk w1 w.heap.size [.int .i64 X.ag, .int .i64 X.ct, .int .i64 X.V.c, .slice (some ⟨bW, 0, none⟩) X.V.nW X.V.nW, .int .i64 X.V.g, .slice (some ⟨bO, 0, none⟩) X.V.nO X.V.nO, .slice (some ⟨bX, 0, none⟩) X.V.nX X.V.nX, .slice (some ⟨bI, 0, none⟩) X.V.nI X.V.nI]) := P2.out.below hb1
  have R4 : Hid (Bk w1 (w.heap.size + 1) [.int .i64 0, .int .i64 0, .int .i64 0, .slice none 0 0, .int .i64 0, .slice none 0 0, .slice none 0 0, .slice none 0 0]) := R3.out.below hb1
  clear B1 P2 R3
  have z1 := hb1.size
  clear hb1
  have yP0 : w1.cell? ⟨w.heap.size, 0, none⟩ = some (.int .i64 X.ag) := (P4.out.2 0 (by simp)).1
  have zP0 : w1.frozen? ⟨w.heap.size, 0, none⟩ = false := (P4.out.2 0 (by simp)).2
  have yP1 : w1.cell? ⟨w.heap.size, 1, none⟩ = some (.int .i64 X.ct) := (P4.out.2 1 (by simp)).1
  have zP1 : w1.frozen? ⟨w.heap.size, 1, none⟩ = false := (P4.out.2 1 (by simp)).2
  have yP2 : w1.cell? ⟨w.heap.size, 2, none⟩ = some (.int .i64 X.V.c) := (P4.out.2 2 (by simp)).1
  have zP2 : w1.frozen? ⟨w.heap.size, 2, none⟩ = false := (P4.out.2 2 (by simp)).2
  have yP3 : w1.cell? ⟨w.heap.size, 3, none⟩ = some (.slice (some ⟨bW, 0, none⟩) X.V.nW X.V.nW) := (P4.out.2 3 (by simp)).1
  have zP3 : w1.frozen? ⟨w.heap.size, 3, none⟩ = false := (P4.out.2 3 (by simp)).2
  have yP4 : w1.cell? ⟨w.heap.size, 4, none⟩ = some (.int .i64 X.V.g) := (P4.out.2 4 (by simp)).1
  have zP4 : w1.frozen? ⟨w.heap.size, 4, none⟩ = false := (P4.out.2 4 (by simp)).2
  have yP5 : w1.cell? ⟨w.heap.size, 5, none⟩ = some (.slice (some ⟨bO, 0, none⟩) X.V.nO X.V.nO) := (P4.out.2 5 (by simp)).1
  have zP5 : w1.frozen? ⟨w.heap.size, 5, none⟩ = false := (P4.out.2 5 (by simp)).2
  have yP6 : w1.cell? ⟨w.heap.size, 6, none⟩ = some (.slice (some ⟨bX, 0, none⟩) X.V.nX X.V.nX) := (P4.out.2 6 (by simp)).1
  have zP6 : w1.frozen? ⟨w.heap.size, 6, none⟩ = false := (P4.out.2 6 (by simp)).2
  have yP7 : w1.cell? ⟨w.heap.size, 7, none⟩ = some (.slice (some ⟨bI, 0, none⟩) X.V.nI X.V.nI) := (P4.out.2 7 (by simp)).1
  have zP7 : w1.frozen? ⟨w.heap.size, 7, none⟩ = false := (P4.out.2 7 (by simp)).2
  have hlP : w.heap.size < w1.heap.size := P4.out.1
  have yR0 : w1.cell? ⟨(w.heap.size + 1), 0, none⟩ = some (.int .i64 0) := (R4.out.2 0 (by simp)).1
  have zR0 : w1.frozen? ⟨(w.heap.size + 1), 0, none⟩ = false := (R4.out.2 0 (by simp)).2
  have yR1 : w1.cell? ⟨(w.heap.size + 1), 1, none⟩ = some (.int .i64 0) := (R4.out.2 1 (by simp)).1
  have zR1 : w1.frozen? ⟨(w.heap.size + 1), 1, none⟩ = false := (R4.out.2 1 (by simp)).2
  have yR2 : w1.cell? ⟨(w.heap.size + 1), 2, none⟩ = some (.int .i64 0) := (R4.out.2 2 (by simp)).1
  have zR2 : w1.frozen? ⟨(w.heap.size + 1), 2, none⟩ = false := (R4.out.2 2 (by simp)).2
  have yR3 : w1.cell? ⟨(w.heap.size + 1), 3, none⟩ = some (.slice none 0 0) := (R4.out.2 3 (by simp)).1
  have zR3 : w1.frozen? ⟨(w.heap.size + 1), 3, none⟩ = false := (R4.out.2 3 (by simp)).2
  have yR4 : w1.cell? ⟨(w.heap.size + 1), 4, none⟩ = some (.int .i64 0) := (R4.out.2 4 (by simp)).1
  have zR4 : w1.frozen? ⟨(w.heap.size + 1), 4, none⟩ = false := (R4.out.2 4 (by simp)).2
  have yR5 : w1.cell? ⟨(w.heap.size + 1), 5, none⟩ = some (.slice none 0 0) := (R4.out.2 5 (by simp)).1
  have zR5 : w1.frozen? ⟨(w.heap.size + 1), 5, none⟩ = false := (R4.out.2 5 (by simp)).2
  have yR6 : w1.cell? ⟨(w.heap.size + 1), 6, none⟩ = some (.slice none 0 0) := (R4.out.2 6 (by simp)).1
  have zR6 : w1.frozen? ⟨(w.heap.size + 1), 6, none⟩ = false := (R4.out.2 6 (by simp)).2
  have yR7 : w1.cell? ⟨(w.heap.size + 1), 7, none⟩ = some (.slice none 0 0) := (R4.out.2 7 (by simp)).1
  have zR7 : w1.frozen? ⟨(w.heap.size + 1), 7, none⟩ = false := (R4.out.2 7 (by simp)).2
  have hlR : (w.heap.size + 1) < w1.heap.size := R4.out.1
  go_wp2
  refine bodyPost_ret (v := .agg #[.int .i64 X.ag, .int .i64 X.ct, .int .i64 X.V.c, .slice aW X.V.nW kW, .int .i64 X.V.g, .slice aO X.V.nO kO, .slice aX X.V.nX kX, .slice aI X.V.nI kI]) (by simp [results, Try.results29, go_sem, *]) rfl ?_
  exact ⟨⟨_, rfl, _, _, _, _, rfl, ownC_wide (ownC_set (ownC_set (ownC_set (ownC_set (ownC_set (ownC_set (ownC_set (ownC_set (ownC_set (ownC_set (ownC_set (ownC_set (ownC_set (ownC_set OC.out (by omega)) (by omega)) (by omega)) (by omega)) (by omega)) (by omega)) (by omega)) (by omega)) (by omega)) (by omega)) (by omega)) (by omega)) (by omega)) (by omega)) (by omega) (by simp [World.setCell]) (Nat.le_refl _)⟩, ((((((((((((((B4.out.setCell (by first | (show w.heap.size ≤ w.heap.size; omega) | (show w.heap.size ≤ w.heap.size + 1; omega)) _).setCell (by first | (show w.heap.size ≤ w.heap.size; omega) | (show w.heap.size ≤ w.heap.size + 1; omega)) _).setCell (by first | (show w.heap.size ≤ w.heap.size; omega) | (show w.heap.size ≤ w.heap.size + 1; omega)) _).setCell (by first | (show w.heap.size ≤ w.heap.size; omega) | (show w.heap.size ≤ w.heap.size + 1; omega)) _).setCell (by first | (show w.heap.size ≤ w.heap.size; omega) | (show w.heap.size ≤ w.heap.size + 1; omega)) _).setCell (by first | (show w.heap.size ≤ w.heap.size; omega) | (show w.heap.size ≤ w.heap.size + 1; omega)) _).setCell (by first | (show w.heap.size ≤ w.heap.size; omega) | (show w.heap.size ≤ w.heap.size + 1; omega)) _).setCell (by first | (show w.heap.size ≤ w.heap.size; omega) | (show w.heap.size ≤ w.heap.size + 1; omega)) _).setCell (by first | (show w.heap.size ≤ w.heap.size; omega) | (show w.heap.size ≤ w.heap.size + 1; omega)) _).setCell (by first | (show w.heap.size ≤ w.heap.size; omega) | (show w.heap.size ≤ w.heap.size + 1; omega)) _).setCell (by first | (show w.heap.size ≤ w.heap.size; omega) | (show w.heap.size ≤ w.heap.size + 1; omega)) _).setCell (by first | (show w.heap.size ≤ w.heap.size; omega) | (show w.heap.size ≤ w.heap.size + 1; omega)) _).setCell (by first | (show w.heap.size ≤ w.heap.size; omega) | (show w.heap.size ≤ w.heap.size + 1; omega)) _).setCell (by first | (show w.heap.size ≤ w.heap.size; omega) | (show w.heap.size ≤ w.heap.size + 1; omega)) _)⟩

set_option maxHeartbeats 4000000 in
theorem copy_impl (v : Value) (X : HV) (lo : Nat) (hs : X.V.short 1048576) (w : World) (h : HCopy lo w v X.ag X.ct X.V) :
    Calls Try.prog 30 #[v] w fun e w' => (∃ v', e = .returned v' ∧ OwnH w.heap.size w'.heap.size w' v' X) ∧ Below w.heap.size w w' := by
  obtain ⟨bW, bO, bX, bI, rfl, hC⟩ := h
  have HC : Hid (CopyAt lo w (.agg #[.int .i64 X.V.c, .slice (some ⟨bW, 0, none⟩) X.V.nW X.V.nW, .int .i64 X.V.g, .slice (some ⟨bO, 0, none⟩) X.V.nO X.V.nO, .slice (some ⟨bX, 0, none⟩) X.V.nX X.V.nX, .slice (some ⟨bI, 0, none⟩) X.V.nI X.V.nI]) X.V) := hC
  clear hC
  go_enter Try.func30, Try.ntmps30
  go_wp2
  obtain ⟨w0, e0⟩ : ∃ w0, w0 = (w.alloc (.cells #[.int .i64 X.ag, .int .i64 X.ct, .int .i64 X.V.c, .slice (some ⟨bW, 0, none⟩) X.V.nW X.V.nW, .int .i64 X.V.g, .slice (some ⟨bO, 0, none⟩) X.V.nO X.V.nO, .slice (some ⟨bX, 0, none⟩) X.V.nX X.V.nX, .slice (some ⟨bI, 0, none⟩) X.V.nI X.V.nI] 45)).alloc (.cells #[.int .i64 0, .int .i64 0, .int .i64 0, .slice none 0 0, .int .i64 0, .slice none 0 0, .slice none 0 0, .slice none 0 0] 45) := ⟨_, rfl⟩
  have B1 : Hid (Below w.heap.size w w0) := by rw [e0]; exact ((Below.refl _ _).alloc (by simp) _).alloc (by simp) _
  have P2 : Hid (Bk w0 w.heap.size [.int .i64 X.ag, .int .i64 X.ct, .int .i64 X.V.c, .slice (some ⟨bW, 0, none⟩) X.V.nW X.V.nW, .int .i64 X.V.g, .slice (some ⟨bO, 0, none⟩) X.V.nO X.V.nO, .slice (some ⟨bX, 0, none⟩) X.V.nX X.V.nX, .slice (some ⟨bI, 0, none⟩) X.V.nI X.V.nI]) := by rw [e0]; exact (bk_new w 45 [.int .i64 X.ag, .int .i64 X.ct, .int .i64 X.V.c, .slice (some ⟨bW, 0, none⟩) X.V.nW X.V.nW, .int .i64 X.V.g, .slice (some ⟨bO, 0, none⟩) X.V.nO X.V.nO, .slice (some ⟨bX, 0, none⟩) X.V.nX X.V.nX, .slice (some ⟨bI, 0, none⟩) X.V.nI X.V.nI]).below ((Below.refl _ _).alloc (Nat.le_refl _) _)
  have R3 : Hid (Bk w0 (w.heap.size + 1) [.int .i64 0, .int .i64 0, .int .i64 0, .slice none 0 0, .int .i64 0, .slice none 0 0, .slice none 0 0, .slice none 0 0]) := by rw [e0]; have := bk_new (w.alloc (.cells #[.int .i64 X.ag, .int .i64 X.ct, .int .i64 X.V.c, .slice (some ⟨bW, 0, none⟩) X.V.nW X.V.nW, .int .i64 X.V.g, .slice (some ⟨bO, 0, none⟩) X.V.nO X.V.nO, .slice (some ⟨bX, 0, none⟩) X.V.nX X.V.nX, .slice (some ⟨bI, 0, none⟩) X.V.nI X.V.nI] 45)) 45 [.int .i64 0, .int .i64 0, .int .i64 0, .slice none 0 0, .int .i64 0, .slice none 0 0, .slice none 0 0, .slice none 0 0]; rwa [show (w.alloc (.cells #[.int .i64 X.ag, .int .i64 X.ct, .int .i64 X.V.c, .slice (some ⟨bW, 0, none⟩) X.V.nW X.V.nW, .int .i64 X.V.g, .slice (some ⟨bO, 0, none⟩) X.V.nO X.V.nO, .slice (some ⟨bX, 0, none⟩) X.V.nX X.V.nX, .slice (some ⟨bI, 0, none⟩) X.V.nI X.V.nI] 45)).heap.size = w.heap.size + 1 by simp] at this
  rw [← e0]
  clear e0
  have z0 : w.heap.size + 1 < w0.heap.size := R3.out.1
  have yP0 : w0.cell? ⟨w.heap.size, 0, none⟩ = some (.int .i64 X.ag) := (P2.out.2 0 (by simp)).1
  have zP0 : w0.frozen? ⟨w.heap.size, 0, none⟩ = false := (P2.out.2 0 (by simp)).2
  have yP1 : w0.cell? ⟨w.heap.size, 1, none⟩ = some (.int .i64 X.ct) := (P2.out.2 1 (by simp)).1
  have zP1 : w0.frozen? ⟨w.heap.size, 1, none⟩ = false := (P2.out.2 1 (by simp)).2
  have yP2 : w0.cell? ⟨w.heap.size, 2, none⟩ = some (.int .i64 X.V.c) := (P2.out.2 2 (by simp)).1
  have zP2 : w0.frozen? ⟨w.heap.size, 2, none⟩ = false := (P2.out.2 2 (by simp)).2
  have yP3 : w0.cell? ⟨w.heap.size, 3, none⟩ = some (.slice (some ⟨bW, 0, none⟩) X.V.nW X.V.nW) := (P2.out.2 3 (by simp)).1
  have zP3 : w0.frozen? ⟨w.heap.size, 3, none⟩ = false := (P2.out.2 3 (by simp)).2
  have yP4 : w0.cell? ⟨w.heap.size, 4, none⟩ = some (.int .i64 X.V.g) := (P2.out.2 4 (by simp)).1
  have zP4 : w0.frozen? ⟨w.heap.size, 4, none⟩ = false := (P2.out.2 4 (by simp)).2
  have yP5 : w0.cell? ⟨w.heap.size, 5, none⟩ = some (.slice (some ⟨bO, 0, none⟩) X.V.nO X.V.nO) := (P2.out.2 5 (by simp)).1
  have zP5 : w0.frozen? ⟨w.heap.size, 5, none⟩ = false := (P2.out.2 5 (by simp)).2
  have yP6 : w0.cell? ⟨w.heap.size, 6, none⟩ = some (.slice (some ⟨bX, 0, none⟩) X.V.nX X.V.nX) := (P2.out.2 6 (by simp)).1
  have zP6 : w0.frozen? ⟨w.heap.size, 6, none⟩ = false := (P2.out.2 6 (by simp)).2
  have yP7 : w0.cell? ⟨w.heap.size, 7, none⟩ = some (.slice (some ⟨bI, 0, none⟩) X.V.nI X.V.nI) := (P2.out.2 7 (by simp)).1
  have zP7 : w0.frozen? ⟨w.heap.size, 7, none⟩ = false := (P2.out.2 7 (by simp)).2
  have hlP : w.heap.size < w0.heap.size := P2.out.1
  have yR0 : w0.cell? ⟨(w.heap.size + 1), 0, none⟩ = some (.int .i64 0) := (R3.out.2 0 (by simp)).1
  have zR0 : w0.frozen? ⟨(w.heap.size + 1), 0, none⟩ = false := (R3.out.2 0 (by simp)).2
  have yR1 : w0.cell? ⟨(w.heap.size + 1), 1, none⟩ = some (.int .i64 0) := (R3.out.2 1 (by simp)).1
  have zR1 : w0.frozen? ⟨(w.heap.size + 1), 1, none⟩ = false := (R3.out.2 1 (by simp)).2
  have yR2 : w0.cell? ⟨(w.heap.size + 1), 2, none⟩ = some (.int .i64 0) := (R3.out.2 2 (by simp)).1
  have zR2 : w0.frozen? ⟨(w.heap.size + 1), 2, none⟩ = false := (R3.out.2 2 (by simp)).2
  have yR3 : w0.cell? ⟨(w.heap.size + 1), 3, none⟩ = some (.slice none 0 0) := (R3.out.2 3 (by simp)).1
  have zR3 : w0.frozen? ⟨(w.heap.size + 1), 3, none⟩ = false := (R3.out.2 3 (by simp)).2
  have yR4 : w0.cell? ⟨(w.heap.size + 1), 4, none⟩ = some (.int .i64 0) := (R3.out.2 4 (by simp)).1
  have zR4 : w0.frozen? ⟨(w.heap.size + 1), 4, none⟩ = false := (R3.out.2 4 (by simp)).2
  have yR5 : w0.cell? ⟨(w.heap.size + 1), 5, none⟩ = some (.slice none 0 0) := (R3.out.2 5 (by simp)).1
  have zR5 : w0.frozen? ⟨(w.heap.size + 1), 5, none⟩ = false := (R3.out.2 5 (by simp)).2
  have yR6 : w0.cell? ⟨(w.heap.size + 1), 6, none⟩ = some (.slice none 0 0) := (R3.out.2 6 (by simp)).1
  have zR6 : w0.frozen? ⟨(w.heap.size + 1), 6, none⟩ = false := (R3.out.2 6 (by simp)).2
  have yR7 : w0.cell? ⟨(w.heap.size + 1), 7, none⟩ = some (.slice none 0 0) := (R3.out.2 7 (by simp)).1
  have zR7 : w0.frozen? ⟨(w.heap.size + 1), 7, none⟩ = false := (R3.out.2 7 (by simp)).2
  have hlR : (w.heap.size + 1) < w0.heap.size := R3.out.1
  refine wp_region_held_drew (S := fun w' => (∀ b o, b < w.heap.size + 1 → w'.cell? ⟨b, o, none⟩ = w0.cell? ⟨b, o, none⟩) ∧ w.heap.size + 1 ≤ w'.heap.size) (by kernel_rfl) ⟨fun _ _ _ => rfl, by show w.heap.size + 1 ≤ w0.heap.size; omega⟩ ?_
  intro hHeld
  refine wpAnyH_take (i := 0) (v := .pointer (some ⟨w.heap.size, 0, none⟩)) rfl (by kernel_rfl) (by kernel_rfl) (by kernel_rfl) (fun _ _ _ h => h) (Or.inl ⟨by rfl, ?_⟩) (by assumption) ?_
  · intro wx hSw; go_simp
  try simp only [Act.put, List.setIfInBounds_toArray, List.set_cons_zero, List.set_cons_succ, List.getElem_toArray, List.getElem_cons_zero]
  refine wpAnyH_take (i := 1) (v := .int .i64 X.ag) rfl (by kernel_rfl) (by kernel_rfl) (by kernel_rfl) (fun _ _ _ h => h) (Or.inl ⟨by rfl, ?_⟩) (by assumption) ?_
  · intro wx hSw; go_simp
  try simp only [Act.put, List.setIfInBounds_toArray, List.set_cons_zero, List.set_cons_succ, List.getElem_toArray, List.getElem_cons_zero, List.getElem_cons_succ]
  refine wpAnyH_take (i := 2) (v := .pointer (some ⟨w.heap.size, 1, none⟩)) rfl (by kernel_rfl) (by kernel_rfl) (by kernel_rfl) (fun _ _ _ h => h) (Or.inl ⟨by rfl, ?_⟩) (by assumption) ?_
  · intro wx hSw; go_simp
  try simp only [Act.put, List.setIfInBounds_toArray, List.set_cons_zero, List.set_cons_succ, List.getElem_toArray, List.getElem_cons_zero, List.getElem_cons_succ]
  refine wpAnyH_take (i := 3) (v := .int .i64 X.ct) rfl (by kernel_rfl) (by kernel_rfl) (by kernel_rfl) (fun _ _ _ h => h) (Or.inl ⟨by rfl, ?_⟩) (by assumption) ?_
  · intro wx hSw; go_simp
  try simp only [Act.put, List.setIfInBounds_toArray, List.set_cons_zero, List.set_cons_succ, List.getElem_toArray, List.getElem_cons_zero, List.getElem_cons_succ]
  refine wpAnyH_take (i := 4) (v := .pointer (some ⟨w.heap.size, 2, none⟩)) rfl (by kernel_rfl) (by kernel_rfl) (by kernel_rfl) (fun _ _ _ h => h) (Or.inl ⟨by rfl, ?_⟩) (by assumption) ?_
  · intro wx hSw; go_simp
  try simp only [Act.put, List.setIfInBounds_toArray, List.set_cons_zero, List.set_cons_succ, List.getElem_toArray, List.getElem_cons_zero, List.getElem_cons_succ]
  refine wpAnyH_take (i := 5) (v := .agg #[.int .i64 X.V.c, .slice (some ⟨bW, 0, none⟩) X.V.nW X.V.nW, .int .i64 X.V.g, .slice (some ⟨bO, 0, none⟩) X.V.nO X.V.nO, .slice (some ⟨bX, 0, none⟩) X.V.nX X.V.nX, .slice (some ⟨bI, 0, none⟩) X.V.nI X.V.nI]) rfl (by kernel_rfl) (by kernel_rfl) (by kernel_rfl) (fun _ _ _ h => h) (Or.inl ⟨by rfl, ?_⟩) (by assumption) ?_
  · intro wx hSw; go_simp
  try simp only [Act.put, List.setIfInBounds_toArray, List.set_cons_zero, List.set_cons_succ, List.getElem_toArray, List.getElem_cons_zero, List.getElem_cons_succ]
  refine wpAnyH_ready (rs := [6]) (by kernel_rfl) (by simp) ?_
  refine AllReadyH.cons rfl (fun K hK => ?_) AllReadyH.nil
  go_simp
  go_wp2_with fail
  refine (copyC _ X.V lo hs _ (HC.out.below (bthen B1.out Below.drewB))).mono ?_
  rintro e w1 ⟨⟨v1, rfl, hO⟩, hb1⟩
  obtain ⟨aW, kW, aO, kO, aX, kX, aI, kI, rfl, _, _, _, _⟩ := hO.at
  have OC : Hid (OwnC w0.heap.size w1.heap.size w1 (.agg #[.int .i64 X.V.c, .slice aW X.V.nW kW, .int .i64 X.V.g, .slice aO X.V.nO kO, .slice aX X.V.nX kX, .slice aI X.V.nI kI]) X.V) := hO
  clear hO
  refine hK.out _ _ (keepS (by assumption) hb1) (fun hNew => ?_)
  clear hK K hHeld
  have hHeld := hNew
  clear hNew
  try simp only [Act.put, List.setIfInBounds_toArray, List.set_cons_zero, List.set_cons_succ, List.getElem_toArray, List.getElem_cons_zero, List.getElem_cons_succ]
  refine wpAnyH_take (i := 7) (v := .agg #[.int .i64 X.ag, .int .i64 X.ct, .int .i64 X.V.c, .slice aW X.V.nW kW, .int .i64 X.V.g, .slice aO X.V.nO kO, .slice aX X.V.nX kX, .slice aI X.V.nI kI]) rfl (by kernel_rfl) (by kernel_rfl) (by kernel_rfl) (fun _ _ _ h => h) (Or.inl ⟨by rfl, ?_⟩) (by assumption) ?_
  · intro wx hSw; go_simp
  try simp only [Act.put, List.setIfInBounds_toArray, List.set_cons_zero, List.set_cons_succ, List.getElem_toArray, List.getElem_cons_zero, List.getElem_cons_succ]
  have hb2 : Below w0.heap.size w0 w1 := bthen Below.drewB hb1
  clear yP0 zP0 yP1 zP1 yP2 zP2 yP3 zP3 yP4 zP4 yP5 zP5 yP6 zP6 yP7 zP7 hlP yR0 zR0 yR1 zR1 yR2 zR2 yR3 zR3 yR4 zR4 yR5 zR5 yR6 zR6 yR7 zR7 hlR
  have B4 : Hid (Below w.heap.size w w1) := bthen B1.out hb2
  have P4 : Hid (Bk w1 w.heap.size [.int .i64 X.ag, .int .i64 X.ct, .int .i64 X.V.c, .slice (some ⟨bW, 0, none⟩) X.V.nW X.V.nW, .int .i64 X.V.g, .slice (some ⟨bO, 0, none⟩) X.V.nO X.V.nO, .slice (some ⟨bX, 0, none⟩) X.V.nX X.V.nX, .slice (some ⟨bI, 0, none⟩) X.V.nI X.V.nI]) := P2.out.below hb2
  have R4 : Hid (Bk w1 (w.heap.size + 1) [.int .i64 0, .int .i64 0, .int .i64 0, .slice none 0 0, .int .i64 0, .slice none 0 0, .slice none 0 0, .slice none 0 0]) := R3.out.below hb2
  clear B1 P2 R3
  have z1 := hb2.size
  clear hb1 hb2
  have yR0 : w1.cell? ⟨(w.heap.size + 1), 0, none⟩ = some (.int .i64 0) := (R4.out.2 0 (by simp)).1
  have zR0 : w1.frozen? ⟨(w.heap.size + 1), 0, none⟩ = false := (R4.out.2 0 (by simp)).2
  have yR1 : w1.cell? ⟨(w.heap.size + 1), 1, none⟩ = some (.int .i64 0) := (R4.out.2 1 (by simp)).1
  have zR1 : w1.frozen? ⟨(w.heap.size + 1), 1, none⟩ = false := (R4.out.2 1 (by simp)).2
  have yR2 : w1.cell? ⟨(w.heap.size + 1), 2, none⟩ = some (.int .i64 0) := (R4.out.2 2 (by simp)).1
  have zR2 : w1.frozen? ⟨(w.heap.size + 1), 2, none⟩ = false := (R4.out.2 2 (by simp)).2
  have yR3 : w1.cell? ⟨(w.heap.size + 1), 3, none⟩ = some (.slice none 0 0) := (R4.out.2 3 (by simp)).1
  have zR3 : w1.frozen? ⟨(w.heap.size + 1), 3, none⟩ = false := (R4.out.2 3 (by simp)).2
  have yR4 : w1.cell? ⟨(w.heap.size + 1), 4, none⟩ = some (.int .i64 0) := (R4.out.2 4 (by simp)).1
  have zR4 : w1.frozen? ⟨(w.heap.size + 1), 4, none⟩ = false := (R4.out.2 4 (by simp)).2
  have yR5 : w1.cell? ⟨(w.heap.size + 1), 5, none⟩ = some (.slice none 0 0) := (R4.out.2 5 (by simp)).1
  have zR5 : w1.frozen? ⟨(w.heap.size + 1), 5, none⟩ = false := (R4.out.2 5 (by simp)).2
  have yR6 : w1.cell? ⟨(w.heap.size + 1), 6, none⟩ = some (.slice none 0 0) := (R4.out.2 6 (by simp)).1
  have zR6 : w1.frozen? ⟨(w.heap.size + 1), 6, none⟩ = false := (R4.out.2 6 (by simp)).2
  have yR7 : w1.cell? ⟨(w.heap.size + 1), 7, none⟩ = some (.slice none 0 0) := (R4.out.2 7 (by simp)).1
  have zR7 : w1.frozen? ⟨(w.heap.size + 1), 7, none⟩ = false := (R4.out.2 7 (by simp)).2
  have hlR : (w.heap.size + 1) < w1.heap.size := R4.out.1
  refine wpAnyH_ready (rs := [8]) (by kernel_rfl) (by simp) ?_
  refine AllReadyH.cons rfl (fun K hK => ?_) AllReadyH.nil
  go_simp
  refine hK.out _ _ ⟨fun b o hb => ((set_out (fun e => by omega)).trans ((set_out (fun e => by omega)).trans ((set_out (fun e => by omega)).trans ((set_out (fun e => by omega)).trans ((set_out (fun e => by omega)).trans ((set_out (fun e => by omega)).trans ((set_out (fun e => by omega)).trans ((set_out (fun e => by omega)).trans (hHeld.1 b o hb))))))))), (by simpa [World.setCell] using hHeld.2)⟩ (fun hNew => ?_)
  clear hK K hHeld
  clear hNew
  try simp only [Act.put, List.setIfInBounds_toArray, List.set_cons_zero, List.set_cons_succ, List.getElem_toArray, List.getElem_cons_zero, List.getElem_cons_succ]
  refine wpAnyH_done (by kernel_rfl) ?_ _
  go_wp2
  refine bodyPost_ret (v := .agg #[.int .i64 X.ag, .int .i64 X.ct, .int .i64 X.V.c, .slice aW X.V.nW kW, .int .i64 X.V.g, .slice aO X.V.nO kO, .slice aX X.V.nX kX, .slice aI X.V.nI kI]) (by simp [results, Try.results30, go_sem, *]) rfl ?_
  exact ⟨⟨_, rfl, _, _, _, _, rfl, ownC_wide (ownC_set (ownC_set (ownC_set (ownC_set (ownC_set (ownC_set (ownC_set (ownC_set OC.out (by omega)) (by omega)) (by omega)) (by omega)) (by omega)) (by omega)) (by omega)) (by omega)) (by omega) (by simp [World.setCell]) (Nat.le_refl _)⟩, ((((((((B4.out.setCell (by first | (show w.heap.size ≤ w.heap.size; omega) | (show w.heap.size ≤ w.heap.size + 1; omega)) _).setCell (by first | (show w.heap.size ≤ w.heap.size; omega) | (show w.heap.size ≤ w.heap.size + 1; omega)) _).setCell (by first | (show w.heap.size ≤ w.heap.size; omega) | (show w.heap.size ≤ w.heap.size + 1; omega)) _).setCell (by first | (show w.heap.size ≤ w.heap.size; omega) | (show w.heap.size ≤ w.heap.size + 1; omega)) _).setCell (by first | (show w.heap.size ≤ w.heap.size; omega) | (show w.heap.size ≤ w.heap.size + 1; omega)) _).setCell (by first | (show w.heap.size ≤ w.heap.size; omega) | (show w.heap.size ≤ w.heap.size + 1; omega)) _).setCell (by first | (show w.heap.size ≤ w.heap.size; omega) | (show w.heap.size ≤ w.heap.size + 1; omega)) _).setCell (by first | (show w.heap.size ≤ w.heap.size; omega) | (show w.heap.size ≤ w.heap.size + 1; omega)) _)⟩
end Go.Proofs.Ytlbjgecjonegkaa
