/- CllAck of the program; conditions: the cell lies in memory of its own. -/
import Derived.Test.YtoiehmnhfjmfeaaGreatTold
namespace Go.Proofs.YtoiehmnhfjmfeaaGreat
open Go.RowKit Go.Deep
set_option linter.unusedVariables false

theorem good_rise {c d : Int} {Z : Nat → Nat → Int} {n : Nat} (h : allB c d Z n = true) : ∀ j, j + 1 < n → Z j 0 < Z (j + 1) 0 := fun j hj => by
  have h1 := allB_down n (show j + 2 ≤ n by omega) h
  simp [allB, goodB] at h1
  omega
theorem all_rise {c d : Int} {Z : Nat → Nat → Int} {n : Nat} (h : allB c d Z n = true) (i : Nat) : ∀ j, i < j → j < n → Z i 0 < Z j 0
  | 0, h1, _ => by omega
  | j + 1, h1, h2 => by
    have h3 := good_rise h j h2
    by_cases e : i = j
    · subst e; exact h3
    · have := all_rise h i j (by omega) (by omega)
      omega
theorem cllB_rise {c d : Int} {V : CV} (h : cllB c d V = true) : ∀ i j, i < j → j < V.nW → V.W i 0 < V.W j 0 := by
  simp only [cllB, Bool.and_eq_true] at h
  exact fun i j => all_rise h.2.1 i j
theorem cllB_two {c d : Int} {V : CV} (h : cllB c d V = true) : V.nO = 2 ∧ V.nX = 2 ∧ V.nI = 2 := by
  simp only [cllB, Bool.and_eq_true, beq_iff_eq] at h
  exact ⟨h.2.2.2.1, h.2.2.2.2.1, h.2.2.2.2.2.1⟩
theorem mapW_some {W : Nat → Nat → Int} {z : Int} {m : Nat} : ∀ n, m < n → W m 0 = z → (∀ j, m < j → j < n → ¬ W j 0 = z) → mapW W n z = some (W m)
  | 0, h, _, _ => by omega
  | n + 1, h, hz, hu => by
    by_cases e : m = n
    · subst e; simp [mapW, putM, hz]
    · have h1 : ¬ z = W n 0 := fun e1 => hu n (by omega) (by omega) e1.symm
      simp only [mapW, putM, if_neg h1]
      exact mapW_some n (by omega) hz (fun j h2 h3 => hu j h2 (by omega))
theorem mapW_in {W : Nat → Nat → Int} {z : Int} : ∀ n, (mapW W n z).isSome = true → ∃ m, m < n ∧ W m 0 = z
  | 0, h => by cases h
  | n + 1, h => by
    by_cases e : z = W n 0
    · exact ⟨n, by omega, e.symm⟩
    · simp only [mapW, putM, if_neg e] at h
      obtain ⟨m, h1, h2⟩ := mapW_in n h
      exact ⟨m, by omega, h2⟩
/-- The walkers' numbers. -/
def ids (V : CV) : List Int := (List.range V.nW).map (fun k => V.W k 0)
theorem ids_len {V : CV} : (ids V).length = V.nW := by simp [ids]
theorem ids_asc {c d : Int} {V : CV} (h : cllB c d V = true) : (ids V).Pairwise (· < ·) := by
  have hr := cllB_rise h
  refine List.pairwise_map.2 ((List.pairwise_lt_range (n := V.nW)).imp_of_mem ?_)
  intro i j hi hj hij
  exact hr i j hij (List.mem_range.1 hj)
theorem map_at {c d : Int} {V : CV} (h : cllB c d V = true) (k : Nat) (hk : k < V.nW) : mapW V.W V.nW (V.W k 0) = some (V.W k) :=
  mapW_some V.nW hk rfl (fun j h1 h2 e => by have := cllB_rise h k j h1 h2; omega)
theorem ids_mem {c d : Int} {V : CV} (h : cllB c d V = true) : ∀ z, z ∈ ids V ↔ (mapW V.W V.nW z).isSome = true := fun z => by
  constructor
  · intro hz
    obtain ⟨k, hk, rfl⟩ := List.mem_map.1 hz
    rw [map_at h k (List.mem_range.1 hk)]; rfl
  · intro hz
    obtain ⟨m, h1, rfl⟩ := mapW_in V.nW hz
    exact List.mem_map.2 ⟨m, List.mem_range.2 h1, rfl⟩
theorem ids_at {c d : Int} {V : CV} (h : cllB c d V = true) : ∀ k, k < (ids V).length → V.W k = (mapW V.W V.nW (ids V)[k]!).getD fun _ => 0 := fun k hk => by
  rw [ids_len] at hk
  have e : (ids V)[k]! = V.W k 0 := by simp [ids, hk]
  rw [e, map_at h k hk]; rfl
theorem after_with {V : CV} {q : Nat} {z : Int} : (V.after q z).with V.nW V.W = V.after q z := by
  unfold CV.after
  split <;> rfl
theorem OwnC.low {lo lo' hi : Nat} {w : World} {v : Value} {V : CV} (h : OwnC lo hi w v V) (h0 : lo' ≤ lo) (hh : hi ≤ w.heap.size) : OwnC lo' hi w v V := by
  obtain ⟨vW, vO, vX, vI, gW, gO, gX, gI, sl, xs, e, rW, rO, rX, rI, hd, hx1, hx2⟩ := h
  have sm : ∀ g, Sm w w g := fun g => Sm.refl w g
  refine ⟨vW, vO, vX, vI, gW, gO, gX, gI, sl, xs, e, rW.go h0 (Nat.le_refl _) hh (fun _ _ _ => sm _), ?_, rX.go h0 (Nat.le_refl _) hh (fun _ _ _ => sm _), rI.go h0 (Nat.le_refl _) hh (fun _ _ _ => sm _), hd, hx1, hx2⟩
  rcases rO with r | ⟨co, e1, l1, l2, l3, hc⟩
  · exact .inl r
  · exact .inr ⟨co, e1, by omega, l2, l3, fun k hk => ⟨(hc k hk).1, (hc k hk).2.go h0 (Nat.le_refl _) hh (fun _ _ _ => sm _)⟩⟩

def CV.zero : CV := ⟨0, 0, fun _ _ => 0, 0, 0, fun _ => 0, fun _ _ _ => 0, 0, fun _ => 0, 0, fun _ => 0⟩
/-- What CllAck answers: the cell, and whether something was let go of. -/
def ackR (c d : Int) (V : CV) (side z : Int) : CV × Bool := if cllB c d V = false ∨ sideF c d V.c side = -1 then (CV.zero, false) else (V.after side.toNat z, ackB V side.toNat z)
theorem ackR_no {c d : Int} {V : CV} {side z : Int} (h : cllB c d V = false ∨ sideF c d V.c side = -1) : ackR c d V side z = (CV.zero, false) := if_pos h
theorem ackR_yes {c d : Int} {V : CV} {side z : Int} {q : Nat} (h1 : cllB c d V = true) (h2 : ¬ sideF c d V.c side = -1) (hq : side = (q : Int)) : ackR c d V side z = (V.after q z, ackB V q z) := by
  subst hq
  unfold ackR
  rw [if_neg (fun h => by rcases h with h | h; rw [h1] at h; cases h; exact h2 h)]
  rfl

set_option maxRecDepth 20000 in
set_option maxHeartbeats 8000000 in
theorem ack_impl (c d : Int) (v : Value) (V : CV) (lo : Nat) (side z : Int) (hs0 : V.short 1048576) (hwf0 : ∀ k, k < V.nW → (Lit.int .i64 (V.W k 0)).wf = true) (w : World) (h : CopyAt lo w v V) :
    Calls Tryz.prog 15 #[.agg #[.int .i64 c, .int .i64 d], v, .int .i64 side, .int .i64 z] w fun e w' => (∃ u t, e = .returned (.tuple #[u, .bool t]) ∧ t = (ackR c d V side z).2 ∧ OwnC w.heap.size w'.heap.size w' u (ackR c d V side z).1) ∧ Below w.heap.size w w' := by
  obtain ⟨bW, bO, bX, bI, q0, q1, q2, q3, q4, rfl, g1, g2, g3, g4⟩ := h
  have CP : Hid (CopyAt lo w (.agg #[.int .i64 V.c, .slice (some ⟨bW, 0, none⟩) V.nW V.nW, .int .i64 V.g, .slice (some ⟨bO, 0, none⟩) V.nO V.nO, .slice (some ⟨bX, 0, none⟩) V.nX V.nX, .slice (some ⟨bI, 0, none⟩) V.nI V.nI]) V) := ⟨bW, bO, bX, bI, q0, q1, q2, q3, q4, rfl, g1, g2, g3, g4⟩
  have hs : Hid (V.short 1048576) := hs0
  have hwf : Hid (∀ k, k < V.nW → (Lit.int .i64 (V.W k 0)).wf = true) := hwf0
  clear g1 g2 g3 g4 hs0 hwf0 q0 q1 q2 q3 q4
  cases h1 : cllB c d V
  · skip
    go_enter Tryz.func15, Tryz.ntmps15
    go_wp2_with fail
    obtain ⟨w0, e0⟩ : ∃ w0, w0 = (((w.alloc (.cells #[.int .i64 c, .int .i64 d] 40)).alloc (.cells #[.int .i64 V.c, .slice (some ⟨bW, 0, none⟩) V.nW V.nW, .int .i64 V.g, .slice (some ⟨bO, 0, none⟩) V.nO V.nO, .slice (some ⟨bX, 0, none⟩) V.nX V.nX, .slice (some ⟨bI, 0, none⟩) V.nI V.nI] 37)).alloc (.cells #[.int .i64 0, .slice none 0 0, .int .i64 0, .slice none 0 0, .slice none 0 0, .slice none 0 0] 37)) := ⟨_, rfl⟩
    have z0 : w.heap.size + 3 ≤ w0.heap.size := by rw [e0]; simp
    have B0 : Hid (Below w.heap.size w w0) := by rw [e0]; exact (((Below.refl _ _).alloc (by simp) _).alloc (by simp) _).alloc (by simp; omega) _
    have A0 : Hid (Six w0 (w.heap.size + 1) [.int .i64 V.c, .slice (some ⟨bW, 0, none⟩) V.nW V.nW, .int .i64 V.g, .slice (some ⟨bO, 0, none⟩) V.nO V.nO, .slice (some ⟨bX, 0, none⟩) V.nX V.nX, .slice (some ⟨bI, 0, none⟩) V.nI V.nI]) := by rw [e0]; exact (six_box2 w #[.int .i64 c, .int .i64 d] 40 37 (.int .i64 V.c) (.slice (some ⟨bW, 0, none⟩) V.nW V.nW) (.int .i64 V.g) (.slice (some ⟨bO, 0, none⟩) V.nO V.nO) (.slice (some ⟨bX, 0, none⟩) V.nX V.nX) (.slice (some ⟨bI, 0, none⟩) V.nI V.nI)).below (by simp) ((Below.refl _ _).alloc (Nat.le_refl _) _)
    have R0 : Hid (Six w0 (w.heap.size + 1 + 1) [.int .i64 0, .slice none 0 0, .int .i64 0, .slice none 0 0, .slice none 0 0, .slice none 0 0]) := by rw [e0]; have h := six_new ((w.alloc (.cells #[.int .i64 c, .int .i64 d] 40)).alloc (.cells #[.int .i64 V.c, .slice (some ⟨bW, 0, none⟩) V.nW V.nW, .int .i64 V.g, .slice (some ⟨bO, 0, none⟩) V.nO V.nO, .slice (some ⟨bX, 0, none⟩) V.nX V.nX, .slice (some ⟨bI, 0, none⟩) V.nI V.nI] 37)) 37 (.int .i64 0) (.slice none 0 0) (.int .i64 0) (.slice none 0 0) (.slice none 0 0) (.slice none 0 0); rw [World.size_alloc, World.size_alloc] at h; exact h
    have m00 : Hid (w0.cell? ⟨w.heap.size, 0, none⟩ = some (.int .i64 c)) := by rw [e0]; exact ((((Below.refl _ (w.alloc (.cells #[.int .i64 c, .int .i64 d] 40))).alloc (Nat.le_refl _) _).alloc (by simp) _).cell (p := ⟨w.heap.size, 0, none⟩) (by simp)).trans (by simp)
    have m10 : Hid (w0.cell? ⟨w.heap.size, 1, none⟩ = some (.int .i64 d)) := by rw [e0]; exact ((((Below.refl _ (w.alloc (.cells #[.int .i64 c, .int .i64 d] 40))).alloc (Nat.le_refl _) _).alloc (by simp) _).cell (p := ⟨w.heap.size, 1, none⟩) (by simp)).trans (by simp)
    rw [← e0]
    clear e0
    refine (cllOk_impl c d _ V lo hs.out _ (CP.out.below B0.out)).mono ?_
    rintro e w1 ⟨rfl, hb1⟩
    rw [h1]
    have B1 : Hid (Below w.heap.size w w1) := bthen B0.out hb1
    have A1 : Hid (Six w1 (w.heap.size + 1) [.int .i64 V.c, .slice (some ⟨bW, 0, none⟩) V.nW V.nW, .int .i64 V.g, .slice (some ⟨bO, 0, none⟩) V.nO V.nO, .slice (some ⟨bX, 0, none⟩) V.nX V.nX, .slice (some ⟨bI, 0, none⟩) V.nI V.nI]) := A0.out.below (by omega) hb1
    have R1 : Hid (Six w1 (w.heap.size + 1 + 1) [.int .i64 0, .slice none 0 0, .int .i64 0, .slice none 0 0, .slice none 0 0, .slice none 0 0]) := R0.out.below (by omega) hb1
    have m01 : Hid (w1.cell? ⟨w.heap.size, 0, none⟩ = some (.int .i64 c)) := (hb1.cell (p := ⟨w.heap.size, 0, none⟩) (by show w.heap.size < _; omega)).trans m00.out
    have m11 : Hid (w1.cell? ⟨w.heap.size, 1, none⟩ = some (.int .i64 d)) := (hb1.cell (p := ⟨w.heap.size, 1, none⟩) (by show w.heap.size < _; omega)).trans m10.out
    have z1 : w.heap.size + 3 ≤ w1.heap.size := Nat.le_trans z0 hb1.size
    clear A0 B0 R0 m00 m10
    clear hb1
    have m0 : w1.cell? ⟨w.heap.size, 0, none⟩ = some (.int .i64 c) := m01.out
    have m1 : w1.cell? ⟨w.heap.size, 1, none⟩ = some (.int .i64 d) := m11.out
    have a0 : w1.cell? ⟨w.heap.size + 1, 0, none⟩ = some (.int .i64 V.c) := (A1.out 0 (by decide)).1
    have a1 : w1.cell? ⟨w.heap.size + 1, 1, none⟩ = some (.slice (some ⟨bW, 0, none⟩) V.nW V.nW) := (A1.out 1 (by decide)).1
    have a2 : w1.cell? ⟨w.heap.size + 1, 2, none⟩ = some (.int .i64 V.g) := (A1.out 2 (by decide)).1
    have a3 : w1.cell? ⟨w.heap.size + 1, 3, none⟩ = some (.slice (some ⟨bO, 0, none⟩) V.nO V.nO) := (A1.out 3 (by decide)).1
    have a4 : w1.cell? ⟨w.heap.size + 1, 4, none⟩ = some (.slice (some ⟨bX, 0, none⟩) V.nX V.nX) := (A1.out 4 (by decide)).1
    have a5 : w1.cell? ⟨w.heap.size + 1, 5, none⟩ = some (.slice (some ⟨bI, 0, none⟩) V.nI V.nI) := (A1.out 5 (by decide)).1
    have lA : w.heap.size + 1 < w1.heap.size := by omega
    have lM : w.heap.size < w1.heap.size := by omega
    have r0 : w1.cell? ⟨w.heap.size + 1 + 1, 0, none⟩ = some (.int .i64 0) := (R1.out 0 (by decide)).1
    have r1 : w1.cell? ⟨w.heap.size + 1 + 1, 1, none⟩ = some (.slice none 0 0) := (R1.out 1 (by decide)).1
    have r2 : w1.cell? ⟨w.heap.size + 1 + 1, 2, none⟩ = some (.int .i64 0) := (R1.out 2 (by decide)).1
    have r3 : w1.cell? ⟨w.heap.size + 1 + 1, 3, none⟩ = some (.slice none 0 0) := (R1.out 3 (by decide)).1
    have r4 : w1.cell? ⟨w.heap.size + 1 + 1, 4, none⟩ = some (.slice none 0 0) := (R1.out 4 (by decide)).1
    have r5 : w1.cell? ⟨w.heap.size + 1 + 1, 5, none⟩ = some (.slice none 0 0) := (R1.out 5 (by decide)).1
    have q0 : w1.frozen? ⟨w.heap.size + 1 + 1, 0, none⟩ = false := (R1.out 0 (by decide)).2
    have q1 : w1.frozen? ⟨w.heap.size + 1 + 1, 1, none⟩ = false := (R1.out 1 (by decide)).2
    have q2 : w1.frozen? ⟨w.heap.size + 1 + 1, 2, none⟩ = false := (R1.out 2 (by decide)).2
    have q3 : w1.frozen? ⟨w.heap.size + 1 + 1, 3, none⟩ = false := (R1.out 3 (by decide)).2
    have q4 : w1.frozen? ⟨w.heap.size + 1 + 1, 4, none⟩ = false := (R1.out 4 (by decide)).2
    have q5 : w1.frozen? ⟨w.heap.size + 1 + 1, 5, none⟩ = false := (R1.out 5 (by decide)).2
    have lR : w.heap.size + 1 + 1 < w1.heap.size := by omega
    go_wp2
    refine bodyPost_ret (v := .tuple #[.agg #[.int .i64 0, .slice none 0 0, .int .i64 0, .slice none 0 0, .slice none 0 0, .slice none 0 0], .bool false]) (by simp [results, Tryz.results15, go_sem, r0, r1, r2, r3, r4, r5]) rfl ?_
    exact ⟨⟨_, _, rfl, by rw [ackR_no (.inl h1)], by rw [ackR_no (.inl h1)]; exact nothing_own _ _ _⟩, below_put6 B1.out (by omega) _ _ _ _ _ _⟩
  by_cases h2 : sideF c d V.c side = -1
  · skip
    go_enter Tryz.func15, Tryz.ntmps15
    go_wp2_with fail
    obtain ⟨w0, e0⟩ : ∃ w0, w0 = (((w.alloc (.cells #[.int .i64 c, .int .i64 d] 40)).alloc (.cells #[.int .i64 V.c, .slice (some ⟨bW, 0, none⟩) V.nW V.nW, .int .i64 V.g, .slice (some ⟨bO, 0, none⟩) V.nO V.nO, .slice (some ⟨bX, 0, none⟩) V.nX V.nX, .slice (some ⟨bI, 0, none⟩) V.nI V.nI] 37)).alloc (.cells #[.int .i64 0, .slice none 0 0, .int .i64 0, .slice none 0 0, .slice none 0 0, .slice none 0 0] 37)) := ⟨_, rfl⟩
    have z0 : w.heap.size + 3 ≤ w0.heap.size := by rw [e0]; simp
    have B0 : Hid (Below w.heap.size w w0) := by rw [e0]; exact (((Below.refl _ _).alloc (by simp) _).alloc (by simp) _).alloc (by simp; omega) _
    have A0 : Hid (Six w0 (w.heap.size + 1) [.int .i64 V.c, .slice (some ⟨bW, 0, none⟩) V.nW V.nW, .int .i64 V.g, .slice (some ⟨bO, 0, none⟩) V.nO V.nO, .slice (some ⟨bX, 0, none⟩) V.nX V.nX, .slice (some ⟨bI, 0, none⟩) V.nI V.nI]) := by rw [e0]; exact (six_box2 w #[.int .i64 c, .int .i64 d] 40 37 (.int .i64 V.c) (.slice (some ⟨bW, 0, none⟩) V.nW V.nW) (.int .i64 V.g) (.slice (some ⟨bO, 0, none⟩) V.nO V.nO) (.slice (some ⟨bX, 0, none⟩) V.nX V.nX) (.slice (some ⟨bI, 0, none⟩) V.nI V.nI)).below (by simp) ((Below.refl _ _).alloc (Nat.le_refl _) _)
    have R0 : Hid (Six w0 (w.heap.size + 1 + 1) [.int .i64 0, .slice none 0 0, .int .i64 0, .slice none 0 0, .slice none 0 0, .slice none 0 0]) := by rw [e0]; have h := six_new ((w.alloc (.cells #[.int .i64 c, .int .i64 d] 40)).alloc (.cells #[.int .i64 V.c, .slice (some ⟨bW, 0, none⟩) V.nW V.nW, .int .i64 V.g, .slice (some ⟨bO, 0, none⟩) V.nO V.nO, .slice (some ⟨bX, 0, none⟩) V.nX V.nX, .slice (some ⟨bI, 0, none⟩) V.nI V.nI] 37)) 37 (.int .i64 0) (.slice none 0 0) (.int .i64 0) (.slice none 0 0) (.slice none 0 0) (.slice none 0 0); rw [World.size_alloc, World.size_alloc] at h; exact h
    have m00 : Hid (w0.cell? ⟨w.heap.size, 0, none⟩ = some (.int .i64 c)) := by rw [e0]; exact ((((Below.refl _ (w.alloc (.cells #[.int .i64 c, .int .i64 d] 40))).alloc (Nat.le_refl _) _).alloc (by simp) _).cell (p := ⟨w.heap.size, 0, none⟩) (by simp)).trans (by simp)
    have m10 : Hid (w0.cell? ⟨w.heap.size, 1, none⟩ = some (.int .i64 d)) := by rw [e0]; exact ((((Below.refl _ (w.alloc (.cells #[.int .i64 c, .int .i64 d] 40))).alloc (Nat.le_refl _) _).alloc (by simp) _).cell (p := ⟨w.heap.size, 1, none⟩) (by simp)).trans (by simp)
    rw [← e0]
    clear e0
    refine (cllOk_impl c d _ V lo hs.out _ (CP.out.below B0.out)).mono ?_
    rintro e w1 ⟨rfl, hb1⟩
    rw [h1]
    have B1 : Hid (Below w.heap.size w w1) := bthen B0.out hb1
    have A1 : Hid (Six w1 (w.heap.size + 1) [.int .i64 V.c, .slice (some ⟨bW, 0, none⟩) V.nW V.nW, .int .i64 V.g, .slice (some ⟨bO, 0, none⟩) V.nO V.nO, .slice (some ⟨bX, 0, none⟩) V.nX V.nX, .slice (some ⟨bI, 0, none⟩) V.nI V.nI]) := A0.out.below (by omega) hb1
    have R1 : Hid (Six w1 (w.heap.size + 1 + 1) [.int .i64 0, .slice none 0 0, .int .i64 0, .slice none 0 0, .slice none 0 0, .slice none 0 0]) := R0.out.below (by omega) hb1
    have m01 : Hid (w1.cell? ⟨w.heap.size, 0, none⟩ = some (.int .i64 c)) := (hb1.cell (p := ⟨w.heap.size, 0, none⟩) (by show w.heap.size < _; omega)).trans m00.out
    have m11 : Hid (w1.cell? ⟨w.heap.size, 1, none⟩ = some (.int .i64 d)) := (hb1.cell (p := ⟨w.heap.size, 1, none⟩) (by show w.heap.size < _; omega)).trans m10.out
    have z1 : w.heap.size + 3 ≤ w1.heap.size := Nat.le_trans z0 hb1.size
    clear A0 B0 R0 m00 m10
    clear hb1
    have m0 : w1.cell? ⟨w.heap.size, 0, none⟩ = some (.int .i64 c) := m01.out
    have m1 : w1.cell? ⟨w.heap.size, 1, none⟩ = some (.int .i64 d) := m11.out
    have a0 : w1.cell? ⟨w.heap.size + 1, 0, none⟩ = some (.int .i64 V.c) := (A1.out 0 (by decide)).1
    have a1 : w1.cell? ⟨w.heap.size + 1, 1, none⟩ = some (.slice (some ⟨bW, 0, none⟩) V.nW V.nW) := (A1.out 1 (by decide)).1
    have a2 : w1.cell? ⟨w.heap.size + 1, 2, none⟩ = some (.int .i64 V.g) := (A1.out 2 (by decide)).1
    have a3 : w1.cell? ⟨w.heap.size + 1, 3, none⟩ = some (.slice (some ⟨bO, 0, none⟩) V.nO V.nO) := (A1.out 3 (by decide)).1
    have a4 : w1.cell? ⟨w.heap.size + 1, 4, none⟩ = some (.slice (some ⟨bX, 0, none⟩) V.nX V.nX) := (A1.out 4 (by decide)).1
    have a5 : w1.cell? ⟨w.heap.size + 1, 5, none⟩ = some (.slice (some ⟨bI, 0, none⟩) V.nI V.nI) := (A1.out 5 (by decide)).1
    have lA : w.heap.size + 1 < w1.heap.size := by omega
    have lM : w.heap.size < w1.heap.size := by omega
    go_wp2_with fail
    clear m0 m1 a0 a1 a2 a3 a4 a5 lA lM
    refine (plcSide_impl c d V.c side _).mono ?_
    rintro e w2 ⟨rfl, hb2⟩
    have B2 : Hid (Below w.heap.size w w2) := bthen B1.out hb2
    have A2 : Hid (Six w2 (w.heap.size + 1) [.int .i64 V.c, .slice (some ⟨bW, 0, none⟩) V.nW V.nW, .int .i64 V.g, .slice (some ⟨bO, 0, none⟩) V.nO V.nO, .slice (some ⟨bX, 0, none⟩) V.nX V.nX, .slice (some ⟨bI, 0, none⟩) V.nI V.nI]) := A1.out.below (by omega) hb2
    have R2 : Hid (Six w2 (w.heap.size + 1 + 1) [.int .i64 0, .slice none 0 0, .int .i64 0, .slice none 0 0, .slice none 0 0, .slice none 0 0]) := R1.out.below (by omega) hb2
    have m02 : Hid (w2.cell? ⟨w.heap.size, 0, none⟩ = some (.int .i64 c)) := (hb2.cell (p := ⟨w.heap.size, 0, none⟩) (by show w.heap.size < _; omega)).trans m01.out
    have m12 : Hid (w2.cell? ⟨w.heap.size, 1, none⟩ = some (.int .i64 d)) := (hb2.cell (p := ⟨w.heap.size, 1, none⟩) (by show w.heap.size < _; omega)).trans m11.out
    have z2 : w.heap.size + 3 ≤ w2.heap.size := Nat.le_trans z1 hb2.size
    clear A1 B1 R1 m01 m11
    clear hb2
    rw [h2]
    have m0 : w2.cell? ⟨w.heap.size, 0, none⟩ = some (.int .i64 c) := m02.out
    have m1 : w2.cell? ⟨w.heap.size, 1, none⟩ = some (.int .i64 d) := m12.out
    have a0 : w2.cell? ⟨w.heap.size + 1, 0, none⟩ = some (.int .i64 V.c) := (A2.out 0 (by decide)).1
    have a1 : w2.cell? ⟨w.heap.size + 1, 1, none⟩ = some (.slice (some ⟨bW, 0, none⟩) V.nW V.nW) := (A2.out 1 (by decide)).1
    have a2 : w2.cell? ⟨w.heap.size + 1, 2, none⟩ = some (.int .i64 V.g) := (A2.out 2 (by decide)).1
    have a3 : w2.cell? ⟨w.heap.size + 1, 3, none⟩ = some (.slice (some ⟨bO, 0, none⟩) V.nO V.nO) := (A2.out 3 (by decide)).1
    have a4 : w2.cell? ⟨w.heap.size + 1, 4, none⟩ = some (.slice (some ⟨bX, 0, none⟩) V.nX V.nX) := (A2.out 4 (by decide)).1
    have a5 : w2.cell? ⟨w.heap.size + 1, 5, none⟩ = some (.slice (some ⟨bI, 0, none⟩) V.nI V.nI) := (A2.out 5 (by decide)).1
    have lA : w.heap.size + 1 < w2.heap.size := by omega
    have lM : w.heap.size < w2.heap.size := by omega
    have r0 : w2.cell? ⟨w.heap.size + 1 + 1, 0, none⟩ = some (.int .i64 0) := (R2.out 0 (by decide)).1
    have r1 : w2.cell? ⟨w.heap.size + 1 + 1, 1, none⟩ = some (.slice none 0 0) := (R2.out 1 (by decide)).1
    have r2 : w2.cell? ⟨w.heap.size + 1 + 1, 2, none⟩ = some (.int .i64 0) := (R2.out 2 (by decide)).1
    have r3 : w2.cell? ⟨w.heap.size + 1 + 1, 3, none⟩ = some (.slice none 0 0) := (R2.out 3 (by decide)).1
    have r4 : w2.cell? ⟨w.heap.size + 1 + 1, 4, none⟩ = some (.slice none 0 0) := (R2.out 4 (by decide)).1
    have r5 : w2.cell? ⟨w.heap.size + 1 + 1, 5, none⟩ = some (.slice none 0 0) := (R2.out 5 (by decide)).1
    have q0 : w2.frozen? ⟨w.heap.size + 1 + 1, 0, none⟩ = false := (R2.out 0 (by decide)).2
    have q1 : w2.frozen? ⟨w.heap.size + 1 + 1, 1, none⟩ = false := (R2.out 1 (by decide)).2
    have q2 : w2.frozen? ⟨w.heap.size + 1 + 1, 2, none⟩ = false := (R2.out 2 (by decide)).2
    have q3 : w2.frozen? ⟨w.heap.size + 1 + 1, 3, none⟩ = false := (R2.out 3 (by decide)).2
    have q4 : w2.frozen? ⟨w.heap.size + 1 + 1, 4, none⟩ = false := (R2.out 4 (by decide)).2
    have q5 : w2.frozen? ⟨w.heap.size + 1 + 1, 5, none⟩ = false := (R2.out 5 (by decide)).2
    have lR : w.heap.size + 1 + 1 < w2.heap.size := by omega
    go_wp2
    refine bodyPost_ret (v := .tuple #[.agg #[.int .i64 0, .slice none 0 0, .int .i64 0, .slice none 0 0, .slice none 0 0, .slice none 0 0], .bool false]) (by simp [results, Tryz.results15, go_sem, r0, r1, r2, r3, r4, r5]) rfl ?_
    exact ⟨⟨_, _, rfl, by rw [ackR_no (.inr h2)], by rw [ackR_no (.inr h2)]; exact nothing_own _ _ _⟩, below_put6 B2.out (by omega) _ _ _ _ _ _⟩
  obtain ⟨e1, e2, e3⟩ := cllB_two h1
  obtain ⟨q, hq, hq2⟩ : ∃ q : Nat, side = (q : Int) ∧ q < 2 := by
    by_cases s0 : side = 0
    · exact ⟨0, s0, by omega⟩
    · by_cases s1 : side = 1
      · exact ⟨1, s1, by omega⟩
      · exact absurd (side_else s0 s1) h2
  have hqO : q < V.nO := by omega
  have hqX : q < V.nX := by omega
  have hnO : V.nO ≠ 0 := by omega
  clear e1 e2 e3 hq2
  subst hq
  go_enter Tryz.func15, Tryz.ntmps15
  go_wp2_with fail
  obtain ⟨w0, e0⟩ : ∃ w0, w0 = (((w.alloc (.cells #[.int .i64 c, .int .i64 d] 40)).alloc (.cells #[.int .i64 V.c, .slice (some ⟨bW, 0, none⟩) V.nW V.nW, .int .i64 V.g, .slice (some ⟨bO, 0, none⟩) V.nO V.nO, .slice (some ⟨bX, 0, none⟩) V.nX V.nX, .slice (some ⟨bI, 0, none⟩) V.nI V.nI] 37)).alloc (.cells #[.int .i64 0, .slice none 0 0, .int .i64 0, .slice none 0 0, .slice none 0 0, .slice none 0 0] 37)) := ⟨_, rfl⟩
  have z0 : w.heap.size + 3 ≤ w0.heap.size := by rw [e0]; simp
  have B0 : Hid (Below w.heap.size w w0) := by rw [e0]; exact (((Below.refl _ _).alloc (by simp) _).alloc (by simp) _).alloc (by simp; omega) _
  have A0 : Hid (Six w0 (w.heap.size + 1) [.int .i64 V.c, .slice (some ⟨bW, 0, none⟩) V.nW V.nW, .int .i64 V.g, .slice (some ⟨bO, 0, none⟩) V.nO V.nO, .slice (some ⟨bX, 0, none⟩) V.nX V.nX, .slice (some ⟨bI, 0, none⟩) V.nI V.nI]) := by rw [e0]; exact (six_box2 w #[.int .i64 c, .int .i64 d] 40 37 (.int .i64 V.c) (.slice (some ⟨bW, 0, none⟩) V.nW V.nW) (.int .i64 V.g) (.slice (some ⟨bO, 0, none⟩) V.nO V.nO) (.slice (some ⟨bX, 0, none⟩) V.nX V.nX) (.slice (some ⟨bI, 0, none⟩) V.nI V.nI)).below (by simp) ((Below.refl _ _).alloc (Nat.le_refl _) _)
  have R0 : Hid (Six w0 (w.heap.size + 1 + 1) [.int .i64 0, .slice none 0 0, .int .i64 0, .slice none 0 0, .slice none 0 0, .slice none 0 0]) := by rw [e0]; have h := six_new ((w.alloc (.cells #[.int .i64 c, .int .i64 d] 40)).alloc (.cells #[.int .i64 V.c, .slice (some ⟨bW, 0, none⟩) V.nW V.nW, .int .i64 V.g, .slice (some ⟨bO, 0, none⟩) V.nO V.nO, .slice (some ⟨bX, 0, none⟩) V.nX V.nX, .slice (some ⟨bI, 0, none⟩) V.nI V.nI] 37)) 37 (.int .i64 0) (.slice none 0 0) (.int .i64 0) (.slice none 0 0) (.slice none 0 0) (.slice none 0 0); rw [World.size_alloc, World.size_alloc] at h; exact h
  have m00 : Hid (w0.cell? ⟨w.heap.size, 0, none⟩ = some (.int .i64 c)) := by rw [e0]; exact ((((Below.refl _ (w.alloc (.cells #[.int .i64 c, .int .i64 d] 40))).alloc (Nat.le_refl _) _).alloc (by simp) _).cell (p := ⟨w.heap.size, 0, none⟩) (by simp)).trans (by simp)
  have m10 : Hid (w0.cell? ⟨w.heap.size, 1, none⟩ = some (.int .i64 d)) := by rw [e0]; exact ((((Below.refl _ (w.alloc (.cells #[.int .i64 c, .int .i64 d] 40))).alloc (Nat.le_refl _) _).alloc (by simp) _).cell (p := ⟨w.heap.size, 1, none⟩) (by simp)).trans (by simp)
  rw [← e0]
  clear e0
  refine (cllOk_impl c d _ V lo hs.out _ (CP.out.below B0.out)).mono ?_
  rintro e w1 ⟨rfl, hb1⟩
  rw [h1]
  have B1 : Hid (Below w.heap.size w w1) := bthen B0.out hb1
  have A1 : Hid (Six w1 (w.heap.size + 1) [.int .i64 V.c, .slice (some ⟨bW, 0, none⟩) V.nW V.nW, .int .i64 V.g, .slice (some ⟨bO, 0, none⟩) V.nO V.nO, .slice (some ⟨bX, 0, none⟩) V.nX V.nX, .slice (some ⟨bI, 0, none⟩) V.nI V.nI]) := A0.out.below (by omega) hb1
  have R1 : Hid (Six w1 (w.heap.size + 1 + 1) [.int .i64 0, .slice none 0 0, .int .i64 0, .slice none 0 0, .slice none 0 0, .slice none 0 0]) := R0.out.below (by omega) hb1
  have m01 : Hid (w1.cell? ⟨w.heap.size, 0, none⟩ = some (.int .i64 c)) := (hb1.cell (p := ⟨w.heap.size, 0, none⟩) (by show w.heap.size < _; omega)).trans m00.out
  have m11 : Hid (w1.cell? ⟨w.heap.size, 1, none⟩ = some (.int .i64 d)) := (hb1.cell (p := ⟨w.heap.size, 1, none⟩) (by show w.heap.size < _; omega)).trans m10.out
  have z1 : w.heap.size + 3 ≤ w1.heap.size := Nat.le_trans z0 hb1.size
  clear A0 B0 R0 m00 m10
  clear hb1
  have m0 : w1.cell? ⟨w.heap.size, 0, none⟩ = some (.int .i64 c) := m01.out
  have m1 : w1.cell? ⟨w.heap.size, 1, none⟩ = some (.int .i64 d) := m11.out
  have a0 : w1.cell? ⟨w.heap.size + 1, 0, none⟩ = some (.int .i64 V.c) := (A1.out 0 (by decide)).1
  have a1 : w1.cell? ⟨w.heap.size + 1, 1, none⟩ = some (.slice (some ⟨bW, 0, none⟩) V.nW V.nW) := (A1.out 1 (by decide)).1
  have a2 : w1.cell? ⟨w.heap.size + 1, 2, none⟩ = some (.int .i64 V.g) := (A1.out 2 (by decide)).1
  have a3 : w1.cell? ⟨w.heap.size + 1, 3, none⟩ = some (.slice (some ⟨bO, 0, none⟩) V.nO V.nO) := (A1.out 3 (by decide)).1
  have a4 : w1.cell? ⟨w.heap.size + 1, 4, none⟩ = some (.slice (some ⟨bX, 0, none⟩) V.nX V.nX) := (A1.out 4 (by decide)).1
  have a5 : w1.cell? ⟨w.heap.size + 1, 5, none⟩ = some (.slice (some ⟨bI, 0, none⟩) V.nI V.nI) := (A1.out 5 (by decide)).1
  have lA : w.heap.size + 1 < w1.heap.size := by omega
  have lM : w.heap.size < w1.heap.size := by omega
  go_wp2_with fail
  clear m0 m1 a0 a1 a2 a3 a4 a5 lA lM
  refine (plcSide_impl c d V.c (q : Int) _).mono ?_
  rintro e w2 ⟨rfl, hb2⟩
  have B2 : Hid (Below w.heap.size w w2) := bthen B1.out hb2
  have A2 : Hid (Six w2 (w.heap.size + 1) [.int .i64 V.c, .slice (some ⟨bW, 0, none⟩) V.nW V.nW, .int .i64 V.g, .slice (some ⟨bO, 0, none⟩) V.nO V.nO, .slice (some ⟨bX, 0, none⟩) V.nX V.nX, .slice (some ⟨bI, 0, none⟩) V.nI V.nI]) := A1.out.below (by omega) hb2
  have R2 : Hid (Six w2 (w.heap.size + 1 + 1) [.int .i64 0, .slice none 0 0, .int .i64 0, .slice none 0 0, .slice none 0 0, .slice none 0 0]) := R1.out.below (by omega) hb2
  have m02 : Hid (w2.cell? ⟨w.heap.size, 0, none⟩ = some (.int .i64 c)) := (hb2.cell (p := ⟨w.heap.size, 0, none⟩) (by show w.heap.size < _; omega)).trans m01.out
  have m12 : Hid (w2.cell? ⟨w.heap.size, 1, none⟩ = some (.int .i64 d)) := (hb2.cell (p := ⟨w.heap.size, 1, none⟩) (by show w.heap.size < _; omega)).trans m11.out
  have z2 : w.heap.size + 3 ≤ w2.heap.size := Nat.le_trans z1 hb2.size
  clear A1 B1 R1 m01 m11
  clear hb2
  have m0 : w2.cell? ⟨w.heap.size, 0, none⟩ = some (.int .i64 c) := m02.out
  have m1 : w2.cell? ⟨w.heap.size, 1, none⟩ = some (.int .i64 d) := m12.out
  have a0 : w2.cell? ⟨w.heap.size + 1, 0, none⟩ = some (.int .i64 V.c) := (A2.out 0 (by decide)).1
  have a1 : w2.cell? ⟨w.heap.size + 1, 1, none⟩ = some (.slice (some ⟨bW, 0, none⟩) V.nW V.nW) := (A2.out 1 (by decide)).1
  have a2 : w2.cell? ⟨w.heap.size + 1, 2, none⟩ = some (.int .i64 V.g) := (A2.out 2 (by decide)).1
  have a3 : w2.cell? ⟨w.heap.size + 1, 3, none⟩ = some (.slice (some ⟨bO, 0, none⟩) V.nO V.nO) := (A2.out 3 (by decide)).1
  have a4 : w2.cell? ⟨w.heap.size + 1, 4, none⟩ = some (.slice (some ⟨bX, 0, none⟩) V.nX V.nX) := (A2.out 4 (by decide)).1
  have a5 : w2.cell? ⟨w.heap.size + 1, 5, none⟩ = some (.slice (some ⟨bI, 0, none⟩) V.nI V.nI) := (A2.out 5 (by decide)).1
  have lA : w.heap.size + 1 < w2.heap.size := by omega
  have lM : w.heap.size < w2.heap.size := by omega
  have hneg : (sideF c d V.c (q : Int) == -1) = false := by simp; exact h2
  go_wp2_with fail
  clear m0 m1 a0 a1 a2 a3 a4 a5 lA lM
  refine (sceneOf c d _ V lo hs.out hwf.out _ (CP.out.below B2.out)).mono ?_
  rintro e w3 ⟨s, b, lc, hc, rfl, hSc, g1, g2, g3, hb3⟩
  have B3 : Hid (Below w.heap.size w w3) := bthen B2.out hb3
  have A3 : Hid (Six w3 (w.heap.size + 1) [.int .i64 V.c, .slice (some ⟨bW, 0, none⟩) V.nW V.nW, .int .i64 V.g, .slice (some ⟨bO, 0, none⟩) V.nO V.nO, .slice (some ⟨bX, 0, none⟩) V.nX V.nX, .slice (some ⟨bI, 0, none⟩) V.nI V.nI]) := A2.out.below (by omega) hb3
  have R3 : Hid (Six w3 (w.heap.size + 1 + 1) [.int .i64 0, .slice none 0 0, .int .i64 0, .slice none 0 0, .slice none 0 0, .slice none 0 0]) := R2.out.below (by omega) hb3
  have m03 : Hid (w3.cell? ⟨w.heap.size, 0, none⟩ = some (.int .i64 c)) := (hb3.cell (p := ⟨w.heap.size, 0, none⟩) (by show w.heap.size < _; omega)).trans m02.out
  have m13 : Hid (w3.cell? ⟨w.heap.size, 1, none⟩ = some (.int .i64 d)) := (hb3.cell (p := ⟨w.heap.size, 1, none⟩) (by show w.heap.size < _; omega)).trans m12.out
  have z3 : w.heap.size + 3 ≤ w3.heap.size := Nat.le_trans z2 hb3.size
  clear A2 B2 R2 m02 m12
  have S3 : Hid (Sc w3 c d s b w2.heap.size V V.nW (mapW V.W V.nW)) := hSc.sc (by omega) g3 g1 g2
  have lo2 : w2.heap.size ≤ w3.heap.size := hb3.size
  clear hb3 hSc g1 g2 g3
  obtain ⟨l2, el2⟩ : ∃ l2, l2 = w2.heap.size := ⟨_, rfl⟩
  rw [← el2] at S3 lo2 z2
  clear el2
  go_wp2_with fail
  refine (letGo_impl c d s b l2 V V.nW _ q z hs.out (by omega) (by omega) _ S3.out).mono ?_
  rintro e w4 ⟨rfl, hS4, hb4⟩
  have S4 : Hid (Sc w4 c d s b l2 (V.after q z) V.nW (mapW V.W V.nW)) := hS4
  have z4 : w3.heap.size ≤ w4.heap.size := hb4.size
  have B4 : Hid (Below w.heap.size w w4) := B3.out.trans (hb4.mono (by omega))
  have R4 : Hid (Six w4 (w.heap.size + 1 + 1) [.int .i64 0, .slice none 0 0, .int .i64 0, .slice none 0 0, .slice none 0 0, .slice none 0 0]) := fun i hi => by have h := sm_below hb4 (b := w.heap.size + 1 + 1) (by omega) i; rw [h.1, h.2]; exact R3.out i hi
  clear hS4 hb4 S3 B3 R3 A3 m03 m13
  go_wp2_with fail
  refine (told_impl c d s b l2 (V.after q z) V.nW _ (ids V) V.W (hs.out.1) (ids_asc h1) (ids_mem h1) (ids_at h1) (by rw [ids_len]; exact hs.out.1) _ S4.out).mono ?_
  rintro e w5 ⟨⟨u, rfl, hO⟩, hb5⟩
  rw [ids_len, after_with] at hO
  obtain ⟨U, eU⟩ : ∃ U, U = V.after q z := ⟨_, rfl⟩
  rw [← eU] at hO
  have EU : Hid (U = V.after q z) := eU
  obtain ⟨aW, kW, aO, kO, aX, kX, aI, kI, rfl, _, _, _, _⟩ := hO.at
  have O5 : Hid (OwnC l2 w5.heap.size w5 (.agg #[.int .i64 U.c, .slice aW U.nW kW, .int .i64 U.g, .slice aO U.nO kO, .slice aX U.nX kX, .slice aI U.nI kI]) U) := hO
  have B5 : Hid (Below w.heap.size w w5) := B4.out.trans (hb5.mono (by omega))
  have R5 : Hid (Six w5 (w.heap.size + 1 + 1) [.int .i64 0, .slice none 0 0, .int .i64 0, .slice none 0 0, .slice none 0 0, .slice none 0 0]) := fun i hi => by have h := sm_below hb5 (b := w.heap.size + 1 + 1) (by omega) i; rw [h.1, h.2]; exact R4.out i hi
  have z5 : w4.heap.size ≤ w5.heap.size := hb5.size
  clear hO hb5 S4 B4 R4 eU
  have r0 : w5.cell? ⟨w.heap.size + 1 + 1, 0, none⟩ = some (.int .i64 0) := (R5.out 0 (by decide)).1
  have r1 : w5.cell? ⟨w.heap.size + 1 + 1, 1, none⟩ = some (.slice none 0 0) := (R5.out 1 (by decide)).1
  have r2 : w5.cell? ⟨w.heap.size + 1 + 1, 2, none⟩ = some (.int .i64 0) := (R5.out 2 (by decide)).1
  have r3 : w5.cell? ⟨w.heap.size + 1 + 1, 3, none⟩ = some (.slice none 0 0) := (R5.out 3 (by decide)).1
  have r4 : w5.cell? ⟨w.heap.size + 1 + 1, 4, none⟩ = some (.slice none 0 0) := (R5.out 4 (by decide)).1
  have r5 : w5.cell? ⟨w.heap.size + 1 + 1, 5, none⟩ = some (.slice none 0 0) := (R5.out 5 (by decide)).1
  have q0 : w5.frozen? ⟨w.heap.size + 1 + 1, 0, none⟩ = false := (R5.out 0 (by decide)).2
  have q1 : w5.frozen? ⟨w.heap.size + 1 + 1, 1, none⟩ = false := (R5.out 1 (by decide)).2
  have q2 : w5.frozen? ⟨w.heap.size + 1 + 1, 2, none⟩ = false := (R5.out 2 (by decide)).2
  have q3 : w5.frozen? ⟨w.heap.size + 1 + 1, 3, none⟩ = false := (R5.out 3 (by decide)).2
  have q4 : w5.frozen? ⟨w.heap.size + 1 + 1, 4, none⟩ = false := (R5.out 4 (by decide)).2
  have q5 : w5.frozen? ⟨w.heap.size + 1 + 1, 5, none⟩ = false := (R5.out 5 (by decide)).2
  have lR : w.heap.size + 1 + 1 < w5.heap.size := by omega
  go_wp2
  refine bodyPost_ret (v := .tuple #[.agg #[.int .i64 U.c, .slice aW U.nW kW, .int .i64 U.g, .slice aO U.nO kO, .slice aX U.nX kX, .slice aI U.nI kI], .bool (ackB V q z)]) (by simp [results, Tryz.results15, go_sem, r0, r1, r2, r3, r4, r5]) rfl ?_
  have hzz := size_put6 w5 (w.heap.size + 1 + 1) (.int .i64 U.c) (.slice aW U.nW kW) (.int .i64 U.g) (.slice aO U.nO kO) (.slice aX U.nX kX) (.slice aI U.nI kI)
  refine ⟨⟨_, _, rfl, by rw [ackR_yes (q := q) h1 h2 rfl], ?_⟩, below_put6 B5.out (by omega) _ _ _ _ _ _⟩
  rw [ackR_yes (q := q) h1 h2 rfl]
  show OwnC w.heap.size (put6 w5 (w.heap.size + 1 + 1) (.int .i64 U.c) (.slice aW U.nW kW) (.int .i64 U.g) (.slice aO U.nO kO) (.slice aX U.nX kX) (.slice aI U.nI kI)).heap.size (put6 w5 (w.heap.size + 1 + 1) (.int .i64 U.c) (.slice aW U.nW kW) (.int .i64 U.g) (.slice aO U.nO kO) (.slice aX U.nX kX) (.slice aI U.nI kI)) _ _
  rw [hzz]
  rw [← EU.out]
  exact (O5.out.sm (Nat.le_of_eq hzz.symm) (fun x g1 g2 => sm_put6 (by omega) (.int .i64 U.c) (.slice aW U.nW kW) (.int .i64 U.g) (.slice aO U.nO kO) (.slice aX U.nX kX) (.slice aI U.nI kI))).low (by omega) (Nat.le_of_eq hzz.symm)

end Go.Proofs.YtoiehmnhfjmfeaaGreat
