/- The walks over lists of walkers: the copy, the size, the comparison; conditions: the list lies in memory as a row of structs of five integers. -/
import Derived.Test.YthbkjfkkdaheoaaGreatDoorWalks4
import Derived.LoopTactic
import Derived.Deep.OwnRows
import Derived.Laws.IdiomCopy
namespace Go.Proofs.YthbkjfkkdaheoaaGreatDoor
open Go.RowKit Go.Deep
set_option linter.unusedVariables false
theorem eqWalker (i a n s l : Int) (w : World) :
    Calls Tryz.prog 94 #[.agg #[.int .i64 i, .int .i64 a, .int .i64 n, .int .i64 s, .int .i64 l], .agg #[.int .i64 i, .int .i64 a, .int .i64 n, .int .i64 s, .int .i64 l]] w fun e w' => e = .returned (.bool true) ∧ Below w.heap.size w w' := by
  go_enter Tryz.func94, Tryz.ntmps94
  go_wp2
  go_ret
  exact ⟨rfl, by repeat (first | exact Below.refl _ _ | refine bthen ?_ (by assumption) | apply Below.drew | apply bdrewN | refine Below.alloc ?_ (by simp) _)⟩
theorem Tryz.info54 : (Tryz.prog.info? 54).map (fun i => (i.zero, i.size, i.bytes)) = some (some (.agg #[.int .i64 0, .int .i64 0, .int .i64 0, .int .i64 0, .int .i64 0]), 5, 40) := by kernel_rfl
theorem make5 (n : Nat) (hn : n ≤ 1048576) (w : World) :
    (Instr.makeSlice 32 (.int .i64 (n : Int)) (.int .i64 (n : Int))).run Tryz.prog w = .ok (.slice (some ⟨w.heap.size, 0, none⟩) n n) (w.alloc (.cells (madeCells #[.int .i64 0, .int .i64 0, .int .i64 0, .int .i64 0, .int .i64 0] (n * 5)) 54)) := by
  obtain ⟨i, hi, hzz⟩ := Option.map_eq_some_iff.1 Tryz.info54
  simp only [Prod.mk.injEq] at hzz
  obtain ⟨hz, hs, hb⟩ := hzz
  have := run_make (P := Tryz.prog) w 32 54 i _ Tryz.underlying32 hi hz .i64 .i64 n n (by omega) (by omega) (by rw [hb]; omega) (by omega)
  rw [this, hs]
  rfl
def Own5 (wr : World) (B n : Nat) (Z : Nat → Nat → Int) (k : Nat) : Prop :=
  (∀ i, i < n * 5 → (wr.cell? ⟨B, i, none⟩).isSome = true ∧ wr.frozen? ⟨B, i, none⟩ = false) ∧ ∀ k' j, k' < k → j < 5 → wr.cell? ⟨B, k' * 5 + j, none⟩ = some (.int .i64 (Z k' j))
theorem own_cell {wr : World} {B n k : Nat} {Z : Nat → Nat → Int} (h : Own5 wr B n Z k) (hk : k < n) (j : Nat) (hj : j < 5) : (∃ v, wr.cell? ⟨B, k * 5 + j, none⟩ = some v) ∧ wr.frozen? ⟨B, k * 5 + j, none⟩ = false := by
  obtain ⟨h1, h2⟩ := h.1 (k * 5 + j) (by omega)
  exact ⟨Option.isSome_iff_exists.1 h1, h2⟩
theorem own_below {w w' : World} {B n k : Nat} {Z : Nat → Nat → Int} (h : Own5 w B n Z k) (hB : B < w.heap.size) (hb : Below w.heap.size w w') : Own5 w' B n Z k :=
  ⟨fun i hi => by rw [hb.cell (p := ⟨B, i, none⟩) hB, hb.frozen (p := ⟨B, i, none⟩) hB]; exact h.1 i hi, fun k' j hk hj => by rw [hb.cell (p := ⟨B, k' * 5 + j, none⟩) hB]; exact h.2 k' j hk hj⟩
def put5 (w : World) (B k : Nat) (Z : Nat → Nat → Int) : World :=
  ((((w.setCell ⟨B, k * 5, none⟩ (.int .i64 (Z k 0))).setCell ⟨B, k * 5 + 1, none⟩ (.int .i64 (Z k 1))).setCell ⟨B, k * 5 + 2, none⟩ (.int .i64 (Z k 2))).setCell ⟨B, k * 5 + 3, none⟩ (.int .i64 (Z k 3))).setCell ⟨B, k * 5 + 4, none⟩ (.int .i64 (Z k 4))
theorem put5_cells (w : World) (B k : Nat) (Z : Nat → Nat → Int) : put5 w B k Z = w.setCells B (k * 5) [.int .i64 (Z k 0), .int .i64 (Z k 1), .int .i64 (Z k 2), .int .i64 (Z k 3), .int .i64 (Z k 4)] := rfl
theorem own_put {w : World} {B n k : Nat} {Z : Nat → Nat → Int} (h : Own5 w B n Z k) (hk : k < n) : Own5 (put5 w B k Z) B n Z (k + 1) := by
  have hin : ∀ j, j < 5 → (put5 w B k Z).cell? ⟨B, k * 5 + j, none⟩ = some (.int .i64 (Z k j)) := by
    intro j hj
    rw [put5_cells]
    have := World.cell?_setCells_in B [.int .i64 (Z k 0), .int .i64 (Z k 1), .int .i64 (Z k 2), .int .i64 (Z k 3), .int .i64 (Z k 4)] (k * 5) w (fun j' hj' => (h.1 (k * 5 + j') (by simp at hj'; omega)).1) j (by simpa using hj)
    rw [this]
    match j, hj with
    | 0, _ => rfl
    | 1, _ => rfl
    | 2, _ => rfl
    | 3, _ => rfl
    | 4, _ => rfl
  have hout : ∀ i, (i < k * 5 ∨ k * 5 + 5 ≤ i) → (put5 w B k Z).cell? ⟨B, i, none⟩ = w.cell? ⟨B, i, none⟩ := by
    intro i hi
    rw [put5_cells]
    exact World.cell?_setCells_out B _ (k * 5) w ⟨B, i, none⟩ (fun _ _ => by simpa using hi)
  refine ⟨fun i hi => ⟨?_, ?_⟩, fun k' j hk' hj => ?_⟩
  · by_cases hc : i < k * 5 ∨ k * 5 + 5 ≤ i
    · rw [hout i hc]; exact (h.1 i hi).1
    · have := hin (i - k * 5) (by omega)
      rw [show k * 5 + (i - k * 5) = i by omega] at this
      rw [this]; rfl
  · rw [put5_cells, World.frozen?_setCells]; exact (h.1 i hi).2
  · by_cases hc : k' = k
    · subst hc; exact hin j hj
    · rw [hout _ (by omega)]; exact h.2 k' j (by omega) hj
theorem toList (b o : Nat) (n cap : Nat) (Z : Nat → Nat → Int) (hn : n ≤ 1048576) (w : World) (hb : b < w.heap.size)
    (hr : ∀ k j, k < n → j < 5 → w.cell? ⟨b, o + k * 5 + j, none⟩ = some (.int .i64 (Z k j))) :
    Calls Tryz.prog 44 #[.slice (some ⟨b, o, none⟩) n cap] w fun e w' => e = .returned (.slice (some ⟨w.heap.size, 0, none⟩) n n) ∧ Own5 w' w.heap.size n Z n ∧ w.heap.size < w'.heap.size ∧ Below w.heap.size w w' := by
  have hmk := make5 n hn
  have HR : Hid (∀ k j, k < n → j < 5 → w.cell? ⟨b, o + k * 5 + j, none⟩ = some (.int .i64 (Z k j))) := hr
  clear hr
  go_enter Tryz.func44, Tryz.ntmps44
  go_wp2
  go_loopw [4] (fun i wr => ∃ k : Nat, k ≤ n ∧ i = .int .i64 k ∧ Own5 wr w.heap.size n Z k ∧ w.heap.size < wr.heap.size ∧ Below w.heap.size w wr) (fun i _ => n - (intOf i).toNat)
  case atStart => exact ⟨0, Nat.zero_le _, rfl, ⟨fun i hi => by simp [size_madeCells, hi], fun _ _ h => absurd h (by omega)⟩, by simp, (Below.refl _ _).alloc (by simp) _⟩
  case round =>
    obtain ⟨k, hk, rfl, hown, hsz, hbel⟩ := hrel
    have c0 : k < n → wr.cell? ⟨b, o + k * 5, none⟩ = some (.int .i64 (Z k 0)) := fun h => (hbel.cell (by exact hb)).trans (HR.out k 0 h (by omega))
    have c1 : k < n → wr.cell? ⟨b, o + k * 5 + 1, none⟩ = some (.int .i64 (Z k 1)) := fun h => (hbel.cell (by exact hb)).trans (HR.out k 1 h (by omega))
    have c2 : k < n → wr.cell? ⟨b, o + k * 5 + 2, none⟩ = some (.int .i64 (Z k 2)) := fun h => (hbel.cell (by exact hb)).trans (HR.out k 2 h (by omega))
    have c3 : k < n → wr.cell? ⟨b, o + k * 5 + 3, none⟩ = some (.int .i64 (Z k 3)) := fun h => (hbel.cell (by exact hb)).trans (HR.out k 3 h (by omega))
    have c4 : k < n → wr.cell? ⟨b, o + k * 5 + 4, none⟩ = some (.int .i64 (Z k 4)) := fun h => (hbel.cell (by exact hb)).trans (HR.out k 4 h (by omega))
    clear hmk
    go_wp2_with fail
    · refine (toWalker _ _ _ _ _ _).mono ?_
      rintro e w1 ⟨rfl, hb1⟩
      have hlt : k < n := by assumption
      have hown1 := own_below hown hsz hb1
      have hsz1 : w.heap.size < w1.heap.size := Nat.lt_of_lt_of_le hsz hb1.size
      have hbel1 : Below w.heap.size w w1 := hbel.trans (hb1.mono (Nat.le_of_lt hsz))
      clear hown hb1 hbel c0 c1 c2 c3 c4
      obtain ⟨⟨v0, d0⟩, f0⟩ := own_cell hown1 hlt 0 (by omega)
      obtain ⟨⟨v1, d1⟩, f1⟩ := own_cell hown1 hlt 1 (by omega)
      obtain ⟨⟨v2, d2⟩, f2⟩ := own_cell hown1 hlt 2 (by omega)
      obtain ⟨⟨v3, d3⟩, f3⟩ := own_cell hown1 hlt 3 (by omega)
      obtain ⟨⟨v4, d4⟩, f4⟩ := own_cell hown1 hlt 4 (by omega)
      simp only [Nat.add_zero] at d0 f0
      go_wp2
      go_roundw
      case rel => exact ⟨k + 1, by omega, by go_num, own_put hown1 hlt, by simpa [World.setCell] using hsz1, ((((hbel1.setCell (Nat.le_refl _) _).setCell (Nat.le_refl _) _).setCell (Nat.le_refl _) _).setCell (Nat.le_refl _) _).setCell (Nat.le_refl _) _⟩
      case measure => simp [intOf]; omega
    · have : k = n := by omega
      subst this
      go_ret
      exact ⟨rfl, hown, hsz, hbel⟩
theorem toList0 (a : Option Addr) (cap : Nat) (Z : Nat → Nat → Int) (w : World) :
    Calls Tryz.prog 44 #[.slice a 0 cap] w fun e w' => e = .returned (.slice (some ⟨w.heap.size, 0, none⟩) 0 0) ∧ Own5 w' w.heap.size 0 Z 0 ∧ w.heap.size < w'.heap.size ∧ Below w.heap.size w w' := by
  have hmk : ∀ w : World, (Instr.makeSlice 32 (.int .i64 0) (.int .i64 0)).run Tryz.prog w = .ok (.slice (some ⟨w.heap.size, 0, none⟩) 0 0) (w.alloc (.cells (madeCells #[.int .i64 0, .int .i64 0, .int .i64 0, .int .i64 0, .int .i64 0] 0) 54)) := fun w => make5 0 (by omega) w
  go_enter Tryz.func44, Tryz.ntmps44
  go_wp2
  refine wp_loop_rounds 1 ?_
  rw [rounds_succ]
  go_wp2
  go_ret
  exact ⟨rfl, ⟨fun i hi => absurd hi (by omega), fun _ _ h => absurd h (by omega)⟩, by simp, (Below.refl _ _).alloc (by simp) _⟩
end Go.Proofs.YthbkjfkkdaheoaaGreatDoor
