/- The walks over lists of parcels: the copy, the size, the comparison; conditions: the list lies in memory as a row of structs of eight integers. -/
import Derived.Test.YtkobiniogigloaaPcl1
import Derived.Test.YtkobiniogigloaaOpen8
import Derived.LoopTactic
import Derived.Deep.OwnRows
import Derived.Laws.IdiomCopy
namespace Go.Proofs.Ytkobiniogigloaa
open Go.RowKit Go.Deep
set_option linter.unusedVariables false

theorem Try.info43 : (Try.prog.info? 43).map (fun i => (i.zero, i.size, i.bytes)) = some (some (.agg #[.int .i64 0, .int .i64 0, .int .i64 0, .int .i64 0, .int .i64 0, .int .i64 0, .int .i64 0, .int .i64 0]), 8, 64) := by kernel_rfl

theorem make8 (n : Nat) (hn : n ≤ 1048576) (w : World) :
    (Instr.makeSlice 25 (.int .i64 (n : Int)) (.int .i64 (n : Int))).run Try.prog w = .ok (.slice (some ⟨w.heap.size, 0, none⟩) n n) (w.alloc (.cells (madeCells #[.int .i64 0, .int .i64 0, .int .i64 0, .int .i64 0, .int .i64 0, .int .i64 0, .int .i64 0, .int .i64 0] (n * 8)) 43)) := by
  obtain ⟨i, hi, hzz⟩ := Option.map_eq_some_iff.1 Try.info43
  simp only [Prod.mk.injEq] at hzz
  obtain ⟨hz, hs, hb⟩ := hzz
  have := run_make (P := Try.prog) w 25 43 i _ Try.underlying25 hi hz .i64 .i64 n n (by omega) (by omega) (by rw [hb]; omega) (by omega)
  rw [this, hs]
  rfl

/-- Block B of wr is a row of n structs of eight integers of the call's own, of which the first k hold Z's. -/
def Own8 (wr : World) (B n : Nat) (Z : Nat → Nat → Int) (k : Nat) : Prop :=
  (∀ i, i < n * 8 → (wr.cell? ⟨B, i, none⟩).isSome = true ∧ wr.frozen? ⟨B, i, none⟩ = false) ∧ ∀ k' j, k' < k → j < 8 → wr.cell? ⟨B, k' * 8 + j, none⟩ = some (.int .i64 (Z k' j))

theorem own_cell {wr : World} {B n k : Nat} {Z : Nat → Nat → Int} (h : Own8 wr B n Z k) (hk : k < n) (j : Nat) (hj : j < 8) : (∃ v, wr.cell? ⟨B, k * 8 + j, none⟩ = some v) ∧ wr.frozen? ⟨B, k * 8 + j, none⟩ = false := by
  obtain ⟨h1, h2⟩ := h.1 (k * 8 + j) (by omega)
  exact ⟨Option.isSome_iff_exists.1 h1, h2⟩

theorem own_below {w w' : World} {B n k : Nat} {Z : Nat → Nat → Int} (h : Own8 w B n Z k) (hB : B < w.heap.size) (hb : Below w.heap.size w w') : Own8 w' B n Z k :=
  ⟨fun i hi => by rw [hb.cell (p := ⟨B, i, none⟩) hB, hb.frozen (p := ⟨B, i, none⟩) hB]; exact h.1 i hi, fun k' j hk hj => by rw [hb.cell (p := ⟨B, k' * 8 + j, none⟩) hB]; exact h.2 k' j hk hj⟩

def put8 (w : World) (B k : Nat) (Z : Nat → Nat → Int) : World :=
  ((((((((w.setCell ⟨B, k * 8, none⟩ (.int .i64 (Z k 0))).setCell ⟨B, k * 8 + 1, none⟩ (.int .i64 (Z k 1))).setCell ⟨B, k * 8 + 2, none⟩ (.int .i64 (Z k 2))).setCell ⟨B, k * 8 + 3, none⟩ (.int .i64 (Z k 3))).setCell ⟨B, k * 8 + 4, none⟩ (.int .i64 (Z k 4))).setCell ⟨B, k * 8 + 5, none⟩ (.int .i64 (Z k 5))).setCell ⟨B, k * 8 + 6, none⟩ (.int .i64 (Z k 6))).setCell ⟨B, k * 8 + 7, none⟩ (.int .i64 (Z k 7)))

theorem put8_cells (w : World) (B k : Nat) (Z : Nat → Nat → Int) : put8 w B k Z = w.setCells B (k * 8) [.int .i64 (Z k 0), .int .i64 (Z k 1), .int .i64 (Z k 2), .int .i64 (Z k 3), .int .i64 (Z k 4), .int .i64 (Z k 5), .int .i64 (Z k 6), .int .i64 (Z k 7)] := rfl

theorem own_put {w : World} {B n k : Nat} {Z : Nat → Nat → Int} (h : Own8 w B n Z k) (hk : k < n) : Own8 (put8 w B k Z) B n Z (k + 1) := by
  have hin : ∀ j, j < 8 → (put8 w B k Z).cell? ⟨B, k * 8 + j, none⟩ = some (.int .i64 (Z k j)) := by
    intro j hj
    rw [put8_cells]
    have := World.cell?_setCells_in B [.int .i64 (Z k 0), .int .i64 (Z k 1), .int .i64 (Z k 2), .int .i64 (Z k 3), .int .i64 (Z k 4), .int .i64 (Z k 5), .int .i64 (Z k 6), .int .i64 (Z k 7)] (k * 8) w (fun j' hj' => (h.1 (k * 8 + j') (by simp at hj'; omega)).1) j (by simpa using hj)
    rw [this]
    match j, hj with
    | 0, _ => rfl
    | 1, _ => rfl
    | 2, _ => rfl
    | 3, _ => rfl
    | 4, _ => rfl
    | 5, _ => rfl
    | 6, _ => rfl
    | 7, _ => rfl
  have hout : ∀ i, (i < k * 8 ∨ k * 8 + 8 ≤ i) → (put8 w B k Z).cell? ⟨B, i, none⟩ = w.cell? ⟨B, i, none⟩ := by
    intro i hi
    rw [put8_cells]
    exact World.cell?_setCells_out B _ (k * 8) w ⟨B, i, none⟩ (fun _ _ => by simpa using hi)
  refine ⟨fun i hi => ⟨?_, ?_⟩, fun k' j hk' hj => ?_⟩
  · by_cases hc : i < k * 8 ∨ k * 8 + 8 ≤ i
    · rw [hout i hc]; exact (h.1 i hi).1
    · have := hin (i - k * 8) (by omega)
      rw [show k * 8 + (i - k * 8) = i by omega] at this
      rw [this]; rfl
  · rw [put8_cells, World.frozen?_setCells]; exact (h.1 i hi).2
  · by_cases hc : k' = k
    · subst hc; exact hin j hj
    · rw [hout _ (by omega)]; exact h.2 k' j (by omega) hj

end Go.Proofs.Ytkobiniogigloaa
