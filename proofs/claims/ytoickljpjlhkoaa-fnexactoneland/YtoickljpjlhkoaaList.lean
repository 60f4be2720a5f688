/- The walks over lists of walkers: the copy, the size, the comparison; conditions: the list lies in memory as a row of structs of five integers. -/
import Derived.Test.YtoickljpjlhkoaaWalks4
import Derived.LoopTactic
import Derived.Deep.OwnRows
import Derived.Laws.IdiomCopy
namespace Go.Proofs.Ytoickljpjlhkoaa
open Go.RowKit Go.Deep
set_option linter.unusedVariables false

theorem eqWalker (i a n s l : Int) (w : World) :
    Calls Try.prog 65 #[.agg #[.int .i64 i, .int .i64 a, .int .i64 n, .int .i64 s, .int .i64 l], .agg #[.int .i64 i, .int .i64 a, .int .i64 n, .int .i64 s, .int .i64 l]] w fun e w' => e = .returned (.bool true) ∧ Below w.heap.size w w' := by
  go_enter Try.func65, Try.ntmps65
  go_wp2
  go_ret
  exact ⟨rfl, by repeat (first | exact Below.refl _ _ | refine bthen ?_ (by assumption) | apply Below.drew | apply bdrewN | refine Below.alloc ?_ (by simp) _)⟩

theorem Try.info50 : (Try.prog.info? 50).map (fun i => (i.zero, i.size, i.bytes)) = some (some (.agg #[.int .i64 0, .int .i64 0, .int .i64 0, .int .i64 0, .int .i64 0]), 5, 40) := by kernel_rfl

theorem make5 (n : Nat) (hn : n ≤ 1048576) (w : World) :
    (Instr.makeSlice 60 (.int .i64 (n : Int)) (.int .i64 (n : Int))).run Try.prog w = .ok (.slice (some ⟨w.heap.size, 0, none⟩) n n) (w.alloc (.cells (madeCells #[.int .i64 0, .int .i64 0, .int .i64 0, .int .i64 0, .int .i64 0] (n * 5)) 50)) := by
  obtain ⟨i, hi, hzz⟩ := Option.map_eq_some_iff.1 Try.info50
  simp only [Prod.mk.injEq] at hzz
  obtain ⟨hz, hs, hb⟩ := hzz
  have := run_make (P := Try.prog) w 60 50 i _ Try.underlying60 hi hz .i64 .i64 n n (by omega) (by omega) (by rw [hb]; omega) (by omega)
  rw [this, hs]
  rfl

/-- Block B of wr is a row of n structs of five integers of the call's own, of which the first k hold Z's. -/
def Own5 (wr : World) (B n : Nat) (Z : Nat → Nat → Int) (k : Nat) : Prop :=
  (∀ i, i < n * 5 → (wr.cell? ⟨B, i, none⟩).isSome = true ∧ wr.frozen? ⟨B, i, none⟩ = false) ∧ ∀ k' j, k' < k → j < 5 → wr.cell? ⟨B, k' * 5 + j, none⟩ = some (.int .i64 (Z k' j))

theorem own_cell {wr : World} {B n k : Nat} {Z : Nat → Nat → Int} (h : Own5 wr B n Z k) (hk : k < n) (j : Nat) (hj : j < 5) : (∃ v, wr.cell? ⟨B, k * 5 + j, none⟩ = some v) ∧ wr.frozen? ⟨B, k * 5 + j, none⟩ = false := by
  obtain ⟨h1, h2⟩ := h.1 (k * 5 + j) (by omega)
  exact ⟨Option.isSome_iff_exists.1 h1, h2⟩

theorem own_below {w w' : World} {B n k : Nat} {Z : Nat → Nat → Int} (h : Own5 w B n Z k) (hB : B < w.heap.size) (hb : Below w.heap.size w w') : Own5 w' B n Z k :=
  ⟨fun i hi => by rw [hb.cell (p := ⟨B, i, none⟩) hB, hb.frozen (p := ⟨B, i, none⟩) hB]; exact h.1 i hi, fun k' j hk hj => by rw [hb.cell (p := ⟨B, k' * 5 + j, none⟩) hB]; exact h.2 k' j hk hj⟩

def put5 (w : World) (B k : Nat) (Z : Nat → Nat → Int) : World :=
  ((((w.setCell ⟨B, k * 5, none⟩ (.int .i64 (Z k 0))).setCell ⟨B, k * 5 + 1, none⟩ (.int .i64 (Z k 1))).setCell ⟨B, k * 5 + 2, none⟩ (.int .i64 (Z k 2))).setCell ⟨B, k * 5 + 3, none⟩ (.int .i64 (Z k 3))).setCell ⟨B, k * 5 + 4, none⟩ (.int .i64 (Z k 4))

theorem put5_cells (w : World) (B k : Nat) (Z : Nat → Nat → Int) : put5 w B k Z = w.setCells B (k * 5) [.int .i64 (Z k 0), .int .i64 (Z k 1), .int .i64 (Z k 2), .int .i64 (Z k 3), .int .i64 (Z k 4)] := rfl

theorem own_put {w : World} {B n k : Nat} {Z : Nat → Nat → Int} (h : Own5 w B n Z k) (hk : k < n) : Own5 (put5 w B k Z) B n Z (k + 1) := by
  have hin : ∀ j, j < 5 → (put5 w B k Z).cell? ⟨B, k * 5 + j, none⟩ = some (.int .i64 (Z k j)) := by
    intro j hj
    rw [put5_cells]
    have := World.cell?_setCells_in B [.int .i64 (Z k 0), .int .i64 (Z k 1), .int .i64 (Z k 2), .int .i64 (Z k 3), .int .i64 (Z k 4)] (k * 5) w (fun j' hj' => (h.1 (k * 5 + j') (by simp at hj'; omega)).1) j (by simpa using hj)
    rw [this]
    match j, hj with
    | 0, _ => rfl
    | 1, _ => rfl
    | 2, _ => rfl
    | 3, _ => rfl
    | 4, _ => rfl
  have hout : ∀ i, (i < k * 5 ∨ k * 5 + 5 ≤ i) → (put5 w B k Z).cell? ⟨B, i, none⟩ = w.cell? ⟨B, i, none⟩ := by
    intro i hi
    rw [put5_cells]
    exact World.cell?_setCells_out B _ (k * 5) w ⟨B, i, none⟩ (fun _ _ => by simpa using hi)
  refine ⟨fun i hi => ⟨?_, ?_⟩, fun k' j hk' hj => ?_⟩
  · by_cases hc : i < k * 5 ∨ k * 5 + 5 ≤ i
    · rw [hout i hc]; exact (h.1 i hi).1
    · have := hin (i - k * 5) (by omega)
      rw [show k * 5 + (i - k * 5) = i by omega] at this
      rw [this]; rfl
  · rw [put5_cells, World.frozen?_setCells]; exact (h.1 i hi).2
  · by_cases hc : k' = k
    · subst hc; exact hin j hj
    · rw [hout _ (by omega)]; exact h.2 k' j (by omega) hj

end Go.Proofs.Ytoickljpjlhkoaa
