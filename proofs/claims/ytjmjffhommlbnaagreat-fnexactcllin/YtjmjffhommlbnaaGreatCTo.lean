/- Copies of cells, as the laws make them: the copy holds what was there, in memory of its own; conditions: the cell lies in memory. -/
import Derived.Test.YtjmjffhommlbnaaGreatPcl1
import Derived.Test.YtjmjffhommlbnaaGreatCell0
import Derived.LoopTactic
import Derived.Deep.OwnRows
import Derived.Laws.IdiomCopy
import Derived.Test.YtjmjffhommlbnaaGreatCSz
import Derived.Test.YtjmjffhommlbnaaGreatWalksD
namespace Go.Proofs.YtjmjffhommlbnaaGreat.P8
open Go.RowKit Go.Deep
set_option linter.unusedVariables false

theorem eqWalker (i a n s l : Int) (w : World) :
    Calls Tryz.prog 59 #[.agg #[.int .i64 i, .int .i64 a, .int .i64 n, .int .i64 s, .int .i64 l], .agg #[.int .i64 i, .int .i64 a, .int .i64 n, .int .i64 s, .int .i64 l]] w fun e w' => e = .returned (.bool true) ∧ Below w.heap.size w w' := by
  go_enter Tryz.func59, Tryz.ntmps59
  go_wp2
  go_ret
  exact ⟨rfl, by repeat (first | exact Below.refl _ _ | refine bthen ?_ (by assumption) | apply Below.drew | apply bdrewN | refine Below.alloc ?_ (by simp) _)⟩

set_option maxHeartbeats 1000000 in
theorem eqParcel (pn pk i a n s l pc : Int) (w : World) :
    Calls Tryz.prog 76 #[.agg #[.int .i64 pn, .int .i64 pk, .int .i64 i, .int .i64 a, .int .i64 n, .int .i64 s, .int .i64 l, .int .i64 pc], .agg #[.int .i64 pn, .int .i64 pk, .int .i64 i, .int .i64 a, .int .i64 n, .int .i64 s, .int .i64 l, .int .i64 pc]] w fun e w' => e = .returned (.bool true) ∧ Below w.heap.size w w' := by
  go_enter Tryz.func76, Tryz.ntmps76
  go_wp2_with (go_at_call 59; refine (eqWalker _ _ _ _ _ _).mono ?_; rintro e w1 ⟨rfl, hb⟩; obtain ⟨hc, hf⟩ := bcell hb)
  go_ret
  exact ⟨rfl, by repeat (first | exact Below.refl _ _ | refine bthen ?_ (by assumption) | refine Below.alloc ?_ (by simp <;> omega) _)⟩

theorem szList (a : Option Addr) (n cap : Nat) (hn : (n : Int) ≤ 9223372036854775807) (w : World) :
    Calls Tryz.prog 39 #[.slice a n cap, .int .i64 1048576] w fun e w' => e = .returned (.int .i64 (if (n : Int) ≤ 1048576 then 1048576 - n else -1)) ∧ Below w.heap.size w w' := by
  by_cases h : (n : Int) ≤ 1048576
  · go_enter Tryz.func39, Tryz.ntmps39
    go_wp2
    all_goals (go_ret; exact ⟨by simp <;> omega, Below.refl _ _⟩)
  · go_enter Tryz.func39, Tryz.ntmps39
    go_wp2
    all_goals (go_ret; exact ⟨by simp <;> omega, Below.refl _ _⟩)

theorem Tryz.info45 : (Tryz.prog.info? 45).map (fun i => (i.zero, i.size, i.bytes)) = some (some (.agg #[.int .i64 0, .int .i64 0, .int .i64 0, .int .i64 0, .int .i64 0, .int .i64 0, .int .i64 0, .int .i64 0]), 8, 64) := by kernel_rfl

theorem make8 (n : Nat) (hn : n ≤ 1048576) (w : World) :
    (Instr.makeSlice 81 (.int .i64 (n : Int)) (.int .i64 (n : Int))).run Tryz.prog w = .ok (.slice (some ⟨w.heap.size, 0, none⟩) n n) (w.alloc (.cells (madeCells #[.int .i64 0, .int .i64 0, .int .i64 0, .int .i64 0, .int .i64 0, .int .i64 0, .int .i64 0, .int .i64 0] (n * 8)) 45)) := by
  obtain ⟨i, hi, hzz⟩ := Option.map_eq_some_iff.1 Tryz.info45
  simp only [Prod.mk.injEq] at hzz
  obtain ⟨hz, hs, hb⟩ := hzz
  have := run_make (P := Tryz.prog) w 81 45 i _ Tryz.underlying81 hi hz .i64 .i64 n n (by omega) (by omega) (by rw [hb]; omega) (by omega)
  rw [this, hs]
  rfl

/-- Block B of wr is a row of n structs of eight integers of the call's own, of which the first k hold Z's. -/
def Own8 (wr : World) (B n : Nat) (Z : Nat → Nat → Int) (k : Nat) : Prop :=
  (∀ i, i < n * 8 → (wr.cell? ⟨B, i, none⟩).isSome = true ∧ wr.frozen? ⟨B, i, none⟩ = false) ∧ ∀ k' j, k' < k → j < 8 → wr.cell? ⟨B, k' * 8 + j, none⟩ = some (.int .i64 (Z k' j))

theorem own_cell {wr : World} {B n k : Nat} {Z : Nat → Nat → Int} (h : Own8 wr B n Z k) (hk : k < n) (j : Nat) (hj : j < 8) : (∃ v, wr.cell? ⟨B, k * 8 + j, none⟩ = some v) ∧ wr.frozen? ⟨B, k * 8 + j, none⟩ = false := by
  obtain ⟨h1, h2⟩ := h.1 (k * 8 + j) (by omega)
  exact ⟨Option.isSome_iff_exists.1 h1, h2⟩

theorem own_below {w w' : World} {B n k : Nat} {Z : Nat → Nat → Int} (h : Own8 w B n Z k) (hB : B < w.heap.size) (hb : Below w.heap.size w w') : Own8 w' B n Z k :=
  ⟨fun i hi => by rw [hb.cell (p := ⟨B, i, none⟩) hB, hb.frozen (p := ⟨B, i, none⟩) hB]; exact h.1 i hi, fun k' j hk hj => by rw [hb.cell (p := ⟨B, k' * 8 + j, none⟩) hB]; exact h.2 k' j hk hj⟩

def put8 (w : World) (B k : Nat) (Z : Nat → Nat → Int) : World :=
  ((((((((w.setCell ⟨B, k * 8, none⟩ (.int .i64 (Z k 0))).setCell ⟨B, k * 8 + 1, none⟩ (.int .i64 (Z k 1))).setCell ⟨B, k * 8 + 2, none⟩ (.int .i64 (Z k 2))).setCell ⟨B, k * 8 + 3, none⟩ (.int .i64 (Z k 3))).setCell ⟨B, k * 8 + 4, none⟩ (.int .i64 (Z k 4))).setCell ⟨B, k * 8 + 5, none⟩ (.int .i64 (Z k 5))).setCell ⟨B, k * 8 + 6, none⟩ (.int .i64 (Z k 6))).setCell ⟨B, k * 8 + 7, none⟩ (.int .i64 (Z k 7)))

theorem put8_cells (w : World) (B k : Nat) (Z : Nat → Nat → Int) : put8 w B k Z = w.setCells B (k * 8) [.int .i64 (Z k 0), .int .i64 (Z k 1), .int .i64 (Z k 2), .int .i64 (Z k 3), .int .i64 (Z k 4), .int .i64 (Z k 5), .int .i64 (Z k 6), .int .i64 (Z k 7)] := rfl

theorem own_put {w : World} {B n k : Nat} {Z : Nat → Nat → Int} (h : Own8 w B n Z k) (hk : k < n) : Own8 (put8 w B k Z) B n Z (k + 1) := by
  have hin : ∀ j, j < 8 → (put8 w B k Z).cell? ⟨B, k * 8 + j, none⟩ = some (.int .i64 (Z k j)) := by
    intro j hj
    rw [put8_cells]
    have := World.cell?_setCells_in B [.int .i64 (Z k 0), .int .i64 (Z k 1), .int .i64 (Z k 2), .int .i64 (Z k 3), .int .i64 (Z k 4), .int .i64 (Z k 5), .int .i64 (Z k 6), .int .i64 (Z k 7)] (k * 8) w (fun j' hj' => (h.1 (k * 8 + j') (by simp at hj'; omega)).1) j (by simpa using hj)
    rw [this]
    match j, hj with
    | 0, _ => rfl
    | 1, _ => rfl
    | 2, _ => rfl
    | 3, _ => rfl
    | 4, _ => rfl
    | 5, _ => rfl
    | 6, _ => rfl
    | 7, _ => rfl
  have hout : ∀ i, (i < k * 8 ∨ k * 8 + 8 ≤ i) → (put8 w B k Z).cell? ⟨B, i, none⟩ = w.cell? ⟨B, i, none⟩ := by
    intro i hi
    rw [put8_cells]
    exact World.cell?_setCells_out B _ (k * 8) w ⟨B, i, none⟩ (fun _ _ => by simpa using hi)
  refine ⟨fun i hi => ⟨?_, ?_⟩, fun k' j hk' hj => ?_⟩
  · by_cases hc : i < k * 8 ∨ k * 8 + 8 ≤ i
    · rw [hout i hc]; exact (h.1 i hi).1
    · have := hin (i - k * 8) (by omega)
      rw [show k * 8 + (i - k * 8) = i by omega] at this
      rw [this]; rfl
  · rw [put8_cells, World.frozen?_setCells]; exact (h.1 i hi).2
  · by_cases hc : k' = k
    · subst hc; exact hin j hj
    · rw [hout _ (by omega)]; exact h.2 k' j (by omega) hj

theorem toList (b o : Nat) (n cap : Nat) (Z : Nat → Nat → Int) (hn : n ≤ 1048576) (w : World) (hb : b < w.heap.size)
    (hr : ∀ k j, k < n → j < 8 → w.cell? ⟨b, o + k * 8 + j, none⟩ = some (.int .i64 (Z k j))) :
    Calls Tryz.prog 49 #[.slice (some ⟨b, o, none⟩) n cap] w fun e w' => e = .returned (.slice (some ⟨w.heap.size, 0, none⟩) n n) ∧ Own8 w' w.heap.size n Z n ∧ w.heap.size < w'.heap.size ∧ Below w.heap.size w w' := by
  have hmk := make8 n hn
  have HR : Hid (∀ k j, k < n → j < 8 → w.cell? ⟨b, o + k * 8 + j, none⟩ = some (.int .i64 (Z k j))) := hr
  clear hr
  go_enter Tryz.func49, Tryz.ntmps49
  go_wp2
  go_loopw [4] (fun i wr => ∃ k : Nat, k ≤ n ∧ i = .int .i64 k ∧ Own8 wr w.heap.size n Z k ∧ w.heap.size < wr.heap.size ∧ Below w.heap.size w wr) (fun i _ => n - (intOf i).toNat)
  case atStart => exact ⟨0, Nat.zero_le _, rfl, ⟨fun i hi => by simp [size_madeCells, hi], fun _ _ h => absurd h (by omega)⟩, by simp, (Below.refl _ _).alloc (by simp) _⟩
  case round =>
    obtain ⟨k, hk, rfl, hown, hsz, hbel⟩ := hrel
    have c0 : k < n → wr.cell? ⟨b, o + k * 8, none⟩ = some (.int .i64 (Z k 0)) := fun h => (hbel.cell (by exact hb)).trans (HR.out k 0 h (by omega))
    have c1 : k < n → wr.cell? ⟨b, o + k * 8 + 1, none⟩ = some (.int .i64 (Z k 1)) := fun h => (hbel.cell (by exact hb)).trans (HR.out k 1 h (by omega))
    have c2 : k < n → wr.cell? ⟨b, o + k * 8 + 2, none⟩ = some (.int .i64 (Z k 2)) := fun h => (hbel.cell (by exact hb)).trans (HR.out k 2 h (by omega))
    have c3 : k < n → wr.cell? ⟨b, o + k * 8 + 3, none⟩ = some (.int .i64 (Z k 3)) := fun h => (hbel.cell (by exact hb)).trans (HR.out k 3 h (by omega))
    have c4 : k < n → wr.cell? ⟨b, o + k * 8 + 4, none⟩ = some (.int .i64 (Z k 4)) := fun h => (hbel.cell (by exact hb)).trans (HR.out k 4 h (by omega))
    have c5 : k < n → wr.cell? ⟨b, o + k * 8 + 5, none⟩ = some (.int .i64 (Z k 5)) := fun h => (hbel.cell (by exact hb)).trans (HR.out k 5 h (by omega))
    have c6 : k < n → wr.cell? ⟨b, o + k * 8 + 6, none⟩ = some (.int .i64 (Z k 6)) := fun h => (hbel.cell (by exact hb)).trans (HR.out k 6 h (by omega))
    have c7 : k < n → wr.cell? ⟨b, o + k * 8 + 7, none⟩ = some (.int .i64 (Z k 7)) := fun h => (hbel.cell (by exact hb)).trans (HR.out k 7 h (by omega))
    clear hmk
    go_wp2_with fail
    · refine (toParcel _ _ _ _ _ _ _ _ _).mono ?_
      rintro e w1 ⟨rfl, hb1⟩
      have hlt : k < n := by assumption
      have hown1 := own_below hown hsz hb1
      have hsz1 : w.heap.size < w1.heap.size := Nat.lt_of_lt_of_le hsz hb1.size
      have hbel1 : Below w.heap.size w w1 := hbel.trans (hb1.mono (Nat.le_of_lt hsz))
      clear hown hb1 hbel c0 c1 c2 c3 c4 c5 c6 c7
      obtain ⟨⟨v0, d0⟩, f0⟩ := own_cell hown1 hlt 0 (by omega)
      obtain ⟨⟨v1, d1⟩, f1⟩ := own_cell hown1 hlt 1 (by omega)
      obtain ⟨⟨v2, d2⟩, f2⟩ := own_cell hown1 hlt 2 (by omega)
      obtain ⟨⟨v3, d3⟩, f3⟩ := own_cell hown1 hlt 3 (by omega)
      obtain ⟨⟨v4, d4⟩, f4⟩ := own_cell hown1 hlt 4 (by omega)
      obtain ⟨⟨v5, d5⟩, f5⟩ := own_cell hown1 hlt 5 (by omega)
      obtain ⟨⟨v6, d6⟩, f6⟩ := own_cell hown1 hlt 6 (by omega)
      obtain ⟨⟨v7, d7⟩, f7⟩ := own_cell hown1 hlt 7 (by omega)
      simp only [Nat.add_zero] at d0 f0
      go_wp2
      go_roundw
      case rel => exact ⟨k + 1, by omega, by go_num, own_put hown1 hlt, by simpa [World.setCell] using hsz1, ((((((((hbel1.setCell (Nat.le_refl _) _).setCell (Nat.le_refl _) _).setCell (Nat.le_refl _) _).setCell (Nat.le_refl _) _).setCell (Nat.le_refl _) _).setCell (Nat.le_refl _) _).setCell (Nat.le_refl _) _).setCell (Nat.le_refl _) _)⟩
      case measure => simp [intOf]; omega
    · have : k = n := by omega
      subst this
      go_ret
      exact ⟨rfl, hown, hsz, hbel⟩

theorem toList0 (a : Option Addr) (cap : Nat) (Z : Nat → Nat → Int) (w : World) :
    Calls Tryz.prog 49 #[.slice a 0 cap] w fun e w' => e = .returned (.slice (some ⟨w.heap.size, 0, none⟩) 0 0) ∧ Own8 w' w.heap.size 0 Z 0 ∧ w.heap.size < w'.heap.size ∧ Below w.heap.size w w' := by
  have hmk : ∀ w : World, (Instr.makeSlice 81 (.int .i64 0) (.int .i64 0)).run Tryz.prog w = .ok (.slice (some ⟨w.heap.size, 0, none⟩) 0 0) (w.alloc (.cells (madeCells #[.int .i64 0, .int .i64 0, .int .i64 0, .int .i64 0, .int .i64 0, .int .i64 0, .int .i64 0, .int .i64 0] 0) 45)) := fun w => make8 0 (by omega) w
  go_enter Tryz.func49, Tryz.ntmps49
  go_wp2
  refine wp_loop_rounds 1 ?_
  rw [rounds_succ]
  go_wp2
  go_ret
  exact ⟨rfl, ⟨fun i hi => absurd hi (by omega), fun _ _ h => absurd h (by omega)⟩, by simp, (Below.refl _ _).alloc (by simp) _⟩
end Go.Proofs.YtjmjffhommlbnaaGreat.P8
namespace Go.Proofs.YtjmjffhommlbnaaGreat.P8
open Go.RowKit Go.Deep
set_option linter.unusedVariables false

set_option maxHeartbeats 8000000 in
theorem eqList (b1 o1 cap1 b2 o2 cap2 n : Nat) (Z : Nat → Nat → Int) (hn : n ≤ 2000000) (w : World) (hb1 : b1 < w.heap.size) (hb2 : b2 < w.heap.size)
    (h1 : ∀ k j, k < n → j < 8 → w.cell? ⟨b1, o1 + k * 8 + j, none⟩ = some (.int .i64 (Z k j))) (h2 : ∀ k j, k < n → j < 8 → w.cell? ⟨b2, o2 + k * 8 + j, none⟩ = some (.int .i64 (Z k j))) :
    Calls Tryz.prog 60 #[.slice (some ⟨b1, o1, none⟩) n cap1, .slice (some ⟨b2, o2, none⟩) n cap2] w fun e w' => e = .returned (.bool true) ∧ Below w.heap.size w w' := by
  have H1 : Hid (∀ k j, k < n → j < 8 → w.cell? ⟨b1, o1 + k * 8 + j, none⟩ = some (.int .i64 (Z k j))) := h1
  have H2 : Hid (∀ k j, k < n → j < 8 → w.cell? ⟨b2, o2 + k * 8 + j, none⟩ = some (.int .i64 (Z k j))) := h2
  clear h1 h2
  go_enter Tryz.func60, Tryz.ntmps60
  go_wp2
  go_loopw [5] (fun i wr => ∃ k : Nat, k ≤ n ∧ i = .int .i64 k ∧ ((∀ b o, b < w.heap.size → wr.cell? ⟨b, o, none⟩ = w.cell? ⟨b, o, none⟩) ∧ w.heap.size ≤ wr.heap.size) ∧ Below w.heap.size w wr) (fun i _ => n - (intOf i).toNat)
  case atStart => exact ⟨0, Nat.zero_le _, rfl, ⟨fun _ _ _ => rfl, Nat.le_refl _⟩, Below.refl _ _⟩
  case round =>
    obtain ⟨k, hk, rfl, HS, BR⟩ := hrel
    by_cases hkn : k < n
    · have c10 : w.cell? ⟨b1, o1 + k * 8, none⟩ = some (.int .i64 (Z k 0)) := H1.out k 0 hkn (by omega)
      have c11 : w.cell? ⟨b1, o1 + k * 8 + 1, none⟩ = some (.int .i64 (Z k 1)) := H1.out k 1 hkn (by omega)
      have c12 : w.cell? ⟨b1, o1 + k * 8 + 2, none⟩ = some (.int .i64 (Z k 2)) := H1.out k 2 hkn (by omega)
      have c13 : w.cell? ⟨b1, o1 + k * 8 + 3, none⟩ = some (.int .i64 (Z k 3)) := H1.out k 3 hkn (by omega)
      have c14 : w.cell? ⟨b1, o1 + k * 8 + 4, none⟩ = some (.int .i64 (Z k 4)) := H1.out k 4 hkn (by omega)
      have c15 : w.cell? ⟨b1, o1 + k * 8 + 5, none⟩ = some (.int .i64 (Z k 5)) := H1.out k 5 hkn (by omega)
      have c16 : w.cell? ⟨b1, o1 + k * 8 + 6, none⟩ = some (.int .i64 (Z k 6)) := H1.out k 6 hkn (by omega)
      have c17 : w.cell? ⟨b1, o1 + k * 8 + 7, none⟩ = some (.int .i64 (Z k 7)) := H1.out k 7 hkn (by omega)
      have c20 : w.cell? ⟨b2, o2 + k * 8, none⟩ = some (.int .i64 (Z k 0)) := H2.out k 0 hkn (by omega)
      have c21 : w.cell? ⟨b2, o2 + k * 8 + 1, none⟩ = some (.int .i64 (Z k 1)) := H2.out k 1 hkn (by omega)
      have c22 : w.cell? ⟨b2, o2 + k * 8 + 2, none⟩ = some (.int .i64 (Z k 2)) := H2.out k 2 hkn (by omega)
      have c23 : w.cell? ⟨b2, o2 + k * 8 + 3, none⟩ = some (.int .i64 (Z k 3)) := H2.out k 3 hkn (by omega)
      have c24 : w.cell? ⟨b2, o2 + k * 8 + 4, none⟩ = some (.int .i64 (Z k 4)) := H2.out k 4 hkn (by omega)
      have c25 : w.cell? ⟨b2, o2 + k * 8 + 5, none⟩ = some (.int .i64 (Z k 5)) := H2.out k 5 hkn (by omega)
      have c26 : w.cell? ⟨b2, o2 + k * 8 + 6, none⟩ = some (.int .i64 (Z k 6)) := H2.out k 6 hkn (by omega)
      have c27 : w.cell? ⟨b2, o2 + k * 8 + 7, none⟩ = some (.int .i64 (Z k 7)) := H2.out k 7 hkn (by omega)
      go_wp2
      refine wp_region_held_drew (S := fun w' => (∀ b o, b < w.heap.size → w'.cell? ⟨b, o, none⟩ = w.cell? ⟨b, o, none⟩) ∧ w.heap.size ≤ w'.heap.size) (by kernel_rfl) HS ?_
      intro hHeld
      refine wpAnyH_take (i := 0) (v := .slice (some ⟨b1, o1, none⟩) n cap1) rfl (by kernel_rfl) (by kernel_rfl) (by kernel_rfl) (fun _ _ _ h => h) (Or.inl ⟨by rfl, ?_⟩) (by assumption) ?_
      · intro wx hSw; go_simp
      try simp only [Act.put, List.setIfInBounds_toArray, List.set_cons_zero, List.set_cons_succ, List.getElem_toArray, List.getElem_cons_zero]
      refine wpAnyH_take (i := 1) (v := .int .i64 (k : Int)) rfl (by kernel_rfl) (by kernel_rfl) (by kernel_rfl) (fun _ _ _ h => h) (Or.inl ⟨by rfl, ?_⟩) (by assumption) ?_
      · intro wx hSw; go_simp
      try simp only [Act.put, List.setIfInBounds_toArray, List.set_cons_zero, List.set_cons_succ, List.getElem_toArray, List.getElem_cons_zero, List.getElem_cons_succ]
      refine wpAnyH_take (i := 2) (v := .pointer (some ⟨b1, o1 + k * 8, none⟩)) rfl (by kernel_rfl) (by kernel_rfl) (by kernel_rfl) (fun _ _ _ h => h) (Or.inl ⟨by rfl, ?_⟩) (by assumption) ?_
      · intro wx hSw; go_simp
      try simp only [Act.put, List.setIfInBounds_toArray, List.set_cons_zero, List.set_cons_succ, List.getElem_toArray, List.getElem_cons_zero, List.getElem_cons_succ]
      refine wpAnyH_take (i := 3) (v := .agg #[.int .i64 (Z k 0), .int .i64 (Z k 1), .int .i64 (Z k 2), .int .i64 (Z k 3), .int .i64 (Z k 4), .int .i64 (Z k 5), .int .i64 (Z k 6), .int .i64 (Z k 7)]) rfl (by kernel_rfl) (by kernel_rfl) (by kernel_rfl) (fun _ _ _ h => h) (Or.inl ⟨by rfl, ?_⟩) (by assumption) ?_
      · intro wx hSw; go_simp
      try simp only [Act.put, List.setIfInBounds_toArray, List.set_cons_zero, List.set_cons_succ, List.getElem_toArray, List.getElem_cons_zero, List.getElem_cons_succ]
      refine wpAnyH_take (i := 4) (v := .slice (some ⟨b2, o2, none⟩) n cap2) rfl (by kernel_rfl) (by kernel_rfl) (by kernel_rfl) (fun _ _ _ h => h) (Or.inl ⟨by rfl, ?_⟩) (by assumption) ?_
      · intro wx hSw; go_simp
      try simp only [Act.put, List.setIfInBounds_toArray, List.set_cons_zero, List.set_cons_succ, List.getElem_toArray, List.getElem_cons_zero, List.getElem_cons_succ]
      refine wpAnyH_take (i := 5) (v := .int .i64 (k : Int)) rfl (by kernel_rfl) (by kernel_rfl) (by kernel_rfl) (fun _ _ _ h => h) (Or.inl ⟨by rfl, ?_⟩) (by assumption) ?_
      · intro wx hSw; go_simp
      try simp only [Act.put, List.setIfInBounds_toArray, List.set_cons_zero, List.set_cons_succ, List.getElem_toArray, List.getElem_cons_zero, List.getElem_cons_succ]
      refine wpAnyH_take (i := 6) (v := .pointer (some ⟨b2, o2 + k * 8, none⟩)) rfl (by kernel_rfl) (by kernel_rfl) (by kernel_rfl) (fun _ _ _ h => h) (Or.inl ⟨by rfl, ?_⟩) (by assumption) ?_
      · intro wx hSw; go_simp
      try simp only [Act.put, List.setIfInBounds_toArray, List.set_cons_zero, List.set_cons_succ, List.getElem_toArray, List.getElem_cons_zero, List.getElem_cons_succ]
      refine wpAnyH_take (i := 7) (v := .agg #[.int .i64 (Z k 0), .int .i64 (Z k 1), .int .i64 (Z k 2), .int .i64 (Z k 3), .int .i64 (Z k 4), .int .i64 (Z k 5), .int .i64 (Z k 6), .int .i64 (Z k 7)]) rfl (by kernel_rfl) (by kernel_rfl) (by kernel_rfl) (fun _ _ _ h => h) (Or.inl ⟨by rfl, ?_⟩) (by assumption) ?_
      · intro wx hSw; go_simp
      try simp only [Act.put, List.setIfInBounds_toArray, List.set_cons_zero, List.set_cons_succ, List.getElem_toArray, List.getElem_cons_zero, List.getElem_cons_succ]
      refine wpAnyH_ready (rs := [8]) (by kernel_rfl) (by simp) ?_
      refine AllReadyH.cons rfl (fun K hK => ?_) AllReadyH.nil
      go_simp
      go_wp2_with (go_at_call 76; refine (eqParcel _ _ _ _ _ _ _ _ _).mono ?_; rintro e w2 ⟨rfl, hbw2⟩)
      refine hK.out _ _ (keepS (by assumption) hbw2) (fun hHeld => ?_)
      clear hK K
      try simp only [Act.put, List.setIfInBounds_toArray, List.set_cons_zero, List.set_cons_succ, List.getElem_toArray, List.getElem_cons_zero, List.getElem_cons_succ]
      refine wpAnyH_take (i := 9) (v := .bool false) rfl (by kernel_rfl) (by kernel_rfl) (by kernel_rfl) (fun _ _ _ h => h) (Or.inl ⟨by rfl, ?_⟩) (by assumption) ?_
      · intro wx hSw; go_simp
      try simp only [Act.put, List.setIfInBounds_toArray, List.set_cons_zero, List.set_cons_succ, List.getElem_toArray, List.getElem_cons_zero, List.getElem_cons_succ]
      refine wpAnyH_done (by kernel_rfl) ?_ _
      go_wp2
      go_roundw
      case rel => exact ⟨k + 1, by omega, by go_num, by assumption, by repeat (first | exact BR | refine bthen ?_ (by assumption) | apply Below.drew)⟩
      case measure => simp [intOf]; omega
    · have : k = n := by omega
      subst this
      go_wp2
      go_ret
      exact ⟨rfl, by repeat (first | exact BR | refine bthen ?_ (by assumption) | apply Below.drew)⟩

theorem own_row {w : World} {B n : Nat} {Z : Nat → Nat → Int} (h : Own8 w B n Z n) : ∀ k j, k < n → j < 8 → w.cell? ⟨B, 0 + k * 8 + j, none⟩ = some (.int .i64 (Z k j)) := fun k j hk hj => by
  rw [Nat.zero_add]; exact h.2 k j hk hj

theorem toList_any (a : Option Addr) (n cap : Nat) (Z : Nat → Nat → Int) (hn : n ≤ 1048576) (w : World) (h : Row8 w a n Z) :
    Calls Tryz.prog 49 #[.slice a n cap] w fun e w' => e = .returned (.slice (some ⟨w.heap.size, 0, none⟩) n n) ∧ (∀ k j, k < n → j < 8 → w'.cell? ⟨w.heap.size, 0 + k * 8 + j, none⟩ = some (.int .i64 (Z k j))) ∧ w.heap.size < w'.heap.size ∧ Below w.heap.size w w' := by
  rcases h with rfl | ⟨b, o, rfl, hb, hr⟩
  · refine (toList0 a cap Z w).mono ?_
    rintro e w' ⟨he, ho, hs, hb⟩
    exact ⟨he, own_row ho, hs, hb⟩
  · refine (toList b o n cap Z hn w hb hr).mono ?_
    rintro e w' ⟨he, ho, hs, hb⟩
    exact ⟨he, own_row ho, hs, hb⟩

theorem row_below {w w' : World} {B : Nat} {a : Option Addr} {n : Nat} {Z : Nat → Nat → Int} (h : Row8 w a n Z) (hb : Below w.heap.size w w') : Row8 w' a n Z := by
  rcases h with rfl | ⟨b, o, rfl, hlt, hr⟩
  · exact .inl rfl
  · exact .inr ⟨b, o, rfl, Nat.lt_of_lt_of_le hlt hb.size, fun k j hk hj => (hb.cell (p := ⟨b, _, none⟩) hlt).trans (hr k j hk hj)⟩

theorem cells_below {w w' : World} {b o n : Nat} {Z : Nat → Nat → Int} (h : ∀ k j, k < n → j < 8 → w.cell? ⟨b, o + k * 8 + j, none⟩ = some (.int .i64 (Z k j))) (hlt : b < w.heap.size) (hb : Below w.heap.size w w') :
    ∀ k j, k < n → j < 8 → w'.cell? ⟨b, o + k * 8 + j, none⟩ = some (.int .i64 (Z k j)) := fun k j hk hj => (hb.cell (p := ⟨b, _, none⟩) hlt).trans (h k j hk hj)

end Go.Proofs.YtjmjffhommlbnaaGreat.P8
namespace Go.Proofs.YtjmjffhommlbnaaGreat
open Go.RowKit Go.Deep
set_option linter.unusedVariables false

theorem set_in {w : World} {B k : Nat} {u : Value} (h : (w.cell? ⟨B, k, none⟩).isSome = true) : (w.setCell ⟨B, k, none⟩ u).cell? ⟨B, k, none⟩ = some u := by
  have := World.cell?_setCells_in B [u] k w (fun j hj => by
    have : j = 0 := by simpa using hj
    subst this; exact h) 0 (by simp)
  rw [show w.setCell ⟨B, k, none⟩ u = w.setCells B k [u] from rfl]
  simpa using this
theorem set_out {w : World} {B k b i : Nat} {u : Value} (h : ¬ (B = b ∧ k = i)) : (w.setCell ⟨B, k, none⟩ u).cell? ⟨b, i, none⟩ = w.cell? ⟨b, i, none⟩ :=
  World.cell?_setCell_other _ _ _ _ (by intro e; injection e with e1 e2; exact h ⟨e1, e2⟩)
theorem set_frozen {w : World} {B k b i : Nat} {u : Value} : (w.setCell ⟨B, k, none⟩ u).frozen? ⟨b, i, none⟩ = w.frozen? ⟨b, i, none⟩ := World.frozen?_setCell ..
theorem set_size {w : World} {B k : Nat} {u : Value} : (w.setCell ⟨B, k, none⟩ u).heap.size = w.heap.size := by simp [World.setCell]

/-- Block B of w is a row of n integers of the call's own, of which the first k are X's. -/
def Own1 (w : World) (B n : Nat) (X : Nat → Int) (k : Nat) : Prop :=
  (∀ i, i < n → (w.cell? ⟨B, i, none⟩).isSome = true ∧ w.frozen? ⟨B, i, none⟩ = false) ∧ ∀ j, j < k → w.cell? ⟨B, j, none⟩ = some (.int .i64 (X j))

theorem own1_next {w : World} {B n k : Nat} {X : Nat → Int} (h : Own1 w B n X k) (hk : k < n) : Own1 (w.setCell ⟨B, k, none⟩ (.int .i64 (X k))) B n X (k + 1) := by
  refine ⟨fun i hi => ⟨?_, ?_⟩, fun j hj => ?_⟩
  · by_cases hc : k = i
    · subst hc; rw [set_in (h.1 k hk).1]; rfl
    · rw [set_out (fun e => hc e.2)]; exact (h.1 i hi).1
  · rw [set_frozen]; exact (h.1 i hi).2
  · by_cases hc : k = j
    · subst hc; exact set_in (h.1 k hk).1
    · rw [set_out (fun e => hc e.2)]; exact h.2 j (by omega)

theorem own1_below {w w' : World} {B n k : Nat} {X : Nat → Int} (h : Own1 w B n X k) (hB : B < w.heap.size) (hb : Below w.heap.size w w') : Own1 w' B n X k :=
  ⟨fun i hi => by rw [hb.cell (p := ⟨B, i, none⟩) hB, hb.frozen (p := ⟨B, i, none⟩) hB]; exact h.1 i hi, fun j hj => by rw [hb.cell (p := ⟨B, j, none⟩) hB]; exact h.2 j hj⟩

theorem Tryz.info3 : (Tryz.prog.info? 3).map (fun i => (i.zero, i.size, i.bytes)) = some (some (.int .i64 0), 1, 8) := by kernel_rfl
theorem Tryz.info81 : (Tryz.prog.info? 81).map (fun i => (i.zero, i.size, i.bytes)) = some (some (.slice none 0 0), 1, 24) := by kernel_rfl

theorem make1 (n : Nat) (hn : n ≤ 1048576) (w : World) :
    (Instr.makeSlice 26 (.int .i64 (n : Int)) (.int .i64 (n : Int))).run Tryz.prog w = .ok (.slice (some ⟨w.heap.size, 0, none⟩) n n) (w.alloc (.cells (madeCells #[.int .i64 0] (n * 1)) 3)) := by
  obtain ⟨i, hi, hzz⟩ := Option.map_eq_some_iff.1 Tryz.info3
  simp only [Prod.mk.injEq] at hzz
  obtain ⟨hz, hs, hb⟩ := hzz
  have := run_make (P := Tryz.prog) w 26 3 i _ Tryz.underlying26 hi hz .i64 .i64 n n (by omega) (by omega) (by rw [hb]; omega) (by omega)
  rw [this, hs]
  rfl

theorem makeO (n : Nat) (hn : n ≤ 1048576) (w : World) :
    (Instr.makeSlice 35 (.int .i64 (n : Int)) (.int .i64 (n : Int))).run Tryz.prog w = .ok (.slice (some ⟨w.heap.size, 0, none⟩) n n) (w.alloc (.cells (madeCells #[.slice none 0 0] (n * 1)) 81)) := by
  obtain ⟨i, hi, hzz⟩ := Option.map_eq_some_iff.1 Tryz.info81
  simp only [Prod.mk.injEq] at hzz
  obtain ⟨hz, hs, hb⟩ := hzz
  have := run_make (P := Tryz.prog) w 35 81 i _ Tryz.underlying35 hi hz .i64 .i64 n n (by omega) (by omega) (by rw [hb]; omega) (by omega)
  rw [this, hs]
  rfl

set_option maxHeartbeats 1000000 in
theorem toInts (a : Option Addr) (n cap : Nat) (X : Nat → Int) (hn : n ≤ 1048576) (w : World) (h : Row1 w a n X) :
    Calls Tryz.prog 22 #[.slice a n cap] w fun e w' => e = .returned (.slice (some ⟨w.heap.size, 0, none⟩) n n) ∧ Own1 w' w.heap.size n X n ∧ w.heap.size < w'.heap.size ∧ Below w.heap.size w w' := by
  have hmk := make1 n hn
  have HR : Hid (Row1 w a n X) := h
  clear h
  go_enter Tryz.func22, Tryz.ntmps22
  go_wp2
  go_loopw [4] (fun i wr => ∃ k : Nat, k ≤ n ∧ i = .int .i64 k ∧ Own1 wr w.heap.size n X k ∧ w.heap.size < wr.heap.size ∧ Below w.heap.size w wr) (fun i _ => n - (intOf i).toNat)
  case atStart => exact ⟨0, Nat.zero_le _, rfl, ⟨fun i hi => by simp [size_madeCells, hi], fun _ h => absurd h (by omega)⟩, by simp, (Below.refl _ _).alloc (by simp) _⟩
  case round =>
    clear hmk
    obtain ⟨k, hk, rfl, hown, hsz, hbel⟩ := hrel
    by_cases hkn : k < n
    · have hkn' : (k : Int) < n := by omega
      obtain ⟨b, o, rfl, hb, hrow⟩ : ∃ b o, a = some ⟨b, o, none⟩ ∧ b < w.heap.size ∧ ∀ k, k < n → w.cell? ⟨b, o + k, none⟩ = some (.int .i64 (X k)) := by
        rcases HR.out with h | h
        · omega
        · exact h
      have hc : wr.cell? ⟨b, o + k, none⟩ = some (.int .i64 (X k)) := (hbel.cell (p := ⟨b, o + k, none⟩) hb).trans (hrow k hkn)
      clear hrow
      obtain ⟨d0, f0⟩ := hown.1 k hkn
      obtain ⟨v0, d0⟩ := Option.isSome_iff_exists.1 d0
      go_wp2
      go_roundw
      case rel => exact ⟨k + 1, by omega, by go_num, own1_next hown hkn, by simpa [World.setCell] using hsz, hbel.setCell (Nat.le_refl _) _⟩
      case measure => simp [intOf]; omega
    · have : k = n := by omega
      subst this
      go_wp2
      go_ret
      exact ⟨rfl, hown, hsz, hbel⟩

theorem toParcels (a : Option Addr) (n cap : Nat) (Z : Nat → Nat → Int) (hn : n ≤ 1048576) (w : World) (h : P8.Row8 w a n Z) :
    Calls Tryz.prog 49 #[.slice a n cap] w fun e w' => e = .returned (.slice (some ⟨w.heap.size, 0, none⟩) n n) ∧ P8.Own8 w' w.heap.size n Z n ∧ w.heap.size < w'.heap.size ∧ Below w.heap.size w w' := by
  rcases h with rfl | ⟨b, o, rfl, hb, hr⟩
  · exact P8.toList0 a cap Z w
  · exact P8.toList b o n cap Z hn w hb hr

theorem toWalkers (a : Option Addr) (n cap : Nat) (Z : Nat → Nat → Int) (hn : n ≤ 1048576) (w : World) (h : Row5 w a n Z) :
    Calls Tryz.prog 20 #[.slice a n cap] w fun e w' => e = .returned (.slice (some ⟨w.heap.size, 0, none⟩) n n) ∧ Own5 w' w.heap.size n Z n ∧ w.heap.size < w'.heap.size ∧ Below w.heap.size w w' := by
  rcases h with rfl | ⟨b, o, rfl, hb, hr⟩
  · exact toList0 a cap Z w
  · exact toList b o n cap Z hn w hb hr

theorem own8_set {w : World} {B g n k j : Nat} {Z : Nat → Nat → Int} {u : Value} (h : P8.Own8 w g n Z k) (hne : ¬ B = g) : P8.Own8 (w.setCell ⟨B, j, none⟩ u) g n Z k :=
  ⟨fun i hi => by rw [set_out (fun e => hne e.1), set_frozen]; exact h.1 i hi, fun k' j' hk hj => by rw [set_out (fun e => hne e.1)]; exact h.2 k' j' hk hj⟩

/-- Block B of w is a row of n lists of parcels of the call's own, of which the first k hold O's, each in a later block than the one ahead. -/
def OwnO (w : World) (B n : Nat) (N : Nat → Nat) (O : Nat → Nat → Nat → Int) (k : Nat) : Prop :=
  (∀ i, i < n → (w.cell? ⟨B, i, none⟩).isSome = true ∧ w.frozen? ⟨B, i, none⟩ = false) ∧
    ∃ xs : Nat → Nat, (∀ i j, i < j → j < k → xs i < xs j) ∧ ∀ j, j < k → B < xs j ∧ xs j < w.heap.size ∧ w.cell? ⟨B, j, none⟩ = some (.slice (some ⟨xs j, 0, none⟩) (N j) (N j)) ∧ P8.Own8 w (xs j) (N j) (O j) (N j)

theorem ownO_below {w w' : World} {B n k : Nat} {N : Nat → Nat} {O : Nat → Nat → Nat → Int} (h : OwnO w B n N O k) (hB : B < w.heap.size) (hb : Below w.heap.size w w') : OwnO w' B n N O k := by
  obtain ⟨h1, xs, h2, h3⟩ := h
  refine ⟨fun i hi => by rw [hb.cell (p := ⟨B, i, none⟩) hB, hb.frozen (p := ⟨B, i, none⟩) hB]; exact h1 i hi, xs, h2, fun j hj => ?_⟩
  obtain ⟨a1, a2, a3, a4⟩ := h3 j hj
  exact ⟨a1, Nat.lt_of_lt_of_le a2 hb.size, (hb.cell (p := ⟨B, j, none⟩) hB).trans a3, P8.own_below a4 a2 hb⟩

theorem ownO_next {wr w1 : World} {B n k : Nat} {N : Nat → Nat} {O : Nat → Nat → Nat → Int} (h : OwnO wr B n N O k) (hk : k < n) (hB : B < wr.heap.size) (hb : Below wr.heap.size wr w1) (ho : P8.Own8 w1 wr.heap.size (N k) (O k) (N k)) (hs : wr.heap.size < w1.heap.size) :
    OwnO (w1.setCell ⟨B, k, none⟩ (.slice (some ⟨wr.heap.size, 0, none⟩) (N k) (N k))) B n N O (k + 1) := by
  obtain ⟨g1, xs, h2, g3⟩ := h
  have h3' : ∀ j, j < k → xs j < wr.heap.size := fun j hj => (g3 j hj).2.1
  have h1 : ∀ i, i < n → (w1.cell? ⟨B, i, none⟩).isSome = true ∧ w1.frozen? ⟨B, i, none⟩ = false := fun i hi => by rw [hb.cell (p := ⟨B, i, none⟩) hB, hb.frozen (p := ⟨B, i, none⟩) hB]; exact g1 i hi
  have h3 : ∀ j, j < k → B < xs j ∧ xs j < w1.heap.size ∧ w1.cell? ⟨B, j, none⟩ = some (.slice (some ⟨xs j, 0, none⟩) (N j) (N j)) ∧ P8.Own8 w1 (xs j) (N j) (O j) (N j) := fun j hj => by
    obtain ⟨a1, a2, a3, a4⟩ := g3 j hj
    exact ⟨a1, Nat.lt_of_lt_of_le a2 hb.size, (hb.cell (p := ⟨B, j, none⟩) hB).trans a3, P8.own_below a4 a2 hb⟩
  refine ⟨fun i hi => ⟨?_, by rw [set_frozen]; exact (h1 i hi).2⟩, fun j => if j = k then wr.heap.size else xs j, fun i j hij hj => ?_, fun j hj => ?_⟩
  · by_cases hc : k = i
    · subst hc; rw [set_in (h1 k hk).1]; rfl
    · rw [set_out (fun e => hc e.2)]; exact (h1 i hi).1
  · dsimp only
    by_cases hjk : j = k
    · subst hjk
      rw [if_pos rfl, if_neg (by omega)]
      exact h3' i hij
    · rw [if_neg (by omega), if_neg hjk]
      exact h2 i j hij (by omega)
  · dsimp only
    by_cases hjk : j = k
    · subst hjk
      simp only [if_pos]
      exact ⟨hB, by rw [set_size]; exact hs, set_in (h1 j hk).1, own8_set ho (by omega)⟩
    · rw [if_neg hjk]
      obtain ⟨a1, a2, a3, a4⟩ := h3 j (by omega)
      exact ⟨a1, by rw [set_size]; exact a2, by rw [set_out (fun e => hjk e.2.symm)]; exact a3, own8_set a4 (by omega)⟩
set_option maxHeartbeats 1000000 in
theorem toOuts (a : Option Addr) (n cap : Nat) (N : Nat → Nat) (O : Nat → Nat → Nat → Int) (hn : n ≤ 1048576) (hN : ∀ k, k < n → N k ≤ 1048576) (w : World) (h : RowO w a n N O) :
    Calls Tryz.prog 21 #[.slice a n cap] w fun e w' => e = .returned (.slice (some ⟨w.heap.size, 0, none⟩) n n) ∧ OwnO w' w.heap.size n N O n ∧ w.heap.size < w'.heap.size ∧ Below w.heap.size w w' := by
  have hmk := makeO n hn
  have HR : Hid (RowO w a n N O) := h
  have HN : Hid (∀ k, k < n → N k ≤ 1048576) := hN
  clear h hN
  go_enter Tryz.func21, Tryz.ntmps21
  go_wp2
  go_loopw [4] (fun i wr => ∃ k : Nat, k ≤ n ∧ i = .int .i64 k ∧ OwnO wr w.heap.size n N O k ∧ w.heap.size < wr.heap.size ∧ Below w.heap.size w wr) (fun i _ => n - (intOf i).toNat)
  case atStart => exact ⟨0, Nat.zero_le _, rfl, ⟨fun i hi => by simp [size_madeCells, hi], fun _ => 0, fun _ _ _ h => absurd h (by omega), fun _ h => absurd h (by omega)⟩, by simp, (Below.refl _ _).alloc (by simp) _⟩
  case round =>
    clear hmk
    obtain ⟨k, hk, rfl, hown0, hsz, hbel⟩ := hrel
    have hown : Hid (OwnO wr w.heap.size n N O k) := hown0
    clear hown0
    by_cases hkn : k < n
    · have hkn' : (k : Int) < n := by omega
      obtain ⟨b, o, rfl, hb, hrow⟩ : ∃ b o, a = some ⟨b, o, none⟩ ∧ b < w.heap.size ∧ ∀ k, k < n → ∃ x c, w.cell? ⟨b, o + k, none⟩ = some (.slice x (N k) c) ∧ P8.Row8 w x (N k) (O k) := by
        rcases HR.out with h | h
        · omega
        · exact h
      obtain ⟨x, c, hc0, hx⟩ := hrow k hkn
      have HX : Hid (P8.Row8 wr x (N k) (O k)) := row8_below hx hbel
      have hc : wr.cell? ⟨b, o + k, none⟩ = some (.slice x (N k) c) := (hbel.cell (p := ⟨b, o + k, none⟩) hb).trans hc0
      clear hrow hx hc0
      go_wp2_with fail
      refine (toParcels x (N k) c (O k) (HN.out k hkn) _ HX.out).mono ?_
      rintro e w1 ⟨rfl, ho1, hs1, hb1⟩
      have hsz1 : w.heap.size < w1.heap.size := Nat.lt_of_lt_of_le hsz hb1.size
      have hbel1 : Below w.heap.size w w1 := hbel.trans (hb1.mono (Nat.le_of_lt hsz))
      have NX : Hid (OwnO (w1.setCell ⟨w.heap.size, k, none⟩ (.slice (some ⟨wr.heap.size, 0, none⟩) (N k) (N k))) w.heap.size n N O (k + 1)) := ownO_next hown.out hkn hsz hb1 ho1 hs1
      obtain ⟨d0, f0⟩ := (ownO_below hown.out hsz hb1).1 k hkn
      obtain ⟨v0, d0⟩ := Option.isSome_iff_exists.1 d0
      clear ho1 hs1 hb1 hbel hc HX hown
      go_wp2
      go_roundw
      case rel => exact ⟨k + 1, by omega, by go_num, NX.out, by simpa [World.setCell] using hsz1, hbel1.setCell (Nat.le_refl _) _⟩
      case measure => simp [intOf]; omega
    · have : k = n := by omega
      subst this
      go_wp2
      go_ret
      exact ⟨rfl, hown.out, hsz, hbel⟩

/-- v is a copy of a cell, of V, in memory of its own from block lo on: block by block. -/
def CopyAt (lo : Nat) (w : World) (v : Value) (V : CV) : Prop :=
  ∃ bW bO bX bI, lo ≤ bW ∧ bW < bO ∧ bO < bX ∧ bX < bI ∧ bI < w.heap.size ∧
    v = .agg #[.int .i64 V.c, .slice (some ⟨bW, 0, none⟩) V.nW V.nW, .int .i64 V.g, .slice (some ⟨bO, 0, none⟩) V.nO V.nO, .slice (some ⟨bX, 0, none⟩) V.nX V.nX, .slice (some ⟨bI, 0, none⟩) V.nI V.nI] ∧
    Own5 w bW V.nW V.W V.nW ∧ OwnO w bO V.nO V.N V.O V.nO ∧ Own1 w bX V.nX V.X V.nX ∧ Own1 w bI V.nI V.I V.nI

theorem row1_of_own {w : World} {B n : Nat} {X : Nat → Int} (h : Own1 w B n X n) (hB : B < w.heap.size) : Row1 w (some ⟨B, 0, none⟩) n X :=
  .inr ⟨B, 0, rfl, hB, fun k hk => by rw [Nat.zero_add]; exact h.2 k hk⟩
theorem row5_of_own {w : World} {B n : Nat} {Z : Nat → Nat → Int} (h : Own5 w B n Z n) (hB : B < w.heap.size) : Row5 w (some ⟨B, 0, none⟩) n Z :=
  .inr ⟨B, 0, rfl, hB, own_row h⟩
theorem row8_of_own {w : World} {B n : Nat} {Z : Nat → Nat → Int} (h : P8.Own8 w B n Z n) (hB : B < w.heap.size) : P8.Row8 w (some ⟨B, 0, none⟩) n Z :=
  .inr ⟨B, 0, rfl, hB, P8.own_row h⟩
theorem rowO_of_own {w : World} {B n : Nat} {N : Nat → Nat} {O : Nat → Nat → Nat → Int} (h : OwnO w B n N O n) (hB : B < w.heap.size) : RowO w (some ⟨B, 0, none⟩) n N O := by
  obtain ⟨_, xs, _, h3⟩ := h
  refine .inr ⟨B, 0, rfl, hB, fun k hk => ?_⟩
  obtain ⟨_, a2, a3, a4⟩ := h3 k hk
  exact ⟨_, _, by rw [Nat.zero_add]; exact a3, row8_of_own a4 a2⟩
theorem CopyAt.at {lo : Nat} {w : World} {v : Value} {V : CV} (h : CopyAt lo w v V) : CellAt w v V := by
  obtain ⟨bW, bO, bX, bI, h0, h1, h2, h3, h4, rfl, g1, g2, g3, g4⟩ := h
  exact ⟨_, _, _, _, _, _, _, _, rfl, row5_of_own g1 (by omega), rowO_of_own g2 (by omega), row1_of_own g3 (by omega), row1_of_own g4 (by omega)⟩
theorem CopyAt.below {lo : Nat} {w w' : World} {v : Value} {V : CV} (h : CopyAt lo w v V) (hb : Below w.heap.size w w') : CopyAt lo w' v V := by
  obtain ⟨bW, bO, bX, bI, h0, h1, h2, h3, h4, rfl, g1, g2, g3, g4⟩ := h
  exact ⟨bW, bO, bX, bI, h0, h1, h2, h3, Nat.lt_of_lt_of_le h4 hb.size, rfl, own_below g1 (by omega) hb, ownO_below g2 (by omega) hb, own1_below g3 (by omega) hb, own1_below g4 (by omega) hb⟩

/-- Block b of W begins with these six values, and may be written. -/
def Six (W : World) (b : Nat) (l : List Value) : Prop := ∀ i, i < 6 → W.cell? ⟨b, i, none⟩ = some (l.getD i undef) ∧ W.frozen? ⟨b, i, none⟩ = false
theorem Six.below {W W' : World} {b : Nat} {l : List Value} (h : Six W b l) (hb : b < W.heap.size) (k : Below W.heap.size W W') : Six W' b l := fun i hi => by
  rw [k.cell (p := ⟨b, i, none⟩) hb, k.frozen (p := ⟨b, i, none⟩) hb]; exact h i hi
theorem Six.far {W : World} {b g j : Nat} {l : List Value} {v : Value} (h : Six W b l) (hn : ¬ g = b) : Six (W.setCell ⟨g, j, none⟩ v) b l := fun i hi => by
  rw [set_out (fun e => hn e.1), set_frozen]; exact h i hi
theorem Six.set {W : World} {b j : Nat} {l : List Value} {v : Value} (h : Six W b l) (hl : l.length = 6) (hj : j < 6) : Six (W.setCell ⟨b, j, none⟩ v) b (l.set j v) := fun i hi => by
  rw [set_frozen]
  refine ⟨?_, (h i hi).2⟩
  by_cases e : j = i
  · subst e
    rw [set_in (by rw [(h j hi).1]; rfl)]
    simp [List.getD, hl, hi]
  · rw [set_out (fun e' => e e'.2), (h i hi).1]
    simp [List.getD, List.getElem?_set_ne e]
theorem own5_set {w : World} {B g n k j : Nat} {Z : Nat → Nat → Int} {u : Value} (h : Own5 w g n Z k) (hne : ¬ B = g) : Own5 (w.setCell ⟨B, j, none⟩ u) g n Z k :=
  ⟨fun i hi => by rw [set_out (fun e => hne e.1), set_frozen]; exact h.1 i hi, fun k' j' hk hj => by rw [set_out (fun e => hne e.1)]; exact h.2 k' j' hk hj⟩
theorem own1_set {w : World} {B g n k j : Nat} {X : Nat → Int} {u : Value} (h : Own1 w g n X k) (hne : ¬ B = g) : Own1 (w.setCell ⟨B, j, none⟩ u) g n X k :=
  ⟨fun i hi => by rw [set_out (fun e => hne e.1), set_frozen]; exact h.1 i hi, fun k' hk => by rw [set_out (fun e => hne e.1)]; exact h.2 k' hk⟩
theorem ownO_set {w : World} {B g n k j : Nat} {N : Nat → Nat} {O : Nat → Nat → Nat → Int} {u : Value} (h : OwnO w g n N O k) (hne : B < g) : OwnO (w.setCell ⟨B, j, none⟩ u) g n N O k := by
  obtain ⟨h1, xs, h2, h3⟩ := h
  refine ⟨fun i hi => by rw [set_out (fun e => absurd e.1 (by omega)), set_frozen]; exact h1 i hi, xs, h2, fun i hi => ?_⟩
  obtain ⟨a1, a2, a3, a4⟩ := h3 i hi
  exact ⟨a1, by rw [set_size]; exact a2, by rw [set_out (fun e => absurd e.1 (by omega))]; exact a3, own8_set a4 (by omega)⟩
theorem six_new (W : World) (t : TypeId) (v0 v1 v2 v3 v4 v5 : Value) : Six (W.alloc (.cells #[v0, v1, v2, v3, v4, v5] t)) W.heap.size [v0, v1, v2, v3, v4, v5] := by
  intro i hi
  have : i = 0 ∨ i = 1 ∨ i = 2 ∨ i = 3 ∨ i = 4 ∨ i = 5 := by omega
  rcases this with rfl | rfl | rfl | rfl | rfl | rfl <;> exact ⟨by simp, by simp⟩

set_option maxHeartbeats 4000000 in
theorem toCell (v : Value) (V : CV) (hs : V.short 1048576) (w : World) (h : CellAt w v V) :
    Calls Tryz.prog 7 #[v] w fun e w' => (∃ v', e = .returned v' ∧ CopyAt w.heap.size w' v' V) ∧ Below w.heap.size w w' := by
  obtain ⟨aW, kW, aO, kO, aX, kX, aI, kI, rfl, rW, rO, rX, rI⟩ := h
  obtain ⟨VC, nW, W, VG, nO, N, O, nX, X, nI, I⟩ := V
  simp only at rW rO rX rI
  obtain ⟨sW, sO, sN, sX, sI⟩ := hs
  simp only at sW sO sN sX sI
  have HW : Hid (Row5 w aW nW W) := rW
  have HO : Hid (RowO w aO nO N O) := rO
  have HX : Hid (Row1 w aX nX X) := rX
  have HI : Hid (Row1 w aI nI I) := rI
  have HN : Hid (∀ k, k < nO → N k ≤ 1048576) := sN
  clear rW rO rX rI sN
  go_enter Tryz.func7, Tryz.ntmps7
  go_wp2_with fail
  obtain ⟨w0, e0⟩ : ∃ w0, w0 = (((w.alloc (.cells #[.int .i64 VC, .slice aW nW kW, .int .i64 VG, .slice aO nO kO, .slice aX nX kX, .slice aI nI kI] 28)).alloc (.cells #[.int .i64 0, .slice none 0 0, .int .i64 0, .slice none 0 0, .slice none 0 0, .slice none 0 0] 37)).alloc (.cells #[.int .i64 VC, .slice none 0 0, .int .i64 0, .slice none 0 0, .slice none 0 0, .slice none 0 0] 37)) := ⟨_, rfl⟩
  have z0 : w.heap.size + 3 ≤ w0.heap.size := by rw [e0]; simp
  have B0 : Hid (Below w.heap.size w w0) := by rw [e0]; exact (((Below.refl _ _).alloc (by simp) _).alloc (by simp) _).alloc (by simp; omega) _
  have A0 : Hid (Six w0 w.heap.size [.int .i64 VC, .slice aW nW kW, .int .i64 VG, .slice aO nO kO, .slice aX nX kX, .slice aI nI kI]) := by rw [e0]; exact ((six_new w 28 (.int .i64 VC) (.slice aW nW kW) (.int .i64 VG) (.slice aO nO kO) (.slice aX nX kX) (.slice aI nI kI)).below (by simp) ((Below.refl _ _).alloc (by simp) _)).below (by simp; omega) ((Below.refl _ _).alloc (by simp) _)
  have R0 : Hid (Six w0 (w.heap.size + 1) [.int .i64 0, .slice none 0 0, .int .i64 0, .slice none 0 0, .slice none 0 0, .slice none 0 0]) := by rw [e0]; have := (six_new (w.alloc (.cells #[.int .i64 VC, .slice aW nW kW, .int .i64 VG, .slice aO nO kO, .slice aX nX kX, .slice aI nI kI] 28)) 37 (.int .i64 0) (.slice none 0 0) (.int .i64 0) (.slice none 0 0) (.slice none 0 0) (.slice none 0 0)).below (by simp) ((Below.refl _ _).alloc (by simp) (.cells #[.int .i64 VC, .slice none 0 0, .int .i64 0, .slice none 0 0, .slice none 0 0, .slice none 0 0] 37)); rw [show (w.alloc (.cells #[.int .i64 VC, .slice aW nW kW, .int .i64 VG, .slice aO nO kO, .slice aX nX kX, .slice aI nI kI] 28)).heap.size = w.heap.size + 1 by simp] at this; exact this
  have O0 : Hid (Six w0 (w.heap.size + 1 + 1) [.int .i64 VC, .slice none 0 0, .int .i64 0, .slice none 0 0, .slice none 0 0, .slice none 0 0]) := by rw [e0]; have := six_new ((w.alloc (.cells #[.int .i64 VC, .slice aW nW kW, .int .i64 VG, .slice aO nO kO, .slice aX nX kX, .slice aI nI kI] 28)).alloc (.cells #[.int .i64 0, .slice none 0 0, .int .i64 0, .slice none 0 0, .slice none 0 0, .slice none 0 0] 37)) 37 (.int .i64 VC) (.slice none 0 0) (.int .i64 0) (.slice none 0 0) (.slice none 0 0) (.slice none 0 0); rw [show ((w.alloc (.cells #[.int .i64 VC, .slice aW nW kW, .int .i64 VG, .slice aO nO kO, .slice aX nX kX, .slice aI nI kI] 28)).alloc (.cells #[.int .i64 0, .slice none 0 0, .int .i64 0, .slice none 0 0, .slice none 0 0, .slice none 0 0] 37)).heap.size = w.heap.size + 1 + 1 by simp] at this; exact this
  rw [← e0]
  clear e0
  refine (toWalkers aW nW kW W sW _ (row5_below HW.out B0.out)).mono ?_
  rintro e w1 ⟨rfl, ho, hz1, hb⟩
  obtain ⟨b1, eb⟩ : ∃ b, b = w0.heap.size := ⟨_, rfl⟩
  rw [← eb] at ho hz1 ⊢
  have zz1 : w0.heap.size ≤ b1 := by omega
  clear eb
  have hbl1 := hb.size
  have bA : Hid (Six ((w1.setCell ⟨w.heap.size + 1 + 1, 1, none⟩ (.slice (some ⟨b1, 0, none⟩) nW nW)).setCell ⟨w.heap.size + 1 + 1, 2, none⟩ (.int .i64 VG)) w.heap.size [.int .i64 VC, .slice aW nW kW, .int .i64 VG, .slice aO nO kO, .slice aX nX kX, .slice aI nI kI]) := (((A0.out.below (by omega) hb).far (by omega)).far (by omega))
  have bR : Hid (Six ((w1.setCell ⟨w.heap.size + 1 + 1, 1, none⟩ (.slice (some ⟨b1, 0, none⟩) nW nW)).setCell ⟨w.heap.size + 1 + 1, 2, none⟩ (.int .i64 VG)) (w.heap.size + 1) [.int .i64 0, .slice none 0 0, .int .i64 0, .slice none 0 0, .slice none 0 0, .slice none 0 0]) := (((R0.out.below (by omega) hb).far (by omega)).far (by omega))
  have bO : Hid (Six ((w1.setCell ⟨w.heap.size + 1 + 1, 1, none⟩ (.slice (some ⟨b1, 0, none⟩) nW nW)).setCell ⟨w.heap.size + 1 + 1, 2, none⟩ (.int .i64 VG)) (w.heap.size + 1 + 1) [.int .i64 VC, .slice (some ⟨b1, 0, none⟩) nW nW, .int .i64 VG, .slice none 0 0, .slice none 0 0, .slice none 0 0]) := (((O0.out.below (by omega) hb).set (j := 1) (v := .slice (some ⟨b1, 0, none⟩) nW nW) rfl (by decide)).set (j := 2) (v := .int .i64 VG) rfl (by decide))
  have bB : Hid (Below w.heap.size w ((w1.setCell ⟨w.heap.size + 1 + 1, 1, none⟩ (.slice (some ⟨b1, 0, none⟩) nW nW)).setCell ⟨w.heap.size + 1 + 1, 2, none⟩ (.int .i64 VG))) := (((bthen B0.out hb).setCell (by simp; omega) _).setCell (by simp; omega) _)
  have nb1 : Hid (Own5 ((w1.setCell ⟨w.heap.size + 1 + 1, 1, none⟩ (.slice (some ⟨b1, 0, none⟩) nW nW)).setCell ⟨w.heap.size + 1 + 1, 2, none⟩ (.int .i64 VG)) b1 nW W nW) := (own5_set ((own5_set (ho) (by omega))) (by omega))
  have a0 : w1.cell? ⟨w.heap.size, 0, none⟩ = some (.int .i64 VC) := ((A0.out.below (by omega) hb) 0 (by decide)).1
  have a1 : w1.cell? ⟨w.heap.size, 1, none⟩ = some (.slice aW nW kW) := ((A0.out.below (by omega) hb) 1 (by decide)).1
  have a2 : w1.cell? ⟨w.heap.size, 2, none⟩ = some (.int .i64 VG) := ((A0.out.below (by omega) hb) 2 (by decide)).1
  have a3 : w1.cell? ⟨w.heap.size, 3, none⟩ = some (.slice aO nO kO) := ((A0.out.below (by omega) hb) 3 (by decide)).1
  have a4 : w1.cell? ⟨w.heap.size, 4, none⟩ = some (.slice aX nX kX) := ((A0.out.below (by omega) hb) 4 (by decide)).1
  have a5 : w1.cell? ⟨w.heap.size, 5, none⟩ = some (.slice aI nI kI) := ((A0.out.below (by omega) hb) 5 (by decide)).1
  have hO := O0.out.below (by omega) hb
  have y0 := (hO 0 (by decide)).1
  have f0 := (hO 0 (by decide)).2
  have y1 := (hO 1 (by decide)).1
  have f1 := (hO 1 (by decide)).2
  have y2 := (hO 2 (by decide)).1
  have f2 := (hO 2 (by decide)).2
  have y3 := (hO 3 (by decide)).1
  have f3 := (hO 3 (by decide)).2
  have y4 := (hO 4 (by decide)).1
  have f4 := (hO 4 (by decide)).2
  have y5 := (hO 5 (by decide)).1
  have f5 := (hO 5 (by decide)).2
  simp only [List.getD, List.getElem?_cons_zero, List.getElem?_cons_succ, Option.getD_some] at y0 y1 y2 y3 y4 y5
  clear hO
  clear ho hb
  go_wp2_with fail
  obtain ⟨w15, e0⟩ : ∃ x, x = ((w1.setCell ⟨w.heap.size + 1 + 1, 1, none⟩ (.slice (some ⟨b1, 0, none⟩) nW nW)).setCell ⟨w.heap.size + 1 + 1, 2, none⟩ (.int .i64 VG)) := ⟨_, rfl⟩
  rw [← e0] at bA bR bO bB  nb1 ⊢
  have z1 : w1.heap.size ≤ w15.heap.size := by rw [e0]; simp [World.setCell]
  clear e0 a0 a1 a2 a3 a4 a5 y0 y1 y2 y3 y4 y5 f0 f1 f2 f3 f4 f5 A0 R0 O0 B0
  have A1 := bA
  have R1 := bR
  have O1 := bO
  have B1 := bB
  clear bA bR bO bB
  have ob1 := nb1
  clear nb1
  refine (toOuts aO nO kO N O sO HN.out _ (rowO_below HO.out B1.out)).mono ?_
  rintro e w2 ⟨rfl, ho, hz2, hb⟩
  obtain ⟨b2, eb⟩ : ∃ b, b = w15.heap.size := ⟨_, rfl⟩
  rw [← eb] at ho hz2 ⊢
  have zz2 : w15.heap.size ≤ b2 := by omega
  clear eb
  have hbl2 := hb.size
  have bA : Hid (Six (w2.setCell ⟨w.heap.size + 1 + 1, 3, none⟩ (.slice (some ⟨b2, 0, none⟩) nO nO)) w.heap.size [.int .i64 VC, .slice aW nW kW, .int .i64 VG, .slice aO nO kO, .slice aX nX kX, .slice aI nI kI]) := ((A1.out.below (by omega) hb).far (by omega))
  have bR : Hid (Six (w2.setCell ⟨w.heap.size + 1 + 1, 3, none⟩ (.slice (some ⟨b2, 0, none⟩) nO nO)) (w.heap.size + 1) [.int .i64 0, .slice none 0 0, .int .i64 0, .slice none 0 0, .slice none 0 0, .slice none 0 0]) := ((R1.out.below (by omega) hb).far (by omega))
  have bO : Hid (Six (w2.setCell ⟨w.heap.size + 1 + 1, 3, none⟩ (.slice (some ⟨b2, 0, none⟩) nO nO)) (w.heap.size + 1 + 1) [.int .i64 VC, .slice (some ⟨b1, 0, none⟩) nW nW, .int .i64 VG, .slice (some ⟨b2, 0, none⟩) nO nO, .slice none 0 0, .slice none 0 0]) := ((O1.out.below (by omega) hb).set (j := 3) (v := .slice (some ⟨b2, 0, none⟩) nO nO) rfl (by decide))
  have bB : Hid (Below w.heap.size w (w2.setCell ⟨w.heap.size + 1 + 1, 3, none⟩ (.slice (some ⟨b2, 0, none⟩) nO nO))) := ((bthen B1.out hb).setCell (by simp; omega) _)
  have nb1 : Hid (Own5 (w2.setCell ⟨w.heap.size + 1 + 1, 3, none⟩ (.slice (some ⟨b2, 0, none⟩) nO nO)) b1 nW W nW) := (own5_set (own_below ob1.out (by omega) hb) (by omega))
  have nb2 : Hid (OwnO (w2.setCell ⟨w.heap.size + 1 + 1, 3, none⟩ (.slice (some ⟨b2, 0, none⟩) nO nO)) b2 nO N O nO) := (ownO_set (ho) (by omega))
  have a0 : w2.cell? ⟨w.heap.size, 0, none⟩ = some (.int .i64 VC) := ((A1.out.below (by omega) hb) 0 (by decide)).1
  have a1 : w2.cell? ⟨w.heap.size, 1, none⟩ = some (.slice aW nW kW) := ((A1.out.below (by omega) hb) 1 (by decide)).1
  have a2 : w2.cell? ⟨w.heap.size, 2, none⟩ = some (.int .i64 VG) := ((A1.out.below (by omega) hb) 2 (by decide)).1
  have a3 : w2.cell? ⟨w.heap.size, 3, none⟩ = some (.slice aO nO kO) := ((A1.out.below (by omega) hb) 3 (by decide)).1
  have a4 : w2.cell? ⟨w.heap.size, 4, none⟩ = some (.slice aX nX kX) := ((A1.out.below (by omega) hb) 4 (by decide)).1
  have a5 : w2.cell? ⟨w.heap.size, 5, none⟩ = some (.slice aI nI kI) := ((A1.out.below (by omega) hb) 5 (by decide)).1
  have hO := O1.out.below (by omega) hb
  have y0 := (hO 0 (by decide)).1
  have f0 := (hO 0 (by decide)).2
  have y1 := (hO 1 (by decide)).1
  have f1 := (hO 1 (by decide)).2
  have y2 := (hO 2 (by decide)).1
  have f2 := (hO 2 (by decide)).2
  have y3 := (hO 3 (by decide)).1
  have f3 := (hO 3 (by decide)).2
  have y4 := (hO 4 (by decide)).1
  have f4 := (hO 4 (by decide)).2
  have y5 := (hO 5 (by decide)).1
  have f5 := (hO 5 (by decide)).2
  simp only [List.getD, List.getElem?_cons_zero, List.getElem?_cons_succ, Option.getD_some] at y0 y1 y2 y3 y4 y5
  clear hO
  clear ho hb
  go_wp2_with fail
  obtain ⟨w25, e0⟩ : ∃ x, x = (w2.setCell ⟨w.heap.size + 1 + 1, 3, none⟩ (.slice (some ⟨b2, 0, none⟩) nO nO)) := ⟨_, rfl⟩
  rw [← e0] at bA bR bO bB nb1 nb2 ⊢
  have z2 : w2.heap.size ≤ w25.heap.size := by rw [e0]; simp [World.setCell]
  clear e0 a0 a1 a2 a3 a4 a5 y0 y1 y2 y3 y4 y5 f0 f1 f2 f3 f4 f5 A1 R1 O1 B1
  have A2 := bA
  have R2 := bR
  have O2 := bO
  have B2 := bB
  clear bA bR bO bB
  have ob1 := nb1
  clear nb1
  have ob2 := nb2
  clear nb2
  refine (toInts aX nX kX X sX _ (row1_below HX.out B2.out)).mono ?_
  rintro e w3 ⟨rfl, ho, hz3, hb⟩
  obtain ⟨b3, eb⟩ : ∃ b, b = w25.heap.size := ⟨_, rfl⟩
  rw [← eb] at ho hz3 ⊢
  have zz3 : w25.heap.size ≤ b3 := by omega
  clear eb
  have hbl3 := hb.size
  have bA : Hid (Six (w3.setCell ⟨w.heap.size + 1 + 1, 4, none⟩ (.slice (some ⟨b3, 0, none⟩) nX nX)) w.heap.size [.int .i64 VC, .slice aW nW kW, .int .i64 VG, .slice aO nO kO, .slice aX nX kX, .slice aI nI kI]) := ((A2.out.below (by omega) hb).far (by omega))
  have bR : Hid (Six (w3.setCell ⟨w.heap.size + 1 + 1, 4, none⟩ (.slice (some ⟨b3, 0, none⟩) nX nX)) (w.heap.size + 1) [.int .i64 0, .slice none 0 0, .int .i64 0, .slice none 0 0, .slice none 0 0, .slice none 0 0]) := ((R2.out.below (by omega) hb).far (by omega))
  have bO : Hid (Six (w3.setCell ⟨w.heap.size + 1 + 1, 4, none⟩ (.slice (some ⟨b3, 0, none⟩) nX nX)) (w.heap.size + 1 + 1) [.int .i64 VC, .slice (some ⟨b1, 0, none⟩) nW nW, .int .i64 VG, .slice (some ⟨b2, 0, none⟩) nO nO, .slice (some ⟨b3, 0, none⟩) nX nX, .slice none 0 0]) := ((O2.out.below (by omega) hb).set (j := 4) (v := .slice (some ⟨b3, 0, none⟩) nX nX) rfl (by decide))
  have bB : Hid (Below w.heap.size w (w3.setCell ⟨w.heap.size + 1 + 1, 4, none⟩ (.slice (some ⟨b3, 0, none⟩) nX nX))) := ((bthen B2.out hb).setCell (by simp; omega) _)
  have nb1 : Hid (Own5 (w3.setCell ⟨w.heap.size + 1 + 1, 4, none⟩ (.slice (some ⟨b3, 0, none⟩) nX nX)) b1 nW W nW) := (own5_set (own_below ob1.out (by omega) hb) (by omega))
  have nb2 : Hid (OwnO (w3.setCell ⟨w.heap.size + 1 + 1, 4, none⟩ (.slice (some ⟨b3, 0, none⟩) nX nX)) b2 nO N O nO) := (ownO_set (ownO_below ob2.out (by omega) hb) (by omega))
  have nb3 : Hid (Own1 (w3.setCell ⟨w.heap.size + 1 + 1, 4, none⟩ (.slice (some ⟨b3, 0, none⟩) nX nX)) b3 nX X nX) := (own1_set (ho) (by omega))
  have a0 : w3.cell? ⟨w.heap.size, 0, none⟩ = some (.int .i64 VC) := ((A2.out.below (by omega) hb) 0 (by decide)).1
  have a1 : w3.cell? ⟨w.heap.size, 1, none⟩ = some (.slice aW nW kW) := ((A2.out.below (by omega) hb) 1 (by decide)).1
  have a2 : w3.cell? ⟨w.heap.size, 2, none⟩ = some (.int .i64 VG) := ((A2.out.below (by omega) hb) 2 (by decide)).1
  have a3 : w3.cell? ⟨w.heap.size, 3, none⟩ = some (.slice aO nO kO) := ((A2.out.below (by omega) hb) 3 (by decide)).1
  have a4 : w3.cell? ⟨w.heap.size, 4, none⟩ = some (.slice aX nX kX) := ((A2.out.below (by omega) hb) 4 (by decide)).1
  have a5 : w3.cell? ⟨w.heap.size, 5, none⟩ = some (.slice aI nI kI) := ((A2.out.below (by omega) hb) 5 (by decide)).1
  have hO := O2.out.below (by omega) hb
  have y0 := (hO 0 (by decide)).1
  have f0 := (hO 0 (by decide)).2
  have y1 := (hO 1 (by decide)).1
  have f1 := (hO 1 (by decide)).2
  have y2 := (hO 2 (by decide)).1
  have f2 := (hO 2 (by decide)).2
  have y3 := (hO 3 (by decide)).1
  have f3 := (hO 3 (by decide)).2
  have y4 := (hO 4 (by decide)).1
  have f4 := (hO 4 (by decide)).2
  have y5 := (hO 5 (by decide)).1
  have f5 := (hO 5 (by decide)).2
  simp only [List.getD, List.getElem?_cons_zero, List.getElem?_cons_succ, Option.getD_some] at y0 y1 y2 y3 y4 y5
  clear hO
  clear ho hb
  go_wp2_with fail
  obtain ⟨w35, e0⟩ : ∃ x, x = (w3.setCell ⟨w.heap.size + 1 + 1, 4, none⟩ (.slice (some ⟨b3, 0, none⟩) nX nX)) := ⟨_, rfl⟩
  rw [← e0] at bA bR bO bB nb1 nb2 nb3 ⊢
  have z3 : w3.heap.size ≤ w35.heap.size := by rw [e0]; simp [World.setCell]
  clear e0 a0 a1 a2 a3 a4 a5 y0 y1 y2 y3 y4 y5 f0 f1 f2 f3 f4 f5 A2 R2 O2 B2
  have A3 := bA
  have R3 := bR
  have O3 := bO
  have B3 := bB
  clear bA bR bO bB
  have ob1 := nb1
  clear nb1
  have ob2 := nb2
  clear nb2
  have ob3 := nb3
  clear nb3
  refine (toInts aI nI kI I sI _ (row1_below HI.out B3.out)).mono ?_
  rintro e w4 ⟨rfl, ho, hz4, hb⟩
  obtain ⟨b4, eb⟩ : ∃ b, b = w35.heap.size := ⟨_, rfl⟩
  rw [← eb] at ho hz4 ⊢
  have zz4 : w35.heap.size ≤ b4 := by omega
  clear eb
  have hbl4 := hb.size
  have bA : Hid (Six (w4.setCell ⟨w.heap.size + 1 + 1, 5, none⟩ (.slice (some ⟨b4, 0, none⟩) nI nI)) w.heap.size [.int .i64 VC, .slice aW nW kW, .int .i64 VG, .slice aO nO kO, .slice aX nX kX, .slice aI nI kI]) := ((A3.out.below (by omega) hb).far (by omega))
  have bR : Hid (Six (w4.setCell ⟨w.heap.size + 1 + 1, 5, none⟩ (.slice (some ⟨b4, 0, none⟩) nI nI)) (w.heap.size + 1) [.int .i64 0, .slice none 0 0, .int .i64 0, .slice none 0 0, .slice none 0 0, .slice none 0 0]) := ((R3.out.below (by omega) hb).far (by omega))
  have bO : Hid (Six (w4.setCell ⟨w.heap.size + 1 + 1, 5, none⟩ (.slice (some ⟨b4, 0, none⟩) nI nI)) (w.heap.size + 1 + 1) [.int .i64 VC, .slice (some ⟨b1, 0, none⟩) nW nW, .int .i64 VG, .slice (some ⟨b2, 0, none⟩) nO nO, .slice (some ⟨b3, 0, none⟩) nX nX, .slice (some ⟨b4, 0, none⟩) nI nI]) := ((O3.out.below (by omega) hb).set (j := 5) (v := .slice (some ⟨b4, 0, none⟩) nI nI) rfl (by decide))
  have bB : Hid (Below w.heap.size w (w4.setCell ⟨w.heap.size + 1 + 1, 5, none⟩ (.slice (some ⟨b4, 0, none⟩) nI nI))) := ((bthen B3.out hb).setCell (by simp; omega) _)
  have nb1 : Hid (Own5 (w4.setCell ⟨w.heap.size + 1 + 1, 5, none⟩ (.slice (some ⟨b4, 0, none⟩) nI nI)) b1 nW W nW) := (own5_set (own_below ob1.out (by omega) hb) (by omega))
  have nb2 : Hid (OwnO (w4.setCell ⟨w.heap.size + 1 + 1, 5, none⟩ (.slice (some ⟨b4, 0, none⟩) nI nI)) b2 nO N O nO) := (ownO_set (ownO_below ob2.out (by omega) hb) (by omega))
  have nb3 : Hid (Own1 (w4.setCell ⟨w.heap.size + 1 + 1, 5, none⟩ (.slice (some ⟨b4, 0, none⟩) nI nI)) b3 nX X nX) := (own1_set (own1_below ob3.out (by omega) hb) (by omega))
  have nb4 : Hid (Own1 (w4.setCell ⟨w.heap.size + 1 + 1, 5, none⟩ (.slice (some ⟨b4, 0, none⟩) nI nI)) b4 nI I nI) := (own1_set (ho) (by omega))
  have a0 : w4.cell? ⟨w.heap.size, 0, none⟩ = some (.int .i64 VC) := ((A3.out.below (by omega) hb) 0 (by decide)).1
  have a1 : w4.cell? ⟨w.heap.size, 1, none⟩ = some (.slice aW nW kW) := ((A3.out.below (by omega) hb) 1 (by decide)).1
  have a2 : w4.cell? ⟨w.heap.size, 2, none⟩ = some (.int .i64 VG) := ((A3.out.below (by omega) hb) 2 (by decide)).1
  have a3 : w4.cell? ⟨w.heap.size, 3, none⟩ = some (.slice aO nO kO) := ((A3.out.below (by omega) hb) 3 (by decide)).1
  have a4 : w4.cell? ⟨w.heap.size, 4, none⟩ = some (.slice aX nX kX) := ((A3.out.below (by omega) hb) 4 (by decide)).1
  have a5 : w4.cell? ⟨w.heap.size, 5, none⟩ = some (.slice aI nI kI) := ((A3.out.below (by omega) hb) 5 (by decide)).1
  have hO := O3.out.below (by omega) hb
  have y0 := (hO 0 (by decide)).1
  have f0 := (hO 0 (by decide)).2
  have y1 := (hO 1 (by decide)).1
  have f1 := (hO 1 (by decide)).2
  have y2 := (hO 2 (by decide)).1
  have f2 := (hO 2 (by decide)).2
  have y3 := (hO 3 (by decide)).1
  have f3 := (hO 3 (by decide)).2
  have y4 := (hO 4 (by decide)).1
  have f4 := (hO 4 (by decide)).2
  have y5 := (hO 5 (by decide)).1
  have f5 := (hO 5 (by decide)).2
  simp only [List.getD, List.getElem?_cons_zero, List.getElem?_cons_succ, Option.getD_some] at y0 y1 y2 y3 y4 y5
  have hR := R3.out.below (by omega) hb
  have r0 := (hR 0 (by decide)).1
  have g0 := (hR 0 (by decide)).2
  have r1 := (hR 1 (by decide)).1
  have g1 := (hR 1 (by decide)).2
  have r2 := (hR 2 (by decide)).1
  have g2 := (hR 2 (by decide)).2
  have r3 := (hR 3 (by decide)).1
  have g3 := (hR 3 (by decide)).2
  have r4 := (hR 4 (by decide)).1
  have g4 := (hR 4 (by decide)).2
  have r5 := (hR 5 (by decide)).1
  have g5 := (hR 5 (by decide)).2
  simp only [List.getD, List.getElem?_cons_zero, List.getElem?_cons_succ, Option.getD_some] at r0 r1 r2 r3 r4 r5
  clear hO
  go_wp2
  refine bodyPost_ret (v := .agg #[.int .i64 VC, .slice (some ⟨b1, 0, none⟩) nW nW, .int .i64 VG, .slice (some ⟨b2, 0, none⟩) nO nO, .slice (some ⟨b3, 0, none⟩) nX nX, .slice (some ⟨b4, 0, none⟩) nI nI]) (by simp [results, Tryz.results7, go_sem, r0, r1, r2, r3, r4, r5]) rfl ?_
  refine ⟨⟨_, rfl, b1, b2, b3, b4, by omega, by omega, by omega, by omega, by simp [World.setCell]; omega, rfl, (own5_set ((own5_set ((own5_set ((own5_set ((own5_set ((own5_set (nb1.out) (by omega))) (by omega))) (by omega))) (by omega))) (by omega))) (by omega)), (ownO_set ((ownO_set ((ownO_set ((ownO_set ((ownO_set ((ownO_set (nb2.out) (by omega))) (by omega))) (by omega))) (by omega))) (by omega))) (by omega)), (own1_set ((own1_set ((own1_set ((own1_set ((own1_set ((own1_set (nb3.out) (by omega))) (by omega))) (by omega))) (by omega))) (by omega))) (by omega)), (own1_set ((own1_set ((own1_set ((own1_set ((own1_set ((own1_set (nb4.out) (by omega))) (by omega))) (by omega))) (by omega))) (by omega))) (by omega))⟩, ((((((bB.out.setCell (by simp) _).setCell (by simp) _).setCell (by simp) _).setCell (by simp) _).setCell (by simp) _).setCell (by simp) _)⟩
end Go.Proofs.YtjmjffhommlbnaaGreat
