/- What is carried: lemmas on lists, cells and draws; conditions: those typed. -/
import Derived.Test.YtlmoeacpkkkkcaaGreatDoorProg
import Derived.WalkKit
import Derived.ProofKit
import Derived.OpenShut
import Derived.Below
import Derived.Test.YtlmoeacpkkkkcaaGreatDoorRows
import Derived.WalkSpells
import Derived.Deep.RegionHeld3
import Derived.Deep.QuietTactic
import Derived.BigQuiet
import Derived.LoopTactic
import Derived.Deep.OwnRows
import Derived.Laws.IdiomCopy
import Derived.Deep.Slices
import Derived.Maps.Keyed
import Derived.Maps.AppendAt
import Derived.Maps.RangeWalk
import Derived.OwnWalk
import Derived.Test.YtlmoeacpkkkkcaaGreatDoorShelf
import Derived.Test.YtlmoeacpkkkkcaaGreatDoorTA
import Derived.Test.YtlmoeacpkkkkcaaGreatDoorBase
import Derived.Test.YtlmoeacpkkkkcaaGreatDoorTC
namespace Go.Proofs
set_option maxRecDepth 100000
end Go.Proofs
namespace Go.Proofs.YtlmoeacpkkkkcaaGreatDoor
open Go.RowKit Go.ChangeShapes Go.WideShapes Go.ChangeAt
end Go.Proofs.YtlmoeacpkkkkcaaGreatDoor
namespace Go.Proofs.YtlmoeacpkkkkcaaGreatDoor
open Go.RowKit
set_option linter.unusedVariables false
set_option maxRecDepth 100000
end Go.Proofs.YtlmoeacpkkkkcaaGreatDoor
namespace Go.Proofs.YtlmoeacpkkkkcaaGreatDoor
open Go.RowKit Go.Deep
set_option linter.unusedVariables false
set_option maxRecDepth 100000
theorem eqWalker (i a n s l : Int) (w : World) :
    Calls Tryz.prog 22 #[.agg #[.int .i64 i, .int .i64 a, .int .i64 n, .int .i64 s, .int .i64 l], .agg #[.int .i64 i, .int .i64 a, .int .i64 n, .int .i64 s, .int .i64 l]] w fun e w' => e = .returned (.bool true) ∧ Below w.heap.size w w' := by
  go_enter Tryz.func22, Tryz.ntmps22
  go_wp2
  go_ret
  exact ⟨rfl, by repeat (first | exact Below.refl _ _ | refine bthen ?_ (by assumption) | apply Below.drew | apply bdrewN | refine Below.alloc ?_ (by simp) _)⟩
/-- Block B of wr is a row of n structs of five integers of the call's own, of which the first k hold Z's. -/
def Own5 (wr : World) (B n : Nat) (Z : Nat → Nat → Int) (k : Nat) : Prop :=
  (∀ i, i < n * 5 → (wr.cell? ⟨B, i, none⟩).isSome = true ∧ wr.frozen? ⟨B, i, none⟩ = false) ∧ ∀ k' j, k' < k → j < 5 → wr.cell? ⟨B, k' * 5 + j, none⟩ = some (.int .i64 (Z k' j))
theorem own_cell {wr : World} {B n k : Nat} {Z : Nat → Nat → Int} (h : Own5 wr B n Z k) (hk : k < n) (j : Nat) (hj : j < 5) : (∃ v, wr.cell? ⟨B, k * 5 + j, none⟩ = some v) ∧ wr.frozen? ⟨B, k * 5 + j, none⟩ = false := by
  obtain ⟨h1, h2⟩ := h.1 (k * 5 + j) (by omega)
  exact ⟨Option.isSome_iff_exists.1 h1, h2⟩
def put5w (w : World) (B k : Nat) (Z : Nat → Nat → Int) : World :=
  ((((w.setCell ⟨B, k * 5, none⟩ (.int .i64 (Z k 0))).setCell ⟨B, k * 5 + 1, none⟩ (.int .i64 (Z k 1))).setCell ⟨B, k * 5 + 2, none⟩ (.int .i64 (Z k 2))).setCell ⟨B, k * 5 + 3, none⟩ (.int .i64 (Z k 3))).setCell ⟨B, k * 5 + 4, none⟩ (.int .i64 (Z k 4))
theorem put5w_cells (w : World) (B k : Nat) (Z : Nat → Nat → Int) : put5w w B k Z = w.setCells B (k * 5) [.int .i64 (Z k 0), .int .i64 (Z k 1), .int .i64 (Z k 2), .int .i64 (Z k 3), .int .i64 (Z k 4)] := rfl
theorem own_put {w : World} {B n k : Nat} {Z : Nat → Nat → Int} (h : Own5 w B n Z k) (hk : k < n) : Own5 (put5w w B k Z) B n Z (k + 1) := by
  have hin : ∀ j, j < 5 → (put5w w B k Z).cell? ⟨B, k * 5 + j, none⟩ = some (.int .i64 (Z k j)) := by
    intro j hj
    rw [put5w_cells]
    have := World.cell?_setCells_in B [.int .i64 (Z k 0), .int .i64 (Z k 1), .int .i64 (Z k 2), .int .i64 (Z k 3), .int .i64 (Z k 4)] (k * 5) w (fun j' hj' => (h.1 (k * 5 + j') (by simp at hj'; omega)).1) j (by simpa using hj)
    rw [this]
    match j, hj with
    | 0, _ => rfl
    | 1, _ => rfl
    | 2, _ => rfl
    | 3, _ => rfl
    | 4, _ => rfl
  have hout : ∀ i, (i < k * 5 ∨ k * 5 + 5 ≤ i) → (put5w w B k Z).cell? ⟨B, i, none⟩ = w.cell? ⟨B, i, none⟩ := by
    intro i hi
    rw [put5w_cells]
    exact World.cell?_setCells_out B _ (k * 5) w ⟨B, i, none⟩ (fun _ _ => by simpa using hi)
  refine ⟨fun i hi => ⟨?_, ?_⟩, fun k' j hk' hj => ?_⟩
  · by_cases hc : i < k * 5 ∨ k * 5 + 5 ≤ i
    · rw [hout i hc]; exact (h.1 i hi).1
    · have := hin (i - k * 5) (by omega)
      rw [show k * 5 + (i - k * 5) = i by omega] at this
      rw [this]; rfl
  · rw [put5w_cells, World.frozen?_setCells]; exact (h.1 i hi).2
  · by_cases hc : k' = k
    · subst hc; exact hin j hj
    · rw [hout _ (by omega)]; exact h.2 k' j (by omega) hj
end Go.Proofs.YtlmoeacpkkkkcaaGreatDoor
namespace Go.Proofs.YtlmoeacpkkkkcaaGreatDoor
open Go.RowKit Go.ChangeShapes Go.WideShapes Go.ChangeAt Go.Deep
end Go.Proofs.YtlmoeacpkkkkcaaGreatDoor
namespace Go.Proofs.YtlmoeacpkkkkcaaGreatDoor
open Go.RowKit Go.Deep
set_option linter.unusedVariables false
set_option maxRecDepth 100000
set_option maxHeartbeats 8000000 in
theorem eqList (b1 o1 cap1 b2 o2 cap2 n : Nat) (Z : Nat → Nat → Int) (hn : n ≤ 2000000) (w : World) (hb1 : b1 < w.heap.size) (hb2 : b2 < w.heap.size)
    (h1 : ∀ k j, k < n → j < 5 → w.cell? ⟨b1, o1 + k * 5 + j, none⟩ = some (.int .i64 (Z k j))) (h2 : ∀ k j, k < n → j < 5 → w.cell? ⟨b2, o2 + k * 5 + j, none⟩ = some (.int .i64 (Z k j))) :
    Calls Tryz.prog 9 #[.slice (some ⟨b1, o1, none⟩) n cap1, .slice (some ⟨b2, o2, none⟩) n cap2] w fun e w' => e = .returned (.bool true) ∧ Below w.heap.size w w' := by
  have H1 : Hid (∀ k j, k < n → j < 5 → w.cell? ⟨b1, o1 + k * 5 + j, none⟩ = some (.int .i64 (Z k j))) := h1
  have H2 : Hid (∀ k j, k < n → j < 5 → w.cell? ⟨b2, o2 + k * 5 + j, none⟩ = some (.int .i64 (Z k j))) := h2
  clear h1 h2
  go_enter Tryz.func9, Tryz.ntmps9
  go_wp2
  go_loopw [5] (fun i wr => ∃ k : Nat, k ≤ n ∧ i = .int .i64 k ∧ ((∀ b o, b < w.heap.size → wr.cell? ⟨b, o, none⟩ = w.cell? ⟨b, o, none⟩) ∧ w.heap.size ≤ wr.heap.size) ∧ Below w.heap.size w wr) (fun i _ => n - (intOf i).toNat)
  case atStart => exact ⟨0, Nat.zero_le _, rfl, ⟨fun _ _ _ => rfl, Nat.le_refl _⟩, Below.refl _ _⟩
  case round =>
    obtain ⟨k, hk, rfl, HS, BR⟩ := hrel
    by_cases hkn : k < n
    · have c10 : w.cell? ⟨b1, o1 + k * 5, none⟩ = some (.int .i64 (Z k 0)) := H1.out k 0 hkn (by omega)
      have c11 : w.cell? ⟨b1, o1 + k * 5 + 1, none⟩ = some (.int .i64 (Z k 1)) := H1.out k 1 hkn (by omega)
      have c12 : w.cell? ⟨b1, o1 + k * 5 + 2, none⟩ = some (.int .i64 (Z k 2)) := H1.out k 2 hkn (by omega)
      have c13 : w.cell? ⟨b1, o1 + k * 5 + 3, none⟩ = some (.int .i64 (Z k 3)) := H1.out k 3 hkn (by omega)
      have c14 : w.cell? ⟨b1, o1 + k * 5 + 4, none⟩ = some (.int .i64 (Z k 4)) := H1.out k 4 hkn (by omega)
      have c20 : w.cell? ⟨b2, o2 + k * 5, none⟩ = some (.int .i64 (Z k 0)) := H2.out k 0 hkn (by omega)
      have c21 : w.cell? ⟨b2, o2 + k * 5 + 1, none⟩ = some (.int .i64 (Z k 1)) := H2.out k 1 hkn (by omega)
      have c22 : w.cell? ⟨b2, o2 + k * 5 + 2, none⟩ = some (.int .i64 (Z k 2)) := H2.out k 2 hkn (by omega)
      have c23 : w.cell? ⟨b2, o2 + k * 5 + 3, none⟩ = some (.int .i64 (Z k 3)) := H2.out k 3 hkn (by omega)
      have c24 : w.cell? ⟨b2, o2 + k * 5 + 4, none⟩ = some (.int .i64 (Z k 4)) := H2.out k 4 hkn (by omega)
      go_wp2
      refine wp_region_held_drew (S := fun w' => (∀ b o, b < w.heap.size → w'.cell? ⟨b, o, none⟩ = w.cell? ⟨b, o, none⟩) ∧ w.heap.size ≤ w'.heap.size) (by kernel_rfl) HS ?_
      intro hHeld
      refine wpAnyH_take (i := 0) (v := .slice (some ⟨b1, o1, none⟩) n cap1) rfl (by kernel_rfl) (by kernel_rfl) (by kernel_rfl) (fun _ _ _ h => h) (Or.inl ⟨by rfl, ?_⟩) (by assumption) ?_
      · intro wx hSw; go_simp
      try simp only [Act.put, List.setIfInBounds_toArray, List.set_cons_zero, List.set_cons_succ, List.getElem_toArray, List.getElem_cons_zero]
      refine wpAnyH_take (i := 1) (v := .int .i64 (k : Int)) rfl (by kernel_rfl) (by kernel_rfl) (by kernel_rfl) (fun _ _ _ h => h) (Or.inl ⟨by rfl, ?_⟩) (by assumption) ?_
      · intro wx hSw; go_simp
      try simp only [Act.put, List.setIfInBounds_toArray, List.set_cons_zero, List.set_cons_succ, List.getElem_toArray, List.getElem_cons_zero, List.getElem_cons_succ]
      refine wpAnyH_take (i := 2) (v := .pointer (some ⟨b1, o1 + k * 5, none⟩)) rfl (by kernel_rfl) (by kernel_rfl) (by kernel_rfl) (fun _ _ _ h => h) (Or.inl ⟨by rfl, ?_⟩) (by assumption) ?_
      · intro wx hSw; go_simp
      try simp only [Act.put, List.setIfInBounds_toArray, List.set_cons_zero, List.set_cons_succ, List.getElem_toArray, List.getElem_cons_zero, List.getElem_cons_succ]
      refine wpAnyH_take (i := 3) (v := .agg #[.int .i64 (Z k 0), .int .i64 (Z k 1), .int .i64 (Z k 2), .int .i64 (Z k 3), .int .i64 (Z k 4)]) rfl (by kernel_rfl) (by kernel_rfl) (by kernel_rfl) (fun _ _ _ h => h) (Or.inl ⟨by rfl, ?_⟩) (by assumption) ?_
      · intro wx hSw; go_simp
      try simp only [Act.put, List.setIfInBounds_toArray, List.set_cons_zero, List.set_cons_succ, List.getElem_toArray, List.getElem_cons_zero, List.getElem_cons_succ]
      refine wpAnyH_take (i := 4) (v := .slice (some ⟨b2, o2, none⟩) n cap2) rfl (by kernel_rfl) (by kernel_rfl) (by kernel_rfl) (fun _ _ _ h => h) (Or.inl ⟨by rfl, ?_⟩) (by assumption) ?_
      · intro wx hSw; go_simp
      try simp only [Act.put, List.setIfInBounds_toArray, List.set_cons_zero, List.set_cons_succ, List.getElem_toArray, List.getElem_cons_zero, List.getElem_cons_succ]
      refine wpAnyH_take (i := 5) (v := .int .i64 (k : Int)) rfl (by kernel_rfl) (by kernel_rfl) (by kernel_rfl) (fun _ _ _ h => h) (Or.inl ⟨by rfl, ?_⟩) (by assumption) ?_
      · intro wx hSw; go_simp
      try simp only [Act.put, List.setIfInBounds_toArray, List.set_cons_zero, List.set_cons_succ, List.getElem_toArray, List.getElem_cons_zero, List.getElem_cons_succ]
      refine wpAnyH_take (i := 6) (v := .pointer (some ⟨b2, o2 + k * 5, none⟩)) rfl (by kernel_rfl) (by kernel_rfl) (by kernel_rfl) (fun _ _ _ h => h) (Or.inl ⟨by rfl, ?_⟩) (by assumption) ?_
      · intro wx hSw; go_simp
      try simp only [Act.put, List.setIfInBounds_toArray, List.set_cons_zero, List.set_cons_succ, List.getElem_toArray, List.getElem_cons_zero, List.getElem_cons_succ]
      refine wpAnyH_take (i := 7) (v := .agg #[.int .i64 (Z k 0), .int .i64 (Z k 1), .int .i64 (Z k 2), .int .i64 (Z k 3), .int .i64 (Z k 4)]) rfl (by kernel_rfl) (by kernel_rfl) (by kernel_rfl) (fun _ _ _ h => h) (Or.inl ⟨by rfl, ?_⟩) (by assumption) ?_
      · intro wx hSw; go_simp
      try simp only [Act.put, List.setIfInBounds_toArray, List.set_cons_zero, List.set_cons_succ, List.getElem_toArray, List.getElem_cons_zero, List.getElem_cons_succ]
      refine wpAnyH_ready (rs := [8]) (by kernel_rfl) (by simp) ?_
      refine AllReadyH.cons rfl (fun K hK => ?_) AllReadyH.nil
      go_simp
      go_wp2_with (go_at_call 22; refine (eqWalker _ _ _ _ _ _).mono ?_; rintro e w2 ⟨rfl, hbw2⟩)
      refine hK.out _ _ (keepS (by assumption) hbw2) (fun hHeld => ?_)
      clear hK K
      try simp only [Act.put, List.setIfInBounds_toArray, List.set_cons_zero, List.set_cons_succ, List.getElem_toArray, List.getElem_cons_zero, List.getElem_cons_succ]
      refine wpAnyH_take (i := 9) (v := .bool false) rfl (by kernel_rfl) (by kernel_rfl) (by kernel_rfl) (fun _ _ _ h => h) (Or.inl ⟨by rfl, ?_⟩) (by assumption) ?_
      · intro wx hSw; go_simp
      try simp only [Act.put, List.setIfInBounds_toArray, List.set_cons_zero, List.set_cons_succ, List.getElem_toArray, List.getElem_cons_zero, List.getElem_cons_succ]
      refine wpAnyH_done (by kernel_rfl) ?_ _
      go_wp2
      go_roundw
      case rel => exact ⟨k + 1, by omega, by go_num, by assumption, by repeat (first | exact BR | refine bthen ?_ (by assumption) | apply Below.drew)⟩
      case measure => simp [intOf]; omega
    · have : k = n := by omega
      subst this
      go_wp2
      go_ret
      exact ⟨rfl, by repeat (first | exact BR | refine bthen ?_ (by assumption) | apply Below.drew)⟩
theorem own_row {w : World} {B n : Nat} {Z : Nat → Nat → Int} (h : Own5 w B n Z n) : ∀ k j, k < n → j < 5 → w.cell? ⟨B, 0 + k * 5 + j, none⟩ = some (.int .i64 (Z k j)) := fun k j hk hj => by
  rw [Nat.zero_add]; exact h.2 k j hk hj
end Go.Proofs.YtlmoeacpkkkkcaaGreatDoor
namespace Go.Proofs.YtlmoeacpkkkkcaaGreatDoor
open Go.RowKit Go.Maps Go.WideMaps Go.ChangeMaps Go.MapKept
set_option linter.unusedVariables false
set_option maxRecDepth 100000
end Go.Proofs.YtlmoeacpkkkkcaaGreatDoor
namespace Go.Proofs.YtlmoeacpkkkkcaaGreatDoor
open Go.RowKit Go.Deep Go.Maps
set_option linter.unusedVariables false
set_option maxRecDepth 100000
end Go.Proofs.YtlmoeacpkkkkcaaGreatDoor
namespace Go.Proofs.YtlmoeacpkkkkcaaGreatDoor
open Go.RowKit Go.Deep Go.Maps Go.MapKept
set_option linter.unusedVariables false
set_option maxRecDepth 100000
/-- The flat row's t-th cell. -/
theorem get_flat {α : Type} [Inhabited α] {m : Nat} (f : α → List Value) (hf : ∀ x, (f x).length = m) : ∀ (L : List α) (i c : Nat), i < L.length → c < m → (L.flatMap f)[i * m + c]? = some (f L[i]!)[c]!
  | [], i, c, hi, _ => absurd hi (by simp)
  | x :: r, 0, c, _, hc => by
    rw [List.flatMap_cons, List.getElem?_append_left (by rw [hf]; omega)]
    have : c < (f x).length := by rw [hf]; exact hc
    simp [this]
  | x :: r, i + 1, c, hi, hc => by
    have h := get_flat f hf r i c (by simpa using hi) hc
    rw [List.flatMap_cons, List.getElem?_append_right (by rw [hf, Nat.add_mul]; omega), hf]
    rw [show (i + 1) * m + c - m = i * m + c by rw [Nat.add_mul]; omega, h]
    simp
end Go.Proofs.YtlmoeacpkkkkcaaGreatDoor
namespace Go.Proofs.YtlmoeacpkkkkcaaGreatDoor
open Go.RowKit Go.Deep Go.Maps Go.Lib
set_option linter.unusedVariables false
set_option maxRecDepth 100000
end Go.Proofs.YtlmoeacpkkkkcaaGreatDoor
namespace Go.Proofs.YtlmoeacpkkkkcaaGreatDoor
open Go.RowKit Go.Deep Go.Maps Go.MapKept
set_option linter.unusedVariables false
set_option maxRecDepth 100000
/-- The cells of the k-th walker. -/
def five (Z : Nat → Nat → Int) (k : Nat) : List Value := [.int .i64 (Z k 0), .int .i64 (Z k 1), .int .i64 (Z k 2), .int .i64 (Z k 3), .int .i64 (Z k 4)]
end Go.Proofs.YtlmoeacpkkkkcaaGreatDoor
namespace Go.Proofs.YtlmoeacpkkkkcaaGreatDoor
open Go.RowKit Go.Deep Go.Maps
set_option linter.unusedVariables false
set_option maxRecDepth 100000
/-- A slice of the call's own, not nil, that holds the walkers L of Z. -/
def Walks (w : World) (base : Nat) (v : Value) (L : List Nat) (Z : Nat → Nat → Int) : Prop :=
  ∃ g cap, v = .slice (some ⟨g, 0, none⟩) L.length cap ∧ w.ownsRow base 39 5 v L.length (L.flatMap (five Z))
end Go.Proofs.YtlmoeacpkkkkcaaGreatDoor
namespace Go.Proofs.YtlmoeacpkkkkcaaGreatDoor
open Go.RowKit Go.Deep Go.Maps
set_option linter.unusedVariables false
set_option maxRecDepth 100000
/-- The marks. -/
def M (k j : Nat) : Int := ((1 + k * 5 + j : Nat) : Int)
theorem put5w_grown (w : World) (B k : Nat) (Z : Nat → Nat → Int) : w.grownBy (put5w w B k Z) (some B) ∧ (put5w w B k Z).heap.size = w.heap.size := by
  unfold put5w
  refine ⟨((((set_grown _ _ _ _).1.trans (set_grown _ _ _ _).1).trans (set_grown _ _ _ _).1).trans (set_grown _ _ _ _).1).trans (set_grown _ _ _ _).1, ?_⟩
  rw [(set_grown _ _ _ _).2, (set_grown _ _ _ _).2, (set_grown _ _ _ _).2, (set_grown _ _ _ _).2, (set_grown _ _ _ _).2]
set_option maxRecDepth 20000 in
set_option maxHeartbeats 1000000 in
theorem mark (B n cap : Nat) (Z : Nat → Nat → Int) (hn : n ≤ 2000000) (w : World) (hB : B < w.heap.size) (h : Own5 w B n Z n) :
    Calls Tryz.prog 12 #[.slice (some ⟨B, 0, none⟩) n cap, .int .i64 1] w fun e w' => e = .returned (.int .i64 ((1 + n * 5 : Nat) : Int)) ∧ Own5 w' B n M n ∧ w.grownBy w' (some B) ∧ w'.heap.size = w.heap.size := by
  have H0 : Hid (Own5 w B n M 0) := ⟨h.1, fun _ _ h => absurd h (by omega)⟩
  clear h
  go_enter Tryz.func12, Tryz.ntmps12
  go_wp2
  go_loopw [1, 5] (fun c i wr => ∃ k : Nat, k ≤ n ∧ .int .i64 k = i ∧ .int .i64 (M k 0) = c ∧ Own5 wr B n M k ∧ w.grownBy wr (some B) ∧ wr.heap.size = w.heap.size) (fun _ i _ => n - (intOf i).toNat)
  case atStart => exact ⟨0, Nat.zero_le _, rfl, rfl, H0.out, World.grownBy.refl _ _, rfl⟩
  case round =>
    obtain ⟨k, hk, rfl, rfl, hown, hg, hsz⟩ := hrel
    by_cases hkn : k < n
    · have hkn' : (k : Int) < (n : Int) := by omega
      obtain ⟨⟨v0, d0⟩, f0⟩ := own_cell hown hkn 0 (by omega)
      obtain ⟨⟨v1, d1⟩, f1⟩ := own_cell hown hkn 1 (by omega)
      obtain ⟨⟨v2, d2⟩, f2⟩ := own_cell hown hkn 2 (by omega)
      obtain ⟨⟨v3, d3⟩, f3⟩ := own_cell hown hkn 3 (by omega)
      obtain ⟨⟨v4, d4⟩, f4⟩ := own_cell hown hkn 4 (by omega)
      simp only [Nat.add_zero] at d0 f0
      have HO : Hid (Own5 wr B n M k) := hown
      have HP : Hid (Own5 (put5w wr B k M) B n M (k + 1)) := own_put hown hkn
      have HG : Hid (w.grownBy (put5w wr B k M) (some B) ∧ (put5w wr B k M).heap.size = w.heap.size) := ⟨hg.trans (put5w_grown wr B k M).1, (put5w_grown wr B k M).2.trans hsz⟩
      have m1 : IntKind.wrap .i64 (M k 0 + 1) = M k 1 := by unfold M; simp [IntKind.wrap, IntKind.bits, IntKind.signed]; omega
      have m2 : IntKind.wrap .i64 (M k 1 + 1) = M k 2 := by unfold M; simp [IntKind.wrap, IntKind.bits, IntKind.signed]; omega
      have m3 : IntKind.wrap .i64 (M k 2 + 1) = M k 3 := by unfold M; simp [IntKind.wrap, IntKind.bits, IntKind.signed]; omega
      have m4 : IntKind.wrap .i64 (M k 3 + 1) = M k 4 := by unfold M; simp [IntKind.wrap, IntKind.bits, IntKind.signed]; omega
      have m5 : IntKind.wrap .i64 (M k 4 + 1) = M (k + 1) 0 := by unfold M; simp [IntKind.wrap, IntKind.bits, IntKind.signed]; omega
      clear hown hg hsz
      go_wp2
      go_roundw
      case rel => exact ⟨k + 1, by omega, by go_num, rfl, HP.out, HG.out.1, HG.out.2⟩
      case measure => simp [intOf]; omega
    · have hkn' : k = n := by omega
      subst hkn'
      have HO : Hid (Own5 wr B k M k) := hown
      clear hown
      go_wp2
      go_ret
      exact ⟨rfl, HO.out, hg, hsz⟩
set_option maxRecDepth 20000 in
set_option maxHeartbeats 1000000 in
theorem held (B n cap : Nat) (hn : n ≤ 2000000) (w : World) (hB : B < w.heap.size) (h : Own5 w B n M n) :
    Calls Tryz.prog 13 #[.slice (some ⟨B, 0, none⟩) n cap, .int .i64 1] w fun e w' => e = .returned (.int .i64 ((1 + n * 5 : Nat) : Int)) ∧ Below w.heap.size w w' := by
  have H0 : Hid (Own5 w B n M n) := h
  clear h
  go_enter Tryz.func13, Tryz.ntmps13
  go_wp2
  go_loopw [1, 5] (fun c i wr => ∃ k : Nat, k ≤ n ∧ .int .i64 k = i ∧ .int .i64 (M k 0) = c ∧ w = wr) (fun _ i _ => n - (intOf i).toNat)
  case atStart => exact ⟨0, Nat.zero_le _, rfl, rfl, rfl⟩
  case round =>
    obtain ⟨k, hk, rfl, rfl, rfl⟩ := hrel
    by_cases hkn : k < n
    · have hkn' : (k : Int) < (n : Int) := by omega
      have c0 : w.cell? ⟨B, k * 5, none⟩ = some (.int .i64 (M k 0)) := H0.out.2 k 0 hkn (by omega)
      have c1 : w.cell? ⟨B, k * 5 + 1, none⟩ = some (.int .i64 (M k 1)) := H0.out.2 k 1 hkn (by omega)
      have c2 : w.cell? ⟨B, k * 5 + 2, none⟩ = some (.int .i64 (M k 2)) := H0.out.2 k 2 hkn (by omega)
      have c3 : w.cell? ⟨B, k * 5 + 3, none⟩ = some (.int .i64 (M k 3)) := H0.out.2 k 3 hkn (by omega)
      have c4 : w.cell? ⟨B, k * 5 + 4, none⟩ = some (.int .i64 (M k 4)) := H0.out.2 k 4 hkn (by omega)
      have m1 : IntKind.wrap .i64 (M k 0 + 1) = M k 1 := by unfold M; simp [IntKind.wrap, IntKind.bits, IntKind.signed]; omega
      have m2 : IntKind.wrap .i64 (M k 1 + 1) = M k 2 := by unfold M; simp [IntKind.wrap, IntKind.bits, IntKind.signed]; omega
      have m3 : IntKind.wrap .i64 (M k 2 + 1) = M k 3 := by unfold M; simp [IntKind.wrap, IntKind.bits, IntKind.signed]; omega
      have m4 : IntKind.wrap .i64 (M k 3 + 1) = M k 4 := by unfold M; simp [IntKind.wrap, IntKind.bits, IntKind.signed]; omega
      have m5 : IntKind.wrap .i64 (M k 4 + 1) = M (k + 1) 0 := by unfold M; simp [IntKind.wrap, IntKind.bits, IntKind.signed]; omega
      go_wp2
      go_roundw
      case rel => exact ⟨k + 1, by omega, by go_num, rfl, by trivial⟩
      case measure => simp [intOf]; omega
    · have hkn' : k = n := by omega
      subst hkn'
      go_wp2
      go_ret
      exact ⟨rfl, Below.refl _ _⟩
theorem Walks.own {w : World} {base : Nat} {v : Value} {L : List Nat} {Z : Nat → Nat → Int} (h : Walks w base v L Z) : ∃ g cap, v = .slice (some ⟨g, 0, none⟩) L.length cap ∧ base ≤ g ∧ g < w.heap.size ∧ Own5 w g L.length (fun k j => Z L[k]! j) L.length := by
  obtain ⟨g, cap, rfl, ho⟩ := h
  refine ⟨g, cap, rfl, (ho.lt g rfl).1, (ho.lt g rfl).2, fun i hi => ⟨?_, ho.frozenAt i⟩, fun k j hk hj => ?_⟩
  · rw [ho.cellAt i hi]
    have : i < (L.flatMap (five Z)).length := by rw [ho.1]; exact hi
    rw [List.getElem?_eq_getElem this]
    rfl
  · rw [ho.cellAt (k * 5 + j) (by omega), get_flat (m := 5) (five Z) (fun _ => rfl) L k j hk hj]
    match j, hj with
    | 0, _ => rfl
    | 1, _ => rfl
    | 2, _ => rfl
    | 3, _ => rfl
    | 4, _ => rfl
theorem eqWalks {base1 base2 : Nat} {v1 v2 : Value} {L : List Nat} {Z : Nat → Nat → Int} {w : World} (h1 : Walks w base1 v1 L Z) (h2 : Walks w base2 v2 L Z) (hL : L.length ≤ 2000000) :
    Calls Tryz.prog 9 #[v1, v2] w fun e w' => e = .returned (.bool true) ∧ Below w.heap.size w w' := by
  obtain ⟨g1, c1, rfl, _, l1, o1⟩ := h1.own
  obtain ⟨g2, c2, rfl, _, l2, o2⟩ := h2.own
  exact eqList g1 0 c1 g2 0 c2 L.length _ hL w l1 l2 (own_row o1) (own_row o2)
end Go.Proofs.YtlmoeacpkkkkcaaGreatDoor
namespace Go.Proofs.YtlmoeacpkkkkcaaGreatDoor
open Go.RowKit Go.Deep Go.Maps
set_option linter.unusedVariables false
set_option maxRecDepth 100000
/-- A slice of the call's own that bears marks. -/
def Marked (w : World) (base : Nat) (v : Value) (N : Nat) : Prop := ∃ g cap, v = .slice (some ⟨g, 0, none⟩) N cap ∧ base ≤ g ∧ g < w.heap.size ∧ Own5 w g N M N
theorem markWalks {base : Nat} {v : Value} {L : List Nat} {Z : Nat → Nat → Int} {w : World} (h : Walks w base v L Z) (hL : L.length ≤ 2000000) :
    Calls Tryz.prog 12 #[v, .int .i64 1] w fun e w' => e = .returned (.int .i64 (M L.length 0)) ∧ Marked w' base v L.length ∧ w.grownBy w' v.ownBlock ∧ w'.heap.size = w.heap.size := by
  obtain ⟨g, cap, rfl, hb, hl, ho⟩ := h.own
  refine (mark g L.length cap _ hL w hl ho).mono ?_
  rintro e w' ⟨rfl, h1, h2, h3⟩
  exact ⟨rfl, ⟨g, cap, rfl, hb, by omega, h1⟩, h2, h3⟩
theorem heldMarked {base : Nat} {v : Value} {N : Nat} {w : World} (h : Marked w base v N) (hN : N ≤ 2000000) :
    Calls Tryz.prog 13 #[v, .int .i64 1] w fun e w' => e = .returned (.int .i64 (M N 0)) ∧ Below w.heap.size w w' := by
  obtain ⟨g, cap, rfl, hb, hl, ho⟩ := h
  exact held g N cap hN w hl ho
end Go.Proofs.YtlmoeacpkkkkcaaGreatDoor
