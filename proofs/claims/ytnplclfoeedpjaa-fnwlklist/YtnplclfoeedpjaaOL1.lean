/- Walkers that stand in order, put one by one from the front and from the back; the law's own comparison of two lists; conditions: those typed. -/
import Derived.Test.YtnplclfoeedpjaaDP
namespace Go.Proofs.Ytnplclfoeedpjaa
open Go.RowKit Go.Deep Go.Maps
set_option linter.unusedVariables false

theorem rest_all {Z : Nat → Nat → Int} {n : Nat} {z : Int} (h : ∀ k, k < n → Z k 0 ≠ z) : rest Z n z = List.range n := by
  unfold rest
  rw [List.filter_eq_self]
  intro k hk
  simpa using h k (List.mem_range.1 hk)
theorem putL_last {Z : Nat → Nat → Int} {n : Nat} (h : ∀ k, k < n → Z k 0 < Z n 0) : putL Z n = List.range (n + 1) := by
  unfold putL
  rw [rest_all (fun k hk => Int.ne_of_lt (h k hk))]
  have hs : spot Z n (List.range n) = n := by
    unfold spot
    rw [List.findIdx_eq_length_of_false]
    · simp
    · intro k hk
      have := h k (List.mem_range.1 hk)
      simp
      omega
  unfold putAt
  rw [hs, List.take_of_length_le (by simp), List.drop_of_length_le (by simp), List.range_succ]
theorem putL_first {Z : Nat → Nat → Int} {n : Nat} (h : ∀ k, k < n → Z n 0 < Z k 0) : putL Z n = n :: List.range n := by
  unfold putL
  rw [rest_all (fun k hk => (Int.ne_of_lt (h k hk)).symm)]
  have hs : spot Z n (List.range n) = 0 := by
    unfold spot
    cases n with
    | zero => rfl
    | succ n =>
      rw [List.range_succ_eq_map, List.findIdx_cons]
      have := h 0 (by omega)
      simp [this]
  unfold putAt
  rw [hs]
  simp

set_option maxRecDepth 20000 in
set_option maxHeartbeats 2000000 in
theorem maList (g1 c1 g2 c2 n : Nat) (Z : Nat → Nat → Int) (hn : n ≤ 2000000) (w : World) (l1 : g1 < w.heap.size) (l2 : g2 < w.heap.size)
    (h1 : ∀ k j, k < n → j < 5 → w.cell? ⟨g1, 0 + k * 5 + j, none⟩ = some (.int .i64 (Z k j))) (h2 : ∀ k j, k < n → j < 5 → w.cell? ⟨g2, 0 + k * 5 + j, none⟩ = some (.int .i64 (Z k j))) :
    Calls Try.prog 6 #[.slice (some ⟨g1, 0, none⟩) n c1, .slice (some ⟨g2, 0, none⟩) n c2] w fun e w' => e = .returned (.bool true) ∧ Below w.heap.size w w' := by
  have H1 : Hid (∀ k j, k < n → j < 5 → w.cell? ⟨g1, 0 + k * 5 + j, none⟩ = some (.int .i64 (Z k j))) := h1
  have H2 : Hid (∀ k j, k < n → j < 5 → w.cell? ⟨g2, 0 + k * 5 + j, none⟩ = some (.int .i64 (Z k j))) := h2
  clear h1 h2
  go_enter Try.func6, Try.ntmps6
  go_wp2
  go_loopw [5] (fun i wr => ∃ k q : Nat, k ≤ n ∧ .int .i64 k = i ∧ wr = w.drewN q) (fun i _ => n - (intOf i).toNat)
  case atStart => exact ⟨0, 0, Nat.zero_le _, rfl, rfl⟩
  case round =>
    obtain ⟨k, q, hk, rfl, rfl⟩ := hrel
    by_cases hkn : k < n
    · have hkn' : (k : Int) < (n : Int) := by omega
      have a0 : w.cell? ⟨g1, k * 5, none⟩ = some (.int .i64 (Z k 0)) := by have := H1.out k 0 hkn (by omega); simpa using this
      have a1 : w.cell? ⟨g1, k * 5 + 1, none⟩ = some (.int .i64 (Z k 1)) := by have := H1.out k 1 hkn (by omega); simpa using this
      have a2 : w.cell? ⟨g1, k * 5 + 2, none⟩ = some (.int .i64 (Z k 2)) := by have := H1.out k 2 hkn (by omega); simpa using this
      have a3 : w.cell? ⟨g1, k * 5 + 3, none⟩ = some (.int .i64 (Z k 3)) := by have := H1.out k 3 hkn (by omega); simpa using this
      have a4 : w.cell? ⟨g1, k * 5 + 4, none⟩ = some (.int .i64 (Z k 4)) := by have := H1.out k 4 hkn (by omega); simpa using this
      have b0 : w.cell? ⟨g2, k * 5, none⟩ = some (.int .i64 (Z k 0)) := by have := H2.out k 0 hkn (by omega); simpa using this
      have b1 : w.cell? ⟨g2, k * 5 + 1, none⟩ = some (.int .i64 (Z k 1)) := by have := H2.out k 1 hkn (by omega); simpa using this
      have b2 : w.cell? ⟨g2, k * 5 + 2, none⟩ = some (.int .i64 (Z k 2)) := by have := H2.out k 2 hkn (by omega); simpa using this
      have b3 : w.cell? ⟨g2, k * 5 + 3, none⟩ = some (.int .i64 (Z k 3)) := by have := H2.out k 3 hkn (by omega); simpa using this
      have b4 : w.cell? ⟨g2, k * 5 + 4, none⟩ = some (.int .i64 (Z k 4)) := by have := H2.out k 4 hkn (by omega); simpa using this
      go_wp2_with fail
      go_quiet (fail)
      go_wp2
      go_roundw
      case rel => exact ⟨k + 1, q + nq, by omega, by go_num, by simp [World.drewN]⟩
      case measure => simp [intOf]; omega
    · have hkn' : k = n := by omega
      subst hkn'
      go_wp2
      go_ret
      exact ⟨rfl, bdrewN (Below.refl _ _) q⟩
end Go.Proofs.Ytnplclfoeedpjaa
