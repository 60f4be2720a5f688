/- Sentences; conditions: those typed. -/
import Derived.Test.YtbiccpmaoagalaaDoorLT1
import Derived.Test.YtbiccpmaoagalaaDoorShelf
import Derived.LoopTactic
namespace Go.Proofs.YtbiccpmaoagalaaDoor
open Go.RowKit Go.Deep
set_option linter.unusedVariables false

/-- Words with one space between; none, if one of them is missing. -/
def sentB (xs : List ByteArray) : ByteArray := if (xs.all fun x => !x.toList.isEmpty) = true then ⟨(Lib.join (xs.map (·.data.toList)) [32]).toArray⟩ else ⟨#[]⟩

set_option maxHeartbeats 2000000 in
theorem sentence2 (a b : ByteArray) (g : Nat) (w : World) (hg : g < w.heap.size) (h0 : w.cell? ⟨g, 0, none⟩ = some (.string a)) (h1 : w.cell? ⟨g, 1, none⟩ = some (.string b)) (z0 : a.size ≤ 1000) (z1 : b.size ≤ 1000) (e0 : a.toList.isEmpty = false) :
    Calls Tryd.prog 17 #[.slice (some ⟨g, 0, none⟩) 2 2] w fun e w' => e = .returned (.string (sentB [a, b])) ∧ Below w.heap.size w w' := by
  go_enter Tryd.func17, Tryd.ntmps17
  go_wp2_with fail
  refine wp_loop_rounds 3 ?_
  rw [rounds_succ]
  go_wp2_with fail
  cases e1 : b.toList.isEmpty
  rotate_left
  · rw [rounds_succ]
    go_wp2
    go_ret
    exact ⟨by simp [sentB, e1], Below.refl _ _⟩
  rw [rounds_succ]
  go_wp2_with fail
  rw [rounds_succ]
  go_wp2_with fail
  have hcells : ∀ (j : Nat) x, ([a, b] : List ByteArray)[j]? = some x → w.cell? ⟨g, 0 + j, none⟩ = some (.string x) := by
    intro j x hj
    rw [Nat.zero_add]
    match j, hj with
    | 0, hj => simp at hj; subst hj; exact h0
    | 1, hj => simp at hj; subst hj; exact h1
    | j + 2, hj => simp at hj
  have hlen : (Lib.join (([a, b] : List ByteArray).map (·.data.toList)) (⟨#[32]⟩ : ByteArray).data.toList).length ≤ 140737488355328 := by
    have q : ∀ x : ByteArray, x.data.toList.length = x.size := fun x => rfl
    simp [Lib.join, q]
    omega
  refine (Tryd.strings_Join g 0 2 [a, b] ⟨#[32]⟩ w hcells hg (by simp) (by simp) hlen).mono ?_
  rintro e w1 ⟨rfl, hb1⟩
  clear hcells hlen
  go_wp2
  go_ret
  exact ⟨by simp [sentB, e0, e1], hb1⟩

set_option maxHeartbeats 2000000 in
theorem sentence3 (a b c : ByteArray) (g : Nat) (w : World) (hg : g < w.heap.size) (h0 : w.cell? ⟨g, 0, none⟩ = some (.string a)) (h1 : w.cell? ⟨g, 1, none⟩ = some (.string b)) (h2 : w.cell? ⟨g, 2, none⟩ = some (.string c)) (z0 : a.size ≤ 1000) (z1 : b.size ≤ 1000) (z2 : c.size ≤ 1000) (e0 : a.toList.isEmpty = false) :
    Calls Tryd.prog 17 #[.slice (some ⟨g, 0, none⟩) 3 3] w fun e w' => e = .returned (.string (sentB [a, b, c])) ∧ Below w.heap.size w w' := by
  go_enter Tryd.func17, Tryd.ntmps17
  go_wp2_with fail
  refine wp_loop_rounds 4 ?_
  rw [rounds_succ]
  go_wp2_with fail
  cases e1 : b.toList.isEmpty
  rotate_left
  · rw [rounds_succ]
    go_wp2
    go_ret
    exact ⟨by simp [sentB, e1], Below.refl _ _⟩
  rw [rounds_succ]
  go_wp2_with fail
  cases e2 : c.toList.isEmpty
  rotate_left
  · rw [rounds_succ]
    go_wp2
    go_ret
    exact ⟨by simp [sentB, e2], Below.refl _ _⟩
  rw [rounds_succ]
  go_wp2_with fail
  rw [rounds_succ]
  go_wp2_with fail
  have hcells : ∀ (j : Nat) x, ([a, b, c] : List ByteArray)[j]? = some x → w.cell? ⟨g, 0 + j, none⟩ = some (.string x) := by
    intro j x hj
    rw [Nat.zero_add]
    match j, hj with
    | 0, hj => simp at hj; subst hj; exact h0
    | 1, hj => simp at hj; subst hj; exact h1
    | 2, hj => simp at hj; subst hj; exact h2
    | j + 3, hj => simp at hj
  have hlen : (Lib.join (([a, b, c] : List ByteArray).map (·.data.toList)) (⟨#[32]⟩ : ByteArray).data.toList).length ≤ 140737488355328 := by
    have q : ∀ x : ByteArray, x.data.toList.length = x.size := fun x => rfl
    simp [Lib.join, q]
    omega
  refine (Tryd.strings_Join g 0 3 [a, b, c] ⟨#[32]⟩ w hcells hg (by simp) (by simp) hlen).mono ?_
  rintro e w1 ⟨rfl, hb1⟩
  clear hcells hlen
  go_wp2
  go_ret
  exact ⟨by simp [sentB, e0, e1, e2], hb1⟩
end Go.Proofs.YtbiccpmaoagalaaDoor
