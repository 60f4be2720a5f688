/- What a head's line is by its words; the looks at words of the model; conditions: those typed. -/
import Derived.Test.YtlmoeacpkkkkcaaGreatDoorTK
namespace Go.Proofs.YtlmoeacpkkkkcaaGreatDoor
open Go.RowKit Go.Deep
set_option linter.unusedVariables false
set_option maxRecDepth 100000
theorem map_yes {s : ByteArray} (hs : s.size ≤ 100) (h0 : (words s.data.toList)[0]? = some [109, 97, 112]) (ht : twoB (words s.data.toList) 2) : behindOf s ⟨#[109, 97, 112]⟩ 2 = [atF (words s.data.toList) 1, atF (words s.data.toList) 2] := by
  rcases blank_or s.data.toList with hb | ⟨x, r, e, hb⟩
  · have h1 := ht.1
    rw [words_last _ hb] at h1
    cases h1
  · rw [e, words_app _ _ hb] at h0 ht ⊢
    simp at h0
    subst h0
    unfold behindOf
    rw [e, cut_app _ _ hb, two_yes ht]
    simp [hs]
theorem map_no {s : ByteArray} (h : ¬ (s.size ≤ 100 ∧ (words s.data.toList)[0]? = some [109, 97, 112] ∧ twoB (words s.data.toList) 2)) : ¬ (behindOf s ⟨#[109, 97, 112]⟩ 2).length = 2 := by
  intro hl
  unfold behindOf at hl
  by_cases hc : s.size ≤ 100 ∧ (⟨(Lib.cut s.data.toList [32]).1.toArray⟩ : ByteArray) = ⟨#[109, 97, 112]⟩ ∧ (numsOf (Lib.cut s.data.toList [32]).2.1).length = 2
  · apply h
    obtain ⟨c1, c2, c3⟩ := hc
    rcases blank_or s.data.toList with hb | ⟨x, r, e, hb⟩
    · rw [cut_none _ hb] at c3
      rw [nums_nil] at c3
      cases c3
    · rw [e, cut_app _ _ hb] at c2 c3
      rw [e, words_app _ _ hb]
      refine ⟨c1, ?_, ?_⟩
      · injection c2 with c2
        have : x = [109, 97, 112] := by
          have := congrArg Array.toList c2
          simpa using this
        simp [this]
      · exact Classical.not_not.1 (fun q => two_no q c3)
  · rw [if_neg hc] at hl
    cases hl
theorem srv_yes {s : ByteArray} (hs : s.size ≤ 100) (h0 : (words s.data.toList)[0]? = some [115, 101, 114, 118, 101, 114, 115]) (ht : twoB (words s.data.toList) 1) : behindOf s ⟨#[115, 101, 114, 118, 101, 114, 115]⟩ 1 = [atF (words s.data.toList) 1] := by
  rcases blank_or s.data.toList with hb | ⟨x, r, e, hb⟩
  · have h1 := ht.1
    rw [words_last _ hb] at h1
    cases h1
  · rw [e, words_app _ _ hb] at h0 ht ⊢
    simp at h0
    subst h0
    unfold behindOf
    rw [e, cut_app _ _ hb, one_yes ht]
    simp [hs]
theorem srv_no {s : ByteArray} (h : ¬ (s.size ≤ 100 ∧ (words s.data.toList)[0]? = some [115, 101, 114, 118, 101, 114, 115] ∧ twoB (words s.data.toList) 1)) : ¬ (behindOf s ⟨#[115, 101, 114, 118, 101, 114, 115]⟩ 1).length = 1 := by
  intro hl
  unfold behindOf at hl
  by_cases hc : s.size ≤ 100 ∧ (⟨(Lib.cut s.data.toList [32]).1.toArray⟩ : ByteArray) = ⟨#[115, 101, 114, 118, 101, 114, 115]⟩ ∧ (numsOf (Lib.cut s.data.toList [32]).2.1).length = 1
  · apply h
    obtain ⟨c1, c2, c3⟩ := hc
    rcases blank_or s.data.toList with hb | ⟨x, r, e, hb⟩
    · rw [cut_none _ hb] at c3
      rw [nums_nil] at c3
      cases c3
    · rw [e, cut_app _ _ hb] at c2 c3
      rw [e, words_app _ _ hb]
      refine ⟨c1, ?_, ?_⟩
      · injection c2 with c2
        have : x = [115, 101, 114, 118, 101, 114, 115] := by
          have := congrArg Array.toList c2
          simpa using this
        simp [this]
      · exact Classical.not_not.1 (fun q => one_no q c3)
  · rw [if_neg hc] at hl
    cases hl
/-- The first line by its words. -/
def W0 (s : ByteArray) : Prop := s.size ≤ 100 ∧ (words s.data.toList).length = 3 ∧ (words s.data.toList)[0]? = some [109, 97, 112] ∧ okB (atF (words s.data.toList) 1) (atF (words s.data.toList) 2) = true
def W1 (s : ByteArray) : Prop := s.size ≤ 100 ∧ (words s.data.toList).length = 2 ∧ (words s.data.toList)[0]? = some [115, 101, 114, 118, 101, 114, 115] ∧ inB (atF (words s.data.toList) 1) 1 3 = true
theorem inB_low {z : Int} (h : inB z 1 3 = true) : 1 ≤ z := by
  simp [inB] at h; omega
theorem W0.yes {X : Nat → ByteArray} (h : W0 (X 0)) : good X 0 ∧ atF (words (X 0).data.toList) 1 = hA X ∧ atF (words (X 0).data.toList) 2 = hB X := by
  obtain ⟨h1, h2, h3, h4⟩ := h
  have hb := okB_bounds h4
  have ht : twoB (words (X 0).data.toList) 2 := ⟨h2, fun i a b => (by
    have : i = 1 ∨ i = 2 := by omega
    rcases this with rfl | rfl <;> omega)⟩
  have e := map_yes h1 h3 ht
  have ea : hA X = atF (words (X 0).data.toList) 1 := by unfold hA; rw [e]; rfl
  have eb : hB X = atF (words (X 0).data.toList) 2 := by unfold hB; rw [e]; rfl
  exact ⟨⟨by rw [e]; rfl, by rw [ea, eb]; exact h4⟩, ea.symm, eb.symm⟩
theorem W0.no {X : Nat → ByteArray} (h : ¬ W0 (X 0)) : ¬ good X 0 := by
  intro g
  apply h
  have hc := Classical.not_not.1 (fun q => map_no (s := X 0) q g.1)
  obtain ⟨h1, h3, ht⟩ := hc
  have e := map_yes h1 h3 ht
  have ea : hA X = atF (words (X 0).data.toList) 1 := by unfold hA; rw [e]; rfl
  have eb : hB X = atF (words (X 0).data.toList) 2 := by unfold hB; rw [e]; rfl
  exact ⟨h1, ht.1, h3, by rw [← ea, ← eb]; exact g.2⟩
theorem W1.yes {X : Nat → ByteArray} (h : W1 (X 1)) : good X 1 ∧ atF (words (X 1).data.toList) 1 = hS X := by
  obtain ⟨h1, h2, h3, h4⟩ := h
  have hb := inB_low h4
  have ht : twoB (words (X 1).data.toList) 1 := ⟨h2, fun i a b => (by
    obtain rfl : i = 1 := by omega
    omega)⟩
  have e := srv_yes h1 h3 ht
  have ea : hS X = atF (words (X 1).data.toList) 1 := by unfold hS; rw [e]; rfl
  exact ⟨⟨by rw [e]; rfl, by rw [ea]; exact h4⟩, ea.symm⟩
theorem W1.no {X : Nat → ByteArray} (h : ¬ W1 (X 1)) : ¬ good X 1 := by
  intro g
  apply h
  have hc := Classical.not_not.1 (fun q => srv_no (s := X 1) q g.1)
  obtain ⟨h1, h3, ht⟩ := hc
  have e := srv_yes h1 h3 ht
  have ea : hS X = atF (words (X 1).data.toList) 1 := by unfold hS; rw [e]; rfl
  exact ⟨h1, ht.1, h3, by rw [← ea]; exact g.2⟩
theorem at1 (s : ByteArray) (hs : (s.size : Int) ≤ 100) (base : Nat) (v : Value) (w : World) (ho : w.ownsRow base 9 1 v (words s.data.toList).length (strs (words s.data.toList))) :
    Calls Tryz.prog 15 #[v, .int .i64 1] w fun e w' => e = .returned (.int .i64 (atF (words s.data.toList) 1)) ∧ w' = w := at_any s hs base 1 (by omega) v w ho
theorem at2 (s : ByteArray) (hs : (s.size : Int) ≤ 100) (base : Nat) (v : Value) (w : World) (ho : w.ownsRow base 9 1 v (words s.data.toList).length (strs (words s.data.toList))) :
    Calls Tryz.prog 15 #[v, .int .i64 2] w fun e w' => e = .returned (.int .i64 (atF (words s.data.toList) 2)) ∧ w' = w := at_any s hs base 2 (by omega) v w ho
theorem none1 (v : Option Addr) (cap : Nat) (w : World) : Calls Tryz.prog 15 #[.slice v 0 cap, .int .i64 1] w fun e w' => e = .returned (.int .i64 (-1)) ∧ w' = w := at_none v 0 cap 1 (by omega) (by omega) w
theorem none2 (v : Option Addr) (cap : Nat) (w : World) : Calls Tryz.prog 15 #[.slice v 0 cap, .int .i64 2] w fun e w' => e = .returned (.int .i64 (-1)) ∧ w' = w := at_none v 0 cap 2 (by omega) (by omega) w
theorem word0 {w : World} {base g n cap : Nat} {ws : List (List UInt8)} (ho : w.ownsRow base 9 1 (.slice (some ⟨g, 0, none⟩) n cap) ws.length (strs ws)) {x : List UInt8} (h : ws[0]? = some x) : g < w.heap.size ∧ w.cell? ⟨g, 0, none⟩ = some (.string ⟨x.toArray⟩) := by
  have hc := ho.cells (g := g) rfl 0 (.string ⟨x.toArray⟩) (by simp [strs, h])
  rw [add_at] at hc
  exact ⟨World.block_lt_of_cell? w _ hc, hc⟩
theorem not_lit {x y : List UInt8} (h : ¬ x = y) : ((⟨x.toArray⟩ : ByteArray).toList == y) = false := by
  rw [ByteArray.toList_eq, beq_eq_false_iff_ne]
  exact h
theorem is_lit (x : List UInt8) : ((⟨x.toArray⟩ : ByteArray).toList == x) = true := by
  rw [ByteArray.toList_eq]
  simp
end Go.Proofs.YtlmoeacpkkkkcaaGreatDoor
