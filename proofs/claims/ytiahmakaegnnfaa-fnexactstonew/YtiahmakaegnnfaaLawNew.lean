/- The walk of the law FnExactCllNew: it answers true; conditions: the walkers lie in memory. -/
import Derived.Test.YtiahmakaegnnfaaCNewS
import Derived.Test.YtiahmakaegnnfaaLawOk
namespace Go.Proofs.Ytiahmakaegnnfaa
open Go.RowKit Go.Deep
set_option linter.unusedVariables false

theorem newV_short (c d cell : Int) (Z : Nat → Nat → Int) (n : Nat) (hn : n ≤ 1048576) : (newV c d cell Z n).short 1048576 ∧ (newV c d cell Z n).nO ≤ 2 := by
  have := inL_len c d cell Z n
  unfold newV
  split
  · exact ⟨⟨Nat.le_trans this hn, by show 2 ≤ 1048576; omega, fun _ _ => by show 0 ≤ 1048576; omega, by show 2 ≤ 1048576; omega, by show 2 ≤ 1048576; omega⟩, Nat.le_refl _⟩
  · exact ⟨⟨by show 0 ≤ 1048576; omega, by show 0 ≤ 1048576; omega, fun _ _ => by show 0 ≤ 1048576; omega, by show 0 ≤ 1048576; omega, by show 0 ≤ 1048576; omega⟩, by show 0 ≤ 2; omega⟩
theorem OwnC.sm {lo hi : Nat} {w w' : World} {v : Value} {V : CV} (h : OwnC lo hi w v V) (hs : w.heap.size ≤ w'.heap.size) (k : ∀ b, lo ≤ b → b < hi → Sm w w' b) : OwnC lo hi w' v V := by
  obtain ⟨vW, vO, vX, vI, gW, gO, gX, gI, sl, xs, e, rW, rO, rX, rI, hd, hx1, hx2⟩ := h
  exact ⟨vW, vO, vX, vI, gW, gO, gX, gI, sl, xs, e, rW.sm hs (k gW), rO.sm hs (k gO) (fun i _ => k (xs i)), rX.sm hs (k gX), rI.sm hs (k gI), hd, hx1, hx2⟩
theorem OwnC.below {lo hi : Nat} {w w' : World} {v : Value} {V : CV} (h : OwnC lo hi w v V) (hh : hi ≤ w.heap.size) (hb : Below w.heap.size w w') : OwnC lo hi w' v V :=
  h.sm hb.size (fun b _ hb' => sm_below hb (Nat.lt_of_lt_of_le hb' hh))
theorem OwnC.at {lo hi : Nat} {w : World} {v : Value} {V : CV} (h : OwnC lo hi w v V) : CellAt w v V := by
  obtain ⟨vW, vO, vX, vI, gW, gO, gX, gI, sl, xs, rfl, rW, rO, rX, rI, hd, hx1, hx2⟩ := h
  have hW : ∃ a k, vW = .slice a V.nW k ∧ Row5 w a V.nW V.W := by
    rcases rW with ⟨e, a, k, rfl⟩ | ⟨k, rfl, h1, h2, h3, h4⟩
    · exact ⟨a, k, by rw [e], .inl e⟩
    · exact ⟨_, k, rfl, row5_of_own h4 (by omega)⟩
  have hI : ∀ (v : Value) (n : Nat) (X : Nat → Int) (g : Nat), RI lo hi w v n X g → ∃ a k, v = .slice a n k ∧ Row1 w a n X := fun v n X g r => by
    rcases r with ⟨e, a, k, rfl⟩ | ⟨k, rfl, h1, h2, h3, h4⟩
    · exact ⟨a, k, by rw [e], .inl e⟩
    · exact ⟨_, k, rfl, row1_of_own h4 (by omega)⟩
  have hO : ∃ a k, vO = .slice a V.nO k ∧ RowO w a V.nO V.N V.O := by
    rcases rO with ⟨e, a, k, rfl⟩ | ⟨k, rfl, h1, h2, h3, h4⟩
    · exact ⟨a, k, by rw [e], .inl e⟩
    · refine ⟨_, k, rfl, .inr ⟨gO, 0, rfl, by omega, fun i hi => ?_⟩⟩
      obtain ⟨hc, hp⟩ := h4 i hi
      rcases hp with ⟨e, a, k', e2⟩ | ⟨k', e2, h1, h2, h3, h4⟩
      · exact ⟨a, k', by rw [Nat.zero_add, hc, e2, e], .inl e⟩
      · exact ⟨_, k', by rw [Nat.zero_add, hc, e2], row8_of_own h4 (by omega)⟩
  obtain ⟨aW, kW, rfl, qW⟩ := hW
  obtain ⟨aO, kO, rfl, qO⟩ := hO
  obtain ⟨aX, kX, rfl, qX⟩ := hI _ _ _ _ rX
  obtain ⟨aI, kI, rfl, qI⟩ := hI _ _ _ _ rI
  exact ⟨aW, kW, aO, kO, aX, kX, aI, kI, rfl, qW, qO, qX, qI⟩

end Go.Proofs.Ytiahmakaegnnfaa
