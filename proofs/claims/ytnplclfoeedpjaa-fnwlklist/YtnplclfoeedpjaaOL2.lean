/- The walk of the law FnWlkOrder: it answers true; conditions: the code is a slice of bytes. -/
import Derived.Test.YtnplclfoeedpjaaOL1
namespace Go.Proofs.Ytnplclfoeedpjaa
open Go.RowKit Go.Deep Go.Maps
set_option linter.unusedVariables false

theorem small_wf {z : Int} (h : Small z) : (Lit.int .i64 z).wf = true := by
  unfold Small at h
  simp [Lit.wf, IntKind.min, IntKind.max, IntKind.bits, IntKind.signed]
  omega

/-- One more is put among walkers of the call's own. -/
theorem put_wk {w : World} {base : Nat} {v : Value} {na : Nat} {ZA : Nat → Nat → Int} (h : Wk w base v na ZA) (hn : na ≤ 100) (hs : ∀ k j, k < na → j < 5 → Small (ZA k j)) (z0 z1 z2 z3 z4 : Int) (hz : Small z0 ∧ Small z1 ∧ Small z2 ∧ Small z3 ∧ Small z4) :
    Calls Try.prog 5 #[v, .agg #[.int .i64 z0, .int .i64 z1, .int .i64 z2, .int .i64 z3, .int .i64 z4]] w fun e w' => ∃ v' Z', e = .returned v' ∧ (∀ k j, k < na → Z' k j = ZA k j) ∧ (Z' na 0 = z0 ∧ Z' na 1 = z1 ∧ Z' na 2 = z2 ∧ Z' na 3 = z3 ∧ Z' na 4 = z4) ∧ Wk w' w.heap.size v' (putL Z' na).length (fun k j => Z' (putL Z' na)[k]! j) ∧ (∀ k j, k < (putL Z' na).length → j < 5 → Small (Z' (putL Z' na)[k]! j)) ∧ Below w.heap.size w w' := by
  obtain ⟨g, cp, rfl, hbg, hgl, hcl, _⟩ := h.cells
  obtain ⟨Z', hlow, e0, e1, e2, e3, e4⟩ := exists_ext ZA na z0 z1 z2 z3 z4
  have hsm : ∀ k j, k < na + 1 → j < 5 → Small (Z' k j) := by
    intro k j hk hj
    by_cases hkn : k < na
    · rw [hlow k j hkn]; exact hs k j hkn hj
    · have : k = na := by omega
      subst this
      exact five_cases (p := fun j => Small (Z' k j)) (by rw [e0]; exact hz.1) (by rw [e1]; exact hz.2.1) (by rw [e2]; exact hz.2.2.1) (by rw [e3]; exact hz.2.2.2.1) (by rw [e4]; exact hz.2.2.2.2) j hj
  have hcon := put_impl g 0 na cp Z' (by omega) w hgl (small_wf (hsm na 0 (by omega) (by omega))) (fun k j hk hj => by rw [hlow k j hk]; exact hcl k j hk hj) (fun k j hk hj => small_wf (hsm k j (by omega) hj))
  rw [e0, e1, e2, e3, e4] at hcon
  refine hcon.mono ?_
  rintro e w' ⟨v', rfl, hw, hb⟩
  refine ⟨v', Z', rfl, hlow, ⟨e0, e1, e2, e3, e4⟩, hw.wk, fun k j hk hj => ?_, hb⟩
  refine hsm _ j (putL_mem (Z := Z') ?_) hj
  rw [getElem!_pos _ k hk]
  exact List.getElem_mem hk

theorem Wk.same {w : World} {base : Nat} {v : Value} {n : Nat} {Z Z' : Nat → Nat → Int} (h : Wk w base v n Z) (e : ∀ k j, k < n → j < 5 → Z k j = Z' k j) : Wk w base v n Z' := by
  obtain ⟨g, cap, xs, hv, ho, hc⟩ := h
  exact ⟨g, cap, xs, hv, ho, fun k j hk hj => by rw [← e k j hk hj]; exact hc k j hk hj⟩

theorem maWk {w : World} {b1 b2 : Nat} {v1 v2 : Value} {n : Nat} {Z : Nat → Nat → Int} (h1 : Wk w b1 v1 n Z) (h2 : Wk w b2 v2 n Z) (hn : n ≤ 2000000) :
    Calls Try.prog 6 #[v1, v2] w fun e w' => e = .returned (.bool true) ∧ Below w.heap.size w w' := by
  obtain ⟨g1, c1, rfl, _, l1, a1, _⟩ := h1.cells
  obtain ⟨g2, c2, rfl, _, l2, a2, _⟩ := h2.cells
  exact maList g1 c1 g2 c2 n Z hn w l1 l2 a1 a2

end Go.Proofs.Ytnplclfoeedpjaa
