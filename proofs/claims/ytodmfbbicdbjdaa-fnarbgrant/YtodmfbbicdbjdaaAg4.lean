/- What a grant does to a table that is ok; the two grants, side by side; conditions: those typed. -/
import Derived.Test.YtodmfbbicdbjdaaAg1
import Derived.Test.YtodmfbbicdbjdaaArb10
namespace Go.Proofs.Ytodmfbbicdbjdaa
open Go.RowKit Go.Deep
set_option linter.unusedVariables false

theorem tab_given {c d n ce sv : Int} {T : TV} (h : tabB c d T n = true) (h2 : mayB c T n ce sv = true) : tabB c d (givenT T ce sv) n = true := by
  obtain ⟨hok, hn, hc, hAS, hc4, hA⟩ := tab_facts h
  simp only [tabB, sizB, Bool.and_eq_true, decide_eq_true_eq] at h ⊢
  refine ⟨h.1, h.2.1, h.2.2.1, ?_⟩
  have hr : ∀ k, k < T.nS → rowB (T.S k) (T.A k) n = true := by simpa [rowsB] using h.2.2.2
  simp only [mayB, Bool.and_eq_true, inB, decide_eq_true_eq, Bool.not_eq_true', beq_eq_false_iff_ne] at h2
  refine rowsB_true (fun j hj => ?_)
  show rowB (if j = ce.toNat then sv else T.S j) (if j = ce.toNat then T.A ce.toNat + 1 else T.A j) n = true
  have hj' : j < T.nS := hj
  by_cases e : j = ce.toNat
  · have ha := hA ce.toNat (by omega)
    rw [if_pos e, if_pos e]
    simp only [rowB]
    have h3 : ¬ sv = -1 := by omega
    simp [h3]
    omega
  · rw [if_neg e, if_neg e]
    exact hr j hj'
theorem tab_new {c d n : Int} (h : okB c d = true) (hn : 1 ≤ n ∧ n ≤ 3) : tabB c d (newT c d) n = true := by
  have hc := okB_in h
  simp only [tabB, newT, h, if_true, sizB, Bool.and_eq_true, decide_eq_true_eq, inB]
  refine ⟨trivial, hn, ⟨by omega, by omega⟩, rowsB_true (fun j hj => ?_)⟩
  simp [rowB]
theorem TabAt.parts {w : World} {v : Value} {T : TV} (h : TabAt w v T) : ∃ aS kS aA kA, v = .agg #[.slice aS T.nS kS, .slice aA T.nA kA] ∧ Row1 w aS T.nS T.S ∧ Row1 w aA T.nA T.A := h
theorem grantI (c d : Int) (v : Value) (T : TV) (n cell server : Int) (hs : T.short 1000) (w : World) (h : TabAt w v T) :
    Calls Try.prog 5 #[.agg #[.int .i64 c, .int .i64 d], v, .int .i64 n, .int .i64 cell, .int .i64 server] w fun e w' => ∃ bS lS bA lA, e = .returned (.tuple #[.agg #[.slice bS (grantR c d T n cell server).1.nS lS, .slice bA (grantR c d T n cell server).1.nA lA], .bool (grantR c d T n cell server).2]) ∧ TabAt w' (.agg #[.slice bS (grantR c d T n cell server).1.nS lS, .slice bA (grantR c d T n cell server).1.nA lA]) (grantR c d T n cell server).1 ∧ Below w.heap.size w w' := by
  refine (grant_impl c d v T n cell server ⟨by have := hs.1; omega, by have := hs.2; omega⟩ w h).mono ?_
  rintro e w' ⟨⟨u, t, rfl, rfl, hO⟩, hb⟩
  obtain ⟨bS, lS, bA, lA, rfl, h1, h2⟩ := hO.at
  exact ⟨bS, lS, bA, lA, rfl, ⟨bS, lS, bA, lA, rfl, h1, h2⟩, hb⟩
theorem grantS (c d : Int) (v : Value) (T : TV) (n cell server : Int) (hs : T.short 1000) (w : World) (h : TabAt w v T) :
    Calls Try.prog 6 #[.agg #[.int .i64 c, .int .i64 d], v, .int .i64 n, .int .i64 cell, .int .i64 server] w fun e w' => ∃ bS lS bA lA, e = .returned (.tuple #[.agg #[.slice bS (grantR c d T n cell server).1.nS lS, .slice bA (grantR c d T n cell server).1.nA lA], .bool (grantR c d T n cell server).2]) ∧ TabAt w' (.agg #[.slice bS (grantR c d T n cell server).1.nS lS, .slice bA (grantR c d T n cell server).1.nA lA]) (grantR c d T n cell server).1 ∧ Below w.heap.size w w' := by
  refine (grant_spec c d v T n cell server ⟨by have := hs.1; omega, by have := hs.2; omega⟩ w h).mono ?_
  rintro e w' ⟨⟨u, t, rfl, rfl, hO⟩, hb⟩
  obtain ⟨bS, lS, bA, lA, rfl, h1, h2⟩ := hO.at
  exact ⟨bS, lS, bA, lA, rfl, ⟨bS, lS, bA, lA, rfl, h1, h2⟩, hb⟩
theorem grantR_sh {c d n cell server : Int} {T : TV} (h : T.short 1000) : (grantR c d T n cell server).1.short 1000 := by
  unfold grantR
  split
  · split
    · exact h
    · exact h
  · exact ⟨by simp [TV.zero], by simp [TV.zero]⟩
end Go.Proofs.Ytodmfbbicdbjdaa
