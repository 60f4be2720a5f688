/- ArbOk, of the program and of the model; conditions: the table lies in memory. -/
import Derived.Test.YtodmfbbicdbjdaaArb1
namespace Go.Proofs.Ytodmfbbicdbjdaa
open Go.RowKit Go.Deep
set_option linter.unusedVariables false

/-- What a table has of a cell is ok for n servers. -/
def rowB (s a n : Int) : Bool := decide ((s = -1 ∧ a = 0) ∨ (0 ≤ s ∧ s ≤ n - 1 ∧ 1 ≤ a ∧ a ≤ 900))
def rowsB (T : TV) (n : Int) : Bool := decide (∀ i, i < T.nS → rowB (T.S i) (T.A i) n = true)
def sizB (c : Int) (T : TV) : Bool := decide ((T.nS : Int) = c) && decide ((T.nA : Int) = c)
def tabB (c d : Int) (T : TV) (n : Int) : Bool := okB c d && (inB n 1 3 && (sizB c T && rowsB T n))

theorem okB_in {c d : Int} (h : okB c d = true) : 2 ≤ c ∧ c ≤ 4 := by
  simp [okB, inB] at h
  omega

theorem row_at {w wr : World} {a : Option Addr} {n k : Nat} {X : Nat → Int} (h : Row1 w a n X) (hb : Below w.heap.size w wr) (hk : k < n) : ∃ b o, a = some ⟨b, o, none⟩ ∧ b < w.heap.size ∧ wr.cell? ⟨b, o + k, none⟩ = some (.int .i64 (X k)) := by
  rcases h with h | ⟨b, o, rfl, hlt, hr⟩
  · omega
  · exact ⟨b, o, rfl, hlt, (hb.cell (p := ⟨b, o + k, none⟩) hlt).trans (hr k hk)⟩

theorem isServer_impl (s n : Int) (h0 : -9223372036854775807 ≤ n) (h1 : n ≤ 9223372036854775807) (w : World) :
    Calls Try.prog 18 #[.int .i64 s, .int .i64 n] w fun e w' => e = .returned (.bool (inB s 0 (n - 1))) ∧ w' = w := by
  go_enter Try.func18, Try.ntmps18
  go_wp2_with (go_at_call 22; refine (in_impl _ _ _ _).mono ?_; rintro e w1 ⟨rfl, rfl⟩)
  go_ret
  exact ⟨rfl, rfl⟩

theorem isAge_impl (a : Int) (w : World) :
    Calls Try.prog 29 #[.int .i64 a] w fun e w' => e = .returned (.bool (inB a 0 900)) ∧ w' = w := by
  go_enter Try.func29, Try.ntmps29
  go_wp2_with (go_at_call 22; refine (in_impl _ _ _ _).mono ?_; rintro e w1 ⟨rfl, rfl⟩)
  go_ret
  exact ⟨rfl, rfl⟩

theorem isHoldAge_impl (a : Int) (w : World) :
    Calls Try.prog 28 #[.int .i64 a] w fun e w' => e = .returned (.bool (inB a 1 900)) ∧ w' = w := by
  by_cases h : 0 < a
  · have hv : inB a 1 900 = inB a 0 900 := by rw [Bool.eq_iff_iff]; simp only [inB, decide_eq_true_eq]; omega
    rw [hv]
    go_enter Try.func28, Try.ntmps28
    go_wp2_with (go_at_call 29; refine (isAge_impl _ _).mono ?_; rintro e w1 ⟨rfl, rfl⟩)
    go_ret
    exact ⟨rfl, rfl⟩
  · have hv : inB a 1 900 = false := by simp only [inB, decide_eq_false_iff_not]; omega
    rw [hv]
    go_enter Try.func28, Try.ntmps28
    go_wp2_with (go_at_call 29; refine (isAge_impl _ _).mono ?_; rintro e w1 ⟨rfl, rfl⟩)
    go_ret
    exact ⟨rfl, rfl⟩

set_option maxHeartbeats 2000000 in
theorem rowOk_impl (v : Value) (T : TV) (k : Nat) (n : Int) (hn : 1 ≤ n ∧ n ≤ 3) (hk : k < T.nS) (hk2 : k < T.nA) (hs : T.short 1048576) (w : World) (h : TabAt w v T) :
    Calls Try.prog 23 #[v, .int .i64 k, .int .i64 n] w fun e w' => e = .returned (.bool (rowB (T.S k) (T.A k) n)) ∧ Below w.heap.size w w' := by
  obtain ⟨aS, kS, aA, kA, rfl, rS, rA⟩ := h
  obtain ⟨s1, s2⟩ := hs
  obtain ⟨b, o, rfl, hb, hc⟩ := row_at rS (Below.refl _ _) hk
  obtain ⟨b', o', rfl, hb', hc'⟩ := row_at rA (Below.refl _ _) hk2
  clear rS rA
  generalize T.S k = s at *
  generalize T.A k = a at *
  have hk' : (k : Int) < T.nS := by omega
  have hk2' : (k : Int) < T.nA := by omega
  by_cases h0 : s = -1
  · subst h0
    have hv : rowB (-1) a n = decide (a = 0) := by simp [rowB]
    rw [hv]
    go_enter Try.func23, Try.ntmps23
    go_wp2
    go_region
    go_wp2
    go_ret
    exact ⟨rfl, by repeat (first | exact Below.refl _ _ | apply Below.drew | apply bdrewN | refine Below.alloc ?_ (by simp) _)⟩
  · have h0' : (s == -1) = false := by simp [h0]
    cases h1 : inB s 0 (n - 1)
    all_goals
      have hv : rowB s a n = (inB s 0 (n - 1) && inB a 1 900) := by
        clear h1
        rw [Bool.eq_iff_iff]; simp only [rowB, inB, decide_eq_true_eq, Bool.and_eq_true]; omega
      rw [hv, h1]
      go_enter Try.func23, Try.ntmps23
      go_wp2
      go_region
      go_wp2_with (first
        | (go_at_call 18; refine (isServer_impl _ _ (by omega) (by omega) _).mono ?_; rintro e w1 ⟨rfl, rfl⟩)
        | (go_at_call 28; refine (isHoldAge_impl _ _).mono ?_; rintro e w1 ⟨rfl, rfl⟩))
      go_ret
      exact ⟨by simp, by repeat (first | exact Below.refl _ _ | apply Below.drew | apply bdrewN | refine Below.alloc ?_ (by simp) _)⟩

end Go.Proofs.Ytodmfbbicdbjdaa
