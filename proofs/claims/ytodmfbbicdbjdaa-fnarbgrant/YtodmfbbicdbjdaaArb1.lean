/- ArbServer, of the program and of the model, and the law over both; conditions: the table lies in memory. -/
import Derived.Test.YtodmfbbicdbjdaaTab
import Derived.Deep.RegionHeld3
import Derived.Deep.QuietTactic
import Derived.BigQuiet
namespace Go.Proofs.Ytodmfbbicdbjdaa
open Go.RowKit Go.Deep
set_option linter.unusedVariables false

def srvI (T : TV) (c : Int) : Int := if 0 ≤ c ∧ c < T.nS then T.S c.toNat else -1

theorem TV.short.more {T : TV} {m n : Nat} (h : T.short m) (hmn : m ≤ n) : T.short n := ⟨Nat.le_trans h.1 hmn, Nat.le_trans h.2 hmn⟩

set_option maxHeartbeats 1000000 in
theorem srv_impl (v : Value) (T : TV) (c : Int) (hs : T.short 1048576) (w : World) (h : TabAt w v T) :
    Calls Try.prog 11 #[v, .int .i64 c] w fun e w' => e = .returned (.int .i64 (srvI T c)) ∧ Below w.heap.size w w' := by
  obtain ⟨aS, kS, aA, kA, rfl, rS, rA⟩ := h
  obtain ⟨s1, s2⟩ := hs
  by_cases h0 : 0 ≤ c
  · by_cases h1 : c < T.nS
    · have hv : srvI T c = T.S c.toNat := by simp [srvI, h0, h1]
      obtain ⟨b, o, rfl, hb, hrow⟩ : ∃ b o, aS = some ⟨b, o, none⟩ ∧ b < w.heap.size ∧ ∀ k, k < T.nS → w.cell? ⟨b, o + k, none⟩ = some (.int .i64 (T.S k)) := by
        rcases rS with h | h
        · omega
        · exact h
      obtain ⟨k, rfl⟩ : ∃ k : Nat, c = k := ⟨c.toNat, by omega⟩
      rw [Int.toNat_natCast] at hv
      have hc := hrow k (by omega)
      clear hrow rA
      rw [hv]
      clear hv
      go_enter Try.func11, Try.ntmps11
      go_wp2_with (go_at_call 22; refine (in_impl _ _ _ _).mono ?_; rintro e w1 ⟨rfl, rfl⟩; rw [show inB (k : Int) 0 ((T.nS : Int) - 1) = true by simp [inB] <;> omega])
      go_ret
      exact ⟨rfl, (Below.refl _ _).alloc (by simp) _⟩
    · have hv : srvI T c = -1 := by simp [srvI, h1]
      rw [hv]
      clear hv rS rA
      go_enter Try.func11, Try.ntmps11
      go_wp2_with (go_at_call 22; refine (in_impl _ _ _ _).mono ?_; rintro e w1 ⟨rfl, rfl⟩; rw [show inB c 0 ((T.nS : Int) - 1) = false by simp [inB] <;> omega])
      go_ret
      exact ⟨rfl, (Below.refl _ _).alloc (by simp) _⟩
  · have hv : srvI T c = -1 := by simp [srvI, h0]
    rw [hv]
    clear hv rS rA
    go_enter Try.func11, Try.ntmps11
    go_wp2_with (go_at_call 22; refine (in_impl _ _ _ _).mono ?_; rintro e w1 ⟨rfl, rfl⟩; rw [show inB c 0 ((T.nS : Int) - 1) = false by simp [inB] <;> omega])
    go_ret
    exact ⟨rfl, (Below.refl _ _).alloc (by simp) _⟩

end Go.Proofs.Ytodmfbbicdbjdaa
