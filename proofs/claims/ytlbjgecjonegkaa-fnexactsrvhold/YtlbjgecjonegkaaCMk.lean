/- Marks in lists of a cell, as the laws lay and look for them, from whatever number on; conditions: the lists lie in memory of their own. -/
import Derived.Test.YtlbjgecjonegkaaCEq
namespace Go.Proofs.Ytlbjgecjonegkaa
open Go.RowKit Go.Deep
set_option linter.unusedVariables false

/-- The marks from s on, of things of m numbers each. -/
def Mk (m s k j : Nat) : Int := ((s + k * m + j : Nat) : Int)
def M1 (s k : Nat) : Int := ((s + k : Nat) : Int)

theorem put5_grown (w : World) (B k : Nat) (Z : Nat → Nat → Int) : w.grownBy (put5 w B k Z) (some B) ∧ (put5 w B k Z).heap.size = w.heap.size := by
  unfold put5
  refine ⟨((((P8.set_grown _ _ _ _).1.trans (P8.set_grown _ _ _ _).1).trans (P8.set_grown _ _ _ _).1).trans (P8.set_grown _ _ _ _).1).trans (P8.set_grown _ _ _ _).1, ?_⟩
  rw [(P8.set_grown _ _ _ _).2, (P8.set_grown _ _ _ _).2, (P8.set_grown _ _ _ _).2, (P8.set_grown _ _ _ _).2, (P8.set_grown _ _ _ _).2]

set_option maxRecDepth 20000 in
set_option maxHeartbeats 1000000 in
theorem markW (s B n cap : Nat) (Z : Nat → Nat → Int) (hn : n ≤ 2000000) (hs : s ≤ 2000000000) (w : World) (hB : B < w.heap.size) (h : Own5 w B n Z n) :
    Calls Try.prog 55 #[.slice (some ⟨B, 0, none⟩) n cap, .int .i64 (s : Int)] w fun e w' => e = .returned (.int .i64 ((s + n * 5 : Nat) : Int)) ∧ Own5 w' B n (Mk 5 s) n ∧ w.grownBy w' (some B) ∧ w'.heap.size = w.heap.size := by
  have H0 : Hid (Own5 w B n (Mk 5 s) 0) := ⟨h.1, fun _ _ h => absurd h (by omega)⟩
  clear h
  go_enter Try.func55, Try.ntmps55
  go_wp2
  go_loopw [1, 5] (fun c i wr => ∃ k : Nat, k ≤ n ∧ .int .i64 k = i ∧ .int .i64 (Mk 5 s k 0) = c ∧ Own5 wr B n (Mk 5 s) k ∧ w.grownBy wr (some B) ∧ wr.heap.size = w.heap.size) (fun _ i _ => n - (intOf i).toNat)
  case atStart => exact ⟨0, Nat.zero_le _, rfl, by simp [Mk], H0.out, World.grownBy.refl _ _, rfl⟩
  case round =>
    obtain ⟨k, hk, rfl, rfl, hown, hg, hsz⟩ := hrel
    by_cases hkn : k < n
    · have hkn' : (k : Int) < (n : Int) := by omega
      obtain ⟨⟨v0, d0⟩, f0⟩ := own_cell hown hkn 0 (by omega)
      obtain ⟨⟨v1, d1⟩, f1⟩ := own_cell hown hkn 1 (by omega)
      obtain ⟨⟨v2, d2⟩, f2⟩ := own_cell hown hkn 2 (by omega)
      obtain ⟨⟨v3, d3⟩, f3⟩ := own_cell hown hkn 3 (by omega)
      obtain ⟨⟨v4, d4⟩, f4⟩ := own_cell hown hkn 4 (by omega)
      simp only [Nat.add_zero] at d0 f0
      have HO : Hid (Own5 wr B n (Mk 5 s) k) := hown
      have HP : Hid (Own5 (put5 wr B k (Mk 5 s)) B n (Mk 5 s) (k + 1)) := own_put hown hkn
      have HG : Hid (w.grownBy (put5 wr B k (Mk 5 s)) (some B) ∧ (put5 wr B k (Mk 5 s)).heap.size = w.heap.size) := ⟨hg.trans (put5_grown wr B k (Mk 5 s)).1, (put5_grown wr B k (Mk 5 s)).2.trans hsz⟩
      have m1 : IntKind.wrap .i64 ((Mk 5 s k 0) + 1) = (Mk 5 s k 1) := by unfold Mk; simp [IntKind.wrap, IntKind.bits, IntKind.signed]; omega
      have m2 : IntKind.wrap .i64 ((Mk 5 s k 1) + 1) = (Mk 5 s k 2) := by unfold Mk; simp [IntKind.wrap, IntKind.bits, IntKind.signed]; omega
      have m3 : IntKind.wrap .i64 ((Mk 5 s k 2) + 1) = (Mk 5 s k 3) := by unfold Mk; simp [IntKind.wrap, IntKind.bits, IntKind.signed]; omega
      have m4 : IntKind.wrap .i64 ((Mk 5 s k 3) + 1) = (Mk 5 s k 4) := by unfold Mk; simp [IntKind.wrap, IntKind.bits, IntKind.signed]; omega
      have m5 : IntKind.wrap .i64 ((Mk 5 s k 4) + 1) = (Mk 5 s (k + 1) 0) := by unfold Mk; simp [IntKind.wrap, IntKind.bits, IntKind.signed]; omega
      clear hown hg hsz
      go_wp2
      go_roundw
      case rel => exact ⟨k + 1, by omega, by go_num, rfl, HP.out, HG.out.1, HG.out.2⟩
      case measure => simp [intOf]; omega
    · have hkn' : k = n := by omega
      subst hkn'
      have HO : Hid (Own5 wr B k (Mk 5 s) k) := hown
      clear hown
      go_wp2
      go_ret
      exact ⟨rfl, HO.out, hg, hsz⟩

set_option maxRecDepth 20000 in
set_option maxHeartbeats 1000000 in
theorem markP (s B n cap : Nat) (Z : Nat → Nat → Int) (hn : n ≤ 2000000) (hs : s ≤ 2000000000) (w : World) (hB : B < w.heap.size) (h : P8.Own8 w B n Z n) :
    Calls Try.prog 83 #[.slice (some ⟨B, 0, none⟩) n cap, .int .i64 (s : Int)] w fun e w' => e = .returned (.int .i64 ((s + n * 8 : Nat) : Int)) ∧ P8.Own8 w' B n (Mk 8 s) n ∧ w.grownBy w' (some B) ∧ w'.heap.size = w.heap.size := by
  have H0 : Hid (P8.Own8 w B n (Mk 8 s) 0) := ⟨h.1, fun _ _ h => absurd h (by omega)⟩
  clear h
  go_enter Try.func83, Try.ntmps83
  go_wp2
  go_loopw [1, 5] (fun c i wr => ∃ k : Nat, k ≤ n ∧ .int .i64 k = i ∧ .int .i64 (Mk 8 s k 0) = c ∧ P8.Own8 wr B n (Mk 8 s) k ∧ w.grownBy wr (some B) ∧ wr.heap.size = w.heap.size) (fun _ i _ => n - (intOf i).toNat)
  case atStart => exact ⟨0, Nat.zero_le _, rfl, by simp [Mk], H0.out, World.grownBy.refl _ _, rfl⟩
  case round =>
    obtain ⟨k, hk, rfl, rfl, hown, hg, hsz⟩ := hrel
    by_cases hkn : k < n
    · have hkn' : (k : Int) < (n : Int) := by omega
      obtain ⟨⟨v0, d0⟩, f0⟩ := P8.own_cell hown hkn 0 (by omega)
      obtain ⟨⟨v1, d1⟩, f1⟩ := P8.own_cell hown hkn 1 (by omega)
      obtain ⟨⟨v2, d2⟩, f2⟩ := P8.own_cell hown hkn 2 (by omega)
      obtain ⟨⟨v3, d3⟩, f3⟩ := P8.own_cell hown hkn 3 (by omega)
      obtain ⟨⟨v4, d4⟩, f4⟩ := P8.own_cell hown hkn 4 (by omega)
      obtain ⟨⟨v5, d5⟩, f5⟩ := P8.own_cell hown hkn 5 (by omega)
      obtain ⟨⟨v6, d6⟩, f6⟩ := P8.own_cell hown hkn 6 (by omega)
      obtain ⟨⟨v7, d7⟩, f7⟩ := P8.own_cell hown hkn 7 (by omega)
      simp only [Nat.add_zero] at d0 f0
      have HO : Hid (P8.Own8 wr B n (Mk 8 s) k) := hown
      have HP : Hid (P8.Own8 (P8.put8 wr B k (Mk 8 s)) B n (Mk 8 s) (k + 1)) := P8.own_put hown hkn
      have HG : Hid (w.grownBy (P8.put8 wr B k (Mk 8 s)) (some B) ∧ (P8.put8 wr B k (Mk 8 s)).heap.size = w.heap.size) := ⟨hg.trans (P8.put8_grown wr B k (Mk 8 s)).1, (P8.put8_grown wr B k (Mk 8 s)).2.trans hsz⟩
      have m1 : IntKind.wrap .i64 ((Mk 8 s k 0) + 1) = (Mk 8 s k 1) := by unfold Mk; simp [IntKind.wrap, IntKind.bits, IntKind.signed]; omega
      have m2 : IntKind.wrap .i64 ((Mk 8 s k 1) + 1) = (Mk 8 s k 2) := by unfold Mk; simp [IntKind.wrap, IntKind.bits, IntKind.signed]; omega
      have m3 : IntKind.wrap .i64 ((Mk 8 s k 2) + 1) = (Mk 8 s k 3) := by unfold Mk; simp [IntKind.wrap, IntKind.bits, IntKind.signed]; omega
      have m4 : IntKind.wrap .i64 ((Mk 8 s k 3) + 1) = (Mk 8 s k 4) := by unfold Mk; simp [IntKind.wrap, IntKind.bits, IntKind.signed]; omega
      have m5 : IntKind.wrap .i64 ((Mk 8 s k 4) + 1) = (Mk 8 s k 5) := by unfold Mk; simp [IntKind.wrap, IntKind.bits, IntKind.signed]; omega
      have m6 : IntKind.wrap .i64 ((Mk 8 s k 5) + 1) = (Mk 8 s k 6) := by unfold Mk; simp [IntKind.wrap, IntKind.bits, IntKind.signed]; omega
      have m7 : IntKind.wrap .i64 ((Mk 8 s k 6) + 1) = (Mk 8 s k 7) := by unfold Mk; simp [IntKind.wrap, IntKind.bits, IntKind.signed]; omega
      have m8 : IntKind.wrap .i64 ((Mk 8 s k 7) + 1) = (Mk 8 s (k + 1) 0) := by unfold Mk; simp [IntKind.wrap, IntKind.bits, IntKind.signed]; omega
      clear hown hg hsz
      go_wp2
      go_roundw
      case rel => exact ⟨k + 1, by omega, by go_num, rfl, HP.out, HG.out.1, HG.out.2⟩
      case measure => simp [intOf]; omega
    · have hkn' : k = n := by omega
      subst hkn'
      have HO : Hid (P8.Own8 wr B k (Mk 8 s) k) := hown
      clear hown
      go_wp2
      go_ret
      exact ⟨rfl, HO.out, hg, hsz⟩

set_option maxHeartbeats 1000000 in
theorem markI (s B n cap : Nat) (X : Nat → Int) (hn : n ≤ 2000000) (hs : s ≤ 2000000000) (w : World) (hB : B < w.heap.size) (h : Own1 w B n X n) :
    Calls Try.prog 57 #[.slice (some ⟨B, 0, none⟩) n cap, .int .i64 (s : Int)] w fun e w' => e = .returned (.int .i64 ((s + n : Nat) : Int)) ∧ Own1 w' B n (M1 s) n ∧ w.grownBy w' (some B) ∧ w'.heap.size = w.heap.size := by
  have H0 : Hid (Own1 w B n (M1 s) 0) := ⟨h.1, fun _ h => absurd h (by omega)⟩
  clear h
  go_enter Try.func57, Try.ntmps57
  go_wp2
  go_loopw [1, 5] (fun c i wr => ∃ k : Nat, k ≤ n ∧ .int .i64 k = i ∧ .int .i64 (M1 s k) = c ∧ Own1 wr B n (M1 s) k ∧ w.grownBy wr (some B) ∧ wr.heap.size = w.heap.size) (fun _ i _ => n - (intOf i).toNat)
  case atStart => exact ⟨0, Nat.zero_le _, rfl, by simp [M1], H0.out, World.grownBy.refl _ _, rfl⟩
  case round =>
    obtain ⟨k, hk, rfl, rfl, hown, hg, hsz⟩ := hrel
    by_cases hkn : k < n
    · have hkn' : (k : Int) < (n : Int) := by omega
      obtain ⟨d0, f0⟩ := hown.1 k hkn
      obtain ⟨v0, d0⟩ := Option.isSome_iff_exists.1 d0
      have HP : Hid (Own1 (wr.setCell ⟨B, k, none⟩ (.int .i64 (M1 s k))) B n (M1 s) (k + 1)) := own1_next hown hkn
      have HG : Hid (w.grownBy (wr.setCell ⟨B, k, none⟩ (.int .i64 (M1 s k))) (some B) ∧ (wr.setCell ⟨B, k, none⟩ (.int .i64 (M1 s k))).heap.size = w.heap.size) := ⟨hg.trans (P8.set_grown wr B k _).1, (P8.set_grown wr B k _).2.trans hsz⟩
      have m1 : IntKind.wrap .i64 (M1 s k + 1) = M1 s (k + 1) := by unfold M1; simp [IntKind.wrap, IntKind.bits, IntKind.signed]; omega
      clear hown hg hsz
      go_wp2
      go_roundw
      case rel => exact ⟨k + 1, by omega, by go_num, rfl, HP.out, HG.out.1, HG.out.2⟩
      case measure => simp [intOf]; omega
    · have hkn' : k = n := by omega
      subst hkn'
      have HO : Hid (Own1 wr B k (M1 s) k) := hown
      clear hown
      go_wp2
      go_ret
      exact ⟨rfl, HO.out, hg, hsz⟩

theorem markW0 (s : Nat) (a : Option Addr) (c : Nat) (w : World) :
    Calls Try.prog 55 #[.slice a 0 c, .int .i64 (s : Int)] w fun e w' => e = .returned (.int .i64 (s : Int)) ∧ w' = w := by
  go_enter Try.func55, Try.ntmps55
  go_wp2
  refine wp_loop_rounds 1 ?_
  rw [rounds_succ]
  go_wp2
  go_ret
  exact ⟨rfl, rfl⟩

theorem markP0 (s : Nat) (a : Option Addr) (c : Nat) (w : World) :
    Calls Try.prog 83 #[.slice a 0 c, .int .i64 (s : Int)] w fun e w' => e = .returned (.int .i64 (s : Int)) ∧ w' = w := by
  go_enter Try.func83, Try.ntmps83
  go_wp2
  refine wp_loop_rounds 1 ?_
  rw [rounds_succ]
  go_wp2
  go_ret
  exact ⟨rfl, rfl⟩

theorem markI0 (s : Nat) (a : Option Addr) (c : Nat) (w : World) :
    Calls Try.prog 57 #[.slice a 0 c, .int .i64 (s : Int)] w fun e w' => e = .returned (.int .i64 (s : Int)) ∧ w' = w := by
  go_enter Try.func57, Try.ntmps57
  go_wp2
  refine wp_loop_rounds 1 ?_
  rw [rounds_succ]
  go_wp2
  go_ret
  exact ⟨rfl, rfl⟩

end Go.Proofs.Ytlbjgecjonegkaa
