/- The walks of WlkFind, the program's and the model's: the first walker with a number and true, or nothing and false; conditions: the list lies in memory as a row of structs of five integers. -/
import Derived.Test.YtoiehmnhfjmfeaaLaw
namespace Go.Proofs.Ytoiehmnhfjmfeaa
open Go.RowKit Go.Deep Go.Maps
set_option linter.unusedVariables false

/-- Five cells of a block, written anew. -/
def putR (W : World) (b : Nat) (x0 x1 x2 x3 x4 : Value) : World :=
  ((((W.setCell ⟨b, 0, none⟩ x0).setCell ⟨b, 1, none⟩ x1).setCell ⟨b, 2, none⟩ x2).setCell ⟨b, 3, none⟩ x3).setCell ⟨b, 4, none⟩ x4
theorem putR_cells {W : World} {b : Nat} {y0 y1 y2 y3 y4 : Value} (c0 : W.cell? ⟨b, 0, none⟩ = some y0) (c1 : W.cell? ⟨b, 1, none⟩ = some y1) (c2 : W.cell? ⟨b, 2, none⟩ = some y2) (c3 : W.cell? ⟨b, 3, none⟩ = some y3) (c4 : W.cell? ⟨b, 4, none⟩ = some y4) (x0 x1 x2 x3 x4 : Value) :
    (putR W b x0 x1 x2 x3 x4).cell? ⟨b, 0, none⟩ = some x0 ∧ (putR W b x0 x1 x2 x3 x4).cell? ⟨b, 1, none⟩ = some x1 ∧ (putR W b x0 x1 x2 x3 x4).cell? ⟨b, 2, none⟩ = some x2 ∧ (putR W b x0 x1 x2 x3 x4).cell? ⟨b, 3, none⟩ = some x3 ∧ (putR W b x0 x1 x2 x3 x4).cell? ⟨b, 4, none⟩ = some x4 := by
  have h : ∀ j, j < 5 → (W.cell? ⟨b, 0 + j, none⟩).isSome = true := by
    intro j hj
    match j, hj with
    | 0, _ => simp [c0]
    | 1, _ => simp [c1]
    | 2, _ => simp [c2]
    | 3, _ => simp [c3]
    | 4, _ => simp [c4]
  have e : putR W b x0 x1 x2 x3 x4 = W.setCells b 0 [x0, x1, x2, x3, x4] := rfl
  rw [e]
  have g := World.cell?_setCells_in b [x0, x1, x2, x3, x4] 0 W h
  exact ⟨g 0 (by simp), g 1 (by simp), g 2 (by simp), g 3 (by simp), g 4 (by simp)⟩
theorem putR_below {B : Nat} {a W : World} (h : Below B a W) {b : Nat} (hb : B ≤ b) (x0 x1 x2 x3 x4 : Value) : Below B a (putR W b x0 x1 x2 x3 x4) :=
  ((((h.setCell (p := ⟨b, 0, none⟩) hb _).setCell (p := ⟨b, 1, none⟩) hb _).setCell (p := ⟨b, 2, none⟩) hb _).setCell (p := ⟨b, 3, none⟩) hb _).setCell (p := ⟨b, 4, none⟩) hb _

/-- m is the first whose number is z. -/
def First (Z : Nat → Nat → Int) (n : Nat) (z : Int) (m : Nat) : Prop := m < n ∧ Z m 0 = z ∧ ∀ j, j < m → ¬ Z j 0 = z
/-- None has the number z. -/
def Noone (Z : Nat → Nat → Int) (n : Nat) (z : Int) : Prop := ∀ j, j < n → ¬ Z j 0 = z
theorem first_or (Z : Nat → Nat → Int) (z : Int) : ∀ n, Noone Z n z ∨ ∃ m, First Z n z m
  | 0 => .inl (fun j h => absurd h (by omega))
  | n + 1 => by
    rcases first_or Z z n with h | ⟨m, h1, h2, h3⟩
    · by_cases e : Z n 0 = z
      · exact .inr ⟨n, by omega, e, h⟩
      · refine .inl (fun j hj => ?_)
        by_cases hjn : j = n
        · subst hjn; exact e
        · exact h j (by omega)
    · exact .inr ⟨m, by omega, h2, h3⟩
set_option maxHeartbeats 1000000 in
theorem find_spec_yes (z : Int) (b o n cap m : Nat) (Z : Nat → Nat → Int) (hn : n ≤ 1048576) (w : World) (hb : b < w.heap.size) (hF : First Z n z m)
    (hr : ∀ k j, k < n → j < 5 → w.cell? ⟨b, o + k * 5 + j, none⟩ = some (.int .i64 (Z k j))) :
    Calls Try.prog 68 #[.slice (some ⟨b, o, none⟩) n cap, .int .i64 z] w fun e w' => e = .returned (.tuple #[.agg #[.int .i64 (Z m 0), .int .i64 (Z m 1), .int .i64 (Z m 2), .int .i64 (Z m 3), .int .i64 (Z m 4)], .bool true]) ∧ Below w.heap.size w w' := by
  have HR : Hid (∀ k j, k < n → j < 5 → w.cell? ⟨b, o + k * 5 + j, none⟩ = some (.int .i64 (Z k j))) := hr
  obtain ⟨hm, hmz, hlt⟩ := hF
  have HM : Hid (Z m 0 = z ∧ ∀ j, j < m → ¬ Z j 0 = z) := ⟨hmz, hlt⟩
  clear hr hmz hlt
  go_enter Try.func68, Try.ntmps68
  go_wp2
  go_loopw [6] (fun i wr => ∃ k : Nat, k ≤ m ∧ i = .int .i64 k ∧ wr = w.alloc (.cells #[.int .i64 0, .int .i64 0, .int .i64 0, .int .i64 0, .int .i64 0] 60)) (fun i _ => n - (intOf i).toNat)
  case atStart => exact ⟨0, Nat.zero_le _, rfl, rfl⟩
  case round =>
    obtain ⟨k, hk, rfl, rfl⟩ := hrel
    have hkn : k < n := by omega
    have c0 : w.cell? ⟨b, o + k * 5, none⟩ = some (.int .i64 (Z k 0)) := HR.out k 0 hkn (by omega)
    have c1 : w.cell? ⟨b, o + k * 5 + 1, none⟩ = some (.int .i64 (Z k 1)) := HR.out k 1 hkn (by omega)
    have c2 : w.cell? ⟨b, o + k * 5 + 2, none⟩ = some (.int .i64 (Z k 2)) := HR.out k 2 hkn (by omega)
    have c3 : w.cell? ⟨b, o + k * 5 + 3, none⟩ = some (.int .i64 (Z k 3)) := HR.out k 3 hkn (by omega)
    have c4 : w.cell? ⟨b, o + k * 5 + 4, none⟩ = some (.int .i64 (Z k 4)) := HR.out k 4 hkn (by omega)
    by_cases hkm : k = m
    · have ez : (Z k 0 == z) = true := by rw [hkm]; simp [HM.out.1]
      have HK : Hid (k = m) := hkm
      clear hkm
      go_wp2
      exact bodyPost_ret (v := .tuple #[.agg #[.int .i64 (Z k 0), .int .i64 (Z k 1), .int .i64 (Z k 2), .int .i64 (Z k 3), .int .i64 (Z k 4)], .bool true]) (by simp [results, Try.results68, go_sem]) rfl ⟨by rw [HK.out], (Below.refl _ _).alloc (by simp) _⟩
    · have ez : (Z k 0 == z) = false := by simpa using HM.out.2 k (by omega)
      go_wp2
      go_roundw
      case rel => exact ⟨k + 1, by omega, by go_num, by trivial⟩
      case measure => simp [intOf]; omega

set_option maxHeartbeats 1000000 in
theorem find_spec_no (z : Int) (b o n cap : Nat) (Z : Nat → Nat → Int) (hn : n ≤ 1048576) (w : World) (hb : b < w.heap.size) (hF : Noone Z n z)
    (hr : ∀ k j, k < n → j < 5 → w.cell? ⟨b, o + k * 5 + j, none⟩ = some (.int .i64 (Z k j))) :
    Calls Try.prog 68 #[.slice (some ⟨b, o, none⟩) n cap, .int .i64 z] w fun e w' => e = .returned (.tuple #[.agg #[.int .i64 0, .int .i64 0, .int .i64 0, .int .i64 0, .int .i64 0], .bool false]) ∧ Below w.heap.size w w' := by
  have HR : Hid (∀ k j, k < n → j < 5 → w.cell? ⟨b, o + k * 5 + j, none⟩ = some (.int .i64 (Z k j))) := hr
  have HM : Hid (∀ j, j < n → ¬ Z j 0 = z) := hF
  clear hr hF
  go_enter Try.func68, Try.ntmps68
  go_wp2
  go_loopw [6] (fun i wr => ∃ k : Nat, k ≤ n ∧ i = .int .i64 k ∧ wr = w.alloc (.cells #[.int .i64 0, .int .i64 0, .int .i64 0, .int .i64 0, .int .i64 0] 60)) (fun i _ => n - (intOf i).toNat)
  case atStart => exact ⟨0, Nat.zero_le _, rfl, rfl⟩
  case round =>
    obtain ⟨k, hk, rfl, rfl⟩ := hrel
    by_cases hkn : k < n
    · have hkn' : (k : Int) < (n : Int) := by omega
      have c0 : w.cell? ⟨b, o + k * 5, none⟩ = some (.int .i64 (Z k 0)) := HR.out k 0 hkn (by omega)
      have c1 : w.cell? ⟨b, o + k * 5 + 1, none⟩ = some (.int .i64 (Z k 1)) := HR.out k 1 hkn (by omega)
      have c2 : w.cell? ⟨b, o + k * 5 + 2, none⟩ = some (.int .i64 (Z k 2)) := HR.out k 2 hkn (by omega)
      have c3 : w.cell? ⟨b, o + k * 5 + 3, none⟩ = some (.int .i64 (Z k 3)) := HR.out k 3 hkn (by omega)
      have c4 : w.cell? ⟨b, o + k * 5 + 4, none⟩ = some (.int .i64 (Z k 4)) := HR.out k 4 hkn (by omega)
      have ez : (Z k 0 == z) = false := by simpa using HM.out k hkn
      go_wp2
      go_roundw
      case rel => exact ⟨k + 1, by omega, by go_num, by trivial⟩
      case measure => simp [intOf]; omega
    · go_wp2
      exact bodyPost_ret (v := .tuple #[.agg #[.int .i64 0, .int .i64 0, .int .i64 0, .int .i64 0, .int .i64 0], .bool false]) (by simp [results, Try.results68, go_sem]) rfl ⟨rfl, (Below.refl _ _).alloc (by simp) _⟩

end Go.Proofs.Ytoiehmnhfjmfeaa
