/- The walk of the reader's pick: a number below n, the reader one step on; conditions: those typed. -/
import Derived.Test.YtodmfbbicdbjdaaWalks4
import Derived.Test.YtodmfbbicdbjdaaArb9
import Derived.Test.YtodmfbbicdbjdaaArb1
import Derived.BigQuiet
import Derived.Laws.Bits64
namespace Go.Proofs.Ytodmfbbicdbjdaa
open Go.RowKit
set_option linter.unusedVariables false

structure Rd (w : World) (r : Nat) (a : Option Addr) (len cap : Nat) (p : Int) : Prop where
  b : w.cell? ⟨r, 0, none⟩ = some (.slice a len cap)
  p : w.cell? ⟨r, 1, none⟩ = some (.int .i64 p)
  f : w.frozen? ⟨r, 1, none⟩ = false
  le : len ≤ 2000
  bytes : 0 < len → ∃ k off, a = some ⟨k, off, none⟩ ∧ k < r ∧ ∀ i, i < len → ∃ z : Int, w.cell? ⟨k, off + i, none⟩ = some (.int .u8 z) ∧ 0 ≤ z ∧ z ≤ 255

theorem i64_xor_nat (a b : Nat) (ha : a < 4611686018427387904) (hb : b < 4611686018427387904) : bits .xor .i64 (a : Int) (b : Int) = ((a ^^^ b : Nat) : Int) := by
  have hx : a ^^^ b < 2 ^ 62 := Nat.xor_lt_two_pow (by omega) (by omega)
  have h1 : (BitVec.ofInt 64 (a : Int)).toNat = a := by
    rw [BitVec.ofInt_natCast, BitVec.toNat_ofNat]; exact Nat.mod_eq_of_lt (by omega)
  have h2 : (BitVec.ofInt 64 (b : Int)).toNat = b := by
    rw [BitVec.ofInt_natCast, BitVec.toNat_ofNat]; exact Nat.mod_eq_of_lt (by omega)
  show IntKind.i64.wrap ((BitVec.ofInt 64 (a : Int) ^^^ BitVec.ofInt 64 (b : Int)).toNat : Int) = _
  rw [BitVec.toNat_xor, h1, h2, IntKind.wrap_i64]
  omega
theorem i64_xor_nn (a b : Int) (h1 : 0 ≤ a) (h2 : a < 4611686018427387904) (h3 : 0 ≤ b) (h4 : b < 4611686018427387904) : 0 ≤ bits .xor .i64 a b := by
  obtain ⟨A, rfl⟩ := Int.eq_ofNat_of_zero_le h1
  obtain ⟨C, rfl⟩ := Int.eq_ofNat_of_zero_le h3
  rw [i64_xor_nat A C (by omega) (by omega)]
  omega

def PickOut (n x : Int) : Prop := 0 ≤ x ∧ (1 ≤ n → x < n) ∧ (n < 1 → x = 0)

set_option maxHeartbeats 400000 in
theorem pick_near (r k off : Nat) (len cap : Nat) (p n z : Int) (w : World) (h0 : 0 ≤ p) (h1 : p < len) (hl : len ≤ 2000) (hn : 1 ≤ n) (hk : k < r)
    (cb : w.cell? ⟨r, 0, none⟩ = some (.slice (some ⟨k, off, none⟩) len cap)) (cp : w.cell? ⟨r, 1, none⟩ = some (.int .i64 p)) (cf : w.frozen? ⟨r, 1, none⟩ = false)
    (cz : w.cell? ⟨k, off + p.toNat, none⟩ = some (.int .u8 z)) (z0 : 0 ≤ z) (z1 : z ≤ 255) :
    Calls Try.prog 15 #[.pointer (some ⟨r, 0, none⟩), .int .i64 n] w fun e w' => ∃ x, e = .returned (.int .i64 x) ∧ PickOut n x ∧ ∃ nq, w' = (w.setCell ⟨r, 1, none⟩ (.int .i64 (p + 1))).drewN nq := by
  have hlen : ((len : Int) == 0) = false := by simp; omega
  have hn1 : ¬ n < 1 := by omega
  have hne : ¬ k = r := by omega
  go_enter Try.func15, Try.ntmps15
  go_wp2
  go_ret
  exact ⟨_, rfl, ⟨by apply Int.emod_nonneg; omega, fun _ => Int.emod_lt_of_pos _ (by omega), fun h => by omega⟩, 0, rfl⟩

set_option maxHeartbeats 1000000 in
theorem pick_far (r k off : Nat) (len cap : Nat) (p n z y : Int) (w : World) (h0 : (len : Int) ≤ p) (h1 : p ≤ 1000000) (hl : len ≤ 2000) (hl0 : 0 < len) (hn : 1 ≤ n) (hk : k < r)
    (cb : w.cell? ⟨r, 0, none⟩ = some (.slice (some ⟨k, off, none⟩) len cap)) (cp : w.cell? ⟨r, 1, none⟩ = some (.int .i64 p)) (cf : w.frozen? ⟨r, 1, none⟩ = false)
    (cz : w.cell? ⟨k, off + (p % (len : Int)).toNat, none⟩ = some (.int .u8 z)) (z0 : 0 ≤ z) (z1 : z ≤ 255)
    (cy : w.cell? ⟨k, off + ((p * 7 + 3) % (len : Int)).toNat, none⟩ = some (.int .u8 y)) (y0 : 0 ≤ y) (y1 : y ≤ 255) :
    Calls Try.prog 15 #[.pointer (some ⟨r, 0, none⟩), .int .i64 n] w fun e w' => ∃ x, e = .returned (.int .i64 x) ∧ PickOut n x ∧ ∃ nq, w' = (w.setCell ⟨r, 1, none⟩ (.int .i64 (p + 1))).drewN nq := by
  have hlen : ((len : Int) == 0) = false := by simp; omega
  have hn1 : ¬ n < 1 := by omega
  have hne : ¬ k = r := by omega
  have hp : ¬ p < (len : Int) := by omega
  have i0 : 0 ≤ p % (len : Int) := Int.emod_nonneg _ (by omega)
  have i1 : p % (len : Int) < len := Int.emod_lt_of_pos _ (by omega)
  have j0 : 0 ≤ (p * 7 + 3) % (len : Int) := Int.emod_nonneg _ (by omega)
  have j1 : (p * 7 + 3) % (len : Int) < len := Int.emod_lt_of_pos _ (by omega)
  have q0 : 0 ≤ p / (len : Int) := Int.ediv_nonneg (by omega) (by omega)
  have q1 : p / (len : Int) ≤ p := Int.ediv_le_self _ (by omega)
  go_enter Try.func15, Try.ntmps15
  go_wp2
  go_quiet (fail)
  go_wp2
  go_ret
  refine ⟨_, rfl, ?_, nq, rfl⟩
  have hx := i64_xor_nn (z * 131 + y * 1117 + p * 29 + p / (len : Int) * 53) ((z * 131 + y * 1117 + p * 29 + p / (len : Int) * 53) / 64) (by omega) (by omega) (by omega) (by omega)
  exact ⟨by apply Int.tmod_nonneg; exact hx, fun _ => Int.tmod_lt_of_pos _ (by omega), fun h => by omega⟩

set_option maxHeartbeats 400000 in
theorem pick_low (r : Nat) (a : Option Addr) (len cap : Nat) (p n : Int) (w : World) (h0 : 0 ≤ p) (h1 : p ≤ 1000000) (hn : n < 1)
    (cb : w.cell? ⟨r, 0, none⟩ = some (.slice a len cap)) (cp : w.cell? ⟨r, 1, none⟩ = some (.int .i64 p)) (cf : w.frozen? ⟨r, 1, none⟩ = false) :
    Calls Try.prog 15 #[.pointer (some ⟨r, 0, none⟩), .int .i64 n] w fun e w' => ∃ x, e = .returned (.int .i64 x) ∧ PickOut n x ∧ ∃ nq, w' = (w.setCell ⟨r, 1, none⟩ (.int .i64 (p + 1))).drewN nq := by
  go_enter Try.func15, Try.ntmps15
  go_wp2
  go_ret
  exact ⟨_, rfl, ⟨by omega, fun _ => by omega, fun h => rfl⟩, 0, rfl⟩

set_option maxHeartbeats 400000 in
theorem pick_none (r : Nat) (a : Option Addr) (cap : Nat) (p n : Int) (w : World) (h0 : 0 ≤ p) (h1 : p ≤ 1000000) (hn : 1 ≤ n)
    (cb : w.cell? ⟨r, 0, none⟩ = some (.slice a 0 cap)) (cp : w.cell? ⟨r, 1, none⟩ = some (.int .i64 p)) (cf : w.frozen? ⟨r, 1, none⟩ = false) :
    Calls Try.prog 15 #[.pointer (some ⟨r, 0, none⟩), .int .i64 n] w fun e w' => ∃ x, e = .returned (.int .i64 x) ∧ PickOut n x ∧ ∃ nq, w' = (w.setCell ⟨r, 1, none⟩ (.int .i64 (p + 1))).drewN nq := by
  have hn1 : ¬ n < 1 := by omega
  go_enter Try.func15, Try.ntmps15
  go_wp2
  go_ret
  exact ⟨_, rfl, ⟨by omega, fun _ => by omega, fun h => rfl⟩, 0, rfl⟩

theorem pick_any (r : Nat) (a : Option Addr) (len cap : Nat) (p n : Int) (w : World) (h : Rd w r a len cap p) (h0 : 0 ≤ p) (h1 : p ≤ 1000000) :
    Calls Try.prog 15 #[.pointer (some ⟨r, 0, none⟩), .int .i64 n] w fun e w' => ∃ x, e = .returned (.int .i64 x) ∧ PickOut n x ∧ ∃ nq, w' = (w.setCell ⟨r, 1, none⟩ (.int .i64 (p + 1))).drewN nq := by
  obtain ⟨cb, cp, cf, hle, hby⟩ := h
  by_cases hn : n < 1
  · exact pick_low r a len cap p n w h0 h1 hn cb cp cf
  · by_cases hl : len = 0
    · subst hl
      exact pick_none r a cap p n w h0 h1 (by omega) cb cp cf
    · obtain ⟨k, off, rfl, hk, hz⟩ := hby (by omega)
      by_cases hp : p < (len : Int)
      · obtain ⟨z, cz, z0, z1⟩ := hz p.toNat (by omega)
        exact pick_near r k off len cap p n z w h0 hp hle (by omega) hk cb cp cf cz z0 z1
      · have i0 : 0 ≤ p % (len : Int) := Int.emod_nonneg _ (by omega)
        have i1 : p % (len : Int) < len := Int.emod_lt_of_pos _ (by omega)
        have j0 : 0 ≤ (p * 7 + 3) % (len : Int) := Int.emod_nonneg _ (by omega)
        have j1 : (p * 7 + 3) % (len : Int) < len := Int.emod_lt_of_pos _ (by omega)
        obtain ⟨z, cz, z0, z1⟩ := hz (p % (len : Int)).toNat (by omega)
        obtain ⟨y, cy, y0, y1⟩ := hz ((p * 7 + 3) % (len : Int)).toNat (by omega)
        exact pick_far r k off len cap p n z y w (by omega) h1 hle (by omega) (by omega) hk cb cp cf cz z0 z1 cy y0 y1

/-- The reader behind a step that touches no block up to its own. -/
theorem Rd.below {w w' : World} {r : Nat} {a : Option Addr} {len cap : Nat} {p : Int} (h : Rd w r a len cap p) (hb : Below (r + 1) w w') : Rd w' r a len cap p := by
  obtain ⟨cb, cp, cf, hle, hby⟩ := h
  refine ⟨(hb.cell (p := ⟨r, 0, none⟩) (by simp)).trans cb, (hb.cell (p := ⟨r, 1, none⟩) (by simp)).trans cp, (hb.frozen (p := ⟨r, 1, none⟩) (by simp)).trans cf, hle, ?_⟩
  intro h0
  obtain ⟨k, off, e, hk, hz⟩ := hby h0
  refine ⟨k, off, e, hk, fun i hi => ?_⟩
  obtain ⟨z, cz, z0, z1⟩ := hz i hi
  exact ⟨z, (hb.cell (p := ⟨k, off + i, none⟩) (by show k < r + 1; omega)).trans cz, z0, z1⟩
end Go.Proofs.Ytodmfbbicdbjdaa
