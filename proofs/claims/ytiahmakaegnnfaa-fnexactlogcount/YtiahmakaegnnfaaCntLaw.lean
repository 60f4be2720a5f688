/- The walk of the law FnExactLogCount: it answers true; conditions: the list lies in memory as a row of structs of sixteen integers. -/
import Derived.Test.YtiahmakaegnnfaaEq16
namespace Go.Proofs.Ytiahmakaegnnfaa.P16
open Go.RowKit Go.Deep
set_option linter.unusedVariables false

theorem count_calls (b off len cap : Nat) (who seq : Int) (Z : Nat → Nat → Int) (hreach : len ≤ 1048576) (w : World) (hb : b < w.heap.size)
    (hr : ∀ k j, k < len → j < 16 → w.cell? ⟨b, off + k * 16 + j, none⟩ = some (.int .i64 (Z k j))) :
    Calls Try.prog 22 #[.slice (some ⟨b, off, none⟩) len cap, .int .i64 who, .int .i64 seq] w fun e W' => e = .returned (.int .i64 (hits who seq (uptoR Z len) : Int)) ∧ Below w.heap.size w W' :=
  (callsIn_wide (n := 5)).1 (count_in Fence.wide 5 trivial trivial trivial rfl (by omega) b off len cap who seq Z hreach w hb hr)

set_option maxRecDepth 20000 in
set_option maxHeartbeats 4000000 in
theorem law_logCount (a : Option Addr) (n cap : Nat) (who seq : Int) (Z : Nat → Nat → Int) (hm : n ≤ maxLen) (w : World) (h : Row16 w a n Z) :
    Calls Try.prog 5 #[.slice a n cap, .int .i64 who, .int .i64 seq] w fun e w' => e = .returned (.bool true) ∧ Below w.heap.size w w' := by
  have H : Hid (Row16 w a n Z) := h
  clear h
  have hm' : (n : Int) ≤ 9223372036854775807 := by unfold maxLen at hm; omega
  clear hm
  by_cases hn : (n : Int) ≤ 1048576
  · have hn' : n ≤ 1048576 := by omega
    have hn2 : n ≤ 2000000 := by omega
    have hle := hits_le who seq (uptoR Z n)
    rw [uptoR_length] at hle
    obtain ⟨m, em⟩ : ∃ m, hits who seq (uptoR Z n) = m := ⟨_, rfl⟩
    rw [em] at hle
    have EM : Hid (hits who seq (uptoR Z n) = m) := em
    clear em
    go_enter Try.func5, Try.ntmps5
    go_wp2_with fail
    refine (szList a n cap hm' _).mono ?_
    rintro e w1 ⟨rfl, hb1⟩
    rw [if_pos hn]
    have B1 : Hid (Below w.heap.size w w1) := hb1
    clear hb1
    go_wp2_with fail
    refine (toList_any a n cap Z hn' _ (row_below H.out B1.out)).mono ?_
    rintro e w2 ⟨rfl, hc2, hs2, hb2⟩
    have HC2 : Hid (∀ k j, k < n → j < 16 → w2.cell? ⟨w1.heap.size, 0 + k * 16 + j, none⟩ = some (.int .i64 (Z k j))) := own_row hc2
    have B2 : Hid (Below w.heap.size w w2) := bthen B1.out hb2
    clear hb2 B1 hc2
    go_wp2_with fail
    refine (count_spec _ 0 n n who seq Z hn' _ hs2 HC2.out).mono ?_
    rintro e w3 ⟨rfl, hb3⟩
    rw [EM.out]
    have B3 : Hid (Below w.heap.size w w3) := bthen B2.out hb3
    clear hb3 B2 HC2 hs2
    go_wp2_with fail
    refine (toList_any a n cap Z hn' _ (row_below H.out B3.out)).mono ?_
    rintro e w4 ⟨rfl, hc4, hs4, hb4⟩
    have HC4 : Hid (Own16 w4 w3.heap.size n Z n) := hc4
    have B4 : Hid (Below w.heap.size w w4) := bthen B3.out hb4
    clear hb4 B3 hc4
    go_wp2_with fail
    refine (count_calls _ 0 n n who seq Z hn' _ hs4 (own_row HC4.out)).mono ?_
    rintro e w5 ⟨rfl, hb5⟩
    rw [EM.out]
    have B5 : Hid (Below w.heap.size w w5) := bthen B4.out hb5
    have HC5 : Hid (Own16 w5 w3.heap.size n Z n) := own_below HC4.out hs4 hb5
    have hs5 : w3.heap.size < w5.heap.size := Nat.lt_of_lt_of_le hs4 hb5.size
    clear hb5 B4 HC4 hs4
    go_wp2_with fail
    refine (toList_any a n cap Z hn' _ (row_below H.out B5.out)).mono ?_
    rintro e w6 ⟨rfl, hc6, hs6, hb6⟩
    have HC6 : Hid (Own16 w6 w5.heap.size n Z n) := hc6
    have B6 : Hid (Below w.heap.size w w6) := bthen B5.out hb6
    have HD6 : Hid (Own16 w6 w3.heap.size n Z n) := own_below HC5.out hs5 hb6
    have hs7 : w3.heap.size < w6.heap.size := Nat.lt_trans hs5 hs6
    clear hb6 B5 hc6 HC5 hs5
    go_wp2_with fail
    refine (eqList _ 0 n _ 0 n n Z hn2 _ hs7 hs6 (own_row HD6.out) (own_row HC6.out)).mono ?_
    rintro e w7 ⟨rfl, hb7⟩
    have B7 : Hid (Below w.heap.size w w7) := bthen B6.out hb7
    clear hb7 B6 HC6 HD6 hs6 hs7
    go_wp2
    go_ret
    exact ⟨rfl, B7.out⟩
  · go_enter Try.func5, Try.ntmps5
    go_wp2_with fail
    refine (szList a n cap hm' _).mono ?_
    rintro e w1 ⟨rfl, hb1⟩
    rw [if_neg (show ¬ (n : Int) ≤ 1048576 by omega)]
    go_wp2
    go_ret
    exact ⟨rfl, hb1⟩

end Go.Proofs.Ytiahmakaegnnfaa.P16
