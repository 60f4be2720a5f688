/- The walk of the law FnExactPclListOk: it answers true; conditions: the list lies in memory as a row of parcels. -/
import Derived.Test.YtpkjneddalgbgaaPList2
namespace Go.Proofs.Ytpkjneddalgbgaa
open Go.RowKit Go.Deep
set_option linter.unusedVariables false

set_option maxHeartbeats 2000000 in
theorem law_plist (c d next : Int) (a : Option Addr) (n cap : Nat) (Z : Nat → Nat → Int) (hm : n ≤ maxLen) (w : World) (h : Row8 w a n Z) :
    Calls Try.prog 6 #[.agg #[.int .i64 c, .int .i64 d], .slice a n cap, .int .i64 next] w fun e w' => e = .returned (.bool true) ∧ Below w.heap.size w w' := by
  have H : Hid (Row8 w a n Z) := h
  clear h
  have hm' : (n : Int) ≤ 9223372036854775807 := by unfold maxLen at hm; omega
  clear hm
  by_cases hn : (n : Int) ≤ 1048576
  · go_enter Try.func6, Try.ntmps6
    go_wp2_with fail
    refine (szList a n cap hm' _).mono ?_
    rintro e w1 ⟨rfl, hb1⟩
    rw [if_pos hn]
    have hn' : n ≤ 1048576 := by omega
    have B1 : Below w.heap.size w w1 := bthen ((Below.refl _ _).alloc (by simp) _) hb1
    have H1 : Hid (Row8 w1 a n Z) := row_below (B := 0) H.out B1
    have m0 : w1.cell? ⟨w.heap.size, 0, none⟩ = some (.int .i64 c) := (hb1.cell (p := ⟨w.heap.size, 0, none⟩) (by simp)).trans (by simp)
    have m1 : w1.cell? ⟨w.heap.size, 1, none⟩ = some (.int .i64 d) := (hb1.cell (p := ⟨w.heap.size, 1, none⟩) (by simp)).trans (by simp)
    have s1 : w.heap.size < w1.heap.size := by have := hb1.size; simp at this; omega
    clear H hb1
    go_wp2_with fail
    refine (toMap _ _ _).mono ?_
    rintro e w2 ⟨rfl, hb2⟩
    have B2 := bthen B1 hb2
    have H2 : Hid (Row8 w2 a n Z) := row_below (B := 0) H1.out hb2
    replace m0 := (hb2.cell (p := ⟨w.heap.size, 0, none⟩) s1).trans m0
    replace m1 := (hb2.cell (p := ⟨w.heap.size, 1, none⟩) s1).trans m1
    have s2 : w.heap.size < w2.heap.size := Nat.lt_of_lt_of_le s1 hb2.size
    clear H1 hb2 B1 s1
    go_wp2_with fail
    refine (toList_any a n cap Z hn' _ H2.out).mono ?_
    rintro e w3 ⟨rfl, hc3, hs3, hb3⟩
    have HC3 := hc3
    have B3 := bthen B2 hb3
    have H3 : Hid (Row8 w3 a n Z) := row_below (B := 0) H2.out hb3
    replace m0 := (hb3.cell (p := ⟨w.heap.size, 0, none⟩) s2).trans m0
    replace m1 := (hb3.cell (p := ⟨w.heap.size, 1, none⟩) s2).trans m1
    have s3 : w.heap.size < w3.heap.size := Nat.lt_of_lt_of_le s2 hb3.size
    have HC : Hid (∀ k j, k < n → j < 8 → w3.cell? ⟨w2.heap.size, 0 + k * 8 + j, none⟩ = some (.int .i64 (Z k j))) := hc3
    clear H2 hb3 B2 hc3 HC3
    go_wp2_with fail
    refine (plist_spec c d next w2.heap.size 0 n n Z hn' _ hs3 HC.out).mono ?_
    rintro e w4 ⟨rfl, hb4⟩
    have B4 := bthen B3 hb4
    have H4 : Hid (Row8 w4 a n Z) := row_below (B := 0) H3.out hb4
    replace m0 := (hb4.cell (p := ⟨w.heap.size, 0, none⟩) s3).trans m0
    replace m1 := (hb4.cell (p := ⟨w.heap.size, 1, none⟩) s3).trans m1
    have s4 : w.heap.size < w4.heap.size := Nat.lt_of_lt_of_le s3 hb4.size
    clear H3 hb4 B3 HC hs3 s2 s3
    go_wp2_with fail
    refine (toList_any a n cap Z hn' _ H4.out).mono ?_
    rintro e w5 ⟨rfl, hc5, hs5, hb5⟩
    have B5 := bthen B4 hb5
    have H5 : Hid (Row8 w5 a n Z) := row_below (B := 0) H4.out hb5
    replace m0 := (hb5.cell (p := ⟨w.heap.size, 0, none⟩) s4).trans m0
    replace m1 := (hb5.cell (p := ⟨w.heap.size, 1, none⟩) s4).trans m1
    have HC5 : Hid (∀ k j, k < n → j < 8 → w5.cell? ⟨w4.heap.size, 0 + k * 8 + j, none⟩ = some (.int .i64 (Z k j))) := hc5
    clear H4 hb5 B4 hc5
    go_wp2_with fail
    refine (toMap _ _ _).mono ?_
    rintro e w6 ⟨rfl, hb6⟩
    have B6 := bthen B5 hb6
    have H6 : Hid (Row8 w6 a n Z) := row_below (B := 0) H5.out hb6
    have HC6 : Hid (∀ k j, k < n → j < 8 → w6.cell? ⟨w4.heap.size, 0 + k * 8 + j, none⟩ = some (.int .i64 (Z k j))) := cells_below HC5.out hs5 hb6
    have hs6 : w4.heap.size < w6.heap.size := Nat.lt_of_lt_of_le hs5 hb6.size
    clear H5 hb6 B5 HC5 hs5 m0 m1
    go_wp2_with fail
    refine (plist_impl c d next w4.heap.size 0 n n Z hn' _ hs6 HC6.out).mono ?_
    rintro e w7 ⟨rfl, hb7⟩
    have B7 := bthen B6 hb7
    have H7 : Hid (Row8 w7 a n Z) := row_below (B := 0) H6.out hb7
    have HC7 : Hid (∀ k j, k < n → j < 8 → w7.cell? ⟨w4.heap.size, 0 + k * 8 + j, none⟩ = some (.int .i64 (Z k j))) := cells_below HC6.out hs6 hb7
    have hs7 : w4.heap.size < w7.heap.size := Nat.lt_of_lt_of_le hs6 hb7.size
    clear H6 hb7 B6 HC6 hs6
    go_wp2_with fail
    refine (toList_any a n cap Z hn' _ H7.out).mono ?_
    rintro e w8 ⟨rfl, hc8, hs8, hb8⟩
    have B8 := bthen B7 hb8
    have HC8 : Hid (∀ k j, k < n → j < 8 → w8.cell? ⟨w4.heap.size, 0 + k * 8 + j, none⟩ = some (.int .i64 (Z k j))) := cells_below HC7.out hs7 hb8
    have HD8 : Hid (∀ k j, k < n → j < 8 → w8.cell? ⟨w7.heap.size, 0 + k * 8 + j, none⟩ = some (.int .i64 (Z k j))) := hc8
    have hs8' : w4.heap.size < w8.heap.size := Nat.lt_of_lt_of_le hs7 hb8.size
    clear H7 hb8 B7 HC7 hs7 hc8
    go_wp2_with fail
    refine (eqList w4.heap.size 0 n w7.heap.size 0 n n Z (by omega) _ hs8' hs8 HC8.out HD8.out).mono ?_
    rintro e w9 ⟨rfl, hb9⟩
    have B9 := bthen B8 hb9
    clear hb9 B8 HC8 HD8
    go_wp2
    go_ret
    exact ⟨rfl, B9⟩
  · go_enter Try.func6, Try.ntmps6
    go_wp2_with fail
    refine (szList a n cap hm' _).mono ?_
    rintro e w1 ⟨rfl, hb1⟩
    rw [if_neg (by omega)]
    go_wp2
    go_ret
    exact ⟨rfl, bthen ((Below.refl _ _).alloc (by simp) _) hb1⟩
end Go.Proofs.Ytpkjneddalgbgaa
