/- The walk of the law FnExactWlkFind: it answers true; conditions: the list lies in memory as a row of structs of five integers. -/
import Derived.Test.YtflgffmoccakcaaFind2
namespace Go.Proofs.Ytflgffmoccakcaa
open Go.RowKit Go.Deep Go.Maps
set_option linter.unusedVariables false

set_option maxHeartbeats 4000000 in
theorem law_find (z : Int) (a : Option Addr) (n cap : Nat) (Z : Nat → Nat → Int) (hm : n ≤ maxLen) (w : World) (h : Row5 w a n Z) (hzw : (Lit.int .i64 z).wf = true) (hwf : ∀ k j, k < n → j < 5 → (Lit.int .i64 (Z k j)).wf = true) :
    Calls Try.prog 3 #[.slice a n cap, .int .i64 z] w fun e w' => e = .returned (.bool true) ∧ Below w.heap.size w w' := by
  have H : Hid (Row5 w a n Z) := h
  have HW : Hid (∀ k j, k < n → j < 5 → (Lit.int .i64 (Z k j)).wf = true) := hwf
  clear h hwf
  have hm' : (n : Int) ≤ 9223372036854775807 := by unfold maxLen at hm; omega
  clear hm
  by_cases hn : (n : Int) ≤ 1048576
  · have hn' : n ≤ 1048576 := by omega
    rcases first_or Z z n with hF | ⟨m, hF⟩
    · have HF : Hid (Noone Z n z) := hF
      clear hF
      go_enter Try.func3, Try.ntmps3
      go_wp2_with fail
      refine (szList a n cap hm' _).mono ?_
      rintro e w1 ⟨rfl, hb1⟩
      rw [if_pos hn]
      have B1 : Below w.heap.size w w1 := hb1
      have H1 : Hid (Row5 w1 a n Z) := row_below (B := 0) H.out B1
      clear H hb1
      go_wp2_with fail
      refine (toList_any a n cap Z hn' _ H1.out).mono ?_
      rintro e w2 ⟨rfl, hc2, hs2, hb2⟩
      have HC2 : Hid (∀ k j, k < n → j < 5 → w2.cell? ⟨w1.heap.size, 0 + k * 5 + j, none⟩ = some (.int .i64 (Z k j))) := hc2
      have B2 := bthen B1 hb2
      have H2 : Hid (Row5 w2 a n Z) := row_below (B := 0) H1.out hb2
      clear H1 hb2 B1 hc2
      go_wp2_with fail
      refine (find_spec_no z _ 0 n n Z hn' _ hs2 HF.out HC2.out).mono ?_
      rintro e w3 ⟨rfl, hb3⟩
      have B3 := bthen B2 hb3
      have H3 : Hid (Row5 w3 a n Z) := row_below (B := 0) H2.out hb3
      have H3' : Hid (Row5 (w3.alloc (.cells #[.int .i64 0, .int .i64 0, .int .i64 0, .int .i64 0, .int .i64 0] 25)) a n Z) := row_below (B := 0) H3.out ((Below.refl _ _).alloc (Nat.le_refl _) _)
      clear H2 hb3 B2 HC2 hs2 H3
      go_wp2_with fail
      refine (toList_any a n cap Z hn' _ H3'.out).mono ?_
      rintro e w4 ⟨rfl, hc4, hs4, hb4⟩
      have hsA : (w3.alloc (.cells #[.int .i64 0, .int .i64 0, .int .i64 0, .int .i64 0, .int .i64 0] 25)).heap.size = w3.heap.size + 1 := by simp
      rw [hsA] at hc4 hs4
      have HC4 : Hid (∀ k j, k < n → j < 5 → w4.cell? ⟨w3.heap.size + 1, 0 + k * 5 + j, none⟩ = some (.int .i64 (Z k j))) := hc4
      have B4 : Below w.heap.size w w4 := bthen (bthen B3 ((Below.refl _ _).alloc (Nat.le_refl _) _)) hb4
      have H4 : Hid (Row5 w4 a n Z) := row_below (B := 0) H3'.out hb4
      have c0 : w4.cell? ⟨w3.heap.size, 0, none⟩ = some (.int .i64 0) := (hb4.cell (p := ⟨w3.heap.size, 0, none⟩) (by simp)).trans (by simp)
      have c1 : w4.cell? ⟨w3.heap.size, 1, none⟩ = some (.int .i64 0) := (hb4.cell (p := ⟨w3.heap.size, 1, none⟩) (by simp)).trans (by simp)
      have c2 : w4.cell? ⟨w3.heap.size, 2, none⟩ = some (.int .i64 0) := (hb4.cell (p := ⟨w3.heap.size, 2, none⟩) (by simp)).trans (by simp)
      have c3 : w4.cell? ⟨w3.heap.size, 3, none⟩ = some (.int .i64 0) := (hb4.cell (p := ⟨w3.heap.size, 3, none⟩) (by simp)).trans (by simp)
      have c4 : w4.cell? ⟨w3.heap.size, 4, none⟩ = some (.int .i64 0) := (hb4.cell (p := ⟨w3.heap.size, 4, none⟩) (by simp)).trans (by simp)
      clear H3' hb4 B3 hc4 hsA
      go_wp2_with fail
      refine (find_impl_no z _ 0 n n Z hn' _ hs4 hzw HF.out HC4.out HW.out).mono ?_
      rintro e w5 ⟨rfl, hb5⟩
      have s43 : w3.heap.size < w4.heap.size := by omega
      replace c0 := (hb5.cell (p := ⟨w3.heap.size, 0, none⟩) s43).trans c0
      replace c1 := (hb5.cell (p := ⟨w3.heap.size, 1, none⟩) s43).trans c1
      replace c2 := (hb5.cell (p := ⟨w3.heap.size, 2, none⟩) s43).trans c2
      replace c3 := (hb5.cell (p := ⟨w3.heap.size, 3, none⟩) s43).trans c3
      replace c4 := (hb5.cell (p := ⟨w3.heap.size, 4, none⟩) s43).trans c4
      have B5 := bthen B4 hb5
      have H5 : Hid (Row5 w5 a n Z) := row_below (B := 0) H4.out hb5
      have HC5 : Hid (∀ k j, k < n → j < 5 → w5.cell? ⟨w3.heap.size + 1, 0 + k * 5 + j, none⟩ = some (.int .i64 (Z k j))) := cells_below HC4.out hs4 hb5
      have s53 : w3.heap.size < w5.heap.size := Nat.lt_of_lt_of_le s43 hb5.size
      have hs5 : w3.heap.size + 1 < w5.heap.size := Nat.lt_of_lt_of_le hs4 hb5.size
      clear H4 hb5 B4 HC4 hs4 s43
      go_wp2_with fail
      refine (eqWalker _ _ _ _ _ _).mono ?_
      rintro e w6 ⟨rfl, hb6⟩
      have hb56 : Below w5.heap.size w5 w6 := bthen ((Below.refl _ _).alloc (Nat.le_refl _) _) hb6
      have B6 := bthen B5 hb56
      have H6 : Hid (Row5 w6 a n Z) := row_below (B := 0) H5.out hb56
      have HC6 : Hid (∀ k j, k < n → j < 5 → w6.cell? ⟨w3.heap.size + 1, 0 + k * 5 + j, none⟩ = some (.int .i64 (Z k j))) := cells_below HC5.out hs5 hb56
      have hs6 : w3.heap.size + 1 < w6.heap.size := Nat.lt_of_lt_of_le hs5 hb56.size
      clear H5 hb6 hb56 B5 HC5 hs5 c0 c1 c2 c3 c4
      go_wp2_with fail
      refine (toList_any a n cap Z hn' _ H6.out).mono ?_
      rintro e w7 ⟨rfl, hc7, hs7, hb7⟩
      have HD7 : Hid (∀ k j, k < n → j < 5 → w7.cell? ⟨w6.heap.size, 0 + k * 5 + j, none⟩ = some (.int .i64 (Z k j))) := hc7
      have HC7 : Hid (∀ k j, k < n → j < 5 → w7.cell? ⟨w3.heap.size + 1, 0 + k * 5 + j, none⟩ = some (.int .i64 (Z k j))) := cells_below HC6.out hs6 hb7
      have hs7' : w3.heap.size + 1 < w7.heap.size := Nat.lt_of_lt_of_le hs6 hb7.size
      have B7 := bthen B6 hb7
      clear H6 hb7 B6 HC6 hs6 hc7
      go_wp2_with fail
      refine (eqList (w3.heap.size + 1) 0 n w6.heap.size 0 n n Z hn' _ hs7' hs7 HC7.out HD7.out).mono ?_
      rintro e w8 ⟨rfl, hb8⟩
      have B8 := bthen B7 hb8
      clear hb8 B7 HC7 HD7
      go_wp2
      go_ret
      exact ⟨rfl, B8⟩
    · have HF : Hid (First Z n z m) := hF
      clear hF
      go_enter Try.func3, Try.ntmps3
      go_wp2_with fail
      refine (szList a n cap hm' _).mono ?_
      rintro e w1 ⟨rfl, hb1⟩
      rw [if_pos hn]
      have B1 : Below w.heap.size w w1 := hb1
      have H1 : Hid (Row5 w1 a n Z) := row_below (B := 0) H.out B1
      clear H hb1
      go_wp2_with fail
      refine (toList_any a n cap Z hn' _ H1.out).mono ?_
      rintro e w2 ⟨rfl, hc2, hs2, hb2⟩
      have HC2 : Hid (∀ k j, k < n → j < 5 → w2.cell? ⟨w1.heap.size, 0 + k * 5 + j, none⟩ = some (.int .i64 (Z k j))) := hc2
      have B2 := bthen B1 hb2
      have H2 : Hid (Row5 w2 a n Z) := row_below (B := 0) H1.out hb2
      clear H1 hb2 B1 hc2
      go_wp2_with fail
      refine (find_spec_yes z _ 0 n n m Z hn' _ hs2 HF.out HC2.out).mono ?_
      rintro e w3 ⟨rfl, hb3⟩
      have B3 := bthen B2 hb3
      have H3 : Hid (Row5 w3 a n Z) := row_below (B := 0) H2.out hb3
      have H3' : Hid (Row5 (w3.alloc (.cells #[.int .i64 (Z m 0), .int .i64 (Z m 1), .int .i64 (Z m 2), .int .i64 (Z m 3), .int .i64 (Z m 4)] 25)) a n Z) := row_below (B := 0) H3.out ((Below.refl _ _).alloc (Nat.le_refl _) _)
      clear H2 hb3 B2 HC2 hs2 H3
      go_wp2_with fail
      refine (toList_any a n cap Z hn' _ H3'.out).mono ?_
      rintro e w4 ⟨rfl, hc4, hs4, hb4⟩
      have hsA : (w3.alloc (.cells #[.int .i64 (Z m 0), .int .i64 (Z m 1), .int .i64 (Z m 2), .int .i64 (Z m 3), .int .i64 (Z m 4)] 25)).heap.size = w3.heap.size + 1 := by simp
      rw [hsA] at hc4 hs4
      have HC4 : Hid (∀ k j, k < n → j < 5 → w4.cell? ⟨w3.heap.size + 1, 0 + k * 5 + j, none⟩ = some (.int .i64 (Z k j))) := hc4
      have B4 : Below w.heap.size w w4 := bthen (bthen B3 ((Below.refl _ _).alloc (Nat.le_refl _) _)) hb4
      have H4 : Hid (Row5 w4 a n Z) := row_below (B := 0) H3'.out hb4
      have c0 : w4.cell? ⟨w3.heap.size, 0, none⟩ = some (.int .i64 (Z m 0)) := (hb4.cell (p := ⟨w3.heap.size, 0, none⟩) (by simp)).trans (by simp)
      have c1 : w4.cell? ⟨w3.heap.size, 1, none⟩ = some (.int .i64 (Z m 1)) := (hb4.cell (p := ⟨w3.heap.size, 1, none⟩) (by simp)).trans (by simp)
      have c2 : w4.cell? ⟨w3.heap.size, 2, none⟩ = some (.int .i64 (Z m 2)) := (hb4.cell (p := ⟨w3.heap.size, 2, none⟩) (by simp)).trans (by simp)
      have c3 : w4.cell? ⟨w3.heap.size, 3, none⟩ = some (.int .i64 (Z m 3)) := (hb4.cell (p := ⟨w3.heap.size, 3, none⟩) (by simp)).trans (by simp)
      have c4 : w4.cell? ⟨w3.heap.size, 4, none⟩ = some (.int .i64 (Z m 4)) := (hb4.cell (p := ⟨w3.heap.size, 4, none⟩) (by simp)).trans (by simp)
      clear H3' hb4 B3 hc4 hsA
      go_wp2_with fail
      refine (find_impl_yes z _ 0 n n m Z hn' _ hs4 hzw HF.out HC4.out HW.out).mono ?_
      rintro e w5 ⟨rfl, hb5⟩
      have s43 : w3.heap.size < w4.heap.size := by omega
      replace c0 := (hb5.cell (p := ⟨w3.heap.size, 0, none⟩) s43).trans c0
      replace c1 := (hb5.cell (p := ⟨w3.heap.size, 1, none⟩) s43).trans c1
      replace c2 := (hb5.cell (p := ⟨w3.heap.size, 2, none⟩) s43).trans c2
      replace c3 := (hb5.cell (p := ⟨w3.heap.size, 3, none⟩) s43).trans c3
      replace c4 := (hb5.cell (p := ⟨w3.heap.size, 4, none⟩) s43).trans c4
      have B5 := bthen B4 hb5
      have H5 : Hid (Row5 w5 a n Z) := row_below (B := 0) H4.out hb5
      have HC5 : Hid (∀ k j, k < n → j < 5 → w5.cell? ⟨w3.heap.size + 1, 0 + k * 5 + j, none⟩ = some (.int .i64 (Z k j))) := cells_below HC4.out hs4 hb5
      have s53 : w3.heap.size < w5.heap.size := Nat.lt_of_lt_of_le s43 hb5.size
      have hs5 : w3.heap.size + 1 < w5.heap.size := Nat.lt_of_lt_of_le hs4 hb5.size
      clear H4 hb5 B4 HC4 hs4 s43
      go_wp2_with fail
      refine (eqWalker _ _ _ _ _ _).mono ?_
      rintro e w6 ⟨rfl, hb6⟩
      have hb56 : Below w5.heap.size w5 w6 := bthen ((Below.refl _ _).alloc (Nat.le_refl _) _) hb6
      have B6 := bthen B5 hb56
      have H6 : Hid (Row5 w6 a n Z) := row_below (B := 0) H5.out hb56
      have HC6 : Hid (∀ k j, k < n → j < 5 → w6.cell? ⟨w3.heap.size + 1, 0 + k * 5 + j, none⟩ = some (.int .i64 (Z k j))) := cells_below HC5.out hs5 hb56
      have hs6 : w3.heap.size + 1 < w6.heap.size := Nat.lt_of_lt_of_le hs5 hb56.size
      clear H5 hb6 hb56 B5 HC5 hs5 c0 c1 c2 c3 c4
      go_wp2_with fail
      refine (toList_any a n cap Z hn' _ H6.out).mono ?_
      rintro e w7 ⟨rfl, hc7, hs7, hb7⟩
      have HD7 : Hid (∀ k j, k < n → j < 5 → w7.cell? ⟨w6.heap.size, 0 + k * 5 + j, none⟩ = some (.int .i64 (Z k j))) := hc7
      have HC7 : Hid (∀ k j, k < n → j < 5 → w7.cell? ⟨w3.heap.size + 1, 0 + k * 5 + j, none⟩ = some (.int .i64 (Z k j))) := cells_below HC6.out hs6 hb7
      have hs7' : w3.heap.size + 1 < w7.heap.size := Nat.lt_of_lt_of_le hs6 hb7.size
      have B7 := bthen B6 hb7
      clear H6 hb7 B6 HC6 hs6 hc7
      go_wp2_with fail
      refine (eqList (w3.heap.size + 1) 0 n w6.heap.size 0 n n Z hn' _ hs7' hs7 HC7.out HD7.out).mono ?_
      rintro e w8 ⟨rfl, hb8⟩
      have B8 := bthen B7 hb8
      clear hb8 B7 HC7 HD7
      go_wp2
      go_ret
      exact ⟨rfl, B8⟩
  · go_enter Try.func3, Try.ntmps3
    go_wp2_with fail
    refine (szList a n cap hm' _).mono ?_
    rintro e w1 ⟨rfl, hb1⟩
    rw [if_neg (by omega)]
    go_wp2
    go_ret
    exact ⟨rfl, hb1⟩
end Go.Proofs.Ytflgffmoccakcaa
