/- The comparison of two lists of walkers that are the same, and the law FnExactWlkListOk: it answers true; conditions: the list lies in memory as a row of structs of five integers. -/
import Derived.Test.YthoeecgcmoibdaaListOk2
import Derived.Test.YthoeecgcmoibdaaOpen
namespace Go.Proofs.Ythoeecgcmoibdaa
open Go.RowKit Go.Deep
set_option linter.unusedVariables false

set_option maxHeartbeats 8000000 in
theorem eqList (b1 o1 cap1 b2 o2 cap2 n : Nat) (Z : Nat → Nat → Int) (hn : n ≤ 1048576) (w : World) (hb1 : b1 < w.heap.size) (hb2 : b2 < w.heap.size)
    (h1 : ∀ k j, k < n → j < 5 → w.cell? ⟨b1, o1 + k * 5 + j, none⟩ = some (.int .i64 (Z k j))) (h2 : ∀ k j, k < n → j < 5 → w.cell? ⟨b2, o2 + k * 5 + j, none⟩ = some (.int .i64 (Z k j))) :
    Calls Try.prog 9 #[.slice (some ⟨b1, o1, none⟩) n cap1, .slice (some ⟨b2, o2, none⟩) n cap2] w fun e w' => e = .returned (.bool true) ∧ Below w.heap.size w w' := by
  have H1 : Hid (∀ k j, k < n → j < 5 → w.cell? ⟨b1, o1 + k * 5 + j, none⟩ = some (.int .i64 (Z k j))) := h1
  have H2 : Hid (∀ k j, k < n → j < 5 → w.cell? ⟨b2, o2 + k * 5 + j, none⟩ = some (.int .i64 (Z k j))) := h2
  clear h1 h2
  go_enter Try.func9, Try.ntmps9
  go_wp2
  go_loopw [5] (fun i wr => ∃ k : Nat, k ≤ n ∧ i = .int .i64 k ∧ ((∀ b o, b < w.heap.size → wr.cell? ⟨b, o, none⟩ = w.cell? ⟨b, o, none⟩) ∧ w.heap.size ≤ wr.heap.size) ∧ Below w.heap.size w wr) (fun i _ => n - (intOf i).toNat)
  case atStart => exact ⟨0, Nat.zero_le _, rfl, ⟨fun _ _ _ => rfl, Nat.le_refl _⟩, Below.refl _ _⟩
  case round =>
    obtain ⟨k, hk, rfl, HS, BR⟩ := hrel
    by_cases hkn : k < n
    · have c10 : w.cell? ⟨b1, o1 + k * 5, none⟩ = some (.int .i64 (Z k 0)) := H1.out k 0 hkn (by omega)
      have c11 : w.cell? ⟨b1, o1 + k * 5 + 1, none⟩ = some (.int .i64 (Z k 1)) := H1.out k 1 hkn (by omega)
      have c12 : w.cell? ⟨b1, o1 + k * 5 + 2, none⟩ = some (.int .i64 (Z k 2)) := H1.out k 2 hkn (by omega)
      have c13 : w.cell? ⟨b1, o1 + k * 5 + 3, none⟩ = some (.int .i64 (Z k 3)) := H1.out k 3 hkn (by omega)
      have c14 : w.cell? ⟨b1, o1 + k * 5 + 4, none⟩ = some (.int .i64 (Z k 4)) := H1.out k 4 hkn (by omega)
      have c20 : w.cell? ⟨b2, o2 + k * 5, none⟩ = some (.int .i64 (Z k 0)) := H2.out k 0 hkn (by omega)
      have c21 : w.cell? ⟨b2, o2 + k * 5 + 1, none⟩ = some (.int .i64 (Z k 1)) := H2.out k 1 hkn (by omega)
      have c22 : w.cell? ⟨b2, o2 + k * 5 + 2, none⟩ = some (.int .i64 (Z k 2)) := H2.out k 2 hkn (by omega)
      have c23 : w.cell? ⟨b2, o2 + k * 5 + 3, none⟩ = some (.int .i64 (Z k 3)) := H2.out k 3 hkn (by omega)
      have c24 : w.cell? ⟨b2, o2 + k * 5 + 4, none⟩ = some (.int .i64 (Z k 4)) := H2.out k 4 hkn (by omega)
      go_wp2
      refine wp_region_held_drew (S := fun w' => (∀ b o, b < w.heap.size → w'.cell? ⟨b, o, none⟩ = w.cell? ⟨b, o, none⟩) ∧ w.heap.size ≤ w'.heap.size) (by kernel_rfl) HS ?_
      intro hHeld
      refine wpAnyH_take (i := 0) (v := .slice (some ⟨b1, o1, none⟩) n cap1) rfl (by kernel_rfl) (by kernel_rfl) (by kernel_rfl) (fun _ _ _ h => h) (Or.inl ⟨by rfl, ?_⟩) (by assumption) ?_
      · intro wx hSw; go_simp
      try simp only [Act.put, List.setIfInBounds_toArray, List.set_cons_zero, List.set_cons_succ, List.getElem_toArray, List.getElem_cons_zero]
      refine wpAnyH_take (i := 1) (v := .int .i64 (k : Int)) rfl (by kernel_rfl) (by kernel_rfl) (by kernel_rfl) (fun _ _ _ h => h) (Or.inl ⟨by rfl, ?_⟩) (by assumption) ?_
      · intro wx hSw; go_simp
      try simp only [Act.put, List.setIfInBounds_toArray, List.set_cons_zero, List.set_cons_succ, List.getElem_toArray, List.getElem_cons_zero, List.getElem_cons_succ]
      refine wpAnyH_take (i := 2) (v := .pointer (some ⟨b1, o1 + k * 5, none⟩)) rfl (by kernel_rfl) (by kernel_rfl) (by kernel_rfl) (fun _ _ _ h => h) (Or.inl ⟨by rfl, ?_⟩) (by assumption) ?_
      · intro wx hSw; go_simp
      try simp only [Act.put, List.setIfInBounds_toArray, List.set_cons_zero, List.set_cons_succ, List.getElem_toArray, List.getElem_cons_zero, List.getElem_cons_succ]
      refine wpAnyH_take (i := 3) (v := .agg #[.int .i64 (Z k 0), .int .i64 (Z k 1), .int .i64 (Z k 2), .int .i64 (Z k 3), .int .i64 (Z k 4)]) rfl (by kernel_rfl) (by kernel_rfl) (by kernel_rfl) (fun _ _ _ h => h) (Or.inl ⟨by rfl, ?_⟩) (by assumption) ?_
      · intro wx hSw; go_simp
      try simp only [Act.put, List.setIfInBounds_toArray, List.set_cons_zero, List.set_cons_succ, List.getElem_toArray, List.getElem_cons_zero, List.getElem_cons_succ]
      refine wpAnyH_take (i := 4) (v := .slice (some ⟨b2, o2, none⟩) n cap2) rfl (by kernel_rfl) (by kernel_rfl) (by kernel_rfl) (fun _ _ _ h => h) (Or.inl ⟨by rfl, ?_⟩) (by assumption) ?_
      · intro wx hSw; go_simp
      try simp only [Act.put, List.setIfInBounds_toArray, List.set_cons_zero, List.set_cons_succ, List.getElem_toArray, List.getElem_cons_zero, List.getElem_cons_succ]
      refine wpAnyH_take (i := 5) (v := .int .i64 (k : Int)) rfl (by kernel_rfl) (by kernel_rfl) (by kernel_rfl) (fun _ _ _ h => h) (Or.inl ⟨by rfl, ?_⟩) (by assumption) ?_
      · intro wx hSw; go_simp
      try simp only [Act.put, List.setIfInBounds_toArray, List.set_cons_zero, List.set_cons_succ, List.getElem_toArray, List.getElem_cons_zero, List.getElem_cons_succ]
      refine wpAnyH_take (i := 6) (v := .pointer (some ⟨b2, o2 + k * 5, none⟩)) rfl (by kernel_rfl) (by kernel_rfl) (by kernel_rfl) (fun _ _ _ h => h) (Or.inl ⟨by rfl, ?_⟩) (by assumption) ?_
      · intro wx hSw; go_simp
      try simp only [Act.put, List.setIfInBounds_toArray, List.set_cons_zero, List.set_cons_succ, List.getElem_toArray, List.getElem_cons_zero, List.getElem_cons_succ]
      refine wpAnyH_take (i := 7) (v := .agg #[.int .i64 (Z k 0), .int .i64 (Z k 1), .int .i64 (Z k 2), .int .i64 (Z k 3), .int .i64 (Z k 4)]) rfl (by kernel_rfl) (by kernel_rfl) (by kernel_rfl) (fun _ _ _ h => h) (Or.inl ⟨by rfl, ?_⟩) (by assumption) ?_
      · intro wx hSw; go_simp
      try simp only [Act.put, List.setIfInBounds_toArray, List.set_cons_zero, List.set_cons_succ, List.getElem_toArray, List.getElem_cons_zero, List.getElem_cons_succ]
      refine wpAnyH_ready (rs := [8]) (by kernel_rfl) (by simp) ?_
      refine AllReadyH.cons rfl (fun K hK => ?_) AllReadyH.nil
      go_simp
      go_wp2_with (go_at_call 13; refine (eqWalker _ _ _ _ _ _).mono ?_; rintro e w2 ⟨rfl, hbw2⟩)
      refine hK.out _ _ (keepS (by assumption) hbw2) (fun hHeld => ?_)
      clear hK K
      try simp only [Act.put, List.setIfInBounds_toArray, List.set_cons_zero, List.set_cons_succ, List.getElem_toArray, List.getElem_cons_zero, List.getElem_cons_succ]
      refine wpAnyH_take (i := 9) (v := .bool false) rfl (by kernel_rfl) (by kernel_rfl) (by kernel_rfl) (fun _ _ _ h => h) (Or.inl ⟨by rfl, ?_⟩) (by assumption) ?_
      · intro wx hSw; go_simp
      try simp only [Act.put, List.setIfInBounds_toArray, List.set_cons_zero, List.set_cons_succ, List.getElem_toArray, List.getElem_cons_zero, List.getElem_cons_succ]
      refine wpAnyH_done (by kernel_rfl) ?_ _
      go_wp2
      go_roundw
      case rel => exact ⟨k + 1, by omega, by go_num, by assumption, by repeat (first | exact BR | refine bthen ?_ (by assumption) | apply Below.drew)⟩
      case measure => simp [intOf]; omega
    · have : k = n := by omega
      subst this
      go_wp2
      go_ret
      exact ⟨rfl, by repeat (first | exact BR | refine bthen ?_ (by assumption) | apply Below.drew)⟩

theorem own_row {w : World} {B n : Nat} {Z : Nat → Nat → Int} (h : Own5 w B n Z n) : ∀ k j, k < n → j < 5 → w.cell? ⟨B, 0 + k * 5 + j, none⟩ = some (.int .i64 (Z k j)) := fun k j hk hj => by
  rw [Nat.zero_add]; exact h.2 k j hk hj

theorem toList_any (a : Option Addr) (n cap : Nat) (Z : Nat → Nat → Int) (hn : n ≤ 1048576) (w : World) (h : Row5 w a n Z) :
    Calls Try.prog 7 #[.slice a n cap] w fun e w' => e = .returned (.slice (some ⟨w.heap.size, 0, none⟩) n n) ∧ (∀ k j, k < n → j < 5 → w'.cell? ⟨w.heap.size, 0 + k * 5 + j, none⟩ = some (.int .i64 (Z k j))) ∧ w.heap.size < w'.heap.size ∧ Below w.heap.size w w' := by
  rcases h with rfl | ⟨b, o, rfl, hb, hr⟩
  · refine (toList0 a cap Z w).mono ?_
    rintro e w' ⟨he, ho, hs, hb⟩
    exact ⟨he, own_row ho, hs, hb⟩
  · refine (toList b o n cap Z hn w hb hr).mono ?_
    rintro e w' ⟨he, ho, hs, hb⟩
    exact ⟨he, own_row ho, hs, hb⟩

theorem row_below {w w' : World} {B : Nat} {a : Option Addr} {n : Nat} {Z : Nat → Nat → Int} (h : Row5 w a n Z) (hb : Below w.heap.size w w') : Row5 w' a n Z := by
  rcases h with rfl | ⟨b, o, rfl, hlt, hr⟩
  · exact .inl rfl
  · exact .inr ⟨b, o, rfl, Nat.lt_of_lt_of_le hlt hb.size, fun k j hk hj => (hb.cell (p := ⟨b, _, none⟩) hlt).trans (hr k j hk hj)⟩

theorem cells_below {w w' : World} {b o n : Nat} {Z : Nat → Nat → Int} (h : ∀ k j, k < n → j < 5 → w.cell? ⟨b, o + k * 5 + j, none⟩ = some (.int .i64 (Z k j))) (hlt : b < w.heap.size) (hb : Below w.heap.size w w') :
    ∀ k j, k < n → j < 5 → w'.cell? ⟨b, o + k * 5 + j, none⟩ = some (.int .i64 (Z k j)) := fun k j hk hj => (hb.cell (p := ⟨b, _, none⟩) hlt).trans (h k j hk hj)

set_option maxHeartbeats 2000000 in
theorem law_listOk (c d : Int) (a : Option Addr) (n cap : Nat) (Z : Nat → Nat → Int) (hm : n ≤ maxLen) (w : World) (h : Row5 w a n Z) :
    Calls Try.prog 3 #[.agg #[.int .i64 c, .int .i64 d], .slice a n cap] w fun e w' => e = .returned (.bool true) ∧ Below w.heap.size w w' := by
  have H : Hid (Row5 w a n Z) := h
  clear h
  have hm' : (n : Int) ≤ 9223372036854775807 := by unfold maxLen at hm; omega
  clear hm
  by_cases hn : (n : Int) ≤ 1048576
  · go_enter Try.func3, Try.ntmps3
    go_wp2_with fail
    refine (szList a n cap hm' _).mono ?_
    rintro e w1 ⟨rfl, hb1⟩
    rw [if_pos hn]
    have hn' : n ≤ 1048576 := by omega
    have B1 : Below w.heap.size w w1 := bthen ((Below.refl _ _).alloc (by simp) _) hb1
    have H1 : Hid (Row5 w1 a n Z) := row_below (B := 0) H.out B1
    have m0 : w1.cell? ⟨w.heap.size, 0, none⟩ = some (.int .i64 c) := (hb1.cell (p := ⟨w.heap.size, 0, none⟩) (by simp)).trans (by simp)
    have m1 : w1.cell? ⟨w.heap.size, 1, none⟩ = some (.int .i64 d) := (hb1.cell (p := ⟨w.heap.size, 1, none⟩) (by simp)).trans (by simp)
    have s1 : w.heap.size < w1.heap.size := by have := hb1.size; simp at this; omega
    clear H hb1
    go_wp2_with fail
    refine (toMap _ _ _).mono ?_
    rintro e w2 ⟨rfl, hb2⟩
    have B2 := bthen B1 hb2
    have H2 : Hid (Row5 w2 a n Z) := row_below (B := 0) H1.out hb2
    replace m0 := (hb2.cell (p := ⟨w.heap.size, 0, none⟩) s1).trans m0
    replace m1 := (hb2.cell (p := ⟨w.heap.size, 1, none⟩) s1).trans m1
    have s2 : w.heap.size < w2.heap.size := Nat.lt_of_lt_of_le s1 hb2.size
    clear H1 hb2 B1 s1
    go_wp2_with fail
    refine (toList_any a n cap Z hn' _ H2.out).mono ?_
    rintro e w3 ⟨rfl, hc3, hs3, hb3⟩
    have HC3 := hc3
    have B3 := bthen B2 hb3
    have H3 : Hid (Row5 w3 a n Z) := row_below (B := 0) H2.out hb3
    replace m0 := (hb3.cell (p := ⟨w.heap.size, 0, none⟩) s2).trans m0
    replace m1 := (hb3.cell (p := ⟨w.heap.size, 1, none⟩) s2).trans m1
    have s3 : w.heap.size < w3.heap.size := Nat.lt_of_lt_of_le s2 hb3.size
    have HC : Hid (∀ k j, k < n → j < 5 → w3.cell? ⟨w2.heap.size, 0 + k * 5 + j, none⟩ = some (.int .i64 (Z k j))) := hc3
    clear H2 hb3 B2 hc3 HC3
    go_wp2_with fail
    refine (listOk_spec c d w2.heap.size 0 n n Z hn' _ hs3 HC.out).mono ?_
    rintro e w4 ⟨rfl, hb4⟩
    have B4 := bthen B3 hb4
    have H4 : Hid (Row5 w4 a n Z) := row_below (B := 0) H3.out hb4
    replace m0 := (hb4.cell (p := ⟨w.heap.size, 0, none⟩) s3).trans m0
    replace m1 := (hb4.cell (p := ⟨w.heap.size, 1, none⟩) s3).trans m1
    have s4 : w.heap.size < w4.heap.size := Nat.lt_of_lt_of_le s3 hb4.size
    clear H3 hb4 B3 HC hs3 s2 s3
    go_wp2_with fail
    refine (toList_any a n cap Z hn' _ H4.out).mono ?_
    rintro e w5 ⟨rfl, hc5, hs5, hb5⟩
    have B5 := bthen B4 hb5
    have H5 : Hid (Row5 w5 a n Z) := row_below (B := 0) H4.out hb5
    replace m0 := (hb5.cell (p := ⟨w.heap.size, 0, none⟩) s4).trans m0
    replace m1 := (hb5.cell (p := ⟨w.heap.size, 1, none⟩) s4).trans m1
    have HC5 : Hid (∀ k j, k < n → j < 5 → w5.cell? ⟨w4.heap.size, 0 + k * 5 + j, none⟩ = some (.int .i64 (Z k j))) := hc5
    clear H4 hb5 B4 hc5
    go_wp2_with fail
    refine (toMap _ _ _).mono ?_
    rintro e w6 ⟨rfl, hb6⟩
    have B6 := bthen B5 hb6
    have H6 : Hid (Row5 w6 a n Z) := row_below (B := 0) H5.out hb6
    have HC6 : Hid (∀ k j, k < n → j < 5 → w6.cell? ⟨w4.heap.size, 0 + k * 5 + j, none⟩ = some (.int .i64 (Z k j))) := cells_below HC5.out hs5 hb6
    have hs6 : w4.heap.size < w6.heap.size := Nat.lt_of_lt_of_le hs5 hb6.size
    clear H5 hb6 B5 HC5 hs5 m0 m1
    go_wp2_with fail
    refine (listOk_impl c d w4.heap.size 0 n n Z hn' _ hs6 HC6.out).mono ?_
    rintro e w7 ⟨rfl, hb7⟩
    have B7 := bthen B6 hb7
    have H7 : Hid (Row5 w7 a n Z) := row_below (B := 0) H6.out hb7
    have HC7 : Hid (∀ k j, k < n → j < 5 → w7.cell? ⟨w4.heap.size, 0 + k * 5 + j, none⟩ = some (.int .i64 (Z k j))) := cells_below HC6.out hs6 hb7
    have hs7 : w4.heap.size < w7.heap.size := Nat.lt_of_lt_of_le hs6 hb7.size
    clear H6 hb7 B6 HC6 hs6
    go_wp2_with fail
    refine (toList_any a n cap Z hn' _ H7.out).mono ?_
    rintro e w8 ⟨rfl, hc8, hs8, hb8⟩
    have B8 := bthen B7 hb8
    have HC8 : Hid (∀ k j, k < n → j < 5 → w8.cell? ⟨w4.heap.size, 0 + k * 5 + j, none⟩ = some (.int .i64 (Z k j))) := cells_below HC7.out hs7 hb8
    have HD8 : Hid (∀ k j, k < n → j < 5 → w8.cell? ⟨w7.heap.size, 0 + k * 5 + j, none⟩ = some (.int .i64 (Z k j))) := hc8
    have hs8' : w4.heap.size < w8.heap.size := Nat.lt_of_lt_of_le hs7 hb8.size
    clear H7 hb8 B7 HC7 hs7 hc8
    go_wp2_with fail
    refine (eqList w4.heap.size 0 n w7.heap.size 0 n n Z hn' _ hs8' hs8 HC8.out HD8.out).mono ?_
    rintro e w9 ⟨rfl, hb9⟩
    have B9 := bthen B8 hb9
    clear hb9 B8 HC8 HD8
    go_wp2
    go_ret
    exact ⟨rfl, B9⟩
  · go_enter Try.func3, Try.ntmps3
    go_wp2_with fail
    refine (szList a n cap hm' _).mono ?_
    rintro e w1 ⟨rfl, hb1⟩
    rw [if_neg (by omega)]
    go_wp2
    go_ret
    exact ⟨rfl, bthen ((Below.refl _ _).alloc (by simp) _) hb1⟩
end Go.Proofs.Ythoeecgcmoibdaa
