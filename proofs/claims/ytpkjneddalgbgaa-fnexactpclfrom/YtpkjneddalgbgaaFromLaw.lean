/- The walk of the law FnExactPclFrom: it answers true; conditions: the list lies in memory as a row of structs of eight integers. -/
import Derived.Test.YtpkjneddalgbgaaMark8
namespace Go.Proofs.Ytpkjneddalgbgaa
open Go.RowKit Go.Deep
set_option linter.unusedVariables false

theorem toList_own (a : Option Addr) (n cap : Nat) (Z : Nat → Nat → Int) (hn : n ≤ 1048576) (w : World) (h : Row8 w a n Z) :
    Calls Try.prog 23 #[.slice a n cap] w fun e w' => e = .returned (.slice (some ⟨w.heap.size, 0, none⟩) n n) ∧ Own8 w' w.heap.size n Z n ∧ w.heap.size < w'.heap.size ∧ Below w.heap.size w w' := by
  rcases h with rfl | ⟨b, o, rfl, hb, hr⟩
  · exact toList0 a cap Z w
  · exact toList b o n cap Z hn w hb hr

theorem M_pos (n : Nat) : ¬ M n 0 < 0 := by unfold M; omega

theorem markOwn (B n cap : Nat) (Z : Nat → Nat → Int) (hn : n ≤ 2000000) (w : World) (hB : B < w.heap.size) (h : Own8 w B n Z n) :
    Calls Try.prog 25 #[.slice (some ⟨B, 0, none⟩) n cap, .int .i64 1] w fun e w' => e = .returned (.int .i64 (M n 0)) ∧ Own8 w' B n M n ∧ w.grownBy w' (some B) ∧ w'.heap.size = w.heap.size := mark B n cap Z hn w hB h

/-- A slice of the call's own that bears marks. -/
def Marked (w : World) (base : Nat) (v : Value) (N : Nat) : Prop := (N = 0 ∧ ∃ a c, v = .slice a 0 c) ∨ ∃ g cap, v = .slice (some ⟨g, 0, none⟩) N cap ∧ base ≤ g ∧ g < w.heap.size ∧ Own8 w g N M N
theorem Marked.below {w w' : World} {base : Nat} {v : Value} {N : Nat} (h : Marked w base v N) (hb : Below w.heap.size w w') : Marked w' base v N := by
  rcases h with h | ⟨g, cap, hv, h1, h2, h3⟩
  · exact .inl h
  · exact .inr ⟨g, cap, hv, h1, Nat.lt_of_lt_of_le h2 hb.size, own_below h3 h2 hb⟩

theorem markWalks {base : Nat} {v : Value} {L : List Nat} {Z : Nat → Nat → Int} {w : World} (h : Walks w base v L Z) (hL : L.length ≤ 2000000) :
    Calls Try.prog 25 #[v, .int .i64 1] w fun e w' => e = .returned (.int .i64 (M L.length 0)) ∧ Marked w' base v L.length ∧ w.grownBy w' v.ownBlock ∧ w'.heap.size = w.heap.size := by
  rcases h.own with ⟨hl, a, c, rfl⟩ | ⟨g, cap, rfl, hb, hl, ho⟩
  · refine (mark0 a c w).mono ?_
    rintro e w' ⟨rfl, rfl⟩
    exact ⟨by rw [hl], .inl ⟨hl, a, c, rfl⟩, World.grownBy.refl _ _, rfl⟩
  · refine (mark g L.length cap _ hL w hl ho).mono ?_
    rintro e w' ⟨rfl, h1, h2, h3⟩
    exact ⟨rfl, .inr ⟨g, cap, rfl, hb, by omega, h1⟩, h2, h3⟩

theorem heldMarked {base : Nat} {v : Value} {N : Nat} {w : World} (h : Marked w base v N) (hN : N ≤ 2000000) :
    Calls Try.prog 26 #[v, .int .i64 1] w fun e w' => e = .returned (.int .i64 (M N 0)) ∧ Below w.heap.size w w' := by
  rcases h with ⟨rfl, a, c, rfl⟩ | ⟨g, cap, rfl, hb, hl, ho⟩
  · exact held0 a c w
  · exact held g N cap hN w hl ho

set_option maxRecDepth 20000 in
set_option maxHeartbeats 4000000 in
theorem law_from (z : Int) (a : Option Addr) (n cap : Nat) (Z : Nat → Nat → Int) (hm : n ≤ maxLen) (w : World) (h : Row8 w a n Z) :
    Calls Try.prog 7 #[.slice a n cap, .int .i64 z] w fun e w' => e = .returned (.bool true) ∧ Below w.heap.size w w' := by
  have H : Hid (Row8 w a n Z) := h
  clear h
  have hm' : (n : Int) ≤ 9223372036854775807 := by unfold maxLen at hm; omega
  clear hm
  by_cases hn : (n : Int) ≤ 1048576
  · have hn' : n ≤ 1048576 := by omega
    have hL : (rest Z n z).length ≤ 2000000 := Nat.le_trans (rest_len Z n z) (by omega)
    have HL : Hid ((rest Z n z).length ≤ 2000000) := hL
    have hn2 : n ≤ 2000000 := by omega
    have p1 := M_pos n
    have p2 := M_pos (rest Z n z).length
    clear hL
    go_enter Try.func7, Try.ntmps7
    go_wp2_with fail
    refine (szList a n cap hm' _).mono ?_
    rintro e w1 ⟨rfl, hb1⟩
    rw [if_pos hn]
    have B1 : Below w.heap.size w w1 := hb1
    clear hb1
    go_wp2_with fail
    refine (toList_any a n cap Z hn' _ (row_below (B := 0) H.out B1)).mono ?_
    rintro e w2 ⟨rfl, hc2, hs2, hb2⟩
    have HC2 : Hid (∀ k j, k < n → j < 8 → w2.cell? ⟨w1.heap.size, 0 + k * 8 + j, none⟩ = some (.int .i64 (Z k j))) := hc2
    have B2 := bthen B1 hb2
    clear hb2 B1 hc2
    go_wp2_with fail
    refine (from_spec z _ 0 n n Z hn' _ hs2 HC2.out).mono ?_
    rintro e w3 ⟨vs, rfl, hv3, hb3⟩
    have HV3 : Hid (Walks w3 w2.heap.size vs (rest Z n z) Z) := hv3
    have B3 := bthen B2 hb3
    have s3 : w.heap.size ≤ w3.heap.size := B3.size
    have HNS : Hid (vs.ownBlock = none ∨ vs.ownBlock ≠ some w3.heap.size) := by
      refine .inr fun e => ?_
      have := World.ownsRow.lt hv3 _ e
      omega
    clear hb3 B2 HC2 hs2 hv3
    go_wp2_with fail
    refine (toList_own a n cap Z hn' _ (row_below (B := 0) H.out B3)).mono ?_
    rintro e w4 ⟨rfl, hc4, hs4, hb4⟩
    have X4 : Hid (Own8 w4 w3.heap.size n Z n) := hc4
    have HV4 : Hid (Walks w4 w2.heap.size vs (rest Z n z) Z) := HV3.out.below hb4
    have B4 := bthen B3 hb4
    clear hb4 B3 hc4 HV3
    go_wp2_with fail
    refine (from_impl z _ 0 n n Z hn' _ hs4 (own_row X4.out)).mono ?_
    rintro e w5 ⟨vi, rfl, hv5, hb5⟩
    have HI5 : Hid (Walks w5 w4.heap.size vi (rest Z n z) Z) := hv5
    have HV5 : Hid (Walks w5 w2.heap.size vs (rest Z n z) Z) := HV4.out.below hb5
    have X5 : Hid (Own8 w5 w3.heap.size n Z n) := own_below X4.out hs4 hb5
    have HNI : Hid ((vi.ownBlock = none ∨ vi.ownBlock ≠ some w3.heap.size) ∧ (vs.ownBlock = none ∨ vs.ownBlock ≠ vi.ownBlock)) := by
      refine ⟨.inr fun e => ?_, ?_⟩
      · have := World.ownsRow.lt hv5 _ e
        omega
      · cases e : vs.ownBlock with
        | none => exact .inl rfl
        | some g =>
          refine .inr fun e2 => ?_
          have h1 := World.ownsRow.lt HV4.out _ e
          have h2 := World.ownsRow.lt hv5 _ e2.symm
          omega
    have hs5 : w3.heap.size < w5.heap.size := Nat.lt_of_lt_of_le hs4 hb5.size
    have B5 := bthen B4 hb5
    have s4 : w.heap.size ≤ w4.heap.size := B4.size
    clear hb5 B4 hv5 HV4 X4
    go_wp2_with fail
    refine (eqWalks HI5.out HV5.out HL.out).mono ?_
    rintro e w6 ⟨rfl, hb6⟩
    have HI6 : Hid (Walks w6 w4.heap.size vi (rest Z n z) Z) := HI5.out.below hb6
    have HV6 : Hid (Walks w6 w2.heap.size vs (rest Z n z) Z) := HV5.out.below hb6
    have X6 : Hid (Own8 w6 w3.heap.size n Z n) := own_below X5.out hs5 hb6
    have hs6 : w3.heap.size < w6.heap.size := Nat.lt_of_lt_of_le hs5 hb6.size
    have B6 := bthen B5 hb6
    clear hb6 B5 HI5 HV5 X5 hs5
    go_wp2_with fail
    refine (toList_any a n cap Z hn' _ (row_below (B := 0) H.out B6)).mono ?_
    rintro e w7 ⟨rfl, hc7, hs7, hb7⟩
    have HD7 : Hid (∀ k j, k < n → j < 8 → w7.cell? ⟨w6.heap.size, 0 + k * 8 + j, none⟩ = some (.int .i64 (Z k j))) := hc7
    have HI7 : Hid (Walks w7 w4.heap.size vi (rest Z n z) Z) := HI6.out.below hb7
    have HV7 : Hid (Walks w7 w2.heap.size vs (rest Z n z) Z) := HV6.out.below hb7
    have X7 : Hid (Own8 w7 w3.heap.size n Z n) := own_below X6.out hs6 hb7
    have hs7' : w3.heap.size < w7.heap.size := Nat.lt_of_lt_of_le hs6 hb7.size
    have B7 := bthen B6 hb7
    clear hb7 B6 HI6 HV6 X6 hs6 hc7
    go_wp2_with fail
    refine (eqList w3.heap.size 0 n w6.heap.size 0 n n Z hn2 _ hs7' hs7 (own_row X7.out) HD7.out).mono ?_
    rintro e w8 ⟨rfl, hb8⟩
    have HI8 : Hid (Walks w8 w4.heap.size vi (rest Z n z) Z) := HI7.out.below hb8
    have HV8 : Hid (Walks w8 w2.heap.size vs (rest Z n z) Z) := HV7.out.below hb8
    have X8 : Hid (Own8 w8 w3.heap.size n Z n) := own_below X7.out hs7' hb8
    have hs8 : w3.heap.size < w8.heap.size := Nat.lt_of_lt_of_le hs7' hb8.size
    have B8 := bthen B7 hb8
    clear hb8 B7 HI7 HV7 X7 hs7' hs7 HD7
    go_wp2_with fail
    refine (markOwn w3.heap.size n n Z hn2 _ hs8 X8.out).mono ?_
    rintro e w9 ⟨rfl, hmk, hg9, hz9⟩
    have HI9 : Hid (Walks w9 w4.heap.size vi (rest Z n z) Z) := HI8.out.kept hg9 HNI.out.1
    have HV9 : Hid (Walks w9 w2.heap.size vs (rest Z n z) Z) := HV8.out.kept hg9 HNS.out
    have b89 : Below w.heap.size w w9 := B8.grown hg9 (by omega) (fun k e => by cases e; exact s3)
    clear hmk hg9 X8 HI8 HV8 B8
    go_wp2_with fail
    refine (eqWalks HI9.out HV9.out HL.out).mono ?_
    rintro e w10 ⟨rfl, hb10⟩
    have HI10 : Hid (Walks w10 w4.heap.size vi (rest Z n z) Z) := HI9.out.below hb10
    have HV10 : Hid (Walks w10 w2.heap.size vs (rest Z n z) Z) := HV9.out.below hb10
    have B10 := bthen b89 hb10
    clear HI9 HV9 hb10 b89
    go_wp2_with fail
    refine (markWalks HI10.out HL.out).mono ?_
    rintro e w11 ⟨rfl, hmk, hg11, hz11⟩
    have HM11 : Hid (Marked w11 w4.heap.size vi (rest Z n z).length) := hmk
    have HV11 : Hid (Walks w11 w2.heap.size vs (rest Z n z) Z) := HV10.out.kept hg11 HNI.out.2
    have B11 : Below w.heap.size w w11 := B10.grown hg11 B10.size (fun k e => Nat.le_trans s4 (World.ownsRow.lt HI10.out k e).1)
    clear hmk hg11 HI10 HV10 B10
    go_wp2_with fail
    refine (heldMarked HM11.out HL.out).mono ?_
    rintro e w12 ⟨rfl, hb12⟩
    have HM12 : Hid (Marked w12 w4.heap.size vi (rest Z n z).length) := HM11.out.below hb12
    have HV12 : Hid (Walks w12 w2.heap.size vs (rest Z n z) Z) := HV11.out.below hb12
    have B12 := bthen B11 hb12
    clear HM11 HV11 hb12 B11
    go_wp2_with fail
    refine (toList_own a n cap Z hn' _ (row_below (B := 0) H.out B12)).mono ?_
    rintro e w13 ⟨rfl, hc13, hs13, hb13⟩
    have X13 : Hid (Own8 w13 w12.heap.size n Z n) := hc13
    have HM13 : Hid (Marked w13 w4.heap.size vi (rest Z n z).length) := HM12.out.below hb13
    have HV13 : Hid (Walks w13 w2.heap.size vs (rest Z n z) Z) := HV12.out.below hb13
    have B13 := bthen B12 hb13
    clear HM12 HV12 hb13 B12 hc13
    go_wp2_with fail
    refine (from_impl z _ 0 n n Z hn' _ hs13 (own_row X13.out)).mono ?_
    rintro e w14 ⟨vr, rfl, hv14, hb14⟩
    have HR14 : Hid (Walks w14 w13.heap.size vr (rest Z n z) Z) := hv14
    have HM14 : Hid (Marked w14 w4.heap.size vi (rest Z n z).length) := HM13.out.below hb14
    have HV14 : Hid (Walks w14 w2.heap.size vs (rest Z n z) Z) := HV13.out.below hb14
    have B14 := bthen B13 hb14
    clear HM13 HV13 hb14 B13 hv14 X13 hs13
    go_wp2_with fail
    refine (eqWalks HR14.out HV14.out HL.out).mono ?_
    rintro e w15 ⟨rfl, hb15⟩
    have HM15 : Hid (Marked w15 w4.heap.size vi (rest Z n z).length) := HM14.out.below hb15
    have B15 := bthen B14 hb15
    clear HM14 HV14 HR14 hb15 B14
    go_wp2_with fail
    refine (heldMarked HM15.out HL.out).mono ?_
    rintro e w16 ⟨rfl, hb16⟩
    have B16 := bthen B15 hb16
    clear HM15 hb16 B15
    go_wp2
    go_ret
    exact ⟨rfl, B16⟩
  · go_enter Try.func7, Try.ntmps7
    go_wp2_with fail
    refine (szList a n cap hm' _).mono ?_
    rintro e w1 ⟨rfl, hb1⟩
    rw [if_neg (by omega)]
    go_wp2
    go_ret
    exact ⟨rfl, hb1⟩
end Go.Proofs.Ytpkjneddalgbgaa
