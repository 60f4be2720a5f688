/- The law FnExactGwyNew; conditions: those typed. -/
import Derived.Test.YtgjapdjidighlaaGN3
import Derived.Test.YtgjapdjidighlaaGB4
import Derived.Test.YtgjapdjidighlaaLaw
namespace Go.Proofs.Ytgjapdjidighlaa
open Go.RowKit Go.Deep
set_option linter.unusedVariables false

/-- The marks. -/
def M (k j : Nat) : Int := ((1 + k * 5 + j : Nat) : Int)

theorem own_grown {w w' : World} {B n k : Nat} {Z : Nat → Nat → Int} {row : Option Nat} (h : Own5 w B n Z k) (hB : B < w.heap.size) (hg : w.grownBy w' row) (hne : some B ≠ row) : Own5 w' B n Z k := by
  have e : w'.heap[B]? = w.heap[B]? := hg.block B hB hne
  refine ⟨fun i hi => ?_, fun k' j hk hj => ?_⟩
  · rw [World.cell?_of_block (a := ⟨B, i, none⟩) e, World.frozen?_of_block (a := ⟨B, i, none⟩) e]; exact h.1 i hi
  · rw [World.cell?_of_block (a := ⟨B, k' * 5 + j, none⟩) e]; exact h.2 k' j hk hj

theorem put5_grown (w : World) (B k : Nat) (Z : Nat → Nat → Int) : w.grownBy (put5 w B k Z) (some B) ∧ (put5 w B k Z).heap.size = w.heap.size := by
  unfold put5
  refine ⟨((((set_grown _ _ _ _).1.trans (set_grown _ _ _ _).1).trans (set_grown _ _ _ _).1).trans (set_grown _ _ _ _).1).trans (set_grown _ _ _ _).1, ?_⟩
  rw [(set_grown _ _ _ _).2, (set_grown _ _ _ _).2, (set_grown _ _ _ _).2, (set_grown _ _ _ _).2, (set_grown _ _ _ _).2]

set_option maxRecDepth 20000 in
set_option maxHeartbeats 1000000 in
theorem mark (B n cap : Nat) (Z : Nat → Nat → Int) (hn : n ≤ 2000000) (w : World) (hB : B < w.heap.size) (h : Own5 w B n Z n) :
    Calls Try.prog 14 #[.slice (some ⟨B, 0, none⟩) n cap, .int .i64 1] w fun e w' => e = .returned (.int .i64 ((1 + n * 5 : Nat) : Int)) ∧ Own5 w' B n M n ∧ w.grownBy w' (some B) ∧ w'.heap.size = w.heap.size := by
  have H0 : Hid (Own5 w B n M 0) := ⟨h.1, fun _ _ h => absurd h (by omega)⟩
  clear h
  go_enter Try.func14, Try.ntmps14
  go_wp2
  go_loopw [1, 5] (fun c i wr => ∃ k : Nat, k ≤ n ∧ .int .i64 k = i ∧ .int .i64 (M k 0) = c ∧ Own5 wr B n M k ∧ w.grownBy wr (some B) ∧ wr.heap.size = w.heap.size) (fun _ i _ => n - (intOf i).toNat)
  case atStart => exact ⟨0, Nat.zero_le _, rfl, rfl, H0.out, World.grownBy.refl _ _, rfl⟩
  case round =>
    obtain ⟨k, hk, rfl, rfl, hown, hg, hsz⟩ := hrel
    by_cases hkn : k < n
    · have hkn' : (k : Int) < (n : Int) := by omega
      obtain ⟨⟨v0, d0⟩, f0⟩ := own_cell hown hkn 0 (by omega)
      obtain ⟨⟨v1, d1⟩, f1⟩ := own_cell hown hkn 1 (by omega)
      obtain ⟨⟨v2, d2⟩, f2⟩ := own_cell hown hkn 2 (by omega)
      obtain ⟨⟨v3, d3⟩, f3⟩ := own_cell hown hkn 3 (by omega)
      obtain ⟨⟨v4, d4⟩, f4⟩ := own_cell hown hkn 4 (by omega)
      simp only [Nat.add_zero] at d0 f0
      have HO : Hid (Own5 wr B n M k) := hown
      have HP : Hid (Own5 (put5 wr B k M) B n M (k + 1)) := own_put hown hkn
      have HG : Hid (w.grownBy (put5 wr B k M) (some B) ∧ (put5 wr B k M).heap.size = w.heap.size) := ⟨hg.trans (put5_grown wr B k M).1, (put5_grown wr B k M).2.trans hsz⟩
      have m1 : IntKind.wrap .i64 (M k 0 + 1) = M k 1 := by unfold M; simp [IntKind.wrap, IntKind.bits, IntKind.signed]; omega
      have m2 : IntKind.wrap .i64 (M k 1 + 1) = M k 2 := by unfold M; simp [IntKind.wrap, IntKind.bits, IntKind.signed]; omega
      have m3 : IntKind.wrap .i64 (M k 2 + 1) = M k 3 := by unfold M; simp [IntKind.wrap, IntKind.bits, IntKind.signed]; omega
      have m4 : IntKind.wrap .i64 (M k 3 + 1) = M k 4 := by unfold M; simp [IntKind.wrap, IntKind.bits, IntKind.signed]; omega
      have m5 : IntKind.wrap .i64 (M k 4 + 1) = M (k + 1) 0 := by unfold M; simp [IntKind.wrap, IntKind.bits, IntKind.signed]; omega
      clear hown hg hsz
      go_wp2
      go_roundw
      case rel => exact ⟨k + 1, by omega, by go_num, rfl, HP.out, HG.out.1, HG.out.2⟩
      case measure => simp [intOf]; omega
    · have hkn' : k = n := by omega
      subst hkn'
      have HO : Hid (Own5 wr B k M k) := hown
      clear hown
      go_wp2
      go_ret
      exact ⟨rfl, HO.out, hg, hsz⟩


theorem toList_own (a : Option Addr) (n cap : Nat) (Z : Nat → Nat → Int) (hn : n ≤ 1048576) (w : World) (h : Row5 w a n Z) :
    Calls Try.prog 10 #[.slice a n cap] w fun e w' => e = .returned (.slice (some ⟨w.heap.size, 0, none⟩) n n) ∧ Own5 w' w.heap.size n Z n ∧ w.heap.size < w'.heap.size ∧ Below w.heap.size w w' := by
  rcases h with rfl | ⟨b, o, rfl, hb, hr⟩
  · exact toList0 a cap Z w
  · exact toList b o n cap Z hn w hb hr
theorem rl_row {lo hi : Nat} {w : World} {a : Option Addr} {c n : Nat} {Z : Nat → Nat → Int} (h : P10.RL lo hi w (.slice a n c) n Z) : P10.RowK w a n Z := by
  obtain ⟨a', c', e, r⟩ := h.at
  cases e
  exact r
theorem newN_le {c d : Int} {n : Nat} {W : Nat → Nat → Int} : newN c d n W ≤ n := by unfold newN; split <;> omega

set_option maxRecDepth 100000 in
set_option maxHeartbeats 4000000 in
theorem law_gwyNew (c d : Int) (a : Option Addr) (n cap : Nat) (W : Nat → Nat → Int) (hn : n ≤ maxLen) (w : World) (h : Row5 w a n W) :
    Calls Try.prog 3 #[.agg #[.int .i64 c, .int .i64 d], .slice a n cap] w fun e w' => e = .returned (.bool true) ∧ Below w.heap.size w w' := by
  have HR : Hid (Row5 w a n W) := h
  clear h
  have hn' : (n : Int) ≤ 9223372036854775807 := by unfold maxLen at hn; omega
  clear hn
  have hN : newN c d n W ≤ n := newN_le
  go_enter Try.func3, Try.ntmps3
  go_wp2_with fail
  obtain ⟨w0, e0⟩ : ∃ w0, w0 = w.alloc (.cells #[.int .i64 c, .int .i64 d] 23) := ⟨_, rfl⟩
  have B1 : Hid (Below w.heap.size w w0) := by rw [e0]; exact (Below.refl _ _).alloc (by simp) _
  have M2 : Hid (Bk w0 w.heap.size [.int .i64 c, .int .i64 d]) := by rw [e0]; exact bk_new w 23 [.int .i64 c, .int .i64 d]
  rw [← e0]
  clear e0
  refine (szList a n cap hn' _).mono ?_
  rintro e w1 ⟨rfl, hb1⟩
  have B3 : Hid (Below w.heap.size w w1) := bthen B1.out hb1
  have M3 : Hid (Bk w1 w.heap.size [.int .i64 c, .int .i64 d]) := M2.out.below hb1
  clear B1 M2
  clear hb1
  by_cases hle : (n : Int) ≤ 1048576
  rotate_left
  · rw [if_neg hle]
    go_wp2
    go_ret
    exact ⟨rfl, B3.out⟩
  rw [if_pos hle]
  have hn2 : n ≤ 1048576 := by omega
  have hle2 : ¬ 1048576 - (n : Int) < 0 := by omega
  clear hle
  clear hn'
  have yM0 : w1.cell? ⟨w.heap.size, 0, none⟩ = some (.int .i64 c) := (M3.out.2 0 (by simp)).1
  have yM1 : w1.cell? ⟨w.heap.size, 1, none⟩ = some (.int .i64 d) := (M3.out.2 1 (by simp)).1
  have hlM : w.heap.size < w1.heap.size := M3.out.1
  go_wp2_with fail
  refine (toMap _ _ _).mono ?_
  rintro e w2 ⟨rfl, hb2⟩
  clear yM0 yM1 hlM
  have B4 : Hid (Below w.heap.size w w2) := bthen B3.out hb2
  have M4 : Hid (Bk w2 w.heap.size [.int .i64 c, .int .i64 d]) := M3.out.below hb2
  clear B3 M3
  clear hb2
  have yM0 : w2.cell? ⟨w.heap.size, 0, none⟩ = some (.int .i64 c) := (M4.out.2 0 (by simp)).1
  have yM1 : w2.cell? ⟨w.heap.size, 1, none⟩ = some (.int .i64 d) := (M4.out.2 1 (by simp)).1
  have hlM : w.heap.size < w2.heap.size := M4.out.1
  go_wp2_with fail
  refine (toList_own a n cap W hn2 _ (row_below (B := 0) HR.out B4.out)).mono ?_
  rintro e w3 ⟨rfl, ho3, hz3, hb3⟩
  clear yM0 yM1 hlM
  have B5 : Hid (Below w.heap.size w w3) := bthen B4.out hb3
  have M5 : Hid (Bk w3 w.heap.size [.int .i64 c, .int .i64 d]) := M4.out.below hb3
  clear B4 M4
  clear hb3
  have yM0 : w3.cell? ⟨w.heap.size, 0, none⟩ = some (.int .i64 c) := (M5.out.2 0 (by simp)).1
  have yM1 : w3.cell? ⟨w.heap.size, 1, none⟩ = some (.int .i64 d) := (M5.out.2 1 (by simp)).1
  have hlM : w.heap.size < w3.heap.size := M5.out.1
  have k1 : w.heap.size < w3.heap.size := M5.out.1
  go_wp2_with fail
  refine (new_spec c d w2.heap.size 0 n n W hn2 _ hz3 (own_row ho3)).mono ?_
  rintro e w4 ⟨⟨v1, rfl, hr4⟩, hb4⟩
  clear yM0 yM1 hlM
  have B6 : Hid (Below w.heap.size w w4) := bthen B5.out hb4
  have M6 : Hid (Bk w4 w.heap.size [.int .i64 c, .int .i64 d]) := M5.out.below hb4
  clear B5 M5
  have z4 := hb4.size
  clear hb4 ho3
  obtain ⟨a1, c1, ev1, _⟩ := hr4.at
  subst ev1
  obtain ⟨lo1, el1⟩ : ∃ g, g = w3.heap.size := ⟨_, rfl⟩
  rw [← el1] at hr4 k1 z4 hz3
  clear el1 hz3
  obtain ⟨gS, eS⟩ : ∃ g, g = w4.heap.size := ⟨_, rfl⟩
  rw [← eS] at z4 hr4
  have PA7 : Hid (P10.RL lo1 gS w4 (.slice a1 (newN c d n W) c1) (newN c d n W) (newZ c d W)) := hr4
  clear hr4
  have yM0 : w4.cell? ⟨w.heap.size, 0, none⟩ = some (.int .i64 c) := (M6.out.2 0 (by simp)).1
  have yM1 : w4.cell? ⟨w.heap.size, 1, none⟩ = some (.int .i64 d) := (M6.out.2 1 (by simp)).1
  have hlM : w.heap.size < w4.heap.size := M6.out.1
  go_wp2_with fail
  clear yM0 yM1 hlM
  obtain ⟨w5, e_w5⟩ : ∃ y, y = w4.alloc (.cells #[.slice a1 (newN c d n W) c1] 28) := ⟨_, rfl⟩
  have hb_w5 : Below w4.heap.size w4 w5 := by rw [e_w5]; exact (Below.refl _ _).alloc (Nat.le_refl _) _
  have X_w5 : Bk w5 gS [.slice a1 (newN c d n W) c1] := by rw [e_w5, eS]; exact bk_new w4 28 [.slice a1 (newN c d n W) c1]
  rw [← e_w5, ← eS]
  clear e_w5
  have B8 : Hid (Below w.heap.size w w5) := bthen B6.out hb_w5
  have M8 : Hid (Bk w5 w.heap.size [.int .i64 c, .int .i64 d]) := M6.out.below hb_w5
  have PA8 : Hid (P10.RL lo1 gS w5 (.slice a1 (newN c d n W) c1) (newN c d n W) (newZ c d W)) := PA7.out.below hb_w5
  clear B6 M6 PA7
  have S9 : Hid (Bk w5 gS [.slice a1 (newN c d n W) c1]) := X_w5
  clear X_w5 hb_w5
  clear eS
  have k2 : gS < w5.heap.size := S9.out.1
  refine (toList_own a n cap W hn2 _ (row_below (B := 0) HR.out B8.out)).mono ?_
  rintro e w6 ⟨rfl, ho6, hz6, hb6⟩
  have B10 : Hid (Below w.heap.size w w6) := bthen B8.out hb6
  have M10 : Hid (Bk w6 w.heap.size [.int .i64 c, .int .i64 d]) := M8.out.below hb6
  have PA10 : Hid (P10.RL lo1 gS w6 (.slice a1 (newN c d n W) c1) (newN c d n W) (newZ c d W)) := PA8.out.below hb6
  have S10 : Hid (Bk w6 gS [.slice a1 (newN c d n W) c1]) := S9.out.below hb6
  clear B8 M8 PA8 S9
  clear hb6
  obtain ⟨b1, eb1⟩ : ∃ g, g = w5.heap.size := ⟨_, rfl⟩
  rw [← eb1] at ho6 hz6 k2 ⊢
  clear eb1
  have X11 : Hid (Own5 w6 b1 n W n) := ho6
  have XL12 : Hid (b1 < w6.heap.size) := hz6
  clear ho6 hz6
  have yM0 : w6.cell? ⟨w.heap.size, 0, none⟩ = some (.int .i64 c) := (M10.out.2 0 (by simp)).1
  have yM1 : w6.cell? ⟨w.heap.size, 1, none⟩ = some (.int .i64 d) := (M10.out.2 1 (by simp)).1
  have hlM : w.heap.size < w6.heap.size := M10.out.1
  have yS0 : w6.cell? ⟨gS, 0, none⟩ = some (.slice a1 (newN c d n W) c1) := (S10.out.2 0 (by simp)).1
  have hlS : gS < w6.heap.size := S10.out.1
  go_wp2_with fail
  refine (toMap _ _ _).mono ?_
  rintro e w7 ⟨rfl, hb7⟩
  clear yM0 yM1 hlM yS0 hlS
  have B13 : Hid (Below w.heap.size w w7) := bthen B10.out hb7
  have M13 : Hid (Bk w7 w.heap.size [.int .i64 c, .int .i64 d]) := M10.out.below hb7
  have PA13 : Hid (P10.RL lo1 gS w7 (.slice a1 (newN c d n W) c1) (newN c d n W) (newZ c d W)) := PA10.out.below hb7
  have S13 : Hid (Bk w7 gS [.slice a1 (newN c d n W) c1]) := S10.out.below hb7
  have X13 : Hid (Own5 w7 b1 n W n) := own_below X11.out XL12.out hb7
  have XL13 : Hid (b1 < w7.heap.size) := Nat.lt_of_lt_of_le XL12.out hb7.size
  clear B10 M10 PA10 S10 X11 XL12
  clear hb7
  have k3 : b1 < w7.heap.size := XL13.out
  have yM0 : w7.cell? ⟨w.heap.size, 0, none⟩ = some (.int .i64 c) := (M13.out.2 0 (by simp)).1
  have yM1 : w7.cell? ⟨w.heap.size, 1, none⟩ = some (.int .i64 d) := (M13.out.2 1 (by simp)).1
  have hlM : w.heap.size < w7.heap.size := M13.out.1
  have yS0 : w7.cell? ⟨gS, 0, none⟩ = some (.slice a1 (newN c d n W) c1) := (S13.out.2 0 (by simp)).1
  have hlS : gS < w7.heap.size := S13.out.1
  go_wp2_with fail
  refine (new_impl c d b1 0 n n W hn2 _ XL13.out (own_row X13.out)).mono ?_
  rintro e w8 ⟨⟨v2, rfl, hr8⟩, hb8⟩
  clear yM0 yM1 hlM yS0 hlS
  have B14 : Hid (Below w.heap.size w w8) := bthen B13.out hb8
  have M14 : Hid (Bk w8 w.heap.size [.int .i64 c, .int .i64 d]) := M13.out.below hb8
  have PA14 : Hid (P10.RL lo1 gS w8 (.slice a1 (newN c d n W) c1) (newN c d n W) (newZ c d W)) := PA13.out.below hb8
  have S14 : Hid (Bk w8 gS [.slice a1 (newN c d n W) c1]) := S13.out.below hb8
  have X14 : Hid (Own5 w8 b1 n W n) := own_below X13.out XL13.out hb8
  have XL14 : Hid (b1 < w8.heap.size) := Nat.lt_of_lt_of_le XL13.out hb8.size
  clear B13 M13 PA13 S13 X13 XL13
  have z8 := hb8.size
  clear hb8
  obtain ⟨a2, c2, ev2, _⟩ := hr8.at
  subst ev2
  obtain ⟨lo2, el2⟩ : ∃ g, g = w7.heap.size := ⟨_, rfl⟩
  rw [← el2] at hr8 k3 z8
  clear el2
  obtain ⟨gI, eI⟩ : ∃ g, g = w8.heap.size := ⟨_, rfl⟩
  rw [← eI] at z8 hr8
  have Q15 : Hid (P10.RL lo2 gI w8 (.slice a2 (newN c d n W) c2) (newN c d n W) (newZ c d W)) := hr8
  clear hr8
  have yM0 : w8.cell? ⟨w.heap.size, 0, none⟩ = some (.int .i64 c) := (M14.out.2 0 (by simp)).1
  have yM1 : w8.cell? ⟨w.heap.size, 1, none⟩ = some (.int .i64 d) := (M14.out.2 1 (by simp)).1
  have hlM : w.heap.size < w8.heap.size := M14.out.1
  have yS0 : w8.cell? ⟨gS, 0, none⟩ = some (.slice a1 (newN c d n W) c1) := (S14.out.2 0 (by simp)).1
  have hlS : gS < w8.heap.size := S14.out.1
  go_wp2_with fail
  clear yM0 yM1 hlM yS0 hlS
  obtain ⟨w9, e_w9⟩ : ∃ y, y = w8.alloc (.cells #[.slice a2 (newN c d n W) c2] 28) := ⟨_, rfl⟩
  have hb_w9 : Below w8.heap.size w8 w9 := by rw [e_w9]; exact (Below.refl _ _).alloc (Nat.le_refl _) _
  have X_w9 : Bk w9 gI [.slice a2 (newN c d n W) c2] := by rw [e_w9, eI]; exact bk_new w8 28 [.slice a2 (newN c d n W) c2]
  rw [← e_w9, ← eI]
  clear e_w9
  have B16 : Hid (Below w.heap.size w w9) := bthen B14.out hb_w9
  have M16 : Hid (Bk w9 w.heap.size [.int .i64 c, .int .i64 d]) := M14.out.below hb_w9
  have PA16 : Hid (P10.RL lo1 gS w9 (.slice a1 (newN c d n W) c1) (newN c d n W) (newZ c d W)) := PA14.out.below hb_w9
  have S16 : Hid (Bk w9 gS [.slice a1 (newN c d n W) c1]) := S14.out.below hb_w9
  have X16 : Hid (Own5 w9 b1 n W n) := own_below X14.out XL14.out hb_w9
  have XL16 : Hid (b1 < w9.heap.size) := Nat.lt_of_lt_of_le XL14.out hb_w9.size
  have Q16 : Hid (P10.RL lo2 gI w9 (.slice a2 (newN c d n W) c2) (newN c d n W) (newZ c d W)) := Q15.out.below hb_w9
  clear B14 M14 PA14 S14 X14 XL14 Q15
  have I17 : Hid (Bk w9 gI [.slice a2 (newN c d n W) c2]) := X_w9
  clear X_w9 hb_w9
  clear eI
  refine (eqBook a2 c2 a1 c1 (newN c d n W) (newZ c d W) (by omega) _ (rl_row Q16.out) (rl_row PA16.out)).mono ?_
  rintro e w10 ⟨rfl, hb_w10⟩
  have B18 : Hid (Below w.heap.size w w10) := bthen B16.out hb_w10
  have M18 : Hid (Bk w10 w.heap.size [.int .i64 c, .int .i64 d]) := M16.out.below hb_w10
  have PA18 : Hid (P10.RL lo1 gS w10 (.slice a1 (newN c d n W) c1) (newN c d n W) (newZ c d W)) := PA16.out.below hb_w10
  have S18 : Hid (Bk w10 gS [.slice a1 (newN c d n W) c1]) := S16.out.below hb_w10
  have X18 : Hid (Own5 w10 b1 n W n) := own_below X16.out XL16.out hb_w10
  have XL18 : Hid (b1 < w10.heap.size) := Nat.lt_of_lt_of_le XL16.out hb_w10.size
  have Q18 : Hid (P10.RL lo2 gI w10 (.slice a2 (newN c d n W) c2) (newN c d n W) (newZ c d W)) := Q16.out.below hb_w10
  have I18 : Hid (Bk w10 gI [.slice a2 (newN c d n W) c2]) := I17.out.below hb_w10
  clear B16 M16 PA16 S16 X16 XL16 Q16 I17
  clear hb_w10
  have yM0 : w10.cell? ⟨w.heap.size, 0, none⟩ = some (.int .i64 c) := (M18.out.2 0 (by simp)).1
  have yM1 : w10.cell? ⟨w.heap.size, 1, none⟩ = some (.int .i64 d) := (M18.out.2 1 (by simp)).1
  have hlM : w.heap.size < w10.heap.size := M18.out.1
  have yS0 : w10.cell? ⟨gS, 0, none⟩ = some (.slice a1 (newN c d n W) c1) := (S18.out.2 0 (by simp)).1
  have hlS : gS < w10.heap.size := S18.out.1
  have yI0 : w10.cell? ⟨gI, 0, none⟩ = some (.slice a2 (newN c d n W) c2) := (I18.out.2 0 (by simp)).1
  have hlI : gI < w10.heap.size := I18.out.1
  go_wp2_with fail
  refine (toList_own a n cap W hn2 _ (row_below (B := 0) HR.out B18.out)).mono ?_
  rintro e w11 ⟨rfl, ho11, hz11, hb11⟩
  clear yM0 yM1 hlM yS0 hlS yI0 hlI
  have B19 : Hid (Below w.heap.size w w11) := bthen B18.out hb11
  have M19 : Hid (Bk w11 w.heap.size [.int .i64 c, .int .i64 d]) := M18.out.below hb11
  have PA19 : Hid (P10.RL lo1 gS w11 (.slice a1 (newN c d n W) c1) (newN c d n W) (newZ c d W)) := PA18.out.below hb11
  have S19 : Hid (Bk w11 gS [.slice a1 (newN c d n W) c1]) := S18.out.below hb11
  have X19 : Hid (Own5 w11 b1 n W n) := own_below X18.out XL18.out hb11
  have XL19 : Hid (b1 < w11.heap.size) := Nat.lt_of_lt_of_le XL18.out hb11.size
  have Q19 : Hid (P10.RL lo2 gI w11 (.slice a2 (newN c d n W) c2) (newN c d n W) (newZ c d W)) := Q18.out.below hb11
  have I19 : Hid (Bk w11 gI [.slice a2 (newN c d n W) c2]) := I18.out.below hb11
  clear B18 M18 PA18 S18 X18 XL18 Q18 I18
  clear hb11
  have yM0 : w11.cell? ⟨w.heap.size, 0, none⟩ = some (.int .i64 c) := (M19.out.2 0 (by simp)).1
  have yM1 : w11.cell? ⟨w.heap.size, 1, none⟩ = some (.int .i64 d) := (M19.out.2 1 (by simp)).1
  have hlM : w.heap.size < w11.heap.size := M19.out.1
  have yS0 : w11.cell? ⟨gS, 0, none⟩ = some (.slice a1 (newN c d n W) c1) := (S19.out.2 0 (by simp)).1
  have hlS : gS < w11.heap.size := S19.out.1
  have yI0 : w11.cell? ⟨gI, 0, none⟩ = some (.slice a2 (newN c d n W) c2) := (I19.out.2 0 (by simp)).1
  have hlI : gI < w11.heap.size := I19.out.1
  go_wp2_with fail
  refine (eqList b1 0 n w10.heap.size 0 n n W (by omega) _ XL19.out hz11 (own_row X19.out) (own_row ho11)).mono ?_
  rintro e w12 ⟨rfl, hb12⟩
  clear yM0 yM1 hlM yS0 hlS yI0 hlI
  have B20 : Hid (Below w.heap.size w w12) := bthen B19.out hb12
  have M20 : Hid (Bk w12 w.heap.size [.int .i64 c, .int .i64 d]) := M19.out.below hb12
  have PA20 : Hid (P10.RL lo1 gS w12 (.slice a1 (newN c d n W) c1) (newN c d n W) (newZ c d W)) := PA19.out.below hb12
  have S20 : Hid (Bk w12 gS [.slice a1 (newN c d n W) c1]) := S19.out.below hb12
  have X20 : Hid (Own5 w12 b1 n W n) := own_below X19.out XL19.out hb12
  have XL20 : Hid (b1 < w12.heap.size) := Nat.lt_of_lt_of_le XL19.out hb12.size
  have Q20 : Hid (P10.RL lo2 gI w12 (.slice a2 (newN c d n W) c2) (newN c d n W) (newZ c d W)) := Q19.out.below hb12
  have I20 : Hid (Bk w12 gI [.slice a2 (newN c d n W) c2]) := I19.out.below hb12
  clear B19 M19 PA19 S19 X19 XL19 Q19 I19
  clear hb12 ho11 hz11
  have yM0 : w12.cell? ⟨w.heap.size, 0, none⟩ = some (.int .i64 c) := (M20.out.2 0 (by simp)).1
  have yM1 : w12.cell? ⟨w.heap.size, 1, none⟩ = some (.int .i64 d) := (M20.out.2 1 (by simp)).1
  have hlM : w.heap.size < w12.heap.size := M20.out.1
  have yS0 : w12.cell? ⟨gS, 0, none⟩ = some (.slice a1 (newN c d n W) c1) := (S20.out.2 0 (by simp)).1
  have hlS : gS < w12.heap.size := S20.out.1
  have yI0 : w12.cell? ⟨gI, 0, none⟩ = some (.slice a2 (newN c d n W) c2) := (I20.out.2 0 (by simp)).1
  have hlI : gI < w12.heap.size := I20.out.1
  go_wp2_with fail
  clear yM0 yM1 hlM yS0 hlS yI0 hlI
  refine (mark b1 n n W (by omega) _ XL20.out X20.out).mono ?_
  rintro e w13 ⟨rfl, _, hg13, hz13⟩
  have kk1 : w.heap.size ≤ b1 := by omega
  clear X20
  have B21 : Hid (Below w.heap.size w w13) := B20.out.trans (below_grown hg13 kk1 (by have := B20.out.size; omega))
  have M21 : Hid (Bk w13 w.heap.size [.int .i64 c, .int .i64 d]) := M20.out.sm (Nat.le_of_eq hz13.symm) (sm_grown hg13 M20.out.1 (fun e => by injection e with e; omega))
  have PA21 : Hid (P10.RL lo1 gS w13 (.slice a1 (newN c d n W) c1) (newN c d n W) (newZ c d W)) := PA20.out.sm (Nat.le_of_eq hz13.symm) (fun b q1 q2 => sm_grown hg13 (by have := S20.out.1; omega) (fun e => by injection e with e; omega))
  have S21 : Hid (Bk w13 gS [.slice a1 (newN c d n W) c1]) := S20.out.sm (Nat.le_of_eq hz13.symm) (sm_grown hg13 S20.out.1 (fun e => by injection e with e; omega))
  have XL21 : Hid (b1 < w13.heap.size) := hz13 ▸ XL20.out
  have Q21 : Hid (P10.RL lo2 gI w13 (.slice a2 (newN c d n W) c2) (newN c d n W) (newZ c d W)) := Q20.out.sm (Nat.le_of_eq hz13.symm) (fun b q1 q2 => sm_grown hg13 (by have := I20.out.1; omega) (fun e => by injection e with e; omega))
  have I21 : Hid (Bk w13 gI [.slice a2 (newN c d n W) c2]) := I20.out.sm (Nat.le_of_eq hz13.symm) (sm_grown hg13 I20.out.1 (fun e => by injection e with e; omega))
  clear B20 M20 PA20 S20 XL20 Q20 I20
  clear hg13 hz13
  obtain ⟨q13, eq13⟩ : ∃ q : Int, q = ((1 + n * 5 : Nat) : Int) := ⟨_, rfl⟩
  have hq13 : ¬ q13 < 0 := by omega
  rw [← eq13]
  clear eq13
  clear XL21
  have yM0 : w13.cell? ⟨w.heap.size, 0, none⟩ = some (.int .i64 c) := (M21.out.2 0 (by simp)).1
  have yM1 : w13.cell? ⟨w.heap.size, 1, none⟩ = some (.int .i64 d) := (M21.out.2 1 (by simp)).1
  have hlM : w.heap.size < w13.heap.size := M21.out.1
  have yS0 : w13.cell? ⟨gS, 0, none⟩ = some (.slice a1 (newN c d n W) c1) := (S21.out.2 0 (by simp)).1
  have hlS : gS < w13.heap.size := S21.out.1
  have yI0 : w13.cell? ⟨gI, 0, none⟩ = some (.slice a2 (newN c d n W) c2) := (I21.out.2 0 (by simp)).1
  have hlI : gI < w13.heap.size := I21.out.1
  go_wp2_with fail
  clear yM0 yM1 hlM yS0 hlS yI0 hlI
  refine (eqBook a2 c2 a1 c1 (newN c d n W) (newZ c d W) (by omega) _ (rl_row Q21.out) (rl_row PA21.out)).mono ?_
  rintro e w14 ⟨rfl, hb_w14⟩
  have B22 : Hid (Below w.heap.size w w14) := bthen B21.out hb_w14
  have M22 : Hid (Bk w14 w.heap.size [.int .i64 c, .int .i64 d]) := M21.out.below hb_w14
  have PA22 : Hid (P10.RL lo1 gS w14 (.slice a1 (newN c d n W) c1) (newN c d n W) (newZ c d W)) := PA21.out.below hb_w14
  have S22 : Hid (Bk w14 gS [.slice a1 (newN c d n W) c1]) := S21.out.below hb_w14
  have Q22 : Hid (P10.RL lo2 gI w14 (.slice a2 (newN c d n W) c2) (newN c d n W) (newZ c d W)) := Q21.out.below hb_w14
  have I22 : Hid (Bk w14 gI [.slice a2 (newN c d n W) c2]) := I21.out.below hb_w14
  clear B21 M21 PA21 S21 Q21 I21
  clear hb_w14
  have yM0 : w14.cell? ⟨w.heap.size, 0, none⟩ = some (.int .i64 c) := (M22.out.2 0 (by simp)).1
  have yM1 : w14.cell? ⟨w.heap.size, 1, none⟩ = some (.int .i64 d) := (M22.out.2 1 (by simp)).1
  have hlM : w.heap.size < w14.heap.size := M22.out.1
  have yS0 : w14.cell? ⟨gS, 0, none⟩ = some (.slice a1 (newN c d n W) c1) := (S22.out.2 0 (by simp)).1
  have hlS : gS < w14.heap.size := S22.out.1
  have yI0 : w14.cell? ⟨gI, 0, none⟩ = some (.slice a2 (newN c d n W) c2) := (I22.out.2 0 (by simp)).1
  have hlI : gI < w14.heap.size := I22.out.1
  go_wp2_with fail
  clear yM0 yM1 hlM yS0 hlS yI0 hlI
  have zz14 : lo2 ≤ w14.heap.size := by have := I22.out.1; omega
  refine (markBook lo2 gI 1 _ (newN c d n W) (newZ c d W) (by omega) (by omega) _ zz14 Q22.out).mono ?_
  rintro e w15 ⟨rfl, hq15, hz15, hm15, hb15⟩
  clear Q22
  have B23 : Hid (Below w.heap.size w w15) := B22.out.trans (hb15.mono (by omega))
  have M23 : Hid (Bk w15 w.heap.size [.int .i64 c, .int .i64 d]) := M22.out.sm hz15 (hm15 _ M22.out.1 (by omega))
  have PA23 : Hid (P10.RL lo1 gS w15 (.slice a1 (newN c d n W) c1) (newN c d n W) (newZ c d W)) := PA22.out.sm hz15 (fun b q1 q2 => hm15 b (by have := S22.out.1; omega) (by omega))
  have S23 : Hid (Bk w15 gS [.slice a1 (newN c d n W) c1]) := S22.out.sm hz15 (hm15 _ S22.out.1 (by omega))
  have I23 : Hid (Bk w15 gI [.slice a2 (newN c d n W) c2]) := I22.out.sm hz15 (hm15 _ I22.out.1 (by omega))
  clear B22 M22 PA22 S22 I22
  have Q24 : Hid (P10.RL lo2 gI w15 (.slice a2 (newN c d n W) c2) (newN c d n W) (P10.Mk 10 1)) := hq15
  clear hq15 hz15 hm15 hb15 zz14
  obtain ⟨q15, eq15⟩ : ∃ q : Int, q = ((1 + (newN c d n W) * 10 : Nat) : Int) := ⟨_, rfl⟩
  have hq15 : ¬ q15 < 0 := by omega
  have EQ : Hid (q15 = ((1 + newN c d n W * 10 : Nat) : Int)) := eq15
  rw [← eq15]
  clear eq15
  have yM0 : w15.cell? ⟨w.heap.size, 0, none⟩ = some (.int .i64 c) := (M23.out.2 0 (by simp)).1
  have yM1 : w15.cell? ⟨w.heap.size, 1, none⟩ = some (.int .i64 d) := (M23.out.2 1 (by simp)).1
  have hlM : w.heap.size < w15.heap.size := M23.out.1
  have yS0 : w15.cell? ⟨gS, 0, none⟩ = some (.slice a1 (newN c d n W) c1) := (S23.out.2 0 (by simp)).1
  have hlS : gS < w15.heap.size := S23.out.1
  have yI0 : w15.cell? ⟨gI, 0, none⟩ = some (.slice a2 (newN c d n W) c2) := (I23.out.2 0 (by simp)).1
  have hlI : gI < w15.heap.size := I23.out.1
  go_wp2_with fail
  clear yM0 yM1 hlM yS0 hlS yI0 hlI
  refine (heldBook lo2 gI 1 _ (newN c d n W) (by omega) (by omega) _ Q24.out).mono ?_
  rintro e w16 ⟨rfl, hb_w16⟩
  rw [← EQ.out]
  have B25 : Hid (Below w.heap.size w w16) := bthen B23.out hb_w16
  have M25 : Hid (Bk w16 w.heap.size [.int .i64 c, .int .i64 d]) := M23.out.below hb_w16
  have PA25 : Hid (P10.RL lo1 gS w16 (.slice a1 (newN c d n W) c1) (newN c d n W) (newZ c d W)) := PA23.out.below hb_w16
  have S25 : Hid (Bk w16 gS [.slice a1 (newN c d n W) c1]) := S23.out.below hb_w16
  have I25 : Hid (Bk w16 gI [.slice a2 (newN c d n W) c2]) := I23.out.below hb_w16
  have Q25 : Hid (P10.RL lo2 gI w16 (.slice a2 (newN c d n W) c2) (newN c d n W) (P10.Mk 10 1)) := Q24.out.below hb_w16
  clear B23 M23 PA23 S23 I23 Q24
  clear hb_w16
  have yM0 : w16.cell? ⟨w.heap.size, 0, none⟩ = some (.int .i64 c) := (M25.out.2 0 (by simp)).1
  have yM1 : w16.cell? ⟨w.heap.size, 1, none⟩ = some (.int .i64 d) := (M25.out.2 1 (by simp)).1
  have hlM : w.heap.size < w16.heap.size := M25.out.1
  have yS0 : w16.cell? ⟨gS, 0, none⟩ = some (.slice a1 (newN c d n W) c1) := (S25.out.2 0 (by simp)).1
  have hlS : gS < w16.heap.size := S25.out.1
  have yI0 : w16.cell? ⟨gI, 0, none⟩ = some (.slice a2 (newN c d n W) c2) := (I25.out.2 0 (by simp)).1
  have hlI : gI < w16.heap.size := I25.out.1
  go_wp2_with fail
  refine (toMap _ _ _).mono ?_
  rintro e w17 ⟨rfl, hb17⟩
  clear yM0 yM1 hlM yS0 hlS yI0 hlI
  have B26 : Hid (Below w.heap.size w w17) := bthen B25.out hb17
  have M26 : Hid (Bk w17 w.heap.size [.int .i64 c, .int .i64 d]) := M25.out.below hb17
  have PA26 : Hid (P10.RL lo1 gS w17 (.slice a1 (newN c d n W) c1) (newN c d n W) (newZ c d W)) := PA25.out.below hb17
  have S26 : Hid (Bk w17 gS [.slice a1 (newN c d n W) c1]) := S25.out.below hb17
  have I26 : Hid (Bk w17 gI [.slice a2 (newN c d n W) c2]) := I25.out.below hb17
  have Q26 : Hid (P10.RL lo2 gI w17 (.slice a2 (newN c d n W) c2) (newN c d n W) (P10.Mk 10 1)) := Q25.out.below hb17
  clear B25 M25 PA25 S25 I25 Q25
  clear hb17
  have yM0 : w17.cell? ⟨w.heap.size, 0, none⟩ = some (.int .i64 c) := (M26.out.2 0 (by simp)).1
  have yM1 : w17.cell? ⟨w.heap.size, 1, none⟩ = some (.int .i64 d) := (M26.out.2 1 (by simp)).1
  have hlM : w.heap.size < w17.heap.size := M26.out.1
  have yS0 : w17.cell? ⟨gS, 0, none⟩ = some (.slice a1 (newN c d n W) c1) := (S26.out.2 0 (by simp)).1
  have hlS : gS < w17.heap.size := S26.out.1
  have yI0 : w17.cell? ⟨gI, 0, none⟩ = some (.slice a2 (newN c d n W) c2) := (I26.out.2 0 (by simp)).1
  have hlI : gI < w17.heap.size := I26.out.1
  go_wp2_with fail
  refine (toList_own a n cap W hn2 _ (row_below (B := 0) HR.out B26.out)).mono ?_
  rintro e w18 ⟨rfl, ho18, hz18, hb18⟩
  clear yM0 yM1 hlM yS0 hlS yI0 hlI
  have B27 : Hid (Below w.heap.size w w18) := bthen B26.out hb18
  have M27 : Hid (Bk w18 w.heap.size [.int .i64 c, .int .i64 d]) := M26.out.below hb18
  have PA27 : Hid (P10.RL lo1 gS w18 (.slice a1 (newN c d n W) c1) (newN c d n W) (newZ c d W)) := PA26.out.below hb18
  have S27 : Hid (Bk w18 gS [.slice a1 (newN c d n W) c1]) := S26.out.below hb18
  have I27 : Hid (Bk w18 gI [.slice a2 (newN c d n W) c2]) := I26.out.below hb18
  have Q27 : Hid (P10.RL lo2 gI w18 (.slice a2 (newN c d n W) c2) (newN c d n W) (P10.Mk 10 1)) := Q26.out.below hb18
  clear B26 M26 PA26 S26 I26 Q26
  clear hb18
  have yM0 : w18.cell? ⟨w.heap.size, 0, none⟩ = some (.int .i64 c) := (M27.out.2 0 (by simp)).1
  have yM1 : w18.cell? ⟨w.heap.size, 1, none⟩ = some (.int .i64 d) := (M27.out.2 1 (by simp)).1
  have hlM : w.heap.size < w18.heap.size := M27.out.1
  have yS0 : w18.cell? ⟨gS, 0, none⟩ = some (.slice a1 (newN c d n W) c1) := (S27.out.2 0 (by simp)).1
  have hlS : gS < w18.heap.size := S27.out.1
  have yI0 : w18.cell? ⟨gI, 0, none⟩ = some (.slice a2 (newN c d n W) c2) := (I27.out.2 0 (by simp)).1
  have hlI : gI < w18.heap.size := I27.out.1
  go_wp2_with fail
  refine (new_impl c d w17.heap.size 0 n n W hn2 _ hz18 (own_row ho18)).mono ?_
  rintro e w19 ⟨⟨v3, rfl, hr19⟩, hb19⟩
  clear yM0 yM1 hlM yS0 hlS yI0 hlI
  have B28 : Hid (Below w.heap.size w w19) := bthen B27.out hb19
  have M28 : Hid (Bk w19 w.heap.size [.int .i64 c, .int .i64 d]) := M27.out.below hb19
  have PA28 : Hid (P10.RL lo1 gS w19 (.slice a1 (newN c d n W) c1) (newN c d n W) (newZ c d W)) := PA27.out.below hb19
  have S28 : Hid (Bk w19 gS [.slice a1 (newN c d n W) c1]) := S27.out.below hb19
  have I28 : Hid (Bk w19 gI [.slice a2 (newN c d n W) c2]) := I27.out.below hb19
  have Q28 : Hid (P10.RL lo2 gI w19 (.slice a2 (newN c d n W) c2) (newN c d n W) (P10.Mk 10 1)) := Q27.out.below hb19
  clear B27 M27 PA27 S27 I27 Q27
  clear hb19 ho18 hz18
  obtain ⟨a3, c3, ev3, _⟩ := hr19.at
  subst ev3
  obtain ⟨gH, eH⟩ : ∃ g, g = w19.heap.size := ⟨_, rfl⟩
  rw [← eH] at hr19
  have U29 : Hid (P10.RL w18.heap.size gH w19 (.slice a3 (newN c d n W) c3) (newN c d n W) (newZ c d W)) := hr19
  clear hr19
  have yM0 : w19.cell? ⟨w.heap.size, 0, none⟩ = some (.int .i64 c) := (M28.out.2 0 (by simp)).1
  have yM1 : w19.cell? ⟨w.heap.size, 1, none⟩ = some (.int .i64 d) := (M28.out.2 1 (by simp)).1
  have hlM : w.heap.size < w19.heap.size := M28.out.1
  have yS0 : w19.cell? ⟨gS, 0, none⟩ = some (.slice a1 (newN c d n W) c1) := (S28.out.2 0 (by simp)).1
  have hlS : gS < w19.heap.size := S28.out.1
  have yI0 : w19.cell? ⟨gI, 0, none⟩ = some (.slice a2 (newN c d n W) c2) := (I28.out.2 0 (by simp)).1
  have hlI : gI < w19.heap.size := I28.out.1
  go_wp2_with fail
  clear yM0 yM1 hlM yS0 hlS yI0 hlI
  obtain ⟨w20, e_w20⟩ : ∃ y, y = w19.alloc (.cells #[.slice a3 (newN c d n W) c3] 28) := ⟨_, rfl⟩
  have hb_w20 : Below w19.heap.size w19 w20 := by rw [e_w20]; exact (Below.refl _ _).alloc (Nat.le_refl _) _
  have X_w20 : Bk w20 gH [.slice a3 (newN c d n W) c3] := by rw [e_w20, eH]; exact bk_new w19 28 [.slice a3 (newN c d n W) c3]
  rw [← e_w20, ← eH]
  clear e_w20
  have B30 : Hid (Below w.heap.size w w20) := bthen B28.out hb_w20
  have M30 : Hid (Bk w20 w.heap.size [.int .i64 c, .int .i64 d]) := M28.out.below hb_w20
  have PA30 : Hid (P10.RL lo1 gS w20 (.slice a1 (newN c d n W) c1) (newN c d n W) (newZ c d W)) := PA28.out.below hb_w20
  have S30 : Hid (Bk w20 gS [.slice a1 (newN c d n W) c1]) := S28.out.below hb_w20
  have I30 : Hid (Bk w20 gI [.slice a2 (newN c d n W) c2]) := I28.out.below hb_w20
  have Q30 : Hid (P10.RL lo2 gI w20 (.slice a2 (newN c d n W) c2) (newN c d n W) (P10.Mk 10 1)) := Q28.out.below hb_w20
  have U30 : Hid (P10.RL w18.heap.size gH w20 (.slice a3 (newN c d n W) c3) (newN c d n W) (newZ c d W)) := U29.out.below hb_w20
  clear B28 M28 PA28 S28 I28 Q28 U29
  have H31 : Hid (Bk w20 gH [.slice a3 (newN c d n W) c3]) := X_w20
  clear X_w20 hb_w20
  clear eH
  refine (eqBook a3 c3 a1 c1 (newN c d n W) (newZ c d W) (by omega) _ (rl_row U30.out) (rl_row PA30.out)).mono ?_
  rintro e w21 ⟨rfl, hb_w21⟩
  have B32 : Hid (Below w.heap.size w w21) := bthen B30.out hb_w21
  have M32 : Hid (Bk w21 w.heap.size [.int .i64 c, .int .i64 d]) := M30.out.below hb_w21
  have PA32 : Hid (P10.RL lo1 gS w21 (.slice a1 (newN c d n W) c1) (newN c d n W) (newZ c d W)) := PA30.out.below hb_w21
  have S32 : Hid (Bk w21 gS [.slice a1 (newN c d n W) c1]) := S30.out.below hb_w21
  have I32 : Hid (Bk w21 gI [.slice a2 (newN c d n W) c2]) := I30.out.below hb_w21
  have Q32 : Hid (P10.RL lo2 gI w21 (.slice a2 (newN c d n W) c2) (newN c d n W) (P10.Mk 10 1)) := Q30.out.below hb_w21
  have U32 : Hid (P10.RL w18.heap.size gH w21 (.slice a3 (newN c d n W) c3) (newN c d n W) (newZ c d W)) := U30.out.below hb_w21
  have H32 : Hid (Bk w21 gH [.slice a3 (newN c d n W) c3]) := H31.out.below hb_w21
  clear B30 M30 PA30 S30 I30 Q30 U30 H31
  clear hb_w21
  clear U32
  clear H32
  have yM0 : w21.cell? ⟨w.heap.size, 0, none⟩ = some (.int .i64 c) := (M32.out.2 0 (by simp)).1
  have yM1 : w21.cell? ⟨w.heap.size, 1, none⟩ = some (.int .i64 d) := (M32.out.2 1 (by simp)).1
  have hlM : w.heap.size < w21.heap.size := M32.out.1
  have yS0 : w21.cell? ⟨gS, 0, none⟩ = some (.slice a1 (newN c d n W) c1) := (S32.out.2 0 (by simp)).1
  have hlS : gS < w21.heap.size := S32.out.1
  have yI0 : w21.cell? ⟨gI, 0, none⟩ = some (.slice a2 (newN c d n W) c2) := (I32.out.2 0 (by simp)).1
  have hlI : gI < w21.heap.size := I32.out.1
  go_wp2_with fail
  clear yM0 yM1 hlM yS0 hlS yI0 hlI
  refine (heldBook lo2 gI 1 _ (newN c d n W) (by omega) (by omega) _ Q32.out).mono ?_
  rintro e w22 ⟨rfl, hb_w22⟩
  rw [← EQ.out]
  have B33 : Hid (Below w.heap.size w w22) := bthen B32.out hb_w22
  have M33 : Hid (Bk w22 w.heap.size [.int .i64 c, .int .i64 d]) := M32.out.below hb_w22
  have PA33 : Hid (P10.RL lo1 gS w22 (.slice a1 (newN c d n W) c1) (newN c d n W) (newZ c d W)) := PA32.out.below hb_w22
  have S33 : Hid (Bk w22 gS [.slice a1 (newN c d n W) c1]) := S32.out.below hb_w22
  have I33 : Hid (Bk w22 gI [.slice a2 (newN c d n W) c2]) := I32.out.below hb_w22
  have Q33 : Hid (P10.RL lo2 gI w22 (.slice a2 (newN c d n W) c2) (newN c d n W) (P10.Mk 10 1)) := Q32.out.below hb_w22
  clear B32 M32 PA32 S32 I32 Q32
  clear hb_w22
  have yM0 : w22.cell? ⟨w.heap.size, 0, none⟩ = some (.int .i64 c) := (M33.out.2 0 (by simp)).1
  have yM1 : w22.cell? ⟨w.heap.size, 1, none⟩ = some (.int .i64 d) := (M33.out.2 1 (by simp)).1
  have hlM : w.heap.size < w22.heap.size := M33.out.1
  have yS0 : w22.cell? ⟨gS, 0, none⟩ = some (.slice a1 (newN c d n W) c1) := (S33.out.2 0 (by simp)).1
  have hlS : gS < w22.heap.size := S33.out.1
  have yI0 : w22.cell? ⟨gI, 0, none⟩ = some (.slice a2 (newN c d n W) c2) := (I33.out.2 0 (by simp)).1
  have hlI : gI < w22.heap.size := I33.out.1
  go_wp2
  go_ret
  exact ⟨rfl, B33.out⟩
end Go.Proofs.Ytgjapdjidighlaa
