/- The walk of the law FnOrdText: it answers true; conditions: the codes are slices of bytes, the library's variables are as its text lays them. -/
import Derived.Test.YtmccbbanganjlaaDoorOBent
namespace Go.Proofs.YtmccbbanganjlaaDoor
open Go.RowKit
set_option linter.unusedVariables false
set_option maxRecDepth 20000

theorem lit_ord : ordText 1 2 6 0 0 = ⟨#[49, 32, 50, 32, 114, 101, 115, 116]⟩ := by decide +kernel
theorem empty_list : (⟨#[]⟩ : ByteArray).toList.isEmpty = true := by decide +kernel
theorem nonempty_list {x : ByteArray} (h : ¬ x.size = 0) : x.toList.isEmpty = false := by
  rw [Lib.toList_data]
  cases g : x.data.toList with
  | nil => exact absurd (show x.size = 0 by show x.data.size = 0; rw [← Array.length_toList, g]; rfl) h
  | cons _ _ => rfl

set_option maxHeartbeats 4000000 in
theorem law_otext (a0 : Option Addr) (l0 c0 : Nat) (y0 : List Int) (a1 : Option Addr) (l1 c1 : Nat) (y1 : List Int) (w : World) (h0 : IsRow w a0 l0 c0 y0) (h1 : IsRow w a1 l1 c1 y1) (hE' : Env w) :
    Calls Tryd.prog 3 #[.slice a0 l0 c0, .slice a1 l1 c1] w fun e w' => e = .returned (.bool true) ∧ Below w.heap.size w w' := by
  have hE : Hid (Env w) := hE'
  have H0 : Hid (IsRow w a0 l0 c0 y0) := h0
  have H1 : Hid (IsRow w a1 l1 c1 y1) := h1
  clear hE' h0 h1
  by_cases g0 : (1048576 : Int) < (l0 : Int)
  · go_enter Tryd.func3, Tryd.ntmps3
    go_wp2
    go_ret
    exact ⟨rfl, Below.refl _ _⟩
  by_cases g1 : (1048576 : Int) < (l1 : Int)
  · go_enter Tryd.func3, Tryd.ntmps3
    go_wp2
    go_ret
    exact ⟨rfl, Below.refl _ _⟩
  go_enter Tryd.func3, Tryd.ntmps3
  go_wp2_with fail
  refine (draw_ordText a0 l0 c0 y0 _ H0.out).mono ?_
  rintro e w1 ⟨p0, p1, p2, p3, p4, rfl, hs, hb1⟩
  clear H0 hs
  go_wp2_with fail
  have B1 : Hid (Below w.heap.size w _) := bthen hb1 (balloc w1 (.cells #[.int .i64 p0, .int .i64 p1, .int .i64 p2, .int .i64 p3, .int .i64 p4] 24))
  have F1 : Hid (Fv _ w1.heap.size p0 p1 p2 p3 p4) := Fv.new w1 p0 p1 p2 p3 p4
  clear hb1
  refine (ordText_impl p0 p1 p2 p3 p4 _ (hE.out.on B1.out).tab).mono ?_
  rintro e w2 ⟨rfl, hb2⟩
  have B2 : Hid (Below w.heap.size w w2) := bthen B1.out hb2
  have F2 : Hid (Fv w2 w1.heap.size p0 p1 p2 p3 p4) := F1.out.below hb2
  clear hb2 B1 F1
  obtain ⟨sx, hsx⟩ : ∃ x, x = ordText p0 p1 p2 p3 p4 := ⟨_, rfl⟩
  rw [← hsx]
  have HSX : Hid (sx = ordText p0 p1 p2 p3 p4) := hsx
  clear hsx
  generalize w1.heap.size = r1 at *
  go_wp2_with fail
  refine (draw_ordRead a1 l1 c1 y1 _ (H1.out.below B2.out)).mono ?_
  rintro e w3 ⟨t, rfl, ht, hb3⟩
  have B3 : Hid (Below w.heap.size w w3) := bthen B2.out hb3
  have F3 : Hid (Fv w3 r1 p0 p1 p2 p3 p4) := F2.out.below hb3
  clear hb3 B2 F2 H1
  by_cases hex : ∃ q0 q1 q2 q3 q4 : Int, ordText q0 q1 q2 q3 q4 = t ∧ ¬ t.size = 0
  · obtain ⟨q0, q1, q2, q3, q4, hq, h0⟩ := hex
    go_wp2_with fail
    refine (io_yes hq h0 _ (hE.out.on B3.out)).mono ?_
    rintro e w4 ⟨rfl, hb4⟩
    have B4 : Hid (Below w.heap.size w w4) := bthen B3.out hb4
    have F4 : Hid (Fv w4 r1 p0 p1 p2 p3 p4) := F3.out.below hb4
    clear hb4 B3 F3
    go_wp2_with fail
    have B5 : Hid (Below w.heap.size w (w4.alloc (.cells #[.int .i64 q0, .int .i64 q1, .int .i64 q2, .int .i64 q3, .int .i64 q4] 24))) := bthen B4.out (balloc w4 (.cells #[.int .i64 q0, .int .i64 q1, .int .i64 q2, .int .i64 q3, .int .i64 q4] 24))
    have F5 : Hid (Fv (w4.alloc (.cells #[.int .i64 q0, .int .i64 q1, .int .i64 q2, .int .i64 q3, .int .i64 q4] 24)) r1 p0 p1 p2 p3 p4) := F4.out.below (balloc w4 (.cells #[.int .i64 q0, .int .i64 q1, .int .i64 q2, .int .i64 q3, .int .i64 q4] 24))
    have G5 : Hid (Fv (w4.alloc (.cells #[.int .i64 q0, .int .i64 q1, .int .i64 q2, .int .i64 q3, .int .i64 q4] 24)) w4.heap.size q0 q1 q2 q3 q4) := Fv.new w4 q0 q1 q2 q3 q4
    refine (so_yes hq h0 _).mono ?_
    rintro e w6 ⟨rfl, hb6⟩
    have B6 : Hid (Below w.heap.size w (w6.alloc (.cells #[.int .i64 q0, .int .i64 q1, .int .i64 q2, .int .i64 q3, .int .i64 q4] 24))) := bthen (bthen B5.out hb6) (balloc w6 (.cells #[.int .i64 q0, .int .i64 q1, .int .i64 q2, .int .i64 q3, .int .i64 q4] 24))
    have F6 : Hid (Fv (w6.alloc (.cells #[.int .i64 q0, .int .i64 q1, .int .i64 q2, .int .i64 q3, .int .i64 q4] 24)) r1 p0 p1 p2 p3 p4) := (F5.out.below hb6).below (balloc w6 (.cells #[.int .i64 q0, .int .i64 q1, .int .i64 q2, .int .i64 q3, .int .i64 q4] 24))
    have G6 : Hid (Fv (w6.alloc (.cells #[.int .i64 q0, .int .i64 q1, .int .i64 q2, .int .i64 q3, .int .i64 q4] 24)) w4.heap.size q0 q1 q2 q3 q4) := (G5.out.below hb6).below (balloc w6 (.cells #[.int .i64 q0, .int .i64 q1, .int .i64 q2, .int .i64 q3, .int .i64 q4] 24))
    have I6 : Hid (Fv (w6.alloc (.cells #[.int .i64 q0, .int .i64 q1, .int .i64 q2, .int .i64 q3, .int .i64 q4] 24)) w6.heap.size q0 q1 q2 q3 q4) := Fv.new w6 q0 q1 q2 q3 q4
    obtain ⟨x0, x1, x2, x3, x4, hr⟩ := F5.out.below hb6
    clear hb6 B4 F4 B5 F5 G5
    go_wp2_with fail
    refine (ordText_spec p0 p1 p2 p3 p4 _).mono ?_
    rintro e w7 ⟨rfl, hb7⟩
    rw [← HSX.out]
    have B7 : Hid (Below w.heap.size w w7) := bthen B6.out hb7
    have F7 : Hid (Fv w7 r1 p0 p1 p2 p3 p4) := F6.out.below hb7
    have G7 := G6.out.below hb7
    have I7 := I6.out.below hb7
    clear hb7 B6 F6 G6 I6 x0 x1 x2 x3 x4 hr
    generalize w4.heap.size = r4 at *
    generalize w6.heap.size = r6 at *
    obtain ⟨g0', g1', g2', g3', g4', gr⟩ := G7
    obtain ⟨i0, i1, i2, i3, i4, ir⟩ := I7
    obtain ⟨f0, f1, f2, f3, f4, fr⟩ := F7.out
    go_wp2_with fail
    refine (ordText_impl q0 q1 q2 q3 q4 _ (hE.out.on B7.out).tab).mono ?_
    rintro e w8 ⟨rfl, hb8⟩
    rw [hq]
    have B8 : Hid (Below w.heap.size w w8) := bthen B7.out hb8
    have F8 : Hid (Fv w8 r1 p0 p1 p2 p3 p4) := F7.out.below hb8
    clear hb8 B7 F7 g0' g1' g2' g3' g4' gr i0 i1 i2 i3 i4 ir f0 f1 f2 f3 f4 fr
    obtain ⟨f0, f1, f2, f3, f4, fr⟩ := F8.out
    cases hA : ordB p0 p1 p2 p3 p4
    · have hz : sx = ⟨#[]⟩ := by rw [HSX.out]; unfold ordText; rw [hA]; rfl
      subst hz
      have he' := empty_list
      go_wp2_with fail
      refine (ordOk_impl p0 p1 p2 p3 p4 _).mono ?_
      rintro e w9 ⟨rfl, hb9⟩
      rw [hA]
      have B9 : Hid (Below w.heap.size w w9) := bthen B8.out hb9
      clear hb9 B8 F8 f0 f1 f2 f3 f4 fr
      go_wp2_with fail
      refine (ordText_impl 1 2 6 0 0 _ (hE.out.on B9.out).tab).mono ?_
      rintro e wa ⟨rfl, hba⟩
      rw [lit_ord]
      have Ba : Hid (Below w.heap.size w wa) := bthen B9.out hba
      clear hba B9
      go_wp2
      go_ret
      exact ⟨rfl, Ba.out⟩
    · have hz0 : ¬ sx.size = 0 := by rw [HSX.out]; exact ordText_size_pos hA
      have he : sx.toList.isEmpty = false := nonempty_list hz0
      go_wp2_with fail
      refine (ordOk_impl p0 p1 p2 p3 p4 _).mono ?_
      rintro e w9 ⟨rfl, hb9⟩
      rw [hA]
      have B9 : Hid (Below w.heap.size w w9) := bthen B8.out hb9
      have F9 : Hid (Fv w9 r1 p0 p1 p2 p3 p4) := F8.out.below hb9
      clear hb9 B8 F8 f0 f1 f2 f3 f4 fr
      go_wp2_with fail
      refine (io_yes HSX.out.symm hz0 _ (hE.out.on B9.out)).mono ?_
      rintro e wa ⟨rfl, hba⟩
      have Ba : Hid (Below w.heap.size w wa) := bthen B9.out hba
      obtain ⟨f0, f1, f2, f3, f4, fr⟩ := F9.out.below hba
      clear hba B9 F9
      go_wp2
      go_ret
      exact ⟨rfl, bthen Ba.out (balloc wa _)⟩
  · have hv : ∀ q0 q1 q2 q3 q4 : Int, ordText q0 q1 q2 q3 q4 = t → t.size = 0 := fun q0 q1 q2 q3 q4 e => Classical.byContradiction fun h => hex ⟨q0, q1, q2, q3, q4, e, h⟩
    clear hex
    go_wp2_with fail
    refine (io_no hv _ (hE.out.on B3.out)).mono ?_
    rintro e w4 ⟨rfl, hb4⟩
    have B4 : Hid (Below w.heap.size w w4) := bthen B3.out hb4
    have F4 : Hid (Fv w4 r1 p0 p1 p2 p3 p4) := F3.out.below hb4
    clear hb4 B3 F3
    go_wp2_with fail
    have B5 : Hid (Below w.heap.size w (w4.alloc (.cells #[.int .i64 0, .int .i64 0, .int .i64 0, .int .i64 0, .int .i64 0] 24))) := bthen B4.out (balloc w4 (.cells #[.int .i64 0, .int .i64 0, .int .i64 0, .int .i64 0, .int .i64 0] 24))
    have F5 : Hid (Fv (w4.alloc (.cells #[.int .i64 0, .int .i64 0, .int .i64 0, .int .i64 0, .int .i64 0] 24)) r1 p0 p1 p2 p3 p4) := F4.out.below (balloc w4 (.cells #[.int .i64 0, .int .i64 0, .int .i64 0, .int .i64 0, .int .i64 0] 24))
    have G5 : Hid (Fv (w4.alloc (.cells #[.int .i64 0, .int .i64 0, .int .i64 0, .int .i64 0, .int .i64 0] 24)) w4.heap.size 0 0 0 0 0) := Fv.new w4 0 0 0 0 0
    refine (so_no hv _).mono ?_
    rintro e w6 ⟨rfl, hb6⟩
    have B6 : Hid (Below w.heap.size w (w6.alloc (.cells #[.int .i64 0, .int .i64 0, .int .i64 0, .int .i64 0, .int .i64 0] 24))) := bthen (bthen B5.out hb6) (balloc w6 (.cells #[.int .i64 0, .int .i64 0, .int .i64 0, .int .i64 0, .int .i64 0] 24))
    have F6 : Hid (Fv (w6.alloc (.cells #[.int .i64 0, .int .i64 0, .int .i64 0, .int .i64 0, .int .i64 0] 24)) r1 p0 p1 p2 p3 p4) := (F5.out.below hb6).below (balloc w6 (.cells #[.int .i64 0, .int .i64 0, .int .i64 0, .int .i64 0, .int .i64 0] 24))
    have G6 : Hid (Fv (w6.alloc (.cells #[.int .i64 0, .int .i64 0, .int .i64 0, .int .i64 0, .int .i64 0] 24)) w4.heap.size 0 0 0 0 0) := (G5.out.below hb6).below (balloc w6 (.cells #[.int .i64 0, .int .i64 0, .int .i64 0, .int .i64 0, .int .i64 0] 24))
    have I6 : Hid (Fv (w6.alloc (.cells #[.int .i64 0, .int .i64 0, .int .i64 0, .int .i64 0, .int .i64 0] 24)) w6.heap.size 0 0 0 0 0) := Fv.new w6 0 0 0 0 0
    obtain ⟨x0, x1, x2, x3, x4, hr⟩ := F5.out.below hb6
    clear hb6 B4 F4 B5 F5 G5
    go_wp2_with fail
    refine (ordText_spec p0 p1 p2 p3 p4 _).mono ?_
    rintro e w7 ⟨rfl, hb7⟩
    rw [← HSX.out]
    have B7 : Hid (Below w.heap.size w w7) := bthen B6.out hb7
    have F7 : Hid (Fv w7 r1 p0 p1 p2 p3 p4) := F6.out.below hb7
    have G7 := G6.out.below hb7
    have I7 := I6.out.below hb7
    clear hb7 B6 F6 G6 I6 x0 x1 x2 x3 x4 hr
    generalize w4.heap.size = r4 at *
    generalize w6.heap.size = r6 at *
    obtain ⟨g0', g1', g2', g3', g4', gr⟩ := G7
    obtain ⟨i0, i1, i2, i3, i4, ir⟩ := I7
    obtain ⟨f0, f1, f2, f3, f4, fr⟩ := F7.out
    obtain ⟨w8, B8, e8⟩ : ∃ w8, Hid (Below w.heap.size w w8) ∧ w8 = w7 := ⟨w7, B7, rfl⟩
    subst e8
    have F8 := F7
    clear B7 F7
    cases hA : ordB p0 p1 p2 p3 p4
    · have hz : sx = ⟨#[]⟩ := by rw [HSX.out]; unfold ordText; rw [hA]; rfl
      subst hz
      have he' := empty_list
      go_wp2_with fail
      refine (ordOk_impl p0 p1 p2 p3 p4 _).mono ?_
      rintro e w9 ⟨rfl, hb9⟩
      rw [hA]
      have B9 : Hid (Below w.heap.size w w9) := bthen B8.out hb9
      clear hb9 B8 F8 f0 f1 f2 f3 f4 fr
      go_wp2_with fail
      refine (ordText_impl 1 2 6 0 0 _ (hE.out.on B9.out).tab).mono ?_
      rintro e wa ⟨rfl, hba⟩
      rw [lit_ord]
      have Ba : Hid (Below w.heap.size w wa) := bthen B9.out hba
      clear hba B9
      go_wp2
      go_ret
      exact ⟨rfl, Ba.out⟩
    · have hz0 : ¬ sx.size = 0 := by rw [HSX.out]; exact ordText_size_pos hA
      have he : sx.toList.isEmpty = false := nonempty_list hz0
      go_wp2_with fail
      refine (ordOk_impl p0 p1 p2 p3 p4 _).mono ?_
      rintro e w9 ⟨rfl, hb9⟩
      rw [hA]
      have B9 : Hid (Below w.heap.size w w9) := bthen B8.out hb9
      have F9 : Hid (Fv w9 r1 p0 p1 p2 p3 p4) := F8.out.below hb9
      clear hb9 B8 F8 f0 f1 f2 f3 f4 fr
      go_wp2_with fail
      refine (io_yes HSX.out.symm hz0 _ (hE.out.on B9.out)).mono ?_
      rintro e wa ⟨rfl, hba⟩
      have Ba : Hid (Below w.heap.size w wa) := bthen B9.out hba
      obtain ⟨f0, f1, f2, f3, f4, fr⟩ := F9.out.below hba
      clear hba B9 F9
      go_wp2
      go_ret
      exact ⟨rfl, bthen Ba.out (balloc wa _)⟩
end Go.Proofs.YtmccbbanganjlaaDoor
