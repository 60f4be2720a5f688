/- The walk of the law FnWlkText: it answers true; conditions: the codes are slices of bytes, the library's variables are as its text lays them. -/
import Derived.Test.YtkojpodfdbkhbaaDoorRead5
import Derived.Test.YtkojpodfdbkhbaaDoorAgree
import Derived.Test.YtkojpodfdbkhbaaDoorBent
namespace Go.Proofs.YtkojpodfdbkhbaaDoor
open Go.RowKit
set_option linter.unusedVariables false
set_option maxRecDepth 20000

theorem impl_yes (s : ByteArray) (w : World) (hE : Env w) (h : vOk s) :
    Calls Tryd.prog 7 #[.string s] w fun e w' => e = .returned (.tuple #[.agg #[.int .i64 (vF s 1), .int .i64 (vF s 3), .int .i64 (vF s 5), .int .i64 (vF s 7), .int .i64 (vF s 9)], .bool true]) ∧ Below w.heap.size w w' := by
  refine (read_impl s w hE).mono ?_
  rintro e w' ⟨⟨_, rfl⟩ | ⟨hn, _⟩, hb⟩
  · exact ⟨rfl, hb⟩
  · exact absurd h hn
theorem impl_no (s : ByteArray) (w : World) (hE : Env w) (h : ¬ vOk s) :
    Calls Tryd.prog 7 #[.string s] w fun e w' => e = .returned (.tuple #[.agg #[.int .i64 0, .int .i64 0, .int .i64 0, .int .i64 0, .int .i64 0], .bool false]) ∧ Below w.heap.size w w' := by
  refine (read_impl s w hE).mono ?_
  rintro e w' ⟨⟨hy, _⟩ | ⟨_, rfl⟩, hb⟩
  · exact absurd hy h
  · exact ⟨rfl, hb⟩

theorem lit_text : textOf 1 0 0 0 0 = ⟨#[119, 97, 108, 107, 101, 114, 32, 49, 32, 97, 116, 32, 48, 32, 99, 111, 105, 110, 115, 32, 48, 32, 111, 114, 100, 101, 114, 32, 48, 32, 99, 111, 100, 101, 32, 48]⟩ := by decide +kernel
theorem empty_list : (⟨#[]⟩ : ByteArray).toList.isEmpty = true := by decide +kernel
theorem bad_text {i a n s l : Int} (h : ¬ (boundsB i n s l = true ∧ inB a 0 31 = true)) : textOf i a n s l = ⟨#[]⟩ := by unfold textOf; rw [if_neg h]
theorem good_text {i a n s l : Int} (h : boundsB i n s l = true ∧ inB a 0 31 = true) : (textOf i a n s l).toList.isEmpty = false ∧ vOk (textOf i a n s l) ∧ vF (textOf i a n s l) 1 = i ∧ vF (textOf i a n s l) 3 = a ∧ vF (textOf i a n s l) 5 = n ∧ vF (textOf i a n s l) 7 = s ∧ vF (textOf i a n s l) 9 = l := by
  have e : textOf i a n s l = X9 i a n s l := by unfold textOf; rw [if_pos h]
  obtain ⟨hs, hl, ⟨v1, v3, v5, v7, v9⟩, _⟩ := back h.1 h.2
  rw [← e] at hs hl v1 v3 v5 v7 v9
  refine ⟨?_, ⟨hs, hl, ?_⟩, v1, v3, v5, v7, v9⟩
  · generalize textOf i a n s l = x at *
    have : x.data.toList ≠ [] := by intro g; rw [g] at hl; simp [words] at hl
    rw [Lib.toList_data]
    cases g : x.data.toList with
    | nil => exact absurd g this
    | cons _ _ => rfl
  · unfold vText
    rw [v1, v3, v5, v7, v9]

/-- What one more box leaves of an older one. -/
def Fv (w : World) (r : Nat) (i a n s l : Int) : Prop := w.cell? ⟨r, 0, none⟩ = some (.int .i64 i) ∧ w.cell? ⟨r, 1, none⟩ = some (.int .i64 a) ∧ w.cell? ⟨r, 2, none⟩ = some (.int .i64 n) ∧ w.cell? ⟨r, 3, none⟩ = some (.int .i64 s) ∧ w.cell? ⟨r, 4, none⟩ = some (.int .i64 l) ∧ r < w.heap.size
theorem Fv.new (w : World) (i a n s l : Int) : Fv (w.alloc (.cells #[.int .i64 i, .int .i64 a, .int .i64 n, .int .i64 s, .int .i64 l] 24)) w.heap.size i a n s l := ⟨by simp, by simp, by simp, by simp, by simp, by simp⟩
theorem Fv.below {w w' : World} {r : Nat} {i a n s l : Int} (h : Fv w r i a n s l) (hb : Below w.heap.size w w') : Fv w' r i a n s l := by
  obtain ⟨c0, c1, c2, c3, c4, hr⟩ := h
  exact ⟨(bcell' hb hr).trans c0, (bcell' hb hr).trans c1, (bcell' hb hr).trans c2, (bcell' hb hr).trans c3, (bcell' hb hr).trans c4, Nat.lt_of_lt_of_le hr hb.size⟩
theorem balloc (w : World) (o : Obj) : Below w.heap.size w (w.alloc o) := (Below.refl _ _).alloc (Nat.le_refl _) _

set_option maxHeartbeats 2000000 in
theorem law_text (a0 : Option Addr) (l0 c0 : Nat) (y0 : List Int) (a1 : Option Addr) (l1 c1 : Nat) (y1 : List Int) (w : World) (h0 : IsRow w a0 l0 c0 y0) (h1 : IsRow w a1 l1 c1 y1) (hE' : Env w) :
    Calls Tryd.prog 3 #[.slice a0 l0 c0, .slice a1 l1 c1] w fun e w' => e = .returned (.bool true) ∧ Below w.heap.size w w' := by
  have hE : Hid (Env w) := hE'
  have H0 : Hid (IsRow w a0 l0 c0 y0) := h0
  have H1 : Hid (IsRow w a1 l1 c1 y1) := h1
  clear hE' h0 h1
  by_cases g0 : (1048576 : Int) < (l0 : Int)
  · go_enter Tryd.func3, Tryd.ntmps3
    go_wp2
    go_ret
    exact ⟨rfl, Below.refl _ _⟩
  by_cases g1 : (1048576 : Int) < (l1 : Int)
  · go_enter Tryd.func3, Tryd.ntmps3
    go_wp2
    go_ret
    exact ⟨rfl, Below.refl _ _⟩
  go_enter Tryd.func3, Tryd.ntmps3
  go_wp2_with fail
  refine (draw_text a0 l0 c0 y0 _ H0.out).mono ?_
  rintro e w1 ⟨i, a, n, s, l, rfl, hs, hb1⟩
  clear H0 hs
  go_wp2_with fail
  have B1 : Hid (Below w.heap.size w _) := bthen hb1 (balloc w1 (.cells #[.int .i64 i, .int .i64 a, .int .i64 n, .int .i64 s, .int .i64 l] 24))
  have F1 : Hid (Fv _ w1.heap.size i a n s l) := Fv.new w1 i a n s l
  clear hb1
  refine (text_impl i a n s l _ (hE.out.on B1.out).tab).mono ?_
  rintro e w2 ⟨rfl, hb2⟩
  have B2 : Hid (Below w.heap.size w w2) := bthen B1.out hb2
  have F2 : Hid (Fv w2 w1.heap.size i a n s l) := F1.out.below hb2
  clear hb2 B1 F1
  have hts := text_size i a n s l
  go_wp2_with fail
  refine (draw_read a1 l1 c1 y1 _ (H1.out.below B2.out)).mono ?_
  rintro e w3 ⟨t, rfl, ht, hb3⟩
  have B3 : Hid (Below w.heap.size w w3) := bthen B2.out hb3
  have F3 : Hid (Fv w3 w1.heap.size i a n s l) := F2.out.below hb3
  clear hb3 B2 F2 H1
  by_cases hv : vOk t
  · go_wp2_with fail
    refine (impl_yes t _ (hE.out.on B3.out) hv).mono ?_
    rintro e w4 ⟨rfl, hb4⟩
    have B4 : Hid (Below w.heap.size w w4) := bthen B3.out hb4
    have F4 : Hid (Fv w4 w1.heap.size i a n s l) := F3.out.below hb4
    clear hb4 B3 F3
    go_wp2_with fail
    have B5 : Hid (Below w.heap.size w _) := bthen B4.out (balloc w4 (.cells #[.int .i64 (vF t 1), .int .i64 (vF t 3), .int .i64 (vF t 5), .int .i64 (vF t 7), .int .i64 (vF t 9)] 24))
    have F5 : Hid (Fv _ w1.heap.size i a n s l) := F4.out.below (balloc w4 (.cells #[.int .i64 (vF t 1), .int .i64 (vF t 3), .int .i64 (vF t 5), .int .i64 (vF t 7), .int .i64 (vF t 9)] 24))
    have G5 : Hid (Fv _ w4.heap.size (vF t 1) (vF t 3) (vF t 5) (vF t 7) (vF t 9)) := Fv.new w4 (vF t 1) (vF t 3) (vF t 5) (vF t 7) (vF t 9)
    refine (spec_yes t _ hv).mono ?_
    rintro e w6 ⟨rfl, hb6⟩
    have B6 : Hid (Below w.heap.size w (w6.alloc (.cells #[.int .i64 (vF t 1), .int .i64 (vF t 3), .int .i64 (vF t 5), .int .i64 (vF t 7), .int .i64 (vF t 9)] 24))) := bthen (bthen B5.out hb6) (balloc w6 (.cells #[.int .i64 (vF t 1), .int .i64 (vF t 3), .int .i64 (vF t 5), .int .i64 (vF t 7), .int .i64 (vF t 9)] 24))
    have F6 : Hid (Fv (w6.alloc (.cells #[.int .i64 (vF t 1), .int .i64 (vF t 3), .int .i64 (vF t 5), .int .i64 (vF t 7), .int .i64 (vF t 9)] 24)) w1.heap.size i a n s l) := (F5.out.below hb6).below (balloc w6 (.cells #[.int .i64 (vF t 1), .int .i64 (vF t 3), .int .i64 (vF t 5), .int .i64 (vF t 7), .int .i64 (vF t 9)] 24))
    have G6 : Hid (Fv (w6.alloc (.cells #[.int .i64 (vF t 1), .int .i64 (vF t 3), .int .i64 (vF t 5), .int .i64 (vF t 7), .int .i64 (vF t 9)] 24)) w4.heap.size (vF t 1) (vF t 3) (vF t 5) (vF t 7) (vF t 9)) := (G5.out.below hb6).below (balloc w6 (.cells #[.int .i64 (vF t 1), .int .i64 (vF t 3), .int .i64 (vF t 5), .int .i64 (vF t 7), .int .i64 (vF t 9)] 24))
    have I6 : Hid (Fv (w6.alloc (.cells #[.int .i64 (vF t 1), .int .i64 (vF t 3), .int .i64 (vF t 5), .int .i64 (vF t 7), .int .i64 (vF t 9)] 24)) w6.heap.size (vF t 1) (vF t 3) (vF t 5) (vF t 7) (vF t 9)) := Fv.new w6 (vF t 1) (vF t 3) (vF t 5) (vF t 7) (vF t 9)
    obtain ⟨x0, x1, x2, x3, x4, hr⟩ := F5.out.below hb6
    clear hb6 B4 F4 B5 F5 G5
    go_wp2_with fail
    refine (text_spec i a n s l _).mono ?_
    rintro e w7 ⟨rfl, hb7⟩
    have B7 : Hid (Below w.heap.size w w7) := bthen B6.out hb7
    have F7 : Hid (Fv w7 w1.heap.size i a n s l) := F6.out.below hb7
    have G7 := G6.out.below hb7
    have I7 := I6.out.below hb7
    clear hb7 B6 F6 G6 I6 x0 x1 x2 x3 x4 hr
    obtain ⟨g0', g1', g2', g3', g4', gr⟩ := G7
    obtain ⟨i0, i1, i2, i3, i4, ir⟩ := I7
    obtain ⟨f0, f1, f2, f3, f4, fr⟩ := F7.out
    go_wp2_with fail
    refine (text_impl _ _ _ _ _ _ (hE.out.on B7.out).tab).mono ?_
    rintro e w8 ⟨rfl, hb8⟩
    rw [show textOf (vF t 1) (vF t 3) (vF t 5) (vF t 7) (vF t 9) = t from hv.2.2]
    have B8 : Hid (Below w.heap.size w w8) := bthen B7.out hb8
    have F8 : Hid (Fv w8 w1.heap.size i a n s l) := F7.out.below hb8
    clear hb8 B7 F7 g0' g1' g2' g3' g4' gr i0 i1 i2 i3 i4 ir f0 f1 f2 f3 f4 fr
    obtain ⟨f0, f1, f2, f3, f4, fr⟩ := F8.out
    by_cases hin : boundsB i n s l = true ∧ inB a 0 31 = true
    · obtain ⟨he, hk, v1, v3, v5, v7, v9⟩ := good_text hin
      go_wp2_with fail
      refine (impl_yes _ _ (hE.out.on B8.out) hk).mono ?_
      rintro e w9 ⟨rfl, hb9⟩
      rw [v1, v3, v5, v7, v9]
      have B9 : Hid (Below w.heap.size w w9) := bthen B8.out hb9
      have F9 := F8.out.below hb9
      clear hb9 B8 F8 f0 f1 f2 f3 f4 fr
      obtain ⟨f0, f1, f2, f3, f4, fr⟩ := F9
      generalize textOf i a n s l = tx at *
      go_wp2
      go_ret
      exact ⟨rfl, bthen B9.out (balloc w9 _)⟩
    · have he := bad_text hin
      rw [he]
      have he' := empty_list
      go_wp2_with fail
      refine (text_impl 1 0 0 0 0 _ (hE.out.on B8.out).tab).mono ?_
      rintro e w9 ⟨rfl, hb9⟩
      rw [lit_text]
      have B9 : Hid (Below w.heap.size w w9) := bthen B8.out hb9
      clear hb9 B8 F8 f0 f1 f2 f3 f4 fr
      go_wp2
      go_ret
      exact ⟨rfl, B9.out⟩
  · go_wp2_with fail
    refine (impl_no t _ (hE.out.on B3.out) hv).mono ?_
    rintro e w4 ⟨rfl, hb4⟩
    have B4 : Hid (Below w.heap.size w w4) := bthen B3.out hb4
    have F4 : Hid (Fv w4 w1.heap.size i a n s l) := F3.out.below hb4
    clear hb4 B3 F3
    go_wp2_with fail
    have B5 : Hid (Below w.heap.size w _) := bthen B4.out (balloc w4 (.cells #[.int .i64 0, .int .i64 0, .int .i64 0, .int .i64 0, .int .i64 0] 24))
    have F5 : Hid (Fv _ w1.heap.size i a n s l) := F4.out.below (balloc w4 (.cells #[.int .i64 0, .int .i64 0, .int .i64 0, .int .i64 0, .int .i64 0] 24))
    have G5 : Hid (Fv _ w4.heap.size 0 0 0 0 0) := Fv.new w4 0 0 0 0 0
    refine (spec_no t _ hv).mono ?_
    rintro e w6 ⟨rfl, hb6⟩
    have B6 : Hid (Below w.heap.size w (w6.alloc (.cells #[.int .i64 0, .int .i64 0, .int .i64 0, .int .i64 0, .int .i64 0] 24))) := bthen (bthen B5.out hb6) (balloc w6 (.cells #[.int .i64 0, .int .i64 0, .int .i64 0, .int .i64 0, .int .i64 0] 24))
    have F6 : Hid (Fv (w6.alloc (.cells #[.int .i64 0, .int .i64 0, .int .i64 0, .int .i64 0, .int .i64 0] 24)) w1.heap.size i a n s l) := (F5.out.below hb6).below (balloc w6 (.cells #[.int .i64 0, .int .i64 0, .int .i64 0, .int .i64 0, .int .i64 0] 24))
    have G6 : Hid (Fv (w6.alloc (.cells #[.int .i64 0, .int .i64 0, .int .i64 0, .int .i64 0, .int .i64 0] 24)) w4.heap.size 0 0 0 0 0) := (G5.out.below hb6).below (balloc w6 (.cells #[.int .i64 0, .int .i64 0, .int .i64 0, .int .i64 0, .int .i64 0] 24))
    have I6 : Hid (Fv (w6.alloc (.cells #[.int .i64 0, .int .i64 0, .int .i64 0, .int .i64 0, .int .i64 0] 24)) w6.heap.size 0 0 0 0 0) := Fv.new w6 0 0 0 0 0
    obtain ⟨x0, x1, x2, x3, x4, hr⟩ := F5.out.below hb6
    clear hb6 B4 F4 B5 F5 G5
    go_wp2_with fail
    refine (text_spec i a n s l _).mono ?_
    rintro e w7 ⟨rfl, hb7⟩
    have B7 : Hid (Below w.heap.size w w7) := bthen B6.out hb7
    have F7 : Hid (Fv w7 w1.heap.size i a n s l) := F6.out.below hb7
    have G7 := G6.out.below hb7
    have I7 := I6.out.below hb7
    clear hb7 B6 F6 G6 I6 x0 x1 x2 x3 x4 hr
    obtain ⟨g0', g1', g2', g3', g4', gr⟩ := G7
    obtain ⟨i0, i1, i2, i3, i4, ir⟩ := I7
    obtain ⟨f0, f1, f2, f3, f4, fr⟩ := F7.out
    obtain ⟨w8, B8, e8⟩ : ∃ w8, Hid (Below w.heap.size w w8) ∧ w8 = w7 := ⟨w7, B7, rfl⟩
    subst e8
    have F8 := F7
    clear B7 F7
    by_cases hin : boundsB i n s l = true ∧ inB a 0 31 = true
    · obtain ⟨he, hk, v1, v3, v5, v7, v9⟩ := good_text hin
      go_wp2_with fail
      refine (impl_yes _ _ (hE.out.on B8.out) hk).mono ?_
      rintro e w9 ⟨rfl, hb9⟩
      rw [v1, v3, v5, v7, v9]
      have B9 : Hid (Below w.heap.size w w9) := bthen B8.out hb9
      have F9 := F8.out.below hb9
      clear hb9 B8 F8 f0 f1 f2 f3 f4 fr
      obtain ⟨f0, f1, f2, f3, f4, fr⟩ := F9
      generalize textOf i a n s l = tx at *
      go_wp2
      go_ret
      exact ⟨rfl, bthen B9.out (balloc w9 _)⟩
    · have he := bad_text hin
      rw [he]
      have he' := empty_list
      go_wp2_with fail
      refine (text_impl 1 0 0 0 0 _ (hE.out.on B8.out).tab).mono ?_
      rintro e w9 ⟨rfl, hb9⟩
      rw [lit_text]
      have B9 : Hid (Below w.heap.size w w9) := bthen B8.out hb9
      clear hb9 B8 F8 f0 f1 f2 f3 f4 fr
      go_wp2
      go_ret
      exact ⟨rfl, B9.out⟩
end Go.Proofs.YtkojpodfdbkhbaaDoor
