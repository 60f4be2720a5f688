/- The walks of WlkText, the program's and the model's; conditions: the table of powers of ten lies as the text lays it (the program's). -/
import Derived.Test.YtpfemjenhnnfmaaDoorDigits
import Derived.Test.YtpfemjenhnnfmaaDoorShelf
import Derived.Lib.AppendIntMem
import Derived.Deep.RegionHeld3
namespace Go.Proofs.YtpfemjenhnnfmaaDoor
open Go.RowKit
set_option linter.unusedVariables false

theorem inB_true {n lo hi : Int} : inB n lo hi = true ↔ lo ≤ n ∧ n ≤ hi := by simp [inB]

def DD (n : Int) : ByteArray := ⟨(Lib.decDigits n.toNat).toArray⟩
theorem DD_size (n : Int) (h : n ≤ 100000) : (DD n).size ≤ 6 := by
  have := dec_len n.toNat (by omega)
  simpa [DD, ByteArray.size] using this
theorem digits_D (n : Int) (h0 : 0 ≤ n) (h1 : n ≤ 100000) (w : World) :
    Calls Tryd.prog 25 #[.int .i64 n] w fun e w' => e = .returned (.string (DD n)) ∧ Below w.heap.size w w' := by
  obtain ⟨N, rfl⟩ := Int.eq_ofNat_of_zero_le h0
  exact digits_spec N (by omega) w
theorem itoa_small (n : Int) (h0 : 0 ≤ n) (h1 : n ≤ 99) (w : World) :
    Calls Tryd.prog 13 #[.int .i64 n] w fun e w' => e = .returned (.string (DD n)) ∧ Below w.heap.size w w' := by
  obtain ⟨N, rfl⟩ := Int.eq_ofNat_of_zero_le h0
  refine (Tryd.strconv_Itoa_small N (by omega) w).mono ?_
  rintro e w' ⟨rfl, rfl⟩
  exact ⟨rfl, Below.refl _ _⟩
theorem itoa_tab (n : Int) (h0 : 0 ≤ n) (h1 : n ≤ 100000) (w : World) (ht : Lib.TabIs Tryd.prog w "internal/strconv.uint64pow10" .u64 Lib.pow10Tab) :
    Calls Tryd.prog 13 #[.int .i64 n] w fun e w' => e = .returned (.string (DD n)) ∧ Below w.heap.size w w' := by
  refine (Tryd.strconv_Itoa n (by omega) (by omega) w ht).mono ?_
  rintro e w' ⟨rfl, k, os, rfl⟩
  refine ⟨?_, Lib.below_grow _ _ (Nat.le_refl _) _ _⟩
  rw [Lib.itoa, if_neg (by omega)]
  rfl

/-- The text of a walker, part by part, as both write it. -/
def X1 (i : Int) : ByteArray := (⟨#[119, 97, 108, 107, 101, 114, 32]⟩ : ByteArray) ++ DD i
def X2 (i : Int) : ByteArray := X1 i ++ ⟨#[32, 97, 116, 32]⟩
def X3 (i a : Int) : ByteArray := X2 i ++ DD a
def X4 (i a : Int) : ByteArray := X3 i a ++ ⟨#[32, 99, 111, 105, 110, 115, 32]⟩
def X5 (i a n : Int) : ByteArray := X4 i a ++ DD n
def X6 (i a n : Int) : ByteArray := X5 i a n ++ ⟨#[32, 111, 114, 100, 101, 114, 32]⟩
def X7 (i a n s : Int) : ByteArray := X6 i a n ++ DD s
def X8 (i a n s : Int) : ByteArray := X7 i a n s ++ ⟨#[32, 99, 111, 100, 101, 32]⟩
def X9 (i a n s l : Int) : ByteArray := X8 i a n s ++ DD l
theorem X1_size (i : Int) (zi : (DD i).size ≤ 6) : (X1 i).size ≤ 20 := by
  unfold X1; rw [ByteArray.size_append]; first | omega | (simp only [ByteArray.size_mk', List.size_toArray, List.length_cons, List.length_nil] at *; omega)
theorem X2_size (i : Int) (zi : (DD i).size ≤ 6) : (X2 i).size ≤ 40 := by
  have := X1_size i zi; unfold X2; rw [ByteArray.size_append]; first | omega | (simp only [ByteArray.size_mk', List.size_toArray, List.length_cons, List.length_nil] at *; omega)
theorem X3_size (i a : Int) (zi : (DD i).size ≤ 6) (za : (DD a).size ≤ 6) : (X3 i a).size ≤ 60 := by
  have := X2_size i zi; unfold X3; rw [ByteArray.size_append]; first | omega | (simp only [ByteArray.size_mk', List.size_toArray, List.length_cons, List.length_nil] at *; omega)
theorem X4_size (i a : Int) (zi : (DD i).size ≤ 6) (za : (DD a).size ≤ 6) : (X4 i a).size ≤ 80 := by
  have := X3_size i a zi za; unfold X4; rw [ByteArray.size_append]; first | omega | (simp only [ByteArray.size_mk', List.size_toArray, List.length_cons, List.length_nil] at *; omega)
theorem X5_size (i a n : Int) (zi : (DD i).size ≤ 6) (za : (DD a).size ≤ 6) (zn : (DD n).size ≤ 6) : (X5 i a n).size ≤ 100 := by
  have := X4_size i a zi za; unfold X5; rw [ByteArray.size_append]; first | omega | (simp only [ByteArray.size_mk', List.size_toArray, List.length_cons, List.length_nil] at *; omega)
theorem X6_size (i a n : Int) (zi : (DD i).size ≤ 6) (za : (DD a).size ≤ 6) (zn : (DD n).size ≤ 6) : (X6 i a n).size ≤ 120 := by
  have := X5_size i a n zi za zn; unfold X6; rw [ByteArray.size_append]; first | omega | (simp only [ByteArray.size_mk', List.size_toArray, List.length_cons, List.length_nil] at *; omega)
theorem X7_size (i a n s : Int) (zi : (DD i).size ≤ 6) (za : (DD a).size ≤ 6) (zn : (DD n).size ≤ 6) (zs : (DD s).size ≤ 6) : (X7 i a n s).size ≤ 140 := by
  have := X6_size i a n zi za zn; unfold X7; rw [ByteArray.size_append]; first | omega | (simp only [ByteArray.size_mk', List.size_toArray, List.length_cons, List.length_nil] at *; omega)
theorem X8_size (i a n s : Int) (zi : (DD i).size ≤ 6) (za : (DD a).size ≤ 6) (zn : (DD n).size ≤ 6) (zs : (DD s).size ≤ 6) : (X8 i a n s).size ≤ 160 := by
  have := X7_size i a n s zi za zn zs; unfold X8; rw [ByteArray.size_append]; first | omega | (simp only [ByteArray.size_mk', List.size_toArray, List.length_cons, List.length_nil] at *; omega)
theorem X9_size (i a n s l : Int) (zi : (DD i).size ≤ 6) (za : (DD a).size ≤ 6) (zn : (DD n).size ≤ 6) (zs : (DD s).size ≤ 6) (zl : (DD l).size ≤ 6) : (X9 i a n s l).size ≤ 180 := by
  have := X8_size i a n s zi za zn zs; unfold X9; rw [ByteArray.size_append]; first | omega | (simp only [ByteArray.size_mk', List.size_toArray, List.length_cons, List.length_nil] at *; omega)
theorem cat (x y : ByteArray) (hx : x.size ≤ 1000) (hy : y.size ≤ 1000) : ∀ w : World, (Op.stringOp .add x y).run Tryd.prog w = .ok (.string (x ++ y)) w := fun w => run_string_add_sum w x y (by omega)

def textOf (i a n s l : Int) : ByteArray := if boundsB i n s l = true ∧ inB a 0 31 = true then X9 i a n s l else ⟨#[]⟩

set_option maxHeartbeats 1000000 in
theorem text_spec (i a n s l : Int) (w : World) :
    Calls Tryd.prog 24 #[.agg #[.int .i64 i, .int .i64 a, .int .i64 n, .int .i64 s, .int .i64 l]] w fun e w' => e = .returned (.string (textOf i a n s l)) ∧ Below w.heap.size w w' := by
  cases h1 : inB i 1 9
  · go_enter Tryd.func24, Tryd.ntmps24
    go_wp2_with (go_at_call 23; refine (in_spec _ _ _ _).mono ?_; rintro e w' ⟨rfl, rfl⟩)
    go_ret
    exact ⟨by simp [textOf, boundsB, *], by repeat (first | exact Below.refl _ _ | refine bthen ?_ (by assumption) | apply Below.drew | apply bdrewN | refine Below.alloc ?_ (by simp) _)⟩
  ·
    cases h0 : inB a 0 31
    · go_enter Tryd.func24, Tryd.ntmps24
      go_wp2_with (go_at_call 23; refine (in_spec _ _ _ _).mono ?_; rintro e w' ⟨rfl, rfl⟩)
      go_ret
      exact ⟨by simp [textOf, boundsB, *], by repeat (first | exact Below.refl _ _ | refine bthen ?_ (by assumption) | apply Below.drew | apply bdrewN | refine Below.alloc ?_ (by simp) _)⟩
    ·
      cases h2 : inB n 0 99
      · go_enter Tryd.func24, Tryd.ntmps24
        go_wp2_with (go_at_call 23; refine (in_spec _ _ _ _).mono ?_; rintro e w' ⟨rfl, rfl⟩)
        go_ret
        exact ⟨by simp [textOf, boundsB, *], by repeat (first | exact Below.refl _ _ | refine bthen ?_ (by assumption) | apply Below.drew | apply bdrewN | refine Below.alloc ?_ (by simp) _)⟩
      ·
        cases h3 : inB s 0 900
        · go_enter Tryd.func24, Tryd.ntmps24
          go_wp2_with (go_at_call 23; refine (in_spec _ _ _ _).mono ?_; rintro e w' ⟨rfl, rfl⟩)
          go_ret
          exact ⟨by simp [textOf, boundsB, *], by repeat (first | exact Below.refl _ _ | refine bthen ?_ (by assumption) | apply Below.drew | apply bdrewN | refine Below.alloc ?_ (by simp) _)⟩
        ·
          cases h4 : inB l 0 9
          · go_enter Tryd.func24, Tryd.ntmps24
            go_wp2_with (go_at_call 23; refine (in_spec _ _ _ _).mono ?_; rintro e w' ⟨rfl, rfl⟩)
            go_ret
            exact ⟨by simp [textOf, boundsB, *], by repeat (first | exact Below.refl _ _ | refine bthen ?_ (by assumption) | apply Below.drew | apply bdrewN | refine Below.alloc ?_ (by simp) _)⟩
          ·
            obtain ⟨i1, i2⟩ := inB_true.1 h1
            obtain ⟨a1, a2⟩ := inB_true.1 h0
            obtain ⟨n1, n2⟩ := inB_true.1 h2
            obtain ⟨s1, s2⟩ := inB_true.1 h3
            obtain ⟨l1, l2⟩ := inB_true.1 h4
            have zi := DD_size i (by omega)
            have za := DD_size a (by omega)
            have zn := DD_size n (by omega)
            have zs := DD_size s (by omega)
            have zl := DD_size l (by omega)
            have c1 : ∀ w : World, (Op.stringOp .add (⟨#[119, 97, 108, 107, 101, 114, 32]⟩) (DD i)).run Tryd.prog w = .ok (.string (X1 i)) w := cat _ _ (by decide) (by omega)
            have c2 : ∀ w : World, (Op.stringOp .add (X1 i) (⟨#[32, 97, 116, 32]⟩)).run Tryd.prog w = .ok (.string (X2 i)) w := cat _ _ (by have := X1_size i zi; omega) (by decide)
            have c3 : ∀ w : World, (Op.stringOp .add (X2 i) (DD a)).run Tryd.prog w = .ok (.string (X3 i a)) w := cat _ _ (by have := X2_size i zi; omega) (by omega)
            have c4 : ∀ w : World, (Op.stringOp .add (X3 i a) (⟨#[32, 99, 111, 105, 110, 115, 32]⟩)).run Tryd.prog w = .ok (.string (X4 i a)) w := cat _ _ (by have := X3_size i a zi za; omega) (by decide)
            have c5 : ∀ w : World, (Op.stringOp .add (X4 i a) (DD n)).run Tryd.prog w = .ok (.string (X5 i a n)) w := cat _ _ (by have := X4_size i a zi za; omega) (by omega)
            have c6 : ∀ w : World, (Op.stringOp .add (X5 i a n) (⟨#[32, 111, 114, 100, 101, 114, 32]⟩)).run Tryd.prog w = .ok (.string (X6 i a n)) w := cat _ _ (by have := X5_size i a n zi za zn; omega) (by decide)
            have c7 : ∀ w : World, (Op.stringOp .add (X6 i a n) (DD s)).run Tryd.prog w = .ok (.string (X7 i a n s)) w := cat _ _ (by have := X6_size i a n zi za zn; omega) (by omega)
            have c8 : ∀ w : World, (Op.stringOp .add (X7 i a n s) (⟨#[32, 99, 111, 100, 101, 32]⟩)).run Tryd.prog w = .ok (.string (X8 i a n s)) w := cat _ _ (by have := X7_size i a n s zi za zn zs; omega) (by decide)
            have c9 : ∀ w : World, (Op.stringOp .add (X8 i a n s) (DD l)).run Tryd.prog w = .ok (.string (X9 i a n s l)) w := cat _ _ (by have := X8_size i a n s zi za zn zs; omega) (by omega)
            go_enter Tryd.func24, Tryd.ntmps24
            go_wp2_with (go_at_call 23; refine (in_spec _ _ _ _).mono ?_; rintro e w' ⟨rfl, rfl⟩)
            go_region_held3 (fun w' => (∀ b o, b < w.heap.size + 1 → w'.cell? ⟨b, o, none⟩ = (w.alloc (.cells #[.int .i64 i, .int .i64 a, .int .i64 n, .int .i64 s, .int .i64 l] 24)).cell? ⟨b, o, none⟩) ∧ w.heap.size + 1 ≤ w'.heap.size) (first | (refine keepS ?_ (by assumption); assumption) | exact ⟨fun _ _ _ => rfl, by simp⟩ | assumption)
              (first | (go_at_call 25; refine (digits_D _ (by omega) (by omega) _).mono ?_; rintro e w' ⟨rfl, hb⟩))
            go_wp2
            go_ret
            exact ⟨by simp [textOf, boundsB, *], by repeat (first | exact Below.refl _ _ | refine bthen ?_ (by assumption) | apply Below.drew | apply bdrewN | refine Below.alloc ?_ (by simp) _)⟩

set_option maxHeartbeats 1000000 in
theorem text_impl (i a n s l : Int) (w : World) (ht : Lib.TabBelow Tryd.prog w.heap.size w "internal/strconv.uint64pow10" .u64 Lib.pow10Tab) :
    Calls Tryd.prog 41 #[.agg #[.int .i64 i, .int .i64 a, .int .i64 n, .int .i64 s, .int .i64 l]] w fun e w' => e = .returned (.string (textOf i a n s l)) ∧ Below w.heap.size w w' := by
  have HT : Hid (Lib.TabBelow Tryd.prog w.heap.size w "internal/strconv.uint64pow10" .u64 Lib.pow10Tab) := ht
  clear ht
  cases h1 : boundsB i n s l
  · go_enter Tryd.func41, Tryd.ntmps41
    go_wp2_with (first | (go_at_call 54; refine (bounds_impl _ _ _ _ _ _).mono ?_; rintro e w' ⟨rfl, hb⟩; obtain ⟨hc, hf⟩ := bcell hb) | (go_at_call 55; refine (in_impl _ _ _ _).mono ?_; rintro e w' ⟨rfl, rfl⟩))
    go_ret
    exact ⟨by simp [textOf, *], by repeat (first | exact Below.refl _ _ | refine bthen ?_ (by assumption) | apply Below.drew | apply bdrewN | refine Below.alloc ?_ (by simp) _)⟩
  · have hh := h1
    simp only [boundsB, Bool.and_eq_true, inB_true] at hh
    obtain ⟨⟨i1, i2⟩, ⟨n1, n2⟩, ⟨s1, s2⟩, l1, l2⟩ := hh
    cases h0 : inB a 0 31
    · go_enter Tryd.func41, Tryd.ntmps41
      go_wp2_with (first | (go_at_call 54; refine (bounds_impl _ _ _ _ _ _).mono ?_; rintro e w' ⟨rfl, hb⟩; obtain ⟨hc, hf⟩ := bcell hb) | (go_at_call 55; refine (in_impl _ _ _ _).mono ?_; rintro e w' ⟨rfl, rfl⟩))
      go_ret
      exact ⟨by simp [textOf, *], by repeat (first | exact Below.refl _ _ | refine bthen ?_ (by assumption) | apply Below.drew | apply bdrewN | refine Below.alloc ?_ (by simp) _)⟩
    · obtain ⟨a1, a2⟩ := inB_true.1 h0
      have zi := DD_size i (by omega)
      have za := DD_size a (by omega)
      have zn := DD_size n (by omega)
      have zs := DD_size s (by omega)
      have zl := DD_size l (by omega)
      have c1 : ∀ w : World, (Op.stringOp .add (⟨#[119, 97, 108, 107, 101, 114, 32]⟩) (DD i)).run Tryd.prog w = .ok (.string (X1 i)) w := cat _ _ (by decide) (by omega)
      have c2 : ∀ w : World, (Op.stringOp .add (X1 i) (⟨#[32, 97, 116, 32]⟩)).run Tryd.prog w = .ok (.string (X2 i)) w := cat _ _ (by have := X1_size i zi; omega) (by decide)
      have c3 : ∀ w : World, (Op.stringOp .add (X2 i) (DD a)).run Tryd.prog w = .ok (.string (X3 i a)) w := cat _ _ (by have := X2_size i zi; omega) (by omega)
      have c4 : ∀ w : World, (Op.stringOp .add (X3 i a) (⟨#[32, 99, 111, 105, 110, 115, 32]⟩)).run Tryd.prog w = .ok (.string (X4 i a)) w := cat _ _ (by have := X3_size i a zi za; omega) (by decide)
      have c5 : ∀ w : World, (Op.stringOp .add (X4 i a) (DD n)).run Tryd.prog w = .ok (.string (X5 i a n)) w := cat _ _ (by have := X4_size i a zi za; omega) (by omega)
      have c6 : ∀ w : World, (Op.stringOp .add (X5 i a n) (⟨#[32, 111, 114, 100, 101, 114, 32]⟩)).run Tryd.prog w = .ok (.string (X6 i a n)) w := cat _ _ (by have := X5_size i a n zi za zn; omega) (by decide)
      have c7 : ∀ w : World, (Op.stringOp .add (X6 i a n) (DD s)).run Tryd.prog w = .ok (.string (X7 i a n s)) w := cat _ _ (by have := X6_size i a n zi za zn; omega) (by omega)
      have c8 : ∀ w : World, (Op.stringOp .add (X7 i a n s) (⟨#[32, 99, 111, 100, 101, 32]⟩)).run Tryd.prog w = .ok (.string (X8 i a n s)) w := cat _ _ (by have := X7_size i a n s zi za zn zs; omega) (by decide)
      have c9 : ∀ w : World, (Op.stringOp .add (X8 i a n s) (DD l)).run Tryd.prog w = .ok (.string (X9 i a n s l)) w := cat _ _ (by have := X8_size i a n s zi za zn zs; omega) (by omega)
      go_enter Tryd.func41, Tryd.ntmps41
      go_wp2_with fail
      refine (bounds_impl _ _ _ _ _ _).mono ?_
      rintro e w1 ⟨rfl, hb1⟩
      have hs1 : (∀ b o, b < w.heap.size + 1 → w1.cell? ⟨b, o, none⟩ = (w.alloc (.cells #[.int .i64 i, .int .i64 a, .int .i64 n, .int .i64 s, .int .i64 l] 24)).cell? ⟨b, o, none⟩) ∧ w.heap.size + 1 ≤ w1.heap.size := keepS ⟨fun _ _ _ => rfl, by simp⟩ hb1
      go_wp2_with (go_at_call 55; refine (in_impl _ _ _ _).mono ?_; rintro e w' ⟨rfl, rfl⟩)
      go_region_held3 (fun w' => (∀ b o, b < w.heap.size + 1 → w'.cell? ⟨b, o, none⟩ = (w.alloc (.cells #[.int .i64 i, .int .i64 a, .int .i64 n, .int .i64 s, .int .i64 l] 24)).cell? ⟨b, o, none⟩) ∧ w.heap.size + 1 ≤ w'.heap.size) (first | (refine keepS ?_ (by assumption); assumption) | exact ⟨fun _ _ _ => rfl, by simp⟩ | assumption)
        (first | (go_at_call 13; refine (itoa_tab _ (by omega) (by omega) _ (HT.out _ (by repeat (first | exact Below.refl _ _ | refine bthen ?_ (by assumption) | apply Below.drew | apply bdrewN | refine Below.alloc ?_ (by simp) _)))).mono ?_; rintro e w' ⟨rfl, hb⟩))
      go_wp2
      go_ret
      exact ⟨by simp [textOf, *], by repeat (first | exact Below.refl _ _ | refine bthen ?_ (by assumption) | apply Below.drew | apply bdrewN | refine Below.alloc ?_ (by simp) _)⟩

end Go.Proofs.YtpfemjenhnnfmaaDoor
