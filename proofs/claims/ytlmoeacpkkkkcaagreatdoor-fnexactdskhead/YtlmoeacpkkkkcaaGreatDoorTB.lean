/- What is carried: lemmas on lists, cells and draws; conditions: those typed. -/
import Derived.WalkKit
import Derived.ProofKit
import Derived.OpenShut
import Derived.Below
import Derived.BigQuiet
import Derived.Test.YtlmoeacpkkkkcaaGreatDoorRows
import Derived.WalkSpells
import Derived.Lib.ItoaNum
import Derived.Lib.AppendIntMem
import Derived.Deep.RegionHeld3
import Derived.Lib.AtoiAll
import Derived.Lib.Split
import Derived.Lib.SplitLaws
import Derived.Lib.IndexBytes
import Derived.Lib.AtoiErrMem
import Derived.LoopTactic
import Derived.OwnWalk
import Derived.Laws.IdiomCopy
import Derived.Test.YtlmoeacpkkkkcaaGreatDoorTA
import Derived.Test.YtlmoeacpkkkkcaaGreatDoorBase
import Derived.Test.YtlmoeacpkkkkcaaGreatDoorShelf
namespace Go.Proofs.YtlmoeacpkkkkcaaGreatDoor
open Go.RowKit Go.ChangeShapes Go.WideShapes Go.ChangeAt
end Go.Proofs.YtlmoeacpkkkkcaaGreatDoor
namespace Go.Proofs.YtlmoeacpkkkkcaaGreatDoor
open Go.RowKit
set_option linter.unusedVariables false
set_option maxRecDepth 100000
def inB (n lo hi : Int) : Bool := decide (lo ≤ n ∧ n ≤ hi)
theorem in_spec (n lo hi : Int) (w : World) :
    Calls Tryz.prog 17 #[.int .i64 n, .int .i64 lo, .int .i64 hi] w fun e w' => e = .returned (.bool (inB n lo hi)) ∧ w' = w := by
  go_enter Tryz.func17, Tryz.ntmps17
  go_wp2
  all_goals (go_ret; exact ⟨by simp [inB, *] <;> omega, rfl⟩)
theorem in_impl (n lo hi : Int) (w : World) :
    Calls Tryz.prog 42 #[.int .i64 n, .int .i64 lo, .int .i64 hi] w fun e w' => e = .returned (.bool (inB n lo hi)) ∧ w' = w := by
  go_enter Tryz.func42, Tryz.ntmps42
  go_wp2
  all_goals (go_ret; exact ⟨by simp [inB, *] <;> omega, rfl⟩)
end Go.Proofs.YtlmoeacpkkkkcaaGreatDoor
namespace Go.Proofs.YtlmoeacpkkkkcaaGreatDoor
open Go.RowKit
set_option linter.unusedVariables false
set_option maxRecDepth 100000
def boundsB (i n s l : Int) : Bool := inB i 1 9 && (inB n 0 99 && (inB s 0 900 && inB l 0 9))
theorem bounds_impl (i a n s l : Int) (w : World) :
    Calls Tryz.prog 55 #[.agg #[.int .i64 i, .int .i64 a, .int .i64 n, .int .i64 s, .int .i64 l]] w fun e w' => e = .returned (.bool (boundsB i n s l)) ∧ Below w.heap.size w w' := by
  cases h1 : inB i 1 9
  · go_enter Tryz.func55, Tryz.ntmps55
    go_wp2_with (go_at_call 42; refine (in_impl _ _ _ _).mono ?_; rintro e w' ⟨rfl, rfl⟩)
    go_ret
    exact ⟨by simp [boundsB, *], by repeat (first | exact Below.refl _ _ | refine bthen ?_ (by assumption) | apply Below.drew | apply bdrewN | refine Below.alloc ?_ (by simp) _)⟩
  ·
    cases h2 : inB n 0 99
    · go_enter Tryz.func55, Tryz.ntmps55
      go_wp2_with (go_at_call 42; refine (in_impl _ _ _ _).mono ?_; rintro e w' ⟨rfl, rfl⟩)
      go_ret
      exact ⟨by simp [boundsB, *], by repeat (first | exact Below.refl _ _ | refine bthen ?_ (by assumption) | apply Below.drew | apply bdrewN | refine Below.alloc ?_ (by simp) _)⟩
    ·
      cases h3 : inB s 0 900
      · go_enter Tryz.func55, Tryz.ntmps55
        go_wp2_with (go_at_call 42; refine (in_impl _ _ _ _).mono ?_; rintro e w' ⟨rfl, rfl⟩)
        go_ret
        exact ⟨by simp [boundsB, *], by repeat (first | exact Below.refl _ _ | refine bthen ?_ (by assumption) | apply Below.drew | apply bdrewN | refine Below.alloc ?_ (by simp) _)⟩
      · go_enter Tryz.func55, Tryz.ntmps55
        go_wp2_with (go_at_call 42; refine (in_impl _ _ _ _).mono ?_; rintro e w' ⟨rfl, rfl⟩)
        go_ret
        exact ⟨by simp [boundsB, *], by repeat (first | exact Below.refl _ _ | refine bthen ?_ (by assumption) | apply Below.drew | apply bdrewN | refine Below.alloc ?_ (by simp) _)⟩
theorem keepS {W w1 w2 : World} {m : Nat} (h : (∀ b o, b < m → w1.cell? ⟨b, o, none⟩ = W.cell? ⟨b, o, none⟩) ∧ m ≤ w1.heap.size) (hb : Below w1.heap.size w1 w2) :
    (∀ b o, b < m → w2.cell? ⟨b, o, none⟩ = W.cell? ⟨b, o, none⟩) ∧ m ≤ w2.heap.size :=
  ⟨fun b o hlt => (hb.cell (p := ⟨b, o, none⟩) (Nat.lt_of_lt_of_le hlt h.2)).trans (h.1 b o hlt), Nat.le_trans h.2 hb.size⟩
end Go.Proofs.YtlmoeacpkkkkcaaGreatDoor
namespace Go.Proofs.YtlmoeacpkkkkcaaGreatDoor
open Go.RowKit
set_option linter.unusedVariables false
set_option maxRecDepth 100000
end Go.Proofs.YtlmoeacpkkkkcaaGreatDoor
namespace Go.Proofs.YtlmoeacpkkkkcaaGreatDoor
open Go.RowKit
set_option linter.unusedVariables false
set_option maxRecDepth 100000
theorem inB_true {n lo hi : Int} : inB n lo hi = true ↔ lo ≤ n ∧ n ≤ hi := by simp [inB]
def DD (n : Int) : ByteArray := ⟨(Lib.decDigits n.toNat).toArray⟩
theorem DD_size (n : Int) (h : n ≤ 100000) : (DD n).size ≤ 6 := by
  have := dec_len n.toNat (by omega)
  simpa [DD, ByteArray.size] using this
theorem digits_D (n : Int) (h0 : 0 ≤ n) (h1 : n ≤ 100000) (w : World) :
    Calls Tryz.prog 32 #[.int .i64 n] w fun e w' => e = .returned (.string (DD n)) ∧ Below w.heap.size w w' := by
  obtain ⟨N, rfl⟩ := Int.eq_ofNat_of_zero_le h0
  exact digits_spec N (by omega) w
theorem itoa_tab (n : Int) (h0 : 0 ≤ n) (h1 : n ≤ 100000) (w : World) (ht : Lib.TabIs Tryz.prog w "internal/strconv.uint64pow10" .u64 Lib.pow10Tab) :
    Calls Tryz.prog 52 #[.int .i64 n] w fun e w' => e = .returned (.string (DD n)) ∧ Below w.heap.size w w' := by
  refine (Tryz.strconv_Itoa n (by omega) (by omega) w ht).mono ?_
  rintro e w' ⟨rfl, k, os, rfl⟩
  refine ⟨?_, Lib.below_grow _ _ (Nat.le_refl _) _ _⟩
  rw [Lib.itoa, if_neg (by omega)]
  rfl
/-- The text of a walker, part by part, as both write it. -/
def X1 (i : Int) : ByteArray := (⟨#[119, 97, 108, 107, 101, 114, 32]⟩ : ByteArray) ++ DD i
def X2 (i : Int) : ByteArray := X1 i ++ ⟨#[32, 97, 116, 32]⟩
def X3 (i a : Int) : ByteArray := X2 i ++ DD a
def X4 (i a : Int) : ByteArray := X3 i a ++ ⟨#[32, 99, 111, 105, 110, 115, 32]⟩
def X5 (i a n : Int) : ByteArray := X4 i a ++ DD n
def X6 (i a n : Int) : ByteArray := X5 i a n ++ ⟨#[32, 111, 114, 100, 101, 114, 32]⟩
def X7 (i a n s : Int) : ByteArray := X6 i a n ++ DD s
def X8 (i a n s : Int) : ByteArray := X7 i a n s ++ ⟨#[32, 99, 111, 100, 101, 32]⟩
def X9 (i a n s l : Int) : ByteArray := X8 i a n s ++ DD l
theorem X1_size (i : Int) (zi : (DD i).size ≤ 6) : (X1 i).size ≤ 20 := by
  unfold X1; rw [ByteArray.size_append]; first | omega | (simp only [ByteArray.size_mk', List.size_toArray, List.length_cons, List.length_nil] at *; omega)
theorem X2_size (i : Int) (zi : (DD i).size ≤ 6) : (X2 i).size ≤ 40 := by
  have := X1_size i zi; unfold X2; rw [ByteArray.size_append]; first | omega | (simp only [ByteArray.size_mk', List.size_toArray, List.length_cons, List.length_nil] at *; omega)
theorem X3_size (i a : Int) (zi : (DD i).size ≤ 6) (za : (DD a).size ≤ 6) : (X3 i a).size ≤ 60 := by
  have := X2_size i zi; unfold X3; rw [ByteArray.size_append]; first | omega | (simp only [ByteArray.size_mk', List.size_toArray, List.length_cons, List.length_nil] at *; omega)
theorem X4_size (i a : Int) (zi : (DD i).size ≤ 6) (za : (DD a).size ≤ 6) : (X4 i a).size ≤ 80 := by
  have := X3_size i a zi za; unfold X4; rw [ByteArray.size_append]; first | omega | (simp only [ByteArray.size_mk', List.size_toArray, List.length_cons, List.length_nil] at *; omega)
theorem X5_size (i a n : Int) (zi : (DD i).size ≤ 6) (za : (DD a).size ≤ 6) (zn : (DD n).size ≤ 6) : (X5 i a n).size ≤ 100 := by
  have := X4_size i a zi za; unfold X5; rw [ByteArray.size_append]; first | omega | (simp only [ByteArray.size_mk', List.size_toArray, List.length_cons, List.length_nil] at *; omega)
theorem X6_size (i a n : Int) (zi : (DD i).size ≤ 6) (za : (DD a).size ≤ 6) (zn : (DD n).size ≤ 6) : (X6 i a n).size ≤ 120 := by
  have := X5_size i a n zi za zn; unfold X6; rw [ByteArray.size_append]; first | omega | (simp only [ByteArray.size_mk', List.size_toArray, List.length_cons, List.length_nil] at *; omega)
theorem X7_size (i a n s : Int) (zi : (DD i).size ≤ 6) (za : (DD a).size ≤ 6) (zn : (DD n).size ≤ 6) (zs : (DD s).size ≤ 6) : (X7 i a n s).size ≤ 140 := by
  have := X6_size i a n zi za zn; unfold X7; rw [ByteArray.size_append]; first | omega | (simp only [ByteArray.size_mk', List.size_toArray, List.length_cons, List.length_nil] at *; omega)
theorem X8_size (i a n s : Int) (zi : (DD i).size ≤ 6) (za : (DD a).size ≤ 6) (zn : (DD n).size ≤ 6) (zs : (DD s).size ≤ 6) : (X8 i a n s).size ≤ 160 := by
  have := X7_size i a n s zi za zn zs; unfold X8; rw [ByteArray.size_append]; first | omega | (simp only [ByteArray.size_mk', List.size_toArray, List.length_cons, List.length_nil] at *; omega)
theorem cat (x y : ByteArray) (hx : x.size ≤ 1000) (hy : y.size ≤ 1000) : ∀ w : World, (Op.stringOp .add x y).run Tryz.prog w = .ok (.string (x ++ y)) w := fun w => run_string_add_sum w x y (by omega)
def textOf (i a n s l : Int) : ByteArray := if boundsB i n s l = true ∧ inB a 0 31 = true then X9 i a n s l else ⟨#[]⟩
set_option maxHeartbeats 1000000 in
theorem text_spec (i a n s l : Int) (w : World) :
    Calls Tryz.prog 25 #[.agg #[.int .i64 i, .int .i64 a, .int .i64 n, .int .i64 s, .int .i64 l]] w fun e w' => e = .returned (.string (textOf i a n s l)) ∧ Below w.heap.size w w' := by
  cases h1 : inB i 1 9
  · go_enter Tryz.func25, Tryz.ntmps25
    go_wp2_with (go_at_call 17; refine (in_spec _ _ _ _).mono ?_; rintro e w' ⟨rfl, rfl⟩)
    go_ret
    exact ⟨by simp [textOf, boundsB, *], by repeat (first | exact Below.refl _ _ | refine bthen ?_ (by assumption) | apply Below.drew | apply bdrewN | refine Below.alloc ?_ (by simp) _)⟩
  ·
    cases h0 : inB a 0 31
    · go_enter Tryz.func25, Tryz.ntmps25
      go_wp2_with (go_at_call 17; refine (in_spec _ _ _ _).mono ?_; rintro e w' ⟨rfl, rfl⟩)
      go_ret
      exact ⟨by simp [textOf, boundsB, *], by repeat (first | exact Below.refl _ _ | refine bthen ?_ (by assumption) | apply Below.drew | apply bdrewN | refine Below.alloc ?_ (by simp) _)⟩
    ·
      cases h2 : inB n 0 99
      · go_enter Tryz.func25, Tryz.ntmps25
        go_wp2_with (go_at_call 17; refine (in_spec _ _ _ _).mono ?_; rintro e w' ⟨rfl, rfl⟩)
        go_ret
        exact ⟨by simp [textOf, boundsB, *], by repeat (first | exact Below.refl _ _ | refine bthen ?_ (by assumption) | apply Below.drew | apply bdrewN | refine Below.alloc ?_ (by simp) _)⟩
      ·
        cases h3 : inB s 0 900
        · go_enter Tryz.func25, Tryz.ntmps25
          go_wp2_with (go_at_call 17; refine (in_spec _ _ _ _).mono ?_; rintro e w' ⟨rfl, rfl⟩)
          go_ret
          exact ⟨by simp [textOf, boundsB, *], by repeat (first | exact Below.refl _ _ | refine bthen ?_ (by assumption) | apply Below.drew | apply bdrewN | refine Below.alloc ?_ (by simp) _)⟩
        ·
          cases h4 : inB l 0 9
          · go_enter Tryz.func25, Tryz.ntmps25
            go_wp2_with (go_at_call 17; refine (in_spec _ _ _ _).mono ?_; rintro e w' ⟨rfl, rfl⟩)
            go_ret
            exact ⟨by simp [textOf, boundsB, *], by repeat (first | exact Below.refl _ _ | refine bthen ?_ (by assumption) | apply Below.drew | apply bdrewN | refine Below.alloc ?_ (by simp) _)⟩
          ·
            obtain ⟨i1, i2⟩ := inB_true.1 h1
            obtain ⟨a1, a2⟩ := inB_true.1 h0
            obtain ⟨n1, n2⟩ := inB_true.1 h2
            obtain ⟨s1, s2⟩ := inB_true.1 h3
            obtain ⟨l1, l2⟩ := inB_true.1 h4
            have zi := DD_size i (by omega)
            have za := DD_size a (by omega)
            have zn := DD_size n (by omega)
            have zs := DD_size s (by omega)
            have zl := DD_size l (by omega)
            have c1 : ∀ w : World, (Op.stringOp .add (⟨#[119, 97, 108, 107, 101, 114, 32]⟩) (DD i)).run Tryz.prog w = .ok (.string (X1 i)) w := cat _ _ (by decide) (by omega)
            have c2 : ∀ w : World, (Op.stringOp .add (X1 i) (⟨#[32, 97, 116, 32]⟩)).run Tryz.prog w = .ok (.string (X2 i)) w := cat _ _ (by have := X1_size i zi; omega) (by decide)
            have c3 : ∀ w : World, (Op.stringOp .add (X2 i) (DD a)).run Tryz.prog w = .ok (.string (X3 i a)) w := cat _ _ (by have := X2_size i zi; omega) (by omega)
            have c4 : ∀ w : World, (Op.stringOp .add (X3 i a) (⟨#[32, 99, 111, 105, 110, 115, 32]⟩)).run Tryz.prog w = .ok (.string (X4 i a)) w := cat _ _ (by have := X3_size i a zi za; omega) (by decide)
            have c5 : ∀ w : World, (Op.stringOp .add (X4 i a) (DD n)).run Tryz.prog w = .ok (.string (X5 i a n)) w := cat _ _ (by have := X4_size i a zi za; omega) (by omega)
            have c6 : ∀ w : World, (Op.stringOp .add (X5 i a n) (⟨#[32, 111, 114, 100, 101, 114, 32]⟩)).run Tryz.prog w = .ok (.string (X6 i a n)) w := cat _ _ (by have := X5_size i a n zi za zn; omega) (by decide)
            have c7 : ∀ w : World, (Op.stringOp .add (X6 i a n) (DD s)).run Tryz.prog w = .ok (.string (X7 i a n s)) w := cat _ _ (by have := X6_size i a n zi za zn; omega) (by omega)
            have c8 : ∀ w : World, (Op.stringOp .add (X7 i a n s) (⟨#[32, 99, 111, 100, 101, 32]⟩)).run Tryz.prog w = .ok (.string (X8 i a n s)) w := cat _ _ (by have := X7_size i a n s zi za zn zs; omega) (by decide)
            have c9 : ∀ w : World, (Op.stringOp .add (X8 i a n s) (DD l)).run Tryz.prog w = .ok (.string (X9 i a n s l)) w := cat _ _ (by have := X8_size i a n s zi za zn zs; omega) (by omega)
            go_enter Tryz.func25, Tryz.ntmps25
            go_wp2_with (go_at_call 17; refine (in_spec _ _ _ _).mono ?_; rintro e w' ⟨rfl, rfl⟩)
            go_region_held3 (fun w' => (∀ b o, b < w.heap.size + 1 → w'.cell? ⟨b, o, none⟩ = (w.alloc (.cells #[.int .i64 i, .int .i64 a, .int .i64 n, .int .i64 s, .int .i64 l] 39)).cell? ⟨b, o, none⟩) ∧ w.heap.size + 1 ≤ w'.heap.size) (first | (refine keepS ?_ (by assumption); assumption) | exact ⟨fun _ _ _ => rfl, by simp⟩ | assumption)
              (first | (go_at_call 32; refine (digits_D _ (by omega) (by omega) _).mono ?_; rintro e w' ⟨rfl, hb⟩))
            go_wp2
            go_ret
            exact ⟨by simp [textOf, boundsB, *], by repeat (first | exact Below.refl _ _ | refine bthen ?_ (by assumption) | apply Below.drew | apply bdrewN | refine Below.alloc ?_ (by simp) _)⟩
set_option maxHeartbeats 1000000 in
theorem text_impl (i a n s l : Int) (w : World) (ht : Lib.TabBelow Tryz.prog w.heap.size w "internal/strconv.uint64pow10" .u64 Lib.pow10Tab) :
    Calls Tryz.prog 49 #[.agg #[.int .i64 i, .int .i64 a, .int .i64 n, .int .i64 s, .int .i64 l]] w fun e w' => e = .returned (.string (textOf i a n s l)) ∧ Below w.heap.size w w' := by
  have HT : Hid (Lib.TabBelow Tryz.prog w.heap.size w "internal/strconv.uint64pow10" .u64 Lib.pow10Tab) := ht
  clear ht
  cases h1 : boundsB i n s l
  · go_enter Tryz.func49, Tryz.ntmps49
    go_wp2_with (first | (go_at_call 55; refine (bounds_impl _ _ _ _ _ _).mono ?_; rintro e w' ⟨rfl, hb⟩; obtain ⟨hc, hf⟩ := bcell hb) | (go_at_call 42; refine (in_impl _ _ _ _).mono ?_; rintro e w' ⟨rfl, rfl⟩))
    go_ret
    exact ⟨by simp [textOf, *], by repeat (first | exact Below.refl _ _ | refine bthen ?_ (by assumption) | apply Below.drew | apply bdrewN | refine Below.alloc ?_ (by simp) _)⟩
  · have hh := h1
    simp only [boundsB, Bool.and_eq_true, inB_true] at hh
    obtain ⟨⟨i1, i2⟩, ⟨n1, n2⟩, ⟨s1, s2⟩, l1, l2⟩ := hh
    cases h0 : inB a 0 31
    · go_enter Tryz.func49, Tryz.ntmps49
      go_wp2_with (first | (go_at_call 55; refine (bounds_impl _ _ _ _ _ _).mono ?_; rintro e w' ⟨rfl, hb⟩; obtain ⟨hc, hf⟩ := bcell hb) | (go_at_call 42; refine (in_impl _ _ _ _).mono ?_; rintro e w' ⟨rfl, rfl⟩))
      go_ret
      exact ⟨by simp [textOf, *], by repeat (first | exact Below.refl _ _ | refine bthen ?_ (by assumption) | apply Below.drew | apply bdrewN | refine Below.alloc ?_ (by simp) _)⟩
    · obtain ⟨a1, a2⟩ := inB_true.1 h0
      have zi := DD_size i (by omega)
      have za := DD_size a (by omega)
      have zn := DD_size n (by omega)
      have zs := DD_size s (by omega)
      have zl := DD_size l (by omega)
      have c1 : ∀ w : World, (Op.stringOp .add (⟨#[119, 97, 108, 107, 101, 114, 32]⟩) (DD i)).run Tryz.prog w = .ok (.string (X1 i)) w := cat _ _ (by decide) (by omega)
      have c2 : ∀ w : World, (Op.stringOp .add (X1 i) (⟨#[32, 97, 116, 32]⟩)).run Tryz.prog w = .ok (.string (X2 i)) w := cat _ _ (by have := X1_size i zi; omega) (by decide)
      have c3 : ∀ w : World, (Op.stringOp .add (X2 i) (DD a)).run Tryz.prog w = .ok (.string (X3 i a)) w := cat _ _ (by have := X2_size i zi; omega) (by omega)
      have c4 : ∀ w : World, (Op.stringOp .add (X3 i a) (⟨#[32, 99, 111, 105, 110, 115, 32]⟩)).run Tryz.prog w = .ok (.string (X4 i a)) w := cat _ _ (by have := X3_size i a zi za; omega) (by decide)
      have c5 : ∀ w : World, (Op.stringOp .add (X4 i a) (DD n)).run Tryz.prog w = .ok (.string (X5 i a n)) w := cat _ _ (by have := X4_size i a zi za; omega) (by omega)
      have c6 : ∀ w : World, (Op.stringOp .add (X5 i a n) (⟨#[32, 111, 114, 100, 101, 114, 32]⟩)).run Tryz.prog w = .ok (.string (X6 i a n)) w := cat _ _ (by have := X5_size i a n zi za zn; omega) (by decide)
      have c7 : ∀ w : World, (Op.stringOp .add (X6 i a n) (DD s)).run Tryz.prog w = .ok (.string (X7 i a n s)) w := cat _ _ (by have := X6_size i a n zi za zn; omega) (by omega)
      have c8 : ∀ w : World, (Op.stringOp .add (X7 i a n s) (⟨#[32, 99, 111, 100, 101, 32]⟩)).run Tryz.prog w = .ok (.string (X8 i a n s)) w := cat _ _ (by have := X7_size i a n s zi za zn zs; omega) (by decide)
      have c9 : ∀ w : World, (Op.stringOp .add (X8 i a n s) (DD l)).run Tryz.prog w = .ok (.string (X9 i a n s l)) w := cat _ _ (by have := X8_size i a n s zi za zn zs; omega) (by omega)
      go_enter Tryz.func49, Tryz.ntmps49
      go_wp2_with fail
      refine (bounds_impl _ _ _ _ _ _).mono ?_
      rintro e w1 ⟨rfl, hb1⟩
      have hs1 : (∀ b o, b < w.heap.size + 1 → w1.cell? ⟨b, o, none⟩ = (w.alloc (.cells #[.int .i64 i, .int .i64 a, .int .i64 n, .int .i64 s, .int .i64 l] 39)).cell? ⟨b, o, none⟩) ∧ w.heap.size + 1 ≤ w1.heap.size := keepS ⟨fun _ _ _ => rfl, by simp⟩ hb1
      go_wp2_with (go_at_call 42; refine (in_impl _ _ _ _).mono ?_; rintro e w' ⟨rfl, rfl⟩)
      go_region_held3 (fun w' => (∀ b o, b < w.heap.size + 1 → w'.cell? ⟨b, o, none⟩ = (w.alloc (.cells #[.int .i64 i, .int .i64 a, .int .i64 n, .int .i64 s, .int .i64 l] 39)).cell? ⟨b, o, none⟩) ∧ w.heap.size + 1 ≤ w'.heap.size) (first | (refine keepS ?_ (by assumption); assumption) | exact ⟨fun _ _ _ => rfl, by simp⟩ | assumption)
        (first | (go_at_call 52; refine (itoa_tab _ (by omega) (by omega) _ (HT.out _ (by repeat (first | exact Below.refl _ _ | refine bthen ?_ (by assumption) | apply Below.drew | apply bdrewN | refine Below.alloc ?_ (by simp) _)))).mono ?_; rintro e w' ⟨rfl, hb⟩))
      go_wp2
      go_ret
      exact ⟨by simp [textOf, *], by repeat (first | exact Below.refl _ _ | refine bthen ?_ (by assumption) | apply Below.drew | apply bdrewN | refine Below.alloc ?_ (by simp) _)⟩
end Go.Proofs.YtlmoeacpkkkkcaaGreatDoor
namespace Go.Proofs.YtlmoeacpkkkkcaaGreatDoor
open Go.RowKit
set_option linter.unusedVariables false
set_option maxRecDepth 100000
/-- What Atoi hands back beside its error. -/
def atoiV (l : List UInt8) : Int := match Lib.atoiAll l with
  | .ok v => v
  | .syntax => 0
  | .range => Lib.atoiSat l
/-- The model's loop over a word's bytes; none, if one is no digit. -/
def numGo : Int → List UInt8 → Option Int
  | n, [] => some n
  | n, b :: r => if b.toNat < 48 ∨ 57 < b.toNat then none else numGo (n * 10 + (b.toNat - 48 : Nat)) r
def numF (l : List UInt8) : Int :=
  if l.length = 0 ∨ 5 < l.length ∨ (1 < l.length ∧ l.head? = some 48) then -1 else (numGo 0 l).getD (-1)
def goodDigits (n : Nat) : Bool := (Lib.decDigits n).all (fun b => b != 32) && decide ((Lib.decDigits n).length ≤ 3) && decide (atoiV (Lib.decDigits n) = n) && decide (numF (Lib.decDigits n) = n)
theorem digits_all : ∀ n, n < 901 → goodDigits n = true := by decide +kernel
end Go.Proofs.YtlmoeacpkkkkcaaGreatDoor
namespace Go.Proofs.YtlmoeacpkkkkcaaGreatDoor
open Go.RowKit
set_option linter.unusedVariables false
set_option maxRecDepth 100000
def words : List UInt8 → List (List UInt8)
  | [] => [[]]
  | b :: r => if b = 32 then [] :: words r else match words r with
    | w :: ws => (b :: w) :: ws
    | [] => [[b]]
def wordsGo : List UInt8 → List UInt8 → List (List UInt8)
  | cur, [] => [cur]
  | cur, b :: r => if b = 32 then cur :: wordsGo [] r else wordsGo (cur ++ [b]) r
theorem words_cons : ∀ l, ∃ w ws, words l = w :: ws
  | [] => ⟨_, _, rfl⟩
  | b :: r => by
    unfold words
    split
    · exact ⟨_, _, rfl⟩
    · split <;> exact ⟨_, _, rfl⟩
theorem wordsGo_eq : ∀ (l cur : List UInt8) (w : List UInt8) (ws : List (List UInt8)), words l = w :: ws → wordsGo cur l = (cur ++ w) :: ws
  | [], cur, w, ws, h => by
    simp [words] at h; obtain ⟨rfl, rfl⟩ := h; simp [wordsGo]
  | b :: r, cur, w, ws, h => by
    obtain ⟨w', ws', e⟩ := words_cons r
    unfold words at h
    unfold wordsGo
    by_cases hb : b = 32
    · rw [if_pos hb] at h ⊢
      injection h with h1 h2
      subst h1
      rw [wordsGo_eq r [] w' ws' e, ← h2, e]; simp
    · rw [if_neg hb] at h ⊢
      rw [e] at h
      injection h with h1 h2
      rw [wordsGo_eq r (cur ++ [b]) w' ws' e, ← h1, ← h2]; simp
theorem words_go (l : List UInt8) : wordsGo [] l = words l := by
  obtain ⟨w, ws, e⟩ := words_cons l
  rw [wordsGo_eq l [] w ws e, e]; rfl
theorem idx_pos : ∀ l : List UInt8, 0 < l.count 32 → 0 ≤ Lib.indexByte l 32
  | [], h => by simp at h
  | b :: r, h => by
    unfold Lib.indexByte
    by_cases hb : b = 32
    · subst hb; simp
    · have hc : 0 < r.count 32 := by
        rw [List.count_cons] at h
        have : (b == 32) = false := by simpa using hb
        rw [this] at h; simpa using h
      have := idx_pos r hc
      have hb' : (b == 32) = false := by simpa using hb
      rw [hb']
      simp only [Bool.false_eq_true, if_false]
      split
      · rename_i g; simp only [beq_iff_eq] at g; omega
      · omega
theorem split_words : ∀ l : List UInt8, Lib.splitK [32] 0 (l.count 32) l = words l
  | [] => rfl
  | b :: r => by
    have ih := split_words r
    by_cases hb : b = 32
    · subst hb
      have hi : Lib.index (32 :: r) [32] = 0 := by rw [Lib.index_one]; simp [Lib.indexByte]
      rw [List.count_cons_self]
      unfold Lib.splitK
      rw [hi]
      simp only [words, if_true]
      rw [← ih]
      simp
    · have hb' : (b == 32) = false := by simpa using hb
      have hc : (b :: r).count 32 = r.count 32 := by rw [List.count_cons, hb']; simp
      rw [hc]
      unfold words
      rw [if_neg hb]
      cases hk : r.count 32 with
      | zero =>
        rw [hk] at ih
        have e : words r = [r] := by rw [← ih]; rfl
        rw [e]; rfl
      | succ k =>
        rw [hk] at ih
        have hp := idx_pos r (by omega)
        have hir : Lib.index r [32] = Lib.indexByte r 32 := Lib.index_one r 32
        have hi : Lib.index (b :: r) [32] = Lib.indexByte r 32 + 1 := by
          rw [Lib.index_one]
          conv => lhs; unfold Lib.indexByte
          rw [hb']
          simp only [Bool.false_eq_true, if_false]
          have : (Lib.indexByte r 32 == -1) = false := by simp; omega
          rw [this]; simp
        unfold Lib.splitK at ih ⊢
        rw [hi]
        rw [hir] at ih
        have n1 : (Lib.indexByte r 32 == -1) = false := by simp; omega
        have n2 : (Lib.indexByte r 32 + 1 == -1) = false := by simp; omega
        rw [n1] at ih
        rw [n2]
        simp only [Bool.false_eq_true, if_false] at ih ⊢
        rw [← ih]
        have t1 : (Lib.indexByte r 32 + 1).toNat = (Lib.indexByte r 32).toNat + 1 := by omega
        rw [t1]
        simp
theorem words_app : ∀ (x r : List UInt8), (∀ b ∈ x, b ≠ 32) → words (x ++ 32 :: r) = x :: words r
  | [], r, _ => by simp [words]
  | b :: x, r, h => by
    have ih := words_app x r (fun c hc => h c (by simp [hc]))
    have hb : ¬ b = 32 := h b (by simp)
    simp only [List.cons_append]
    rw [words, if_neg hb, ih]
theorem words_last : ∀ (x : List UInt8), (∀ b ∈ x, b ≠ 32) → words x = [x]
  | [], _ => rfl
  | b :: x, h => by
    have ih := words_last x (fun c hc => h c (by simp [hc]))
    have hb : ¬ b = 32 := h b (by simp)
    unfold words
    rw [if_neg hb, ih]
theorem good_digits (n : Int) (h0 : 0 ≤ n) (h1 : n ≤ 900) : (∀ b ∈ Lib.decDigits n.toNat, b ≠ 32) ∧ (Lib.decDigits n.toNat).length ≤ 3 ∧ atoiV (Lib.decDigits n.toNat) = n ∧ numF (Lib.decDigits n.toNat) = n := by
  have g := digits_all n.toNat (by omega)
  unfold goodDigits at g
  simp only [Bool.and_eq_true, decide_eq_true_eq, List.all_eq_true, bne_iff_ne] at g
  obtain ⟨⟨⟨g1, g2⟩, g3⟩, g4⟩ := g
  have e : ((n.toNat : Nat) : Int) = n := by omega
  rw [e] at g3 g4
  exact ⟨g1, g2, g3, g4⟩
/-- The words of a walker's text. -/
def tw (i a n s l : Int) : List (List UInt8) :=
  [[119, 97, 108, 107, 101, 114], Lib.decDigits i.toNat, [97, 116], Lib.decDigits a.toNat, [99, 111, 105, 110, 115], Lib.decDigits n.toNat, [111, 114, 100, 101, 114], Lib.decDigits s.toNat, [99, 111, 100, 101], Lib.decDigits l.toNat]
theorem text_list (i a n s l : Int) : (X9 i a n s l).data.toList = [119, 97, 108, 107, 101, 114] ++ 32 :: (Lib.decDigits i.toNat ++ 32 :: ([97, 116] ++ 32 :: (Lib.decDigits a.toNat ++ 32 :: ([99, 111, 105, 110, 115] ++ 32 :: (Lib.decDigits n.toNat ++ 32 :: ([111, 114, 100, 101, 114] ++ 32 :: (Lib.decDigits s.toNat ++ 32 :: ([99, 111, 100, 101] ++ 32 :: Lib.decDigits l.toNat)))))))) := by
  simp [X9, X8, X7, X6, X5, X4, X3, X2, X1, DD, ByteArray.data_append]
theorem text_words {i a n s l : Int} (hb : boundsB i n s l = true) (ha : inB a 0 31 = true) : words (X9 i a n s l).data.toList = tw i a n s l ∧ (X9 i a n s l).size ≤ 100 := by
  simp only [boundsB, Bool.and_eq_true, inB_true] at hb
  have ha' := inB_true.1 ha
  obtain ⟨⟨i1, i2⟩, ⟨n1, n2⟩, ⟨s1, s2⟩, l1, l2⟩ := hb
  obtain ⟨gi, zi, _, _⟩ := good_digits i (by omega) (by omega)
  obtain ⟨ga, za, _, _⟩ := good_digits a (by omega) (by omega)
  obtain ⟨gn, zn, _, _⟩ := good_digits n (by omega) (by omega)
  obtain ⟨gs, zs, _, _⟩ := good_digits s (by omega) (by omega)
  obtain ⟨gl, zl, _, _⟩ := good_digits l (by omega) (by omega)
  constructor
  · rw [text_list, words_app _ _ (by decide), words_app _ _ gi, words_app _ _ (by decide), words_app _ _ ga, words_app _ _ (by decide), words_app _ _ gn, words_app _ _ (by decide), words_app _ _ gs, words_app _ _ (by decide), words_last _ gl]
    rfl
  · have : (X9 i a n s l).size = (X9 i a n s l).data.toList.length := (Array.length_toList).symm
    rw [this, text_list]
    simp only [List.length_append, List.length_cons, List.length_nil]
    omega
end Go.Proofs.YtlmoeacpkkkkcaaGreatDoor
namespace Go.Proofs.YtlmoeacpkkkkcaaGreatDoor
open Go.RowKit
set_option linter.unusedVariables false
set_option maxRecDepth 100000
/-- What the library's functions ask of its own variables, in every world that has only grown. -/
def Env (w : World) : Prop := ∀ w', Below w.heap.size w w' → (∃ m, w'.cell? ⟨1, 0, none⟩ = some (.int .i64 m)) ∧ (∃ t p, w'.cell? ⟨2, 0, none⟩ = some (.iface t p)) ∧ (∃ t p, w'.cell? ⟨3, 0, none⟩ = some (.iface t p)) ∧ Lib.TabIs Tryz.prog w' "internal/strconv.uint64pow10" .u64 Lib.pow10Tab
theorem Env.on {w w1 : World} (h : Env w) (hb : Below w.heap.size w w1) : Env w1 := fun w' h' => h w' (bthen hb h')
theorem Env.tab {w : World} (h : Env w) : Lib.TabBelow Tryz.prog w.heap.size w "internal/strconv.uint64pow10" .u64 Lib.pow10Tab := fun w' h' => (h w' h').2.2.2
theorem loose (s : ByteArray) (hs : s.size ≤ 1000) (w : World) (hE : Env w) :
    Calls Tryz.prog 48 #[.string s] w fun e w' => e = .returned (.int .i64 (atoiV s.data.toList)) ∧ Below w.heap.size w w' := by
  obtain ⟨_, ⟨t1, p1, c1⟩, ⟨t2, p2, c2⟩, _⟩ := hE w (Below.refl _ _)
  cases h : Lib.atoiAll s.data.toList with
  | ok v =>
    have E : Hid (atoiV s.data.toList = v) := by show atoiV s.data.toList = v; unfold atoiV; rw [h]
    clear c1 c2 hE
    go_enter Tryz.func48, Tryz.ntmps48
    go_wp2_with fail
    refine (Tryz.strconv_Atoi_ok s (by omega) v h w).mono ?_
    rintro e w' ⟨rfl, hw⟩
    have hb : Below w.heap.size w w' := by
      rcases hw with rfl | ⟨t, rfl⟩
      · exact Below.refl _ _
      · exact Lib.bytesWorld_below _ _ _
    clear hw
    go_wp2
    go_ret
    exact ⟨by rw [E.out]; rfl, hb⟩
  | «syntax» =>
    have E : Hid (atoiV s.data.toList = 0) := by show atoiV s.data.toList = 0; unfold atoiV; rw [h]
    go_enter Tryz.func48, Tryz.ntmps48
    go_wp2_with fail
    refine (Tryz.strconv_Atoi_syntax s (by omega) h _ w c1 (.inr ⟨_, _, rfl⟩)).mono ?_
    rintro e w' ⟨N, rfl, _, _, hb⟩
    clear c1 c2 hE
    go_wp2
    go_ret
    exact ⟨by rw [E.out]; rfl, hb⟩
  | range =>
    have E : Hid (atoiV s.data.toList = Lib.atoiSat s.data.toList) := by show atoiV s.data.toList = _; unfold atoiV; rw [h]
    go_enter Tryz.func48, Tryz.ntmps48
    go_wp2_with fail
    refine (Tryz.strconv_Atoi_range s (by omega) h _ w c2 (.inr ⟨_, _, rfl⟩)).mono ?_
    rintro e w' ⟨N, rfl, _, _, hb⟩
    clear c1 c2 hE
    go_wp2
    go_ret
    exact ⟨by rw [E.out]; rfl, hb⟩
theorem numF_long {l : List UInt8} (h : 5 < l.length) : numF l = -1 := by
  unfold numF; rw [if_pos (.inr (.inl h))]
theorem numF_zero {r : List UInt8} (h : 0 < r.length) : numF (48 :: r) = -1 := by
  unfold numF; rw [if_pos (.inr (.inr ⟨by simpa using h, rfl⟩))]
theorem numF_go {b : UInt8} {r : List UInt8} (h : r.length ≤ 4) (h0 : ¬ (0 < r.length ∧ b = 48)) : numF (b :: r) = (numGo 0 (b :: r)).getD (-1) := by
  unfold numF
  rw [if_neg]
  rintro (h1 | h1 | ⟨h1, h2⟩)
  · simp at h1
  · simp at h1; omega
  · simp at h1 h2; exact h0 ⟨by omega, h2⟩
theorem numGo_step {l : List UInt8} {k : Nat} (hk : k < l.length) (z : Int) (h0 : ¬ l[k].toNat < 48) (h1 : ¬ 57 < l[k].toNat) : numGo z (l.drop k) = numGo (z * 10 + (l[k].toNat - 48 : Nat)) (l.drop (k + 1)) := by
  rw [List.drop_eq_getElem_cons hk]
  conv => lhs; unfold numGo
  rw [if_neg (by omega)]
theorem numGo_bad {l : List UInt8} {k : Nat} (hk : k < l.length) (z : Int) (h : l[k].toNat < 48 ∨ 57 < l[k].toNat) : numGo z (l.drop k) = none := by
  rw [List.drop_eq_getElem_cons hk]
  unfold numGo
  rw [if_pos h]
theorem size_len (s : ByteArray) : s.data.toList.length = s.size := Array.length_toList
theorem at_list (s : ByteArray) {k : Nat} (h : k < s.size) : s.data.toList[k]'(by rw [size_len]; exact h) = s[k]'h := rfl
/-- What k digits can spell. -/
def Bd (k : Nat) (z : Int) : Prop := 0 ≤ z ∧ (k = 0 → z = 0) ∧ (k = 1 → z ≤ 9) ∧ (k = 2 → z ≤ 99) ∧ (k = 3 → z ≤ 999) ∧ (k = 4 → z ≤ 9999) ∧ z ≤ 99999
theorem Bd.low {k : Nat} {z : Int} (h : Bd k z) (hk : k < 5) : 0 ≤ z ∧ z ≤ 9999 := by
  obtain ⟨a0, a1, a2, a3, a4, a5, a6⟩ := h
  have : k = 0 ∨ k = 1 ∨ k = 2 ∨ k = 3 ∨ k = 4 := by omega
  rcases this with rfl | rfl | rfl | rfl | rfl <;> simp_all <;> omega
theorem Bd.step {k : Nat} {z : Int} (h : Bd k z) (hk : k < 5) (c : Int) (c0 : 0 ≤ c) (c1 : c ≤ 9) : Bd (k + 1) (z * 10 + c) := by
  obtain ⟨a0, a1, a2, a3, a4, a5, a6⟩ := h
  have : k = 0 ∨ k = 1 ∨ k = 2 ∨ k = 3 ∨ k = 4 := by omega
  unfold Bd
  rcases this with rfl | rfl | rfl | rfl | rfl <;> simp_all <;> omega
set_option maxHeartbeats 1000000 in
theorem number (s : ByteArray) (w : World) (hmax : s.size ≤ 1000) :
    Calls Tryz.prog 24 #[.string s] w fun e w' => e = .returned (.int .i64 (numF s.data.toList)) ∧ w' = w := by
  have hsl := size_len s
  by_cases hn : (s.size : Int) = 0
  · have E : Hid (numF s.data.toList = -1) := by
      have : s.data.toList = [] := List.eq_nil_of_length_eq_zero (by rw [hsl]; omega)
      show numF s.data.toList = -1
      rw [this]; rfl
    clear hsl
    go_enter Tryz.func24, Tryz.ntmps24
    go_wp2
    go_ret
    exact ⟨by rw [E.out]; rfl, rfl⟩
  · have hpos : 0 < s.size := by omega
    have hp0 : ((s.size : Int) == 0) = false := beq_eq_false_iff_ne.2 hn
    by_cases h5 : (5 : Int) < (s.size : Int)
    · have E : Hid (numF s.data.toList = -1) := numF_long (by rw [hsl]; omega)
      clear hsl hn
      go_enter Tryz.func24, Tryz.ntmps24
      go_wp2
      go_ret
      exact ⟨by rw [E.out]; rfl, rfl⟩
    · have h5' : (s.size : Int) ≤ 5 := by omega
      by_cases h1 : (1 : Int) < (s.size : Int)
      · by_cases hz : (s[0]'hpos).toNat = 48
        · have E : Hid (numF s.data.toList = -1) := by
            show numF s.data.toList = -1
            have e0 : s.data.toList[0]? = some (s[0]'hpos) := by rw [List.getElem?_eq_getElem (by omega), at_list s hpos]
            revert e0 hsl
            generalize s.data.toList = l
            intro hsl e0
            rcases l with _ | ⟨b, r⟩
            · simp at hsl; omega
            · have e1 : b = s[0] := by simpa using e0
              have : b = 48 := by apply UInt8.toNat_inj.1; rw [e1, hz]; rfl
              subst this
              exact numF_zero (by simp at hsl; omega)
          have hz' : (((s[0]'hpos).toNat : Int) == 48) = true := by simp [hz]
          clear hz hn h5 hsl
          go_enter Tryz.func24, Tryz.ntmps24
          go_wp2
          go_ret
          exact ⟨by rw [E.out]; rfl, rfl⟩
        · have hz' : (((s[0]'hpos).toNat : Int) == 48) = false := by simp; omega
          have E : Hid (numF s.data.toList = (numGo 0 s.data.toList).getD (-1)) := by
            show numF s.data.toList = _
            have e0 : s.data.toList[0]? = some (s[0]'hpos) := by rw [List.getElem?_eq_getElem (by omega), at_list s hpos]
            revert e0 hsl
            generalize s.data.toList = l
            intro hsl e0
            rcases l with _ | ⟨b, r⟩
            · simp at hsl; omega
            · have e1 : b = s[0] := by simpa using e0
              exact numF_go (by simp at hsl; omega) (fun h => hz (by rw [← e1, h.2]; rfl))
          clear hz hn h5 hsl
          go_enter Tryz.func24, Tryz.ntmps24
          go_wp2
          go_loopw [3, 4] (fun n i wr => ∃ (k : Nat) (z : Int), k ≤ s.size ∧ n = .int .i64 z ∧ i = .int .i64 k ∧ Bd k z ∧ numGo 0 s.data.toList = numGo z (s.data.toList.drop k) ∧ wr = w) (fun _ i _ => s.size - (intOf i).toNat)
          case atStart => exact ⟨0, 0, Nat.zero_le _, rfl, rfl, by simp [Bd], rfl, rfl⟩
          case round =>
            obtain ⟨k, z, hk, rfl, rfl, hbd, hgo, rfl⟩ := hrel
            have HG : Hid (numGo 0 s.data.toList = numGo z (s.data.toList.drop k)) := hgo
            have HB : Hid (Bd k z) := hbd
            clear hgo hbd
            by_cases hks : k < s.size
            · have hlt : k < s.data.toList.length := by rw [size_len]; exact hks
              obtain ⟨z0, z1⟩ := HB.out.low (by omega)
              by_cases hc0 : ((s[k]'hks).toNat : Int) < 48
              · have HE : Hid (numF s.data.toList = -1) := by
                  show numF s.data.toList = -1
                  rw [E.out, HG.out, numGo_bad hlt z (.inl (by rw [at_list s hks]; omega))]; rfl
                clear hlt
                go_wp2
                go_ret
                exact ⟨by rw [HE.out]; rfl, rfl⟩
              · by_cases hc1 : (57 : Int) < ((s[k]'hks).toNat : Int)
                · have HE : Hid (numF s.data.toList = -1) := by
                    show numF s.data.toList = -1
                    rw [E.out, HG.out, numGo_bad hlt z (.inr (by rw [at_list s hks]; omega))]; rfl
                  clear hlt
                  go_wp2
                  go_ret
                  exact ⟨by rw [HE.out]; rfl, rfl⟩
                · have hc0' : (48 : Int) ≤ ((s[k]'hks).toNat : Int) := by omega
                  have hc1' : ((s[k]'hks).toNat : Int) ≤ 57 := by omega
                  have HE : Hid (numGo 0 s.data.toList = numGo (z * 10 + (((s[k]'hks).toNat : Int) - 48)) (s.data.toList.drop (k + 1))) := by
                    show numGo 0 s.data.toList = _
                    rw [HG.out, numGo_step hlt z (by rw [at_list s hks]; omega) (by rw [at_list s hks]; omega), at_list s hks]
                    congr 2
                    omega
                  have HB' : Hid (Bd (k + 1) (z * 10 + (((s[k]'hks).toNat : Int) - 48))) := HB.out.step (by omega) _ (by omega) (by omega)
                  clear hlt HG HB hc0 hc1
                  go_wp2
                  go_roundw
                  case rel => exact ⟨k + 1, _, by omega, rfl, by go_num, HB'.out, HE.out, trivial⟩
                  case measure => simp [intOf]; omega
            · have hks' : k = s.size := by omega
              have HE : Hid (numF s.data.toList = z) := by
                show numF s.data.toList = z
                rw [E.out, HG.out, List.drop_eq_nil_of_le (by rw [size_len]; omega)]; rfl
              clear hks' HG
              go_wp2
              go_ret
              exact ⟨by rw [HE.out]; rfl, rfl⟩
      · have E : Hid (numF s.data.toList = (numGo 0 s.data.toList).getD (-1)) := by
          show numF s.data.toList = _
          revert hsl
          generalize s.data.toList = l
          intro hsl
          rcases l with _ | ⟨b, r⟩
          · simp at hsl; omega
          · exact numF_go (by simp at hsl; omega) (fun h => by have := h.1; simp at hsl; omega)
        clear hn h5 hsl
        go_enter Tryz.func24, Tryz.ntmps24
        go_wp2
        go_loopw [3, 4] (fun n i wr => ∃ (k : Nat) (z : Int), k ≤ s.size ∧ n = .int .i64 z ∧ i = .int .i64 k ∧ Bd k z ∧ numGo 0 s.data.toList = numGo z (s.data.toList.drop k) ∧ wr = w) (fun _ i _ => s.size - (intOf i).toNat)
        case atStart => exact ⟨0, 0, Nat.zero_le _, rfl, rfl, by simp [Bd], rfl, rfl⟩
        case round =>
          obtain ⟨k, z, hk, rfl, rfl, hbd, hgo, rfl⟩ := hrel
          have HG : Hid (numGo 0 s.data.toList = numGo z (s.data.toList.drop k)) := hgo
          have HB : Hid (Bd k z) := hbd
          clear hgo hbd
          by_cases hks : k < s.size
          · have hlt : k < s.data.toList.length := by rw [size_len]; exact hks
            obtain ⟨z0, z1⟩ := HB.out.low (by omega)
            by_cases hc0 : ((s[k]'hks).toNat : Int) < 48
            · have HE : Hid (numF s.data.toList = -1) := by
                show numF s.data.toList = -1
                rw [E.out, HG.out, numGo_bad hlt z (.inl (by rw [at_list s hks]; omega))]; rfl
              clear hlt
              go_wp2
              go_ret
              exact ⟨by rw [HE.out]; rfl, rfl⟩
            · by_cases hc1 : (57 : Int) < ((s[k]'hks).toNat : Int)
              · have HE : Hid (numF s.data.toList = -1) := by
                  show numF s.data.toList = -1
                  rw [E.out, HG.out, numGo_bad hlt z (.inr (by rw [at_list s hks]; omega))]; rfl
                clear hlt
                go_wp2
                go_ret
                exact ⟨by rw [HE.out]; rfl, rfl⟩
              · have hc0' : (48 : Int) ≤ ((s[k]'hks).toNat : Int) := by omega
                have hc1' : ((s[k]'hks).toNat : Int) ≤ 57 := by omega
                have HE : Hid (numGo 0 s.data.toList = numGo (z * 10 + (((s[k]'hks).toNat : Int) - 48)) (s.data.toList.drop (k + 1))) := by
                  show numGo 0 s.data.toList = _
                  rw [HG.out, numGo_step hlt z (by rw [at_list s hks]; omega) (by rw [at_list s hks]; omega), at_list s hks]
                  congr 2
                  omega
                have HB' : Hid (Bd (k + 1) (z * 10 + (((s[k]'hks).toNat : Int) - 48))) := HB.out.step (by omega) _ (by omega) (by omega)
                clear hlt HG HB hc0 hc1
                go_wp2
                go_roundw
                case rel => exact ⟨k + 1, _, by omega, rfl, by go_num, HB'.out, HE.out, trivial⟩
                case measure => simp [intOf]; omega
          · have hks' : k = s.size := by omega
            have HE : Hid (numF s.data.toList = z) := by
              show numF s.data.toList = z
              rw [E.out, HG.out, List.drop_eq_nil_of_le (by rw [size_len]; omega)]; rfl
            clear hks' HG
            go_wp2
            go_ret
            exact ⟨by rw [HE.out]; rfl, rfl⟩
end Go.Proofs.YtlmoeacpkkkkcaaGreatDoor
namespace Go.Proofs.YtlmoeacpkkkkcaaGreatDoor
open Go.RowKit
set_option linter.unusedVariables false
set_option maxRecDepth 100000
theorem Tryz.info9 : (Tryz.prog.info? 9).map (fun i => (i.zero, i.size, i.bytes)) = some (some (.string ⟨#[]⟩), 1, 16) := by kernel_rfl
def strs (ws : List (List UInt8)) : List Value := ws.map fun l => .string ⟨l.toArray⟩
theorem strs_snoc (A : List (List UInt8)) (cur : List UInt8) : strs (A ++ [cur]) = strs A ++ [.string ⟨cur.toArray⟩] := by simp [strs]
theorem go_blank {l : List UInt8} {k : Nat} (hk : k < l.length) (cur : List UInt8) (h : l[k] = 32) : wordsGo cur (l.drop k) = cur :: wordsGo [] (l.drop (k + 1)) := by
  rw [List.drop_eq_getElem_cons hk]
  conv => lhs; unfold wordsGo
  rw [if_pos h]
theorem go_else {l : List UInt8} {k : Nat} (hk : k < l.length) (cur : List UInt8) (h : ¬ l[k] = 32) : wordsGo cur (l.drop k) = wordsGo (cur ++ [l[k]]) (l.drop (k + 1)) := by
  rw [List.drop_eq_getElem_cons hk]
  conv => lhs; unfold wordsGo
  rw [if_neg h]
set_option maxHeartbeats 1000000 in
theorem words_spec (s : ByteArray) (hs : (s.size : Int) ≤ 100) (w : World) :
    Calls Tryz.prog 14 #[.string s] w fun e w' => ∃ v, e = .returned v ∧ w'.ownsRow w.heap.size 9 1 v (words s.data.toList).length (strs (words s.data.toList)) ∧ Below w.heap.size w w' := by
  obtain ⟨i0, hi, hz0, hz1, hz2⟩ := info_parts Tryz.info9
  go_enter Tryz.func14, Tryz.ntmps14
  go_wp2
  go_loopw [3, 4, 5] (fun out word i wr => ∃ (k : Nat) (A : List (List UInt8)) (cur : List UInt8), k ≤ s.size ∧ i = .int .i64 k ∧ word = .string ⟨cur.toArray⟩ ∧ A.length ≤ k ∧ cur.length ≤ k ∧ words s.data.toList = A ++ wordsGo cur (s.data.toList.drop k) ∧ wr.ownsRow w.heap.size 9 1 out A.length (strs A) ∧ Below w.heap.size w wr)
    (fun _ _ i _ => s.size - (intOf i).toNat)
  case atStart => exact ⟨0, [], [], Nat.zero_le _, rfl, rfl, Nat.le_refl _, Nat.le_refl _, by simp [words_go], World.ownsRow_made w #[] 0 (Nat.le_refl _) (by simp) (by simp), (Below.refl _ _).alloc (by simp) _⟩
  case round =>
    obtain ⟨k, A, cur, hk, rfl, rfl, hA, hcur, hgo, hown, hbel⟩ := hrel
    have HG : Hid (words s.data.toList = A ++ wordsGo cur (s.data.toList.drop k)) := hgo
    clear hgo
    by_cases hks : k < s.size
    · have hlt : k < s.data.toList.length := by rw [size_len]; exact hks
      by_cases hb : (s[k]'hks).toNat = 32
      · have hb' : (((s[k]'hks).toNat : Int) == 32) = true := by simp [hb]
        have HE : Hid (words s.data.toList = (A ++ [cur]) ++ wordsGo [] (s.data.toList.drop (k + 1))) := by
          show words s.data.toList = _
          rw [HG.out, go_blank hlt cur (by rw [at_list s hks]; exact UInt8.toNat_inj.1 hb)]; simp
        clear hlt hb HG
        go_wp2_with (at_builtin; refine wpList_append_own _ rfl _ _ 22 rfl w.heap.size 9 i0 (.string ⟨#[]⟩) 1 16 Tryz.underlying22 hi hz0 hz1 hz2 rfl (by decide) _ _ _ rfl (hown.alloc _) ⟨wr.heap.size, 0, none⟩ 1 1 [.string ⟨cur.toArray⟩] rfl rfl ?c1 ?c2 ?c3 ?c4 ?c5 ?_)
        case c1 =>
          intro j u hj
          match j, hj with
          | 0, hj => simp at hj; subst hj; simp [Addr.add]
        case c2 => intro u hu; simp at hu; subst hu; rfl
        case c3 => unfold maxLen; omega
        case c4 => omega
        case c5 => have := hbel.size; simp; omega
        · intro v' w1 hown' hgrow _
          have hbel1 : Below w.heap.size w w1 := (hbel.alloc hbel.size _).grown hgrow (by have := hbel.size; simp; omega) (fun kk e => (hown.lt kk e).1)
          clear hgrow hown hbel
          go_wp2
          go_roundw
          case rel => exact ⟨k + 1, A ++ [cur], [], by omega, by go_num, rfl, by simp; omega, by simp, HE.out, by rw [List.length_append, strs_snoc]; exact hown', hbel1⟩
          case measure => simp [intOf]; omega
      · have hb' : (((s[k]'hks).toNat : Int) == 32) = false := by simp; omega
        have HE : Hid (words s.data.toList = A ++ wordsGo (cur ++ [s[k]'hks]) (s.data.toList.drop (k + 1))) := by
          show words s.data.toList = _
          rw [HG.out, go_else hlt cur (by rw [at_list s hks]; intro e; apply hb; rw [e]; rfl), at_list s hks]
        clear hlt hb HG
        have cv := conv1 wr ((s[k]'hks).toNat : Int)
        have ll : (cur.length : Int) ≤ 8388607 := by omega
        go_wp2
        go_roundw
        case rel => exact ⟨k + 1, A, cur ++ [s[k]'hks], by omega, by go_num, congrArg Value.string (ByteArray.mk_append_mk cur [s[k]'hks]), by omega, by simp; omega, HE.out, hown.alloc _, hbel.alloc hbel.size _⟩
        case measure => simp [intOf]; omega
    · have hks' : k = s.size := by omega
      have HE : Hid (words s.data.toList = A ++ [cur]) := by
        show words s.data.toList = _
        rw [HG.out, List.drop_eq_nil_of_le (by rw [size_len]; omega)]; rfl
      clear hks' HG
      go_wp2_with (at_builtin; refine wpList_append_own _ rfl _ _ 22 rfl w.heap.size 9 i0 (.string ⟨#[]⟩) 1 16 Tryz.underlying22 hi hz0 hz1 hz2 rfl (by decide) _ _ _ rfl (hown.alloc _) ⟨wr.heap.size, 0, none⟩ 1 1 [.string ⟨cur.toArray⟩] rfl rfl ?d1 ?d2 ?d3 ?d4 ?d5 ?_)
      case d1 =>
        intro j u hj
        match j, hj with
        | 0, hj => simp at hj; subst hj; simp [Addr.add]
      case d2 => intro u hu; simp at hu; subst hu; rfl
      case d3 => unfold maxLen; omega
      case d4 => omega
      case d5 => have := hbel.size; simp; omega
      · intro v' w1 hown' hgrow _
        have hbel1 : Below w.heap.size w w1 := (hbel.alloc hbel.size _).grown hgrow (by have := hbel.size; simp; omega) (fun kk e => (hown.lt kk e).1)
        clear hgrow hown hbel
        go_wp2
        go_ret
        exact ⟨v', rfl, by rw [HE.out, List.length_append, strs_snoc]; exact hown', hbel1⟩
theorem words_long (s : ByteArray) (hs : (100 : Int) < (s.size : Int)) (w : World) :
    Calls Tryz.prog 14 #[.string s] w fun e w' => e = .returned (.slice (some ⟨w.heap.size, 0, none⟩) 0 0) ∧ Below w.heap.size w w' := by
  go_enter Tryz.func14, Tryz.ntmps14
  go_wp2
  go_ret
  exact ⟨rfl, (Below.refl _ _).alloc (by simp) _⟩
/-- What the k-th of some words is to the model: its number, or -1. -/
def atF (ws : List (List UInt8)) (k : Nat) : Int := match ws[k]? with
  | some l => numF l
  | none => -1
theorem at_none (v : Option Addr) (n cap k : Nat) (h : (n : Int) ≤ (k : Int)) (hk : k ≤ 100) (w : World) :
    Calls Tryz.prog 15 #[.slice v n cap, .int .i64 k] w fun e w' => e = .returned (.int .i64 (-1)) ∧ w' = w := by
  go_enter Tryz.func15, Tryz.ntmps15
  go_wp2
  go_ret
  exact ⟨rfl, rfl⟩
theorem at_some (g n cap k : Nat) (h : (k : Int) < (n : Int)) (hn : n ≤ 1000) (l : List UInt8) (hl : l.length ≤ 1000) (w : World) (hc : w.cell? ⟨g, k, none⟩ = some (.string ⟨l.toArray⟩)) :
    Calls Tryz.prog 15 #[.slice (some ⟨g, 0, none⟩) n cap, .int .i64 k] w fun e w' => e = .returned (.int .i64 (numF l)) ∧ w' = w := by
  go_enter Tryz.func15, Tryz.ntmps15
  go_wp2_with fail
  refine (number ⟨l.toArray⟩ _ (by simpa [ByteArray.size] using hl)).mono ?_
  rintro e w' ⟨rfl, rfl⟩
  go_wp2
  go_ret
  exact ⟨rfl, rfl⟩
theorem word_len : ∀ (l : List UInt8) (x : List UInt8), x ∈ words l → x.length ≤ l.length
  | [], x, h => by simp [words] at h; subst h; simp
  | b :: r, x, h => by
    obtain ⟨w', ws', e⟩ := words_cons r
    have ih := word_len r
    unfold words at h
    split at h
    · rcases List.mem_cons.1 h with rfl | h
      · simp
      · have := ih x h; simp; omega
    · rw [e] at h ih
      rcases List.mem_cons.1 h with rfl | h
      · have := ih w' (by simp); simp; omega
      · have := ih x (by simp [h]); simp; omega
theorem wlen : ∀ l : List UInt8, (words l).length ≤ l.length + 1
  | [] => by simp [words]
  | b :: r => by
    obtain ⟨w', ws', e⟩ := words_cons r
    have ih := wlen r
    unfold words
    rw [e] at ih ⊢
    split <;> simp at ih ⊢ <;> omega
/-- The model's look at the k-th word, whatever the words. -/
theorem at_any (s : ByteArray) (hs : (s.size : Int) ≤ 100) (base k : Nat) (hk : k ≤ 100) (v : Value) (w : World) (ho : w.ownsRow base 9 1 v (words s.data.toList).length (strs (words s.data.toList))) :
    Calls Tryz.prog 15 #[v, .int .i64 k] w fun e w' => e = .returned (.int .i64 (atF (words s.data.toList) k)) ∧ w' = w := by
  have hlen : (words s.data.toList).length ≤ s.size + 1 := by
    have := wlen s.data.toList
    rw [size_len] at this; exact this
  by_cases hlt : k < (words s.data.toList).length
  · obtain ⟨l, hl⟩ : ∃ l, (words s.data.toList)[k]? = some l := ⟨_, List.getElem?_eq_getElem hlt⟩
    have hll : l.length ≤ 1000 := by
      have := word_len s.data.toList l (List.mem_of_getElem? hl)
      rw [size_len] at this; omega
    have e : atF (words s.data.toList) k = numF l := by unfold atF; rw [hl]
    rw [e]
    rcases ho.2 with ⟨_, h0⟩ | ⟨g, cap, cur, rfl, _⟩
    · omega
    · have hc := ho.cells (g := g) rfl k (.string ⟨l.toArray⟩) (by simp [strs, hl])
      rw [show (⟨g, 0, none⟩ : Addr).add k = ⟨g, k, none⟩ by unfold Addr.add; split <;> simp_all] at hc
      exact at_some g _ cap k (by omega) (by omega) l hll w hc
  · have e : atF (words s.data.toList) k = -1 := by unfold atF; rw [List.getElem?_eq_none (by omega)]
    rw [e]
    rcases ho.2 with ⟨rfl, h0⟩ | ⟨g, cap, cur, rfl, _⟩
    · exact at_none none 0 0 k (by omega) hk w
    · exact at_none _ _ cap k (by omega) hk w
end Go.Proofs.YtlmoeacpkkkkcaaGreatDoor
namespace Go.Proofs.YtlmoeacpkkkkcaaGreatDoor
open Go.RowKit
set_option linter.unusedVariables false
set_option maxRecDepth 100000
def uF (s : ByteArray) (k : Nat) : Int := if s.size ≤ 100 then atF (words s.data.toList) k else -1
def uText (s : ByteArray) : ByteArray := textOf (uF s 1) (uF s 3) (uF s 5) (uF s 7) (uF s 9)
theorem frozen_alloc {w : World} {b o : Nat} (h : b < w.heap.size) {ob : Obj} : (w.alloc ob).frozen? ⟨b, o, none⟩ = w.frozen? ⟨b, o, none⟩ := ((Below.refl _ _).alloc (Nat.le_refl _) _ : Below w.heap.size w (w.alloc ob)).frozen (p := ⟨b, o, none⟩) h
theorem text_inj {x y : ByteArray} (h : x.toList = y.toList) : x = y := by
  rw [ByteArray.toList_eq, ByteArray.toList_eq] at h
  exact Go.WideShapes.bytes_inj h
/-- Five cells of a block, written anew. -/
def put5 (W : World) (b : Nat) (x0 x1 x2 x3 x4 : Value) : World :=
  ((((W.setCell ⟨b, 0, none⟩ x0).setCell ⟨b, 1, none⟩ x1).setCell ⟨b, 2, none⟩ x2).setCell ⟨b, 3, none⟩ x3).setCell ⟨b, 4, none⟩ x4
theorem put5_cells {W : World} {b : Nat} {y0 y1 y2 y3 y4 : Value} (c0 : W.cell? ⟨b, 0, none⟩ = some y0) (c1 : W.cell? ⟨b, 1, none⟩ = some y1) (c2 : W.cell? ⟨b, 2, none⟩ = some y2) (c3 : W.cell? ⟨b, 3, none⟩ = some y3) (c4 : W.cell? ⟨b, 4, none⟩ = some y4) (x0 x1 x2 x3 x4 : Value) :
    (put5 W b x0 x1 x2 x3 x4).cell? ⟨b, 0, none⟩ = some x0 ∧ (put5 W b x0 x1 x2 x3 x4).cell? ⟨b, 1, none⟩ = some x1 ∧ (put5 W b x0 x1 x2 x3 x4).cell? ⟨b, 2, none⟩ = some x2 ∧ (put5 W b x0 x1 x2 x3 x4).cell? ⟨b, 3, none⟩ = some x3 ∧ (put5 W b x0 x1 x2 x3 x4).cell? ⟨b, 4, none⟩ = some x4 := by
  have h : ∀ j, j < 5 → (W.cell? ⟨b, 0 + j, none⟩).isSome = true := by
    intro j hj
    match j, hj with
    | 0, _ => simp [c0]
    | 1, _ => simp [c1]
    | 2, _ => simp [c2]
    | 3, _ => simp [c3]
    | 4, _ => simp [c4]
  have e : put5 W b x0 x1 x2 x3 x4 = W.setCells b 0 [x0, x1, x2, x3, x4] := rfl
  rw [e]
  have g := World.cell?_setCells_in b [x0, x1, x2, x3, x4] 0 W h
  exact ⟨g 0 (by simp), g 1 (by simp), g 2 (by simp), g 3 (by simp), g 4 (by simp)⟩
theorem put5_size (W : World) (b : Nat) (x0 x1 x2 x3 x4 : Value) : (put5 W b x0 x1 x2 x3 x4).heap.size = W.heap.size := by simp [put5, World.setCell]
theorem put5_below {B : Nat} {a W : World} (h : Below B a W) {b : Nat} (hb : B ≤ b) (x0 x1 x2 x3 x4 : Value) : Below B a (put5 W b x0 x1 x2 x3 x4) :=
  ((((h.setCell (p := ⟨b, 0, none⟩) hb _).setCell (p := ⟨b, 1, none⟩) hb _).setCell (p := ⟨b, 2, none⟩) hb _).setCell (p := ⟨b, 3, none⟩) hb _).setCell (p := ⟨b, 4, none⟩) hb _
/-- The walk behind the words, whatever they are: each of the five looks hands back its number. -/
def Looks (s : ByteArray) (v : Value) (w1 : World) : Prop := ∀ k : Nat, k ≤ 100 → Calls Tryz.prog 15 #[v, .int .i64 k] w1 fun e w' => e = .returned (.int .i64 (uF s k)) ∧ w' = w1
theorem wordsLook (s : ByteArray) (w : World) : Calls Tryz.prog 14 #[.string s] w fun e w' => ∃ v, e = .returned v ∧ Looks s v w' ∧ Below w.heap.size w w' := by
  by_cases hs : s.size ≤ 100
  · refine (words_spec s (by omega) w).mono ?_
    rintro e w' ⟨v, rfl, ho, hb⟩
    refine ⟨v, rfl, fun k hk => ?_, hb⟩
    have := at_any s (by omega) _ k hk v w' ho
    unfold uF
    rw [if_pos hs]
    exact this
  · refine (words_long s (by omega) w).mono ?_
    rintro e w' ⟨rfl, hb⟩
    refine ⟨_, rfl, fun k hk => ?_, hb⟩
    unfold uF
    rw [if_neg hs]
    exact at_none _ 0 0 k (by omega) hk w'
set_option maxHeartbeats 1000000 in
theorem read_spec (s : ByteArray) (w : World) :
    Calls Tryz.prog 18 #[.string s] w fun e w' => ((¬ s.size = 0 ∧ uText s = s ∧ e = .returned (.tuple #[.agg #[.int .i64 (uF s 1), .int .i64 (uF s 3), .int .i64 (uF s 5), .int .i64 (uF s 7), .int .i64 (uF s 9)], .bool true])) ∨ (¬ (¬ s.size = 0 ∧ uText s = s) ∧ e = .returned (.tuple #[.agg #[.int .i64 0, .int .i64 0, .int .i64 0, .int .i64 0, .int .i64 0], .bool false]))) ∧ Below w.heap.size w w' := by
  go_enter Tryz.func18, Tryz.ntmps18
  go_wp2_with fail
  refine (wordsLook s _).mono ?_
  rintro e w1 ⟨v, rfl, hL, hb1⟩
  obtain ⟨hc1, hf1⟩ := bcell hb1
  have hz1 : w.heap.size < w1.heap.size := by have := hb1.size; simp at this; omega
  have L1 : Hid (Calls Tryz.prog 15 #[v, .int .i64 1] w1 fun e w' => e = .returned (.int .i64 (uF s 1)) ∧ w' = w1) := hL 1 (by omega)
  have L3 : Hid (Calls Tryz.prog 15 #[v, .int .i64 3] w1 fun e w' => e = .returned (.int .i64 (uF s 3)) ∧ w' = w1) := hL 3 (by omega)
  have L5 : Hid (Calls Tryz.prog 15 #[v, .int .i64 5] w1 fun e w' => e = .returned (.int .i64 (uF s 5)) ∧ w' = w1) := hL 5 (by omega)
  have L7 : Hid (Calls Tryz.prog 15 #[v, .int .i64 7] w1 fun e w' => e = .returned (.int .i64 (uF s 7)) ∧ w' = w1) := hL 7 (by omega)
  have L9 : Hid (Calls Tryz.prog 15 #[v, .int .i64 9] w1 fun e w' => e = .returned (.int .i64 (uF s 9)) ∧ w' = w1) := hL 9 (by omega)
  have c0 : w1.cell? ⟨w.heap.size, 0, none⟩ = some (.int .i64 0) := (hc1 _ 0 (by simp)).trans (by simp)
  have c1 : w1.cell? ⟨w.heap.size, 1, none⟩ = some (.int .i64 0) := (hc1 _ 1 (by simp)).trans (by simp)
  have c2 : w1.cell? ⟨w.heap.size, 2, none⟩ = some (.int .i64 0) := (hc1 _ 2 (by simp)).trans (by simp)
  have c3 : w1.cell? ⟨w.heap.size, 3, none⟩ = some (.int .i64 0) := (hc1 _ 3 (by simp)).trans (by simp)
  have c4 : w1.cell? ⟨w.heap.size, 4, none⟩ = some (.int .i64 0) := (hc1 _ 4 (by simp)).trans (by simp)
  have f0 : w1.frozen? ⟨w.heap.size, 0, none⟩ = false := (hf1 _ 0 (by simp)).trans (by simp)
  have f1 : w1.frozen? ⟨w.heap.size, 1, none⟩ = false := (hf1 _ 1 (by simp)).trans (by simp)
  have f2 : w1.frozen? ⟨w.heap.size, 2, none⟩ = false := (hf1 _ 2 (by simp)).trans (by simp)
  have f3 : w1.frozen? ⟨w.heap.size, 3, none⟩ = false := (hf1 _ 3 (by simp)).trans (by simp)
  have f4 : w1.frozen? ⟨w.heap.size, 4, none⟩ = false := (hf1 _ 4 (by simp)).trans (by simp)
  clear hL hc1 hf1
  go_wp2_with fail
  refine (L1.out).mono ?_
  rintro e w' ⟨rfl, hw'⟩
  subst hw'
  go_wp2_with fail
  refine (L3.out).mono ?_
  rintro e w' ⟨rfl, hw'⟩
  subst hw'
  go_wp2_with fail
  refine (L5.out).mono ?_
  rintro e w' ⟨rfl, hw'⟩
  subst hw'
  go_wp2_with fail
  refine (L7.out).mono ?_
  rintro e w' ⟨rfl, hw'⟩
  subst hw'
  go_wp2_with fail
  refine (L9.out).mono ?_
  rintro e w' ⟨rfl, hw'⟩
  subst hw'
  clear L1 L3 L5 L7 L9
  go_wp2_with fail
  · obtain ⟨q0, q1, q2, q3, q4⟩ := put5_cells c0 c1 c2 c3 c4 (.int .i64 0) (.int .i64 0) (.int .i64 0) (.int .i64 0) (.int .i64 0)
    have e0 : ((((((w'.setCell ⟨w.heap.size, 0, none⟩ (.int .i64 0)).setCell ⟨w.heap.size, 1, none⟩ (.int .i64 0)).setCell ⟨w.heap.size, 2, none⟩ (.int .i64 0)).setCell ⟨w.heap.size, 3, none⟩ (.int .i64 0)).setCell ⟨w.heap.size, 4, none⟩ (.int .i64 0)).alloc (.cells #[.int .i64 (uF ByteArray.empty 1), .int .i64 (uF ByteArray.empty 3), .int .i64 (uF ByteArray.empty 5), .int .i64 (uF ByteArray.empty 7), .int .i64 (uF ByteArray.empty 9)] 39)).cell? ⟨w.heap.size, 0, none⟩ = some (.int .i64 0) := (World.cell?_alloc_past _ _ _ (by have := put5_size w' w.heap.size (.int .i64 0) (.int .i64 0) (.int .i64 0) (.int .i64 0) (.int .i64 0); unfold put5 at this; omega)).trans q0
    have e1 : ((((((w'.setCell ⟨w.heap.size, 0, none⟩ (.int .i64 0)).setCell ⟨w.heap.size, 1, none⟩ (.int .i64 0)).setCell ⟨w.heap.size, 2, none⟩ (.int .i64 0)).setCell ⟨w.heap.size, 3, none⟩ (.int .i64 0)).setCell ⟨w.heap.size, 4, none⟩ (.int .i64 0)).alloc (.cells #[.int .i64 (uF ByteArray.empty 1), .int .i64 (uF ByteArray.empty 3), .int .i64 (uF ByteArray.empty 5), .int .i64 (uF ByteArray.empty 7), .int .i64 (uF ByteArray.empty 9)] 39)).cell? ⟨w.heap.size, 1, none⟩ = some (.int .i64 0) := (World.cell?_alloc_past _ _ _ (by have := put5_size w' w.heap.size (.int .i64 0) (.int .i64 0) (.int .i64 0) (.int .i64 0) (.int .i64 0); unfold put5 at this; omega)).trans q1
    have e2 : ((((((w'.setCell ⟨w.heap.size, 0, none⟩ (.int .i64 0)).setCell ⟨w.heap.size, 1, none⟩ (.int .i64 0)).setCell ⟨w.heap.size, 2, none⟩ (.int .i64 0)).setCell ⟨w.heap.size, 3, none⟩ (.int .i64 0)).setCell ⟨w.heap.size, 4, none⟩ (.int .i64 0)).alloc (.cells #[.int .i64 (uF ByteArray.empty 1), .int .i64 (uF ByteArray.empty 3), .int .i64 (uF ByteArray.empty 5), .int .i64 (uF ByteArray.empty 7), .int .i64 (uF ByteArray.empty 9)] 39)).cell? ⟨w.heap.size, 2, none⟩ = some (.int .i64 0) := (World.cell?_alloc_past _ _ _ (by have := put5_size w' w.heap.size (.int .i64 0) (.int .i64 0) (.int .i64 0) (.int .i64 0) (.int .i64 0); unfold put5 at this; omega)).trans q2
    have e3 : ((((((w'.setCell ⟨w.heap.size, 0, none⟩ (.int .i64 0)).setCell ⟨w.heap.size, 1, none⟩ (.int .i64 0)).setCell ⟨w.heap.size, 2, none⟩ (.int .i64 0)).setCell ⟨w.heap.size, 3, none⟩ (.int .i64 0)).setCell ⟨w.heap.size, 4, none⟩ (.int .i64 0)).alloc (.cells #[.int .i64 (uF ByteArray.empty 1), .int .i64 (uF ByteArray.empty 3), .int .i64 (uF ByteArray.empty 5), .int .i64 (uF ByteArray.empty 7), .int .i64 (uF ByteArray.empty 9)] 39)).cell? ⟨w.heap.size, 3, none⟩ = some (.int .i64 0) := (World.cell?_alloc_past _ _ _ (by have := put5_size w' w.heap.size (.int .i64 0) (.int .i64 0) (.int .i64 0) (.int .i64 0) (.int .i64 0); unfold put5 at this; omega)).trans q3
    have e4 : ((((((w'.setCell ⟨w.heap.size, 0, none⟩ (.int .i64 0)).setCell ⟨w.heap.size, 1, none⟩ (.int .i64 0)).setCell ⟨w.heap.size, 2, none⟩ (.int .i64 0)).setCell ⟨w.heap.size, 3, none⟩ (.int .i64 0)).setCell ⟨w.heap.size, 4, none⟩ (.int .i64 0)).alloc (.cells #[.int .i64 (uF ByteArray.empty 1), .int .i64 (uF ByteArray.empty 3), .int .i64 (uF ByteArray.empty 5), .int .i64 (uF ByteArray.empty 7), .int .i64 (uF ByteArray.empty 9)] 39)).cell? ⟨w.heap.size, 4, none⟩ = some (.int .i64 0) := (World.cell?_alloc_past _ _ _ (by have := put5_size w' w.heap.size (.int .i64 0) (.int .i64 0) (.int .i64 0) (.int .i64 0) (.int .i64 0); unfold put5 at this; omega)).trans q4
    refine bodyPost_ret (v := .tuple #[.agg #[.int .i64 0, .int .i64 0, .int .i64 0, .int .i64 0, .int .i64 0], .bool false]) ?_ rfl ⟨.inr ⟨fun h => h.1 (by simp_all), rfl⟩, ?_⟩
    · simp [results, Tryz.results18, go_sem, e0, e1, e2, e3, e4]
    · exact (put5_below (bthen ((Below.refl _ _).alloc (by simp) _) hb1) (Nat.le_refl _) (.int .i64 0) (.int .i64 0) (.int .i64 0) (.int .i64 0) (.int .i64 0)).alloc (by rw [put5_size]; omega) _
  · refine (text_spec _ _ _ _ _ _).mono ?_
    rintro e w2 ⟨rfl, hb2⟩
    obtain ⟨hc2, hf2⟩ := bcell hb2
    have d0 : w2.cell? ⟨w.heap.size, 0, none⟩ = some (.int .i64 0) := (hc2 _ 0 (by simp; omega)).trans (by rw [World.cell?_alloc_past _ _ _ hz1]; exact c0)
    have g0 : w2.frozen? ⟨w.heap.size, 0, none⟩ = false := (hf2 _ 0 (by simp; omega)).trans (by rw [frozen_alloc hz1]; exact f0)
    have u0 : w2.cell? ⟨w'.heap.size, 0, none⟩ = some (.int .i64 (uF s 1)) := (hc2 _ 0 (by simp)).trans (by simp)
    have d1 : w2.cell? ⟨w.heap.size, 1, none⟩ = some (.int .i64 0) := (hc2 _ 1 (by simp; omega)).trans (by rw [World.cell?_alloc_past _ _ _ hz1]; exact c1)
    have g1 : w2.frozen? ⟨w.heap.size, 1, none⟩ = false := (hf2 _ 1 (by simp; omega)).trans (by rw [frozen_alloc hz1]; exact f1)
    have u1 : w2.cell? ⟨w'.heap.size, 1, none⟩ = some (.int .i64 (uF s 3)) := (hc2 _ 1 (by simp)).trans (by simp)
    have d2 : w2.cell? ⟨w.heap.size, 2, none⟩ = some (.int .i64 0) := (hc2 _ 2 (by simp; omega)).trans (by rw [World.cell?_alloc_past _ _ _ hz1]; exact c2)
    have g2 : w2.frozen? ⟨w.heap.size, 2, none⟩ = false := (hf2 _ 2 (by simp; omega)).trans (by rw [frozen_alloc hz1]; exact f2)
    have u2 : w2.cell? ⟨w'.heap.size, 2, none⟩ = some (.int .i64 (uF s 5)) := (hc2 _ 2 (by simp)).trans (by simp)
    have d3 : w2.cell? ⟨w.heap.size, 3, none⟩ = some (.int .i64 0) := (hc2 _ 3 (by simp; omega)).trans (by rw [World.cell?_alloc_past _ _ _ hz1]; exact c3)
    have g3 : w2.frozen? ⟨w.heap.size, 3, none⟩ = false := (hf2 _ 3 (by simp; omega)).trans (by rw [frozen_alloc hz1]; exact f3)
    have u3 : w2.cell? ⟨w'.heap.size, 3, none⟩ = some (.int .i64 (uF s 7)) := (hc2 _ 3 (by simp)).trans (by simp)
    have d4 : w2.cell? ⟨w.heap.size, 4, none⟩ = some (.int .i64 0) := (hc2 _ 4 (by simp; omega)).trans (by rw [World.cell?_alloc_past _ _ _ hz1]; exact c4)
    have g4 : w2.frozen? ⟨w.heap.size, 4, none⟩ = false := (hf2 _ 4 (by simp; omega)).trans (by rw [frozen_alloc hz1]; exact f4)
    have u4 : w2.cell? ⟨w'.heap.size, 4, none⟩ = some (.int .i64 (uF s 9)) := (hc2 _ 4 (by simp)).trans (by simp)
    clear hc2 hf2 c0 c1 c2 c3 c4 f0 f1 f2 f3 f4
    have B2 : Below w.heap.size w w2 := bthen ((bthen ((Below.refl _ _).alloc (by simp) _) hb1).alloc (Nat.le_of_lt hz1) _) hb2
    by_cases he : uText s = s
    · have he' : ((textOf (uF s 1) (uF s 3) (uF s 5) (uF s 7) (uF s 9)).toList == s.toList) = true := by
        rw [show textOf (uF s 1) (uF s 3) (uF s 5) (uF s 7) (uF s 9) = s from he]; simp
      have hn0 : ¬ s.size = 0 := by
        intro e
        have : (↑s.size == (0 : Int)) = true := by simp [e]
        simp_all
      have HE : Hid (uText s = s) := he
      clear he
      go_wp2
      obtain ⟨q0, q1, q2, q3, q4⟩ := put5_cells d0 d1 d2 d3 d4 (.int .i64 (uF s 1)) (.int .i64 (uF s 3)) (.int .i64 (uF s 5)) (.int .i64 (uF s 7)) (.int .i64 (uF s 9))
      unfold put5 at q0 q1 q2 q3 q4
      refine bodyPost_ret (v := .tuple #[.agg #[.int .i64 (uF s 1), .int .i64 (uF s 3), .int .i64 (uF s 5), .int .i64 (uF s 7), .int .i64 (uF s 9)], .bool true]) ?_ rfl ⟨.inl ⟨hn0, HE.out, rfl⟩, ?_⟩
      · simp [results, Tryz.results18, go_sem, q0, q1, q2, q3, q4]
      · exact put5_below B2 (Nat.le_refl _) (.int .i64 (uF s 1)) (.int .i64 (uF s 3)) (.int .i64 (uF s 5)) (.int .i64 (uF s 7)) (.int .i64 (uF s 9))
    · have he' : ((textOf (uF s 1) (uF s 3) (uF s 5) (uF s 7) (uF s 9)).toList == s.toList) = false := by
        apply beq_eq_false_iff_ne.2
        intro e
        exact he (text_inj e)
      have HE : Hid (¬ uText s = s) := he
      clear he
      go_wp2
      obtain ⟨q0, q1, q2, q3, q4⟩ := put5_cells d0 d1 d2 d3 d4 (.int .i64 0) (.int .i64 0) (.int .i64 0) (.int .i64 0) (.int .i64 0)
      unfold put5 at q0 q1 q2 q3 q4
      refine bodyPost_ret (v := .tuple #[.agg #[.int .i64 0, .int .i64 0, .int .i64 0, .int .i64 0, .int .i64 0], .bool false]) ?_ rfl ⟨.inr ⟨fun h => HE.out h.2, rfl⟩, ?_⟩
      · simp [results, Tryz.results18, go_sem, q0, q1, q2, q3, q4]
      · exact put5_below B2 (Nat.le_refl _) (.int .i64 0) (.int .i64 0) (.int .i64 0) (.int .i64 0) (.int .i64 0)
end Go.Proofs.YtlmoeacpkkkkcaaGreatDoor
namespace Go.Proofs.YtlmoeacpkkkkcaaGreatDoor
open Go.RowKit
set_option linter.unusedVariables false
set_option maxRecDepth 100000
/-- The number that the program reads in the k-th word. -/
def vF (s : ByteArray) (k : Nat) : Int := atoiV ((words s.data.toList).getD k [])
def vText (s : ByteArray) : ByteArray := textOf (vF s 1) (vF s 3) (vF s 5) (vF s 7) (vF s 9)
def vOk (s : ByteArray) : Prop := s.size ≤ 100 ∧ (words s.data.toList).length = 10 ∧ vText s = s
theorem pieces (s : ByteArray) : (Lib.splitB ⟨#[32]⟩ 0 (Lib.countB s ⟨#[32]⟩) s).map (fun x => x.data.toList) = words s.data.toList := by
  rw [Lib.splitB_data, ← split_words]
  have : Lib.countB s ⟨#[32]⟩ = s.data.toList.count 32 := by rw [← Lib.count_one]
  rw [this]
theorem pieces_len (s : ByteArray) : (Lib.splitB ⟨#[32]⟩ 0 (Lib.countB s ⟨#[32]⟩) s).length = (words s.data.toList).length := by
  rw [← pieces s, List.length_map]
theorem wcount : ∀ l : List UInt8, (words l).length = l.count 32 + 1
  | [] => rfl
  | b :: r => by
    have ih := wcount r
    obtain ⟨w', ws', e⟩ := words_cons r
    unfold words
    by_cases hb : b = 32
    · subst hb; simp [ih]
    · rw [if_neg hb, e, List.count_cons]
      rw [e] at ih
      simp [hb] at ih ⊢
      exact ih
/-- What Split leaves in memory: a row of strings whose bytes are the words. -/
theorem split_any (s : ByteArray) (hs : s.size ≤ 100) (w : World) (hE : Env w) :
    Calls Tryz.prog 47 #[.string s, .string ⟨#[32]⟩] w fun e w' => ∃ ps : List ByteArray, ps.map (fun x => x.data.toList) = words s.data.toList ∧
      e = .returned (.slice (some ⟨w.heap.size, 0, none⟩) ps.length ps.length) ∧ (∀ k x, ps[k]? = some x → w'.cell? ⟨w.heap.size, k, none⟩ = some (.string x)) ∧ Below w.heap.size w w' ∧ w'.heap.size = w.heap.size + 1 := by
  obtain ⟨⟨m, hm⟩, _⟩ := hE w (Below.refl _ _)
  have hlen : Lib.countB s ⟨#[32]⟩ + 1 = (Lib.splitB ⟨#[32]⟩ 0 (Lib.countB s ⟨#[32]⟩) s).length := by
    have h1 := pieces_len s
    have h2 : (words s.data.toList).length = s.data.toList.count 32 + 1 := wcount s.data.toList
    have h3 : Lib.countB s ⟨#[32]⟩ = s.data.toList.count 32 := by rw [← Lib.count_one]
    omega
  refine (Tryz.strings_Split s ⟨#[32]⟩ m w (by omega) hm (by decide)).mono ?_
  rintro e w' ⟨rfl, rfl⟩
  refine ⟨_, pieces s, by rw [hlen], ?_, (Below.refl _ _).alloc (by simp) _, by simp⟩
  intro k x hx
  simp [hx]
end Go.Proofs.YtlmoeacpkkkkcaaGreatDoor
namespace Go.Proofs.YtlmoeacpkkkkcaaGreatDoor
open Go.RowKit
set_option linter.unusedVariables false
set_option maxRecDepth 100000
theorem cell_lt5 {W : World} {b o : Nat} {u : Value} (c : W.cell? ⟨b, o, none⟩ = some u) : b < W.heap.size := World.block_lt_of_cell? W _ c
/-- A block of five noughts, none of them frozen. -/
def FiveZ (W : World) (g : Nat) : Prop := g < W.heap.size ∧ ∀ j, j < 5 → W.cell? ⟨g, j, none⟩ = some (.int .i64 0) ∧ W.frozen? ⟨g, j, none⟩ = false
theorem FiveZ.new (W : World) : FiveZ (W.alloc (.cells #[.int .i64 0, .int .i64 0, .int .i64 0, .int .i64 0, .int .i64 0] 39)) W.heap.size := by
  refine ⟨by simp, fun j hj => ?_⟩
  match j, hj with
  | 0, _ => simp
  | 1, _ => simp
  | 2, _ => simp
  | 3, _ => simp
  | 4, _ => simp
theorem FiveZ.below {W W' : World} {g : Nat} (h : FiveZ W g) (hb : Below W.heap.size W W') : FiveZ W' g :=
  ⟨Nat.lt_of_lt_of_le h.1 hb.size, fun j hj => ⟨(hb.cell (p := ⟨g, j, none⟩) h.1).trans (h.2 j hj).1, (hb.frozen (p := ⟨g, j, none⟩) h.1).trans (h.2 j hj).2⟩⟩
theorem FiveZ.all {W : World} {g : Nat} (h : FiveZ W g) : W.cell? ⟨g, 0, none⟩ = some (.int .i64 0) ∧ W.cell? ⟨g, 1, none⟩ = some (.int .i64 0) ∧ W.cell? ⟨g, 2, none⟩ = some (.int .i64 0) ∧ W.cell? ⟨g, 3, none⟩ = some (.int .i64 0) ∧ W.cell? ⟨g, 4, none⟩ = some (.int .i64 0) ∧ W.frozen? ⟨g, 0, none⟩ = false ∧ W.frozen? ⟨g, 1, none⟩ = false ∧ W.frozen? ⟨g, 2, none⟩ = false ∧ W.frozen? ⟨g, 3, none⟩ = false ∧ W.frozen? ⟨g, 4, none⟩ = false :=
  ⟨(h.2 0 (by omega)).1, (h.2 1 (by omega)).1, (h.2 2 (by omega)).1, (h.2 3 (by omega)).1, (h.2 4 (by omega)).1, (h.2 0 (by omega)).2, (h.2 1 (by omega)).2, (h.2 2 (by omega)).2, (h.2 3 (by omega)).2, (h.2 4 (by omega)).2⟩
theorem ten {α : Type} : ∀ l : List α, l.length = 10 → ∃ a b c d e f g h i j, l = [a, b, c, d, e, f, g, h, i, j]
  | [a, b, c, d, e, f, g, h, i, j], _ => ⟨a, b, c, d, e, f, g, h, i, j, rfl⟩
theorem piece_size {s : ByteArray} (hs : s.size ≤ 100) {ps : List ByteArray} (h : ps.map (fun x => x.data.toList) = words s.data.toList) (x : ByteArray) (hx : x ∈ ps) : x.size ≤ 1000 := by
  have := word_len s.data.toList x.data.toList (by rw [← h]; exact List.mem_map.2 ⟨x, hx, rfl⟩)
  rw [size_len, size_len] at this
  omega
set_option maxHeartbeats 8000000 in
theorem read_impl (s : ByteArray) (w : World) (hE : Env w) :
    Calls Tryz.prog 43 #[.string s] w fun e w' => ((vOk s ∧ e = .returned (.tuple #[.agg #[.int .i64 (vF s 1), .int .i64 (vF s 3), .int .i64 (vF s 5), .int .i64 (vF s 7), .int .i64 (vF s 9)], .bool true])) ∨ (¬ vOk s ∧ e = .returned (.tuple #[.agg #[.int .i64 0, .int .i64 0, .int .i64 0, .int .i64 0, .int .i64 0], .bool false]))) ∧ Below w.heap.size w w' := by
  by_cases hs : s.size ≤ 100
  · have HE : Hid (Env (w.alloc (.cells #[.int .i64 0, .int .i64 0, .int .i64 0, .int .i64 0, .int .i64 0] 39))) := hE.on ((Below.refl _ _).alloc (by simp) _)
    clear hE
    have hs' : (s.size : Int) ≤ 100 := by omega
    go_enter Tryz.func43, Tryz.ntmps43
    go_wp2_with fail
    refine (split_any s hs _ HE.out).mono ?_
    rintro e w1 ⟨ps, hps, rfl, hcell, hb1, hz1'⟩
    have hz1 : w1.heap.size = w.heap.size + 2 := by simpa using hz1'
    have E1 : Hid (Env w1) := HE.out.on hb1
    have Bw1 : Below w.heap.size w w1 := bthen ((Below.refl _ _).alloc (by simp) _) hb1
    have c0 : w1.cell? ⟨w.heap.size, 0, none⟩ = some (.int .i64 0) := (hb1.cell (p := ⟨w.heap.size, 0, none⟩) (by simp)).trans (by simp)
    have f0 : w1.frozen? ⟨w.heap.size, 0, none⟩ = false := (hb1.frozen (p := ⟨w.heap.size, 0, none⟩) (by simp)).trans (by simp)
    have c1 : w1.cell? ⟨w.heap.size, 1, none⟩ = some (.int .i64 0) := (hb1.cell (p := ⟨w.heap.size, 1, none⟩) (by simp)).trans (by simp)
    have f1 : w1.frozen? ⟨w.heap.size, 1, none⟩ = false := (hb1.frozen (p := ⟨w.heap.size, 1, none⟩) (by simp)).trans (by simp)
    have c2 : w1.cell? ⟨w.heap.size, 2, none⟩ = some (.int .i64 0) := (hb1.cell (p := ⟨w.heap.size, 2, none⟩) (by simp)).trans (by simp)
    have f2 : w1.frozen? ⟨w.heap.size, 2, none⟩ = false := (hb1.frozen (p := ⟨w.heap.size, 2, none⟩) (by simp)).trans (by simp)
    have c3 : w1.cell? ⟨w.heap.size, 3, none⟩ = some (.int .i64 0) := (hb1.cell (p := ⟨w.heap.size, 3, none⟩) (by simp)).trans (by simp)
    have f3 : w1.frozen? ⟨w.heap.size, 3, none⟩ = false := (hb1.frozen (p := ⟨w.heap.size, 3, none⟩) (by simp)).trans (by simp)
    have c4 : w1.cell? ⟨w.heap.size, 4, none⟩ = some (.int .i64 0) := (hb1.cell (p := ⟨w.heap.size, 4, none⟩) (by simp)).trans (by simp)
    have f4 : w1.frozen? ⟨w.heap.size, 4, none⟩ = false := (hb1.frozen (p := ⟨w.heap.size, 4, none⟩) (by simp)).trans (by simp)
    have hn : ps.length = (words s.data.toList).length := by rw [← hps, List.length_map]
    have hZ := piece_size hs hps
    have hcell' : ∀ k x, ps[k]? = some x → w1.cell? ⟨w.heap.size + 1, k, none⟩ = some (.string x) := by simpa using hcell
    clear HE hb1 hcell hz1'
    by_cases h10 : ps.length = 10
    · have HW : Hid (True ∧ (words s.data.toList).length = 10) := ⟨trivial, by omega⟩
      obtain ⟨p0, p1, p2, p3, p4, p5, p6, p7, p8, p9, rfl⟩ := ten ps h10
      have HV : Hid (vF s 1 = atoiV p1.data.toList ∧ vF s 3 = atoiV p3.data.toList ∧ vF s 5 = atoiV p5.data.toList ∧ vF s 7 = atoiV p7.data.toList ∧ vF s 9 = atoiV p9.data.toList) := by
        unfold vF
        rw [← hps]
        exact ⟨rfl, rfl, rfl, rfl, rfl⟩
      have e1 := hcell' 1 p1 rfl
      have z1 := hZ p1 (by simp)
      have e3 := hcell' 3 p3 rfl
      have z3 := hZ p3 (by simp)
      have e5 := hcell' 5 p5 rfl
      have z5 := hZ p5 (by simp)
      have e7 := hcell' 7 p7 rfl
      have z7 := hZ p7 (by simp)
      have e9 := hcell' 9 p9 rfl
      have z9 := hZ p9 (by simp)
      clear hcell' hps hn h10 hZ
      go_wp2
      refine wp_region_held_drew (S := fun W => Below w1.heap.size w1 W) (by kernel_rfl) (Below.drew (Below.refl _ _)) ?_
      intro hHeld
      have BW0 := hHeld
      generalize w1.drew = W0 at *
      refine wpAnyH_take (i := 0) (v := .slice (some ⟨w.heap.size + 1, 0, none⟩) 10 10) rfl (by kernel_rfl) (by kernel_rfl) (by kernel_rfl) (fun _ _ _ h => h) (Or.inl ⟨by rfl, ?_⟩) (by assumption) ?_
      · intro wx hSw; go_simp
      try simp only [Act.put, List.setIfInBounds_toArray, List.set_cons_zero, List.set_cons_succ, List.getElem_toArray, List.getElem_cons_zero]
      refine wpAnyH_take (i := 1) (v := .pointer (some ⟨w.heap.size + 1, 1, none⟩)) rfl (by kernel_rfl) (by kernel_rfl) (by kernel_rfl) (fun _ _ _ h => h) (Or.inl ⟨by rfl, ?_⟩) (by assumption) ?_
      · intro wx hSw; go_simp
      try simp only [Act.put, List.setIfInBounds_toArray, List.set_cons_zero, List.set_cons_succ, List.getElem_toArray, List.getElem_cons_zero, List.getElem_cons_succ]
      refine wpAnyH_take (i := 2) (v := .string p1) rfl (by kernel_rfl) (by kernel_rfl) (by kernel_rfl) (fun _ _ _ h => h) (Or.inl ⟨by rfl, ?_⟩) (by assumption) ?_
      · intro wx hSw; have hx := (hSw.cell (p := ⟨w.heap.size + 1, 1, none⟩) (by show w.heap.size + 1 < w1.heap.size; omega)).trans e1; clear hSw; go_simp
      try simp only [Act.put, List.setIfInBounds_toArray, List.set_cons_zero, List.set_cons_succ, List.getElem_toArray, List.getElem_cons_zero, List.getElem_cons_succ]
      refine wpAnyH_take (i := 4) (v := .slice (some ⟨w.heap.size + 1, 0, none⟩) 10 10) rfl (by kernel_rfl) (by kernel_rfl) (by kernel_rfl) (fun _ _ _ h => h) (Or.inl ⟨by rfl, ?_⟩) (by assumption) ?_
      · intro wx hSw; go_simp
      try simp only [Act.put, List.setIfInBounds_toArray, List.set_cons_zero, List.set_cons_succ, List.getElem_toArray, List.getElem_cons_zero, List.getElem_cons_succ]
      refine wpAnyH_take (i := 5) (v := .pointer (some ⟨w.heap.size + 1, 3, none⟩)) rfl (by kernel_rfl) (by kernel_rfl) (by kernel_rfl) (fun _ _ _ h => h) (Or.inl ⟨by rfl, ?_⟩) (by assumption) ?_
      · intro wx hSw; go_simp
      try simp only [Act.put, List.setIfInBounds_toArray, List.set_cons_zero, List.set_cons_succ, List.getElem_toArray, List.getElem_cons_zero, List.getElem_cons_succ]
      refine wpAnyH_take (i := 6) (v := .string p3) rfl (by kernel_rfl) (by kernel_rfl) (by kernel_rfl) (fun _ _ _ h => h) (Or.inl ⟨by rfl, ?_⟩) (by assumption) ?_
      · intro wx hSw; have hx := (hSw.cell (p := ⟨w.heap.size + 1, 3, none⟩) (by show w.heap.size + 1 < w1.heap.size; omega)).trans e3; clear hSw; go_simp
      try simp only [Act.put, List.setIfInBounds_toArray, List.set_cons_zero, List.set_cons_succ, List.getElem_toArray, List.getElem_cons_zero, List.getElem_cons_succ]
      refine wpAnyH_take (i := 8) (v := .slice (some ⟨w.heap.size + 1, 0, none⟩) 10 10) rfl (by kernel_rfl) (by kernel_rfl) (by kernel_rfl) (fun _ _ _ h => h) (Or.inl ⟨by rfl, ?_⟩) (by assumption) ?_
      · intro wx hSw; go_simp
      try simp only [Act.put, List.setIfInBounds_toArray, List.set_cons_zero, List.set_cons_succ, List.getElem_toArray, List.getElem_cons_zero, List.getElem_cons_succ]
      refine wpAnyH_take (i := 9) (v := .pointer (some ⟨w.heap.size + 1, 5, none⟩)) rfl (by kernel_rfl) (by kernel_rfl) (by kernel_rfl) (fun _ _ _ h => h) (Or.inl ⟨by rfl, ?_⟩) (by assumption) ?_
      · intro wx hSw; go_simp
      try simp only [Act.put, List.setIfInBounds_toArray, List.set_cons_zero, List.set_cons_succ, List.getElem_toArray, List.getElem_cons_zero, List.getElem_cons_succ]
      refine wpAnyH_take (i := 10) (v := .string p5) rfl (by kernel_rfl) (by kernel_rfl) (by kernel_rfl) (fun _ _ _ h => h) (Or.inl ⟨by rfl, ?_⟩) (by assumption) ?_
      · intro wx hSw; have hx := (hSw.cell (p := ⟨w.heap.size + 1, 5, none⟩) (by show w.heap.size + 1 < w1.heap.size; omega)).trans e5; clear hSw; go_simp
      try simp only [Act.put, List.setIfInBounds_toArray, List.set_cons_zero, List.set_cons_succ, List.getElem_toArray, List.getElem_cons_zero, List.getElem_cons_succ]
      refine wpAnyH_take (i := 12) (v := .slice (some ⟨w.heap.size + 1, 0, none⟩) 10 10) rfl (by kernel_rfl) (by kernel_rfl) (by kernel_rfl) (fun _ _ _ h => h) (Or.inl ⟨by rfl, ?_⟩) (by assumption) ?_
      · intro wx hSw; go_simp
      try simp only [Act.put, List.setIfInBounds_toArray, List.set_cons_zero, List.set_cons_succ, List.getElem_toArray, List.getElem_cons_zero, List.getElem_cons_succ]
      refine wpAnyH_take (i := 13) (v := .pointer (some ⟨w.heap.size + 1, 7, none⟩)) rfl (by kernel_rfl) (by kernel_rfl) (by kernel_rfl) (fun _ _ _ h => h) (Or.inl ⟨by rfl, ?_⟩) (by assumption) ?_
      · intro wx hSw; go_simp
      try simp only [Act.put, List.setIfInBounds_toArray, List.set_cons_zero, List.set_cons_succ, List.getElem_toArray, List.getElem_cons_zero, List.getElem_cons_succ]
      refine wpAnyH_take (i := 14) (v := .string p7) rfl (by kernel_rfl) (by kernel_rfl) (by kernel_rfl) (fun _ _ _ h => h) (Or.inl ⟨by rfl, ?_⟩) (by assumption) ?_
      · intro wx hSw; have hx := (hSw.cell (p := ⟨w.heap.size + 1, 7, none⟩) (by show w.heap.size + 1 < w1.heap.size; omega)).trans e7; clear hSw; go_simp
      try simp only [Act.put, List.setIfInBounds_toArray, List.set_cons_zero, List.set_cons_succ, List.getElem_toArray, List.getElem_cons_zero, List.getElem_cons_succ]
      refine wpAnyH_take (i := 16) (v := .slice (some ⟨w.heap.size + 1, 0, none⟩) 10 10) rfl (by kernel_rfl) (by kernel_rfl) (by kernel_rfl) (fun _ _ _ h => h) (Or.inl ⟨by rfl, ?_⟩) (by assumption) ?_
      · intro wx hSw; go_simp
      try simp only [Act.put, List.setIfInBounds_toArray, List.set_cons_zero, List.set_cons_succ, List.getElem_toArray, List.getElem_cons_zero, List.getElem_cons_succ]
      refine wpAnyH_take (i := 17) (v := .pointer (some ⟨w.heap.size + 1, 9, none⟩)) rfl (by kernel_rfl) (by kernel_rfl) (by kernel_rfl) (fun _ _ _ h => h) (Or.inl ⟨by rfl, ?_⟩) (by assumption) ?_
      · intro wx hSw; go_simp
      try simp only [Act.put, List.setIfInBounds_toArray, List.set_cons_zero, List.set_cons_succ, List.getElem_toArray, List.getElem_cons_zero, List.getElem_cons_succ]
      refine wpAnyH_take (i := 18) (v := .string p9) rfl (by kernel_rfl) (by kernel_rfl) (by kernel_rfl) (fun _ _ _ h => h) (Or.inl ⟨by rfl, ?_⟩) (by assumption) ?_
      · intro wx hSw; have hx := (hSw.cell (p := ⟨w.heap.size + 1, 9, none⟩) (by show w.heap.size + 1 < w1.heap.size; omega)).trans e9; clear hSw; go_simp
      try simp only [Act.put, List.setIfInBounds_toArray, List.set_cons_zero, List.set_cons_succ, List.getElem_toArray, List.getElem_cons_zero, List.getElem_cons_succ]
      refine wpAnyH_ready (rs := [3, 21]) (by kernel_rfl) (by simp) ?_
      refine AllReadyH.cons rfl (fun K hK => ?_) (AllReadyH.cons rfl (fun K hK => ?_) AllReadyH.nil)
      · go_simp
        go_wp2_with (go_at_call 48; refine (loose p1 z1 _ (E1.out.on BW0)).mono ?_; rintro e W1 ⟨rfl, hb3⟩)
        have BW2 : Below w1.heap.size w1 W1 := BW0.trans (hb3.mono BW0.size)
        refine hK.out _ _ BW2 (fun hHeld => ?_)
        clear hK hb3 BW0
        try simp only [Act.put, List.setIfInBounds_toArray, List.set_cons_zero, List.set_cons_succ, List.getElem_toArray, List.getElem_cons_zero, List.getElem_cons_succ]
        refine wpAnyH_ready (rs := [7, 21]) (by kernel_rfl) (by simp) ?_
        refine AllReadyH.cons rfl (fun K hK => ?_) (AllReadyH.cons rfl (fun K hK => ?_) AllReadyH.nil)
        · go_simp
          go_wp2_with (go_at_call 48; refine (loose p3 z3 _ (E1.out.on BW2)).mono ?_; rintro e W4 ⟨rfl, hb6⟩)
          have BW5 : Below w1.heap.size w1 W4 := BW2.trans (hb6.mono BW2.size)
          refine hK.out _ _ BW5 (fun hHeld => ?_)
          clear hK hb6 BW2
          try simp only [Act.put, List.setIfInBounds_toArray, List.set_cons_zero, List.set_cons_succ, List.getElem_toArray, List.getElem_cons_zero, List.getElem_cons_succ]
          refine wpAnyH_ready (rs := [11, 21]) (by kernel_rfl) (by simp) ?_
          refine AllReadyH.cons rfl (fun K hK => ?_) (AllReadyH.cons rfl (fun K hK => ?_) AllReadyH.nil)
          · go_simp
            go_wp2_with (go_at_call 48; refine (loose p5 z5 _ (E1.out.on BW5)).mono ?_; rintro e W7 ⟨rfl, hb9⟩)
            have BW8 : Below w1.heap.size w1 W7 := BW5.trans (hb9.mono BW5.size)
            refine hK.out _ _ BW8 (fun hHeld => ?_)
            clear hK hb9 BW5
            try simp only [Act.put, List.setIfInBounds_toArray, List.set_cons_zero, List.set_cons_succ, List.getElem_toArray, List.getElem_cons_zero, List.getElem_cons_succ]
            refine wpAnyH_ready (rs := [15, 21]) (by kernel_rfl) (by simp) ?_
            refine AllReadyH.cons rfl (fun K hK => ?_) (AllReadyH.cons rfl (fun K hK => ?_) AllReadyH.nil)
            · go_simp
              go_wp2_with (go_at_call 48; refine (loose p7 z7 _ (E1.out.on BW8)).mono ?_; rintro e W10 ⟨rfl, hb12⟩)
              have BW11 : Below w1.heap.size w1 W10 := BW8.trans (hb12.mono BW8.size)
              refine hK.out _ _ BW11 (fun hHeld => ?_)
              clear hK hb12 BW8
              try simp only [Act.put, List.setIfInBounds_toArray, List.set_cons_zero, List.set_cons_succ, List.getElem_toArray, List.getElem_cons_zero, List.getElem_cons_succ]
              refine wpAnyH_ready (rs := [19, 21]) (by kernel_rfl) (by simp) ?_
              refine AllReadyH.cons rfl (fun K hK => ?_) (AllReadyH.cons rfl (fun K hK => ?_) AllReadyH.nil)
              · go_simp
                go_wp2_with (go_at_call 48; refine (loose p9 z9 _ (E1.out.on BW11)).mono ?_; rintro e W13 ⟨rfl, hb15⟩)
                have BW14 : Below w1.heap.size w1 W13 := BW11.trans (hb15.mono BW11.size)
                refine hK.out _ _ BW14 (fun hHeld => ?_)
                clear hK hb15 BW11
                try simp only [Act.put, List.setIfInBounds_toArray, List.set_cons_zero, List.set_cons_succ, List.getElem_toArray, List.getElem_cons_zero, List.getElem_cons_succ]
                refine wpAnyH_take (i := 20) (v := .agg #[.int .i64 (atoiV p1.data.toList), .int .i64 (atoiV p3.data.toList), .int .i64 (atoiV p5.data.toList), .int .i64 (atoiV p7.data.toList), .int .i64 (atoiV p9.data.toList)]) rfl (by kernel_rfl) (by kernel_rfl) (by kernel_rfl) (fun _ _ _ h => h) (Or.inl ⟨by rfl, ?_⟩) (by assumption) ?_
                · intro wx hSw; go_simp
                try simp only [Act.put, List.setIfInBounds_toArray, List.set_cons_zero, List.set_cons_succ, List.getElem_toArray, List.getElem_cons_zero, List.getElem_cons_succ]
                refine wpAnyH_ready (rs := [21]) (by kernel_rfl) (by simp) ?_
                refine AllReadyH.cons rfl (fun K hK => ?_) AllReadyH.nil
                · have FZ18 : FiveZ (W13.alloc (.cells #[.int .i64 0, .int .i64 0, .int .i64 0, .int .i64 0, .int .i64 0] 39)) W13.heap.size := FiveZ.new _
                  have BW17 := BW14.alloc BW14.size (.cells #[.int .i64 0, .int .i64 0, .int .i64 0, .int .i64 0, .int .i64 0] 39)
                  have hg19 : w1.heap.size ≤ W13.heap.size := BW14.size
                  go_simp
                  refine hK.out _ _ BW17 (fun hHeld => ?_)
                  clear hK BW14
                  try simp only [Act.put, List.setIfInBounds_toArray, List.set_cons_zero, List.set_cons_succ, List.getElem_toArray, List.getElem_cons_zero, List.getElem_cons_succ]
                  generalize W13.alloc (.cells #[.int .i64 0, .int .i64 0, .int .i64 0, .int .i64 0, .int .i64 0] 39) = W16 at *
                  refine wpAnyH_ready (rs := [22]) (by kernel_rfl) (by simp) ?_
                  refine AllReadyH.cons rfl (fun K hK => ?_) AllReadyH.nil
                  · obtain ⟨z0, z1, z2, z3, z4, y0, y1, y2, y3, y4⟩ := FZ18.all
                    go_simp
                    go_wp2
                    obtain ⟨q0, q1, q2, q3, q4⟩ := put5_cells z0 z1 z2 z3 z4 (.int .i64 (atoiV p1.data.toList)) (.int .i64 (atoiV p3.data.toList)) (.int .i64 (atoiV p5.data.toList)) (.int .i64 (atoiV p7.data.toList)) (.int .i64 (atoiV p9.data.toList))
                    refine hK.out _ _ (put5_below BW17 hg19 (.int .i64 (atoiV p1.data.toList)) (.int .i64 (atoiV p3.data.toList)) (.int .i64 (atoiV p5.data.toList)) (.int .i64 (atoiV p7.data.toList)) (.int .i64 (atoiV p9.data.toList))) (fun hHeld => ?_)
                    have BW5 := put5_below BW17 hg19 (.int .i64 (atoiV p1.data.toList)) (.int .i64 (atoiV p3.data.toList)) (.int .i64 (atoiV p5.data.toList)) (.int .i64 (atoiV p7.data.toList)) (.int .i64 (atoiV p9.data.toList))
                    clear hK z0 z1 z2 z3 z4 y0 y1 y2 y3 y4 FZ18 BW17
                    try simp only [Act.put, List.setIfInBounds_toArray, List.set_cons_zero, List.set_cons_succ, List.getElem_toArray, List.getElem_cons_zero, List.getElem_cons_succ]
                    refine wpAnyH_done (by kernel_rfl) ?_ _
                    unfold put5 at q0 q1 q2 q3 q4 BW5 hHeld
                    generalize (((((W16.setCell ⟨W13.heap.size, 0, none⟩ (.int .i64 (atoiV p1.data.toList))).setCell ⟨W13.heap.size, 1, none⟩ (.int .i64 (atoiV p3.data.toList))).setCell ⟨W13.heap.size, 2, none⟩ (.int .i64 (atoiV p5.data.toList))).setCell ⟨W13.heap.size, 3, none⟩ (.int .i64 (atoiV p7.data.toList))).setCell ⟨W13.heap.size, 4, none⟩ (.int .i64 (atoiV p9.data.toList))) = W5 at *
                    have hgw : w.heap.size < W13.heap.size := by have := hz1; omega
                    have d0 : W5.cell? ⟨w.heap.size, 0, none⟩ = some (.int .i64 0) := (BW5.cell (p := ⟨w.heap.size, 0, none⟩) (by show w.heap.size < w1.heap.size; omega)).trans c0
                    have f0' : W5.frozen? ⟨w.heap.size, 0, none⟩ = false := (BW5.frozen (p := ⟨w.heap.size, 0, none⟩) (by show w.heap.size < w1.heap.size; omega)).trans f0
                    have d1 : W5.cell? ⟨w.heap.size, 1, none⟩ = some (.int .i64 0) := (BW5.cell (p := ⟨w.heap.size, 1, none⟩) (by show w.heap.size < w1.heap.size; omega)).trans c1
                    have f1' : W5.frozen? ⟨w.heap.size, 1, none⟩ = false := (BW5.frozen (p := ⟨w.heap.size, 1, none⟩) (by show w.heap.size < w1.heap.size; omega)).trans f1
                    have d2 : W5.cell? ⟨w.heap.size, 2, none⟩ = some (.int .i64 0) := (BW5.cell (p := ⟨w.heap.size, 2, none⟩) (by show w.heap.size < w1.heap.size; omega)).trans c2
                    have f2' : W5.frozen? ⟨w.heap.size, 2, none⟩ = false := (BW5.frozen (p := ⟨w.heap.size, 2, none⟩) (by show w.heap.size < w1.heap.size; omega)).trans f2
                    have d3 : W5.cell? ⟨w.heap.size, 3, none⟩ = some (.int .i64 0) := (BW5.cell (p := ⟨w.heap.size, 3, none⟩) (by show w.heap.size < w1.heap.size; omega)).trans c3
                    have f3' : W5.frozen? ⟨w.heap.size, 3, none⟩ = false := (BW5.frozen (p := ⟨w.heap.size, 3, none⟩) (by show w.heap.size < w1.heap.size; omega)).trans f3
                    have d4 : W5.cell? ⟨w.heap.size, 4, none⟩ = some (.int .i64 0) := (BW5.cell (p := ⟨w.heap.size, 4, none⟩) (by show w.heap.size < w1.heap.size; omega)).trans c4
                    have f4' : W5.frozen? ⟨w.heap.size, 4, none⟩ = false := (BW5.frozen (p := ⟨w.heap.size, 4, none⟩) (by show w.heap.size < w1.heap.size; omega)).trans f4
                    go_wp2_with fail
                    refine (text_impl _ _ _ _ _ _ ((E1.out.on BW5).tab)).mono ?_
                    rintro e W6 ⟨rfl, hb6⟩
                    have hw6 : w.heap.size < W5.heap.size := by have := BW5.size; omega
                    have hg6 : W13.heap.size < W5.heap.size := cell_lt5 q0
                    replace d0 := (hb6.cell (p := ⟨w.heap.size, 0, none⟩) hw6).trans d0
                    replace f0' := (hb6.frozen (p := ⟨w.heap.size, 0, none⟩) hw6).trans f0'
                    replace q0 := (hb6.cell (p := ⟨W13.heap.size, 0, none⟩) hg6).trans q0
                    replace d1 := (hb6.cell (p := ⟨w.heap.size, 1, none⟩) hw6).trans d1
                    replace f1' := (hb6.frozen (p := ⟨w.heap.size, 1, none⟩) hw6).trans f1'
                    replace q1 := (hb6.cell (p := ⟨W13.heap.size, 1, none⟩) hg6).trans q1
                    replace d2 := (hb6.cell (p := ⟨w.heap.size, 2, none⟩) hw6).trans d2
                    replace f2' := (hb6.frozen (p := ⟨w.heap.size, 2, none⟩) hw6).trans f2'
                    replace q2 := (hb6.cell (p := ⟨W13.heap.size, 2, none⟩) hg6).trans q2
                    replace d3 := (hb6.cell (p := ⟨w.heap.size, 3, none⟩) hw6).trans d3
                    replace f3' := (hb6.frozen (p := ⟨w.heap.size, 3, none⟩) hw6).trans f3'
                    replace q3 := (hb6.cell (p := ⟨W13.heap.size, 3, none⟩) hg6).trans q3
                    replace d4 := (hb6.cell (p := ⟨w.heap.size, 4, none⟩) hw6).trans d4
                    replace f4' := (hb6.frozen (p := ⟨w.heap.size, 4, none⟩) hw6).trans f4'
                    replace q4 := (hb6.cell (p := ⟨W13.heap.size, 4, none⟩) hg6).trans q4
                    have B6 : Below w.heap.size w W6 := (Bw1.trans (BW5.mono (Nat.le_of_lt (by omega)))).trans (hb6.mono (Nat.le_of_lt hw6))
                    clear hb6 BW5 hHeld
                    by_cases he : (textOf (atoiV p1.data.toList) (atoiV p3.data.toList) (atoiV p5.data.toList) (atoiV p7.data.toList) (atoiV p9.data.toList)) = s
                    · have he' : ((textOf (atoiV p1.data.toList) (atoiV p3.data.toList) (atoiV p5.data.toList) (atoiV p7.data.toList) (atoiV p9.data.toList)).toList == s.toList) = true := by rw [he]; simp
                      have HY : Hid (vOk s) := ⟨hs, HW.out.2, by unfold vText; rw [HV.out.1, HV.out.2.1, HV.out.2.2.1, HV.out.2.2.2.1, HV.out.2.2.2.2]; exact he⟩
                      clear he
                      go_wp2
                      obtain ⟨r0, r1, r2, r3, r4⟩ := put5_cells d0 d1 d2 d3 d4 (.int .i64 (atoiV p1.data.toList)) (.int .i64 (atoiV p3.data.toList)) (.int .i64 (atoiV p5.data.toList)) (.int .i64 (atoiV p7.data.toList)) (.int .i64 (atoiV p9.data.toList))
                      unfold put5 at r0 r1 r2 r3 r4
                      refine bodyPost_ret (v := .tuple #[.agg #[.int .i64 (atoiV p1.data.toList), .int .i64 (atoiV p3.data.toList), .int .i64 (atoiV p5.data.toList), .int .i64 (atoiV p7.data.toList), .int .i64 (atoiV p9.data.toList)], .bool true]) ?_ rfl ⟨.inl ⟨HY.out, ?_⟩, put5_below B6 (Nat.le_refl _) (.int .i64 (atoiV p1.data.toList)) (.int .i64 (atoiV p3.data.toList)) (.int .i64 (atoiV p5.data.toList)) (.int .i64 (atoiV p7.data.toList)) (.int .i64 (atoiV p9.data.toList))⟩
                      · simp [results, Tryz.results43, go_sem, r0, r1, r2, r3, r4]
                      · rw [HV.out.1, HV.out.2.1, HV.out.2.2.1, HV.out.2.2.2.1, HV.out.2.2.2.2]
                    · have he' : ((textOf (atoiV p1.data.toList) (atoiV p3.data.toList) (atoiV p5.data.toList) (atoiV p7.data.toList) (atoiV p9.data.toList)).toList == s.toList) = false := beq_eq_false_iff_ne.2 (fun e => he (text_inj e))
                      have HY : Hid (¬ vOk s) := fun h => he (by have := h.2.2; unfold vText at this; rw [HV.out.1, HV.out.2.1, HV.out.2.2.1, HV.out.2.2.2.1, HV.out.2.2.2.2] at this; exact this)
                      clear he
                      go_wp2
                      obtain ⟨r0, r1, r2, r3, r4⟩ := put5_cells d0 d1 d2 d3 d4 (.int .i64 0) (.int .i64 0) (.int .i64 0) (.int .i64 0) (.int .i64 0)
                      unfold put5 at r0 r1 r2 r3 r4
                      refine bodyPost_ret (v := .tuple #[.agg #[.int .i64 0, .int .i64 0, .int .i64 0, .int .i64 0, .int .i64 0], .bool false]) ?_ rfl ⟨.inr ⟨HY.out, rfl⟩, put5_below B6 (Nat.le_refl _) (.int .i64 0) (.int .i64 0) (.int .i64 0) (.int .i64 0) (.int .i64 0)⟩
                      simp [results, Tryz.results43, go_sem, r0, r1, r2, r3, r4]
              · have FZ22 : FiveZ (W10.alloc (.cells #[.int .i64 0, .int .i64 0, .int .i64 0, .int .i64 0, .int .i64 0] 39)) W10.heap.size := FiveZ.new _
                have BW21 := BW11.alloc BW11.size (.cells #[.int .i64 0, .int .i64 0, .int .i64 0, .int .i64 0, .int .i64 0] 39)
                have hg23 : w1.heap.size ≤ W10.heap.size := BW11.size
                go_simp
                refine hK.out _ _ BW21 (fun hHeld => ?_)
                clear hK BW11
                try simp only [Act.put, List.setIfInBounds_toArray, List.set_cons_zero, List.set_cons_succ, List.getElem_toArray, List.getElem_cons_zero, List.getElem_cons_succ]
                generalize W10.alloc (.cells #[.int .i64 0, .int .i64 0, .int .i64 0, .int .i64 0, .int .i64 0] 39) = W20 at *
                refine wpAnyH_ready (rs := [19]) (by kernel_rfl) (by simp) ?_
                refine AllReadyH.cons rfl (fun K hK => ?_) AllReadyH.nil
                · go_simp
                  go_wp2_with (go_at_call 48; refine (loose p9 z9 _ (E1.out.on BW21)).mono ?_; rintro e W24 ⟨rfl, hb26⟩)
                  have BW25 : Below w1.heap.size w1 W24 := BW21.trans (hb26.mono BW21.size)
                  have FZ27 := FZ22.below hb26
                  refine hK.out _ _ BW25 (fun hHeld => ?_)
                  clear hK hb26 BW21 FZ22
                  try simp only [Act.put, List.setIfInBounds_toArray, List.set_cons_zero, List.set_cons_succ, List.getElem_toArray, List.getElem_cons_zero, List.getElem_cons_succ]
                  refine wpAnyH_take (i := 20) (v := .agg #[.int .i64 (atoiV p1.data.toList), .int .i64 (atoiV p3.data.toList), .int .i64 (atoiV p5.data.toList), .int .i64 (atoiV p7.data.toList), .int .i64 (atoiV p9.data.toList)]) rfl (by kernel_rfl) (by kernel_rfl) (by kernel_rfl) (fun _ _ _ h => h) (Or.inl ⟨by rfl, ?_⟩) (by assumption) ?_
                  · intro wx hSw; go_simp
                  try simp only [Act.put, List.setIfInBounds_toArray, List.set_cons_zero, List.set_cons_succ, List.getElem_toArray, List.getElem_cons_zero, List.getElem_cons_succ]
                  refine wpAnyH_ready (rs := [22]) (by kernel_rfl) (by simp) ?_
                  refine AllReadyH.cons rfl (fun K hK => ?_) AllReadyH.nil
                  · obtain ⟨z0, z1, z2, z3, z4, y0, y1, y2, y3, y4⟩ := FZ27.all
                    go_simp
                    go_wp2
                    obtain ⟨q0, q1, q2, q3, q4⟩ := put5_cells z0 z1 z2 z3 z4 (.int .i64 (atoiV p1.data.toList)) (.int .i64 (atoiV p3.data.toList)) (.int .i64 (atoiV p5.data.toList)) (.int .i64 (atoiV p7.data.toList)) (.int .i64 (atoiV p9.data.toList))
                    refine hK.out _ _ (put5_below BW25 hg23 (.int .i64 (atoiV p1.data.toList)) (.int .i64 (atoiV p3.data.toList)) (.int .i64 (atoiV p5.data.toList)) (.int .i64 (atoiV p7.data.toList)) (.int .i64 (atoiV p9.data.toList))) (fun hHeld => ?_)
                    have BW5 := put5_below BW25 hg23 (.int .i64 (atoiV p1.data.toList)) (.int .i64 (atoiV p3.data.toList)) (.int .i64 (atoiV p5.data.toList)) (.int .i64 (atoiV p7.data.toList)) (.int .i64 (atoiV p9.data.toList))
                    clear hK z0 z1 z2 z3 z4 y0 y1 y2 y3 y4 FZ27 BW25
                    try simp only [Act.put, List.setIfInBounds_toArray, List.set_cons_zero, List.set_cons_succ, List.getElem_toArray, List.getElem_cons_zero, List.getElem_cons_succ]
                    refine wpAnyH_done (by kernel_rfl) ?_ _
                    unfold put5 at q0 q1 q2 q3 q4 BW5 hHeld
                    generalize (((((W24.setCell ⟨W10.heap.size, 0, none⟩ (.int .i64 (atoiV p1.data.toList))).setCell ⟨W10.heap.size, 1, none⟩ (.int .i64 (atoiV p3.data.toList))).setCell ⟨W10.heap.size, 2, none⟩ (.int .i64 (atoiV p5.data.toList))).setCell ⟨W10.heap.size, 3, none⟩ (.int .i64 (atoiV p7.data.toList))).setCell ⟨W10.heap.size, 4, none⟩ (.int .i64 (atoiV p9.data.toList))) = W5 at *
                    have hgw : w.heap.size < W10.heap.size := by have := hz1; omega
                    have d0 : W5.cell? ⟨w.heap.size, 0, none⟩ = some (.int .i64 0) := (BW5.cell (p := ⟨w.heap.size, 0, none⟩) (by show w.heap.size < w1.heap.size; omega)).trans c0
                    have f0' : W5.frozen? ⟨w.heap.size, 0, none⟩ = false := (BW5.frozen (p := ⟨w.heap.size, 0, none⟩) (by show w.heap.size < w1.heap.size; omega)).trans f0
                    have d1 : W5.cell? ⟨w.heap.size, 1, none⟩ = some (.int .i64 0) := (BW5.cell (p := ⟨w.heap.size, 1, none⟩) (by show w.heap.size < w1.heap.size; omega)).trans c1
                    have f1' : W5.frozen? ⟨w.heap.size, 1, none⟩ = false := (BW5.frozen (p := ⟨w.heap.size, 1, none⟩) (by show w.heap.size < w1.heap.size; omega)).trans f1
                    have d2 : W5.cell? ⟨w.heap.size, 2, none⟩ = some (.int .i64 0) := (BW5.cell (p := ⟨w.heap.size, 2, none⟩) (by show w.heap.size < w1.heap.size; omega)).trans c2
                    have f2' : W5.frozen? ⟨w.heap.size, 2, none⟩ = false := (BW5.frozen (p := ⟨w.heap.size, 2, none⟩) (by show w.heap.size < w1.heap.size; omega)).trans f2
                    have d3 : W5.cell? ⟨w.heap.size, 3, none⟩ = some (.int .i64 0) := (BW5.cell (p := ⟨w.heap.size, 3, none⟩) (by show w.heap.size < w1.heap.size; omega)).trans c3
                    have f3' : W5.frozen? ⟨w.heap.size, 3, none⟩ = false := (BW5.frozen (p := ⟨w.heap.size, 3, none⟩) (by show w.heap.size < w1.heap.size; omega)).trans f3
                    have d4 : W5.cell? ⟨w.heap.size, 4, none⟩ = some (.int .i64 0) := (BW5.cell (p := ⟨w.heap.size, 4, none⟩) (by show w.heap.size < w1.heap.size; omega)).trans c4
                    have f4' : W5.frozen? ⟨w.heap.size, 4, none⟩ = false := (BW5.frozen (p := ⟨w.heap.size, 4, none⟩) (by show w.heap.size < w1.heap.size; omega)).trans f4
                    go_wp2_with fail
                    refine (text_impl _ _ _ _ _ _ ((E1.out.on BW5).tab)).mono ?_
                    rintro e W6 ⟨rfl, hb6⟩
                    have hw6 : w.heap.size < W5.heap.size := by have := BW5.size; omega
                    have hg6 : W10.heap.size < W5.heap.size := cell_lt5 q0
                    replace d0 := (hb6.cell (p := ⟨w.heap.size, 0, none⟩) hw6).trans d0
                    replace f0' := (hb6.frozen (p := ⟨w.heap.size, 0, none⟩) hw6).trans f0'
                    replace q0 := (hb6.cell (p := ⟨W10.heap.size, 0, none⟩) hg6).trans q0
                    replace d1 := (hb6.cell (p := ⟨w.heap.size, 1, none⟩) hw6).trans d1
                    replace f1' := (hb6.frozen (p := ⟨w.heap.size, 1, none⟩) hw6).trans f1'
                    replace q1 := (hb6.cell (p := ⟨W10.heap.size, 1, none⟩) hg6).trans q1
                    replace d2 := (hb6.cell (p := ⟨w.heap.size, 2, none⟩) hw6).trans d2
                    replace f2' := (hb6.frozen (p := ⟨w.heap.size, 2, none⟩) hw6).trans f2'
                    replace q2 := (hb6.cell (p := ⟨W10.heap.size, 2, none⟩) hg6).trans q2
                    replace d3 := (hb6.cell (p := ⟨w.heap.size, 3, none⟩) hw6).trans d3
                    replace f3' := (hb6.frozen (p := ⟨w.heap.size, 3, none⟩) hw6).trans f3'
                    replace q3 := (hb6.cell (p := ⟨W10.heap.size, 3, none⟩) hg6).trans q3
                    replace d4 := (hb6.cell (p := ⟨w.heap.size, 4, none⟩) hw6).trans d4
                    replace f4' := (hb6.frozen (p := ⟨w.heap.size, 4, none⟩) hw6).trans f4'
                    replace q4 := (hb6.cell (p := ⟨W10.heap.size, 4, none⟩) hg6).trans q4
                    have B6 : Below w.heap.size w W6 := (Bw1.trans (BW5.mono (Nat.le_of_lt (by omega)))).trans (hb6.mono (Nat.le_of_lt hw6))
                    clear hb6 BW5 hHeld
                    by_cases he : (textOf (atoiV p1.data.toList) (atoiV p3.data.toList) (atoiV p5.data.toList) (atoiV p7.data.toList) (atoiV p9.data.toList)) = s
                    · have he' : ((textOf (atoiV p1.data.toList) (atoiV p3.data.toList) (atoiV p5.data.toList) (atoiV p7.data.toList) (atoiV p9.data.toList)).toList == s.toList) = true := by rw [he]; simp
                      have HY : Hid (vOk s) := ⟨hs, HW.out.2, by unfold vText; rw [HV.out.1, HV.out.2.1, HV.out.2.2.1, HV.out.2.2.2.1, HV.out.2.2.2.2]; exact he⟩
                      clear he
                      go_wp2
                      obtain ⟨r0, r1, r2, r3, r4⟩ := put5_cells d0 d1 d2 d3 d4 (.int .i64 (atoiV p1.data.toList)) (.int .i64 (atoiV p3.data.toList)) (.int .i64 (atoiV p5.data.toList)) (.int .i64 (atoiV p7.data.toList)) (.int .i64 (atoiV p9.data.toList))
                      unfold put5 at r0 r1 r2 r3 r4
                      refine bodyPost_ret (v := .tuple #[.agg #[.int .i64 (atoiV p1.data.toList), .int .i64 (atoiV p3.data.toList), .int .i64 (atoiV p5.data.toList), .int .i64 (atoiV p7.data.toList), .int .i64 (atoiV p9.data.toList)], .bool true]) ?_ rfl ⟨.inl ⟨HY.out, ?_⟩, put5_below B6 (Nat.le_refl _) (.int .i64 (atoiV p1.data.toList)) (.int .i64 (atoiV p3.data.toList)) (.int .i64 (atoiV p5.data.toList)) (.int .i64 (atoiV p7.data.toList)) (.int .i64 (atoiV p9.data.toList))⟩
                      · simp [results, Tryz.results43, go_sem, r0, r1, r2, r3, r4]
                      · rw [HV.out.1, HV.out.2.1, HV.out.2.2.1, HV.out.2.2.2.1, HV.out.2.2.2.2]
                    · have he' : ((textOf (atoiV p1.data.toList) (atoiV p3.data.toList) (atoiV p5.data.toList) (atoiV p7.data.toList) (atoiV p9.data.toList)).toList == s.toList) = false := beq_eq_false_iff_ne.2 (fun e => he (text_inj e))
                      have HY : Hid (¬ vOk s) := fun h => he (by have := h.2.2; unfold vText at this; rw [HV.out.1, HV.out.2.1, HV.out.2.2.1, HV.out.2.2.2.1, HV.out.2.2.2.2] at this; exact this)
                      clear he
                      go_wp2
                      obtain ⟨r0, r1, r2, r3, r4⟩ := put5_cells d0 d1 d2 d3 d4 (.int .i64 0) (.int .i64 0) (.int .i64 0) (.int .i64 0) (.int .i64 0)
                      unfold put5 at r0 r1 r2 r3 r4
                      refine bodyPost_ret (v := .tuple #[.agg #[.int .i64 0, .int .i64 0, .int .i64 0, .int .i64 0, .int .i64 0], .bool false]) ?_ rfl ⟨.inr ⟨HY.out, rfl⟩, put5_below B6 (Nat.le_refl _) (.int .i64 0) (.int .i64 0) (.int .i64 0) (.int .i64 0) (.int .i64 0)⟩
                      simp [results, Tryz.results43, go_sem, r0, r1, r2, r3, r4]
            · have FZ30 : FiveZ (W7.alloc (.cells #[.int .i64 0, .int .i64 0, .int .i64 0, .int .i64 0, .int .i64 0] 39)) W7.heap.size := FiveZ.new _
              have BW29 := BW8.alloc BW8.size (.cells #[.int .i64 0, .int .i64 0, .int .i64 0, .int .i64 0, .int .i64 0] 39)
              have hg31 : w1.heap.size ≤ W7.heap.size := BW8.size
              go_simp
              refine hK.out _ _ BW29 (fun hHeld => ?_)
              clear hK BW8
              try simp only [Act.put, List.setIfInBounds_toArray, List.set_cons_zero, List.set_cons_succ, List.getElem_toArray, List.getElem_cons_zero, List.getElem_cons_succ]
              generalize W7.alloc (.cells #[.int .i64 0, .int .i64 0, .int .i64 0, .int .i64 0, .int .i64 0] 39) = W28 at *
              refine wpAnyH_ready (rs := [15]) (by kernel_rfl) (by simp) ?_
              refine AllReadyH.cons rfl (fun K hK => ?_) AllReadyH.nil
              · go_simp
                go_wp2_with (go_at_call 48; refine (loose p7 z7 _ (E1.out.on BW29)).mono ?_; rintro e W32 ⟨rfl, hb34⟩)
                have BW33 : Below w1.heap.size w1 W32 := BW29.trans (hb34.mono BW29.size)
                have FZ35 := FZ30.below hb34
                refine hK.out _ _ BW33 (fun hHeld => ?_)
                clear hK hb34 BW29 FZ30
                try simp only [Act.put, List.setIfInBounds_toArray, List.set_cons_zero, List.set_cons_succ, List.getElem_toArray, List.getElem_cons_zero, List.getElem_cons_succ]
                refine wpAnyH_ready (rs := [19]) (by kernel_rfl) (by simp) ?_
                refine AllReadyH.cons rfl (fun K hK => ?_) AllReadyH.nil
                · go_simp
                  go_wp2_with (go_at_call 48; refine (loose p9 z9 _ (E1.out.on BW33)).mono ?_; rintro e W36 ⟨rfl, hb38⟩)
                  have BW37 : Below w1.heap.size w1 W36 := BW33.trans (hb38.mono BW33.size)
                  have FZ39 := FZ35.below hb38
                  refine hK.out _ _ BW37 (fun hHeld => ?_)
                  clear hK hb38 BW33 FZ35
                  try simp only [Act.put, List.setIfInBounds_toArray, List.set_cons_zero, List.set_cons_succ, List.getElem_toArray, List.getElem_cons_zero, List.getElem_cons_succ]
                  refine wpAnyH_take (i := 20) (v := .agg #[.int .i64 (atoiV p1.data.toList), .int .i64 (atoiV p3.data.toList), .int .i64 (atoiV p5.data.toList), .int .i64 (atoiV p7.data.toList), .int .i64 (atoiV p9.data.toList)]) rfl (by kernel_rfl) (by kernel_rfl) (by kernel_rfl) (fun _ _ _ h => h) (Or.inl ⟨by rfl, ?_⟩) (by assumption) ?_
                  · intro wx hSw; go_simp
                  try simp only [Act.put, List.setIfInBounds_toArray, List.set_cons_zero, List.set_cons_succ, List.getElem_toArray, List.getElem_cons_zero, List.getElem_cons_succ]
                  refine wpAnyH_ready (rs := [22]) (by kernel_rfl) (by simp) ?_
                  refine AllReadyH.cons rfl (fun K hK => ?_) AllReadyH.nil
                  · obtain ⟨z0, z1, z2, z3, z4, y0, y1, y2, y3, y4⟩ := FZ39.all
                    go_simp
                    go_wp2
                    obtain ⟨q0, q1, q2, q3, q4⟩ := put5_cells z0 z1 z2 z3 z4 (.int .i64 (atoiV p1.data.toList)) (.int .i64 (atoiV p3.data.toList)) (.int .i64 (atoiV p5.data.toList)) (.int .i64 (atoiV p7.data.toList)) (.int .i64 (atoiV p9.data.toList))
                    refine hK.out _ _ (put5_below BW37 hg31 (.int .i64 (atoiV p1.data.toList)) (.int .i64 (atoiV p3.data.toList)) (.int .i64 (atoiV p5.data.toList)) (.int .i64 (atoiV p7.data.toList)) (.int .i64 (atoiV p9.data.toList))) (fun hHeld => ?_)
                    have BW5 := put5_below BW37 hg31 (.int .i64 (atoiV p1.data.toList)) (.int .i64 (atoiV p3.data.toList)) (.int .i64 (atoiV p5.data.toList)) (.int .i64 (atoiV p7.data.toList)) (.int .i64 (atoiV p9.data.toList))
                    clear hK z0 z1 z2 z3 z4 y0 y1 y2 y3 y4 FZ39 BW37
                    try simp only [Act.put, List.setIfInBounds_toArray, List.set_cons_zero, List.set_cons_succ, List.getElem_toArray, List.getElem_cons_zero, List.getElem_cons_succ]
                    refine wpAnyH_done (by kernel_rfl) ?_ _
                    unfold put5 at q0 q1 q2 q3 q4 BW5 hHeld
                    generalize (((((W36.setCell ⟨W7.heap.size, 0, none⟩ (.int .i64 (atoiV p1.data.toList))).setCell ⟨W7.heap.size, 1, none⟩ (.int .i64 (atoiV p3.data.toList))).setCell ⟨W7.heap.size, 2, none⟩ (.int .i64 (atoiV p5.data.toList))).setCell ⟨W7.heap.size, 3, none⟩ (.int .i64 (atoiV p7.data.toList))).setCell ⟨W7.heap.size, 4, none⟩ (.int .i64 (atoiV p9.data.toList))) = W5 at *
                    have hgw : w.heap.size < W7.heap.size := by have := hz1; omega
                    have d0 : W5.cell? ⟨w.heap.size, 0, none⟩ = some (.int .i64 0) := (BW5.cell (p := ⟨w.heap.size, 0, none⟩) (by show w.heap.size < w1.heap.size; omega)).trans c0
                    have f0' : W5.frozen? ⟨w.heap.size, 0, none⟩ = false := (BW5.frozen (p := ⟨w.heap.size, 0, none⟩) (by show w.heap.size < w1.heap.size; omega)).trans f0
                    have d1 : W5.cell? ⟨w.heap.size, 1, none⟩ = some (.int .i64 0) := (BW5.cell (p := ⟨w.heap.size, 1, none⟩) (by show w.heap.size < w1.heap.size; omega)).trans c1
                    have f1' : W5.frozen? ⟨w.heap.size, 1, none⟩ = false := (BW5.frozen (p := ⟨w.heap.size, 1, none⟩) (by show w.heap.size < w1.heap.size; omega)).trans f1
                    have d2 : W5.cell? ⟨w.heap.size, 2, none⟩ = some (.int .i64 0) := (BW5.cell (p := ⟨w.heap.size, 2, none⟩) (by show w.heap.size < w1.heap.size; omega)).trans c2
                    have f2' : W5.frozen? ⟨w.heap.size, 2, none⟩ = false := (BW5.frozen (p := ⟨w.heap.size, 2, none⟩) (by show w.heap.size < w1.heap.size; omega)).trans f2
                    have d3 : W5.cell? ⟨w.heap.size, 3, none⟩ = some (.int .i64 0) := (BW5.cell (p := ⟨w.heap.size, 3, none⟩) (by show w.heap.size < w1.heap.size; omega)).trans c3
                    have f3' : W5.frozen? ⟨w.heap.size, 3, none⟩ = false := (BW5.frozen (p := ⟨w.heap.size, 3, none⟩) (by show w.heap.size < w1.heap.size; omega)).trans f3
                    have d4 : W5.cell? ⟨w.heap.size, 4, none⟩ = some (.int .i64 0) := (BW5.cell (p := ⟨w.heap.size, 4, none⟩) (by show w.heap.size < w1.heap.size; omega)).trans c4
                    have f4' : W5.frozen? ⟨w.heap.size, 4, none⟩ = false := (BW5.frozen (p := ⟨w.heap.size, 4, none⟩) (by show w.heap.size < w1.heap.size; omega)).trans f4
                    go_wp2_with fail
                    refine (text_impl _ _ _ _ _ _ ((E1.out.on BW5).tab)).mono ?_
                    rintro e W6 ⟨rfl, hb6⟩
                    have hw6 : w.heap.size < W5.heap.size := by have := BW5.size; omega
                    have hg6 : W7.heap.size < W5.heap.size := cell_lt5 q0
                    replace d0 := (hb6.cell (p := ⟨w.heap.size, 0, none⟩) hw6).trans d0
                    replace f0' := (hb6.frozen (p := ⟨w.heap.size, 0, none⟩) hw6).trans f0'
                    replace q0 := (hb6.cell (p := ⟨W7.heap.size, 0, none⟩) hg6).trans q0
                    replace d1 := (hb6.cell (p := ⟨w.heap.size, 1, none⟩) hw6).trans d1
                    replace f1' := (hb6.frozen (p := ⟨w.heap.size, 1, none⟩) hw6).trans f1'
                    replace q1 := (hb6.cell (p := ⟨W7.heap.size, 1, none⟩) hg6).trans q1
                    replace d2 := (hb6.cell (p := ⟨w.heap.size, 2, none⟩) hw6).trans d2
                    replace f2' := (hb6.frozen (p := ⟨w.heap.size, 2, none⟩) hw6).trans f2'
                    replace q2 := (hb6.cell (p := ⟨W7.heap.size, 2, none⟩) hg6).trans q2
                    replace d3 := (hb6.cell (p := ⟨w.heap.size, 3, none⟩) hw6).trans d3
                    replace f3' := (hb6.frozen (p := ⟨w.heap.size, 3, none⟩) hw6).trans f3'
                    replace q3 := (hb6.cell (p := ⟨W7.heap.size, 3, none⟩) hg6).trans q3
                    replace d4 := (hb6.cell (p := ⟨w.heap.size, 4, none⟩) hw6).trans d4
                    replace f4' := (hb6.frozen (p := ⟨w.heap.size, 4, none⟩) hw6).trans f4'
                    replace q4 := (hb6.cell (p := ⟨W7.heap.size, 4, none⟩) hg6).trans q4
                    have B6 : Below w.heap.size w W6 := (Bw1.trans (BW5.mono (Nat.le_of_lt (by omega)))).trans (hb6.mono (Nat.le_of_lt hw6))
                    clear hb6 BW5 hHeld
                    by_cases he : (textOf (atoiV p1.data.toList) (atoiV p3.data.toList) (atoiV p5.data.toList) (atoiV p7.data.toList) (atoiV p9.data.toList)) = s
                    · have he' : ((textOf (atoiV p1.data.toList) (atoiV p3.data.toList) (atoiV p5.data.toList) (atoiV p7.data.toList) (atoiV p9.data.toList)).toList == s.toList) = true := by rw [he]; simp
                      have HY : Hid (vOk s) := ⟨hs, HW.out.2, by unfold vText; rw [HV.out.1, HV.out.2.1, HV.out.2.2.1, HV.out.2.2.2.1, HV.out.2.2.2.2]; exact he⟩
                      clear he
                      go_wp2
                      obtain ⟨r0, r1, r2, r3, r4⟩ := put5_cells d0 d1 d2 d3 d4 (.int .i64 (atoiV p1.data.toList)) (.int .i64 (atoiV p3.data.toList)) (.int .i64 (atoiV p5.data.toList)) (.int .i64 (atoiV p7.data.toList)) (.int .i64 (atoiV p9.data.toList))
                      unfold put5 at r0 r1 r2 r3 r4
                      refine bodyPost_ret (v := .tuple #[.agg #[.int .i64 (atoiV p1.data.toList), .int .i64 (atoiV p3.data.toList), .int .i64 (atoiV p5.data.toList), .int .i64 (atoiV p7.data.toList), .int .i64 (atoiV p9.data.toList)], .bool true]) ?_ rfl ⟨.inl ⟨HY.out, ?_⟩, put5_below B6 (Nat.le_refl _) (.int .i64 (atoiV p1.data.toList)) (.int .i64 (atoiV p3.data.toList)) (.int .i64 (atoiV p5.data.toList)) (.int .i64 (atoiV p7.data.toList)) (.int .i64 (atoiV p9.data.toList))⟩
                      · simp [results, Tryz.results43, go_sem, r0, r1, r2, r3, r4]
                      · rw [HV.out.1, HV.out.2.1, HV.out.2.2.1, HV.out.2.2.2.1, HV.out.2.2.2.2]
                    · have he' : ((textOf (atoiV p1.data.toList) (atoiV p3.data.toList) (atoiV p5.data.toList) (atoiV p7.data.toList) (atoiV p9.data.toList)).toList == s.toList) = false := beq_eq_false_iff_ne.2 (fun e => he (text_inj e))
                      have HY : Hid (¬ vOk s) := fun h => he (by have := h.2.2; unfold vText at this; rw [HV.out.1, HV.out.2.1, HV.out.2.2.1, HV.out.2.2.2.1, HV.out.2.2.2.2] at this; exact this)
                      clear he
                      go_wp2
                      obtain ⟨r0, r1, r2, r3, r4⟩ := put5_cells d0 d1 d2 d3 d4 (.int .i64 0) (.int .i64 0) (.int .i64 0) (.int .i64 0) (.int .i64 0)
                      unfold put5 at r0 r1 r2 r3 r4
                      refine bodyPost_ret (v := .tuple #[.agg #[.int .i64 0, .int .i64 0, .int .i64 0, .int .i64 0, .int .i64 0], .bool false]) ?_ rfl ⟨.inr ⟨HY.out, rfl⟩, put5_below B6 (Nat.le_refl _) (.int .i64 0) (.int .i64 0) (.int .i64 0) (.int .i64 0) (.int .i64 0)⟩
                      simp [results, Tryz.results43, go_sem, r0, r1, r2, r3, r4]
          · have FZ42 : FiveZ (W4.alloc (.cells #[.int .i64 0, .int .i64 0, .int .i64 0, .int .i64 0, .int .i64 0] 39)) W4.heap.size := FiveZ.new _
            have BW41 := BW5.alloc BW5.size (.cells #[.int .i64 0, .int .i64 0, .int .i64 0, .int .i64 0, .int .i64 0] 39)
            have hg43 : w1.heap.size ≤ W4.heap.size := BW5.size
            go_simp
            refine hK.out _ _ BW41 (fun hHeld => ?_)
            clear hK BW5
            try simp only [Act.put, List.setIfInBounds_toArray, List.set_cons_zero, List.set_cons_succ, List.getElem_toArray, List.getElem_cons_zero, List.getElem_cons_succ]
            generalize W4.alloc (.cells #[.int .i64 0, .int .i64 0, .int .i64 0, .int .i64 0, .int .i64 0] 39) = W40 at *
            refine wpAnyH_ready (rs := [11]) (by kernel_rfl) (by simp) ?_
            refine AllReadyH.cons rfl (fun K hK => ?_) AllReadyH.nil
            · go_simp
              go_wp2_with (go_at_call 48; refine (loose p5 z5 _ (E1.out.on BW41)).mono ?_; rintro e W44 ⟨rfl, hb46⟩)
              have BW45 : Below w1.heap.size w1 W44 := BW41.trans (hb46.mono BW41.size)
              have FZ47 := FZ42.below hb46
              refine hK.out _ _ BW45 (fun hHeld => ?_)
              clear hK hb46 BW41 FZ42
              try simp only [Act.put, List.setIfInBounds_toArray, List.set_cons_zero, List.set_cons_succ, List.getElem_toArray, List.getElem_cons_zero, List.getElem_cons_succ]
              refine wpAnyH_ready (rs := [15]) (by kernel_rfl) (by simp) ?_
              refine AllReadyH.cons rfl (fun K hK => ?_) AllReadyH.nil
              · go_simp
                go_wp2_with (go_at_call 48; refine (loose p7 z7 _ (E1.out.on BW45)).mono ?_; rintro e W48 ⟨rfl, hb50⟩)
                have BW49 : Below w1.heap.size w1 W48 := BW45.trans (hb50.mono BW45.size)
                have FZ51 := FZ47.below hb50
                refine hK.out _ _ BW49 (fun hHeld => ?_)
                clear hK hb50 BW45 FZ47
                try simp only [Act.put, List.setIfInBounds_toArray, List.set_cons_zero, List.set_cons_succ, List.getElem_toArray, List.getElem_cons_zero, List.getElem_cons_succ]
                refine wpAnyH_ready (rs := [19]) (by kernel_rfl) (by simp) ?_
                refine AllReadyH.cons rfl (fun K hK => ?_) AllReadyH.nil
                · go_simp
                  go_wp2_with (go_at_call 48; refine (loose p9 z9 _ (E1.out.on BW49)).mono ?_; rintro e W52 ⟨rfl, hb54⟩)
                  have BW53 : Below w1.heap.size w1 W52 := BW49.trans (hb54.mono BW49.size)
                  have FZ55 := FZ51.below hb54
                  refine hK.out _ _ BW53 (fun hHeld => ?_)
                  clear hK hb54 BW49 FZ51
                  try simp only [Act.put, List.setIfInBounds_toArray, List.set_cons_zero, List.set_cons_succ, List.getElem_toArray, List.getElem_cons_zero, List.getElem_cons_succ]
                  refine wpAnyH_take (i := 20) (v := .agg #[.int .i64 (atoiV p1.data.toList), .int .i64 (atoiV p3.data.toList), .int .i64 (atoiV p5.data.toList), .int .i64 (atoiV p7.data.toList), .int .i64 (atoiV p9.data.toList)]) rfl (by kernel_rfl) (by kernel_rfl) (by kernel_rfl) (fun _ _ _ h => h) (Or.inl ⟨by rfl, ?_⟩) (by assumption) ?_
                  · intro wx hSw; go_simp
                  try simp only [Act.put, List.setIfInBounds_toArray, List.set_cons_zero, List.set_cons_succ, List.getElem_toArray, List.getElem_cons_zero, List.getElem_cons_succ]
                  refine wpAnyH_ready (rs := [22]) (by kernel_rfl) (by simp) ?_
                  refine AllReadyH.cons rfl (fun K hK => ?_) AllReadyH.nil
                  · obtain ⟨z0, z1, z2, z3, z4, y0, y1, y2, y3, y4⟩ := FZ55.all
                    go_simp
                    go_wp2
                    obtain ⟨q0, q1, q2, q3, q4⟩ := put5_cells z0 z1 z2 z3 z4 (.int .i64 (atoiV p1.data.toList)) (.int .i64 (atoiV p3.data.toList)) (.int .i64 (atoiV p5.data.toList)) (.int .i64 (atoiV p7.data.toList)) (.int .i64 (atoiV p9.data.toList))
                    refine hK.out _ _ (put5_below BW53 hg43 (.int .i64 (atoiV p1.data.toList)) (.int .i64 (atoiV p3.data.toList)) (.int .i64 (atoiV p5.data.toList)) (.int .i64 (atoiV p7.data.toList)) (.int .i64 (atoiV p9.data.toList))) (fun hHeld => ?_)
                    have BW5 := put5_below BW53 hg43 (.int .i64 (atoiV p1.data.toList)) (.int .i64 (atoiV p3.data.toList)) (.int .i64 (atoiV p5.data.toList)) (.int .i64 (atoiV p7.data.toList)) (.int .i64 (atoiV p9.data.toList))
                    clear hK z0 z1 z2 z3 z4 y0 y1 y2 y3 y4 FZ55 BW53
                    try simp only [Act.put, List.setIfInBounds_toArray, List.set_cons_zero, List.set_cons_succ, List.getElem_toArray, List.getElem_cons_zero, List.getElem_cons_succ]
                    refine wpAnyH_done (by kernel_rfl) ?_ _
                    unfold put5 at q0 q1 q2 q3 q4 BW5 hHeld
                    generalize (((((W52.setCell ⟨W4.heap.size, 0, none⟩ (.int .i64 (atoiV p1.data.toList))).setCell ⟨W4.heap.size, 1, none⟩ (.int .i64 (atoiV p3.data.toList))).setCell ⟨W4.heap.size, 2, none⟩ (.int .i64 (atoiV p5.data.toList))).setCell ⟨W4.heap.size, 3, none⟩ (.int .i64 (atoiV p7.data.toList))).setCell ⟨W4.heap.size, 4, none⟩ (.int .i64 (atoiV p9.data.toList))) = W5 at *
                    have hgw : w.heap.size < W4.heap.size := by have := hz1; omega
                    have d0 : W5.cell? ⟨w.heap.size, 0, none⟩ = some (.int .i64 0) := (BW5.cell (p := ⟨w.heap.size, 0, none⟩) (by show w.heap.size < w1.heap.size; omega)).trans c0
                    have f0' : W5.frozen? ⟨w.heap.size, 0, none⟩ = false := (BW5.frozen (p := ⟨w.heap.size, 0, none⟩) (by show w.heap.size < w1.heap.size; omega)).trans f0
                    have d1 : W5.cell? ⟨w.heap.size, 1, none⟩ = some (.int .i64 0) := (BW5.cell (p := ⟨w.heap.size, 1, none⟩) (by show w.heap.size < w1.heap.size; omega)).trans c1
                    have f1' : W5.frozen? ⟨w.heap.size, 1, none⟩ = false := (BW5.frozen (p := ⟨w.heap.size, 1, none⟩) (by show w.heap.size < w1.heap.size; omega)).trans f1
                    have d2 : W5.cell? ⟨w.heap.size, 2, none⟩ = some (.int .i64 0) := (BW5.cell (p := ⟨w.heap.size, 2, none⟩) (by show w.heap.size < w1.heap.size; omega)).trans c2
                    have f2' : W5.frozen? ⟨w.heap.size, 2, none⟩ = false := (BW5.frozen (p := ⟨w.heap.size, 2, none⟩) (by show w.heap.size < w1.heap.size; omega)).trans f2
                    have d3 : W5.cell? ⟨w.heap.size, 3, none⟩ = some (.int .i64 0) := (BW5.cell (p := ⟨w.heap.size, 3, none⟩) (by show w.heap.size < w1.heap.size; omega)).trans c3
                    have f3' : W5.frozen? ⟨w.heap.size, 3, none⟩ = false := (BW5.frozen (p := ⟨w.heap.size, 3, none⟩) (by show w.heap.size < w1.heap.size; omega)).trans f3
                    have d4 : W5.cell? ⟨w.heap.size, 4, none⟩ = some (.int .i64 0) := (BW5.cell (p := ⟨w.heap.size, 4, none⟩) (by show w.heap.size < w1.heap.size; omega)).trans c4
                    have f4' : W5.frozen? ⟨w.heap.size, 4, none⟩ = false := (BW5.frozen (p := ⟨w.heap.size, 4, none⟩) (by show w.heap.size < w1.heap.size; omega)).trans f4
                    go_wp2_with fail
                    refine (text_impl _ _ _ _ _ _ ((E1.out.on BW5).tab)).mono ?_
                    rintro e W6 ⟨rfl, hb6⟩
                    have hw6 : w.heap.size < W5.heap.size := by have := BW5.size; omega
                    have hg6 : W4.heap.size < W5.heap.size := cell_lt5 q0
                    replace d0 := (hb6.cell (p := ⟨w.heap.size, 0, none⟩) hw6).trans d0
                    replace f0' := (hb6.frozen (p := ⟨w.heap.size, 0, none⟩) hw6).trans f0'
                    replace q0 := (hb6.cell (p := ⟨W4.heap.size, 0, none⟩) hg6).trans q0
                    replace d1 := (hb6.cell (p := ⟨w.heap.size, 1, none⟩) hw6).trans d1
                    replace f1' := (hb6.frozen (p := ⟨w.heap.size, 1, none⟩) hw6).trans f1'
                    replace q1 := (hb6.cell (p := ⟨W4.heap.size, 1, none⟩) hg6).trans q1
                    replace d2 := (hb6.cell (p := ⟨w.heap.size, 2, none⟩) hw6).trans d2
                    replace f2' := (hb6.frozen (p := ⟨w.heap.size, 2, none⟩) hw6).trans f2'
                    replace q2 := (hb6.cell (p := ⟨W4.heap.size, 2, none⟩) hg6).trans q2
                    replace d3 := (hb6.cell (p := ⟨w.heap.size, 3, none⟩) hw6).trans d3
                    replace f3' := (hb6.frozen (p := ⟨w.heap.size, 3, none⟩) hw6).trans f3'
                    replace q3 := (hb6.cell (p := ⟨W4.heap.size, 3, none⟩) hg6).trans q3
                    replace d4 := (hb6.cell (p := ⟨w.heap.size, 4, none⟩) hw6).trans d4
                    replace f4' := (hb6.frozen (p := ⟨w.heap.size, 4, none⟩) hw6).trans f4'
                    replace q4 := (hb6.cell (p := ⟨W4.heap.size, 4, none⟩) hg6).trans q4
                    have B6 : Below w.heap.size w W6 := (Bw1.trans (BW5.mono (Nat.le_of_lt (by omega)))).trans (hb6.mono (Nat.le_of_lt hw6))
                    clear hb6 BW5 hHeld
                    by_cases he : (textOf (atoiV p1.data.toList) (atoiV p3.data.toList) (atoiV p5.data.toList) (atoiV p7.data.toList) (atoiV p9.data.toList)) = s
                    · have he' : ((textOf (atoiV p1.data.toList) (atoiV p3.data.toList) (atoiV p5.data.toList) (atoiV p7.data.toList) (atoiV p9.data.toList)).toList == s.toList) = true := by rw [he]; simp
                      have HY : Hid (vOk s) := ⟨hs, HW.out.2, by unfold vText; rw [HV.out.1, HV.out.2.1, HV.out.2.2.1, HV.out.2.2.2.1, HV.out.2.2.2.2]; exact he⟩
                      clear he
                      go_wp2
                      obtain ⟨r0, r1, r2, r3, r4⟩ := put5_cells d0 d1 d2 d3 d4 (.int .i64 (atoiV p1.data.toList)) (.int .i64 (atoiV p3.data.toList)) (.int .i64 (atoiV p5.data.toList)) (.int .i64 (atoiV p7.data.toList)) (.int .i64 (atoiV p9.data.toList))
                      unfold put5 at r0 r1 r2 r3 r4
                      refine bodyPost_ret (v := .tuple #[.agg #[.int .i64 (atoiV p1.data.toList), .int .i64 (atoiV p3.data.toList), .int .i64 (atoiV p5.data.toList), .int .i64 (atoiV p7.data.toList), .int .i64 (atoiV p9.data.toList)], .bool true]) ?_ rfl ⟨.inl ⟨HY.out, ?_⟩, put5_below B6 (Nat.le_refl _) (.int .i64 (atoiV p1.data.toList)) (.int .i64 (atoiV p3.data.toList)) (.int .i64 (atoiV p5.data.toList)) (.int .i64 (atoiV p7.data.toList)) (.int .i64 (atoiV p9.data.toList))⟩
                      · simp [results, Tryz.results43, go_sem, r0, r1, r2, r3, r4]
                      · rw [HV.out.1, HV.out.2.1, HV.out.2.2.1, HV.out.2.2.2.1, HV.out.2.2.2.2]
                    · have he' : ((textOf (atoiV p1.data.toList) (atoiV p3.data.toList) (atoiV p5.data.toList) (atoiV p7.data.toList) (atoiV p9.data.toList)).toList == s.toList) = false := beq_eq_false_iff_ne.2 (fun e => he (text_inj e))
                      have HY : Hid (¬ vOk s) := fun h => he (by have := h.2.2; unfold vText at this; rw [HV.out.1, HV.out.2.1, HV.out.2.2.1, HV.out.2.2.2.1, HV.out.2.2.2.2] at this; exact this)
                      clear he
                      go_wp2
                      obtain ⟨r0, r1, r2, r3, r4⟩ := put5_cells d0 d1 d2 d3 d4 (.int .i64 0) (.int .i64 0) (.int .i64 0) (.int .i64 0) (.int .i64 0)
                      unfold put5 at r0 r1 r2 r3 r4
                      refine bodyPost_ret (v := .tuple #[.agg #[.int .i64 0, .int .i64 0, .int .i64 0, .int .i64 0, .int .i64 0], .bool false]) ?_ rfl ⟨.inr ⟨HY.out, rfl⟩, put5_below B6 (Nat.le_refl _) (.int .i64 0) (.int .i64 0) (.int .i64 0) (.int .i64 0) (.int .i64 0)⟩
                      simp [results, Tryz.results43, go_sem, r0, r1, r2, r3, r4]
        · have FZ58 : FiveZ (W1.alloc (.cells #[.int .i64 0, .int .i64 0, .int .i64 0, .int .i64 0, .int .i64 0] 39)) W1.heap.size := FiveZ.new _
          have BW57 := BW2.alloc BW2.size (.cells #[.int .i64 0, .int .i64 0, .int .i64 0, .int .i64 0, .int .i64 0] 39)
          have hg59 : w1.heap.size ≤ W1.heap.size := BW2.size
          go_simp
          refine hK.out _ _ BW57 (fun hHeld => ?_)
          clear hK BW2
          try simp only [Act.put, List.setIfInBounds_toArray, List.set_cons_zero, List.set_cons_succ, List.getElem_toArray, List.getElem_cons_zero, List.getElem_cons_succ]
          generalize W1.alloc (.cells #[.int .i64 0, .int .i64 0, .int .i64 0, .int .i64 0, .int .i64 0] 39) = W56 at *
          refine wpAnyH_ready (rs := [7]) (by kernel_rfl) (by simp) ?_
          refine AllReadyH.cons rfl (fun K hK => ?_) AllReadyH.nil
          · go_simp
            go_wp2_with (go_at_call 48; refine (loose p3 z3 _ (E1.out.on BW57)).mono ?_; rintro e W60 ⟨rfl, hb62⟩)
            have BW61 : Below w1.heap.size w1 W60 := BW57.trans (hb62.mono BW57.size)
            have FZ63 := FZ58.below hb62
            refine hK.out _ _ BW61 (fun hHeld => ?_)
            clear hK hb62 BW57 FZ58
            try simp only [Act.put, List.setIfInBounds_toArray, List.set_cons_zero, List.set_cons_succ, List.getElem_toArray, List.getElem_cons_zero, List.getElem_cons_succ]
            refine wpAnyH_ready (rs := [11]) (by kernel_rfl) (by simp) ?_
            refine AllReadyH.cons rfl (fun K hK => ?_) AllReadyH.nil
            · go_simp
              go_wp2_with (go_at_call 48; refine (loose p5 z5 _ (E1.out.on BW61)).mono ?_; rintro e W64 ⟨rfl, hb66⟩)
              have BW65 : Below w1.heap.size w1 W64 := BW61.trans (hb66.mono BW61.size)
              have FZ67 := FZ63.below hb66
              refine hK.out _ _ BW65 (fun hHeld => ?_)
              clear hK hb66 BW61 FZ63
              try simp only [Act.put, List.setIfInBounds_toArray, List.set_cons_zero, List.set_cons_succ, List.getElem_toArray, List.getElem_cons_zero, List.getElem_cons_succ]
              refine wpAnyH_ready (rs := [15]) (by kernel_rfl) (by simp) ?_
              refine AllReadyH.cons rfl (fun K hK => ?_) AllReadyH.nil
              · go_simp
                go_wp2_with (go_at_call 48; refine (loose p7 z7 _ (E1.out.on BW65)).mono ?_; rintro e W68 ⟨rfl, hb70⟩)
                have BW69 : Below w1.heap.size w1 W68 := BW65.trans (hb70.mono BW65.size)
                have FZ71 := FZ67.below hb70
                refine hK.out _ _ BW69 (fun hHeld => ?_)
                clear hK hb70 BW65 FZ67
                try simp only [Act.put, List.setIfInBounds_toArray, List.set_cons_zero, List.set_cons_succ, List.getElem_toArray, List.getElem_cons_zero, List.getElem_cons_succ]
                refine wpAnyH_ready (rs := [19]) (by kernel_rfl) (by simp) ?_
                refine AllReadyH.cons rfl (fun K hK => ?_) AllReadyH.nil
                · go_simp
                  go_wp2_with (go_at_call 48; refine (loose p9 z9 _ (E1.out.on BW69)).mono ?_; rintro e W72 ⟨rfl, hb74⟩)
                  have BW73 : Below w1.heap.size w1 W72 := BW69.trans (hb74.mono BW69.size)
                  have FZ75 := FZ71.below hb74
                  refine hK.out _ _ BW73 (fun hHeld => ?_)
                  clear hK hb74 BW69 FZ71
                  try simp only [Act.put, List.setIfInBounds_toArray, List.set_cons_zero, List.set_cons_succ, List.getElem_toArray, List.getElem_cons_zero, List.getElem_cons_succ]
                  refine wpAnyH_take (i := 20) (v := .agg #[.int .i64 (atoiV p1.data.toList), .int .i64 (atoiV p3.data.toList), .int .i64 (atoiV p5.data.toList), .int .i64 (atoiV p7.data.toList), .int .i64 (atoiV p9.data.toList)]) rfl (by kernel_rfl) (by kernel_rfl) (by kernel_rfl) (fun _ _ _ h => h) (Or.inl ⟨by rfl, ?_⟩) (by assumption) ?_
                  · intro wx hSw; go_simp
                  try simp only [Act.put, List.setIfInBounds_toArray, List.set_cons_zero, List.set_cons_succ, List.getElem_toArray, List.getElem_cons_zero, List.getElem_cons_succ]
                  refine wpAnyH_ready (rs := [22]) (by kernel_rfl) (by simp) ?_
                  refine AllReadyH.cons rfl (fun K hK => ?_) AllReadyH.nil
                  · obtain ⟨z0, z1, z2, z3, z4, y0, y1, y2, y3, y4⟩ := FZ75.all
                    go_simp
                    go_wp2
                    obtain ⟨q0, q1, q2, q3, q4⟩ := put5_cells z0 z1 z2 z3 z4 (.int .i64 (atoiV p1.data.toList)) (.int .i64 (atoiV p3.data.toList)) (.int .i64 (atoiV p5.data.toList)) (.int .i64 (atoiV p7.data.toList)) (.int .i64 (atoiV p9.data.toList))
                    refine hK.out _ _ (put5_below BW73 hg59 (.int .i64 (atoiV p1.data.toList)) (.int .i64 (atoiV p3.data.toList)) (.int .i64 (atoiV p5.data.toList)) (.int .i64 (atoiV p7.data.toList)) (.int .i64 (atoiV p9.data.toList))) (fun hHeld => ?_)
                    have BW5 := put5_below BW73 hg59 (.int .i64 (atoiV p1.data.toList)) (.int .i64 (atoiV p3.data.toList)) (.int .i64 (atoiV p5.data.toList)) (.int .i64 (atoiV p7.data.toList)) (.int .i64 (atoiV p9.data.toList))
                    clear hK z0 z1 z2 z3 z4 y0 y1 y2 y3 y4 FZ75 BW73
                    try simp only [Act.put, List.setIfInBounds_toArray, List.set_cons_zero, List.set_cons_succ, List.getElem_toArray, List.getElem_cons_zero, List.getElem_cons_succ]
                    refine wpAnyH_done (by kernel_rfl) ?_ _
                    unfold put5 at q0 q1 q2 q3 q4 BW5 hHeld
                    generalize (((((W72.setCell ⟨W1.heap.size, 0, none⟩ (.int .i64 (atoiV p1.data.toList))).setCell ⟨W1.heap.size, 1, none⟩ (.int .i64 (atoiV p3.data.toList))).setCell ⟨W1.heap.size, 2, none⟩ (.int .i64 (atoiV p5.data.toList))).setCell ⟨W1.heap.size, 3, none⟩ (.int .i64 (atoiV p7.data.toList))).setCell ⟨W1.heap.size, 4, none⟩ (.int .i64 (atoiV p9.data.toList))) = W5 at *
                    have hgw : w.heap.size < W1.heap.size := by have := hz1; omega
                    have d0 : W5.cell? ⟨w.heap.size, 0, none⟩ = some (.int .i64 0) := (BW5.cell (p := ⟨w.heap.size, 0, none⟩) (by show w.heap.size < w1.heap.size; omega)).trans c0
                    have f0' : W5.frozen? ⟨w.heap.size, 0, none⟩ = false := (BW5.frozen (p := ⟨w.heap.size, 0, none⟩) (by show w.heap.size < w1.heap.size; omega)).trans f0
                    have d1 : W5.cell? ⟨w.heap.size, 1, none⟩ = some (.int .i64 0) := (BW5.cell (p := ⟨w.heap.size, 1, none⟩) (by show w.heap.size < w1.heap.size; omega)).trans c1
                    have f1' : W5.frozen? ⟨w.heap.size, 1, none⟩ = false := (BW5.frozen (p := ⟨w.heap.size, 1, none⟩) (by show w.heap.size < w1.heap.size; omega)).trans f1
                    have d2 : W5.cell? ⟨w.heap.size, 2, none⟩ = some (.int .i64 0) := (BW5.cell (p := ⟨w.heap.size, 2, none⟩) (by show w.heap.size < w1.heap.size; omega)).trans c2
                    have f2' : W5.frozen? ⟨w.heap.size, 2, none⟩ = false := (BW5.frozen (p := ⟨w.heap.size, 2, none⟩) (by show w.heap.size < w1.heap.size; omega)).trans f2
                    have d3 : W5.cell? ⟨w.heap.size, 3, none⟩ = some (.int .i64 0) := (BW5.cell (p := ⟨w.heap.size, 3, none⟩) (by show w.heap.size < w1.heap.size; omega)).trans c3
                    have f3' : W5.frozen? ⟨w.heap.size, 3, none⟩ = false := (BW5.frozen (p := ⟨w.heap.size, 3, none⟩) (by show w.heap.size < w1.heap.size; omega)).trans f3
                    have d4 : W5.cell? ⟨w.heap.size, 4, none⟩ = some (.int .i64 0) := (BW5.cell (p := ⟨w.heap.size, 4, none⟩) (by show w.heap.size < w1.heap.size; omega)).trans c4
                    have f4' : W5.frozen? ⟨w.heap.size, 4, none⟩ = false := (BW5.frozen (p := ⟨w.heap.size, 4, none⟩) (by show w.heap.size < w1.heap.size; omega)).trans f4
                    go_wp2_with fail
                    refine (text_impl _ _ _ _ _ _ ((E1.out.on BW5).tab)).mono ?_
                    rintro e W6 ⟨rfl, hb6⟩
                    have hw6 : w.heap.size < W5.heap.size := by have := BW5.size; omega
                    have hg6 : W1.heap.size < W5.heap.size := cell_lt5 q0
                    replace d0 := (hb6.cell (p := ⟨w.heap.size, 0, none⟩) hw6).trans d0
                    replace f0' := (hb6.frozen (p := ⟨w.heap.size, 0, none⟩) hw6).trans f0'
                    replace q0 := (hb6.cell (p := ⟨W1.heap.size, 0, none⟩) hg6).trans q0
                    replace d1 := (hb6.cell (p := ⟨w.heap.size, 1, none⟩) hw6).trans d1
                    replace f1' := (hb6.frozen (p := ⟨w.heap.size, 1, none⟩) hw6).trans f1'
                    replace q1 := (hb6.cell (p := ⟨W1.heap.size, 1, none⟩) hg6).trans q1
                    replace d2 := (hb6.cell (p := ⟨w.heap.size, 2, none⟩) hw6).trans d2
                    replace f2' := (hb6.frozen (p := ⟨w.heap.size, 2, none⟩) hw6).trans f2'
                    replace q2 := (hb6.cell (p := ⟨W1.heap.size, 2, none⟩) hg6).trans q2
                    replace d3 := (hb6.cell (p := ⟨w.heap.size, 3, none⟩) hw6).trans d3
                    replace f3' := (hb6.frozen (p := ⟨w.heap.size, 3, none⟩) hw6).trans f3'
                    replace q3 := (hb6.cell (p := ⟨W1.heap.size, 3, none⟩) hg6).trans q3
                    replace d4 := (hb6.cell (p := ⟨w.heap.size, 4, none⟩) hw6).trans d4
                    replace f4' := (hb6.frozen (p := ⟨w.heap.size, 4, none⟩) hw6).trans f4'
                    replace q4 := (hb6.cell (p := ⟨W1.heap.size, 4, none⟩) hg6).trans q4
                    have B6 : Below w.heap.size w W6 := (Bw1.trans (BW5.mono (Nat.le_of_lt (by omega)))).trans (hb6.mono (Nat.le_of_lt hw6))
                    clear hb6 BW5 hHeld
                    by_cases he : (textOf (atoiV p1.data.toList) (atoiV p3.data.toList) (atoiV p5.data.toList) (atoiV p7.data.toList) (atoiV p9.data.toList)) = s
                    · have he' : ((textOf (atoiV p1.data.toList) (atoiV p3.data.toList) (atoiV p5.data.toList) (atoiV p7.data.toList) (atoiV p9.data.toList)).toList == s.toList) = true := by rw [he]; simp
                      have HY : Hid (vOk s) := ⟨hs, HW.out.2, by unfold vText; rw [HV.out.1, HV.out.2.1, HV.out.2.2.1, HV.out.2.2.2.1, HV.out.2.2.2.2]; exact he⟩
                      clear he
                      go_wp2
                      obtain ⟨r0, r1, r2, r3, r4⟩ := put5_cells d0 d1 d2 d3 d4 (.int .i64 (atoiV p1.data.toList)) (.int .i64 (atoiV p3.data.toList)) (.int .i64 (atoiV p5.data.toList)) (.int .i64 (atoiV p7.data.toList)) (.int .i64 (atoiV p9.data.toList))
                      unfold put5 at r0 r1 r2 r3 r4
                      refine bodyPost_ret (v := .tuple #[.agg #[.int .i64 (atoiV p1.data.toList), .int .i64 (atoiV p3.data.toList), .int .i64 (atoiV p5.data.toList), .int .i64 (atoiV p7.data.toList), .int .i64 (atoiV p9.data.toList)], .bool true]) ?_ rfl ⟨.inl ⟨HY.out, ?_⟩, put5_below B6 (Nat.le_refl _) (.int .i64 (atoiV p1.data.toList)) (.int .i64 (atoiV p3.data.toList)) (.int .i64 (atoiV p5.data.toList)) (.int .i64 (atoiV p7.data.toList)) (.int .i64 (atoiV p9.data.toList))⟩
                      · simp [results, Tryz.results43, go_sem, r0, r1, r2, r3, r4]
                      · rw [HV.out.1, HV.out.2.1, HV.out.2.2.1, HV.out.2.2.2.1, HV.out.2.2.2.2]
                    · have he' : ((textOf (atoiV p1.data.toList) (atoiV p3.data.toList) (atoiV p5.data.toList) (atoiV p7.data.toList) (atoiV p9.data.toList)).toList == s.toList) = false := beq_eq_false_iff_ne.2 (fun e => he (text_inj e))
                      have HY : Hid (¬ vOk s) := fun h => he (by have := h.2.2; unfold vText at this; rw [HV.out.1, HV.out.2.1, HV.out.2.2.1, HV.out.2.2.2.1, HV.out.2.2.2.2] at this; exact this)
                      clear he
                      go_wp2
                      obtain ⟨r0, r1, r2, r3, r4⟩ := put5_cells d0 d1 d2 d3 d4 (.int .i64 0) (.int .i64 0) (.int .i64 0) (.int .i64 0) (.int .i64 0)
                      unfold put5 at r0 r1 r2 r3 r4
                      refine bodyPost_ret (v := .tuple #[.agg #[.int .i64 0, .int .i64 0, .int .i64 0, .int .i64 0, .int .i64 0], .bool false]) ?_ rfl ⟨.inr ⟨HY.out, rfl⟩, put5_below B6 (Nat.le_refl _) (.int .i64 0) (.int .i64 0) (.int .i64 0) (.int .i64 0) (.int .i64 0)⟩
                      simp [results, Tryz.results43, go_sem, r0, r1, r2, r3, r4]
      · have FZ78 : FiveZ (W0.alloc (.cells #[.int .i64 0, .int .i64 0, .int .i64 0, .int .i64 0, .int .i64 0] 39)) W0.heap.size := FiveZ.new _
        have BW77 := BW0.alloc BW0.size (.cells #[.int .i64 0, .int .i64 0, .int .i64 0, .int .i64 0, .int .i64 0] 39)
        have hg79 : w1.heap.size ≤ W0.heap.size := BW0.size
        go_simp
        refine hK.out _ _ BW77 (fun hHeld => ?_)
        clear hK BW0
        try simp only [Act.put, List.setIfInBounds_toArray, List.set_cons_zero, List.set_cons_succ, List.getElem_toArray, List.getElem_cons_zero, List.getElem_cons_succ]
        generalize W0.alloc (.cells #[.int .i64 0, .int .i64 0, .int .i64 0, .int .i64 0, .int .i64 0] 39) = W76 at *
        refine wpAnyH_ready (rs := [3]) (by kernel_rfl) (by simp) ?_
        refine AllReadyH.cons rfl (fun K hK => ?_) AllReadyH.nil
        · go_simp
          go_wp2_with (go_at_call 48; refine (loose p1 z1 _ (E1.out.on BW77)).mono ?_; rintro e W80 ⟨rfl, hb82⟩)
          have BW81 : Below w1.heap.size w1 W80 := BW77.trans (hb82.mono BW77.size)
          have FZ83 := FZ78.below hb82
          refine hK.out _ _ BW81 (fun hHeld => ?_)
          clear hK hb82 BW77 FZ78
          try simp only [Act.put, List.setIfInBounds_toArray, List.set_cons_zero, List.set_cons_succ, List.getElem_toArray, List.getElem_cons_zero, List.getElem_cons_succ]
          refine wpAnyH_ready (rs := [7]) (by kernel_rfl) (by simp) ?_
          refine AllReadyH.cons rfl (fun K hK => ?_) AllReadyH.nil
          · go_simp
            go_wp2_with (go_at_call 48; refine (loose p3 z3 _ (E1.out.on BW81)).mono ?_; rintro e W84 ⟨rfl, hb86⟩)
            have BW85 : Below w1.heap.size w1 W84 := BW81.trans (hb86.mono BW81.size)
            have FZ87 := FZ83.below hb86
            refine hK.out _ _ BW85 (fun hHeld => ?_)
            clear hK hb86 BW81 FZ83
            try simp only [Act.put, List.setIfInBounds_toArray, List.set_cons_zero, List.set_cons_succ, List.getElem_toArray, List.getElem_cons_zero, List.getElem_cons_succ]
            refine wpAnyH_ready (rs := [11]) (by kernel_rfl) (by simp) ?_
            refine AllReadyH.cons rfl (fun K hK => ?_) AllReadyH.nil
            · go_simp
              go_wp2_with (go_at_call 48; refine (loose p5 z5 _ (E1.out.on BW85)).mono ?_; rintro e W88 ⟨rfl, hb90⟩)
              have BW89 : Below w1.heap.size w1 W88 := BW85.trans (hb90.mono BW85.size)
              have FZ91 := FZ87.below hb90
              refine hK.out _ _ BW89 (fun hHeld => ?_)
              clear hK hb90 BW85 FZ87
              try simp only [Act.put, List.setIfInBounds_toArray, List.set_cons_zero, List.set_cons_succ, List.getElem_toArray, List.getElem_cons_zero, List.getElem_cons_succ]
              refine wpAnyH_ready (rs := [15]) (by kernel_rfl) (by simp) ?_
              refine AllReadyH.cons rfl (fun K hK => ?_) AllReadyH.nil
              · go_simp
                go_wp2_with (go_at_call 48; refine (loose p7 z7 _ (E1.out.on BW89)).mono ?_; rintro e W92 ⟨rfl, hb94⟩)
                have BW93 : Below w1.heap.size w1 W92 := BW89.trans (hb94.mono BW89.size)
                have FZ95 := FZ91.below hb94
                refine hK.out _ _ BW93 (fun hHeld => ?_)
                clear hK hb94 BW89 FZ91
                try simp only [Act.put, List.setIfInBounds_toArray, List.set_cons_zero, List.set_cons_succ, List.getElem_toArray, List.getElem_cons_zero, List.getElem_cons_succ]
                refine wpAnyH_ready (rs := [19]) (by kernel_rfl) (by simp) ?_
                refine AllReadyH.cons rfl (fun K hK => ?_) AllReadyH.nil
                · go_simp
                  go_wp2_with (go_at_call 48; refine (loose p9 z9 _ (E1.out.on BW93)).mono ?_; rintro e W96 ⟨rfl, hb98⟩)
                  have BW97 : Below w1.heap.size w1 W96 := BW93.trans (hb98.mono BW93.size)
                  have FZ99 := FZ95.below hb98
                  refine hK.out _ _ BW97 (fun hHeld => ?_)
                  clear hK hb98 BW93 FZ95
                  try simp only [Act.put, List.setIfInBounds_toArray, List.set_cons_zero, List.set_cons_succ, List.getElem_toArray, List.getElem_cons_zero, List.getElem_cons_succ]
                  refine wpAnyH_take (i := 20) (v := .agg #[.int .i64 (atoiV p1.data.toList), .int .i64 (atoiV p3.data.toList), .int .i64 (atoiV p5.data.toList), .int .i64 (atoiV p7.data.toList), .int .i64 (atoiV p9.data.toList)]) rfl (by kernel_rfl) (by kernel_rfl) (by kernel_rfl) (fun _ _ _ h => h) (Or.inl ⟨by rfl, ?_⟩) (by assumption) ?_
                  · intro wx hSw; go_simp
                  try simp only [Act.put, List.setIfInBounds_toArray, List.set_cons_zero, List.set_cons_succ, List.getElem_toArray, List.getElem_cons_zero, List.getElem_cons_succ]
                  refine wpAnyH_ready (rs := [22]) (by kernel_rfl) (by simp) ?_
                  refine AllReadyH.cons rfl (fun K hK => ?_) AllReadyH.nil
                  · obtain ⟨z0, z1, z2, z3, z4, y0, y1, y2, y3, y4⟩ := FZ99.all
                    go_simp
                    go_wp2
                    obtain ⟨q0, q1, q2, q3, q4⟩ := put5_cells z0 z1 z2 z3 z4 (.int .i64 (atoiV p1.data.toList)) (.int .i64 (atoiV p3.data.toList)) (.int .i64 (atoiV p5.data.toList)) (.int .i64 (atoiV p7.data.toList)) (.int .i64 (atoiV p9.data.toList))
                    refine hK.out _ _ (put5_below BW97 hg79 (.int .i64 (atoiV p1.data.toList)) (.int .i64 (atoiV p3.data.toList)) (.int .i64 (atoiV p5.data.toList)) (.int .i64 (atoiV p7.data.toList)) (.int .i64 (atoiV p9.data.toList))) (fun hHeld => ?_)
                    have BW5 := put5_below BW97 hg79 (.int .i64 (atoiV p1.data.toList)) (.int .i64 (atoiV p3.data.toList)) (.int .i64 (atoiV p5.data.toList)) (.int .i64 (atoiV p7.data.toList)) (.int .i64 (atoiV p9.data.toList))
                    clear hK z0 z1 z2 z3 z4 y0 y1 y2 y3 y4 FZ99 BW97
                    try simp only [Act.put, List.setIfInBounds_toArray, List.set_cons_zero, List.set_cons_succ, List.getElem_toArray, List.getElem_cons_zero, List.getElem_cons_succ]
                    refine wpAnyH_done (by kernel_rfl) ?_ _
                    unfold put5 at q0 q1 q2 q3 q4 BW5 hHeld
                    generalize (((((W96.setCell ⟨W0.heap.size, 0, none⟩ (.int .i64 (atoiV p1.data.toList))).setCell ⟨W0.heap.size, 1, none⟩ (.int .i64 (atoiV p3.data.toList))).setCell ⟨W0.heap.size, 2, none⟩ (.int .i64 (atoiV p5.data.toList))).setCell ⟨W0.heap.size, 3, none⟩ (.int .i64 (atoiV p7.data.toList))).setCell ⟨W0.heap.size, 4, none⟩ (.int .i64 (atoiV p9.data.toList))) = W5 at *
                    have hgw : w.heap.size < W0.heap.size := by have := hz1; omega
                    have d0 : W5.cell? ⟨w.heap.size, 0, none⟩ = some (.int .i64 0) := (BW5.cell (p := ⟨w.heap.size, 0, none⟩) (by show w.heap.size < w1.heap.size; omega)).trans c0
                    have f0' : W5.frozen? ⟨w.heap.size, 0, none⟩ = false := (BW5.frozen (p := ⟨w.heap.size, 0, none⟩) (by show w.heap.size < w1.heap.size; omega)).trans f0
                    have d1 : W5.cell? ⟨w.heap.size, 1, none⟩ = some (.int .i64 0) := (BW5.cell (p := ⟨w.heap.size, 1, none⟩) (by show w.heap.size < w1.heap.size; omega)).trans c1
                    have f1' : W5.frozen? ⟨w.heap.size, 1, none⟩ = false := (BW5.frozen (p := ⟨w.heap.size, 1, none⟩) (by show w.heap.size < w1.heap.size; omega)).trans f1
                    have d2 : W5.cell? ⟨w.heap.size, 2, none⟩ = some (.int .i64 0) := (BW5.cell (p := ⟨w.heap.size, 2, none⟩) (by show w.heap.size < w1.heap.size; omega)).trans c2
                    have f2' : W5.frozen? ⟨w.heap.size, 2, none⟩ = false := (BW5.frozen (p := ⟨w.heap.size, 2, none⟩) (by show w.heap.size < w1.heap.size; omega)).trans f2
                    have d3 : W5.cell? ⟨w.heap.size, 3, none⟩ = some (.int .i64 0) := (BW5.cell (p := ⟨w.heap.size, 3, none⟩) (by show w.heap.size < w1.heap.size; omega)).trans c3
                    have f3' : W5.frozen? ⟨w.heap.size, 3, none⟩ = false := (BW5.frozen (p := ⟨w.heap.size, 3, none⟩) (by show w.heap.size < w1.heap.size; omega)).trans f3
                    have d4 : W5.cell? ⟨w.heap.size, 4, none⟩ = some (.int .i64 0) := (BW5.cell (p := ⟨w.heap.size, 4, none⟩) (by show w.heap.size < w1.heap.size; omega)).trans c4
                    have f4' : W5.frozen? ⟨w.heap.size, 4, none⟩ = false := (BW5.frozen (p := ⟨w.heap.size, 4, none⟩) (by show w.heap.size < w1.heap.size; omega)).trans f4
                    go_wp2_with fail
                    refine (text_impl _ _ _ _ _ _ ((E1.out.on BW5).tab)).mono ?_
                    rintro e W6 ⟨rfl, hb6⟩
                    have hw6 : w.heap.size < W5.heap.size := by have := BW5.size; omega
                    have hg6 : W0.heap.size < W5.heap.size := cell_lt5 q0
                    replace d0 := (hb6.cell (p := ⟨w.heap.size, 0, none⟩) hw6).trans d0
                    replace f0' := (hb6.frozen (p := ⟨w.heap.size, 0, none⟩) hw6).trans f0'
                    replace q0 := (hb6.cell (p := ⟨W0.heap.size, 0, none⟩) hg6).trans q0
                    replace d1 := (hb6.cell (p := ⟨w.heap.size, 1, none⟩) hw6).trans d1
                    replace f1' := (hb6.frozen (p := ⟨w.heap.size, 1, none⟩) hw6).trans f1'
                    replace q1 := (hb6.cell (p := ⟨W0.heap.size, 1, none⟩) hg6).trans q1
                    replace d2 := (hb6.cell (p := ⟨w.heap.size, 2, none⟩) hw6).trans d2
                    replace f2' := (hb6.frozen (p := ⟨w.heap.size, 2, none⟩) hw6).trans f2'
                    replace q2 := (hb6.cell (p := ⟨W0.heap.size, 2, none⟩) hg6).trans q2
                    replace d3 := (hb6.cell (p := ⟨w.heap.size, 3, none⟩) hw6).trans d3
                    replace f3' := (hb6.frozen (p := ⟨w.heap.size, 3, none⟩) hw6).trans f3'
                    replace q3 := (hb6.cell (p := ⟨W0.heap.size, 3, none⟩) hg6).trans q3
                    replace d4 := (hb6.cell (p := ⟨w.heap.size, 4, none⟩) hw6).trans d4
                    replace f4' := (hb6.frozen (p := ⟨w.heap.size, 4, none⟩) hw6).trans f4'
                    replace q4 := (hb6.cell (p := ⟨W0.heap.size, 4, none⟩) hg6).trans q4
                    have B6 : Below w.heap.size w W6 := (Bw1.trans (BW5.mono (Nat.le_of_lt (by omega)))).trans (hb6.mono (Nat.le_of_lt hw6))
                    clear hb6 BW5 hHeld
                    by_cases he : (textOf (atoiV p1.data.toList) (atoiV p3.data.toList) (atoiV p5.data.toList) (atoiV p7.data.toList) (atoiV p9.data.toList)) = s
                    · have he' : ((textOf (atoiV p1.data.toList) (atoiV p3.data.toList) (atoiV p5.data.toList) (atoiV p7.data.toList) (atoiV p9.data.toList)).toList == s.toList) = true := by rw [he]; simp
                      have HY : Hid (vOk s) := ⟨hs, HW.out.2, by unfold vText; rw [HV.out.1, HV.out.2.1, HV.out.2.2.1, HV.out.2.2.2.1, HV.out.2.2.2.2]; exact he⟩
                      clear he
                      go_wp2
                      obtain ⟨r0, r1, r2, r3, r4⟩ := put5_cells d0 d1 d2 d3 d4 (.int .i64 (atoiV p1.data.toList)) (.int .i64 (atoiV p3.data.toList)) (.int .i64 (atoiV p5.data.toList)) (.int .i64 (atoiV p7.data.toList)) (.int .i64 (atoiV p9.data.toList))
                      unfold put5 at r0 r1 r2 r3 r4
                      refine bodyPost_ret (v := .tuple #[.agg #[.int .i64 (atoiV p1.data.toList), .int .i64 (atoiV p3.data.toList), .int .i64 (atoiV p5.data.toList), .int .i64 (atoiV p7.data.toList), .int .i64 (atoiV p9.data.toList)], .bool true]) ?_ rfl ⟨.inl ⟨HY.out, ?_⟩, put5_below B6 (Nat.le_refl _) (.int .i64 (atoiV p1.data.toList)) (.int .i64 (atoiV p3.data.toList)) (.int .i64 (atoiV p5.data.toList)) (.int .i64 (atoiV p7.data.toList)) (.int .i64 (atoiV p9.data.toList))⟩
                      · simp [results, Tryz.results43, go_sem, r0, r1, r2, r3, r4]
                      · rw [HV.out.1, HV.out.2.1, HV.out.2.2.1, HV.out.2.2.2.1, HV.out.2.2.2.2]
                    · have he' : ((textOf (atoiV p1.data.toList) (atoiV p3.data.toList) (atoiV p5.data.toList) (atoiV p7.data.toList) (atoiV p9.data.toList)).toList == s.toList) = false := beq_eq_false_iff_ne.2 (fun e => he (text_inj e))
                      have HY : Hid (¬ vOk s) := fun h => he (by have := h.2.2; unfold vText at this; rw [HV.out.1, HV.out.2.1, HV.out.2.2.1, HV.out.2.2.2.1, HV.out.2.2.2.2] at this; exact this)
                      clear he
                      go_wp2
                      obtain ⟨r0, r1, r2, r3, r4⟩ := put5_cells d0 d1 d2 d3 d4 (.int .i64 0) (.int .i64 0) (.int .i64 0) (.int .i64 0) (.int .i64 0)
                      unfold put5 at r0 r1 r2 r3 r4
                      refine bodyPost_ret (v := .tuple #[.agg #[.int .i64 0, .int .i64 0, .int .i64 0, .int .i64 0, .int .i64 0], .bool false]) ?_ rfl ⟨.inr ⟨HY.out, rfl⟩, put5_below B6 (Nat.le_refl _) (.int .i64 0) (.int .i64 0) (.int .i64 0) (.int .i64 0) (.int .i64 0)⟩
                      simp [results, Tryz.results43, go_sem, r0, r1, r2, r3, r4]
    · have hne : ¬ (words s.data.toList).length = 10 := by omega
      have HY : Hid (¬ vOk s) := fun h => hne h.2.1
      have hne' : ((ps.length : Int) != 10) = true := by simp; omega
      clear hne hn hZ hcell' hps E1
      go_wp2
      obtain ⟨r0, r1, r2, r3, r4⟩ := put5_cells c0 c1 c2 c3 c4 (.int .i64 0) (.int .i64 0) (.int .i64 0) (.int .i64 0) (.int .i64 0)
      unfold put5 at r0 r1 r2 r3 r4
      refine bodyPost_ret (v := .tuple #[.agg #[.int .i64 0, .int .i64 0, .int .i64 0, .int .i64 0, .int .i64 0], .bool false]) ?_ rfl ⟨.inr ⟨HY.out, rfl⟩, put5_below Bw1 (Nat.le_refl _) (.int .i64 0) (.int .i64 0) (.int .i64 0) (.int .i64 0) (.int .i64 0)⟩
      simp [results, Tryz.results43, go_sem, r0, r1, r2, r3, r4]
  · have HY : Hid (¬ vOk s) := fun h => hs h.1
    have hs' : (100 : Int) < (s.size : Int) := by omega
    clear hE
    go_enter Tryz.func43, Tryz.ntmps43
    go_wp2
    exact bodyPost_ret (v := .tuple #[.agg #[.int .i64 0, .int .i64 0, .int .i64 0, .int .i64 0, .int .i64 0], .bool false]) (by simp [results, Tryz.results43, go_sem]) rfl ⟨.inr ⟨HY.out, rfl⟩, (Below.refl _ _).alloc (by simp) _⟩
end Go.Proofs.YtlmoeacpkkkkcaaGreatDoor
namespace Go.Proofs.YtlmoeacpkkkkcaaGreatDoor
open Go.RowKit
set_option linter.unusedVariables false
set_option maxRecDepth 100000
theorem text_in {i a n s l : Int} {t : ByteArray} (h : textOf i a n s l = t) (h0 : ¬ t.size = 0) : boundsB i n s l = true ∧ inB a 0 31 = true ∧ t = X9 i a n s l := by
  unfold textOf at h
  split at h
  · rename_i g; exact ⟨g.1, g.2, h.symm⟩
  · subst h; exact absurd rfl h0
/-- A text of a walker is read back by both. -/
theorem back {i a n s l : Int} (hb : boundsB i n s l = true) (ha : inB a 0 31 = true) :
    (X9 i a n s l).size ≤ 100 ∧ (words (X9 i a n s l).data.toList).length = 10 ∧
    (vF (X9 i a n s l) 1 = i ∧ vF (X9 i a n s l) 3 = a ∧ vF (X9 i a n s l) 5 = n ∧ vF (X9 i a n s l) 7 = s ∧ vF (X9 i a n s l) 9 = l) ∧
    (uF (X9 i a n s l) 1 = i ∧ uF (X9 i a n s l) 3 = a ∧ uF (X9 i a n s l) 5 = n ∧ uF (X9 i a n s l) 7 = s ∧ uF (X9 i a n s l) 9 = l) := by
  obtain ⟨hw, hs⟩ := text_words hb ha
  simp only [boundsB, Bool.and_eq_true, inB_true] at hb
  have ha' := inB_true.1 ha
  obtain ⟨⟨i1, i2⟩, ⟨n1, n2⟩, ⟨s1, s2⟩, l1, l2⟩ := hb
  obtain ⟨_, _, vi, ui⟩ := good_digits i (by omega) (by omega)
  obtain ⟨_, _, va, ua⟩ := good_digits a (by omega) (by omega)
  obtain ⟨_, _, vn, un⟩ := good_digits n (by omega) (by omega)
  obtain ⟨_, _, vs, us⟩ := good_digits s (by omega) (by omega)
  obtain ⟨_, _, vl, ul⟩ := good_digits l (by omega) (by omega)
  refine ⟨hs, by rw [hw]; rfl, ?_, ?_⟩
  · unfold vF
    rw [hw]
    exact ⟨vi, va, vn, vs, vl⟩
  · unfold uF
    rw [if_pos hs, if_pos hs, if_pos hs, if_pos hs, if_pos hs, hw]
    exact ⟨ui, ua, un, us, ul⟩
theorem agree_yes {s : ByteArray} (h : vOk s) : (¬ s.size = 0 ∧ uText s = s) ∧ (uF s 1 = vF s 1 ∧ uF s 3 = vF s 3 ∧ uF s 5 = vF s 5 ∧ uF s 7 = vF s 7 ∧ uF s 9 = vF s 9) := by
  obtain ⟨h1, h2, h3⟩ := h
  have h0 : ¬ s.size = 0 := by
    intro e
    have : s.data.toList = [] := List.eq_nil_of_length_eq_zero (by rw [size_len]; exact e)
    rw [this] at h2
    simp [words] at h2
  obtain ⟨hb, ha, e⟩ := text_in h3 h0
  obtain ⟨_, _, ⟨v1, v3, v5, v7, v9⟩, u1, u3, u5, u7, u9⟩ := back hb ha
  rw [← e] at u1 u3 u5 u7 u9
  refine ⟨⟨h0, ?_⟩, u1, u3, u5, u7, u9⟩
  unfold uText
  rw [u1, u3, u5, u7, u9]
  exact h3
theorem agree_no {s : ByteArray} (h : ¬ vOk s) : ¬ (¬ s.size = 0 ∧ uText s = s) := by
  rintro ⟨h0, h3⟩
  obtain ⟨hb, ha, e⟩ := text_in h3 h0
  obtain ⟨hs, hl, ⟨v1, v3, v5, v7, v9⟩, _⟩ := back hb ha
  rw [← e] at hs hl v1 v3 v5 v7 v9
  refine h ⟨hs, hl, ?_⟩
  unfold vText
  rw [v1, v3, v5, v7, v9]
  exact h3
theorem spec_yes (s : ByteArray) (w : World) (h : vOk s) :
    Calls Tryz.prog 18 #[.string s] w fun e w' => e = .returned (.tuple #[.agg #[.int .i64 (vF s 1), .int .i64 (vF s 3), .int .i64 (vF s 5), .int .i64 (vF s 7), .int .i64 (vF s 9)], .bool true]) ∧ Below w.heap.size w w' := by
  refine (read_spec s w).mono ?_
  obtain ⟨hy, u1, u3, u5, u7, u9⟩ := agree_yes h
  rintro e w' ⟨⟨_, _, rfl⟩ | ⟨hn, _⟩, hb⟩
  · exact ⟨by rw [u1, u3, u5, u7, u9], hb⟩
  · exact absurd hy hn
theorem spec_no (s : ByteArray) (w : World) (h : ¬ vOk s) :
    Calls Tryz.prog 18 #[.string s] w fun e w' => e = .returned (.tuple #[.agg #[.int .i64 0, .int .i64 0, .int .i64 0, .int .i64 0, .int .i64 0], .bool false]) ∧ Below w.heap.size w w' := by
  refine (read_spec s w).mono ?_
  have hn := agree_no h
  rintro e w' ⟨⟨h0, h1, _⟩ | ⟨_, rfl⟩, hb⟩
  · exact absurd ⟨h0, h1⟩ hn
  · exact ⟨rfl, hb⟩
end Go.Proofs.YtlmoeacpkkkkcaaGreatDoor
namespace Go.Proofs.YtlmoeacpkkkkcaaGreatDoor
open Go.RowKit
set_option linter.unusedVariables false
set_option maxRecDepth 100000
theorem impl_yes (s : ByteArray) (w : World) (hE : Env w) (h : vOk s) :
    Calls Tryz.prog 43 #[.string s] w fun e w' => e = .returned (.tuple #[.agg #[.int .i64 (vF s 1), .int .i64 (vF s 3), .int .i64 (vF s 5), .int .i64 (vF s 7), .int .i64 (vF s 9)], .bool true]) ∧ Below w.heap.size w w' := by
  refine (read_impl s w hE).mono ?_
  rintro e w' ⟨⟨_, rfl⟩ | ⟨hn, _⟩, hb⟩
  · exact ⟨rfl, hb⟩
  · exact absurd h hn
theorem impl_no (s : ByteArray) (w : World) (hE : Env w) (h : ¬ vOk s) :
    Calls Tryz.prog 43 #[.string s] w fun e w' => e = .returned (.tuple #[.agg #[.int .i64 0, .int .i64 0, .int .i64 0, .int .i64 0, .int .i64 0], .bool false]) ∧ Below w.heap.size w w' := by
  refine (read_impl s w hE).mono ?_
  rintro e w' ⟨⟨hy, _⟩ | ⟨_, rfl⟩, hb⟩
  · exact absurd hy h
  · exact ⟨rfl, hb⟩
end Go.Proofs.YtlmoeacpkkkkcaaGreatDoor
