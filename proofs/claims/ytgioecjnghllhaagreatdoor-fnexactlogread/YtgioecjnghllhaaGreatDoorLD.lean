/- What is carried: lemmas on lists, cells and draws; conditions: those typed. -/
import Derived.WalkKit
import Derived.ProofKit
import Derived.OpenShut
import Derived.Below
import Derived.BigQuiet
import Derived.Test.YtgioecjnghllhaaGreatDoorRows
import Derived.WalkSpells
import Derived.Lib.ItoaNum
import Derived.Test.YtgioecjnghllhaaGreatDoorShelf
import Derived.Lib.AppendIntMem
import Derived.Deep.RegionHeld3
import Derived.Deep.QuietTactic
import Derived.Lib.AtoiAll
import Derived.Lib.Split
import Derived.Lib.SplitLaws
import Derived.Lib.IndexBytes
import Derived.Lib.AtoiErrMem
import Derived.LoopTactic
import Derived.OwnWalk
import Derived.Laws.IdiomCopy
import Derived.Deep.RegionWith
import Derived.Test.YtgioecjnghllhaaGreatDoorLA
import Derived.Test.YtgioecjnghllhaaGreatDoorLB
import Derived.Test.YtgioecjnghllhaaGreatDoorLC
namespace Go.Proofs.YtgioecjnghllhaaGreatDoor
open Go.RowKit Go.ChangeShapes Go.WideShapes Go.ChangeAt
end Go.Proofs.YtgioecjnghllhaaGreatDoor
namespace Go.Proofs.YtgioecjnghllhaaGreatDoor
open Go.RowKit
set_option linter.unusedVariables false
end Go.Proofs.YtgioecjnghllhaaGreatDoor
namespace Go.Proofs.YtgioecjnghllhaaGreatDoor
open Go.RowKit
set_option linter.unusedVariables false
def boundsB (i n s l : Int) : Bool := inB i 1 9 && (inB n 0 99 && (inB s 0 900 && inB l 0 9))
theorem bounds_impl (i a n s l : Int) (w : World) :
    Calls Tryz.prog 95 #[.agg #[.int .i64 i, .int .i64 a, .int .i64 n, .int .i64 s, .int .i64 l]] w fun e w' => e = .returned (.bool (boundsB i n s l)) ∧ Below w.heap.size w w' := by
  cases h1 : inB i 1 9
  · go_enter Tryz.func95, Tryz.ntmps95
    go_wp2_with (go_at_call 51; refine (in_impl _ _ _ _).mono ?_; rintro e w' ⟨rfl, rfl⟩)
    go_ret
    exact ⟨by simp [boundsB, *], by repeat (first | exact Below.refl _ _ | refine bthen ?_ (by assumption) | apply Below.drew | apply bdrewN | refine Below.alloc ?_ (by simp) _)⟩
  ·
    cases h2 : inB n 0 99
    · go_enter Tryz.func95, Tryz.ntmps95
      go_wp2_with (go_at_call 51; refine (in_impl _ _ _ _).mono ?_; rintro e w' ⟨rfl, rfl⟩)
      go_ret
      exact ⟨by simp [boundsB, *], by repeat (first | exact Below.refl _ _ | refine bthen ?_ (by assumption) | apply Below.drew | apply bdrewN | refine Below.alloc ?_ (by simp) _)⟩
    ·
      cases h3 : inB s 0 900
      · go_enter Tryz.func95, Tryz.ntmps95
        go_wp2_with (go_at_call 51; refine (in_impl _ _ _ _).mono ?_; rintro e w' ⟨rfl, rfl⟩)
        go_ret
        exact ⟨by simp [boundsB, *], by repeat (first | exact Below.refl _ _ | refine bthen ?_ (by assumption) | apply Below.drew | apply bdrewN | refine Below.alloc ?_ (by simp) _)⟩
      · go_enter Tryz.func95, Tryz.ntmps95
        go_wp2_with (go_at_call 51; refine (in_impl _ _ _ _).mono ?_; rintro e w' ⟨rfl, rfl⟩)
        go_ret
        exact ⟨by simp [boundsB, *], by repeat (first | exact Below.refl _ _ | refine bthen ?_ (by assumption) | apply Below.drew | apply bdrewN | refine Below.alloc ?_ (by simp) _)⟩
end Go.Proofs.YtgioecjnghllhaaGreatDoor
namespace Go.Proofs.YtgioecjnghllhaaGreatDoor
open Go.RowKit
set_option linter.unusedVariables false
end Go.Proofs.YtgioecjnghllhaaGreatDoor
namespace Go.Proofs.YtgioecjnghllhaaGreatDoor
open Go.RowKit
set_option linter.unusedVariables false
theorem inB_true {n lo hi : Int} : inB n lo hi = true ↔ lo ≤ n ∧ n ≤ hi := by simp [inB]
/-- The text of a walker, part by part, as both write it. -/
def X1 (i : Int) : ByteArray := (⟨#[119, 97, 108, 107, 101, 114, 32]⟩ : ByteArray) ++ DD i
def X2 (i : Int) : ByteArray := X1 i ++ ⟨#[32, 97, 116, 32]⟩
def X3 (i a : Int) : ByteArray := X2 i ++ DD a
def X4 (i a : Int) : ByteArray := X3 i a ++ ⟨#[32, 99, 111, 105, 110, 115, 32]⟩
def X5 (i a n : Int) : ByteArray := X4 i a ++ DD n
def X6 (i a n : Int) : ByteArray := X5 i a n ++ ⟨#[32, 111, 114, 100, 101, 114, 32]⟩
def X7 (i a n s : Int) : ByteArray := X6 i a n ++ DD s
def X8 (i a n s : Int) : ByteArray := X7 i a n s ++ ⟨#[32, 99, 111, 100, 101, 32]⟩
def X9 (i a n s l : Int) : ByteArray := X8 i a n s ++ DD l
theorem X1_size (i : Int) (zi : (DD i).size ≤ 6) : (X1 i).size ≤ 20 := by
  unfold X1; rw [ByteArray.size_append]; first | omega | (simp only [ByteArray.size_mk', List.size_toArray, List.length_cons, List.length_nil] at *; omega)
theorem X2_size (i : Int) (zi : (DD i).size ≤ 6) : (X2 i).size ≤ 40 := by
  have := X1_size i zi; unfold X2; rw [ByteArray.size_append]; first | omega | (simp only [ByteArray.size_mk', List.size_toArray, List.length_cons, List.length_nil] at *; omega)
theorem X3_size (i a : Int) (zi : (DD i).size ≤ 6) (za : (DD a).size ≤ 6) : (X3 i a).size ≤ 60 := by
  have := X2_size i zi; unfold X3; rw [ByteArray.size_append]; first | omega | (simp only [ByteArray.size_mk', List.size_toArray, List.length_cons, List.length_nil] at *; omega)
theorem X4_size (i a : Int) (zi : (DD i).size ≤ 6) (za : (DD a).size ≤ 6) : (X4 i a).size ≤ 80 := by
  have := X3_size i a zi za; unfold X4; rw [ByteArray.size_append]; first | omega | (simp only [ByteArray.size_mk', List.size_toArray, List.length_cons, List.length_nil] at *; omega)
theorem X5_size (i a n : Int) (zi : (DD i).size ≤ 6) (za : (DD a).size ≤ 6) (zn : (DD n).size ≤ 6) : (X5 i a n).size ≤ 100 := by
  have := X4_size i a zi za; unfold X5; rw [ByteArray.size_append]; first | omega | (simp only [ByteArray.size_mk', List.size_toArray, List.length_cons, List.length_nil] at *; omega)
theorem X6_size (i a n : Int) (zi : (DD i).size ≤ 6) (za : (DD a).size ≤ 6) (zn : (DD n).size ≤ 6) : (X6 i a n).size ≤ 120 := by
  have := X5_size i a n zi za zn; unfold X6; rw [ByteArray.size_append]; first | omega | (simp only [ByteArray.size_mk', List.size_toArray, List.length_cons, List.length_nil] at *; omega)
theorem X7_size (i a n s : Int) (zi : (DD i).size ≤ 6) (za : (DD a).size ≤ 6) (zn : (DD n).size ≤ 6) (zs : (DD s).size ≤ 6) : (X7 i a n s).size ≤ 140 := by
  have := X6_size i a n zi za zn; unfold X7; rw [ByteArray.size_append]; first | omega | (simp only [ByteArray.size_mk', List.size_toArray, List.length_cons, List.length_nil] at *; omega)
theorem X8_size (i a n s : Int) (zi : (DD i).size ≤ 6) (za : (DD a).size ≤ 6) (zn : (DD n).size ≤ 6) (zs : (DD s).size ≤ 6) : (X8 i a n s).size ≤ 160 := by
  have := X7_size i a n s zi za zn zs; unfold X8; rw [ByteArray.size_append]; first | omega | (simp only [ByteArray.size_mk', List.size_toArray, List.length_cons, List.length_nil] at *; omega)
theorem X9_size (i a n s l : Int) (zi : (DD i).size ≤ 6) (za : (DD a).size ≤ 6) (zn : (DD n).size ≤ 6) (zs : (DD s).size ≤ 6) (zl : (DD l).size ≤ 6) : (X9 i a n s l).size ≤ 180 := by
  have := X8_size i a n s zi za zn zs; unfold X9; rw [ByteArray.size_append]; first | omega | (simp only [ByteArray.size_mk', List.size_toArray, List.length_cons, List.length_nil] at *; omega)
def textOf (i a n s l : Int) : ByteArray := if boundsB i n s l = true ∧ inB a 0 31 = true then X9 i a n s l else ⟨#[]⟩
set_option maxHeartbeats 1000000 in
theorem text_spec (i a n s l : Int) (w : World) :
    Calls Tryz.prog 40 #[.agg #[.int .i64 i, .int .i64 a, .int .i64 n, .int .i64 s, .int .i64 l]] w fun e w' => e = .returned (.string (textOf i a n s l)) ∧ Below w.heap.size w w' := by
  cases h1 : inB i 1 9
  · go_enter Tryz.func40, Tryz.ntmps40
    go_wp2_with (go_at_call 24; refine (in_spec _ _ _ _).mono ?_; rintro e w' ⟨rfl, rfl⟩)
    go_ret
    exact ⟨by simp [textOf, boundsB, *], by repeat (first | exact Below.refl _ _ | refine bthen ?_ (by assumption) | apply Below.drew | apply bdrewN | refine Below.alloc ?_ (by simp) _)⟩
  ·
    cases h0 : inB a 0 31
    · go_enter Tryz.func40, Tryz.ntmps40
      go_wp2_with (go_at_call 24; refine (in_spec _ _ _ _).mono ?_; rintro e w' ⟨rfl, rfl⟩)
      go_ret
      exact ⟨by simp [textOf, boundsB, *], by repeat (first | exact Below.refl _ _ | refine bthen ?_ (by assumption) | apply Below.drew | apply bdrewN | refine Below.alloc ?_ (by simp) _)⟩
    ·
      cases h2 : inB n 0 99
      · go_enter Tryz.func40, Tryz.ntmps40
        go_wp2_with (go_at_call 24; refine (in_spec _ _ _ _).mono ?_; rintro e w' ⟨rfl, rfl⟩)
        go_ret
        exact ⟨by simp [textOf, boundsB, *], by repeat (first | exact Below.refl _ _ | refine bthen ?_ (by assumption) | apply Below.drew | apply bdrewN | refine Below.alloc ?_ (by simp) _)⟩
      ·
        cases h3 : inB s 0 900
        · go_enter Tryz.func40, Tryz.ntmps40
          go_wp2_with (go_at_call 24; refine (in_spec _ _ _ _).mono ?_; rintro e w' ⟨rfl, rfl⟩)
          go_ret
          exact ⟨by simp [textOf, boundsB, *], by repeat (first | exact Below.refl _ _ | refine bthen ?_ (by assumption) | apply Below.drew | apply bdrewN | refine Below.alloc ?_ (by simp) _)⟩
        ·
          cases h4 : inB l 0 9
          · go_enter Tryz.func40, Tryz.ntmps40
            go_wp2_with (go_at_call 24; refine (in_spec _ _ _ _).mono ?_; rintro e w' ⟨rfl, rfl⟩)
            go_ret
            exact ⟨by simp [textOf, boundsB, *], by repeat (first | exact Below.refl _ _ | refine bthen ?_ (by assumption) | apply Below.drew | apply bdrewN | refine Below.alloc ?_ (by simp) _)⟩
          ·
            obtain ⟨i1, i2⟩ := inB_true.1 h1
            obtain ⟨a1, a2⟩ := inB_true.1 h0
            obtain ⟨n1, n2⟩ := inB_true.1 h2
            obtain ⟨s1, s2⟩ := inB_true.1 h3
            obtain ⟨l1, l2⟩ := inB_true.1 h4
            have zi := DD_size i (by omega)
            have za := DD_size a (by omega)
            have zn := DD_size n (by omega)
            have zs := DD_size s (by omega)
            have zl := DD_size l (by omega)
            have c1 : ∀ w : World, (Op.stringOp .add (⟨#[119, 97, 108, 107, 101, 114, 32]⟩) (DD i)).run Tryz.prog w = .ok (.string (X1 i)) w := cat _ _ (by decide) (by omega)
            have c2 : ∀ w : World, (Op.stringOp .add (X1 i) (⟨#[32, 97, 116, 32]⟩)).run Tryz.prog w = .ok (.string (X2 i)) w := cat _ _ (by have := X1_size i zi; omega) (by decide)
            have c3 : ∀ w : World, (Op.stringOp .add (X2 i) (DD a)).run Tryz.prog w = .ok (.string (X3 i a)) w := cat _ _ (by have := X2_size i zi; omega) (by omega)
            have c4 : ∀ w : World, (Op.stringOp .add (X3 i a) (⟨#[32, 99, 111, 105, 110, 115, 32]⟩)).run Tryz.prog w = .ok (.string (X4 i a)) w := cat _ _ (by have := X3_size i a zi za; omega) (by decide)
            have c5 : ∀ w : World, (Op.stringOp .add (X4 i a) (DD n)).run Tryz.prog w = .ok (.string (X5 i a n)) w := cat _ _ (by have := X4_size i a zi za; omega) (by omega)
            have c6 : ∀ w : World, (Op.stringOp .add (X5 i a n) (⟨#[32, 111, 114, 100, 101, 114, 32]⟩)).run Tryz.prog w = .ok (.string (X6 i a n)) w := cat _ _ (by have := X5_size i a n zi za zn; omega) (by decide)
            have c7 : ∀ w : World, (Op.stringOp .add (X6 i a n) (DD s)).run Tryz.prog w = .ok (.string (X7 i a n s)) w := cat _ _ (by have := X6_size i a n zi za zn; omega) (by omega)
            have c8 : ∀ w : World, (Op.stringOp .add (X7 i a n s) (⟨#[32, 99, 111, 100, 101, 32]⟩)).run Tryz.prog w = .ok (.string (X8 i a n s)) w := cat _ _ (by have := X7_size i a n s zi za zn zs; omega) (by decide)
            have c9 : ∀ w : World, (Op.stringOp .add (X8 i a n s) (DD l)).run Tryz.prog w = .ok (.string (X9 i a n s l)) w := cat _ _ (by have := X8_size i a n s zi za zn zs; omega) (by omega)
            go_enter Tryz.func40, Tryz.ntmps40
            go_wp2_with (go_at_call 24; refine (in_spec _ _ _ _).mono ?_; rintro e w' ⟨rfl, rfl⟩)
            go_region_held3 (fun w' => (∀ b o, b < w.heap.size + 1 → w'.cell? ⟨b, o, none⟩ = (w.alloc (.cells #[.int .i64 i, .int .i64 a, .int .i64 n, .int .i64 s, .int .i64 l] 25)).cell? ⟨b, o, none⟩) ∧ w.heap.size + 1 ≤ w'.heap.size) (first | (refine keepS ?_ (by assumption); assumption) | exact ⟨fun _ _ _ => rfl, by simp⟩ | assumption)
              (first | (go_at_call 26; refine (digits_D _ (by omega) (by omega) _).mono ?_; rintro e w' ⟨rfl, hb⟩))
            go_wp2
            go_ret
            exact ⟨by simp [textOf, boundsB, *], by repeat (first | exact Below.refl _ _ | refine bthen ?_ (by assumption) | apply Below.drew | apply bdrewN | refine Below.alloc ?_ (by simp) _)⟩
set_option maxHeartbeats 1000000 in
theorem text_impl (i a n s l : Int) (w : World) (ht : Lib.TabBelow Tryz.prog w.heap.size w "internal/strconv.uint64pow10" .u64 Lib.pow10Tab) :
    Calls Tryz.prog 77 #[.agg #[.int .i64 i, .int .i64 a, .int .i64 n, .int .i64 s, .int .i64 l]] w fun e w' => e = .returned (.string (textOf i a n s l)) ∧ Below w.heap.size w w' := by
  have HT : Hid (Lib.TabBelow Tryz.prog w.heap.size w "internal/strconv.uint64pow10" .u64 Lib.pow10Tab) := ht
  clear ht
  cases h1 : boundsB i n s l
  · go_enter Tryz.func77, Tryz.ntmps77
    go_wp2_with (first | (go_at_call 95; refine (bounds_impl _ _ _ _ _ _).mono ?_; rintro e w' ⟨rfl, hb⟩; obtain ⟨hc, hf⟩ := bcell hb) | (go_at_call 51; refine (in_impl _ _ _ _).mono ?_; rintro e w' ⟨rfl, rfl⟩))
    go_ret
    exact ⟨by simp [textOf, *], by repeat (first | exact Below.refl _ _ | refine bthen ?_ (by assumption) | apply Below.drew | apply bdrewN | refine Below.alloc ?_ (by simp) _)⟩
  · have hh := h1
    simp only [boundsB, Bool.and_eq_true, inB_true] at hh
    obtain ⟨⟨i1, i2⟩, ⟨n1, n2⟩, ⟨s1, s2⟩, l1, l2⟩ := hh
    cases h0 : inB a 0 31
    · go_enter Tryz.func77, Tryz.ntmps77
      go_wp2_with (first | (go_at_call 95; refine (bounds_impl _ _ _ _ _ _).mono ?_; rintro e w' ⟨rfl, hb⟩; obtain ⟨hc, hf⟩ := bcell hb) | (go_at_call 51; refine (in_impl _ _ _ _).mono ?_; rintro e w' ⟨rfl, rfl⟩))
      go_ret
      exact ⟨by simp [textOf, *], by repeat (first | exact Below.refl _ _ | refine bthen ?_ (by assumption) | apply Below.drew | apply bdrewN | refine Below.alloc ?_ (by simp) _)⟩
    · obtain ⟨a1, a2⟩ := inB_true.1 h0
      have zi := DD_size i (by omega)
      have za := DD_size a (by omega)
      have zn := DD_size n (by omega)
      have zs := DD_size s (by omega)
      have zl := DD_size l (by omega)
      have c1 : ∀ w : World, (Op.stringOp .add (⟨#[119, 97, 108, 107, 101, 114, 32]⟩) (DD i)).run Tryz.prog w = .ok (.string (X1 i)) w := cat _ _ (by decide) (by omega)
      have c2 : ∀ w : World, (Op.stringOp .add (X1 i) (⟨#[32, 97, 116, 32]⟩)).run Tryz.prog w = .ok (.string (X2 i)) w := cat _ _ (by have := X1_size i zi; omega) (by decide)
      have c3 : ∀ w : World, (Op.stringOp .add (X2 i) (DD a)).run Tryz.prog w = .ok (.string (X3 i a)) w := cat _ _ (by have := X2_size i zi; omega) (by omega)
      have c4 : ∀ w : World, (Op.stringOp .add (X3 i a) (⟨#[32, 99, 111, 105, 110, 115, 32]⟩)).run Tryz.prog w = .ok (.string (X4 i a)) w := cat _ _ (by have := X3_size i a zi za; omega) (by decide)
      have c5 : ∀ w : World, (Op.stringOp .add (X4 i a) (DD n)).run Tryz.prog w = .ok (.string (X5 i a n)) w := cat _ _ (by have := X4_size i a zi za; omega) (by omega)
      have c6 : ∀ w : World, (Op.stringOp .add (X5 i a n) (⟨#[32, 111, 114, 100, 101, 114, 32]⟩)).run Tryz.prog w = .ok (.string (X6 i a n)) w := cat _ _ (by have := X5_size i a n zi za zn; omega) (by decide)
      have c7 : ∀ w : World, (Op.stringOp .add (X6 i a n) (DD s)).run Tryz.prog w = .ok (.string (X7 i a n s)) w := cat _ _ (by have := X6_size i a n zi za zn; omega) (by omega)
      have c8 : ∀ w : World, (Op.stringOp .add (X7 i a n s) (⟨#[32, 99, 111, 100, 101, 32]⟩)).run Tryz.prog w = .ok (.string (X8 i a n s)) w := cat _ _ (by have := X7_size i a n s zi za zn zs; omega) (by decide)
      have c9 : ∀ w : World, (Op.stringOp .add (X8 i a n s) (DD l)).run Tryz.prog w = .ok (.string (X9 i a n s l)) w := cat _ _ (by have := X8_size i a n s zi za zn zs; omega) (by omega)
      go_enter Tryz.func77, Tryz.ntmps77
      go_wp2_with fail
      refine (bounds_impl _ _ _ _ _ _).mono ?_
      rintro e w1 ⟨rfl, hb1⟩
      have hs1 : (∀ b o, b < w.heap.size + 1 → w1.cell? ⟨b, o, none⟩ = (w.alloc (.cells #[.int .i64 i, .int .i64 a, .int .i64 n, .int .i64 s, .int .i64 l] 25)).cell? ⟨b, o, none⟩) ∧ w.heap.size + 1 ≤ w1.heap.size := keepS ⟨fun _ _ _ => rfl, by simp⟩ hb1
      go_wp2_with (go_at_call 51; refine (in_impl _ _ _ _).mono ?_; rintro e w' ⟨rfl, rfl⟩)
      go_region_held3 (fun w' => (∀ b o, b < w.heap.size + 1 → w'.cell? ⟨b, o, none⟩ = (w.alloc (.cells #[.int .i64 i, .int .i64 a, .int .i64 n, .int .i64 s, .int .i64 l] 25)).cell? ⟨b, o, none⟩) ∧ w.heap.size + 1 ≤ w'.heap.size) (first | (refine keepS ?_ (by assumption); assumption) | exact ⟨fun _ _ _ => rfl, by simp⟩ | assumption)
        (first | (go_at_call 38; refine (itoa_tab _ (by omega) (by omega) _ (HT.out _ (by repeat (first | exact Below.refl _ _ | refine bthen ?_ (by assumption) | apply Below.drew | apply bdrewN | refine Below.alloc ?_ (by simp) _)))).mono ?_; rintro e w' ⟨rfl, hb⟩))
      go_wp2
      go_ret
      exact ⟨by simp [textOf, *], by repeat (first | exact Below.refl _ _ | refine bthen ?_ (by assumption) | apply Below.drew | apply bdrewN | refine Below.alloc ?_ (by simp) _)⟩
end Go.Proofs.YtgioecjnghllhaaGreatDoor
namespace Go.Proofs.YtgioecjnghllhaaGreatDoor
open Go.RowKit
set_option linter.unusedVariables false
end Go.Proofs.YtgioecjnghllhaaGreatDoor
namespace Go.Proofs.YtgioecjnghllhaaGreatDoor
open Go.RowKit
set_option linter.unusedVariables false
end Go.Proofs.YtgioecjnghllhaaGreatDoor
namespace Go.Proofs.YtgioecjnghllhaaGreatDoor
open Go.RowKit
set_option linter.unusedVariables false
end Go.Proofs.YtgioecjnghllhaaGreatDoor
namespace Go.Proofs.YtgioecjnghllhaaGreatDoor
open Go.RowKit
set_option linter.unusedVariables false
end Go.Proofs.YtgioecjnghllhaaGreatDoor
namespace Go.Proofs.YtgioecjnghllhaaGreatDoor
open Go.RowKit
set_option linter.unusedVariables false
end Go.Proofs.YtgioecjnghllhaaGreatDoor
namespace Go.Proofs.YtgioecjnghllhaaGreatDoor
open Go.RowKit
set_option linter.unusedVariables false
def noWalker (i a n s l : Int) : Bool := (i == 0 && (a == 0 && (n == 0 && (s == 0 && l == 0))))
def cargoV (pn pk i a n s l pc : Int) : Value :=
  if pk = 1 ∧ pc = 0 then .iface 107 (.agg #[.int .i64 pn, .int .i64 i, .int .i64 a, .int .i64 n, .int .i64 s, .int .i64 l]) else if pk = 2 ∧ noWalker i a n s l = true then .iface 109 (.agg #[.int .i64 pn, .int .i64 pc]) else .nilIface
/-- The text of coins. -/
def coinsText (pc : Int) : ByteArray := if inB pc 1 9 = true then (⟨#[99, 111, 105, 110, 115, 32]⟩ : ByteArray) ++ DD pc else ⟨#[]⟩
/-- What stands behind a parcel's number and a blank; empty, where there is none. -/
def cargoText (pk i a n s l pc : Int) : ByteArray := if pk = 1 ∧ pc = 0 then textOf i a n s l else if pk = 2 ∧ noWalker i a n s l = true then coinsText pc else ⟨#[]⟩
def pclText (pn pk i a n s l pc : Int) : ByteArray := if inB pn 0 4999 = true ∧ (cargoText pk i a n s l pc).toList ≠ [] then (DD pn ++ SP) ++ cargoText pk i a n s l pc else ⟨#[]⟩
theorem cargoOf (pn pk i a n s l pc : Int) (w : World) :
    Calls Tryz.prog 50 #[.agg #[.int .i64 pn, .int .i64 pk, .int .i64 i, .int .i64 a, .int .i64 n, .int .i64 s, .int .i64 l, .int .i64 pc]] w fun e w' => e = .returned (cargoV pn pk i a n s l pc) ∧ Below w.heap.size w w' := by
  go_enter Tryz.func50, Tryz.ntmps50
  go_wp2
  all_goals (go_ret; exact ⟨by simp_all [cargoV, noWalker], by repeat (first | exact Below.refl _ _ | refine Below.alloc ?_ (by simp <;> omega) _)⟩)
theorem number_impl (n : Int) (w : World) :
    Calls Tryz.prog 141 #[.agg #[.int .i64 n]] w fun e w' => e = .returned (.bool (inB n 0 4999)) ∧ Below w.heap.size w w' := by
  go_enter Tryz.func141, Tryz.ntmps141
  go_wp2_with (go_at_call 51; refine (in_impl _ _ _ _).mono ?_; rintro e w' ⟨rfl, rfl⟩)
  go_ret
  exact ⟨rfl, by repeat (first | exact Below.refl _ _ | refine Below.alloc ?_ (by simp <;> omega) _)⟩
theorem words_coins (pn pc : Int) (w : World) :
    Calls Tryz.prog 145 #[.agg #[.int .i64 pn, .int .i64 pc]] w fun e w' => e = .returned (.string (coinsText pc)) ∧ Below w.heap.size w w' := by
  cases h : inB pc 1 9
  · go_enter Tryz.func145, Tryz.ntmps145
    go_wp2_with (go_at_call 131; refine (amount_impl _ _).mono ?_; rintro e w' ⟨rfl, rfl⟩; rw [h])
    go_ret
    exact ⟨by simp [coinsText, h], by repeat (first | exact Below.refl _ _ | refine bthen ?_ (by assumption) | apply Below.drew | apply bdrewN | refine Below.alloc ?_ (by simp <;> omega) _)⟩
  · have hb : 1 ≤ pc ∧ pc ≤ 9 := by simpa [inB] using h
    have zc : (DD pc).size ≤ 6 := DD_size pc (by omega)
    have c1 : ∀ w : World, (Op.stringOp .add (⟨#[99, 111, 105, 110, 115, 32]⟩ : ByteArray) (DD pc)).run Tryz.prog w = .ok (.string ((⟨#[99, 111, 105, 110, 115, 32]⟩ : ByteArray) ++ DD pc)) w := cat _ _ (by decide +kernel) (by omega)
    go_enter Tryz.func145, Tryz.ntmps145
    go_wp2_with (first | (go_at_call 131; refine (amount_impl _ _).mono ?_; rintro e w' ⟨rfl, rfl⟩; rw [h]) | (go_at_call 38; refine (itoa_small _ (by omega) (by omega) _).mono ?_; rintro e w' ⟨rfl, hb⟩))
    go_ret
    exact ⟨by simp [coinsText, h], by repeat (first | exact Below.refl _ _ | refine bthen ?_ (by assumption) | apply Below.drew | apply bdrewN | refine Below.alloc ?_ (by simp <;> omega) _)⟩
theorem words_walker (pn i a n s l : Int) (w : World) (ht : Lib.TabBelow Tryz.prog w.heap.size w "internal/strconv.uint64pow10" .u64 Lib.pow10Tab) :
    Calls Tryz.prog 143 #[.agg #[.int .i64 pn, .int .i64 i, .int .i64 a, .int .i64 n, .int .i64 s, .int .i64 l]] w fun e w' => e = .returned (.string (textOf i a n s l)) ∧ Below w.heap.size w w' := by
  have HT : Hid (Lib.TabBelow Tryz.prog w.heap.size w "internal/strconv.uint64pow10" .u64 Lib.pow10Tab) := ht
  clear ht
  have T1 : Hid (Lib.TabBelow Tryz.prog (w.alloc (.cells #[.int .i64 pn, .int .i64 i, .int .i64 a, .int .i64 n, .int .i64 s, .int .i64 l] 107)).heap.size (w.alloc (.cells #[.int .i64 pn, .int .i64 i, .int .i64 a, .int .i64 n, .int .i64 s, .int .i64 l] 107)) "internal/strconv.uint64pow10" .u64 Lib.pow10Tab) := fun w' h' => HT.out w' (bthen ((Below.refl _ _).alloc (by simp) _) h')
  go_enter Tryz.func143, Tryz.ntmps143
  go_wp2_with fail
  refine (text_impl _ _ _ _ _ _ T1.out).mono ?_
  rintro e w1 ⟨rfl, hb⟩
  go_wp2
  go_ret
  exact ⟨rfl, by repeat (first | exact Below.refl _ _ | refine bthen ?_ (by assumption) | apply Below.drew | apply bdrewN | refine Below.alloc ?_ (by simp <;> omega) _)⟩
theorem text_size (i a n s l : Int) : (textOf i a n s l).size ≤ 180 := by
  unfold textOf
  split
  · rename_i h
    have hb := h.1
    have ha := h.2
    simp [boundsB, inB] at hb
    simp [inB] at ha
    exact X9_size i a n s l (DD_size i (by omega)) (DD_size a (by omega)) (DD_size n (by omega)) (DD_size s (by omega)) (DD_size l (by omega))
  · decide +kernel
theorem coins_size (pc : Int) : (coinsText pc).size ≤ 180 := by
  unfold coinsText
  split
  · rename_i h
    simp [inB] at h
    have := DD_size pc (by omega)
    have : (⟨#[99, 111, 105, 110, 115, 32]⟩ : ByteArray).size = 6 := by decide +kernel
    rw [ByteArray.size_append]
    omega
  · decide +kernel
theorem cargo_size (pk i a n s l pc : Int) : (cargoText pk i a n s l pc).size ≤ 180 := by
  unfold cargoText
  split
  · exact text_size i a n s l
  · split
    · exact coins_size pc
    · decide +kernel
set_option maxRecDepth 100000 in
set_option maxHeartbeats 2000000 in
theorem ptext_gen (pn pk i a n s l pc : Int) (t : TypeId) (V : Value) (ff : Nat) (hd : cargoV pn pk i a n s l pc = .iface t V)
    (hm1 : ∀ (w : World), (method 273 t V "loop.example/landmarch/impl.hasNumber").run Tryz.prog w = .ok (141, .agg #[.int .i64 pn]) w)
    (hm2 : ∀ (w : World), (method 273 t V "loop.example/landmarch/impl.words").run Tryz.prog w = .ok (ff, V) w)
    (hcf : ∀ (a : Array Value) (w : World), (callFunc ff a).run Tryz.prog w = .ok (.enter ff a) w) (w : World) (ht : Lib.TabBelow Tryz.prog w.heap.size w "internal/strconv.uint64pow10" .u64 Lib.pow10Tab)
    (hwords : ∀ w' : World, Below w.heap.size w w' → Calls Tryz.prog ff #[V] w' fun e w'' => e = .returned (.string (cargoText pk i a n s l pc)) ∧ Below w'.heap.size w' w'') :
    Calls Tryz.prog 36 #[.agg #[.int .i64 pn, .int .i64 pk, .int .i64 i, .int .i64 a, .int .i64 n, .int .i64 s, .int .i64 l, .int .i64 pc]] w fun e w' => e = .returned (.string (pclText pn pk i a n s l pc)) ∧ Below w.heap.size w w' := by
  have HT : Hid (Lib.TabBelow Tryz.prog w.heap.size w "internal/strconv.uint64pow10" .u64 Lib.pow10Tab) := ht
  clear ht
  have zc := cargo_size pk i a n s l pc
  have HP : Hid (pclText pn pk i a n s l pc = if inB pn 0 4999 = true ∧ (cargoText pk i a n s l pc).toList ≠ [] then (DD pn ++ SP) ++ cargoText pk i a n s l pc else ⟨#[]⟩) := rfl
  generalize cargoText pk i a n s l pc = C at *
  generalize pclText pn pk i a n s l pc = Q at *
  have B0 : Below w.heap.size w (w.alloc (.cells #[.int .i64 pn, .int .i64 pk, .int .i64 i, .int .i64 a, .int .i64 n, .int .i64 s, .int .i64 l, .int .i64 pc] 27)) := (Below.refl _ _).alloc (by simp) _
  cases h1 : inB pn 0 4999
  · go_enter Tryz.func36, Tryz.ntmps36
    go_wp2_with (first
      | (go_at_call 50; refine (cargoOf _ _ _ _ _ _ _ _ _).mono ?_; rintro e w1 ⟨rfl, hb1⟩; rw [hd])
      | (go_at_call 141; refine (number_impl _ _).mono ?_; rintro e w2 ⟨rfl, hb2⟩; rw [h1]))
    go_ret
    exact ⟨by rw [HP.out, h1]; simp, bthen (bthen B0 hb1) hb2⟩
  · have hpn : 0 ≤ pn ∧ pn ≤ 4999 := by simpa [inB] using h1
    cases h2 : C.toList.isEmpty
    · have zd : (DD pn).size ≤ 6 := DD_size pn (by omega)
      have zsp : SP.size = 1 := by decide +kernel
      have HC : Hid (Q = (DD pn ++ SP) ++ C) := by
        show Q = _
        rw [HP.out, h1, if_pos ⟨rfl, by simpa using h2⟩]
      have c1 : ∀ w : World, (Op.stringOp .add (DD pn) SP).run Tryz.prog w = .ok (.string (DD pn ++ SP)) w := cat _ _ (by omega) (by omega)
      have c2 : ∀ w : World, (Op.stringOp .add (DD pn ++ SP) C).run Tryz.prog w = .ok (.string ((DD pn ++ SP) ++ C)) w := cat _ _ (by rw [ByteArray.size_append]; omega) (by omega)
      go_enter Tryz.func36, Tryz.ntmps36
      go_wp2_with (first
        | (go_at_call 50; refine (cargoOf _ _ _ _ _ _ _ _ _).mono ?_; rintro e w1 ⟨rfl, hb1⟩; rw [hd])
        | (go_at_call 141; refine (number_impl _ _).mono ?_; rintro e w2 ⟨rfl, hb2⟩; rw [h1]))
      have B2 : Below w.heap.size w w2 := bthen (bthen B0 hb1) hb2
      refine (hwords _ B2).mono ?_
      rintro e w3 ⟨rfl, hb3⟩
      have B3 := bthen (bthen hb1 hb2) hb3
      obtain ⟨hc3, hf3⟩ := bcell B3
      have BW3 : Below w.heap.size w w3 := bthen B2 hb3
      go_wp2_with fail
      refine (itoa_tab _ (by omega) (by omega) _ (HT.out _ BW3)).mono ?_
      rintro e w4 ⟨rfl, hb4⟩
      have BW4 : Below w.heap.size w w4 := bthen BW3 hb4
      go_wp2_with fail
      refine (hwords _ BW4).mono ?_
      rintro e w5 ⟨rfl, hb5⟩
      go_wp2
      go_ret
      exact ⟨by rw [HC.out]; rfl, bthen BW4 hb5⟩
    · have HC : Hid (Q = ⟨#[]⟩) := by
        show Q = _
        rw [HP.out, if_neg (fun h => h.2 (by simpa using h2))]
      go_enter Tryz.func36, Tryz.ntmps36
      go_wp2_with (first
        | (go_at_call 50; refine (cargoOf _ _ _ _ _ _ _ _ _).mono ?_; rintro e w1 ⟨rfl, hb1⟩; rw [hd])
        | (go_at_call 141; refine (number_impl _ _).mono ?_; rintro e w2 ⟨rfl, hb2⟩; rw [h1]))
      have B2 : Below w.heap.size w w2 := bthen (bthen B0 hb1) hb2
      refine (hwords _ B2).mono ?_
      rintro e w3 ⟨rfl, hb3⟩
      go_wp2
      go_ret
      exact ⟨by rw [HC.out]; rfl, bthen B2 hb3⟩
theorem ptext_none (pn pk i a n s l pc : Int) (hd : cargoV pn pk i a n s l pc = .nilIface) (w : World) :
    Calls Tryz.prog 36 #[.agg #[.int .i64 pn, .int .i64 pk, .int .i64 i, .int .i64 a, .int .i64 n, .int .i64 s, .int .i64 l, .int .i64 pc]] w fun e w' => e = .returned (.string ⟨#[]⟩) ∧ Below w.heap.size w w' := by
  go_enter Tryz.func36, Tryz.ntmps36
  go_wp2_with (go_at_call 50; refine (cargoOf _ _ _ _ _ _ _ _ _).mono ?_; rintro e w1 ⟨rfl, hb1⟩; rw [hd])
  go_ret
  exact ⟨rfl, by repeat (first | exact Below.refl _ _ | refine bthen ?_ (by assumption) | apply Below.drew | apply bdrewN | refine Below.alloc ?_ (by simp <;> omega) _)⟩
theorem pclText_impl (pn pk i a n s l pc : Int) (w : World) (ht : Lib.TabBelow Tryz.prog w.heap.size w "internal/strconv.uint64pow10" .u64 Lib.pow10Tab) :
    Calls Tryz.prog 36 #[.agg #[.int .i64 pn, .int .i64 pk, .int .i64 i, .int .i64 a, .int .i64 n, .int .i64 s, .int .i64 l, .int .i64 pc]] w fun e w' => e = .returned (.string (pclText pn pk i a n s l pc)) ∧ Below w.heap.size w w' := by
  by_cases h1 : pk = 1 ∧ pc = 0
  · have hc : cargoText pk i a n s l pc = textOf i a n s l := by simp [cargoText, h1]
    refine ptext_gen pn pk i a n s l pc 107 (.agg #[.int .i64 pn, .int .i64 i, .int .i64 a, .int .i64 n, .int .i64 s, .int .i64 l]) 143 (by simp [cargoV, h1]) (fun _ => by kernel_rfl) (fun _ => by kernel_rfl) (fun _ _ => by kernel_rfl) w ht (fun w' hb => ?_)
    rw [hc]
    exact words_walker pn i a n s l w' (fun w'' h'' => ht w'' (bthen hb h''))
  · by_cases h2 : pk = 2 ∧ noWalker i a n s l = true
    · have hc : cargoText pk i a n s l pc = coinsText pc := by simp [cargoText, h2]
      refine ptext_gen pn pk i a n s l pc 109 (.agg #[.int .i64 pn, .int .i64 pc]) 145 (by simp [cargoV, h2]) (fun _ => by kernel_rfl) (fun _ => by kernel_rfl) (fun _ _ => by kernel_rfl) w ht (fun w' _ => ?_)
      rw [hc]
      exact words_coins pn pc w'
    · refine (ptext_none pn pk i a n s l pc (by simp [cargoV, h1, h2]) w).mono ?_
      rintro e w' ⟨rfl, hb⟩
      refine ⟨?_, hb⟩
      have hc : cargoText pk i a n s l pc = ⟨#[]⟩ := by simp [cargoText, h1, h2]
      have he : (⟨#[]⟩ : ByteArray).toList = [] := by decide +kernel
      simp [pclText, hc, he]
end Go.Proofs.YtgioecjnghllhaaGreatDoor
namespace Go.Proofs.YtgioecjnghllhaaGreatDoor
open Go.RowKit
set_option linter.unusedVariables false
set_option maxHeartbeats 2000000 in
theorem pclText_spec (pn pk i a n s l pc : Int) (w : World) :
    Calls Tryz.prog 22 #[.agg #[.int .i64 pn, .int .i64 pk, .int .i64 i, .int .i64 a, .int .i64 n, .int .i64 s, .int .i64 l, .int .i64 pc]] w fun e w' => e = .returned (.string (pclText pn pk i a n s l pc)) ∧ Below w.heap.size w w' := by
  have he : (⟨#[]⟩ : ByteArray).toList = [] := by decide +kernel
  cases h1 : inB pn 0 4999
  · have HQ : Hid (pclText pn pk i a n s l pc = ⟨#[]⟩) := by show pclText pn pk i a n s l pc = _; simp [pclText, h1]
    clear he
    go_enter Tryz.func22, Tryz.ntmps22
    go_wp2_with (first
      | (go_at_call 24; refine (in_spec _ _ _ _).mono ?_; rintro e w' ⟨rfl, rfl⟩)
      | (go_at_call 40; refine (text_spec _ _ _ _ _ _).mono ?_; rintro e w' ⟨rfl, hb⟩; (first | (replace B0 := bthen B0 hb) | (have B0 := hb)); obtain ⟨hc, hf⟩ := bcell B0)
      | (go_at_call 26; refine (digits_D _ (by omega) (by omega) _).mono ?_; rintro e w' ⟨rfl, hb⟩; (first | (replace B0 := bthen B0 hb) | (have B0 := hb)); obtain ⟨hc, hf⟩ := bcell B0))
    go_ret
    exact ⟨by rw [HQ.out]; rfl, by repeat (first | exact Below.refl _ _ | refine bthen ?_ (by assumption) | apply Below.drew | apply bdrewN | refine Below.alloc ?_ (by simp <;> omega) _)⟩
  have hpn : 0 ≤ pn ∧ pn ≤ 4999 := by simpa [inB] using h1
  have zd : (DD pn).size ≤ 6 := DD_size pn (by omega)
  have zsp : SP.size = 1 := by decide +kernel
  by_cases hk1 : pk = 1
  · subst hk1
    cases h2 : (pc == 0)
    · have HQ : Hid (pclText pn 1 i a n s l pc = ⟨#[]⟩) := by
        show pclText pn 1 i a n s l pc = _
        have : pc ≠ 0 := by simpa using h2
        simp [pclText, cargoText, this, he]
      clear he
      go_enter Tryz.func22, Tryz.ntmps22
      go_wp2_with (first
      | (go_at_call 24; refine (in_spec _ _ _ _).mono ?_; rintro e w' ⟨rfl, rfl⟩)
      | (go_at_call 40; refine (text_spec _ _ _ _ _ _).mono ?_; rintro e w' ⟨rfl, hb⟩; (first | (replace B0 := bthen B0 hb) | (have B0 := hb)); obtain ⟨hc, hf⟩ := bcell B0)
      | (go_at_call 26; refine (digits_D _ (by omega) (by omega) _).mono ?_; rintro e w' ⟨rfl, hb⟩; (first | (replace B0 := bthen B0 hb) | (have B0 := hb)); obtain ⟨hc, hf⟩ := bcell B0))
      go_ret
      exact ⟨by rw [HQ.out]; rfl, by repeat (first | exact Below.refl _ _ | refine bthen ?_ (by assumption) | apply Below.drew | apply bdrewN | refine Below.alloc ?_ (by simp <;> omega) _)⟩
    · have hpc : pc = 0 := by simpa using h2
      subst hpc
      clear h2
      have zt := text_size i a n s l
      cases h3 : (textOf i a n s l).toList.isEmpty
      · have HQ : Hid (pclText pn 1 i a n s l 0 = (DD pn ++ SP) ++ textOf i a n s l) := by
          show pclText pn 1 i a n s l 0 = _
          have h3' : (textOf i a n s l).toList ≠ [] := by simpa using h3
          simp [pclText, cargoText, h1, h3']
        have c1 : ∀ w : World, (Op.stringOp .add (DD pn) SP).run Tryz.prog w = .ok (.string (DD pn ++ SP)) w := cat _ _ (by omega) (by omega)
        have c2 : ∀ w : World, (Op.stringOp .add (DD pn ++ SP) (textOf i a n s l)).run Tryz.prog w = .ok (.string ((DD pn ++ SP) ++ textOf i a n s l)) w := cat _ _ (by rw [ByteArray.size_append]; omega) (by omega)
        clear he
        go_enter Tryz.func22, Tryz.ntmps22
        go_wp2_with (first
      | (go_at_call 24; refine (in_spec _ _ _ _).mono ?_; rintro e w' ⟨rfl, rfl⟩)
      | (go_at_call 40; refine (text_spec _ _ _ _ _ _).mono ?_; rintro e w' ⟨rfl, hb⟩; (first | (replace B0 := bthen B0 hb) | (have B0 := hb)); obtain ⟨hc, hf⟩ := bcell B0)
      | (go_at_call 26; refine (digits_D _ (by omega) (by omega) _).mono ?_; rintro e w' ⟨rfl, hb⟩; (first | (replace B0 := bthen B0 hb) | (have B0 := hb)); obtain ⟨hc, hf⟩ := bcell B0))
        go_region_held3 (fun w' => (∀ b o, b < w.heap.size + 1 → w'.cell? ⟨b, o, none⟩ = (w.alloc (.cells #[.int .i64 pn, .int .i64 1, .int .i64 i, .int .i64 a, .int .i64 n, .int .i64 s, .int .i64 l, .int .i64 0] 27)).cell? ⟨b, o, none⟩) ∧ w.heap.size + 1 ≤ w'.heap.size) (first | (refine keepS ?_ (by assumption); assumption) | exact ⟨fun _ _ _ => rfl, by simp⟩ | exact keepS ⟨fun _ _ _ => rfl, by simp⟩ B0.drew | exact keepS ⟨fun _ _ _ => rfl, by simp⟩ B0 | assumption) (first | (go_at_call 26; refine (digits_D _ (by omega) (by omega) _).mono ?_; rintro e w' ⟨rfl, hb⟩) | (go_at_call 40; refine (text_spec _ _ _ _ _ _).mono ?_; rintro e w' ⟨rfl, hb⟩))
        go_wp2
        go_ret
        exact ⟨by rw [HQ.out]; rfl, by repeat (first | exact Below.refl _ _ | refine bthen ?_ (by assumption) | apply Below.drew | apply bdrewN | refine Below.alloc ?_ (by simp <;> omega) _)⟩
      · have HQ : Hid (pclText pn 1 i a n s l 0 = ⟨#[]⟩) := by
          show pclText pn 1 i a n s l 0 = _
          have h3' : (textOf i a n s l).toList = [] := by simpa using h3
          simp [pclText, cargoText, h3']
        clear he
        go_enter Tryz.func22, Tryz.ntmps22
        go_wp2_with (first
      | (go_at_call 24; refine (in_spec _ _ _ _).mono ?_; rintro e w' ⟨rfl, rfl⟩)
      | (go_at_call 40; refine (text_spec _ _ _ _ _ _).mono ?_; rintro e w' ⟨rfl, hb⟩; (first | (replace B0 := bthen B0 hb) | (have B0 := hb)); obtain ⟨hc, hf⟩ := bcell B0)
      | (go_at_call 26; refine (digits_D _ (by omega) (by omega) _).mono ?_; rintro e w' ⟨rfl, hb⟩; (first | (replace B0 := bthen B0 hb) | (have B0 := hb)); obtain ⟨hc, hf⟩ := bcell B0))
        go_ret
        exact ⟨by rw [HQ.out]; rfl, by repeat (first | exact Below.refl _ _ | refine bthen ?_ (by assumption) | apply Below.drew | apply bdrewN | refine Below.alloc ?_ (by simp <;> omega) _)⟩
  · by_cases h2 : pk = 2 ∧ noWalker i a n s l = true ∧ inB pc 1 9 = true
    · obtain ⟨rfl, hw, h3⟩ := h2
      have hz : i = 0 ∧ a = 0 ∧ n = 0 ∧ s = 0 ∧ l = 0 := by simpa [noWalker] using hw
      obtain ⟨rfl, rfl, rfl, rfl, rfl⟩ := hz
      have hpc : 1 ≤ pc ∧ pc ≤ 9 := by simpa [inB] using h3
      have zc : (DD pc).size ≤ 6 := DD_size pc (by omega)
      have zl : (⟨#[32, 99, 111, 105, 110, 115, 32]⟩ : ByteArray).size = 7 := by decide +kernel
      have HQ : Hid (pclText pn 2 0 0 0 0 0 pc = (DD pn ++ (⟨#[32, 99, 111, 105, 110, 115, 32]⟩ : ByteArray)) ++ DD pc) := by
        show pclText pn 2 0 0 0 0 0 pc = _
        have hc : cargoText 2 0 0 0 0 0 pc = (⟨#[99, 111, 105, 110, 115, 32]⟩ : ByteArray) ++ DD pc := by simp [cargoText, noWalker, coinsText, h3]
        have hne : ((⟨#[99, 111, 105, 110, 115, 32]⟩ : ByteArray) ++ DD pc).toList ≠ [] := by
          intro e
          have := congrArg List.length e
          have hs : ((⟨#[99, 111, 105, 110, 115, 32]⟩ : ByteArray) ++ DD pc).size = 6 + (DD pc).size := by rw [ByteArray.size_append]; rfl
          rw [ByteArray.toList_eq] at this
          simp only [List.length_nil, Array.length_toList] at this
          have : ((⟨#[99, 111, 105, 110, 115, 32]⟩ : ByteArray) ++ DD pc).size = 0 := this
          omega
        have e7 : (⟨#[32, 99, 111, 105, 110, 115, 32]⟩ : ByteArray) = SP ++ (⟨#[99, 111, 105, 110, 115, 32]⟩ : ByteArray) := by decide +kernel
        unfold pclText
        rw [hc, if_pos ⟨h1, hne⟩, e7]
        simp [ByteArray.append_assoc]
      have c1 : ∀ w : World, (Op.stringOp .add (DD pn) (⟨#[32, 99, 111, 105, 110, 115, 32]⟩ : ByteArray)).run Tryz.prog w = .ok (.string (DD pn ++ (⟨#[32, 99, 111, 105, 110, 115, 32]⟩ : ByteArray))) w := cat _ _ (by omega) (by omega)
      have c2 : ∀ w : World, (Op.stringOp .add (DD pn ++ (⟨#[32, 99, 111, 105, 110, 115, 32]⟩ : ByteArray)) (DD pc)).run Tryz.prog w = .ok (.string ((DD pn ++ (⟨#[32, 99, 111, 105, 110, 115, 32]⟩ : ByteArray)) ++ DD pc)) w := cat _ _ (by rw [ByteArray.size_append]; omega) (by omega)
      clear he hw
      go_enter Tryz.func22, Tryz.ntmps22
      go_wp2_with (first
      | (go_at_call 24; refine (in_spec _ _ _ _).mono ?_; rintro e w' ⟨rfl, rfl⟩)
      | (go_at_call 40; refine (text_spec _ _ _ _ _ _).mono ?_; rintro e w' ⟨rfl, hb⟩; (first | (replace B0 := bthen B0 hb) | (have B0 := hb)); obtain ⟨hc, hf⟩ := bcell B0)
      | (go_at_call 26; refine (digits_D _ (by omega) (by omega) _).mono ?_; rintro e w' ⟨rfl, hb⟩; (first | (replace B0 := bthen B0 hb) | (have B0 := hb)); obtain ⟨hc, hf⟩ := bcell B0))
      go_region_held3 (fun w' => (∀ b o, b < w.heap.size + 1 → w'.cell? ⟨b, o, none⟩ = (w.alloc (.cells #[.int .i64 pn, .int .i64 2, .int .i64 0, .int .i64 0, .int .i64 0, .int .i64 0, .int .i64 0, .int .i64 pc] 27)).cell? ⟨b, o, none⟩) ∧ w.heap.size + 1 ≤ w'.heap.size) (first | (refine keepS ?_ (by assumption); assumption) | exact ⟨fun _ _ _ => rfl, by simp⟩ | exact keepS ⟨fun _ _ _ => rfl, by simp⟩ B0.drew | exact keepS ⟨fun _ _ _ => rfl, by simp⟩ B0 | assumption) (first | (go_at_call 26; refine (digits_D _ (by omega) (by omega) _).mono ?_; rintro e w' ⟨rfl, hb⟩))
      go_wp2
      go_ret
      exact ⟨by rw [HQ.out]; rfl, by repeat (first | exact Below.refl _ _ | refine bthen ?_ (by assumption) | apply Below.drew | apply bdrewN | refine Below.alloc ?_ (by simp <;> omega) _)⟩
    · have HQ : Hid (pclText pn pk i a n s l pc = ⟨#[]⟩) := by
        show pclText pn pk i a n s l pc = _
        by_cases g : pk = 2 ∧ noWalker i a n s l = true
        · have hf : inB pc 1 9 = false := by
            cases e : inB pc 1 9
            · rfl
            · exact absurd ⟨g.1, g.2, e⟩ h2
          simp [pclText, cargoText, g, coinsText, hf, he]
        · simp [pclText, cargoText, hk1, g, he]
      have hk1' : (pk == 1) = false := by simpa using hk1
      have H2 : Hid (¬ (pk = 2 ∧ noWalker i a n s l = true ∧ inB pc 1 9 = true)) := h2
      clear he h2 hk1
      go_enter Tryz.func22, Tryz.ntmps22
      go_wp2_with (first
      | (go_at_call 24; refine (in_spec _ _ _ _).mono ?_; rintro e w' ⟨rfl, rfl⟩)
      | (go_at_call 40; refine (text_spec _ _ _ _ _ _).mono ?_; rintro e w' ⟨rfl, hb⟩; (first | (replace B0 := bthen B0 hb) | (have B0 := hb)); obtain ⟨hc, hf⟩ := bcell B0)
      | (go_at_call 26; refine (digits_D _ (by omega) (by omega) _).mono ?_; rintro e w' ⟨rfl, hb⟩; (first | (replace B0 := bthen B0 hb) | (have B0 := hb)); obtain ⟨hc, hf⟩ := bcell B0))
      all_goals first
        | (go_ret; exact ⟨by rw [HQ.out]; rfl, by repeat (first | exact Below.refl _ _ | refine bthen ?_ (by assumption) | apply Below.drew | apply bdrewN | refine Below.alloc ?_ (by simp <;> omega) _)⟩)
        | (exfalso; exact H2.out (by simp_all [noWalker]))
end Go.Proofs.YtgioecjnghllhaaGreatDoor
namespace Go.Proofs.YtgioecjnghllhaaGreatDoor
open Go.RowKit
set_option linter.unusedVariables false
end Go.Proofs.YtgioecjnghllhaaGreatDoor
namespace Go.Proofs.YtgioecjnghllhaaGreatDoor
open Go.RowKit
set_option linter.unusedVariables false
/-- The words of a walker's text. -/
def tw (i a n s l : Int) : List (List UInt8) :=
  [[119, 97, 108, 107, 101, 114], Lib.decDigits i.toNat, [97, 116], Lib.decDigits a.toNat, [99, 111, 105, 110, 115], Lib.decDigits n.toNat, [111, 114, 100, 101, 114], Lib.decDigits s.toNat, [99, 111, 100, 101], Lib.decDigits l.toNat]
theorem text_list (i a n s l : Int) : (X9 i a n s l).data.toList = [119, 97, 108, 107, 101, 114] ++ 32 :: (Lib.decDigits i.toNat ++ 32 :: ([97, 116] ++ 32 :: (Lib.decDigits a.toNat ++ 32 :: ([99, 111, 105, 110, 115] ++ 32 :: (Lib.decDigits n.toNat ++ 32 :: ([111, 114, 100, 101, 114] ++ 32 :: (Lib.decDigits s.toNat ++ 32 :: ([99, 111, 100, 101] ++ 32 :: Lib.decDigits l.toNat)))))))) := by
  simp [X9, X8, X7, X6, X5, X4, X3, X2, X1, DD, ByteArray.data_append]
theorem text_words {i a n s l : Int} (hb : boundsB i n s l = true) (ha : inB a 0 31 = true) : words (X9 i a n s l).data.toList = tw i a n s l ∧ (X9 i a n s l).size ≤ 100 := by
  simp only [boundsB, Bool.and_eq_true, inB_true] at hb
  have ha' := inB_true.1 ha
  obtain ⟨⟨i1, i2⟩, ⟨n1, n2⟩, ⟨s1, s2⟩, l1, l2⟩ := hb
  obtain ⟨gi, zi, _, _⟩ := good_digits i (by omega) (by omega)
  obtain ⟨ga, za, _, _⟩ := good_digits a (by omega) (by omega)
  obtain ⟨gn, zn, _, _⟩ := good_digits n (by omega) (by omega)
  obtain ⟨gs, zs, _, _⟩ := good_digits s (by omega) (by omega)
  obtain ⟨gl, zl, _, _⟩ := good_digits l (by omega) (by omega)
  constructor
  · rw [text_list, words_app _ _ (by decide), words_app _ _ gi, words_app _ _ (by decide), words_app _ _ ga, words_app _ _ (by decide), words_app _ _ gn, words_app _ _ (by decide), words_app _ _ gs, words_app _ _ (by decide), words_last _ gl]
    rfl
  · have : (X9 i a n s l).size = (X9 i a n s l).data.toList.length := (Array.length_toList).symm
    rw [this, text_list]
    simp only [List.length_append, List.length_cons, List.length_nil]
    omega
end Go.Proofs.YtgioecjnghllhaaGreatDoor
namespace Go.Proofs.YtgioecjnghllhaaGreatDoor
open Go.RowKit
set_option linter.unusedVariables false
end Go.Proofs.YtgioecjnghllhaaGreatDoor
namespace Go.Proofs.YtgioecjnghllhaaGreatDoor
open Go.RowKit
set_option linter.unusedVariables false
set_option maxRecDepth 20000
end Go.Proofs.YtgioecjnghllhaaGreatDoor
namespace Go.Proofs.YtgioecjnghllhaaGreatDoor
open Go.RowKit
set_option linter.unusedVariables false
set_option maxRecDepth 20000
def uText (s : ByteArray) : ByteArray := textOf (uF s 1) (uF s 3) (uF s 5) (uF s 7) (uF s 9)
theorem frozen_alloc {w : World} {b o : Nat} (h : b < w.heap.size) {ob : Obj} : (w.alloc ob).frozen? ⟨b, o, none⟩ = w.frozen? ⟨b, o, none⟩ := ((Below.refl _ _).alloc (Nat.le_refl _) _ : Below w.heap.size w (w.alloc ob)).frozen (p := ⟨b, o, none⟩) h
/-- Five cells of a block, written anew. -/
def put5 (W : World) (b : Nat) (x0 x1 x2 x3 x4 : Value) : World :=
  ((((W.setCell ⟨b, 0, none⟩ x0).setCell ⟨b, 1, none⟩ x1).setCell ⟨b, 2, none⟩ x2).setCell ⟨b, 3, none⟩ x3).setCell ⟨b, 4, none⟩ x4
theorem put5_cells {W : World} {b : Nat} {y0 y1 y2 y3 y4 : Value} (c0 : W.cell? ⟨b, 0, none⟩ = some y0) (c1 : W.cell? ⟨b, 1, none⟩ = some y1) (c2 : W.cell? ⟨b, 2, none⟩ = some y2) (c3 : W.cell? ⟨b, 3, none⟩ = some y3) (c4 : W.cell? ⟨b, 4, none⟩ = some y4) (x0 x1 x2 x3 x4 : Value) :
    (put5 W b x0 x1 x2 x3 x4).cell? ⟨b, 0, none⟩ = some x0 ∧ (put5 W b x0 x1 x2 x3 x4).cell? ⟨b, 1, none⟩ = some x1 ∧ (put5 W b x0 x1 x2 x3 x4).cell? ⟨b, 2, none⟩ = some x2 ∧ (put5 W b x0 x1 x2 x3 x4).cell? ⟨b, 3, none⟩ = some x3 ∧ (put5 W b x0 x1 x2 x3 x4).cell? ⟨b, 4, none⟩ = some x4 := by
  have h : ∀ j, j < 5 → (W.cell? ⟨b, 0 + j, none⟩).isSome = true := by
    intro j hj
    match j, hj with
    | 0, _ => simp [c0]
    | 1, _ => simp [c1]
    | 2, _ => simp [c2]
    | 3, _ => simp [c3]
    | 4, _ => simp [c4]
  have e : put5 W b x0 x1 x2 x3 x4 = W.setCells b 0 [x0, x1, x2, x3, x4] := rfl
  rw [e]
  have g := World.cell?_setCells_in b [x0, x1, x2, x3, x4] 0 W h
  exact ⟨g 0 (by simp), g 1 (by simp), g 2 (by simp), g 3 (by simp), g 4 (by simp)⟩
theorem put5_size (W : World) (b : Nat) (x0 x1 x2 x3 x4 : Value) : (put5 W b x0 x1 x2 x3 x4).heap.size = W.heap.size := by simp [put5, World.setCell]
theorem put5_below {B : Nat} {a W : World} (h : Below B a W) {b : Nat} (hb : B ≤ b) (x0 x1 x2 x3 x4 : Value) : Below B a (put5 W b x0 x1 x2 x3 x4) :=
  ((((h.setCell (p := ⟨b, 0, none⟩) hb _).setCell (p := ⟨b, 1, none⟩) hb _).setCell (p := ⟨b, 2, none⟩) hb _).setCell (p := ⟨b, 3, none⟩) hb _).setCell (p := ⟨b, 4, none⟩) hb _
/-- The walk behind the words, whatever they are: each of the five looks hands back its number. -/
def Looks (s : ByteArray) (v : Value) (w1 : World) : Prop := ∀ k : Nat, k ≤ 100 → Calls Tryz.prog 12 #[v, .int .i64 k] w1 fun e w' => e = .returned (.int .i64 (uF s k)) ∧ w' = w1
theorem wordsLook (s : ByteArray) (w : World) : Calls Tryz.prog 7 #[.string s] w fun e w' => ∃ v, e = .returned v ∧ Looks s v w' ∧ Below w.heap.size w w' := by
  by_cases hs : s.size ≤ 100
  · refine (words_spec s (by omega) w).mono ?_
    rintro e w' ⟨v, rfl, ho, hb⟩
    refine ⟨v, rfl, fun k hk => ?_, hb⟩
    have := at_any s (by omega) _ k hk v w' ho
    unfold uF
    rw [if_pos hs]
    exact this
  · refine (words_long s (by omega) w).mono ?_
    rintro e w' ⟨rfl, hb⟩
    refine ⟨_, rfl, fun k hk => ?_, hb⟩
    unfold uF
    rw [if_neg hs]
    exact at_none _ 0 0 k (by omega) hk w'
set_option maxHeartbeats 1000000 in
theorem read_spec (s : ByteArray) (w : World) :
    Calls Tryz.prog 21 #[.string s] w fun e w' => ((¬ s.size = 0 ∧ uText s = s ∧ e = .returned (.tuple #[.agg #[.int .i64 (uF s 1), .int .i64 (uF s 3), .int .i64 (uF s 5), .int .i64 (uF s 7), .int .i64 (uF s 9)], .bool true])) ∨ (¬ (¬ s.size = 0 ∧ uText s = s) ∧ e = .returned (.tuple #[.agg #[.int .i64 0, .int .i64 0, .int .i64 0, .int .i64 0, .int .i64 0], .bool false]))) ∧ Below w.heap.size w w' := by
  go_enter Tryz.func21, Tryz.ntmps21
  go_wp2_with fail
  refine (wordsLook s _).mono ?_
  rintro e w1 ⟨v, rfl, hL, hb1⟩
  obtain ⟨hc1, hf1⟩ := bcell hb1
  have hz1 : w.heap.size < w1.heap.size := by have := hb1.size; simp at this; omega
  have L1 : Hid (Calls Tryz.prog 12 #[v, .int .i64 1] w1 fun e w' => e = .returned (.int .i64 (uF s 1)) ∧ w' = w1) := hL 1 (by omega)
  have L3 : Hid (Calls Tryz.prog 12 #[v, .int .i64 3] w1 fun e w' => e = .returned (.int .i64 (uF s 3)) ∧ w' = w1) := hL 3 (by omega)
  have L5 : Hid (Calls Tryz.prog 12 #[v, .int .i64 5] w1 fun e w' => e = .returned (.int .i64 (uF s 5)) ∧ w' = w1) := hL 5 (by omega)
  have L7 : Hid (Calls Tryz.prog 12 #[v, .int .i64 7] w1 fun e w' => e = .returned (.int .i64 (uF s 7)) ∧ w' = w1) := hL 7 (by omega)
  have L9 : Hid (Calls Tryz.prog 12 #[v, .int .i64 9] w1 fun e w' => e = .returned (.int .i64 (uF s 9)) ∧ w' = w1) := hL 9 (by omega)
  have c0 : w1.cell? ⟨w.heap.size, 0, none⟩ = some (.int .i64 0) := (hc1 _ 0 (by simp)).trans (by simp)
  have c1 : w1.cell? ⟨w.heap.size, 1, none⟩ = some (.int .i64 0) := (hc1 _ 1 (by simp)).trans (by simp)
  have c2 : w1.cell? ⟨w.heap.size, 2, none⟩ = some (.int .i64 0) := (hc1 _ 2 (by simp)).trans (by simp)
  have c3 : w1.cell? ⟨w.heap.size, 3, none⟩ = some (.int .i64 0) := (hc1 _ 3 (by simp)).trans (by simp)
  have c4 : w1.cell? ⟨w.heap.size, 4, none⟩ = some (.int .i64 0) := (hc1 _ 4 (by simp)).trans (by simp)
  have f0 : w1.frozen? ⟨w.heap.size, 0, none⟩ = false := (hf1 _ 0 (by simp)).trans (by simp)
  have f1 : w1.frozen? ⟨w.heap.size, 1, none⟩ = false := (hf1 _ 1 (by simp)).trans (by simp)
  have f2 : w1.frozen? ⟨w.heap.size, 2, none⟩ = false := (hf1 _ 2 (by simp)).trans (by simp)
  have f3 : w1.frozen? ⟨w.heap.size, 3, none⟩ = false := (hf1 _ 3 (by simp)).trans (by simp)
  have f4 : w1.frozen? ⟨w.heap.size, 4, none⟩ = false := (hf1 _ 4 (by simp)).trans (by simp)
  clear hL hc1 hf1
  go_wp2_with fail
  refine (L1.out).mono ?_
  rintro e w' ⟨rfl, hw'⟩
  subst hw'
  go_wp2_with fail
  refine (L3.out).mono ?_
  rintro e w' ⟨rfl, hw'⟩
  subst hw'
  go_wp2_with fail
  refine (L5.out).mono ?_
  rintro e w' ⟨rfl, hw'⟩
  subst hw'
  go_wp2_with fail
  refine (L7.out).mono ?_
  rintro e w' ⟨rfl, hw'⟩
  subst hw'
  go_wp2_with fail
  refine (L9.out).mono ?_
  rintro e w' ⟨rfl, hw'⟩
  subst hw'
  clear L1 L3 L5 L7 L9
  go_wp2_with fail
  · obtain ⟨q0, q1, q2, q3, q4⟩ := put5_cells c0 c1 c2 c3 c4 (.int .i64 0) (.int .i64 0) (.int .i64 0) (.int .i64 0) (.int .i64 0)
    have e0 : ((((((w'.setCell ⟨w.heap.size, 0, none⟩ (.int .i64 0)).setCell ⟨w.heap.size, 1, none⟩ (.int .i64 0)).setCell ⟨w.heap.size, 2, none⟩ (.int .i64 0)).setCell ⟨w.heap.size, 3, none⟩ (.int .i64 0)).setCell ⟨w.heap.size, 4, none⟩ (.int .i64 0)).alloc (.cells #[.int .i64 (uF ByteArray.empty 1), .int .i64 (uF ByteArray.empty 3), .int .i64 (uF ByteArray.empty 5), .int .i64 (uF ByteArray.empty 7), .int .i64 (uF ByteArray.empty 9)] 25)).cell? ⟨w.heap.size, 0, none⟩ = some (.int .i64 0) := (World.cell?_alloc_past _ _ _ (by have := put5_size w' w.heap.size (.int .i64 0) (.int .i64 0) (.int .i64 0) (.int .i64 0) (.int .i64 0); unfold put5 at this; omega)).trans q0
    have e1 : ((((((w'.setCell ⟨w.heap.size, 0, none⟩ (.int .i64 0)).setCell ⟨w.heap.size, 1, none⟩ (.int .i64 0)).setCell ⟨w.heap.size, 2, none⟩ (.int .i64 0)).setCell ⟨w.heap.size, 3, none⟩ (.int .i64 0)).setCell ⟨w.heap.size, 4, none⟩ (.int .i64 0)).alloc (.cells #[.int .i64 (uF ByteArray.empty 1), .int .i64 (uF ByteArray.empty 3), .int .i64 (uF ByteArray.empty 5), .int .i64 (uF ByteArray.empty 7), .int .i64 (uF ByteArray.empty 9)] 25)).cell? ⟨w.heap.size, 1, none⟩ = some (.int .i64 0) := (World.cell?_alloc_past _ _ _ (by have := put5_size w' w.heap.size (.int .i64 0) (.int .i64 0) (.int .i64 0) (.int .i64 0) (.int .i64 0); unfold put5 at this; omega)).trans q1
    have e2 : ((((((w'.setCell ⟨w.heap.size, 0, none⟩ (.int .i64 0)).setCell ⟨w.heap.size, 1, none⟩ (.int .i64 0)).setCell ⟨w.heap.size, 2, none⟩ (.int .i64 0)).setCell ⟨w.heap.size, 3, none⟩ (.int .i64 0)).setCell ⟨w.heap.size, 4, none⟩ (.int .i64 0)).alloc (.cells #[.int .i64 (uF ByteArray.empty 1), .int .i64 (uF ByteArray.empty 3), .int .i64 (uF ByteArray.empty 5), .int .i64 (uF ByteArray.empty 7), .int .i64 (uF ByteArray.empty 9)] 25)).cell? ⟨w.heap.size, 2, none⟩ = some (.int .i64 0) := (World.cell?_alloc_past _ _ _ (by have := put5_size w' w.heap.size (.int .i64 0) (.int .i64 0) (.int .i64 0) (.int .i64 0) (.int .i64 0); unfold put5 at this; omega)).trans q2
    have e3 : ((((((w'.setCell ⟨w.heap.size, 0, none⟩ (.int .i64 0)).setCell ⟨w.heap.size, 1, none⟩ (.int .i64 0)).setCell ⟨w.heap.size, 2, none⟩ (.int .i64 0)).setCell ⟨w.heap.size, 3, none⟩ (.int .i64 0)).setCell ⟨w.heap.size, 4, none⟩ (.int .i64 0)).alloc (.cells #[.int .i64 (uF ByteArray.empty 1), .int .i64 (uF ByteArray.empty 3), .int .i64 (uF ByteArray.empty 5), .int .i64 (uF ByteArray.empty 7), .int .i64 (uF ByteArray.empty 9)] 25)).cell? ⟨w.heap.size, 3, none⟩ = some (.int .i64 0) := (World.cell?_alloc_past _ _ _ (by have := put5_size w' w.heap.size (.int .i64 0) (.int .i64 0) (.int .i64 0) (.int .i64 0) (.int .i64 0); unfold put5 at this; omega)).trans q3
    have e4 : ((((((w'.setCell ⟨w.heap.size, 0, none⟩ (.int .i64 0)).setCell ⟨w.heap.size, 1, none⟩ (.int .i64 0)).setCell ⟨w.heap.size, 2, none⟩ (.int .i64 0)).setCell ⟨w.heap.size, 3, none⟩ (.int .i64 0)).setCell ⟨w.heap.size, 4, none⟩ (.int .i64 0)).alloc (.cells #[.int .i64 (uF ByteArray.empty 1), .int .i64 (uF ByteArray.empty 3), .int .i64 (uF ByteArray.empty 5), .int .i64 (uF ByteArray.empty 7), .int .i64 (uF ByteArray.empty 9)] 25)).cell? ⟨w.heap.size, 4, none⟩ = some (.int .i64 0) := (World.cell?_alloc_past _ _ _ (by have := put5_size w' w.heap.size (.int .i64 0) (.int .i64 0) (.int .i64 0) (.int .i64 0) (.int .i64 0); unfold put5 at this; omega)).trans q4
    refine bodyPost_ret (v := .tuple #[.agg #[.int .i64 0, .int .i64 0, .int .i64 0, .int .i64 0, .int .i64 0], .bool false]) ?_ rfl ⟨.inr ⟨fun h => h.1 (by simp_all), rfl⟩, ?_⟩
    · simp [results, Tryz.results21, go_sem, e0, e1, e2, e3, e4]
    · exact (put5_below (bthen ((Below.refl _ _).alloc (by simp) _) hb1) (Nat.le_refl _) (.int .i64 0) (.int .i64 0) (.int .i64 0) (.int .i64 0) (.int .i64 0)).alloc (by rw [put5_size]; omega) _
  · refine (text_spec _ _ _ _ _ _).mono ?_
    rintro e w2 ⟨rfl, hb2⟩
    obtain ⟨hc2, hf2⟩ := bcell hb2
    have d0 : w2.cell? ⟨w.heap.size, 0, none⟩ = some (.int .i64 0) := (hc2 _ 0 (by simp; omega)).trans (by rw [World.cell?_alloc_past _ _ _ hz1]; exact c0)
    have g0 : w2.frozen? ⟨w.heap.size, 0, none⟩ = false := (hf2 _ 0 (by simp; omega)).trans (by rw [frozen_alloc hz1]; exact f0)
    have u0 : w2.cell? ⟨w'.heap.size, 0, none⟩ = some (.int .i64 (uF s 1)) := (hc2 _ 0 (by simp)).trans (by simp)
    have d1 : w2.cell? ⟨w.heap.size, 1, none⟩ = some (.int .i64 0) := (hc2 _ 1 (by simp; omega)).trans (by rw [World.cell?_alloc_past _ _ _ hz1]; exact c1)
    have g1 : w2.frozen? ⟨w.heap.size, 1, none⟩ = false := (hf2 _ 1 (by simp; omega)).trans (by rw [frozen_alloc hz1]; exact f1)
    have u1 : w2.cell? ⟨w'.heap.size, 1, none⟩ = some (.int .i64 (uF s 3)) := (hc2 _ 1 (by simp)).trans (by simp)
    have d2 : w2.cell? ⟨w.heap.size, 2, none⟩ = some (.int .i64 0) := (hc2 _ 2 (by simp; omega)).trans (by rw [World.cell?_alloc_past _ _ _ hz1]; exact c2)
    have g2 : w2.frozen? ⟨w.heap.size, 2, none⟩ = false := (hf2 _ 2 (by simp; omega)).trans (by rw [frozen_alloc hz1]; exact f2)
    have u2 : w2.cell? ⟨w'.heap.size, 2, none⟩ = some (.int .i64 (uF s 5)) := (hc2 _ 2 (by simp)).trans (by simp)
    have d3 : w2.cell? ⟨w.heap.size, 3, none⟩ = some (.int .i64 0) := (hc2 _ 3 (by simp; omega)).trans (by rw [World.cell?_alloc_past _ _ _ hz1]; exact c3)
    have g3 : w2.frozen? ⟨w.heap.size, 3, none⟩ = false := (hf2 _ 3 (by simp; omega)).trans (by rw [frozen_alloc hz1]; exact f3)
    have u3 : w2.cell? ⟨w'.heap.size, 3, none⟩ = some (.int .i64 (uF s 7)) := (hc2 _ 3 (by simp)).trans (by simp)
    have d4 : w2.cell? ⟨w.heap.size, 4, none⟩ = some (.int .i64 0) := (hc2 _ 4 (by simp; omega)).trans (by rw [World.cell?_alloc_past _ _ _ hz1]; exact c4)
    have g4 : w2.frozen? ⟨w.heap.size, 4, none⟩ = false := (hf2 _ 4 (by simp; omega)).trans (by rw [frozen_alloc hz1]; exact f4)
    have u4 : w2.cell? ⟨w'.heap.size, 4, none⟩ = some (.int .i64 (uF s 9)) := (hc2 _ 4 (by simp)).trans (by simp)
    clear hc2 hf2 c0 c1 c2 c3 c4 f0 f1 f2 f3 f4
    have B2 : Below w.heap.size w w2 := bthen ((bthen ((Below.refl _ _).alloc (by simp) _) hb1).alloc (Nat.le_of_lt hz1) _) hb2
    by_cases he : uText s = s
    · have he' : ((textOf (uF s 1) (uF s 3) (uF s 5) (uF s 7) (uF s 9)).toList == s.toList) = true := by
        rw [show textOf (uF s 1) (uF s 3) (uF s 5) (uF s 7) (uF s 9) = s from he]; simp
      have hn0 : ¬ s.size = 0 := by
        intro e
        have : (↑s.size == (0 : Int)) = true := by simp [e]
        simp_all
      have HE : Hid (uText s = s) := he
      clear he
      go_wp2
      obtain ⟨q0, q1, q2, q3, q4⟩ := put5_cells d0 d1 d2 d3 d4 (.int .i64 (uF s 1)) (.int .i64 (uF s 3)) (.int .i64 (uF s 5)) (.int .i64 (uF s 7)) (.int .i64 (uF s 9))
      unfold put5 at q0 q1 q2 q3 q4
      refine bodyPost_ret (v := .tuple #[.agg #[.int .i64 (uF s 1), .int .i64 (uF s 3), .int .i64 (uF s 5), .int .i64 (uF s 7), .int .i64 (uF s 9)], .bool true]) ?_ rfl ⟨.inl ⟨hn0, HE.out, rfl⟩, ?_⟩
      · simp [results, Tryz.results21, go_sem, q0, q1, q2, q3, q4]
      · exact put5_below B2 (Nat.le_refl _) (.int .i64 (uF s 1)) (.int .i64 (uF s 3)) (.int .i64 (uF s 5)) (.int .i64 (uF s 7)) (.int .i64 (uF s 9))
    · have he' : ((textOf (uF s 1) (uF s 3) (uF s 5) (uF s 7) (uF s 9)).toList == s.toList) = false := by
        apply beq_eq_false_iff_ne.2
        intro e
        exact he (text_inj e)
      have HE : Hid (¬ uText s = s) := he
      clear he
      go_wp2
      obtain ⟨q0, q1, q2, q3, q4⟩ := put5_cells d0 d1 d2 d3 d4 (.int .i64 0) (.int .i64 0) (.int .i64 0) (.int .i64 0) (.int .i64 0)
      unfold put5 at q0 q1 q2 q3 q4
      refine bodyPost_ret (v := .tuple #[.agg #[.int .i64 0, .int .i64 0, .int .i64 0, .int .i64 0, .int .i64 0], .bool false]) ?_ rfl ⟨.inr ⟨fun h => HE.out h.2, rfl⟩, ?_⟩
      · simp [results, Tryz.results21, go_sem, q0, q1, q2, q3, q4]
      · exact put5_below B2 (Nat.le_refl _) (.int .i64 0) (.int .i64 0) (.int .i64 0) (.int .i64 0) (.int .i64 0)
end Go.Proofs.YtgioecjnghllhaaGreatDoor
namespace Go.Proofs.YtgioecjnghllhaaGreatDoor
open Go.RowKit
set_option linter.unusedVariables false
set_option maxRecDepth 20000
/-- The number that the program reads in the k-th word. -/
def vF (s : ByteArray) (k : Nat) : Int := atoiV ((words s.data.toList).getD k [])
def vText (s : ByteArray) : ByteArray := textOf (vF s 1) (vF s 3) (vF s 5) (vF s 7) (vF s 9)
def vOk (s : ByteArray) : Prop := s.size ≤ 100 ∧ (words s.data.toList).length = 10 ∧ vText s = s
/-- What Split leaves in memory: a row of strings whose bytes are the words. -/
theorem split_any (s : ByteArray) (hs : s.size ≤ 100) (w : World) (hE : Env w) :
    Calls Tryz.prog 42 #[.string s, .string ⟨#[32]⟩] w fun e w' => ∃ ps : List ByteArray, ps.map (fun x => x.data.toList) = words s.data.toList ∧
      e = .returned (.slice (some ⟨w.heap.size, 0, none⟩) ps.length ps.length) ∧ (∀ k x, ps[k]? = some x → w'.cell? ⟨w.heap.size, k, none⟩ = some (.string x)) ∧ Below w.heap.size w w' ∧ w'.heap.size = w.heap.size + 1 := by
  obtain ⟨⟨m, hm⟩, _⟩ := hE w (Below.refl _ _)
  have hlen : Lib.countB s ⟨#[32]⟩ + 1 = (Lib.splitB ⟨#[32]⟩ 0 (Lib.countB s ⟨#[32]⟩) s).length := by
    have h1 := pieces_len s
    have h2 : (words s.data.toList).length = s.data.toList.count 32 + 1 := wcount s.data.toList
    have h3 : Lib.countB s ⟨#[32]⟩ = s.data.toList.count 32 := by rw [← Lib.count_one]
    omega
  refine (Tryz.strings_Split s ⟨#[32]⟩ m w (by omega) hm (by decide)).mono ?_
  rintro e w' ⟨rfl, rfl⟩
  refine ⟨_, pieces s, by rw [hlen], ?_, (Below.refl _ _).alloc (by simp) _, by simp⟩
  intro k x hx
  simp [hx]
end Go.Proofs.YtgioecjnghllhaaGreatDoor
namespace Go.Proofs.YtgioecjnghllhaaGreatDoor
open Go.RowKit
set_option linter.unusedVariables false
set_option maxRecDepth 20000
theorem cell_lt5 {W : World} {b o : Nat} {u : Value} (c : W.cell? ⟨b, o, none⟩ = some u) : b < W.heap.size := World.block_lt_of_cell? W _ c
theorem FiveZ.below {W W' : World} {g : Nat} (h : FiveZ W g) (hb : Below W.heap.size W W') : FiveZ W' g :=
  ⟨Nat.lt_of_lt_of_le h.1 hb.size, fun j hj => ⟨(hb.cell (p := ⟨g, j, none⟩) h.1).trans (h.2 j hj).1, (hb.frozen (p := ⟨g, j, none⟩) h.1).trans (h.2 j hj).2⟩⟩
theorem ten {α : Type} : ∀ l : List α, l.length = 10 → ∃ a b c d e f g h i j, l = [a, b, c, d, e, f, g, h, i, j]
  | [a, b, c, d, e, f, g, h, i, j], _ => ⟨a, b, c, d, e, f, g, h, i, j, rfl⟩
theorem piece_size {s : ByteArray} (hs : s.size ≤ 100) {ps : List ByteArray} (h : ps.map (fun x => x.data.toList) = words s.data.toList) (x : ByteArray) (hx : x ∈ ps) : x.size ≤ 1000 := by
  have := word_len s.data.toList x.data.toList (by rw [← h]; exact List.mem_map.2 ⟨x, hx, rfl⟩)
  rw [size_len, size_len] at this
  omega
set_option maxHeartbeats 8000000 in
theorem read_impl (s : ByteArray) (w : World) (hE : Env w) :
    Calls Tryz.prog 62 #[.string s] w fun e w' => ((vOk s ∧ e = .returned (.tuple #[.agg #[.int .i64 (vF s 1), .int .i64 (vF s 3), .int .i64 (vF s 5), .int .i64 (vF s 7), .int .i64 (vF s 9)], .bool true])) ∨ (¬ vOk s ∧ e = .returned (.tuple #[.agg #[.int .i64 0, .int .i64 0, .int .i64 0, .int .i64 0, .int .i64 0], .bool false]))) ∧ Below w.heap.size w w' := by
  by_cases hs : s.size ≤ 100
  · have HE : Hid (Env (w.alloc (.cells #[.int .i64 0, .int .i64 0, .int .i64 0, .int .i64 0, .int .i64 0] 25))) := hE.on ((Below.refl _ _).alloc (by simp) _)
    clear hE
    have hs' : (s.size : Int) ≤ 100 := by omega
    go_enter Tryz.func62, Tryz.ntmps62
    go_wp2_with fail
    refine (split_any s hs _ HE.out).mono ?_
    rintro e w1 ⟨ps, hps, rfl, hcell, hb1, hz1'⟩
    have hz1 : w1.heap.size = w.heap.size + 2 := by simpa using hz1'
    have E1 : Hid (Env w1) := HE.out.on hb1
    have Bw1 : Below w.heap.size w w1 := bthen ((Below.refl _ _).alloc (by simp) _) hb1
    have c0 : w1.cell? ⟨w.heap.size, 0, none⟩ = some (.int .i64 0) := (hb1.cell (p := ⟨w.heap.size, 0, none⟩) (by simp)).trans (by simp)
    have f0 : w1.frozen? ⟨w.heap.size, 0, none⟩ = false := (hb1.frozen (p := ⟨w.heap.size, 0, none⟩) (by simp)).trans (by simp)
    have c1 : w1.cell? ⟨w.heap.size, 1, none⟩ = some (.int .i64 0) := (hb1.cell (p := ⟨w.heap.size, 1, none⟩) (by simp)).trans (by simp)
    have f1 : w1.frozen? ⟨w.heap.size, 1, none⟩ = false := (hb1.frozen (p := ⟨w.heap.size, 1, none⟩) (by simp)).trans (by simp)
    have c2 : w1.cell? ⟨w.heap.size, 2, none⟩ = some (.int .i64 0) := (hb1.cell (p := ⟨w.heap.size, 2, none⟩) (by simp)).trans (by simp)
    have f2 : w1.frozen? ⟨w.heap.size, 2, none⟩ = false := (hb1.frozen (p := ⟨w.heap.size, 2, none⟩) (by simp)).trans (by simp)
    have c3 : w1.cell? ⟨w.heap.size, 3, none⟩ = some (.int .i64 0) := (hb1.cell (p := ⟨w.heap.size, 3, none⟩) (by simp)).trans (by simp)
    have f3 : w1.frozen? ⟨w.heap.size, 3, none⟩ = false := (hb1.frozen (p := ⟨w.heap.size, 3, none⟩) (by simp)).trans (by simp)
    have c4 : w1.cell? ⟨w.heap.size, 4, none⟩ = some (.int .i64 0) := (hb1.cell (p := ⟨w.heap.size, 4, none⟩) (by simp)).trans (by simp)
    have f4 : w1.frozen? ⟨w.heap.size, 4, none⟩ = false := (hb1.frozen (p := ⟨w.heap.size, 4, none⟩) (by simp)).trans (by simp)
    have hn : ps.length = (words s.data.toList).length := by rw [← hps, List.length_map]
    have hZ := piece_size hs hps
    have hcell' : ∀ k x, ps[k]? = some x → w1.cell? ⟨w.heap.size + 1, k, none⟩ = some (.string x) := by simpa using hcell
    clear HE hb1 hcell hz1'
    by_cases h10 : ps.length = 10
    · have HW : Hid (True ∧ (words s.data.toList).length = 10) := ⟨trivial, by omega⟩
      obtain ⟨p0, p1, p2, p3, p4, p5, p6, p7, p8, p9, rfl⟩ := ten ps h10
      have HV : Hid (vF s 1 = atoiV p1.data.toList ∧ vF s 3 = atoiV p3.data.toList ∧ vF s 5 = atoiV p5.data.toList ∧ vF s 7 = atoiV p7.data.toList ∧ vF s 9 = atoiV p9.data.toList) := by
        unfold vF
        rw [← hps]
        exact ⟨rfl, rfl, rfl, rfl, rfl⟩
      have e1 := hcell' 1 p1 rfl
      have z1 := hZ p1 (by simp)
      have e3 := hcell' 3 p3 rfl
      have z3 := hZ p3 (by simp)
      have e5 := hcell' 5 p5 rfl
      have z5 := hZ p5 (by simp)
      have e7 := hcell' 7 p7 rfl
      have z7 := hZ p7 (by simp)
      have e9 := hcell' 9 p9 rfl
      have z9 := hZ p9 (by simp)
      clear hcell' hps hn h10 hZ
      go_wp2
      refine wp_region_held_drew (S := fun W => Below w1.heap.size w1 W) (by kernel_rfl) (Below.drew (Below.refl _ _)) ?_
      intro hHeld
      have BW0 := hHeld
      generalize w1.drew = W0 at *
      refine wpAnyH_take (i := 0) (v := .slice (some ⟨w.heap.size + 1, 0, none⟩) 10 10) rfl (by kernel_rfl) (by kernel_rfl) (by kernel_rfl) (fun _ _ _ h => h) (Or.inl ⟨by rfl, ?_⟩) (by assumption) ?_
      · intro wx hSw; go_simp
      try simp only [Act.put, List.setIfInBounds_toArray, List.set_cons_zero, List.set_cons_succ, List.getElem_toArray, List.getElem_cons_zero]
      refine wpAnyH_take (i := 1) (v := .pointer (some ⟨w.heap.size + 1, 1, none⟩)) rfl (by kernel_rfl) (by kernel_rfl) (by kernel_rfl) (fun _ _ _ h => h) (Or.inl ⟨by rfl, ?_⟩) (by assumption) ?_
      · intro wx hSw; go_simp
      try simp only [Act.put, List.setIfInBounds_toArray, List.set_cons_zero, List.set_cons_succ, List.getElem_toArray, List.getElem_cons_zero, List.getElem_cons_succ]
      refine wpAnyH_take (i := 2) (v := .string p1) rfl (by kernel_rfl) (by kernel_rfl) (by kernel_rfl) (fun _ _ _ h => h) (Or.inl ⟨by rfl, ?_⟩) (by assumption) ?_
      · intro wx hSw; have hx := (hSw.cell (p := ⟨w.heap.size + 1, 1, none⟩) (by show w.heap.size + 1 < w1.heap.size; omega)).trans e1; clear hSw; go_simp
      try simp only [Act.put, List.setIfInBounds_toArray, List.set_cons_zero, List.set_cons_succ, List.getElem_toArray, List.getElem_cons_zero, List.getElem_cons_succ]
      refine wpAnyH_take (i := 4) (v := .slice (some ⟨w.heap.size + 1, 0, none⟩) 10 10) rfl (by kernel_rfl) (by kernel_rfl) (by kernel_rfl) (fun _ _ _ h => h) (Or.inl ⟨by rfl, ?_⟩) (by assumption) ?_
      · intro wx hSw; go_simp
      try simp only [Act.put, List.setIfInBounds_toArray, List.set_cons_zero, List.set_cons_succ, List.getElem_toArray, List.getElem_cons_zero, List.getElem_cons_succ]
      refine wpAnyH_take (i := 5) (v := .pointer (some ⟨w.heap.size + 1, 3, none⟩)) rfl (by kernel_rfl) (by kernel_rfl) (by kernel_rfl) (fun _ _ _ h => h) (Or.inl ⟨by rfl, ?_⟩) (by assumption) ?_
      · intro wx hSw; go_simp
      try simp only [Act.put, List.setIfInBounds_toArray, List.set_cons_zero, List.set_cons_succ, List.getElem_toArray, List.getElem_cons_zero, List.getElem_cons_succ]
      refine wpAnyH_take (i := 6) (v := .string p3) rfl (by kernel_rfl) (by kernel_rfl) (by kernel_rfl) (fun _ _ _ h => h) (Or.inl ⟨by rfl, ?_⟩) (by assumption) ?_
      · intro wx hSw; have hx := (hSw.cell (p := ⟨w.heap.size + 1, 3, none⟩) (by show w.heap.size + 1 < w1.heap.size; omega)).trans e3; clear hSw; go_simp
      try simp only [Act.put, List.setIfInBounds_toArray, List.set_cons_zero, List.set_cons_succ, List.getElem_toArray, List.getElem_cons_zero, List.getElem_cons_succ]
      refine wpAnyH_take (i := 8) (v := .slice (some ⟨w.heap.size + 1, 0, none⟩) 10 10) rfl (by kernel_rfl) (by kernel_rfl) (by kernel_rfl) (fun _ _ _ h => h) (Or.inl ⟨by rfl, ?_⟩) (by assumption) ?_
      · intro wx hSw; go_simp
      try simp only [Act.put, List.setIfInBounds_toArray, List.set_cons_zero, List.set_cons_succ, List.getElem_toArray, List.getElem_cons_zero, List.getElem_cons_succ]
      refine wpAnyH_take (i := 9) (v := .pointer (some ⟨w.heap.size + 1, 5, none⟩)) rfl (by kernel_rfl) (by kernel_rfl) (by kernel_rfl) (fun _ _ _ h => h) (Or.inl ⟨by rfl, ?_⟩) (by assumption) ?_
      · intro wx hSw; go_simp
      try simp only [Act.put, List.setIfInBounds_toArray, List.set_cons_zero, List.set_cons_succ, List.getElem_toArray, List.getElem_cons_zero, List.getElem_cons_succ]
      refine wpAnyH_take (i := 10) (v := .string p5) rfl (by kernel_rfl) (by kernel_rfl) (by kernel_rfl) (fun _ _ _ h => h) (Or.inl ⟨by rfl, ?_⟩) (by assumption) ?_
      · intro wx hSw; have hx := (hSw.cell (p := ⟨w.heap.size + 1, 5, none⟩) (by show w.heap.size + 1 < w1.heap.size; omega)).trans e5; clear hSw; go_simp
      try simp only [Act.put, List.setIfInBounds_toArray, List.set_cons_zero, List.set_cons_succ, List.getElem_toArray, List.getElem_cons_zero, List.getElem_cons_succ]
      refine wpAnyH_take (i := 12) (v := .slice (some ⟨w.heap.size + 1, 0, none⟩) 10 10) rfl (by kernel_rfl) (by kernel_rfl) (by kernel_rfl) (fun _ _ _ h => h) (Or.inl ⟨by rfl, ?_⟩) (by assumption) ?_
      · intro wx hSw; go_simp
      try simp only [Act.put, List.setIfInBounds_toArray, List.set_cons_zero, List.set_cons_succ, List.getElem_toArray, List.getElem_cons_zero, List.getElem_cons_succ]
      refine wpAnyH_take (i := 13) (v := .pointer (some ⟨w.heap.size + 1, 7, none⟩)) rfl (by kernel_rfl) (by kernel_rfl) (by kernel_rfl) (fun _ _ _ h => h) (Or.inl ⟨by rfl, ?_⟩) (by assumption) ?_
      · intro wx hSw; go_simp
      try simp only [Act.put, List.setIfInBounds_toArray, List.set_cons_zero, List.set_cons_succ, List.getElem_toArray, List.getElem_cons_zero, List.getElem_cons_succ]
      refine wpAnyH_take (i := 14) (v := .string p7) rfl (by kernel_rfl) (by kernel_rfl) (by kernel_rfl) (fun _ _ _ h => h) (Or.inl ⟨by rfl, ?_⟩) (by assumption) ?_
      · intro wx hSw; have hx := (hSw.cell (p := ⟨w.heap.size + 1, 7, none⟩) (by show w.heap.size + 1 < w1.heap.size; omega)).trans e7; clear hSw; go_simp
      try simp only [Act.put, List.setIfInBounds_toArray, List.set_cons_zero, List.set_cons_succ, List.getElem_toArray, List.getElem_cons_zero, List.getElem_cons_succ]
      refine wpAnyH_take (i := 16) (v := .slice (some ⟨w.heap.size + 1, 0, none⟩) 10 10) rfl (by kernel_rfl) (by kernel_rfl) (by kernel_rfl) (fun _ _ _ h => h) (Or.inl ⟨by rfl, ?_⟩) (by assumption) ?_
      · intro wx hSw; go_simp
      try simp only [Act.put, List.setIfInBounds_toArray, List.set_cons_zero, List.set_cons_succ, List.getElem_toArray, List.getElem_cons_zero, List.getElem_cons_succ]
      refine wpAnyH_take (i := 17) (v := .pointer (some ⟨w.heap.size + 1, 9, none⟩)) rfl (by kernel_rfl) (by kernel_rfl) (by kernel_rfl) (fun _ _ _ h => h) (Or.inl ⟨by rfl, ?_⟩) (by assumption) ?_
      · intro wx hSw; go_simp
      try simp only [Act.put, List.setIfInBounds_toArray, List.set_cons_zero, List.set_cons_succ, List.getElem_toArray, List.getElem_cons_zero, List.getElem_cons_succ]
      refine wpAnyH_take (i := 18) (v := .string p9) rfl (by kernel_rfl) (by kernel_rfl) (by kernel_rfl) (fun _ _ _ h => h) (Or.inl ⟨by rfl, ?_⟩) (by assumption) ?_
      · intro wx hSw; have hx := (hSw.cell (p := ⟨w.heap.size + 1, 9, none⟩) (by show w.heap.size + 1 < w1.heap.size; omega)).trans e9; clear hSw; go_simp
      try simp only [Act.put, List.setIfInBounds_toArray, List.set_cons_zero, List.set_cons_succ, List.getElem_toArray, List.getElem_cons_zero, List.getElem_cons_succ]
      refine wpAnyH_ready (rs := [3, 21]) (by kernel_rfl) (by simp) ?_
      refine AllReadyH.cons rfl (fun K hK => ?_) (AllReadyH.cons rfl (fun K hK => ?_) AllReadyH.nil)
      · go_simp
        go_wp2_with (go_at_call 31; refine (loose p1 z1 _ (E1.out.on BW0)).mono ?_; rintro e W1 ⟨rfl, hb3⟩)
        have BW2 : Below w1.heap.size w1 W1 := BW0.trans (hb3.mono BW0.size)
        refine hK.out _ _ BW2 (fun hHeld => ?_)
        clear hK hb3 BW0
        try simp only [Act.put, List.setIfInBounds_toArray, List.set_cons_zero, List.set_cons_succ, List.getElem_toArray, List.getElem_cons_zero, List.getElem_cons_succ]
        refine wpAnyH_ready (rs := [7, 21]) (by kernel_rfl) (by simp) ?_
        refine AllReadyH.cons rfl (fun K hK => ?_) (AllReadyH.cons rfl (fun K hK => ?_) AllReadyH.nil)
        · go_simp
          go_wp2_with (go_at_call 31; refine (loose p3 z3 _ (E1.out.on BW2)).mono ?_; rintro e W4 ⟨rfl, hb6⟩)
          have BW5 : Below w1.heap.size w1 W4 := BW2.trans (hb6.mono BW2.size)
          refine hK.out _ _ BW5 (fun hHeld => ?_)
          clear hK hb6 BW2
          try simp only [Act.put, List.setIfInBounds_toArray, List.set_cons_zero, List.set_cons_succ, List.getElem_toArray, List.getElem_cons_zero, List.getElem_cons_succ]
          refine wpAnyH_ready (rs := [11, 21]) (by kernel_rfl) (by simp) ?_
          refine AllReadyH.cons rfl (fun K hK => ?_) (AllReadyH.cons rfl (fun K hK => ?_) AllReadyH.nil)
          · go_simp
            go_wp2_with (go_at_call 31; refine (loose p5 z5 _ (E1.out.on BW5)).mono ?_; rintro e W7 ⟨rfl, hb9⟩)
            have BW8 : Below w1.heap.size w1 W7 := BW5.trans (hb9.mono BW5.size)
            refine hK.out _ _ BW8 (fun hHeld => ?_)
            clear hK hb9 BW5
            try simp only [Act.put, List.setIfInBounds_toArray, List.set_cons_zero, List.set_cons_succ, List.getElem_toArray, List.getElem_cons_zero, List.getElem_cons_succ]
            refine wpAnyH_ready (rs := [15, 21]) (by kernel_rfl) (by simp) ?_
            refine AllReadyH.cons rfl (fun K hK => ?_) (AllReadyH.cons rfl (fun K hK => ?_) AllReadyH.nil)
            · go_simp
              go_wp2_with (go_at_call 31; refine (loose p7 z7 _ (E1.out.on BW8)).mono ?_; rintro e W10 ⟨rfl, hb12⟩)
              have BW11 : Below w1.heap.size w1 W10 := BW8.trans (hb12.mono BW8.size)
              refine hK.out _ _ BW11 (fun hHeld => ?_)
              clear hK hb12 BW8
              try simp only [Act.put, List.setIfInBounds_toArray, List.set_cons_zero, List.set_cons_succ, List.getElem_toArray, List.getElem_cons_zero, List.getElem_cons_succ]
              refine wpAnyH_ready (rs := [19, 21]) (by kernel_rfl) (by simp) ?_
              refine AllReadyH.cons rfl (fun K hK => ?_) (AllReadyH.cons rfl (fun K hK => ?_) AllReadyH.nil)
              · go_simp
                go_wp2_with (go_at_call 31; refine (loose p9 z9 _ (E1.out.on BW11)).mono ?_; rintro e W13 ⟨rfl, hb15⟩)
                have BW14 : Below w1.heap.size w1 W13 := BW11.trans (hb15.mono BW11.size)
                refine hK.out _ _ BW14 (fun hHeld => ?_)
                clear hK hb15 BW11
                try simp only [Act.put, List.setIfInBounds_toArray, List.set_cons_zero, List.set_cons_succ, List.getElem_toArray, List.getElem_cons_zero, List.getElem_cons_succ]
                refine wpAnyH_take (i := 20) (v := .agg #[.int .i64 (atoiV p1.data.toList), .int .i64 (atoiV p3.data.toList), .int .i64 (atoiV p5.data.toList), .int .i64 (atoiV p7.data.toList), .int .i64 (atoiV p9.data.toList)]) rfl (by kernel_rfl) (by kernel_rfl) (by kernel_rfl) (fun _ _ _ h => h) (Or.inl ⟨by rfl, ?_⟩) (by assumption) ?_
                · intro wx hSw; go_simp
                try simp only [Act.put, List.setIfInBounds_toArray, List.set_cons_zero, List.set_cons_succ, List.getElem_toArray, List.getElem_cons_zero, List.getElem_cons_succ]
                refine wpAnyH_ready (rs := [21]) (by kernel_rfl) (by simp) ?_
                refine AllReadyH.cons rfl (fun K hK => ?_) AllReadyH.nil
                · have FZ18 : FiveZ (W13.alloc (.cells #[.int .i64 0, .int .i64 0, .int .i64 0, .int .i64 0, .int .i64 0] 25)) W13.heap.size := FiveZ.new _
                  have BW17 := BW14.alloc BW14.size (.cells #[.int .i64 0, .int .i64 0, .int .i64 0, .int .i64 0, .int .i64 0] 25)
                  have hg19 : w1.heap.size ≤ W13.heap.size := BW14.size
                  go_simp
                  refine hK.out _ _ BW17 (fun hHeld => ?_)
                  clear hK BW14
                  try simp only [Act.put, List.setIfInBounds_toArray, List.set_cons_zero, List.set_cons_succ, List.getElem_toArray, List.getElem_cons_zero, List.getElem_cons_succ]
                  generalize W13.alloc (.cells #[.int .i64 0, .int .i64 0, .int .i64 0, .int .i64 0, .int .i64 0] 25) = W16 at *
                  refine wpAnyH_ready (rs := [22]) (by kernel_rfl) (by simp) ?_
                  refine AllReadyH.cons rfl (fun K hK => ?_) AllReadyH.nil
                  · obtain ⟨z0, z1, z2, z3, z4, y0, y1, y2, y3, y4⟩ := FZ18.all
                    go_simp
                    go_wp2
                    obtain ⟨q0, q1, q2, q3, q4⟩ := put5_cells z0 z1 z2 z3 z4 (.int .i64 (atoiV p1.data.toList)) (.int .i64 (atoiV p3.data.toList)) (.int .i64 (atoiV p5.data.toList)) (.int .i64 (atoiV p7.data.toList)) (.int .i64 (atoiV p9.data.toList))
                    refine hK.out _ _ (put5_below BW17 hg19 (.int .i64 (atoiV p1.data.toList)) (.int .i64 (atoiV p3.data.toList)) (.int .i64 (atoiV p5.data.toList)) (.int .i64 (atoiV p7.data.toList)) (.int .i64 (atoiV p9.data.toList))) (fun hHeld => ?_)
                    have BW5 := put5_below BW17 hg19 (.int .i64 (atoiV p1.data.toList)) (.int .i64 (atoiV p3.data.toList)) (.int .i64 (atoiV p5.data.toList)) (.int .i64 (atoiV p7.data.toList)) (.int .i64 (atoiV p9.data.toList))
                    clear hK z0 z1 z2 z3 z4 y0 y1 y2 y3 y4 FZ18 BW17
                    try simp only [Act.put, List.setIfInBounds_toArray, List.set_cons_zero, List.set_cons_succ, List.getElem_toArray, List.getElem_cons_zero, List.getElem_cons_succ]
                    refine wpAnyH_done (by kernel_rfl) ?_ _
                    unfold put5 at q0 q1 q2 q3 q4 BW5 hHeld
                    generalize (((((W16.setCell ⟨W13.heap.size, 0, none⟩ (.int .i64 (atoiV p1.data.toList))).setCell ⟨W13.heap.size, 1, none⟩ (.int .i64 (atoiV p3.data.toList))).setCell ⟨W13.heap.size, 2, none⟩ (.int .i64 (atoiV p5.data.toList))).setCell ⟨W13.heap.size, 3, none⟩ (.int .i64 (atoiV p7.data.toList))).setCell ⟨W13.heap.size, 4, none⟩ (.int .i64 (atoiV p9.data.toList))) = W5 at *
                    have hgw : w.heap.size < W13.heap.size := by have := hz1; omega
                    have d0 : W5.cell? ⟨w.heap.size, 0, none⟩ = some (.int .i64 0) := (BW5.cell (p := ⟨w.heap.size, 0, none⟩) (by show w.heap.size < w1.heap.size; omega)).trans c0
                    have f0' : W5.frozen? ⟨w.heap.size, 0, none⟩ = false := (BW5.frozen (p := ⟨w.heap.size, 0, none⟩) (by show w.heap.size < w1.heap.size; omega)).trans f0
                    have d1 : W5.cell? ⟨w.heap.size, 1, none⟩ = some (.int .i64 0) := (BW5.cell (p := ⟨w.heap.size, 1, none⟩) (by show w.heap.size < w1.heap.size; omega)).trans c1
                    have f1' : W5.frozen? ⟨w.heap.size, 1, none⟩ = false := (BW5.frozen (p := ⟨w.heap.size, 1, none⟩) (by show w.heap.size < w1.heap.size; omega)).trans f1
                    have d2 : W5.cell? ⟨w.heap.size, 2, none⟩ = some (.int .i64 0) := (BW5.cell (p := ⟨w.heap.size, 2, none⟩) (by show w.heap.size < w1.heap.size; omega)).trans c2
                    have f2' : W5.frozen? ⟨w.heap.size, 2, none⟩ = false := (BW5.frozen (p := ⟨w.heap.size, 2, none⟩) (by show w.heap.size < w1.heap.size; omega)).trans f2
                    have d3 : W5.cell? ⟨w.heap.size, 3, none⟩ = some (.int .i64 0) := (BW5.cell (p := ⟨w.heap.size, 3, none⟩) (by show w.heap.size < w1.heap.size; omega)).trans c3
                    have f3' : W5.frozen? ⟨w.heap.size, 3, none⟩ = false := (BW5.frozen (p := ⟨w.heap.size, 3, none⟩) (by show w.heap.size < w1.heap.size; omega)).trans f3
                    have d4 : W5.cell? ⟨w.heap.size, 4, none⟩ = some (.int .i64 0) := (BW5.cell (p := ⟨w.heap.size, 4, none⟩) (by show w.heap.size < w1.heap.size; omega)).trans c4
                    have f4' : W5.frozen? ⟨w.heap.size, 4, none⟩ = false := (BW5.frozen (p := ⟨w.heap.size, 4, none⟩) (by show w.heap.size < w1.heap.size; omega)).trans f4
                    go_wp2_with fail
                    refine (text_impl _ _ _ _ _ _ ((E1.out.on BW5).tab)).mono ?_
                    rintro e W6 ⟨rfl, hb6⟩
                    have hw6 : w.heap.size < W5.heap.size := by have := BW5.size; omega
                    have hg6 : W13.heap.size < W5.heap.size := cell_lt5 q0
                    replace d0 := (hb6.cell (p := ⟨w.heap.size, 0, none⟩) hw6).trans d0
                    replace f0' := (hb6.frozen (p := ⟨w.heap.size, 0, none⟩) hw6).trans f0'
                    replace q0 := (hb6.cell (p := ⟨W13.heap.size, 0, none⟩) hg6).trans q0
                    replace d1 := (hb6.cell (p := ⟨w.heap.size, 1, none⟩) hw6).trans d1
                    replace f1' := (hb6.frozen (p := ⟨w.heap.size, 1, none⟩) hw6).trans f1'
                    replace q1 := (hb6.cell (p := ⟨W13.heap.size, 1, none⟩) hg6).trans q1
                    replace d2 := (hb6.cell (p := ⟨w.heap.size, 2, none⟩) hw6).trans d2
                    replace f2' := (hb6.frozen (p := ⟨w.heap.size, 2, none⟩) hw6).trans f2'
                    replace q2 := (hb6.cell (p := ⟨W13.heap.size, 2, none⟩) hg6).trans q2
                    replace d3 := (hb6.cell (p := ⟨w.heap.size, 3, none⟩) hw6).trans d3
                    replace f3' := (hb6.frozen (p := ⟨w.heap.size, 3, none⟩) hw6).trans f3'
                    replace q3 := (hb6.cell (p := ⟨W13.heap.size, 3, none⟩) hg6).trans q3
                    replace d4 := (hb6.cell (p := ⟨w.heap.size, 4, none⟩) hw6).trans d4
                    replace f4' := (hb6.frozen (p := ⟨w.heap.size, 4, none⟩) hw6).trans f4'
                    replace q4 := (hb6.cell (p := ⟨W13.heap.size, 4, none⟩) hg6).trans q4
                    have B6 : Below w.heap.size w W6 := (Bw1.trans (BW5.mono (Nat.le_of_lt (by omega)))).trans (hb6.mono (Nat.le_of_lt hw6))
                    clear hb6 BW5 hHeld
                    by_cases he : (textOf (atoiV p1.data.toList) (atoiV p3.data.toList) (atoiV p5.data.toList) (atoiV p7.data.toList) (atoiV p9.data.toList)) = s
                    · have he' : ((textOf (atoiV p1.data.toList) (atoiV p3.data.toList) (atoiV p5.data.toList) (atoiV p7.data.toList) (atoiV p9.data.toList)).toList == s.toList) = true := by rw [he]; simp
                      have HY : Hid (vOk s) := ⟨hs, HW.out.2, by unfold vText; rw [HV.out.1, HV.out.2.1, HV.out.2.2.1, HV.out.2.2.2.1, HV.out.2.2.2.2]; exact he⟩
                      clear he
                      go_wp2
                      obtain ⟨r0, r1, r2, r3, r4⟩ := put5_cells d0 d1 d2 d3 d4 (.int .i64 (atoiV p1.data.toList)) (.int .i64 (atoiV p3.data.toList)) (.int .i64 (atoiV p5.data.toList)) (.int .i64 (atoiV p7.data.toList)) (.int .i64 (atoiV p9.data.toList))
                      unfold put5 at r0 r1 r2 r3 r4
                      refine bodyPost_ret (v := .tuple #[.agg #[.int .i64 (atoiV p1.data.toList), .int .i64 (atoiV p3.data.toList), .int .i64 (atoiV p5.data.toList), .int .i64 (atoiV p7.data.toList), .int .i64 (atoiV p9.data.toList)], .bool true]) ?_ rfl ⟨.inl ⟨HY.out, ?_⟩, put5_below B6 (Nat.le_refl _) (.int .i64 (atoiV p1.data.toList)) (.int .i64 (atoiV p3.data.toList)) (.int .i64 (atoiV p5.data.toList)) (.int .i64 (atoiV p7.data.toList)) (.int .i64 (atoiV p9.data.toList))⟩
                      · simp [results, Tryz.results62, go_sem, r0, r1, r2, r3, r4]
                      · rw [HV.out.1, HV.out.2.1, HV.out.2.2.1, HV.out.2.2.2.1, HV.out.2.2.2.2]
                    · have he' : ((textOf (atoiV p1.data.toList) (atoiV p3.data.toList) (atoiV p5.data.toList) (atoiV p7.data.toList) (atoiV p9.data.toList)).toList == s.toList) = false := beq_eq_false_iff_ne.2 (fun e => he (text_inj e))
                      have HY : Hid (¬ vOk s) := fun h => he (by have := h.2.2; unfold vText at this; rw [HV.out.1, HV.out.2.1, HV.out.2.2.1, HV.out.2.2.2.1, HV.out.2.2.2.2] at this; exact this)
                      clear he
                      go_wp2
                      obtain ⟨r0, r1, r2, r3, r4⟩ := put5_cells d0 d1 d2 d3 d4 (.int .i64 0) (.int .i64 0) (.int .i64 0) (.int .i64 0) (.int .i64 0)
                      unfold put5 at r0 r1 r2 r3 r4
                      refine bodyPost_ret (v := .tuple #[.agg #[.int .i64 0, .int .i64 0, .int .i64 0, .int .i64 0, .int .i64 0], .bool false]) ?_ rfl ⟨.inr ⟨HY.out, rfl⟩, put5_below B6 (Nat.le_refl _) (.int .i64 0) (.int .i64 0) (.int .i64 0) (.int .i64 0) (.int .i64 0)⟩
                      simp [results, Tryz.results62, go_sem, r0, r1, r2, r3, r4]
              · have FZ22 : FiveZ (W10.alloc (.cells #[.int .i64 0, .int .i64 0, .int .i64 0, .int .i64 0, .int .i64 0] 25)) W10.heap.size := FiveZ.new _
                have BW21 := BW11.alloc BW11.size (.cells #[.int .i64 0, .int .i64 0, .int .i64 0, .int .i64 0, .int .i64 0] 25)
                have hg23 : w1.heap.size ≤ W10.heap.size := BW11.size
                go_simp
                refine hK.out _ _ BW21 (fun hHeld => ?_)
                clear hK BW11
                try simp only [Act.put, List.setIfInBounds_toArray, List.set_cons_zero, List.set_cons_succ, List.getElem_toArray, List.getElem_cons_zero, List.getElem_cons_succ]
                generalize W10.alloc (.cells #[.int .i64 0, .int .i64 0, .int .i64 0, .int .i64 0, .int .i64 0] 25) = W20 at *
                refine wpAnyH_ready (rs := [19]) (by kernel_rfl) (by simp) ?_
                refine AllReadyH.cons rfl (fun K hK => ?_) AllReadyH.nil
                · go_simp
                  go_wp2_with (go_at_call 31; refine (loose p9 z9 _ (E1.out.on BW21)).mono ?_; rintro e W24 ⟨rfl, hb26⟩)
                  have BW25 : Below w1.heap.size w1 W24 := BW21.trans (hb26.mono BW21.size)
                  have FZ27 := FZ22.below hb26
                  refine hK.out _ _ BW25 (fun hHeld => ?_)
                  clear hK hb26 BW21 FZ22
                  try simp only [Act.put, List.setIfInBounds_toArray, List.set_cons_zero, List.set_cons_succ, List.getElem_toArray, List.getElem_cons_zero, List.getElem_cons_succ]
                  refine wpAnyH_take (i := 20) (v := .agg #[.int .i64 (atoiV p1.data.toList), .int .i64 (atoiV p3.data.toList), .int .i64 (atoiV p5.data.toList), .int .i64 (atoiV p7.data.toList), .int .i64 (atoiV p9.data.toList)]) rfl (by kernel_rfl) (by kernel_rfl) (by kernel_rfl) (fun _ _ _ h => h) (Or.inl ⟨by rfl, ?_⟩) (by assumption) ?_
                  · intro wx hSw; go_simp
                  try simp only [Act.put, List.setIfInBounds_toArray, List.set_cons_zero, List.set_cons_succ, List.getElem_toArray, List.getElem_cons_zero, List.getElem_cons_succ]
                  refine wpAnyH_ready (rs := [22]) (by kernel_rfl) (by simp) ?_
                  refine AllReadyH.cons rfl (fun K hK => ?_) AllReadyH.nil
                  · obtain ⟨z0, z1, z2, z3, z4, y0, y1, y2, y3, y4⟩ := FZ27.all
                    go_simp
                    go_wp2
                    obtain ⟨q0, q1, q2, q3, q4⟩ := put5_cells z0 z1 z2 z3 z4 (.int .i64 (atoiV p1.data.toList)) (.int .i64 (atoiV p3.data.toList)) (.int .i64 (atoiV p5.data.toList)) (.int .i64 (atoiV p7.data.toList)) (.int .i64 (atoiV p9.data.toList))
                    refine hK.out _ _ (put5_below BW25 hg23 (.int .i64 (atoiV p1.data.toList)) (.int .i64 (atoiV p3.data.toList)) (.int .i64 (atoiV p5.data.toList)) (.int .i64 (atoiV p7.data.toList)) (.int .i64 (atoiV p9.data.toList))) (fun hHeld => ?_)
                    have BW5 := put5_below BW25 hg23 (.int .i64 (atoiV p1.data.toList)) (.int .i64 (atoiV p3.data.toList)) (.int .i64 (atoiV p5.data.toList)) (.int .i64 (atoiV p7.data.toList)) (.int .i64 (atoiV p9.data.toList))
                    clear hK z0 z1 z2 z3 z4 y0 y1 y2 y3 y4 FZ27 BW25
                    try simp only [Act.put, List.setIfInBounds_toArray, List.set_cons_zero, List.set_cons_succ, List.getElem_toArray, List.getElem_cons_zero, List.getElem_cons_succ]
                    refine wpAnyH_done (by kernel_rfl) ?_ _
                    unfold put5 at q0 q1 q2 q3 q4 BW5 hHeld
                    generalize (((((W24.setCell ⟨W10.heap.size, 0, none⟩ (.int .i64 (atoiV p1.data.toList))).setCell ⟨W10.heap.size, 1, none⟩ (.int .i64 (atoiV p3.data.toList))).setCell ⟨W10.heap.size, 2, none⟩ (.int .i64 (atoiV p5.data.toList))).setCell ⟨W10.heap.size, 3, none⟩ (.int .i64 (atoiV p7.data.toList))).setCell ⟨W10.heap.size, 4, none⟩ (.int .i64 (atoiV p9.data.toList))) = W5 at *
                    have hgw : w.heap.size < W10.heap.size := by have := hz1; omega
                    have d0 : W5.cell? ⟨w.heap.size, 0, none⟩ = some (.int .i64 0) := (BW5.cell (p := ⟨w.heap.size, 0, none⟩) (by show w.heap.size < w1.heap.size; omega)).trans c0
                    have f0' : W5.frozen? ⟨w.heap.size, 0, none⟩ = false := (BW5.frozen (p := ⟨w.heap.size, 0, none⟩) (by show w.heap.size < w1.heap.size; omega)).trans f0
                    have d1 : W5.cell? ⟨w.heap.size, 1, none⟩ = some (.int .i64 0) := (BW5.cell (p := ⟨w.heap.size, 1, none⟩) (by show w.heap.size < w1.heap.size; omega)).trans c1
                    have f1' : W5.frozen? ⟨w.heap.size, 1, none⟩ = false := (BW5.frozen (p := ⟨w.heap.size, 1, none⟩) (by show w.heap.size < w1.heap.size; omega)).trans f1
                    have d2 : W5.cell? ⟨w.heap.size, 2, none⟩ = some (.int .i64 0) := (BW5.cell (p := ⟨w.heap.size, 2, none⟩) (by show w.heap.size < w1.heap.size; omega)).trans c2
                    have f2' : W5.frozen? ⟨w.heap.size, 2, none⟩ = false := (BW5.frozen (p := ⟨w.heap.size, 2, none⟩) (by show w.heap.size < w1.heap.size; omega)).trans f2
                    have d3 : W5.cell? ⟨w.heap.size, 3, none⟩ = some (.int .i64 0) := (BW5.cell (p := ⟨w.heap.size, 3, none⟩) (by show w.heap.size < w1.heap.size; omega)).trans c3
                    have f3' : W5.frozen? ⟨w.heap.size, 3, none⟩ = false := (BW5.frozen (p := ⟨w.heap.size, 3, none⟩) (by show w.heap.size < w1.heap.size; omega)).trans f3
                    have d4 : W5.cell? ⟨w.heap.size, 4, none⟩ = some (.int .i64 0) := (BW5.cell (p := ⟨w.heap.size, 4, none⟩) (by show w.heap.size < w1.heap.size; omega)).trans c4
                    have f4' : W5.frozen? ⟨w.heap.size, 4, none⟩ = false := (BW5.frozen (p := ⟨w.heap.size, 4, none⟩) (by show w.heap.size < w1.heap.size; omega)).trans f4
                    go_wp2_with fail
                    refine (text_impl _ _ _ _ _ _ ((E1.out.on BW5).tab)).mono ?_
                    rintro e W6 ⟨rfl, hb6⟩
                    have hw6 : w.heap.size < W5.heap.size := by have := BW5.size; omega
                    have hg6 : W10.heap.size < W5.heap.size := cell_lt5 q0
                    replace d0 := (hb6.cell (p := ⟨w.heap.size, 0, none⟩) hw6).trans d0
                    replace f0' := (hb6.frozen (p := ⟨w.heap.size, 0, none⟩) hw6).trans f0'
                    replace q0 := (hb6.cell (p := ⟨W10.heap.size, 0, none⟩) hg6).trans q0
                    replace d1 := (hb6.cell (p := ⟨w.heap.size, 1, none⟩) hw6).trans d1
                    replace f1' := (hb6.frozen (p := ⟨w.heap.size, 1, none⟩) hw6).trans f1'
                    replace q1 := (hb6.cell (p := ⟨W10.heap.size, 1, none⟩) hg6).trans q1
                    replace d2 := (hb6.cell (p := ⟨w.heap.size, 2, none⟩) hw6).trans d2
                    replace f2' := (hb6.frozen (p := ⟨w.heap.size, 2, none⟩) hw6).trans f2'
                    replace q2 := (hb6.cell (p := ⟨W10.heap.size, 2, none⟩) hg6).trans q2
                    replace d3 := (hb6.cell (p := ⟨w.heap.size, 3, none⟩) hw6).trans d3
                    replace f3' := (hb6.frozen (p := ⟨w.heap.size, 3, none⟩) hw6).trans f3'
                    replace q3 := (hb6.cell (p := ⟨W10.heap.size, 3, none⟩) hg6).trans q3
                    replace d4 := (hb6.cell (p := ⟨w.heap.size, 4, none⟩) hw6).trans d4
                    replace f4' := (hb6.frozen (p := ⟨w.heap.size, 4, none⟩) hw6).trans f4'
                    replace q4 := (hb6.cell (p := ⟨W10.heap.size, 4, none⟩) hg6).trans q4
                    have B6 : Below w.heap.size w W6 := (Bw1.trans (BW5.mono (Nat.le_of_lt (by omega)))).trans (hb6.mono (Nat.le_of_lt hw6))
                    clear hb6 BW5 hHeld
                    by_cases he : (textOf (atoiV p1.data.toList) (atoiV p3.data.toList) (atoiV p5.data.toList) (atoiV p7.data.toList) (atoiV p9.data.toList)) = s
                    · have he' : ((textOf (atoiV p1.data.toList) (atoiV p3.data.toList) (atoiV p5.data.toList) (atoiV p7.data.toList) (atoiV p9.data.toList)).toList == s.toList) = true := by rw [he]; simp
                      have HY : Hid (vOk s) := ⟨hs, HW.out.2, by unfold vText; rw [HV.out.1, HV.out.2.1, HV.out.2.2.1, HV.out.2.2.2.1, HV.out.2.2.2.2]; exact he⟩
                      clear he
                      go_wp2
                      obtain ⟨r0, r1, r2, r3, r4⟩ := put5_cells d0 d1 d2 d3 d4 (.int .i64 (atoiV p1.data.toList)) (.int .i64 (atoiV p3.data.toList)) (.int .i64 (atoiV p5.data.toList)) (.int .i64 (atoiV p7.data.toList)) (.int .i64 (atoiV p9.data.toList))
                      unfold put5 at r0 r1 r2 r3 r4
                      refine bodyPost_ret (v := .tuple #[.agg #[.int .i64 (atoiV p1.data.toList), .int .i64 (atoiV p3.data.toList), .int .i64 (atoiV p5.data.toList), .int .i64 (atoiV p7.data.toList), .int .i64 (atoiV p9.data.toList)], .bool true]) ?_ rfl ⟨.inl ⟨HY.out, ?_⟩, put5_below B6 (Nat.le_refl _) (.int .i64 (atoiV p1.data.toList)) (.int .i64 (atoiV p3.data.toList)) (.int .i64 (atoiV p5.data.toList)) (.int .i64 (atoiV p7.data.toList)) (.int .i64 (atoiV p9.data.toList))⟩
                      · simp [results, Tryz.results62, go_sem, r0, r1, r2, r3, r4]
                      · rw [HV.out.1, HV.out.2.1, HV.out.2.2.1, HV.out.2.2.2.1, HV.out.2.2.2.2]
                    · have he' : ((textOf (atoiV p1.data.toList) (atoiV p3.data.toList) (atoiV p5.data.toList) (atoiV p7.data.toList) (atoiV p9.data.toList)).toList == s.toList) = false := beq_eq_false_iff_ne.2 (fun e => he (text_inj e))
                      have HY : Hid (¬ vOk s) := fun h => he (by have := h.2.2; unfold vText at this; rw [HV.out.1, HV.out.2.1, HV.out.2.2.1, HV.out.2.2.2.1, HV.out.2.2.2.2] at this; exact this)
                      clear he
                      go_wp2
                      obtain ⟨r0, r1, r2, r3, r4⟩ := put5_cells d0 d1 d2 d3 d4 (.int .i64 0) (.int .i64 0) (.int .i64 0) (.int .i64 0) (.int .i64 0)
                      unfold put5 at r0 r1 r2 r3 r4
                      refine bodyPost_ret (v := .tuple #[.agg #[.int .i64 0, .int .i64 0, .int .i64 0, .int .i64 0, .int .i64 0], .bool false]) ?_ rfl ⟨.inr ⟨HY.out, rfl⟩, put5_below B6 (Nat.le_refl _) (.int .i64 0) (.int .i64 0) (.int .i64 0) (.int .i64 0) (.int .i64 0)⟩
                      simp [results, Tryz.results62, go_sem, r0, r1, r2, r3, r4]
            · have FZ30 : FiveZ (W7.alloc (.cells #[.int .i64 0, .int .i64 0, .int .i64 0, .int .i64 0, .int .i64 0] 25)) W7.heap.size := FiveZ.new _
              have BW29 := BW8.alloc BW8.size (.cells #[.int .i64 0, .int .i64 0, .int .i64 0, .int .i64 0, .int .i64 0] 25)
              have hg31 : w1.heap.size ≤ W7.heap.size := BW8.size
              go_simp
              refine hK.out _ _ BW29 (fun hHeld => ?_)
              clear hK BW8
              try simp only [Act.put, List.setIfInBounds_toArray, List.set_cons_zero, List.set_cons_succ, List.getElem_toArray, List.getElem_cons_zero, List.getElem_cons_succ]
              generalize W7.alloc (.cells #[.int .i64 0, .int .i64 0, .int .i64 0, .int .i64 0, .int .i64 0] 25) = W28 at *
              refine wpAnyH_ready (rs := [15]) (by kernel_rfl) (by simp) ?_
              refine AllReadyH.cons rfl (fun K hK => ?_) AllReadyH.nil
              · go_simp
                go_wp2_with (go_at_call 31; refine (loose p7 z7 _ (E1.out.on BW29)).mono ?_; rintro e W32 ⟨rfl, hb34⟩)
                have BW33 : Below w1.heap.size w1 W32 := BW29.trans (hb34.mono BW29.size)
                have FZ35 := FZ30.below hb34
                refine hK.out _ _ BW33 (fun hHeld => ?_)
                clear hK hb34 BW29 FZ30
                try simp only [Act.put, List.setIfInBounds_toArray, List.set_cons_zero, List.set_cons_succ, List.getElem_toArray, List.getElem_cons_zero, List.getElem_cons_succ]
                refine wpAnyH_ready (rs := [19]) (by kernel_rfl) (by simp) ?_
                refine AllReadyH.cons rfl (fun K hK => ?_) AllReadyH.nil
                · go_simp
                  go_wp2_with (go_at_call 31; refine (loose p9 z9 _ (E1.out.on BW33)).mono ?_; rintro e W36 ⟨rfl, hb38⟩)
                  have BW37 : Below w1.heap.size w1 W36 := BW33.trans (hb38.mono BW33.size)
                  have FZ39 := FZ35.below hb38
                  refine hK.out _ _ BW37 (fun hHeld => ?_)
                  clear hK hb38 BW33 FZ35
                  try simp only [Act.put, List.setIfInBounds_toArray, List.set_cons_zero, List.set_cons_succ, List.getElem_toArray, List.getElem_cons_zero, List.getElem_cons_succ]
                  refine wpAnyH_take (i := 20) (v := .agg #[.int .i64 (atoiV p1.data.toList), .int .i64 (atoiV p3.data.toList), .int .i64 (atoiV p5.data.toList), .int .i64 (atoiV p7.data.toList), .int .i64 (atoiV p9.data.toList)]) rfl (by kernel_rfl) (by kernel_rfl) (by kernel_rfl) (fun _ _ _ h => h) (Or.inl ⟨by rfl, ?_⟩) (by assumption) ?_
                  · intro wx hSw; go_simp
                  try simp only [Act.put, List.setIfInBounds_toArray, List.set_cons_zero, List.set_cons_succ, List.getElem_toArray, List.getElem_cons_zero, List.getElem_cons_succ]
                  refine wpAnyH_ready (rs := [22]) (by kernel_rfl) (by simp) ?_
                  refine AllReadyH.cons rfl (fun K hK => ?_) AllReadyH.nil
                  · obtain ⟨z0, z1, z2, z3, z4, y0, y1, y2, y3, y4⟩ := FZ39.all
                    go_simp
                    go_wp2
                    obtain ⟨q0, q1, q2, q3, q4⟩ := put5_cells z0 z1 z2 z3 z4 (.int .i64 (atoiV p1.data.toList)) (.int .i64 (atoiV p3.data.toList)) (.int .i64 (atoiV p5.data.toList)) (.int .i64 (atoiV p7.data.toList)) (.int .i64 (atoiV p9.data.toList))
                    refine hK.out _ _ (put5_below BW37 hg31 (.int .i64 (atoiV p1.data.toList)) (.int .i64 (atoiV p3.data.toList)) (.int .i64 (atoiV p5.data.toList)) (.int .i64 (atoiV p7.data.toList)) (.int .i64 (atoiV p9.data.toList))) (fun hHeld => ?_)
                    have BW5 := put5_below BW37 hg31 (.int .i64 (atoiV p1.data.toList)) (.int .i64 (atoiV p3.data.toList)) (.int .i64 (atoiV p5.data.toList)) (.int .i64 (atoiV p7.data.toList)) (.int .i64 (atoiV p9.data.toList))
                    clear hK z0 z1 z2 z3 z4 y0 y1 y2 y3 y4 FZ39 BW37
                    try simp only [Act.put, List.setIfInBounds_toArray, List.set_cons_zero, List.set_cons_succ, List.getElem_toArray, List.getElem_cons_zero, List.getElem_cons_succ]
                    refine wpAnyH_done (by kernel_rfl) ?_ _
                    unfold put5 at q0 q1 q2 q3 q4 BW5 hHeld
                    generalize (((((W36.setCell ⟨W7.heap.size, 0, none⟩ (.int .i64 (atoiV p1.data.toList))).setCell ⟨W7.heap.size, 1, none⟩ (.int .i64 (atoiV p3.data.toList))).setCell ⟨W7.heap.size, 2, none⟩ (.int .i64 (atoiV p5.data.toList))).setCell ⟨W7.heap.size, 3, none⟩ (.int .i64 (atoiV p7.data.toList))).setCell ⟨W7.heap.size, 4, none⟩ (.int .i64 (atoiV p9.data.toList))) = W5 at *
                    have hgw : w.heap.size < W7.heap.size := by have := hz1; omega
                    have d0 : W5.cell? ⟨w.heap.size, 0, none⟩ = some (.int .i64 0) := (BW5.cell (p := ⟨w.heap.size, 0, none⟩) (by show w.heap.size < w1.heap.size; omega)).trans c0
                    have f0' : W5.frozen? ⟨w.heap.size, 0, none⟩ = false := (BW5.frozen (p := ⟨w.heap.size, 0, none⟩) (by show w.heap.size < w1.heap.size; omega)).trans f0
                    have d1 : W5.cell? ⟨w.heap.size, 1, none⟩ = some (.int .i64 0) := (BW5.cell (p := ⟨w.heap.size, 1, none⟩) (by show w.heap.size < w1.heap.size; omega)).trans c1
                    have f1' : W5.frozen? ⟨w.heap.size, 1, none⟩ = false := (BW5.frozen (p := ⟨w.heap.size, 1, none⟩) (by show w.heap.size < w1.heap.size; omega)).trans f1
                    have d2 : W5.cell? ⟨w.heap.size, 2, none⟩ = some (.int .i64 0) := (BW5.cell (p := ⟨w.heap.size, 2, none⟩) (by show w.heap.size < w1.heap.size; omega)).trans c2
                    have f2' : W5.frozen? ⟨w.heap.size, 2, none⟩ = false := (BW5.frozen (p := ⟨w.heap.size, 2, none⟩) (by show w.heap.size < w1.heap.size; omega)).trans f2
                    have d3 : W5.cell? ⟨w.heap.size, 3, none⟩ = some (.int .i64 0) := (BW5.cell (p := ⟨w.heap.size, 3, none⟩) (by show w.heap.size < w1.heap.size; omega)).trans c3
                    have f3' : W5.frozen? ⟨w.heap.size, 3, none⟩ = false := (BW5.frozen (p := ⟨w.heap.size, 3, none⟩) (by show w.heap.size < w1.heap.size; omega)).trans f3
                    have d4 : W5.cell? ⟨w.heap.size, 4, none⟩ = some (.int .i64 0) := (BW5.cell (p := ⟨w.heap.size, 4, none⟩) (by show w.heap.size < w1.heap.size; omega)).trans c4
                    have f4' : W5.frozen? ⟨w.heap.size, 4, none⟩ = false := (BW5.frozen (p := ⟨w.heap.size, 4, none⟩) (by show w.heap.size < w1.heap.size; omega)).trans f4
                    go_wp2_with fail
                    refine (text_impl _ _ _ _ _ _ ((E1.out.on BW5).tab)).mono ?_
                    rintro e W6 ⟨rfl, hb6⟩
                    have hw6 : w.heap.size < W5.heap.size := by have := BW5.size; omega
                    have hg6 : W7.heap.size < W5.heap.size := cell_lt5 q0
                    replace d0 := (hb6.cell (p := ⟨w.heap.size, 0, none⟩) hw6).trans d0
                    replace f0' := (hb6.frozen (p := ⟨w.heap.size, 0, none⟩) hw6).trans f0'
                    replace q0 := (hb6.cell (p := ⟨W7.heap.size, 0, none⟩) hg6).trans q0
                    replace d1 := (hb6.cell (p := ⟨w.heap.size, 1, none⟩) hw6).trans d1
                    replace f1' := (hb6.frozen (p := ⟨w.heap.size, 1, none⟩) hw6).trans f1'
                    replace q1 := (hb6.cell (p := ⟨W7.heap.size, 1, none⟩) hg6).trans q1
                    replace d2 := (hb6.cell (p := ⟨w.heap.size, 2, none⟩) hw6).trans d2
                    replace f2' := (hb6.frozen (p := ⟨w.heap.size, 2, none⟩) hw6).trans f2'
                    replace q2 := (hb6.cell (p := ⟨W7.heap.size, 2, none⟩) hg6).trans q2
                    replace d3 := (hb6.cell (p := ⟨w.heap.size, 3, none⟩) hw6).trans d3
                    replace f3' := (hb6.frozen (p := ⟨w.heap.size, 3, none⟩) hw6).trans f3'
                    replace q3 := (hb6.cell (p := ⟨W7.heap.size, 3, none⟩) hg6).trans q3
                    replace d4 := (hb6.cell (p := ⟨w.heap.size, 4, none⟩) hw6).trans d4
                    replace f4' := (hb6.frozen (p := ⟨w.heap.size, 4, none⟩) hw6).trans f4'
                    replace q4 := (hb6.cell (p := ⟨W7.heap.size, 4, none⟩) hg6).trans q4
                    have B6 : Below w.heap.size w W6 := (Bw1.trans (BW5.mono (Nat.le_of_lt (by omega)))).trans (hb6.mono (Nat.le_of_lt hw6))
                    clear hb6 BW5 hHeld
                    by_cases he : (textOf (atoiV p1.data.toList) (atoiV p3.data.toList) (atoiV p5.data.toList) (atoiV p7.data.toList) (atoiV p9.data.toList)) = s
                    · have he' : ((textOf (atoiV p1.data.toList) (atoiV p3.data.toList) (atoiV p5.data.toList) (atoiV p7.data.toList) (atoiV p9.data.toList)).toList == s.toList) = true := by rw [he]; simp
                      have HY : Hid (vOk s) := ⟨hs, HW.out.2, by unfold vText; rw [HV.out.1, HV.out.2.1, HV.out.2.2.1, HV.out.2.2.2.1, HV.out.2.2.2.2]; exact he⟩
                      clear he
                      go_wp2
                      obtain ⟨r0, r1, r2, r3, r4⟩ := put5_cells d0 d1 d2 d3 d4 (.int .i64 (atoiV p1.data.toList)) (.int .i64 (atoiV p3.data.toList)) (.int .i64 (atoiV p5.data.toList)) (.int .i64 (atoiV p7.data.toList)) (.int .i64 (atoiV p9.data.toList))
                      unfold put5 at r0 r1 r2 r3 r4
                      refine bodyPost_ret (v := .tuple #[.agg #[.int .i64 (atoiV p1.data.toList), .int .i64 (atoiV p3.data.toList), .int .i64 (atoiV p5.data.toList), .int .i64 (atoiV p7.data.toList), .int .i64 (atoiV p9.data.toList)], .bool true]) ?_ rfl ⟨.inl ⟨HY.out, ?_⟩, put5_below B6 (Nat.le_refl _) (.int .i64 (atoiV p1.data.toList)) (.int .i64 (atoiV p3.data.toList)) (.int .i64 (atoiV p5.data.toList)) (.int .i64 (atoiV p7.data.toList)) (.int .i64 (atoiV p9.data.toList))⟩
                      · simp [results, Tryz.results62, go_sem, r0, r1, r2, r3, r4]
                      · rw [HV.out.1, HV.out.2.1, HV.out.2.2.1, HV.out.2.2.2.1, HV.out.2.2.2.2]
                    · have he' : ((textOf (atoiV p1.data.toList) (atoiV p3.data.toList) (atoiV p5.data.toList) (atoiV p7.data.toList) (atoiV p9.data.toList)).toList == s.toList) = false := beq_eq_false_iff_ne.2 (fun e => he (text_inj e))
                      have HY : Hid (¬ vOk s) := fun h => he (by have := h.2.2; unfold vText at this; rw [HV.out.1, HV.out.2.1, HV.out.2.2.1, HV.out.2.2.2.1, HV.out.2.2.2.2] at this; exact this)
                      clear he
                      go_wp2
                      obtain ⟨r0, r1, r2, r3, r4⟩ := put5_cells d0 d1 d2 d3 d4 (.int .i64 0) (.int .i64 0) (.int .i64 0) (.int .i64 0) (.int .i64 0)
                      unfold put5 at r0 r1 r2 r3 r4
                      refine bodyPost_ret (v := .tuple #[.agg #[.int .i64 0, .int .i64 0, .int .i64 0, .int .i64 0, .int .i64 0], .bool false]) ?_ rfl ⟨.inr ⟨HY.out, rfl⟩, put5_below B6 (Nat.le_refl _) (.int .i64 0) (.int .i64 0) (.int .i64 0) (.int .i64 0) (.int .i64 0)⟩
                      simp [results, Tryz.results62, go_sem, r0, r1, r2, r3, r4]
          · have FZ42 : FiveZ (W4.alloc (.cells #[.int .i64 0, .int .i64 0, .int .i64 0, .int .i64 0, .int .i64 0] 25)) W4.heap.size := FiveZ.new _
            have BW41 := BW5.alloc BW5.size (.cells #[.int .i64 0, .int .i64 0, .int .i64 0, .int .i64 0, .int .i64 0] 25)
            have hg43 : w1.heap.size ≤ W4.heap.size := BW5.size
            go_simp
            refine hK.out _ _ BW41 (fun hHeld => ?_)
            clear hK BW5
            try simp only [Act.put, List.setIfInBounds_toArray, List.set_cons_zero, List.set_cons_succ, List.getElem_toArray, List.getElem_cons_zero, List.getElem_cons_succ]
            generalize W4.alloc (.cells #[.int .i64 0, .int .i64 0, .int .i64 0, .int .i64 0, .int .i64 0] 25) = W40 at *
            refine wpAnyH_ready (rs := [11]) (by kernel_rfl) (by simp) ?_
            refine AllReadyH.cons rfl (fun K hK => ?_) AllReadyH.nil
            · go_simp
              go_wp2_with (go_at_call 31; refine (loose p5 z5 _ (E1.out.on BW41)).mono ?_; rintro e W44 ⟨rfl, hb46⟩)
              have BW45 : Below w1.heap.size w1 W44 := BW41.trans (hb46.mono BW41.size)
              have FZ47 := FZ42.below hb46
              refine hK.out _ _ BW45 (fun hHeld => ?_)
              clear hK hb46 BW41 FZ42
              try simp only [Act.put, List.setIfInBounds_toArray, List.set_cons_zero, List.set_cons_succ, List.getElem_toArray, List.getElem_cons_zero, List.getElem_cons_succ]
              refine wpAnyH_ready (rs := [15]) (by kernel_rfl) (by simp) ?_
              refine AllReadyH.cons rfl (fun K hK => ?_) AllReadyH.nil
              · go_simp
                go_wp2_with (go_at_call 31; refine (loose p7 z7 _ (E1.out.on BW45)).mono ?_; rintro e W48 ⟨rfl, hb50⟩)
                have BW49 : Below w1.heap.size w1 W48 := BW45.trans (hb50.mono BW45.size)
                have FZ51 := FZ47.below hb50
                refine hK.out _ _ BW49 (fun hHeld => ?_)
                clear hK hb50 BW45 FZ47
                try simp only [Act.put, List.setIfInBounds_toArray, List.set_cons_zero, List.set_cons_succ, List.getElem_toArray, List.getElem_cons_zero, List.getElem_cons_succ]
                refine wpAnyH_ready (rs := [19]) (by kernel_rfl) (by simp) ?_
                refine AllReadyH.cons rfl (fun K hK => ?_) AllReadyH.nil
                · go_simp
                  go_wp2_with (go_at_call 31; refine (loose p9 z9 _ (E1.out.on BW49)).mono ?_; rintro e W52 ⟨rfl, hb54⟩)
                  have BW53 : Below w1.heap.size w1 W52 := BW49.trans (hb54.mono BW49.size)
                  have FZ55 := FZ51.below hb54
                  refine hK.out _ _ BW53 (fun hHeld => ?_)
                  clear hK hb54 BW49 FZ51
                  try simp only [Act.put, List.setIfInBounds_toArray, List.set_cons_zero, List.set_cons_succ, List.getElem_toArray, List.getElem_cons_zero, List.getElem_cons_succ]
                  refine wpAnyH_take (i := 20) (v := .agg #[.int .i64 (atoiV p1.data.toList), .int .i64 (atoiV p3.data.toList), .int .i64 (atoiV p5.data.toList), .int .i64 (atoiV p7.data.toList), .int .i64 (atoiV p9.data.toList)]) rfl (by kernel_rfl) (by kernel_rfl) (by kernel_rfl) (fun _ _ _ h => h) (Or.inl ⟨by rfl, ?_⟩) (by assumption) ?_
                  · intro wx hSw; go_simp
                  try simp only [Act.put, List.setIfInBounds_toArray, List.set_cons_zero, List.set_cons_succ, List.getElem_toArray, List.getElem_cons_zero, List.getElem_cons_succ]
                  refine wpAnyH_ready (rs := [22]) (by kernel_rfl) (by simp) ?_
                  refine AllReadyH.cons rfl (fun K hK => ?_) AllReadyH.nil
                  · obtain ⟨z0, z1, z2, z3, z4, y0, y1, y2, y3, y4⟩ := FZ55.all
                    go_simp
                    go_wp2
                    obtain ⟨q0, q1, q2, q3, q4⟩ := put5_cells z0 z1 z2 z3 z4 (.int .i64 (atoiV p1.data.toList)) (.int .i64 (atoiV p3.data.toList)) (.int .i64 (atoiV p5.data.toList)) (.int .i64 (atoiV p7.data.toList)) (.int .i64 (atoiV p9.data.toList))
                    refine hK.out _ _ (put5_below BW53 hg43 (.int .i64 (atoiV p1.data.toList)) (.int .i64 (atoiV p3.data.toList)) (.int .i64 (atoiV p5.data.toList)) (.int .i64 (atoiV p7.data.toList)) (.int .i64 (atoiV p9.data.toList))) (fun hHeld => ?_)
                    have BW5 := put5_below BW53 hg43 (.int .i64 (atoiV p1.data.toList)) (.int .i64 (atoiV p3.data.toList)) (.int .i64 (atoiV p5.data.toList)) (.int .i64 (atoiV p7.data.toList)) (.int .i64 (atoiV p9.data.toList))
                    clear hK z0 z1 z2 z3 z4 y0 y1 y2 y3 y4 FZ55 BW53
                    try simp only [Act.put, List.setIfInBounds_toArray, List.set_cons_zero, List.set_cons_succ, List.getElem_toArray, List.getElem_cons_zero, List.getElem_cons_succ]
                    refine wpAnyH_done (by kernel_rfl) ?_ _
                    unfold put5 at q0 q1 q2 q3 q4 BW5 hHeld
                    generalize (((((W52.setCell ⟨W4.heap.size, 0, none⟩ (.int .i64 (atoiV p1.data.toList))).setCell ⟨W4.heap.size, 1, none⟩ (.int .i64 (atoiV p3.data.toList))).setCell ⟨W4.heap.size, 2, none⟩ (.int .i64 (atoiV p5.data.toList))).setCell ⟨W4.heap.size, 3, none⟩ (.int .i64 (atoiV p7.data.toList))).setCell ⟨W4.heap.size, 4, none⟩ (.int .i64 (atoiV p9.data.toList))) = W5 at *
                    have hgw : w.heap.size < W4.heap.size := by have := hz1; omega
                    have d0 : W5.cell? ⟨w.heap.size, 0, none⟩ = some (.int .i64 0) := (BW5.cell (p := ⟨w.heap.size, 0, none⟩) (by show w.heap.size < w1.heap.size; omega)).trans c0
                    have f0' : W5.frozen? ⟨w.heap.size, 0, none⟩ = false := (BW5.frozen (p := ⟨w.heap.size, 0, none⟩) (by show w.heap.size < w1.heap.size; omega)).trans f0
                    have d1 : W5.cell? ⟨w.heap.size, 1, none⟩ = some (.int .i64 0) := (BW5.cell (p := ⟨w.heap.size, 1, none⟩) (by show w.heap.size < w1.heap.size; omega)).trans c1
                    have f1' : W5.frozen? ⟨w.heap.size, 1, none⟩ = false := (BW5.frozen (p := ⟨w.heap.size, 1, none⟩) (by show w.heap.size < w1.heap.size; omega)).trans f1
                    have d2 : W5.cell? ⟨w.heap.size, 2, none⟩ = some (.int .i64 0) := (BW5.cell (p := ⟨w.heap.size, 2, none⟩) (by show w.heap.size < w1.heap.size; omega)).trans c2
                    have f2' : W5.frozen? ⟨w.heap.size, 2, none⟩ = false := (BW5.frozen (p := ⟨w.heap.size, 2, none⟩) (by show w.heap.size < w1.heap.size; omega)).trans f2
                    have d3 : W5.cell? ⟨w.heap.size, 3, none⟩ = some (.int .i64 0) := (BW5.cell (p := ⟨w.heap.size, 3, none⟩) (by show w.heap.size < w1.heap.size; omega)).trans c3
                    have f3' : W5.frozen? ⟨w.heap.size, 3, none⟩ = false := (BW5.frozen (p := ⟨w.heap.size, 3, none⟩) (by show w.heap.size < w1.heap.size; omega)).trans f3
                    have d4 : W5.cell? ⟨w.heap.size, 4, none⟩ = some (.int .i64 0) := (BW5.cell (p := ⟨w.heap.size, 4, none⟩) (by show w.heap.size < w1.heap.size; omega)).trans c4
                    have f4' : W5.frozen? ⟨w.heap.size, 4, none⟩ = false := (BW5.frozen (p := ⟨w.heap.size, 4, none⟩) (by show w.heap.size < w1.heap.size; omega)).trans f4
                    go_wp2_with fail
                    refine (text_impl _ _ _ _ _ _ ((E1.out.on BW5).tab)).mono ?_
                    rintro e W6 ⟨rfl, hb6⟩
                    have hw6 : w.heap.size < W5.heap.size := by have := BW5.size; omega
                    have hg6 : W4.heap.size < W5.heap.size := cell_lt5 q0
                    replace d0 := (hb6.cell (p := ⟨w.heap.size, 0, none⟩) hw6).trans d0
                    replace f0' := (hb6.frozen (p := ⟨w.heap.size, 0, none⟩) hw6).trans f0'
                    replace q0 := (hb6.cell (p := ⟨W4.heap.size, 0, none⟩) hg6).trans q0
                    replace d1 := (hb6.cell (p := ⟨w.heap.size, 1, none⟩) hw6).trans d1
                    replace f1' := (hb6.frozen (p := ⟨w.heap.size, 1, none⟩) hw6).trans f1'
                    replace q1 := (hb6.cell (p := ⟨W4.heap.size, 1, none⟩) hg6).trans q1
                    replace d2 := (hb6.cell (p := ⟨w.heap.size, 2, none⟩) hw6).trans d2
                    replace f2' := (hb6.frozen (p := ⟨w.heap.size, 2, none⟩) hw6).trans f2'
                    replace q2 := (hb6.cell (p := ⟨W4.heap.size, 2, none⟩) hg6).trans q2
                    replace d3 := (hb6.cell (p := ⟨w.heap.size, 3, none⟩) hw6).trans d3
                    replace f3' := (hb6.frozen (p := ⟨w.heap.size, 3, none⟩) hw6).trans f3'
                    replace q3 := (hb6.cell (p := ⟨W4.heap.size, 3, none⟩) hg6).trans q3
                    replace d4 := (hb6.cell (p := ⟨w.heap.size, 4, none⟩) hw6).trans d4
                    replace f4' := (hb6.frozen (p := ⟨w.heap.size, 4, none⟩) hw6).trans f4'
                    replace q4 := (hb6.cell (p := ⟨W4.heap.size, 4, none⟩) hg6).trans q4
                    have B6 : Below w.heap.size w W6 := (Bw1.trans (BW5.mono (Nat.le_of_lt (by omega)))).trans (hb6.mono (Nat.le_of_lt hw6))
                    clear hb6 BW5 hHeld
                    by_cases he : (textOf (atoiV p1.data.toList) (atoiV p3.data.toList) (atoiV p5.data.toList) (atoiV p7.data.toList) (atoiV p9.data.toList)) = s
                    · have he' : ((textOf (atoiV p1.data.toList) (atoiV p3.data.toList) (atoiV p5.data.toList) (atoiV p7.data.toList) (atoiV p9.data.toList)).toList == s.toList) = true := by rw [he]; simp
                      have HY : Hid (vOk s) := ⟨hs, HW.out.2, by unfold vText; rw [HV.out.1, HV.out.2.1, HV.out.2.2.1, HV.out.2.2.2.1, HV.out.2.2.2.2]; exact he⟩
                      clear he
                      go_wp2
                      obtain ⟨r0, r1, r2, r3, r4⟩ := put5_cells d0 d1 d2 d3 d4 (.int .i64 (atoiV p1.data.toList)) (.int .i64 (atoiV p3.data.toList)) (.int .i64 (atoiV p5.data.toList)) (.int .i64 (atoiV p7.data.toList)) (.int .i64 (atoiV p9.data.toList))
                      unfold put5 at r0 r1 r2 r3 r4
                      refine bodyPost_ret (v := .tuple #[.agg #[.int .i64 (atoiV p1.data.toList), .int .i64 (atoiV p3.data.toList), .int .i64 (atoiV p5.data.toList), .int .i64 (atoiV p7.data.toList), .int .i64 (atoiV p9.data.toList)], .bool true]) ?_ rfl ⟨.inl ⟨HY.out, ?_⟩, put5_below B6 (Nat.le_refl _) (.int .i64 (atoiV p1.data.toList)) (.int .i64 (atoiV p3.data.toList)) (.int .i64 (atoiV p5.data.toList)) (.int .i64 (atoiV p7.data.toList)) (.int .i64 (atoiV p9.data.toList))⟩
                      · simp [results, Tryz.results62, go_sem, r0, r1, r2, r3, r4]
                      · rw [HV.out.1, HV.out.2.1, HV.out.2.2.1, HV.out.2.2.2.1, HV.out.2.2.2.2]
                    · have he' : ((textOf (atoiV p1.data.toList) (atoiV p3.data.toList) (atoiV p5.data.toList) (atoiV p7.data.toList) (atoiV p9.data.toList)).toList == s.toList) = false := beq_eq_false_iff_ne.2 (fun e => he (text_inj e))
                      have HY : Hid (¬ vOk s) := fun h => he (by have := h.2.2; unfold vText at this; rw [HV.out.1, HV.out.2.1, HV.out.2.2.1, HV.out.2.2.2.1, HV.out.2.2.2.2] at this; exact this)
                      clear he
                      go_wp2
                      obtain ⟨r0, r1, r2, r3, r4⟩ := put5_cells d0 d1 d2 d3 d4 (.int .i64 0) (.int .i64 0) (.int .i64 0) (.int .i64 0) (.int .i64 0)
                      unfold put5 at r0 r1 r2 r3 r4
                      refine bodyPost_ret (v := .tuple #[.agg #[.int .i64 0, .int .i64 0, .int .i64 0, .int .i64 0, .int .i64 0], .bool false]) ?_ rfl ⟨.inr ⟨HY.out, rfl⟩, put5_below B6 (Nat.le_refl _) (.int .i64 0) (.int .i64 0) (.int .i64 0) (.int .i64 0) (.int .i64 0)⟩
                      simp [results, Tryz.results62, go_sem, r0, r1, r2, r3, r4]
        · have FZ58 : FiveZ (W1.alloc (.cells #[.int .i64 0, .int .i64 0, .int .i64 0, .int .i64 0, .int .i64 0] 25)) W1.heap.size := FiveZ.new _
          have BW57 := BW2.alloc BW2.size (.cells #[.int .i64 0, .int .i64 0, .int .i64 0, .int .i64 0, .int .i64 0] 25)
          have hg59 : w1.heap.size ≤ W1.heap.size := BW2.size
          go_simp
          refine hK.out _ _ BW57 (fun hHeld => ?_)
          clear hK BW2
          try simp only [Act.put, List.setIfInBounds_toArray, List.set_cons_zero, List.set_cons_succ, List.getElem_toArray, List.getElem_cons_zero, List.getElem_cons_succ]
          generalize W1.alloc (.cells #[.int .i64 0, .int .i64 0, .int .i64 0, .int .i64 0, .int .i64 0] 25) = W56 at *
          refine wpAnyH_ready (rs := [7]) (by kernel_rfl) (by simp) ?_
          refine AllReadyH.cons rfl (fun K hK => ?_) AllReadyH.nil
          · go_simp
            go_wp2_with (go_at_call 31; refine (loose p3 z3 _ (E1.out.on BW57)).mono ?_; rintro e W60 ⟨rfl, hb62⟩)
            have BW61 : Below w1.heap.size w1 W60 := BW57.trans (hb62.mono BW57.size)
            have FZ63 := FZ58.below hb62
            refine hK.out _ _ BW61 (fun hHeld => ?_)
            clear hK hb62 BW57 FZ58
            try simp only [Act.put, List.setIfInBounds_toArray, List.set_cons_zero, List.set_cons_succ, List.getElem_toArray, List.getElem_cons_zero, List.getElem_cons_succ]
            refine wpAnyH_ready (rs := [11]) (by kernel_rfl) (by simp) ?_
            refine AllReadyH.cons rfl (fun K hK => ?_) AllReadyH.nil
            · go_simp
              go_wp2_with (go_at_call 31; refine (loose p5 z5 _ (E1.out.on BW61)).mono ?_; rintro e W64 ⟨rfl, hb66⟩)
              have BW65 : Below w1.heap.size w1 W64 := BW61.trans (hb66.mono BW61.size)
              have FZ67 := FZ63.below hb66
              refine hK.out _ _ BW65 (fun hHeld => ?_)
              clear hK hb66 BW61 FZ63
              try simp only [Act.put, List.setIfInBounds_toArray, List.set_cons_zero, List.set_cons_succ, List.getElem_toArray, List.getElem_cons_zero, List.getElem_cons_succ]
              refine wpAnyH_ready (rs := [15]) (by kernel_rfl) (by simp) ?_
              refine AllReadyH.cons rfl (fun K hK => ?_) AllReadyH.nil
              · go_simp
                go_wp2_with (go_at_call 31; refine (loose p7 z7 _ (E1.out.on BW65)).mono ?_; rintro e W68 ⟨rfl, hb70⟩)
                have BW69 : Below w1.heap.size w1 W68 := BW65.trans (hb70.mono BW65.size)
                have FZ71 := FZ67.below hb70
                refine hK.out _ _ BW69 (fun hHeld => ?_)
                clear hK hb70 BW65 FZ67
                try simp only [Act.put, List.setIfInBounds_toArray, List.set_cons_zero, List.set_cons_succ, List.getElem_toArray, List.getElem_cons_zero, List.getElem_cons_succ]
                refine wpAnyH_ready (rs := [19]) (by kernel_rfl) (by simp) ?_
                refine AllReadyH.cons rfl (fun K hK => ?_) AllReadyH.nil
                · go_simp
                  go_wp2_with (go_at_call 31; refine (loose p9 z9 _ (E1.out.on BW69)).mono ?_; rintro e W72 ⟨rfl, hb74⟩)
                  have BW73 : Below w1.heap.size w1 W72 := BW69.trans (hb74.mono BW69.size)
                  have FZ75 := FZ71.below hb74
                  refine hK.out _ _ BW73 (fun hHeld => ?_)
                  clear hK hb74 BW69 FZ71
                  try simp only [Act.put, List.setIfInBounds_toArray, List.set_cons_zero, List.set_cons_succ, List.getElem_toArray, List.getElem_cons_zero, List.getElem_cons_succ]
                  refine wpAnyH_take (i := 20) (v := .agg #[.int .i64 (atoiV p1.data.toList), .int .i64 (atoiV p3.data.toList), .int .i64 (atoiV p5.data.toList), .int .i64 (atoiV p7.data.toList), .int .i64 (atoiV p9.data.toList)]) rfl (by kernel_rfl) (by kernel_rfl) (by kernel_rfl) (fun _ _ _ h => h) (Or.inl ⟨by rfl, ?_⟩) (by assumption) ?_
                  · intro wx hSw; go_simp
                  try simp only [Act.put, List.setIfInBounds_toArray, List.set_cons_zero, List.set_cons_succ, List.getElem_toArray, List.getElem_cons_zero, List.getElem_cons_succ]
                  refine wpAnyH_ready (rs := [22]) (by kernel_rfl) (by simp) ?_
                  refine AllReadyH.cons rfl (fun K hK => ?_) AllReadyH.nil
                  · obtain ⟨z0, z1, z2, z3, z4, y0, y1, y2, y3, y4⟩ := FZ75.all
                    go_simp
                    go_wp2
                    obtain ⟨q0, q1, q2, q3, q4⟩ := put5_cells z0 z1 z2 z3 z4 (.int .i64 (atoiV p1.data.toList)) (.int .i64 (atoiV p3.data.toList)) (.int .i64 (atoiV p5.data.toList)) (.int .i64 (atoiV p7.data.toList)) (.int .i64 (atoiV p9.data.toList))
                    refine hK.out _ _ (put5_below BW73 hg59 (.int .i64 (atoiV p1.data.toList)) (.int .i64 (atoiV p3.data.toList)) (.int .i64 (atoiV p5.data.toList)) (.int .i64 (atoiV p7.data.toList)) (.int .i64 (atoiV p9.data.toList))) (fun hHeld => ?_)
                    have BW5 := put5_below BW73 hg59 (.int .i64 (atoiV p1.data.toList)) (.int .i64 (atoiV p3.data.toList)) (.int .i64 (atoiV p5.data.toList)) (.int .i64 (atoiV p7.data.toList)) (.int .i64 (atoiV p9.data.toList))
                    clear hK z0 z1 z2 z3 z4 y0 y1 y2 y3 y4 FZ75 BW73
                    try simp only [Act.put, List.setIfInBounds_toArray, List.set_cons_zero, List.set_cons_succ, List.getElem_toArray, List.getElem_cons_zero, List.getElem_cons_succ]
                    refine wpAnyH_done (by kernel_rfl) ?_ _
                    unfold put5 at q0 q1 q2 q3 q4 BW5 hHeld
                    generalize (((((W72.setCell ⟨W1.heap.size, 0, none⟩ (.int .i64 (atoiV p1.data.toList))).setCell ⟨W1.heap.size, 1, none⟩ (.int .i64 (atoiV p3.data.toList))).setCell ⟨W1.heap.size, 2, none⟩ (.int .i64 (atoiV p5.data.toList))).setCell ⟨W1.heap.size, 3, none⟩ (.int .i64 (atoiV p7.data.toList))).setCell ⟨W1.heap.size, 4, none⟩ (.int .i64 (atoiV p9.data.toList))) = W5 at *
                    have hgw : w.heap.size < W1.heap.size := by have := hz1; omega
                    have d0 : W5.cell? ⟨w.heap.size, 0, none⟩ = some (.int .i64 0) := (BW5.cell (p := ⟨w.heap.size, 0, none⟩) (by show w.heap.size < w1.heap.size; omega)).trans c0
                    have f0' : W5.frozen? ⟨w.heap.size, 0, none⟩ = false := (BW5.frozen (p := ⟨w.heap.size, 0, none⟩) (by show w.heap.size < w1.heap.size; omega)).trans f0
                    have d1 : W5.cell? ⟨w.heap.size, 1, none⟩ = some (.int .i64 0) := (BW5.cell (p := ⟨w.heap.size, 1, none⟩) (by show w.heap.size < w1.heap.size; omega)).trans c1
                    have f1' : W5.frozen? ⟨w.heap.size, 1, none⟩ = false := (BW5.frozen (p := ⟨w.heap.size, 1, none⟩) (by show w.heap.size < w1.heap.size; omega)).trans f1
                    have d2 : W5.cell? ⟨w.heap.size, 2, none⟩ = some (.int .i64 0) := (BW5.cell (p := ⟨w.heap.size, 2, none⟩) (by show w.heap.size < w1.heap.size; omega)).trans c2
                    have f2' : W5.frozen? ⟨w.heap.size, 2, none⟩ = false := (BW5.frozen (p := ⟨w.heap.size, 2, none⟩) (by show w.heap.size < w1.heap.size; omega)).trans f2
                    have d3 : W5.cell? ⟨w.heap.size, 3, none⟩ = some (.int .i64 0) := (BW5.cell (p := ⟨w.heap.size, 3, none⟩) (by show w.heap.size < w1.heap.size; omega)).trans c3
                    have f3' : W5.frozen? ⟨w.heap.size, 3, none⟩ = false := (BW5.frozen (p := ⟨w.heap.size, 3, none⟩) (by show w.heap.size < w1.heap.size; omega)).trans f3
                    have d4 : W5.cell? ⟨w.heap.size, 4, none⟩ = some (.int .i64 0) := (BW5.cell (p := ⟨w.heap.size, 4, none⟩) (by show w.heap.size < w1.heap.size; omega)).trans c4
                    have f4' : W5.frozen? ⟨w.heap.size, 4, none⟩ = false := (BW5.frozen (p := ⟨w.heap.size, 4, none⟩) (by show w.heap.size < w1.heap.size; omega)).trans f4
                    go_wp2_with fail
                    refine (text_impl _ _ _ _ _ _ ((E1.out.on BW5).tab)).mono ?_
                    rintro e W6 ⟨rfl, hb6⟩
                    have hw6 : w.heap.size < W5.heap.size := by have := BW5.size; omega
                    have hg6 : W1.heap.size < W5.heap.size := cell_lt5 q0
                    replace d0 := (hb6.cell (p := ⟨w.heap.size, 0, none⟩) hw6).trans d0
                    replace f0' := (hb6.frozen (p := ⟨w.heap.size, 0, none⟩) hw6).trans f0'
                    replace q0 := (hb6.cell (p := ⟨W1.heap.size, 0, none⟩) hg6).trans q0
                    replace d1 := (hb6.cell (p := ⟨w.heap.size, 1, none⟩) hw6).trans d1
                    replace f1' := (hb6.frozen (p := ⟨w.heap.size, 1, none⟩) hw6).trans f1'
                    replace q1 := (hb6.cell (p := ⟨W1.heap.size, 1, none⟩) hg6).trans q1
                    replace d2 := (hb6.cell (p := ⟨w.heap.size, 2, none⟩) hw6).trans d2
                    replace f2' := (hb6.frozen (p := ⟨w.heap.size, 2, none⟩) hw6).trans f2'
                    replace q2 := (hb6.cell (p := ⟨W1.heap.size, 2, none⟩) hg6).trans q2
                    replace d3 := (hb6.cell (p := ⟨w.heap.size, 3, none⟩) hw6).trans d3
                    replace f3' := (hb6.frozen (p := ⟨w.heap.size, 3, none⟩) hw6).trans f3'
                    replace q3 := (hb6.cell (p := ⟨W1.heap.size, 3, none⟩) hg6).trans q3
                    replace d4 := (hb6.cell (p := ⟨w.heap.size, 4, none⟩) hw6).trans d4
                    replace f4' := (hb6.frozen (p := ⟨w.heap.size, 4, none⟩) hw6).trans f4'
                    replace q4 := (hb6.cell (p := ⟨W1.heap.size, 4, none⟩) hg6).trans q4
                    have B6 : Below w.heap.size w W6 := (Bw1.trans (BW5.mono (Nat.le_of_lt (by omega)))).trans (hb6.mono (Nat.le_of_lt hw6))
                    clear hb6 BW5 hHeld
                    by_cases he : (textOf (atoiV p1.data.toList) (atoiV p3.data.toList) (atoiV p5.data.toList) (atoiV p7.data.toList) (atoiV p9.data.toList)) = s
                    · have he' : ((textOf (atoiV p1.data.toList) (atoiV p3.data.toList) (atoiV p5.data.toList) (atoiV p7.data.toList) (atoiV p9.data.toList)).toList == s.toList) = true := by rw [he]; simp
                      have HY : Hid (vOk s) := ⟨hs, HW.out.2, by unfold vText; rw [HV.out.1, HV.out.2.1, HV.out.2.2.1, HV.out.2.2.2.1, HV.out.2.2.2.2]; exact he⟩
                      clear he
                      go_wp2
                      obtain ⟨r0, r1, r2, r3, r4⟩ := put5_cells d0 d1 d2 d3 d4 (.int .i64 (atoiV p1.data.toList)) (.int .i64 (atoiV p3.data.toList)) (.int .i64 (atoiV p5.data.toList)) (.int .i64 (atoiV p7.data.toList)) (.int .i64 (atoiV p9.data.toList))
                      unfold put5 at r0 r1 r2 r3 r4
                      refine bodyPost_ret (v := .tuple #[.agg #[.int .i64 (atoiV p1.data.toList), .int .i64 (atoiV p3.data.toList), .int .i64 (atoiV p5.data.toList), .int .i64 (atoiV p7.data.toList), .int .i64 (atoiV p9.data.toList)], .bool true]) ?_ rfl ⟨.inl ⟨HY.out, ?_⟩, put5_below B6 (Nat.le_refl _) (.int .i64 (atoiV p1.data.toList)) (.int .i64 (atoiV p3.data.toList)) (.int .i64 (atoiV p5.data.toList)) (.int .i64 (atoiV p7.data.toList)) (.int .i64 (atoiV p9.data.toList))⟩
                      · simp [results, Tryz.results62, go_sem, r0, r1, r2, r3, r4]
                      · rw [HV.out.1, HV.out.2.1, HV.out.2.2.1, HV.out.2.2.2.1, HV.out.2.2.2.2]
                    · have he' : ((textOf (atoiV p1.data.toList) (atoiV p3.data.toList) (atoiV p5.data.toList) (atoiV p7.data.toList) (atoiV p9.data.toList)).toList == s.toList) = false := beq_eq_false_iff_ne.2 (fun e => he (text_inj e))
                      have HY : Hid (¬ vOk s) := fun h => he (by have := h.2.2; unfold vText at this; rw [HV.out.1, HV.out.2.1, HV.out.2.2.1, HV.out.2.2.2.1, HV.out.2.2.2.2] at this; exact this)
                      clear he
                      go_wp2
                      obtain ⟨r0, r1, r2, r3, r4⟩ := put5_cells d0 d1 d2 d3 d4 (.int .i64 0) (.int .i64 0) (.int .i64 0) (.int .i64 0) (.int .i64 0)
                      unfold put5 at r0 r1 r2 r3 r4
                      refine bodyPost_ret (v := .tuple #[.agg #[.int .i64 0, .int .i64 0, .int .i64 0, .int .i64 0, .int .i64 0], .bool false]) ?_ rfl ⟨.inr ⟨HY.out, rfl⟩, put5_below B6 (Nat.le_refl _) (.int .i64 0) (.int .i64 0) (.int .i64 0) (.int .i64 0) (.int .i64 0)⟩
                      simp [results, Tryz.results62, go_sem, r0, r1, r2, r3, r4]
      · have FZ78 : FiveZ (W0.alloc (.cells #[.int .i64 0, .int .i64 0, .int .i64 0, .int .i64 0, .int .i64 0] 25)) W0.heap.size := FiveZ.new _
        have BW77 := BW0.alloc BW0.size (.cells #[.int .i64 0, .int .i64 0, .int .i64 0, .int .i64 0, .int .i64 0] 25)
        have hg79 : w1.heap.size ≤ W0.heap.size := BW0.size
        go_simp
        refine hK.out _ _ BW77 (fun hHeld => ?_)
        clear hK BW0
        try simp only [Act.put, List.setIfInBounds_toArray, List.set_cons_zero, List.set_cons_succ, List.getElem_toArray, List.getElem_cons_zero, List.getElem_cons_succ]
        generalize W0.alloc (.cells #[.int .i64 0, .int .i64 0, .int .i64 0, .int .i64 0, .int .i64 0] 25) = W76 at *
        refine wpAnyH_ready (rs := [3]) (by kernel_rfl) (by simp) ?_
        refine AllReadyH.cons rfl (fun K hK => ?_) AllReadyH.nil
        · go_simp
          go_wp2_with (go_at_call 31; refine (loose p1 z1 _ (E1.out.on BW77)).mono ?_; rintro e W80 ⟨rfl, hb82⟩)
          have BW81 : Below w1.heap.size w1 W80 := BW77.trans (hb82.mono BW77.size)
          have FZ83 := FZ78.below hb82
          refine hK.out _ _ BW81 (fun hHeld => ?_)
          clear hK hb82 BW77 FZ78
          try simp only [Act.put, List.setIfInBounds_toArray, List.set_cons_zero, List.set_cons_succ, List.getElem_toArray, List.getElem_cons_zero, List.getElem_cons_succ]
          refine wpAnyH_ready (rs := [7]) (by kernel_rfl) (by simp) ?_
          refine AllReadyH.cons rfl (fun K hK => ?_) AllReadyH.nil
          · go_simp
            go_wp2_with (go_at_call 31; refine (loose p3 z3 _ (E1.out.on BW81)).mono ?_; rintro e W84 ⟨rfl, hb86⟩)
            have BW85 : Below w1.heap.size w1 W84 := BW81.trans (hb86.mono BW81.size)
            have FZ87 := FZ83.below hb86
            refine hK.out _ _ BW85 (fun hHeld => ?_)
            clear hK hb86 BW81 FZ83
            try simp only [Act.put, List.setIfInBounds_toArray, List.set_cons_zero, List.set_cons_succ, List.getElem_toArray, List.getElem_cons_zero, List.getElem_cons_succ]
            refine wpAnyH_ready (rs := [11]) (by kernel_rfl) (by simp) ?_
            refine AllReadyH.cons rfl (fun K hK => ?_) AllReadyH.nil
            · go_simp
              go_wp2_with (go_at_call 31; refine (loose p5 z5 _ (E1.out.on BW85)).mono ?_; rintro e W88 ⟨rfl, hb90⟩)
              have BW89 : Below w1.heap.size w1 W88 := BW85.trans (hb90.mono BW85.size)
              have FZ91 := FZ87.below hb90
              refine hK.out _ _ BW89 (fun hHeld => ?_)
              clear hK hb90 BW85 FZ87
              try simp only [Act.put, List.setIfInBounds_toArray, List.set_cons_zero, List.set_cons_succ, List.getElem_toArray, List.getElem_cons_zero, List.getElem_cons_succ]
              refine wpAnyH_ready (rs := [15]) (by kernel_rfl) (by simp) ?_
              refine AllReadyH.cons rfl (fun K hK => ?_) AllReadyH.nil
              · go_simp
                go_wp2_with (go_at_call 31; refine (loose p7 z7 _ (E1.out.on BW89)).mono ?_; rintro e W92 ⟨rfl, hb94⟩)
                have BW93 : Below w1.heap.size w1 W92 := BW89.trans (hb94.mono BW89.size)
                have FZ95 := FZ91.below hb94
                refine hK.out _ _ BW93 (fun hHeld => ?_)
                clear hK hb94 BW89 FZ91
                try simp only [Act.put, List.setIfInBounds_toArray, List.set_cons_zero, List.set_cons_succ, List.getElem_toArray, List.getElem_cons_zero, List.getElem_cons_succ]
                refine wpAnyH_ready (rs := [19]) (by kernel_rfl) (by simp) ?_
                refine AllReadyH.cons rfl (fun K hK => ?_) AllReadyH.nil
                · go_simp
                  go_wp2_with (go_at_call 31; refine (loose p9 z9 _ (E1.out.on BW93)).mono ?_; rintro e W96 ⟨rfl, hb98⟩)
                  have BW97 : Below w1.heap.size w1 W96 := BW93.trans (hb98.mono BW93.size)
                  have FZ99 := FZ95.below hb98
                  refine hK.out _ _ BW97 (fun hHeld => ?_)
                  clear hK hb98 BW93 FZ95
                  try simp only [Act.put, List.setIfInBounds_toArray, List.set_cons_zero, List.set_cons_succ, List.getElem_toArray, List.getElem_cons_zero, List.getElem_cons_succ]
                  refine wpAnyH_take (i := 20) (v := .agg #[.int .i64 (atoiV p1.data.toList), .int .i64 (atoiV p3.data.toList), .int .i64 (atoiV p5.data.toList), .int .i64 (atoiV p7.data.toList), .int .i64 (atoiV p9.data.toList)]) rfl (by kernel_rfl) (by kernel_rfl) (by kernel_rfl) (fun _ _ _ h => h) (Or.inl ⟨by rfl, ?_⟩) (by assumption) ?_
                  · intro wx hSw; go_simp
                  try simp only [Act.put, List.setIfInBounds_toArray, List.set_cons_zero, List.set_cons_succ, List.getElem_toArray, List.getElem_cons_zero, List.getElem_cons_succ]
                  refine wpAnyH_ready (rs := [22]) (by kernel_rfl) (by simp) ?_
                  refine AllReadyH.cons rfl (fun K hK => ?_) AllReadyH.nil
                  · obtain ⟨z0, z1, z2, z3, z4, y0, y1, y2, y3, y4⟩ := FZ99.all
                    go_simp
                    go_wp2
                    obtain ⟨q0, q1, q2, q3, q4⟩ := put5_cells z0 z1 z2 z3 z4 (.int .i64 (atoiV p1.data.toList)) (.int .i64 (atoiV p3.data.toList)) (.int .i64 (atoiV p5.data.toList)) (.int .i64 (atoiV p7.data.toList)) (.int .i64 (atoiV p9.data.toList))
                    refine hK.out _ _ (put5_below BW97 hg79 (.int .i64 (atoiV p1.data.toList)) (.int .i64 (atoiV p3.data.toList)) (.int .i64 (atoiV p5.data.toList)) (.int .i64 (atoiV p7.data.toList)) (.int .i64 (atoiV p9.data.toList))) (fun hHeld => ?_)
                    have BW5 := put5_below BW97 hg79 (.int .i64 (atoiV p1.data.toList)) (.int .i64 (atoiV p3.data.toList)) (.int .i64 (atoiV p5.data.toList)) (.int .i64 (atoiV p7.data.toList)) (.int .i64 (atoiV p9.data.toList))
                    clear hK z0 z1 z2 z3 z4 y0 y1 y2 y3 y4 FZ99 BW97
                    try simp only [Act.put, List.setIfInBounds_toArray, List.set_cons_zero, List.set_cons_succ, List.getElem_toArray, List.getElem_cons_zero, List.getElem_cons_succ]
                    refine wpAnyH_done (by kernel_rfl) ?_ _
                    unfold put5 at q0 q1 q2 q3 q4 BW5 hHeld
                    generalize (((((W96.setCell ⟨W0.heap.size, 0, none⟩ (.int .i64 (atoiV p1.data.toList))).setCell ⟨W0.heap.size, 1, none⟩ (.int .i64 (atoiV p3.data.toList))).setCell ⟨W0.heap.size, 2, none⟩ (.int .i64 (atoiV p5.data.toList))).setCell ⟨W0.heap.size, 3, none⟩ (.int .i64 (atoiV p7.data.toList))).setCell ⟨W0.heap.size, 4, none⟩ (.int .i64 (atoiV p9.data.toList))) = W5 at *
                    have hgw : w.heap.size < W0.heap.size := by have := hz1; omega
                    have d0 : W5.cell? ⟨w.heap.size, 0, none⟩ = some (.int .i64 0) := (BW5.cell (p := ⟨w.heap.size, 0, none⟩) (by show w.heap.size < w1.heap.size; omega)).trans c0
                    have f0' : W5.frozen? ⟨w.heap.size, 0, none⟩ = false := (BW5.frozen (p := ⟨w.heap.size, 0, none⟩) (by show w.heap.size < w1.heap.size; omega)).trans f0
                    have d1 : W5.cell? ⟨w.heap.size, 1, none⟩ = some (.int .i64 0) := (BW5.cell (p := ⟨w.heap.size, 1, none⟩) (by show w.heap.size < w1.heap.size; omega)).trans c1
                    have f1' : W5.frozen? ⟨w.heap.size, 1, none⟩ = false := (BW5.frozen (p := ⟨w.heap.size, 1, none⟩) (by show w.heap.size < w1.heap.size; omega)).trans f1
                    have d2 : W5.cell? ⟨w.heap.size, 2, none⟩ = some (.int .i64 0) := (BW5.cell (p := ⟨w.heap.size, 2, none⟩) (by show w.heap.size < w1.heap.size; omega)).trans c2
                    have f2' : W5.frozen? ⟨w.heap.size, 2, none⟩ = false := (BW5.frozen (p := ⟨w.heap.size, 2, none⟩) (by show w.heap.size < w1.heap.size; omega)).trans f2
                    have d3 : W5.cell? ⟨w.heap.size, 3, none⟩ = some (.int .i64 0) := (BW5.cell (p := ⟨w.heap.size, 3, none⟩) (by show w.heap.size < w1.heap.size; omega)).trans c3
                    have f3' : W5.frozen? ⟨w.heap.size, 3, none⟩ = false := (BW5.frozen (p := ⟨w.heap.size, 3, none⟩) (by show w.heap.size < w1.heap.size; omega)).trans f3
                    have d4 : W5.cell? ⟨w.heap.size, 4, none⟩ = some (.int .i64 0) := (BW5.cell (p := ⟨w.heap.size, 4, none⟩) (by show w.heap.size < w1.heap.size; omega)).trans c4
                    have f4' : W5.frozen? ⟨w.heap.size, 4, none⟩ = false := (BW5.frozen (p := ⟨w.heap.size, 4, none⟩) (by show w.heap.size < w1.heap.size; omega)).trans f4
                    go_wp2_with fail
                    refine (text_impl _ _ _ _ _ _ ((E1.out.on BW5).tab)).mono ?_
                    rintro e W6 ⟨rfl, hb6⟩
                    have hw6 : w.heap.size < W5.heap.size := by have := BW5.size; omega
                    have hg6 : W0.heap.size < W5.heap.size := cell_lt5 q0
                    replace d0 := (hb6.cell (p := ⟨w.heap.size, 0, none⟩) hw6).trans d0
                    replace f0' := (hb6.frozen (p := ⟨w.heap.size, 0, none⟩) hw6).trans f0'
                    replace q0 := (hb6.cell (p := ⟨W0.heap.size, 0, none⟩) hg6).trans q0
                    replace d1 := (hb6.cell (p := ⟨w.heap.size, 1, none⟩) hw6).trans d1
                    replace f1' := (hb6.frozen (p := ⟨w.heap.size, 1, none⟩) hw6).trans f1'
                    replace q1 := (hb6.cell (p := ⟨W0.heap.size, 1, none⟩) hg6).trans q1
                    replace d2 := (hb6.cell (p := ⟨w.heap.size, 2, none⟩) hw6).trans d2
                    replace f2' := (hb6.frozen (p := ⟨w.heap.size, 2, none⟩) hw6).trans f2'
                    replace q2 := (hb6.cell (p := ⟨W0.heap.size, 2, none⟩) hg6).trans q2
                    replace d3 := (hb6.cell (p := ⟨w.heap.size, 3, none⟩) hw6).trans d3
                    replace f3' := (hb6.frozen (p := ⟨w.heap.size, 3, none⟩) hw6).trans f3'
                    replace q3 := (hb6.cell (p := ⟨W0.heap.size, 3, none⟩) hg6).trans q3
                    replace d4 := (hb6.cell (p := ⟨w.heap.size, 4, none⟩) hw6).trans d4
                    replace f4' := (hb6.frozen (p := ⟨w.heap.size, 4, none⟩) hw6).trans f4'
                    replace q4 := (hb6.cell (p := ⟨W0.heap.size, 4, none⟩) hg6).trans q4
                    have B6 : Below w.heap.size w W6 := (Bw1.trans (BW5.mono (Nat.le_of_lt (by omega)))).trans (hb6.mono (Nat.le_of_lt hw6))
                    clear hb6 BW5 hHeld
                    by_cases he : (textOf (atoiV p1.data.toList) (atoiV p3.data.toList) (atoiV p5.data.toList) (atoiV p7.data.toList) (atoiV p9.data.toList)) = s
                    · have he' : ((textOf (atoiV p1.data.toList) (atoiV p3.data.toList) (atoiV p5.data.toList) (atoiV p7.data.toList) (atoiV p9.data.toList)).toList == s.toList) = true := by rw [he]; simp
                      have HY : Hid (vOk s) := ⟨hs, HW.out.2, by unfold vText; rw [HV.out.1, HV.out.2.1, HV.out.2.2.1, HV.out.2.2.2.1, HV.out.2.2.2.2]; exact he⟩
                      clear he
                      go_wp2
                      obtain ⟨r0, r1, r2, r3, r4⟩ := put5_cells d0 d1 d2 d3 d4 (.int .i64 (atoiV p1.data.toList)) (.int .i64 (atoiV p3.data.toList)) (.int .i64 (atoiV p5.data.toList)) (.int .i64 (atoiV p7.data.toList)) (.int .i64 (atoiV p9.data.toList))
                      unfold put5 at r0 r1 r2 r3 r4
                      refine bodyPost_ret (v := .tuple #[.agg #[.int .i64 (atoiV p1.data.toList), .int .i64 (atoiV p3.data.toList), .int .i64 (atoiV p5.data.toList), .int .i64 (atoiV p7.data.toList), .int .i64 (atoiV p9.data.toList)], .bool true]) ?_ rfl ⟨.inl ⟨HY.out, ?_⟩, put5_below B6 (Nat.le_refl _) (.int .i64 (atoiV p1.data.toList)) (.int .i64 (atoiV p3.data.toList)) (.int .i64 (atoiV p5.data.toList)) (.int .i64 (atoiV p7.data.toList)) (.int .i64 (atoiV p9.data.toList))⟩
                      · simp [results, Tryz.results62, go_sem, r0, r1, r2, r3, r4]
                      · rw [HV.out.1, HV.out.2.1, HV.out.2.2.1, HV.out.2.2.2.1, HV.out.2.2.2.2]
                    · have he' : ((textOf (atoiV p1.data.toList) (atoiV p3.data.toList) (atoiV p5.data.toList) (atoiV p7.data.toList) (atoiV p9.data.toList)).toList == s.toList) = false := beq_eq_false_iff_ne.2 (fun e => he (text_inj e))
                      have HY : Hid (¬ vOk s) := fun h => he (by have := h.2.2; unfold vText at this; rw [HV.out.1, HV.out.2.1, HV.out.2.2.1, HV.out.2.2.2.1, HV.out.2.2.2.2] at this; exact this)
                      clear he
                      go_wp2
                      obtain ⟨r0, r1, r2, r3, r4⟩ := put5_cells d0 d1 d2 d3 d4 (.int .i64 0) (.int .i64 0) (.int .i64 0) (.int .i64 0) (.int .i64 0)
                      unfold put5 at r0 r1 r2 r3 r4
                      refine bodyPost_ret (v := .tuple #[.agg #[.int .i64 0, .int .i64 0, .int .i64 0, .int .i64 0, .int .i64 0], .bool false]) ?_ rfl ⟨.inr ⟨HY.out, rfl⟩, put5_below B6 (Nat.le_refl _) (.int .i64 0) (.int .i64 0) (.int .i64 0) (.int .i64 0) (.int .i64 0)⟩
                      simp [results, Tryz.results62, go_sem, r0, r1, r2, r3, r4]
    · have hne : ¬ (words s.data.toList).length = 10 := by omega
      have HY : Hid (¬ vOk s) := fun h => hne h.2.1
      have hne' : ((ps.length : Int) != 10) = true := by simp; omega
      clear hne hn hZ hcell' hps E1
      go_wp2
      obtain ⟨r0, r1, r2, r3, r4⟩ := put5_cells c0 c1 c2 c3 c4 (.int .i64 0) (.int .i64 0) (.int .i64 0) (.int .i64 0) (.int .i64 0)
      unfold put5 at r0 r1 r2 r3 r4
      refine bodyPost_ret (v := .tuple #[.agg #[.int .i64 0, .int .i64 0, .int .i64 0, .int .i64 0, .int .i64 0], .bool false]) ?_ rfl ⟨.inr ⟨HY.out, rfl⟩, put5_below Bw1 (Nat.le_refl _) (.int .i64 0) (.int .i64 0) (.int .i64 0) (.int .i64 0) (.int .i64 0)⟩
      simp [results, Tryz.results62, go_sem, r0, r1, r2, r3, r4]
  · have HY : Hid (¬ vOk s) := fun h => hs h.1
    have hs' : (100 : Int) < (s.size : Int) := by omega
    clear hE
    go_enter Tryz.func62, Tryz.ntmps62
    go_wp2
    exact bodyPost_ret (v := .tuple #[.agg #[.int .i64 0, .int .i64 0, .int .i64 0, .int .i64 0, .int .i64 0], .bool false]) (by simp [results, Tryz.results62, go_sem]) rfl ⟨.inr ⟨HY.out, rfl⟩, (Below.refl _ _).alloc (by simp) _⟩
end Go.Proofs.YtgioecjnghllhaaGreatDoor
namespace Go.Proofs.YtgioecjnghllhaaGreatDoor
open Go.RowKit
set_option linter.unusedVariables false
set_option maxRecDepth 20000
theorem text_in {i a n s l : Int} {t : ByteArray} (h : textOf i a n s l = t) (h0 : ¬ t.size = 0) : boundsB i n s l = true ∧ inB a 0 31 = true ∧ t = X9 i a n s l := by
  unfold textOf at h
  split at h
  · rename_i g; exact ⟨g.1, g.2, h.symm⟩
  · subst h; exact absurd rfl h0
/-- A text of a walker is read back by both. -/
theorem back {i a n s l : Int} (hb : boundsB i n s l = true) (ha : inB a 0 31 = true) :
    (X9 i a n s l).size ≤ 100 ∧ (words (X9 i a n s l).data.toList).length = 10 ∧
    (vF (X9 i a n s l) 1 = i ∧ vF (X9 i a n s l) 3 = a ∧ vF (X9 i a n s l) 5 = n ∧ vF (X9 i a n s l) 7 = s ∧ vF (X9 i a n s l) 9 = l) ∧
    (uF (X9 i a n s l) 1 = i ∧ uF (X9 i a n s l) 3 = a ∧ uF (X9 i a n s l) 5 = n ∧ uF (X9 i a n s l) 7 = s ∧ uF (X9 i a n s l) 9 = l) := by
  obtain ⟨hw, hs⟩ := text_words hb ha
  simp only [boundsB, Bool.and_eq_true, inB_true] at hb
  have ha' := inB_true.1 ha
  obtain ⟨⟨i1, i2⟩, ⟨n1, n2⟩, ⟨s1, s2⟩, l1, l2⟩ := hb
  obtain ⟨_, _, vi, ui⟩ := good_digits i (by omega) (by omega)
  obtain ⟨_, _, va, ua⟩ := good_digits a (by omega) (by omega)
  obtain ⟨_, _, vn, un⟩ := good_digits n (by omega) (by omega)
  obtain ⟨_, _, vs, us⟩ := good_digits s (by omega) (by omega)
  obtain ⟨_, _, vl, ul⟩ := good_digits l (by omega) (by omega)
  refine ⟨hs, by rw [hw]; rfl, ?_, ?_⟩
  · unfold vF
    rw [hw]
    exact ⟨vi, va, vn, vs, vl⟩
  · unfold uF
    rw [if_pos hs, if_pos hs, if_pos hs, if_pos hs, if_pos hs, hw]
    exact ⟨ui, ua, un, us, ul⟩
theorem agree_yes {s : ByteArray} (h : vOk s) : (¬ s.size = 0 ∧ uText s = s) ∧ (uF s 1 = vF s 1 ∧ uF s 3 = vF s 3 ∧ uF s 5 = vF s 5 ∧ uF s 7 = vF s 7 ∧ uF s 9 = vF s 9) := by
  obtain ⟨h1, h2, h3⟩ := h
  have h0 : ¬ s.size = 0 := by
    intro e
    have : s.data.toList = [] := List.eq_nil_of_length_eq_zero (by rw [size_len]; exact e)
    rw [this] at h2
    simp [words] at h2
  obtain ⟨hb, ha, e⟩ := text_in h3 h0
  obtain ⟨_, _, ⟨v1, v3, v5, v7, v9⟩, u1, u3, u5, u7, u9⟩ := back hb ha
  rw [← e] at u1 u3 u5 u7 u9
  refine ⟨⟨h0, ?_⟩, u1, u3, u5, u7, u9⟩
  unfold uText
  rw [u1, u3, u5, u7, u9]
  exact h3
theorem agree_no {s : ByteArray} (h : ¬ vOk s) : ¬ (¬ s.size = 0 ∧ uText s = s) := by
  rintro ⟨h0, h3⟩
  obtain ⟨hb, ha, e⟩ := text_in h3 h0
  obtain ⟨hs, hl, ⟨v1, v3, v5, v7, v9⟩, _⟩ := back hb ha
  rw [← e] at hs hl v1 v3 v5 v7 v9
  refine h ⟨hs, hl, ?_⟩
  unfold vText
  rw [v1, v3, v5, v7, v9]
  exact h3
theorem spec_yes (s : ByteArray) (w : World) (h : vOk s) :
    Calls Tryz.prog 21 #[.string s] w fun e w' => e = .returned (.tuple #[.agg #[.int .i64 (vF s 1), .int .i64 (vF s 3), .int .i64 (vF s 5), .int .i64 (vF s 7), .int .i64 (vF s 9)], .bool true]) ∧ Below w.heap.size w w' := by
  refine (read_spec s w).mono ?_
  obtain ⟨hy, u1, u3, u5, u7, u9⟩ := agree_yes h
  rintro e w' ⟨⟨_, _, rfl⟩ | ⟨hn, _⟩, hb⟩
  · exact ⟨by rw [u1, u3, u5, u7, u9], hb⟩
  · exact absurd hy hn
theorem spec_no (s : ByteArray) (w : World) (h : ¬ vOk s) :
    Calls Tryz.prog 21 #[.string s] w fun e w' => e = .returned (.tuple #[.agg #[.int .i64 0, .int .i64 0, .int .i64 0, .int .i64 0, .int .i64 0], .bool false]) ∧ Below w.heap.size w w' := by
  refine (read_spec s w).mono ?_
  have hn := agree_no h
  rintro e w' ⟨⟨h0, h1, _⟩ | ⟨_, rfl⟩, hb⟩
  · exact absurd ⟨h0, h1⟩ hn
  · exact ⟨rfl, hb⟩
end Go.Proofs.YtgioecjnghllhaaGreatDoor
namespace Go.Proofs.YtgioecjnghllhaaGreatDoor
open Go.RowKit
set_option linter.unusedVariables false
structure Pcl where
  pn : Int
  pk : Int
  i : Int
  a : Int
  n : Int
  s : Int
  l : Int
  pc : Int
def Pcl.val (P : Pcl) : Value := .agg #[.int .i64 P.pn, .int .i64 P.pk, .int .i64 P.i, .int .i64 P.a, .int .i64 P.n, .int .i64 P.s, .int .i64 P.l, .int .i64 P.pc]
def Pcl.text (P : Pcl) : ByteArray := pclText P.pn P.pk P.i P.a P.n P.s P.l P.pc
def nullP : Pcl := ⟨0, 0, 0, 0, 0, 0, 0, 0⟩
def COINS : ByteArray := ⟨#[99, 111, 105, 110, 115, 32]⟩
open Classical in
/-- What the program takes what stands behind the number for. -/
noncomputable def lpF (n : Int) (W : ByteArray) : Pcl :=
  if Lib.hasPrefix W.data.toList COINS.data.toList = true then ⟨n, 2, 0, 0, 0, 0, 0, atoiV (Lib.trimPrefix W.data.toList COINS.data.toList)⟩
  else if vOk W then ⟨n, 1, vF W 1, vF W 3, vF W 5, vF W 7, vF W 9, 0⟩ else ⟨n, 1, 0, 0, 0, 0, 0, 0⟩
theorem loose_list (l : List UInt8) (hl : l.length ≤ 1000) (w : World) (hE : Env w) :
    Calls Tryz.prog 31 #[.string ⟨l.toArray⟩] w fun e w' => e = .returned (.int .i64 (atoiV l)) ∧ Below w.heap.size w w' :=
  loose ⟨l.toArray⟩ (by simpa [ByteArray.size] using hl) w hE
theorem trim_len (s p : List UInt8) : (Lib.trimPrefix s p).length ≤ s.length := by
  unfold Lib.trimPrefix
  split
  · simp
  · exact Nat.le_refl _
theorem looseParcel (n : Int) (W : ByteArray) (hW : W.size ≤ 1000) (w : World) (hE : Env w) :
    Calls Tryz.prog 45 #[.int .i64 n, .string W] w fun e w' => e = .returned (lpF n W).val ∧ Below w.heap.size w w' := by
  have hlen : W.data.toList.length ≤ 1000 := by rw [size_len]; exact hW
  cases h : Lib.hasPrefix W.data.toList COINS.data.toList
  · by_cases hv : vOk W
    · skip
      have HQ : Hid (lpF n W = ⟨n, 1, vF W 1, vF W 3, vF W 5, vF W 7, vF W 9, 0⟩) := by show lpF n W = _; unfold lpF; rw [h, if_neg (by simp), if_pos hv]
      have HE : Hid (Env (w.alloc (.cells #[.int .i64 0, .int .i64 0, .int .i64 0, .int .i64 0, .int .i64 0, .int .i64 0, .int .i64 0, .int .i64 0] 27))) := hE.on ((Below.refl _ _).alloc (by simp) _)
      clear hE
      go_enter Tryz.func45, Tryz.ntmps45
      go_wp2_with fail
      refine (Tryz.strings_CutPrefix W COINS _).mono ?_
      rintro e w1 ⟨rfl, rfl⟩
      rw [h]
      go_wp2_with fail
      refine (read_impl W _ HE.out).mono ?_
      rintro e w2 ⟨hcase, hb⟩
      obtain ⟨hc, hf⟩ := bcell hb
      rcases hcase with ⟨hv2, rfl⟩ | ⟨hv2, rfl⟩
      · skip
        have hz2 : w.heap.size < w2.heap.size := by have := hb.size; simp at this; omega
        have c0 : w2.cell? ⟨w.heap.size, 0, none⟩ = some (.int .i64 0) := (hc _ 0 (by simp)).trans (by simp)
        have hne : w.heap.size ≠ w2.heap.size := by omega
        have hne' : w2.heap.size ≠ w.heap.size := by omega
        have c1 : w2.cell? ⟨w.heap.size, 1, none⟩ = some (.int .i64 0) := (hc _ 1 (by simp)).trans (by simp)
        have c2 : w2.cell? ⟨w.heap.size, 2, none⟩ = some (.int .i64 0) := (hc _ 2 (by simp)).trans (by simp)
        have c3 : w2.cell? ⟨w.heap.size, 3, none⟩ = some (.int .i64 0) := (hc _ 3 (by simp)).trans (by simp)
        have c4 : w2.cell? ⟨w.heap.size, 4, none⟩ = some (.int .i64 0) := (hc _ 4 (by simp)).trans (by simp)
        have c5 : w2.cell? ⟨w.heap.size, 5, none⟩ = some (.int .i64 0) := (hc _ 5 (by simp)).trans (by simp)
        have c6 : w2.cell? ⟨w.heap.size, 6, none⟩ = some (.int .i64 0) := (hc _ 6 (by simp)).trans (by simp)
        have c7 : w2.cell? ⟨w.heap.size, 7, none⟩ = some (.int .i64 0) := (hc _ 7 (by simp)).trans (by simp)
        have f0 : w2.frozen? ⟨w.heap.size, 0, none⟩ = false := (hf _ 0 (by simp)).trans (by simp)
        have fz : ∀ (X : World) (ob : Obj) (o : Nat), X.heap.size = w2.heap.size → (X.alloc ob).frozen? ⟨w.heap.size, o, none⟩ = X.frozen? ⟨w.heap.size, o, none⟩ := fun X ob o hX => frozen_alloc (by rw [hX]; exact hz2)
        have cz : ∀ (X : World) (ob : Obj) (o : Nat), X.heap.size = w2.heap.size → (X.alloc ob).cell? ⟨w.heap.size, o, none⟩ = X.cell? ⟨w.heap.size, o, none⟩ := fun X ob o hX => ((Below.refl _ _).alloc (Nat.le_refl _) _ : Below X.heap.size X (X.alloc ob)).cell (p := ⟨w.heap.size, o, none⟩) (by rw [hX]; exact hz2)
        have f1 : w2.frozen? ⟨w.heap.size, 1, none⟩ = false := (hf _ 1 (by simp)).trans (by simp)
        have f2 : w2.frozen? ⟨w.heap.size, 2, none⟩ = false := (hf _ 2 (by simp)).trans (by simp)
        have f3 : w2.frozen? ⟨w.heap.size, 3, none⟩ = false := (hf _ 3 (by simp)).trans (by simp)
        have f4 : w2.frozen? ⟨w.heap.size, 4, none⟩ = false := (hf _ 4 (by simp)).trans (by simp)
        have f5 : w2.frozen? ⟨w.heap.size, 5, none⟩ = false := (hf _ 5 (by simp)).trans (by simp)
        have f6 : w2.frozen? ⟨w.heap.size, 6, none⟩ = false := (hf _ 6 (by simp)).trans (by simp)
        have f7 : w2.frozen? ⟨w.heap.size, 7, none⟩ = false := (hf _ 7 (by simp)).trans (by simp)
        have HB : Hid (Below (w.alloc (.cells #[.int .i64 0, .int .i64 0, .int .i64 0, .int .i64 0, .int .i64 0, .int .i64 0, .int .i64 0, .int .i64 0] 27)).heap.size (w.alloc (.cells #[.int .i64 0, .int .i64 0, .int .i64 0, .int .i64 0, .int .i64 0, .int .i64 0, .int .i64 0, .int .i64 0] 27)) w2) := hb
        clear hc hf hb
        go_wp2
        rw [HQ.out]
        exact bodyPost_ret (v := Pcl.val ⟨n, 1, vF W 1, vF W 3, vF W 5, vF W 7, vF W 9, 0⟩) (by simp [results, Tryz.results45, go_sem, c0, c1, c2, c3, c4, c5, c6, c7, cz, Pcl.val]) rfl ⟨rfl, by refine Below.alloc ?_ (by simp [World.setCell]; omega) _; (iterate 8 (refine Below.setCell ?_ (by simp) _)); exact bthen ((Below.refl _ _).alloc (by simp) _) HB.out⟩
      · skip
        exact absurd hv hv2
    · skip
      have HQ : Hid (lpF n W = ⟨n, 1, 0, 0, 0, 0, 0, 0⟩) := by show lpF n W = _; unfold lpF; rw [h, if_neg (by simp), if_neg hv]
      have HE : Hid (Env (w.alloc (.cells #[.int .i64 0, .int .i64 0, .int .i64 0, .int .i64 0, .int .i64 0, .int .i64 0, .int .i64 0, .int .i64 0] 27))) := hE.on ((Below.refl _ _).alloc (by simp) _)
      clear hE
      go_enter Tryz.func45, Tryz.ntmps45
      go_wp2_with fail
      refine (Tryz.strings_CutPrefix W COINS _).mono ?_
      rintro e w1 ⟨rfl, rfl⟩
      rw [h]
      go_wp2_with fail
      refine (read_impl W _ HE.out).mono ?_
      rintro e w2 ⟨hcase, hb⟩
      obtain ⟨hc, hf⟩ := bcell hb
      rcases hcase with ⟨hv2, rfl⟩ | ⟨hv2, rfl⟩
      · skip
        exact absurd hv2 hv
      · skip
        have hz2 : w.heap.size < w2.heap.size := by have := hb.size; simp at this; omega
        have c0 : w2.cell? ⟨w.heap.size, 0, none⟩ = some (.int .i64 0) := (hc _ 0 (by simp)).trans (by simp)
        have hne : w.heap.size ≠ w2.heap.size := by omega
        have hne' : w2.heap.size ≠ w.heap.size := by omega
        have c1 : w2.cell? ⟨w.heap.size, 1, none⟩ = some (.int .i64 0) := (hc _ 1 (by simp)).trans (by simp)
        have c2 : w2.cell? ⟨w.heap.size, 2, none⟩ = some (.int .i64 0) := (hc _ 2 (by simp)).trans (by simp)
        have c3 : w2.cell? ⟨w.heap.size, 3, none⟩ = some (.int .i64 0) := (hc _ 3 (by simp)).trans (by simp)
        have c4 : w2.cell? ⟨w.heap.size, 4, none⟩ = some (.int .i64 0) := (hc _ 4 (by simp)).trans (by simp)
        have c5 : w2.cell? ⟨w.heap.size, 5, none⟩ = some (.int .i64 0) := (hc _ 5 (by simp)).trans (by simp)
        have c6 : w2.cell? ⟨w.heap.size, 6, none⟩ = some (.int .i64 0) := (hc _ 6 (by simp)).trans (by simp)
        have c7 : w2.cell? ⟨w.heap.size, 7, none⟩ = some (.int .i64 0) := (hc _ 7 (by simp)).trans (by simp)
        have f0 : w2.frozen? ⟨w.heap.size, 0, none⟩ = false := (hf _ 0 (by simp)).trans (by simp)
        have fz : ∀ (X : World) (ob : Obj) (o : Nat), X.heap.size = w2.heap.size → (X.alloc ob).frozen? ⟨w.heap.size, o, none⟩ = X.frozen? ⟨w.heap.size, o, none⟩ := fun X ob o hX => frozen_alloc (by rw [hX]; exact hz2)
        have cz : ∀ (X : World) (ob : Obj) (o : Nat), X.heap.size = w2.heap.size → (X.alloc ob).cell? ⟨w.heap.size, o, none⟩ = X.cell? ⟨w.heap.size, o, none⟩ := fun X ob o hX => ((Below.refl _ _).alloc (Nat.le_refl _) _ : Below X.heap.size X (X.alloc ob)).cell (p := ⟨w.heap.size, o, none⟩) (by rw [hX]; exact hz2)
        have f1 : w2.frozen? ⟨w.heap.size, 1, none⟩ = false := (hf _ 1 (by simp)).trans (by simp)
        have f2 : w2.frozen? ⟨w.heap.size, 2, none⟩ = false := (hf _ 2 (by simp)).trans (by simp)
        have f3 : w2.frozen? ⟨w.heap.size, 3, none⟩ = false := (hf _ 3 (by simp)).trans (by simp)
        have f4 : w2.frozen? ⟨w.heap.size, 4, none⟩ = false := (hf _ 4 (by simp)).trans (by simp)
        have f5 : w2.frozen? ⟨w.heap.size, 5, none⟩ = false := (hf _ 5 (by simp)).trans (by simp)
        have f6 : w2.frozen? ⟨w.heap.size, 6, none⟩ = false := (hf _ 6 (by simp)).trans (by simp)
        have f7 : w2.frozen? ⟨w.heap.size, 7, none⟩ = false := (hf _ 7 (by simp)).trans (by simp)
        have HB : Hid (Below (w.alloc (.cells #[.int .i64 0, .int .i64 0, .int .i64 0, .int .i64 0, .int .i64 0, .int .i64 0, .int .i64 0, .int .i64 0] 27)).heap.size (w.alloc (.cells #[.int .i64 0, .int .i64 0, .int .i64 0, .int .i64 0, .int .i64 0, .int .i64 0, .int .i64 0, .int .i64 0] 27)) w2) := hb
        clear hc hf hb
        go_wp2
        rw [HQ.out]
        exact bodyPost_ret (v := Pcl.val ⟨n, 1, 0, 0, 0, 0, 0, 0⟩) (by simp [results, Tryz.results45, go_sem, c0, c1, c2, c3, c4, c5, c6, c7, cz, Pcl.val]) rfl ⟨rfl, by refine Below.alloc ?_ (by simp [World.setCell]; omega) _; (iterate 8 (refine Below.setCell ?_ (by simp) _)); exact bthen ((Below.refl _ _).alloc (by simp) _) HB.out⟩
  · have HQ : Hid (lpF n W = ⟨n, 2, 0, 0, 0, 0, 0, atoiV (Lib.trimPrefix W.data.toList COINS.data.toList)⟩) := by show lpF n W = _; unfold lpF; rw [h, if_pos rfl]
    have HE : Hid (Env (w.alloc (.cells #[.int .i64 0, .int .i64 0, .int .i64 0, .int .i64 0, .int .i64 0, .int .i64 0, .int .i64 0, .int .i64 0] 27))) := hE.on ((Below.refl _ _).alloc (by simp) _)
    clear hE
    have htl : (Lib.trimPrefix W.data.toList COINS.data.toList).length ≤ 1000 := Nat.le_trans (trim_len _ _) hlen
    go_enter Tryz.func45, Tryz.ntmps45
    go_wp2_with fail
    refine (Tryz.strings_CutPrefix W COINS _).mono ?_
    rintro e w1 ⟨rfl, rfl⟩
    rw [h]
    generalize Lib.trimPrefix W.data.toList COINS.data.toList = R at *
    go_wp2_with fail
    refine (loose_list R htl _ HE.out).mono ?_
    rintro e w2 ⟨rfl, hb⟩
    obtain ⟨hc, hf⟩ := bcell hb
    go_wp2
    rw [HQ.out]
    exact bodyPost_ret (v := Pcl.val ⟨n, 2, 0, 0, 0, 0, 0, atoiV R⟩) (by simp [results, Tryz.results45, go_sem, hc, Pcl.val]) rfl ⟨rfl, by (iterate 8 (refine Below.setCell ?_ (by simp) _)); exact bthen ((Below.refl _ _).alloc (by simp) _) hb⟩
/-- The parcel that the program tries. -/
noncomputable def iP (s : ByteArray) : Pcl := lpF (atoiV (Lib.cut s.data.toList [32]).1) ⟨(Lib.cut s.data.toList [32]).2.1.toArray⟩
theorem cut_len (s : List UInt8) : (Lib.cut s [32]).1.length ≤ s.length ∧ (Lib.cut s [32]).2.1.length ≤ s.length := by
  unfold Lib.cut
  split
  · simp only [List.length_take, List.length_drop]; omega
  · simp
end Go.Proofs.YtgioecjnghllhaaGreatDoor
namespace Go.Proofs.YtgioecjnghllhaaGreatDoor
open Go.RowKit
set_option linter.unusedVariables false
theorem empty_of_size {s : ByteArray} (h : s.size = 0) : s = ⟨#[]⟩ := by
  cases s with | mk d => cases d with | mk l => simp [ByteArray.size] at h; simp [h]
theorem pread_zero (w : World) :
    Calls Tryz.prog 29 #[.string ⟨#[]⟩] w fun e w' => e = .returned (.tuple #[nullP.val, .bool false]) ∧ Below w.heap.size w w' := by
  go_enter Tryz.func29, Tryz.ntmps29
  go_wp2
  exact bodyPost_ret (v := .tuple #[nullP.val, .bool false]) (by simp [results, Tryz.results29, go_sem, nullP, Pcl.val]) rfl ⟨rfl, (Below.refl _ _).alloc (by simp) _⟩
theorem pread_long (s : ByteArray) (he : s.toList.isEmpty = false) (h : (100 : Int) < (s.size : Int)) (w : World) :
    Calls Tryz.prog 29 #[.string s] w fun e w' => e = .returned (.tuple #[nullP.val, .bool false]) ∧ Below w.heap.size w w' := by
  go_enter Tryz.func29, Tryz.ntmps29
  go_wp2
  all_goals first
    | exact bodyPost_ret (v := .tuple #[nullP.val, .bool false]) (by simp [results, Tryz.results29, go_sem, nullP, Pcl.val]) rfl ⟨rfl, (Below.refl _ _).alloc (by simp) _⟩
    | (exfalso; simp_all; done)
set_option maxHeartbeats 2000000 in
theorem pread_main (s : ByteArray) (he : s.toList.isEmpty = false) (h : (s.size : Int) ≤ 100) (w : World) (hE : Env w) :
    Calls Tryz.prog 29 #[.string s] w fun e w' => (((iP s).text.toList = s.toList ∧ e = .returned (.tuple #[(iP s).val, .bool true])) ∨ ((iP s).text.toList ≠ s.toList ∧ e = .returned (.tuple #[nullP.val, .bool false]))) ∧ Below w.heap.size w w' := by
  have HE : Hid (Env (w.alloc (.cells #[.int .i64 0, .int .i64 0, .int .i64 0, .int .i64 0, .int .i64 0, .int .i64 0, .int .i64 0, .int .i64 0] 27))) := hE.on ((Below.refl _ _).alloc (by simp) _)
  obtain ⟨⟨m, hm⟩, _⟩ := HE.out _ (Below.refl _ _)
  have HM : Hid (((w.alloc (.cells #[.int .i64 0, .int .i64 0, .int .i64 0, .int .i64 0, .int .i64 0, .int .i64 0, .int .i64 0, .int .i64 0] 27))).cell? ⟨0, 0, none⟩ = some (.int .i64 m)) := hm
  clear hE hm
  have hlen : s.data.toList.length ≤ 100 := by rw [size_len]; omega
  obtain ⟨l1, l2⟩ := cut_len s.data.toList
  go_enter Tryz.func29, Tryz.ntmps29
  go_wp2_with fail
  refine (Tryz.strings_Cut s ⟨#[32]⟩ m _ (by omega) HM.out).mono ?_
  rintro e w1 ⟨rfl, nd, rfl⟩
  have B1 : Below ((w.alloc (.cells #[.int .i64 0, .int .i64 0, .int .i64 0, .int .i64 0, .int .i64 0, .int .i64 0, .int .i64 0, .int .i64 0] 27))).heap.size ((w.alloc (.cells #[.int .i64 0, .int .i64 0, .int .i64 0, .int .i64 0, .int .i64 0, .int .i64 0, .int .i64 0, .int .i64 0] 27))) (((w.alloc (.cells #[.int .i64 0, .int .i64 0, .int .i64 0, .int .i64 0, .int .i64 0, .int .i64 0, .int .i64 0, .int .i64 0] 27))).drewN nd) := bdrewN (Below.refl _ _) nd
  rw [show (⟨#[32]⟩ : ByteArray).data.toList = [32] from rfl]
  have hiP : iP s = lpF (atoiV (Lib.cut s.data.toList [32]).1) ⟨(Lib.cut s.data.toList [32]).2.1.toArray⟩ := rfl
  have HP0 : Hid (∃ P, iP s = P ∧ P = lpF (atoiV (Lib.cut s.data.toList [32]).1) ⟨(Lib.cut s.data.toList [32]).2.1.toArray⟩) := ⟨_, rfl, hiP⟩
  clear hiP
  obtain ⟨P, hP, hiP⟩ := HP0.out
  have HP : Hid (iP s = P) := hP
  clear hP HP0
  generalize Lib.cut s.data.toList [32] = C at *
  obtain ⟨Ca, Cb, Cf⟩ := C
  simp only at l1 l2 hiP
  go_wp2_with fail
  refine (loose_list Ca (by omega) _ (HE.out.on B1)).mono ?_
  rintro e w2 ⟨rfl, hb2⟩
  have B2 := bthen B1 hb2
  go_wp2_with fail
  refine (looseParcel (atoiV Ca) ⟨Cb.toArray⟩ (by simp [ByteArray.size]; omega) _ (HE.out.on B2)).mono ?_
  rintro e w3 ⟨rfl, hb3⟩
  rw [← hiP]
  clear hiP
  have B3 := bthen B2 hb3
  obtain ⟨pn, pk, i, a, n, s1, l, pc⟩ := P
  have T3 : Hid (Lib.TabBelow Tryz.prog w3.heap.size w3 "internal/strconv.uint64pow10" .u64 Lib.pow10Tab) := fun w' h' => HE.out.tab w' (bthen B3 h')
  have B3' : Below w3.heap.size w3 (w3.alloc (.cells #[.int .i64 pn, .int .i64 pk, .int .i64 i, .int .i64 a, .int .i64 n, .int .i64 s1, .int .i64 l, .int .i64 pc] 27)) := (Below.refl _ _).alloc (Nat.le_refl _) _
  have T4 : Hid (Lib.TabBelow Tryz.prog (w3.alloc (.cells #[.int .i64 pn, .int .i64 pk, .int .i64 i, .int .i64 a, .int .i64 n, .int .i64 s1, .int .i64 l, .int .i64 pc] 27)).heap.size (w3.alloc (.cells #[.int .i64 pn, .int .i64 pk, .int .i64 i, .int .i64 a, .int .i64 n, .int .i64 s1, .int .i64 l, .int .i64 pc] 27)) "internal/strconv.uint64pow10" .u64 Lib.pow10Tab) := fun w' h' => T3.out w' (bthen B3' h')
  simp only [Pcl.val]
  go_wp2_with fail
  refine (pclText_impl _ _ _ _ _ _ _ _ _ T4.out).mono ?_
  rintro e w4 ⟨rfl, hb4⟩
  have B4 := bthen (bthen B3 B3') hb4
  obtain ⟨hc, hf⟩ := bcell B4
  obtain ⟨hcp, _⟩ := bcell hb4
  have hz4 : w.heap.size < w4.heap.size := by have := B4.size; simp at this; omega
  have c0 : w4.cell? ⟨w.heap.size, 0, none⟩ = some (.int .i64 0) := (hc _ 0 (by simp)).trans (by simp)
  have f0 : w4.frozen? ⟨w.heap.size, 0, none⟩ = false := (hf _ 0 (by simp)).trans (by simp)
  have p0 : w4.cell? ⟨w3.heap.size, 0, none⟩ = some (.int .i64 pn) := (hcp _ 0 (by simp)).trans (by simp)
  have c1 : w4.cell? ⟨w.heap.size, 1, none⟩ = some (.int .i64 0) := (hc _ 1 (by simp)).trans (by simp)
  have f1 : w4.frozen? ⟨w.heap.size, 1, none⟩ = false := (hf _ 1 (by simp)).trans (by simp)
  have p1 : w4.cell? ⟨w3.heap.size, 1, none⟩ = some (.int .i64 pk) := (hcp _ 1 (by simp)).trans (by simp)
  have c2 : w4.cell? ⟨w.heap.size, 2, none⟩ = some (.int .i64 0) := (hc _ 2 (by simp)).trans (by simp)
  have f2 : w4.frozen? ⟨w.heap.size, 2, none⟩ = false := (hf _ 2 (by simp)).trans (by simp)
  have p2 : w4.cell? ⟨w3.heap.size, 2, none⟩ = some (.int .i64 i) := (hcp _ 2 (by simp)).trans (by simp)
  have c3 : w4.cell? ⟨w.heap.size, 3, none⟩ = some (.int .i64 0) := (hc _ 3 (by simp)).trans (by simp)
  have f3 : w4.frozen? ⟨w.heap.size, 3, none⟩ = false := (hf _ 3 (by simp)).trans (by simp)
  have p3 : w4.cell? ⟨w3.heap.size, 3, none⟩ = some (.int .i64 a) := (hcp _ 3 (by simp)).trans (by simp)
  have c4 : w4.cell? ⟨w.heap.size, 4, none⟩ = some (.int .i64 0) := (hc _ 4 (by simp)).trans (by simp)
  have f4 : w4.frozen? ⟨w.heap.size, 4, none⟩ = false := (hf _ 4 (by simp)).trans (by simp)
  have p4 : w4.cell? ⟨w3.heap.size, 4, none⟩ = some (.int .i64 n) := (hcp _ 4 (by simp)).trans (by simp)
  have c5 : w4.cell? ⟨w.heap.size, 5, none⟩ = some (.int .i64 0) := (hc _ 5 (by simp)).trans (by simp)
  have f5 : w4.frozen? ⟨w.heap.size, 5, none⟩ = false := (hf _ 5 (by simp)).trans (by simp)
  have p5 : w4.cell? ⟨w3.heap.size, 5, none⟩ = some (.int .i64 s1) := (hcp _ 5 (by simp)).trans (by simp)
  have c6 : w4.cell? ⟨w.heap.size, 6, none⟩ = some (.int .i64 0) := (hc _ 6 (by simp)).trans (by simp)
  have f6 : w4.frozen? ⟨w.heap.size, 6, none⟩ = false := (hf _ 6 (by simp)).trans (by simp)
  have p6 : w4.cell? ⟨w3.heap.size, 6, none⟩ = some (.int .i64 l) := (hcp _ 6 (by simp)).trans (by simp)
  have c7 : w4.cell? ⟨w.heap.size, 7, none⟩ = some (.int .i64 0) := (hc _ 7 (by simp)).trans (by simp)
  have f7 : w4.frozen? ⟨w.heap.size, 7, none⟩ = false := (hf _ 7 (by simp)).trans (by simp)
  have p7 : w4.cell? ⟨w3.heap.size, 7, none⟩ = some (.int .i64 pc) := (hcp _ 7 (by simp)).trans (by simp)
  have HB : Hid (Below w.heap.size w w4) := bthen ((Below.refl _ _).alloc (by simp) _) B4
  clear hc hf hcp hb4 B4 B3' B3 B2 B1 hb2 hb3 T3 T4
  by_cases ht : (pclText pn pk i a n s1 l pc).toList = s.toList
  · have ht' : ((pclText pn pk i a n s1 l pc).toList == s.toList) = true := by simpa using ht
    have HT : Hid ((iP s).text.toList = s.toList) := by unfold Hid; rw [HP.out]; exact ht
    clear ht
    go_wp2
    exact bodyPost_ret (v := .tuple #[Pcl.val ⟨pn, pk, i, a, n, s1, l, pc⟩, .bool true]) (by simp [results, Tryz.results29, go_sem, c0, c1, c2, c3, c4, c5, c6, c7, Pcl.val]) rfl ⟨.inl ⟨HT.out, by rw [HP.out]⟩, by (iterate 8 (refine Below.setCell ?_ (by simp) _)); exact HB.out⟩
  · have ht' : ((pclText pn pk i a n s1 l pc).toList == s.toList) = false := by simpa using ht
    have HT : Hid ((iP s).text.toList ≠ s.toList) := by unfold Hid; rw [HP.out]; exact ht
    clear ht
    go_wp2
    exact bodyPost_ret (v := .tuple #[nullP.val, .bool false]) (by simp [results, Tryz.results29, go_sem, c0, c1, c2, c3, c4, c5, c6, c7, nullP, Pcl.val]) rfl ⟨.inr ⟨HT.out, rfl⟩, by (iterate 8 (refine Below.setCell ?_ (by simp) _)); exact HB.out⟩
end Go.Proofs.YtgioecjnghllhaaGreatDoor
namespace Go.Proofs.YtgioecjnghllhaaGreatDoor
open Go.RowKit
set_option linter.unusedVariables false
/-- What stands behind the first blank. -/
def restF : List UInt8 → List UInt8
  | [] => []
  | b :: r => if b = 32 then r else restF r
theorem rest_blank {l : List UInt8} {k : Nat} (hk : k < l.length) (h : l[k] = 32) : restF (l.drop k) = l.drop (k + 1) := by
  rw [List.drop_eq_getElem_cons hk, restF, if_pos h]
theorem rest_else {l : List UInt8} {k : Nat} (hk : k < l.length) (h : ¬ l[k] = 32) : restF (l.drop k) = restF (l.drop (k + 1)) := by
  rw [List.drop_eq_getElem_cons hk, restF, if_neg h]
theorem ext_drop (s : ByteArray) (k : Nat) : s.extract k s.size = ⟨(s.data.toList.drop k).toArray⟩ := by
  apply ByteArray.ext
  rw [ByteArray.data_extract]
  apply Array.ext'
  rw [Array.toList_extract, List.extract_eq_take_drop]
  rw [List.take_of_length_le]
  rw [List.length_drop, size_len]
  exact Nat.le_refl _
theorem rest_spec (s : ByteArray) (hs : (s.size : Int) ≤ 1000) (w : World) :
    Calls Tryz.prog 9 #[.string s] w fun e w' => e = .returned (.string ⟨(restF s.data.toList).toArray⟩) ∧ w' = w := by
  have hsl := size_len s
  go_enter Tryz.func9, Tryz.ntmps9
  go_wp2
  go_loopw [3] (fun i wr => ∃ k : Nat, k ≤ s.size ∧ .int .i64 k = i ∧ restF s.data.toList = restF (s.data.toList.drop k) ∧ w = wr) (fun i _ => s.size - (intOf i).toNat)
  case atStart => exact ⟨0, Nat.zero_le _, rfl, rfl, rfl⟩
  case round =>
    obtain ⟨k, hk, rfl, hr, rfl⟩ := hrel
    by_cases hkn : k < s.size
    · have hkn' : (k : Int) < (s.size : Int) := by omega
      have HR : Hid (restF s.data.toList = restF (s.data.toList.drop k)) := hr
      clear hr
      have hlt : k < s.data.toList.length := by rw [hsl]; exact hkn
      by_cases h32 : s.data.toList[k] = 32
      · have e32 : ((s[k]'hkn).toNat : Int) = 32 := by have : s[k]'hkn = 32 := h32; rw [this]; rfl
        have HQ : Hid (s.extract (k + 1) s.size = ⟨(restF s.data.toList).toArray⟩) := by
          unfold Hid
          rw [HR.out, rest_blank hlt h32, ext_drop]
        have e33 : (((s[k]'hkn).toNat : Int) == 32) = true := by rw [e32]; rfl
        clear h32 hlt e32 hsl
        go_wp2
        go_ret
        exact ⟨by rw [← HQ.out]; rfl, rfl⟩
      · have HN : Hid (restF s.data.toList = restF (s.data.toList.drop (k + 1))) := by
          unfold Hid
          rw [HR.out, rest_else hlt h32]
        have e33 : (((s[k]'hkn).toNat : Int) == 32) = false := by
          have : s[k]'hkn ≠ 32 := h32
          have h2 : (s[k]'hkn).toNat ≠ 32 := fun e => this (UInt8.toNat_inj.1 (by rw [e]; rfl))
          simp
          omega
        clear h32 hlt hsl
        go_wp2
        go_roundw
        case rel => exact ⟨k + 1, by omega, by go_num, HN.out, by trivial⟩
        case measure => simp [intOf]; omega
    · have : k = s.size := by omega
      have HQ : Hid (restF s.data.toList = []) := by
        unfold Hid
        rw [hr, this, ← hsl, List.drop_length]
        rfl
      subst this
      clear hr hsl
      go_wp2
      go_ret
      exact ⟨by rw [HQ.out]; rfl, rfl⟩
end Go.Proofs.YtgioecjnghllhaaGreatDoor
namespace Go.Proofs.YtgioecjnghllhaaGreatDoor
set_option maxRecDepth 20000
def goodDigits4 (n : Nat) : Bool := (Lib.decDigits n).all (fun b => b != 32) && decide ((Lib.decDigits n).length ≤ 4) && decide (atoiV (Lib.decDigits n) = n) && decide (numF (Lib.decDigits n) = n)
theorem digits_all4 : ∀ n, n < 5000 → goodDigits4 n = true := by decide +kernel
end Go.Proofs.YtgioecjnghllhaaGreatDoor
namespace Go.Proofs.YtgioecjnghllhaaGreatDoor
open Go.RowKit
set_option linter.unusedVariables false
set_option maxRecDepth 20000
theorem good_digits4 (n : Int) (h0 : 0 ≤ n) (h1 : n ≤ 4999) : (∀ b ∈ Lib.decDigits n.toNat, b ≠ 32) ∧ (Lib.decDigits n.toNat).length ≤ 4 ∧ atoiV (Lib.decDigits n.toNat) = n ∧ numF (Lib.decDigits n.toNat) = n := by
  have g := digits_all4 n.toNat (by omega)
  unfold goodDigits4 at g
  simp only [Bool.and_eq_true, decide_eq_true_eq, List.all_eq_true, bne_iff_ne] at g
  obtain ⟨⟨⟨g1, g2⟩, g3⟩, g4⟩ := g
  have e : ((n.toNat : Nat) : Int) = n := by omega
  rw [e] at g3 g4
  exact ⟨g1, g2, g3, g4⟩
theorem index_app : ∀ (x r : List UInt8), (∀ b ∈ x, b ≠ 32) → Lib.index (x ++ 32 :: r) [32] = x.length
  | [], r, _ => by simp [Lib.index]
  | b :: x, r, h => by
    have ih := index_app x r (fun c hc => h c (by simp [hc]))
    have hb : ¬ b = 32 := h b (by simp)
    have hb' : (32 == b) = false := by simp; exact fun e => hb e.symm
    have hp : [32].isPrefixOf (b :: (x ++ 32 :: r)) = false := by simp [List.isPrefixOf, hb']
    have h1 : (((x.length : Nat) : Int) == -1) = false := by simp
    simp only [List.cons_append]
    unfold Lib.index
    rw [hp, ih, h1]
    simp
theorem cut_app (x r : List UInt8) (h : ∀ b ∈ x, b ≠ 32) : Lib.cut (x ++ 32 :: r) [32] = (x, r, true) := by
  unfold Lib.cut
  rw [index_app x r h]
  have : (0 : Int) ≤ (x.length : Int) := by omega
  rw [if_pos this]
  simp
theorem rest_app : ∀ (x r : List UInt8), (∀ b ∈ x, b ≠ 32) → restF (x ++ 32 :: r) = r
  | [], r, _ => by simp [restF]
  | b :: x, r, h => by
    have ih := rest_app x r (fun c hc => h c (by simp [hc]))
    have hb : ¬ b = 32 := h b (by simp)
    simp only [List.cons_append]
    rw [restF, if_neg hb, ih]
/-- A parcel that has a text, and what its text is. -/
theorem text_forms {P : Pcl} {s : ByteArray} (h : P.text = s) (h0 : ¬ s.size = 0) :
    (0 ≤ P.pn ∧ P.pn ≤ 4999) ∧
    ((∃ i a n q l, P = ⟨P.pn, 1, i, a, n, q, l, 0⟩ ∧ boundsB i n q l = true ∧ inB a 0 31 = true ∧ s.data.toList = Lib.decDigits P.pn.toNat ++ 32 :: (X9 i a n q l).data.toList) ∨
     (∃ c, P = ⟨P.pn, 2, 0, 0, 0, 0, 0, c⟩ ∧ (1 ≤ c ∧ c ≤ 9) ∧ s.data.toList = Lib.decDigits P.pn.toNat ++ 32 :: ([99, 111, 105, 110, 115] ++ 32 :: Lib.decDigits c.toNat))) := by
  obtain ⟨pn, pk, i, a, n, q, l, pc⟩ := P
  simp only [Pcl.text] at h
  unfold pclText at h
  split at h
  · rename_i g
    obtain ⟨g1, g2⟩ := g
    have hpn : 0 ≤ pn ∧ pn ≤ 4999 := by simpa [inB] using g1
    refine ⟨hpn, ?_⟩
    by_cases c1 : pk = 1 ∧ pc = 0
    · have hc : cargoText pk i a n q l pc = textOf i a n q l := by simp [cargoText, c1]
      rw [hc] at h g2
      obtain ⟨rfl, rfl⟩ := c1
      have ht : ¬ (textOf i a n q l).size = 0 := by
        intro e
        rw [empty_of_size e] at g2
        exact g2 (by decide +kernel)
      obtain ⟨hb, ha, e⟩ := text_in (t := textOf i a n q l) rfl ht
      refine .inl ⟨i, a, n, q, l, rfl, hb, ha, ?_⟩
      rw [← h, e]
      simp [DD, ByteArray.data_append]
    · by_cases c2 : pk = 2 ∧ noWalker i a n q l = true
      · have hc : cargoText pk i a n q l pc = coinsText pc := by simp [cargoText, c2]
        rw [hc] at h g2
        obtain ⟨rfl, hw⟩ := c2
        have hz : i = 0 ∧ a = 0 ∧ n = 0 ∧ q = 0 ∧ l = 0 := by simpa [noWalker] using hw
        obtain ⟨rfl, rfl, rfl, rfl, rfl⟩ := hz
        unfold coinsText at h g2
        split at h
        · rename_i g3
          refine .inr ⟨pc, rfl, by simpa [inB] using g3, ?_⟩
          rw [← h]
          simp [DD, ByteArray.data_append]
        · rename_i g3
          rw [if_neg g3] at g2
          exact absurd (by decide +kernel) g2
      · have hc : cargoText pk i a n q l pc = ⟨#[]⟩ := by simp [cargoText, c1, c2]
        rw [hc] at g2
        exact absurd (by decide +kernel) g2
  · rw [← h] at h0
    exact absurd rfl h0
theorem eta (b : ByteArray) : (⟨b.data.toList.toArray⟩ : ByteArray) = b := by
  cases b with | mk d => simp
theorem x9_len {i a n q l : Int} (hb : boundsB i n q l = true) (ha : inB a 0 31 = true) : (X9 i a n q l).data.toList.length ≤ 60 := by
  simp only [boundsB, Bool.and_eq_true, inB_true] at hb
  have ha' := inB_true.1 ha
  obtain ⟨⟨i1, i2⟩, ⟨n1, n2⟩, ⟨s1, s2⟩, l1, l2⟩ := hb
  obtain ⟨_, zi, _, _⟩ := good_digits i (by omega) (by omega)
  obtain ⟨_, za, _, _⟩ := good_digits a (by omega) (by omega)
  obtain ⟨_, zn, _, _⟩ := good_digits n (by omega) (by omega)
  obtain ⟨_, zs, _, _⟩ := good_digits q (by omega) (by omega)
  obtain ⟨_, zl, _, _⟩ := good_digits l (by omega) (by omega)
  rw [text_list]
  simp only [List.length_append, List.length_cons, List.length_nil]
  omega
theorem x9_head (i a n q l : Int) : ∃ r, (X9 i a n q l).data.toList = 119 :: r := ⟨_, by rw [text_list]; rfl⟩
theorem x9_ok {i a n q l : Int} (hb : boundsB i n q l = true) (ha : inB a 0 31 = true) : vOk (X9 i a n q l) := by
  obtain ⟨hs, hl, ⟨v1, v3, v5, v7, v9⟩, _⟩ := back hb ha
  refine ⟨hs, hl, ?_⟩
  unfold vText
  rw [v1, v3, v5, v7, v9]
  simp [textOf, hb, ha]
/-- At a text of a parcel the program tries that parcel. -/
theorem iP_back {P : Pcl} {s : ByteArray} (h : P.text = s) (h0 : ¬ s.size = 0) : iP s = P ∧ s.size ≤ 100 := by
  obtain ⟨hpn, hf⟩ := text_forms h h0
  obtain ⟨gd, zd, vd, _⟩ := good_digits4 P.pn hpn.1 hpn.2
  rcases hf with ⟨i, a, n, q, l, hP, hb, ha, hs⟩ | ⟨c, hP, hc, hs⟩
  · constructor
    · unfold iP
      rw [hs, cut_app _ _ gd]
      simp only
      rw [vd, eta]
      unfold lpF
      have hnp : Lib.hasPrefix (X9 i a n q l).data.toList COINS.data.toList = false := by
        obtain ⟨r, e⟩ := x9_head i a n q l
        rw [e]
        rfl
      obtain ⟨_, _, ⟨v1, v3, v5, v7, v9⟩, _⟩ := back hb ha
      rw [hnp, if_neg (by simp), if_pos (x9_ok hb ha), v1, v3, v5, v7, v9]
      exact hP.symm
    · rw [← size_len, hs]
      have := x9_len hb ha
      simp only [List.length_append, List.length_cons]
      omega
  · obtain ⟨_, zc, vc, _⟩ := good_digits c (by omega) (by omega)
    constructor
    · unfold iP
      rw [hs, cut_app _ _ gd]
      simp only
      rw [vd]
      unfold lpF
      have hnp : Lib.hasPrefix ([99, 111, 105, 110, 115] ++ 32 :: Lib.decDigits c.toNat) COINS.data.toList = true := by
        simp [Lib.hasPrefix, COINS, List.isPrefixOf]
      have htp : Lib.trimPrefix ([99, 111, 105, 110, 115] ++ 32 :: Lib.decDigits c.toNat) COINS.data.toList = Lib.decDigits c.toNat := by
        unfold Lib.trimPrefix
        rw [hnp, if_pos rfl]
        simp [COINS]
      simp only
      rw [hnp, if_pos rfl, htp, vc]
      exact hP.symm
    · rw [← size_len, hs]
      simp only [List.length_append, List.length_cons, List.length_nil]
      omega
/-- What the model tries at a text of a parcel. -/
theorem sP_back {P : Pcl} {s : ByteArray} (h : P.text = s) (h0 : ¬ s.size = 0) : s.size ≤ 100 ∧ 3 ≤ (words s.data.toList).length ∧
    (((words s.data.toList).getD 1 [] = [119, 97, 108, 107, 101, 114] ∧ ∃ R : ByteArray, R = ⟨(restF s.data.toList).toArray⟩ ∧ vOk R ∧ P = ⟨uF s 0, 1, vF R 1, vF R 3, vF R 5, vF R 7, vF R 9, 0⟩) ∨
     ((words s.data.toList).getD 1 [] ≠ [119, 97, 108, 107, 101, 114] ∧ P = ⟨uF s 0, 2, 0, 0, 0, 0, 0, uF s 2⟩)) := by
  have hle := (iP_back h h0).2
  obtain ⟨hpn, hf⟩ := text_forms h h0
  obtain ⟨gd, zd, _, ud⟩ := good_digits4 P.pn hpn.1 hpn.2
  rcases hf with ⟨i, a, n, q, l, hP, hb, ha, hs⟩ | ⟨c, hP, hc, hs⟩
  · obtain ⟨hw, _⟩ := text_words hb ha
    have hws : words s.data.toList = Lib.decDigits P.pn.toNat :: tw i a n q l := by rw [hs, words_app _ _ gd, hw]
    have hu0 : uF s 0 = P.pn := by
      unfold uF
      rw [if_pos hle, hws]
      exact ud
    refine ⟨hle, by rw [hws]; simp [tw], .inl ⟨by rw [hws]; rfl, X9 i a n q l, ?_, x9_ok hb ha, ?_⟩⟩
    · rw [hs, rest_app _ _ gd, eta]
    · obtain ⟨_, _, ⟨v1, v3, v5, v7, v9⟩, _⟩ := back hb ha
      rw [hu0, v1, v3, v5, v7, v9]
      exact hP
  · obtain ⟨gc, zc, _, uc⟩ := good_digits c (by omega) (by omega)
    have hws : words s.data.toList = [Lib.decDigits P.pn.toNat, [99, 111, 105, 110, 115], Lib.decDigits c.toNat] := by
      rw [hs, words_app _ _ gd, words_app _ _ (by decide), words_last _ gc]
    have hu0 : uF s 0 = P.pn := by
      unfold uF
      rw [if_pos hle, hws]
      exact ud
    have hu2 : uF s 2 = c := by
      unfold uF
      rw [if_pos hle, hws]
      exact uc
    refine ⟨hle, by rw [hws]; simp, .inr ⟨by rw [hws]; show ([99, 111, 105, 110, 115] : List UInt8) ≠ [119, 97, 108, 107, 101, 114]; decide, ?_⟩⟩
    rw [hu0, hu2]
    exact hP
end Go.Proofs.YtgioecjnghllhaaGreatDoor
namespace Go.Proofs.YtgioecjnghllhaaGreatDoor
open Go.RowKit
set_option linter.unusedVariables false
def WALKER : List UInt8 := [119, 97, 108, 107, 101, 114]
theorem sread_long (s : ByteArray) (h : (100 : Int) < (s.size : Int)) (w : World) :
    Calls Tryz.prog 10 #[.string s] w fun e w' => e = .returned (.tuple #[nullP.val, .bool false]) ∧ Below w.heap.size w w' := by
  go_enter Tryz.func10, Tryz.ntmps10
  go_wp2_with fail
  refine (words_long s h _).mono ?_
  rintro e w1 ⟨rfl, hb1⟩
  obtain ⟨hc, hf⟩ := bcell hb1
  have c0 : w1.cell? ⟨w.heap.size, 0, none⟩ = some (.int .i64 0) := (hc _ 0 (by simp)).trans (by simp)
  have f0 : w1.frozen? ⟨w.heap.size, 0, none⟩ = false := (hf _ 0 (by simp)).trans (by simp)
  have c1 : w1.cell? ⟨w.heap.size, 1, none⟩ = some (.int .i64 0) := (hc _ 1 (by simp)).trans (by simp)
  have f1 : w1.frozen? ⟨w.heap.size, 1, none⟩ = false := (hf _ 1 (by simp)).trans (by simp)
  have c2 : w1.cell? ⟨w.heap.size, 2, none⟩ = some (.int .i64 0) := (hc _ 2 (by simp)).trans (by simp)
  have f2 : w1.frozen? ⟨w.heap.size, 2, none⟩ = false := (hf _ 2 (by simp)).trans (by simp)
  have c3 : w1.cell? ⟨w.heap.size, 3, none⟩ = some (.int .i64 0) := (hc _ 3 (by simp)).trans (by simp)
  have f3 : w1.frozen? ⟨w.heap.size, 3, none⟩ = false := (hf _ 3 (by simp)).trans (by simp)
  have c4 : w1.cell? ⟨w.heap.size, 4, none⟩ = some (.int .i64 0) := (hc _ 4 (by simp)).trans (by simp)
  have f4 : w1.frozen? ⟨w.heap.size, 4, none⟩ = false := (hf _ 4 (by simp)).trans (by simp)
  have c5 : w1.cell? ⟨w.heap.size, 5, none⟩ = some (.int .i64 0) := (hc _ 5 (by simp)).trans (by simp)
  have f5 : w1.frozen? ⟨w.heap.size, 5, none⟩ = false := (hf _ 5 (by simp)).trans (by simp)
  have c6 : w1.cell? ⟨w.heap.size, 6, none⟩ = some (.int .i64 0) := (hc _ 6 (by simp)).trans (by simp)
  have f6 : w1.frozen? ⟨w.heap.size, 6, none⟩ = false := (hf _ 6 (by simp)).trans (by simp)
  have c7 : w1.cell? ⟨w.heap.size, 7, none⟩ = some (.int .i64 0) := (hc _ 7 (by simp)).trans (by simp)
  have f7 : w1.frozen? ⟨w.heap.size, 7, none⟩ = false := (hf _ 7 (by simp)).trans (by simp)
  have HB : Hid (Below w.heap.size w w1) := bthen ((Below.refl _ _).alloc (by simp) _) hb1
  clear hc hf hb1
  go_wp2
  exact bodyPost_ret (v := .tuple #[nullP.val, .bool false]) (by simp [results, Tryz.results10, go_sem, c0, c1, c2, c3, c4, c5, c6, c7, nullP, Pcl.val]) rfl ⟨rfl, by (iterate 8 (refine Below.setCell ?_ (by simp) _)); exact HB.out⟩
theorem sread_few (s : ByteArray) (h : (s.size : Int) ≤ 100) (h3 : (words s.data.toList).length < 3) (w : World) :
    Calls Tryz.prog 10 #[.string s] w fun e w' => e = .returned (.tuple #[nullP.val, .bool false]) ∧ Below w.heap.size w w' := by
  go_enter Tryz.func10, Tryz.ntmps10
  go_wp2_with fail
  refine (words_spec s h _).mono ?_
  rintro e w1 ⟨v, rfl, ho, hb1⟩
  obtain ⟨hc, hf⟩ := bcell hb1
  have c0 : w1.cell? ⟨w.heap.size, 0, none⟩ = some (.int .i64 0) := (hc _ 0 (by simp)).trans (by simp)
  have f0 : w1.frozen? ⟨w.heap.size, 0, none⟩ = false := (hf _ 0 (by simp)).trans (by simp)
  have c1 : w1.cell? ⟨w.heap.size, 1, none⟩ = some (.int .i64 0) := (hc _ 1 (by simp)).trans (by simp)
  have f1 : w1.frozen? ⟨w.heap.size, 1, none⟩ = false := (hf _ 1 (by simp)).trans (by simp)
  have c2 : w1.cell? ⟨w.heap.size, 2, none⟩ = some (.int .i64 0) := (hc _ 2 (by simp)).trans (by simp)
  have f2 : w1.frozen? ⟨w.heap.size, 2, none⟩ = false := (hf _ 2 (by simp)).trans (by simp)
  have c3 : w1.cell? ⟨w.heap.size, 3, none⟩ = some (.int .i64 0) := (hc _ 3 (by simp)).trans (by simp)
  have f3 : w1.frozen? ⟨w.heap.size, 3, none⟩ = false := (hf _ 3 (by simp)).trans (by simp)
  have c4 : w1.cell? ⟨w.heap.size, 4, none⟩ = some (.int .i64 0) := (hc _ 4 (by simp)).trans (by simp)
  have f4 : w1.frozen? ⟨w.heap.size, 4, none⟩ = false := (hf _ 4 (by simp)).trans (by simp)
  have c5 : w1.cell? ⟨w.heap.size, 5, none⟩ = some (.int .i64 0) := (hc _ 5 (by simp)).trans (by simp)
  have f5 : w1.frozen? ⟨w.heap.size, 5, none⟩ = false := (hf _ 5 (by simp)).trans (by simp)
  have c6 : w1.cell? ⟨w.heap.size, 6, none⟩ = some (.int .i64 0) := (hc _ 6 (by simp)).trans (by simp)
  have f6 : w1.frozen? ⟨w.heap.size, 6, none⟩ = false := (hf _ 6 (by simp)).trans (by simp)
  have c7 : w1.cell? ⟨w.heap.size, 7, none⟩ = some (.int .i64 0) := (hc _ 7 (by simp)).trans (by simp)
  have f7 : w1.frozen? ⟨w.heap.size, 7, none⟩ = false := (hf _ 7 (by simp)).trans (by simp)
  have HB : Hid (Below w.heap.size w w1) := bthen ((Below.refl _ _).alloc (by simp) _) hb1
  have h3' : ((words s.data.toList).length : Int) < 3 := by omega
  rcases ho.2 with ⟨rfl, h0⟩ | ⟨g, cap, cur, rfl, _⟩
  · have : (words s.data.toList).length ≠ 0 := by obtain ⟨a, b, e⟩ := words_cons s.data.toList; rw [e]; simp
    exact absurd h0 this
  clear hc hf hb1 ho
  go_wp2
  exact bodyPost_ret (v := .tuple #[nullP.val, .bool false]) (by simp [results, Tryz.results10, go_sem, c0, c1, c2, c3, c4, c5, c6, c7, nullP, Pcl.val]) rfl ⟨rfl, by (iterate 8 (refine Below.setCell ?_ (by simp) _)); exact HB.out⟩
set_option maxHeartbeats 2000000 in
theorem sread_coins (s : ByteArray) (h : (s.size : Int) ≤ 100) (h3 : 3 ≤ (words s.data.toList).length) (hnw : (words s.data.toList).getD 1 [] ≠ WALKER) (w : World) :
    Calls Tryz.prog 10 #[.string s] w fun e w' => (((Pcl.text ⟨uF s 0, 2, 0, 0, 0, 0, 0, uF s 2⟩).toList = s.toList ∧ e = .returned (.tuple #[Pcl.val ⟨uF s 0, 2, 0, 0, 0, 0, 0, uF s 2⟩, .bool true])) ∨ ((Pcl.text ⟨uF s 0, 2, 0, 0, 0, 0, 0, uF s 2⟩).toList ≠ s.toList ∧ e = .returned (.tuple #[nullP.val, .bool false]))) ∧ Below w.heap.size w w' := by
  have hle : s.size ≤ 100 := by omega
  have wl : (words s.data.toList).length ≤ 200 := by have := wlen s.data.toList; rw [size_len] at this; omega
  obtain ⟨x1, hx1⟩ : ∃ x, (words s.data.toList)[1]? = some x := ⟨_, List.getElem?_eq_getElem (by omega)⟩
  have hx1n : x1 ≠ WALKER := by
    have : (words s.data.toList).getD 1 [] = x1 := by rw [List.getD_eq_getElem?_getD, hx1]; rfl
    rw [← this]; exact hnw
  clear hnw
  have hxx : (x1 == [119, 97, 108, 107, 101, 114]) = false := by simpa [WALKER] using hx1n
  clear hx1n
  go_enter Tryz.func10, Tryz.ntmps10
  go_wp2_with fail
  refine (words_spec s h _).mono ?_
  rintro e w1 ⟨v, rfl, ho, hb1⟩
  obtain ⟨hc, hf⟩ := bcell hb1
  have c0 : w1.cell? ⟨w.heap.size, 0, none⟩ = some (.int .i64 0) := (hc _ 0 (by simp)).trans (by simp)
  have f0 : w1.frozen? ⟨w.heap.size, 0, none⟩ = false := (hf _ 0 (by simp)).trans (by simp)
  have c1 : w1.cell? ⟨w.heap.size, 1, none⟩ = some (.int .i64 0) := (hc _ 1 (by simp)).trans (by simp)
  have f1 : w1.frozen? ⟨w.heap.size, 1, none⟩ = false := (hf _ 1 (by simp)).trans (by simp)
  have c2 : w1.cell? ⟨w.heap.size, 2, none⟩ = some (.int .i64 0) := (hc _ 2 (by simp)).trans (by simp)
  have f2 : w1.frozen? ⟨w.heap.size, 2, none⟩ = false := (hf _ 2 (by simp)).trans (by simp)
  have c3 : w1.cell? ⟨w.heap.size, 3, none⟩ = some (.int .i64 0) := (hc _ 3 (by simp)).trans (by simp)
  have f3 : w1.frozen? ⟨w.heap.size, 3, none⟩ = false := (hf _ 3 (by simp)).trans (by simp)
  have c4 : w1.cell? ⟨w.heap.size, 4, none⟩ = some (.int .i64 0) := (hc _ 4 (by simp)).trans (by simp)
  have f4 : w1.frozen? ⟨w.heap.size, 4, none⟩ = false := (hf _ 4 (by simp)).trans (by simp)
  have c5 : w1.cell? ⟨w.heap.size, 5, none⟩ = some (.int .i64 0) := (hc _ 5 (by simp)).trans (by simp)
  have f5 : w1.frozen? ⟨w.heap.size, 5, none⟩ = false := (hf _ 5 (by simp)).trans (by simp)
  have c6 : w1.cell? ⟨w.heap.size, 6, none⟩ = some (.int .i64 0) := (hc _ 6 (by simp)).trans (by simp)
  have f6 : w1.frozen? ⟨w.heap.size, 6, none⟩ = false := (hf _ 6 (by simp)).trans (by simp)
  have c7 : w1.cell? ⟨w.heap.size, 7, none⟩ = some (.int .i64 0) := (hc _ 7 (by simp)).trans (by simp)
  have f7 : w1.frozen? ⟨w.heap.size, 7, none⟩ = false := (hf _ 7 (by simp)).trans (by simp)
  have HB : Hid (Below w.heap.size w w1) := bthen ((Below.refl _ _).alloc (by simp) _) hb1
  have hz1 : w.heap.size < w1.heap.size := by have := hb1.size; simp at this; omega
  have L0 : Hid (Calls Tryz.prog 12 #[v, .int .i64 0] w1 fun e w' => e = .returned (.int .i64 (uF s 0)) ∧ w' = w1) := by
    have := at_any s h _ 0 (by omega) v w1 ho
    unfold Hid uF
    rw [if_pos hle]
    exact this
  have L2 : Hid (Calls Tryz.prog 12 #[v, .int .i64 2] w1 fun e w' => e = .returned (.int .i64 (uF s 2)) ∧ w' = w1) := by
    have := at_any s h _ 2 (by omega) v w1 ho
    unfold Hid uF
    rw [if_pos hle]
    exact this
  rcases ho.2 with ⟨rfl, h0⟩ | ⟨g, cap, cur, rfl, hg, _⟩
  · omega
  have x1c : w1.cell? ⟨g, 1, none⟩ = some (.string ⟨x1.toArray⟩) := by
    have := ho.cells (g := g) rfl 1 (.string ⟨x1.toArray⟩) (by simp [strs, hx1])
    rwa [show (⟨g, 0, none⟩ : Addr).add 1 = ⟨g, 1, none⟩ by unfold Addr.add; split <;> simp_all] at this
  have h3' : (3 : Int) ≤ ((words s.data.toList).length : Int) := by omega
  have wl' : ((words s.data.toList).length : Int) ≤ 200 := by omega
  have hglt : g < w1.heap.size := World.block_lt_of_cell? w1 _ x1c
  generalize (words s.data.toList).length = N at *
  clear hc hf hb1 ho hx1
  go_wp2_with fail
  refine (L0.out).mono ?_
  rintro e w' ⟨rfl, hw'⟩
  subst hw'
  go_wp2_with fail
  refine (L2.out).mono ?_
  rintro e w' ⟨rfl, hw'⟩
  subst hw'
  clear L0 L2
  go_wp2_with fail
  refine (pclText_spec _ _ _ _ _ _ _ _ _).mono ?_
  rintro e w4 ⟨rfl, hb4⟩
  obtain ⟨hcp, hfp⟩ := bcell hb4
  have BA : Below w'.heap.size w' (w'.alloc (.cells #[.int .i64 (uF s 0), .int .i64 2, .int .i64 0, .int .i64 0, .int .i64 0, .int .i64 0, .int .i64 0, .int .i64 (uF s 2)] 27)) := (Below.refl _ _).alloc (Nat.le_refl _) _
  have BB : Below w'.heap.size w' w4 := bthen BA hb4
  obtain ⟨hcb, hfb⟩ := bcell BB
  have k0 : w4.cell? ⟨w.heap.size, 0, none⟩ = some (.int .i64 0) := (hcb _ 0 hz1).trans c0
  have q0 : w4.frozen? ⟨w.heap.size, 0, none⟩ = false := (hfb _ 0 hz1).trans f0
  have p0 : w4.cell? ⟨w'.heap.size, 0, none⟩ = some (.int .i64 (uF s 0)) := (hcp _ 0 (by simp)).trans (by simp)
  have k1 : w4.cell? ⟨w.heap.size, 1, none⟩ = some (.int .i64 0) := (hcb _ 1 hz1).trans c1
  have q1 : w4.frozen? ⟨w.heap.size, 1, none⟩ = false := (hfb _ 1 hz1).trans f1
  have p1 : w4.cell? ⟨w'.heap.size, 1, none⟩ = some (.int .i64 2) := (hcp _ 1 (by simp)).trans (by simp)
  have k2 : w4.cell? ⟨w.heap.size, 2, none⟩ = some (.int .i64 0) := (hcb _ 2 hz1).trans c2
  have q2 : w4.frozen? ⟨w.heap.size, 2, none⟩ = false := (hfb _ 2 hz1).trans f2
  have p2 : w4.cell? ⟨w'.heap.size, 2, none⟩ = some (.int .i64 0) := (hcp _ 2 (by simp)).trans (by simp)
  have k3 : w4.cell? ⟨w.heap.size, 3, none⟩ = some (.int .i64 0) := (hcb _ 3 hz1).trans c3
  have q3 : w4.frozen? ⟨w.heap.size, 3, none⟩ = false := (hfb _ 3 hz1).trans f3
  have p3 : w4.cell? ⟨w'.heap.size, 3, none⟩ = some (.int .i64 0) := (hcp _ 3 (by simp)).trans (by simp)
  have k4 : w4.cell? ⟨w.heap.size, 4, none⟩ = some (.int .i64 0) := (hcb _ 4 hz1).trans c4
  have q4 : w4.frozen? ⟨w.heap.size, 4, none⟩ = false := (hfb _ 4 hz1).trans f4
  have p4 : w4.cell? ⟨w'.heap.size, 4, none⟩ = some (.int .i64 0) := (hcp _ 4 (by simp)).trans (by simp)
  have k5 : w4.cell? ⟨w.heap.size, 5, none⟩ = some (.int .i64 0) := (hcb _ 5 hz1).trans c5
  have q5 : w4.frozen? ⟨w.heap.size, 5, none⟩ = false := (hfb _ 5 hz1).trans f5
  have p5 : w4.cell? ⟨w'.heap.size, 5, none⟩ = some (.int .i64 0) := (hcp _ 5 (by simp)).trans (by simp)
  have k6 : w4.cell? ⟨w.heap.size, 6, none⟩ = some (.int .i64 0) := (hcb _ 6 hz1).trans c6
  have q6 : w4.frozen? ⟨w.heap.size, 6, none⟩ = false := (hfb _ 6 hz1).trans f6
  have p6 : w4.cell? ⟨w'.heap.size, 6, none⟩ = some (.int .i64 0) := (hcp _ 6 (by simp)).trans (by simp)
  have k7 : w4.cell? ⟨w.heap.size, 7, none⟩ = some (.int .i64 0) := (hcb _ 7 hz1).trans c7
  have q7 : w4.frozen? ⟨w.heap.size, 7, none⟩ = false := (hfb _ 7 hz1).trans f7
  have p7 : w4.cell? ⟨w'.heap.size, 7, none⟩ = some (.int .i64 (uF s 2)) := (hcp _ 7 (by simp)).trans (by simp)
  have HB4 : Hid (Below w.heap.size w w4) := bthen HB.out BB
  clear hcp hfp hcb hfb BA BB hb4 c0 f0 c1 f1 c2 f2 c3 f3 c4 f4 c5 f5 c6 f6 c7 f7
  by_cases ht : (pclText (uF s 0) 2 0 0 0 0 0 (uF s 2)).toList = s.toList
  · have ht' : ((pclText (uF s 0) 2 0 0 0 0 0 (uF s 2)).toList == s.toList) = true := by simpa using ht
    have HT : Hid ((pclText (uF s 0) 2 0 0 0 0 0 (uF s 2)).toList = s.toList) := ht
    clear ht
    go_wp2
    exact bodyPost_ret (v := .tuple #[Pcl.val ⟨uF s 0, 2, 0, 0, 0, 0, 0, uF s 2⟩, .bool true]) (by simp [results, Tryz.results10, go_sem, k0, k1, k2, k3, k4, k5, k6, k7, Pcl.val]) rfl ⟨.inl ⟨HT.out, rfl⟩, by (iterate 8 (refine Below.setCell ?_ (by simp) _)); exact HB4.out⟩
  · have ht' : ((pclText (uF s 0) 2 0 0 0 0 0 (uF s 2)).toList == s.toList) = false := by simpa using ht
    have HT : Hid ((pclText (uF s 0) 2 0 0 0 0 0 (uF s 2)).toList ≠ s.toList) := ht
    clear ht
    go_wp2
    exact bodyPost_ret (v := .tuple #[nullP.val, .bool false]) (by simp [results, Tryz.results10, go_sem, k0, k1, k2, k3, k4, k5, k6, k7, nullP, Pcl.val]) rfl ⟨.inr ⟨HT.out, rfl⟩, by (iterate 8 (refine Below.setCell ?_ (by simp) _)); exact HB4.out⟩
end Go.Proofs.YtgioecjnghllhaaGreatDoor
namespace Go.Proofs.YtgioecjnghllhaaGreatDoor
open Go.RowKit
set_option linter.unusedVariables false
set_option maxHeartbeats 2000000 in
theorem sread_bad (s : ByteArray) (h : (s.size : Int) ≤ 100) (h3 : 3 ≤ (words s.data.toList).length) (hnw : (words s.data.toList).getD 1 [] = WALKER) (hv : ¬ vOk ⟨(restF s.data.toList).toArray⟩) (w : World) :
    Calls Tryz.prog 10 #[.string s] w fun e w' => e = .returned (.tuple #[nullP.val, .bool false]) ∧ Below w.heap.size w w' := by
  have HV : Hid (¬ vOk ⟨(restF s.data.toList).toArray⟩) := hv
  clear hv
  have hle : s.size ≤ 100 := by omega
  have wl : (words s.data.toList).length ≤ 200 := by have := wlen s.data.toList; rw [size_len] at this; omega
  obtain ⟨x1, hx1⟩ : ∃ x, (words s.data.toList)[1]? = some x := ⟨_, List.getElem?_eq_getElem (by omega)⟩
  have hx1n : x1 = WALKER := by
    have : (words s.data.toList).getD 1 [] = x1 := by rw [List.getD_eq_getElem?_getD, hx1]; rfl
    rw [← this]; exact hnw
  clear hnw
  have hxx : (x1 == [119, 97, 108, 107, 101, 114]) = true := by simpa [WALKER] using hx1n
  clear hx1n
  go_enter Tryz.func10, Tryz.ntmps10
  go_wp2_with fail
  refine (words_spec s h _).mono ?_
  rintro e w1 ⟨v, rfl, ho, hb1⟩
  obtain ⟨hc, hf⟩ := bcell hb1
  have c0 : w1.cell? ⟨w.heap.size, 0, none⟩ = some (.int .i64 0) := (hc _ 0 (by simp)).trans (by simp)
  have f0 : w1.frozen? ⟨w.heap.size, 0, none⟩ = false := (hf _ 0 (by simp)).trans (by simp)
  have c1 : w1.cell? ⟨w.heap.size, 1, none⟩ = some (.int .i64 0) := (hc _ 1 (by simp)).trans (by simp)
  have f1 : w1.frozen? ⟨w.heap.size, 1, none⟩ = false := (hf _ 1 (by simp)).trans (by simp)
  have c2 : w1.cell? ⟨w.heap.size, 2, none⟩ = some (.int .i64 0) := (hc _ 2 (by simp)).trans (by simp)
  have f2 : w1.frozen? ⟨w.heap.size, 2, none⟩ = false := (hf _ 2 (by simp)).trans (by simp)
  have c3 : w1.cell? ⟨w.heap.size, 3, none⟩ = some (.int .i64 0) := (hc _ 3 (by simp)).trans (by simp)
  have f3 : w1.frozen? ⟨w.heap.size, 3, none⟩ = false := (hf _ 3 (by simp)).trans (by simp)
  have c4 : w1.cell? ⟨w.heap.size, 4, none⟩ = some (.int .i64 0) := (hc _ 4 (by simp)).trans (by simp)
  have f4 : w1.frozen? ⟨w.heap.size, 4, none⟩ = false := (hf _ 4 (by simp)).trans (by simp)
  have c5 : w1.cell? ⟨w.heap.size, 5, none⟩ = some (.int .i64 0) := (hc _ 5 (by simp)).trans (by simp)
  have f5 : w1.frozen? ⟨w.heap.size, 5, none⟩ = false := (hf _ 5 (by simp)).trans (by simp)
  have c6 : w1.cell? ⟨w.heap.size, 6, none⟩ = some (.int .i64 0) := (hc _ 6 (by simp)).trans (by simp)
  have f6 : w1.frozen? ⟨w.heap.size, 6, none⟩ = false := (hf _ 6 (by simp)).trans (by simp)
  have c7 : w1.cell? ⟨w.heap.size, 7, none⟩ = some (.int .i64 0) := (hc _ 7 (by simp)).trans (by simp)
  have f7 : w1.frozen? ⟨w.heap.size, 7, none⟩ = false := (hf _ 7 (by simp)).trans (by simp)
  have HB : Hid (Below w.heap.size w w1) := bthen ((Below.refl _ _).alloc (by simp) _) hb1
  have hz1 : w.heap.size < w1.heap.size := by have := hb1.size; simp at this; omega
  have L0 : Hid (Calls Tryz.prog 12 #[v, .int .i64 0] w1 fun e w' => e = .returned (.int .i64 (uF s 0)) ∧ w' = w1) := by
    have := at_any s h _ 0 (by omega) v w1 ho
    unfold Hid uF
    rw [if_pos hle]
    exact this
  have L2 : Hid (Calls Tryz.prog 12 #[v, .int .i64 2] w1 fun e w' => e = .returned (.int .i64 (uF s 2)) ∧ w' = w1) := by
    have := at_any s h _ 2 (by omega) v w1 ho
    unfold Hid uF
    rw [if_pos hle]
    exact this
  rcases ho.2 with ⟨rfl, h0⟩ | ⟨g, cap, cur, rfl, hg, _⟩
  · omega
  have x1c : w1.cell? ⟨g, 1, none⟩ = some (.string ⟨x1.toArray⟩) := by
    have := ho.cells (g := g) rfl 1 (.string ⟨x1.toArray⟩) (by simp [strs, hx1])
    rwa [show (⟨g, 0, none⟩ : Addr).add 1 = ⟨g, 1, none⟩ by unfold Addr.add; split <;> simp_all] at this
  have h3' : (3 : Int) ≤ ((words s.data.toList).length : Int) := by omega
  have wl' : ((words s.data.toList).length : Int) ≤ 200 := by omega
  have hglt : g < w1.heap.size := World.block_lt_of_cell? w1 _ x1c
  generalize hN : (words s.data.toList).length = N at *
  have HO : Hid (w1.ownsRow (w.alloc (.cells #[.int .i64 0, .int .i64 0, .int .i64 0, .int .i64 0, .int .i64 0, .int .i64 0, .int .i64 0, .int .i64 0] 27)).heap.size 9 1 (.slice (some ⟨g, 0, none⟩) N cap) N (strs (words s.data.toList))) := ho
  clear hc hf hb1 ho hx1
  go_wp2_with fail
  refine (L0.out).mono ?_
  rintro e w' ⟨rfl, hw'⟩
  subst hw'
  go_wp2_with fail
  refine (L2.out).mono ?_
  rintro e w' ⟨rfl, hw'⟩
  subst hw'
  clear L0 L2
  go_wp2_with fail
  refine (rest_spec s (by omega) _).mono ?_
  rintro e w2 ⟨rfl, rfl⟩
  go_wp2_with fail
  refine (spec_no _ _ HV.out).mono ?_
  rintro e w4 ⟨rfl, hb4⟩
  obtain ⟨hcp, hfp⟩ := bcell hb4
  have BA : Below w'.heap.size w' (w'.alloc (.cells #[.int .i64 (uF s 0), .int .i64 2, .int .i64 0, .int .i64 0, .int .i64 0, .int .i64 0, .int .i64 0, .int .i64 (uF s 2)] 27)) := (Below.refl _ _).alloc (Nat.le_refl _) _
  have BB : Below w'.heap.size w' w4 := bthen BA hb4
  obtain ⟨hcb, hfb⟩ := bcell BB
  have hz4 : w.heap.size < w4.heap.size := Nat.lt_of_lt_of_le hz1 BB.size
  have k0 : w4.cell? ⟨w.heap.size, 0, none⟩ = some (.int .i64 0) := (hcb _ 0 hz1).trans c0
  have q0 : w4.frozen? ⟨w.heap.size, 0, none⟩ = false := (hfb _ 0 hz1).trans f0
  have p0 : w4.cell? ⟨w'.heap.size, 0, none⟩ = some (.int .i64 (uF s 0)) := (hcp _ 0 (by simp)).trans (by simp)
  have k1 : w4.cell? ⟨w.heap.size, 1, none⟩ = some (.int .i64 0) := (hcb _ 1 hz1).trans c1
  have q1 : w4.frozen? ⟨w.heap.size, 1, none⟩ = false := (hfb _ 1 hz1).trans f1
  have p1 : w4.cell? ⟨w'.heap.size, 1, none⟩ = some (.int .i64 2) := (hcp _ 1 (by simp)).trans (by simp)
  have k2 : w4.cell? ⟨w.heap.size, 2, none⟩ = some (.int .i64 0) := (hcb _ 2 hz1).trans c2
  have q2 : w4.frozen? ⟨w.heap.size, 2, none⟩ = false := (hfb _ 2 hz1).trans f2
  have p2 : w4.cell? ⟨w'.heap.size, 2, none⟩ = some (.int .i64 0) := (hcp _ 2 (by simp)).trans (by simp)
  have k3 : w4.cell? ⟨w.heap.size, 3, none⟩ = some (.int .i64 0) := (hcb _ 3 hz1).trans c3
  have q3 : w4.frozen? ⟨w.heap.size, 3, none⟩ = false := (hfb _ 3 hz1).trans f3
  have p3 : w4.cell? ⟨w'.heap.size, 3, none⟩ = some (.int .i64 0) := (hcp _ 3 (by simp)).trans (by simp)
  have k4 : w4.cell? ⟨w.heap.size, 4, none⟩ = some (.int .i64 0) := (hcb _ 4 hz1).trans c4
  have q4 : w4.frozen? ⟨w.heap.size, 4, none⟩ = false := (hfb _ 4 hz1).trans f4
  have p4 : w4.cell? ⟨w'.heap.size, 4, none⟩ = some (.int .i64 0) := (hcp _ 4 (by simp)).trans (by simp)
  have k5 : w4.cell? ⟨w.heap.size, 5, none⟩ = some (.int .i64 0) := (hcb _ 5 hz1).trans c5
  have q5 : w4.frozen? ⟨w.heap.size, 5, none⟩ = false := (hfb _ 5 hz1).trans f5
  have p5 : w4.cell? ⟨w'.heap.size, 5, none⟩ = some (.int .i64 0) := (hcp _ 5 (by simp)).trans (by simp)
  have k6 : w4.cell? ⟨w.heap.size, 6, none⟩ = some (.int .i64 0) := (hcb _ 6 hz1).trans c6
  have q6 : w4.frozen? ⟨w.heap.size, 6, none⟩ = false := (hfb _ 6 hz1).trans f6
  have p6 : w4.cell? ⟨w'.heap.size, 6, none⟩ = some (.int .i64 0) := (hcp _ 6 (by simp)).trans (by simp)
  have k7 : w4.cell? ⟨w.heap.size, 7, none⟩ = some (.int .i64 0) := (hcb _ 7 hz1).trans c7
  have q7 : w4.frozen? ⟨w.heap.size, 7, none⟩ = false := (hfb _ 7 hz1).trans f7
  have p7 : w4.cell? ⟨w'.heap.size, 7, none⟩ = some (.int .i64 (uF s 2)) := (hcp _ 7 (by simp)).trans (by simp)
  have HB4 : Hid (Below w.heap.size w w4) := bthen HB.out BB
  clear hcp hfp hcb hfb BA BB hb4 c0 f0 c1 f1 c2 f2 c3 f3 c4 f4 c5 f5 c6 f6 c7 f7 HO
  have fz : ∀ (X : World) (ob : Obj) (o : Nat), X.heap.size = w4.heap.size → (X.alloc ob).frozen? ⟨w.heap.size, o, none⟩ = X.frozen? ⟨w.heap.size, o, none⟩ := fun X ob o hX => frozen_alloc (by rw [hX]; exact hz4)
  have cz : ∀ (X : World) (ob : Obj) (o : Nat), X.heap.size = w4.heap.size → (X.alloc ob).cell? ⟨w.heap.size, o, none⟩ = X.cell? ⟨w.heap.size, o, none⟩ := fun X ob o hX => ((Below.refl _ _).alloc (Nat.le_refl _) _ : Below X.heap.size X (X.alloc ob)).cell (p := ⟨w.heap.size, o, none⟩) (by rw [hX]; exact hz4)
  have hne : w.heap.size ≠ w4.heap.size := by omega
  have hne' : w4.heap.size ≠ w.heap.size := by omega
  go_wp2
  exact bodyPost_ret (v := .tuple #[nullP.val, .bool false]) (by simp [results, Tryz.results10, go_sem, k0, k1, k2, k3, k4, k5, k6, k7, cz, nullP, Pcl.val]) rfl ⟨rfl, by refine Below.alloc ?_ (by simp [World.setCell]; omega) _; (iterate 8 (refine Below.setCell ?_ (by simp) _)); exact HB4.out⟩
set_option maxHeartbeats 4000000 in
theorem sread_good (s : ByteArray) (h : (s.size : Int) ≤ 100) (h3 : 3 ≤ (words s.data.toList).length) (hnw : (words s.data.toList).getD 1 [] = WALKER) (R : ByteArray) (hR : R = ⟨(restF s.data.toList).toArray⟩) (hv : vOk R) (w : World) :
    Calls Tryz.prog 10 #[.string s] w fun e w' => (((Pcl.text ⟨uF s 0, 1, vF R 1, vF R 3, vF R 5, vF R 7, vF R 9, 0⟩).toList = s.toList ∧ e = .returned (.tuple #[Pcl.val ⟨uF s 0, 1, vF R 1, vF R 3, vF R 5, vF R 7, vF R 9, 0⟩, .bool true])) ∨ ((Pcl.text ⟨uF s 0, 1, vF R 1, vF R 3, vF R 5, vF R 7, vF R 9, 0⟩).toList ≠ s.toList ∧ e = .returned (.tuple #[nullP.val, .bool false]))) ∧ Below w.heap.size w w' := by
  have HV : Hid (vOk R) := hv
  have HRR : Hid (R = ⟨(restF s.data.toList).toArray⟩) := hR
  clear hv hR
  have hle : s.size ≤ 100 := by omega
  have wl : (words s.data.toList).length ≤ 200 := by have := wlen s.data.toList; rw [size_len] at this; omega
  obtain ⟨x1, hx1⟩ : ∃ x, (words s.data.toList)[1]? = some x := ⟨_, List.getElem?_eq_getElem (by omega)⟩
  have hx1n : x1 = WALKER := by
    have : (words s.data.toList).getD 1 [] = x1 := by rw [List.getD_eq_getElem?_getD, hx1]; rfl
    rw [← this]; exact hnw
  clear hnw
  have hxx : (x1 == [119, 97, 108, 107, 101, 114]) = true := by simpa [WALKER] using hx1n
  clear hx1n
  go_enter Tryz.func10, Tryz.ntmps10
  go_wp2_with fail
  refine (words_spec s h _).mono ?_
  rintro e w1 ⟨v, rfl, ho, hb1⟩
  obtain ⟨hc, hf⟩ := bcell hb1
  have c0 : w1.cell? ⟨w.heap.size, 0, none⟩ = some (.int .i64 0) := (hc _ 0 (by simp)).trans (by simp)
  have f0 : w1.frozen? ⟨w.heap.size, 0, none⟩ = false := (hf _ 0 (by simp)).trans (by simp)
  have c1 : w1.cell? ⟨w.heap.size, 1, none⟩ = some (.int .i64 0) := (hc _ 1 (by simp)).trans (by simp)
  have f1 : w1.frozen? ⟨w.heap.size, 1, none⟩ = false := (hf _ 1 (by simp)).trans (by simp)
  have c2 : w1.cell? ⟨w.heap.size, 2, none⟩ = some (.int .i64 0) := (hc _ 2 (by simp)).trans (by simp)
  have f2 : w1.frozen? ⟨w.heap.size, 2, none⟩ = false := (hf _ 2 (by simp)).trans (by simp)
  have c3 : w1.cell? ⟨w.heap.size, 3, none⟩ = some (.int .i64 0) := (hc _ 3 (by simp)).trans (by simp)
  have f3 : w1.frozen? ⟨w.heap.size, 3, none⟩ = false := (hf _ 3 (by simp)).trans (by simp)
  have c4 : w1.cell? ⟨w.heap.size, 4, none⟩ = some (.int .i64 0) := (hc _ 4 (by simp)).trans (by simp)
  have f4 : w1.frozen? ⟨w.heap.size, 4, none⟩ = false := (hf _ 4 (by simp)).trans (by simp)
  have c5 : w1.cell? ⟨w.heap.size, 5, none⟩ = some (.int .i64 0) := (hc _ 5 (by simp)).trans (by simp)
  have f5 : w1.frozen? ⟨w.heap.size, 5, none⟩ = false := (hf _ 5 (by simp)).trans (by simp)
  have c6 : w1.cell? ⟨w.heap.size, 6, none⟩ = some (.int .i64 0) := (hc _ 6 (by simp)).trans (by simp)
  have f6 : w1.frozen? ⟨w.heap.size, 6, none⟩ = false := (hf _ 6 (by simp)).trans (by simp)
  have c7 : w1.cell? ⟨w.heap.size, 7, none⟩ = some (.int .i64 0) := (hc _ 7 (by simp)).trans (by simp)
  have f7 : w1.frozen? ⟨w.heap.size, 7, none⟩ = false := (hf _ 7 (by simp)).trans (by simp)
  have HB : Hid (Below w.heap.size w w1) := bthen ((Below.refl _ _).alloc (by simp) _) hb1
  have hz1 : w.heap.size < w1.heap.size := by have := hb1.size; simp at this; omega
  have L0 : Hid (Calls Tryz.prog 12 #[v, .int .i64 0] w1 fun e w' => e = .returned (.int .i64 (uF s 0)) ∧ w' = w1) := by
    have := at_any s h _ 0 (by omega) v w1 ho
    unfold Hid uF
    rw [if_pos hle]
    exact this
  have L2 : Hid (Calls Tryz.prog 12 #[v, .int .i64 2] w1 fun e w' => e = .returned (.int .i64 (uF s 2)) ∧ w' = w1) := by
    have := at_any s h _ 2 (by omega) v w1 ho
    unfold Hid uF
    rw [if_pos hle]
    exact this
  rcases ho.2 with ⟨rfl, h0⟩ | ⟨g, cap, cur, rfl, hg, _⟩
  · omega
  have x1c : w1.cell? ⟨g, 1, none⟩ = some (.string ⟨x1.toArray⟩) := by
    have := ho.cells (g := g) rfl 1 (.string ⟨x1.toArray⟩) (by simp [strs, hx1])
    rwa [show (⟨g, 0, none⟩ : Addr).add 1 = ⟨g, 1, none⟩ by unfold Addr.add; split <;> simp_all] at this
  have h3' : (3 : Int) ≤ ((words s.data.toList).length : Int) := by omega
  have wl' : ((words s.data.toList).length : Int) ≤ 200 := by omega
  have hglt : g < w1.heap.size := World.block_lt_of_cell? w1 _ x1c
  generalize hN : (words s.data.toList).length = N at *
  have HO : Hid (w1.ownsRow (w.alloc (.cells #[.int .i64 0, .int .i64 0, .int .i64 0, .int .i64 0, .int .i64 0, .int .i64 0, .int .i64 0, .int .i64 0] 27)).heap.size 9 1 (.slice (some ⟨g, 0, none⟩) N cap) N (strs (words s.data.toList))) := ho
  clear hc hf hb1 ho hx1
  go_wp2_with fail
  refine (L0.out).mono ?_
  rintro e w' ⟨rfl, hw'⟩
  subst hw'
  go_wp2_with fail
  refine (L2.out).mono ?_
  rintro e w' ⟨rfl, hw'⟩
  subst hw'
  clear L0 L2
  go_wp2_with fail
  refine (rest_spec s (by omega) _).mono ?_
  rintro e w2 ⟨rfl, rfl⟩
  rw [← HRR.out]
  go_wp2_with fail
  refine (spec_yes R _ HV.out).mono ?_
  rintro e w4 ⟨rfl, hb4⟩
  obtain ⟨hcp, hfp⟩ := bcell hb4
  have BA : Below w'.heap.size w' (w'.alloc (.cells #[.int .i64 (uF s 0), .int .i64 2, .int .i64 0, .int .i64 0, .int .i64 0, .int .i64 0, .int .i64 0, .int .i64 (uF s 2)] 27)) := (Below.refl _ _).alloc (Nat.le_refl _) _
  have BB : Below w'.heap.size w' w4 := bthen BA hb4
  obtain ⟨hcb, hfb⟩ := bcell BB
  have hz4 : w.heap.size < w4.heap.size := Nat.lt_of_lt_of_le hz1 BB.size
  have hp4 : w'.heap.size < w4.heap.size := Nat.lt_of_lt_of_le (by simp) hb4.size
  have t0 : w4.frozen? ⟨w'.heap.size, 0, none⟩ = false := (hfp _ 0 (by simp)).trans (by simp)
  have t1 : w4.frozen? ⟨w'.heap.size, 1, none⟩ = false := (hfp _ 1 (by simp)).trans (by simp)
  have t2 : w4.frozen? ⟨w'.heap.size, 2, none⟩ = false := (hfp _ 2 (by simp)).trans (by simp)
  have t3 : w4.frozen? ⟨w'.heap.size, 3, none⟩ = false := (hfp _ 3 (by simp)).trans (by simp)
  have t4 : w4.frozen? ⟨w'.heap.size, 4, none⟩ = false := (hfp _ 4 (by simp)).trans (by simp)
  have t5 : w4.frozen? ⟨w'.heap.size, 5, none⟩ = false := (hfp _ 5 (by simp)).trans (by simp)
  have t6 : w4.frozen? ⟨w'.heap.size, 6, none⟩ = false := (hfp _ 6 (by simp)).trans (by simp)
  have t7 : w4.frozen? ⟨w'.heap.size, 7, none⟩ = false := (hfp _ 7 (by simp)).trans (by simp)
  have BW : Below w'.heap.size w' (w4.alloc (.cells #[.int .i64 (vF R 1), .int .i64 (vF R 3), .int .i64 (vF R 5), .int .i64 (vF R 7), .int .i64 (vF R 9)] 25)) := BB.alloc (by omega) _
  have LA : Hid (∀ w5 : World, Below (w4.alloc (.cells #[.int .i64 (vF R 1), .int .i64 (vF R 3), .int .i64 (vF R 5), .int .i64 (vF R 7), .int .i64 (vF R 9)] 25)).heap.size (w4.alloc (.cells #[.int .i64 (vF R 1), .int .i64 (vF R 3), .int .i64 (vF R 5), .int .i64 (vF R 7), .int .i64 (vF R 9)] 25)) w5 → Calls Tryz.prog 12 #[.slice (some ⟨g, 0, none⟩) N cap, .int .i64 0] w5 fun e w'' => e = .returned (.int .i64 (uF s 0)) ∧ w'' = w5) := by
    intro w5 h5
    have B5 := bthen BW h5
    have ho2 := HO.out.kept (w' := w5) (row := none) ⟨B5.os, B5.tape, B5.output, B5.size, fun k hk _ => B5.block k hk⟩ (.inr (by simp [Value.ownBlock]))
    rw [← hN] at ho2 ⊢
    have := at_any s h _ 0 (by omega) _ _ ho2
    unfold uF
    rw [if_pos hle]
    exact this
  clear BW
  have k0 : w4.cell? ⟨w.heap.size, 0, none⟩ = some (.int .i64 0) := (hcb _ 0 hz1).trans c0
  have q0 : w4.frozen? ⟨w.heap.size, 0, none⟩ = false := (hfb _ 0 hz1).trans f0
  have p0 : w4.cell? ⟨w'.heap.size, 0, none⟩ = some (.int .i64 (uF s 0)) := (hcp _ 0 (by simp)).trans (by simp)
  have k1 : w4.cell? ⟨w.heap.size, 1, none⟩ = some (.int .i64 0) := (hcb _ 1 hz1).trans c1
  have q1 : w4.frozen? ⟨w.heap.size, 1, none⟩ = false := (hfb _ 1 hz1).trans f1
  have p1 : w4.cell? ⟨w'.heap.size, 1, none⟩ = some (.int .i64 2) := (hcp _ 1 (by simp)).trans (by simp)
  have k2 : w4.cell? ⟨w.heap.size, 2, none⟩ = some (.int .i64 0) := (hcb _ 2 hz1).trans c2
  have q2 : w4.frozen? ⟨w.heap.size, 2, none⟩ = false := (hfb _ 2 hz1).trans f2
  have p2 : w4.cell? ⟨w'.heap.size, 2, none⟩ = some (.int .i64 0) := (hcp _ 2 (by simp)).trans (by simp)
  have k3 : w4.cell? ⟨w.heap.size, 3, none⟩ = some (.int .i64 0) := (hcb _ 3 hz1).trans c3
  have q3 : w4.frozen? ⟨w.heap.size, 3, none⟩ = false := (hfb _ 3 hz1).trans f3
  have p3 : w4.cell? ⟨w'.heap.size, 3, none⟩ = some (.int .i64 0) := (hcp _ 3 (by simp)).trans (by simp)
  have k4 : w4.cell? ⟨w.heap.size, 4, none⟩ = some (.int .i64 0) := (hcb _ 4 hz1).trans c4
  have q4 : w4.frozen? ⟨w.heap.size, 4, none⟩ = false := (hfb _ 4 hz1).trans f4
  have p4 : w4.cell? ⟨w'.heap.size, 4, none⟩ = some (.int .i64 0) := (hcp _ 4 (by simp)).trans (by simp)
  have k5 : w4.cell? ⟨w.heap.size, 5, none⟩ = some (.int .i64 0) := (hcb _ 5 hz1).trans c5
  have q5 : w4.frozen? ⟨w.heap.size, 5, none⟩ = false := (hfb _ 5 hz1).trans f5
  have p5 : w4.cell? ⟨w'.heap.size, 5, none⟩ = some (.int .i64 0) := (hcp _ 5 (by simp)).trans (by simp)
  have k6 : w4.cell? ⟨w.heap.size, 6, none⟩ = some (.int .i64 0) := (hcb _ 6 hz1).trans c6
  have q6 : w4.frozen? ⟨w.heap.size, 6, none⟩ = false := (hfb _ 6 hz1).trans f6
  have p6 : w4.cell? ⟨w'.heap.size, 6, none⟩ = some (.int .i64 0) := (hcp _ 6 (by simp)).trans (by simp)
  have k7 : w4.cell? ⟨w.heap.size, 7, none⟩ = some (.int .i64 0) := (hcb _ 7 hz1).trans c7
  have q7 : w4.frozen? ⟨w.heap.size, 7, none⟩ = false := (hfb _ 7 hz1).trans f7
  have p7 : w4.cell? ⟨w'.heap.size, 7, none⟩ = some (.int .i64 (uF s 2)) := (hcp _ 7 (by simp)).trans (by simp)
  have HB4 : Hid (Below w.heap.size w w4) := bthen HB.out BB
  clear hcp hfp hcb hfb BA BB hb4 c0 f0 c1 f1 c2 f2 c3 f3 c4 f4 c5 f5 c6 f6 c7 f7 HO
  have fz : ∀ (X : World) (ob : Obj) (o : Nat), X.heap.size = w4.heap.size → (X.alloc ob).frozen? ⟨w.heap.size, o, none⟩ = X.frozen? ⟨w.heap.size, o, none⟩ := fun X ob o hX => frozen_alloc (by rw [hX]; exact hz4)
  have cz : ∀ (X : World) (ob : Obj) (o : Nat), X.heap.size = w4.heap.size → (X.alloc ob).cell? ⟨w.heap.size, o, none⟩ = X.cell? ⟨w.heap.size, o, none⟩ := fun X ob o hX => ((Below.refl _ _).alloc (Nat.le_refl _) _ : Below X.heap.size X (X.alloc ob)).cell (p := ⟨w.heap.size, o, none⟩) (by rw [hX]; exact hz4)
  have fzp : ∀ (X : World) (ob : Obj) (o : Nat), X.heap.size = w4.heap.size → (X.alloc ob).frozen? ⟨w'.heap.size, o, none⟩ = X.frozen? ⟨w'.heap.size, o, none⟩ := fun X ob o hX => frozen_alloc (by rw [hX]; exact hp4)
  have czp : ∀ (X : World) (ob : Obj) (o : Nat), X.heap.size = w4.heap.size → (X.alloc ob).cell? ⟨w'.heap.size, o, none⟩ = X.cell? ⟨w'.heap.size, o, none⟩ := fun X ob o hX => ((Below.refl _ _).alloc (Nat.le_refl _) _ : Below X.heap.size X (X.alloc ob)).cell (p := ⟨w'.heap.size, o, none⟩) (by rw [hX]; exact hp4)
  have hne : w.heap.size ≠ w4.heap.size := by omega
  have hne' : w4.heap.size ≠ w.heap.size := by omega
  have hne2 : w.heap.size ≠ w'.heap.size := by omega
  have hne2' : w'.heap.size ≠ w.heap.size := by omega
  have hne3 : w'.heap.size ≠ w4.heap.size := by omega
  have hne3' : w4.heap.size ≠ w'.heap.size := by omega
  go_wp2
  go_region_with (go_at_call 12; refine (LA.out _ (by repeat (first | exact Below.refl _ _ | apply Below.drew | apply bdrewN))).mono ?_; rintro e w5 ⟨rfl, hw5⟩; subst hw5)
  all_goals
    go_wp2_with fail
    refine (pclText_spec _ _ _ _ _ _ _ _ _).mono ?_
    rintro e w5 ⟨rfl, hb5⟩
    obtain ⟨hc5, hf5⟩ := bcell hb5
    have hlw : w.heap.size < w'.heap.size := by omega
    have r0 : w5.cell? ⟨w.heap.size, 0, none⟩ = some (.int .i64 0) := (hc5 _ 0 (by simp [World.setCell]; omega)).trans (by simp [go_sem, cz, k0])
    have s0 : w5.frozen? ⟨w.heap.size, 0, none⟩ = false := (hf5 _ 0 (by simp [World.setCell]; omega)).trans (by simp [fz, q0])
    have u0 : w5.cell? ⟨w'.heap.size, 0, none⟩ = some (.int .i64 (uF s 0)) := (hc5 _ 0 (by simp [World.setCell]; omega)).trans (by simp [go_sem, czp, p0])
    have r1 : w5.cell? ⟨w.heap.size, 1, none⟩ = some (.int .i64 0) := (hc5 _ 1 (by simp [World.setCell]; omega)).trans (by simp [go_sem, cz, k1])
    have s1 : w5.frozen? ⟨w.heap.size, 1, none⟩ = false := (hf5 _ 1 (by simp [World.setCell]; omega)).trans (by simp [fz, q1])
    have u1 : w5.cell? ⟨w'.heap.size, 1, none⟩ = some (.int .i64 1) := (hc5 _ 1 (by simp [World.setCell]; omega)).trans (by simp [go_sem, czp, p1])
    have r2 : w5.cell? ⟨w.heap.size, 2, none⟩ = some (.int .i64 0) := (hc5 _ 2 (by simp [World.setCell]; omega)).trans (by simp [go_sem, cz, k2])
    have s2 : w5.frozen? ⟨w.heap.size, 2, none⟩ = false := (hf5 _ 2 (by simp [World.setCell]; omega)).trans (by simp [fz, q2])
    have u2 : w5.cell? ⟨w'.heap.size, 2, none⟩ = some (.int .i64 (vF R 1)) := (hc5 _ 2 (by simp [World.setCell]; omega)).trans (by simp [go_sem, czp, p2])
    have r3 : w5.cell? ⟨w.heap.size, 3, none⟩ = some (.int .i64 0) := (hc5 _ 3 (by simp [World.setCell]; omega)).trans (by simp [go_sem, cz, k3])
    have s3 : w5.frozen? ⟨w.heap.size, 3, none⟩ = false := (hf5 _ 3 (by simp [World.setCell]; omega)).trans (by simp [fz, q3])
    have u3 : w5.cell? ⟨w'.heap.size, 3, none⟩ = some (.int .i64 (vF R 3)) := (hc5 _ 3 (by simp [World.setCell]; omega)).trans (by simp [go_sem, czp, p3])
    have r4 : w5.cell? ⟨w.heap.size, 4, none⟩ = some (.int .i64 0) := (hc5 _ 4 (by simp [World.setCell]; omega)).trans (by simp [go_sem, cz, k4])
    have s4 : w5.frozen? ⟨w.heap.size, 4, none⟩ = false := (hf5 _ 4 (by simp [World.setCell]; omega)).trans (by simp [fz, q4])
    have u4 : w5.cell? ⟨w'.heap.size, 4, none⟩ = some (.int .i64 (vF R 5)) := (hc5 _ 4 (by simp [World.setCell]; omega)).trans (by simp [go_sem, czp, p4])
    have r5 : w5.cell? ⟨w.heap.size, 5, none⟩ = some (.int .i64 0) := (hc5 _ 5 (by simp [World.setCell]; omega)).trans (by simp [go_sem, cz, k5])
    have s5 : w5.frozen? ⟨w.heap.size, 5, none⟩ = false := (hf5 _ 5 (by simp [World.setCell]; omega)).trans (by simp [fz, q5])
    have u5 : w5.cell? ⟨w'.heap.size, 5, none⟩ = some (.int .i64 (vF R 7)) := (hc5 _ 5 (by simp [World.setCell]; omega)).trans (by simp [go_sem, czp, p5])
    have r6 : w5.cell? ⟨w.heap.size, 6, none⟩ = some (.int .i64 0) := (hc5 _ 6 (by simp [World.setCell]; omega)).trans (by simp [go_sem, cz, k6])
    have s6 : w5.frozen? ⟨w.heap.size, 6, none⟩ = false := (hf5 _ 6 (by simp [World.setCell]; omega)).trans (by simp [fz, q6])
    have u6 : w5.cell? ⟨w'.heap.size, 6, none⟩ = some (.int .i64 (vF R 9)) := (hc5 _ 6 (by simp [World.setCell]; omega)).trans (by simp [go_sem, czp, p6])
    have r7 : w5.cell? ⟨w.heap.size, 7, none⟩ = some (.int .i64 0) := (hc5 _ 7 (by simp [World.setCell]; omega)).trans (by simp [go_sem, cz, k7])
    have s7 : w5.frozen? ⟨w.heap.size, 7, none⟩ = false := (hf5 _ 7 (by simp [World.setCell]; omega)).trans (by simp [fz, q7])
    have u7 : w5.cell? ⟨w'.heap.size, 7, none⟩ = some (.int .i64 0) := (hc5 _ 7 (by simp [World.setCell]; omega)).trans (by simp [go_sem, czp, p7])
    have HB5 : Hid (Below w.heap.size w w5) := by
      refine bthen (Below.drew ?_) hb5
      refine Below.alloc ?_ (by simp [World.setCell]; omega) _
      iterate 8 (refine Below.setCell ?_ (Nat.le_of_lt hlw) _)
      exact HB4.out
    clear hc5 hf5 hb5 fz cz fzp czp k0 q0 p0 t0 k1 q1 p1 t1 k2 q2 p2 t2 k3 q3 p3 t3 k4 q4 p4 t4 k5 q5 p5 t5 k6 q6 p6 t6 k7 q7 p7 t7
    by_cases ht : (pclText (uF s 0) 1 (vF R 1) (vF R 3) (vF R 5) (vF R 7) (vF R 9) 0).toList = s.toList
    · have ht' : ((pclText (uF s 0) 1 (vF R 1) (vF R 3) (vF R 5) (vF R 7) (vF R 9) 0).toList == s.toList) = true := by simpa using ht
      have HT : Hid ((pclText (uF s 0) 1 (vF R 1) (vF R 3) (vF R 5) (vF R 7) (vF R 9) 0).toList = s.toList) := ht
      clear ht
      go_wp2
      exact bodyPost_ret (v := .tuple #[Pcl.val ⟨uF s 0, 1, vF R 1, vF R 3, vF R 5, vF R 7, vF R 9, 0⟩, .bool true]) (by simp [results, Tryz.results10, go_sem, r0, r1, r2, r3, r4, r5, r6, r7, Pcl.val]) rfl ⟨.inl ⟨HT.out, rfl⟩, by (iterate 8 (refine Below.setCell ?_ (by simp) _)); exact HB5.out⟩
    · have ht' : ((pclText (uF s 0) 1 (vF R 1) (vF R 3) (vF R 5) (vF R 7) (vF R 9) 0).toList == s.toList) = false := by simpa using ht
      have HT : Hid ((pclText (uF s 0) 1 (vF R 1) (vF R 3) (vF R 5) (vF R 7) (vF R 9) 0).toList ≠ s.toList) := ht
      clear ht
      go_wp2
      exact bodyPost_ret (v := .tuple #[nullP.val, .bool false]) (by simp [results, Tryz.results10, go_sem, r0, r1, r2, r3, r4, r5, r6, r7, nullP, Pcl.val]) rfl ⟨.inr ⟨HT.out, rfl⟩, by (iterate 8 (refine Below.setCell ?_ (by simp) _)); exact HB5.out⟩
end Go.Proofs.YtgioecjnghllhaaGreatDoor
namespace Go.Proofs.YtgioecjnghllhaaGreatDoor
open Go.RowKit
set_option linter.unusedVariables false
theorem nonempty_of_size {s : ByteArray} (h : ¬ s.size = 0) : s.toList.isEmpty = false := by
  cases e : s.toList.isEmpty
  · rfl
  · exact absurd (by
      have h1 : s.toList = [] := by simpa using e
      have h2 : s = ⟨#[]⟩ := text_inj (by rw [h1]; decide +kernel)
      rw [h2]; rfl) h
theorem iread_yes {P : Pcl} {s : ByteArray} (h : P.text = s) (h0 : ¬ s.size = 0) (w : World) (hE : Env w) :
    Calls Tryz.prog 29 #[.string s] w fun e w' => e = .returned (.tuple #[P.val, .bool true]) ∧ Below w.heap.size w w' := by
  obtain ⟨hi, hle⟩ := iP_back h h0
  refine (pread_main s (nonempty_of_size h0) (by omega) w hE).mono ?_
  rw [hi]
  rintro e w' ⟨⟨_, rfl⟩ | ⟨hn, _⟩, hb⟩
  · exact ⟨rfl, hb⟩
  · exact absurd (by rw [h]) hn
theorem iread_no {s : ByteArray} (h : ∀ P : Pcl, P.text = s → s.size = 0) (w : World) (hE : Env w) :
    Calls Tryz.prog 29 #[.string s] w fun e w' => e = .returned (.tuple #[nullP.val, .bool false]) ∧ Below w.heap.size w w' := by
  by_cases h0 : s.size = 0
  · rw [empty_of_size h0]; exact pread_zero w
  by_cases hle : s.size ≤ 100
  · refine (pread_main s (nonempty_of_size h0) (by omega) w hE).mono ?_
    rintro e w' ⟨⟨hy, _⟩ | ⟨_, rfl⟩, hb⟩
    · exact absurd (h _ (text_inj hy)) h0
    · exact ⟨rfl, hb⟩
  · exact pread_long s (nonempty_of_size h0) (by omega) w
theorem sread_yes {P : Pcl} {s : ByteArray} (h : P.text = s) (h0 : ¬ s.size = 0) (w : World) :
    Calls Tryz.prog 10 #[.string s] w fun e w' => e = .returned (.tuple #[P.val, .bool true]) ∧ Below w.heap.size w w' := by
  obtain ⟨hle, h3, ⟨hw, R, hR, hv, hP⟩ | ⟨hw, hP⟩⟩ := sP_back h h0
  · refine (sread_good s (by omega) h3 hw R hR hv w).mono ?_
    rw [← hP]
    rintro e w' ⟨⟨_, rfl⟩ | ⟨hn, _⟩, hb⟩
    · exact ⟨rfl, hb⟩
    · exact absurd (by rw [h]) hn
  · refine (sread_coins s (by omega) h3 hw w).mono ?_
    rw [← hP]
    rintro e w' ⟨⟨_, rfl⟩ | ⟨hn, _⟩, hb⟩
    · exact ⟨rfl, hb⟩
    · exact absurd (by rw [h]) hn
theorem sread_no {s : ByteArray} (h : ∀ P : Pcl, P.text = s → s.size = 0) (w : World) :
    Calls Tryz.prog 10 #[.string s] w fun e w' => e = .returned (.tuple #[nullP.val, .bool false]) ∧ Below w.heap.size w w' := by
  by_cases hle : s.size ≤ 100
  · by_cases h3 : 3 ≤ (words s.data.toList).length
    · have h0 : ¬ s.size = 0 := by
        intro e
        rw [empty_of_size e] at h3
        simp [words] at h3
      by_cases hw : (words s.data.toList).getD 1 [] = WALKER
      · by_cases hv : vOk ⟨(restF s.data.toList).toArray⟩
        · refine (sread_good s (by omega) h3 hw _ rfl hv w).mono ?_
          rintro e w' ⟨⟨hy, _⟩ | ⟨_, rfl⟩, hb⟩
          · exact absurd (h _ (text_inj hy)) h0
          · exact ⟨rfl, hb⟩
        · exact sread_bad s (by omega) h3 hw hv w
      · refine (sread_coins s (by omega) h3 hw w).mono ?_
        rintro e w' ⟨⟨hy, _⟩ | ⟨_, rfl⟩, hb⟩
        · exact absurd (h _ (text_inj hy)) h0
        · exact ⟨rfl, hb⟩
    · exact sread_few s (by omega) (by omega) w
  · exact sread_long s (by omega) w
end Go.Proofs.YtgioecjnghllhaaGreatDoor
