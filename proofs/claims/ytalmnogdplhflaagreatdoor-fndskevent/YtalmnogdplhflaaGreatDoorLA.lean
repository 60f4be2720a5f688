/- What is carried: lemmas on lists, cells and draws; conditions: those typed. -/
import Derived.WalkKit
import Derived.ProofKit
import Derived.OpenShut
import Derived.Below
import Derived.BigQuiet
import Derived.Test.YtalmnogdplhflaaGreatDoorRows
import Derived.WalkSpells
import Derived.Lib.ItoaNum
import Derived.Test.YtalmnogdplhflaaGreatDoorShelf
import Derived.Lib.AppendIntMem
import Derived.Deep.RegionHeld3
import Derived.Deep.QuietTactic
namespace Go.Proofs.YtalmnogdplhflaaGreatDoor
open Go.RowKit Go.ChangeShapes Go.WideShapes Go.ChangeAt
theorem bcell {W w1 : World} (hb : Below W.heap.size W w1) : (∀ b o, b < W.heap.size → w1.cell? ⟨b, o, none⟩ = W.cell? ⟨b, o, none⟩) ∧ (∀ b o, b < W.heap.size → w1.frozen? ⟨b, o, none⟩ = W.frozen? ⟨b, o, none⟩) :=
  ⟨fun b o h => hb.cell (p := ⟨b, o, none⟩) h, fun b o h => hb.frozen (p := ⟨b, o, none⟩) h⟩
theorem bdrewN {a b : World} (h : Below a.heap.size a b) (n : Nat) : Below a.heap.size a (b.drewN n) := h.trans ⟨rfl, rfl, rfl, Nat.le_refl _, fun _ _ => rfl⟩
theorem bthen {a b c : World} (h : Below a.heap.size a b) (k : Below b.heap.size b c) : Below a.heap.size a c := h.trans (k.mono h.size)
end Go.Proofs.YtalmnogdplhflaaGreatDoor
namespace Go.Proofs.YtalmnogdplhflaaGreatDoor
open Go.RowKit
set_option linter.unusedVariables false
def inB (n lo hi : Int) : Bool := decide (lo ≤ n ∧ n ≤ hi)
theorem in_spec (n lo hi : Int) (w : World) :
    Calls Tryz.prog 42 #[.int .i64 n, .int .i64 lo, .int .i64 hi] w fun e w' => e = .returned (.bool (inB n lo hi)) ∧ w' = w := by
  go_enter Tryz.func42, Tryz.ntmps42
  go_wp2
  all_goals (go_ret; exact ⟨by simp [inB, *] <;> omega, rfl⟩)
theorem in_impl (n lo hi : Int) (w : World) :
    Calls Tryz.prog 28 #[.int .i64 n, .int .i64 lo, .int .i64 hi] w fun e w' => e = .returned (.bool (inB n lo hi)) ∧ w' = w := by
  go_enter Tryz.func28, Tryz.ntmps28
  go_wp2
  all_goals (go_ret; exact ⟨by simp [inB, *] <;> omega, rfl⟩)
end Go.Proofs.YtalmnogdplhflaaGreatDoor
namespace Go.Proofs.YtalmnogdplhflaaGreatDoor
open Go.RowKit
set_option linter.unusedVariables false
theorem keepS {W w1 w2 : World} {m : Nat} (h : (∀ b o, b < m → w1.cell? ⟨b, o, none⟩ = W.cell? ⟨b, o, none⟩) ∧ m ≤ w1.heap.size) (hb : Below w1.heap.size w1 w2) :
    (∀ b o, b < m → w2.cell? ⟨b, o, none⟩ = W.cell? ⟨b, o, none⟩) ∧ m ≤ w2.heap.size :=
  ⟨fun b o hlt => (hb.cell (p := ⟨b, o, none⟩) (Nat.lt_of_lt_of_le hlt h.2)).trans (h.1 b o hlt), Nat.le_trans h.2 hb.size⟩
end Go.Proofs.YtalmnogdplhflaaGreatDoor
namespace Go.Proofs.YtalmnogdplhflaaGreatDoor
open Go.RowKit
set_option linter.unusedVariables false
theorem dec_step (m : Nat) (h : 0 < m) : Lib.decDigits m = (if m / 10 = 0 then [] else Lib.decDigits (m / 10)) ++ [UInt8.ofNat (48 + m % 10)] := by
  rw [Lib.decDigits]
  by_cases g : m < 10
  · have e : m / 10 = 0 := by omega
    have e2 : m % 10 = m := by omega
    simp [g, e, e2]
  · have e : ¬ m / 10 = 0 := by omega
    simp [g, e]
theorem dec_len (N : Nat) (h : N ≤ 100000) : (Lib.decDigits N).length ≤ 6 := by
  have l1 : ∀ u, u < 10 → (Lib.decDigits u).length = 1 := fun u h => by rw [Lib.decDigits]; simp [h]
  have st : ∀ u, ¬ u < 10 → (Lib.decDigits u).length = (Lib.decDigits (u / 10)).length + 1 := fun u h => by
    conv => lhs; rw [Lib.decDigits]
    simp [h]
  by_cases a : N < 10
  · have := l1 N a; omega
  · rw [st N a]
    by_cases b : N / 10 < 10
    · have := l1 _ b; omega
    · rw [st _ b]
      by_cases c : N / 10 / 10 < 10
      · have := l1 _ c; omega
      · rw [st _ c]
        by_cases d : N / 10 / 10 / 10 < 10
        · have := l1 _ d; omega
        · rw [st _ d]
          by_cases e : N / 10 / 10 / 10 / 10 < 10
          · have := l1 _ e; omega
          · rw [st _ e]
            have := l1 (N / 10 / 10 / 10 / 10 / 10) (by omega); omega
theorem rel_step (N m : Nat) (l : List UInt8) (h : 0 < m) (hdec : Lib.decDigits N = (if m = 0 then [] else Lib.decDigits m) ++ l) :
    Lib.decDigits N = (if m / 10 = 0 then [] else Lib.decDigits (m / 10)) ++ ((48 + UInt8.ofNat (m % 10)) :: l) := by
  have hm : ¬ m = 0 := by omega
  rw [if_neg hm, dec_step m h] at hdec
  rw [hdec, UInt8.ofNat_add]
  simp
theorem rel_len (N m : Nat) (l : List UInt8) (hdec : Lib.decDigits N = (if m = 0 then [] else Lib.decDigits m) ++ l) :
    l.length + (if m = 0 then 0 else (Lib.decDigits m).length) = (Lib.decDigits N).length := by
  rw [hdec, List.length_append]
  by_cases h : m = 0 <;> simp [h] <;> omega
theorem int_eq {k : IntKind} {a b : Int} (h : a = b) : Value.int k a = .int k b := by rw [h]
theorem conv1 (wr : World) (n : Int) : (convert 22 9 (.slice (some ⟨wr.heap.size, 0, none⟩) 1 1)).run Tryz.prog (wr.alloc (.cells #[.int .u8 n] 5)) =
    .ok (.string ⟨[UInt8.ofNat n.toNat].toArray⟩) (wr.alloc (.cells #[.int .u8 n] 5)) := by
  rw [run_convert_bytes_string _ 22 9 5 _ 1 1 Tryz.underlying22 Tryz.underlying5 Tryz.underlying9]
  rw [run_bytesToString _ _ 1 1 [n] (by simp [loadCells, go_sem])]
  rfl
set_option maxHeartbeats 400000 in
set_option maxRecDepth 20000 in
theorem digits_spec (N : Nat) (hN : N ≤ 100000) (w : World) :
    Calls Tryz.prog 20 #[.int .i64 N] w fun e w' => e = .returned (.string ⟨(Lib.decDigits N).toArray⟩) ∧ Below w.heap.size w w' := by
  by_cases h0 : N = 0
  · subst h0
    go_enter Tryz.func20, Tryz.ntmps20
    go_wp2
    go_ret
    exact ⟨by rw [Lib.decDigits]; rfl, Below.refl _ _⟩
  · have hN1 : ¬ (N : Int) < 1 := by omega
    have hdl : (Lib.decDigits N).length ≤ 6 := dec_len N hN
    go_enter Tryz.func20, Tryz.ntmps20
    go_wp2
    go_loopw [0, 3] (fun n out wr => ∃ (m : Nat) (l : List UInt8), m ≤ N ∧ n = .int .i64 m ∧ out = .string ⟨l.toArray⟩ ∧ l.length + (if m = 0 then 0 else (Lib.decDigits m).length) = (Lib.decDigits N).length ∧ Lib.decDigits N = (if m = 0 then [] else Lib.decDigits m) ++ l ∧ Below w.heap.size w wr)
      (fun n _ _ => (intOf n).toNat)
    case atStart => exact ⟨N, [], Nat.le_refl _, rfl, rfl, by simp [h0], by simp [h0], Below.refl _ _⟩
    case round =>
      obtain ⟨m, l, hm, rfl, rfl, hlen, hdec, hb⟩ := hrel
      by_cases g : (0 : Int) < (m : Int)
      · have HD : Hid (Lib.decDigits N = (if m = 0 then [] else Lib.decDigits m) ++ l) := hdec
        have HL : Hid (l.length + (if m = 0 then 0 else (Lib.decDigits m).length) = (Lib.decDigits N).length) := hlen
        clear hdec hlen
        have cv := conv1 wr (48 + (m : Int) % 10)
        have ll : (l.length : Int) ≤ 8388607 := by have := HL.out; have := hdl; omega
        go_wp2
        all_goals
          go_roundw
          case rel => exact ⟨m / 10, (48 + UInt8.ofNat (m % 10)) :: l, by omega, int_eq (by omega), congrArg Value.string (ByteArray.mk_append_mk [48 + UInt8.ofNat (m % 10)] l), rel_len _ _ _ (rel_step N m l (by omega) HD.out), rel_step N m l (by omega) HD.out, hb.alloc hb.size _⟩
          case measure => simp [intOf]; omega
      · have hm0 : m = 0 := by omega
        subst hm0
        have HD : Hid (Lib.decDigits N = l) := (by simpa using hdec : Lib.decDigits N = l)
        clear hdec hlen
        go_wp2
        go_ret
        exact ⟨by rw [HD.out]; rfl, hb⟩
end Go.Proofs.YtalmnogdplhflaaGreatDoor
namespace Go.Proofs.YtalmnogdplhflaaGreatDoor
open Go.RowKit
set_option linter.unusedVariables false
def DD (n : Int) : ByteArray := ⟨(Lib.decDigits n.toNat).toArray⟩
theorem DD_size (n : Int) (h : n ≤ 100000) : (DD n).size ≤ 6 := by
  have := dec_len n.toNat (by omega)
  simpa [DD, ByteArray.size] using this
theorem digits_D (n : Int) (h0 : 0 ≤ n) (h1 : n ≤ 100000) (w : World) :
    Calls Tryz.prog 20 #[.int .i64 n] w fun e w' => e = .returned (.string (DD n)) ∧ Below w.heap.size w w' := by
  obtain ⟨N, rfl⟩ := Int.eq_ofNat_of_zero_le h0
  exact digits_spec N (by omega) w
theorem itoa_small (n : Int) (h0 : 0 ≤ n) (h1 : n ≤ 99) (w : World) :
    Calls Tryz.prog 29 #[.int .i64 n] w fun e w' => e = .returned (.string (DD n)) ∧ Below w.heap.size w w' := by
  obtain ⟨N, rfl⟩ := Int.eq_ofNat_of_zero_le h0
  refine (Tryz.strconv_Itoa_small N (by omega) w).mono ?_
  rintro e w' ⟨rfl, rfl⟩
  exact ⟨rfl, Below.refl _ _⟩
theorem itoa_tab (n : Int) (h0 : 0 ≤ n) (h1 : n ≤ 100000) (w : World) (ht : Lib.TabIs Tryz.prog w "internal/strconv.uint64pow10" .u64 Lib.pow10Tab) :
    Calls Tryz.prog 29 #[.int .i64 n] w fun e w' => e = .returned (.string (DD n)) ∧ Below w.heap.size w w' := by
  refine (Tryz.strconv_Itoa n (by omega) (by omega) w ht).mono ?_
  rintro e w' ⟨rfl, k, os, rfl⟩
  refine ⟨?_, Lib.below_grow _ _ (Nat.le_refl _) _ _⟩
  rw [Lib.itoa, if_neg (by omega)]
  rfl
theorem cat (x y : ByteArray) (hx : x.size ≤ 1000) (hy : y.size ≤ 1000) : ∀ w : World, (Op.stringOp .add x y).run Tryz.prog w = .ok (.string (x ++ y)) w := fun w => run_string_add_sum w x y (by omega)
end Go.Proofs.YtalmnogdplhflaaGreatDoor
namespace Go.Proofs.YtalmnogdplhflaaGreatDoor
open Go.RowKit
set_option linter.unusedVariables false
def wordOf (s : Int) : ByteArray := if s = 0 then ⟨#[108, 101, 102, 116]⟩ else if s = 1 then ⟨#[114, 105, 103, 104, 116]⟩ else ⟨#[]⟩
def sideB (s : Int) : Bool := inB s 0 1
def deedV (k tq n : Int) : Value :=
  if k = 1 then .iface 79 (.agg #[.int .i64 tq]) else if k = 2 then .iface 81 (.agg #[.int .i64 tq, .int .i64 n]) else if k = 3 then .iface 83 (.agg #[.int .i64 n]) else
  if k = 4 then .iface 84 (.agg #[.int .i64 n]) else if k = 5 then .iface 86 (.agg #[.int .i64 tq, .int .i64 n]) else if k = 6 then .iface 88 (.agg #[]) else .nilIface
theorem word_impl (s : Int) (w : World) :
    Calls Tryz.prog 65 #[.int .i64 s] w fun e w' => e = .returned (.string (wordOf s)) ∧ w' = w := by
  go_enter Tryz.func65, Tryz.ntmps65
  go_wp2
  all_goals (go_ret; exact ⟨by simp_all [wordOf], rfl⟩)
theorem word_side (s : Int) : (wordOf s).toList.isEmpty = !sideB s := by
  unfold wordOf sideB inB
  by_cases h0 : s = 0
  · subst h0; decide +kernel
  · by_cases h1 : s = 1
    · subst h1; decide +kernel
    · rw [if_neg h0, if_neg h1]
      have : ¬ (0 ≤ s ∧ s ≤ 1) := by omega
      rw [decide_eq_false this]
      decide +kernel
theorem deedOf (who seq k tq n : Int) (w : World) :
    Calls Tryz.prog 55 #[.agg #[.int .i64 who, .int .i64 seq, .int .i64 k, .int .i64 tq, .int .i64 n]] w fun e w' => e = .returned (deedV k tq n) ∧ Below w.heap.size w w' := by
  go_enter Tryz.func55, Tryz.ntmps55
  go_wp2
  all_goals (go_ret; exact ⟨by simp_all [deedV], (Below.refl _ _).alloc (by simp) _⟩)
theorem amount_impl (n : Int) (w : World) :
    Calls Tryz.prog 111 #[.int .i64 n] w fun e w' => e = .returned (.bool (inB n 1 9)) ∧ w' = w := by
  go_enter Tryz.func111, Tryz.ntmps111
  go_wp2_with (go_at_call 28; refine (in_impl _ _ _ _).mono ?_; rintro e w' ⟨rfl, rfl⟩)
  go_ret
  exact ⟨rfl, rfl⟩
theorem fits_step (tq who : Int) (w : World) :
    Calls Tryz.prog 107 #[.agg #[.int .i64 tq], .int .i64 who] w fun e w' => e = .returned (.bool (sideB tq)) ∧ Below w.heap.size w w' := by
  go_enter Tryz.func107, Tryz.ntmps107
  go_wp2_with (go_at_call 65; refine (word_impl _ _).mono ?_; rintro e w' ⟨rfl, rfl⟩)
  go_ret
  exact ⟨by have := word_side tq; cases h : sideB tq <;> simp_all, (Below.refl _ _).alloc (by simp) _⟩
theorem fits_give (tq n who : Int) (w : World) :
    Calls Tryz.prog 109 #[.agg #[.int .i64 tq, .int .i64 n], .int .i64 who] w fun e w' => e = .returned (.bool (inB tq 1 9 && (tq != who && inB n 1 9))) ∧ Below w.heap.size w w' := by
  cases h1 : inB tq 1 9
  · go_enter Tryz.func109, Tryz.ntmps109
    go_wp2_with (first | (go_at_call 28; refine (in_impl _ _ _ _).mono ?_; rintro e w' ⟨rfl, rfl⟩) | (go_at_call 111; refine (amount_impl _ _).mono ?_; rintro e w' ⟨rfl, rfl⟩))
    all_goals (go_ret; exact ⟨by simp [*], (Below.refl _ _).alloc (by simp) _⟩)
  · cases h2 : (tq != who)
    all_goals
      go_enter Tryz.func109, Tryz.ntmps109
      go_wp2_with (first | (go_at_call 28; refine (in_impl _ _ _ _).mono ?_; rintro e w' ⟨rfl, rfl⟩) | (go_at_call 111; refine (amount_impl _ _).mono ?_; rintro e w' ⟨rfl, rfl⟩))
      all_goals (go_ret; exact ⟨by simp_all, (Below.refl _ _).alloc (by simp) _⟩)
theorem fits_drop (n who : Int) (w : World) :
    Calls Tryz.prog 112 #[.agg #[.int .i64 n], .int .i64 who] w fun e w' => e = .returned (.bool (inB n 1 9)) ∧ Below w.heap.size w w' := by
  go_enter Tryz.func112, Tryz.ntmps112
  go_wp2_with (go_at_call 111; refine (amount_impl _ _).mono ?_; rintro e w' ⟨rfl, rfl⟩)
  go_ret
  exact ⟨rfl, (Below.refl _ _).alloc (by simp) _⟩
theorem fits_pick (n who : Int) (w : World) :
    Calls Tryz.prog 114 #[.agg #[.int .i64 n], .int .i64 who] w fun e w' => e = .returned (.bool (inB n 1 9)) ∧ Below w.heap.size w w' := by
  go_enter Tryz.func114, Tryz.ntmps114
  go_wp2_with (go_at_call 111; refine (amount_impl _ _).mono ?_; rintro e w' ⟨rfl, rfl⟩)
  go_ret
  exact ⟨rfl, (Below.refl _ _).alloc (by simp) _⟩
theorem fits_throw (tq n who : Int) (w : World) :
    Calls Tryz.prog 116 #[.agg #[.int .i64 tq, .int .i64 n], .int .i64 who] w fun e w' => e = .returned (.bool (sideB tq && inB n 1 9)) ∧ Below w.heap.size w w' := by
  have hw := word_side tq
  cases h1 : sideB tq
  all_goals
    rw [h1] at hw
    go_enter Tryz.func116, Tryz.ntmps116
    go_wp2_with (first | (go_at_call 65; refine (word_impl _ _).mono ?_; rintro e w' ⟨rfl, rfl⟩) | (go_at_call 111; refine (amount_impl _ _).mono ?_; rintro e w' ⟨rfl, rfl⟩))
    all_goals (go_ret; exact ⟨by simp_all, (Below.refl _ _).alloc (by simp) _⟩)
theorem fits_rest (who : Int) (w : World) :
    Calls Tryz.prog 118 #[.agg #[], .int .i64 who] w fun e w' => e = .returned (.bool true) ∧ Below w.heap.size w w' := by
  go_enter Tryz.func118, Tryz.ntmps118
  go_wp2
  go_ret
  exact ⟨rfl, by first | exact Below.refl _ _ | exact (Below.refl _ _).alloc (by simp) _⟩
set_option maxRecDepth 100000 in
theorem order_step (who seq tq n : Int) (w : World) :
    Calls Tryz.prog 36 #[.int .i64 who, .int .i64 seq, .iface 79 (.agg #[.int .i64 tq])] w fun e w' => e = .returned (.agg #[.int .i64 who, .int .i64 seq, .int .i64 1, .int .i64 tq, .int .i64 0]) ∧ Below w.heap.size w w' := by
  have hstep : ∀ (v : Value) (w : World), (Instr.typeAssert (.iface 79 v) 67 79 true).run Tryz.prog w = .ok (.tuple #[v, .bool true]) w := fun _ _ => by kernel_rfl
  go_enter Tryz.func36, Tryz.ntmps36
  go_wp2
  go_region
  go_wp2
  exact bodyPost_ret (v := .agg #[.int .i64 who, .int .i64 seq, .int .i64 1, .int .i64 tq, .int .i64 0]) (by simp [results, Tryz.results36, go_sem]) rfl ⟨rfl, by repeat (first | exact Below.refl _ _ | apply Below.drew | refine Below.alloc ?_ (by simp <;> omega) _)⟩
set_option maxRecDepth 100000 in
theorem order_give (who seq tq n : Int) (w : World) :
    Calls Tryz.prog 36 #[.int .i64 who, .int .i64 seq, .iface 81 (.agg #[.int .i64 tq, .int .i64 n])] w fun e w' => e = .returned (.agg #[.int .i64 who, .int .i64 seq, .int .i64 2, .int .i64 tq, .int .i64 n]) ∧ Below w.heap.size w w' := by
  have hstep : ∀ (v : Value) (w : World), (Instr.typeAssert (.iface 81 v) 67 79 true).run Tryz.prog w = .ok (.tuple #[.agg #[.int .i64 0], .bool false]) w := fun _ _ => by kernel_rfl
  have hgive : ∀ (v : Value) (w : World), (Instr.typeAssert (.iface 81 v) 67 81 true).run Tryz.prog w = .ok (.tuple #[v, .bool true]) w := fun _ _ => by kernel_rfl
  go_enter Tryz.func36, Tryz.ntmps36
  go_wp2
  go_region
  go_wp2
  exact bodyPost_ret (v := .agg #[.int .i64 who, .int .i64 seq, .int .i64 2, .int .i64 tq, .int .i64 n]) (by simp [results, Tryz.results36, go_sem]) rfl ⟨rfl, by repeat (first | exact Below.refl _ _ | apply Below.drew | refine Below.alloc ?_ (by simp <;> omega) _)⟩
set_option maxRecDepth 100000 in
theorem order_drop (who seq tq n : Int) (w : World) :
    Calls Tryz.prog 36 #[.int .i64 who, .int .i64 seq, .iface 83 (.agg #[.int .i64 n])] w fun e w' => e = .returned (.agg #[.int .i64 who, .int .i64 seq, .int .i64 3, .int .i64 0, .int .i64 n]) ∧ Below w.heap.size w w' := by
  have hstep : ∀ (v : Value) (w : World), (Instr.typeAssert (.iface 83 v) 67 79 true).run Tryz.prog w = .ok (.tuple #[.agg #[.int .i64 0], .bool false]) w := fun _ _ => by kernel_rfl
  have hgive : ∀ (v : Value) (w : World), (Instr.typeAssert (.iface 83 v) 67 81 true).run Tryz.prog w = .ok (.tuple #[.agg #[.int .i64 0, .int .i64 0], .bool false]) w := fun _ _ => by kernel_rfl
  have hdrop : ∀ (v : Value) (w : World), (Instr.typeAssert (.iface 83 v) 67 83 true).run Tryz.prog w = .ok (.tuple #[v, .bool true]) w := fun _ _ => by kernel_rfl
  go_enter Tryz.func36, Tryz.ntmps36
  go_wp2
  go_region
  go_wp2
  exact bodyPost_ret (v := .agg #[.int .i64 who, .int .i64 seq, .int .i64 3, .int .i64 0, .int .i64 n]) (by simp [results, Tryz.results36, go_sem]) rfl ⟨rfl, by repeat (first | exact Below.refl _ _ | apply Below.drew | refine Below.alloc ?_ (by simp <;> omega) _)⟩
set_option maxRecDepth 100000 in
theorem order_pick (who seq tq n : Int) (w : World) :
    Calls Tryz.prog 36 #[.int .i64 who, .int .i64 seq, .iface 84 (.agg #[.int .i64 n])] w fun e w' => e = .returned (.agg #[.int .i64 who, .int .i64 seq, .int .i64 4, .int .i64 0, .int .i64 n]) ∧ Below w.heap.size w w' := by
  have hstep : ∀ (v : Value) (w : World), (Instr.typeAssert (.iface 84 v) 67 79 true).run Tryz.prog w = .ok (.tuple #[.agg #[.int .i64 0], .bool false]) w := fun _ _ => by kernel_rfl
  have hgive : ∀ (v : Value) (w : World), (Instr.typeAssert (.iface 84 v) 67 81 true).run Tryz.prog w = .ok (.tuple #[.agg #[.int .i64 0, .int .i64 0], .bool false]) w := fun _ _ => by kernel_rfl
  have hdrop : ∀ (v : Value) (w : World), (Instr.typeAssert (.iface 84 v) 67 83 true).run Tryz.prog w = .ok (.tuple #[.agg #[.int .i64 0], .bool false]) w := fun _ _ => by kernel_rfl
  have hpick : ∀ (v : Value) (w : World), (Instr.typeAssert (.iface 84 v) 67 84 true).run Tryz.prog w = .ok (.tuple #[v, .bool true]) w := fun _ _ => by kernel_rfl
  go_enter Tryz.func36, Tryz.ntmps36
  go_wp2
  go_region
  go_wp2
  exact bodyPost_ret (v := .agg #[.int .i64 who, .int .i64 seq, .int .i64 4, .int .i64 0, .int .i64 n]) (by simp [results, Tryz.results36, go_sem]) rfl ⟨rfl, by repeat (first | exact Below.refl _ _ | apply Below.drew | refine Below.alloc ?_ (by simp <;> omega) _)⟩
set_option maxRecDepth 100000 in
theorem order_throw (who seq tq n : Int) (w : World) :
    Calls Tryz.prog 36 #[.int .i64 who, .int .i64 seq, .iface 86 (.agg #[.int .i64 tq, .int .i64 n])] w fun e w' => e = .returned (.agg #[.int .i64 who, .int .i64 seq, .int .i64 5, .int .i64 tq, .int .i64 n]) ∧ Below w.heap.size w w' := by
  have hstep : ∀ (v : Value) (w : World), (Instr.typeAssert (.iface 86 v) 67 79 true).run Tryz.prog w = .ok (.tuple #[.agg #[.int .i64 0], .bool false]) w := fun _ _ => by kernel_rfl
  have hgive : ∀ (v : Value) (w : World), (Instr.typeAssert (.iface 86 v) 67 81 true).run Tryz.prog w = .ok (.tuple #[.agg #[.int .i64 0, .int .i64 0], .bool false]) w := fun _ _ => by kernel_rfl
  have hdrop : ∀ (v : Value) (w : World), (Instr.typeAssert (.iface 86 v) 67 83 true).run Tryz.prog w = .ok (.tuple #[.agg #[.int .i64 0], .bool false]) w := fun _ _ => by kernel_rfl
  have hpick : ∀ (v : Value) (w : World), (Instr.typeAssert (.iface 86 v) 67 84 true).run Tryz.prog w = .ok (.tuple #[.agg #[.int .i64 0], .bool false]) w := fun _ _ => by kernel_rfl
  have hthrow : ∀ (v : Value) (w : World), (Instr.typeAssert (.iface 86 v) 67 86 true).run Tryz.prog w = .ok (.tuple #[v, .bool true]) w := fun _ _ => by kernel_rfl
  go_enter Tryz.func36, Tryz.ntmps36
  go_wp2
  go_region
  go_wp2
  exact bodyPost_ret (v := .agg #[.int .i64 who, .int .i64 seq, .int .i64 5, .int .i64 tq, .int .i64 n]) (by simp [results, Tryz.results36, go_sem]) rfl ⟨rfl, by repeat (first | exact Below.refl _ _ | apply Below.drew | refine Below.alloc ?_ (by simp <;> omega) _)⟩
set_option maxRecDepth 100000 in
theorem order_rest (who seq tq n : Int) (w : World) :
    Calls Tryz.prog 36 #[.int .i64 who, .int .i64 seq, .iface 88 (.agg #[])] w fun e w' => e = .returned (.agg #[.int .i64 who, .int .i64 seq, .int .i64 6, .int .i64 0, .int .i64 0]) ∧ Below w.heap.size w w' := by
  have hstep : ∀ (v : Value) (w : World), (Instr.typeAssert (.iface 88 v) 67 79 true).run Tryz.prog w = .ok (.tuple #[.agg #[.int .i64 0], .bool false]) w := fun _ _ => by kernel_rfl
  have hgive : ∀ (v : Value) (w : World), (Instr.typeAssert (.iface 88 v) 67 81 true).run Tryz.prog w = .ok (.tuple #[.agg #[.int .i64 0, .int .i64 0], .bool false]) w := fun _ _ => by kernel_rfl
  have hdrop : ∀ (v : Value) (w : World), (Instr.typeAssert (.iface 88 v) 67 83 true).run Tryz.prog w = .ok (.tuple #[.agg #[.int .i64 0], .bool false]) w := fun _ _ => by kernel_rfl
  have hpick : ∀ (v : Value) (w : World), (Instr.typeAssert (.iface 88 v) 67 84 true).run Tryz.prog w = .ok (.tuple #[.agg #[.int .i64 0], .bool false]) w := fun _ _ => by kernel_rfl
  have hthrow : ∀ (v : Value) (w : World), (Instr.typeAssert (.iface 88 v) 67 86 true).run Tryz.prog w = .ok (.tuple #[.agg #[.int .i64 0, .int .i64 0], .bool false]) w := fun _ _ => by kernel_rfl
  have hrest : ∀ (v : Value) (w : World), (Instr.typeAssert (.iface 88 v) 67 88 true).run Tryz.prog w = .ok (.tuple #[v, .bool true]) w := fun _ _ => by kernel_rfl
  go_enter Tryz.func36, Tryz.ntmps36
  go_wp2
  exact bodyPost_ret (v := .agg #[.int .i64 who, .int .i64 seq, .int .i64 6, .int .i64 0, .int .i64 0]) (by simp [results, Tryz.results36, go_sem]) rfl ⟨rfl, by repeat (first | exact Below.refl _ _ | apply Below.drew | refine Below.alloc ?_ (by simp <;> omega) _)⟩
end Go.Proofs.YtalmnogdplhflaaGreatDoor
namespace Go.Proofs.YtalmnogdplhflaaGreatDoor
open Go.RowKit
set_option linter.unusedVariables false
def kindB (who k tq n : Int) : Bool :=
  if k = 1 then sideB tq && n == 0 else if k = 2 then inB tq 1 9 && (tq != who && inB n 1 9) else if k = 3 then tq == 0 && inB n 1 9 else if k = 4 then tq == 0 && inB n 1 9 else
  if k = 5 then sideB tq && inB n 1 9 else if k = 6 then tq == 0 && n == 0 else false
def ordB (who seq k tq n : Int) : Bool := inB who 1 9 && (inB seq 1 900 && kindB who k tq n)
theorem ordOk_spec (who seq k tq n : Int) (w : World) :
    Calls Tryz.prog 32 #[.agg #[.int .i64 who, .int .i64 seq, .int .i64 k, .int .i64 tq, .int .i64 n]] w fun e w' => e = .returned (.bool (ordB who seq k tq n)) ∧ Below w.heap.size w w' := by
  have hk : k = 1 ∨ k = 2 ∨ k = 3 ∨ k = 4 ∨ k = 5 ∨ k = 6 ∨ (k ≠ 1 ∧ k ≠ 2 ∧ k ≠ 3 ∧ k ≠ 4 ∧ k ≠ 5 ∧ k ≠ 6) := by omega
  go_enter Tryz.func32, Tryz.ntmps32
  go_wp2_with (go_at_call 42; refine (in_spec _ _ _ _).mono ?_; rintro e w' ⟨rfl, rfl⟩)
  all_goals (go_ret; exact ⟨by simp_all [ordB, kindB, sideB], (Below.refl _ _).alloc (by simp) _⟩)
theorem in_T {n lo hi : Int} {b : Bool} (h : inB n lo hi = b) (w : World) :
    Calls Tryz.prog 28 #[.int .i64 n, .int .i64 lo, .int .i64 hi] w fun e w' => e = .returned (.bool b) ∧ Below w.heap.size w w' :=
  (in_impl n lo hi w).mono (by rintro e w' ⟨rfl, rfl⟩; exact ⟨by rw [h], Below.refl _ _⟩)
set_option maxRecDepth 100000 in
set_option maxHeartbeats 2000000 in
theorem ordOk_gen (who seq k tq n to2 n2 : Int) (t : TypeId) (V : Value) (ff : Nat) (fb : Bool) (hd : deedV k tq n = .iface t V)
    (hm : ∀ (w : World), (method 248 t V "loop.example/landmarch/impl.fits").run Tryz.prog w = .ok (ff, V) w)
    (hcf : ∀ (a : Array Value) (w : World), (callFunc ff a).run Tryz.prog w = .ok (.enter ff a) w)
    (hfit : ∀ w : World, Calls Tryz.prog ff #[V, .int .i64 who] w fun e w' => e = .returned (.bool fb) ∧ Below w.heap.size w w')
    (hord : ∀ w : World, Calls Tryz.prog 36 #[.int .i64 who, .int .i64 seq, .iface t V] w fun e w' => e = .returned (.agg #[.int .i64 who, .int .i64 seq, .int .i64 k, .int .i64 to2, .int .i64 n2]) ∧ Below w.heap.size w w')
    (w : World) :
    Calls Tryz.prog 54 #[.agg #[.int .i64 who, .int .i64 seq, .int .i64 k, .int .i64 tq, .int .i64 n]] w fun e w' => e = .returned (.bool (inB who 1 9 && (inB seq 1 900 && (fb && (tq == to2 && n == n2))))) ∧ Below w.heap.size w w' := by
  cases h1 : inB who 1 9
  · skip
    go_enter Tryz.func54, Tryz.ntmps54
    go_wp2_with (go_at_call 55; refine (deedOf _ _ _ _ _ _).mono ?_; rintro e w1 ⟨rfl, hb1⟩; rw [hd])
    obtain ⟨hc1, hf1⟩ := bcell hb1
    have hlt : w.heap.size < w1.heap.size := Nat.lt_of_lt_of_le (by simp) hb1.size
    have x0 : w1.cell? ⟨w.heap.size, 0, none⟩ = some (.int .i64 who) := by rw [hc1 _ _ (by simp)]; simp
    have x1 : w1.cell? ⟨w.heap.size, 1, none⟩ = some (.int .i64 seq) := by rw [hc1 _ _ (by simp)]; simp
    have x2 : w1.cell? ⟨w.heap.size, 2, none⟩ = some (.int .i64 k) := by rw [hc1 _ _ (by simp)]; simp
    have x3 : w1.cell? ⟨w.heap.size, 3, none⟩ = some (.int .i64 tq) := by rw [hc1 _ _ (by simp)]; simp
    have x4 : w1.cell? ⟨w.heap.size, 4, none⟩ = some (.int .i64 n) := by rw [hc1 _ _ (by simp)]; simp
    clear hc1 hf1
    refine wp_region_held_drew (S := fun w' => (∀ b o, b < w1.heap.size → w'.cell? ⟨b, o, none⟩ = w1.cell? ⟨b, o, none⟩) ∧ w1.heap.size ≤ w'.heap.size) (by kernel_rfl) ⟨fun _ _ _ => rfl, Nat.le_refl _⟩ ?_
    intro hHeld
    refine wpAnyH_take (i := 0) (v := .iface t V) rfl (by kernel_rfl) (by kernel_rfl) (by kernel_rfl) (fun _ _ _ h => h) (Or.inl ⟨by rfl, ?_⟩) (by assumption) ?_
    · intro wx hSw; go_simp
    try simp only [Act.put, List.setIfInBounds_toArray, List.set_cons_zero, List.set_cons_succ, List.getElem_toArray, List.getElem_cons_zero]
    refine wpAnyH_take (i := 1) (v := .bool true) rfl (by kernel_rfl) (by kernel_rfl) (by kernel_rfl) (fun _ _ _ h => h) (Or.inl ⟨by rfl, ?_⟩) (by assumption) ?_
    · intro wx hSw; go_simp
    try simp only [Act.put, List.setIfInBounds_toArray, List.set_cons_zero, List.set_cons_succ, List.getElem_toArray, List.getElem_cons_zero, List.getElem_cons_succ]
    refine wpAnyH_take (i := 2) (v := .bool true) rfl (by kernel_rfl) (by kernel_rfl) (by kernel_rfl) (fun _ _ _ h => h) (Or.inl ⟨by rfl, ?_⟩) (by assumption) ?_
    · intro wx hSw; go_simp
    try simp only [Act.put, List.setIfInBounds_toArray, List.set_cons_zero, List.set_cons_succ, List.getElem_toArray, List.getElem_cons_zero, List.getElem_cons_succ]
    refine wpAnyH_take (i := 3) (v := .pointer (some ⟨w.heap.size, 0, none⟩)) rfl (by kernel_rfl) (by kernel_rfl) (by kernel_rfl) (fun _ _ _ h => h) (Or.inl ⟨by rfl, ?_⟩) (by assumption) ?_
    · intro wx hSw; go_simp
    try simp only [Act.put, List.setIfInBounds_toArray, List.set_cons_zero, List.set_cons_succ, List.getElem_toArray, List.getElem_cons_zero, List.getElem_cons_succ]
    refine wpAnyH_take (i := 4) (v := .int .i64 who) rfl (by kernel_rfl) (by kernel_rfl) (by kernel_rfl) (fun _ _ _ h => h) (Or.inl ⟨by rfl, ?_⟩) (by assumption) ?_
    · intro wx hSw; go_simp
    try simp only [Act.put, List.setIfInBounds_toArray, List.set_cons_zero, List.set_cons_succ, List.getElem_toArray, List.getElem_cons_zero, List.getElem_cons_succ]
    refine wpAnyH_ready (rs := [5]) (by kernel_rfl) (by simp) ?_
    refine AllReadyH.cons rfl (fun K hK => ?_) AllReadyH.nil
    go_simp
    go_wp2_with (go_at_call 28; refine (in_T h1 _).mono ?_; rintro e wa ⟨rfl, hbwa⟩)
    refine hK.out _ _ (keepS (by assumption) hbwa) (fun hHeld => ?_)
    clear hK K
    try simp only [Act.put, List.setIfInBounds_toArray, List.set_cons_zero, List.set_cons_succ, List.getElem_toArray, List.getElem_cons_zero, List.getElem_cons_succ]
    refine wpAnyH_take (i := 6) (v := .bool false) rfl (by kernel_rfl) (by kernel_rfl) (by kernel_rfl) (fun _ _ _ h => h) (Or.inl ⟨by rfl, ?_⟩) (by assumption) ?_
    · intro wx hSw; go_simp
    try simp only [Act.put, List.setIfInBounds_toArray, List.set_cons_zero, List.set_cons_succ, List.getElem_toArray, List.getElem_cons_zero, List.getElem_cons_succ]
    refine wpAnyH_take (i := 7) (v := .bool false) rfl (by kernel_rfl) (by kernel_rfl) (by kernel_rfl) (fun _ _ _ h => h) (Or.inl ⟨by rfl, ?_⟩) (by assumption) ?_
    · intro wx hSw; go_simp
    try simp only [Act.put, List.setIfInBounds_toArray, List.set_cons_zero, List.set_cons_succ, List.getElem_toArray, List.getElem_cons_zero, List.getElem_cons_succ]
    refine wpAnyH_take (i := 8) (v := undef) rfl (by kernel_rfl) (by kernel_rfl) (by kernel_rfl) (fun _ _ _ h => h) (Or.inr ⟨by rfl, rfl⟩) (by assumption) ?_
    try simp only [Act.put, List.setIfInBounds_toArray, List.set_cons_zero, List.set_cons_succ, List.getElem_toArray, List.getElem_cons_zero, List.getElem_cons_succ]
    refine wpAnyH_take (i := 9) (v := undef) rfl (by kernel_rfl) (by kernel_rfl) (by kernel_rfl) (fun _ _ _ h => h) (Or.inr ⟨by rfl, rfl⟩) (by assumption) ?_
    try simp only [Act.put, List.setIfInBounds_toArray, List.set_cons_zero, List.set_cons_succ, List.getElem_toArray, List.getElem_cons_zero, List.getElem_cons_succ]
    refine wpAnyH_take (i := 10) (v := undef) rfl (by kernel_rfl) (by kernel_rfl) (by kernel_rfl) (fun _ _ _ h => h) (Or.inr ⟨by rfl, rfl⟩) (by assumption) ?_
    try simp only [Act.put, List.setIfInBounds_toArray, List.set_cons_zero, List.set_cons_succ, List.getElem_toArray, List.getElem_cons_zero, List.getElem_cons_succ]
    refine wpAnyH_take (i := 11) (v := .bool false) rfl (by kernel_rfl) (by kernel_rfl) (by kernel_rfl) (fun _ _ _ h => h) (Or.inl ⟨by rfl, ?_⟩) (by assumption) ?_
    · intro wx hSw; go_simp
    try simp only [Act.put, List.setIfInBounds_toArray, List.set_cons_zero, List.set_cons_succ, List.getElem_toArray, List.getElem_cons_zero, List.getElem_cons_succ]
    refine wpAnyH_take (i := 12) (v := .bool false) rfl (by kernel_rfl) (by kernel_rfl) (by kernel_rfl) (fun _ _ _ h => h) (Or.inl ⟨by rfl, ?_⟩) (by assumption) ?_
    · intro wx hSw; go_simp
    try simp only [Act.put, List.setIfInBounds_toArray, List.set_cons_zero, List.set_cons_succ, List.getElem_toArray, List.getElem_cons_zero, List.getElem_cons_succ]
    refine wpAnyH_take (i := 13) (v := undef) rfl (by kernel_rfl) (by kernel_rfl) (by kernel_rfl) (fun _ _ _ h => h) (Or.inr ⟨by rfl, rfl⟩) (by assumption) ?_
    try simp only [Act.put, List.setIfInBounds_toArray, List.set_cons_zero, List.set_cons_succ, List.getElem_toArray, List.getElem_cons_zero, List.getElem_cons_succ]
    refine wpAnyH_take (i := 14) (v := undef) rfl (by kernel_rfl) (by kernel_rfl) (by kernel_rfl) (fun _ _ _ h => h) (Or.inr ⟨by rfl, rfl⟩) (by assumption) ?_
    try simp only [Act.put, List.setIfInBounds_toArray, List.set_cons_zero, List.set_cons_succ, List.getElem_toArray, List.getElem_cons_zero, List.getElem_cons_succ]
    refine wpAnyH_take (i := 15) (v := undef) rfl (by kernel_rfl) (by kernel_rfl) (by kernel_rfl) (fun _ _ _ h => h) (Or.inr ⟨by rfl, rfl⟩) (by assumption) ?_
    try simp only [Act.put, List.setIfInBounds_toArray, List.set_cons_zero, List.set_cons_succ, List.getElem_toArray, List.getElem_cons_zero, List.getElem_cons_succ]
    refine wpAnyH_take (i := 16) (v := undef) rfl (by kernel_rfl) (by kernel_rfl) (by kernel_rfl) (fun _ _ _ h => h) (Or.inr ⟨by rfl, rfl⟩) (by assumption) ?_
    try simp only [Act.put, List.setIfInBounds_toArray, List.set_cons_zero, List.set_cons_succ, List.getElem_toArray, List.getElem_cons_zero, List.getElem_cons_succ]
    refine wpAnyH_take (i := 17) (v := .bool false) rfl (by kernel_rfl) (by kernel_rfl) (by kernel_rfl) (fun _ _ _ h => h) (Or.inl ⟨by rfl, ?_⟩) (by assumption) ?_
    · intro wx hSw; go_simp
    try simp only [Act.put, List.setIfInBounds_toArray, List.set_cons_zero, List.set_cons_succ, List.getElem_toArray, List.getElem_cons_zero, List.getElem_cons_succ]
    refine wpAnyH_take (i := 18) (v := .bool false) rfl (by kernel_rfl) (by kernel_rfl) (by kernel_rfl) (fun _ _ _ h => h) (Or.inl ⟨by rfl, ?_⟩) (by assumption) ?_
    · intro wx hSw; go_simp
    try simp only [Act.put, List.setIfInBounds_toArray, List.set_cons_zero, List.set_cons_succ, List.getElem_toArray, List.getElem_cons_zero, List.getElem_cons_succ]
    refine wpAnyH_take (i := 19) (v := undef) rfl (by kernel_rfl) (by kernel_rfl) (by kernel_rfl) (fun _ _ _ h => h) (Or.inr ⟨by rfl, rfl⟩) (by assumption) ?_
    try simp only [Act.put, List.setIfInBounds_toArray, List.set_cons_zero, List.set_cons_succ, List.getElem_toArray, List.getElem_cons_zero, List.getElem_cons_succ]
    refine wpAnyH_take (i := 20) (v := undef) rfl (by kernel_rfl) (by kernel_rfl) (by kernel_rfl) (fun _ _ _ h => h) (Or.inr ⟨by rfl, rfl⟩) (by assumption) ?_
    try simp only [Act.put, List.setIfInBounds_toArray, List.set_cons_zero, List.set_cons_succ, List.getElem_toArray, List.getElem_cons_zero, List.getElem_cons_succ]
    refine wpAnyH_take (i := 21) (v := undef) rfl (by kernel_rfl) (by kernel_rfl) (by kernel_rfl) (fun _ _ _ h => h) (Or.inr ⟨by rfl, rfl⟩) (by assumption) ?_
    try simp only [Act.put, List.setIfInBounds_toArray, List.set_cons_zero, List.set_cons_succ, List.getElem_toArray, List.getElem_cons_zero, List.getElem_cons_succ]
    refine wpAnyH_take (i := 22) (v := undef) rfl (by kernel_rfl) (by kernel_rfl) (by kernel_rfl) (fun _ _ _ h => h) (Or.inr ⟨by rfl, rfl⟩) (by assumption) ?_
    try simp only [Act.put, List.setIfInBounds_toArray, List.set_cons_zero, List.set_cons_succ, List.getElem_toArray, List.getElem_cons_zero, List.getElem_cons_succ]
    refine wpAnyH_take (i := 23) (v := undef) rfl (by kernel_rfl) (by kernel_rfl) (by kernel_rfl) (fun _ _ _ h => h) (Or.inr ⟨by rfl, rfl⟩) (by assumption) ?_
    try simp only [Act.put, List.setIfInBounds_toArray, List.set_cons_zero, List.set_cons_succ, List.getElem_toArray, List.getElem_cons_zero, List.getElem_cons_succ]
    refine wpAnyH_take (i := 24) (v := undef) rfl (by kernel_rfl) (by kernel_rfl) (by kernel_rfl) (fun _ _ _ h => h) (Or.inr ⟨by rfl, rfl⟩) (by assumption) ?_
    try simp only [Act.put, List.setIfInBounds_toArray, List.set_cons_zero, List.set_cons_succ, List.getElem_toArray, List.getElem_cons_zero, List.getElem_cons_succ]
    refine wpAnyH_take (i := 25) (v := undef) rfl (by kernel_rfl) (by kernel_rfl) (by kernel_rfl) (fun _ _ _ h => h) (Or.inr ⟨by rfl, rfl⟩) (by assumption) ?_
    try simp only [Act.put, List.setIfInBounds_toArray, List.set_cons_zero, List.set_cons_succ, List.getElem_toArray, List.getElem_cons_zero, List.getElem_cons_succ]
    refine wpAnyH_take (i := 26) (v := undef) rfl (by kernel_rfl) (by kernel_rfl) (by kernel_rfl) (fun _ _ _ h => h) (Or.inr ⟨by rfl, rfl⟩) (by assumption) ?_
    try simp only [Act.put, List.setIfInBounds_toArray, List.set_cons_zero, List.set_cons_succ, List.getElem_toArray, List.getElem_cons_zero, List.getElem_cons_succ]
    refine wpAnyH_take (i := 27) (v := .bool false) rfl (by kernel_rfl) (by kernel_rfl) (by kernel_rfl) (fun _ _ _ h => h) (Or.inl ⟨by rfl, ?_⟩) (by assumption) ?_
    · intro wx hSw; go_simp
    try simp only [Act.put, List.setIfInBounds_toArray, List.set_cons_zero, List.set_cons_succ, List.getElem_toArray, List.getElem_cons_zero, List.getElem_cons_succ]
    refine wpAnyH_take (i := 28) (v := .bool false) rfl (by kernel_rfl) (by kernel_rfl) (by kernel_rfl) (fun _ _ _ h => h) (Or.inl ⟨by rfl, ?_⟩) (by assumption) ?_
    · intro wx hSw; go_simp
    try simp only [Act.put, List.setIfInBounds_toArray, List.set_cons_zero, List.set_cons_succ, List.getElem_toArray, List.getElem_cons_zero, List.getElem_cons_succ]
    refine wpAnyH_done (by kernel_rfl) ?_ _
    go_wp2
    go_ret
    exact ⟨by simp, by repeat (first | exact Below.refl _ _ | refine bthen ?_ (by assumption) | apply Below.drew | apply bdrewN | refine Below.alloc ?_ (by simp <;> omega) _)⟩
  · cases h2 : inB seq 1 900
    · skip
      go_enter Tryz.func54, Tryz.ntmps54
      go_wp2_with (go_at_call 55; refine (deedOf _ _ _ _ _ _).mono ?_; rintro e w1 ⟨rfl, hb1⟩; rw [hd])
      obtain ⟨hc1, hf1⟩ := bcell hb1
      have hlt : w.heap.size < w1.heap.size := Nat.lt_of_lt_of_le (by simp) hb1.size
      have x0 : w1.cell? ⟨w.heap.size, 0, none⟩ = some (.int .i64 who) := by rw [hc1 _ _ (by simp)]; simp
      have x1 : w1.cell? ⟨w.heap.size, 1, none⟩ = some (.int .i64 seq) := by rw [hc1 _ _ (by simp)]; simp
      have x2 : w1.cell? ⟨w.heap.size, 2, none⟩ = some (.int .i64 k) := by rw [hc1 _ _ (by simp)]; simp
      have x3 : w1.cell? ⟨w.heap.size, 3, none⟩ = some (.int .i64 tq) := by rw [hc1 _ _ (by simp)]; simp
      have x4 : w1.cell? ⟨w.heap.size, 4, none⟩ = some (.int .i64 n) := by rw [hc1 _ _ (by simp)]; simp
      clear hc1 hf1
      refine wp_region_held_drew (S := fun w' => (∀ b o, b < w1.heap.size → w'.cell? ⟨b, o, none⟩ = w1.cell? ⟨b, o, none⟩) ∧ w1.heap.size ≤ w'.heap.size) (by kernel_rfl) ⟨fun _ _ _ => rfl, Nat.le_refl _⟩ ?_
      intro hHeld
      refine wpAnyH_take (i := 0) (v := .iface t V) rfl (by kernel_rfl) (by kernel_rfl) (by kernel_rfl) (fun _ _ _ h => h) (Or.inl ⟨by rfl, ?_⟩) (by assumption) ?_
      · intro wx hSw; go_simp
      try simp only [Act.put, List.setIfInBounds_toArray, List.set_cons_zero, List.set_cons_succ, List.getElem_toArray, List.getElem_cons_zero]
      refine wpAnyH_take (i := 1) (v := .bool true) rfl (by kernel_rfl) (by kernel_rfl) (by kernel_rfl) (fun _ _ _ h => h) (Or.inl ⟨by rfl, ?_⟩) (by assumption) ?_
      · intro wx hSw; go_simp
      try simp only [Act.put, List.setIfInBounds_toArray, List.set_cons_zero, List.set_cons_succ, List.getElem_toArray, List.getElem_cons_zero, List.getElem_cons_succ]
      refine wpAnyH_take (i := 2) (v := .bool true) rfl (by kernel_rfl) (by kernel_rfl) (by kernel_rfl) (fun _ _ _ h => h) (Or.inl ⟨by rfl, ?_⟩) (by assumption) ?_
      · intro wx hSw; go_simp
      try simp only [Act.put, List.setIfInBounds_toArray, List.set_cons_zero, List.set_cons_succ, List.getElem_toArray, List.getElem_cons_zero, List.getElem_cons_succ]
      refine wpAnyH_take (i := 3) (v := .pointer (some ⟨w.heap.size, 0, none⟩)) rfl (by kernel_rfl) (by kernel_rfl) (by kernel_rfl) (fun _ _ _ h => h) (Or.inl ⟨by rfl, ?_⟩) (by assumption) ?_
      · intro wx hSw; go_simp
      try simp only [Act.put, List.setIfInBounds_toArray, List.set_cons_zero, List.set_cons_succ, List.getElem_toArray, List.getElem_cons_zero, List.getElem_cons_succ]
      refine wpAnyH_take (i := 4) (v := .int .i64 who) rfl (by kernel_rfl) (by kernel_rfl) (by kernel_rfl) (fun _ _ _ h => h) (Or.inl ⟨by rfl, ?_⟩) (by assumption) ?_
      · intro wx hSw; go_simp
      try simp only [Act.put, List.setIfInBounds_toArray, List.set_cons_zero, List.set_cons_succ, List.getElem_toArray, List.getElem_cons_zero, List.getElem_cons_succ]
      refine wpAnyH_ready (rs := [5]) (by kernel_rfl) (by simp) ?_
      refine AllReadyH.cons rfl (fun K hK => ?_) AllReadyH.nil
      go_simp
      go_wp2_with (go_at_call 28; refine (in_T h1 _).mono ?_; rintro e wa ⟨rfl, hbwa⟩)
      refine hK.out _ _ (keepS (by assumption) hbwa) (fun hHeld => ?_)
      clear hK K
      try simp only [Act.put, List.setIfInBounds_toArray, List.set_cons_zero, List.set_cons_succ, List.getElem_toArray, List.getElem_cons_zero, List.getElem_cons_succ]
      refine wpAnyH_take (i := 6) (v := .bool true) rfl (by kernel_rfl) (by kernel_rfl) (by kernel_rfl) (fun _ _ _ h => h) (Or.inl ⟨by rfl, ?_⟩) (by assumption) ?_
      · intro wx hSw; go_simp
      try simp only [Act.put, List.setIfInBounds_toArray, List.set_cons_zero, List.set_cons_succ, List.getElem_toArray, List.getElem_cons_zero, List.getElem_cons_succ]
      refine wpAnyH_take (i := 7) (v := .bool true) rfl (by kernel_rfl) (by kernel_rfl) (by kernel_rfl) (fun _ _ _ h => h) (Or.inl ⟨by rfl, ?_⟩) (by assumption) ?_
      · intro wx hSw; go_simp
      try simp only [Act.put, List.setIfInBounds_toArray, List.set_cons_zero, List.set_cons_succ, List.getElem_toArray, List.getElem_cons_zero, List.getElem_cons_succ]
      refine wpAnyH_take (i := 8) (v := .pointer (some ⟨w.heap.size, 1, none⟩)) rfl (by kernel_rfl) (by kernel_rfl) (by kernel_rfl) (fun _ _ _ h => h) (Or.inl ⟨by rfl, ?_⟩) (by assumption) ?_
      · intro wx hSw; go_simp
      try simp only [Act.put, List.setIfInBounds_toArray, List.set_cons_zero, List.set_cons_succ, List.getElem_toArray, List.getElem_cons_zero, List.getElem_cons_succ]
      refine wpAnyH_take (i := 9) (v := .int .i64 seq) rfl (by kernel_rfl) (by kernel_rfl) (by kernel_rfl) (fun _ _ _ h => h) (Or.inl ⟨by rfl, ?_⟩) (by assumption) ?_
      · intro wx hSw; go_simp
      try simp only [Act.put, List.setIfInBounds_toArray, List.set_cons_zero, List.set_cons_succ, List.getElem_toArray, List.getElem_cons_zero, List.getElem_cons_succ]
      refine wpAnyH_ready (rs := [10]) (by kernel_rfl) (by simp) ?_
      refine AllReadyH.cons rfl (fun K hK => ?_) AllReadyH.nil
      go_simp
      go_wp2_with (go_at_call 28; refine (in_T h2 _).mono ?_; rintro e wb ⟨rfl, hbwb⟩)
      refine hK.out _ _ (keepS (by assumption) hbwb) (fun hHeld => ?_)
      clear hK K
      try simp only [Act.put, List.setIfInBounds_toArray, List.set_cons_zero, List.set_cons_succ, List.getElem_toArray, List.getElem_cons_zero, List.getElem_cons_succ]
      refine wpAnyH_take (i := 11) (v := .bool false) rfl (by kernel_rfl) (by kernel_rfl) (by kernel_rfl) (fun _ _ _ h => h) (Or.inl ⟨by rfl, ?_⟩) (by assumption) ?_
      · intro wx hSw; go_simp
      try simp only [Act.put, List.setIfInBounds_toArray, List.set_cons_zero, List.set_cons_succ, List.getElem_toArray, List.getElem_cons_zero, List.getElem_cons_succ]
      refine wpAnyH_take (i := 12) (v := .bool false) rfl (by kernel_rfl) (by kernel_rfl) (by kernel_rfl) (fun _ _ _ h => h) (Or.inl ⟨by rfl, ?_⟩) (by assumption) ?_
      · intro wx hSw; go_simp
      try simp only [Act.put, List.setIfInBounds_toArray, List.set_cons_zero, List.set_cons_succ, List.getElem_toArray, List.getElem_cons_zero, List.getElem_cons_succ]
      refine wpAnyH_take (i := 13) (v := undef) rfl (by kernel_rfl) (by kernel_rfl) (by kernel_rfl) (fun _ _ _ h => h) (Or.inr ⟨by rfl, rfl⟩) (by assumption) ?_
      try simp only [Act.put, List.setIfInBounds_toArray, List.set_cons_zero, List.set_cons_succ, List.getElem_toArray, List.getElem_cons_zero, List.getElem_cons_succ]
      refine wpAnyH_take (i := 14) (v := undef) rfl (by kernel_rfl) (by kernel_rfl) (by kernel_rfl) (fun _ _ _ h => h) (Or.inr ⟨by rfl, rfl⟩) (by assumption) ?_
      try simp only [Act.put, List.setIfInBounds_toArray, List.set_cons_zero, List.set_cons_succ, List.getElem_toArray, List.getElem_cons_zero, List.getElem_cons_succ]
      refine wpAnyH_take (i := 15) (v := undef) rfl (by kernel_rfl) (by kernel_rfl) (by kernel_rfl) (fun _ _ _ h => h) (Or.inr ⟨by rfl, rfl⟩) (by assumption) ?_
      try simp only [Act.put, List.setIfInBounds_toArray, List.set_cons_zero, List.set_cons_succ, List.getElem_toArray, List.getElem_cons_zero, List.getElem_cons_succ]
      refine wpAnyH_take (i := 16) (v := undef) rfl (by kernel_rfl) (by kernel_rfl) (by kernel_rfl) (fun _ _ _ h => h) (Or.inr ⟨by rfl, rfl⟩) (by assumption) ?_
      try simp only [Act.put, List.setIfInBounds_toArray, List.set_cons_zero, List.set_cons_succ, List.getElem_toArray, List.getElem_cons_zero, List.getElem_cons_succ]
      refine wpAnyH_take (i := 17) (v := .bool false) rfl (by kernel_rfl) (by kernel_rfl) (by kernel_rfl) (fun _ _ _ h => h) (Or.inl ⟨by rfl, ?_⟩) (by assumption) ?_
      · intro wx hSw; go_simp
      try simp only [Act.put, List.setIfInBounds_toArray, List.set_cons_zero, List.set_cons_succ, List.getElem_toArray, List.getElem_cons_zero, List.getElem_cons_succ]
      refine wpAnyH_take (i := 18) (v := .bool false) rfl (by kernel_rfl) (by kernel_rfl) (by kernel_rfl) (fun _ _ _ h => h) (Or.inl ⟨by rfl, ?_⟩) (by assumption) ?_
      · intro wx hSw; go_simp
      try simp only [Act.put, List.setIfInBounds_toArray, List.set_cons_zero, List.set_cons_succ, List.getElem_toArray, List.getElem_cons_zero, List.getElem_cons_succ]
      refine wpAnyH_take (i := 19) (v := undef) rfl (by kernel_rfl) (by kernel_rfl) (by kernel_rfl) (fun _ _ _ h => h) (Or.inr ⟨by rfl, rfl⟩) (by assumption) ?_
      try simp only [Act.put, List.setIfInBounds_toArray, List.set_cons_zero, List.set_cons_succ, List.getElem_toArray, List.getElem_cons_zero, List.getElem_cons_succ]
      refine wpAnyH_take (i := 20) (v := undef) rfl (by kernel_rfl) (by kernel_rfl) (by kernel_rfl) (fun _ _ _ h => h) (Or.inr ⟨by rfl, rfl⟩) (by assumption) ?_
      try simp only [Act.put, List.setIfInBounds_toArray, List.set_cons_zero, List.set_cons_succ, List.getElem_toArray, List.getElem_cons_zero, List.getElem_cons_succ]
      refine wpAnyH_take (i := 21) (v := undef) rfl (by kernel_rfl) (by kernel_rfl) (by kernel_rfl) (fun _ _ _ h => h) (Or.inr ⟨by rfl, rfl⟩) (by assumption) ?_
      try simp only [Act.put, List.setIfInBounds_toArray, List.set_cons_zero, List.set_cons_succ, List.getElem_toArray, List.getElem_cons_zero, List.getElem_cons_succ]
      refine wpAnyH_take (i := 22) (v := undef) rfl (by kernel_rfl) (by kernel_rfl) (by kernel_rfl) (fun _ _ _ h => h) (Or.inr ⟨by rfl, rfl⟩) (by assumption) ?_
      try simp only [Act.put, List.setIfInBounds_toArray, List.set_cons_zero, List.set_cons_succ, List.getElem_toArray, List.getElem_cons_zero, List.getElem_cons_succ]
      refine wpAnyH_take (i := 23) (v := undef) rfl (by kernel_rfl) (by kernel_rfl) (by kernel_rfl) (fun _ _ _ h => h) (Or.inr ⟨by rfl, rfl⟩) (by assumption) ?_
      try simp only [Act.put, List.setIfInBounds_toArray, List.set_cons_zero, List.set_cons_succ, List.getElem_toArray, List.getElem_cons_zero, List.getElem_cons_succ]
      refine wpAnyH_take (i := 24) (v := undef) rfl (by kernel_rfl) (by kernel_rfl) (by kernel_rfl) (fun _ _ _ h => h) (Or.inr ⟨by rfl, rfl⟩) (by assumption) ?_
      try simp only [Act.put, List.setIfInBounds_toArray, List.set_cons_zero, List.set_cons_succ, List.getElem_toArray, List.getElem_cons_zero, List.getElem_cons_succ]
      refine wpAnyH_take (i := 25) (v := undef) rfl (by kernel_rfl) (by kernel_rfl) (by kernel_rfl) (fun _ _ _ h => h) (Or.inr ⟨by rfl, rfl⟩) (by assumption) ?_
      try simp only [Act.put, List.setIfInBounds_toArray, List.set_cons_zero, List.set_cons_succ, List.getElem_toArray, List.getElem_cons_zero, List.getElem_cons_succ]
      refine wpAnyH_take (i := 26) (v := undef) rfl (by kernel_rfl) (by kernel_rfl) (by kernel_rfl) (fun _ _ _ h => h) (Or.inr ⟨by rfl, rfl⟩) (by assumption) ?_
      try simp only [Act.put, List.setIfInBounds_toArray, List.set_cons_zero, List.set_cons_succ, List.getElem_toArray, List.getElem_cons_zero, List.getElem_cons_succ]
      refine wpAnyH_take (i := 27) (v := .bool false) rfl (by kernel_rfl) (by kernel_rfl) (by kernel_rfl) (fun _ _ _ h => h) (Or.inl ⟨by rfl, ?_⟩) (by assumption) ?_
      · intro wx hSw; go_simp
      try simp only [Act.put, List.setIfInBounds_toArray, List.set_cons_zero, List.set_cons_succ, List.getElem_toArray, List.getElem_cons_zero, List.getElem_cons_succ]
      refine wpAnyH_take (i := 28) (v := .bool false) rfl (by kernel_rfl) (by kernel_rfl) (by kernel_rfl) (fun _ _ _ h => h) (Or.inl ⟨by rfl, ?_⟩) (by assumption) ?_
      · intro wx hSw; go_simp
      try simp only [Act.put, List.setIfInBounds_toArray, List.set_cons_zero, List.set_cons_succ, List.getElem_toArray, List.getElem_cons_zero, List.getElem_cons_succ]
      refine wpAnyH_done (by kernel_rfl) ?_ _
      go_wp2
      go_ret
      exact ⟨by simp, by repeat (first | exact Below.refl _ _ | refine bthen ?_ (by assumption) | apply Below.drew | apply bdrewN | refine Below.alloc ?_ (by simp <;> omega) _)⟩
    · cases h3 : fb
      · rw [h3] at hfit
        go_enter Tryz.func54, Tryz.ntmps54
        go_wp2_with (go_at_call 55; refine (deedOf _ _ _ _ _ _).mono ?_; rintro e w1 ⟨rfl, hb1⟩; rw [hd])
        obtain ⟨hc1, hf1⟩ := bcell hb1
        have hlt : w.heap.size < w1.heap.size := Nat.lt_of_lt_of_le (by simp) hb1.size
        have x0 : w1.cell? ⟨w.heap.size, 0, none⟩ = some (.int .i64 who) := by rw [hc1 _ _ (by simp)]; simp
        have x1 : w1.cell? ⟨w.heap.size, 1, none⟩ = some (.int .i64 seq) := by rw [hc1 _ _ (by simp)]; simp
        have x2 : w1.cell? ⟨w.heap.size, 2, none⟩ = some (.int .i64 k) := by rw [hc1 _ _ (by simp)]; simp
        have x3 : w1.cell? ⟨w.heap.size, 3, none⟩ = some (.int .i64 tq) := by rw [hc1 _ _ (by simp)]; simp
        have x4 : w1.cell? ⟨w.heap.size, 4, none⟩ = some (.int .i64 n) := by rw [hc1 _ _ (by simp)]; simp
        clear hc1 hf1
        refine wp_region_held_drew (S := fun w' => (∀ b o, b < w1.heap.size → w'.cell? ⟨b, o, none⟩ = w1.cell? ⟨b, o, none⟩) ∧ w1.heap.size ≤ w'.heap.size) (by kernel_rfl) ⟨fun _ _ _ => rfl, Nat.le_refl _⟩ ?_
        intro hHeld
        refine wpAnyH_take (i := 0) (v := .iface t V) rfl (by kernel_rfl) (by kernel_rfl) (by kernel_rfl) (fun _ _ _ h => h) (Or.inl ⟨by rfl, ?_⟩) (by assumption) ?_
        · intro wx hSw; go_simp
        try simp only [Act.put, List.setIfInBounds_toArray, List.set_cons_zero, List.set_cons_succ, List.getElem_toArray, List.getElem_cons_zero]
        refine wpAnyH_take (i := 1) (v := .bool true) rfl (by kernel_rfl) (by kernel_rfl) (by kernel_rfl) (fun _ _ _ h => h) (Or.inl ⟨by rfl, ?_⟩) (by assumption) ?_
        · intro wx hSw; go_simp
        try simp only [Act.put, List.setIfInBounds_toArray, List.set_cons_zero, List.set_cons_succ, List.getElem_toArray, List.getElem_cons_zero, List.getElem_cons_succ]
        refine wpAnyH_take (i := 2) (v := .bool true) rfl (by kernel_rfl) (by kernel_rfl) (by kernel_rfl) (fun _ _ _ h => h) (Or.inl ⟨by rfl, ?_⟩) (by assumption) ?_
        · intro wx hSw; go_simp
        try simp only [Act.put, List.setIfInBounds_toArray, List.set_cons_zero, List.set_cons_succ, List.getElem_toArray, List.getElem_cons_zero, List.getElem_cons_succ]
        refine wpAnyH_take (i := 3) (v := .pointer (some ⟨w.heap.size, 0, none⟩)) rfl (by kernel_rfl) (by kernel_rfl) (by kernel_rfl) (fun _ _ _ h => h) (Or.inl ⟨by rfl, ?_⟩) (by assumption) ?_
        · intro wx hSw; go_simp
        try simp only [Act.put, List.setIfInBounds_toArray, List.set_cons_zero, List.set_cons_succ, List.getElem_toArray, List.getElem_cons_zero, List.getElem_cons_succ]
        refine wpAnyH_take (i := 4) (v := .int .i64 who) rfl (by kernel_rfl) (by kernel_rfl) (by kernel_rfl) (fun _ _ _ h => h) (Or.inl ⟨by rfl, ?_⟩) (by assumption) ?_
        · intro wx hSw; go_simp
        try simp only [Act.put, List.setIfInBounds_toArray, List.set_cons_zero, List.set_cons_succ, List.getElem_toArray, List.getElem_cons_zero, List.getElem_cons_succ]
        refine wpAnyH_ready (rs := [5]) (by kernel_rfl) (by simp) ?_
        refine AllReadyH.cons rfl (fun K hK => ?_) AllReadyH.nil
        go_simp
        go_wp2_with (go_at_call 28; refine (in_T h1 _).mono ?_; rintro e wa ⟨rfl, hbwa⟩)
        refine hK.out _ _ (keepS (by assumption) hbwa) (fun hHeld => ?_)
        clear hK K
        try simp only [Act.put, List.setIfInBounds_toArray, List.set_cons_zero, List.set_cons_succ, List.getElem_toArray, List.getElem_cons_zero, List.getElem_cons_succ]
        refine wpAnyH_take (i := 6) (v := .bool true) rfl (by kernel_rfl) (by kernel_rfl) (by kernel_rfl) (fun _ _ _ h => h) (Or.inl ⟨by rfl, ?_⟩) (by assumption) ?_
        · intro wx hSw; go_simp
        try simp only [Act.put, List.setIfInBounds_toArray, List.set_cons_zero, List.set_cons_succ, List.getElem_toArray, List.getElem_cons_zero, List.getElem_cons_succ]
        refine wpAnyH_take (i := 7) (v := .bool true) rfl (by kernel_rfl) (by kernel_rfl) (by kernel_rfl) (fun _ _ _ h => h) (Or.inl ⟨by rfl, ?_⟩) (by assumption) ?_
        · intro wx hSw; go_simp
        try simp only [Act.put, List.setIfInBounds_toArray, List.set_cons_zero, List.set_cons_succ, List.getElem_toArray, List.getElem_cons_zero, List.getElem_cons_succ]
        refine wpAnyH_take (i := 8) (v := .pointer (some ⟨w.heap.size, 1, none⟩)) rfl (by kernel_rfl) (by kernel_rfl) (by kernel_rfl) (fun _ _ _ h => h) (Or.inl ⟨by rfl, ?_⟩) (by assumption) ?_
        · intro wx hSw; go_simp
        try simp only [Act.put, List.setIfInBounds_toArray, List.set_cons_zero, List.set_cons_succ, List.getElem_toArray, List.getElem_cons_zero, List.getElem_cons_succ]
        refine wpAnyH_take (i := 9) (v := .int .i64 seq) rfl (by kernel_rfl) (by kernel_rfl) (by kernel_rfl) (fun _ _ _ h => h) (Or.inl ⟨by rfl, ?_⟩) (by assumption) ?_
        · intro wx hSw; go_simp
        try simp only [Act.put, List.setIfInBounds_toArray, List.set_cons_zero, List.set_cons_succ, List.getElem_toArray, List.getElem_cons_zero, List.getElem_cons_succ]
        refine wpAnyH_ready (rs := [10]) (by kernel_rfl) (by simp) ?_
        refine AllReadyH.cons rfl (fun K hK => ?_) AllReadyH.nil
        go_simp
        go_wp2_with (go_at_call 28; refine (in_T h2 _).mono ?_; rintro e wb ⟨rfl, hbwb⟩)
        refine hK.out _ _ (keepS (by assumption) hbwb) (fun hHeld => ?_)
        clear hK K
        try simp only [Act.put, List.setIfInBounds_toArray, List.set_cons_zero, List.set_cons_succ, List.getElem_toArray, List.getElem_cons_zero, List.getElem_cons_succ]
        refine wpAnyH_take (i := 11) (v := .bool true) rfl (by kernel_rfl) (by kernel_rfl) (by kernel_rfl) (fun _ _ _ h => h) (Or.inl ⟨by rfl, ?_⟩) (by assumption) ?_
        · intro wx hSw; go_simp
        try simp only [Act.put, List.setIfInBounds_toArray, List.set_cons_zero, List.set_cons_succ, List.getElem_toArray, List.getElem_cons_zero, List.getElem_cons_succ]
        refine wpAnyH_take (i := 12) (v := .bool true) rfl (by kernel_rfl) (by kernel_rfl) (by kernel_rfl) (fun _ _ _ h => h) (Or.inl ⟨by rfl, ?_⟩) (by assumption) ?_
        · intro wx hSw; go_simp
        try simp only [Act.put, List.setIfInBounds_toArray, List.set_cons_zero, List.set_cons_succ, List.getElem_toArray, List.getElem_cons_zero, List.getElem_cons_succ]
        refine wpAnyH_take (i := 13) (v := .iface t V) rfl (by kernel_rfl) (by kernel_rfl) (by kernel_rfl) (fun _ _ _ h => h) (Or.inl ⟨by rfl, ?_⟩) (by assumption) ?_
        · intro wx hSw; go_simp
        try simp only [Act.put, List.setIfInBounds_toArray, List.set_cons_zero, List.set_cons_succ, List.getElem_toArray, List.getElem_cons_zero, List.getElem_cons_succ]
        refine wpAnyH_take (i := 14) (v := .pointer (some ⟨w.heap.size, 0, none⟩)) rfl (by kernel_rfl) (by kernel_rfl) (by kernel_rfl) (fun _ _ _ h => h) (Or.inl ⟨by rfl, ?_⟩) (by assumption) ?_
        · intro wx hSw; go_simp
        try simp only [Act.put, List.setIfInBounds_toArray, List.set_cons_zero, List.set_cons_succ, List.getElem_toArray, List.getElem_cons_zero, List.getElem_cons_succ]
        refine wpAnyH_take (i := 15) (v := .int .i64 who) rfl (by kernel_rfl) (by kernel_rfl) (by kernel_rfl) (fun _ _ _ h => h) (Or.inl ⟨by rfl, ?_⟩) (by assumption) ?_
        · intro wx hSw; go_simp
        try simp only [Act.put, List.setIfInBounds_toArray, List.set_cons_zero, List.set_cons_succ, List.getElem_toArray, List.getElem_cons_zero, List.getElem_cons_succ]
        refine wpAnyH_ready (rs := [16]) (by kernel_rfl) (by simp) ?_
        refine AllReadyH.cons rfl (fun K hK => ?_) AllReadyH.nil
        go_simp
        go_wp2_with fail
        refine (hfit _).mono ?_
        rintro e wc ⟨rfl, hbwc⟩
        refine hK.out _ _ (keepS (by assumption) hbwc) (fun hHeld => ?_)
        clear hK K
        try simp only [Act.put, List.setIfInBounds_toArray, List.set_cons_zero, List.set_cons_succ, List.getElem_toArray, List.getElem_cons_zero, List.getElem_cons_succ]
        refine wpAnyH_take (i := 17) (v := .bool false) rfl (by kernel_rfl) (by kernel_rfl) (by kernel_rfl) (fun _ _ _ h => h) (Or.inl ⟨by rfl, ?_⟩) (by assumption) ?_
        · intro wx hSw; go_simp
        try simp only [Act.put, List.setIfInBounds_toArray, List.set_cons_zero, List.set_cons_succ, List.getElem_toArray, List.getElem_cons_zero, List.getElem_cons_succ]
        refine wpAnyH_take (i := 18) (v := .bool false) rfl (by kernel_rfl) (by kernel_rfl) (by kernel_rfl) (fun _ _ _ h => h) (Or.inl ⟨by rfl, ?_⟩) (by assumption) ?_
        · intro wx hSw; go_simp
        try simp only [Act.put, List.setIfInBounds_toArray, List.set_cons_zero, List.set_cons_succ, List.getElem_toArray, List.getElem_cons_zero, List.getElem_cons_succ]
        refine wpAnyH_take (i := 19) (v := undef) rfl (by kernel_rfl) (by kernel_rfl) (by kernel_rfl) (fun _ _ _ h => h) (Or.inr ⟨by rfl, rfl⟩) (by assumption) ?_
        try simp only [Act.put, List.setIfInBounds_toArray, List.set_cons_zero, List.set_cons_succ, List.getElem_toArray, List.getElem_cons_zero, List.getElem_cons_succ]
        refine wpAnyH_take (i := 20) (v := undef) rfl (by kernel_rfl) (by kernel_rfl) (by kernel_rfl) (fun _ _ _ h => h) (Or.inr ⟨by rfl, rfl⟩) (by assumption) ?_
        try simp only [Act.put, List.setIfInBounds_toArray, List.set_cons_zero, List.set_cons_succ, List.getElem_toArray, List.getElem_cons_zero, List.getElem_cons_succ]
        refine wpAnyH_take (i := 21) (v := undef) rfl (by kernel_rfl) (by kernel_rfl) (by kernel_rfl) (fun _ _ _ h => h) (Or.inr ⟨by rfl, rfl⟩) (by assumption) ?_
        try simp only [Act.put, List.setIfInBounds_toArray, List.set_cons_zero, List.set_cons_succ, List.getElem_toArray, List.getElem_cons_zero, List.getElem_cons_succ]
        refine wpAnyH_take (i := 22) (v := undef) rfl (by kernel_rfl) (by kernel_rfl) (by kernel_rfl) (fun _ _ _ h => h) (Or.inr ⟨by rfl, rfl⟩) (by assumption) ?_
        try simp only [Act.put, List.setIfInBounds_toArray, List.set_cons_zero, List.set_cons_succ, List.getElem_toArray, List.getElem_cons_zero, List.getElem_cons_succ]
        refine wpAnyH_take (i := 23) (v := undef) rfl (by kernel_rfl) (by kernel_rfl) (by kernel_rfl) (fun _ _ _ h => h) (Or.inr ⟨by rfl, rfl⟩) (by assumption) ?_
        try simp only [Act.put, List.setIfInBounds_toArray, List.set_cons_zero, List.set_cons_succ, List.getElem_toArray, List.getElem_cons_zero, List.getElem_cons_succ]
        refine wpAnyH_take (i := 24) (v := undef) rfl (by kernel_rfl) (by kernel_rfl) (by kernel_rfl) (fun _ _ _ h => h) (Or.inr ⟨by rfl, rfl⟩) (by assumption) ?_
        try simp only [Act.put, List.setIfInBounds_toArray, List.set_cons_zero, List.set_cons_succ, List.getElem_toArray, List.getElem_cons_zero, List.getElem_cons_succ]
        refine wpAnyH_take (i := 25) (v := undef) rfl (by kernel_rfl) (by kernel_rfl) (by kernel_rfl) (fun _ _ _ h => h) (Or.inr ⟨by rfl, rfl⟩) (by assumption) ?_
        try simp only [Act.put, List.setIfInBounds_toArray, List.set_cons_zero, List.set_cons_succ, List.getElem_toArray, List.getElem_cons_zero, List.getElem_cons_succ]
        refine wpAnyH_take (i := 26) (v := undef) rfl (by kernel_rfl) (by kernel_rfl) (by kernel_rfl) (fun _ _ _ h => h) (Or.inr ⟨by rfl, rfl⟩) (by assumption) ?_
        try simp only [Act.put, List.setIfInBounds_toArray, List.set_cons_zero, List.set_cons_succ, List.getElem_toArray, List.getElem_cons_zero, List.getElem_cons_succ]
        refine wpAnyH_take (i := 27) (v := .bool false) rfl (by kernel_rfl) (by kernel_rfl) (by kernel_rfl) (fun _ _ _ h => h) (Or.inl ⟨by rfl, ?_⟩) (by assumption) ?_
        · intro wx hSw; go_simp
        try simp only [Act.put, List.setIfInBounds_toArray, List.set_cons_zero, List.set_cons_succ, List.getElem_toArray, List.getElem_cons_zero, List.getElem_cons_succ]
        refine wpAnyH_take (i := 28) (v := .bool false) rfl (by kernel_rfl) (by kernel_rfl) (by kernel_rfl) (fun _ _ _ h => h) (Or.inl ⟨by rfl, ?_⟩) (by assumption) ?_
        · intro wx hSw; go_simp
        try simp only [Act.put, List.setIfInBounds_toArray, List.set_cons_zero, List.set_cons_succ, List.getElem_toArray, List.getElem_cons_zero, List.getElem_cons_succ]
        refine wpAnyH_done (by kernel_rfl) ?_ _
        go_wp2
        go_ret
        exact ⟨by simp, by repeat (first | exact Below.refl _ _ | refine bthen ?_ (by assumption) | apply Below.drew | apply bdrewN | refine Below.alloc ?_ (by simp <;> omega) _)⟩
      · rw [h3] at hfit
        go_enter Tryz.func54, Tryz.ntmps54
        go_wp2_with (go_at_call 55; refine (deedOf _ _ _ _ _ _).mono ?_; rintro e w1 ⟨rfl, hb1⟩; rw [hd])
        obtain ⟨hc1, hf1⟩ := bcell hb1
        have hlt : w.heap.size < w1.heap.size := Nat.lt_of_lt_of_le (by simp) hb1.size
        have x0 : w1.cell? ⟨w.heap.size, 0, none⟩ = some (.int .i64 who) := by rw [hc1 _ _ (by simp)]; simp
        have x1 : w1.cell? ⟨w.heap.size, 1, none⟩ = some (.int .i64 seq) := by rw [hc1 _ _ (by simp)]; simp
        have x2 : w1.cell? ⟨w.heap.size, 2, none⟩ = some (.int .i64 k) := by rw [hc1 _ _ (by simp)]; simp
        have x3 : w1.cell? ⟨w.heap.size, 3, none⟩ = some (.int .i64 tq) := by rw [hc1 _ _ (by simp)]; simp
        have x4 : w1.cell? ⟨w.heap.size, 4, none⟩ = some (.int .i64 n) := by rw [hc1 _ _ (by simp)]; simp
        clear hc1 hf1
        refine wp_region_held_drew (S := fun w' => (∀ b o, b < w1.heap.size → w'.cell? ⟨b, o, none⟩ = w1.cell? ⟨b, o, none⟩) ∧ w1.heap.size ≤ w'.heap.size) (by kernel_rfl) ⟨fun _ _ _ => rfl, Nat.le_refl _⟩ ?_
        intro hHeld
        refine wpAnyH_take (i := 0) (v := .iface t V) rfl (by kernel_rfl) (by kernel_rfl) (by kernel_rfl) (fun _ _ _ h => h) (Or.inl ⟨by rfl, ?_⟩) (by assumption) ?_
        · intro wx hSw; go_simp
        try simp only [Act.put, List.setIfInBounds_toArray, List.set_cons_zero, List.set_cons_succ, List.getElem_toArray, List.getElem_cons_zero]
        refine wpAnyH_take (i := 1) (v := .bool true) rfl (by kernel_rfl) (by kernel_rfl) (by kernel_rfl) (fun _ _ _ h => h) (Or.inl ⟨by rfl, ?_⟩) (by assumption) ?_
        · intro wx hSw; go_simp
        try simp only [Act.put, List.setIfInBounds_toArray, List.set_cons_zero, List.set_cons_succ, List.getElem_toArray, List.getElem_cons_zero, List.getElem_cons_succ]
        refine wpAnyH_take (i := 2) (v := .bool true) rfl (by kernel_rfl) (by kernel_rfl) (by kernel_rfl) (fun _ _ _ h => h) (Or.inl ⟨by rfl, ?_⟩) (by assumption) ?_
        · intro wx hSw; go_simp
        try simp only [Act.put, List.setIfInBounds_toArray, List.set_cons_zero, List.set_cons_succ, List.getElem_toArray, List.getElem_cons_zero, List.getElem_cons_succ]
        refine wpAnyH_take (i := 3) (v := .pointer (some ⟨w.heap.size, 0, none⟩)) rfl (by kernel_rfl) (by kernel_rfl) (by kernel_rfl) (fun _ _ _ h => h) (Or.inl ⟨by rfl, ?_⟩) (by assumption) ?_
        · intro wx hSw; go_simp
        try simp only [Act.put, List.setIfInBounds_toArray, List.set_cons_zero, List.set_cons_succ, List.getElem_toArray, List.getElem_cons_zero, List.getElem_cons_succ]
        refine wpAnyH_take (i := 4) (v := .int .i64 who) rfl (by kernel_rfl) (by kernel_rfl) (by kernel_rfl) (fun _ _ _ h => h) (Or.inl ⟨by rfl, ?_⟩) (by assumption) ?_
        · intro wx hSw; go_simp
        try simp only [Act.put, List.setIfInBounds_toArray, List.set_cons_zero, List.set_cons_succ, List.getElem_toArray, List.getElem_cons_zero, List.getElem_cons_succ]
        refine wpAnyH_ready (rs := [5]) (by kernel_rfl) (by simp) ?_
        refine AllReadyH.cons rfl (fun K hK => ?_) AllReadyH.nil
        go_simp
        go_wp2_with (go_at_call 28; refine (in_T h1 _).mono ?_; rintro e wa ⟨rfl, hbwa⟩)
        refine hK.out _ _ (keepS (by assumption) hbwa) (fun hHeld => ?_)
        clear hK K
        try simp only [Act.put, List.setIfInBounds_toArray, List.set_cons_zero, List.set_cons_succ, List.getElem_toArray, List.getElem_cons_zero, List.getElem_cons_succ]
        refine wpAnyH_take (i := 6) (v := .bool true) rfl (by kernel_rfl) (by kernel_rfl) (by kernel_rfl) (fun _ _ _ h => h) (Or.inl ⟨by rfl, ?_⟩) (by assumption) ?_
        · intro wx hSw; go_simp
        try simp only [Act.put, List.setIfInBounds_toArray, List.set_cons_zero, List.set_cons_succ, List.getElem_toArray, List.getElem_cons_zero, List.getElem_cons_succ]
        refine wpAnyH_take (i := 7) (v := .bool true) rfl (by kernel_rfl) (by kernel_rfl) (by kernel_rfl) (fun _ _ _ h => h) (Or.inl ⟨by rfl, ?_⟩) (by assumption) ?_
        · intro wx hSw; go_simp
        try simp only [Act.put, List.setIfInBounds_toArray, List.set_cons_zero, List.set_cons_succ, List.getElem_toArray, List.getElem_cons_zero, List.getElem_cons_succ]
        refine wpAnyH_take (i := 8) (v := .pointer (some ⟨w.heap.size, 1, none⟩)) rfl (by kernel_rfl) (by kernel_rfl) (by kernel_rfl) (fun _ _ _ h => h) (Or.inl ⟨by rfl, ?_⟩) (by assumption) ?_
        · intro wx hSw; go_simp
        try simp only [Act.put, List.setIfInBounds_toArray, List.set_cons_zero, List.set_cons_succ, List.getElem_toArray, List.getElem_cons_zero, List.getElem_cons_succ]
        refine wpAnyH_take (i := 9) (v := .int .i64 seq) rfl (by kernel_rfl) (by kernel_rfl) (by kernel_rfl) (fun _ _ _ h => h) (Or.inl ⟨by rfl, ?_⟩) (by assumption) ?_
        · intro wx hSw; go_simp
        try simp only [Act.put, List.setIfInBounds_toArray, List.set_cons_zero, List.set_cons_succ, List.getElem_toArray, List.getElem_cons_zero, List.getElem_cons_succ]
        refine wpAnyH_ready (rs := [10]) (by kernel_rfl) (by simp) ?_
        refine AllReadyH.cons rfl (fun K hK => ?_) AllReadyH.nil
        go_simp
        go_wp2_with (go_at_call 28; refine (in_T h2 _).mono ?_; rintro e wb ⟨rfl, hbwb⟩)
        refine hK.out _ _ (keepS (by assumption) hbwb) (fun hHeld => ?_)
        clear hK K
        try simp only [Act.put, List.setIfInBounds_toArray, List.set_cons_zero, List.set_cons_succ, List.getElem_toArray, List.getElem_cons_zero, List.getElem_cons_succ]
        refine wpAnyH_take (i := 11) (v := .bool true) rfl (by kernel_rfl) (by kernel_rfl) (by kernel_rfl) (fun _ _ _ h => h) (Or.inl ⟨by rfl, ?_⟩) (by assumption) ?_
        · intro wx hSw; go_simp
        try simp only [Act.put, List.setIfInBounds_toArray, List.set_cons_zero, List.set_cons_succ, List.getElem_toArray, List.getElem_cons_zero, List.getElem_cons_succ]
        refine wpAnyH_take (i := 12) (v := .bool true) rfl (by kernel_rfl) (by kernel_rfl) (by kernel_rfl) (fun _ _ _ h => h) (Or.inl ⟨by rfl, ?_⟩) (by assumption) ?_
        · intro wx hSw; go_simp
        try simp only [Act.put, List.setIfInBounds_toArray, List.set_cons_zero, List.set_cons_succ, List.getElem_toArray, List.getElem_cons_zero, List.getElem_cons_succ]
        refine wpAnyH_take (i := 13) (v := .iface t V) rfl (by kernel_rfl) (by kernel_rfl) (by kernel_rfl) (fun _ _ _ h => h) (Or.inl ⟨by rfl, ?_⟩) (by assumption) ?_
        · intro wx hSw; go_simp
        try simp only [Act.put, List.setIfInBounds_toArray, List.set_cons_zero, List.set_cons_succ, List.getElem_toArray, List.getElem_cons_zero, List.getElem_cons_succ]
        refine wpAnyH_take (i := 14) (v := .pointer (some ⟨w.heap.size, 0, none⟩)) rfl (by kernel_rfl) (by kernel_rfl) (by kernel_rfl) (fun _ _ _ h => h) (Or.inl ⟨by rfl, ?_⟩) (by assumption) ?_
        · intro wx hSw; go_simp
        try simp only [Act.put, List.setIfInBounds_toArray, List.set_cons_zero, List.set_cons_succ, List.getElem_toArray, List.getElem_cons_zero, List.getElem_cons_succ]
        refine wpAnyH_take (i := 15) (v := .int .i64 who) rfl (by kernel_rfl) (by kernel_rfl) (by kernel_rfl) (fun _ _ _ h => h) (Or.inl ⟨by rfl, ?_⟩) (by assumption) ?_
        · intro wx hSw; go_simp
        try simp only [Act.put, List.setIfInBounds_toArray, List.set_cons_zero, List.set_cons_succ, List.getElem_toArray, List.getElem_cons_zero, List.getElem_cons_succ]
        refine wpAnyH_ready (rs := [16]) (by kernel_rfl) (by simp) ?_
        refine AllReadyH.cons rfl (fun K hK => ?_) AllReadyH.nil
        go_simp
        go_wp2_with fail
        refine (hfit _).mono ?_
        rintro e wc ⟨rfl, hbwc⟩
        refine hK.out _ _ (keepS (by assumption) hbwc) (fun hHeld => ?_)
        clear hK K
        try simp only [Act.put, List.setIfInBounds_toArray, List.set_cons_zero, List.set_cons_succ, List.getElem_toArray, List.getElem_cons_zero, List.getElem_cons_succ]
        refine wpAnyH_take (i := 17) (v := .bool true) rfl (by kernel_rfl) (by kernel_rfl) (by kernel_rfl) (fun _ _ _ h => h) (Or.inl ⟨by rfl, ?_⟩) (by assumption) ?_
        · intro wx hSw; go_simp
        try simp only [Act.put, List.setIfInBounds_toArray, List.set_cons_zero, List.set_cons_succ, List.getElem_toArray, List.getElem_cons_zero, List.getElem_cons_succ]
        refine wpAnyH_take (i := 18) (v := .bool true) rfl (by kernel_rfl) (by kernel_rfl) (by kernel_rfl) (fun _ _ _ h => h) (Or.inl ⟨by rfl, ?_⟩) (by assumption) ?_
        · intro wx hSw; go_simp
        try simp only [Act.put, List.setIfInBounds_toArray, List.set_cons_zero, List.set_cons_succ, List.getElem_toArray, List.getElem_cons_zero, List.getElem_cons_succ]
        refine wpAnyH_take (i := 19) (v := .pointer (some ⟨w.heap.size, 0, none⟩)) rfl (by kernel_rfl) (by kernel_rfl) (by kernel_rfl) (fun _ _ _ h => h) (Or.inl ⟨by rfl, ?_⟩) (by assumption) ?_
        · intro wx hSw; go_simp
        try simp only [Act.put, List.setIfInBounds_toArray, List.set_cons_zero, List.set_cons_succ, List.getElem_toArray, List.getElem_cons_zero, List.getElem_cons_succ]
        refine wpAnyH_take (i := 20) (v := .int .i64 who) rfl (by kernel_rfl) (by kernel_rfl) (by kernel_rfl) (fun _ _ _ h => h) (Or.inl ⟨by rfl, ?_⟩) (by assumption) ?_
        · intro wx hSw; go_simp
        try simp only [Act.put, List.setIfInBounds_toArray, List.set_cons_zero, List.set_cons_succ, List.getElem_toArray, List.getElem_cons_zero, List.getElem_cons_succ]
        refine wpAnyH_take (i := 21) (v := .pointer (some ⟨w.heap.size, 1, none⟩)) rfl (by kernel_rfl) (by kernel_rfl) (by kernel_rfl) (fun _ _ _ h => h) (Or.inl ⟨by rfl, ?_⟩) (by assumption) ?_
        · intro wx hSw; go_simp
        try simp only [Act.put, List.setIfInBounds_toArray, List.set_cons_zero, List.set_cons_succ, List.getElem_toArray, List.getElem_cons_zero, List.getElem_cons_succ]
        refine wpAnyH_take (i := 22) (v := .int .i64 seq) rfl (by kernel_rfl) (by kernel_rfl) (by kernel_rfl) (fun _ _ _ h => h) (Or.inl ⟨by rfl, ?_⟩) (by assumption) ?_
        · intro wx hSw; go_simp
        try simp only [Act.put, List.setIfInBounds_toArray, List.set_cons_zero, List.set_cons_succ, List.getElem_toArray, List.getElem_cons_zero, List.getElem_cons_succ]
        refine wpAnyH_take (i := 23) (v := .iface t V) rfl (by kernel_rfl) (by kernel_rfl) (by kernel_rfl) (fun _ _ _ h => h) (Or.inl ⟨by rfl, ?_⟩) (by assumption) ?_
        · intro wx hSw; go_simp
        try simp only [Act.put, List.setIfInBounds_toArray, List.set_cons_zero, List.set_cons_succ, List.getElem_toArray, List.getElem_cons_zero, List.getElem_cons_succ]
        refine wpAnyH_take (i := 25) (v := .agg #[.int .i64 who, .int .i64 seq, .int .i64 k, .int .i64 tq, .int .i64 n]) rfl (by kernel_rfl) (by kernel_rfl) (by kernel_rfl) (fun _ _ _ h => h) (Or.inl ⟨by rfl, ?_⟩) (by assumption) ?_
        · intro wx hSw; go_simp
        try simp only [Act.put, List.setIfInBounds_toArray, List.set_cons_zero, List.set_cons_succ, List.getElem_toArray, List.getElem_cons_zero, List.getElem_cons_succ]
        refine wpAnyH_ready (rs := [24]) (by kernel_rfl) (by simp) ?_
        refine AllReadyH.cons rfl (fun K hK => ?_) AllReadyH.nil
        go_simp
        go_wp2_with (go_at_call 36; refine (hord _).mono ?_; rintro e wd ⟨rfl, hbwd⟩)
        refine hK.out _ _ (keepS (by assumption) hbwd) (fun hHeld => ?_)
        clear hK K
        try simp only [Act.put, List.setIfInBounds_toArray, List.set_cons_zero, List.set_cons_succ, List.getElem_toArray, List.getElem_cons_zero, List.getElem_cons_succ]
        refine wpAnyH_take (i := 26) (v := .bool (tq == to2 && n == n2)) rfl (by kernel_rfl) (by kernel_rfl) (by kernel_rfl) (fun _ _ _ h => h) (Or.inl ⟨by rfl, ?_⟩) (by assumption) ?_
        · intro wx hSw; first | (go_simp; done) | (go_simp; (repeat' split) <;> first | (simp_all; done) | (simp_all; omega))
        try simp only [Act.put, List.setIfInBounds_toArray, List.set_cons_zero, List.set_cons_succ, List.getElem_toArray, List.getElem_cons_zero, List.getElem_cons_succ]
        refine wpAnyH_take (i := 27) (v := .bool (tq == to2 && n == n2)) rfl (by kernel_rfl) (by kernel_rfl) (by kernel_rfl) (fun _ _ _ h => h) (Or.inl ⟨by rfl, ?_⟩) (by assumption) ?_
        · intro wx hSw; go_simp
        try simp only [Act.put, List.setIfInBounds_toArray, List.set_cons_zero, List.set_cons_succ, List.getElem_toArray, List.getElem_cons_zero, List.getElem_cons_succ]
        refine wpAnyH_take (i := 28) (v := .bool (tq == to2 && n == n2)) rfl (by kernel_rfl) (by kernel_rfl) (by kernel_rfl) (fun _ _ _ h => h) (Or.inl ⟨by rfl, ?_⟩) (by assumption) ?_
        · intro wx hSw; go_simp
        try simp only [Act.put, List.setIfInBounds_toArray, List.set_cons_zero, List.set_cons_succ, List.getElem_toArray, List.getElem_cons_zero, List.getElem_cons_succ]
        refine wpAnyH_done (by kernel_rfl) ?_ _
        go_wp2
        go_ret
        exact ⟨by simp, by repeat (first | exact Below.refl _ _ | refine bthen ?_ (by assumption) | apply Below.drew | apply bdrewN | refine Below.alloc ?_ (by simp <;> omega) _)⟩
theorem ordOk_step (who seq tq n : Int) (w : World) :
    Calls Tryz.prog 54 #[.agg #[.int .i64 who, .int .i64 seq, .int .i64 1, .int .i64 tq, .int .i64 n]] w fun e w' => e = .returned (.bool (ordB who seq 1 tq n)) ∧ Below w.heap.size w w' :=
  (ordOk_gen who seq 1 tq n tq 0 79 (.agg #[.int .i64 tq]) 107 _ rfl (fun _ => by kernel_rfl) (fun _ _ => by kernel_rfl) (fits_step tq who) (order_step who seq tq n) w).mono
    (by rintro e w' ⟨rfl, hb⟩; exact ⟨by simp [ordB, kindB], hb⟩)
theorem ordOk_give (who seq tq n : Int) (w : World) :
    Calls Tryz.prog 54 #[.agg #[.int .i64 who, .int .i64 seq, .int .i64 2, .int .i64 tq, .int .i64 n]] w fun e w' => e = .returned (.bool (ordB who seq 2 tq n)) ∧ Below w.heap.size w w' :=
  (ordOk_gen who seq 2 tq n tq n 81 (.agg #[.int .i64 tq, .int .i64 n]) 109 _ rfl (fun _ => by kernel_rfl) (fun _ _ => by kernel_rfl) (fits_give tq n who) (order_give who seq tq n) w).mono
    (by rintro e w' ⟨rfl, hb⟩; exact ⟨by simp [ordB, kindB], hb⟩)
theorem ordOk_drop (who seq tq n : Int) (w : World) :
    Calls Tryz.prog 54 #[.agg #[.int .i64 who, .int .i64 seq, .int .i64 3, .int .i64 tq, .int .i64 n]] w fun e w' => e = .returned (.bool (ordB who seq 3 tq n)) ∧ Below w.heap.size w w' :=
  (ordOk_gen who seq 3 tq n 0 n 83 (.agg #[.int .i64 n]) 112 _ rfl (fun _ => by kernel_rfl) (fun _ _ => by kernel_rfl) (fits_drop n who) (order_drop who seq tq n) w).mono
    (by rintro e w' ⟨rfl, hb⟩; exact ⟨by simp [ordB, kindB, Bool.and_comm], hb⟩)
theorem ordOk_pick (who seq tq n : Int) (w : World) :
    Calls Tryz.prog 54 #[.agg #[.int .i64 who, .int .i64 seq, .int .i64 4, .int .i64 tq, .int .i64 n]] w fun e w' => e = .returned (.bool (ordB who seq 4 tq n)) ∧ Below w.heap.size w w' :=
  (ordOk_gen who seq 4 tq n 0 n 84 (.agg #[.int .i64 n]) 114 _ rfl (fun _ => by kernel_rfl) (fun _ _ => by kernel_rfl) (fits_pick n who) (order_pick who seq tq n) w).mono
    (by rintro e w' ⟨rfl, hb⟩; exact ⟨by simp [ordB, kindB, Bool.and_comm], hb⟩)
theorem ordOk_throw (who seq tq n : Int) (w : World) :
    Calls Tryz.prog 54 #[.agg #[.int .i64 who, .int .i64 seq, .int .i64 5, .int .i64 tq, .int .i64 n]] w fun e w' => e = .returned (.bool (ordB who seq 5 tq n)) ∧ Below w.heap.size w w' :=
  (ordOk_gen who seq 5 tq n tq n 86 (.agg #[.int .i64 tq, .int .i64 n]) 116 _ rfl (fun _ => by kernel_rfl) (fun _ _ => by kernel_rfl) (fits_throw tq n who) (order_throw who seq tq n) w).mono
    (by rintro e w' ⟨rfl, hb⟩; exact ⟨by simp [ordB, kindB], hb⟩)
theorem ordOk_rest (who seq tq n : Int) (w : World) :
    Calls Tryz.prog 54 #[.agg #[.int .i64 who, .int .i64 seq, .int .i64 6, .int .i64 tq, .int .i64 n]] w fun e w' => e = .returned (.bool (ordB who seq 6 tq n)) ∧ Below w.heap.size w w' :=
  (ordOk_gen who seq 6 tq n 0 0 88 (.agg #[]) 118 _ rfl (fun _ => by kernel_rfl) (fun _ _ => by kernel_rfl) (fits_rest who) (order_rest who seq tq n) w).mono
    (by rintro e w' ⟨rfl, hb⟩; exact ⟨by simp [ordB, kindB], hb⟩)
set_option maxRecDepth 100000 in
set_option maxHeartbeats 2000000 in
theorem ordOk_none (who seq k tq n : Int) (h : k ≠ 1 ∧ k ≠ 2 ∧ k ≠ 3 ∧ k ≠ 4 ∧ k ≠ 5 ∧ k ≠ 6) (w : World) :
    Calls Tryz.prog 54 #[.agg #[.int .i64 who, .int .i64 seq, .int .i64 k, .int .i64 tq, .int .i64 n]] w fun e w' => e = .returned (.bool (ordB who seq k tq n)) ∧ Below w.heap.size w w' := by
  have hd : deedV k tq n = .nilIface := by obtain ⟨a, b, c, d, e, f⟩ := h; simp [deedV, *]
  have hB : Hid (ordB who seq k tq n = false) := by obtain ⟨a, b, c, d, e, f⟩ := h; show ordB who seq k tq n = false; simp [ordB, kindB, *]
  clear h
  go_enter Tryz.func54, Tryz.ntmps54
  go_wp2_with (go_at_call 55; refine (deedOf _ _ _ _ _ _).mono ?_; rintro e w1 ⟨rfl, hb1⟩; rw [hd])
  refine wp_region_held_drew (S := fun w' => (∀ b o, b < w1.heap.size → w'.cell? ⟨b, o, none⟩ = w1.cell? ⟨b, o, none⟩) ∧ w1.heap.size ≤ w'.heap.size) (by kernel_rfl) ⟨fun _ _ _ => rfl, Nat.le_refl _⟩ ?_
  intro hHeld
  refine wpAnyH_take (i := 0) (v := .nilIface) rfl (by kernel_rfl) (by kernel_rfl) (by kernel_rfl) (fun _ _ _ h => h) (Or.inl ⟨by rfl, ?_⟩) (by assumption) ?_
  · intro wx hSw; go_simp
  try simp only [Act.put, List.setIfInBounds_toArray, List.set_cons_zero, List.set_cons_succ, List.getElem_toArray, List.getElem_cons_zero]
  refine wpAnyH_take (i := 1) (v := .bool false) rfl (by kernel_rfl) (by kernel_rfl) (by kernel_rfl) (fun _ _ _ h => h) (Or.inl ⟨by rfl, ?_⟩) (by assumption) ?_
  · intro wx hSw; go_simp
  try simp only [Act.put, List.setIfInBounds_toArray, List.set_cons_zero, List.set_cons_succ, List.getElem_toArray, List.getElem_cons_zero, List.getElem_cons_succ]
  refine wpAnyH_take (i := 2) (v := .bool false) rfl (by kernel_rfl) (by kernel_rfl) (by kernel_rfl) (fun _ _ _ h => h) (Or.inl ⟨by rfl, ?_⟩) (by assumption) ?_
  · intro wx hSw; go_simp
  try simp only [Act.put, List.setIfInBounds_toArray, List.set_cons_zero, List.set_cons_succ, List.getElem_toArray, List.getElem_cons_zero, List.getElem_cons_succ]
  refine wpAnyH_take (i := 3) (v := undef) rfl (by kernel_rfl) (by kernel_rfl) (by kernel_rfl) (fun _ _ _ h => h) (Or.inr ⟨by rfl, rfl⟩) (by assumption) ?_
  try simp only [Act.put, List.setIfInBounds_toArray, List.set_cons_zero, List.set_cons_succ, List.getElem_toArray, List.getElem_cons_zero, List.getElem_cons_succ]
  refine wpAnyH_take (i := 4) (v := undef) rfl (by kernel_rfl) (by kernel_rfl) (by kernel_rfl) (fun _ _ _ h => h) (Or.inr ⟨by rfl, rfl⟩) (by assumption) ?_
  try simp only [Act.put, List.setIfInBounds_toArray, List.set_cons_zero, List.set_cons_succ, List.getElem_toArray, List.getElem_cons_zero, List.getElem_cons_succ]
  refine wpAnyH_take (i := 5) (v := undef) rfl (by kernel_rfl) (by kernel_rfl) (by kernel_rfl) (fun _ _ _ h => h) (Or.inr ⟨by rfl, rfl⟩) (by assumption) ?_
  try simp only [Act.put, List.setIfInBounds_toArray, List.set_cons_zero, List.set_cons_succ, List.getElem_toArray, List.getElem_cons_zero, List.getElem_cons_succ]
  refine wpAnyH_take (i := 6) (v := .bool false) rfl (by kernel_rfl) (by kernel_rfl) (by kernel_rfl) (fun _ _ _ h => h) (Or.inl ⟨by rfl, ?_⟩) (by assumption) ?_
  · intro wx hSw; go_simp
  try simp only [Act.put, List.setIfInBounds_toArray, List.set_cons_zero, List.set_cons_succ, List.getElem_toArray, List.getElem_cons_zero, List.getElem_cons_succ]
  refine wpAnyH_take (i := 7) (v := .bool false) rfl (by kernel_rfl) (by kernel_rfl) (by kernel_rfl) (fun _ _ _ h => h) (Or.inl ⟨by rfl, ?_⟩) (by assumption) ?_
  · intro wx hSw; go_simp
  try simp only [Act.put, List.setIfInBounds_toArray, List.set_cons_zero, List.set_cons_succ, List.getElem_toArray, List.getElem_cons_zero, List.getElem_cons_succ]
  refine wpAnyH_take (i := 8) (v := undef) rfl (by kernel_rfl) (by kernel_rfl) (by kernel_rfl) (fun _ _ _ h => h) (Or.inr ⟨by rfl, rfl⟩) (by assumption) ?_
  try simp only [Act.put, List.setIfInBounds_toArray, List.set_cons_zero, List.set_cons_succ, List.getElem_toArray, List.getElem_cons_zero, List.getElem_cons_succ]
  refine wpAnyH_take (i := 9) (v := undef) rfl (by kernel_rfl) (by kernel_rfl) (by kernel_rfl) (fun _ _ _ h => h) (Or.inr ⟨by rfl, rfl⟩) (by assumption) ?_
  try simp only [Act.put, List.setIfInBounds_toArray, List.set_cons_zero, List.set_cons_succ, List.getElem_toArray, List.getElem_cons_zero, List.getElem_cons_succ]
  refine wpAnyH_take (i := 10) (v := undef) rfl (by kernel_rfl) (by kernel_rfl) (by kernel_rfl) (fun _ _ _ h => h) (Or.inr ⟨by rfl, rfl⟩) (by assumption) ?_
  try simp only [Act.put, List.setIfInBounds_toArray, List.set_cons_zero, List.set_cons_succ, List.getElem_toArray, List.getElem_cons_zero, List.getElem_cons_succ]
  refine wpAnyH_take (i := 11) (v := .bool false) rfl (by kernel_rfl) (by kernel_rfl) (by kernel_rfl) (fun _ _ _ h => h) (Or.inl ⟨by rfl, ?_⟩) (by assumption) ?_
  · intro wx hSw; go_simp
  try simp only [Act.put, List.setIfInBounds_toArray, List.set_cons_zero, List.set_cons_succ, List.getElem_toArray, List.getElem_cons_zero, List.getElem_cons_succ]
  refine wpAnyH_take (i := 12) (v := .bool false) rfl (by kernel_rfl) (by kernel_rfl) (by kernel_rfl) (fun _ _ _ h => h) (Or.inl ⟨by rfl, ?_⟩) (by assumption) ?_
  · intro wx hSw; go_simp
  try simp only [Act.put, List.setIfInBounds_toArray, List.set_cons_zero, List.set_cons_succ, List.getElem_toArray, List.getElem_cons_zero, List.getElem_cons_succ]
  refine wpAnyH_take (i := 13) (v := undef) rfl (by kernel_rfl) (by kernel_rfl) (by kernel_rfl) (fun _ _ _ h => h) (Or.inr ⟨by rfl, rfl⟩) (by assumption) ?_
  try simp only [Act.put, List.setIfInBounds_toArray, List.set_cons_zero, List.set_cons_succ, List.getElem_toArray, List.getElem_cons_zero, List.getElem_cons_succ]
  refine wpAnyH_take (i := 14) (v := undef) rfl (by kernel_rfl) (by kernel_rfl) (by kernel_rfl) (fun _ _ _ h => h) (Or.inr ⟨by rfl, rfl⟩) (by assumption) ?_
  try simp only [Act.put, List.setIfInBounds_toArray, List.set_cons_zero, List.set_cons_succ, List.getElem_toArray, List.getElem_cons_zero, List.getElem_cons_succ]
  refine wpAnyH_take (i := 15) (v := undef) rfl (by kernel_rfl) (by kernel_rfl) (by kernel_rfl) (fun _ _ _ h => h) (Or.inr ⟨by rfl, rfl⟩) (by assumption) ?_
  try simp only [Act.put, List.setIfInBounds_toArray, List.set_cons_zero, List.set_cons_succ, List.getElem_toArray, List.getElem_cons_zero, List.getElem_cons_succ]
  refine wpAnyH_take (i := 16) (v := undef) rfl (by kernel_rfl) (by kernel_rfl) (by kernel_rfl) (fun _ _ _ h => h) (Or.inr ⟨by rfl, rfl⟩) (by assumption) ?_
  try simp only [Act.put, List.setIfInBounds_toArray, List.set_cons_zero, List.set_cons_succ, List.getElem_toArray, List.getElem_cons_zero, List.getElem_cons_succ]
  refine wpAnyH_take (i := 17) (v := .bool false) rfl (by kernel_rfl) (by kernel_rfl) (by kernel_rfl) (fun _ _ _ h => h) (Or.inl ⟨by rfl, ?_⟩) (by assumption) ?_
  · intro wx hSw; go_simp
  try simp only [Act.put, List.setIfInBounds_toArray, List.set_cons_zero, List.set_cons_succ, List.getElem_toArray, List.getElem_cons_zero, List.getElem_cons_succ]
  refine wpAnyH_take (i := 18) (v := .bool false) rfl (by kernel_rfl) (by kernel_rfl) (by kernel_rfl) (fun _ _ _ h => h) (Or.inl ⟨by rfl, ?_⟩) (by assumption) ?_
  · intro wx hSw; go_simp
  try simp only [Act.put, List.setIfInBounds_toArray, List.set_cons_zero, List.set_cons_succ, List.getElem_toArray, List.getElem_cons_zero, List.getElem_cons_succ]
  refine wpAnyH_take (i := 19) (v := undef) rfl (by kernel_rfl) (by kernel_rfl) (by kernel_rfl) (fun _ _ _ h => h) (Or.inr ⟨by rfl, rfl⟩) (by assumption) ?_
  try simp only [Act.put, List.setIfInBounds_toArray, List.set_cons_zero, List.set_cons_succ, List.getElem_toArray, List.getElem_cons_zero, List.getElem_cons_succ]
  refine wpAnyH_take (i := 20) (v := undef) rfl (by kernel_rfl) (by kernel_rfl) (by kernel_rfl) (fun _ _ _ h => h) (Or.inr ⟨by rfl, rfl⟩) (by assumption) ?_
  try simp only [Act.put, List.setIfInBounds_toArray, List.set_cons_zero, List.set_cons_succ, List.getElem_toArray, List.getElem_cons_zero, List.getElem_cons_succ]
  refine wpAnyH_take (i := 21) (v := undef) rfl (by kernel_rfl) (by kernel_rfl) (by kernel_rfl) (fun _ _ _ h => h) (Or.inr ⟨by rfl, rfl⟩) (by assumption) ?_
  try simp only [Act.put, List.setIfInBounds_toArray, List.set_cons_zero, List.set_cons_succ, List.getElem_toArray, List.getElem_cons_zero, List.getElem_cons_succ]
  refine wpAnyH_take (i := 22) (v := undef) rfl (by kernel_rfl) (by kernel_rfl) (by kernel_rfl) (fun _ _ _ h => h) (Or.inr ⟨by rfl, rfl⟩) (by assumption) ?_
  try simp only [Act.put, List.setIfInBounds_toArray, List.set_cons_zero, List.set_cons_succ, List.getElem_toArray, List.getElem_cons_zero, List.getElem_cons_succ]
  refine wpAnyH_take (i := 23) (v := undef) rfl (by kernel_rfl) (by kernel_rfl) (by kernel_rfl) (fun _ _ _ h => h) (Or.inr ⟨by rfl, rfl⟩) (by assumption) ?_
  try simp only [Act.put, List.setIfInBounds_toArray, List.set_cons_zero, List.set_cons_succ, List.getElem_toArray, List.getElem_cons_zero, List.getElem_cons_succ]
  refine wpAnyH_take (i := 24) (v := undef) rfl (by kernel_rfl) (by kernel_rfl) (by kernel_rfl) (fun _ _ _ h => h) (Or.inr ⟨by rfl, rfl⟩) (by assumption) ?_
  try simp only [Act.put, List.setIfInBounds_toArray, List.set_cons_zero, List.set_cons_succ, List.getElem_toArray, List.getElem_cons_zero, List.getElem_cons_succ]
  refine wpAnyH_take (i := 25) (v := undef) rfl (by kernel_rfl) (by kernel_rfl) (by kernel_rfl) (fun _ _ _ h => h) (Or.inr ⟨by rfl, rfl⟩) (by assumption) ?_
  try simp only [Act.put, List.setIfInBounds_toArray, List.set_cons_zero, List.set_cons_succ, List.getElem_toArray, List.getElem_cons_zero, List.getElem_cons_succ]
  refine wpAnyH_take (i := 26) (v := undef) rfl (by kernel_rfl) (by kernel_rfl) (by kernel_rfl) (fun _ _ _ h => h) (Or.inr ⟨by rfl, rfl⟩) (by assumption) ?_
  try simp only [Act.put, List.setIfInBounds_toArray, List.set_cons_zero, List.set_cons_succ, List.getElem_toArray, List.getElem_cons_zero, List.getElem_cons_succ]
  refine wpAnyH_take (i := 27) (v := .bool false) rfl (by kernel_rfl) (by kernel_rfl) (by kernel_rfl) (fun _ _ _ h => h) (Or.inl ⟨by rfl, ?_⟩) (by assumption) ?_
  · intro wx hSw; go_simp
  try simp only [Act.put, List.setIfInBounds_toArray, List.set_cons_zero, List.set_cons_succ, List.getElem_toArray, List.getElem_cons_zero, List.getElem_cons_succ]
  refine wpAnyH_take (i := 28) (v := .bool false) rfl (by kernel_rfl) (by kernel_rfl) (by kernel_rfl) (fun _ _ _ h => h) (Or.inl ⟨by rfl, ?_⟩) (by assumption) ?_
  · intro wx hSw; go_simp
  try simp only [Act.put, List.setIfInBounds_toArray, List.set_cons_zero, List.set_cons_succ, List.getElem_toArray, List.getElem_cons_zero, List.getElem_cons_succ]
  refine wpAnyH_done (by kernel_rfl) ?_ _
  go_wp2
  go_ret
  exact ⟨by rw [hB.out]; rfl, by repeat (first | exact Below.refl _ _ | refine bthen ?_ (by assumption) | apply Below.drew | apply bdrewN | refine Below.alloc ?_ (by simp <;> omega) _)⟩
theorem ordOk_impl (who seq k tq n : Int) (w : World) :
    Calls Tryz.prog 54 #[.agg #[.int .i64 who, .int .i64 seq, .int .i64 k, .int .i64 tq, .int .i64 n]] w fun e w' => e = .returned (.bool (ordB who seq k tq n)) ∧ Below w.heap.size w w' := by
  by_cases h1 : k = 1
  · subst h1; exact ordOk_step who seq tq n w
  by_cases h2 : k = 2
  · subst h2; exact ordOk_give who seq tq n w
  by_cases h3 : k = 3
  · subst h3; exact ordOk_drop who seq tq n w
  by_cases h4 : k = 4
  · subst h4; exact ordOk_pick who seq tq n w
  by_cases h5 : k = 5
  · subst h5; exact ordOk_throw who seq tq n w
  by_cases h6 : k = 6
  · subst h6; exact ordOk_rest who seq tq n w
  exact ordOk_none who seq k tq n ⟨h1, h2, h3, h4, h5, h6⟩ w
end Go.Proofs.YtalmnogdplhflaaGreatDoor
namespace Go.Proofs.YtalmnogdplhflaaGreatDoor
open Go.RowKit
set_option linter.unusedVariables false
abbrev SP : ByteArray := ⟨#[32]⟩
/-- The head of an order's text: who, seq, and a blank behind each. -/
def OH1 (who : Int) : ByteArray := DD who ++ SP
def OH2 (who seq : Int) : ByteArray := OH1 who ++ DD seq
def OH (who seq : Int) : ByteArray := OH2 who seq ++ SP
/-- What stands behind it, kind by kind. -/
def tstep (du : Int) : ByteArray := (⟨#[115, 116, 101, 112, 32]⟩ : ByteArray) ++ wordOf du
def tgive (du n : Int) : ByteArray := (((⟨#[103, 105, 118, 101, 32]⟩ : ByteArray) ++ DD du) ++ SP) ++ DD n
def tdrop (n : Int) : ByteArray := (⟨#[100, 114, 111, 112, 32]⟩ : ByteArray) ++ DD n
def tpick (n : Int) : ByteArray := (⟨#[112, 105, 99, 107, 32]⟩ : ByteArray) ++ DD n
def tthrow (du n : Int) : ByteArray := (((⟨#[116, 104, 114, 111, 119, 32]⟩ : ByteArray) ++ wordOf du) ++ SP) ++ DD n
def trest : ByteArray := ⟨#[114, 101, 115, 116]⟩
def tailOf (k du n : Int) : ByteArray :=
  if k = 1 then tstep du else if k = 2 then tgive du n else if k = 3 then tdrop n else if k = 4 then tpick n else if k = 5 then tthrow du n else trest
def ordText (who seq k du n : Int) : ByteArray := if ordB who seq k du n = true then OH who seq ++ tailOf k du n else ⟨#[]⟩
theorem word_size (s : Int) : (wordOf s).size ≤ 5 := by
  unfold wordOf; split
  · decide +kernel
  · split <;> decide +kernel
theorem OH_sizes (who seq : Int) (zi : (DD who).size ≤ 6) (zs : (DD seq).size ≤ 6) : (OH1 who).size ≤ 10 ∧ (OH2 who seq).size ≤ 20 ∧ (OH who seq).size ≤ 30 := by
  have e : SP.size = 1 := by decide +kernel
  unfold OH OH2 OH1
  simp only [ByteArray.size_append]
  omega
theorem ordB_true {who seq k du n : Int} (h : ordB who seq k du n = true) : (1 ≤ who ∧ who ≤ 9) ∧ (1 ≤ seq ∧ seq ≤ 900) ∧ kindB who k du n = true := by
  simpa [ordB, inB, and_assoc] using h
theorem side_spec (du : Int) (h : sideB du = true) (w : World) :
    Calls Tryz.prog 33 #[.int .i64 du] w fun e w' => e = .returned (.string (wordOf du)) ∧ Below w.heap.size w w' := by
  have h2 : du = 0 ∨ du = 1 := by simp [sideB, inB] at h; omega
  go_enter Tryz.func33, Tryz.ntmps33
  go_wp2
  all_goals (go_ret; exact ⟨by simp_all [wordOf], Below.refl _ _⟩)
set_option maxHeartbeats 1000000 in
set_option maxRecDepth 100000 in
theorem text_step_spec (who seq du n : Int) (h : ordB who seq 1 du n = true) (w : World) :
    Calls Tryz.prog 22 #[.agg #[.int .i64 who, .int .i64 seq, .int .i64 1, .int .i64 du, .int .i64 n]] w fun e w' => e = .returned (.string (OH who seq ++ tstep du)) ∧ Below w.heap.size w w' := by
  obtain ⟨⟨hw1, hw2⟩, ⟨hq1, hq2⟩, hk⟩ := ordB_true h
  have hs : sideB du = true := by have := hk; simp [kindB] at this; exact this.1
  have zi : (DD who).size ≤ 6 := DD_size who (by omega)
  have zs : (DD seq).size ≤ 6 := DD_size seq (by omega)
  have zl : (⟨#[115, 116, 101, 112, 32]⟩ : ByteArray).size ≤ 6 := by decide +kernel
  have zsp : SP.size = 1 := by decide +kernel
  have zw := word_size du
  obtain ⟨z1, z2, z3⟩ := OH_sizes who seq zi zs
  have c1 : ∀ w : World, (Op.stringOp .add (DD who) SP).run Tryz.prog w = .ok (.string (OH1 who)) w := cat _ _ (by omega) (by omega)
  have c2 : ∀ w : World, (Op.stringOp .add (OH1 who) (DD seq)).run Tryz.prog w = .ok (.string (OH2 who seq)) w := cat _ _ (by omega) (by omega)
  have c3 : ∀ w : World, (Op.stringOp .add (OH2 who seq) SP).run Tryz.prog w = .ok (.string (OH who seq)) w := cat _ _ (by omega) (by omega)
  have c5 : ∀ w : World, (Op.stringOp .add (OH who seq) (⟨#[115, 116, 101, 112, 32]⟩ : ByteArray)).run Tryz.prog w = .ok (.string ((OH who seq) ++ (⟨#[115, 116, 101, 112, 32]⟩ : ByteArray))) w := cat _ _ (by (try simp only [ByteArray.size_append]); omega) (by (try simp only [ByteArray.size_append]); omega)
  have c6 : ∀ w : World, (Op.stringOp .add ((OH who seq) ++ (⟨#[115, 116, 101, 112, 32]⟩ : ByteArray)) (wordOf du)).run Tryz.prog w = .ok (.string (((OH who seq) ++ (⟨#[115, 116, 101, 112, 32]⟩ : ByteArray)) ++ (wordOf du))) w := cat _ _ (by (try simp only [ByteArray.size_append]); omega) (by (try simp only [ByteArray.size_append]); omega)
  have hs : Hid (sideB du = true) := hs
  clear hk
  go_enter Tryz.func22, Tryz.ntmps22
  go_wp2_with (go_at_call 32; refine (ordOk_spec _ _ _ _ _ _).mono ?_; rintro e w0 ⟨rfl, hb0⟩; rw [h])
  go_region_held3 (fun w' => (∀ b o, b < w.heap.size + 1 → w'.cell? ⟨b, o, none⟩ = (w.alloc (.cells #[.int .i64 who, .int .i64 seq, .int .i64 1, .int .i64 du, .int .i64 n] 46)).cell? ⟨b, o, none⟩) ∧ w.heap.size + 1 ≤ w'.heap.size) (first | (refine keepS ?_ (by assumption); assumption) | exact keepS ⟨fun _ _ _ => rfl, by simp⟩ hb0 | exact keepS ⟨fun _ _ _ => rfl, by simp⟩ hb0.drew | assumption) (first | (go_at_call 20; refine (digits_D _ (by omega) (by omega) _).mono ?_; rintro e w' ⟨rfl, hb⟩) | (go_at_call 33; refine (side_spec _ hs.out _).mono ?_; rintro e w' ⟨rfl, hb⟩))
  go_wp2_with (first | (go_at_call 20; refine (digits_D _ (by omega) (by omega) _).mono ?_; rintro e w' ⟨rfl, hb⟩) | (go_at_call 33; refine (side_spec _ hs.out _).mono ?_; rintro e w' ⟨rfl, hb⟩))
  go_ret
  exact ⟨by simp [tstep, ByteArray.append_assoc], by repeat (first | exact Below.refl _ _ | refine bthen ?_ (by assumption) | apply Below.drew | apply bdrewN | refine Below.alloc ?_ (by simp <;> omega) _)⟩
set_option maxHeartbeats 1000000 in
set_option maxRecDepth 100000 in
theorem text_give_spec (who seq du n : Int) (h : ordB who seq 2 du n = true) (w : World) :
    Calls Tryz.prog 22 #[.agg #[.int .i64 who, .int .i64 seq, .int .i64 2, .int .i64 du, .int .i64 n]] w fun e w' => e = .returned (.string (OH who seq ++ tgive du n)) ∧ Below w.heap.size w w' := by
  obtain ⟨⟨hw1, hw2⟩, ⟨hq1, hq2⟩, hk⟩ := ordB_true h
  have ht : 1 ≤ du ∧ du ≤ 9 := by have := hk; simp [kindB, inB] at this; omega
  have hn : 1 ≤ n ∧ n ≤ 9 := by have := hk; simp [kindB, inB] at this; omega
  have zi : (DD who).size ≤ 6 := DD_size who (by omega)
  have zs : (DD seq).size ≤ 6 := DD_size seq (by omega)
  have zt : (DD du).size ≤ 6 := DD_size du (by omega)
  have zn : (DD n).size ≤ 6 := DD_size n (by omega)
  have zl : (⟨#[103, 105, 118, 101, 32]⟩ : ByteArray).size ≤ 6 := by decide +kernel
  have zsp : SP.size = 1 := by decide +kernel
  have zw := word_size du
  obtain ⟨z1, z2, z3⟩ := OH_sizes who seq zi zs
  have c1 : ∀ w : World, (Op.stringOp .add (DD who) SP).run Tryz.prog w = .ok (.string (OH1 who)) w := cat _ _ (by omega) (by omega)
  have c2 : ∀ w : World, (Op.stringOp .add (OH1 who) (DD seq)).run Tryz.prog w = .ok (.string (OH2 who seq)) w := cat _ _ (by omega) (by omega)
  have c3 : ∀ w : World, (Op.stringOp .add (OH2 who seq) SP).run Tryz.prog w = .ok (.string (OH who seq)) w := cat _ _ (by omega) (by omega)
  have c5 : ∀ w : World, (Op.stringOp .add (OH who seq) (⟨#[103, 105, 118, 101, 32]⟩ : ByteArray)).run Tryz.prog w = .ok (.string ((OH who seq) ++ (⟨#[103, 105, 118, 101, 32]⟩ : ByteArray))) w := cat _ _ (by (try simp only [ByteArray.size_append]); omega) (by (try simp only [ByteArray.size_append]); omega)
  have c6 : ∀ w : World, (Op.stringOp .add ((OH who seq) ++ (⟨#[103, 105, 118, 101, 32]⟩ : ByteArray)) (DD du)).run Tryz.prog w = .ok (.string (((OH who seq) ++ (⟨#[103, 105, 118, 101, 32]⟩ : ByteArray)) ++ (DD du))) w := cat _ _ (by (try simp only [ByteArray.size_append]); omega) (by (try simp only [ByteArray.size_append]); omega)
  have c7 : ∀ w : World, (Op.stringOp .add (((OH who seq) ++ (⟨#[103, 105, 118, 101, 32]⟩ : ByteArray)) ++ (DD du)) SP).run Tryz.prog w = .ok (.string ((((OH who seq) ++ (⟨#[103, 105, 118, 101, 32]⟩ : ByteArray)) ++ (DD du)) ++ SP)) w := cat _ _ (by (try simp only [ByteArray.size_append]); omega) (by (try simp only [ByteArray.size_append]); omega)
  have c8 : ∀ w : World, (Op.stringOp .add ((((OH who seq) ++ (⟨#[103, 105, 118, 101, 32]⟩ : ByteArray)) ++ (DD du)) ++ SP) (DD n)).run Tryz.prog w = .ok (.string (((((OH who seq) ++ (⟨#[103, 105, 118, 101, 32]⟩ : ByteArray)) ++ (DD du)) ++ SP) ++ (DD n))) w := cat _ _ (by (try simp only [ByteArray.size_append]); omega) (by (try simp only [ByteArray.size_append]); omega)
  clear hk
  go_enter Tryz.func22, Tryz.ntmps22
  go_wp2_with (go_at_call 32; refine (ordOk_spec _ _ _ _ _ _).mono ?_; rintro e w0 ⟨rfl, hb0⟩; rw [h])
  go_region_held3 (fun w' => (∀ b o, b < w.heap.size + 1 → w'.cell? ⟨b, o, none⟩ = (w.alloc (.cells #[.int .i64 who, .int .i64 seq, .int .i64 2, .int .i64 du, .int .i64 n] 46)).cell? ⟨b, o, none⟩) ∧ w.heap.size + 1 ≤ w'.heap.size) (first | (refine keepS ?_ (by assumption); assumption) | exact keepS ⟨fun _ _ _ => rfl, by simp⟩ hb0 | exact keepS ⟨fun _ _ _ => rfl, by simp⟩ hb0.drew | assumption) (first | (go_at_call 20; refine (digits_D _ (by omega) (by omega) _).mono ?_; rintro e w' ⟨rfl, hb⟩))
  go_wp2
  go_region_held3 (fun w' => (∀ b o, b < w.heap.size + 1 → w'.cell? ⟨b, o, none⟩ = (w.alloc (.cells #[.int .i64 who, .int .i64 seq, .int .i64 2, .int .i64 du, .int .i64 n] 46)).cell? ⟨b, o, none⟩) ∧ w.heap.size + 1 ≤ w'.heap.size) (first | (refine keepS ?_ (by assumption); assumption) | exact keepS ⟨fun _ _ _ => rfl, by simp⟩ hb0 | exact keepS ⟨fun _ _ _ => rfl, by simp⟩ hb0.drew | assumption) (first | (go_at_call 20; refine (digits_D _ (by omega) (by omega) _).mono ?_; rintro e w' ⟨rfl, hb⟩))
  go_wp2
  go_ret
  exact ⟨by simp [tgive, ByteArray.append_assoc], by repeat (first | exact Below.refl _ _ | refine bthen ?_ (by assumption) | apply Below.drew | apply bdrewN | refine Below.alloc ?_ (by simp <;> omega) _)⟩
set_option maxHeartbeats 1000000 in
set_option maxRecDepth 100000 in
theorem text_drop_spec (who seq du n : Int) (h : ordB who seq 3 du n = true) (w : World) :
    Calls Tryz.prog 22 #[.agg #[.int .i64 who, .int .i64 seq, .int .i64 3, .int .i64 du, .int .i64 n]] w fun e w' => e = .returned (.string (OH who seq ++ tdrop n)) ∧ Below w.heap.size w w' := by
  obtain ⟨⟨hw1, hw2⟩, ⟨hq1, hq2⟩, hk⟩ := ordB_true h
  have hn : 1 ≤ n ∧ n ≤ 9 := by have := hk; simp [kindB, inB] at this; omega
  have zi : (DD who).size ≤ 6 := DD_size who (by omega)
  have zs : (DD seq).size ≤ 6 := DD_size seq (by omega)
  have zn : (DD n).size ≤ 6 := DD_size n (by omega)
  have zl : (⟨#[100, 114, 111, 112, 32]⟩ : ByteArray).size ≤ 6 := by decide +kernel
  have zsp : SP.size = 1 := by decide +kernel
  have zw := word_size du
  obtain ⟨z1, z2, z3⟩ := OH_sizes who seq zi zs
  have c1 : ∀ w : World, (Op.stringOp .add (DD who) SP).run Tryz.prog w = .ok (.string (OH1 who)) w := cat _ _ (by omega) (by omega)
  have c2 : ∀ w : World, (Op.stringOp .add (OH1 who) (DD seq)).run Tryz.prog w = .ok (.string (OH2 who seq)) w := cat _ _ (by omega) (by omega)
  have c3 : ∀ w : World, (Op.stringOp .add (OH2 who seq) SP).run Tryz.prog w = .ok (.string (OH who seq)) w := cat _ _ (by omega) (by omega)
  have c5 : ∀ w : World, (Op.stringOp .add (OH who seq) (⟨#[100, 114, 111, 112, 32]⟩ : ByteArray)).run Tryz.prog w = .ok (.string ((OH who seq) ++ (⟨#[100, 114, 111, 112, 32]⟩ : ByteArray))) w := cat _ _ (by (try simp only [ByteArray.size_append]); omega) (by (try simp only [ByteArray.size_append]); omega)
  have c6 : ∀ w : World, (Op.stringOp .add ((OH who seq) ++ (⟨#[100, 114, 111, 112, 32]⟩ : ByteArray)) (DD n)).run Tryz.prog w = .ok (.string (((OH who seq) ++ (⟨#[100, 114, 111, 112, 32]⟩ : ByteArray)) ++ (DD n))) w := cat _ _ (by (try simp only [ByteArray.size_append]); omega) (by (try simp only [ByteArray.size_append]); omega)
  clear hk
  go_enter Tryz.func22, Tryz.ntmps22
  go_wp2_with (go_at_call 32; refine (ordOk_spec _ _ _ _ _ _).mono ?_; rintro e w0 ⟨rfl, hb0⟩; rw [h])
  go_region_held3 (fun w' => (∀ b o, b < w.heap.size + 1 → w'.cell? ⟨b, o, none⟩ = (w.alloc (.cells #[.int .i64 who, .int .i64 seq, .int .i64 3, .int .i64 du, .int .i64 n] 46)).cell? ⟨b, o, none⟩) ∧ w.heap.size + 1 ≤ w'.heap.size) (first | (refine keepS ?_ (by assumption); assumption) | exact keepS ⟨fun _ _ _ => rfl, by simp⟩ hb0 | exact keepS ⟨fun _ _ _ => rfl, by simp⟩ hb0.drew | assumption) (first | (go_at_call 20; refine (digits_D _ (by omega) (by omega) _).mono ?_; rintro e w' ⟨rfl, hb⟩))
  go_wp2_with (first | (go_at_call 20; refine (digits_D _ (by omega) (by omega) _).mono ?_; rintro e w' ⟨rfl, hb⟩))
  go_ret
  exact ⟨by simp [tdrop, ByteArray.append_assoc], by repeat (first | exact Below.refl _ _ | refine bthen ?_ (by assumption) | apply Below.drew | apply bdrewN | refine Below.alloc ?_ (by simp <;> omega) _)⟩
set_option maxHeartbeats 1000000 in
set_option maxRecDepth 100000 in
theorem text_pick_spec (who seq du n : Int) (h : ordB who seq 4 du n = true) (w : World) :
    Calls Tryz.prog 22 #[.agg #[.int .i64 who, .int .i64 seq, .int .i64 4, .int .i64 du, .int .i64 n]] w fun e w' => e = .returned (.string (OH who seq ++ tpick n)) ∧ Below w.heap.size w w' := by
  obtain ⟨⟨hw1, hw2⟩, ⟨hq1, hq2⟩, hk⟩ := ordB_true h
  have hn : 1 ≤ n ∧ n ≤ 9 := by have := hk; simp [kindB, inB] at this; omega
  have zi : (DD who).size ≤ 6 := DD_size who (by omega)
  have zs : (DD seq).size ≤ 6 := DD_size seq (by omega)
  have zn : (DD n).size ≤ 6 := DD_size n (by omega)
  have zl : (⟨#[112, 105, 99, 107, 32]⟩ : ByteArray).size ≤ 6 := by decide +kernel
  have zsp : SP.size = 1 := by decide +kernel
  have zw := word_size du
  obtain ⟨z1, z2, z3⟩ := OH_sizes who seq zi zs
  have c1 : ∀ w : World, (Op.stringOp .add (DD who) SP).run Tryz.prog w = .ok (.string (OH1 who)) w := cat _ _ (by omega) (by omega)
  have c2 : ∀ w : World, (Op.stringOp .add (OH1 who) (DD seq)).run Tryz.prog w = .ok (.string (OH2 who seq)) w := cat _ _ (by omega) (by omega)
  have c3 : ∀ w : World, (Op.stringOp .add (OH2 who seq) SP).run Tryz.prog w = .ok (.string (OH who seq)) w := cat _ _ (by omega) (by omega)
  have c5 : ∀ w : World, (Op.stringOp .add (OH who seq) (⟨#[112, 105, 99, 107, 32]⟩ : ByteArray)).run Tryz.prog w = .ok (.string ((OH who seq) ++ (⟨#[112, 105, 99, 107, 32]⟩ : ByteArray))) w := cat _ _ (by (try simp only [ByteArray.size_append]); omega) (by (try simp only [ByteArray.size_append]); omega)
  have c6 : ∀ w : World, (Op.stringOp .add ((OH who seq) ++ (⟨#[112, 105, 99, 107, 32]⟩ : ByteArray)) (DD n)).run Tryz.prog w = .ok (.string (((OH who seq) ++ (⟨#[112, 105, 99, 107, 32]⟩ : ByteArray)) ++ (DD n))) w := cat _ _ (by (try simp only [ByteArray.size_append]); omega) (by (try simp only [ByteArray.size_append]); omega)
  clear hk
  go_enter Tryz.func22, Tryz.ntmps22
  go_wp2_with (go_at_call 32; refine (ordOk_spec _ _ _ _ _ _).mono ?_; rintro e w0 ⟨rfl, hb0⟩; rw [h])
  go_region_held3 (fun w' => (∀ b o, b < w.heap.size + 1 → w'.cell? ⟨b, o, none⟩ = (w.alloc (.cells #[.int .i64 who, .int .i64 seq, .int .i64 4, .int .i64 du, .int .i64 n] 46)).cell? ⟨b, o, none⟩) ∧ w.heap.size + 1 ≤ w'.heap.size) (first | (refine keepS ?_ (by assumption); assumption) | exact keepS ⟨fun _ _ _ => rfl, by simp⟩ hb0 | exact keepS ⟨fun _ _ _ => rfl, by simp⟩ hb0.drew | assumption) (first | (go_at_call 20; refine (digits_D _ (by omega) (by omega) _).mono ?_; rintro e w' ⟨rfl, hb⟩))
  go_wp2_with (first | (go_at_call 20; refine (digits_D _ (by omega) (by omega) _).mono ?_; rintro e w' ⟨rfl, hb⟩))
  go_ret
  exact ⟨by simp [tpick, ByteArray.append_assoc], by repeat (first | exact Below.refl _ _ | refine bthen ?_ (by assumption) | apply Below.drew | apply bdrewN | refine Below.alloc ?_ (by simp <;> omega) _)⟩
set_option maxHeartbeats 1000000 in
set_option maxRecDepth 100000 in
theorem text_throw_spec (who seq du n : Int) (h : ordB who seq 5 du n = true) (w : World) :
    Calls Tryz.prog 22 #[.agg #[.int .i64 who, .int .i64 seq, .int .i64 5, .int .i64 du, .int .i64 n]] w fun e w' => e = .returned (.string (OH who seq ++ tthrow du n)) ∧ Below w.heap.size w w' := by
  obtain ⟨⟨hw1, hw2⟩, ⟨hq1, hq2⟩, hk⟩ := ordB_true h
  have hs : sideB du = true := by have := hk; simp [kindB] at this; exact this.1
  have hn : 1 ≤ n ∧ n ≤ 9 := by have := hk; simp [kindB, inB] at this; omega
  have zi : (DD who).size ≤ 6 := DD_size who (by omega)
  have zs : (DD seq).size ≤ 6 := DD_size seq (by omega)
  have zn : (DD n).size ≤ 6 := DD_size n (by omega)
  have zl : (⟨#[116, 104, 114, 111, 119, 32]⟩ : ByteArray).size ≤ 6 := by decide +kernel
  have zsp : SP.size = 1 := by decide +kernel
  have zw := word_size du
  obtain ⟨z1, z2, z3⟩ := OH_sizes who seq zi zs
  have c1 : ∀ w : World, (Op.stringOp .add (DD who) SP).run Tryz.prog w = .ok (.string (OH1 who)) w := cat _ _ (by omega) (by omega)
  have c2 : ∀ w : World, (Op.stringOp .add (OH1 who) (DD seq)).run Tryz.prog w = .ok (.string (OH2 who seq)) w := cat _ _ (by omega) (by omega)
  have c3 : ∀ w : World, (Op.stringOp .add (OH2 who seq) SP).run Tryz.prog w = .ok (.string (OH who seq)) w := cat _ _ (by omega) (by omega)
  have c5 : ∀ w : World, (Op.stringOp .add (OH who seq) (⟨#[116, 104, 114, 111, 119, 32]⟩ : ByteArray)).run Tryz.prog w = .ok (.string ((OH who seq) ++ (⟨#[116, 104, 114, 111, 119, 32]⟩ : ByteArray))) w := cat _ _ (by (try simp only [ByteArray.size_append]); omega) (by (try simp only [ByteArray.size_append]); omega)
  have c6 : ∀ w : World, (Op.stringOp .add ((OH who seq) ++ (⟨#[116, 104, 114, 111, 119, 32]⟩ : ByteArray)) (wordOf du)).run Tryz.prog w = .ok (.string (((OH who seq) ++ (⟨#[116, 104, 114, 111, 119, 32]⟩ : ByteArray)) ++ (wordOf du))) w := cat _ _ (by (try simp only [ByteArray.size_append]); omega) (by (try simp only [ByteArray.size_append]); omega)
  have c7 : ∀ w : World, (Op.stringOp .add (((OH who seq) ++ (⟨#[116, 104, 114, 111, 119, 32]⟩ : ByteArray)) ++ (wordOf du)) SP).run Tryz.prog w = .ok (.string ((((OH who seq) ++ (⟨#[116, 104, 114, 111, 119, 32]⟩ : ByteArray)) ++ (wordOf du)) ++ SP)) w := cat _ _ (by (try simp only [ByteArray.size_append]); omega) (by (try simp only [ByteArray.size_append]); omega)
  have c8 : ∀ w : World, (Op.stringOp .add ((((OH who seq) ++ (⟨#[116, 104, 114, 111, 119, 32]⟩ : ByteArray)) ++ (wordOf du)) ++ SP) (DD n)).run Tryz.prog w = .ok (.string (((((OH who seq) ++ (⟨#[116, 104, 114, 111, 119, 32]⟩ : ByteArray)) ++ (wordOf du)) ++ SP) ++ (DD n))) w := cat _ _ (by (try simp only [ByteArray.size_append]); omega) (by (try simp only [ByteArray.size_append]); omega)
  have hs : Hid (sideB du = true) := hs
  clear hk
  go_enter Tryz.func22, Tryz.ntmps22
  go_wp2_with (go_at_call 32; refine (ordOk_spec _ _ _ _ _ _).mono ?_; rintro e w0 ⟨rfl, hb0⟩; rw [h])
  go_region_held3 (fun w' => (∀ b o, b < w.heap.size + 1 → w'.cell? ⟨b, o, none⟩ = (w.alloc (.cells #[.int .i64 who, .int .i64 seq, .int .i64 5, .int .i64 du, .int .i64 n] 46)).cell? ⟨b, o, none⟩) ∧ w.heap.size + 1 ≤ w'.heap.size) (first | (refine keepS ?_ (by assumption); assumption) | exact keepS ⟨fun _ _ _ => rfl, by simp⟩ hb0 | exact keepS ⟨fun _ _ _ => rfl, by simp⟩ hb0.drew | assumption) (first | (go_at_call 20; refine (digits_D _ (by omega) (by omega) _).mono ?_; rintro e w' ⟨rfl, hb⟩) | (go_at_call 33; refine (side_spec _ hs.out _).mono ?_; rintro e w' ⟨rfl, hb⟩))
  go_wp2
  go_region_held3 (fun w' => (∀ b o, b < w.heap.size + 1 → w'.cell? ⟨b, o, none⟩ = (w.alloc (.cells #[.int .i64 who, .int .i64 seq, .int .i64 5, .int .i64 du, .int .i64 n] 46)).cell? ⟨b, o, none⟩) ∧ w.heap.size + 1 ≤ w'.heap.size) (first | (refine keepS ?_ (by assumption); assumption) | exact keepS ⟨fun _ _ _ => rfl, by simp⟩ hb0 | exact keepS ⟨fun _ _ _ => rfl, by simp⟩ hb0.drew | assumption) (first | (go_at_call 20; refine (digits_D _ (by omega) (by omega) _).mono ?_; rintro e w' ⟨rfl, hb⟩) | (go_at_call 33; refine (side_spec _ hs.out _).mono ?_; rintro e w' ⟨rfl, hb⟩))
  go_wp2
  go_ret
  exact ⟨by simp [tthrow, ByteArray.append_assoc], by repeat (first | exact Below.refl _ _ | refine bthen ?_ (by assumption) | apply Below.drew | apply bdrewN | refine Below.alloc ?_ (by simp <;> omega) _)⟩
set_option maxHeartbeats 1000000 in
set_option maxRecDepth 100000 in
theorem text_rest_spec (who seq du n : Int) (h : ordB who seq 6 du n = true) (w : World) :
    Calls Tryz.prog 22 #[.agg #[.int .i64 who, .int .i64 seq, .int .i64 6, .int .i64 du, .int .i64 n]] w fun e w' => e = .returned (.string (OH who seq ++ trest)) ∧ Below w.heap.size w w' := by
  obtain ⟨⟨hw1, hw2⟩, ⟨hq1, hq2⟩, hk⟩ := ordB_true h
  have zi : (DD who).size ≤ 6 := DD_size who (by omega)
  have zs : (DD seq).size ≤ 6 := DD_size seq (by omega)
  have zl : (⟨#[114, 101, 115, 116]⟩ : ByteArray).size ≤ 6 := by decide +kernel
  have zsp : SP.size = 1 := by decide +kernel
  have zw := word_size du
  obtain ⟨z1, z2, z3⟩ := OH_sizes who seq zi zs
  have c1 : ∀ w : World, (Op.stringOp .add (DD who) SP).run Tryz.prog w = .ok (.string (OH1 who)) w := cat _ _ (by omega) (by omega)
  have c2 : ∀ w : World, (Op.stringOp .add (OH1 who) (DD seq)).run Tryz.prog w = .ok (.string (OH2 who seq)) w := cat _ _ (by omega) (by omega)
  have c3 : ∀ w : World, (Op.stringOp .add (OH2 who seq) SP).run Tryz.prog w = .ok (.string (OH who seq)) w := cat _ _ (by omega) (by omega)
  have c5 : ∀ w : World, (Op.stringOp .add (OH who seq) (⟨#[114, 101, 115, 116]⟩ : ByteArray)).run Tryz.prog w = .ok (.string ((OH who seq) ++ (⟨#[114, 101, 115, 116]⟩ : ByteArray))) w := cat _ _ (by (try simp only [ByteArray.size_append]); omega) (by (try simp only [ByteArray.size_append]); omega)
  clear hk
  go_enter Tryz.func22, Tryz.ntmps22
  go_wp2_with (go_at_call 32; refine (ordOk_spec _ _ _ _ _ _).mono ?_; rintro e w0 ⟨rfl, hb0⟩; rw [h])
  go_region_held3 (fun w' => (∀ b o, b < w.heap.size + 1 → w'.cell? ⟨b, o, none⟩ = (w.alloc (.cells #[.int .i64 who, .int .i64 seq, .int .i64 6, .int .i64 du, .int .i64 n] 46)).cell? ⟨b, o, none⟩) ∧ w.heap.size + 1 ≤ w'.heap.size) (first | (refine keepS ?_ (by assumption); assumption) | exact keepS ⟨fun _ _ _ => rfl, by simp⟩ hb0 | exact keepS ⟨fun _ _ _ => rfl, by simp⟩ hb0.drew | assumption) (first | (go_at_call 20; refine (digits_D _ (by omega) (by omega) _).mono ?_; rintro e w' ⟨rfl, hb⟩))
  go_wp2_with (first | (go_at_call 20; refine (digits_D _ (by omega) (by omega) _).mono ?_; rintro e w' ⟨rfl, hb⟩))
  go_ret
  exact ⟨by simp [trest], by repeat (first | exact Below.refl _ _ | refine bthen ?_ (by assumption) | apply Below.drew | apply bdrewN | refine Below.alloc ?_ (by simp <;> omega) _)⟩
end Go.Proofs.YtalmnogdplhflaaGreatDoor
namespace Go.Proofs.YtalmnogdplhflaaGreatDoor
open Go.RowKit
set_option linter.unusedVariables false
set_option maxHeartbeats 1000000 in
theorem words_step (du : Int) (w : World) :
    Calls Tryz.prog 108 #[.agg #[.int .i64 du]] w fun e w' => e = .returned (.string (tstep du)) ∧ Below w.heap.size w w' := by
  have zl : (⟨#[115, 116, 101, 112, 32]⟩ : ByteArray).size ≤ 6 := by decide +kernel
  have zsp : SP.size = 1 := by decide +kernel
  have zw := word_size du
  have c1 : ∀ w : World, (Op.stringOp .add (⟨#[115, 116, 101, 112, 32]⟩ : ByteArray) (wordOf du)).run Tryz.prog w = .ok (.string ((⟨#[115, 116, 101, 112, 32]⟩ : ByteArray) ++ (wordOf du))) w := cat _ _ (by (try simp only [ByteArray.size_append]); omega) (by (try simp only [ByteArray.size_append]); omega)
  go_enter Tryz.func108, Tryz.ntmps108
  go_wp2_with (first | (go_at_call 65; refine (word_impl _ _).mono ?_; rintro e w' ⟨rfl, rfl⟩))
  go_ret
  exact ⟨by simp [tstep], by repeat (first | exact Below.refl _ _ | refine bthen ?_ (by assumption) | apply Below.drew | apply bdrewN | refine Below.alloc ?_ (by simp <;> omega) _)⟩
set_option maxHeartbeats 1000000 in
theorem words_give (du n : Int) (ht : 1 ≤ du ∧ du ≤ 9) (hn : 1 ≤ n ∧ n ≤ 9) (w : World) :
    Calls Tryz.prog 110 #[.agg #[.int .i64 du, .int .i64 n]] w fun e w' => e = .returned (.string (tgive du n)) ∧ Below w.heap.size w w' := by
  have zl : (⟨#[103, 105, 118, 101, 32]⟩ : ByteArray).size ≤ 6 := by decide +kernel
  have zsp : SP.size = 1 := by decide +kernel
  have zt : (DD du).size ≤ 6 := DD_size du (by omega)
  have zn : (DD n).size ≤ 6 := DD_size n (by omega)
  have c1 : ∀ w : World, (Op.stringOp .add (⟨#[103, 105, 118, 101, 32]⟩ : ByteArray) (DD du)).run Tryz.prog w = .ok (.string ((⟨#[103, 105, 118, 101, 32]⟩ : ByteArray) ++ (DD du))) w := cat _ _ (by (try simp only [ByteArray.size_append]); omega) (by (try simp only [ByteArray.size_append]); omega)
  have c2 : ∀ w : World, (Op.stringOp .add ((⟨#[103, 105, 118, 101, 32]⟩ : ByteArray) ++ (DD du)) SP).run Tryz.prog w = .ok (.string (((⟨#[103, 105, 118, 101, 32]⟩ : ByteArray) ++ (DD du)) ++ SP)) w := cat _ _ (by (try simp only [ByteArray.size_append]); omega) (by (try simp only [ByteArray.size_append]); omega)
  have c3 : ∀ w : World, (Op.stringOp .add (((⟨#[103, 105, 118, 101, 32]⟩ : ByteArray) ++ (DD du)) ++ SP) (DD n)).run Tryz.prog w = .ok (.string ((((⟨#[103, 105, 118, 101, 32]⟩ : ByteArray) ++ (DD du)) ++ SP) ++ (DD n))) w := cat _ _ (by (try simp only [ByteArray.size_append]); omega) (by (try simp only [ByteArray.size_append]); omega)
  go_enter Tryz.func110, Tryz.ntmps110
  go_wp2
  go_region_held3 (fun w' => (∀ b o, b < w.heap.size + 1 → w'.cell? ⟨b, o, none⟩ = (w.alloc (.cells #[.int .i64 du, .int .i64 n] 81)).cell? ⟨b, o, none⟩) ∧ w.heap.size + 1 ≤ w'.heap.size) (first | (refine keepS ?_ (by assumption); assumption) | exact ⟨fun _ _ _ => rfl, by simp⟩ | assumption) (first | (go_at_call 29; refine (itoa_small _ (by omega) (by omega) _).mono ?_; rintro e w' ⟨rfl, hb⟩))
  go_wp2
  go_ret
  exact ⟨by simp [tgive], by repeat (first | exact Below.refl _ _ | refine bthen ?_ (by assumption) | apply Below.drew | apply bdrewN | refine Below.alloc ?_ (by simp <;> omega) _)⟩
set_option maxHeartbeats 1000000 in
theorem words_drop (n : Int) (hn : 1 ≤ n ∧ n ≤ 9) (w : World) :
    Calls Tryz.prog 113 #[.agg #[.int .i64 n]] w fun e w' => e = .returned (.string (tdrop n)) ∧ Below w.heap.size w w' := by
  have zl : (⟨#[100, 114, 111, 112, 32]⟩ : ByteArray).size ≤ 6 := by decide +kernel
  have zsp : SP.size = 1 := by decide +kernel
  have zn : (DD n).size ≤ 6 := DD_size n (by omega)
  have c1 : ∀ w : World, (Op.stringOp .add (⟨#[100, 114, 111, 112, 32]⟩ : ByteArray) (DD n)).run Tryz.prog w = .ok (.string ((⟨#[100, 114, 111, 112, 32]⟩ : ByteArray) ++ (DD n))) w := cat _ _ (by (try simp only [ByteArray.size_append]); omega) (by (try simp only [ByteArray.size_append]); omega)
  go_enter Tryz.func113, Tryz.ntmps113
  go_wp2_with (first | (go_at_call 29; refine (itoa_small _ (by omega) (by omega) _).mono ?_; rintro e w' ⟨rfl, hb⟩))
  go_ret
  exact ⟨by simp [tdrop], by repeat (first | exact Below.refl _ _ | refine bthen ?_ (by assumption) | apply Below.drew | apply bdrewN | refine Below.alloc ?_ (by simp <;> omega) _)⟩
set_option maxHeartbeats 1000000 in
theorem words_pick (n : Int) (hn : 1 ≤ n ∧ n ≤ 9) (w : World) :
    Calls Tryz.prog 115 #[.agg #[.int .i64 n]] w fun e w' => e = .returned (.string (tpick n)) ∧ Below w.heap.size w w' := by
  have zl : (⟨#[112, 105, 99, 107, 32]⟩ : ByteArray).size ≤ 6 := by decide +kernel
  have zsp : SP.size = 1 := by decide +kernel
  have zn : (DD n).size ≤ 6 := DD_size n (by omega)
  have c1 : ∀ w : World, (Op.stringOp .add (⟨#[112, 105, 99, 107, 32]⟩ : ByteArray) (DD n)).run Tryz.prog w = .ok (.string ((⟨#[112, 105, 99, 107, 32]⟩ : ByteArray) ++ (DD n))) w := cat _ _ (by (try simp only [ByteArray.size_append]); omega) (by (try simp only [ByteArray.size_append]); omega)
  go_enter Tryz.func115, Tryz.ntmps115
  go_wp2_with (first | (go_at_call 29; refine (itoa_small _ (by omega) (by omega) _).mono ?_; rintro e w' ⟨rfl, hb⟩))
  go_ret
  exact ⟨by simp [tpick], by repeat (first | exact Below.refl _ _ | refine bthen ?_ (by assumption) | apply Below.drew | apply bdrewN | refine Below.alloc ?_ (by simp <;> omega) _)⟩
set_option maxHeartbeats 1000000 in
theorem words_throw (du n : Int) (hn : 1 ≤ n ∧ n ≤ 9) (w : World) :
    Calls Tryz.prog 117 #[.agg #[.int .i64 du, .int .i64 n]] w fun e w' => e = .returned (.string (tthrow du n)) ∧ Below w.heap.size w w' := by
  have zl : (⟨#[116, 104, 114, 111, 119, 32]⟩ : ByteArray).size ≤ 6 := by decide +kernel
  have zsp : SP.size = 1 := by decide +kernel
  have zw := word_size du
  have zn : (DD n).size ≤ 6 := DD_size n (by omega)
  have c1 : ∀ w : World, (Op.stringOp .add (⟨#[116, 104, 114, 111, 119, 32]⟩ : ByteArray) (wordOf du)).run Tryz.prog w = .ok (.string ((⟨#[116, 104, 114, 111, 119, 32]⟩ : ByteArray) ++ (wordOf du))) w := cat _ _ (by (try simp only [ByteArray.size_append]); omega) (by (try simp only [ByteArray.size_append]); omega)
  have c2 : ∀ w : World, (Op.stringOp .add ((⟨#[116, 104, 114, 111, 119, 32]⟩ : ByteArray) ++ (wordOf du)) SP).run Tryz.prog w = .ok (.string (((⟨#[116, 104, 114, 111, 119, 32]⟩ : ByteArray) ++ (wordOf du)) ++ SP)) w := cat _ _ (by (try simp only [ByteArray.size_append]); omega) (by (try simp only [ByteArray.size_append]); omega)
  have c3 : ∀ w : World, (Op.stringOp .add (((⟨#[116, 104, 114, 111, 119, 32]⟩ : ByteArray) ++ (wordOf du)) ++ SP) (DD n)).run Tryz.prog w = .ok (.string ((((⟨#[116, 104, 114, 111, 119, 32]⟩ : ByteArray) ++ (wordOf du)) ++ SP) ++ (DD n))) w := cat _ _ (by (try simp only [ByteArray.size_append]); omega) (by (try simp only [ByteArray.size_append]); omega)
  go_enter Tryz.func117, Tryz.ntmps117
  go_wp2
  go_region_held3 (fun w' => (∀ b o, b < w.heap.size + 1 → w'.cell? ⟨b, o, none⟩ = (w.alloc (.cells #[.int .i64 du, .int .i64 n] 86)).cell? ⟨b, o, none⟩) ∧ w.heap.size + 1 ≤ w'.heap.size) (first | (refine keepS ?_ (by assumption); assumption) | exact ⟨fun _ _ _ => rfl, by simp⟩ | assumption) (first | (go_at_call 65; refine (word_impl _ _).mono ?_; rintro e w' ⟨rfl, rfl⟩) | (go_at_call 29; refine (itoa_small _ (by omega) (by omega) _).mono ?_; rintro e w' ⟨rfl, hb⟩))
  go_wp2
  go_ret
  exact ⟨by simp [tthrow], by repeat (first | exact Below.refl _ _ | refine bthen ?_ (by assumption) | apply Below.drew | apply bdrewN | refine Below.alloc ?_ (by simp <;> omega) _)⟩
set_option maxHeartbeats 1000000 in
theorem words_rest  (w : World) :
    Calls Tryz.prog 119 #[.agg #[]] w fun e w' => e = .returned (.string (trest)) ∧ Below w.heap.size w w' := by
  go_enter Tryz.func119, Tryz.ntmps119
  go_wp2
  go_ret
  exact ⟨by simp [trest], by repeat (first | exact Below.refl _ _ | refine bthen ?_ (by assumption) | apply Below.drew | apply bdrewN | refine Below.alloc ?_ (by simp <;> omega) _)⟩
set_option maxHeartbeats 2000000 in
set_option maxRecDepth 100000 in
theorem text_step_impl (who seq du n : Int) (h : ordB who seq 1 du n = true) (w : World) (ht0 : Lib.TabBelow Tryz.prog w.heap.size w "internal/strconv.uint64pow10" .u64 Lib.pow10Tab) :
    Calls Tryz.prog 37 #[.agg #[.int .i64 who, .int .i64 seq, .int .i64 1, .int .i64 du, .int .i64 n]] w fun e w' => e = .returned (.string (OH who seq ++ tstep du)) ∧ Below w.heap.size w w' := by
  have HT : Hid (Lib.TabBelow Tryz.prog w.heap.size w "internal/strconv.uint64pow10" .u64 Lib.pow10Tab) := ht0
  clear ht0
  obtain ⟨⟨hw1, hw2⟩, ⟨hq1, hq2⟩, hk⟩ := ordB_true h
  have zi : (DD who).size ≤ 6 := DD_size who (by omega)
  have zs : (DD seq).size ≤ 6 := DD_size seq (by omega)
  have zsp : SP.size = 1 := by decide +kernel
  obtain ⟨z1, z2, z3⟩ := OH_sizes who seq zi zs
  have zt : (tstep du).size ≤ 100 := by
    have zsp : SP.size = 1 := by decide +kernel
    unfold tstep; simp only [ByteArray.size_append]; have := word_size du; have : (⟨#[115, 116, 101, 112, 32]⟩ : ByteArray).size = 5 := by decide +kernel
    omega
  have c1 : ∀ w : World, (Op.stringOp .add (DD who) SP).run Tryz.prog w = .ok (.string (OH1 who)) w := cat _ _ (by omega) (by omega)
  have c2 : ∀ w : World, (Op.stringOp .add (OH1 who) (DD seq)).run Tryz.prog w = .ok (.string (OH2 who seq)) w := cat _ _ (by omega) (by omega)
  have c3 : ∀ w : World, (Op.stringOp .add (OH2 who seq) SP).run Tryz.prog w = .ok (.string (OH who seq)) w := cat _ _ (by omega) (by omega)
  have c4 : ∀ w : World, (Op.stringOp .add (OH who seq) (tstep du)).run Tryz.prog w = .ok (.string (OH who seq ++ tstep du)) w := cat _ _ (by omega) (by omega)
  have hd : deedV 1 du n = .iface 79 (.agg #[.int .i64 du]) := rfl
  have hm : ∀ (v : Value) (w : World), (method 248 79 v "loop.example/landmarch/impl.words").run Tryz.prog w = .ok (108, v) w := fun _ _ => by kernel_rfl
  clear hk
  go_enter Tryz.func37, Tryz.ntmps37
  go_wp2_with (go_at_call 54; refine (ordOk_impl _ _ _ _ _ _).mono ?_; rintro e w0 ⟨rfl, hb0⟩; rw [h])
  go_region_held3 (fun w' => (∀ b o, b < w.heap.size + 1 → w'.cell? ⟨b, o, none⟩ = (w.alloc (.cells #[.int .i64 who, .int .i64 seq, .int .i64 1, .int .i64 du, .int .i64 n] 46)).cell? ⟨b, o, none⟩) ∧ w.heap.size + 1 ≤ w'.heap.size) (first | (refine keepS ?_ (by assumption); assumption) | exact keepS ⟨fun _ _ _ => rfl, by simp⟩ hb0 | exact keepS ⟨fun _ _ _ => rfl, by simp⟩ hb0.drew | assumption) (first | (go_at_call 29; refine (itoa_tab _ (by omega) (by omega) _ (HT.out _ (by repeat (first | exact Below.refl _ _ | refine bthen ?_ (by assumption) | apply Below.drew | apply bdrewN | refine Below.alloc ?_ (by simp) _)))).mono ?_; rintro e w' ⟨rfl, hb⟩) | (go_at_call 55; refine (deedOf _ _ _ _ _ _).mono ?_; rintro e w' ⟨rfl, hb⟩; rw [hd]) | (go_at_call 108; refine (words_step du _).mono ?_; rintro e w' ⟨rfl, hb⟩))
  go_wp2
  go_ret
  exact ⟨by simp, by repeat (first | exact Below.refl _ _ | refine bthen ?_ (by assumption) | apply Below.drew | apply bdrewN | refine Below.alloc ?_ (by simp <;> omega) _)⟩
set_option maxHeartbeats 2000000 in
set_option maxRecDepth 100000 in
theorem text_give_impl (who seq du n : Int) (h : ordB who seq 2 du n = true) (w : World) (ht0 : Lib.TabBelow Tryz.prog w.heap.size w "internal/strconv.uint64pow10" .u64 Lib.pow10Tab) :
    Calls Tryz.prog 37 #[.agg #[.int .i64 who, .int .i64 seq, .int .i64 2, .int .i64 du, .int .i64 n]] w fun e w' => e = .returned (.string (OH who seq ++ tgive du n)) ∧ Below w.heap.size w w' := by
  have HT : Hid (Lib.TabBelow Tryz.prog w.heap.size w "internal/strconv.uint64pow10" .u64 Lib.pow10Tab) := ht0
  clear ht0
  obtain ⟨⟨hw1, hw2⟩, ⟨hq1, hq2⟩, hk⟩ := ordB_true h
  have ht : 1 ≤ du ∧ du ≤ 9 := by have := hk; simp [kindB, inB] at this; omega
  have hn : 1 ≤ n ∧ n ≤ 9 := by have := hk; simp [kindB, inB] at this; omega
  have zi : (DD who).size ≤ 6 := DD_size who (by omega)
  have zs : (DD seq).size ≤ 6 := DD_size seq (by omega)
  have zsp : SP.size = 1 := by decide +kernel
  obtain ⟨z1, z2, z3⟩ := OH_sizes who seq zi zs
  have zt : (tgive du n).size ≤ 100 := by
    have zsp : SP.size = 1 := by decide +kernel
    unfold tgive; simp only [ByteArray.size_append]; have := DD_size du (by omega); have := DD_size n (by omega); have : (⟨#[103, 105, 118, 101, 32]⟩ : ByteArray).size = 5 := by decide +kernel
    omega
  have c1 : ∀ w : World, (Op.stringOp .add (DD who) SP).run Tryz.prog w = .ok (.string (OH1 who)) w := cat _ _ (by omega) (by omega)
  have c2 : ∀ w : World, (Op.stringOp .add (OH1 who) (DD seq)).run Tryz.prog w = .ok (.string (OH2 who seq)) w := cat _ _ (by omega) (by omega)
  have c3 : ∀ w : World, (Op.stringOp .add (OH2 who seq) SP).run Tryz.prog w = .ok (.string (OH who seq)) w := cat _ _ (by omega) (by omega)
  have c4 : ∀ w : World, (Op.stringOp .add (OH who seq) (tgive du n)).run Tryz.prog w = .ok (.string (OH who seq ++ tgive du n)) w := cat _ _ (by omega) (by omega)
  have hd : deedV 2 du n = .iface 81 (.agg #[.int .i64 du, .int .i64 n]) := rfl
  have hm : ∀ (v : Value) (w : World), (method 248 81 v "loop.example/landmarch/impl.words").run Tryz.prog w = .ok (110, v) w := fun _ _ => by kernel_rfl
  clear hk
  go_enter Tryz.func37, Tryz.ntmps37
  go_wp2_with (go_at_call 54; refine (ordOk_impl _ _ _ _ _ _).mono ?_; rintro e w0 ⟨rfl, hb0⟩; rw [h])
  go_region_held3 (fun w' => (∀ b o, b < w.heap.size + 1 → w'.cell? ⟨b, o, none⟩ = (w.alloc (.cells #[.int .i64 who, .int .i64 seq, .int .i64 2, .int .i64 du, .int .i64 n] 46)).cell? ⟨b, o, none⟩) ∧ w.heap.size + 1 ≤ w'.heap.size) (first | (refine keepS ?_ (by assumption); assumption) | exact keepS ⟨fun _ _ _ => rfl, by simp⟩ hb0 | exact keepS ⟨fun _ _ _ => rfl, by simp⟩ hb0.drew | assumption) (first | (go_at_call 29; refine (itoa_tab _ (by omega) (by omega) _ (HT.out _ (by repeat (first | exact Below.refl _ _ | refine bthen ?_ (by assumption) | apply Below.drew | apply bdrewN | refine Below.alloc ?_ (by simp) _)))).mono ?_; rintro e w' ⟨rfl, hb⟩) | (go_at_call 55; refine (deedOf _ _ _ _ _ _).mono ?_; rintro e w' ⟨rfl, hb⟩; rw [hd]) | (go_at_call 110; refine (words_give du n ht hn _).mono ?_; rintro e w' ⟨rfl, hb⟩))
  go_wp2
  go_ret
  exact ⟨by simp, by repeat (first | exact Below.refl _ _ | refine bthen ?_ (by assumption) | apply Below.drew | apply bdrewN | refine Below.alloc ?_ (by simp <;> omega) _)⟩
set_option maxHeartbeats 2000000 in
set_option maxRecDepth 100000 in
theorem text_drop_impl (who seq du n : Int) (h : ordB who seq 3 du n = true) (w : World) (ht0 : Lib.TabBelow Tryz.prog w.heap.size w "internal/strconv.uint64pow10" .u64 Lib.pow10Tab) :
    Calls Tryz.prog 37 #[.agg #[.int .i64 who, .int .i64 seq, .int .i64 3, .int .i64 du, .int .i64 n]] w fun e w' => e = .returned (.string (OH who seq ++ tdrop n)) ∧ Below w.heap.size w w' := by
  have HT : Hid (Lib.TabBelow Tryz.prog w.heap.size w "internal/strconv.uint64pow10" .u64 Lib.pow10Tab) := ht0
  clear ht0
  obtain ⟨⟨hw1, hw2⟩, ⟨hq1, hq2⟩, hk⟩ := ordB_true h
  have hn : 1 ≤ n ∧ n ≤ 9 := by have := hk; simp [kindB, inB] at this; omega
  have zi : (DD who).size ≤ 6 := DD_size who (by omega)
  have zs : (DD seq).size ≤ 6 := DD_size seq (by omega)
  have zsp : SP.size = 1 := by decide +kernel
  obtain ⟨z1, z2, z3⟩ := OH_sizes who seq zi zs
  have zt : (tdrop n).size ≤ 100 := by
    have zsp : SP.size = 1 := by decide +kernel
    unfold tdrop; simp only [ByteArray.size_append]; have := DD_size n (by omega); have : (⟨#[100, 114, 111, 112, 32]⟩ : ByteArray).size = 5 := by decide +kernel
    omega
  have c1 : ∀ w : World, (Op.stringOp .add (DD who) SP).run Tryz.prog w = .ok (.string (OH1 who)) w := cat _ _ (by omega) (by omega)
  have c2 : ∀ w : World, (Op.stringOp .add (OH1 who) (DD seq)).run Tryz.prog w = .ok (.string (OH2 who seq)) w := cat _ _ (by omega) (by omega)
  have c3 : ∀ w : World, (Op.stringOp .add (OH2 who seq) SP).run Tryz.prog w = .ok (.string (OH who seq)) w := cat _ _ (by omega) (by omega)
  have c4 : ∀ w : World, (Op.stringOp .add (OH who seq) (tdrop n)).run Tryz.prog w = .ok (.string (OH who seq ++ tdrop n)) w := cat _ _ (by omega) (by omega)
  have hd : deedV 3 du n = .iface 83 (.agg #[.int .i64 n]) := rfl
  have hm : ∀ (v : Value) (w : World), (method 248 83 v "loop.example/landmarch/impl.words").run Tryz.prog w = .ok (113, v) w := fun _ _ => by kernel_rfl
  clear hk
  go_enter Tryz.func37, Tryz.ntmps37
  go_wp2_with (go_at_call 54; refine (ordOk_impl _ _ _ _ _ _).mono ?_; rintro e w0 ⟨rfl, hb0⟩; rw [h])
  go_region_held3 (fun w' => (∀ b o, b < w.heap.size + 1 → w'.cell? ⟨b, o, none⟩ = (w.alloc (.cells #[.int .i64 who, .int .i64 seq, .int .i64 3, .int .i64 du, .int .i64 n] 46)).cell? ⟨b, o, none⟩) ∧ w.heap.size + 1 ≤ w'.heap.size) (first | (refine keepS ?_ (by assumption); assumption) | exact keepS ⟨fun _ _ _ => rfl, by simp⟩ hb0 | exact keepS ⟨fun _ _ _ => rfl, by simp⟩ hb0.drew | assumption) (first | (go_at_call 29; refine (itoa_tab _ (by omega) (by omega) _ (HT.out _ (by repeat (first | exact Below.refl _ _ | refine bthen ?_ (by assumption) | apply Below.drew | apply bdrewN | refine Below.alloc ?_ (by simp) _)))).mono ?_; rintro e w' ⟨rfl, hb⟩) | (go_at_call 55; refine (deedOf _ _ _ _ _ _).mono ?_; rintro e w' ⟨rfl, hb⟩; rw [hd]) | (go_at_call 113; refine (words_drop n hn _).mono ?_; rintro e w' ⟨rfl, hb⟩))
  go_wp2
  go_ret
  exact ⟨by simp, by repeat (first | exact Below.refl _ _ | refine bthen ?_ (by assumption) | apply Below.drew | apply bdrewN | refine Below.alloc ?_ (by simp <;> omega) _)⟩
set_option maxHeartbeats 2000000 in
set_option maxRecDepth 100000 in
theorem text_pick_impl (who seq du n : Int) (h : ordB who seq 4 du n = true) (w : World) (ht0 : Lib.TabBelow Tryz.prog w.heap.size w "internal/strconv.uint64pow10" .u64 Lib.pow10Tab) :
    Calls Tryz.prog 37 #[.agg #[.int .i64 who, .int .i64 seq, .int .i64 4, .int .i64 du, .int .i64 n]] w fun e w' => e = .returned (.string (OH who seq ++ tpick n)) ∧ Below w.heap.size w w' := by
  have HT : Hid (Lib.TabBelow Tryz.prog w.heap.size w "internal/strconv.uint64pow10" .u64 Lib.pow10Tab) := ht0
  clear ht0
  obtain ⟨⟨hw1, hw2⟩, ⟨hq1, hq2⟩, hk⟩ := ordB_true h
  have hn : 1 ≤ n ∧ n ≤ 9 := by have := hk; simp [kindB, inB] at this; omega
  have zi : (DD who).size ≤ 6 := DD_size who (by omega)
  have zs : (DD seq).size ≤ 6 := DD_size seq (by omega)
  have zsp : SP.size = 1 := by decide +kernel
  obtain ⟨z1, z2, z3⟩ := OH_sizes who seq zi zs
  have zt : (tpick n).size ≤ 100 := by
    have zsp : SP.size = 1 := by decide +kernel
    unfold tpick; simp only [ByteArray.size_append]; have := DD_size n (by omega); have : (⟨#[112, 105, 99, 107, 32]⟩ : ByteArray).size = 5 := by decide +kernel
    omega
  have c1 : ∀ w : World, (Op.stringOp .add (DD who) SP).run Tryz.prog w = .ok (.string (OH1 who)) w := cat _ _ (by omega) (by omega)
  have c2 : ∀ w : World, (Op.stringOp .add (OH1 who) (DD seq)).run Tryz.prog w = .ok (.string (OH2 who seq)) w := cat _ _ (by omega) (by omega)
  have c3 : ∀ w : World, (Op.stringOp .add (OH2 who seq) SP).run Tryz.prog w = .ok (.string (OH who seq)) w := cat _ _ (by omega) (by omega)
  have c4 : ∀ w : World, (Op.stringOp .add (OH who seq) (tpick n)).run Tryz.prog w = .ok (.string (OH who seq ++ tpick n)) w := cat _ _ (by omega) (by omega)
  have hd : deedV 4 du n = .iface 84 (.agg #[.int .i64 n]) := rfl
  have hm : ∀ (v : Value) (w : World), (method 248 84 v "loop.example/landmarch/impl.words").run Tryz.prog w = .ok (115, v) w := fun _ _ => by kernel_rfl
  clear hk
  go_enter Tryz.func37, Tryz.ntmps37
  go_wp2_with (go_at_call 54; refine (ordOk_impl _ _ _ _ _ _).mono ?_; rintro e w0 ⟨rfl, hb0⟩; rw [h])
  go_region_held3 (fun w' => (∀ b o, b < w.heap.size + 1 → w'.cell? ⟨b, o, none⟩ = (w.alloc (.cells #[.int .i64 who, .int .i64 seq, .int .i64 4, .int .i64 du, .int .i64 n] 46)).cell? ⟨b, o, none⟩) ∧ w.heap.size + 1 ≤ w'.heap.size) (first | (refine keepS ?_ (by assumption); assumption) | exact keepS ⟨fun _ _ _ => rfl, by simp⟩ hb0 | exact keepS ⟨fun _ _ _ => rfl, by simp⟩ hb0.drew | assumption) (first | (go_at_call 29; refine (itoa_tab _ (by omega) (by omega) _ (HT.out _ (by repeat (first | exact Below.refl _ _ | refine bthen ?_ (by assumption) | apply Below.drew | apply bdrewN | refine Below.alloc ?_ (by simp) _)))).mono ?_; rintro e w' ⟨rfl, hb⟩) | (go_at_call 55; refine (deedOf _ _ _ _ _ _).mono ?_; rintro e w' ⟨rfl, hb⟩; rw [hd]) | (go_at_call 115; refine (words_pick n hn _).mono ?_; rintro e w' ⟨rfl, hb⟩))
  go_wp2
  go_ret
  exact ⟨by simp, by repeat (first | exact Below.refl _ _ | refine bthen ?_ (by assumption) | apply Below.drew | apply bdrewN | refine Below.alloc ?_ (by simp <;> omega) _)⟩
set_option maxHeartbeats 2000000 in
set_option maxRecDepth 100000 in
theorem text_throw_impl (who seq du n : Int) (h : ordB who seq 5 du n = true) (w : World) (ht0 : Lib.TabBelow Tryz.prog w.heap.size w "internal/strconv.uint64pow10" .u64 Lib.pow10Tab) :
    Calls Tryz.prog 37 #[.agg #[.int .i64 who, .int .i64 seq, .int .i64 5, .int .i64 du, .int .i64 n]] w fun e w' => e = .returned (.string (OH who seq ++ tthrow du n)) ∧ Below w.heap.size w w' := by
  have HT : Hid (Lib.TabBelow Tryz.prog w.heap.size w "internal/strconv.uint64pow10" .u64 Lib.pow10Tab) := ht0
  clear ht0
  obtain ⟨⟨hw1, hw2⟩, ⟨hq1, hq2⟩, hk⟩ := ordB_true h
  have hn : 1 ≤ n ∧ n ≤ 9 := by have := hk; simp [kindB, inB] at this; omega
  have zi : (DD who).size ≤ 6 := DD_size who (by omega)
  have zs : (DD seq).size ≤ 6 := DD_size seq (by omega)
  have zsp : SP.size = 1 := by decide +kernel
  obtain ⟨z1, z2, z3⟩ := OH_sizes who seq zi zs
  have zt : (tthrow du n).size ≤ 100 := by
    have zsp : SP.size = 1 := by decide +kernel
    unfold tthrow; simp only [ByteArray.size_append]; have := word_size du; have := DD_size n (by omega); have : (⟨#[116, 104, 114, 111, 119, 32]⟩ : ByteArray).size = 6 := by decide +kernel
    omega
  have c1 : ∀ w : World, (Op.stringOp .add (DD who) SP).run Tryz.prog w = .ok (.string (OH1 who)) w := cat _ _ (by omega) (by omega)
  have c2 : ∀ w : World, (Op.stringOp .add (OH1 who) (DD seq)).run Tryz.prog w = .ok (.string (OH2 who seq)) w := cat _ _ (by omega) (by omega)
  have c3 : ∀ w : World, (Op.stringOp .add (OH2 who seq) SP).run Tryz.prog w = .ok (.string (OH who seq)) w := cat _ _ (by omega) (by omega)
  have c4 : ∀ w : World, (Op.stringOp .add (OH who seq) (tthrow du n)).run Tryz.prog w = .ok (.string (OH who seq ++ tthrow du n)) w := cat _ _ (by omega) (by omega)
  have hd : deedV 5 du n = .iface 86 (.agg #[.int .i64 du, .int .i64 n]) := rfl
  have hm : ∀ (v : Value) (w : World), (method 248 86 v "loop.example/landmarch/impl.words").run Tryz.prog w = .ok (117, v) w := fun _ _ => by kernel_rfl
  clear hk
  go_enter Tryz.func37, Tryz.ntmps37
  go_wp2_with (go_at_call 54; refine (ordOk_impl _ _ _ _ _ _).mono ?_; rintro e w0 ⟨rfl, hb0⟩; rw [h])
  go_region_held3 (fun w' => (∀ b o, b < w.heap.size + 1 → w'.cell? ⟨b, o, none⟩ = (w.alloc (.cells #[.int .i64 who, .int .i64 seq, .int .i64 5, .int .i64 du, .int .i64 n] 46)).cell? ⟨b, o, none⟩) ∧ w.heap.size + 1 ≤ w'.heap.size) (first | (refine keepS ?_ (by assumption); assumption) | exact keepS ⟨fun _ _ _ => rfl, by simp⟩ hb0 | exact keepS ⟨fun _ _ _ => rfl, by simp⟩ hb0.drew | assumption) (first | (go_at_call 29; refine (itoa_tab _ (by omega) (by omega) _ (HT.out _ (by repeat (first | exact Below.refl _ _ | refine bthen ?_ (by assumption) | apply Below.drew | apply bdrewN | refine Below.alloc ?_ (by simp) _)))).mono ?_; rintro e w' ⟨rfl, hb⟩) | (go_at_call 55; refine (deedOf _ _ _ _ _ _).mono ?_; rintro e w' ⟨rfl, hb⟩; rw [hd]) | (go_at_call 117; refine (words_throw du n hn _).mono ?_; rintro e w' ⟨rfl, hb⟩))
  go_wp2
  go_ret
  exact ⟨by simp, by repeat (first | exact Below.refl _ _ | refine bthen ?_ (by assumption) | apply Below.drew | apply bdrewN | refine Below.alloc ?_ (by simp <;> omega) _)⟩
set_option maxHeartbeats 2000000 in
set_option maxRecDepth 100000 in
theorem text_rest_impl (who seq du n : Int) (h : ordB who seq 6 du n = true) (w : World) (ht0 : Lib.TabBelow Tryz.prog w.heap.size w "internal/strconv.uint64pow10" .u64 Lib.pow10Tab) :
    Calls Tryz.prog 37 #[.agg #[.int .i64 who, .int .i64 seq, .int .i64 6, .int .i64 du, .int .i64 n]] w fun e w' => e = .returned (.string (OH who seq ++ trest)) ∧ Below w.heap.size w w' := by
  have HT : Hid (Lib.TabBelow Tryz.prog w.heap.size w "internal/strconv.uint64pow10" .u64 Lib.pow10Tab) := ht0
  clear ht0
  obtain ⟨⟨hw1, hw2⟩, ⟨hq1, hq2⟩, hk⟩ := ordB_true h
  have zi : (DD who).size ≤ 6 := DD_size who (by omega)
  have zs : (DD seq).size ≤ 6 := DD_size seq (by omega)
  have zsp : SP.size = 1 := by decide +kernel
  obtain ⟨z1, z2, z3⟩ := OH_sizes who seq zi zs
  have zt : (trest).size ≤ 100 := by
    have zsp : SP.size = 1 := by decide +kernel
    have : trest.size = 4 := by decide +kernel
    omega
  have c1 : ∀ w : World, (Op.stringOp .add (DD who) SP).run Tryz.prog w = .ok (.string (OH1 who)) w := cat _ _ (by omega) (by omega)
  have c2 : ∀ w : World, (Op.stringOp .add (OH1 who) (DD seq)).run Tryz.prog w = .ok (.string (OH2 who seq)) w := cat _ _ (by omega) (by omega)
  have c3 : ∀ w : World, (Op.stringOp .add (OH2 who seq) SP).run Tryz.prog w = .ok (.string (OH who seq)) w := cat _ _ (by omega) (by omega)
  have c4 : ∀ w : World, (Op.stringOp .add (OH who seq) (trest)).run Tryz.prog w = .ok (.string (OH who seq ++ trest)) w := cat _ _ (by omega) (by omega)
  have hd : deedV 6 du n = .iface 88 (.agg #[]) := rfl
  have hm : ∀ (v : Value) (w : World), (method 248 88 v "loop.example/landmarch/impl.words").run Tryz.prog w = .ok (119, v) w := fun _ _ => by kernel_rfl
  clear hk
  go_enter Tryz.func37, Tryz.ntmps37
  go_wp2_with (go_at_call 54; refine (ordOk_impl _ _ _ _ _ _).mono ?_; rintro e w0 ⟨rfl, hb0⟩; rw [h])
  go_region_held3 (fun w' => (∀ b o, b < w.heap.size + 1 → w'.cell? ⟨b, o, none⟩ = (w.alloc (.cells #[.int .i64 who, .int .i64 seq, .int .i64 6, .int .i64 du, .int .i64 n] 46)).cell? ⟨b, o, none⟩) ∧ w.heap.size + 1 ≤ w'.heap.size) (first | (refine keepS ?_ (by assumption); assumption) | exact keepS ⟨fun _ _ _ => rfl, by simp⟩ hb0 | exact keepS ⟨fun _ _ _ => rfl, by simp⟩ hb0.drew | assumption) (first | (go_at_call 29; refine (itoa_tab _ (by omega) (by omega) _ (HT.out _ (by repeat (first | exact Below.refl _ _ | refine bthen ?_ (by assumption) | apply Below.drew | apply bdrewN | refine Below.alloc ?_ (by simp) _)))).mono ?_; rintro e w' ⟨rfl, hb⟩) | (go_at_call 55; refine (deedOf _ _ _ _ _ _).mono ?_; rintro e w' ⟨rfl, hb⟩; rw [hd]) | (go_at_call 119; refine (words_rest  _).mono ?_; rintro e w' ⟨rfl, hb⟩))
  go_wp2
  go_ret
  exact ⟨by simp, by repeat (first | exact Below.refl _ _ | refine bthen ?_ (by assumption) | apply Below.drew | apply bdrewN | refine Below.alloc ?_ (by simp <;> omega) _)⟩
end Go.Proofs.YtalmnogdplhflaaGreatDoor
namespace Go.Proofs.YtalmnogdplhflaaGreatDoor
open Go.RowKit
set_option linter.unusedVariables false
theorem ordText_spec (who seq k du n : Int) (w : World) :
    Calls Tryz.prog 22 #[.agg #[.int .i64 who, .int .i64 seq, .int .i64 k, .int .i64 du, .int .i64 n]] w fun e w' => e = .returned (.string (ordText who seq k du n)) ∧ Below w.heap.size w w' := by
  cases h : ordB who seq k du n
  · skip
    go_enter Tryz.func22, Tryz.ntmps22
    go_wp2_with (go_at_call 32; refine (ordOk_spec _ _ _ _ _ _).mono ?_; rintro e w0 ⟨rfl, hb0⟩; rw [h])
    go_ret
    exact ⟨by simp [ordText, h], by repeat (first | exact Below.refl _ _ | refine bthen ?_ (by assumption) | apply Below.drew | refine Below.alloc ?_ (by simp <;> omega) _)⟩
  · obtain ⟨_, _, hk⟩ := ordB_true h
    rw [show ordText who seq k du n = OH who seq ++ tailOf k du n by simp [ordText, h]]
    by_cases h1 : k = 1
    · subst h1
      exact text_step_spec who seq du n h w
    by_cases h2 : k = 2
    · subst h2
      exact text_give_spec who seq du n h w
    by_cases h3 : k = 3
    · subst h3
      exact text_drop_spec who seq du n h w
    by_cases h4 : k = 4
    · subst h4
      exact text_pick_spec who seq du n h w
    by_cases h5 : k = 5
    · subst h5
      exact text_throw_spec who seq du n h w
    by_cases h6 : k = 6
    · subst h6
      exact text_rest_spec who seq du n h w
    · simp [kindB, h1, h2, h3, h4, h5, h6] at hk
theorem ordText_impl (who seq k du n : Int) (w : World) (ht : Lib.TabBelow Tryz.prog w.heap.size w "internal/strconv.uint64pow10" .u64 Lib.pow10Tab) :
    Calls Tryz.prog 37 #[.agg #[.int .i64 who, .int .i64 seq, .int .i64 k, .int .i64 du, .int .i64 n]] w fun e w' => e = .returned (.string (ordText who seq k du n)) ∧ Below w.heap.size w w' := by
  cases h : ordB who seq k du n
  · clear ht
    go_enter Tryz.func37, Tryz.ntmps37
    go_wp2_with (go_at_call 54; refine (ordOk_impl _ _ _ _ _ _).mono ?_; rintro e w0 ⟨rfl, hb0⟩; rw [h])
    go_ret
    exact ⟨by simp [ordText, h], by repeat (first | exact Below.refl _ _ | refine bthen ?_ (by assumption) | apply Below.drew | refine Below.alloc ?_ (by simp <;> omega) _)⟩
  · obtain ⟨_, _, hk⟩ := ordB_true h
    rw [show ordText who seq k du n = OH who seq ++ tailOf k du n by simp [ordText, h]]
    by_cases h1 : k = 1
    · subst h1
      exact text_step_impl who seq du n h w ht
    by_cases h2 : k = 2
    · subst h2
      exact text_give_impl who seq du n h w ht
    by_cases h3 : k = 3
    · subst h3
      exact text_drop_impl who seq du n h w ht
    by_cases h4 : k = 4
    · subst h4
      exact text_pick_impl who seq du n h w ht
    by_cases h5 : k = 5
    · subst h5
      exact text_throw_impl who seq du n h w ht
    by_cases h6 : k = 6
    · subst h6
      exact text_rest_impl who seq du n h w ht
    · simp [kindB, h1, h2, h3, h4, h5, h6] at hk
end Go.Proofs.YtalmnogdplhflaaGreatDoor
