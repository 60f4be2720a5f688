/- The walks of OrdOk's callees: which deed an order is, whether it fits, and the order of a deed; conditions: none. -/
import Derived.Test.YtiahmakaegnnfaaWalks1
namespace Go.Proofs.Ytiahmakaegnnfaa
open Go.RowKit
set_option linter.unusedVariables false

def wordOf (s : Int) : ByteArray := if s = 0 then ⟨#[108, 101, 102, 116]⟩ else if s = 1 then ⟨#[114, 105, 103, 104, 116]⟩ else ⟨#[]⟩
def sideB (s : Int) : Bool := inB s 0 1
def deedV (k to n : Int) : Value :=
  if k = 1 then .iface 108 (.agg #[.int .i64 to]) else if k = 2 then .iface 110 (.agg #[.int .i64 to, .int .i64 n]) else if k = 3 then .iface 112 (.agg #[.int .i64 n]) else
  if k = 4 then .iface 113 (.agg #[.int .i64 n]) else if k = 5 then .iface 115 (.agg #[.int .i64 to, .int .i64 n]) else if k = 6 then .iface 117 (.agg #[]) else .nilIface

theorem toOrder (who seq k to n : Int) (w : World) :
    Calls Try.prog 28 #[.agg #[.int .i64 who, .int .i64 seq, .int .i64 k, .int .i64 to, .int .i64 n]] w fun e w' => e = .returned (.agg #[.int .i64 who, .int .i64 seq, .int .i64 k, .int .i64 to, .int .i64 n]) ∧ Below w.heap.size w w' := by
  go_enter Try.func28, Try.ntmps28
  go_wp2
  exact bodyPost_ret (v := .agg #[.int .i64 who, .int .i64 seq, .int .i64 k, .int .i64 to, .int .i64 n]) (by simp [results, Try.results28, go_sem]) rfl ⟨rfl, (((Below.refl _ _).alloc (by simp) _).alloc (by simp) _).alloc (by simp; omega) _⟩

theorem word_impl (s : Int) (w : World) :
    Calls Try.prog 52 #[.int .i64 s] w fun e w' => e = .returned (.string (wordOf s)) ∧ w' = w := by
  go_enter Try.func52, Try.ntmps52
  go_wp2
  all_goals (go_ret; exact ⟨by simp_all [wordOf], rfl⟩)

theorem word_side (s : Int) : (wordOf s).toList.isEmpty = !sideB s := by
  unfold wordOf sideB inB
  by_cases h0 : s = 0
  · subst h0; decide +kernel
  · by_cases h1 : s = 1
    · subst h1; decide +kernel
    · rw [if_neg h0, if_neg h1]
      have : ¬ (0 ≤ s ∧ s ≤ 1) := by omega
      rw [decide_eq_false this]
      decide +kernel

theorem deedOf (who seq k to n : Int) (w : World) :
    Calls Try.prog 50 #[.agg #[.int .i64 who, .int .i64 seq, .int .i64 k, .int .i64 to, .int .i64 n]] w fun e w' => e = .returned (deedV k to n) ∧ Below w.heap.size w w' := by
  go_enter Try.func50, Try.ntmps50
  go_wp2
  all_goals (go_ret; exact ⟨by simp_all [deedV], (Below.refl _ _).alloc (by simp) _⟩)

theorem amount_impl (n : Int) (w : World) :
    Calls Try.prog 100 #[.int .i64 n] w fun e w' => e = .returned (.bool (inB n 1 9)) ∧ w' = w := by
  go_enter Try.func100, Try.ntmps100
  go_wp2_with (go_at_call 49; refine (in_impl _ _ _ _).mono ?_; rintro e w' ⟨rfl, rfl⟩)
  go_ret
  exact ⟨rfl, rfl⟩

theorem fits_step (to who : Int) (w : World) :
    Calls Try.prog 96 #[.agg #[.int .i64 to], .int .i64 who] w fun e w' => e = .returned (.bool (sideB to)) ∧ Below w.heap.size w w' := by
  go_enter Try.func96, Try.ntmps96
  go_wp2_with (go_at_call 52; refine (word_impl _ _).mono ?_; rintro e w' ⟨rfl, rfl⟩)
  go_ret
  exact ⟨by have := word_side to; cases h : sideB to <;> simp_all, (Below.refl _ _).alloc (by simp) _⟩

theorem fits_give (to n who : Int) (w : World) :
    Calls Try.prog 98 #[.agg #[.int .i64 to, .int .i64 n], .int .i64 who] w fun e w' => e = .returned (.bool (inB to 1 9 && (to != who && inB n 1 9))) ∧ Below w.heap.size w w' := by
  cases h1 : inB to 1 9
  · go_enter Try.func98, Try.ntmps98
    go_wp2_with (first | (go_at_call 49; refine (in_impl _ _ _ _).mono ?_; rintro e w' ⟨rfl, rfl⟩) | (go_at_call 100; refine (amount_impl _ _).mono ?_; rintro e w' ⟨rfl, rfl⟩))
    all_goals (go_ret; exact ⟨by simp [*], (Below.refl _ _).alloc (by simp) _⟩)
  · cases h2 : (to != who)
    all_goals
      go_enter Try.func98, Try.ntmps98
      go_wp2_with (first | (go_at_call 49; refine (in_impl _ _ _ _).mono ?_; rintro e w' ⟨rfl, rfl⟩) | (go_at_call 100; refine (amount_impl _ _).mono ?_; rintro e w' ⟨rfl, rfl⟩))
      all_goals (go_ret; exact ⟨by simp_all, (Below.refl _ _).alloc (by simp) _⟩)

theorem fits_drop (n who : Int) (w : World) :
    Calls Try.prog 101 #[.agg #[.int .i64 n], .int .i64 who] w fun e w' => e = .returned (.bool (inB n 1 9)) ∧ Below w.heap.size w w' := by
  go_enter Try.func101, Try.ntmps101
  go_wp2_with (go_at_call 100; refine (amount_impl _ _).mono ?_; rintro e w' ⟨rfl, rfl⟩)
  go_ret
  exact ⟨rfl, (Below.refl _ _).alloc (by simp) _⟩

theorem fits_pick (n who : Int) (w : World) :
    Calls Try.prog 103 #[.agg #[.int .i64 n], .int .i64 who] w fun e w' => e = .returned (.bool (inB n 1 9)) ∧ Below w.heap.size w w' := by
  go_enter Try.func103, Try.ntmps103
  go_wp2_with (go_at_call 100; refine (amount_impl _ _).mono ?_; rintro e w' ⟨rfl, rfl⟩)
  go_ret
  exact ⟨rfl, (Below.refl _ _).alloc (by simp) _⟩

theorem fits_throw (to n who : Int) (w : World) :
    Calls Try.prog 105 #[.agg #[.int .i64 to, .int .i64 n], .int .i64 who] w fun e w' => e = .returned (.bool (sideB to && inB n 1 9)) ∧ Below w.heap.size w w' := by
  have hw := word_side to
  cases h1 : sideB to
  all_goals
    rw [h1] at hw
    go_enter Try.func105, Try.ntmps105
    go_wp2_with (first | (go_at_call 52; refine (word_impl _ _).mono ?_; rintro e w' ⟨rfl, rfl⟩) | (go_at_call 100; refine (amount_impl _ _).mono ?_; rintro e w' ⟨rfl, rfl⟩))
    all_goals (go_ret; exact ⟨by simp_all, (Below.refl _ _).alloc (by simp) _⟩)

theorem fits_rest (who : Int) (w : World) :
    Calls Try.prog 107 #[.agg #[], .int .i64 who] w fun e w' => e = .returned (.bool true) ∧ Below w.heap.size w w' := by
  go_enter Try.func107, Try.ntmps107
  go_wp2
  go_ret
  exact ⟨rfl, by first | exact Below.refl _ _ | exact (Below.refl _ _).alloc (by simp) _⟩

set_option maxRecDepth 100000 in
theorem order_step (who seq to n : Int) (w : World) :
    Calls Try.prog 51 #[.int .i64 who, .int .i64 seq, .iface 108 (.agg #[.int .i64 to])] w fun e w' => e = .returned (.agg #[.int .i64 who, .int .i64 seq, .int .i64 1, .int .i64 to, .int .i64 0]) ∧ Below w.heap.size w w' := by
  have hstep : ∀ (v : Value) (w : World), (Instr.typeAssert (.iface 108 v) 87 108 true).run Try.prog w = .ok (.tuple #[v, .bool true]) w := fun _ _ => by kernel_rfl
  go_enter Try.func51, Try.ntmps51
  go_wp2
  go_region
  go_wp2
  exact bodyPost_ret (v := .agg #[.int .i64 who, .int .i64 seq, .int .i64 1, .int .i64 to, .int .i64 0]) (by simp [results, Try.results51, go_sem]) rfl ⟨rfl, by repeat (first | exact Below.refl _ _ | apply Below.drew | refine Below.alloc ?_ (by simp <;> omega) _)⟩

set_option maxRecDepth 100000 in
theorem order_give (who seq to n : Int) (w : World) :
    Calls Try.prog 51 #[.int .i64 who, .int .i64 seq, .iface 110 (.agg #[.int .i64 to, .int .i64 n])] w fun e w' => e = .returned (.agg #[.int .i64 who, .int .i64 seq, .int .i64 2, .int .i64 to, .int .i64 n]) ∧ Below w.heap.size w w' := by
  have hstep : ∀ (v : Value) (w : World), (Instr.typeAssert (.iface 110 v) 87 108 true).run Try.prog w = .ok (.tuple #[.agg #[.int .i64 0], .bool false]) w := fun _ _ => by kernel_rfl
  have hgive : ∀ (v : Value) (w : World), (Instr.typeAssert (.iface 110 v) 87 110 true).run Try.prog w = .ok (.tuple #[v, .bool true]) w := fun _ _ => by kernel_rfl
  go_enter Try.func51, Try.ntmps51
  go_wp2
  go_region
  go_wp2
  exact bodyPost_ret (v := .agg #[.int .i64 who, .int .i64 seq, .int .i64 2, .int .i64 to, .int .i64 n]) (by simp [results, Try.results51, go_sem]) rfl ⟨rfl, by repeat (first | exact Below.refl _ _ | apply Below.drew | refine Below.alloc ?_ (by simp <;> omega) _)⟩

set_option maxRecDepth 100000 in
theorem order_drop (who seq to n : Int) (w : World) :
    Calls Try.prog 51 #[.int .i64 who, .int .i64 seq, .iface 112 (.agg #[.int .i64 n])] w fun e w' => e = .returned (.agg #[.int .i64 who, .int .i64 seq, .int .i64 3, .int .i64 0, .int .i64 n]) ∧ Below w.heap.size w w' := by
  have hstep : ∀ (v : Value) (w : World), (Instr.typeAssert (.iface 112 v) 87 108 true).run Try.prog w = .ok (.tuple #[.agg #[.int .i64 0], .bool false]) w := fun _ _ => by kernel_rfl
  have hgive : ∀ (v : Value) (w : World), (Instr.typeAssert (.iface 112 v) 87 110 true).run Try.prog w = .ok (.tuple #[.agg #[.int .i64 0, .int .i64 0], .bool false]) w := fun _ _ => by kernel_rfl
  have hdrop : ∀ (v : Value) (w : World), (Instr.typeAssert (.iface 112 v) 87 112 true).run Try.prog w = .ok (.tuple #[v, .bool true]) w := fun _ _ => by kernel_rfl
  go_enter Try.func51, Try.ntmps51
  go_wp2
  go_region
  go_wp2
  exact bodyPost_ret (v := .agg #[.int .i64 who, .int .i64 seq, .int .i64 3, .int .i64 0, .int .i64 n]) (by simp [results, Try.results51, go_sem]) rfl ⟨rfl, by repeat (first | exact Below.refl _ _ | apply Below.drew | refine Below.alloc ?_ (by simp <;> omega) _)⟩

set_option maxRecDepth 100000 in
theorem order_pick (who seq to n : Int) (w : World) :
    Calls Try.prog 51 #[.int .i64 who, .int .i64 seq, .iface 113 (.agg #[.int .i64 n])] w fun e w' => e = .returned (.agg #[.int .i64 who, .int .i64 seq, .int .i64 4, .int .i64 0, .int .i64 n]) ∧ Below w.heap.size w w' := by
  have hstep : ∀ (v : Value) (w : World), (Instr.typeAssert (.iface 113 v) 87 108 true).run Try.prog w = .ok (.tuple #[.agg #[.int .i64 0], .bool false]) w := fun _ _ => by kernel_rfl
  have hgive : ∀ (v : Value) (w : World), (Instr.typeAssert (.iface 113 v) 87 110 true).run Try.prog w = .ok (.tuple #[.agg #[.int .i64 0, .int .i64 0], .bool false]) w := fun _ _ => by kernel_rfl
  have hdrop : ∀ (v : Value) (w : World), (Instr.typeAssert (.iface 113 v) 87 112 true).run Try.prog w = .ok (.tuple #[.agg #[.int .i64 0], .bool false]) w := fun _ _ => by kernel_rfl
  have hpick : ∀ (v : Value) (w : World), (Instr.typeAssert (.iface 113 v) 87 113 true).run Try.prog w = .ok (.tuple #[v, .bool true]) w := fun _ _ => by kernel_rfl
  go_enter Try.func51, Try.ntmps51
  go_wp2
  go_region
  go_wp2
  exact bodyPost_ret (v := .agg #[.int .i64 who, .int .i64 seq, .int .i64 4, .int .i64 0, .int .i64 n]) (by simp [results, Try.results51, go_sem]) rfl ⟨rfl, by repeat (first | exact Below.refl _ _ | apply Below.drew | refine Below.alloc ?_ (by simp <;> omega) _)⟩

set_option maxRecDepth 100000 in
theorem order_throw (who seq to n : Int) (w : World) :
    Calls Try.prog 51 #[.int .i64 who, .int .i64 seq, .iface 115 (.agg #[.int .i64 to, .int .i64 n])] w fun e w' => e = .returned (.agg #[.int .i64 who, .int .i64 seq, .int .i64 5, .int .i64 to, .int .i64 n]) ∧ Below w.heap.size w w' := by
  have hstep : ∀ (v : Value) (w : World), (Instr.typeAssert (.iface 115 v) 87 108 true).run Try.prog w = .ok (.tuple #[.agg #[.int .i64 0], .bool false]) w := fun _ _ => by kernel_rfl
  have hgive : ∀ (v : Value) (w : World), (Instr.typeAssert (.iface 115 v) 87 110 true).run Try.prog w = .ok (.tuple #[.agg #[.int .i64 0, .int .i64 0], .bool false]) w := fun _ _ => by kernel_rfl
  have hdrop : ∀ (v : Value) (w : World), (Instr.typeAssert (.iface 115 v) 87 112 true).run Try.prog w = .ok (.tuple #[.agg #[.int .i64 0], .bool false]) w := fun _ _ => by kernel_rfl
  have hpick : ∀ (v : Value) (w : World), (Instr.typeAssert (.iface 115 v) 87 113 true).run Try.prog w = .ok (.tuple #[.agg #[.int .i64 0], .bool false]) w := fun _ _ => by kernel_rfl
  have hthrow : ∀ (v : Value) (w : World), (Instr.typeAssert (.iface 115 v) 87 115 true).run Try.prog w = .ok (.tuple #[v, .bool true]) w := fun _ _ => by kernel_rfl
  go_enter Try.func51, Try.ntmps51
  go_wp2
  go_region
  go_wp2
  exact bodyPost_ret (v := .agg #[.int .i64 who, .int .i64 seq, .int .i64 5, .int .i64 to, .int .i64 n]) (by simp [results, Try.results51, go_sem]) rfl ⟨rfl, by repeat (first | exact Below.refl _ _ | apply Below.drew | refine Below.alloc ?_ (by simp <;> omega) _)⟩

set_option maxRecDepth 100000 in
theorem order_rest (who seq to n : Int) (w : World) :
    Calls Try.prog 51 #[.int .i64 who, .int .i64 seq, .iface 117 (.agg #[])] w fun e w' => e = .returned (.agg #[.int .i64 who, .int .i64 seq, .int .i64 6, .int .i64 0, .int .i64 0]) ∧ Below w.heap.size w w' := by
  have hstep : ∀ (v : Value) (w : World), (Instr.typeAssert (.iface 117 v) 87 108 true).run Try.prog w = .ok (.tuple #[.agg #[.int .i64 0], .bool false]) w := fun _ _ => by kernel_rfl
  have hgive : ∀ (v : Value) (w : World), (Instr.typeAssert (.iface 117 v) 87 110 true).run Try.prog w = .ok (.tuple #[.agg #[.int .i64 0, .int .i64 0], .bool false]) w := fun _ _ => by kernel_rfl
  have hdrop : ∀ (v : Value) (w : World), (Instr.typeAssert (.iface 117 v) 87 112 true).run Try.prog w = .ok (.tuple #[.agg #[.int .i64 0], .bool false]) w := fun _ _ => by kernel_rfl
  have hpick : ∀ (v : Value) (w : World), (Instr.typeAssert (.iface 117 v) 87 113 true).run Try.prog w = .ok (.tuple #[.agg #[.int .i64 0], .bool false]) w := fun _ _ => by kernel_rfl
  have hthrow : ∀ (v : Value) (w : World), (Instr.typeAssert (.iface 117 v) 87 115 true).run Try.prog w = .ok (.tuple #[.agg #[.int .i64 0, .int .i64 0], .bool false]) w := fun _ _ => by kernel_rfl
  have hrest : ∀ (v : Value) (w : World), (Instr.typeAssert (.iface 117 v) 87 117 true).run Try.prog w = .ok (.tuple #[v, .bool true]) w := fun _ _ => by kernel_rfl
  go_enter Try.func51, Try.ntmps51
  go_wp2
  exact bodyPost_ret (v := .agg #[.int .i64 who, .int .i64 seq, .int .i64 6, .int .i64 0, .int .i64 0]) (by simp [results, Try.results51, go_sem]) rfl ⟨rfl, by repeat (first | exact Below.refl _ _ | apply Below.drew | refine Below.alloc ?_ (by simp <;> omega) _)⟩

end Go.Proofs.Ytiahmakaegnnfaa
