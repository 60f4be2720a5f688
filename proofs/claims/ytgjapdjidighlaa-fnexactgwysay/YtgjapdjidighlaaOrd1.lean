/- The walks of OrdOk's callees: which deed an order is, whether it fits, and the order of a deed; conditions: none. -/
import Derived.Test.YtgjapdjidighlaaWalks1
namespace Go.Proofs.Ytgjapdjidighlaa
open Go.RowKit
set_option linter.unusedVariables false

def wordOf (s : Int) : ByteArray := if s = 0 then ⟨#[108, 101, 102, 116]⟩ else if s = 1 then ⟨#[114, 105, 103, 104, 116]⟩ else ⟨#[]⟩
def sideB (s : Int) : Bool := inB s 0 1
def deedV (k to n : Int) : Value :=
  if k = 1 then .iface 130 (.agg #[.int .i64 to]) else if k = 2 then .iface 132 (.agg #[.int .i64 to, .int .i64 n]) else if k = 3 then .iface 134 (.agg #[.int .i64 n]) else
  if k = 4 then .iface 135 (.agg #[.int .i64 n]) else if k = 5 then .iface 137 (.agg #[.int .i64 to, .int .i64 n]) else if k = 6 then .iface 139 (.agg #[]) else .nilIface

theorem toOrder (who seq k to n : Int) (w : World) :
    Calls Try.prog 74 #[.agg #[.int .i64 who, .int .i64 seq, .int .i64 k, .int .i64 to, .int .i64 n]] w fun e w' => e = .returned (.agg #[.int .i64 who, .int .i64 seq, .int .i64 k, .int .i64 to, .int .i64 n]) ∧ Below w.heap.size w w' := by
  go_enter Try.func74, Try.ntmps74
  go_wp2
  exact bodyPost_ret (v := .agg #[.int .i64 who, .int .i64 seq, .int .i64 k, .int .i64 to, .int .i64 n]) (by simp [results, Try.results74, go_sem]) rfl ⟨rfl, (((Below.refl _ _).alloc (by simp) _).alloc (by simp) _).alloc (by simp; omega) _⟩

theorem word_impl (s : Int) (w : World) :
    Calls Try.prog 127 #[.int .i64 s] w fun e w' => e = .returned (.string (wordOf s)) ∧ w' = w := by
  go_enter Try.func127, Try.ntmps127
  go_wp2
  all_goals (go_ret; exact ⟨by simp_all [wordOf], rfl⟩)

theorem word_side (s : Int) : (wordOf s).toList.isEmpty = !sideB s := by
  unfold wordOf sideB inB
  by_cases h0 : s = 0
  · subst h0; decide +kernel
  · by_cases h1 : s = 1
    · subst h1; decide +kernel
    · rw [if_neg h0, if_neg h1]
      have : ¬ (0 ≤ s ∧ s ≤ 1) := by omega
      rw [decide_eq_false this]
      decide +kernel

theorem deedOf (who seq k to n : Int) (w : World) :
    Calls Try.prog 75 #[.agg #[.int .i64 who, .int .i64 seq, .int .i64 k, .int .i64 to, .int .i64 n]] w fun e w' => e = .returned (deedV k to n) ∧ Below w.heap.size w w' := by
  go_enter Try.func75, Try.ntmps75
  go_wp2
  all_goals (go_ret; exact ⟨by simp_all [deedV], (Below.refl _ _).alloc (by simp) _⟩)

theorem amount_impl (n : Int) (w : World) :
    Calls Try.prog 130 #[.int .i64 n] w fun e w' => e = .returned (.bool (inB n 1 9)) ∧ w' = w := by
  go_enter Try.func130, Try.ntmps130
  go_wp2_with (go_at_call 63; refine (in_impl _ _ _ _).mono ?_; rintro e w' ⟨rfl, rfl⟩)
  go_ret
  exact ⟨rfl, rfl⟩

theorem fits_step (to who : Int) (w : World) :
    Calls Try.prog 125 #[.agg #[.int .i64 to], .int .i64 who] w fun e w' => e = .returned (.bool (sideB to)) ∧ Below w.heap.size w w' := by
  go_enter Try.func125, Try.ntmps125
  go_wp2_with (go_at_call 127; refine (word_impl _ _).mono ?_; rintro e w' ⟨rfl, rfl⟩)
  go_ret
  exact ⟨by have := word_side to; cases h : sideB to <;> simp_all, (Below.refl _ _).alloc (by simp) _⟩

theorem fits_give (to n who : Int) (w : World) :
    Calls Try.prog 128 #[.agg #[.int .i64 to, .int .i64 n], .int .i64 who] w fun e w' => e = .returned (.bool (inB to 1 9 && (to != who && inB n 1 9))) ∧ Below w.heap.size w w' := by
  cases h1 : inB to 1 9
  · go_enter Try.func128, Try.ntmps128
    go_wp2_with (first | (go_at_call 63; refine (in_impl _ _ _ _).mono ?_; rintro e w' ⟨rfl, rfl⟩) | (go_at_call 130; refine (amount_impl _ _).mono ?_; rintro e w' ⟨rfl, rfl⟩))
    all_goals (go_ret; exact ⟨by simp [*], (Below.refl _ _).alloc (by simp) _⟩)
  · cases h2 : (to != who)
    all_goals
      go_enter Try.func128, Try.ntmps128
      go_wp2_with (first | (go_at_call 63; refine (in_impl _ _ _ _).mono ?_; rintro e w' ⟨rfl, rfl⟩) | (go_at_call 130; refine (amount_impl _ _).mono ?_; rintro e w' ⟨rfl, rfl⟩))
      all_goals (go_ret; exact ⟨by simp_all, (Below.refl _ _).alloc (by simp) _⟩)

theorem fits_drop (n who : Int) (w : World) :
    Calls Try.prog 131 #[.agg #[.int .i64 n], .int .i64 who] w fun e w' => e = .returned (.bool (inB n 1 9)) ∧ Below w.heap.size w w' := by
  go_enter Try.func131, Try.ntmps131
  go_wp2_with (go_at_call 130; refine (amount_impl _ _).mono ?_; rintro e w' ⟨rfl, rfl⟩)
  go_ret
  exact ⟨rfl, (Below.refl _ _).alloc (by simp) _⟩

theorem fits_pick (n who : Int) (w : World) :
    Calls Try.prog 133 #[.agg #[.int .i64 n], .int .i64 who] w fun e w' => e = .returned (.bool (inB n 1 9)) ∧ Below w.heap.size w w' := by
  go_enter Try.func133, Try.ntmps133
  go_wp2_with (go_at_call 130; refine (amount_impl _ _).mono ?_; rintro e w' ⟨rfl, rfl⟩)
  go_ret
  exact ⟨rfl, (Below.refl _ _).alloc (by simp) _⟩

theorem fits_throw (to n who : Int) (w : World) :
    Calls Try.prog 135 #[.agg #[.int .i64 to, .int .i64 n], .int .i64 who] w fun e w' => e = .returned (.bool (sideB to && inB n 1 9)) ∧ Below w.heap.size w w' := by
  have hw := word_side to
  cases h1 : sideB to
  all_goals
    rw [h1] at hw
    go_enter Try.func135, Try.ntmps135
    go_wp2_with (first | (go_at_call 127; refine (word_impl _ _).mono ?_; rintro e w' ⟨rfl, rfl⟩) | (go_at_call 130; refine (amount_impl _ _).mono ?_; rintro e w' ⟨rfl, rfl⟩))
    all_goals (go_ret; exact ⟨by simp_all, (Below.refl _ _).alloc (by simp) _⟩)

theorem fits_rest (who : Int) (w : World) :
    Calls Try.prog 137 #[.agg #[], .int .i64 who] w fun e w' => e = .returned (.bool true) ∧ Below w.heap.size w w' := by
  go_enter Try.func137, Try.ntmps137
  go_wp2
  go_ret
  exact ⟨rfl, by first | exact Below.refl _ _ | exact (Below.refl _ _).alloc (by simp) _⟩

set_option maxRecDepth 100000 in
theorem order_step (who seq to n : Int) (w : World) :
    Calls Try.prog 76 #[.int .i64 who, .int .i64 seq, .iface 130 (.agg #[.int .i64 to])] w fun e w' => e = .returned (.agg #[.int .i64 who, .int .i64 seq, .int .i64 1, .int .i64 to, .int .i64 0]) ∧ Below w.heap.size w w' := by
  have hstep : ∀ (v : Value) (w : World), (Instr.typeAssert (.iface 130 v) 121 130 true).run Try.prog w = .ok (.tuple #[v, .bool true]) w := fun _ _ => by kernel_rfl
  go_enter Try.func76, Try.ntmps76
  go_wp2
  go_region
  go_wp2
  exact bodyPost_ret (v := .agg #[.int .i64 who, .int .i64 seq, .int .i64 1, .int .i64 to, .int .i64 0]) (by simp [results, Try.results76, go_sem]) rfl ⟨rfl, by repeat (first | exact Below.refl _ _ | apply Below.drew | refine Below.alloc ?_ (by simp <;> omega) _)⟩

set_option maxRecDepth 100000 in
theorem order_give (who seq to n : Int) (w : World) :
    Calls Try.prog 76 #[.int .i64 who, .int .i64 seq, .iface 132 (.agg #[.int .i64 to, .int .i64 n])] w fun e w' => e = .returned (.agg #[.int .i64 who, .int .i64 seq, .int .i64 2, .int .i64 to, .int .i64 n]) ∧ Below w.heap.size w w' := by
  have hstep : ∀ (v : Value) (w : World), (Instr.typeAssert (.iface 132 v) 121 130 true).run Try.prog w = .ok (.tuple #[.agg #[.int .i64 0], .bool false]) w := fun _ _ => by kernel_rfl
  have hgive : ∀ (v : Value) (w : World), (Instr.typeAssert (.iface 132 v) 121 132 true).run Try.prog w = .ok (.tuple #[v, .bool true]) w := fun _ _ => by kernel_rfl
  go_enter Try.func76, Try.ntmps76
  go_wp2
  go_region
  go_wp2
  exact bodyPost_ret (v := .agg #[.int .i64 who, .int .i64 seq, .int .i64 2, .int .i64 to, .int .i64 n]) (by simp [results, Try.results76, go_sem]) rfl ⟨rfl, by repeat (first | exact Below.refl _ _ | apply Below.drew | refine Below.alloc ?_ (by simp <;> omega) _)⟩

set_option maxRecDepth 100000 in
theorem order_drop (who seq to n : Int) (w : World) :
    Calls Try.prog 76 #[.int .i64 who, .int .i64 seq, .iface 134 (.agg #[.int .i64 n])] w fun e w' => e = .returned (.agg #[.int .i64 who, .int .i64 seq, .int .i64 3, .int .i64 0, .int .i64 n]) ∧ Below w.heap.size w w' := by
  have hstep : ∀ (v : Value) (w : World), (Instr.typeAssert (.iface 134 v) 121 130 true).run Try.prog w = .ok (.tuple #[.agg #[.int .i64 0], .bool false]) w := fun _ _ => by kernel_rfl
  have hgive : ∀ (v : Value) (w : World), (Instr.typeAssert (.iface 134 v) 121 132 true).run Try.prog w = .ok (.tuple #[.agg #[.int .i64 0, .int .i64 0], .bool false]) w := fun _ _ => by kernel_rfl
  have hdrop : ∀ (v : Value) (w : World), (Instr.typeAssert (.iface 134 v) 121 134 true).run Try.prog w = .ok (.tuple #[v, .bool true]) w := fun _ _ => by kernel_rfl
  go_enter Try.func76, Try.ntmps76
  go_wp2
  go_region
  go_wp2
  exact bodyPost_ret (v := .agg #[.int .i64 who, .int .i64 seq, .int .i64 3, .int .i64 0, .int .i64 n]) (by simp [results, Try.results76, go_sem]) rfl ⟨rfl, by repeat (first | exact Below.refl _ _ | apply Below.drew | refine Below.alloc ?_ (by simp <;> omega) _)⟩

set_option maxRecDepth 100000 in
theorem order_pick (who seq to n : Int) (w : World) :
    Calls Try.prog 76 #[.int .i64 who, .int .i64 seq, .iface 135 (.agg #[.int .i64 n])] w fun e w' => e = .returned (.agg #[.int .i64 who, .int .i64 seq, .int .i64 4, .int .i64 0, .int .i64 n]) ∧ Below w.heap.size w w' := by
  have hstep : ∀ (v : Value) (w : World), (Instr.typeAssert (.iface 135 v) 121 130 true).run Try.prog w = .ok (.tuple #[.agg #[.int .i64 0], .bool false]) w := fun _ _ => by kernel_rfl
  have hgive : ∀ (v : Value) (w : World), (Instr.typeAssert (.iface 135 v) 121 132 true).run Try.prog w = .ok (.tuple #[.agg #[.int .i64 0, .int .i64 0], .bool false]) w := fun _ _ => by kernel_rfl
  have hdrop : ∀ (v : Value) (w : World), (Instr.typeAssert (.iface 135 v) 121 134 true).run Try.prog w = .ok (.tuple #[.agg #[.int .i64 0], .bool false]) w := fun _ _ => by kernel_rfl
  have hpick : ∀ (v : Value) (w : World), (Instr.typeAssert (.iface 135 v) 121 135 true).run Try.prog w = .ok (.tuple #[v, .bool true]) w := fun _ _ => by kernel_rfl
  go_enter Try.func76, Try.ntmps76
  go_wp2
  go_region
  go_wp2
  exact bodyPost_ret (v := .agg #[.int .i64 who, .int .i64 seq, .int .i64 4, .int .i64 0, .int .i64 n]) (by simp [results, Try.results76, go_sem]) rfl ⟨rfl, by repeat (first | exact Below.refl _ _ | apply Below.drew | refine Below.alloc ?_ (by simp <;> omega) _)⟩

set_option maxRecDepth 100000 in
theorem order_throw (who seq to n : Int) (w : World) :
    Calls Try.prog 76 #[.int .i64 who, .int .i64 seq, .iface 137 (.agg #[.int .i64 to, .int .i64 n])] w fun e w' => e = .returned (.agg #[.int .i64 who, .int .i64 seq, .int .i64 5, .int .i64 to, .int .i64 n]) ∧ Below w.heap.size w w' := by
  have hstep : ∀ (v : Value) (w : World), (Instr.typeAssert (.iface 137 v) 121 130 true).run Try.prog w = .ok (.tuple #[.agg #[.int .i64 0], .bool false]) w := fun _ _ => by kernel_rfl
  have hgive : ∀ (v : Value) (w : World), (Instr.typeAssert (.iface 137 v) 121 132 true).run Try.prog w = .ok (.tuple #[.agg #[.int .i64 0, .int .i64 0], .bool false]) w := fun _ _ => by kernel_rfl
  have hdrop : ∀ (v : Value) (w : World), (Instr.typeAssert (.iface 137 v) 121 134 true).run Try.prog w = .ok (.tuple #[.agg #[.int .i64 0], .bool false]) w := fun _ _ => by kernel_rfl
  have hpick : ∀ (v : Value) (w : World), (Instr.typeAssert (.iface 137 v) 121 135 true).run Try.prog w = .ok (.tuple #[.agg #[.int .i64 0], .bool false]) w := fun _ _ => by kernel_rfl
  have hthrow : ∀ (v : Value) (w : World), (Instr.typeAssert (.iface 137 v) 121 137 true).run Try.prog w = .ok (.tuple #[v, .bool true]) w := fun _ _ => by kernel_rfl
  go_enter Try.func76, Try.ntmps76
  go_wp2
  go_region
  go_wp2
  exact bodyPost_ret (v := .agg #[.int .i64 who, .int .i64 seq, .int .i64 5, .int .i64 to, .int .i64 n]) (by simp [results, Try.results76, go_sem]) rfl ⟨rfl, by repeat (first | exact Below.refl _ _ | apply Below.drew | refine Below.alloc ?_ (by simp <;> omega) _)⟩

set_option maxRecDepth 100000 in
theorem order_rest (who seq to n : Int) (w : World) :
    Calls Try.prog 76 #[.int .i64 who, .int .i64 seq, .iface 139 (.agg #[])] w fun e w' => e = .returned (.agg #[.int .i64 who, .int .i64 seq, .int .i64 6, .int .i64 0, .int .i64 0]) ∧ Below w.heap.size w w' := by
  have hstep : ∀ (v : Value) (w : World), (Instr.typeAssert (.iface 139 v) 121 130 true).run Try.prog w = .ok (.tuple #[.agg #[.int .i64 0], .bool false]) w := fun _ _ => by kernel_rfl
  have hgive : ∀ (v : Value) (w : World), (Instr.typeAssert (.iface 139 v) 121 132 true).run Try.prog w = .ok (.tuple #[.agg #[.int .i64 0, .int .i64 0], .bool false]) w := fun _ _ => by kernel_rfl
  have hdrop : ∀ (v : Value) (w : World), (Instr.typeAssert (.iface 139 v) 121 134 true).run Try.prog w = .ok (.tuple #[.agg #[.int .i64 0], .bool false]) w := fun _ _ => by kernel_rfl
  have hpick : ∀ (v : Value) (w : World), (Instr.typeAssert (.iface 139 v) 121 135 true).run Try.prog w = .ok (.tuple #[.agg #[.int .i64 0], .bool false]) w := fun _ _ => by kernel_rfl
  have hthrow : ∀ (v : Value) (w : World), (Instr.typeAssert (.iface 139 v) 121 137 true).run Try.prog w = .ok (.tuple #[.agg #[.int .i64 0, .int .i64 0], .bool false]) w := fun _ _ => by kernel_rfl
  have hrest : ∀ (v : Value) (w : World), (Instr.typeAssert (.iface 139 v) 121 139 true).run Try.prog w = .ok (.tuple #[v, .bool true]) w := fun _ _ => by kernel_rfl
  go_enter Try.func76, Try.ntmps76
  go_wp2
  exact bodyPost_ret (v := .agg #[.int .i64 who, .int .i64 seq, .int .i64 6, .int .i64 0, .int .i64 0]) (by simp [results, Try.results76, go_sem]) rfl ⟨rfl, by repeat (first | exact Below.refl _ _ | apply Below.drew | refine Below.alloc ?_ (by simp <;> omega) _)⟩

end Go.Proofs.Ytgjapdjidighlaa
