/- The walks of OrdOk's callees: which deed an order is, whether it fits, and the order of a deed; conditions: none. -/
import Derived.Test.YtbiccpmaoagalaaDoorWalks1
namespace Go.Proofs.YtbiccpmaoagalaaDoor
open Go.RowKit
set_option linter.unusedVariables false

def wordOf (s : Int) : ByteArray := if s = 0 then ⟨#[108, 101, 102, 116]⟩ else if s = 1 then ⟨#[114, 105, 103, 104, 116]⟩ else ⟨#[]⟩
def sideB (s : Int) : Bool := inB s 0 1
def deedV (k to n : Int) : Value :=
  if k = 1 then .iface 73 (.agg #[.int .i64 to]) else if k = 2 then .iface 75 (.agg #[.int .i64 to, .int .i64 n]) else if k = 3 then .iface 77 (.agg #[.int .i64 n]) else
  if k = 4 then .iface 78 (.agg #[.int .i64 n]) else if k = 5 then .iface 80 (.agg #[.int .i64 to, .int .i64 n]) else if k = 6 then .iface 82 (.agg #[]) else .nilIface

theorem toOrder (who seq k to n : Int) (w : World) :
    Calls Tryd.prog 13 #[.agg #[.int .i64 who, .int .i64 seq, .int .i64 k, .int .i64 to, .int .i64 n]] w fun e w' => e = .returned (.agg #[.int .i64 who, .int .i64 seq, .int .i64 k, .int .i64 to, .int .i64 n]) ∧ Below w.heap.size w w' := by
  go_enter Tryd.func13, Tryd.ntmps13
  go_wp2
  exact bodyPost_ret (v := .agg #[.int .i64 who, .int .i64 seq, .int .i64 k, .int .i64 to, .int .i64 n]) (by simp [results, Tryd.results13, go_sem]) rfl ⟨rfl, (((Below.refl _ _).alloc (by simp) _).alloc (by simp) _).alloc (by simp; omega) _⟩

theorem word_impl (s : Int) (w : World) :
    Calls Tryd.prog 16 #[.int .i64 s] w fun e w' => e = .returned (.string (wordOf s)) ∧ w' = w := by
  go_enter Tryd.func16, Tryd.ntmps16
  go_wp2
  all_goals (go_ret; exact ⟨by simp_all [wordOf], rfl⟩)

theorem word_side (s : Int) : (wordOf s).toList.isEmpty = !sideB s := by
  unfold wordOf sideB inB
  by_cases h0 : s = 0
  · subst h0; decide +kernel
  · by_cases h1 : s = 1
    · subst h1; decide +kernel
    · rw [if_neg h0, if_neg h1]
      have : ¬ (0 ≤ s ∧ s ≤ 1) := by omega
      rw [decide_eq_false this]
      decide +kernel

theorem deedOf (who seq k to n : Int) (w : World) :
    Calls Tryd.prog 26 #[.agg #[.int .i64 who, .int .i64 seq, .int .i64 k, .int .i64 to, .int .i64 n]] w fun e w' => e = .returned (deedV k to n) ∧ Below w.heap.size w w' := by
  go_enter Tryd.func26, Tryd.ntmps26
  go_wp2
  all_goals (go_ret; exact ⟨by simp_all [deedV], (Below.refl _ _).alloc (by simp) _⟩)

theorem amount_impl (n : Int) (w : World) :
    Calls Tryd.prog 72 #[.int .i64 n] w fun e w' => e = .returned (.bool (inB n 1 9)) ∧ w' = w := by
  go_enter Tryd.func72, Tryd.ntmps72
  go_wp2_with (go_at_call 28; refine (in_impl _ _ _ _).mono ?_; rintro e w' ⟨rfl, rfl⟩)
  go_ret
  exact ⟨rfl, rfl⟩

theorem fits_step (to who : Int) (w : World) :
    Calls Tryd.prog 68 #[.agg #[.int .i64 to], .int .i64 who] w fun e w' => e = .returned (.bool (sideB to)) ∧ Below w.heap.size w w' := by
  go_enter Tryd.func68, Tryd.ntmps68
  go_wp2_with (go_at_call 16; refine (word_impl _ _).mono ?_; rintro e w' ⟨rfl, rfl⟩)
  go_ret
  exact ⟨by have := word_side to; cases h : sideB to <;> simp_all, (Below.refl _ _).alloc (by simp) _⟩

theorem fits_give (to n who : Int) (w : World) :
    Calls Tryd.prog 70 #[.agg #[.int .i64 to, .int .i64 n], .int .i64 who] w fun e w' => e = .returned (.bool (inB to 1 9 && (to != who && inB n 1 9))) ∧ Below w.heap.size w w' := by
  cases h1 : inB to 1 9
  · go_enter Tryd.func70, Tryd.ntmps70
    go_wp2_with (first | (go_at_call 28; refine (in_impl _ _ _ _).mono ?_; rintro e w' ⟨rfl, rfl⟩) | (go_at_call 72; refine (amount_impl _ _).mono ?_; rintro e w' ⟨rfl, rfl⟩))
    all_goals (go_ret; exact ⟨by simp [*], (Below.refl _ _).alloc (by simp) _⟩)
  · cases h2 : (to != who)
    all_goals
      go_enter Tryd.func70, Tryd.ntmps70
      go_wp2_with (first | (go_at_call 28; refine (in_impl _ _ _ _).mono ?_; rintro e w' ⟨rfl, rfl⟩) | (go_at_call 72; refine (amount_impl _ _).mono ?_; rintro e w' ⟨rfl, rfl⟩))
      all_goals (go_ret; exact ⟨by simp_all, (Below.refl _ _).alloc (by simp) _⟩)

theorem fits_drop (n who : Int) (w : World) :
    Calls Tryd.prog 73 #[.agg #[.int .i64 n], .int .i64 who] w fun e w' => e = .returned (.bool (inB n 1 9)) ∧ Below w.heap.size w w' := by
  go_enter Tryd.func73, Tryd.ntmps73
  go_wp2_with (go_at_call 72; refine (amount_impl _ _).mono ?_; rintro e w' ⟨rfl, rfl⟩)
  go_ret
  exact ⟨rfl, (Below.refl _ _).alloc (by simp) _⟩

theorem fits_pick (n who : Int) (w : World) :
    Calls Tryd.prog 75 #[.agg #[.int .i64 n], .int .i64 who] w fun e w' => e = .returned (.bool (inB n 1 9)) ∧ Below w.heap.size w w' := by
  go_enter Tryd.func75, Tryd.ntmps75
  go_wp2_with (go_at_call 72; refine (amount_impl _ _).mono ?_; rintro e w' ⟨rfl, rfl⟩)
  go_ret
  exact ⟨rfl, (Below.refl _ _).alloc (by simp) _⟩

theorem fits_throw (to n who : Int) (w : World) :
    Calls Tryd.prog 77 #[.agg #[.int .i64 to, .int .i64 n], .int .i64 who] w fun e w' => e = .returned (.bool (sideB to && inB n 1 9)) ∧ Below w.heap.size w w' := by
  have hw := word_side to
  cases h1 : sideB to
  all_goals
    rw [h1] at hw
    go_enter Tryd.func77, Tryd.ntmps77
    go_wp2_with (first | (go_at_call 16; refine (word_impl _ _).mono ?_; rintro e w' ⟨rfl, rfl⟩) | (go_at_call 72; refine (amount_impl _ _).mono ?_; rintro e w' ⟨rfl, rfl⟩))
    all_goals (go_ret; exact ⟨by simp_all, (Below.refl _ _).alloc (by simp) _⟩)

theorem fits_rest (who : Int) (w : World) :
    Calls Tryd.prog 79 #[.agg #[], .int .i64 who] w fun e w' => e = .returned (.bool true) ∧ Below w.heap.size w w' := by
  go_enter Tryd.func79, Tryd.ntmps79
  go_wp2
  go_ret
  exact ⟨rfl, by first | exact Below.refl _ _ | exact (Below.refl _ _).alloc (by simp) _⟩

set_option maxRecDepth 100000 in
theorem order_step (who seq to n : Int) (w : World) :
    Calls Tryd.prog 33 #[.int .i64 who, .int .i64 seq, .iface 73 (.agg #[.int .i64 to])] w fun e w' => e = .returned (.agg #[.int .i64 who, .int .i64 seq, .int .i64 1, .int .i64 to, .int .i64 0]) ∧ Below w.heap.size w w' := by
  have hstep : ∀ (v : Value) (w : World), (Instr.typeAssert (.iface 73 v) 57 73 true).run Tryd.prog w = .ok (.tuple #[v, .bool true]) w := fun _ _ => by kernel_rfl
  go_enter Tryd.func33, Tryd.ntmps33
  go_wp2
  go_region
  go_wp2
  exact bodyPost_ret (v := .agg #[.int .i64 who, .int .i64 seq, .int .i64 1, .int .i64 to, .int .i64 0]) (by simp [results, Tryd.results33, go_sem]) rfl ⟨rfl, by repeat (first | exact Below.refl _ _ | apply Below.drew | refine Below.alloc ?_ (by simp <;> omega) _)⟩

set_option maxRecDepth 100000 in
theorem order_give (who seq to n : Int) (w : World) :
    Calls Tryd.prog 33 #[.int .i64 who, .int .i64 seq, .iface 75 (.agg #[.int .i64 to, .int .i64 n])] w fun e w' => e = .returned (.agg #[.int .i64 who, .int .i64 seq, .int .i64 2, .int .i64 to, .int .i64 n]) ∧ Below w.heap.size w w' := by
  have hstep : ∀ (v : Value) (w : World), (Instr.typeAssert (.iface 75 v) 57 73 true).run Tryd.prog w = .ok (.tuple #[.agg #[.int .i64 0], .bool false]) w := fun _ _ => by kernel_rfl
  have hgive : ∀ (v : Value) (w : World), (Instr.typeAssert (.iface 75 v) 57 75 true).run Tryd.prog w = .ok (.tuple #[v, .bool true]) w := fun _ _ => by kernel_rfl
  go_enter Tryd.func33, Tryd.ntmps33
  go_wp2
  go_region
  go_wp2
  exact bodyPost_ret (v := .agg #[.int .i64 who, .int .i64 seq, .int .i64 2, .int .i64 to, .int .i64 n]) (by simp [results, Tryd.results33, go_sem]) rfl ⟨rfl, by repeat (first | exact Below.refl _ _ | apply Below.drew | refine Below.alloc ?_ (by simp <;> omega) _)⟩

set_option maxRecDepth 100000 in
theorem order_drop (who seq to n : Int) (w : World) :
    Calls Tryd.prog 33 #[.int .i64 who, .int .i64 seq, .iface 77 (.agg #[.int .i64 n])] w fun e w' => e = .returned (.agg #[.int .i64 who, .int .i64 seq, .int .i64 3, .int .i64 0, .int .i64 n]) ∧ Below w.heap.size w w' := by
  have hstep : ∀ (v : Value) (w : World), (Instr.typeAssert (.iface 77 v) 57 73 true).run Tryd.prog w = .ok (.tuple #[.agg #[.int .i64 0], .bool false]) w := fun _ _ => by kernel_rfl
  have hgive : ∀ (v : Value) (w : World), (Instr.typeAssert (.iface 77 v) 57 75 true).run Tryd.prog w = .ok (.tuple #[.agg #[.int .i64 0, .int .i64 0], .bool false]) w := fun _ _ => by kernel_rfl
  have hdrop : ∀ (v : Value) (w : World), (Instr.typeAssert (.iface 77 v) 57 77 true).run Tryd.prog w = .ok (.tuple #[v, .bool true]) w := fun _ _ => by kernel_rfl
  go_enter Tryd.func33, Tryd.ntmps33
  go_wp2
  go_region
  go_wp2
  exact bodyPost_ret (v := .agg #[.int .i64 who, .int .i64 seq, .int .i64 3, .int .i64 0, .int .i64 n]) (by simp [results, Tryd.results33, go_sem]) rfl ⟨rfl, by repeat (first | exact Below.refl _ _ | apply Below.drew | refine Below.alloc ?_ (by simp <;> omega) _)⟩

set_option maxRecDepth 100000 in
theorem order_pick (who seq to n : Int) (w : World) :
    Calls Tryd.prog 33 #[.int .i64 who, .int .i64 seq, .iface 78 (.agg #[.int .i64 n])] w fun e w' => e = .returned (.agg #[.int .i64 who, .int .i64 seq, .int .i64 4, .int .i64 0, .int .i64 n]) ∧ Below w.heap.size w w' := by
  have hstep : ∀ (v : Value) (w : World), (Instr.typeAssert (.iface 78 v) 57 73 true).run Tryd.prog w = .ok (.tuple #[.agg #[.int .i64 0], .bool false]) w := fun _ _ => by kernel_rfl
  have hgive : ∀ (v : Value) (w : World), (Instr.typeAssert (.iface 78 v) 57 75 true).run Tryd.prog w = .ok (.tuple #[.agg #[.int .i64 0, .int .i64 0], .bool false]) w := fun _ _ => by kernel_rfl
  have hdrop : ∀ (v : Value) (w : World), (Instr.typeAssert (.iface 78 v) 57 77 true).run Tryd.prog w = .ok (.tuple #[.agg #[.int .i64 0], .bool false]) w := fun _ _ => by kernel_rfl
  have hpick : ∀ (v : Value) (w : World), (Instr.typeAssert (.iface 78 v) 57 78 true).run Tryd.prog w = .ok (.tuple #[v, .bool true]) w := fun _ _ => by kernel_rfl
  go_enter Tryd.func33, Tryd.ntmps33
  go_wp2
  go_region
  go_wp2
  exact bodyPost_ret (v := .agg #[.int .i64 who, .int .i64 seq, .int .i64 4, .int .i64 0, .int .i64 n]) (by simp [results, Tryd.results33, go_sem]) rfl ⟨rfl, by repeat (first | exact Below.refl _ _ | apply Below.drew | refine Below.alloc ?_ (by simp <;> omega) _)⟩

set_option maxRecDepth 100000 in
theorem order_throw (who seq to n : Int) (w : World) :
    Calls Tryd.prog 33 #[.int .i64 who, .int .i64 seq, .iface 80 (.agg #[.int .i64 to, .int .i64 n])] w fun e w' => e = .returned (.agg #[.int .i64 who, .int .i64 seq, .int .i64 5, .int .i64 to, .int .i64 n]) ∧ Below w.heap.size w w' := by
  have hstep : ∀ (v : Value) (w : World), (Instr.typeAssert (.iface 80 v) 57 73 true).run Tryd.prog w = .ok (.tuple #[.agg #[.int .i64 0], .bool false]) w := fun _ _ => by kernel_rfl
  have hgive : ∀ (v : Value) (w : World), (Instr.typeAssert (.iface 80 v) 57 75 true).run Tryd.prog w = .ok (.tuple #[.agg #[.int .i64 0, .int .i64 0], .bool false]) w := fun _ _ => by kernel_rfl
  have hdrop : ∀ (v : Value) (w : World), (Instr.typeAssert (.iface 80 v) 57 77 true).run Tryd.prog w = .ok (.tuple #[.agg #[.int .i64 0], .bool false]) w := fun _ _ => by kernel_rfl
  have hpick : ∀ (v : Value) (w : World), (Instr.typeAssert (.iface 80 v) 57 78 true).run Tryd.prog w = .ok (.tuple #[.agg #[.int .i64 0], .bool false]) w := fun _ _ => by kernel_rfl
  have hthrow : ∀ (v : Value) (w : World), (Instr.typeAssert (.iface 80 v) 57 80 true).run Tryd.prog w = .ok (.tuple #[v, .bool true]) w := fun _ _ => by kernel_rfl
  go_enter Tryd.func33, Tryd.ntmps33
  go_wp2
  go_region
  go_wp2
  exact bodyPost_ret (v := .agg #[.int .i64 who, .int .i64 seq, .int .i64 5, .int .i64 to, .int .i64 n]) (by simp [results, Tryd.results33, go_sem]) rfl ⟨rfl, by repeat (first | exact Below.refl _ _ | apply Below.drew | refine Below.alloc ?_ (by simp <;> omega) _)⟩

set_option maxRecDepth 100000 in
theorem order_rest (who seq to n : Int) (w : World) :
    Calls Tryd.prog 33 #[.int .i64 who, .int .i64 seq, .iface 82 (.agg #[])] w fun e w' => e = .returned (.agg #[.int .i64 who, .int .i64 seq, .int .i64 6, .int .i64 0, .int .i64 0]) ∧ Below w.heap.size w w' := by
  have hstep : ∀ (v : Value) (w : World), (Instr.typeAssert (.iface 82 v) 57 73 true).run Tryd.prog w = .ok (.tuple #[.agg #[.int .i64 0], .bool false]) w := fun _ _ => by kernel_rfl
  have hgive : ∀ (v : Value) (w : World), (Instr.typeAssert (.iface 82 v) 57 75 true).run Tryd.prog w = .ok (.tuple #[.agg #[.int .i64 0, .int .i64 0], .bool false]) w := fun _ _ => by kernel_rfl
  have hdrop : ∀ (v : Value) (w : World), (Instr.typeAssert (.iface 82 v) 57 77 true).run Tryd.prog w = .ok (.tuple #[.agg #[.int .i64 0], .bool false]) w := fun _ _ => by kernel_rfl
  have hpick : ∀ (v : Value) (w : World), (Instr.typeAssert (.iface 82 v) 57 78 true).run Tryd.prog w = .ok (.tuple #[.agg #[.int .i64 0], .bool false]) w := fun _ _ => by kernel_rfl
  have hthrow : ∀ (v : Value) (w : World), (Instr.typeAssert (.iface 82 v) 57 80 true).run Tryd.prog w = .ok (.tuple #[.agg #[.int .i64 0, .int .i64 0], .bool false]) w := fun _ _ => by kernel_rfl
  have hrest : ∀ (v : Value) (w : World), (Instr.typeAssert (.iface 82 v) 57 82 true).run Tryd.prog w = .ok (.tuple #[v, .bool true]) w := fun _ _ => by kernel_rfl
  go_enter Tryd.func33, Tryd.ntmps33
  go_wp2
  exact bodyPost_ret (v := .agg #[.int .i64 who, .int .i64 seq, .int .i64 6, .int .i64 0, .int .i64 0]) (by simp [results, Tryd.results33, go_sem]) rfl ⟨rfl, by repeat (first | exact Below.refl _ _ | apply Below.drew | refine Below.alloc ?_ (by simp <;> omega) _)⟩

end Go.Proofs.YtbiccpmaoagalaaDoor
