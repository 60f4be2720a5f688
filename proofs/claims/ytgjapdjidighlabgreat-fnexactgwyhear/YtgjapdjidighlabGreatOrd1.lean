/- The walks of OrdOk's callees: which deed an order is, whether it fits, and the order of a deed; conditions: none. -/
import Derived.Test.YtgjapdjidighlabGreatWalks1
namespace Go.Proofs.YtgjapdjidighlabGreat
open Go.RowKit
set_option linter.unusedVariables false
def wordOf (s : Int) : ByteArray := if s = 0 then ⟨#[108, 101, 102, 116]⟩ else if s = 1 then ⟨#[114, 105, 103, 104, 116]⟩ else ⟨#[]⟩
def sideB (s : Int) : Bool := inB s 0 1
def deedV (k to n : Int) : Value :=
  if k = 1 then .iface 145 (.agg #[.int .i64 to]) else if k = 2 then .iface 147 (.agg #[.int .i64 to, .int .i64 n]) else if k = 3 then .iface 149 (.agg #[.int .i64 n]) else
  if k = 4 then .iface 150 (.agg #[.int .i64 n]) else if k = 5 then .iface 152 (.agg #[.int .i64 to, .int .i64 n]) else if k = 6 then .iface 154 (.agg #[]) else .nilIface
theorem toOrder (who seq k to n : Int) (w : World) :
    Calls Tryz.prog 19 #[.agg #[.int .i64 who, .int .i64 seq, .int .i64 k, .int .i64 to, .int .i64 n]] w fun e w' => e = .returned (.agg #[.int .i64 who, .int .i64 seq, .int .i64 k, .int .i64 to, .int .i64 n]) ∧ Below w.heap.size w w' := by
  go_enter Tryz.func19, Tryz.ntmps19
  go_wp2
  exact bodyPost_ret (v := .agg #[.int .i64 who, .int .i64 seq, .int .i64 k, .int .i64 to, .int .i64 n]) (by simp [results, Tryz.results19, go_sem]) rfl ⟨rfl, (((Below.refl _ _).alloc (by simp) _).alloc (by simp) _).alloc (by simp; omega) _⟩
theorem word_impl (s : Int) (w : World) :
    Calls Tryz.prog 136 #[.int .i64 s] w fun e w' => e = .returned (.string (wordOf s)) ∧ w' = w := by
  go_enter Tryz.func136, Tryz.ntmps136
  go_wp2
  all_goals (go_ret; exact ⟨by simp_all [wordOf], rfl⟩)
theorem word_side (s : Int) : (wordOf s).toList.isEmpty = !sideB s := by
  unfold wordOf sideB inB
  by_cases h0 : s = 0
  · subst h0; decide +kernel
  · by_cases h1 : s = 1
    · subst h1; decide +kernel
    · rw [if_neg h0, if_neg h1]
      have : ¬ (0 ≤ s ∧ s ≤ 1) := by omega
      rw [decide_eq_false this]
      decide +kernel
theorem deedOf (who seq k to n : Int) (w : World) :
    Calls Tryz.prog 62 #[.agg #[.int .i64 who, .int .i64 seq, .int .i64 k, .int .i64 to, .int .i64 n]] w fun e w' => e = .returned (deedV k to n) ∧ Below w.heap.size w w' := by
  go_enter Tryz.func62, Tryz.ntmps62
  go_wp2
  all_goals (go_ret; exact ⟨by simp_all [deedV], (Below.refl _ _).alloc (by simp) _⟩)
theorem amount_impl (n : Int) (w : World) :
    Calls Tryz.prog 139 #[.int .i64 n] w fun e w' => e = .returned (.bool (inB n 1 9)) ∧ w' = w := by
  go_enter Tryz.func139, Tryz.ntmps139
  go_wp2_with (go_at_call 44; refine (in_impl _ _ _ _).mono ?_; rintro e w' ⟨rfl, rfl⟩)
  go_ret
  exact ⟨rfl, rfl⟩
theorem fits_step (to who : Int) (w : World) :
    Calls Tryz.prog 134 #[.agg #[.int .i64 to], .int .i64 who] w fun e w' => e = .returned (.bool (sideB to)) ∧ Below w.heap.size w w' := by
  go_enter Tryz.func134, Tryz.ntmps134
  go_wp2_with (go_at_call 136; refine (word_impl _ _).mono ?_; rintro e w' ⟨rfl, rfl⟩)
  go_ret
  exact ⟨by have := word_side to; cases h : sideB to <;> simp_all, (Below.refl _ _).alloc (by simp) _⟩
theorem fits_give (to n who : Int) (w : World) :
    Calls Tryz.prog 137 #[.agg #[.int .i64 to, .int .i64 n], .int .i64 who] w fun e w' => e = .returned (.bool (inB to 1 9 && (to != who && inB n 1 9))) ∧ Below w.heap.size w w' := by
  cases h1 : inB to 1 9
  · go_enter Tryz.func137, Tryz.ntmps137
    go_wp2_with (first | (go_at_call 44; refine (in_impl _ _ _ _).mono ?_; rintro e w' ⟨rfl, rfl⟩) | (go_at_call 139; refine (amount_impl _ _).mono ?_; rintro e w' ⟨rfl, rfl⟩))
    all_goals (go_ret; exact ⟨by simp [*], (Below.refl _ _).alloc (by simp) _⟩)
  · cases h2 : (to != who)
    all_goals
      go_enter Tryz.func137, Tryz.ntmps137
      go_wp2_with (first | (go_at_call 44; refine (in_impl _ _ _ _).mono ?_; rintro e w' ⟨rfl, rfl⟩) | (go_at_call 139; refine (amount_impl _ _).mono ?_; rintro e w' ⟨rfl, rfl⟩))
      all_goals (go_ret; exact ⟨by simp_all, (Below.refl _ _).alloc (by simp) _⟩)
theorem fits_drop (n who : Int) (w : World) :
    Calls Tryz.prog 140 #[.agg #[.int .i64 n], .int .i64 who] w fun e w' => e = .returned (.bool (inB n 1 9)) ∧ Below w.heap.size w w' := by
  go_enter Tryz.func140, Tryz.ntmps140
  go_wp2_with (go_at_call 139; refine (amount_impl _ _).mono ?_; rintro e w' ⟨rfl, rfl⟩)
  go_ret
  exact ⟨rfl, (Below.refl _ _).alloc (by simp) _⟩
theorem fits_pick (n who : Int) (w : World) :
    Calls Tryz.prog 142 #[.agg #[.int .i64 n], .int .i64 who] w fun e w' => e = .returned (.bool (inB n 1 9)) ∧ Below w.heap.size w w' := by
  go_enter Tryz.func142, Tryz.ntmps142
  go_wp2_with (go_at_call 139; refine (amount_impl _ _).mono ?_; rintro e w' ⟨rfl, rfl⟩)
  go_ret
  exact ⟨rfl, (Below.refl _ _).alloc (by simp) _⟩
theorem fits_throw (to n who : Int) (w : World) :
    Calls Tryz.prog 144 #[.agg #[.int .i64 to, .int .i64 n], .int .i64 who] w fun e w' => e = .returned (.bool (sideB to && inB n 1 9)) ∧ Below w.heap.size w w' := by
  have hw := word_side to
  cases h1 : sideB to
  all_goals
    rw [h1] at hw
    go_enter Tryz.func144, Tryz.ntmps144
    go_wp2_with (first | (go_at_call 136; refine (word_impl _ _).mono ?_; rintro e w' ⟨rfl, rfl⟩) | (go_at_call 139; refine (amount_impl _ _).mono ?_; rintro e w' ⟨rfl, rfl⟩))
    all_goals (go_ret; exact ⟨by simp_all, (Below.refl _ _).alloc (by simp) _⟩)
theorem fits_rest (who : Int) (w : World) :
    Calls Tryz.prog 146 #[.agg #[], .int .i64 who] w fun e w' => e = .returned (.bool true) ∧ Below w.heap.size w w' := by
  go_enter Tryz.func146, Tryz.ntmps146
  go_wp2
  go_ret
  exact ⟨rfl, by first | exact Below.refl _ _ | exact (Below.refl _ _).alloc (by simp) _⟩
set_option maxRecDepth 100000 in
theorem order_step (who seq to n : Int) (w : World) :
    Calls Tryz.prog 63 #[.int .i64 who, .int .i64 seq, .iface 145 (.agg #[.int .i64 to])] w fun e w' => e = .returned (.agg #[.int .i64 who, .int .i64 seq, .int .i64 1, .int .i64 to, .int .i64 0]) ∧ Below w.heap.size w w' := by
  have hstep : ∀ (v : Value) (w : World), (Instr.typeAssert (.iface 145 v) 138 145 true).run Tryz.prog w = .ok (.tuple #[v, .bool true]) w := fun _ _ => by kernel_rfl
  go_enter Tryz.func63, Tryz.ntmps63
  go_wp2
  go_region
  go_wp2
  exact bodyPost_ret (v := .agg #[.int .i64 who, .int .i64 seq, .int .i64 1, .int .i64 to, .int .i64 0]) (by simp [results, Tryz.results63, go_sem]) rfl ⟨rfl, by repeat (first | exact Below.refl _ _ | apply Below.drew | refine Below.alloc ?_ (by simp <;> omega) _)⟩
set_option maxRecDepth 100000 in
theorem order_give (who seq to n : Int) (w : World) :
    Calls Tryz.prog 63 #[.int .i64 who, .int .i64 seq, .iface 147 (.agg #[.int .i64 to, .int .i64 n])] w fun e w' => e = .returned (.agg #[.int .i64 who, .int .i64 seq, .int .i64 2, .int .i64 to, .int .i64 n]) ∧ Below w.heap.size w w' := by
  have hstep : ∀ (v : Value) (w : World), (Instr.typeAssert (.iface 147 v) 138 145 true).run Tryz.prog w = .ok (.tuple #[.agg #[.int .i64 0], .bool false]) w := fun _ _ => by kernel_rfl
  have hgive : ∀ (v : Value) (w : World), (Instr.typeAssert (.iface 147 v) 138 147 true).run Tryz.prog w = .ok (.tuple #[v, .bool true]) w := fun _ _ => by kernel_rfl
  go_enter Tryz.func63, Tryz.ntmps63
  go_wp2
  go_region
  go_wp2
  exact bodyPost_ret (v := .agg #[.int .i64 who, .int .i64 seq, .int .i64 2, .int .i64 to, .int .i64 n]) (by simp [results, Tryz.results63, go_sem]) rfl ⟨rfl, by repeat (first | exact Below.refl _ _ | apply Below.drew | refine Below.alloc ?_ (by simp <;> omega) _)⟩
set_option maxRecDepth 100000 in
theorem order_drop (who seq to n : Int) (w : World) :
    Calls Tryz.prog 63 #[.int .i64 who, .int .i64 seq, .iface 149 (.agg #[.int .i64 n])] w fun e w' => e = .returned (.agg #[.int .i64 who, .int .i64 seq, .int .i64 3, .int .i64 0, .int .i64 n]) ∧ Below w.heap.size w w' := by
  have hstep : ∀ (v : Value) (w : World), (Instr.typeAssert (.iface 149 v) 138 145 true).run Tryz.prog w = .ok (.tuple #[.agg #[.int .i64 0], .bool false]) w := fun _ _ => by kernel_rfl
  have hgive : ∀ (v : Value) (w : World), (Instr.typeAssert (.iface 149 v) 138 147 true).run Tryz.prog w = .ok (.tuple #[.agg #[.int .i64 0, .int .i64 0], .bool false]) w := fun _ _ => by kernel_rfl
  have hdrop : ∀ (v : Value) (w : World), (Instr.typeAssert (.iface 149 v) 138 149 true).run Tryz.prog w = .ok (.tuple #[v, .bool true]) w := fun _ _ => by kernel_rfl
  go_enter Tryz.func63, Tryz.ntmps63
  go_wp2
  go_region
  go_wp2
  exact bodyPost_ret (v := .agg #[.int .i64 who, .int .i64 seq, .int .i64 3, .int .i64 0, .int .i64 n]) (by simp [results, Tryz.results63, go_sem]) rfl ⟨rfl, by repeat (first | exact Below.refl _ _ | apply Below.drew | refine Below.alloc ?_ (by simp <;> omega) _)⟩
set_option maxRecDepth 100000 in
theorem order_pick (who seq to n : Int) (w : World) :
    Calls Tryz.prog 63 #[.int .i64 who, .int .i64 seq, .iface 150 (.agg #[.int .i64 n])] w fun e w' => e = .returned (.agg #[.int .i64 who, .int .i64 seq, .int .i64 4, .int .i64 0, .int .i64 n]) ∧ Below w.heap.size w w' := by
  have hstep : ∀ (v : Value) (w : World), (Instr.typeAssert (.iface 150 v) 138 145 true).run Tryz.prog w = .ok (.tuple #[.agg #[.int .i64 0], .bool false]) w := fun _ _ => by kernel_rfl
  have hgive : ∀ (v : Value) (w : World), (Instr.typeAssert (.iface 150 v) 138 147 true).run Tryz.prog w = .ok (.tuple #[.agg #[.int .i64 0, .int .i64 0], .bool false]) w := fun _ _ => by kernel_rfl
  have hdrop : ∀ (v : Value) (w : World), (Instr.typeAssert (.iface 150 v) 138 149 true).run Tryz.prog w = .ok (.tuple #[.agg #[.int .i64 0], .bool false]) w := fun _ _ => by kernel_rfl
  have hpick : ∀ (v : Value) (w : World), (Instr.typeAssert (.iface 150 v) 138 150 true).run Tryz.prog w = .ok (.tuple #[v, .bool true]) w := fun _ _ => by kernel_rfl
  go_enter Tryz.func63, Tryz.ntmps63
  go_wp2
  go_region
  go_wp2
  exact bodyPost_ret (v := .agg #[.int .i64 who, .int .i64 seq, .int .i64 4, .int .i64 0, .int .i64 n]) (by simp [results, Tryz.results63, go_sem]) rfl ⟨rfl, by repeat (first | exact Below.refl _ _ | apply Below.drew | refine Below.alloc ?_ (by simp <;> omega) _)⟩
set_option maxRecDepth 100000 in
theorem order_throw (who seq to n : Int) (w : World) :
    Calls Tryz.prog 63 #[.int .i64 who, .int .i64 seq, .iface 152 (.agg #[.int .i64 to, .int .i64 n])] w fun e w' => e = .returned (.agg #[.int .i64 who, .int .i64 seq, .int .i64 5, .int .i64 to, .int .i64 n]) ∧ Below w.heap.size w w' := by
  have hstep : ∀ (v : Value) (w : World), (Instr.typeAssert (.iface 152 v) 138 145 true).run Tryz.prog w = .ok (.tuple #[.agg #[.int .i64 0], .bool false]) w := fun _ _ => by kernel_rfl
  have hgive : ∀ (v : Value) (w : World), (Instr.typeAssert (.iface 152 v) 138 147 true).run Tryz.prog w = .ok (.tuple #[.agg #[.int .i64 0, .int .i64 0], .bool false]) w := fun _ _ => by kernel_rfl
  have hdrop : ∀ (v : Value) (w : World), (Instr.typeAssert (.iface 152 v) 138 149 true).run Tryz.prog w = .ok (.tuple #[.agg #[.int .i64 0], .bool false]) w := fun _ _ => by kernel_rfl
  have hpick : ∀ (v : Value) (w : World), (Instr.typeAssert (.iface 152 v) 138 150 true).run Tryz.prog w = .ok (.tuple #[.agg #[.int .i64 0], .bool false]) w := fun _ _ => by kernel_rfl
  have hthrow : ∀ (v : Value) (w : World), (Instr.typeAssert (.iface 152 v) 138 152 true).run Tryz.prog w = .ok (.tuple #[v, .bool true]) w := fun _ _ => by kernel_rfl
  go_enter Tryz.func63, Tryz.ntmps63
  go_wp2
  go_region
  go_wp2
  exact bodyPost_ret (v := .agg #[.int .i64 who, .int .i64 seq, .int .i64 5, .int .i64 to, .int .i64 n]) (by simp [results, Tryz.results63, go_sem]) rfl ⟨rfl, by repeat (first | exact Below.refl _ _ | apply Below.drew | refine Below.alloc ?_ (by simp <;> omega) _)⟩
set_option maxRecDepth 100000 in
theorem order_rest (who seq to n : Int) (w : World) :
    Calls Tryz.prog 63 #[.int .i64 who, .int .i64 seq, .iface 154 (.agg #[])] w fun e w' => e = .returned (.agg #[.int .i64 who, .int .i64 seq, .int .i64 6, .int .i64 0, .int .i64 0]) ∧ Below w.heap.size w w' := by
  have hstep : ∀ (v : Value) (w : World), (Instr.typeAssert (.iface 154 v) 138 145 true).run Tryz.prog w = .ok (.tuple #[.agg #[.int .i64 0], .bool false]) w := fun _ _ => by kernel_rfl
  have hgive : ∀ (v : Value) (w : World), (Instr.typeAssert (.iface 154 v) 138 147 true).run Tryz.prog w = .ok (.tuple #[.agg #[.int .i64 0, .int .i64 0], .bool false]) w := fun _ _ => by kernel_rfl
  have hdrop : ∀ (v : Value) (w : World), (Instr.typeAssert (.iface 154 v) 138 149 true).run Tryz.prog w = .ok (.tuple #[.agg #[.int .i64 0], .bool false]) w := fun _ _ => by kernel_rfl
  have hpick : ∀ (v : Value) (w : World), (Instr.typeAssert (.iface 154 v) 138 150 true).run Tryz.prog w = .ok (.tuple #[.agg #[.int .i64 0], .bool false]) w := fun _ _ => by kernel_rfl
  have hthrow : ∀ (v : Value) (w : World), (Instr.typeAssert (.iface 154 v) 138 152 true).run Tryz.prog w = .ok (.tuple #[.agg #[.int .i64 0, .int .i64 0], .bool false]) w := fun _ _ => by kernel_rfl
  have hrest : ∀ (v : Value) (w : World), (Instr.typeAssert (.iface 154 v) 138 154 true).run Tryz.prog w = .ok (.tuple #[v, .bool true]) w := fun _ _ => by kernel_rfl
  go_enter Tryz.func63, Tryz.ntmps63
  go_wp2
  exact bodyPost_ret (v := .agg #[.int .i64 who, .int .i64 seq, .int .i64 6, .int .i64 0, .int .i64 0]) (by simp [results, Tryz.results63, go_sem]) rfl ⟨rfl, by repeat (first | exact Below.refl _ _ | apply Below.drew | refine Below.alloc ?_ (by simp <;> omega) _)⟩
end Go.Proofs.YtgjapdjidighlabGreat
