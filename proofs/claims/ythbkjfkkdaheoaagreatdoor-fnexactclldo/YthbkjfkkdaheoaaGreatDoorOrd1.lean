/- The walks of OrdOk's callees: which deed an order is, whether it fits, and the order of a deed; conditions: none. -/
import Derived.Test.YthbkjfkkdaheoaaGreatDoorWalksD
namespace Go.Proofs.YthbkjfkkdaheoaaGreatDoor
open Go.RowKit
set_option linter.unusedVariables false
def wordOf (s : Int) : ByteArray := if s = 0 then ⟨#[108, 101, 102, 116]⟩ else if s = 1 then ⟨#[114, 105, 103, 104, 116]⟩ else ⟨#[]⟩
def sideB (s : Int) : Bool := inB s 0 1
def deedV (k to n : Int) : Value :=
  if k = 1 then .iface 162 (.agg #[.int .i64 to]) else if k = 2 then .iface 164 (.agg #[.int .i64 to, .int .i64 n]) else if k = 3 then .iface 166 (.agg #[.int .i64 n]) else
  if k = 4 then .iface 167 (.agg #[.int .i64 n]) else if k = 5 then .iface 169 (.agg #[.int .i64 to, .int .i64 n]) else if k = 6 then .iface 171 (.agg #[]) else .nilIface
theorem toOrder (who seq k to n : Int) (w : World) :
    Calls Tryz.prog 13 #[.agg #[.int .i64 who, .int .i64 seq, .int .i64 k, .int .i64 to, .int .i64 n]] w fun e w' => e = .returned (.agg #[.int .i64 who, .int .i64 seq, .int .i64 k, .int .i64 to, .int .i64 n]) ∧ Below w.heap.size w w' := by
  go_enter Tryz.func13, Tryz.ntmps13
  go_wp2
  exact bodyPost_ret (v := .agg #[.int .i64 who, .int .i64 seq, .int .i64 k, .int .i64 to, .int .i64 n]) (by simp [results, Tryz.results13, go_sem]) rfl ⟨rfl, (((Below.refl _ _).alloc (by simp) _).alloc (by simp) _).alloc (by simp; omega) _⟩
theorem word_impl (s : Int) (w : World) :
    Calls Tryz.prog 143 #[.int .i64 s] w fun e w' => e = .returned (.string (wordOf s)) ∧ w' = w := by
  go_enter Tryz.func143, Tryz.ntmps143
  go_wp2
  all_goals (go_ret; exact ⟨by simp_all [wordOf], rfl⟩)
theorem word_side (s : Int) : (wordOf s).toList.isEmpty = !sideB s := by
  unfold wordOf sideB inB
  by_cases h0 : s = 0
  · subst h0; decide +kernel
  · by_cases h1 : s = 1
    · subst h1; decide +kernel
    · rw [if_neg h0, if_neg h1]
      have : ¬ (0 ≤ s ∧ s ≤ 1) := by omega
      rw [decide_eq_false this]
      decide +kernel
theorem deedOf (who seq k to n : Int) (w : World) :
    Calls Tryz.prog 89 #[.agg #[.int .i64 who, .int .i64 seq, .int .i64 k, .int .i64 to, .int .i64 n]] w fun e w' => e = .returned (deedV k to n) ∧ Below w.heap.size w w' := by
  go_enter Tryz.func89, Tryz.ntmps89
  go_wp2
  all_goals (go_ret; exact ⟨by simp_all [deedV], (Below.refl _ _).alloc (by simp) _⟩)
theorem amount_impl (n : Int) (w : World) :
    Calls Tryz.prog 214 #[.int .i64 n] w fun e w' => e = .returned (.bool (inB n 1 9)) ∧ w' = w := by
  go_enter Tryz.func214, Tryz.ntmps214
  go_wp2_with (go_at_call 87; refine (in_impl _ _ _ _).mono ?_; rintro e w' ⟨rfl, rfl⟩)
  go_ret
  exact ⟨rfl, rfl⟩
theorem fits_step (to who : Int) (w : World) :
    Calls Tryz.prog 210 #[.agg #[.int .i64 to], .int .i64 who] w fun e w' => e = .returned (.bool (sideB to)) ∧ Below w.heap.size w w' := by
  go_enter Tryz.func210, Tryz.ntmps210
  go_wp2_with (go_at_call 143; refine (word_impl _ _).mono ?_; rintro e w' ⟨rfl, rfl⟩)
  go_ret
  exact ⟨by have := word_side to; cases h : sideB to <;> simp_all, (Below.refl _ _).alloc (by simp) _⟩
theorem fits_give (to n who : Int) (w : World) :
    Calls Tryz.prog 212 #[.agg #[.int .i64 to, .int .i64 n], .int .i64 who] w fun e w' => e = .returned (.bool (inB to 1 9 && (to != who && inB n 1 9))) ∧ Below w.heap.size w w' := by
  cases h1 : inB to 1 9
  · go_enter Tryz.func212, Tryz.ntmps212
    go_wp2_with (first | (go_at_call 87; refine (in_impl _ _ _ _).mono ?_; rintro e w' ⟨rfl, rfl⟩) | (go_at_call 214; refine (amount_impl _ _).mono ?_; rintro e w' ⟨rfl, rfl⟩))
    all_goals (go_ret; exact ⟨by simp [*], (Below.refl _ _).alloc (by simp) _⟩)
  · cases h2 : (to != who)
    all_goals
      go_enter Tryz.func212, Tryz.ntmps212
      go_wp2_with (first | (go_at_call 87; refine (in_impl _ _ _ _).mono ?_; rintro e w' ⟨rfl, rfl⟩) | (go_at_call 214; refine (amount_impl _ _).mono ?_; rintro e w' ⟨rfl, rfl⟩))
      all_goals (go_ret; exact ⟨by simp_all, (Below.refl _ _).alloc (by simp) _⟩)
theorem fits_drop (n who : Int) (w : World) :
    Calls Tryz.prog 215 #[.agg #[.int .i64 n], .int .i64 who] w fun e w' => e = .returned (.bool (inB n 1 9)) ∧ Below w.heap.size w w' := by
  go_enter Tryz.func215, Tryz.ntmps215
  go_wp2_with (go_at_call 214; refine (amount_impl _ _).mono ?_; rintro e w' ⟨rfl, rfl⟩)
  go_ret
  exact ⟨rfl, (Below.refl _ _).alloc (by simp) _⟩
theorem fits_pick (n who : Int) (w : World) :
    Calls Tryz.prog 217 #[.agg #[.int .i64 n], .int .i64 who] w fun e w' => e = .returned (.bool (inB n 1 9)) ∧ Below w.heap.size w w' := by
  go_enter Tryz.func217, Tryz.ntmps217
  go_wp2_with (go_at_call 214; refine (amount_impl _ _).mono ?_; rintro e w' ⟨rfl, rfl⟩)
  go_ret
  exact ⟨rfl, (Below.refl _ _).alloc (by simp) _⟩
theorem fits_throw (to n who : Int) (w : World) :
    Calls Tryz.prog 219 #[.agg #[.int .i64 to, .int .i64 n], .int .i64 who] w fun e w' => e = .returned (.bool (sideB to && inB n 1 9)) ∧ Below w.heap.size w w' := by
  have hw := word_side to
  cases h1 : sideB to
  all_goals
    rw [h1] at hw
    go_enter Tryz.func219, Tryz.ntmps219
    go_wp2_with (first | (go_at_call 143; refine (word_impl _ _).mono ?_; rintro e w' ⟨rfl, rfl⟩) | (go_at_call 214; refine (amount_impl _ _).mono ?_; rintro e w' ⟨rfl, rfl⟩))
    all_goals (go_ret; exact ⟨by simp_all, (Below.refl _ _).alloc (by simp) _⟩)
theorem fits_rest (who : Int) (w : World) :
    Calls Tryz.prog 221 #[.agg #[], .int .i64 who] w fun e w' => e = .returned (.bool true) ∧ Below w.heap.size w w' := by
  go_enter Tryz.func221, Tryz.ntmps221
  go_wp2
  go_ret
  exact ⟨rfl, by first | exact Below.refl _ _ | exact (Below.refl _ _).alloc (by simp) _⟩
set_option maxRecDepth 100000 in
theorem order_step (who seq to n : Int) (w : World) :
    Calls Tryz.prog 90 #[.int .i64 who, .int .i64 seq, .iface 162 (.agg #[.int .i64 to])] w fun e w' => e = .returned (.agg #[.int .i64 who, .int .i64 seq, .int .i64 1, .int .i64 to, .int .i64 0]) ∧ Below w.heap.size w w' := by
  have hstep : ∀ (v : Value) (w : World), (Instr.typeAssert (.iface 162 v) 127 162 true).run Tryz.prog w = .ok (.tuple #[v, .bool true]) w := fun _ _ => by kernel_rfl
  go_enter Tryz.func90, Tryz.ntmps90
  go_wp2
  go_region
  go_wp2
  exact bodyPost_ret (v := .agg #[.int .i64 who, .int .i64 seq, .int .i64 1, .int .i64 to, .int .i64 0]) (by simp [results, Tryz.results90, go_sem]) rfl ⟨rfl, by repeat (first | exact Below.refl _ _ | apply Below.drew | refine Below.alloc ?_ (by simp <;> omega) _)⟩
set_option maxRecDepth 100000 in
theorem order_give (who seq to n : Int) (w : World) :
    Calls Tryz.prog 90 #[.int .i64 who, .int .i64 seq, .iface 164 (.agg #[.int .i64 to, .int .i64 n])] w fun e w' => e = .returned (.agg #[.int .i64 who, .int .i64 seq, .int .i64 2, .int .i64 to, .int .i64 n]) ∧ Below w.heap.size w w' := by
  have hstep : ∀ (v : Value) (w : World), (Instr.typeAssert (.iface 164 v) 127 162 true).run Tryz.prog w = .ok (.tuple #[.agg #[.int .i64 0], .bool false]) w := fun _ _ => by kernel_rfl
  have hgive : ∀ (v : Value) (w : World), (Instr.typeAssert (.iface 164 v) 127 164 true).run Tryz.prog w = .ok (.tuple #[v, .bool true]) w := fun _ _ => by kernel_rfl
  go_enter Tryz.func90, Tryz.ntmps90
  go_wp2
  go_region
  go_wp2
  exact bodyPost_ret (v := .agg #[.int .i64 who, .int .i64 seq, .int .i64 2, .int .i64 to, .int .i64 n]) (by simp [results, Tryz.results90, go_sem]) rfl ⟨rfl, by repeat (first | exact Below.refl _ _ | apply Below.drew | refine Below.alloc ?_ (by simp <;> omega) _)⟩
set_option maxRecDepth 100000 in
theorem order_drop (who seq to n : Int) (w : World) :
    Calls Tryz.prog 90 #[.int .i64 who, .int .i64 seq, .iface 166 (.agg #[.int .i64 n])] w fun e w' => e = .returned (.agg #[.int .i64 who, .int .i64 seq, .int .i64 3, .int .i64 0, .int .i64 n]) ∧ Below w.heap.size w w' := by
  have hstep : ∀ (v : Value) (w : World), (Instr.typeAssert (.iface 166 v) 127 162 true).run Tryz.prog w = .ok (.tuple #[.agg #[.int .i64 0], .bool false]) w := fun _ _ => by kernel_rfl
  have hgive : ∀ (v : Value) (w : World), (Instr.typeAssert (.iface 166 v) 127 164 true).run Tryz.prog w = .ok (.tuple #[.agg #[.int .i64 0, .int .i64 0], .bool false]) w := fun _ _ => by kernel_rfl
  have hdrop : ∀ (v : Value) (w : World), (Instr.typeAssert (.iface 166 v) 127 166 true).run Tryz.prog w = .ok (.tuple #[v, .bool true]) w := fun _ _ => by kernel_rfl
  go_enter Tryz.func90, Tryz.ntmps90
  go_wp2
  go_region
  go_wp2
  exact bodyPost_ret (v := .agg #[.int .i64 who, .int .i64 seq, .int .i64 3, .int .i64 0, .int .i64 n]) (by simp [results, Tryz.results90, go_sem]) rfl ⟨rfl, by repeat (first | exact Below.refl _ _ | apply Below.drew | refine Below.alloc ?_ (by simp <;> omega) _)⟩
set_option maxRecDepth 100000 in
theorem order_pick (who seq to n : Int) (w : World) :
    Calls Tryz.prog 90 #[.int .i64 who, .int .i64 seq, .iface 167 (.agg #[.int .i64 n])] w fun e w' => e = .returned (.agg #[.int .i64 who, .int .i64 seq, .int .i64 4, .int .i64 0, .int .i64 n]) ∧ Below w.heap.size w w' := by
  have hstep : ∀ (v : Value) (w : World), (Instr.typeAssert (.iface 167 v) 127 162 true).run Tryz.prog w = .ok (.tuple #[.agg #[.int .i64 0], .bool false]) w := fun _ _ => by kernel_rfl
  have hgive : ∀ (v : Value) (w : World), (Instr.typeAssert (.iface 167 v) 127 164 true).run Tryz.prog w = .ok (.tuple #[.agg #[.int .i64 0, .int .i64 0], .bool false]) w := fun _ _ => by kernel_rfl
  have hdrop : ∀ (v : Value) (w : World), (Instr.typeAssert (.iface 167 v) 127 166 true).run Tryz.prog w = .ok (.tuple #[.agg #[.int .i64 0], .bool false]) w := fun _ _ => by kernel_rfl
  have hpick : ∀ (v : Value) (w : World), (Instr.typeAssert (.iface 167 v) 127 167 true).run Tryz.prog w = .ok (.tuple #[v, .bool true]) w := fun _ _ => by kernel_rfl
  go_enter Tryz.func90, Tryz.ntmps90
  go_wp2
  go_region
  go_wp2
  exact bodyPost_ret (v := .agg #[.int .i64 who, .int .i64 seq, .int .i64 4, .int .i64 0, .int .i64 n]) (by simp [results, Tryz.results90, go_sem]) rfl ⟨rfl, by repeat (first | exact Below.refl _ _ | apply Below.drew | refine Below.alloc ?_ (by simp <;> omega) _)⟩
set_option maxRecDepth 100000 in
theorem order_throw (who seq to n : Int) (w : World) :
    Calls Tryz.prog 90 #[.int .i64 who, .int .i64 seq, .iface 169 (.agg #[.int .i64 to, .int .i64 n])] w fun e w' => e = .returned (.agg #[.int .i64 who, .int .i64 seq, .int .i64 5, .int .i64 to, .int .i64 n]) ∧ Below w.heap.size w w' := by
  have hstep : ∀ (v : Value) (w : World), (Instr.typeAssert (.iface 169 v) 127 162 true).run Tryz.prog w = .ok (.tuple #[.agg #[.int .i64 0], .bool false]) w := fun _ _ => by kernel_rfl
  have hgive : ∀ (v : Value) (w : World), (Instr.typeAssert (.iface 169 v) 127 164 true).run Tryz.prog w = .ok (.tuple #[.agg #[.int .i64 0, .int .i64 0], .bool false]) w := fun _ _ => by kernel_rfl
  have hdrop : ∀ (v : Value) (w : World), (Instr.typeAssert (.iface 169 v) 127 166 true).run Tryz.prog w = .ok (.tuple #[.agg #[.int .i64 0], .bool false]) w := fun _ _ => by kernel_rfl
  have hpick : ∀ (v : Value) (w : World), (Instr.typeAssert (.iface 169 v) 127 167 true).run Tryz.prog w = .ok (.tuple #[.agg #[.int .i64 0], .bool false]) w := fun _ _ => by kernel_rfl
  have hthrow : ∀ (v : Value) (w : World), (Instr.typeAssert (.iface 169 v) 127 169 true).run Tryz.prog w = .ok (.tuple #[v, .bool true]) w := fun _ _ => by kernel_rfl
  go_enter Tryz.func90, Tryz.ntmps90
  go_wp2
  go_region
  go_wp2
  exact bodyPost_ret (v := .agg #[.int .i64 who, .int .i64 seq, .int .i64 5, .int .i64 to, .int .i64 n]) (by simp [results, Tryz.results90, go_sem]) rfl ⟨rfl, by repeat (first | exact Below.refl _ _ | apply Below.drew | refine Below.alloc ?_ (by simp <;> omega) _)⟩
set_option maxRecDepth 100000 in
theorem order_rest (who seq to n : Int) (w : World) :
    Calls Tryz.prog 90 #[.int .i64 who, .int .i64 seq, .iface 171 (.agg #[])] w fun e w' => e = .returned (.agg #[.int .i64 who, .int .i64 seq, .int .i64 6, .int .i64 0, .int .i64 0]) ∧ Below w.heap.size w w' := by
  have hstep : ∀ (v : Value) (w : World), (Instr.typeAssert (.iface 171 v) 127 162 true).run Tryz.prog w = .ok (.tuple #[.agg #[.int .i64 0], .bool false]) w := fun _ _ => by kernel_rfl
  have hgive : ∀ (v : Value) (w : World), (Instr.typeAssert (.iface 171 v) 127 164 true).run Tryz.prog w = .ok (.tuple #[.agg #[.int .i64 0, .int .i64 0], .bool false]) w := fun _ _ => by kernel_rfl
  have hdrop : ∀ (v : Value) (w : World), (Instr.typeAssert (.iface 171 v) 127 166 true).run Tryz.prog w = .ok (.tuple #[.agg #[.int .i64 0], .bool false]) w := fun _ _ => by kernel_rfl
  have hpick : ∀ (v : Value) (w : World), (Instr.typeAssert (.iface 171 v) 127 167 true).run Tryz.prog w = .ok (.tuple #[.agg #[.int .i64 0], .bool false]) w := fun _ _ => by kernel_rfl
  have hthrow : ∀ (v : Value) (w : World), (Instr.typeAssert (.iface 171 v) 127 169 true).run Tryz.prog w = .ok (.tuple #[.agg #[.int .i64 0, .int .i64 0], .bool false]) w := fun _ _ => by kernel_rfl
  have hrest : ∀ (v : Value) (w : World), (Instr.typeAssert (.iface 171 v) 127 171 true).run Tryz.prog w = .ok (.tuple #[v, .bool true]) w := fun _ _ => by kernel_rfl
  go_enter Tryz.func90, Tryz.ntmps90
  go_wp2
  exact bodyPost_ret (v := .agg #[.int .i64 who, .int .i64 seq, .int .i64 6, .int .i64 0, .int .i64 0]) (by simp [results, Tryz.results90, go_sem]) rfl ⟨rfl, by repeat (first | exact Below.refl _ _ | apply Below.drew | refine Below.alloc ?_ (by simp <;> omega) _)⟩
end Go.Proofs.YthbkjfkkdaheoaaGreatDoor
