/- The walks of OrdText, the program's and the model's; conditions: the table of powers of ten lies as the text lays it (the program's). -/
import Derived.Test.YtbiccpmaoagalaaDoorText
import Derived.Test.YtbiccpmaoagalaaDoorOrd2
namespace Go.Proofs.YtbiccpmaoagalaaDoor
open Go.RowKit
set_option linter.unusedVariables false

abbrev SP : ByteArray := ⟨#[32]⟩
/-- The head of an order's text: who, seq, and a blank behind each. -/
def OH1 (who : Int) : ByteArray := DD who ++ SP
def OH2 (who seq : Int) : ByteArray := OH1 who ++ DD seq
def OH (who seq : Int) : ByteArray := OH2 who seq ++ SP
/-- What stands behind it, kind by kind. -/
def tstep (du : Int) : ByteArray := (⟨#[115, 116, 101, 112, 32]⟩ : ByteArray) ++ wordOf du
def tgive (du n : Int) : ByteArray := (((⟨#[103, 105, 118, 101, 32]⟩ : ByteArray) ++ DD du) ++ SP) ++ DD n
def tdrop (n : Int) : ByteArray := (⟨#[100, 114, 111, 112, 32]⟩ : ByteArray) ++ DD n
def tpick (n : Int) : ByteArray := (⟨#[112, 105, 99, 107, 32]⟩ : ByteArray) ++ DD n
def tthrow (du n : Int) : ByteArray := (((⟨#[116, 104, 114, 111, 119, 32]⟩ : ByteArray) ++ wordOf du) ++ SP) ++ DD n
def trest : ByteArray := ⟨#[114, 101, 115, 116]⟩
def tailOf (k du n : Int) : ByteArray :=
  if k = 1 then tstep du else if k = 2 then tgive du n else if k = 3 then tdrop n else if k = 4 then tpick n else if k = 5 then tthrow du n else trest
def ordText (who seq k du n : Int) : ByteArray := if ordB who seq k du n = true then OH who seq ++ tailOf k du n else ⟨#[]⟩

theorem word_size (s : Int) : (wordOf s).size ≤ 5 := by
  unfold wordOf; split
  · decide +kernel
  · split <;> decide +kernel
theorem OH_sizes (who seq : Int) (zi : (DD who).size ≤ 6) (zs : (DD seq).size ≤ 6) : (OH1 who).size ≤ 10 ∧ (OH2 who seq).size ≤ 20 ∧ (OH who seq).size ≤ 30 := by
  have e : SP.size = 1 := by decide +kernel
  unfold OH OH2 OH1
  simp only [ByteArray.size_append]
  omega
theorem ordB_true {who seq k du n : Int} (h : ordB who seq k du n = true) : (1 ≤ who ∧ who ≤ 9) ∧ (1 ≤ seq ∧ seq ≤ 900) ∧ kindB who k du n = true := by
  simpa [ordB, inB, and_assoc] using h

theorem side_spec (du : Int) (h : sideB du = true) (w : World) :
    Calls Tryd.prog 11 #[.int .i64 du] w fun e w' => e = .returned (.string (wordOf du)) ∧ Below w.heap.size w w' := by
  have h2 : du = 0 ∨ du = 1 := by simp [sideB, inB] at h; omega
  go_enter Tryd.func11, Tryd.ntmps11
  go_wp2
  all_goals (go_ret; exact ⟨by simp_all [wordOf], Below.refl _ _⟩)

set_option maxHeartbeats 1000000 in
set_option maxRecDepth 100000 in
theorem text_step_spec (who seq du n : Int) (h : ordB who seq 1 du n = true) (w : World) :
    Calls Tryd.prog 8 #[.agg #[.int .i64 who, .int .i64 seq, .int .i64 1, .int .i64 du, .int .i64 n]] w fun e w' => e = .returned (.string (OH who seq ++ tstep du)) ∧ Below w.heap.size w w' := by
  obtain ⟨⟨hw1, hw2⟩, ⟨hq1, hq2⟩, hk⟩ := ordB_true h
  have hs : sideB du = true := by have := hk; simp [kindB] at this; exact this.1
  have zi : (DD who).size ≤ 6 := DD_size who (by omega)
  have zs : (DD seq).size ≤ 6 := DD_size seq (by omega)
  have zl : (⟨#[115, 116, 101, 112, 32]⟩ : ByteArray).size ≤ 6 := by decide +kernel
  have zsp : SP.size = 1 := by decide +kernel
  have zw := word_size du
  obtain ⟨z1, z2, z3⟩ := OH_sizes who seq zi zs
  have c1 : ∀ w : World, (Op.stringOp .add (DD who) SP).run Tryd.prog w = .ok (.string (OH1 who)) w := cat _ _ (by omega) (by omega)
  have c2 : ∀ w : World, (Op.stringOp .add (OH1 who) (DD seq)).run Tryd.prog w = .ok (.string (OH2 who seq)) w := cat _ _ (by omega) (by omega)
  have c3 : ∀ w : World, (Op.stringOp .add (OH2 who seq) SP).run Tryd.prog w = .ok (.string (OH who seq)) w := cat _ _ (by omega) (by omega)
  have c5 : ∀ w : World, (Op.stringOp .add (OH who seq) (⟨#[115, 116, 101, 112, 32]⟩ : ByteArray)).run Tryd.prog w = .ok (.string ((OH who seq) ++ (⟨#[115, 116, 101, 112, 32]⟩ : ByteArray))) w := cat _ _ (by (try simp only [ByteArray.size_append]); omega) (by (try simp only [ByteArray.size_append]); omega)
  have c6 : ∀ w : World, (Op.stringOp .add ((OH who seq) ++ (⟨#[115, 116, 101, 112, 32]⟩ : ByteArray)) (wordOf du)).run Tryd.prog w = .ok (.string (((OH who seq) ++ (⟨#[115, 116, 101, 112, 32]⟩ : ByteArray)) ++ (wordOf du))) w := cat _ _ (by (try simp only [ByteArray.size_append]); omega) (by (try simp only [ByteArray.size_append]); omega)
  have hs : Hid (sideB du = true) := hs
  clear hk
  go_enter Tryd.func8, Tryd.ntmps8
  go_wp2_with (go_at_call 7; refine (ordOk_spec _ _ _ _ _ _).mono ?_; rintro e w0 ⟨rfl, hb0⟩; rw [h])
  go_region_held3 (fun w' => (∀ b o, b < w.heap.size + 1 → w'.cell? ⟨b, o, none⟩ = (w.alloc (.cells #[.int .i64 who, .int .i64 seq, .int .i64 1, .int .i64 du, .int .i64 n] 31)).cell? ⟨b, o, none⟩) ∧ w.heap.size + 1 ≤ w'.heap.size) (first | (refine keepS ?_ (by assumption); assumption) | exact keepS ⟨fun _ _ _ => rfl, by simp⟩ hb0 | exact keepS ⟨fun _ _ _ => rfl, by simp⟩ hb0.drew | assumption) (first | (go_at_call 12; refine (digits_D _ (by omega) (by omega) _).mono ?_; rintro e w' ⟨rfl, hb⟩) | (go_at_call 11; refine (side_spec _ hs.out _).mono ?_; rintro e w' ⟨rfl, hb⟩))
  go_wp2_with (first | (go_at_call 12; refine (digits_D _ (by omega) (by omega) _).mono ?_; rintro e w' ⟨rfl, hb⟩) | (go_at_call 11; refine (side_spec _ hs.out _).mono ?_; rintro e w' ⟨rfl, hb⟩))
  go_ret
  exact ⟨by simp [tstep, ByteArray.append_assoc], by repeat (first | exact Below.refl _ _ | refine bthen ?_ (by assumption) | apply Below.drew | apply bdrewN | refine Below.alloc ?_ (by simp <;> omega) _)⟩

set_option maxHeartbeats 1000000 in
set_option maxRecDepth 100000 in
theorem text_give_spec (who seq du n : Int) (h : ordB who seq 2 du n = true) (w : World) :
    Calls Tryd.prog 8 #[.agg #[.int .i64 who, .int .i64 seq, .int .i64 2, .int .i64 du, .int .i64 n]] w fun e w' => e = .returned (.string (OH who seq ++ tgive du n)) ∧ Below w.heap.size w w' := by
  obtain ⟨⟨hw1, hw2⟩, ⟨hq1, hq2⟩, hk⟩ := ordB_true h
  have ht : 1 ≤ du ∧ du ≤ 9 := by have := hk; simp [kindB, inB] at this; omega
  have hn : 1 ≤ n ∧ n ≤ 9 := by have := hk; simp [kindB, inB] at this; omega
  have zi : (DD who).size ≤ 6 := DD_size who (by omega)
  have zs : (DD seq).size ≤ 6 := DD_size seq (by omega)
  have zt : (DD du).size ≤ 6 := DD_size du (by omega)
  have zn : (DD n).size ≤ 6 := DD_size n (by omega)
  have zl : (⟨#[103, 105, 118, 101, 32]⟩ : ByteArray).size ≤ 6 := by decide +kernel
  have zsp : SP.size = 1 := by decide +kernel
  have zw := word_size du
  obtain ⟨z1, z2, z3⟩ := OH_sizes who seq zi zs
  have c1 : ∀ w : World, (Op.stringOp .add (DD who) SP).run Tryd.prog w = .ok (.string (OH1 who)) w := cat _ _ (by omega) (by omega)
  have c2 : ∀ w : World, (Op.stringOp .add (OH1 who) (DD seq)).run Tryd.prog w = .ok (.string (OH2 who seq)) w := cat _ _ (by omega) (by omega)
  have c3 : ∀ w : World, (Op.stringOp .add (OH2 who seq) SP).run Tryd.prog w = .ok (.string (OH who seq)) w := cat _ _ (by omega) (by omega)
  have c5 : ∀ w : World, (Op.stringOp .add (OH who seq) (⟨#[103, 105, 118, 101, 32]⟩ : ByteArray)).run Tryd.prog w = .ok (.string ((OH who seq) ++ (⟨#[103, 105, 118, 101, 32]⟩ : ByteArray))) w := cat _ _ (by (try simp only [ByteArray.size_append]); omega) (by (try simp only [ByteArray.size_append]); omega)
  have c6 : ∀ w : World, (Op.stringOp .add ((OH who seq) ++ (⟨#[103, 105, 118, 101, 32]⟩ : ByteArray)) (DD du)).run Tryd.prog w = .ok (.string (((OH who seq) ++ (⟨#[103, 105, 118, 101, 32]⟩ : ByteArray)) ++ (DD du))) w := cat _ _ (by (try simp only [ByteArray.size_append]); omega) (by (try simp only [ByteArray.size_append]); omega)
  have c7 : ∀ w : World, (Op.stringOp .add (((OH who seq) ++ (⟨#[103, 105, 118, 101, 32]⟩ : ByteArray)) ++ (DD du)) SP).run Tryd.prog w = .ok (.string ((((OH who seq) ++ (⟨#[103, 105, 118, 101, 32]⟩ : ByteArray)) ++ (DD du)) ++ SP)) w := cat _ _ (by (try simp only [ByteArray.size_append]); omega) (by (try simp only [ByteArray.size_append]); omega)
  have c8 : ∀ w : World, (Op.stringOp .add ((((OH who seq) ++ (⟨#[103, 105, 118, 101, 32]⟩ : ByteArray)) ++ (DD du)) ++ SP) (DD n)).run Tryd.prog w = .ok (.string (((((OH who seq) ++ (⟨#[103, 105, 118, 101, 32]⟩ : ByteArray)) ++ (DD du)) ++ SP) ++ (DD n))) w := cat _ _ (by (try simp only [ByteArray.size_append]); omega) (by (try simp only [ByteArray.size_append]); omega)
  clear hk
  go_enter Tryd.func8, Tryd.ntmps8
  go_wp2_with (go_at_call 7; refine (ordOk_spec _ _ _ _ _ _).mono ?_; rintro e w0 ⟨rfl, hb0⟩; rw [h])
  go_region_held3 (fun w' => (∀ b o, b < w.heap.size + 1 → w'.cell? ⟨b, o, none⟩ = (w.alloc (.cells #[.int .i64 who, .int .i64 seq, .int .i64 2, .int .i64 du, .int .i64 n] 31)).cell? ⟨b, o, none⟩) ∧ w.heap.size + 1 ≤ w'.heap.size) (first | (refine keepS ?_ (by assumption); assumption) | exact keepS ⟨fun _ _ _ => rfl, by simp⟩ hb0 | exact keepS ⟨fun _ _ _ => rfl, by simp⟩ hb0.drew | assumption) (first | (go_at_call 12; refine (digits_D _ (by omega) (by omega) _).mono ?_; rintro e w' ⟨rfl, hb⟩))
  go_wp2
  go_region_held3 (fun w' => (∀ b o, b < w.heap.size + 1 → w'.cell? ⟨b, o, none⟩ = (w.alloc (.cells #[.int .i64 who, .int .i64 seq, .int .i64 2, .int .i64 du, .int .i64 n] 31)).cell? ⟨b, o, none⟩) ∧ w.heap.size + 1 ≤ w'.heap.size) (first | (refine keepS ?_ (by assumption); assumption) | exact keepS ⟨fun _ _ _ => rfl, by simp⟩ hb0 | exact keepS ⟨fun _ _ _ => rfl, by simp⟩ hb0.drew | assumption) (first | (go_at_call 12; refine (digits_D _ (by omega) (by omega) _).mono ?_; rintro e w' ⟨rfl, hb⟩))
  go_wp2
  go_ret
  exact ⟨by simp [tgive, ByteArray.append_assoc], by repeat (first | exact Below.refl _ _ | refine bthen ?_ (by assumption) | apply Below.drew | apply bdrewN | refine Below.alloc ?_ (by simp <;> omega) _)⟩

set_option maxHeartbeats 1000000 in
set_option maxRecDepth 100000 in
theorem text_drop_spec (who seq du n : Int) (h : ordB who seq 3 du n = true) (w : World) :
    Calls Tryd.prog 8 #[.agg #[.int .i64 who, .int .i64 seq, .int .i64 3, .int .i64 du, .int .i64 n]] w fun e w' => e = .returned (.string (OH who seq ++ tdrop n)) ∧ Below w.heap.size w w' := by
  obtain ⟨⟨hw1, hw2⟩, ⟨hq1, hq2⟩, hk⟩ := ordB_true h
  have hn : 1 ≤ n ∧ n ≤ 9 := by have := hk; simp [kindB, inB] at this; omega
  have zi : (DD who).size ≤ 6 := DD_size who (by omega)
  have zs : (DD seq).size ≤ 6 := DD_size seq (by omega)
  have zn : (DD n).size ≤ 6 := DD_size n (by omega)
  have zl : (⟨#[100, 114, 111, 112, 32]⟩ : ByteArray).size ≤ 6 := by decide +kernel
  have zsp : SP.size = 1 := by decide +kernel
  have zw := word_size du
  obtain ⟨z1, z2, z3⟩ := OH_sizes who seq zi zs
  have c1 : ∀ w : World, (Op.stringOp .add (DD who) SP).run Tryd.prog w = .ok (.string (OH1 who)) w := cat _ _ (by omega) (by omega)
  have c2 : ∀ w : World, (Op.stringOp .add (OH1 who) (DD seq)).run Tryd.prog w = .ok (.string (OH2 who seq)) w := cat _ _ (by omega) (by omega)
  have c3 : ∀ w : World, (Op.stringOp .add (OH2 who seq) SP).run Tryd.prog w = .ok (.string (OH who seq)) w := cat _ _ (by omega) (by omega)
  have c5 : ∀ w : World, (Op.stringOp .add (OH who seq) (⟨#[100, 114, 111, 112, 32]⟩ : ByteArray)).run Tryd.prog w = .ok (.string ((OH who seq) ++ (⟨#[100, 114, 111, 112, 32]⟩ : ByteArray))) w := cat _ _ (by (try simp only [ByteArray.size_append]); omega) (by (try simp only [ByteArray.size_append]); omega)
  have c6 : ∀ w : World, (Op.stringOp .add ((OH who seq) ++ (⟨#[100, 114, 111, 112, 32]⟩ : ByteArray)) (DD n)).run Tryd.prog w = .ok (.string (((OH who seq) ++ (⟨#[100, 114, 111, 112, 32]⟩ : ByteArray)) ++ (DD n))) w := cat _ _ (by (try simp only [ByteArray.size_append]); omega) (by (try simp only [ByteArray.size_append]); omega)
  clear hk
  go_enter Tryd.func8, Tryd.ntmps8
  go_wp2_with (go_at_call 7; refine (ordOk_spec _ _ _ _ _ _).mono ?_; rintro e w0 ⟨rfl, hb0⟩; rw [h])
  go_region_held3 (fun w' => (∀ b o, b < w.heap.size + 1 → w'.cell? ⟨b, o, none⟩ = (w.alloc (.cells #[.int .i64 who, .int .i64 seq, .int .i64 3, .int .i64 du, .int .i64 n] 31)).cell? ⟨b, o, none⟩) ∧ w.heap.size + 1 ≤ w'.heap.size) (first | (refine keepS ?_ (by assumption); assumption) | exact keepS ⟨fun _ _ _ => rfl, by simp⟩ hb0 | exact keepS ⟨fun _ _ _ => rfl, by simp⟩ hb0.drew | assumption) (first | (go_at_call 12; refine (digits_D _ (by omega) (by omega) _).mono ?_; rintro e w' ⟨rfl, hb⟩))
  go_wp2_with (first | (go_at_call 12; refine (digits_D _ (by omega) (by omega) _).mono ?_; rintro e w' ⟨rfl, hb⟩))
  go_ret
  exact ⟨by simp [tdrop, ByteArray.append_assoc], by repeat (first | exact Below.refl _ _ | refine bthen ?_ (by assumption) | apply Below.drew | apply bdrewN | refine Below.alloc ?_ (by simp <;> omega) _)⟩

set_option maxHeartbeats 1000000 in
set_option maxRecDepth 100000 in
theorem text_pick_spec (who seq du n : Int) (h : ordB who seq 4 du n = true) (w : World) :
    Calls Tryd.prog 8 #[.agg #[.int .i64 who, .int .i64 seq, .int .i64 4, .int .i64 du, .int .i64 n]] w fun e w' => e = .returned (.string (OH who seq ++ tpick n)) ∧ Below w.heap.size w w' := by
  obtain ⟨⟨hw1, hw2⟩, ⟨hq1, hq2⟩, hk⟩ := ordB_true h
  have hn : 1 ≤ n ∧ n ≤ 9 := by have := hk; simp [kindB, inB] at this; omega
  have zi : (DD who).size ≤ 6 := DD_size who (by omega)
  have zs : (DD seq).size ≤ 6 := DD_size seq (by omega)
  have zn : (DD n).size ≤ 6 := DD_size n (by omega)
  have zl : (⟨#[112, 105, 99, 107, 32]⟩ : ByteArray).size ≤ 6 := by decide +kernel
  have zsp : SP.size = 1 := by decide +kernel
  have zw := word_size du
  obtain ⟨z1, z2, z3⟩ := OH_sizes who seq zi zs
  have c1 : ∀ w : World, (Op.stringOp .add (DD who) SP).run Tryd.prog w = .ok (.string (OH1 who)) w := cat _ _ (by omega) (by omega)
  have c2 : ∀ w : World, (Op.stringOp .add (OH1 who) (DD seq)).run Tryd.prog w = .ok (.string (OH2 who seq)) w := cat _ _ (by omega) (by omega)
  have c3 : ∀ w : World, (Op.stringOp .add (OH2 who seq) SP).run Tryd.prog w = .ok (.string (OH who seq)) w := cat _ _ (by omega) (by omega)
  have c5 : ∀ w : World, (Op.stringOp .add (OH who seq) (⟨#[112, 105, 99, 107, 32]⟩ : ByteArray)).run Tryd.prog w = .ok (.string ((OH who seq) ++ (⟨#[112, 105, 99, 107, 32]⟩ : ByteArray))) w := cat _ _ (by (try simp only [ByteArray.size_append]); omega) (by (try simp only [ByteArray.size_append]); omega)
  have c6 : ∀ w : World, (Op.stringOp .add ((OH who seq) ++ (⟨#[112, 105, 99, 107, 32]⟩ : ByteArray)) (DD n)).run Tryd.prog w = .ok (.string (((OH who seq) ++ (⟨#[112, 105, 99, 107, 32]⟩ : ByteArray)) ++ (DD n))) w := cat _ _ (by (try simp only [ByteArray.size_append]); omega) (by (try simp only [ByteArray.size_append]); omega)
  clear hk
  go_enter Tryd.func8, Tryd.ntmps8
  go_wp2_with (go_at_call 7; refine (ordOk_spec _ _ _ _ _ _).mono ?_; rintro e w0 ⟨rfl, hb0⟩; rw [h])
  go_region_held3 (fun w' => (∀ b o, b < w.heap.size + 1 → w'.cell? ⟨b, o, none⟩ = (w.alloc (.cells #[.int .i64 who, .int .i64 seq, .int .i64 4, .int .i64 du, .int .i64 n] 31)).cell? ⟨b, o, none⟩) ∧ w.heap.size + 1 ≤ w'.heap.size) (first | (refine keepS ?_ (by assumption); assumption) | exact keepS ⟨fun _ _ _ => rfl, by simp⟩ hb0 | exact keepS ⟨fun _ _ _ => rfl, by simp⟩ hb0.drew | assumption) (first | (go_at_call 12; refine (digits_D _ (by omega) (by omega) _).mono ?_; rintro e w' ⟨rfl, hb⟩))
  go_wp2_with (first | (go_at_call 12; refine (digits_D _ (by omega) (by omega) _).mono ?_; rintro e w' ⟨rfl, hb⟩))
  go_ret
  exact ⟨by simp [tpick, ByteArray.append_assoc], by repeat (first | exact Below.refl _ _ | refine bthen ?_ (by assumption) | apply Below.drew | apply bdrewN | refine Below.alloc ?_ (by simp <;> omega) _)⟩

set_option maxHeartbeats 1000000 in
set_option maxRecDepth 100000 in
theorem text_throw_spec (who seq du n : Int) (h : ordB who seq 5 du n = true) (w : World) :
    Calls Tryd.prog 8 #[.agg #[.int .i64 who, .int .i64 seq, .int .i64 5, .int .i64 du, .int .i64 n]] w fun e w' => e = .returned (.string (OH who seq ++ tthrow du n)) ∧ Below w.heap.size w w' := by
  obtain ⟨⟨hw1, hw2⟩, ⟨hq1, hq2⟩, hk⟩ := ordB_true h
  have hs : sideB du = true := by have := hk; simp [kindB] at this; exact this.1
  have hn : 1 ≤ n ∧ n ≤ 9 := by have := hk; simp [kindB, inB] at this; omega
  have zi : (DD who).size ≤ 6 := DD_size who (by omega)
  have zs : (DD seq).size ≤ 6 := DD_size seq (by omega)
  have zn : (DD n).size ≤ 6 := DD_size n (by omega)
  have zl : (⟨#[116, 104, 114, 111, 119, 32]⟩ : ByteArray).size ≤ 6 := by decide +kernel
  have zsp : SP.size = 1 := by decide +kernel
  have zw := word_size du
  obtain ⟨z1, z2, z3⟩ := OH_sizes who seq zi zs
  have c1 : ∀ w : World, (Op.stringOp .add (DD who) SP).run Tryd.prog w = .ok (.string (OH1 who)) w := cat _ _ (by omega) (by omega)
  have c2 : ∀ w : World, (Op.stringOp .add (OH1 who) (DD seq)).run Tryd.prog w = .ok (.string (OH2 who seq)) w := cat _ _ (by omega) (by omega)
  have c3 : ∀ w : World, (Op.stringOp .add (OH2 who seq) SP).run Tryd.prog w = .ok (.string (OH who seq)) w := cat _ _ (by omega) (by omega)
  have c5 : ∀ w : World, (Op.stringOp .add (OH who seq) (⟨#[116, 104, 114, 111, 119, 32]⟩ : ByteArray)).run Tryd.prog w = .ok (.string ((OH who seq) ++ (⟨#[116, 104, 114, 111, 119, 32]⟩ : ByteArray))) w := cat _ _ (by (try simp only [ByteArray.size_append]); omega) (by (try simp only [ByteArray.size_append]); omega)
  have c6 : ∀ w : World, (Op.stringOp .add ((OH who seq) ++ (⟨#[116, 104, 114, 111, 119, 32]⟩ : ByteArray)) (wordOf du)).run Tryd.prog w = .ok (.string (((OH who seq) ++ (⟨#[116, 104, 114, 111, 119, 32]⟩ : ByteArray)) ++ (wordOf du))) w := cat _ _ (by (try simp only [ByteArray.size_append]); omega) (by (try simp only [ByteArray.size_append]); omega)
  have c7 : ∀ w : World, (Op.stringOp .add (((OH who seq) ++ (⟨#[116, 104, 114, 111, 119, 32]⟩ : ByteArray)) ++ (wordOf du)) SP).run Tryd.prog w = .ok (.string ((((OH who seq) ++ (⟨#[116, 104, 114, 111, 119, 32]⟩ : ByteArray)) ++ (wordOf du)) ++ SP)) w := cat _ _ (by (try simp only [ByteArray.size_append]); omega) (by (try simp only [ByteArray.size_append]); omega)
  have c8 : ∀ w : World, (Op.stringOp .add ((((OH who seq) ++ (⟨#[116, 104, 114, 111, 119, 32]⟩ : ByteArray)) ++ (wordOf du)) ++ SP) (DD n)).run Tryd.prog w = .ok (.string (((((OH who seq) ++ (⟨#[116, 104, 114, 111, 119, 32]⟩ : ByteArray)) ++ (wordOf du)) ++ SP) ++ (DD n))) w := cat _ _ (by (try simp only [ByteArray.size_append]); omega) (by (try simp only [ByteArray.size_append]); omega)
  have hs : Hid (sideB du = true) := hs
  clear hk
  go_enter Tryd.func8, Tryd.ntmps8
  go_wp2_with (go_at_call 7; refine (ordOk_spec _ _ _ _ _ _).mono ?_; rintro e w0 ⟨rfl, hb0⟩; rw [h])
  go_region_held3 (fun w' => (∀ b o, b < w.heap.size + 1 → w'.cell? ⟨b, o, none⟩ = (w.alloc (.cells #[.int .i64 who, .int .i64 seq, .int .i64 5, .int .i64 du, .int .i64 n] 31)).cell? ⟨b, o, none⟩) ∧ w.heap.size + 1 ≤ w'.heap.size) (first | (refine keepS ?_ (by assumption); assumption) | exact keepS ⟨fun _ _ _ => rfl, by simp⟩ hb0 | exact keepS ⟨fun _ _ _ => rfl, by simp⟩ hb0.drew | assumption) (first | (go_at_call 12; refine (digits_D _ (by omega) (by omega) _).mono ?_; rintro e w' ⟨rfl, hb⟩) | (go_at_call 11; refine (side_spec _ hs.out _).mono ?_; rintro e w' ⟨rfl, hb⟩))
  go_wp2
  go_region_held3 (fun w' => (∀ b o, b < w.heap.size + 1 → w'.cell? ⟨b, o, none⟩ = (w.alloc (.cells #[.int .i64 who, .int .i64 seq, .int .i64 5, .int .i64 du, .int .i64 n] 31)).cell? ⟨b, o, none⟩) ∧ w.heap.size + 1 ≤ w'.heap.size) (first | (refine keepS ?_ (by assumption); assumption) | exact keepS ⟨fun _ _ _ => rfl, by simp⟩ hb0 | exact keepS ⟨fun _ _ _ => rfl, by simp⟩ hb0.drew | assumption) (first | (go_at_call 12; refine (digits_D _ (by omega) (by omega) _).mono ?_; rintro e w' ⟨rfl, hb⟩) | (go_at_call 11; refine (side_spec _ hs.out _).mono ?_; rintro e w' ⟨rfl, hb⟩))
  go_wp2
  go_ret
  exact ⟨by simp [tthrow, ByteArray.append_assoc], by repeat (first | exact Below.refl _ _ | refine bthen ?_ (by assumption) | apply Below.drew | apply bdrewN | refine Below.alloc ?_ (by simp <;> omega) _)⟩

set_option maxHeartbeats 1000000 in
set_option maxRecDepth 100000 in
theorem text_rest_spec (who seq du n : Int) (h : ordB who seq 6 du n = true) (w : World) :
    Calls Tryd.prog 8 #[.agg #[.int .i64 who, .int .i64 seq, .int .i64 6, .int .i64 du, .int .i64 n]] w fun e w' => e = .returned (.string (OH who seq ++ trest)) ∧ Below w.heap.size w w' := by
  obtain ⟨⟨hw1, hw2⟩, ⟨hq1, hq2⟩, hk⟩ := ordB_true h
  have zi : (DD who).size ≤ 6 := DD_size who (by omega)
  have zs : (DD seq).size ≤ 6 := DD_size seq (by omega)
  have zl : (⟨#[114, 101, 115, 116]⟩ : ByteArray).size ≤ 6 := by decide +kernel
  have zsp : SP.size = 1 := by decide +kernel
  have zw := word_size du
  obtain ⟨z1, z2, z3⟩ := OH_sizes who seq zi zs
  have c1 : ∀ w : World, (Op.stringOp .add (DD who) SP).run Tryd.prog w = .ok (.string (OH1 who)) w := cat _ _ (by omega) (by omega)
  have c2 : ∀ w : World, (Op.stringOp .add (OH1 who) (DD seq)).run Tryd.prog w = .ok (.string (OH2 who seq)) w := cat _ _ (by omega) (by omega)
  have c3 : ∀ w : World, (Op.stringOp .add (OH2 who seq) SP).run Tryd.prog w = .ok (.string (OH who seq)) w := cat _ _ (by omega) (by omega)
  have c5 : ∀ w : World, (Op.stringOp .add (OH who seq) (⟨#[114, 101, 115, 116]⟩ : ByteArray)).run Tryd.prog w = .ok (.string ((OH who seq) ++ (⟨#[114, 101, 115, 116]⟩ : ByteArray))) w := cat _ _ (by (try simp only [ByteArray.size_append]); omega) (by (try simp only [ByteArray.size_append]); omega)
  clear hk
  go_enter Tryd.func8, Tryd.ntmps8
  go_wp2_with (go_at_call 7; refine (ordOk_spec _ _ _ _ _ _).mono ?_; rintro e w0 ⟨rfl, hb0⟩; rw [h])
  go_region_held3 (fun w' => (∀ b o, b < w.heap.size + 1 → w'.cell? ⟨b, o, none⟩ = (w.alloc (.cells #[.int .i64 who, .int .i64 seq, .int .i64 6, .int .i64 du, .int .i64 n] 31)).cell? ⟨b, o, none⟩) ∧ w.heap.size + 1 ≤ w'.heap.size) (first | (refine keepS ?_ (by assumption); assumption) | exact keepS ⟨fun _ _ _ => rfl, by simp⟩ hb0 | exact keepS ⟨fun _ _ _ => rfl, by simp⟩ hb0.drew | assumption) (first | (go_at_call 12; refine (digits_D _ (by omega) (by omega) _).mono ?_; rintro e w' ⟨rfl, hb⟩))
  go_wp2_with (first | (go_at_call 12; refine (digits_D _ (by omega) (by omega) _).mono ?_; rintro e w' ⟨rfl, hb⟩))
  go_ret
  exact ⟨by simp [trest], by repeat (first | exact Below.refl _ _ | refine bthen ?_ (by assumption) | apply Below.drew | apply bdrewN | refine Below.alloc ?_ (by simp <;> omega) _)⟩

end Go.Proofs.YtbiccpmaoagalaaDoor
