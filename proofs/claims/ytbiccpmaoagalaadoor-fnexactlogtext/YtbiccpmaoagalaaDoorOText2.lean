/- The walk of the program's OrdText; conditions: the table of powers of ten lies as the text lays it. -/
import Derived.Test.YtbiccpmaoagalaaDoorOText
namespace Go.Proofs.YtbiccpmaoagalaaDoor
open Go.RowKit
set_option linter.unusedVariables false

set_option maxHeartbeats 1000000 in
theorem words_step (du : Int) (w : World) :
    Calls Tryd.prog 69 #[.agg #[.int .i64 du]] w fun e w' => e = .returned (.string (tstep du)) ∧ Below w.heap.size w w' := by
  have zl : (⟨#[115, 116, 101, 112, 32]⟩ : ByteArray).size ≤ 6 := by decide +kernel
  have zsp : SP.size = 1 := by decide +kernel
  have zw := word_size du
  have c1 : ∀ w : World, (Op.stringOp .add (⟨#[115, 116, 101, 112, 32]⟩ : ByteArray) (wordOf du)).run Tryd.prog w = .ok (.string ((⟨#[115, 116, 101, 112, 32]⟩ : ByteArray) ++ (wordOf du))) w := cat _ _ (by (try simp only [ByteArray.size_append]); omega) (by (try simp only [ByteArray.size_append]); omega)
  go_enter Tryd.func69, Tryd.ntmps69
  go_wp2_with (first | (go_at_call 16; refine (word_impl _ _).mono ?_; rintro e w' ⟨rfl, rfl⟩))
  go_ret
  exact ⟨by simp [tstep], by repeat (first | exact Below.refl _ _ | refine bthen ?_ (by assumption) | apply Below.drew | apply bdrewN | refine Below.alloc ?_ (by simp <;> omega) _)⟩

set_option maxHeartbeats 1000000 in
theorem words_give (du n : Int) (ht : 1 ≤ du ∧ du ≤ 9) (hn : 1 ≤ n ∧ n ≤ 9) (w : World) :
    Calls Tryd.prog 71 #[.agg #[.int .i64 du, .int .i64 n]] w fun e w' => e = .returned (.string (tgive du n)) ∧ Below w.heap.size w w' := by
  have zl : (⟨#[103, 105, 118, 101, 32]⟩ : ByteArray).size ≤ 6 := by decide +kernel
  have zsp : SP.size = 1 := by decide +kernel
  have zt : (DD du).size ≤ 6 := DD_size du (by omega)
  have zn : (DD n).size ≤ 6 := DD_size n (by omega)
  have c1 : ∀ w : World, (Op.stringOp .add (⟨#[103, 105, 118, 101, 32]⟩ : ByteArray) (DD du)).run Tryd.prog w = .ok (.string ((⟨#[103, 105, 118, 101, 32]⟩ : ByteArray) ++ (DD du))) w := cat _ _ (by (try simp only [ByteArray.size_append]); omega) (by (try simp only [ByteArray.size_append]); omega)
  have c2 : ∀ w : World, (Op.stringOp .add ((⟨#[103, 105, 118, 101, 32]⟩ : ByteArray) ++ (DD du)) SP).run Tryd.prog w = .ok (.string (((⟨#[103, 105, 118, 101, 32]⟩ : ByteArray) ++ (DD du)) ++ SP)) w := cat _ _ (by (try simp only [ByteArray.size_append]); omega) (by (try simp only [ByteArray.size_append]); omega)
  have c3 : ∀ w : World, (Op.stringOp .add (((⟨#[103, 105, 118, 101, 32]⟩ : ByteArray) ++ (DD du)) ++ SP) (DD n)).run Tryd.prog w = .ok (.string ((((⟨#[103, 105, 118, 101, 32]⟩ : ByteArray) ++ (DD du)) ++ SP) ++ (DD n))) w := cat _ _ (by (try simp only [ByteArray.size_append]); omega) (by (try simp only [ByteArray.size_append]); omega)
  go_enter Tryd.func71, Tryd.ntmps71
  go_wp2
  go_region_held3 (fun w' => (∀ b o, b < w.heap.size + 1 → w'.cell? ⟨b, o, none⟩ = (w.alloc (.cells #[.int .i64 du, .int .i64 n] 75)).cell? ⟨b, o, none⟩) ∧ w.heap.size + 1 ≤ w'.heap.size) (first | (refine keepS ?_ (by assumption); assumption) | exact ⟨fun _ _ _ => rfl, by simp⟩ | assumption) (first | (go_at_call 21; refine (itoa_small _ (by omega) (by omega) _).mono ?_; rintro e w' ⟨rfl, hb⟩))
  go_wp2
  go_ret
  exact ⟨by simp [tgive], by repeat (first | exact Below.refl _ _ | refine bthen ?_ (by assumption) | apply Below.drew | apply bdrewN | refine Below.alloc ?_ (by simp <;> omega) _)⟩

set_option maxHeartbeats 1000000 in
theorem words_drop (n : Int) (hn : 1 ≤ n ∧ n ≤ 9) (w : World) :
    Calls Tryd.prog 74 #[.agg #[.int .i64 n]] w fun e w' => e = .returned (.string (tdrop n)) ∧ Below w.heap.size w w' := by
  have zl : (⟨#[100, 114, 111, 112, 32]⟩ : ByteArray).size ≤ 6 := by decide +kernel
  have zsp : SP.size = 1 := by decide +kernel
  have zn : (DD n).size ≤ 6 := DD_size n (by omega)
  have c1 : ∀ w : World, (Op.stringOp .add (⟨#[100, 114, 111, 112, 32]⟩ : ByteArray) (DD n)).run Tryd.prog w = .ok (.string ((⟨#[100, 114, 111, 112, 32]⟩ : ByteArray) ++ (DD n))) w := cat _ _ (by (try simp only [ByteArray.size_append]); omega) (by (try simp only [ByteArray.size_append]); omega)
  go_enter Tryd.func74, Tryd.ntmps74
  go_wp2_with (first | (go_at_call 21; refine (itoa_small _ (by omega) (by omega) _).mono ?_; rintro e w' ⟨rfl, hb⟩))
  go_ret
  exact ⟨by simp [tdrop], by repeat (first | exact Below.refl _ _ | refine bthen ?_ (by assumption) | apply Below.drew | apply bdrewN | refine Below.alloc ?_ (by simp <;> omega) _)⟩

set_option maxHeartbeats 1000000 in
theorem words_pick (n : Int) (hn : 1 ≤ n ∧ n ≤ 9) (w : World) :
    Calls Tryd.prog 76 #[.agg #[.int .i64 n]] w fun e w' => e = .returned (.string (tpick n)) ∧ Below w.heap.size w w' := by
  have zl : (⟨#[112, 105, 99, 107, 32]⟩ : ByteArray).size ≤ 6 := by decide +kernel
  have zsp : SP.size = 1 := by decide +kernel
  have zn : (DD n).size ≤ 6 := DD_size n (by omega)
  have c1 : ∀ w : World, (Op.stringOp .add (⟨#[112, 105, 99, 107, 32]⟩ : ByteArray) (DD n)).run Tryd.prog w = .ok (.string ((⟨#[112, 105, 99, 107, 32]⟩ : ByteArray) ++ (DD n))) w := cat _ _ (by (try simp only [ByteArray.size_append]); omega) (by (try simp only [ByteArray.size_append]); omega)
  go_enter Tryd.func76, Tryd.ntmps76
  go_wp2_with (first | (go_at_call 21; refine (itoa_small _ (by omega) (by omega) _).mono ?_; rintro e w' ⟨rfl, hb⟩))
  go_ret
  exact ⟨by simp [tpick], by repeat (first | exact Below.refl _ _ | refine bthen ?_ (by assumption) | apply Below.drew | apply bdrewN | refine Below.alloc ?_ (by simp <;> omega) _)⟩

set_option maxHeartbeats 1000000 in
theorem words_throw (du n : Int) (hn : 1 ≤ n ∧ n ≤ 9) (w : World) :
    Calls Tryd.prog 78 #[.agg #[.int .i64 du, .int .i64 n]] w fun e w' => e = .returned (.string (tthrow du n)) ∧ Below w.heap.size w w' := by
  have zl : (⟨#[116, 104, 114, 111, 119, 32]⟩ : ByteArray).size ≤ 6 := by decide +kernel
  have zsp : SP.size = 1 := by decide +kernel
  have zw := word_size du
  have zn : (DD n).size ≤ 6 := DD_size n (by omega)
  have c1 : ∀ w : World, (Op.stringOp .add (⟨#[116, 104, 114, 111, 119, 32]⟩ : ByteArray) (wordOf du)).run Tryd.prog w = .ok (.string ((⟨#[116, 104, 114, 111, 119, 32]⟩ : ByteArray) ++ (wordOf du))) w := cat _ _ (by (try simp only [ByteArray.size_append]); omega) (by (try simp only [ByteArray.size_append]); omega)
  have c2 : ∀ w : World, (Op.stringOp .add ((⟨#[116, 104, 114, 111, 119, 32]⟩ : ByteArray) ++ (wordOf du)) SP).run Tryd.prog w = .ok (.string (((⟨#[116, 104, 114, 111, 119, 32]⟩ : ByteArray) ++ (wordOf du)) ++ SP)) w := cat _ _ (by (try simp only [ByteArray.size_append]); omega) (by (try simp only [ByteArray.size_append]); omega)
  have c3 : ∀ w : World, (Op.stringOp .add (((⟨#[116, 104, 114, 111, 119, 32]⟩ : ByteArray) ++ (wordOf du)) ++ SP) (DD n)).run Tryd.prog w = .ok (.string ((((⟨#[116, 104, 114, 111, 119, 32]⟩ : ByteArray) ++ (wordOf du)) ++ SP) ++ (DD n))) w := cat _ _ (by (try simp only [ByteArray.size_append]); omega) (by (try simp only [ByteArray.size_append]); omega)
  go_enter Tryd.func78, Tryd.ntmps78
  go_wp2
  go_region_held3 (fun w' => (∀ b o, b < w.heap.size + 1 → w'.cell? ⟨b, o, none⟩ = (w.alloc (.cells #[.int .i64 du, .int .i64 n] 80)).cell? ⟨b, o, none⟩) ∧ w.heap.size + 1 ≤ w'.heap.size) (first | (refine keepS ?_ (by assumption); assumption) | exact ⟨fun _ _ _ => rfl, by simp⟩ | assumption) (first | (go_at_call 16; refine (word_impl _ _).mono ?_; rintro e w' ⟨rfl, rfl⟩) | (go_at_call 21; refine (itoa_small _ (by omega) (by omega) _).mono ?_; rintro e w' ⟨rfl, hb⟩))
  go_wp2
  go_ret
  exact ⟨by simp [tthrow], by repeat (first | exact Below.refl _ _ | refine bthen ?_ (by assumption) | apply Below.drew | apply bdrewN | refine Below.alloc ?_ (by simp <;> omega) _)⟩

set_option maxHeartbeats 1000000 in
theorem words_rest  (w : World) :
    Calls Tryd.prog 80 #[.agg #[]] w fun e w' => e = .returned (.string (trest)) ∧ Below w.heap.size w w' := by
  go_enter Tryd.func80, Tryd.ntmps80
  go_wp2
  go_ret
  exact ⟨by simp [trest], by repeat (first | exact Below.refl _ _ | refine bthen ?_ (by assumption) | apply Below.drew | apply bdrewN | refine Below.alloc ?_ (by simp <;> omega) _)⟩

set_option maxHeartbeats 2000000 in
set_option maxRecDepth 100000 in
theorem text_step_impl (who seq du n : Int) (h : ordB who seq 1 du n = true) (w : World) (ht0 : Lib.TabBelow Tryd.prog w.heap.size w "internal/strconv.uint64pow10" .u64 Lib.pow10Tab) :
    Calls Tryd.prog 18 #[.agg #[.int .i64 who, .int .i64 seq, .int .i64 1, .int .i64 du, .int .i64 n]] w fun e w' => e = .returned (.string (OH who seq ++ tstep du)) ∧ Below w.heap.size w w' := by
  have HT : Hid (Lib.TabBelow Tryd.prog w.heap.size w "internal/strconv.uint64pow10" .u64 Lib.pow10Tab) := ht0
  clear ht0
  obtain ⟨⟨hw1, hw2⟩, ⟨hq1, hq2⟩, hk⟩ := ordB_true h
  have zi : (DD who).size ≤ 6 := DD_size who (by omega)
  have zs : (DD seq).size ≤ 6 := DD_size seq (by omega)
  have zsp : SP.size = 1 := by decide +kernel
  obtain ⟨z1, z2, z3⟩ := OH_sizes who seq zi zs
  have zt : (tstep du).size ≤ 100 := by
    have zsp : SP.size = 1 := by decide +kernel
    unfold tstep; simp only [ByteArray.size_append]; have := word_size du; have : (⟨#[115, 116, 101, 112, 32]⟩ : ByteArray).size = 5 := by decide +kernel
    omega
  have c1 : ∀ w : World, (Op.stringOp .add (DD who) SP).run Tryd.prog w = .ok (.string (OH1 who)) w := cat _ _ (by omega) (by omega)
  have c2 : ∀ w : World, (Op.stringOp .add (OH1 who) (DD seq)).run Tryd.prog w = .ok (.string (OH2 who seq)) w := cat _ _ (by omega) (by omega)
  have c3 : ∀ w : World, (Op.stringOp .add (OH2 who seq) SP).run Tryd.prog w = .ok (.string (OH who seq)) w := cat _ _ (by omega) (by omega)
  have c4 : ∀ w : World, (Op.stringOp .add (OH who seq) (tstep du)).run Tryd.prog w = .ok (.string (OH who seq ++ tstep du)) w := cat _ _ (by omega) (by omega)
  have hd : deedV 1 du n = .iface 73 (.agg #[.int .i64 du]) := rfl
  have hm : ∀ (v : Value) (w : World), (method 225 73 v "loop.example/landmarch/impl.words").run Tryd.prog w = .ok (69, v) w := fun _ _ => by kernel_rfl
  clear hk
  go_enter Tryd.func18, Tryd.ntmps18
  go_wp2_with (go_at_call 25; refine (ordOk_impl _ _ _ _ _ _).mono ?_; rintro e w0 ⟨rfl, hb0⟩; rw [h])
  go_region_held3 (fun w' => (∀ b o, b < w.heap.size + 1 → w'.cell? ⟨b, o, none⟩ = (w.alloc (.cells #[.int .i64 who, .int .i64 seq, .int .i64 1, .int .i64 du, .int .i64 n] 31)).cell? ⟨b, o, none⟩) ∧ w.heap.size + 1 ≤ w'.heap.size) (first | (refine keepS ?_ (by assumption); assumption) | exact keepS ⟨fun _ _ _ => rfl, by simp⟩ hb0 | exact keepS ⟨fun _ _ _ => rfl, by simp⟩ hb0.drew | assumption) (first | (go_at_call 21; refine (itoa_tab _ (by omega) (by omega) _ (HT.out _ (by repeat (first | exact Below.refl _ _ | refine bthen ?_ (by assumption) | apply Below.drew | apply bdrewN | refine Below.alloc ?_ (by simp) _)))).mono ?_; rintro e w' ⟨rfl, hb⟩) | (go_at_call 26; refine (deedOf _ _ _ _ _ _).mono ?_; rintro e w' ⟨rfl, hb⟩; rw [hd]) | (go_at_call 69; refine (words_step du _).mono ?_; rintro e w' ⟨rfl, hb⟩))
  go_wp2
  go_ret
  exact ⟨by simp, by repeat (first | exact Below.refl _ _ | refine bthen ?_ (by assumption) | apply Below.drew | apply bdrewN | refine Below.alloc ?_ (by simp <;> omega) _)⟩

set_option maxHeartbeats 2000000 in
set_option maxRecDepth 100000 in
theorem text_give_impl (who seq du n : Int) (h : ordB who seq 2 du n = true) (w : World) (ht0 : Lib.TabBelow Tryd.prog w.heap.size w "internal/strconv.uint64pow10" .u64 Lib.pow10Tab) :
    Calls Tryd.prog 18 #[.agg #[.int .i64 who, .int .i64 seq, .int .i64 2, .int .i64 du, .int .i64 n]] w fun e w' => e = .returned (.string (OH who seq ++ tgive du n)) ∧ Below w.heap.size w w' := by
  have HT : Hid (Lib.TabBelow Tryd.prog w.heap.size w "internal/strconv.uint64pow10" .u64 Lib.pow10Tab) := ht0
  clear ht0
  obtain ⟨⟨hw1, hw2⟩, ⟨hq1, hq2⟩, hk⟩ := ordB_true h
  have ht : 1 ≤ du ∧ du ≤ 9 := by have := hk; simp [kindB, inB] at this; omega
  have hn : 1 ≤ n ∧ n ≤ 9 := by have := hk; simp [kindB, inB] at this; omega
  have zi : (DD who).size ≤ 6 := DD_size who (by omega)
  have zs : (DD seq).size ≤ 6 := DD_size seq (by omega)
  have zsp : SP.size = 1 := by decide +kernel
  obtain ⟨z1, z2, z3⟩ := OH_sizes who seq zi zs
  have zt : (tgive du n).size ≤ 100 := by
    have zsp : SP.size = 1 := by decide +kernel
    unfold tgive; simp only [ByteArray.size_append]; have := DD_size du (by omega); have := DD_size n (by omega); have : (⟨#[103, 105, 118, 101, 32]⟩ : ByteArray).size = 5 := by decide +kernel
    omega
  have c1 : ∀ w : World, (Op.stringOp .add (DD who) SP).run Tryd.prog w = .ok (.string (OH1 who)) w := cat _ _ (by omega) (by omega)
  have c2 : ∀ w : World, (Op.stringOp .add (OH1 who) (DD seq)).run Tryd.prog w = .ok (.string (OH2 who seq)) w := cat _ _ (by omega) (by omega)
  have c3 : ∀ w : World, (Op.stringOp .add (OH2 who seq) SP).run Tryd.prog w = .ok (.string (OH who seq)) w := cat _ _ (by omega) (by omega)
  have c4 : ∀ w : World, (Op.stringOp .add (OH who seq) (tgive du n)).run Tryd.prog w = .ok (.string (OH who seq ++ tgive du n)) w := cat _ _ (by omega) (by omega)
  have hd : deedV 2 du n = .iface 75 (.agg #[.int .i64 du, .int .i64 n]) := rfl
  have hm : ∀ (v : Value) (w : World), (method 225 75 v "loop.example/landmarch/impl.words").run Tryd.prog w = .ok (71, v) w := fun _ _ => by kernel_rfl
  clear hk
  go_enter Tryd.func18, Tryd.ntmps18
  go_wp2_with (go_at_call 25; refine (ordOk_impl _ _ _ _ _ _).mono ?_; rintro e w0 ⟨rfl, hb0⟩; rw [h])
  go_region_held3 (fun w' => (∀ b o, b < w.heap.size + 1 → w'.cell? ⟨b, o, none⟩ = (w.alloc (.cells #[.int .i64 who, .int .i64 seq, .int .i64 2, .int .i64 du, .int .i64 n] 31)).cell? ⟨b, o, none⟩) ∧ w.heap.size + 1 ≤ w'.heap.size) (first | (refine keepS ?_ (by assumption); assumption) | exact keepS ⟨fun _ _ _ => rfl, by simp⟩ hb0 | exact keepS ⟨fun _ _ _ => rfl, by simp⟩ hb0.drew | assumption) (first | (go_at_call 21; refine (itoa_tab _ (by omega) (by omega) _ (HT.out _ (by repeat (first | exact Below.refl _ _ | refine bthen ?_ (by assumption) | apply Below.drew | apply bdrewN | refine Below.alloc ?_ (by simp) _)))).mono ?_; rintro e w' ⟨rfl, hb⟩) | (go_at_call 26; refine (deedOf _ _ _ _ _ _).mono ?_; rintro e w' ⟨rfl, hb⟩; rw [hd]) | (go_at_call 71; refine (words_give du n ht hn _).mono ?_; rintro e w' ⟨rfl, hb⟩))
  go_wp2
  go_ret
  exact ⟨by simp, by repeat (first | exact Below.refl _ _ | refine bthen ?_ (by assumption) | apply Below.drew | apply bdrewN | refine Below.alloc ?_ (by simp <;> omega) _)⟩

set_option maxHeartbeats 2000000 in
set_option maxRecDepth 100000 in
theorem text_drop_impl (who seq du n : Int) (h : ordB who seq 3 du n = true) (w : World) (ht0 : Lib.TabBelow Tryd.prog w.heap.size w "internal/strconv.uint64pow10" .u64 Lib.pow10Tab) :
    Calls Tryd.prog 18 #[.agg #[.int .i64 who, .int .i64 seq, .int .i64 3, .int .i64 du, .int .i64 n]] w fun e w' => e = .returned (.string (OH who seq ++ tdrop n)) ∧ Below w.heap.size w w' := by
  have HT : Hid (Lib.TabBelow Tryd.prog w.heap.size w "internal/strconv.uint64pow10" .u64 Lib.pow10Tab) := ht0
  clear ht0
  obtain ⟨⟨hw1, hw2⟩, ⟨hq1, hq2⟩, hk⟩ := ordB_true h
  have hn : 1 ≤ n ∧ n ≤ 9 := by have := hk; simp [kindB, inB] at this; omega
  have zi : (DD who).size ≤ 6 := DD_size who (by omega)
  have zs : (DD seq).size ≤ 6 := DD_size seq (by omega)
  have zsp : SP.size = 1 := by decide +kernel
  obtain ⟨z1, z2, z3⟩ := OH_sizes who seq zi zs
  have zt : (tdrop n).size ≤ 100 := by
    have zsp : SP.size = 1 := by decide +kernel
    unfold tdrop; simp only [ByteArray.size_append]; have := DD_size n (by omega); have : (⟨#[100, 114, 111, 112, 32]⟩ : ByteArray).size = 5 := by decide +kernel
    omega
  have c1 : ∀ w : World, (Op.stringOp .add (DD who) SP).run Tryd.prog w = .ok (.string (OH1 who)) w := cat _ _ (by omega) (by omega)
  have c2 : ∀ w : World, (Op.stringOp .add (OH1 who) (DD seq)).run Tryd.prog w = .ok (.string (OH2 who seq)) w := cat _ _ (by omega) (by omega)
  have c3 : ∀ w : World, (Op.stringOp .add (OH2 who seq) SP).run Tryd.prog w = .ok (.string (OH who seq)) w := cat _ _ (by omega) (by omega)
  have c4 : ∀ w : World, (Op.stringOp .add (OH who seq) (tdrop n)).run Tryd.prog w = .ok (.string (OH who seq ++ tdrop n)) w := cat _ _ (by omega) (by omega)
  have hd : deedV 3 du n = .iface 77 (.agg #[.int .i64 n]) := rfl
  have hm : ∀ (v : Value) (w : World), (method 225 77 v "loop.example/landmarch/impl.words").run Tryd.prog w = .ok (74, v) w := fun _ _ => by kernel_rfl
  clear hk
  go_enter Tryd.func18, Tryd.ntmps18
  go_wp2_with (go_at_call 25; refine (ordOk_impl _ _ _ _ _ _).mono ?_; rintro e w0 ⟨rfl, hb0⟩; rw [h])
  go_region_held3 (fun w' => (∀ b o, b < w.heap.size + 1 → w'.cell? ⟨b, o, none⟩ = (w.alloc (.cells #[.int .i64 who, .int .i64 seq, .int .i64 3, .int .i64 du, .int .i64 n] 31)).cell? ⟨b, o, none⟩) ∧ w.heap.size + 1 ≤ w'.heap.size) (first | (refine keepS ?_ (by assumption); assumption) | exact keepS ⟨fun _ _ _ => rfl, by simp⟩ hb0 | exact keepS ⟨fun _ _ _ => rfl, by simp⟩ hb0.drew | assumption) (first | (go_at_call 21; refine (itoa_tab _ (by omega) (by omega) _ (HT.out _ (by repeat (first | exact Below.refl _ _ | refine bthen ?_ (by assumption) | apply Below.drew | apply bdrewN | refine Below.alloc ?_ (by simp) _)))).mono ?_; rintro e w' ⟨rfl, hb⟩) | (go_at_call 26; refine (deedOf _ _ _ _ _ _).mono ?_; rintro e w' ⟨rfl, hb⟩; rw [hd]) | (go_at_call 74; refine (words_drop n hn _).mono ?_; rintro e w' ⟨rfl, hb⟩))
  go_wp2
  go_ret
  exact ⟨by simp, by repeat (first | exact Below.refl _ _ | refine bthen ?_ (by assumption) | apply Below.drew | apply bdrewN | refine Below.alloc ?_ (by simp <;> omega) _)⟩

set_option maxHeartbeats 2000000 in
set_option maxRecDepth 100000 in
theorem text_pick_impl (who seq du n : Int) (h : ordB who seq 4 du n = true) (w : World) (ht0 : Lib.TabBelow Tryd.prog w.heap.size w "internal/strconv.uint64pow10" .u64 Lib.pow10Tab) :
    Calls Tryd.prog 18 #[.agg #[.int .i64 who, .int .i64 seq, .int .i64 4, .int .i64 du, .int .i64 n]] w fun e w' => e = .returned (.string (OH who seq ++ tpick n)) ∧ Below w.heap.size w w' := by
  have HT : Hid (Lib.TabBelow Tryd.prog w.heap.size w "internal/strconv.uint64pow10" .u64 Lib.pow10Tab) := ht0
  clear ht0
  obtain ⟨⟨hw1, hw2⟩, ⟨hq1, hq2⟩, hk⟩ := ordB_true h
  have hn : 1 ≤ n ∧ n ≤ 9 := by have := hk; simp [kindB, inB] at this; omega
  have zi : (DD who).size ≤ 6 := DD_size who (by omega)
  have zs : (DD seq).size ≤ 6 := DD_size seq (by omega)
  have zsp : SP.size = 1 := by decide +kernel
  obtain ⟨z1, z2, z3⟩ := OH_sizes who seq zi zs
  have zt : (tpick n).size ≤ 100 := by
    have zsp : SP.size = 1 := by decide +kernel
    unfold tpick; simp only [ByteArray.size_append]; have := DD_size n (by omega); have : (⟨#[112, 105, 99, 107, 32]⟩ : ByteArray).size = 5 := by decide +kernel
    omega
  have c1 : ∀ w : World, (Op.stringOp .add (DD who) SP).run Tryd.prog w = .ok (.string (OH1 who)) w := cat _ _ (by omega) (by omega)
  have c2 : ∀ w : World, (Op.stringOp .add (OH1 who) (DD seq)).run Tryd.prog w = .ok (.string (OH2 who seq)) w := cat _ _ (by omega) (by omega)
  have c3 : ∀ w : World, (Op.stringOp .add (OH2 who seq) SP).run Tryd.prog w = .ok (.string (OH who seq)) w := cat _ _ (by omega) (by omega)
  have c4 : ∀ w : World, (Op.stringOp .add (OH who seq) (tpick n)).run Tryd.prog w = .ok (.string (OH who seq ++ tpick n)) w := cat _ _ (by omega) (by omega)
  have hd : deedV 4 du n = .iface 78 (.agg #[.int .i64 n]) := rfl
  have hm : ∀ (v : Value) (w : World), (method 225 78 v "loop.example/landmarch/impl.words").run Tryd.prog w = .ok (76, v) w := fun _ _ => by kernel_rfl
  clear hk
  go_enter Tryd.func18, Tryd.ntmps18
  go_wp2_with (go_at_call 25; refine (ordOk_impl _ _ _ _ _ _).mono ?_; rintro e w0 ⟨rfl, hb0⟩; rw [h])
  go_region_held3 (fun w' => (∀ b o, b < w.heap.size + 1 → w'.cell? ⟨b, o, none⟩ = (w.alloc (.cells #[.int .i64 who, .int .i64 seq, .int .i64 4, .int .i64 du, .int .i64 n] 31)).cell? ⟨b, o, none⟩) ∧ w.heap.size + 1 ≤ w'.heap.size) (first | (refine keepS ?_ (by assumption); assumption) | exact keepS ⟨fun _ _ _ => rfl, by simp⟩ hb0 | exact keepS ⟨fun _ _ _ => rfl, by simp⟩ hb0.drew | assumption) (first | (go_at_call 21; refine (itoa_tab _ (by omega) (by omega) _ (HT.out _ (by repeat (first | exact Below.refl _ _ | refine bthen ?_ (by assumption) | apply Below.drew | apply bdrewN | refine Below.alloc ?_ (by simp) _)))).mono ?_; rintro e w' ⟨rfl, hb⟩) | (go_at_call 26; refine (deedOf _ _ _ _ _ _).mono ?_; rintro e w' ⟨rfl, hb⟩; rw [hd]) | (go_at_call 76; refine (words_pick n hn _).mono ?_; rintro e w' ⟨rfl, hb⟩))
  go_wp2
  go_ret
  exact ⟨by simp, by repeat (first | exact Below.refl _ _ | refine bthen ?_ (by assumption) | apply Below.drew | apply bdrewN | refine Below.alloc ?_ (by simp <;> omega) _)⟩

set_option maxHeartbeats 2000000 in
set_option maxRecDepth 100000 in
theorem text_throw_impl (who seq du n : Int) (h : ordB who seq 5 du n = true) (w : World) (ht0 : Lib.TabBelow Tryd.prog w.heap.size w "internal/strconv.uint64pow10" .u64 Lib.pow10Tab) :
    Calls Tryd.prog 18 #[.agg #[.int .i64 who, .int .i64 seq, .int .i64 5, .int .i64 du, .int .i64 n]] w fun e w' => e = .returned (.string (OH who seq ++ tthrow du n)) ∧ Below w.heap.size w w' := by
  have HT : Hid (Lib.TabBelow Tryd.prog w.heap.size w "internal/strconv.uint64pow10" .u64 Lib.pow10Tab) := ht0
  clear ht0
  obtain ⟨⟨hw1, hw2⟩, ⟨hq1, hq2⟩, hk⟩ := ordB_true h
  have hn : 1 ≤ n ∧ n ≤ 9 := by have := hk; simp [kindB, inB] at this; omega
  have zi : (DD who).size ≤ 6 := DD_size who (by omega)
  have zs : (DD seq).size ≤ 6 := DD_size seq (by omega)
  have zsp : SP.size = 1 := by decide +kernel
  obtain ⟨z1, z2, z3⟩ := OH_sizes who seq zi zs
  have zt : (tthrow du n).size ≤ 100 := by
    have zsp : SP.size = 1 := by decide +kernel
    unfold tthrow; simp only [ByteArray.size_append]; have := word_size du; have := DD_size n (by omega); have : (⟨#[116, 104, 114, 111, 119, 32]⟩ : ByteArray).size = 6 := by decide +kernel
    omega
  have c1 : ∀ w : World, (Op.stringOp .add (DD who) SP).run Tryd.prog w = .ok (.string (OH1 who)) w := cat _ _ (by omega) (by omega)
  have c2 : ∀ w : World, (Op.stringOp .add (OH1 who) (DD seq)).run Tryd.prog w = .ok (.string (OH2 who seq)) w := cat _ _ (by omega) (by omega)
  have c3 : ∀ w : World, (Op.stringOp .add (OH2 who seq) SP).run Tryd.prog w = .ok (.string (OH who seq)) w := cat _ _ (by omega) (by omega)
  have c4 : ∀ w : World, (Op.stringOp .add (OH who seq) (tthrow du n)).run Tryd.prog w = .ok (.string (OH who seq ++ tthrow du n)) w := cat _ _ (by omega) (by omega)
  have hd : deedV 5 du n = .iface 80 (.agg #[.int .i64 du, .int .i64 n]) := rfl
  have hm : ∀ (v : Value) (w : World), (method 225 80 v "loop.example/landmarch/impl.words").run Tryd.prog w = .ok (78, v) w := fun _ _ => by kernel_rfl
  clear hk
  go_enter Tryd.func18, Tryd.ntmps18
  go_wp2_with (go_at_call 25; refine (ordOk_impl _ _ _ _ _ _).mono ?_; rintro e w0 ⟨rfl, hb0⟩; rw [h])
  go_region_held3 (fun w' => (∀ b o, b < w.heap.size + 1 → w'.cell? ⟨b, o, none⟩ = (w.alloc (.cells #[.int .i64 who, .int .i64 seq, .int .i64 5, .int .i64 du, .int .i64 n] 31)).cell? ⟨b, o, none⟩) ∧ w.heap.size + 1 ≤ w'.heap.size) (first | (refine keepS ?_ (by assumption); assumption) | exact keepS ⟨fun _ _ _ => rfl, by simp⟩ hb0 | exact keepS ⟨fun _ _ _ => rfl, by simp⟩ hb0.drew | assumption) (first | (go_at_call 21; refine (itoa_tab _ (by omega) (by omega) _ (HT.out _ (by repeat (first | exact Below.refl _ _ | refine bthen ?_ (by assumption) | apply Below.drew | apply bdrewN | refine Below.alloc ?_ (by simp) _)))).mono ?_; rintro e w' ⟨rfl, hb⟩) | (go_at_call 26; refine (deedOf _ _ _ _ _ _).mono ?_; rintro e w' ⟨rfl, hb⟩; rw [hd]) | (go_at_call 78; refine (words_throw du n hn _).mono ?_; rintro e w' ⟨rfl, hb⟩))
  go_wp2
  go_ret
  exact ⟨by simp, by repeat (first | exact Below.refl _ _ | refine bthen ?_ (by assumption) | apply Below.drew | apply bdrewN | refine Below.alloc ?_ (by simp <;> omega) _)⟩

set_option maxHeartbeats 2000000 in
set_option maxRecDepth 100000 in
theorem text_rest_impl (who seq du n : Int) (h : ordB who seq 6 du n = true) (w : World) (ht0 : Lib.TabBelow Tryd.prog w.heap.size w "internal/strconv.uint64pow10" .u64 Lib.pow10Tab) :
    Calls Tryd.prog 18 #[.agg #[.int .i64 who, .int .i64 seq, .int .i64 6, .int .i64 du, .int .i64 n]] w fun e w' => e = .returned (.string (OH who seq ++ trest)) ∧ Below w.heap.size w w' := by
  have HT : Hid (Lib.TabBelow Tryd.prog w.heap.size w "internal/strconv.uint64pow10" .u64 Lib.pow10Tab) := ht0
  clear ht0
  obtain ⟨⟨hw1, hw2⟩, ⟨hq1, hq2⟩, hk⟩ := ordB_true h
  have zi : (DD who).size ≤ 6 := DD_size who (by omega)
  have zs : (DD seq).size ≤ 6 := DD_size seq (by omega)
  have zsp : SP.size = 1 := by decide +kernel
  obtain ⟨z1, z2, z3⟩ := OH_sizes who seq zi zs
  have zt : (trest).size ≤ 100 := by
    have zsp : SP.size = 1 := by decide +kernel
    have : trest.size = 4 := by decide +kernel
    omega
  have c1 : ∀ w : World, (Op.stringOp .add (DD who) SP).run Tryd.prog w = .ok (.string (OH1 who)) w := cat _ _ (by omega) (by omega)
  have c2 : ∀ w : World, (Op.stringOp .add (OH1 who) (DD seq)).run Tryd.prog w = .ok (.string (OH2 who seq)) w := cat _ _ (by omega) (by omega)
  have c3 : ∀ w : World, (Op.stringOp .add (OH2 who seq) SP).run Tryd.prog w = .ok (.string (OH who seq)) w := cat _ _ (by omega) (by omega)
  have c4 : ∀ w : World, (Op.stringOp .add (OH who seq) (trest)).run Tryd.prog w = .ok (.string (OH who seq ++ trest)) w := cat _ _ (by omega) (by omega)
  have hd : deedV 6 du n = .iface 82 (.agg #[]) := rfl
  have hm : ∀ (v : Value) (w : World), (method 225 82 v "loop.example/landmarch/impl.words").run Tryd.prog w = .ok (80, v) w := fun _ _ => by kernel_rfl
  clear hk
  go_enter Tryd.func18, Tryd.ntmps18
  go_wp2_with (go_at_call 25; refine (ordOk_impl _ _ _ _ _ _).mono ?_; rintro e w0 ⟨rfl, hb0⟩; rw [h])
  go_region_held3 (fun w' => (∀ b o, b < w.heap.size + 1 → w'.cell? ⟨b, o, none⟩ = (w.alloc (.cells #[.int .i64 who, .int .i64 seq, .int .i64 6, .int .i64 du, .int .i64 n] 31)).cell? ⟨b, o, none⟩) ∧ w.heap.size + 1 ≤ w'.heap.size) (first | (refine keepS ?_ (by assumption); assumption) | exact keepS ⟨fun _ _ _ => rfl, by simp⟩ hb0 | exact keepS ⟨fun _ _ _ => rfl, by simp⟩ hb0.drew | assumption) (first | (go_at_call 21; refine (itoa_tab _ (by omega) (by omega) _ (HT.out _ (by repeat (first | exact Below.refl _ _ | refine bthen ?_ (by assumption) | apply Below.drew | apply bdrewN | refine Below.alloc ?_ (by simp) _)))).mono ?_; rintro e w' ⟨rfl, hb⟩) | (go_at_call 26; refine (deedOf _ _ _ _ _ _).mono ?_; rintro e w' ⟨rfl, hb⟩; rw [hd]) | (go_at_call 80; refine (words_rest  _).mono ?_; rintro e w' ⟨rfl, hb⟩))
  go_wp2
  go_ret
  exact ⟨by simp, by repeat (first | exact Below.refl _ _ | refine bthen ?_ (by assumption) | apply Below.drew | apply bdrewN | refine Below.alloc ?_ (by simp <;> omega) _)⟩

end Go.Proofs.YtbiccpmaoagalaaDoor
