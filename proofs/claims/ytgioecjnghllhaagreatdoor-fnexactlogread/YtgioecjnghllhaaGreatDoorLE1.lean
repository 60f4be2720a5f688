/- What is carried: LogText of both sides; conditions: those typed. -/
import Derived.WalkKit
import Derived.ProofKit
import Derived.OpenShut
import Derived.Below
import Derived.BigQuiet
import Derived.Deep.OwnRows
import Derived.Laws.AppendOwn
import Derived.Test.YtgioecjnghllhaaGreatDoorRows
import Derived.WalkSpells
import Derived.LoopTactic
import Derived.Lib.ItoaNum
import Derived.Lib.AppendIntMem
import Derived.Deep.RegionHeld3
import Derived.Deep.QuietTactic
import Derived.Deep.Cut
import Derived.Test.YtgioecjnghllhaaGreatDoorShelf
import Derived.Test.YtgioecjnghllhaaGreatDoorLA
import Derived.Test.YtgioecjnghllhaaGreatDoorLB
import Derived.Test.YtgioecjnghllhaaGreatDoorLC
import Derived.Test.YtgioecjnghllhaaGreatDoorLD
namespace Go.Proofs.YtgioecjnghllhaaGreatDoor
open Go.RowKit Go.Deep
set_option linter.unusedVariables false
/-- Block b reads as it did. -/
def Sm (w w' : World) (b : Nat) : Prop := ∀ o, w'.cell? ⟨b, o, none⟩ = w.cell? ⟨b, o, none⟩ ∧ w'.frozen? ⟨b, o, none⟩ = w.frozen? ⟨b, o, none⟩
theorem Sm.refl (w : World) (b : Nat) : Sm w w b := fun _ => ⟨rfl, rfl⟩
theorem Sm.trans {a b c : World} {g : Nat} (h : Sm a b g) (k : Sm b c g) : Sm a c g := fun o => ⟨(k o).1.trans (h o).1, (k o).2.trans (h o).2⟩
/-- Block b of W begins with these values, and may be written. -/
def Bk (W : World) (b : Nat) (l : List Value) : Prop := b < W.heap.size ∧ ∀ i, i < l.length → W.cell? ⟨b, i, none⟩ = some (l.getD i undef) ∧ W.frozen? ⟨b, i, none⟩ = false
theorem Bk.below {W W' : World} {b : Nat} {l : List Value} (h : Bk W b l) (k : Below W.heap.size W W') : Bk W' b l := ⟨Nat.lt_of_lt_of_le h.1 k.size, fun i hi => by
  rw [k.cell (p := ⟨b, i, none⟩) h.1, k.frozen (p := ⟨b, i, none⟩) h.1]; exact h.2 i hi⟩
theorem bk_new (W : World) (t : TypeId) (l : List Value) : Bk (W.alloc (.cells l.toArray t)) W.heap.size l := ⟨by simp, fun i hi => by
  have e : l.getD i undef = l[i] := by simp [List.getD, List.getElem?_eq_getElem hi]
  rw [e]
  exact ⟨by simp [hi], by simp⟩⟩
end Go.Proofs.YtgioecjnghllhaaGreatDoor
namespace Go.Proofs.YtgioecjnghllhaaGreatDoor
open Go.RowKit Go.Deep
set_option linter.unusedVariables false
set_option maxRecDepth 20000 in
set_option maxHeartbeats 4000000 in
theorem ofKind1 (r : Nat → Int) (w : World) : Calls Tryz.prog 32 #[.agg #[.int .i64 1, .int .i64 (r 1), .int .i64 (r 2), .int .i64 (r 3), .int .i64 (r 4), .int .i64 (r 5), .int .i64 (r 6), .int .i64 (r 7), .int .i64 (r 8), .int .i64 (r 9), .int .i64 (r 10), .int .i64 (r 11), .int .i64 (r 12), .int .i64 (r 13), .int .i64 (r 14), .int .i64 (r 15)]] w fun e w' => e = .returned (.agg #[.int .i64 1, .int .i64 (r 1), .int .i64 (r 2), .int .i64 (r 3), .int .i64 (r 4), .int .i64 (r 5), .int .i64 0, .int .i64 0, .int .i64 0, .int .i64 0, .int .i64 0, .int .i64 0, .int .i64 0, .int .i64 0, .int .i64 0, .int .i64 0]) ∧ Below w.heap.size w w' := by
  go_enter Tryz.func32, Tryz.ntmps32
  go_wp2
  exact bodyPost_ret (v := .agg #[.int .i64 1, .int .i64 (r 1), .int .i64 (r 2), .int .i64 (r 3), .int .i64 (r 4), .int .i64 (r 5), .int .i64 0, .int .i64 0, .int .i64 0, .int .i64 0, .int .i64 0, .int .i64 0, .int .i64 0, .int .i64 0, .int .i64 0, .int .i64 0]) (by simp [results, Tryz.results32, go_sem]) rfl ⟨rfl, ((Below.refl _ _).alloc (by simp) _).alloc (by simp) _⟩
set_option maxRecDepth 20000 in
set_option maxHeartbeats 4000000 in
theorem ofKind2 (r : Nat → Int) (w : World) : Calls Tryz.prog 32 #[.agg #[.int .i64 2, .int .i64 (r 1), .int .i64 (r 2), .int .i64 (r 3), .int .i64 (r 4), .int .i64 (r 5), .int .i64 (r 6), .int .i64 (r 7), .int .i64 (r 8), .int .i64 (r 9), .int .i64 (r 10), .int .i64 (r 11), .int .i64 (r 12), .int .i64 (r 13), .int .i64 (r 14), .int .i64 (r 15)]] w fun e w' => e = .returned (.agg #[.int .i64 2, .int .i64 0, .int .i64 0, .int .i64 0, .int .i64 0, .int .i64 0, .int .i64 (r 6), .int .i64 (r 7), .int .i64 (r 8), .int .i64 (r 9), .int .i64 (r 10), .int .i64 (r 11), .int .i64 (r 12), .int .i64 (r 13), .int .i64 (r 14), .int .i64 0]) ∧ Below w.heap.size w w' := by
  go_enter Tryz.func32, Tryz.ntmps32
  go_wp2
  exact bodyPost_ret (v := .agg #[.int .i64 2, .int .i64 0, .int .i64 0, .int .i64 0, .int .i64 0, .int .i64 0, .int .i64 (r 6), .int .i64 (r 7), .int .i64 (r 8), .int .i64 (r 9), .int .i64 (r 10), .int .i64 (r 11), .int .i64 (r 12), .int .i64 (r 13), .int .i64 (r 14), .int .i64 0]) (by simp [results, Tryz.results32, go_sem]) rfl ⟨rfl, ((Below.refl _ _).alloc (by simp) _).alloc (by simp) _⟩
set_option maxRecDepth 20000 in
set_option maxHeartbeats 4000000 in
theorem ofKind3 (r : Nat → Int) (w : World) : Calls Tryz.prog 32 #[.agg #[.int .i64 3, .int .i64 (r 1), .int .i64 (r 2), .int .i64 (r 3), .int .i64 (r 4), .int .i64 (r 5), .int .i64 (r 6), .int .i64 (r 7), .int .i64 (r 8), .int .i64 (r 9), .int .i64 (r 10), .int .i64 (r 11), .int .i64 (r 12), .int .i64 (r 13), .int .i64 (r 14), .int .i64 (r 15)]] w fun e w' => e = .returned (.agg #[.int .i64 3, .int .i64 0, .int .i64 0, .int .i64 0, .int .i64 0, .int .i64 0, .int .i64 (r 6), .int .i64 0, .int .i64 0, .int .i64 0, .int .i64 0, .int .i64 0, .int .i64 0, .int .i64 0, .int .i64 0, .int .i64 (r 15)]) ∧ Below w.heap.size w w' := by
  go_enter Tryz.func32, Tryz.ntmps32
  go_wp2
  exact bodyPost_ret (v := .agg #[.int .i64 3, .int .i64 0, .int .i64 0, .int .i64 0, .int .i64 0, .int .i64 0, .int .i64 (r 6), .int .i64 0, .int .i64 0, .int .i64 0, .int .i64 0, .int .i64 0, .int .i64 0, .int .i64 0, .int .i64 0, .int .i64 (r 15)]) (by simp [results, Tryz.results32, go_sem]) rfl ⟨rfl, ((Below.refl _ _).alloc (by simp) _).alloc (by simp) _⟩
set_option maxRecDepth 20000 in
set_option maxHeartbeats 4000000 in
theorem ofKind0 (k : Int) (q1 : (k == 1) = false) (q2 : (k == 2) = false) (q3 : (k == 3) = false) (r : Nat → Int) (w : World) : Calls Tryz.prog 32 #[.agg #[.int .i64 k, .int .i64 (r 1), .int .i64 (r 2), .int .i64 (r 3), .int .i64 (r 4), .int .i64 (r 5), .int .i64 (r 6), .int .i64 (r 7), .int .i64 (r 8), .int .i64 (r 9), .int .i64 (r 10), .int .i64 (r 11), .int .i64 (r 12), .int .i64 (r 13), .int .i64 (r 14), .int .i64 (r 15)]] w fun e w' => e = .returned (.agg #[.int .i64 0, .int .i64 0, .int .i64 0, .int .i64 0, .int .i64 0, .int .i64 0, .int .i64 0, .int .i64 0, .int .i64 0, .int .i64 0, .int .i64 0, .int .i64 0, .int .i64 0, .int .i64 0, .int .i64 0, .int .i64 0]) ∧ Below w.heap.size w w' := by
  go_enter Tryz.func32, Tryz.ntmps32
  go_wp2
  exact bodyPost_ret (v := .agg #[.int .i64 0, .int .i64 0, .int .i64 0, .int .i64 0, .int .i64 0, .int .i64 0, .int .i64 0, .int .i64 0, .int .i64 0, .int .i64 0, .int .i64 0, .int .i64 0, .int .i64 0, .int .i64 0, .int .i64 0, .int .i64 0]) (by simp [results, Tryz.results32, go_sem]) rfl ⟨rfl, ((Below.refl _ _).alloc (by simp) _).alloc (by simp) _⟩
end Go.Proofs.YtgioecjnghllhaaGreatDoor
namespace Go.Proofs.YtgioecjnghllhaaGreatDoor
open Go.RowKit Go.Deep
set_option linter.unusedVariables false
/-- Words with one space between; none, if one of them is missing. -/
def sentB (xs : List ByteArray) : ByteArray := if (xs.all fun x => !x.toList.isEmpty) = true then ⟨(Lib.join (xs.map (·.data.toList)) [32]).toArray⟩ else ⟨#[]⟩
set_option maxHeartbeats 2000000 in
theorem sentence2 (a b : ByteArray) (g : Nat) (w : World) (hg : g < w.heap.size) (h0 : w.cell? ⟨g, 0, none⟩ = some (.string a)) (h1 : w.cell? ⟨g, 1, none⟩ = some (.string b)) (z0 : a.size ≤ 1000) (z1 : b.size ≤ 1000) (e0 : a.toList.isEmpty = false) :
    Calls Tryz.prog 34 #[.slice (some ⟨g, 0, none⟩) 2 2] w fun e w' => e = .returned (.string (sentB [a, b])) ∧ Below w.heap.size w w' := by
  go_enter Tryz.func34, Tryz.ntmps34
  go_wp2_with fail
  refine wp_loop_rounds 3 ?_
  rw [rounds_succ]
  go_wp2_with fail
  cases e1 : b.toList.isEmpty
  rotate_left
  · rw [rounds_succ]
    go_wp2
    go_ret
    exact ⟨by simp [sentB, e1], Below.refl _ _⟩
  rw [rounds_succ]
  go_wp2_with fail
  rw [rounds_succ]
  go_wp2_with fail
  have hcells : ∀ (j : Nat) x, ([a, b] : List ByteArray)[j]? = some x → w.cell? ⟨g, 0 + j, none⟩ = some (.string x) := by
    intro j x hj
    rw [Nat.zero_add]
    match j, hj with
    | 0, hj => simp at hj; subst hj; exact h0
    | 1, hj => simp at hj; subst hj; exact h1
    | j + 2, hj => simp at hj
  have hlen : (Lib.join (([a, b] : List ByteArray).map (·.data.toList)) (⟨#[32]⟩ : ByteArray).data.toList).length ≤ 140737488355328 := by
    have q : ∀ x : ByteArray, x.data.toList.length = x.size := fun x => rfl
    simp [Lib.join, q]
    omega
  refine (Tryz.strings_Join g 0 2 [a, b] ⟨#[32]⟩ w hcells hg (by simp) (by simp) hlen).mono ?_
  rintro e w1 ⟨rfl, hb1⟩
  clear hcells hlen
  go_wp2
  go_ret
  exact ⟨by simp [sentB, e0, e1], hb1⟩
set_option maxHeartbeats 2000000 in
theorem sentence3 (a b c : ByteArray) (g : Nat) (w : World) (hg : g < w.heap.size) (h0 : w.cell? ⟨g, 0, none⟩ = some (.string a)) (h1 : w.cell? ⟨g, 1, none⟩ = some (.string b)) (h2 : w.cell? ⟨g, 2, none⟩ = some (.string c)) (z0 : a.size ≤ 1000) (z1 : b.size ≤ 1000) (z2 : c.size ≤ 1000) (e0 : a.toList.isEmpty = false) :
    Calls Tryz.prog 34 #[.slice (some ⟨g, 0, none⟩) 3 3] w fun e w' => e = .returned (.string (sentB [a, b, c])) ∧ Below w.heap.size w w' := by
  go_enter Tryz.func34, Tryz.ntmps34
  go_wp2_with fail
  refine wp_loop_rounds 4 ?_
  rw [rounds_succ]
  go_wp2_with fail
  cases e1 : b.toList.isEmpty
  rotate_left
  · rw [rounds_succ]
    go_wp2
    go_ret
    exact ⟨by simp [sentB, e1], Below.refl _ _⟩
  rw [rounds_succ]
  go_wp2_with fail
  cases e2 : c.toList.isEmpty
  rotate_left
  · rw [rounds_succ]
    go_wp2
    go_ret
    exact ⟨by simp [sentB, e2], Below.refl _ _⟩
  rw [rounds_succ]
  go_wp2_with fail
  rw [rounds_succ]
  go_wp2_with fail
  have hcells : ∀ (j : Nat) x, ([a, b, c] : List ByteArray)[j]? = some x → w.cell? ⟨g, 0 + j, none⟩ = some (.string x) := by
    intro j x hj
    rw [Nat.zero_add]
    match j, hj with
    | 0, hj => simp at hj; subst hj; exact h0
    | 1, hj => simp at hj; subst hj; exact h1
    | 2, hj => simp at hj; subst hj; exact h2
    | j + 3, hj => simp at hj
  have hlen : (Lib.join (([a, b, c] : List ByteArray).map (·.data.toList)) (⟨#[32]⟩ : ByteArray).data.toList).length ≤ 140737488355328 := by
    have q : ∀ x : ByteArray, x.data.toList.length = x.size := fun x => rfl
    simp [Lib.join, q]
    omega
  refine (Tryz.strings_Join g 0 3 [a, b, c] ⟨#[32]⟩ w hcells hg (by simp) (by simp) hlen).mono ?_
  rintro e w1 ⟨rfl, hb1⟩
  clear hcells hlen
  go_wp2
  go_ret
  exact ⟨by simp [sentB, e0, e1, e2], hb1⟩
end Go.Proofs.YtgioecjnghllhaaGreatDoor
namespace Go.Proofs.YtgioecjnghllhaaGreatDoor
open Go.RowKit Go.Deep
set_option linter.unusedVariables false
theorem tail_size {who k du n : Int} (h : kindB who k du n = true) : (tailOf k du n).size ≤ 60 := by
  have z3 : SP.size = 1 := by decide +kernel
  have zw := word_size du
  have a1 : (⟨#[115, 116, 101, 112, 32]⟩ : ByteArray).size = 5 := by decide +kernel
  have a2 : (⟨#[103, 105, 118, 101, 32]⟩ : ByteArray).size = 5 := by decide +kernel
  have a3 : (⟨#[100, 114, 111, 112, 32]⟩ : ByteArray).size = 5 := by decide +kernel
  have a4 : (⟨#[112, 105, 99, 107, 32]⟩ : ByteArray).size = 5 := by decide +kernel
  have a5 : (⟨#[116, 104, 114, 111, 119, 32]⟩ : ByteArray).size = 6 := by decide +kernel
  have a6 : (⟨#[114, 101, 115, 116]⟩ : ByteArray).size = 4 := by decide +kernel
  unfold tailOf
  split
  · simp only [tstep, ByteArray.size_append]; omega
  split
  · rename_i q1 q2
    have ht : 1 ≤ du ∧ du ≤ 9 := by have := h; simp [kindB, inB, q2] at this; omega
    have hn : 1 ≤ n ∧ n ≤ 9 := by have := h; simp [kindB, inB, q2] at this; omega
    have d1 := DD_size du (by omega)
    have d2 := DD_size n (by omega)
    simp only [tgive, ByteArray.size_append]; omega
  split
  · rename_i q1 q2 q3
    have hn : 1 ≤ n ∧ n ≤ 9 := by have := h; simp [kindB, inB, q3] at this; omega
    have d2 := DD_size n (by omega)
    simp only [tdrop, ByteArray.size_append]; omega
  split
  · rename_i q1 q2 q3 q4
    have hn : 1 ≤ n ∧ n ≤ 9 := by have := h; simp [kindB, inB, q4] at this; omega
    have d2 := DD_size n (by omega)
    simp only [tpick, ByteArray.size_append]; omega
  split
  · rename_i q1 q2 q3 q4 q5
    have hn : 1 ≤ n ∧ n ≤ 9 := by have := h; simp [kindB, inB, q5] at this; omega
    have d2 := DD_size n (by omega)
    simp only [tthrow, ByteArray.size_append]; omega
  · simp only [trest]; omega
theorem ordText_size (who seq k du n : Int) : (ordText who seq k du n).size ≤ 200 := by
  unfold ordText
  split
  · rename_i h
    obtain ⟨h1, h2, h3⟩ := ordB_true h
    have z1 := (OH_sizes who seq (DD_size who (by omega)) (DD_size seq (by omega))).2.2
    have z2 := tail_size h3
    simp only [ByteArray.size_append]
    omega
  · show (0 : Nat) ≤ 200
    omega
theorem pclText_size (pn pk i a n s l pc : Int) : (pclText pn pk i a n s l pc).size ≤ 1000 := by
  unfold pclText
  split
  · rename_i h
    have h1 : pn ≤ 100000 := by have := h.1; simp [inB] at this; omega
    have z1 := DD_size pn h1
    have z2 := cargo_size pk i a n s l pc
    have z3 : SP.size = 1 := by decide +kernel
    simp only [ByteArray.size_append]
    omega
  · show (0 : Nat) ≤ 1000
    omega
def eqK1 (r : Nat → Int) : Bool := (r 6 == 0 && (r 7 == 0 && (r 8 == 0 && (r 9 == 0 && (r 10 == 0 && (r 11 == 0 && (r 12 == 0 && (r 13 == 0 && (r 14 == 0 && (r 15 == 0))))))))))
theorem qk1 (r : Nat → Int) (w : World) : (if r 6 = 0 then (if r 7 = 0 then (if r 8 = 0 then (if r 9 = 0 then (if r 10 = 0 then (if r 11 = 0 then (if r 12 = 0 then (if r 13 = 0 then (if r 14 = 0 then (if r 15 = 0 then Result.ok (Next.value (Value.bool false)) w else Result.ok (Next.value (Value.bool true)) w) else Result.ok (Next.value (Value.bool true)) w) else Result.ok (Next.value (Value.bool true)) w) else Result.ok (Next.value (Value.bool true)) w) else Result.ok (Next.value (Value.bool true)) w) else Result.ok (Next.value (Value.bool true)) w) else Result.ok (Next.value (Value.bool true)) w) else Result.ok (Next.value (Value.bool true)) w) else Result.ok (Next.value (Value.bool true)) w) else Result.ok (Next.value (Value.bool true)) w) = Result.ok (Next.value (Value.bool (!eqK1 r))) w := by
  unfold eqK1
  by_cases h6 : r 6 = 0
  case neg => simp [h6]
  by_cases h7 : r 7 = 0
  case neg => simp [h6, h7]
  by_cases h8 : r 8 = 0
  case neg => simp [h6, h7, h8]
  by_cases h9 : r 9 = 0
  case neg => simp [h6, h7, h8, h9]
  by_cases h10 : r 10 = 0
  case neg => simp [h6, h7, h8, h9, h10]
  by_cases h11 : r 11 = 0
  case neg => simp [h6, h7, h8, h9, h10, h11]
  by_cases h12 : r 12 = 0
  case neg => simp [h6, h7, h8, h9, h10, h11, h12]
  by_cases h13 : r 13 = 0
  case neg => simp [h6, h7, h8, h9, h10, h11, h12, h13]
  by_cases h14 : r 14 = 0
  case neg => simp [h6, h7, h8, h9, h10, h11, h12, h13, h14]
  by_cases h15 : r 15 = 0
  case neg => simp [h6, h7, h8, h9, h10, h11, h12, h13, h14, h15]
  simp [h6, h7, h8, h9, h10, h11, h12, h13, h14, h15]
def eqK2 (r : Nat → Int) : Bool := (r 1 == 0 && (r 2 == 0 && (r 3 == 0 && (r 4 == 0 && (r 5 == 0 && (r 15 == 0))))))
theorem qk2 (r : Nat → Int) (w : World) : (if r 1 = 0 then (if r 2 = 0 then (if r 3 = 0 then (if r 4 = 0 then (if r 5 = 0 then (if r 15 = 0 then Result.ok (Next.value (Value.bool false)) w else Result.ok (Next.value (Value.bool true)) w) else Result.ok (Next.value (Value.bool true)) w) else Result.ok (Next.value (Value.bool true)) w) else Result.ok (Next.value (Value.bool true)) w) else Result.ok (Next.value (Value.bool true)) w) else Result.ok (Next.value (Value.bool true)) w) = Result.ok (Next.value (Value.bool (!eqK2 r))) w := by
  unfold eqK2
  by_cases h1 : r 1 = 0
  case neg => simp [h1]
  by_cases h2 : r 2 = 0
  case neg => simp [h1, h2]
  by_cases h3 : r 3 = 0
  case neg => simp [h1, h2, h3]
  by_cases h4 : r 4 = 0
  case neg => simp [h1, h2, h3, h4]
  by_cases h5 : r 5 = 0
  case neg => simp [h1, h2, h3, h4, h5]
  by_cases h15 : r 15 = 0
  case neg => simp [h1, h2, h3, h4, h5, h15]
  simp [h1, h2, h3, h4, h5, h15]
def eqK3 (r : Nat → Int) : Bool := (r 1 == 0 && (r 2 == 0 && (r 3 == 0 && (r 4 == 0 && (r 5 == 0 && (r 7 == 0 && (r 8 == 0 && (r 9 == 0 && (r 10 == 0 && (r 11 == 0 && (r 12 == 0 && (r 13 == 0 && (r 14 == 0)))))))))))))
theorem qk3 (r : Nat → Int) (w : World) : (if r 1 = 0 then (if r 2 = 0 then (if r 3 = 0 then (if r 4 = 0 then (if r 5 = 0 then (if r 7 = 0 then (if r 8 = 0 then (if r 9 = 0 then (if r 10 = 0 then (if r 11 = 0 then (if r 12 = 0 then (if r 13 = 0 then (if r 14 = 0 then Result.ok (Next.value (Value.bool false)) w else Result.ok (Next.value (Value.bool true)) w) else Result.ok (Next.value (Value.bool true)) w) else Result.ok (Next.value (Value.bool true)) w) else Result.ok (Next.value (Value.bool true)) w) else Result.ok (Next.value (Value.bool true)) w) else Result.ok (Next.value (Value.bool true)) w) else Result.ok (Next.value (Value.bool true)) w) else Result.ok (Next.value (Value.bool true)) w) else Result.ok (Next.value (Value.bool true)) w) else Result.ok (Next.value (Value.bool true)) w) else Result.ok (Next.value (Value.bool true)) w) else Result.ok (Next.value (Value.bool true)) w) else Result.ok (Next.value (Value.bool true)) w) = Result.ok (Next.value (Value.bool (!eqK3 r))) w := by
  unfold eqK3
  by_cases h1 : r 1 = 0
  case neg => simp [h1]
  by_cases h2 : r 2 = 0
  case neg => simp [h1, h2]
  by_cases h3 : r 3 = 0
  case neg => simp [h1, h2, h3]
  by_cases h4 : r 4 = 0
  case neg => simp [h1, h2, h3, h4]
  by_cases h5 : r 5 = 0
  case neg => simp [h1, h2, h3, h4, h5]
  by_cases h7 : r 7 = 0
  case neg => simp [h1, h2, h3, h4, h5, h7]
  by_cases h8 : r 8 = 0
  case neg => simp [h1, h2, h3, h4, h5, h7, h8]
  by_cases h9 : r 9 = 0
  case neg => simp [h1, h2, h3, h4, h5, h7, h8, h9]
  by_cases h10 : r 10 = 0
  case neg => simp [h1, h2, h3, h4, h5, h7, h8, h9, h10]
  by_cases h11 : r 11 = 0
  case neg => simp [h1, h2, h3, h4, h5, h7, h8, h9, h10, h11]
  by_cases h12 : r 12 = 0
  case neg => simp [h1, h2, h3, h4, h5, h7, h8, h9, h10, h11, h12]
  by_cases h13 : r 13 = 0
  case neg => simp [h1, h2, h3, h4, h5, h7, h8, h9, h10, h11, h12, h13]
  by_cases h14 : r 14 = 0
  case neg => simp [h1, h2, h3, h4, h5, h7, h8, h9, h10, h11, h12, h13, h14]
  simp [h1, h2, h3, h4, h5, h7, h8, h9, h10, h11, h12, h13, h14]
def logText (k : Int) (r : Nat → Int) : ByteArray :=
  if k = 1 then (if eqK1 r = true then sentB [⟨#[100, 111]⟩, (ordText (r 1) (r 2) (r 3) (r 4) (r 5))] else ⟨#[]⟩)
  else if k = 2 then (if eqK2 r = true then sentB [⟨#[105, 110]⟩, wordOf (r 6), (pclText (r 7) (r 8) (r 9) (r 10) (r 11) (r 12) (r 13) (r 14))] else ⟨#[]⟩)
  else if k = 3 then (if eqK3 r = true ∧ inB (r 15) 1 5000 = true then sentB [⟨#[97, 99, 107]⟩, wordOf (r 6), DD (r 15)] else ⟨#[]⟩)
  else ⟨#[]⟩
set_option maxHeartbeats 1000000 in
theorem come (r : Nat → Int) (w : World) : Calls Tryz.prog 37 #[.agg #[.int .i64 3, .int .i64 (r 1), .int .i64 (r 2), .int .i64 (r 3), .int .i64 (r 4), .int .i64 (r 5), .int .i64 (r 6), .int .i64 (r 7), .int .i64 (r 8), .int .i64 (r 9), .int .i64 (r 10), .int .i64 (r 11), .int .i64 (r 12), .int .i64 (r 13), .int .i64 (r 14), .int .i64 (r 15)]] w fun e w' => e = .returned (.bool (inB (r 15) 1 5000)) ∧ Below w.heap.size w w' := by
  go_enter Tryz.func37, Tryz.ntmps37
  go_wp2_with fail
  refine (in_impl _ _ _ _).mono ?_
  rintro e w1 ⟨rfl, rfl⟩
  go_wp2
  go_ret
  exact ⟨rfl, (Below.refl _ _).alloc (by simp) _⟩
end Go.Proofs.YtgioecjnghllhaaGreatDoor
