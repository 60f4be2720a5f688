/- Texts of records: what they are; conditions: those typed. -/
import Derived.Test.YtbiccpmaoagalaaDoorLT2
import Derived.Test.YtbiccpmaoagalaaDoorOText3
import Derived.Test.YtbiccpmaoagalaaDoorPText2
import Derived.Deep.RegionHeld3
import Derived.Deep.QuietTactic
import Derived.BigQuiet
import Derived.Deep.Cut
namespace Go.Proofs.YtbiccpmaoagalaaDoor
open Go.RowKit Go.Deep
set_option linter.unusedVariables false

theorem tail_size {who k du n : Int} (h : kindB who k du n = true) : (tailOf k du n).size ≤ 60 := by
  have z3 : SP.size = 1 := by decide +kernel
  have zw := word_size du
  have a1 : (⟨#[115, 116, 101, 112, 32]⟩ : ByteArray).size = 5 := by decide +kernel
  have a2 : (⟨#[103, 105, 118, 101, 32]⟩ : ByteArray).size = 5 := by decide +kernel
  have a3 : (⟨#[100, 114, 111, 112, 32]⟩ : ByteArray).size = 5 := by decide +kernel
  have a4 : (⟨#[112, 105, 99, 107, 32]⟩ : ByteArray).size = 5 := by decide +kernel
  have a5 : (⟨#[116, 104, 114, 111, 119, 32]⟩ : ByteArray).size = 6 := by decide +kernel
  have a6 : (⟨#[114, 101, 115, 116]⟩ : ByteArray).size = 4 := by decide +kernel
  unfold tailOf
  split
  · simp only [tstep, ByteArray.size_append]; omega
  split
  · rename_i q1 q2
    have ht : 1 ≤ du ∧ du ≤ 9 := by have := h; simp [kindB, inB, q2] at this; omega
    have hn : 1 ≤ n ∧ n ≤ 9 := by have := h; simp [kindB, inB, q2] at this; omega
    have d1 := DD_size du (by omega)
    have d2 := DD_size n (by omega)
    simp only [tgive, ByteArray.size_append]; omega
  split
  · rename_i q1 q2 q3
    have hn : 1 ≤ n ∧ n ≤ 9 := by have := h; simp [kindB, inB, q3] at this; omega
    have d2 := DD_size n (by omega)
    simp only [tdrop, ByteArray.size_append]; omega
  split
  · rename_i q1 q2 q3 q4
    have hn : 1 ≤ n ∧ n ≤ 9 := by have := h; simp [kindB, inB, q4] at this; omega
    have d2 := DD_size n (by omega)
    simp only [tpick, ByteArray.size_append]; omega
  split
  · rename_i q1 q2 q3 q4 q5
    have hn : 1 ≤ n ∧ n ≤ 9 := by have := h; simp [kindB, inB, q5] at this; omega
    have d2 := DD_size n (by omega)
    simp only [tthrow, ByteArray.size_append]; omega
  · simp only [trest]; omega

theorem ordText_size (who seq k du n : Int) : (ordText who seq k du n).size ≤ 200 := by
  unfold ordText
  split
  · rename_i h
    obtain ⟨h1, h2, h3⟩ := ordB_true h
    have z1 := (OH_sizes who seq (DD_size who (by omega)) (DD_size seq (by omega))).2.2
    have z2 := tail_size h3
    simp only [ByteArray.size_append]
    omega
  · show (0 : Nat) ≤ 200
    omega

theorem pclText_size (pn pk i a n s l pc : Int) : (pclText pn pk i a n s l pc).size ≤ 1000 := by
  unfold pclText
  split
  · rename_i h
    have h1 : pn ≤ 100000 := by have := h.1; simp [inB] at this; omega
    have z1 := DD_size pn h1
    have z2 := cargo_size pk i a n s l pc
    have z3 : SP.size = 1 := by decide +kernel
    simp only [ByteArray.size_append]
    omega
  · show (0 : Nat) ≤ 1000
    omega
def eqK1 (r : Nat → Int) : Bool := (r 6 == 0 && (r 7 == 0 && (r 8 == 0 && (r 9 == 0 && (r 10 == 0 && (r 11 == 0 && (r 12 == 0 && (r 13 == 0 && (r 14 == 0 && (r 15 == 0))))))))))
theorem qk1 (r : Nat → Int) (w : World) : (if r 6 = 0 then (if r 7 = 0 then (if r 8 = 0 then (if r 9 = 0 then (if r 10 = 0 then (if r 11 = 0 then (if r 12 = 0 then (if r 13 = 0 then (if r 14 = 0 then (if r 15 = 0 then Result.ok (Next.value (Value.bool false)) w else Result.ok (Next.value (Value.bool true)) w) else Result.ok (Next.value (Value.bool true)) w) else Result.ok (Next.value (Value.bool true)) w) else Result.ok (Next.value (Value.bool true)) w) else Result.ok (Next.value (Value.bool true)) w) else Result.ok (Next.value (Value.bool true)) w) else Result.ok (Next.value (Value.bool true)) w) else Result.ok (Next.value (Value.bool true)) w) else Result.ok (Next.value (Value.bool true)) w) else Result.ok (Next.value (Value.bool true)) w) = Result.ok (Next.value (Value.bool (!eqK1 r))) w := by
  unfold eqK1
  by_cases h6 : r 6 = 0
  case neg => simp [h6]
  by_cases h7 : r 7 = 0
  case neg => simp [h6, h7]
  by_cases h8 : r 8 = 0
  case neg => simp [h6, h7, h8]
  by_cases h9 : r 9 = 0
  case neg => simp [h6, h7, h8, h9]
  by_cases h10 : r 10 = 0
  case neg => simp [h6, h7, h8, h9, h10]
  by_cases h11 : r 11 = 0
  case neg => simp [h6, h7, h8, h9, h10, h11]
  by_cases h12 : r 12 = 0
  case neg => simp [h6, h7, h8, h9, h10, h11, h12]
  by_cases h13 : r 13 = 0
  case neg => simp [h6, h7, h8, h9, h10, h11, h12, h13]
  by_cases h14 : r 14 = 0
  case neg => simp [h6, h7, h8, h9, h10, h11, h12, h13, h14]
  by_cases h15 : r 15 = 0
  case neg => simp [h6, h7, h8, h9, h10, h11, h12, h13, h14, h15]
  simp [h6, h7, h8, h9, h10, h11, h12, h13, h14, h15]
def eqK2 (r : Nat → Int) : Bool := (r 1 == 0 && (r 2 == 0 && (r 3 == 0 && (r 4 == 0 && (r 5 == 0 && (r 15 == 0))))))
theorem qk2 (r : Nat → Int) (w : World) : (if r 1 = 0 then (if r 2 = 0 then (if r 3 = 0 then (if r 4 = 0 then (if r 5 = 0 then (if r 15 = 0 then Result.ok (Next.value (Value.bool false)) w else Result.ok (Next.value (Value.bool true)) w) else Result.ok (Next.value (Value.bool true)) w) else Result.ok (Next.value (Value.bool true)) w) else Result.ok (Next.value (Value.bool true)) w) else Result.ok (Next.value (Value.bool true)) w) else Result.ok (Next.value (Value.bool true)) w) = Result.ok (Next.value (Value.bool (!eqK2 r))) w := by
  unfold eqK2
  by_cases h1 : r 1 = 0
  case neg => simp [h1]
  by_cases h2 : r 2 = 0
  case neg => simp [h1, h2]
  by_cases h3 : r 3 = 0
  case neg => simp [h1, h2, h3]
  by_cases h4 : r 4 = 0
  case neg => simp [h1, h2, h3, h4]
  by_cases h5 : r 5 = 0
  case neg => simp [h1, h2, h3, h4, h5]
  by_cases h15 : r 15 = 0
  case neg => simp [h1, h2, h3, h4, h5, h15]
  simp [h1, h2, h3, h4, h5, h15]
def eqK3 (r : Nat → Int) : Bool := (r 1 == 0 && (r 2 == 0 && (r 3 == 0 && (r 4 == 0 && (r 5 == 0 && (r 7 == 0 && (r 8 == 0 && (r 9 == 0 && (r 10 == 0 && (r 11 == 0 && (r 12 == 0 && (r 13 == 0 && (r 14 == 0)))))))))))))
theorem qk3 (r : Nat → Int) (w : World) : (if r 1 = 0 then (if r 2 = 0 then (if r 3 = 0 then (if r 4 = 0 then (if r 5 = 0 then (if r 7 = 0 then (if r 8 = 0 then (if r 9 = 0 then (if r 10 = 0 then (if r 11 = 0 then (if r 12 = 0 then (if r 13 = 0 then (if r 14 = 0 then Result.ok (Next.value (Value.bool false)) w else Result.ok (Next.value (Value.bool true)) w) else Result.ok (Next.value (Value.bool true)) w) else Result.ok (Next.value (Value.bool true)) w) else Result.ok (Next.value (Value.bool true)) w) else Result.ok (Next.value (Value.bool true)) w) else Result.ok (Next.value (Value.bool true)) w) else Result.ok (Next.value (Value.bool true)) w) else Result.ok (Next.value (Value.bool true)) w) else Result.ok (Next.value (Value.bool true)) w) else Result.ok (Next.value (Value.bool true)) w) else Result.ok (Next.value (Value.bool true)) w) else Result.ok (Next.value (Value.bool true)) w) else Result.ok (Next.value (Value.bool true)) w) = Result.ok (Next.value (Value.bool (!eqK3 r))) w := by
  unfold eqK3
  by_cases h1 : r 1 = 0
  case neg => simp [h1]
  by_cases h2 : r 2 = 0
  case neg => simp [h1, h2]
  by_cases h3 : r 3 = 0
  case neg => simp [h1, h2, h3]
  by_cases h4 : r 4 = 0
  case neg => simp [h1, h2, h3, h4]
  by_cases h5 : r 5 = 0
  case neg => simp [h1, h2, h3, h4, h5]
  by_cases h7 : r 7 = 0
  case neg => simp [h1, h2, h3, h4, h5, h7]
  by_cases h8 : r 8 = 0
  case neg => simp [h1, h2, h3, h4, h5, h7, h8]
  by_cases h9 : r 9 = 0
  case neg => simp [h1, h2, h3, h4, h5, h7, h8, h9]
  by_cases h10 : r 10 = 0
  case neg => simp [h1, h2, h3, h4, h5, h7, h8, h9, h10]
  by_cases h11 : r 11 = 0
  case neg => simp [h1, h2, h3, h4, h5, h7, h8, h9, h10, h11]
  by_cases h12 : r 12 = 0
  case neg => simp [h1, h2, h3, h4, h5, h7, h8, h9, h10, h11, h12]
  by_cases h13 : r 13 = 0
  case neg => simp [h1, h2, h3, h4, h5, h7, h8, h9, h10, h11, h12, h13]
  by_cases h14 : r 14 = 0
  case neg => simp [h1, h2, h3, h4, h5, h7, h8, h9, h10, h11, h12, h13, h14]
  simp [h1, h2, h3, h4, h5, h7, h8, h9, h10, h11, h12, h13, h14]
def logText (k : Int) (r : Nat → Int) : ByteArray :=
  if k = 1 then (if eqK1 r = true then sentB [⟨#[100, 111]⟩, (ordText (r 1) (r 2) (r 3) (r 4) (r 5))] else ⟨#[]⟩)
  else if k = 2 then (if eqK2 r = true then sentB [⟨#[105, 110]⟩, wordOf (r 6), (pclText (r 7) (r 8) (r 9) (r 10) (r 11) (r 12) (r 13) (r 14))] else ⟨#[]⟩)
  else if k = 3 then (if eqK3 r = true ∧ inB (r 15) 1 5000 = true then sentB [⟨#[97, 99, 107]⟩, wordOf (r 6), DD (r 15)] else ⟨#[]⟩)
  else ⟨#[]⟩

set_option maxHeartbeats 1000000 in
theorem come (r : Nat → Int) (w : World) : Calls Tryd.prog 20 #[.agg #[.int .i64 3, .int .i64 (r 1), .int .i64 (r 2), .int .i64 (r 3), .int .i64 (r 4), .int .i64 (r 5), .int .i64 (r 6), .int .i64 (r 7), .int .i64 (r 8), .int .i64 (r 9), .int .i64 (r 10), .int .i64 (r 11), .int .i64 (r 12), .int .i64 (r 13), .int .i64 (r 14), .int .i64 (r 15)]] w fun e w' => e = .returned (.bool (inB (r 15) 1 5000)) ∧ Below w.heap.size w w' := by
  go_enter Tryd.func20, Tryd.ntmps20
  go_wp2_with fail
  refine (in_impl _ _ _ _).mono ?_
  rintro e w1 ⟨rfl, rfl⟩
  go_wp2
  go_ret
  exact ⟨rfl, (Below.refl _ _).alloc (by simp) _⟩

end Go.Proofs.YtbiccpmaoagalaaDoor
