/- MsgOk of the model; conditions: none. -/
import Derived.Test.YtgjapdjidighlabGreatGst2
import Derived.Test.YtgjapdjidighlabGreatOrd2
import Derived.Test.YtgjapdjidighlabGreatPcl1
import Derived.Deep.MidRow
namespace Go.Proofs.YtgjapdjidighlabGreat
open Go.RowKit Go.Deep
set_option linter.unusedVariables false
def z5 (x : Nat → Int) : Bool := (x 5 == 0 && (x 6 == 0 && (x 7 == 0 && (x 8 == 0 && x 9 == 0))))
def z8 (x : Nat → Int) : Bool := (x 10 == 0 && (x 11 == 0 && (x 12 == 0 && (x 13 == 0 && (x 14 == 0 && (x 15 == 0 && (x 16 == 0 && x 17 == 0)))))))
def z7 (x : Nat → Int) : Bool := (x 18 == 0 && (x 19 == 0 && (x 20 == 0 && (x 21 == 0 && (x 22 == 0 && (x 23 == 0 && x 24 == 0))))))
def bareB (o p g : Bool) (x : Nat → Int) : Bool := (o || z5 x) && ((p || z8 x) && (g || z7 x))
def toB (k sv t : Int) : Bool := if k = 3 ∨ k = 4 then t == -1 else inB t 0 (sv - 1)
def kindM (c d k : Int) (x : Nat → Int) : Bool :=
  if k = 1 then ((x 3 == 0) && (inB (x 4) 1 900 && bareB false false false x)) else if k = 2 then ((x 3 == 0) && ((x 4 == 0) && (ordB (x 5) (x 6) (x 7) (x 8) (x 9) && bareB true false false x))) else if k = 3 then ((x 3 == 0) && (inB (x 4) 1 9 && (ordB (x 5) (x 6) (x 7) (x 8) (x 9) && bareB true false false x))) else if k = 4 then ((x 3 == 0) && ((x 4 == 0) && (ordB (x 5) (x 6) (x 7) (x 8) (x 9) && bareB true false false x))) else if k = 5 then ((sideF c d (x 2) (x 3) != -1) && ((x 4 == 0) && (pclB c d (x 10) (x 11) (x 12) (x 13) (x 14) (x 15) (x 16) (x 17) && bareB false true false x))) else if k = 6 then ((sideF c d (x 2) (x 3) != -1) && (inB (x 4) 1 5000 && bareB false false false x)) else if k = 7 then ((sideF c d (x 2) (x 3) != -1) && ((x 4 == 0) && (gstB c d (x 18) (x 19) (x 20) (x 21) (x 22) (x 23) (x 24) && ((x 18 == sideF c d (x 2) (x 3)) && bareB false false true x)))) else false
def msgB (c d sv k : Int) (x : Nat → Int) : Bool := okB c d && (inB sv 1 3 && (inB (x 2) 0 (c - 1) && (inB (x 3) 0 1 && (toB k sv (x 1) && kindM c d k x))))
theorem q5 (x : Nat → Int) (w : World) : (if x 5 = 0 then (if x 6 = 0 then (if x 7 = 0 then (if x 8 = 0 then (if x 9 = 0 then Result.ok (Value.bool true) w else Result.ok (Value.bool false) w) else Result.ok (Value.bool false) w) else Result.ok (Value.bool false) w) else Result.ok (Value.bool false) w) else Result.ok (Value.bool false) w) = Result.ok (Value.bool (z5 x)) w := by
  unfold z5; (repeat' split) <;> simp_all
theorem q8 (x : Nat → Int) (w : World) : (if x 10 = 0 then (if x 11 = 0 then (if x 12 = 0 then (if x 13 = 0 then (if x 14 = 0 then (if x 15 = 0 then (if x 16 = 0 then (if x 17 = 0 then Result.ok (Value.bool true) w else Result.ok (Value.bool false) w) else Result.ok (Value.bool false) w) else Result.ok (Value.bool false) w) else Result.ok (Value.bool false) w) else Result.ok (Value.bool false) w) else Result.ok (Value.bool false) w) else Result.ok (Value.bool false) w) else Result.ok (Value.bool false) w) = Result.ok (Value.bool (z8 x)) w := by
  unfold z8; (repeat' split) <;> simp_all
theorem q7 (x : Nat → Int) (w : World) : (if x 18 = 0 then (if x 19 = 0 then (if x 20 = 0 then (if x 21 = 0 then (if x 22 = 0 then (if x 23 = 0 then (if x 24 = 0 then Result.ok (Value.bool true) w else Result.ok (Value.bool false) w) else Result.ok (Value.bool false) w) else Result.ok (Value.bool false) w) else Result.ok (Value.bool false) w) else Result.ok (Value.bool false) w) else Result.ok (Value.bool false) w) else Result.ok (Value.bool false) w) = Result.ok (Value.bool (z7 x)) w := by
  unfold z7; (repeat' split) <;> simp_all
theorem Bk.range {W : World} {b : Nat} {l : List Value} (h : Bk W b l) : W.rangeAt b 0 l := by
  intro j v hv
  obtain ⟨hj, rfl⟩ := List.getElem?_eq_some_iff.1 hv
  rw [Nat.zero_add]
  have g := (h.2 j hj).1
  rw [g, List.getD_eq_getElem?_getD, hv]; rfl
theorem some_getD {o : Option Value} (h : o.isSome = true) : o = some (o.getD undef) := by cases o with | none => cases h | some v => rfl
def load44 (v : Value) : Sem Value := Instr.loadAt 53 v
theorem load44_eq (v : Value) : Instr.loadAt 53 v = load44 v := rfl
def cellD (w : World) (b i : Nat) : Value := (w.cell? ⟨b, i, none⟩).getD undef
theorem run_load44 (b : Nat) (w : World) (h : (w.cell? ⟨b, 0, none⟩).isSome = true ∧ (w.cell? ⟨b, 1, none⟩).isSome = true ∧ (w.cell? ⟨b, 2, none⟩).isSome = true ∧ (w.cell? ⟨b, 3, none⟩).isSome = true ∧ (w.cell? ⟨b, 4, none⟩).isSome = true ∧ (w.cell? ⟨b, 5, none⟩).isSome = true ∧ (w.cell? ⟨b, 6, none⟩).isSome = true ∧ (w.cell? ⟨b, 7, none⟩).isSome = true ∧ (w.cell? ⟨b, 8, none⟩).isSome = true ∧ (w.cell? ⟨b, 9, none⟩).isSome = true ∧ (w.cell? ⟨b, 10, none⟩).isSome = true ∧ (w.cell? ⟨b, 11, none⟩).isSome = true ∧ (w.cell? ⟨b, 12, none⟩).isSome = true ∧ (w.cell? ⟨b, 13, none⟩).isSome = true ∧ (w.cell? ⟨b, 14, none⟩).isSome = true ∧ (w.cell? ⟨b, 15, none⟩).isSome = true ∧ (w.cell? ⟨b, 16, none⟩).isSome = true ∧ (w.cell? ⟨b, 17, none⟩).isSome = true ∧ (w.cell? ⟨b, 18, none⟩).isSome = true ∧ (w.cell? ⟨b, 19, none⟩).isSome = true ∧ (w.cell? ⟨b, 20, none⟩).isSome = true ∧ (w.cell? ⟨b, 21, none⟩).isSome = true ∧ (w.cell? ⟨b, 22, none⟩).isSome = true ∧ (w.cell? ⟨b, 23, none⟩).isSome = true ∧ (w.cell? ⟨b, 24, none⟩).isSome = true) :
    (load44 (.pointer (some ⟨b, 0, none⟩))).run Tryz.prog w = .ok (.agg #[cellD w b 0, cellD w b 1, cellD w b 2, cellD w b 3, cellD w b 4, cellD w b 5, cellD w b 6, cellD w b 7, cellD w b 8, cellD w b 9, cellD w b 10, cellD w b 11, cellD w b 12, cellD w b 13, cellD w b 14, cellD w b 15, cellD w b 16, cellD w b 17, cellD w b 18, cellD w b 19, cellD w b 20, cellD w b 21, cellD w b 22, cellD w b 23, cellD w b 24]) w := by
  refine run_loadAt_mid w b 0 53 [cellD w b 0, cellD w b 1, cellD w b 2, cellD w b 3, cellD w b 4, cellD w b 5, cellD w b 6, cellD w b 7, cellD w b 8, cellD w b 9, cellD w b 10, cellD w b 11, cellD w b 12, cellD w b 13, cellD w b 14, cellD w b 15, cellD w b 16, cellD w b 17, cellD w b 18, cellD w b 19, cellD w b 20, cellD w b 21, cellD w b 22, cellD w b 23, cellD w b 24] _ ?_ Tryz.underlying53 rfl (by kernel_rfl)
  obtain ⟨h0, h1, h2, h3, h4, h5, h6, h7, h8, h9, h10, h11, h12, h13, h14, h15, h16, h17, h18, h19, h20, h21, h22, h23, h24⟩ := h
  intro j v hv
  rw [Nat.zero_add]
  match j, hv with
  | 0, hv => cases hv; exact some_getD h0
  | 1, hv => cases hv; exact some_getD h1
  | 2, hv => cases hv; exact some_getD h2
  | 3, hv => cases hv; exact some_getD h3
  | 4, hv => cases hv; exact some_getD h4
  | 5, hv => cases hv; exact some_getD h5
  | 6, hv => cases hv; exact some_getD h6
  | 7, hv => cases hv; exact some_getD h7
  | 8, hv => cases hv; exact some_getD h8
  | 9, hv => cases hv; exact some_getD h9
  | 10, hv => cases hv; exact some_getD h10
  | 11, hv => cases hv; exact some_getD h11
  | 12, hv => cases hv; exact some_getD h12
  | 13, hv => cases hv; exact some_getD h13
  | 14, hv => cases hv; exact some_getD h14
  | 15, hv => cases hv; exact some_getD h15
  | 16, hv => cases hv; exact some_getD h16
  | 17, hv => cases hv; exact some_getD h17
  | 18, hv => cases hv; exact some_getD h18
  | 19, hv => cases hv; exact some_getD h19
  | 20, hv => cases hv; exact some_getD h20
  | 21, hv => cases hv; exact some_getD h21
  | 22, hv => cases hv; exact some_getD h22
  | 23, hv => cases hv; exact some_getD h23
  | 24, hv => cases hv; exact some_getD h24
  | j + 25, hv => simp at hv
attribute [local go_sem ↓] load44_eq
attribute [local go_sem] run_load44 cellD
set_option maxHeartbeats 2000000 in
theorem bare_spec (o p g : Bool) (k : Int) (x : Nat → Int) (w : World) :
    Calls Tryz.prog 34 #[.agg #[.int .i64 k, .int .i64 (x 1), .int .i64 (x 2), .int .i64 (x 3), .int .i64 (x 4), .int .i64 (x 5), .int .i64 (x 6), .int .i64 (x 7), .int .i64 (x 8), .int .i64 (x 9), .int .i64 (x 10), .int .i64 (x 11), .int .i64 (x 12), .int .i64 (x 13), .int .i64 (x 14), .int .i64 (x 15), .int .i64 (x 16), .int .i64 (x 17), .int .i64 (x 18), .int .i64 (x 19), .int .i64 (x 20), .int .i64 (x 21), .int .i64 (x 22), .int .i64 (x 23), .int .i64 (x 24)], .bool o, .bool p, .bool g] w fun e w' => e = .returned (.bool (bareB o p g x)) ∧ Below w.heap.size w w' := by
  have E5 := q5 x
  have E8 := q8 x
  have E7 := q7 x
  cases o <;> cases p <;> cases g
  all_goals
    go_enter Tryz.func34, Tryz.ntmps34
    go_wp2
    all_goals (go_ret; exact ⟨by clear E5 E8 E7; simp_all [bareB], (Below.refl _ _).alloc (by simp) _⟩)
end Go.Proofs.YtgjapdjidighlabGreat
