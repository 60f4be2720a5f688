/- HldOk, of the program and of the model, and the law over both; conditions: the hold lies in memory. -/
import Derived.Test.YtdmfncopcmhcjaaHld1
import Derived.Test.YtdmfncopcmhcjaaCOk5
namespace Go.Proofs.Ytdmfncopcmhcjaa
open Go.RowKit Go.ChangeShapes Go.WideShapes Go.ChangeAt Go.Deep
set_option linter.unusedVariables false


theorem isAge_impl (a : Int) (w : World) :
    Calls Try.prog 39 #[.int .i64 a] w fun e w' => e = .returned (.bool (inB a 0 900)) ∧ w' = w := by
  go_enter Try.func39, Try.ntmps39
  go_wp2_with (go_at_call 22; refine (in_impl _ _ _ _).mono ?_; rintro e w1 ⟨rfl, rfl⟩)
  go_ret
  exact ⟨rfl, rfl⟩

theorem isHoldAge_impl (a : Int) (w : World) :
    Calls Try.prog 21 #[.int .i64 a] w fun e w' => e = .returned (.bool (inB a 1 900)) ∧ w' = w := by
  by_cases h : 0 < a
  · have hv : inB a 1 900 = inB a 0 900 := by rw [Bool.eq_iff_iff]; simp only [inB, decide_eq_true_eq]; omega
    rw [hv]
    go_enter Try.func21, Try.ntmps21
    go_wp2_with (go_at_call 39; refine (isAge_impl _ _).mono ?_; rintro e w1 ⟨rfl, rfl⟩)
    go_ret
    exact ⟨rfl, rfl⟩
  · have hv : inB a 1 900 = false := by simp only [inB, decide_eq_false_iff_not]; omega
    rw [hv]
    go_enter Try.func21, Try.ntmps21
    go_wp2_with (go_at_call 39; refine (isAge_impl _ _).mono ?_; rintro e w1 ⟨rfl, rfl⟩)
    go_ret
    exact ⟨rfl, rfl⟩

def hldB (c d ag ct : Int) (V : CV) : Bool := inB ag 1 900 && (inB ct 0 250 && cllB c d V)

set_option maxHeartbeats 4000000 in
theorem hldOk_spec (c d : Int) (v : Value) (ag ct : Int) (V : CV) (lo : Nat) (hs : V.short 1048576) (w : World) (h : HCopy lo w v ag ct V) :
    Calls Try.prog 6 #[.agg #[.int .i64 c, .int .i64 d], v] w fun e w' => e = .returned (.bool (hldB c d ag ct V)) ∧ Below w.heap.size w w' := by
  obtain ⟨bW, bO, bX, bI, rfl, hC⟩ := h
  have C0 : Hid (CopyAt lo w (.agg #[.int .i64 V.c, .slice (some ⟨bW, 0, none⟩) V.nW V.nW, .int .i64 V.g, .slice (some ⟨bO, 0, none⟩) V.nO V.nO, .slice (some ⟨bX, 0, none⟩) V.nX V.nX, .slice (some ⟨bI, 0, none⟩) V.nI V.nI]) V) := hC
  have HS : Hid (V.short 1048576) := hs
  clear hC hs
  cases h1 : inB ag 1 900
  · go_enter Try.func6, Try.ntmps6
    go_wp2_with fail
    obtain ⟨w0, e0⟩ : ∃ w0, w0 = (w.alloc (.cells #[.int .i64 c, .int .i64 d] 33)).alloc (.cells #[.int .i64 ag, .int .i64 ct, .int .i64 V.c, .slice (some ⟨bW, 0, none⟩) V.nW V.nW, .int .i64 V.g, .slice (some ⟨bO, 0, none⟩) V.nO V.nO, .slice (some ⟨bX, 0, none⟩) V.nX V.nX, .slice (some ⟨bI, 0, none⟩) V.nI V.nI] 40) := ⟨_, rfl⟩
    have B1 : Hid (Below w.heap.size w w0) := by rw [e0]; exact ((Below.refl _ _).alloc (by simp) _).alloc (by simp) _
    have M2 : Hid (Bk w0 w.heap.size [.int .i64 c, .int .i64 d]) := by rw [e0]; exact (bk_new w 33 [.int .i64 c, .int .i64 d]).below ((Below.refl _ _).alloc (Nat.le_refl _) _)
    have G3 : Hid (Bk w0 (w.heap.size + 1) [.int .i64 ag, .int .i64 ct, .int .i64 V.c, .slice (some ⟨bW, 0, none⟩) V.nW V.nW, .int .i64 V.g, .slice (some ⟨bO, 0, none⟩) V.nO V.nO, .slice (some ⟨bX, 0, none⟩) V.nX V.nX, .slice (some ⟨bI, 0, none⟩) V.nI V.nI]) := by rw [e0]; have := bk_new (w.alloc (.cells #[.int .i64 c, .int .i64 d] 33)) 40 [.int .i64 ag, .int .i64 ct, .int .i64 V.c, .slice (some ⟨bW, 0, none⟩) V.nW V.nW, .int .i64 V.g, .slice (some ⟨bO, 0, none⟩) V.nO V.nO, .slice (some ⟨bX, 0, none⟩) V.nX V.nX, .slice (some ⟨bI, 0, none⟩) V.nI V.nI]; rwa [show (w.alloc (.cells #[.int .i64 c, .int .i64 d] 33)).heap.size = w.heap.size + 1 by simp] at this
    rw [← e0]
    clear e0
    refine (in_spec _ _ _ _).mono ?_
    rintro e w0 ⟨rfl, rfl⟩
    have yM0 : w0.cell? ⟨w.heap.size, 0, none⟩ = some (.int .i64 c) := (M2.out.2 0 (by simp)).1
    have yM1 : w0.cell? ⟨w.heap.size, 1, none⟩ = some (.int .i64 d) := (M2.out.2 1 (by simp)).1
    have hlM : w.heap.size < w0.heap.size := M2.out.1
    have yG0 : w0.cell? ⟨(w.heap.size + 1), 0, none⟩ = some (.int .i64 ag) := (G3.out.2 0 (by simp)).1
    have yG1 : w0.cell? ⟨(w.heap.size + 1), 1, none⟩ = some (.int .i64 ct) := (G3.out.2 1 (by simp)).1
    have yG2 : w0.cell? ⟨(w.heap.size + 1), 2, none⟩ = some (.int .i64 V.c) := (G3.out.2 2 (by simp)).1
    have yG3 : w0.cell? ⟨(w.heap.size + 1), 3, none⟩ = some (.slice (some ⟨bW, 0, none⟩) V.nW V.nW) := (G3.out.2 3 (by simp)).1
    have yG4 : w0.cell? ⟨(w.heap.size + 1), 4, none⟩ = some (.int .i64 V.g) := (G3.out.2 4 (by simp)).1
    have yG5 : w0.cell? ⟨(w.heap.size + 1), 5, none⟩ = some (.slice (some ⟨bO, 0, none⟩) V.nO V.nO) := (G3.out.2 5 (by simp)).1
    have yG6 : w0.cell? ⟨(w.heap.size + 1), 6, none⟩ = some (.slice (some ⟨bX, 0, none⟩) V.nX V.nX) := (G3.out.2 6 (by simp)).1
    have yG7 : w0.cell? ⟨(w.heap.size + 1), 7, none⟩ = some (.slice (some ⟨bI, 0, none⟩) V.nI V.nI) := (G3.out.2 7 (by simp)).1
    have hlG : (w.heap.size + 1) < w0.heap.size := G3.out.1
    rw [h1]
    go_wp2
    go_ret
    exact ⟨by simp [hldB, h1], B1.out⟩
  cases h2 : inB ct 0 250
  · go_enter Try.func6, Try.ntmps6
    go_wp2_with fail
    obtain ⟨w0, e0⟩ : ∃ w0, w0 = (w.alloc (.cells #[.int .i64 c, .int .i64 d] 33)).alloc (.cells #[.int .i64 ag, .int .i64 ct, .int .i64 V.c, .slice (some ⟨bW, 0, none⟩) V.nW V.nW, .int .i64 V.g, .slice (some ⟨bO, 0, none⟩) V.nO V.nO, .slice (some ⟨bX, 0, none⟩) V.nX V.nX, .slice (some ⟨bI, 0, none⟩) V.nI V.nI] 40) := ⟨_, rfl⟩
    have B1 : Hid (Below w.heap.size w w0) := by rw [e0]; exact ((Below.refl _ _).alloc (by simp) _).alloc (by simp) _
    have M2 : Hid (Bk w0 w.heap.size [.int .i64 c, .int .i64 d]) := by rw [e0]; exact (bk_new w 33 [.int .i64 c, .int .i64 d]).below ((Below.refl _ _).alloc (Nat.le_refl _) _)
    have G3 : Hid (Bk w0 (w.heap.size + 1) [.int .i64 ag, .int .i64 ct, .int .i64 V.c, .slice (some ⟨bW, 0, none⟩) V.nW V.nW, .int .i64 V.g, .slice (some ⟨bO, 0, none⟩) V.nO V.nO, .slice (some ⟨bX, 0, none⟩) V.nX V.nX, .slice (some ⟨bI, 0, none⟩) V.nI V.nI]) := by rw [e0]; have := bk_new (w.alloc (.cells #[.int .i64 c, .int .i64 d] 33)) 40 [.int .i64 ag, .int .i64 ct, .int .i64 V.c, .slice (some ⟨bW, 0, none⟩) V.nW V.nW, .int .i64 V.g, .slice (some ⟨bO, 0, none⟩) V.nO V.nO, .slice (some ⟨bX, 0, none⟩) V.nX V.nX, .slice (some ⟨bI, 0, none⟩) V.nI V.nI]; rwa [show (w.alloc (.cells #[.int .i64 c, .int .i64 d] 33)).heap.size = w.heap.size + 1 by simp] at this
    rw [← e0]
    clear e0
    refine (in_spec _ _ _ _).mono ?_
    rintro e w0 ⟨rfl, rfl⟩
    have yM0 : w0.cell? ⟨w.heap.size, 0, none⟩ = some (.int .i64 c) := (M2.out.2 0 (by simp)).1
    have yM1 : w0.cell? ⟨w.heap.size, 1, none⟩ = some (.int .i64 d) := (M2.out.2 1 (by simp)).1
    have hlM : w.heap.size < w0.heap.size := M2.out.1
    have yG0 : w0.cell? ⟨(w.heap.size + 1), 0, none⟩ = some (.int .i64 ag) := (G3.out.2 0 (by simp)).1
    have yG1 : w0.cell? ⟨(w.heap.size + 1), 1, none⟩ = some (.int .i64 ct) := (G3.out.2 1 (by simp)).1
    have yG2 : w0.cell? ⟨(w.heap.size + 1), 2, none⟩ = some (.int .i64 V.c) := (G3.out.2 2 (by simp)).1
    have yG3 : w0.cell? ⟨(w.heap.size + 1), 3, none⟩ = some (.slice (some ⟨bW, 0, none⟩) V.nW V.nW) := (G3.out.2 3 (by simp)).1
    have yG4 : w0.cell? ⟨(w.heap.size + 1), 4, none⟩ = some (.int .i64 V.g) := (G3.out.2 4 (by simp)).1
    have yG5 : w0.cell? ⟨(w.heap.size + 1), 5, none⟩ = some (.slice (some ⟨bO, 0, none⟩) V.nO V.nO) := (G3.out.2 5 (by simp)).1
    have yG6 : w0.cell? ⟨(w.heap.size + 1), 6, none⟩ = some (.slice (some ⟨bX, 0, none⟩) V.nX V.nX) := (G3.out.2 6 (by simp)).1
    have yG7 : w0.cell? ⟨(w.heap.size + 1), 7, none⟩ = some (.slice (some ⟨bI, 0, none⟩) V.nI V.nI) := (G3.out.2 7 (by simp)).1
    have hlG : (w.heap.size + 1) < w0.heap.size := G3.out.1
    rw [h1]
    go_wp2_with (go_at_call 18; refine (in_spec _ _ _ _).mono ?_; rintro e w0 ⟨rfl, rfl⟩; rw [h2])
    go_ret
    exact ⟨by simp [hldB, h2], B1.out⟩
  go_enter Try.func6, Try.ntmps6
  go_wp2_with fail
  obtain ⟨w0, e0⟩ : ∃ w0, w0 = (w.alloc (.cells #[.int .i64 c, .int .i64 d] 33)).alloc (.cells #[.int .i64 ag, .int .i64 ct, .int .i64 V.c, .slice (some ⟨bW, 0, none⟩) V.nW V.nW, .int .i64 V.g, .slice (some ⟨bO, 0, none⟩) V.nO V.nO, .slice (some ⟨bX, 0, none⟩) V.nX V.nX, .slice (some ⟨bI, 0, none⟩) V.nI V.nI] 40) := ⟨_, rfl⟩
  have B1 : Hid (Below w.heap.size w w0) := by rw [e0]; exact ((Below.refl _ _).alloc (by simp) _).alloc (by simp) _
  have M2 : Hid (Bk w0 w.heap.size [.int .i64 c, .int .i64 d]) := by rw [e0]; exact (bk_new w 33 [.int .i64 c, .int .i64 d]).below ((Below.refl _ _).alloc (Nat.le_refl _) _)
  have G3 : Hid (Bk w0 (w.heap.size + 1) [.int .i64 ag, .int .i64 ct, .int .i64 V.c, .slice (some ⟨bW, 0, none⟩) V.nW V.nW, .int .i64 V.g, .slice (some ⟨bO, 0, none⟩) V.nO V.nO, .slice (some ⟨bX, 0, none⟩) V.nX V.nX, .slice (some ⟨bI, 0, none⟩) V.nI V.nI]) := by rw [e0]; have := bk_new (w.alloc (.cells #[.int .i64 c, .int .i64 d] 33)) 40 [.int .i64 ag, .int .i64 ct, .int .i64 V.c, .slice (some ⟨bW, 0, none⟩) V.nW V.nW, .int .i64 V.g, .slice (some ⟨bO, 0, none⟩) V.nO V.nO, .slice (some ⟨bX, 0, none⟩) V.nX V.nX, .slice (some ⟨bI, 0, none⟩) V.nI V.nI]; rwa [show (w.alloc (.cells #[.int .i64 c, .int .i64 d] 33)).heap.size = w.heap.size + 1 by simp] at this
  rw [← e0]
  clear e0
  refine (in_spec _ _ _ _).mono ?_
  rintro e w0 ⟨rfl, rfl⟩
  have yM0 : w0.cell? ⟨w.heap.size, 0, none⟩ = some (.int .i64 c) := (M2.out.2 0 (by simp)).1
  have yM1 : w0.cell? ⟨w.heap.size, 1, none⟩ = some (.int .i64 d) := (M2.out.2 1 (by simp)).1
  have hlM : w.heap.size < w0.heap.size := M2.out.1
  have yG0 : w0.cell? ⟨(w.heap.size + 1), 0, none⟩ = some (.int .i64 ag) := (G3.out.2 0 (by simp)).1
  have yG1 : w0.cell? ⟨(w.heap.size + 1), 1, none⟩ = some (.int .i64 ct) := (G3.out.2 1 (by simp)).1
  have yG2 : w0.cell? ⟨(w.heap.size + 1), 2, none⟩ = some (.int .i64 V.c) := (G3.out.2 2 (by simp)).1
  have yG3 : w0.cell? ⟨(w.heap.size + 1), 3, none⟩ = some (.slice (some ⟨bW, 0, none⟩) V.nW V.nW) := (G3.out.2 3 (by simp)).1
  have yG4 : w0.cell? ⟨(w.heap.size + 1), 4, none⟩ = some (.int .i64 V.g) := (G3.out.2 4 (by simp)).1
  have yG5 : w0.cell? ⟨(w.heap.size + 1), 5, none⟩ = some (.slice (some ⟨bO, 0, none⟩) V.nO V.nO) := (G3.out.2 5 (by simp)).1
  have yG6 : w0.cell? ⟨(w.heap.size + 1), 6, none⟩ = some (.slice (some ⟨bX, 0, none⟩) V.nX V.nX) := (G3.out.2 6 (by simp)).1
  have yG7 : w0.cell? ⟨(w.heap.size + 1), 7, none⟩ = some (.slice (some ⟨bI, 0, none⟩) V.nI V.nI) := (G3.out.2 7 (by simp)).1
  have hlG : (w.heap.size + 1) < w0.heap.size := G3.out.1
  rw [h1]
  go_wp2_with fail
  refine (in_spec _ _ _ _).mono ?_
  rintro e w0 ⟨rfl, rfl⟩
  rw [h2]
  go_wp2_with fail
  clear yM0 yM1 hlM yG0 yG1 yG2 yG3 yG4 yG5 yG6 yG7 hlG
  refine (cllOk_spec c d _ V lo HS.out _ (C0.out.below B1.out)).mono ?_
  rintro e w1 ⟨rfl, hb1⟩
  have B1 := bthen B1.out hb1
  clear hb1
  go_wp2
  go_ret
  exact ⟨by simp [hldB, h1, h2], B1⟩

set_option maxHeartbeats 4000000 in
theorem hldOk_impl (c d : Int) (v : Value) (ag ct : Int) (V : CV) (lo : Nat) (hs : V.short 1048576) (w : World) (h : HCopy lo w v ag ct V) :
    Calls Try.prog 9 #[.agg #[.int .i64 c, .int .i64 d], v] w fun e w' => e = .returned (.bool (hldB c d ag ct V)) ∧ Below w.heap.size w w' := by
  obtain ⟨bW, bO, bX, bI, rfl, hC⟩ := h
  have C0 : Hid (CopyAt lo w (.agg #[.int .i64 V.c, .slice (some ⟨bW, 0, none⟩) V.nW V.nW, .int .i64 V.g, .slice (some ⟨bO, 0, none⟩) V.nO V.nO, .slice (some ⟨bX, 0, none⟩) V.nX V.nX, .slice (some ⟨bI, 0, none⟩) V.nI V.nI]) V) := hC
  have HS : Hid (V.short 1048576) := hs
  clear hC hs
  cases h1 : inB ag 1 900
  · go_enter Try.func9, Try.ntmps9
    go_wp2_with fail
    obtain ⟨w0, e0⟩ : ∃ w0, w0 = (w.alloc (.cells #[.int .i64 c, .int .i64 d] 33)).alloc (.cells #[.int .i64 ag, .int .i64 ct, .int .i64 V.c, .slice (some ⟨bW, 0, none⟩) V.nW V.nW, .int .i64 V.g, .slice (some ⟨bO, 0, none⟩) V.nO V.nO, .slice (some ⟨bX, 0, none⟩) V.nX V.nX, .slice (some ⟨bI, 0, none⟩) V.nI V.nI] 40) := ⟨_, rfl⟩
    have B1 : Hid (Below w.heap.size w w0) := by rw [e0]; exact ((Below.refl _ _).alloc (by simp) _).alloc (by simp) _
    have M2 : Hid (Bk w0 w.heap.size [.int .i64 c, .int .i64 d]) := by rw [e0]; exact (bk_new w 33 [.int .i64 c, .int .i64 d]).below ((Below.refl _ _).alloc (Nat.le_refl _) _)
    have G3 : Hid (Bk w0 (w.heap.size + 1) [.int .i64 ag, .int .i64 ct, .int .i64 V.c, .slice (some ⟨bW, 0, none⟩) V.nW V.nW, .int .i64 V.g, .slice (some ⟨bO, 0, none⟩) V.nO V.nO, .slice (some ⟨bX, 0, none⟩) V.nX V.nX, .slice (some ⟨bI, 0, none⟩) V.nI V.nI]) := by rw [e0]; have := bk_new (w.alloc (.cells #[.int .i64 c, .int .i64 d] 33)) 40 [.int .i64 ag, .int .i64 ct, .int .i64 V.c, .slice (some ⟨bW, 0, none⟩) V.nW V.nW, .int .i64 V.g, .slice (some ⟨bO, 0, none⟩) V.nO V.nO, .slice (some ⟨bX, 0, none⟩) V.nX V.nX, .slice (some ⟨bI, 0, none⟩) V.nI V.nI]; rwa [show (w.alloc (.cells #[.int .i64 c, .int .i64 d] 33)).heap.size = w.heap.size + 1 by simp] at this
    rw [← e0]
    clear e0
    refine (isHoldAge_impl _ _).mono ?_
    rintro e w0 ⟨rfl, rfl⟩
    have yM0 : w0.cell? ⟨w.heap.size, 0, none⟩ = some (.int .i64 c) := (M2.out.2 0 (by simp)).1
    have yM1 : w0.cell? ⟨w.heap.size, 1, none⟩ = some (.int .i64 d) := (M2.out.2 1 (by simp)).1
    have hlM : w.heap.size < w0.heap.size := M2.out.1
    have yG0 : w0.cell? ⟨(w.heap.size + 1), 0, none⟩ = some (.int .i64 ag) := (G3.out.2 0 (by simp)).1
    have yG1 : w0.cell? ⟨(w.heap.size + 1), 1, none⟩ = some (.int .i64 ct) := (G3.out.2 1 (by simp)).1
    have yG2 : w0.cell? ⟨(w.heap.size + 1), 2, none⟩ = some (.int .i64 V.c) := (G3.out.2 2 (by simp)).1
    have yG3 : w0.cell? ⟨(w.heap.size + 1), 3, none⟩ = some (.slice (some ⟨bW, 0, none⟩) V.nW V.nW) := (G3.out.2 3 (by simp)).1
    have yG4 : w0.cell? ⟨(w.heap.size + 1), 4, none⟩ = some (.int .i64 V.g) := (G3.out.2 4 (by simp)).1
    have yG5 : w0.cell? ⟨(w.heap.size + 1), 5, none⟩ = some (.slice (some ⟨bO, 0, none⟩) V.nO V.nO) := (G3.out.2 5 (by simp)).1
    have yG6 : w0.cell? ⟨(w.heap.size + 1), 6, none⟩ = some (.slice (some ⟨bX, 0, none⟩) V.nX V.nX) := (G3.out.2 6 (by simp)).1
    have yG7 : w0.cell? ⟨(w.heap.size + 1), 7, none⟩ = some (.slice (some ⟨bI, 0, none⟩) V.nI V.nI) := (G3.out.2 7 (by simp)).1
    have hlG : (w.heap.size + 1) < w0.heap.size := G3.out.1
    rw [h1]
    go_wp2
    go_ret
    exact ⟨by simp [hldB, h1], B1.out⟩
  cases h2 : inB ct 0 250
  · go_enter Try.func9, Try.ntmps9
    go_wp2_with fail
    obtain ⟨w0, e0⟩ : ∃ w0, w0 = (w.alloc (.cells #[.int .i64 c, .int .i64 d] 33)).alloc (.cells #[.int .i64 ag, .int .i64 ct, .int .i64 V.c, .slice (some ⟨bW, 0, none⟩) V.nW V.nW, .int .i64 V.g, .slice (some ⟨bO, 0, none⟩) V.nO V.nO, .slice (some ⟨bX, 0, none⟩) V.nX V.nX, .slice (some ⟨bI, 0, none⟩) V.nI V.nI] 40) := ⟨_, rfl⟩
    have B1 : Hid (Below w.heap.size w w0) := by rw [e0]; exact ((Below.refl _ _).alloc (by simp) _).alloc (by simp) _
    have M2 : Hid (Bk w0 w.heap.size [.int .i64 c, .int .i64 d]) := by rw [e0]; exact (bk_new w 33 [.int .i64 c, .int .i64 d]).below ((Below.refl _ _).alloc (Nat.le_refl _) _)
    have G3 : Hid (Bk w0 (w.heap.size + 1) [.int .i64 ag, .int .i64 ct, .int .i64 V.c, .slice (some ⟨bW, 0, none⟩) V.nW V.nW, .int .i64 V.g, .slice (some ⟨bO, 0, none⟩) V.nO V.nO, .slice (some ⟨bX, 0, none⟩) V.nX V.nX, .slice (some ⟨bI, 0, none⟩) V.nI V.nI]) := by rw [e0]; have := bk_new (w.alloc (.cells #[.int .i64 c, .int .i64 d] 33)) 40 [.int .i64 ag, .int .i64 ct, .int .i64 V.c, .slice (some ⟨bW, 0, none⟩) V.nW V.nW, .int .i64 V.g, .slice (some ⟨bO, 0, none⟩) V.nO V.nO, .slice (some ⟨bX, 0, none⟩) V.nX V.nX, .slice (some ⟨bI, 0, none⟩) V.nI V.nI]; rwa [show (w.alloc (.cells #[.int .i64 c, .int .i64 d] 33)).heap.size = w.heap.size + 1 by simp] at this
    rw [← e0]
    clear e0
    refine (isHoldAge_impl _ _).mono ?_
    rintro e w0 ⟨rfl, rfl⟩
    have yM0 : w0.cell? ⟨w.heap.size, 0, none⟩ = some (.int .i64 c) := (M2.out.2 0 (by simp)).1
    have yM1 : w0.cell? ⟨w.heap.size, 1, none⟩ = some (.int .i64 d) := (M2.out.2 1 (by simp)).1
    have hlM : w.heap.size < w0.heap.size := M2.out.1
    have yG0 : w0.cell? ⟨(w.heap.size + 1), 0, none⟩ = some (.int .i64 ag) := (G3.out.2 0 (by simp)).1
    have yG1 : w0.cell? ⟨(w.heap.size + 1), 1, none⟩ = some (.int .i64 ct) := (G3.out.2 1 (by simp)).1
    have yG2 : w0.cell? ⟨(w.heap.size + 1), 2, none⟩ = some (.int .i64 V.c) := (G3.out.2 2 (by simp)).1
    have yG3 : w0.cell? ⟨(w.heap.size + 1), 3, none⟩ = some (.slice (some ⟨bW, 0, none⟩) V.nW V.nW) := (G3.out.2 3 (by simp)).1
    have yG4 : w0.cell? ⟨(w.heap.size + 1), 4, none⟩ = some (.int .i64 V.g) := (G3.out.2 4 (by simp)).1
    have yG5 : w0.cell? ⟨(w.heap.size + 1), 5, none⟩ = some (.slice (some ⟨bO, 0, none⟩) V.nO V.nO) := (G3.out.2 5 (by simp)).1
    have yG6 : w0.cell? ⟨(w.heap.size + 1), 6, none⟩ = some (.slice (some ⟨bX, 0, none⟩) V.nX V.nX) := (G3.out.2 6 (by simp)).1
    have yG7 : w0.cell? ⟨(w.heap.size + 1), 7, none⟩ = some (.slice (some ⟨bI, 0, none⟩) V.nI V.nI) := (G3.out.2 7 (by simp)).1
    have hlG : (w.heap.size + 1) < w0.heap.size := G3.out.1
    rw [h1]
    go_wp2_with (go_at_call 22; refine (in_impl _ _ _ _).mono ?_; rintro e w0 ⟨rfl, rfl⟩; rw [h2])
    go_ret
    exact ⟨by simp [hldB, h2], B1.out⟩
  go_enter Try.func9, Try.ntmps9
  go_wp2_with fail
  obtain ⟨w0, e0⟩ : ∃ w0, w0 = (w.alloc (.cells #[.int .i64 c, .int .i64 d] 33)).alloc (.cells #[.int .i64 ag, .int .i64 ct, .int .i64 V.c, .slice (some ⟨bW, 0, none⟩) V.nW V.nW, .int .i64 V.g, .slice (some ⟨bO, 0, none⟩) V.nO V.nO, .slice (some ⟨bX, 0, none⟩) V.nX V.nX, .slice (some ⟨bI, 0, none⟩) V.nI V.nI] 40) := ⟨_, rfl⟩
  have B1 : Hid (Below w.heap.size w w0) := by rw [e0]; exact ((Below.refl _ _).alloc (by simp) _).alloc (by simp) _
  have M2 : Hid (Bk w0 w.heap.size [.int .i64 c, .int .i64 d]) := by rw [e0]; exact (bk_new w 33 [.int .i64 c, .int .i64 d]).below ((Below.refl _ _).alloc (Nat.le_refl _) _)
  have G3 : Hid (Bk w0 (w.heap.size + 1) [.int .i64 ag, .int .i64 ct, .int .i64 V.c, .slice (some ⟨bW, 0, none⟩) V.nW V.nW, .int .i64 V.g, .slice (some ⟨bO, 0, none⟩) V.nO V.nO, .slice (some ⟨bX, 0, none⟩) V.nX V.nX, .slice (some ⟨bI, 0, none⟩) V.nI V.nI]) := by rw [e0]; have := bk_new (w.alloc (.cells #[.int .i64 c, .int .i64 d] 33)) 40 [.int .i64 ag, .int .i64 ct, .int .i64 V.c, .slice (some ⟨bW, 0, none⟩) V.nW V.nW, .int .i64 V.g, .slice (some ⟨bO, 0, none⟩) V.nO V.nO, .slice (some ⟨bX, 0, none⟩) V.nX V.nX, .slice (some ⟨bI, 0, none⟩) V.nI V.nI]; rwa [show (w.alloc (.cells #[.int .i64 c, .int .i64 d] 33)).heap.size = w.heap.size + 1 by simp] at this
  rw [← e0]
  clear e0
  refine (isHoldAge_impl _ _).mono ?_
  rintro e w0 ⟨rfl, rfl⟩
  have yM0 : w0.cell? ⟨w.heap.size, 0, none⟩ = some (.int .i64 c) := (M2.out.2 0 (by simp)).1
  have yM1 : w0.cell? ⟨w.heap.size, 1, none⟩ = some (.int .i64 d) := (M2.out.2 1 (by simp)).1
  have hlM : w.heap.size < w0.heap.size := M2.out.1
  have yG0 : w0.cell? ⟨(w.heap.size + 1), 0, none⟩ = some (.int .i64 ag) := (G3.out.2 0 (by simp)).1
  have yG1 : w0.cell? ⟨(w.heap.size + 1), 1, none⟩ = some (.int .i64 ct) := (G3.out.2 1 (by simp)).1
  have yG2 : w0.cell? ⟨(w.heap.size + 1), 2, none⟩ = some (.int .i64 V.c) := (G3.out.2 2 (by simp)).1
  have yG3 : w0.cell? ⟨(w.heap.size + 1), 3, none⟩ = some (.slice (some ⟨bW, 0, none⟩) V.nW V.nW) := (G3.out.2 3 (by simp)).1
  have yG4 : w0.cell? ⟨(w.heap.size + 1), 4, none⟩ = some (.int .i64 V.g) := (G3.out.2 4 (by simp)).1
  have yG5 : w0.cell? ⟨(w.heap.size + 1), 5, none⟩ = some (.slice (some ⟨bO, 0, none⟩) V.nO V.nO) := (G3.out.2 5 (by simp)).1
  have yG6 : w0.cell? ⟨(w.heap.size + 1), 6, none⟩ = some (.slice (some ⟨bX, 0, none⟩) V.nX V.nX) := (G3.out.2 6 (by simp)).1
  have yG7 : w0.cell? ⟨(w.heap.size + 1), 7, none⟩ = some (.slice (some ⟨bI, 0, none⟩) V.nI V.nI) := (G3.out.2 7 (by simp)).1
  have hlG : (w.heap.size + 1) < w0.heap.size := G3.out.1
  rw [h1]
  go_wp2_with fail
  refine (in_impl _ _ _ _).mono ?_
  rintro e w0 ⟨rfl, rfl⟩
  rw [h2]
  go_wp2_with fail
  clear yM0 yM1 hlM yG0 yG1 yG2 yG3 yG4 yG5 yG6 yG7 hlG
  refine (cllOk_impl c d _ V lo HS.out _ (C0.out.below B1.out)).mono ?_
  rintro e w1 ⟨rfl, hb1⟩
  have B1 := bthen B1.out hb1
  clear hb1
  go_wp2
  go_ret
  exact ⟨by simp [hldB, h1, h2], B1⟩

theorem shortMore {V : CV} {m n : Nat} (h : V.short m) (hmn : m ≤ n) : V.short n :=
  ⟨Nat.le_trans h.1 hmn, Nat.le_trans h.2.1 hmn, fun k hk => Nat.le_trans (h.2.2.1 k hk) hmn, Nat.le_trans h.2.2.2.1 hmn, Nat.le_trans h.2.2.2.2 hmn⟩
set_option maxHeartbeats 8000000 in
theorem law_hldOk (c d : Int) (v : Value) (ag ct : Int) (V : CV) (hs : V.short maxLen) (w : World) (h : HoldAt w v ag ct V) :
    Calls Try.prog 3 #[.agg #[.int .i64 c, .int .i64 d], v] w fun e w' => e = .returned (.bool true) ∧ Below w.heap.size w w' := by
  obtain ⟨aW, kW, aO, kO, aX, kX, aI, kI, rfl, rW, rO, rX, rI⟩ := h
  have H0 : Hid (HoldAt w (.agg #[.int .i64 ag, .int .i64 ct, .int .i64 V.c, .slice aW V.nW kW, .int .i64 V.g, .slice aO V.nO kO, .slice aX V.nX kX, .slice aI V.nI kI]) ag ct V) := ⟨aW, kW, aO, kO, aX, kX, aI, kI, rfl, rW, rO, rX, rI⟩
  have HS0 : Hid (V.short maxLen) := hs
  clear rW rO rX rI hs
  go_enter Try.func3, Try.ntmps3
  go_wp2_with fail
  obtain ⟨w0, e0⟩ : ∃ w0, w0 = (w.alloc (.cells #[.int .i64 c, .int .i64 d] 23)).alloc (.cells #[.int .i64 ag, .int .i64 ct, .int .i64 V.c, .slice aW V.nW kW, .int .i64 V.g, .slice aO V.nO kO, .slice aX V.nX kX, .slice aI V.nI kI] 30) := ⟨_, rfl⟩
  have B1 : Hid (Below w.heap.size w w0) := by rw [e0]; exact ((Below.refl _ _).alloc (by simp) _).alloc (by simp) _
  have M2 : Hid (Bk w0 w.heap.size [.int .i64 c, .int .i64 d]) := by rw [e0]; exact (bk_new w 23 [.int .i64 c, .int .i64 d]).below ((Below.refl _ _).alloc (Nat.le_refl _) _)
  have A3 : Hid (Bk w0 (w.heap.size + 1) [.int .i64 ag, .int .i64 ct, .int .i64 V.c, .slice aW V.nW kW, .int .i64 V.g, .slice aO V.nO kO, .slice aX V.nX kX, .slice aI V.nI kI]) := by rw [e0]; have := bk_new (w.alloc (.cells #[.int .i64 c, .int .i64 d] 23)) 30 [.int .i64 ag, .int .i64 ct, .int .i64 V.c, .slice aW V.nW kW, .int .i64 V.g, .slice aO V.nO kO, .slice aX V.nX kX, .slice aI V.nI kI]; rwa [show (w.alloc (.cells #[.int .i64 c, .int .i64 d] 23)).heap.size = w.heap.size + 1 by simp] at this
  rw [← e0]
  clear e0
  refine (szHold _ ag ct V HS0.out _ (H0.out.below B1.out)).mono ?_
  rintro e w1 ⟨⟨r, rfl, hr⟩, hb1⟩
  have B4 : Hid (Below w.heap.size w w1) := bthen B1.out hb1
  have M4 : Hid (Bk w1 w.heap.size [.int .i64 c, .int .i64 d]) := M2.out.below hb1
  have A4 : Hid (Bk w1 (w.heap.size + 1) [.int .i64 ag, .int .i64 ct, .int .i64 V.c, .slice aW V.nW kW, .int .i64 V.g, .slice aO V.nO kO, .slice aX V.nX kX, .slice aI V.nI kI]) := A3.out.below hb1
  clear B1 M2 A3
  clear hb1
  rcases hr with hr | ⟨hr, hV⟩
  · go_wp2
    go_ret
    exact ⟨rfl, B4.out⟩
  have hr2 : ¬ r < 0 := by omega
  have HV : Hid (V.short 1048576) := hV
  clear hV
  have yM0 : w1.cell? ⟨w.heap.size, 0, none⟩ = some (.int .i64 c) := (M4.out.2 0 (by simp)).1
  have yM1 : w1.cell? ⟨w.heap.size, 1, none⟩ = some (.int .i64 d) := (M4.out.2 1 (by simp)).1
  have hlM : w.heap.size < w1.heap.size := M4.out.1
  have yA0 : w1.cell? ⟨(w.heap.size + 1), 0, none⟩ = some (.int .i64 ag) := (A4.out.2 0 (by simp)).1
  have yA1 : w1.cell? ⟨(w.heap.size + 1), 1, none⟩ = some (.int .i64 ct) := (A4.out.2 1 (by simp)).1
  have yA2 : w1.cell? ⟨(w.heap.size + 1), 2, none⟩ = some (.int .i64 V.c) := (A4.out.2 2 (by simp)).1
  have yA3 : w1.cell? ⟨(w.heap.size + 1), 3, none⟩ = some (.slice aW V.nW kW) := (A4.out.2 3 (by simp)).1
  have yA4 : w1.cell? ⟨(w.heap.size + 1), 4, none⟩ = some (.int .i64 V.g) := (A4.out.2 4 (by simp)).1
  have yA5 : w1.cell? ⟨(w.heap.size + 1), 5, none⟩ = some (.slice aO V.nO kO) := (A4.out.2 5 (by simp)).1
  have yA6 : w1.cell? ⟨(w.heap.size + 1), 6, none⟩ = some (.slice aX V.nX kX) := (A4.out.2 6 (by simp)).1
  have yA7 : w1.cell? ⟨(w.heap.size + 1), 7, none⟩ = some (.slice aI V.nI kI) := (A4.out.2 7 (by simp)).1
  have hlA : (w.heap.size + 1) < w1.heap.size := A4.out.1
  go_wp2
  refine wp_region_held_drew (S := fun w' => (∀ b o, b < w1.heap.size → w'.cell? ⟨b, o, none⟩ = w1.cell? ⟨b, o, none⟩) ∧ w1.heap.size ≤ w'.heap.size) (by kernel_rfl) ⟨fun _ _ _ => rfl, Nat.le_refl _⟩ ?_
  intro hHeld
  refine wpAnyH_take (i := 0) (v := .agg #[.int .i64 c, .int .i64 d]) rfl (by kernel_rfl) (by kernel_rfl) (by kernel_rfl) (fun _ _ _ h => h) (Or.inl ⟨by rfl, ?_⟩) (by assumption) ?_
  · intro wx hSw; go_simp
  try simp only [Act.put, List.setIfInBounds_toArray, List.set_cons_zero, List.set_cons_succ, List.getElem_toArray, List.getElem_cons_zero]
  refine wpAnyH_take (i := 2) (v := .agg #[.int .i64 ag, .int .i64 ct, .int .i64 V.c, .slice aW V.nW kW, .int .i64 V.g, .slice aO V.nO kO, .slice aX V.nX kX, .slice aI V.nI kI]) rfl (by kernel_rfl) (by kernel_rfl) (by kernel_rfl) (fun _ _ _ h => h) (Or.inl ⟨by rfl, ?_⟩) (by assumption) ?_
  · intro wx hSw; go_simp
  try simp only [Act.put, List.setIfInBounds_toArray, List.set_cons_zero, List.set_cons_succ, List.getElem_toArray, List.getElem_cons_zero, List.getElem_cons_succ]
  refine wpAnyH_ready (rs := [1]) (by kernel_rfl) (by simp) ?_
  refine AllReadyH.cons rfl (fun K hK => ?_) AllReadyH.nil
  go_simp
  go_wp2_with fail
  refine (toMap _ _ _).mono ?_
  rintro e x1 ⟨rfl, hx1⟩
  refine hK.out _ _ (keepS (by assumption) hx1) (fun hNew => ?_)
  clear hK K hHeld
  have hHeld := hNew
  clear hNew
  try simp only [Act.put, List.setIfInBounds_toArray, List.set_cons_zero, List.set_cons_succ, List.getElem_toArray, List.getElem_cons_zero, List.getElem_cons_succ]
  refine wpAnyH_ready (rs := [3]) (by kernel_rfl) (by simp) ?_
  refine AllReadyH.cons rfl (fun K hK => ?_) AllReadyH.nil
  go_simp
  go_wp2_with fail
  refine (toHold _ ag ct V HV.out _ (H0.out.below (bthen B4.out (by repeat (first | exact Below.refl _ _ | refine bthen ?_ (by assumption) | apply Below.drew))))).mono ?_
  rintro e x2 ⟨⟨v1, rfl, lo1, hC1⟩, hx2⟩
  refine hK.out _ _ (keepS (by assumption) hx2) (fun hNew => ?_)
  clear hK K hHeld
  have hHeld := hNew
  clear hNew
  try simp only [Act.put, List.setIfInBounds_toArray, List.set_cons_zero, List.set_cons_succ, List.getElem_toArray, List.getElem_cons_zero, List.getElem_cons_succ]
  refine wpAnyH_ready (rs := [4]) (by kernel_rfl) (by simp) ?_
  refine AllReadyH.cons rfl (fun K hK => ?_) AllReadyH.nil
  go_simp
  go_wp2_with fail
  refine (hldOk_spec c d v1 ag ct V lo1 HV.out _ hC1).mono ?_
  rintro e x3 ⟨rfl, hx3⟩
  refine hK.out _ _ (keepS (by assumption) hx3) (fun hNew => ?_)
  clear hK K hHeld
  have hHeld := hNew
  clear hNew
  try simp only [Act.put, List.setIfInBounds_toArray, List.set_cons_zero, List.set_cons_succ, List.getElem_toArray, List.getElem_cons_zero, List.getElem_cons_succ]
  refine wpAnyH_take (i := 5) (v := .bool (hldB c d ag ct V)) rfl (by kernel_rfl) (by kernel_rfl) (by kernel_rfl) (fun _ _ _ h => h) (Or.inl ⟨by rfl, ?_⟩) (by assumption) ?_
  · intro wx hSw; go_simp
  try simp only [Act.put, List.setIfInBounds_toArray, List.set_cons_zero, List.set_cons_succ, List.getElem_toArray, List.getElem_cons_zero, List.getElem_cons_succ]
  refine wpAnyH_done (by kernel_rfl) ?_ _
  clear hHeld
  have hb3 : Below w1.heap.size w1 x3 := by repeat (first | exact Below.refl _ _ | refine bthen ?_ (by assumption) | apply Below.drew)
  generalize x3 = w3 at *
  clear yM0 yM1 hlM yA0 yA1 yA2 yA3 yA4 yA5 yA6 yA7 hlA
  have B5 : Hid (Below w.heap.size w w3) := bthen B4.out hb3
  have M5 : Hid (Bk w3 w.heap.size [.int .i64 c, .int .i64 d]) := M4.out.below hb3
  have A5 : Hid (Bk w3 (w.heap.size + 1) [.int .i64 ag, .int .i64 ct, .int .i64 V.c, .slice aW V.nW kW, .int .i64 V.g, .slice aO V.nO kO, .slice aX V.nX kX, .slice aI V.nI kI]) := A4.out.below hb3
  clear B4 M4 A4
  clear hb3 hx1 hx2 hx3 hC1
  have yM0 : w3.cell? ⟨w.heap.size, 0, none⟩ = some (.int .i64 c) := (M5.out.2 0 (by simp)).1
  have yM1 : w3.cell? ⟨w.heap.size, 1, none⟩ = some (.int .i64 d) := (M5.out.2 1 (by simp)).1
  have hlM : w.heap.size < w3.heap.size := M5.out.1
  have yA0 : w3.cell? ⟨(w.heap.size + 1), 0, none⟩ = some (.int .i64 ag) := (A5.out.2 0 (by simp)).1
  have yA1 : w3.cell? ⟨(w.heap.size + 1), 1, none⟩ = some (.int .i64 ct) := (A5.out.2 1 (by simp)).1
  have yA2 : w3.cell? ⟨(w.heap.size + 1), 2, none⟩ = some (.int .i64 V.c) := (A5.out.2 2 (by simp)).1
  have yA3 : w3.cell? ⟨(w.heap.size + 1), 3, none⟩ = some (.slice aW V.nW kW) := (A5.out.2 3 (by simp)).1
  have yA4 : w3.cell? ⟨(w.heap.size + 1), 4, none⟩ = some (.int .i64 V.g) := (A5.out.2 4 (by simp)).1
  have yA5 : w3.cell? ⟨(w.heap.size + 1), 5, none⟩ = some (.slice aO V.nO kO) := (A5.out.2 5 (by simp)).1
  have yA6 : w3.cell? ⟨(w.heap.size + 1), 6, none⟩ = some (.slice aX V.nX kX) := (A5.out.2 6 (by simp)).1
  have yA7 : w3.cell? ⟨(w.heap.size + 1), 7, none⟩ = some (.slice aI V.nI kI) := (A5.out.2 7 (by simp)).1
  have hlA : (w.heap.size + 1) < w3.heap.size := A5.out.1
  go_wp2_with fail
  refine (toHold _ ag ct V HV.out _ (H0.out.below (bthen B5.out (by repeat (first | exact Below.refl _ _ | refine bthen ?_ (by assumption) | apply Below.drew))))).mono ?_
  rintro e w4 ⟨⟨v2, rfl, lo2, hC2⟩, hb4⟩
  clear yM0 yM1 hlM yA0 yA1 yA2 yA3 yA4 yA5 yA6 yA7 hlA
  have B6 : Hid (Below w.heap.size w w4) := bthen B5.out hb4
  have M6 : Hid (Bk w4 w.heap.size [.int .i64 c, .int .i64 d]) := M5.out.below hb4
  have A6 : Hid (Bk w4 (w.heap.size + 1) [.int .i64 ag, .int .i64 ct, .int .i64 V.c, .slice aW V.nW kW, .int .i64 V.g, .slice aO V.nO kO, .slice aX V.nX kX, .slice aI V.nI kI]) := A5.out.below hb4
  clear B5 M5 A5
  clear hb4
  obtain ⟨bW, bO, bX, bI, rfl, hC3⟩ := hC2
  have C4 : Hid (HCopy lo2 w4 (.agg #[.int .i64 ag, .int .i64 ct, .int .i64 V.c, .slice (some ⟨bW, 0, none⟩) V.nW V.nW, .int .i64 V.g, .slice (some ⟨bO, 0, none⟩) V.nO V.nO, .slice (some ⟨bX, 0, none⟩) V.nX V.nX, .slice (some ⟨bI, 0, none⟩) V.nI V.nI]) ag ct V) := ⟨bW, bO, bX, bI, rfl, hC3⟩
  clear hC3
  have yM0 : w4.cell? ⟨w.heap.size, 0, none⟩ = some (.int .i64 c) := (M6.out.2 0 (by simp)).1
  have yM1 : w4.cell? ⟨w.heap.size, 1, none⟩ = some (.int .i64 d) := (M6.out.2 1 (by simp)).1
  have hlM : w.heap.size < w4.heap.size := M6.out.1
  have yA0 : w4.cell? ⟨(w.heap.size + 1), 0, none⟩ = some (.int .i64 ag) := (A6.out.2 0 (by simp)).1
  have yA1 : w4.cell? ⟨(w.heap.size + 1), 1, none⟩ = some (.int .i64 ct) := (A6.out.2 1 (by simp)).1
  have yA2 : w4.cell? ⟨(w.heap.size + 1), 2, none⟩ = some (.int .i64 V.c) := (A6.out.2 2 (by simp)).1
  have yA3 : w4.cell? ⟨(w.heap.size + 1), 3, none⟩ = some (.slice aW V.nW kW) := (A6.out.2 3 (by simp)).1
  have yA4 : w4.cell? ⟨(w.heap.size + 1), 4, none⟩ = some (.int .i64 V.g) := (A6.out.2 4 (by simp)).1
  have yA5 : w4.cell? ⟨(w.heap.size + 1), 5, none⟩ = some (.slice aO V.nO kO) := (A6.out.2 5 (by simp)).1
  have yA6 : w4.cell? ⟨(w.heap.size + 1), 6, none⟩ = some (.slice aX V.nX kX) := (A6.out.2 6 (by simp)).1
  have yA7 : w4.cell? ⟨(w.heap.size + 1), 7, none⟩ = some (.slice aI V.nI kI) := (A6.out.2 7 (by simp)).1
  have hlA : (w.heap.size + 1) < w4.heap.size := A6.out.1
  go_wp2_with fail
  obtain ⟨w5, e5⟩ : ∃ w5, w5 = w4.alloc (.cells #[.int .i64 ag, .int .i64 ct, .int .i64 V.c, .slice (some ⟨bW, 0, none⟩) V.nW V.nW, .int .i64 V.g, .slice (some ⟨bO, 0, none⟩) V.nO V.nO, .slice (some ⟨bX, 0, none⟩) V.nX V.nX, .slice (some ⟨bI, 0, none⟩) V.nI V.nI] 40) := ⟨_, rfl⟩
  rw [← e5]
  have hb5 : Below w4.heap.size w4 w5 := by rw [e5]; exact (Below.refl _ _).alloc (Nat.le_refl _) _
  have X5 : Hid (Bk w5 w4.heap.size [.int .i64 ag, .int .i64 ct, .int .i64 V.c, .slice (some ⟨bW, 0, none⟩) V.nW V.nW, .int .i64 V.g, .slice (some ⟨bO, 0, none⟩) V.nO V.nO, .slice (some ⟨bX, 0, none⟩) V.nX V.nX, .slice (some ⟨bI, 0, none⟩) V.nI V.nI]) := by rw [e5]; exact bk_new w4 40 [.int .i64 ag, .int .i64 ct, .int .i64 V.c, .slice (some ⟨bW, 0, none⟩) V.nW V.nW, .int .i64 V.g, .slice (some ⟨bO, 0, none⟩) V.nO V.nO, .slice (some ⟨bX, 0, none⟩) V.nX V.nX, .slice (some ⟨bI, 0, none⟩) V.nI V.nI]
  clear e5
  clear yM0 yM1 hlM yA0 yA1 yA2 yA3 yA4 yA5 yA6 yA7 hlA
  have B7 : Hid (Below w.heap.size w w5) := bthen B6.out hb5
  have M7 : Hid (Bk w5 w.heap.size [.int .i64 c, .int .i64 d]) := M6.out.below hb5
  have A7 : Hid (Bk w5 (w.heap.size + 1) [.int .i64 ag, .int .i64 ct, .int .i64 V.c, .slice aW V.nW kW, .int .i64 V.g, .slice aO V.nO kO, .slice aX V.nX kX, .slice aI V.nI kI]) := A6.out.below hb5
  clear B6 M6 A6
  have C8 : Hid (HCopy lo2 w5 (.agg #[.int .i64 ag, .int .i64 ct, .int .i64 V.c, .slice (some ⟨bW, 0, none⟩) V.nW V.nW, .int .i64 V.g, .slice (some ⟨bO, 0, none⟩) V.nO V.nO, .slice (some ⟨bX, 0, none⟩) V.nX V.nX, .slice (some ⟨bI, 0, none⟩) V.nI V.nI]) ag ct V) := C4.out.below hb5
  clear C4 hb5
  generalize w4.heap.size = gx at *
  have X9 : Hid (Bk w5 gx [.int .i64 ag, .int .i64 ct, .int .i64 V.c, .slice (some ⟨bW, 0, none⟩) V.nW V.nW, .int .i64 V.g, .slice (some ⟨bO, 0, none⟩) V.nO V.nO, .slice (some ⟨bX, 0, none⟩) V.nX V.nX, .slice (some ⟨bI, 0, none⟩) V.nI V.nI]) := X5.out
  clear X5
  have yM0 : w5.cell? ⟨w.heap.size, 0, none⟩ = some (.int .i64 c) := (M7.out.2 0 (by simp)).1
  have yM1 : w5.cell? ⟨w.heap.size, 1, none⟩ = some (.int .i64 d) := (M7.out.2 1 (by simp)).1
  have hlM : w.heap.size < w5.heap.size := M7.out.1
  have yA0 : w5.cell? ⟨(w.heap.size + 1), 0, none⟩ = some (.int .i64 ag) := (A7.out.2 0 (by simp)).1
  have yA1 : w5.cell? ⟨(w.heap.size + 1), 1, none⟩ = some (.int .i64 ct) := (A7.out.2 1 (by simp)).1
  have yA2 : w5.cell? ⟨(w.heap.size + 1), 2, none⟩ = some (.int .i64 V.c) := (A7.out.2 2 (by simp)).1
  have yA3 : w5.cell? ⟨(w.heap.size + 1), 3, none⟩ = some (.slice aW V.nW kW) := (A7.out.2 3 (by simp)).1
  have yA4 : w5.cell? ⟨(w.heap.size + 1), 4, none⟩ = some (.int .i64 V.g) := (A7.out.2 4 (by simp)).1
  have yA5 : w5.cell? ⟨(w.heap.size + 1), 5, none⟩ = some (.slice aO V.nO kO) := (A7.out.2 5 (by simp)).1
  have yA6 : w5.cell? ⟨(w.heap.size + 1), 6, none⟩ = some (.slice aX V.nX kX) := (A7.out.2 6 (by simp)).1
  have yA7 : w5.cell? ⟨(w.heap.size + 1), 7, none⟩ = some (.slice aI V.nI kI) := (A7.out.2 7 (by simp)).1
  have hlA : (w.heap.size + 1) < w5.heap.size := A7.out.1
  have yX0 : w5.cell? ⟨gx, 0, none⟩ = some (.int .i64 ag) := (X9.out.2 0 (by simp)).1
  have yX1 : w5.cell? ⟨gx, 1, none⟩ = some (.int .i64 ct) := (X9.out.2 1 (by simp)).1
  have yX2 : w5.cell? ⟨gx, 2, none⟩ = some (.int .i64 V.c) := (X9.out.2 2 (by simp)).1
  have yX3 : w5.cell? ⟨gx, 3, none⟩ = some (.slice (some ⟨bW, 0, none⟩) V.nW V.nW) := (X9.out.2 3 (by simp)).1
  have yX4 : w5.cell? ⟨gx, 4, none⟩ = some (.int .i64 V.g) := (X9.out.2 4 (by simp)).1
  have yX5 : w5.cell? ⟨gx, 5, none⟩ = some (.slice (some ⟨bO, 0, none⟩) V.nO V.nO) := (X9.out.2 5 (by simp)).1
  have yX6 : w5.cell? ⟨gx, 6, none⟩ = some (.slice (some ⟨bX, 0, none⟩) V.nX V.nX) := (X9.out.2 6 (by simp)).1
  have yX7 : w5.cell? ⟨gx, 7, none⟩ = some (.slice (some ⟨bI, 0, none⟩) V.nI V.nI) := (X9.out.2 7 (by simp)).1
  have hlX : gx < w5.heap.size := X9.out.1
  refine wp_region_held_drew (S := fun w' => (∀ b o, b < w5.heap.size → w'.cell? ⟨b, o, none⟩ = w5.cell? ⟨b, o, none⟩) ∧ w5.heap.size ≤ w'.heap.size) (by kernel_rfl) ⟨fun _ _ _ => rfl, Nat.le_refl _⟩ ?_
  intro hHeld
  refine wpAnyH_take (i := 0) (v := .agg #[.int .i64 c, .int .i64 d]) rfl (by kernel_rfl) (by kernel_rfl) (by kernel_rfl) (fun _ _ _ h => h) (Or.inl ⟨by rfl, ?_⟩) (by assumption) ?_
  · intro wx hSw; go_simp
  try simp only [Act.put, List.setIfInBounds_toArray, List.set_cons_zero, List.set_cons_succ, List.getElem_toArray, List.getElem_cons_zero]
  refine wpAnyH_take (i := 2) (v := .agg #[.int .i64 ag, .int .i64 ct, .int .i64 V.c, .slice (some ⟨bW, 0, none⟩) V.nW V.nW, .int .i64 V.g, .slice (some ⟨bO, 0, none⟩) V.nO V.nO, .slice (some ⟨bX, 0, none⟩) V.nX V.nX, .slice (some ⟨bI, 0, none⟩) V.nI V.nI]) rfl (by kernel_rfl) (by kernel_rfl) (by kernel_rfl) (fun _ _ _ h => h) (Or.inl ⟨by rfl, ?_⟩) (by assumption) ?_
  · intro wx hSw; go_simp
  try simp only [Act.put, List.setIfInBounds_toArray, List.set_cons_zero, List.set_cons_succ, List.getElem_toArray, List.getElem_cons_zero, List.getElem_cons_succ]
  refine wpAnyH_ready (rs := [1]) (by kernel_rfl) (by simp) ?_
  refine AllReadyH.cons rfl (fun K hK => ?_) AllReadyH.nil
  go_simp
  go_wp2_with fail
  refine (toMap _ _ _).mono ?_
  rintro e y1 ⟨rfl, hy1⟩
  refine hK.out _ _ (keepS (by assumption) hy1) (fun hNew => ?_)
  clear hK K hHeld
  have hHeld := hNew
  clear hNew
  try simp only [Act.put, List.setIfInBounds_toArray, List.set_cons_zero, List.set_cons_succ, List.getElem_toArray, List.getElem_cons_zero, List.getElem_cons_succ]
  refine wpAnyH_ready (rs := [3]) (by kernel_rfl) (by simp) ?_
  refine AllReadyH.cons rfl (fun K hK => ?_) AllReadyH.nil
  go_simp
  go_wp2_with fail
  refine (hldOk_impl c d _ ag ct V lo2 HV.out _ (C8.out.below (by repeat (first | exact Below.refl _ _ | refine bthen ?_ (by assumption) | apply Below.drew)))).mono ?_
  rintro e y2 ⟨rfl, hy2⟩
  refine hK.out _ _ (keepS (by assumption) hy2) (fun hNew => ?_)
  clear hK K hHeld
  have hHeld := hNew
  clear hNew
  try simp only [Act.put, List.setIfInBounds_toArray, List.set_cons_zero, List.set_cons_succ, List.getElem_toArray, List.getElem_cons_zero, List.getElem_cons_succ]
  refine wpAnyH_take (i := 4) (v := .bool (hldB c d ag ct V)) rfl (by kernel_rfl) (by kernel_rfl) (by kernel_rfl) (fun _ _ _ h => h) (Or.inl ⟨by rfl, ?_⟩) (by assumption) ?_
  · intro wx hSw; go_simp
  try simp only [Act.put, List.setIfInBounds_toArray, List.set_cons_zero, List.set_cons_succ, List.getElem_toArray, List.getElem_cons_zero, List.getElem_cons_succ]
  refine wpAnyH_done (by kernel_rfl) ?_ _
  clear hHeld
  have hb6 : Below w5.heap.size w5 y2 := by repeat (first | exact Below.refl _ _ | refine bthen ?_ (by assumption) | apply Below.drew)
  generalize y2 = w6 at *
  clear yM0 yM1 hlM yA0 yA1 yA2 yA3 yA4 yA5 yA6 yA7 hlA yX0 yX1 yX2 yX3 yX4 yX5 yX6 yX7 hlX
  have B10 : Hid (Below w.heap.size w w6) := bthen B7.out hb6
  have M10 : Hid (Bk w6 w.heap.size [.int .i64 c, .int .i64 d]) := M7.out.below hb6
  have A10 : Hid (Bk w6 (w.heap.size + 1) [.int .i64 ag, .int .i64 ct, .int .i64 V.c, .slice aW V.nW kW, .int .i64 V.g, .slice aO V.nO kO, .slice aX V.nX kX, .slice aI V.nI kI]) := A7.out.below hb6
  have C10 : Hid (HCopy lo2 w6 (.agg #[.int .i64 ag, .int .i64 ct, .int .i64 V.c, .slice (some ⟨bW, 0, none⟩) V.nW V.nW, .int .i64 V.g, .slice (some ⟨bO, 0, none⟩) V.nO V.nO, .slice (some ⟨bX, 0, none⟩) V.nX V.nX, .slice (some ⟨bI, 0, none⟩) V.nI V.nI]) ag ct V) := C8.out.below hb6
  have X10 : Hid (Bk w6 gx [.int .i64 ag, .int .i64 ct, .int .i64 V.c, .slice (some ⟨bW, 0, none⟩) V.nW V.nW, .int .i64 V.g, .slice (some ⟨bO, 0, none⟩) V.nO V.nO, .slice (some ⟨bX, 0, none⟩) V.nX V.nX, .slice (some ⟨bI, 0, none⟩) V.nI V.nI]) := X9.out.below hb6
  clear B7 M7 A7 C8 X9
  clear hb6 hy1 hy2
  have yM0 : w6.cell? ⟨w.heap.size, 0, none⟩ = some (.int .i64 c) := (M10.out.2 0 (by simp)).1
  have yM1 : w6.cell? ⟨w.heap.size, 1, none⟩ = some (.int .i64 d) := (M10.out.2 1 (by simp)).1
  have hlM : w.heap.size < w6.heap.size := M10.out.1
  have yA0 : w6.cell? ⟨(w.heap.size + 1), 0, none⟩ = some (.int .i64 ag) := (A10.out.2 0 (by simp)).1
  have yA1 : w6.cell? ⟨(w.heap.size + 1), 1, none⟩ = some (.int .i64 ct) := (A10.out.2 1 (by simp)).1
  have yA2 : w6.cell? ⟨(w.heap.size + 1), 2, none⟩ = some (.int .i64 V.c) := (A10.out.2 2 (by simp)).1
  have yA3 : w6.cell? ⟨(w.heap.size + 1), 3, none⟩ = some (.slice aW V.nW kW) := (A10.out.2 3 (by simp)).1
  have yA4 : w6.cell? ⟨(w.heap.size + 1), 4, none⟩ = some (.int .i64 V.g) := (A10.out.2 4 (by simp)).1
  have yA5 : w6.cell? ⟨(w.heap.size + 1), 5, none⟩ = some (.slice aO V.nO kO) := (A10.out.2 5 (by simp)).1
  have yA6 : w6.cell? ⟨(w.heap.size + 1), 6, none⟩ = some (.slice aX V.nX kX) := (A10.out.2 6 (by simp)).1
  have yA7 : w6.cell? ⟨(w.heap.size + 1), 7, none⟩ = some (.slice aI V.nI kI) := (A10.out.2 7 (by simp)).1
  have hlA : (w.heap.size + 1) < w6.heap.size := A10.out.1
  have yX0 : w6.cell? ⟨gx, 0, none⟩ = some (.int .i64 ag) := (X10.out.2 0 (by simp)).1
  have yX1 : w6.cell? ⟨gx, 1, none⟩ = some (.int .i64 ct) := (X10.out.2 1 (by simp)).1
  have yX2 : w6.cell? ⟨gx, 2, none⟩ = some (.int .i64 V.c) := (X10.out.2 2 (by simp)).1
  have yX3 : w6.cell? ⟨gx, 3, none⟩ = some (.slice (some ⟨bW, 0, none⟩) V.nW V.nW) := (X10.out.2 3 (by simp)).1
  have yX4 : w6.cell? ⟨gx, 4, none⟩ = some (.int .i64 V.g) := (X10.out.2 4 (by simp)).1
  have yX5 : w6.cell? ⟨gx, 5, none⟩ = some (.slice (some ⟨bO, 0, none⟩) V.nO V.nO) := (X10.out.2 5 (by simp)).1
  have yX6 : w6.cell? ⟨gx, 6, none⟩ = some (.slice (some ⟨bX, 0, none⟩) V.nX V.nX) := (X10.out.2 6 (by simp)).1
  have yX7 : w6.cell? ⟨gx, 7, none⟩ = some (.slice (some ⟨bI, 0, none⟩) V.nI V.nI) := (X10.out.2 7 (by simp)).1
  have hlX : gx < w6.heap.size := X10.out.1
  go_wp2
  refine wp_region_held_drew (S := fun w' => (∀ b o, b < w6.heap.size → w'.cell? ⟨b, o, none⟩ = w6.cell? ⟨b, o, none⟩) ∧ w6.heap.size ≤ w'.heap.size) (by kernel_rfl) ⟨fun _ _ _ => rfl, Nat.le_refl _⟩ ?_
  intro hHeld
  refine wpAnyH_take (i := 0) (v := .agg #[.int .i64 ag, .int .i64 ct, .int .i64 V.c, .slice (some ⟨bW, 0, none⟩) V.nW V.nW, .int .i64 V.g, .slice (some ⟨bO, 0, none⟩) V.nO V.nO, .slice (some ⟨bX, 0, none⟩) V.nX V.nX, .slice (some ⟨bI, 0, none⟩) V.nI V.nI]) rfl (by kernel_rfl) (by kernel_rfl) (by kernel_rfl) (fun _ _ _ h => h) (Or.inl ⟨by rfl, ?_⟩) (by assumption) ?_
  · intro wx hSw; go_simp
  try simp only [Act.put, List.setIfInBounds_toArray, List.set_cons_zero, List.set_cons_succ, List.getElem_toArray, List.getElem_cons_zero]
  refine wpAnyH_take (i := 1) (v := .agg #[.int .i64 ag, .int .i64 ct, .int .i64 V.c, .slice aW V.nW kW, .int .i64 V.g, .slice aO V.nO kO, .slice aX V.nX kX, .slice aI V.nI kI]) rfl (by kernel_rfl) (by kernel_rfl) (by kernel_rfl) (fun _ _ _ h => h) (Or.inl ⟨by rfl, ?_⟩) (by assumption) ?_
  · intro wx hSw; go_simp
  try simp only [Act.put, List.setIfInBounds_toArray, List.set_cons_zero, List.set_cons_succ, List.getElem_toArray, List.getElem_cons_zero, List.getElem_cons_succ]
  refine wpAnyH_ready (rs := [2]) (by kernel_rfl) (by simp) ?_
  refine AllReadyH.cons rfl (fun K hK => ?_) AllReadyH.nil
  go_simp
  go_wp2_with fail
  refine (toHold _ ag ct V HV.out _ (H0.out.below (bthen B10.out (by repeat (first | exact Below.refl _ _ | refine bthen ?_ (by assumption) | apply Below.drew))))).mono ?_
  rintro e t1 ⟨⟨v3, rfl, lo3, hC3⟩, ht1⟩
  refine hK.out _ _ (keepS (by assumption) ht1) (fun hNew => ?_)
  clear hK K hHeld
  have hHeld := hNew
  clear hNew
  try simp only [Act.put, List.setIfInBounds_toArray, List.set_cons_zero, List.set_cons_succ, List.getElem_toArray, List.getElem_cons_zero, List.getElem_cons_succ]
  refine wpAnyH_ready (rs := [3]) (by kernel_rfl) (by simp) ?_
  refine AllReadyH.cons rfl (fun K hK => ?_) AllReadyH.nil
  go_simp
  go_wp2_with fail
  refine (eqHold _ _ ag ct V (shortMore HV.out (by decide)) _ ((C10.out.below (by repeat (first | exact Below.refl _ _ | refine bthen ?_ (by assumption) | apply Below.drew))).at) hC3.at).mono ?_
  rintro e t2 ⟨rfl, ht2⟩
  refine hK.out _ _ (keepS (by assumption) ht2) (fun hNew => ?_)
  clear hK K hHeld
  have hHeld := hNew
  clear hNew
  try simp only [Act.put, List.setIfInBounds_toArray, List.set_cons_zero, List.set_cons_succ, List.getElem_toArray, List.getElem_cons_zero, List.getElem_cons_succ]
  refine wpAnyH_take (i := 4) (v := .bool false) rfl (by kernel_rfl) (by kernel_rfl) (by kernel_rfl) (fun _ _ _ h => h) (Or.inl ⟨by rfl, ?_⟩) (by assumption) ?_
  · intro wx hSw; go_simp
  try simp only [Act.put, List.setIfInBounds_toArray, List.set_cons_zero, List.set_cons_succ, List.getElem_toArray, List.getElem_cons_zero, List.getElem_cons_succ]
  refine wpAnyH_done (by kernel_rfl) ?_ _
  clear hHeld
  go_wp2
  go_ret
  exact ⟨rfl, bthen B10.out (by repeat (first | exact Below.refl _ _ | refine bthen ?_ (by assumption) | apply Below.drew))⟩
end Go.Proofs.Ytdmfncopcmhcjaa
