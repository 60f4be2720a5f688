/- HldOk, of the program and of the model, and the law over both; conditions: the hold lies in memory. -/
import Derived.Test.YtlbjgecjonegkaaHld1
import Derived.Test.YtlbjgecjonegkaaCOk5
namespace Go.Proofs.Ytlbjgecjonegkaa
open Go.RowKit Go.ChangeShapes Go.WideShapes Go.ChangeAt Go.Deep
set_option linter.unusedVariables false


theorem isAge_impl (a : Int) (w : World) :
    Calls Try.prog 73 #[.int .i64 a] w fun e w' => e = .returned (.bool (inB a 0 900)) ∧ w' = w := by
  go_enter Try.func73, Try.ntmps73
  go_wp2_with (go_at_call 43; refine (in_impl _ _ _ _).mono ?_; rintro e w1 ⟨rfl, rfl⟩)
  go_ret
  exact ⟨rfl, rfl⟩

theorem isHoldAge_impl (a : Int) (w : World) :
    Calls Try.prog 47 #[.int .i64 a] w fun e w' => e = .returned (.bool (inB a 1 900)) ∧ w' = w := by
  by_cases h : 0 < a
  · have hv : inB a 1 900 = inB a 0 900 := by rw [Bool.eq_iff_iff]; simp only [inB, decide_eq_true_eq]; omega
    rw [hv]
    go_enter Try.func47, Try.ntmps47
    go_wp2_with (go_at_call 73; refine (isAge_impl _ _).mono ?_; rintro e w1 ⟨rfl, rfl⟩)
    go_ret
    exact ⟨rfl, rfl⟩
  · have hv : inB a 1 900 = false := by simp only [inB, decide_eq_false_iff_not]; omega
    rw [hv]
    go_enter Try.func47, Try.ntmps47
    go_wp2_with (go_at_call 73; refine (isAge_impl _ _).mono ?_; rintro e w1 ⟨rfl, rfl⟩)
    go_ret
    exact ⟨rfl, rfl⟩

def hldB (c d ag ct : Int) (V : CV) : Bool := inB ag 1 900 && (inB ct 0 250 && cllB c d V)

set_option maxHeartbeats 4000000 in
theorem hldOk_spec (c d : Int) (v : Value) (ag ct : Int) (V : CV) (lo : Nat) (hs : V.short 1048576) (w : World) (h : HCopy lo w v ag ct V) :
    Calls Try.prog 21 #[.agg #[.int .i64 c, .int .i64 d], v] w fun e w' => e = .returned (.bool (hldB c d ag ct V)) ∧ Below w.heap.size w w' := by
  obtain ⟨bW, bO, bX, bI, rfl, hC⟩ := h
  have C0 : Hid (CopyAt lo w (.agg #[.int .i64 V.c, .slice (some ⟨bW, 0, none⟩) V.nW V.nW, .int .i64 V.g, .slice (some ⟨bO, 0, none⟩) V.nO V.nO, .slice (some ⟨bX, 0, none⟩) V.nX V.nX, .slice (some ⟨bI, 0, none⟩) V.nI V.nI]) V) := hC
  have HS : Hid (V.short 1048576) := hs
  clear hC hs
  cases h1 : inB ag 1 900
  · go_enter Try.func21, Try.ntmps21
    go_wp2_with fail
    obtain ⟨w0, e0⟩ : ∃ w0, w0 = (w.alloc (.cells #[.int .i64 c, .int .i64 d] 30)).alloc (.cells #[.int .i64 ag, .int .i64 ct, .int .i64 V.c, .slice (some ⟨bW, 0, none⟩) V.nW V.nW, .int .i64 V.g, .slice (some ⟨bO, 0, none⟩) V.nO V.nO, .slice (some ⟨bX, 0, none⟩) V.nX V.nX, .slice (some ⟨bI, 0, none⟩) V.nI V.nI] 45) := ⟨_, rfl⟩
    have B1 : Hid (Below w.heap.size w w0) := by rw [e0]; exact ((Below.refl _ _).alloc (by simp) _).alloc (by simp) _
    have M2 : Hid (Bk w0 w.heap.size [.int .i64 c, .int .i64 d]) := by rw [e0]; exact (bk_new w 30 [.int .i64 c, .int .i64 d]).below ((Below.refl _ _).alloc (Nat.le_refl _) _)
    have G3 : Hid (Bk w0 (w.heap.size + 1) [.int .i64 ag, .int .i64 ct, .int .i64 V.c, .slice (some ⟨bW, 0, none⟩) V.nW V.nW, .int .i64 V.g, .slice (some ⟨bO, 0, none⟩) V.nO V.nO, .slice (some ⟨bX, 0, none⟩) V.nX V.nX, .slice (some ⟨bI, 0, none⟩) V.nI V.nI]) := by rw [e0]; have := bk_new (w.alloc (.cells #[.int .i64 c, .int .i64 d] 30)) 45 [.int .i64 ag, .int .i64 ct, .int .i64 V.c, .slice (some ⟨bW, 0, none⟩) V.nW V.nW, .int .i64 V.g, .slice (some ⟨bO, 0, none⟩) V.nO V.nO, .slice (some ⟨bX, 0, none⟩) V.nX V.nX, .slice (some ⟨bI, 0, none⟩) V.nI V.nI]; rwa [show (w.alloc (.cells #[.int .i64 c, .int .i64 d] 30)).heap.size = w.heap.size + 1 by simp] at this
    rw [← e0]
    clear e0
    refine (in_spec _ _ _ _).mono ?_
    rintro e w0 ⟨rfl, rfl⟩
    have yM0 : w0.cell? ⟨w.heap.size, 0, none⟩ = some (.int .i64 c) := (M2.out.2 0 (by simp)).1
    have yM1 : w0.cell? ⟨w.heap.size, 1, none⟩ = some (.int .i64 d) := (M2.out.2 1 (by simp)).1
    have hlM : w.heap.size < w0.heap.size := M2.out.1
    have yG0 : w0.cell? ⟨(w.heap.size + 1), 0, none⟩ = some (.int .i64 ag) := (G3.out.2 0 (by simp)).1
    have yG1 : w0.cell? ⟨(w.heap.size + 1), 1, none⟩ = some (.int .i64 ct) := (G3.out.2 1 (by simp)).1
    have yG2 : w0.cell? ⟨(w.heap.size + 1), 2, none⟩ = some (.int .i64 V.c) := (G3.out.2 2 (by simp)).1
    have yG3 : w0.cell? ⟨(w.heap.size + 1), 3, none⟩ = some (.slice (some ⟨bW, 0, none⟩) V.nW V.nW) := (G3.out.2 3 (by simp)).1
    have yG4 : w0.cell? ⟨(w.heap.size + 1), 4, none⟩ = some (.int .i64 V.g) := (G3.out.2 4 (by simp)).1
    have yG5 : w0.cell? ⟨(w.heap.size + 1), 5, none⟩ = some (.slice (some ⟨bO, 0, none⟩) V.nO V.nO) := (G3.out.2 5 (by simp)).1
    have yG6 : w0.cell? ⟨(w.heap.size + 1), 6, none⟩ = some (.slice (some ⟨bX, 0, none⟩) V.nX V.nX) := (G3.out.2 6 (by simp)).1
    have yG7 : w0.cell? ⟨(w.heap.size + 1), 7, none⟩ = some (.slice (some ⟨bI, 0, none⟩) V.nI V.nI) := (G3.out.2 7 (by simp)).1
    have hlG : (w.heap.size + 1) < w0.heap.size := G3.out.1
    rw [h1]
    go_wp2
    go_ret
    exact ⟨by simp [hldB, h1], B1.out⟩
  cases h2 : inB ct 0 250
  · go_enter Try.func21, Try.ntmps21
    go_wp2_with fail
    obtain ⟨w0, e0⟩ : ∃ w0, w0 = (w.alloc (.cells #[.int .i64 c, .int .i64 d] 30)).alloc (.cells #[.int .i64 ag, .int .i64 ct, .int .i64 V.c, .slice (some ⟨bW, 0, none⟩) V.nW V.nW, .int .i64 V.g, .slice (some ⟨bO, 0, none⟩) V.nO V.nO, .slice (some ⟨bX, 0, none⟩) V.nX V.nX, .slice (some ⟨bI, 0, none⟩) V.nI V.nI] 45) := ⟨_, rfl⟩
    have B1 : Hid (Below w.heap.size w w0) := by rw [e0]; exact ((Below.refl _ _).alloc (by simp) _).alloc (by simp) _
    have M2 : Hid (Bk w0 w.heap.size [.int .i64 c, .int .i64 d]) := by rw [e0]; exact (bk_new w 30 [.int .i64 c, .int .i64 d]).below ((Below.refl _ _).alloc (Nat.le_refl _) _)
    have G3 : Hid (Bk w0 (w.heap.size + 1) [.int .i64 ag, .int .i64 ct, .int .i64 V.c, .slice (some ⟨bW, 0, none⟩) V.nW V.nW, .int .i64 V.g, .slice (some ⟨bO, 0, none⟩) V.nO V.nO, .slice (some ⟨bX, 0, none⟩) V.nX V.nX, .slice (some ⟨bI, 0, none⟩) V.nI V.nI]) := by rw [e0]; have := bk_new (w.alloc (.cells #[.int .i64 c, .int .i64 d] 30)) 45 [.int .i64 ag, .int .i64 ct, .int .i64 V.c, .slice (some ⟨bW, 0, none⟩) V.nW V.nW, .int .i64 V.g, .slice (some ⟨bO, 0, none⟩) V.nO V.nO, .slice (some ⟨bX, 0, none⟩) V.nX V.nX, .slice (some ⟨bI, 0, none⟩) V.nI V.nI]; rwa [show (w.alloc (.cells #[.int .i64 c, .int .i64 d] 30)).heap.size = w.heap.size + 1 by simp] at this
    rw [← e0]
    clear e0
    refine (in_spec _ _ _ _).mono ?_
    rintro e w0 ⟨rfl, rfl⟩
    have yM0 : w0.cell? ⟨w.heap.size, 0, none⟩ = some (.int .i64 c) := (M2.out.2 0 (by simp)).1
    have yM1 : w0.cell? ⟨w.heap.size, 1, none⟩ = some (.int .i64 d) := (M2.out.2 1 (by simp)).1
    have hlM : w.heap.size < w0.heap.size := M2.out.1
    have yG0 : w0.cell? ⟨(w.heap.size + 1), 0, none⟩ = some (.int .i64 ag) := (G3.out.2 0 (by simp)).1
    have yG1 : w0.cell? ⟨(w.heap.size + 1), 1, none⟩ = some (.int .i64 ct) := (G3.out.2 1 (by simp)).1
    have yG2 : w0.cell? ⟨(w.heap.size + 1), 2, none⟩ = some (.int .i64 V.c) := (G3.out.2 2 (by simp)).1
    have yG3 : w0.cell? ⟨(w.heap.size + 1), 3, none⟩ = some (.slice (some ⟨bW, 0, none⟩) V.nW V.nW) := (G3.out.2 3 (by simp)).1
    have yG4 : w0.cell? ⟨(w.heap.size + 1), 4, none⟩ = some (.int .i64 V.g) := (G3.out.2 4 (by simp)).1
    have yG5 : w0.cell? ⟨(w.heap.size + 1), 5, none⟩ = some (.slice (some ⟨bO, 0, none⟩) V.nO V.nO) := (G3.out.2 5 (by simp)).1
    have yG6 : w0.cell? ⟨(w.heap.size + 1), 6, none⟩ = some (.slice (some ⟨bX, 0, none⟩) V.nX V.nX) := (G3.out.2 6 (by simp)).1
    have yG7 : w0.cell? ⟨(w.heap.size + 1), 7, none⟩ = some (.slice (some ⟨bI, 0, none⟩) V.nI V.nI) := (G3.out.2 7 (by simp)).1
    have hlG : (w.heap.size + 1) < w0.heap.size := G3.out.1
    rw [h1]
    go_wp2_with (go_at_call 37; refine (in_spec _ _ _ _).mono ?_; rintro e w0 ⟨rfl, rfl⟩; rw [h2])
    go_ret
    exact ⟨by simp [hldB, h2], B1.out⟩
  go_enter Try.func21, Try.ntmps21
  go_wp2_with fail
  obtain ⟨w0, e0⟩ : ∃ w0, w0 = (w.alloc (.cells #[.int .i64 c, .int .i64 d] 30)).alloc (.cells #[.int .i64 ag, .int .i64 ct, .int .i64 V.c, .slice (some ⟨bW, 0, none⟩) V.nW V.nW, .int .i64 V.g, .slice (some ⟨bO, 0, none⟩) V.nO V.nO, .slice (some ⟨bX, 0, none⟩) V.nX V.nX, .slice (some ⟨bI, 0, none⟩) V.nI V.nI] 45) := ⟨_, rfl⟩
  have B1 : Hid (Below w.heap.size w w0) := by rw [e0]; exact ((Below.refl _ _).alloc (by simp) _).alloc (by simp) _
  have M2 : Hid (Bk w0 w.heap.size [.int .i64 c, .int .i64 d]) := by rw [e0]; exact (bk_new w 30 [.int .i64 c, .int .i64 d]).below ((Below.refl _ _).alloc (Nat.le_refl _) _)
  have G3 : Hid (Bk w0 (w.heap.size + 1) [.int .i64 ag, .int .i64 ct, .int .i64 V.c, .slice (some ⟨bW, 0, none⟩) V.nW V.nW, .int .i64 V.g, .slice (some ⟨bO, 0, none⟩) V.nO V.nO, .slice (some ⟨bX, 0, none⟩) V.nX V.nX, .slice (some ⟨bI, 0, none⟩) V.nI V.nI]) := by rw [e0]; have := bk_new (w.alloc (.cells #[.int .i64 c, .int .i64 d] 30)) 45 [.int .i64 ag, .int .i64 ct, .int .i64 V.c, .slice (some ⟨bW, 0, none⟩) V.nW V.nW, .int .i64 V.g, .slice (some ⟨bO, 0, none⟩) V.nO V.nO, .slice (some ⟨bX, 0, none⟩) V.nX V.nX, .slice (some ⟨bI, 0, none⟩) V.nI V.nI]; rwa [show (w.alloc (.cells #[.int .i64 c, .int .i64 d] 30)).heap.size = w.heap.size + 1 by simp] at this
  rw [← e0]
  clear e0
  refine (in_spec _ _ _ _).mono ?_
  rintro e w0 ⟨rfl, rfl⟩
  have yM0 : w0.cell? ⟨w.heap.size, 0, none⟩ = some (.int .i64 c) := (M2.out.2 0 (by simp)).1
  have yM1 : w0.cell? ⟨w.heap.size, 1, none⟩ = some (.int .i64 d) := (M2.out.2 1 (by simp)).1
  have hlM : w.heap.size < w0.heap.size := M2.out.1
  have yG0 : w0.cell? ⟨(w.heap.size + 1), 0, none⟩ = some (.int .i64 ag) := (G3.out.2 0 (by simp)).1
  have yG1 : w0.cell? ⟨(w.heap.size + 1), 1, none⟩ = some (.int .i64 ct) := (G3.out.2 1 (by simp)).1
  have yG2 : w0.cell? ⟨(w.heap.size + 1), 2, none⟩ = some (.int .i64 V.c) := (G3.out.2 2 (by simp)).1
  have yG3 : w0.cell? ⟨(w.heap.size + 1), 3, none⟩ = some (.slice (some ⟨bW, 0, none⟩) V.nW V.nW) := (G3.out.2 3 (by simp)).1
  have yG4 : w0.cell? ⟨(w.heap.size + 1), 4, none⟩ = some (.int .i64 V.g) := (G3.out.2 4 (by simp)).1
  have yG5 : w0.cell? ⟨(w.heap.size + 1), 5, none⟩ = some (.slice (some ⟨bO, 0, none⟩) V.nO V.nO) := (G3.out.2 5 (by simp)).1
  have yG6 : w0.cell? ⟨(w.heap.size + 1), 6, none⟩ = some (.slice (some ⟨bX, 0, none⟩) V.nX V.nX) := (G3.out.2 6 (by simp)).1
  have yG7 : w0.cell? ⟨(w.heap.size + 1), 7, none⟩ = some (.slice (some ⟨bI, 0, none⟩) V.nI V.nI) := (G3.out.2 7 (by simp)).1
  have hlG : (w.heap.size + 1) < w0.heap.size := G3.out.1
  rw [h1]
  go_wp2_with fail
  refine (in_spec _ _ _ _).mono ?_
  rintro e w0 ⟨rfl, rfl⟩
  rw [h2]
  go_wp2_with fail
  clear yM0 yM1 hlM yG0 yG1 yG2 yG3 yG4 yG5 yG6 yG7 hlG
  refine (cllOk_spec c d _ V lo HS.out _ (C0.out.below B1.out)).mono ?_
  rintro e w1 ⟨rfl, hb1⟩
  have B1 := bthen B1.out hb1
  clear hb1
  go_wp2
  go_ret
  exact ⟨by simp [hldB, h1, h2], B1⟩

set_option maxHeartbeats 4000000 in
theorem hldOk_impl (c d : Int) (v : Value) (ag ct : Int) (V : CV) (lo : Nat) (hs : V.short 1048576) (w : World) (h : HCopy lo w v ag ct V) :
    Calls Try.prog 26 #[.agg #[.int .i64 c, .int .i64 d], v] w fun e w' => e = .returned (.bool (hldB c d ag ct V)) ∧ Below w.heap.size w w' := by
  obtain ⟨bW, bO, bX, bI, rfl, hC⟩ := h
  have C0 : Hid (CopyAt lo w (.agg #[.int .i64 V.c, .slice (some ⟨bW, 0, none⟩) V.nW V.nW, .int .i64 V.g, .slice (some ⟨bO, 0, none⟩) V.nO V.nO, .slice (some ⟨bX, 0, none⟩) V.nX V.nX, .slice (some ⟨bI, 0, none⟩) V.nI V.nI]) V) := hC
  have HS : Hid (V.short 1048576) := hs
  clear hC hs
  cases h1 : inB ag 1 900
  · go_enter Try.func26, Try.ntmps26
    go_wp2_with fail
    obtain ⟨w0, e0⟩ : ∃ w0, w0 = (w.alloc (.cells #[.int .i64 c, .int .i64 d] 30)).alloc (.cells #[.int .i64 ag, .int .i64 ct, .int .i64 V.c, .slice (some ⟨bW, 0, none⟩) V.nW V.nW, .int .i64 V.g, .slice (some ⟨bO, 0, none⟩) V.nO V.nO, .slice (some ⟨bX, 0, none⟩) V.nX V.nX, .slice (some ⟨bI, 0, none⟩) V.nI V.nI] 45) := ⟨_, rfl⟩
    have B1 : Hid (Below w.heap.size w w0) := by rw [e0]; exact ((Below.refl _ _).alloc (by simp) _).alloc (by simp) _
    have M2 : Hid (Bk w0 w.heap.size [.int .i64 c, .int .i64 d]) := by rw [e0]; exact (bk_new w 30 [.int .i64 c, .int .i64 d]).below ((Below.refl _ _).alloc (Nat.le_refl _) _)
    have G3 : Hid (Bk w0 (w.heap.size + 1) [.int .i64 ag, .int .i64 ct, .int .i64 V.c, .slice (some ⟨bW, 0, none⟩) V.nW V.nW, .int .i64 V.g, .slice (some ⟨bO, 0, none⟩) V.nO V.nO, .slice (some ⟨bX, 0, none⟩) V.nX V.nX, .slice (some ⟨bI, 0, none⟩) V.nI V.nI]) := by rw [e0]; have := bk_new (w.alloc (.cells #[.int .i64 c, .int .i64 d] 30)) 45 [.int .i64 ag, .int .i64 ct, .int .i64 V.c, .slice (some ⟨bW, 0, none⟩) V.nW V.nW, .int .i64 V.g, .slice (some ⟨bO, 0, none⟩) V.nO V.nO, .slice (some ⟨bX, 0, none⟩) V.nX V.nX, .slice (some ⟨bI, 0, none⟩) V.nI V.nI]; rwa [show (w.alloc (.cells #[.int .i64 c, .int .i64 d] 30)).heap.size = w.heap.size + 1 by simp] at this
    rw [← e0]
    clear e0
    refine (isHoldAge_impl _ _).mono ?_
    rintro e w0 ⟨rfl, rfl⟩
    have yM0 : w0.cell? ⟨w.heap.size, 0, none⟩ = some (.int .i64 c) := (M2.out.2 0 (by simp)).1
    have yM1 : w0.cell? ⟨w.heap.size, 1, none⟩ = some (.int .i64 d) := (M2.out.2 1 (by simp)).1
    have hlM : w.heap.size < w0.heap.size := M2.out.1
    have yG0 : w0.cell? ⟨(w.heap.size + 1), 0, none⟩ = some (.int .i64 ag) := (G3.out.2 0 (by simp)).1
    have yG1 : w0.cell? ⟨(w.heap.size + 1), 1, none⟩ = some (.int .i64 ct) := (G3.out.2 1 (by simp)).1
    have yG2 : w0.cell? ⟨(w.heap.size + 1), 2, none⟩ = some (.int .i64 V.c) := (G3.out.2 2 (by simp)).1
    have yG3 : w0.cell? ⟨(w.heap.size + 1), 3, none⟩ = some (.slice (some ⟨bW, 0, none⟩) V.nW V.nW) := (G3.out.2 3 (by simp)).1
    have yG4 : w0.cell? ⟨(w.heap.size + 1), 4, none⟩ = some (.int .i64 V.g) := (G3.out.2 4 (by simp)).1
    have yG5 : w0.cell? ⟨(w.heap.size + 1), 5, none⟩ = some (.slice (some ⟨bO, 0, none⟩) V.nO V.nO) := (G3.out.2 5 (by simp)).1
    have yG6 : w0.cell? ⟨(w.heap.size + 1), 6, none⟩ = some (.slice (some ⟨bX, 0, none⟩) V.nX V.nX) := (G3.out.2 6 (by simp)).1
    have yG7 : w0.cell? ⟨(w.heap.size + 1), 7, none⟩ = some (.slice (some ⟨bI, 0, none⟩) V.nI V.nI) := (G3.out.2 7 (by simp)).1
    have hlG : (w.heap.size + 1) < w0.heap.size := G3.out.1
    rw [h1]
    go_wp2
    go_ret
    exact ⟨by simp [hldB, h1], B1.out⟩
  cases h2 : inB ct 0 250
  · go_enter Try.func26, Try.ntmps26
    go_wp2_with fail
    obtain ⟨w0, e0⟩ : ∃ w0, w0 = (w.alloc (.cells #[.int .i64 c, .int .i64 d] 30)).alloc (.cells #[.int .i64 ag, .int .i64 ct, .int .i64 V.c, .slice (some ⟨bW, 0, none⟩) V.nW V.nW, .int .i64 V.g, .slice (some ⟨bO, 0, none⟩) V.nO V.nO, .slice (some ⟨bX, 0, none⟩) V.nX V.nX, .slice (some ⟨bI, 0, none⟩) V.nI V.nI] 45) := ⟨_, rfl⟩
    have B1 : Hid (Below w.heap.size w w0) := by rw [e0]; exact ((Below.refl _ _).alloc (by simp) _).alloc (by simp) _
    have M2 : Hid (Bk w0 w.heap.size [.int .i64 c, .int .i64 d]) := by rw [e0]; exact (bk_new w 30 [.int .i64 c, .int .i64 d]).below ((Below.refl _ _).alloc (Nat.le_refl _) _)
    have G3 : Hid (Bk w0 (w.heap.size + 1) [.int .i64 ag, .int .i64 ct, .int .i64 V.c, .slice (some ⟨bW, 0, none⟩) V.nW V.nW, .int .i64 V.g, .slice (some ⟨bO, 0, none⟩) V.nO V.nO, .slice (some ⟨bX, 0, none⟩) V.nX V.nX, .slice (some ⟨bI, 0, none⟩) V.nI V.nI]) := by rw [e0]; have := bk_new (w.alloc (.cells #[.int .i64 c, .int .i64 d] 30)) 45 [.int .i64 ag, .int .i64 ct, .int .i64 V.c, .slice (some ⟨bW, 0, none⟩) V.nW V.nW, .int .i64 V.g, .slice (some ⟨bO, 0, none⟩) V.nO V.nO, .slice (some ⟨bX, 0, none⟩) V.nX V.nX, .slice (some ⟨bI, 0, none⟩) V.nI V.nI]; rwa [show (w.alloc (.cells #[.int .i64 c, .int .i64 d] 30)).heap.size = w.heap.size + 1 by simp] at this
    rw [← e0]
    clear e0
    refine (isHoldAge_impl _ _).mono ?_
    rintro e w0 ⟨rfl, rfl⟩
    have yM0 : w0.cell? ⟨w.heap.size, 0, none⟩ = some (.int .i64 c) := (M2.out.2 0 (by simp)).1
    have yM1 : w0.cell? ⟨w.heap.size, 1, none⟩ = some (.int .i64 d) := (M2.out.2 1 (by simp)).1
    have hlM : w.heap.size < w0.heap.size := M2.out.1
    have yG0 : w0.cell? ⟨(w.heap.size + 1), 0, none⟩ = some (.int .i64 ag) := (G3.out.2 0 (by simp)).1
    have yG1 : w0.cell? ⟨(w.heap.size + 1), 1, none⟩ = some (.int .i64 ct) := (G3.out.2 1 (by simp)).1
    have yG2 : w0.cell? ⟨(w.heap.size + 1), 2, none⟩ = some (.int .i64 V.c) := (G3.out.2 2 (by simp)).1
    have yG3 : w0.cell? ⟨(w.heap.size + 1), 3, none⟩ = some (.slice (some ⟨bW, 0, none⟩) V.nW V.nW) := (G3.out.2 3 (by simp)).1
    have yG4 : w0.cell? ⟨(w.heap.size + 1), 4, none⟩ = some (.int .i64 V.g) := (G3.out.2 4 (by simp)).1
    have yG5 : w0.cell? ⟨(w.heap.size + 1), 5, none⟩ = some (.slice (some ⟨bO, 0, none⟩) V.nO V.nO) := (G3.out.2 5 (by simp)).1
    have yG6 : w0.cell? ⟨(w.heap.size + 1), 6, none⟩ = some (.slice (some ⟨bX, 0, none⟩) V.nX V.nX) := (G3.out.2 6 (by simp)).1
    have yG7 : w0.cell? ⟨(w.heap.size + 1), 7, none⟩ = some (.slice (some ⟨bI, 0, none⟩) V.nI V.nI) := (G3.out.2 7 (by simp)).1
    have hlG : (w.heap.size + 1) < w0.heap.size := G3.out.1
    rw [h1]
    go_wp2_with (go_at_call 43; refine (in_impl _ _ _ _).mono ?_; rintro e w0 ⟨rfl, rfl⟩; rw [h2])
    go_ret
    exact ⟨by simp [hldB, h2], B1.out⟩
  go_enter Try.func26, Try.ntmps26
  go_wp2_with fail
  obtain ⟨w0, e0⟩ : ∃ w0, w0 = (w.alloc (.cells #[.int .i64 c, .int .i64 d] 30)).alloc (.cells #[.int .i64 ag, .int .i64 ct, .int .i64 V.c, .slice (some ⟨bW, 0, none⟩) V.nW V.nW, .int .i64 V.g, .slice (some ⟨bO, 0, none⟩) V.nO V.nO, .slice (some ⟨bX, 0, none⟩) V.nX V.nX, .slice (some ⟨bI, 0, none⟩) V.nI V.nI] 45) := ⟨_, rfl⟩
  have B1 : Hid (Below w.heap.size w w0) := by rw [e0]; exact ((Below.refl _ _).alloc (by simp) _).alloc (by simp) _
  have M2 : Hid (Bk w0 w.heap.size [.int .i64 c, .int .i64 d]) := by rw [e0]; exact (bk_new w 30 [.int .i64 c, .int .i64 d]).below ((Below.refl _ _).alloc (Nat.le_refl _) _)
  have G3 : Hid (Bk w0 (w.heap.size + 1) [.int .i64 ag, .int .i64 ct, .int .i64 V.c, .slice (some ⟨bW, 0, none⟩) V.nW V.nW, .int .i64 V.g, .slice (some ⟨bO, 0, none⟩) V.nO V.nO, .slice (some ⟨bX, 0, none⟩) V.nX V.nX, .slice (some ⟨bI, 0, none⟩) V.nI V.nI]) := by rw [e0]; have := bk_new (w.alloc (.cells #[.int .i64 c, .int .i64 d] 30)) 45 [.int .i64 ag, .int .i64 ct, .int .i64 V.c, .slice (some ⟨bW, 0, none⟩) V.nW V.nW, .int .i64 V.g, .slice (some ⟨bO, 0, none⟩) V.nO V.nO, .slice (some ⟨bX, 0, none⟩) V.nX V.nX, .slice (some ⟨bI, 0, none⟩) V.nI V.nI]; rwa [show (w.alloc (.cells #[.int .i64 c, .int .i64 d] 30)).heap.size = w.heap.size + 1 by simp] at this
  rw [← e0]
  clear e0
  refine (isHoldAge_impl _ _).mono ?_
  rintro e w0 ⟨rfl, rfl⟩
  have yM0 : w0.cell? ⟨w.heap.size, 0, none⟩ = some (.int .i64 c) := (M2.out.2 0 (by simp)).1
  have yM1 : w0.cell? ⟨w.heap.size, 1, none⟩ = some (.int .i64 d) := (M2.out.2 1 (by simp)).1
  have hlM : w.heap.size < w0.heap.size := M2.out.1
  have yG0 : w0.cell? ⟨(w.heap.size + 1), 0, none⟩ = some (.int .i64 ag) := (G3.out.2 0 (by simp)).1
  have yG1 : w0.cell? ⟨(w.heap.size + 1), 1, none⟩ = some (.int .i64 ct) := (G3.out.2 1 (by simp)).1
  have yG2 : w0.cell? ⟨(w.heap.size + 1), 2, none⟩ = some (.int .i64 V.c) := (G3.out.2 2 (by simp)).1
  have yG3 : w0.cell? ⟨(w.heap.size + 1), 3, none⟩ = some (.slice (some ⟨bW, 0, none⟩) V.nW V.nW) := (G3.out.2 3 (by simp)).1
  have yG4 : w0.cell? ⟨(w.heap.size + 1), 4, none⟩ = some (.int .i64 V.g) := (G3.out.2 4 (by simp)).1
  have yG5 : w0.cell? ⟨(w.heap.size + 1), 5, none⟩ = some (.slice (some ⟨bO, 0, none⟩) V.nO V.nO) := (G3.out.2 5 (by simp)).1
  have yG6 : w0.cell? ⟨(w.heap.size + 1), 6, none⟩ = some (.slice (some ⟨bX, 0, none⟩) V.nX V.nX) := (G3.out.2 6 (by simp)).1
  have yG7 : w0.cell? ⟨(w.heap.size + 1), 7, none⟩ = some (.slice (some ⟨bI, 0, none⟩) V.nI V.nI) := (G3.out.2 7 (by simp)).1
  have hlG : (w.heap.size + 1) < w0.heap.size := G3.out.1
  rw [h1]
  go_wp2_with fail
  refine (in_impl _ _ _ _).mono ?_
  rintro e w0 ⟨rfl, rfl⟩
  rw [h2]
  go_wp2_with fail
  clear yM0 yM1 hlM yG0 yG1 yG2 yG3 yG4 yG5 yG6 yG7 hlG
  refine (cllOk_impl c d _ V lo HS.out _ (C0.out.below B1.out)).mono ?_
  rintro e w1 ⟨rfl, hb1⟩
  have B1 := bthen B1.out hb1
  clear hb1
  go_wp2
  go_ret
  exact ⟨by simp [hldB, h1, h2], B1⟩

end Go.Proofs.Ytlbjgecjonegkaa
