/- GwySay of the model; conditions: those typed. -/
import Derived.Test.YtgjapdjidighlaaGY2
import Derived.Test.YtgjapdjidighlaaGA3
namespace Go.Proofs.Ytgjapdjidighlaa
open Go.RowKit Go.Deep
set_option linter.unusedVariables false

attribute [local go_sem ↓] store62_eq load62_eq
set_option maxRecDepth 100000 in
set_option maxHeartbeats 4000000 in
theorem say_spec (c d : Int) (a : Option Addr) (n cap : Nat) (Z : Nat → Nat → Int) (aS : Option Addr) (kS : Nat) (aA : Option Addr) (kA : Nat) (TT : TV) (sv who : Int) (hwf : (Lit.int .i64 who).wf = true) (hn : n ≤ 1048576) (hT : TT.short 1048576) (w : World) (h : P10.RowK w a n Z) (ht : TabAt w (.agg #[.slice aS TT.nS kS, .slice aA TT.nA kA]) TT) :
    Calls Try.prog 24 #[.agg #[.int .i64 c, .int .i64 d], .agg #[.slice a n cap], .agg #[.slice aS TT.nS kS, .slice aA TT.nA kA], .int .i64 sv, .int .i64 who] w fun e w' => e = .returned (.tuple #[.agg #[.int .i64 (sayM Z TT (sayI c d n Z TT sv who) 0), .int .i64 (sayM Z TT (sayI c d n Z TT sv who) 1), .int .i64 (sayM Z TT (sayI c d n Z TT sv who) 2), .int .i64 (sayM Z TT (sayI c d n Z TT sv who) 3), .int .i64 (sayM Z TT (sayI c d n Z TT sv who) 4), .int .i64 (sayM Z TT (sayI c d n Z TT sv who) 5), .int .i64 (sayM Z TT (sayI c d n Z TT sv who) 6), .int .i64 (sayM Z TT (sayI c d n Z TT sv who) 7), .int .i64 (sayM Z TT (sayI c d n Z TT sv who) 8), .int .i64 (sayM Z TT (sayI c d n Z TT sv who) 9), .int .i64 (sayM Z TT (sayI c d n Z TT sv who) 10), .int .i64 (sayM Z TT (sayI c d n Z TT sv who) 11), .int .i64 (sayM Z TT (sayI c d n Z TT sv who) 12), .int .i64 (sayM Z TT (sayI c d n Z TT sv who) 13), .int .i64 (sayM Z TT (sayI c d n Z TT sv who) 14), .int .i64 (sayM Z TT (sayI c d n Z TT sv who) 15), .int .i64 (sayM Z TT (sayI c d n Z TT sv who) 16), .int .i64 (sayM Z TT (sayI c d n Z TT sv who) 17), .int .i64 (sayM Z TT (sayI c d n Z TT sv who) 18), .int .i64 (sayM Z TT (sayI c d n Z TT sv who) 19), .int .i64 (sayM Z TT (sayI c d n Z TT sv who) 20), .int .i64 (sayM Z TT (sayI c d n Z TT sv who) 21), .int .i64 (sayM Z TT (sayI c d n Z TT sv who) 22), .int .i64 (sayM Z TT (sayI c d n Z TT sv who) 23), .int .i64 (sayM Z TT (sayI c d n Z TT sv who) 24)], .bool (sayI c d n Z TT sv who).isSome]) ∧ Below w.heap.size w w' := by
  have HR : Hid (P10.RowK w a n Z) := h
  have HT : Hid (TabAt w (.agg #[.slice aS TT.nS kS, .slice aA TT.nA kA]) TT) := ht
  clear h ht hwf
  cases hk : bookB c d n Z
  · have hs : sayI c d n Z TT sv who = none := by simp [sayI, hk]
    rw [hs]
    clear hs
    go_enter Try.func24, Try.ntmps24
    go_wp2_with fail
    obtain ⟨w0, e0⟩ : ∃ w0, w0 = ((((w.alloc (.cells #[.int .i64 c, .int .i64 d] 30)).alloc (.cells #[.slice a n cap] 28)).alloc (.cells #[.slice aS TT.nS kS, .slice aA TT.nA kA] 65)).alloc (.cells #[.int .i64 0, .int .i64 0, .int .i64 0, .int .i64 0, .int .i64 0, .int .i64 0, .int .i64 0, .int .i64 0, .int .i64 0, .int .i64 0, .int .i64 0, .int .i64 0, .int .i64 0, .int .i64 0, .int .i64 0, .int .i64 0, .int .i64 0, .int .i64 0, .int .i64 0, .int .i64 0, .int .i64 0, .int .i64 0, .int .i64 0, .int .i64 0, .int .i64 0] 62)) := ⟨_, rfl⟩
    have B1 : Hid (Below w.heap.size w w0) := by rw [e0]; exact ((((Below.refl _ _).alloc (by simp) _).alloc (by simp) _).alloc (by simp; omega) _).alloc (by simp; omega) _
    have M2 : Hid (Bk w0 w.heap.size [.int .i64 c, .int .i64 d]) := by rw [e0]; exact (((bk_new w 30 [.int .i64 c, .int .i64 d]).below ((Below.refl _ _).alloc (Nat.le_refl _) _)).below ((Below.refl _ _).alloc (Nat.le_refl _) _)).below ((Below.refl _ _).alloc (Nat.le_refl _) _)
    have K3 : Hid (Bk w0 (w.heap.size + 1) [.slice a n cap]) := by rw [e0]; have := ((bk_new (w.alloc (.cells #[.int .i64 c, .int .i64 d] 30)) 28 [.slice a n cap]).below ((Below.refl _ _).alloc (Nat.le_refl _) (.cells #[.slice aS TT.nS kS, .slice aA TT.nA kA] 65))).below ((Below.refl _ _).alloc (Nat.le_refl _) (.cells #[.int .i64 0, .int .i64 0, .int .i64 0, .int .i64 0, .int .i64 0, .int .i64 0, .int .i64 0, .int .i64 0, .int .i64 0, .int .i64 0, .int .i64 0, .int .i64 0, .int .i64 0, .int .i64 0, .int .i64 0, .int .i64 0, .int .i64 0, .int .i64 0, .int .i64 0, .int .i64 0, .int .i64 0, .int .i64 0, .int .i64 0, .int .i64 0, .int .i64 0] 62)); rwa [show (w.alloc (.cells #[.int .i64 c, .int .i64 d] 30)).heap.size = w.heap.size + 1 by simp] at this
    have T4 : Hid (Bk w0 (w.heap.size + 1 + 1) [.slice aS TT.nS kS, .slice aA TT.nA kA]) := by rw [e0]; have := (bk_new ((w.alloc (.cells #[.int .i64 c, .int .i64 d] 30)).alloc (.cells #[.slice a n cap] 28)) 65 [.slice aS TT.nS kS, .slice aA TT.nA kA]).below ((Below.refl _ _).alloc (Nat.le_refl _) (.cells #[.int .i64 0, .int .i64 0, .int .i64 0, .int .i64 0, .int .i64 0, .int .i64 0, .int .i64 0, .int .i64 0, .int .i64 0, .int .i64 0, .int .i64 0, .int .i64 0, .int .i64 0, .int .i64 0, .int .i64 0, .int .i64 0, .int .i64 0, .int .i64 0, .int .i64 0, .int .i64 0, .int .i64 0, .int .i64 0, .int .i64 0, .int .i64 0, .int .i64 0] 62)); rwa [show ((w.alloc (.cells #[.int .i64 c, .int .i64 d] 30)).alloc (.cells #[.slice a n cap] 28)).heap.size = w.heap.size + 1 + 1 by simp] at this
    have R5 : Hid (Bk w0 (w.heap.size + 1 + 1 + 1) [.int .i64 0, .int .i64 0, .int .i64 0, .int .i64 0, .int .i64 0, .int .i64 0, .int .i64 0, .int .i64 0, .int .i64 0, .int .i64 0, .int .i64 0, .int .i64 0, .int .i64 0, .int .i64 0, .int .i64 0, .int .i64 0, .int .i64 0, .int .i64 0, .int .i64 0, .int .i64 0, .int .i64 0, .int .i64 0, .int .i64 0, .int .i64 0, .int .i64 0]) := by rw [e0]; have := bk_new (((w.alloc (.cells #[.int .i64 c, .int .i64 d] 30)).alloc (.cells #[.slice a n cap] 28)).alloc (.cells #[.slice aS TT.nS kS, .slice aA TT.nA kA] 65)) 62 [.int .i64 0, .int .i64 0, .int .i64 0, .int .i64 0, .int .i64 0, .int .i64 0, .int .i64 0, .int .i64 0, .int .i64 0, .int .i64 0, .int .i64 0, .int .i64 0, .int .i64 0, .int .i64 0, .int .i64 0, .int .i64 0, .int .i64 0, .int .i64 0, .int .i64 0, .int .i64 0, .int .i64 0, .int .i64 0, .int .i64 0, .int .i64 0, .int .i64 0]; rwa [show (((w.alloc (.cells #[.int .i64 c, .int .i64 d] 30)).alloc (.cells #[.slice a n cap] 28)).alloc (.cells #[.slice aS TT.nS kS, .slice aA TT.nA kA] 65)).heap.size = w.heap.size + 1 + 1 + 1 by simp] at this
    rw [← e0]
    clear e0
    refine (book_spec c d _ n cap Z hn _ (P10.row_below HR.out B1.out)).mono ?_
    rintro e w1 ⟨rfl, hb1⟩
    have B6 : Hid (Below w.heap.size w w1) := bthen B1.out hb1
    have M6 : Hid (Bk w1 w.heap.size [.int .i64 c, .int .i64 d]) := M2.out.below hb1
    have K6 : Hid (Bk w1 (w.heap.size + 1) [.slice a n cap]) := K3.out.below hb1
    have T6 : Hid (Bk w1 (w.heap.size + 1 + 1) [.slice aS TT.nS kS, .slice aA TT.nA kA]) := T4.out.below hb1
    have R6 : Hid (Bk w1 (w.heap.size + 1 + 1 + 1) [.int .i64 0, .int .i64 0, .int .i64 0, .int .i64 0, .int .i64 0, .int .i64 0, .int .i64 0, .int .i64 0, .int .i64 0, .int .i64 0, .int .i64 0, .int .i64 0, .int .i64 0, .int .i64 0, .int .i64 0, .int .i64 0, .int .i64 0, .int .i64 0, .int .i64 0, .int .i64 0, .int .i64 0, .int .i64 0, .int .i64 0, .int .i64 0, .int .i64 0]) := R5.out.below hb1
    clear B1 M2 K3 T4 R5
    clear hb1
    rw [hk]
    go_wp2
    rw [store62_bk (R6.out) rfl _ rfl (by kernel_rfl)]
    obtain ⟨w9, e9⟩ : ∃ y, y = putL (w.heap.size + 1 + 1 + 1) ((#[.int .i64 0, .int .i64 0, .int .i64 0, .int .i64 0, .int .i64 0, .int .i64 0, .int .i64 0, .int .i64 0, .int .i64 0, .int .i64 0, .int .i64 0, .int .i64 0, .int .i64 0, .int .i64 0, .int .i64 0, .int .i64 0, .int .i64 0, .int .i64 0, .int .i64 0, .int .i64 0, .int .i64 0, .int .i64 0, .int .i64 0, .int .i64 0, .int .i64 0] : Array Value).toList) 0 w1 := ⟨_, rfl⟩
    have R9 : Hid (Bk w9 (w.heap.size + 1 + 1 + 1) [.int .i64 0, .int .i64 0, .int .i64 0, .int .i64 0, .int .i64 0, .int .i64 0, .int .i64 0, .int .i64 0, .int .i64 0, .int .i64 0, .int .i64 0, .int .i64 0, .int .i64 0, .int .i64 0, .int .i64 0, .int .i64 0, .int .i64 0, .int .i64 0, .int .i64 0, .int .i64 0, .int .i64 0, .int .i64 0, .int .i64 0, .int .i64 0, .int .i64 0]) := by unfold Hid; rw [e9]; exact bk_put (R6.out) rfl
    have B9 : Hid (Below w.heap.size w w9) := by unfold Hid; rw [e9]; exact below_put (by omega) _ _ (B6.out)
    rw [← e9]
    clear e9
    go_wp2
    have hr := fun tmps hp hq => results_mid2 (P := Try.prog) (fn := Try.f24) Try.results24 tmps w9 (w.heap.size + 1 + 1 + 1) [.int .i64 0, .int .i64 0, .int .i64 0, .int .i64 0, .int .i64 0, .int .i64 0, .int .i64 0, .int .i64 0, .int .i64 0, .int .i64 0, .int .i64 0, .int .i64 0, .int .i64 0, .int .i64 0, .int .i64 0, .int .i64 0, .int .i64 0, .int .i64 0, .int .i64 0, .int .i64 0, .int .i64 0, .int .i64 0, .int .i64 0, .int .i64 0, .int .i64 0] _ (.bool false) hp hq (Bk.range R9.out) Try.underlying62 rfl (by kernel_rfl)
    exact bodyPost_ret (v := .tuple #[.agg #[.int .i64 0, .int .i64 0, .int .i64 0, .int .i64 0, .int .i64 0, .int .i64 0, .int .i64 0, .int .i64 0, .int .i64 0, .int .i64 0, .int .i64 0, .int .i64 0, .int .i64 0, .int .i64 0, .int .i64 0, .int .i64 0, .int .i64 0, .int .i64 0, .int .i64 0, .int .i64 0, .int .i64 0, .int .i64 0, .int .i64 0, .int .i64 0, .int .i64 0], .bool false]) (hr _ rfl rfl) rfl ⟨rfl, B9.out⟩
  cases ht : tabB c d TT sv
  · have hs : sayI c d n Z TT sv who = none := by simp [sayI, ht]
    rw [hs]
    clear hs
    go_enter Try.func24, Try.ntmps24
    go_wp2_with fail
    obtain ⟨w0, e0⟩ : ∃ w0, w0 = ((((w.alloc (.cells #[.int .i64 c, .int .i64 d] 30)).alloc (.cells #[.slice a n cap] 28)).alloc (.cells #[.slice aS TT.nS kS, .slice aA TT.nA kA] 65)).alloc (.cells #[.int .i64 0, .int .i64 0, .int .i64 0, .int .i64 0, .int .i64 0, .int .i64 0, .int .i64 0, .int .i64 0, .int .i64 0, .int .i64 0, .int .i64 0, .int .i64 0, .int .i64 0, .int .i64 0, .int .i64 0, .int .i64 0, .int .i64 0, .int .i64 0, .int .i64 0, .int .i64 0, .int .i64 0, .int .i64 0, .int .i64 0, .int .i64 0, .int .i64 0] 62)) := ⟨_, rfl⟩
    have B7 : Hid (Below w.heap.size w w0) := by rw [e0]; exact ((((Below.refl _ _).alloc (by simp) _).alloc (by simp) _).alloc (by simp; omega) _).alloc (by simp; omega) _
    have M8 : Hid (Bk w0 w.heap.size [.int .i64 c, .int .i64 d]) := by rw [e0]; exact (((bk_new w 30 [.int .i64 c, .int .i64 d]).below ((Below.refl _ _).alloc (Nat.le_refl _) _)).below ((Below.refl _ _).alloc (Nat.le_refl _) _)).below ((Below.refl _ _).alloc (Nat.le_refl _) _)
    have K9 : Hid (Bk w0 (w.heap.size + 1) [.slice a n cap]) := by rw [e0]; have := ((bk_new (w.alloc (.cells #[.int .i64 c, .int .i64 d] 30)) 28 [.slice a n cap]).below ((Below.refl _ _).alloc (Nat.le_refl _) (.cells #[.slice aS TT.nS kS, .slice aA TT.nA kA] 65))).below ((Below.refl _ _).alloc (Nat.le_refl _) (.cells #[.int .i64 0, .int .i64 0, .int .i64 0, .int .i64 0, .int .i64 0, .int .i64 0, .int .i64 0, .int .i64 0, .int .i64 0, .int .i64 0, .int .i64 0, .int .i64 0, .int .i64 0, .int .i64 0, .int .i64 0, .int .i64 0, .int .i64 0, .int .i64 0, .int .i64 0, .int .i64 0, .int .i64 0, .int .i64 0, .int .i64 0, .int .i64 0, .int .i64 0] 62)); rwa [show (w.alloc (.cells #[.int .i64 c, .int .i64 d] 30)).heap.size = w.heap.size + 1 by simp] at this
    have T10 : Hid (Bk w0 (w.heap.size + 1 + 1) [.slice aS TT.nS kS, .slice aA TT.nA kA]) := by rw [e0]; have := (bk_new ((w.alloc (.cells #[.int .i64 c, .int .i64 d] 30)).alloc (.cells #[.slice a n cap] 28)) 65 [.slice aS TT.nS kS, .slice aA TT.nA kA]).below ((Below.refl _ _).alloc (Nat.le_refl _) (.cells #[.int .i64 0, .int .i64 0, .int .i64 0, .int .i64 0, .int .i64 0, .int .i64 0, .int .i64 0, .int .i64 0, .int .i64 0, .int .i64 0, .int .i64 0, .int .i64 0, .int .i64 0, .int .i64 0, .int .i64 0, .int .i64 0, .int .i64 0, .int .i64 0, .int .i64 0, .int .i64 0, .int .i64 0, .int .i64 0, .int .i64 0, .int .i64 0, .int .i64 0] 62)); rwa [show ((w.alloc (.cells #[.int .i64 c, .int .i64 d] 30)).alloc (.cells #[.slice a n cap] 28)).heap.size = w.heap.size + 1 + 1 by simp] at this
    have R11 : Hid (Bk w0 (w.heap.size + 1 + 1 + 1) [.int .i64 0, .int .i64 0, .int .i64 0, .int .i64 0, .int .i64 0, .int .i64 0, .int .i64 0, .int .i64 0, .int .i64 0, .int .i64 0, .int .i64 0, .int .i64 0, .int .i64 0, .int .i64 0, .int .i64 0, .int .i64 0, .int .i64 0, .int .i64 0, .int .i64 0, .int .i64 0, .int .i64 0, .int .i64 0, .int .i64 0, .int .i64 0, .int .i64 0]) := by rw [e0]; have := bk_new (((w.alloc (.cells #[.int .i64 c, .int .i64 d] 30)).alloc (.cells #[.slice a n cap] 28)).alloc (.cells #[.slice aS TT.nS kS, .slice aA TT.nA kA] 65)) 62 [.int .i64 0, .int .i64 0, .int .i64 0, .int .i64 0, .int .i64 0, .int .i64 0, .int .i64 0, .int .i64 0, .int .i64 0, .int .i64 0, .int .i64 0, .int .i64 0, .int .i64 0, .int .i64 0, .int .i64 0, .int .i64 0, .int .i64 0, .int .i64 0, .int .i64 0, .int .i64 0, .int .i64 0, .int .i64 0, .int .i64 0, .int .i64 0, .int .i64 0]; rwa [show (((w.alloc (.cells #[.int .i64 c, .int .i64 d] 30)).alloc (.cells #[.slice a n cap] 28)).alloc (.cells #[.slice aS TT.nS kS, .slice aA TT.nA kA] 65)).heap.size = w.heap.size + 1 + 1 + 1 by simp] at this
    rw [← e0]
    clear e0
    refine (book_spec c d _ n cap Z hn _ (P10.row_below HR.out B7.out)).mono ?_
    rintro e w1 ⟨rfl, hb1⟩
    have B12 : Hid (Below w.heap.size w w1) := bthen B7.out hb1
    have M12 : Hid (Bk w1 w.heap.size [.int .i64 c, .int .i64 d]) := M8.out.below hb1
    have K12 : Hid (Bk w1 (w.heap.size + 1) [.slice a n cap]) := K9.out.below hb1
    have T12 : Hid (Bk w1 (w.heap.size + 1 + 1) [.slice aS TT.nS kS, .slice aA TT.nA kA]) := T10.out.below hb1
    have R12 : Hid (Bk w1 (w.heap.size + 1 + 1 + 1) [.int .i64 0, .int .i64 0, .int .i64 0, .int .i64 0, .int .i64 0, .int .i64 0, .int .i64 0, .int .i64 0, .int .i64 0, .int .i64 0, .int .i64 0, .int .i64 0, .int .i64 0, .int .i64 0, .int .i64 0, .int .i64 0, .int .i64 0, .int .i64 0, .int .i64 0, .int .i64 0, .int .i64 0, .int .i64 0, .int .i64 0, .int .i64 0, .int .i64 0]) := R11.out.below hb1
    clear B7 M8 K9 T10 R11
    clear hb1
    rw [hk]
    have yM0 : w1.cell? ⟨w.heap.size, 0, none⟩ = some (.int .i64 c) := (M12.out.2 0 (by simp)).1
    have yM1 : w1.cell? ⟨w.heap.size, 1, none⟩ = some (.int .i64 d) := (M12.out.2 1 (by simp)).1
    have hlM : w.heap.size < w1.heap.size := M12.out.1
    have yK0 : w1.cell? ⟨(w.heap.size + 1), 0, none⟩ = some (.slice a n cap) := (K12.out.2 0 (by simp)).1
    have hlK : (w.heap.size + 1) < w1.heap.size := K12.out.1
    have yT0 : w1.cell? ⟨(w.heap.size + 1 + 1), 0, none⟩ = some (.slice aS TT.nS kS) := (T12.out.2 0 (by simp)).1
    have yT1 : w1.cell? ⟨(w.heap.size + 1 + 1), 1, none⟩ = some (.slice aA TT.nA kA) := (T12.out.2 1 (by simp)).1
    have hlT : (w.heap.size + 1 + 1) < w1.heap.size := T12.out.1
    go_wp2_with fail
    refine (arbOk_spec c d _ TT sv hT _ (HT.out.below B12.out)).mono ?_
    rintro e w2 ⟨rfl, hb2⟩
    clear yM0 yM1 hlM yK0 hlK yT0 yT1 hlT
    have B13 : Hid (Below w.heap.size w w2) := bthen B12.out hb2
    have M13 : Hid (Bk w2 w.heap.size [.int .i64 c, .int .i64 d]) := M12.out.below hb2
    have K13 : Hid (Bk w2 (w.heap.size + 1) [.slice a n cap]) := K12.out.below hb2
    have T13 : Hid (Bk w2 (w.heap.size + 1 + 1) [.slice aS TT.nS kS, .slice aA TT.nA kA]) := T12.out.below hb2
    have R13 : Hid (Bk w2 (w.heap.size + 1 + 1 + 1) [.int .i64 0, .int .i64 0, .int .i64 0, .int .i64 0, .int .i64 0, .int .i64 0, .int .i64 0, .int .i64 0, .int .i64 0, .int .i64 0, .int .i64 0, .int .i64 0, .int .i64 0, .int .i64 0, .int .i64 0, .int .i64 0, .int .i64 0, .int .i64 0, .int .i64 0, .int .i64 0, .int .i64 0, .int .i64 0, .int .i64 0, .int .i64 0, .int .i64 0]) := R12.out.below hb2
    clear B12 M12 K12 T12 R12
    clear hb2
    rw [ht]
    go_wp2
    rw [store62_bk (R13.out) rfl _ rfl (by kernel_rfl)]
    obtain ⟨w9, e9⟩ : ∃ y, y = putL (w.heap.size + 1 + 1 + 1) ((#[.int .i64 0, .int .i64 0, .int .i64 0, .int .i64 0, .int .i64 0, .int .i64 0, .int .i64 0, .int .i64 0, .int .i64 0, .int .i64 0, .int .i64 0, .int .i64 0, .int .i64 0, .int .i64 0, .int .i64 0, .int .i64 0, .int .i64 0, .int .i64 0, .int .i64 0, .int .i64 0, .int .i64 0, .int .i64 0, .int .i64 0, .int .i64 0, .int .i64 0] : Array Value).toList) 0 w2 := ⟨_, rfl⟩
    have R9 : Hid (Bk w9 (w.heap.size + 1 + 1 + 1) [.int .i64 0, .int .i64 0, .int .i64 0, .int .i64 0, .int .i64 0, .int .i64 0, .int .i64 0, .int .i64 0, .int .i64 0, .int .i64 0, .int .i64 0, .int .i64 0, .int .i64 0, .int .i64 0, .int .i64 0, .int .i64 0, .int .i64 0, .int .i64 0, .int .i64 0, .int .i64 0, .int .i64 0, .int .i64 0, .int .i64 0, .int .i64 0, .int .i64 0]) := by unfold Hid; rw [e9]; exact bk_put (R13.out) rfl
    have B9 : Hid (Below w.heap.size w w9) := by unfold Hid; rw [e9]; exact below_put (by omega) _ _ (B13.out)
    rw [← e9]
    clear e9
    go_wp2
    have hr := fun tmps hp hq => results_mid2 (P := Try.prog) (fn := Try.f24) Try.results24 tmps w9 (w.heap.size + 1 + 1 + 1) [.int .i64 0, .int .i64 0, .int .i64 0, .int .i64 0, .int .i64 0, .int .i64 0, .int .i64 0, .int .i64 0, .int .i64 0, .int .i64 0, .int .i64 0, .int .i64 0, .int .i64 0, .int .i64 0, .int .i64 0, .int .i64 0, .int .i64 0, .int .i64 0, .int .i64 0, .int .i64 0, .int .i64 0, .int .i64 0, .int .i64 0, .int .i64 0, .int .i64 0] _ (.bool false) hp hq (Bk.range R9.out) Try.underlying62 rfl (by kernel_rfl)
    exact bodyPost_ret (v := .tuple #[.agg #[.int .i64 0, .int .i64 0, .int .i64 0, .int .i64 0, .int .i64 0, .int .i64 0, .int .i64 0, .int .i64 0, .int .i64 0, .int .i64 0, .int .i64 0, .int .i64 0, .int .i64 0, .int .i64 0, .int .i64 0, .int .i64 0, .int .i64 0, .int .i64 0, .int .i64 0, .int .i64 0, .int .i64 0, .int .i64 0, .int .i64 0, .int .i64 0, .int .i64 0], .bool false]) (hr _ rfl rfl) rfl ⟨rfl, B9.out⟩
  cases hs : seek n Z who with
  | none =>
    have hs : sayI c d n Z TT sv who = none := by simp [sayI, hs]
    rw [hs]
    clear hs
    go_enter Try.func24, Try.ntmps24
    go_wp2_with fail
    obtain ⟨w0, e0⟩ : ∃ w0, w0 = ((((w.alloc (.cells #[.int .i64 c, .int .i64 d] 30)).alloc (.cells #[.slice a n cap] 28)).alloc (.cells #[.slice aS TT.nS kS, .slice aA TT.nA kA] 65)).alloc (.cells #[.int .i64 0, .int .i64 0, .int .i64 0, .int .i64 0, .int .i64 0, .int .i64 0, .int .i64 0, .int .i64 0, .int .i64 0, .int .i64 0, .int .i64 0, .int .i64 0, .int .i64 0, .int .i64 0, .int .i64 0, .int .i64 0, .int .i64 0, .int .i64 0, .int .i64 0, .int .i64 0, .int .i64 0, .int .i64 0, .int .i64 0, .int .i64 0, .int .i64 0] 62)) := ⟨_, rfl⟩
    have B14 : Hid (Below w.heap.size w w0) := by rw [e0]; exact ((((Below.refl _ _).alloc (by simp) _).alloc (by simp) _).alloc (by simp; omega) _).alloc (by simp; omega) _
    have M15 : Hid (Bk w0 w.heap.size [.int .i64 c, .int .i64 d]) := by rw [e0]; exact (((bk_new w 30 [.int .i64 c, .int .i64 d]).below ((Below.refl _ _).alloc (Nat.le_refl _) _)).below ((Below.refl _ _).alloc (Nat.le_refl _) _)).below ((Below.refl _ _).alloc (Nat.le_refl _) _)
    have K16 : Hid (Bk w0 (w.heap.size + 1) [.slice a n cap]) := by rw [e0]; have := ((bk_new (w.alloc (.cells #[.int .i64 c, .int .i64 d] 30)) 28 [.slice a n cap]).below ((Below.refl _ _).alloc (Nat.le_refl _) (.cells #[.slice aS TT.nS kS, .slice aA TT.nA kA] 65))).below ((Below.refl _ _).alloc (Nat.le_refl _) (.cells #[.int .i64 0, .int .i64 0, .int .i64 0, .int .i64 0, .int .i64 0, .int .i64 0, .int .i64 0, .int .i64 0, .int .i64 0, .int .i64 0, .int .i64 0, .int .i64 0, .int .i64 0, .int .i64 0, .int .i64 0, .int .i64 0, .int .i64 0, .int .i64 0, .int .i64 0, .int .i64 0, .int .i64 0, .int .i64 0, .int .i64 0, .int .i64 0, .int .i64 0] 62)); rwa [show (w.alloc (.cells #[.int .i64 c, .int .i64 d] 30)).heap.size = w.heap.size + 1 by simp] at this
    have T17 : Hid (Bk w0 (w.heap.size + 1 + 1) [.slice aS TT.nS kS, .slice aA TT.nA kA]) := by rw [e0]; have := (bk_new ((w.alloc (.cells #[.int .i64 c, .int .i64 d] 30)).alloc (.cells #[.slice a n cap] 28)) 65 [.slice aS TT.nS kS, .slice aA TT.nA kA]).below ((Below.refl _ _).alloc (Nat.le_refl _) (.cells #[.int .i64 0, .int .i64 0, .int .i64 0, .int .i64 0, .int .i64 0, .int .i64 0, .int .i64 0, .int .i64 0, .int .i64 0, .int .i64 0, .int .i64 0, .int .i64 0, .int .i64 0, .int .i64 0, .int .i64 0, .int .i64 0, .int .i64 0, .int .i64 0, .int .i64 0, .int .i64 0, .int .i64 0, .int .i64 0, .int .i64 0, .int .i64 0, .int .i64 0] 62)); rwa [show ((w.alloc (.cells #[.int .i64 c, .int .i64 d] 30)).alloc (.cells #[.slice a n cap] 28)).heap.size = w.heap.size + 1 + 1 by simp] at this
    have R18 : Hid (Bk w0 (w.heap.size + 1 + 1 + 1) [.int .i64 0, .int .i64 0, .int .i64 0, .int .i64 0, .int .i64 0, .int .i64 0, .int .i64 0, .int .i64 0, .int .i64 0, .int .i64 0, .int .i64 0, .int .i64 0, .int .i64 0, .int .i64 0, .int .i64 0, .int .i64 0, .int .i64 0, .int .i64 0, .int .i64 0, .int .i64 0, .int .i64 0, .int .i64 0, .int .i64 0, .int .i64 0, .int .i64 0]) := by rw [e0]; have := bk_new (((w.alloc (.cells #[.int .i64 c, .int .i64 d] 30)).alloc (.cells #[.slice a n cap] 28)).alloc (.cells #[.slice aS TT.nS kS, .slice aA TT.nA kA] 65)) 62 [.int .i64 0, .int .i64 0, .int .i64 0, .int .i64 0, .int .i64 0, .int .i64 0, .int .i64 0, .int .i64 0, .int .i64 0, .int .i64 0, .int .i64 0, .int .i64 0, .int .i64 0, .int .i64 0, .int .i64 0, .int .i64 0, .int .i64 0, .int .i64 0, .int .i64 0, .int .i64 0, .int .i64 0, .int .i64 0, .int .i64 0, .int .i64 0, .int .i64 0]; rwa [show (((w.alloc (.cells #[.int .i64 c, .int .i64 d] 30)).alloc (.cells #[.slice a n cap] 28)).alloc (.cells #[.slice aS TT.nS kS, .slice aA TT.nA kA] 65)).heap.size = w.heap.size + 1 + 1 + 1 by simp] at this
    rw [← e0]
    clear e0
    refine (book_spec c d _ n cap Z hn _ (P10.row_below HR.out B14.out)).mono ?_
    rintro e w1 ⟨rfl, hb1⟩
    have B19 : Hid (Below w.heap.size w w1) := bthen B14.out hb1
    have M19 : Hid (Bk w1 w.heap.size [.int .i64 c, .int .i64 d]) := M15.out.below hb1
    have K19 : Hid (Bk w1 (w.heap.size + 1) [.slice a n cap]) := K16.out.below hb1
    have T19 : Hid (Bk w1 (w.heap.size + 1 + 1) [.slice aS TT.nS kS, .slice aA TT.nA kA]) := T17.out.below hb1
    have R19 : Hid (Bk w1 (w.heap.size + 1 + 1 + 1) [.int .i64 0, .int .i64 0, .int .i64 0, .int .i64 0, .int .i64 0, .int .i64 0, .int .i64 0, .int .i64 0, .int .i64 0, .int .i64 0, .int .i64 0, .int .i64 0, .int .i64 0, .int .i64 0, .int .i64 0, .int .i64 0, .int .i64 0, .int .i64 0, .int .i64 0, .int .i64 0, .int .i64 0, .int .i64 0, .int .i64 0, .int .i64 0, .int .i64 0]) := R18.out.below hb1
    clear B14 M15 K16 T17 R18
    clear hb1
    rw [hk]
    have yM0 : w1.cell? ⟨w.heap.size, 0, none⟩ = some (.int .i64 c) := (M19.out.2 0 (by simp)).1
    have yM1 : w1.cell? ⟨w.heap.size, 1, none⟩ = some (.int .i64 d) := (M19.out.2 1 (by simp)).1
    have hlM : w.heap.size < w1.heap.size := M19.out.1
    have yK0 : w1.cell? ⟨(w.heap.size + 1), 0, none⟩ = some (.slice a n cap) := (K19.out.2 0 (by simp)).1
    have hlK : (w.heap.size + 1) < w1.heap.size := K19.out.1
    have yT0 : w1.cell? ⟨(w.heap.size + 1 + 1), 0, none⟩ = some (.slice aS TT.nS kS) := (T19.out.2 0 (by simp)).1
    have yT1 : w1.cell? ⟨(w.heap.size + 1 + 1), 1, none⟩ = some (.slice aA TT.nA kA) := (T19.out.2 1 (by simp)).1
    have hlT : (w.heap.size + 1 + 1) < w1.heap.size := T19.out.1
    go_wp2_with fail
    refine (arbOk_spec c d _ TT sv hT _ (HT.out.below B19.out)).mono ?_
    rintro e w2 ⟨rfl, hb2⟩
    clear yM0 yM1 hlM yK0 hlK yT0 yT1 hlT
    have B20 : Hid (Below w.heap.size w w2) := bthen B19.out hb2
    have M20 : Hid (Bk w2 w.heap.size [.int .i64 c, .int .i64 d]) := M19.out.below hb2
    have K20 : Hid (Bk w2 (w.heap.size + 1) [.slice a n cap]) := K19.out.below hb2
    have T20 : Hid (Bk w2 (w.heap.size + 1 + 1) [.slice aS TT.nS kS, .slice aA TT.nA kA]) := T19.out.below hb2
    have R20 : Hid (Bk w2 (w.heap.size + 1 + 1 + 1) [.int .i64 0, .int .i64 0, .int .i64 0, .int .i64 0, .int .i64 0, .int .i64 0, .int .i64 0, .int .i64 0, .int .i64 0, .int .i64 0, .int .i64 0, .int .i64 0, .int .i64 0, .int .i64 0, .int .i64 0, .int .i64 0, .int .i64 0, .int .i64 0, .int .i64 0, .int .i64 0, .int .i64 0, .int .i64 0, .int .i64 0, .int .i64 0, .int .i64 0]) := R19.out.below hb2
    clear B19 M19 K19 T19 R19
    clear hb2
    rw [ht]
    have yM0 : w2.cell? ⟨w.heap.size, 0, none⟩ = some (.int .i64 c) := (M20.out.2 0 (by simp)).1
    have yM1 : w2.cell? ⟨w.heap.size, 1, none⟩ = some (.int .i64 d) := (M20.out.2 1 (by simp)).1
    have hlM : w.heap.size < w2.heap.size := M20.out.1
    have yK0 : w2.cell? ⟨(w.heap.size + 1), 0, none⟩ = some (.slice a n cap) := (K20.out.2 0 (by simp)).1
    have hlK : (w.heap.size + 1) < w2.heap.size := K20.out.1
    have yT0 : w2.cell? ⟨(w.heap.size + 1 + 1), 0, none⟩ = some (.slice aS TT.nS kS) := (T20.out.2 0 (by simp)).1
    have yT1 : w2.cell? ⟨(w.heap.size + 1 + 1), 1, none⟩ = some (.slice aA TT.nA kA) := (T20.out.2 1 (by simp)).1
    have hlT : (w.heap.size + 1 + 1) < w2.heap.size := T20.out.1
    go_wp2_with fail
    refine (at_spec _ n cap Z who hn _ (P10.row_below HR.out B20.out)).mono ?_
    rintro e w3 ⟨rfl, hb3⟩
    clear yM0 yM1 hlM yK0 hlK yT0 yT1 hlT
    have B21 : Hid (Below w.heap.size w w3) := bthen B20.out hb3
    have M21 : Hid (Bk w3 w.heap.size [.int .i64 c, .int .i64 d]) := M20.out.below hb3
    have K21 : Hid (Bk w3 (w.heap.size + 1) [.slice a n cap]) := K20.out.below hb3
    have T21 : Hid (Bk w3 (w.heap.size + 1 + 1) [.slice aS TT.nS kS, .slice aA TT.nA kA]) := T20.out.below hb3
    have R21 : Hid (Bk w3 (w.heap.size + 1 + 1 + 1) [.int .i64 0, .int .i64 0, .int .i64 0, .int .i64 0, .int .i64 0, .int .i64 0, .int .i64 0, .int .i64 0, .int .i64 0, .int .i64 0, .int .i64 0, .int .i64 0, .int .i64 0, .int .i64 0, .int .i64 0, .int .i64 0, .int .i64 0, .int .i64 0, .int .i64 0, .int .i64 0, .int .i64 0, .int .i64 0, .int .i64 0, .int .i64 0, .int .i64 0]) := R20.out.below hb3
    clear B20 M20 K20 T20 R20
    clear hb3
    rw [hs]
    simp only [atI]
    have yT0 : w3.cell? ⟨(w.heap.size + 1 + 1), 0, none⟩ = some (.slice aS TT.nS kS) := (T21.out.2 0 (by simp)).1
    have yT1 : w3.cell? ⟨(w.heap.size + 1 + 1), 1, none⟩ = some (.slice aA TT.nA kA) := (T21.out.2 1 (by simp)).1
    have hlT : (w.heap.size + 1 + 1) < w3.heap.size := T21.out.1
    have yK0 : w3.cell? ⟨(w.heap.size + 1), 0, none⟩ = some (.slice a n cap) := (K21.out.2 0 (by simp)).1
    have hlK : (w.heap.size + 1) < w3.heap.size := K21.out.1
    go_wp2_with fail
    refine wp_region_held_drew (S := fun w' => (∀ b o, b < w3.heap.size → w'.cell? ⟨b, o, none⟩ = w3.cell? ⟨b, o, none⟩) ∧ w3.heap.size ≤ w'.heap.size) (by kernel_rfl) ⟨fun _ _ _ => rfl, Nat.le_refl _⟩ ?_
    intro hHeld
    refine wpAnyH_take (i := 0) (v := .int .i64 (-1)) rfl (by kernel_rfl) (by kernel_rfl) (by kernel_rfl) (fun _ _ _ h => h) (Or.inl ⟨by rfl, ?_⟩) (by assumption) ?_
    · intro wx hSw; go_simp
    try simp only [Act.put, List.setIfInBounds_toArray, List.set_cons_zero, List.set_cons_succ, List.getElem_toArray, List.getElem_cons_zero]
    refine wpAnyH_take (i := 1) (v := .bool true) rfl (by kernel_rfl) (by kernel_rfl) (by kernel_rfl) (fun _ _ _ h => h) (Or.inl ⟨by rfl, ?_⟩) (by assumption) ?_
    · intro wx hSw; go_simp <;> first | omega | (exact IntWalk.i64_in _ (by omega)) | go_num
    try simp only [Act.put, List.setIfInBounds_toArray, List.set_cons_zero, List.set_cons_succ, List.getElem_toArray, List.getElem_cons_zero, List.getElem_cons_succ]
    refine wpAnyH_take (i := 2) (v := .bool true) rfl (by kernel_rfl) (by kernel_rfl) (by kernel_rfl) (fun _ _ _ h => h) (Or.inl ⟨by rfl, ?_⟩) (by assumption) ?_
    · intro wx hSw; go_simp
    try simp only [Act.put, List.setIfInBounds_toArray, List.set_cons_zero, List.set_cons_succ, List.getElem_toArray, List.getElem_cons_zero, List.getElem_cons_succ]
    refine wpAnyH_take (i := 3) (v := undef) rfl (by kernel_rfl) (by kernel_rfl) (by kernel_rfl) (fun _ _ _ h => h) (Or.inr ⟨by rfl, rfl⟩) (by assumption) ?_
    try simp only [Act.put, List.setIfInBounds_toArray, List.set_cons_zero, List.set_cons_succ, List.getElem_toArray, List.getElem_cons_zero, List.getElem_cons_succ]
    refine wpAnyH_take (i := 4) (v := undef) rfl (by kernel_rfl) (by kernel_rfl) (by kernel_rfl) (fun _ _ _ h => h) (Or.inr ⟨by rfl, rfl⟩) (by assumption) ?_
    try simp only [Act.put, List.setIfInBounds_toArray, List.set_cons_zero, List.set_cons_succ, List.getElem_toArray, List.getElem_cons_zero, List.getElem_cons_succ]
    refine wpAnyH_take (i := 5) (v := undef) rfl (by kernel_rfl) (by kernel_rfl) (by kernel_rfl) (fun _ _ _ h => h) (Or.inr ⟨by rfl, rfl⟩) (by assumption) ?_
    try simp only [Act.put, List.setIfInBounds_toArray, List.set_cons_zero, List.set_cons_succ, List.getElem_toArray, List.getElem_cons_zero, List.getElem_cons_succ]
    refine wpAnyH_take (i := 6) (v := undef) rfl (by kernel_rfl) (by kernel_rfl) (by kernel_rfl) (fun _ _ _ h => h) (Or.inr ⟨by rfl, rfl⟩) (by assumption) ?_
    try simp only [Act.put, List.setIfInBounds_toArray, List.set_cons_zero, List.set_cons_succ, List.getElem_toArray, List.getElem_cons_zero, List.getElem_cons_succ]
    refine wpAnyH_take (i := 7) (v := undef) rfl (by kernel_rfl) (by kernel_rfl) (by kernel_rfl) (fun _ _ _ h => h) (Or.inr ⟨by rfl, rfl⟩) (by assumption) ?_
    try simp only [Act.put, List.setIfInBounds_toArray, List.set_cons_zero, List.set_cons_succ, List.getElem_toArray, List.getElem_cons_zero, List.getElem_cons_succ]
    refine wpAnyH_take (i := 8) (v := undef) rfl (by kernel_rfl) (by kernel_rfl) (by kernel_rfl) (fun _ _ _ h => h) (Or.inr ⟨by rfl, rfl⟩) (by assumption) ?_
    try simp only [Act.put, List.setIfInBounds_toArray, List.set_cons_zero, List.set_cons_succ, List.getElem_toArray, List.getElem_cons_zero, List.getElem_cons_succ]
    refine wpAnyH_take (i := 9) (v := undef) rfl (by kernel_rfl) (by kernel_rfl) (by kernel_rfl) (fun _ _ _ h => h) (Or.inr ⟨by rfl, rfl⟩) (by assumption) ?_
    try simp only [Act.put, List.setIfInBounds_toArray, List.set_cons_zero, List.set_cons_succ, List.getElem_toArray, List.getElem_cons_zero, List.getElem_cons_succ]
    refine wpAnyH_take (i := 10) (v := .bool true) rfl (by kernel_rfl) (by kernel_rfl) (by kernel_rfl) (fun _ _ _ h => h) (Or.inl ⟨by rfl, ?_⟩) (by assumption) ?_
    · intro wx hSw; go_simp
    try simp only [Act.put, List.setIfInBounds_toArray, List.set_cons_zero, List.set_cons_succ, List.getElem_toArray, List.getElem_cons_zero, List.getElem_cons_succ]
    refine wpAnyH_take (i := 11) (v := .bool true) rfl (by kernel_rfl) (by kernel_rfl) (by kernel_rfl) (fun _ _ _ h => h) (Or.inl ⟨by rfl, ?_⟩) (by assumption) ?_
    · intro wx hSw; go_simp
    try simp only [Act.put, List.setIfInBounds_toArray, List.set_cons_zero, List.set_cons_succ, List.getElem_toArray, List.getElem_cons_zero, List.getElem_cons_succ]
    refine wpAnyH_take (i := 12) (v := undef) rfl (by kernel_rfl) (by kernel_rfl) (by kernel_rfl) (fun _ _ _ h => h) (Or.inr ⟨by rfl, rfl⟩) (by assumption) ?_
    try simp only [Act.put, List.setIfInBounds_toArray, List.set_cons_zero, List.set_cons_succ, List.getElem_toArray, List.getElem_cons_zero, List.getElem_cons_succ]
    refine wpAnyH_take (i := 13) (v := undef) rfl (by kernel_rfl) (by kernel_rfl) (by kernel_rfl) (fun _ _ _ h => h) (Or.inr ⟨by rfl, rfl⟩) (by assumption) ?_
    try simp only [Act.put, List.setIfInBounds_toArray, List.set_cons_zero, List.set_cons_succ, List.getElem_toArray, List.getElem_cons_zero, List.getElem_cons_succ]
    refine wpAnyH_take (i := 14) (v := undef) rfl (by kernel_rfl) (by kernel_rfl) (by kernel_rfl) (fun _ _ _ h => h) (Or.inr ⟨by rfl, rfl⟩) (by assumption) ?_
    try simp only [Act.put, List.setIfInBounds_toArray, List.set_cons_zero, List.set_cons_succ, List.getElem_toArray, List.getElem_cons_zero, List.getElem_cons_succ]
    refine wpAnyH_take (i := 15) (v := undef) rfl (by kernel_rfl) (by kernel_rfl) (by kernel_rfl) (fun _ _ _ h => h) (Or.inr ⟨by rfl, rfl⟩) (by assumption) ?_
    try simp only [Act.put, List.setIfInBounds_toArray, List.set_cons_zero, List.set_cons_succ, List.getElem_toArray, List.getElem_cons_zero, List.getElem_cons_succ]
    refine wpAnyH_take (i := 16) (v := undef) rfl (by kernel_rfl) (by kernel_rfl) (by kernel_rfl) (fun _ _ _ h => h) (Or.inr ⟨by rfl, rfl⟩) (by assumption) ?_
    try simp only [Act.put, List.setIfInBounds_toArray, List.set_cons_zero, List.set_cons_succ, List.getElem_toArray, List.getElem_cons_zero, List.getElem_cons_succ]
    refine wpAnyH_take (i := 17) (v := undef) rfl (by kernel_rfl) (by kernel_rfl) (by kernel_rfl) (fun _ _ _ h => h) (Or.inr ⟨by rfl, rfl⟩) (by assumption) ?_
    try simp only [Act.put, List.setIfInBounds_toArray, List.set_cons_zero, List.set_cons_succ, List.getElem_toArray, List.getElem_cons_zero, List.getElem_cons_succ]
    refine wpAnyH_take (i := 18) (v := undef) rfl (by kernel_rfl) (by kernel_rfl) (by kernel_rfl) (fun _ _ _ h => h) (Or.inr ⟨by rfl, rfl⟩) (by assumption) ?_
    try simp only [Act.put, List.setIfInBounds_toArray, List.set_cons_zero, List.set_cons_succ, List.getElem_toArray, List.getElem_cons_zero, List.getElem_cons_succ]
    refine wpAnyH_take (i := 19) (v := undef) rfl (by kernel_rfl) (by kernel_rfl) (by kernel_rfl) (fun _ _ _ h => h) (Or.inr ⟨by rfl, rfl⟩) (by assumption) ?_
    try simp only [Act.put, List.setIfInBounds_toArray, List.set_cons_zero, List.set_cons_succ, List.getElem_toArray, List.getElem_cons_zero, List.getElem_cons_succ]
    refine wpAnyH_take (i := 20) (v := undef) rfl (by kernel_rfl) (by kernel_rfl) (by kernel_rfl) (fun _ _ _ h => h) (Or.inr ⟨by rfl, rfl⟩) (by assumption) ?_
    try simp only [Act.put, List.setIfInBounds_toArray, List.set_cons_zero, List.set_cons_succ, List.getElem_toArray, List.getElem_cons_zero, List.getElem_cons_succ]
    refine wpAnyH_take (i := 21) (v := .bool true) rfl (by kernel_rfl) (by kernel_rfl) (by kernel_rfl) (fun _ _ _ h => h) (Or.inl ⟨by rfl, ?_⟩) (by assumption) ?_
    · intro wx hSw; go_simp
    try simp only [Act.put, List.setIfInBounds_toArray, List.set_cons_zero, List.set_cons_succ, List.getElem_toArray, List.getElem_cons_zero, List.getElem_cons_succ]
    refine wpAnyH_done (by kernel_rfl) ?_ _
    clear hHeld
    clear yT0 yT1 hlT yK0 hlK
    have hb4 : Below w3.heap.size w3 w3.drew := (Below.refl _ _).drew
    obtain ⟨x4, e4⟩ : ∃ y, y = w3.drew := ⟨_, rfl⟩
    rw [← e4] at hb4 ⊢
    clear e4
    have B22 : Hid (Below w.heap.size w x4) := bthen B21.out hb4
    have M22 : Hid (Bk x4 w.heap.size [.int .i64 c, .int .i64 d]) := M21.out.below hb4
    have K22 : Hid (Bk x4 (w.heap.size + 1) [.slice a n cap]) := K21.out.below hb4
    have T22 : Hid (Bk x4 (w.heap.size + 1 + 1) [.slice aS TT.nS kS, .slice aA TT.nA kA]) := T21.out.below hb4
    have R22 : Hid (Bk x4 (w.heap.size + 1 + 1 + 1) [.int .i64 0, .int .i64 0, .int .i64 0, .int .i64 0, .int .i64 0, .int .i64 0, .int .i64 0, .int .i64 0, .int .i64 0, .int .i64 0, .int .i64 0, .int .i64 0, .int .i64 0, .int .i64 0, .int .i64 0, .int .i64 0, .int .i64 0, .int .i64 0, .int .i64 0, .int .i64 0, .int .i64 0, .int .i64 0, .int .i64 0, .int .i64 0, .int .i64 0]) := R21.out.below hb4
    clear B21 M21 K21 T21 R21
    clear hb4
    go_wp2
    rw [store62_bk (R22.out) rfl _ rfl (by kernel_rfl)]
    obtain ⟨w9, e9⟩ : ∃ y, y = putL (w.heap.size + 1 + 1 + 1) ((#[.int .i64 0, .int .i64 0, .int .i64 0, .int .i64 0, .int .i64 0, .int .i64 0, .int .i64 0, .int .i64 0, .int .i64 0, .int .i64 0, .int .i64 0, .int .i64 0, .int .i64 0, .int .i64 0, .int .i64 0, .int .i64 0, .int .i64 0, .int .i64 0, .int .i64 0, .int .i64 0, .int .i64 0, .int .i64 0, .int .i64 0, .int .i64 0, .int .i64 0] : Array Value).toList) 0 x4 := ⟨_, rfl⟩
    have R9 : Hid (Bk w9 (w.heap.size + 1 + 1 + 1) [.int .i64 0, .int .i64 0, .int .i64 0, .int .i64 0, .int .i64 0, .int .i64 0, .int .i64 0, .int .i64 0, .int .i64 0, .int .i64 0, .int .i64 0, .int .i64 0, .int .i64 0, .int .i64 0, .int .i64 0, .int .i64 0, .int .i64 0, .int .i64 0, .int .i64 0, .int .i64 0, .int .i64 0, .int .i64 0, .int .i64 0, .int .i64 0, .int .i64 0]) := by unfold Hid; rw [e9]; exact bk_put (R22.out) rfl
    have B9 : Hid (Below w.heap.size w w9) := by unfold Hid; rw [e9]; exact below_put (by omega) _ _ (B22.out)
    rw [← e9]
    clear e9
    go_wp2
    have hr := fun tmps hp hq => results_mid2 (P := Try.prog) (fn := Try.f24) Try.results24 tmps w9 (w.heap.size + 1 + 1 + 1) [.int .i64 0, .int .i64 0, .int .i64 0, .int .i64 0, .int .i64 0, .int .i64 0, .int .i64 0, .int .i64 0, .int .i64 0, .int .i64 0, .int .i64 0, .int .i64 0, .int .i64 0, .int .i64 0, .int .i64 0, .int .i64 0, .int .i64 0, .int .i64 0, .int .i64 0, .int .i64 0, .int .i64 0, .int .i64 0, .int .i64 0, .int .i64 0, .int .i64 0] _ (.bool false) hp hq (Bk.range R9.out) Try.underlying62 rfl (by kernel_rfl)
    exact bodyPost_ret (v := .tuple #[.agg #[.int .i64 0, .int .i64 0, .int .i64 0, .int .i64 0, .int .i64 0, .int .i64 0, .int .i64 0, .int .i64 0, .int .i64 0, .int .i64 0, .int .i64 0, .int .i64 0, .int .i64 0, .int .i64 0, .int .i64 0, .int .i64 0, .int .i64 0, .int .i64 0, .int .i64 0, .int .i64 0, .int .i64 0, .int .i64 0, .int .i64 0, .int .i64 0, .int .i64 0], .bool false]) (hr _ rfl rfl) rfl ⟨rfl, B9.out⟩
  | some i =>
    obtain ⟨hi, hz, _⟩ := seek_some hs
    have hi' : (i : Int) < n := by omega
    have hi1 : ¬ (i : Int) = -1 := by omega
    obtain ⟨b, o, rfl, hbl, hrow⟩ : ∃ b o, a = some ⟨b, o, none⟩ ∧ b < w.heap.size ∧ ∀ k j, k < n → j < 10 → w.cell? ⟨b, o + k * 10 + j, none⟩ = some (P10.cv j (Z k j)) := by
      rcases HR.out with h | h
      · omega
      · exact h
    have HW : Hid (∀ k j, k < n → j < 10 → w.cell? ⟨b, o + k * 10 + j, none⟩ = some (P10.cv j (Z k j))) := hrow
    clear hrow
    cases hb : P10.tr (Z i 2)
    · have hs : sayI c d n Z TT sv who = none := by simp [sayI, hs, hb]
      rw [hs]
      clear hs
      go_enter Try.func24, Try.ntmps24
      go_wp2_with fail
      obtain ⟨w0, e0⟩ : ∃ w0, w0 = ((((w.alloc (.cells #[.int .i64 c, .int .i64 d] 30)).alloc (.cells #[.slice (some ⟨b, o, none⟩) n cap] 28)).alloc (.cells #[.slice aS TT.nS kS, .slice aA TT.nA kA] 65)).alloc (.cells #[.int .i64 0, .int .i64 0, .int .i64 0, .int .i64 0, .int .i64 0, .int .i64 0, .int .i64 0, .int .i64 0, .int .i64 0, .int .i64 0, .int .i64 0, .int .i64 0, .int .i64 0, .int .i64 0, .int .i64 0, .int .i64 0, .int .i64 0, .int .i64 0, .int .i64 0, .int .i64 0, .int .i64 0, .int .i64 0, .int .i64 0, .int .i64 0, .int .i64 0] 62)) := ⟨_, rfl⟩
      have B23 : Hid (Below w.heap.size w w0) := by rw [e0]; exact ((((Below.refl _ _).alloc (by simp) _).alloc (by simp) _).alloc (by simp; omega) _).alloc (by simp; omega) _
      have M24 : Hid (Bk w0 w.heap.size [.int .i64 c, .int .i64 d]) := by rw [e0]; exact (((bk_new w 30 [.int .i64 c, .int .i64 d]).below ((Below.refl _ _).alloc (Nat.le_refl _) _)).below ((Below.refl _ _).alloc (Nat.le_refl _) _)).below ((Below.refl _ _).alloc (Nat.le_refl _) _)
      have K25 : Hid (Bk w0 (w.heap.size + 1) [.slice (some ⟨b, o, none⟩) n cap]) := by rw [e0]; have := ((bk_new (w.alloc (.cells #[.int .i64 c, .int .i64 d] 30)) 28 [.slice (some ⟨b, o, none⟩) n cap]).below ((Below.refl _ _).alloc (Nat.le_refl _) (.cells #[.slice aS TT.nS kS, .slice aA TT.nA kA] 65))).below ((Below.refl _ _).alloc (Nat.le_refl _) (.cells #[.int .i64 0, .int .i64 0, .int .i64 0, .int .i64 0, .int .i64 0, .int .i64 0, .int .i64 0, .int .i64 0, .int .i64 0, .int .i64 0, .int .i64 0, .int .i64 0, .int .i64 0, .int .i64 0, .int .i64 0, .int .i64 0, .int .i64 0, .int .i64 0, .int .i64 0, .int .i64 0, .int .i64 0, .int .i64 0, .int .i64 0, .int .i64 0, .int .i64 0] 62)); rwa [show (w.alloc (.cells #[.int .i64 c, .int .i64 d] 30)).heap.size = w.heap.size + 1 by simp] at this
      have T26 : Hid (Bk w0 (w.heap.size + 1 + 1) [.slice aS TT.nS kS, .slice aA TT.nA kA]) := by rw [e0]; have := (bk_new ((w.alloc (.cells #[.int .i64 c, .int .i64 d] 30)).alloc (.cells #[.slice (some ⟨b, o, none⟩) n cap] 28)) 65 [.slice aS TT.nS kS, .slice aA TT.nA kA]).below ((Below.refl _ _).alloc (Nat.le_refl _) (.cells #[.int .i64 0, .int .i64 0, .int .i64 0, .int .i64 0, .int .i64 0, .int .i64 0, .int .i64 0, .int .i64 0, .int .i64 0, .int .i64 0, .int .i64 0, .int .i64 0, .int .i64 0, .int .i64 0, .int .i64 0, .int .i64 0, .int .i64 0, .int .i64 0, .int .i64 0, .int .i64 0, .int .i64 0, .int .i64 0, .int .i64 0, .int .i64 0, .int .i64 0] 62)); rwa [show ((w.alloc (.cells #[.int .i64 c, .int .i64 d] 30)).alloc (.cells #[.slice (some ⟨b, o, none⟩) n cap] 28)).heap.size = w.heap.size + 1 + 1 by simp] at this
      have R27 : Hid (Bk w0 (w.heap.size + 1 + 1 + 1) [.int .i64 0, .int .i64 0, .int .i64 0, .int .i64 0, .int .i64 0, .int .i64 0, .int .i64 0, .int .i64 0, .int .i64 0, .int .i64 0, .int .i64 0, .int .i64 0, .int .i64 0, .int .i64 0, .int .i64 0, .int .i64 0, .int .i64 0, .int .i64 0, .int .i64 0, .int .i64 0, .int .i64 0, .int .i64 0, .int .i64 0, .int .i64 0, .int .i64 0]) := by rw [e0]; have := bk_new (((w.alloc (.cells #[.int .i64 c, .int .i64 d] 30)).alloc (.cells #[.slice (some ⟨b, o, none⟩) n cap] 28)).alloc (.cells #[.slice aS TT.nS kS, .slice aA TT.nA kA] 65)) 62 [.int .i64 0, .int .i64 0, .int .i64 0, .int .i64 0, .int .i64 0, .int .i64 0, .int .i64 0, .int .i64 0, .int .i64 0, .int .i64 0, .int .i64 0, .int .i64 0, .int .i64 0, .int .i64 0, .int .i64 0, .int .i64 0, .int .i64 0, .int .i64 0, .int .i64 0, .int .i64 0, .int .i64 0, .int .i64 0, .int .i64 0, .int .i64 0, .int .i64 0]; rwa [show (((w.alloc (.cells #[.int .i64 c, .int .i64 d] 30)).alloc (.cells #[.slice (some ⟨b, o, none⟩) n cap] 28)).alloc (.cells #[.slice aS TT.nS kS, .slice aA TT.nA kA] 65)).heap.size = w.heap.size + 1 + 1 + 1 by simp] at this
      rw [← e0]
      clear e0
      refine (book_spec c d _ n cap Z hn _ (P10.row_below HR.out B23.out)).mono ?_
      rintro e w1 ⟨rfl, hb1⟩
      have B28 : Hid (Below w.heap.size w w1) := bthen B23.out hb1
      have M28 : Hid (Bk w1 w.heap.size [.int .i64 c, .int .i64 d]) := M24.out.below hb1
      have K28 : Hid (Bk w1 (w.heap.size + 1) [.slice (some ⟨b, o, none⟩) n cap]) := K25.out.below hb1
      have T28 : Hid (Bk w1 (w.heap.size + 1 + 1) [.slice aS TT.nS kS, .slice aA TT.nA kA]) := T26.out.below hb1
      have R28 : Hid (Bk w1 (w.heap.size + 1 + 1 + 1) [.int .i64 0, .int .i64 0, .int .i64 0, .int .i64 0, .int .i64 0, .int .i64 0, .int .i64 0, .int .i64 0, .int .i64 0, .int .i64 0, .int .i64 0, .int .i64 0, .int .i64 0, .int .i64 0, .int .i64 0, .int .i64 0, .int .i64 0, .int .i64 0, .int .i64 0, .int .i64 0, .int .i64 0, .int .i64 0, .int .i64 0, .int .i64 0, .int .i64 0]) := R27.out.below hb1
      clear B23 M24 K25 T26 R27
      clear hb1
      rw [hk]
      have yM0 : w1.cell? ⟨w.heap.size, 0, none⟩ = some (.int .i64 c) := (M28.out.2 0 (by simp)).1
      have yM1 : w1.cell? ⟨w.heap.size, 1, none⟩ = some (.int .i64 d) := (M28.out.2 1 (by simp)).1
      have hlM : w.heap.size < w1.heap.size := M28.out.1
      have yK0 : w1.cell? ⟨(w.heap.size + 1), 0, none⟩ = some (.slice (some ⟨b, o, none⟩) n cap) := (K28.out.2 0 (by simp)).1
      have hlK : (w.heap.size + 1) < w1.heap.size := K28.out.1
      have yT0 : w1.cell? ⟨(w.heap.size + 1 + 1), 0, none⟩ = some (.slice aS TT.nS kS) := (T28.out.2 0 (by simp)).1
      have yT1 : w1.cell? ⟨(w.heap.size + 1 + 1), 1, none⟩ = some (.slice aA TT.nA kA) := (T28.out.2 1 (by simp)).1
      have hlT : (w.heap.size + 1 + 1) < w1.heap.size := T28.out.1
      go_wp2_with fail
      refine (arbOk_spec c d _ TT sv hT _ (HT.out.below B28.out)).mono ?_
      rintro e w2 ⟨rfl, hb2⟩
      clear yM0 yM1 hlM yK0 hlK yT0 yT1 hlT
      have B29 : Hid (Below w.heap.size w w2) := bthen B28.out hb2
      have M29 : Hid (Bk w2 w.heap.size [.int .i64 c, .int .i64 d]) := M28.out.below hb2
      have K29 : Hid (Bk w2 (w.heap.size + 1) [.slice (some ⟨b, o, none⟩) n cap]) := K28.out.below hb2
      have T29 : Hid (Bk w2 (w.heap.size + 1 + 1) [.slice aS TT.nS kS, .slice aA TT.nA kA]) := T28.out.below hb2
      have R29 : Hid (Bk w2 (w.heap.size + 1 + 1 + 1) [.int .i64 0, .int .i64 0, .int .i64 0, .int .i64 0, .int .i64 0, .int .i64 0, .int .i64 0, .int .i64 0, .int .i64 0, .int .i64 0, .int .i64 0, .int .i64 0, .int .i64 0, .int .i64 0, .int .i64 0, .int .i64 0, .int .i64 0, .int .i64 0, .int .i64 0, .int .i64 0, .int .i64 0, .int .i64 0, .int .i64 0, .int .i64 0, .int .i64 0]) := R28.out.below hb2
      clear B28 M28 K28 T28 R28
      clear hb2
      rw [ht]
      have yM0 : w2.cell? ⟨w.heap.size, 0, none⟩ = some (.int .i64 c) := (M29.out.2 0 (by simp)).1
      have yM1 : w2.cell? ⟨w.heap.size, 1, none⟩ = some (.int .i64 d) := (M29.out.2 1 (by simp)).1
      have hlM : w.heap.size < w2.heap.size := M29.out.1
      have yK0 : w2.cell? ⟨(w.heap.size + 1), 0, none⟩ = some (.slice (some ⟨b, o, none⟩) n cap) := (K29.out.2 0 (by simp)).1
      have hlK : (w.heap.size + 1) < w2.heap.size := K29.out.1
      have yT0 : w2.cell? ⟨(w.heap.size + 1 + 1), 0, none⟩ = some (.slice aS TT.nS kS) := (T29.out.2 0 (by simp)).1
      have yT1 : w2.cell? ⟨(w.heap.size + 1 + 1), 1, none⟩ = some (.slice aA TT.nA kA) := (T29.out.2 1 (by simp)).1
      have hlT : (w.heap.size + 1 + 1) < w2.heap.size := T29.out.1
      go_wp2_with fail
      refine (at_spec _ n cap Z who hn _ (P10.row_below HR.out B29.out)).mono ?_
      rintro e w3 ⟨rfl, hb3⟩
      clear yM0 yM1 hlM yK0 hlK yT0 yT1 hlT
      have B30 : Hid (Below w.heap.size w w3) := bthen B29.out hb3
      have M30 : Hid (Bk w3 w.heap.size [.int .i64 c, .int .i64 d]) := M29.out.below hb3
      have K30 : Hid (Bk w3 (w.heap.size + 1) [.slice (some ⟨b, o, none⟩) n cap]) := K29.out.below hb3
      have T30 : Hid (Bk w3 (w.heap.size + 1 + 1) [.slice aS TT.nS kS, .slice aA TT.nA kA]) := T29.out.below hb3
      have R30 : Hid (Bk w3 (w.heap.size + 1 + 1 + 1) [.int .i64 0, .int .i64 0, .int .i64 0, .int .i64 0, .int .i64 0, .int .i64 0, .int .i64 0, .int .i64 0, .int .i64 0, .int .i64 0, .int .i64 0, .int .i64 0, .int .i64 0, .int .i64 0, .int .i64 0, .int .i64 0, .int .i64 0, .int .i64 0, .int .i64 0, .int .i64 0, .int .i64 0, .int .i64 0, .int .i64 0, .int .i64 0, .int .i64 0]) := R29.out.below hb3
      clear B29 M29 K29 T29 R29
      clear hb3
      rw [hs]
      simp only [atI]
      have c0 : w3.cell? ⟨b, o + i * 10, none⟩ = some (.int .i64 (Z i 0)) := (B30.out.cell (p := ⟨b, _, none⟩) hbl).trans (HW.out i 0 hi (by omega))
      have c1 : w3.cell? ⟨b, o + i * 10 + 1, none⟩ = some (.int .i64 (Z i 1)) := (B30.out.cell (p := ⟨b, _, none⟩) hbl).trans (HW.out i 1 hi (by omega))
      have c2 : w3.cell? ⟨b, o + i * 10 + 2, none⟩ = some (.bool false) := (B30.out.cell (p := ⟨b, _, none⟩) hbl).trans ((HW.out i 2 hi (by omega)).trans (by simp [P10.cv, hb]))
      have c3 : w3.cell? ⟨b, o + i * 10 + 3, none⟩ = some (.int .i64 (Z i 3)) := (B30.out.cell (p := ⟨b, _, none⟩) hbl).trans (HW.out i 3 hi (by omega))
      have c4 : w3.cell? ⟨b, o + i * 10 + 4, none⟩ = some (.int .i64 (Z i 4)) := (B30.out.cell (p := ⟨b, _, none⟩) hbl).trans (HW.out i 4 hi (by omega))
      have c5 : w3.cell? ⟨b, o + i * 10 + 5, none⟩ = some (.int .i64 (Z i 5)) := (B30.out.cell (p := ⟨b, _, none⟩) hbl).trans (HW.out i 5 hi (by omega))
      have c6 : w3.cell? ⟨b, o + i * 10 + 6, none⟩ = some (.int .i64 (Z i 6)) := (B30.out.cell (p := ⟨b, _, none⟩) hbl).trans (HW.out i 6 hi (by omega))
      have c7 : w3.cell? ⟨b, o + i * 10 + 7, none⟩ = some (.int .i64 (Z i 7)) := (B30.out.cell (p := ⟨b, _, none⟩) hbl).trans (HW.out i 7 hi (by omega))
      have c8 : w3.cell? ⟨b, o + i * 10 + 8, none⟩ = some (.int .i64 (Z i 8)) := (B30.out.cell (p := ⟨b, _, none⟩) hbl).trans (HW.out i 8 hi (by omega))
      have c9 : w3.cell? ⟨b, o + i * 10 + 9, none⟩ = some (.int .i64 (Z i 9)) := (B30.out.cell (p := ⟨b, _, none⟩) hbl).trans (HW.out i 9 hi (by omega))
      have lb : b < w3.heap.size := Nat.lt_of_lt_of_le hbl B30.out.size
      have yT0 : w3.cell? ⟨(w.heap.size + 1 + 1), 0, none⟩ = some (.slice aS TT.nS kS) := (T30.out.2 0 (by simp)).1
      have yT1 : w3.cell? ⟨(w.heap.size + 1 + 1), 1, none⟩ = some (.slice aA TT.nA kA) := (T30.out.2 1 (by simp)).1
      have hlT : (w.heap.size + 1 + 1) < w3.heap.size := T30.out.1
      have yK0 : w3.cell? ⟨(w.heap.size + 1), 0, none⟩ = some (.slice (some ⟨b, o, none⟩) n cap) := (K30.out.2 0 (by simp)).1
      have hlK : (w.heap.size + 1) < w3.heap.size := K30.out.1
      go_wp2_with fail
      refine wp_region_held_drew (S := fun w' => (∀ b o, b < w3.heap.size → w'.cell? ⟨b, o, none⟩ = w3.cell? ⟨b, o, none⟩) ∧ w3.heap.size ≤ w'.heap.size) (by kernel_rfl) ⟨fun _ _ _ => rfl, Nat.le_refl _⟩ ?_
      intro hHeld
      refine wpAnyH_take (i := 0) (v := .int .i64 (i : Int)) rfl (by kernel_rfl) (by kernel_rfl) (by kernel_rfl) (fun _ _ _ h => h) (Or.inl ⟨by rfl, ?_⟩) (by assumption) ?_
      · intro wx hSw; go_simp
      try simp only [Act.put, List.setIfInBounds_toArray, List.set_cons_zero, List.set_cons_succ, List.getElem_toArray, List.getElem_cons_zero]
      refine wpAnyH_take (i := 1) (v := .bool false) rfl (by kernel_rfl) (by kernel_rfl) (by kernel_rfl) (fun _ _ _ h => h) (Or.inl ⟨by rfl, ?_⟩) (by assumption) ?_
      · intro wx hSw; go_simp <;> first | omega | (exact IntWalk.i64_in _ (by omega)) | go_num
      try simp only [Act.put, List.setIfInBounds_toArray, List.set_cons_zero, List.set_cons_succ, List.getElem_toArray, List.getElem_cons_zero, List.getElem_cons_succ]
      refine wpAnyH_take (i := 2) (v := .bool false) rfl (by kernel_rfl) (by kernel_rfl) (by kernel_rfl) (fun _ _ _ h => h) (Or.inl ⟨by rfl, ?_⟩) (by assumption) ?_
      · intro wx hSw; go_simp
      try simp only [Act.put, List.setIfInBounds_toArray, List.set_cons_zero, List.set_cons_succ, List.getElem_toArray, List.getElem_cons_zero, List.getElem_cons_succ]
      refine wpAnyH_take (i := 3) (v := .pointer (some ⟨(w.heap.size + 1), 0, none⟩)) rfl (by kernel_rfl) (by kernel_rfl) (by kernel_rfl) (fun _ _ _ h => h) (Or.inl ⟨by rfl, ?_⟩) (by assumption) ?_
      · intro wx hSw; go_simp
      try simp only [Act.put, List.setIfInBounds_toArray, List.set_cons_zero, List.set_cons_succ, List.getElem_toArray, List.getElem_cons_zero, List.getElem_cons_succ]
      refine wpAnyH_take (i := 4) (v := .slice (some ⟨b, o, none⟩) n cap) rfl (by kernel_rfl) (by kernel_rfl) (by kernel_rfl) (fun _ _ _ h => h) (Or.inl ⟨by rfl, ?_⟩) (by assumption) ?_
      · intro wx hSw; go_simp
      try simp only [Act.put, List.setIfInBounds_toArray, List.set_cons_zero, List.set_cons_succ, List.getElem_toArray, List.getElem_cons_zero, List.getElem_cons_succ]
      refine wpAnyH_take (i := 5) (v := .int .i64 (i : Int)) rfl (by kernel_rfl) (by kernel_rfl) (by kernel_rfl) (fun _ _ _ h => h) (Or.inl ⟨by rfl, ?_⟩) (by assumption) ?_
      · intro wx hSw; go_simp
      try simp only [Act.put, List.setIfInBounds_toArray, List.set_cons_zero, List.set_cons_succ, List.getElem_toArray, List.getElem_cons_zero, List.getElem_cons_succ]
      refine wpAnyH_take (i := 6) (v := .pointer (some ⟨b, o + i * 10, none⟩)) rfl (by kernel_rfl) (by kernel_rfl) (by kernel_rfl) (fun _ _ _ h => h) (Or.inl ⟨by rfl, ?_⟩) (by assumption) ?_
      · intro wx hSw; go_simp
      try simp only [Act.put, List.setIfInBounds_toArray, List.set_cons_zero, List.set_cons_succ, List.getElem_toArray, List.getElem_cons_zero, List.getElem_cons_succ]
      refine wpAnyH_take (i := 7) (v := .pointer (some ⟨b, o + i * 10 + 2, none⟩)) rfl (by kernel_rfl) (by kernel_rfl) (by kernel_rfl) (fun _ _ _ h => h) (Or.inl ⟨by rfl, ?_⟩) (by assumption) ?_
      · intro wx hSw; go_simp
      try simp only [Act.put, List.setIfInBounds_toArray, List.set_cons_zero, List.set_cons_succ, List.getElem_toArray, List.getElem_cons_zero, List.getElem_cons_succ]
      refine wpAnyH_take (i := 8) (v := .bool false) rfl (by kernel_rfl) (by kernel_rfl) (by kernel_rfl) (fun _ _ _ h => h) (Or.inl ⟨by rfl, ?_⟩) (by assumption) ?_
      · intro wx hSw; go_simp
      try simp only [Act.put, List.setIfInBounds_toArray, List.set_cons_zero, List.set_cons_succ, List.getElem_toArray, List.getElem_cons_zero, List.getElem_cons_succ]
      refine wpAnyH_take (i := 9) (v := .bool true) rfl (by kernel_rfl) (by kernel_rfl) (by kernel_rfl) (fun _ _ _ h => h) (Or.inl ⟨by rfl, ?_⟩) (by assumption) ?_
      · intro wx hSw; go_simp
      try simp only [Act.put, List.setIfInBounds_toArray, List.set_cons_zero, List.set_cons_succ, List.getElem_toArray, List.getElem_cons_zero, List.getElem_cons_succ]
      refine wpAnyH_take (i := 10) (v := .bool true) rfl (by kernel_rfl) (by kernel_rfl) (by kernel_rfl) (fun _ _ _ h => h) (Or.inl ⟨by rfl, ?_⟩) (by assumption) ?_
      · intro wx hSw; go_simp
      try simp only [Act.put, List.setIfInBounds_toArray, List.set_cons_zero, List.set_cons_succ, List.getElem_toArray, List.getElem_cons_zero, List.getElem_cons_succ]
      refine wpAnyH_take (i := 11) (v := .bool true) rfl (by kernel_rfl) (by kernel_rfl) (by kernel_rfl) (fun _ _ _ h => h) (Or.inl ⟨by rfl, ?_⟩) (by assumption) ?_
      · intro wx hSw; go_simp
      try simp only [Act.put, List.setIfInBounds_toArray, List.set_cons_zero, List.set_cons_succ, List.getElem_toArray, List.getElem_cons_zero, List.getElem_cons_succ]
      refine wpAnyH_take (i := 12) (v := undef) rfl (by kernel_rfl) (by kernel_rfl) (by kernel_rfl) (fun _ _ _ h => h) (Or.inr ⟨by rfl, rfl⟩) (by assumption) ?_
      try simp only [Act.put, List.setIfInBounds_toArray, List.set_cons_zero, List.set_cons_succ, List.getElem_toArray, List.getElem_cons_zero, List.getElem_cons_succ]
      refine wpAnyH_take (i := 13) (v := undef) rfl (by kernel_rfl) (by kernel_rfl) (by kernel_rfl) (fun _ _ _ h => h) (Or.inr ⟨by rfl, rfl⟩) (by assumption) ?_
      try simp only [Act.put, List.setIfInBounds_toArray, List.set_cons_zero, List.set_cons_succ, List.getElem_toArray, List.getElem_cons_zero, List.getElem_cons_succ]
      refine wpAnyH_take (i := 14) (v := undef) rfl (by kernel_rfl) (by kernel_rfl) (by kernel_rfl) (fun _ _ _ h => h) (Or.inr ⟨by rfl, rfl⟩) (by assumption) ?_
      try simp only [Act.put, List.setIfInBounds_toArray, List.set_cons_zero, List.set_cons_succ, List.getElem_toArray, List.getElem_cons_zero, List.getElem_cons_succ]
      refine wpAnyH_take (i := 15) (v := undef) rfl (by kernel_rfl) (by kernel_rfl) (by kernel_rfl) (fun _ _ _ h => h) (Or.inr ⟨by rfl, rfl⟩) (by assumption) ?_
      try simp only [Act.put, List.setIfInBounds_toArray, List.set_cons_zero, List.set_cons_succ, List.getElem_toArray, List.getElem_cons_zero, List.getElem_cons_succ]
      refine wpAnyH_take (i := 16) (v := undef) rfl (by kernel_rfl) (by kernel_rfl) (by kernel_rfl) (fun _ _ _ h => h) (Or.inr ⟨by rfl, rfl⟩) (by assumption) ?_
      try simp only [Act.put, List.setIfInBounds_toArray, List.set_cons_zero, List.set_cons_succ, List.getElem_toArray, List.getElem_cons_zero, List.getElem_cons_succ]
      refine wpAnyH_take (i := 17) (v := undef) rfl (by kernel_rfl) (by kernel_rfl) (by kernel_rfl) (fun _ _ _ h => h) (Or.inr ⟨by rfl, rfl⟩) (by assumption) ?_
      try simp only [Act.put, List.setIfInBounds_toArray, List.set_cons_zero, List.set_cons_succ, List.getElem_toArray, List.getElem_cons_zero, List.getElem_cons_succ]
      refine wpAnyH_take (i := 18) (v := undef) rfl (by kernel_rfl) (by kernel_rfl) (by kernel_rfl) (fun _ _ _ h => h) (Or.inr ⟨by rfl, rfl⟩) (by assumption) ?_
      try simp only [Act.put, List.setIfInBounds_toArray, List.set_cons_zero, List.set_cons_succ, List.getElem_toArray, List.getElem_cons_zero, List.getElem_cons_succ]
      refine wpAnyH_take (i := 19) (v := undef) rfl (by kernel_rfl) (by kernel_rfl) (by kernel_rfl) (fun _ _ _ h => h) (Or.inr ⟨by rfl, rfl⟩) (by assumption) ?_
      try simp only [Act.put, List.setIfInBounds_toArray, List.set_cons_zero, List.set_cons_succ, List.getElem_toArray, List.getElem_cons_zero, List.getElem_cons_succ]
      refine wpAnyH_take (i := 20) (v := undef) rfl (by kernel_rfl) (by kernel_rfl) (by kernel_rfl) (fun _ _ _ h => h) (Or.inr ⟨by rfl, rfl⟩) (by assumption) ?_
      try simp only [Act.put, List.setIfInBounds_toArray, List.set_cons_zero, List.set_cons_succ, List.getElem_toArray, List.getElem_cons_zero, List.getElem_cons_succ]
      refine wpAnyH_take (i := 21) (v := .bool true) rfl (by kernel_rfl) (by kernel_rfl) (by kernel_rfl) (fun _ _ _ h => h) (Or.inl ⟨by rfl, ?_⟩) (by assumption) ?_
      · intro wx hSw; go_simp
      try simp only [Act.put, List.setIfInBounds_toArray, List.set_cons_zero, List.set_cons_succ, List.getElem_toArray, List.getElem_cons_zero, List.getElem_cons_succ]
      refine wpAnyH_done (by kernel_rfl) ?_ _
      clear hHeld
      clear yT0 yT1 hlT yK0 hlK
      clear c0 c1 c2 c3 c4 c5 c6 c7 c8 c9 lb
      have hb4 : Below w3.heap.size w3 w3.drew := (Below.refl _ _).drew
      obtain ⟨x4, e4⟩ : ∃ y, y = w3.drew := ⟨_, rfl⟩
      rw [← e4] at hb4 ⊢
      clear e4
      have B31 : Hid (Below w.heap.size w x4) := bthen B30.out hb4
      have M31 : Hid (Bk x4 w.heap.size [.int .i64 c, .int .i64 d]) := M30.out.below hb4
      have K31 : Hid (Bk x4 (w.heap.size + 1) [.slice (some ⟨b, o, none⟩) n cap]) := K30.out.below hb4
      have T31 : Hid (Bk x4 (w.heap.size + 1 + 1) [.slice aS TT.nS kS, .slice aA TT.nA kA]) := T30.out.below hb4
      have R31 : Hid (Bk x4 (w.heap.size + 1 + 1 + 1) [.int .i64 0, .int .i64 0, .int .i64 0, .int .i64 0, .int .i64 0, .int .i64 0, .int .i64 0, .int .i64 0, .int .i64 0, .int .i64 0, .int .i64 0, .int .i64 0, .int .i64 0, .int .i64 0, .int .i64 0, .int .i64 0, .int .i64 0, .int .i64 0, .int .i64 0, .int .i64 0, .int .i64 0, .int .i64 0, .int .i64 0, .int .i64 0, .int .i64 0]) := R30.out.below hb4
      clear B30 M30 K30 T30 R30
      clear hb4
      go_wp2
      rw [store62_bk (R31.out) rfl _ rfl (by kernel_rfl)]
      obtain ⟨w9, e9⟩ : ∃ y, y = putL (w.heap.size + 1 + 1 + 1) ((#[.int .i64 0, .int .i64 0, .int .i64 0, .int .i64 0, .int .i64 0, .int .i64 0, .int .i64 0, .int .i64 0, .int .i64 0, .int .i64 0, .int .i64 0, .int .i64 0, .int .i64 0, .int .i64 0, .int .i64 0, .int .i64 0, .int .i64 0, .int .i64 0, .int .i64 0, .int .i64 0, .int .i64 0, .int .i64 0, .int .i64 0, .int .i64 0, .int .i64 0] : Array Value).toList) 0 x4 := ⟨_, rfl⟩
      have R9 : Hid (Bk w9 (w.heap.size + 1 + 1 + 1) [.int .i64 0, .int .i64 0, .int .i64 0, .int .i64 0, .int .i64 0, .int .i64 0, .int .i64 0, .int .i64 0, .int .i64 0, .int .i64 0, .int .i64 0, .int .i64 0, .int .i64 0, .int .i64 0, .int .i64 0, .int .i64 0, .int .i64 0, .int .i64 0, .int .i64 0, .int .i64 0, .int .i64 0, .int .i64 0, .int .i64 0, .int .i64 0, .int .i64 0]) := by unfold Hid; rw [e9]; exact bk_put (R31.out) rfl
      have B9 : Hid (Below w.heap.size w w9) := by unfold Hid; rw [e9]; exact below_put (by omega) _ _ (B31.out)
      rw [← e9]
      clear e9
      go_wp2
      have hr := fun tmps hp hq => results_mid2 (P := Try.prog) (fn := Try.f24) Try.results24 tmps w9 (w.heap.size + 1 + 1 + 1) [.int .i64 0, .int .i64 0, .int .i64 0, .int .i64 0, .int .i64 0, .int .i64 0, .int .i64 0, .int .i64 0, .int .i64 0, .int .i64 0, .int .i64 0, .int .i64 0, .int .i64 0, .int .i64 0, .int .i64 0, .int .i64 0, .int .i64 0, .int .i64 0, .int .i64 0, .int .i64 0, .int .i64 0, .int .i64 0, .int .i64 0, .int .i64 0, .int .i64 0] _ (.bool false) hp hq (Bk.range R9.out) Try.underlying62 rfl (by kernel_rfl)
      exact bodyPost_ret (v := .tuple #[.agg #[.int .i64 0, .int .i64 0, .int .i64 0, .int .i64 0, .int .i64 0, .int .i64 0, .int .i64 0, .int .i64 0, .int .i64 0, .int .i64 0, .int .i64 0, .int .i64 0, .int .i64 0, .int .i64 0, .int .i64 0, .int .i64 0, .int .i64 0, .int .i64 0, .int .i64 0, .int .i64 0, .int .i64 0, .int .i64 0, .int .i64 0, .int .i64 0, .int .i64 0], .bool false]) (hr _ rfl rfl) rfl ⟨rfl, B9.out⟩
    cases hq : ((srvI TT (Z i 1)) == -1)
    · have he : ¬ (srvI TT (Z i 1)) = -1 := by simpa using hq
      have hs2 : sayI c d n Z TT sv who = some i := by simp [sayI, hk, ht, hs, hb, he]
      rw [hs2]
      simp only [sayM, Option.isSome_some]
      clear hs2
      go_enter Try.func24, Try.ntmps24
      go_wp2_with fail
      obtain ⟨w0, e0⟩ : ∃ w0, w0 = ((((w.alloc (.cells #[.int .i64 c, .int .i64 d] 30)).alloc (.cells #[.slice (some ⟨b, o, none⟩) n cap] 28)).alloc (.cells #[.slice aS TT.nS kS, .slice aA TT.nA kA] 65)).alloc (.cells #[.int .i64 0, .int .i64 0, .int .i64 0, .int .i64 0, .int .i64 0, .int .i64 0, .int .i64 0, .int .i64 0, .int .i64 0, .int .i64 0, .int .i64 0, .int .i64 0, .int .i64 0, .int .i64 0, .int .i64 0, .int .i64 0, .int .i64 0, .int .i64 0, .int .i64 0, .int .i64 0, .int .i64 0, .int .i64 0, .int .i64 0, .int .i64 0, .int .i64 0] 62)) := ⟨_, rfl⟩
      have B32 : Hid (Below w.heap.size w w0) := by rw [e0]; exact ((((Below.refl _ _).alloc (by simp) _).alloc (by simp) _).alloc (by simp; omega) _).alloc (by simp; omega) _
      have M33 : Hid (Bk w0 w.heap.size [.int .i64 c, .int .i64 d]) := by rw [e0]; exact (((bk_new w 30 [.int .i64 c, .int .i64 d]).below ((Below.refl _ _).alloc (Nat.le_refl _) _)).below ((Below.refl _ _).alloc (Nat.le_refl _) _)).below ((Below.refl _ _).alloc (Nat.le_refl _) _)
      have K34 : Hid (Bk w0 (w.heap.size + 1) [.slice (some ⟨b, o, none⟩) n cap]) := by rw [e0]; have := ((bk_new (w.alloc (.cells #[.int .i64 c, .int .i64 d] 30)) 28 [.slice (some ⟨b, o, none⟩) n cap]).below ((Below.refl _ _).alloc (Nat.le_refl _) (.cells #[.slice aS TT.nS kS, .slice aA TT.nA kA] 65))).below ((Below.refl _ _).alloc (Nat.le_refl _) (.cells #[.int .i64 0, .int .i64 0, .int .i64 0, .int .i64 0, .int .i64 0, .int .i64 0, .int .i64 0, .int .i64 0, .int .i64 0, .int .i64 0, .int .i64 0, .int .i64 0, .int .i64 0, .int .i64 0, .int .i64 0, .int .i64 0, .int .i64 0, .int .i64 0, .int .i64 0, .int .i64 0, .int .i64 0, .int .i64 0, .int .i64 0, .int .i64 0, .int .i64 0] 62)); rwa [show (w.alloc (.cells #[.int .i64 c, .int .i64 d] 30)).heap.size = w.heap.size + 1 by simp] at this
      have T35 : Hid (Bk w0 (w.heap.size + 1 + 1) [.slice aS TT.nS kS, .slice aA TT.nA kA]) := by rw [e0]; have := (bk_new ((w.alloc (.cells #[.int .i64 c, .int .i64 d] 30)).alloc (.cells #[.slice (some ⟨b, o, none⟩) n cap] 28)) 65 [.slice aS TT.nS kS, .slice aA TT.nA kA]).below ((Below.refl _ _).alloc (Nat.le_refl _) (.cells #[.int .i64 0, .int .i64 0, .int .i64 0, .int .i64 0, .int .i64 0, .int .i64 0, .int .i64 0, .int .i64 0, .int .i64 0, .int .i64 0, .int .i64 0, .int .i64 0, .int .i64 0, .int .i64 0, .int .i64 0, .int .i64 0, .int .i64 0, .int .i64 0, .int .i64 0, .int .i64 0, .int .i64 0, .int .i64 0, .int .i64 0, .int .i64 0, .int .i64 0] 62)); rwa [show ((w.alloc (.cells #[.int .i64 c, .int .i64 d] 30)).alloc (.cells #[.slice (some ⟨b, o, none⟩) n cap] 28)).heap.size = w.heap.size + 1 + 1 by simp] at this
      have R36 : Hid (Bk w0 (w.heap.size + 1 + 1 + 1) [.int .i64 0, .int .i64 0, .int .i64 0, .int .i64 0, .int .i64 0, .int .i64 0, .int .i64 0, .int .i64 0, .int .i64 0, .int .i64 0, .int .i64 0, .int .i64 0, .int .i64 0, .int .i64 0, .int .i64 0, .int .i64 0, .int .i64 0, .int .i64 0, .int .i64 0, .int .i64 0, .int .i64 0, .int .i64 0, .int .i64 0, .int .i64 0, .int .i64 0]) := by rw [e0]; have := bk_new (((w.alloc (.cells #[.int .i64 c, .int .i64 d] 30)).alloc (.cells #[.slice (some ⟨b, o, none⟩) n cap] 28)).alloc (.cells #[.slice aS TT.nS kS, .slice aA TT.nA kA] 65)) 62 [.int .i64 0, .int .i64 0, .int .i64 0, .int .i64 0, .int .i64 0, .int .i64 0, .int .i64 0, .int .i64 0, .int .i64 0, .int .i64 0, .int .i64 0, .int .i64 0, .int .i64 0, .int .i64 0, .int .i64 0, .int .i64 0, .int .i64 0, .int .i64 0, .int .i64 0, .int .i64 0, .int .i64 0, .int .i64 0, .int .i64 0, .int .i64 0, .int .i64 0]; rwa [show (((w.alloc (.cells #[.int .i64 c, .int .i64 d] 30)).alloc (.cells #[.slice (some ⟨b, o, none⟩) n cap] 28)).alloc (.cells #[.slice aS TT.nS kS, .slice aA TT.nA kA] 65)).heap.size = w.heap.size + 1 + 1 + 1 by simp] at this
      rw [← e0]
      clear e0
      refine (book_spec c d _ n cap Z hn _ (P10.row_below HR.out B32.out)).mono ?_
      rintro e w1 ⟨rfl, hb1⟩
      have B37 : Hid (Below w.heap.size w w1) := bthen B32.out hb1
      have M37 : Hid (Bk w1 w.heap.size [.int .i64 c, .int .i64 d]) := M33.out.below hb1
      have K37 : Hid (Bk w1 (w.heap.size + 1) [.slice (some ⟨b, o, none⟩) n cap]) := K34.out.below hb1
      have T37 : Hid (Bk w1 (w.heap.size + 1 + 1) [.slice aS TT.nS kS, .slice aA TT.nA kA]) := T35.out.below hb1
      have R37 : Hid (Bk w1 (w.heap.size + 1 + 1 + 1) [.int .i64 0, .int .i64 0, .int .i64 0, .int .i64 0, .int .i64 0, .int .i64 0, .int .i64 0, .int .i64 0, .int .i64 0, .int .i64 0, .int .i64 0, .int .i64 0, .int .i64 0, .int .i64 0, .int .i64 0, .int .i64 0, .int .i64 0, .int .i64 0, .int .i64 0, .int .i64 0, .int .i64 0, .int .i64 0, .int .i64 0, .int .i64 0, .int .i64 0]) := R36.out.below hb1
      clear B32 M33 K34 T35 R36
      clear hb1
      rw [hk]
      have yM0 : w1.cell? ⟨w.heap.size, 0, none⟩ = some (.int .i64 c) := (M37.out.2 0 (by simp)).1
      have yM1 : w1.cell? ⟨w.heap.size, 1, none⟩ = some (.int .i64 d) := (M37.out.2 1 (by simp)).1
      have hlM : w.heap.size < w1.heap.size := M37.out.1
      have yK0 : w1.cell? ⟨(w.heap.size + 1), 0, none⟩ = some (.slice (some ⟨b, o, none⟩) n cap) := (K37.out.2 0 (by simp)).1
      have hlK : (w.heap.size + 1) < w1.heap.size := K37.out.1
      have yT0 : w1.cell? ⟨(w.heap.size + 1 + 1), 0, none⟩ = some (.slice aS TT.nS kS) := (T37.out.2 0 (by simp)).1
      have yT1 : w1.cell? ⟨(w.heap.size + 1 + 1), 1, none⟩ = some (.slice aA TT.nA kA) := (T37.out.2 1 (by simp)).1
      have hlT : (w.heap.size + 1 + 1) < w1.heap.size := T37.out.1
      go_wp2_with fail
      refine (arbOk_spec c d _ TT sv hT _ (HT.out.below B37.out)).mono ?_
      rintro e w2 ⟨rfl, hb2⟩
      clear yM0 yM1 hlM yK0 hlK yT0 yT1 hlT
      have B38 : Hid (Below w.heap.size w w2) := bthen B37.out hb2
      have M38 : Hid (Bk w2 w.heap.size [.int .i64 c, .int .i64 d]) := M37.out.below hb2
      have K38 : Hid (Bk w2 (w.heap.size + 1) [.slice (some ⟨b, o, none⟩) n cap]) := K37.out.below hb2
      have T38 : Hid (Bk w2 (w.heap.size + 1 + 1) [.slice aS TT.nS kS, .slice aA TT.nA kA]) := T37.out.below hb2
      have R38 : Hid (Bk w2 (w.heap.size + 1 + 1 + 1) [.int .i64 0, .int .i64 0, .int .i64 0, .int .i64 0, .int .i64 0, .int .i64 0, .int .i64 0, .int .i64 0, .int .i64 0, .int .i64 0, .int .i64 0, .int .i64 0, .int .i64 0, .int .i64 0, .int .i64 0, .int .i64 0, .int .i64 0, .int .i64 0, .int .i64 0, .int .i64 0, .int .i64 0, .int .i64 0, .int .i64 0, .int .i64 0, .int .i64 0]) := R37.out.below hb2
      clear B37 M37 K37 T37 R37
      clear hb2
      rw [ht]
      have yM0 : w2.cell? ⟨w.heap.size, 0, none⟩ = some (.int .i64 c) := (M38.out.2 0 (by simp)).1
      have yM1 : w2.cell? ⟨w.heap.size, 1, none⟩ = some (.int .i64 d) := (M38.out.2 1 (by simp)).1
      have hlM : w.heap.size < w2.heap.size := M38.out.1
      have yK0 : w2.cell? ⟨(w.heap.size + 1), 0, none⟩ = some (.slice (some ⟨b, o, none⟩) n cap) := (K38.out.2 0 (by simp)).1
      have hlK : (w.heap.size + 1) < w2.heap.size := K38.out.1
      have yT0 : w2.cell? ⟨(w.heap.size + 1 + 1), 0, none⟩ = some (.slice aS TT.nS kS) := (T38.out.2 0 (by simp)).1
      have yT1 : w2.cell? ⟨(w.heap.size + 1 + 1), 1, none⟩ = some (.slice aA TT.nA kA) := (T38.out.2 1 (by simp)).1
      have hlT : (w.heap.size + 1 + 1) < w2.heap.size := T38.out.1
      go_wp2_with fail
      refine (at_spec _ n cap Z who hn _ (P10.row_below HR.out B38.out)).mono ?_
      rintro e w3 ⟨rfl, hb3⟩
      clear yM0 yM1 hlM yK0 hlK yT0 yT1 hlT
      have B39 : Hid (Below w.heap.size w w3) := bthen B38.out hb3
      have M39 : Hid (Bk w3 w.heap.size [.int .i64 c, .int .i64 d]) := M38.out.below hb3
      have K39 : Hid (Bk w3 (w.heap.size + 1) [.slice (some ⟨b, o, none⟩) n cap]) := K38.out.below hb3
      have T39 : Hid (Bk w3 (w.heap.size + 1 + 1) [.slice aS TT.nS kS, .slice aA TT.nA kA]) := T38.out.below hb3
      have R39 : Hid (Bk w3 (w.heap.size + 1 + 1 + 1) [.int .i64 0, .int .i64 0, .int .i64 0, .int .i64 0, .int .i64 0, .int .i64 0, .int .i64 0, .int .i64 0, .int .i64 0, .int .i64 0, .int .i64 0, .int .i64 0, .int .i64 0, .int .i64 0, .int .i64 0, .int .i64 0, .int .i64 0, .int .i64 0, .int .i64 0, .int .i64 0, .int .i64 0, .int .i64 0, .int .i64 0, .int .i64 0, .int .i64 0]) := R38.out.below hb3
      clear B38 M38 K38 T38 R38
      clear hb3
      rw [hs]
      simp only [atI]
      have c0 : w3.cell? ⟨b, o + i * 10, none⟩ = some (.int .i64 (Z i 0)) := (B39.out.cell (p := ⟨b, _, none⟩) hbl).trans (HW.out i 0 hi (by omega))
      have c1 : w3.cell? ⟨b, o + i * 10 + 1, none⟩ = some (.int .i64 (Z i 1)) := (B39.out.cell (p := ⟨b, _, none⟩) hbl).trans (HW.out i 1 hi (by omega))
      have c2 : w3.cell? ⟨b, o + i * 10 + 2, none⟩ = some (.bool true) := (B39.out.cell (p := ⟨b, _, none⟩) hbl).trans ((HW.out i 2 hi (by omega)).trans (by simp [P10.cv, hb]))
      have c3 : w3.cell? ⟨b, o + i * 10 + 3, none⟩ = some (.int .i64 (Z i 3)) := (B39.out.cell (p := ⟨b, _, none⟩) hbl).trans (HW.out i 3 hi (by omega))
      have c4 : w3.cell? ⟨b, o + i * 10 + 4, none⟩ = some (.int .i64 (Z i 4)) := (B39.out.cell (p := ⟨b, _, none⟩) hbl).trans (HW.out i 4 hi (by omega))
      have c5 : w3.cell? ⟨b, o + i * 10 + 5, none⟩ = some (.int .i64 (Z i 5)) := (B39.out.cell (p := ⟨b, _, none⟩) hbl).trans (HW.out i 5 hi (by omega))
      have c6 : w3.cell? ⟨b, o + i * 10 + 6, none⟩ = some (.int .i64 (Z i 6)) := (B39.out.cell (p := ⟨b, _, none⟩) hbl).trans (HW.out i 6 hi (by omega))
      have c7 : w3.cell? ⟨b, o + i * 10 + 7, none⟩ = some (.int .i64 (Z i 7)) := (B39.out.cell (p := ⟨b, _, none⟩) hbl).trans (HW.out i 7 hi (by omega))
      have c8 : w3.cell? ⟨b, o + i * 10 + 8, none⟩ = some (.int .i64 (Z i 8)) := (B39.out.cell (p := ⟨b, _, none⟩) hbl).trans (HW.out i 8 hi (by omega))
      have c9 : w3.cell? ⟨b, o + i * 10 + 9, none⟩ = some (.int .i64 (Z i 9)) := (B39.out.cell (p := ⟨b, _, none⟩) hbl).trans (HW.out i 9 hi (by omega))
      have lb : b < w3.heap.size := Nat.lt_of_lt_of_le hbl B39.out.size
      have yT0 : w3.cell? ⟨(w.heap.size + 1 + 1), 0, none⟩ = some (.slice aS TT.nS kS) := (T39.out.2 0 (by simp)).1
      have yT1 : w3.cell? ⟨(w.heap.size + 1 + 1), 1, none⟩ = some (.slice aA TT.nA kA) := (T39.out.2 1 (by simp)).1
      have hlT : (w.heap.size + 1 + 1) < w3.heap.size := T39.out.1
      have yK0 : w3.cell? ⟨(w.heap.size + 1), 0, none⟩ = some (.slice (some ⟨b, o, none⟩) n cap) := (K39.out.2 0 (by simp)).1
      have hlK : (w.heap.size + 1) < w3.heap.size := K39.out.1
      go_wp2_with fail
      refine wp_region_held_drew (S := fun w' => (∀ b o, b < w3.heap.size → w'.cell? ⟨b, o, none⟩ = w3.cell? ⟨b, o, none⟩) ∧ w3.heap.size ≤ w'.heap.size) (by kernel_rfl) ⟨fun _ _ _ => rfl, Nat.le_refl _⟩ ?_
      intro hHeld
      refine wpAnyH_take (i := 0) (v := .int .i64 (i : Int)) rfl (by kernel_rfl) (by kernel_rfl) (by kernel_rfl) (fun _ _ _ h => h) (Or.inl ⟨by rfl, ?_⟩) (by assumption) ?_
      · intro wx hSw; go_simp
      try simp only [Act.put, List.setIfInBounds_toArray, List.set_cons_zero, List.set_cons_succ, List.getElem_toArray, List.getElem_cons_zero]
      refine wpAnyH_take (i := 1) (v := .bool false) rfl (by kernel_rfl) (by kernel_rfl) (by kernel_rfl) (fun _ _ _ h => h) (Or.inl ⟨by rfl, ?_⟩) (by assumption) ?_
      · intro wx hSw; go_simp <;> first | omega | (exact IntWalk.i64_in _ (by omega)) | go_num
      try simp only [Act.put, List.setIfInBounds_toArray, List.set_cons_zero, List.set_cons_succ, List.getElem_toArray, List.getElem_cons_zero, List.getElem_cons_succ]
      refine wpAnyH_take (i := 2) (v := .bool false) rfl (by kernel_rfl) (by kernel_rfl) (by kernel_rfl) (fun _ _ _ h => h) (Or.inl ⟨by rfl, ?_⟩) (by assumption) ?_
      · intro wx hSw; go_simp
      try simp only [Act.put, List.setIfInBounds_toArray, List.set_cons_zero, List.set_cons_succ, List.getElem_toArray, List.getElem_cons_zero, List.getElem_cons_succ]
      refine wpAnyH_take (i := 3) (v := .pointer (some ⟨(w.heap.size + 1), 0, none⟩)) rfl (by kernel_rfl) (by kernel_rfl) (by kernel_rfl) (fun _ _ _ h => h) (Or.inl ⟨by rfl, ?_⟩) (by assumption) ?_
      · intro wx hSw; go_simp
      try simp only [Act.put, List.setIfInBounds_toArray, List.set_cons_zero, List.set_cons_succ, List.getElem_toArray, List.getElem_cons_zero, List.getElem_cons_succ]
      refine wpAnyH_take (i := 4) (v := .slice (some ⟨b, o, none⟩) n cap) rfl (by kernel_rfl) (by kernel_rfl) (by kernel_rfl) (fun _ _ _ h => h) (Or.inl ⟨by rfl, ?_⟩) (by assumption) ?_
      · intro wx hSw; go_simp
      try simp only [Act.put, List.setIfInBounds_toArray, List.set_cons_zero, List.set_cons_succ, List.getElem_toArray, List.getElem_cons_zero, List.getElem_cons_succ]
      refine wpAnyH_take (i := 5) (v := .int .i64 (i : Int)) rfl (by kernel_rfl) (by kernel_rfl) (by kernel_rfl) (fun _ _ _ h => h) (Or.inl ⟨by rfl, ?_⟩) (by assumption) ?_
      · intro wx hSw; go_simp
      try simp only [Act.put, List.setIfInBounds_toArray, List.set_cons_zero, List.set_cons_succ, List.getElem_toArray, List.getElem_cons_zero, List.getElem_cons_succ]
      refine wpAnyH_take (i := 6) (v := .pointer (some ⟨b, o + i * 10, none⟩)) rfl (by kernel_rfl) (by kernel_rfl) (by kernel_rfl) (fun _ _ _ h => h) (Or.inl ⟨by rfl, ?_⟩) (by assumption) ?_
      · intro wx hSw; go_simp
      try simp only [Act.put, List.setIfInBounds_toArray, List.set_cons_zero, List.set_cons_succ, List.getElem_toArray, List.getElem_cons_zero, List.getElem_cons_succ]
      refine wpAnyH_take (i := 7) (v := .pointer (some ⟨b, o + i * 10 + 2, none⟩)) rfl (by kernel_rfl) (by kernel_rfl) (by kernel_rfl) (fun _ _ _ h => h) (Or.inl ⟨by rfl, ?_⟩) (by assumption) ?_
      · intro wx hSw; go_simp
      try simp only [Act.put, List.setIfInBounds_toArray, List.set_cons_zero, List.set_cons_succ, List.getElem_toArray, List.getElem_cons_zero, List.getElem_cons_succ]
      refine wpAnyH_take (i := 8) (v := .bool true) rfl (by kernel_rfl) (by kernel_rfl) (by kernel_rfl) (fun _ _ _ h => h) (Or.inl ⟨by rfl, ?_⟩) (by assumption) ?_
      · intro wx hSw; go_simp
      try simp only [Act.put, List.setIfInBounds_toArray, List.set_cons_zero, List.set_cons_succ, List.getElem_toArray, List.getElem_cons_zero, List.getElem_cons_succ]
      refine wpAnyH_take (i := 9) (v := .bool false) rfl (by kernel_rfl) (by kernel_rfl) (by kernel_rfl) (fun _ _ _ h => h) (Or.inl ⟨by rfl, ?_⟩) (by assumption) ?_
      · intro wx hSw; go_simp
      try simp only [Act.put, List.setIfInBounds_toArray, List.set_cons_zero, List.set_cons_succ, List.getElem_toArray, List.getElem_cons_zero, List.getElem_cons_succ]
      refine wpAnyH_take (i := 10) (v := .bool false) rfl (by kernel_rfl) (by kernel_rfl) (by kernel_rfl) (fun _ _ _ h => h) (Or.inl ⟨by rfl, ?_⟩) (by assumption) ?_
      · intro wx hSw; go_simp
      try simp only [Act.put, List.setIfInBounds_toArray, List.set_cons_zero, List.set_cons_succ, List.getElem_toArray, List.getElem_cons_zero, List.getElem_cons_succ]
      refine wpAnyH_take (i := 11) (v := .bool false) rfl (by kernel_rfl) (by kernel_rfl) (by kernel_rfl) (fun _ _ _ h => h) (Or.inl ⟨by rfl, ?_⟩) (by assumption) ?_
      · intro wx hSw; go_simp
      try simp only [Act.put, List.setIfInBounds_toArray, List.set_cons_zero, List.set_cons_succ, List.getElem_toArray, List.getElem_cons_zero, List.getElem_cons_succ]
      refine wpAnyH_take (i := 12) (v := .agg #[.slice aS TT.nS kS, .slice aA TT.nA kA]) rfl (by kernel_rfl) (by kernel_rfl) (by kernel_rfl) (fun _ _ _ h => h) (Or.inl ⟨by rfl, ?_⟩) (by assumption) ?_
      · intro wx hSw; go_simp
      try simp only [Act.put, List.setIfInBounds_toArray, List.set_cons_zero, List.set_cons_succ, List.getElem_toArray, List.getElem_cons_zero, List.getElem_cons_succ]
      refine wpAnyH_take (i := 13) (v := .pointer (some ⟨(w.heap.size + 1), 0, none⟩)) rfl (by kernel_rfl) (by kernel_rfl) (by kernel_rfl) (fun _ _ _ h => h) (Or.inl ⟨by rfl, ?_⟩) (by assumption) ?_
      · intro wx hSw; go_simp
      try simp only [Act.put, List.setIfInBounds_toArray, List.set_cons_zero, List.set_cons_succ, List.getElem_toArray, List.getElem_cons_zero, List.getElem_cons_succ]
      refine wpAnyH_take (i := 14) (v := .slice (some ⟨b, o, none⟩) n cap) rfl (by kernel_rfl) (by kernel_rfl) (by kernel_rfl) (fun _ _ _ h => h) (Or.inl ⟨by rfl, ?_⟩) (by assumption) ?_
      · intro wx hSw; go_simp
      try simp only [Act.put, List.setIfInBounds_toArray, List.set_cons_zero, List.set_cons_succ, List.getElem_toArray, List.getElem_cons_zero, List.getElem_cons_succ]
      refine wpAnyH_take (i := 15) (v := .int .i64 (i : Int)) rfl (by kernel_rfl) (by kernel_rfl) (by kernel_rfl) (fun _ _ _ h => h) (Or.inl ⟨by rfl, ?_⟩) (by assumption) ?_
      · intro wx hSw; go_simp
      try simp only [Act.put, List.setIfInBounds_toArray, List.set_cons_zero, List.set_cons_succ, List.getElem_toArray, List.getElem_cons_zero, List.getElem_cons_succ]
      refine wpAnyH_take (i := 16) (v := .pointer (some ⟨b, o + i * 10, none⟩)) rfl (by kernel_rfl) (by kernel_rfl) (by kernel_rfl) (fun _ _ _ h => h) (Or.inl ⟨by rfl, ?_⟩) (by assumption) ?_
      · intro wx hSw; go_simp
      try simp only [Act.put, List.setIfInBounds_toArray, List.set_cons_zero, List.set_cons_succ, List.getElem_toArray, List.getElem_cons_zero, List.getElem_cons_succ]
      refine wpAnyH_take (i := 17) (v := .pointer (some ⟨b, o + i * 10 + 1, none⟩)) rfl (by kernel_rfl) (by kernel_rfl) (by kernel_rfl) (fun _ _ _ h => h) (Or.inl ⟨by rfl, ?_⟩) (by assumption) ?_
      · intro wx hSw; go_simp
      try simp only [Act.put, List.setIfInBounds_toArray, List.set_cons_zero, List.set_cons_succ, List.getElem_toArray, List.getElem_cons_zero, List.getElem_cons_succ]
      refine wpAnyH_take (i := 18) (v := .int .i64 (Z i 1)) rfl (by kernel_rfl) (by kernel_rfl) (by kernel_rfl) (fun _ _ _ h => h) (Or.inl ⟨by rfl, ?_⟩) (by assumption) ?_
      · intro wx hSw; go_simp
      try simp only [Act.put, List.setIfInBounds_toArray, List.set_cons_zero, List.set_cons_succ, List.getElem_toArray, List.getElem_cons_zero, List.getElem_cons_succ]
      refine wpAnyH_ready (rs := [19]) (by kernel_rfl) (by simp) ?_
      refine AllReadyH.cons rfl (fun K hK => ?_) AllReadyH.nil
      go_simp
      go_wp2_with fail
      refine (srv_spec _ TT (Z i 1) hT _ (HT.out.below (bthen B39.out (by repeat (first | exact Below.refl _ _ | refine bthen ?_ (by assumption) | apply Below.drew))))).mono ?_
      rintro e x4 ⟨rfl, hx4⟩
      refine hK.out _ _ (keepS (by assumption) hx4) (fun hNew => ?_)
      clear hK K hHeld
      have hHeld := hNew
      clear hNew
      try simp only [Act.put, List.setIfInBounds_toArray, List.set_cons_zero, List.set_cons_succ, List.getElem_toArray, List.getElem_cons_zero, List.getElem_cons_succ]
      refine wpAnyH_take (i := 20) (v := .bool false) rfl (by kernel_rfl) (by kernel_rfl) (by kernel_rfl) (fun _ _ _ h => h) (Or.inl ⟨by rfl, ?_⟩) (by assumption) ?_
      · intro wx hSw; go_simp <;> first | omega | (exact IntWalk.i64_in _ (by omega)) | go_num
      try simp only [Act.put, List.setIfInBounds_toArray, List.set_cons_zero, List.set_cons_succ, List.getElem_toArray, List.getElem_cons_zero, List.getElem_cons_succ]
      refine wpAnyH_take (i := 21) (v := .bool false) rfl (by kernel_rfl) (by kernel_rfl) (by kernel_rfl) (fun _ _ _ h => h) (Or.inl ⟨by rfl, ?_⟩) (by assumption) ?_
      · intro wx hSw; go_simp
      try simp only [Act.put, List.setIfInBounds_toArray, List.set_cons_zero, List.set_cons_succ, List.getElem_toArray, List.getElem_cons_zero, List.getElem_cons_succ]
      refine wpAnyH_done (by kernel_rfl) ?_ _
      clear hHeld
      clear yT0 yT1 hlT yK0 hlK
      have hb4 : Below w3.heap.size w3 x4 := by repeat (first | exact Below.refl _ _ | refine bthen ?_ (by assumption) | apply Below.drew)
      clear c0 c1 c2 c3 c4 c5 c6 c7 c8 c9 lb
      have B40 : Hid (Below w.heap.size w x4) := bthen B39.out hb4
      have M40 : Hid (Bk x4 w.heap.size [.int .i64 c, .int .i64 d]) := M39.out.below hb4
      have K40 : Hid (Bk x4 (w.heap.size + 1) [.slice (some ⟨b, o, none⟩) n cap]) := K39.out.below hb4
      have T40 : Hid (Bk x4 (w.heap.size + 1 + 1) [.slice aS TT.nS kS, .slice aA TT.nA kA]) := T39.out.below hb4
      have R40 : Hid (Bk x4 (w.heap.size + 1 + 1 + 1) [.int .i64 0, .int .i64 0, .int .i64 0, .int .i64 0, .int .i64 0, .int .i64 0, .int .i64 0, .int .i64 0, .int .i64 0, .int .i64 0, .int .i64 0, .int .i64 0, .int .i64 0, .int .i64 0, .int .i64 0, .int .i64 0, .int .i64 0, .int .i64 0, .int .i64 0, .int .i64 0, .int .i64 0, .int .i64 0, .int .i64 0, .int .i64 0, .int .i64 0]) := R39.out.below hb4
      clear B39 M39 K39 T39 R39
      clear hb4 hx4
      have c0 : x4.cell? ⟨b, o + i * 10, none⟩ = some (.int .i64 (Z i 0)) := (B40.out.cell (p := ⟨b, _, none⟩) hbl).trans (HW.out i 0 hi (by omega))
      have c1 : x4.cell? ⟨b, o + i * 10 + 1, none⟩ = some (.int .i64 (Z i 1)) := (B40.out.cell (p := ⟨b, _, none⟩) hbl).trans (HW.out i 1 hi (by omega))
      have c2 : x4.cell? ⟨b, o + i * 10 + 2, none⟩ = some (.bool true) := (B40.out.cell (p := ⟨b, _, none⟩) hbl).trans ((HW.out i 2 hi (by omega)).trans (by simp [P10.cv, hb]))
      have c3 : x4.cell? ⟨b, o + i * 10 + 3, none⟩ = some (.int .i64 (Z i 3)) := (B40.out.cell (p := ⟨b, _, none⟩) hbl).trans (HW.out i 3 hi (by omega))
      have c4 : x4.cell? ⟨b, o + i * 10 + 4, none⟩ = some (.int .i64 (Z i 4)) := (B40.out.cell (p := ⟨b, _, none⟩) hbl).trans (HW.out i 4 hi (by omega))
      have c5 : x4.cell? ⟨b, o + i * 10 + 5, none⟩ = some (.int .i64 (Z i 5)) := (B40.out.cell (p := ⟨b, _, none⟩) hbl).trans (HW.out i 5 hi (by omega))
      have c6 : x4.cell? ⟨b, o + i * 10 + 6, none⟩ = some (.int .i64 (Z i 6)) := (B40.out.cell (p := ⟨b, _, none⟩) hbl).trans (HW.out i 6 hi (by omega))
      have c7 : x4.cell? ⟨b, o + i * 10 + 7, none⟩ = some (.int .i64 (Z i 7)) := (B40.out.cell (p := ⟨b, _, none⟩) hbl).trans (HW.out i 7 hi (by omega))
      have c8 : x4.cell? ⟨b, o + i * 10 + 8, none⟩ = some (.int .i64 (Z i 8)) := (B40.out.cell (p := ⟨b, _, none⟩) hbl).trans (HW.out i 8 hi (by omega))
      have c9 : x4.cell? ⟨b, o + i * 10 + 9, none⟩ = some (.int .i64 (Z i 9)) := (B40.out.cell (p := ⟨b, _, none⟩) hbl).trans (HW.out i 9 hi (by omega))
      have lb : b < x4.heap.size := Nat.lt_of_lt_of_le hbl B40.out.size
      have yT0 : x4.cell? ⟨(w.heap.size + 1 + 1), 0, none⟩ = some (.slice aS TT.nS kS) := (T40.out.2 0 (by simp)).1
      have yT1 : x4.cell? ⟨(w.heap.size + 1 + 1), 1, none⟩ = some (.slice aA TT.nA kA) := (T40.out.2 1 (by simp)).1
      have hlT : (w.heap.size + 1 + 1) < x4.heap.size := T40.out.1
      have yK0 : x4.cell? ⟨(w.heap.size + 1), 0, none⟩ = some (.slice (some ⟨b, o, none⟩) n cap) := (K40.out.2 0 (by simp)).1
      have hlK : (w.heap.size + 1) < x4.heap.size := K40.out.1
      have lr : w.heap.size + 1 + 1 + 1 < x4.heap.size := R40.out.1
      have nB : ¬ b = w.heap.size + 1 + 1 + 1 := by omega
      go_wp2_with fail
      refine wp_region_held_drew (S := Rd [(b, o + i * 10 + 1, .int .i64 (Z i 1)), (b, o + i * 10 + 3, .int .i64 (Z i 3)), (b, o + i * 10 + 4, .int .i64 (Z i 4)), (b, o + i * 10 + 5, .int .i64 (Z i 5)), (b, o + i * 10 + 6, .int .i64 (Z i 6)), (b, o + i * 10 + 7, .int .i64 (Z i 7)), ((w.heap.size + 1 + 1), 0, .slice aS TT.nS kS), ((w.heap.size + 1 + 1), 1, .slice aA TT.nA kA), ((w.heap.size + 1), 0, .slice (some ⟨b, o, none⟩) n cap)]) (by kernel_rfl) (by intro p hp; simp only [List.mem_cons, List.not_mem_nil, or_false] at hp; rcases hp with rfl | rfl | rfl | rfl | rfl | rfl | rfl | rfl | rfl <;> first | exact ⟨c1, lb⟩ | exact ⟨c3, lb⟩ | exact ⟨c4, lb⟩ | exact ⟨c5, lb⟩ | exact ⟨c6, lb⟩ | exact ⟨c7, lb⟩ | exact ⟨yT0, hlT⟩ | exact ⟨yT1, hlT⟩ | exact ⟨yK0, hlK⟩) ?_
      intro hHeld
      refine wpAnyH_take (i := 0) (v := .agg #[.slice aS TT.nS kS, .slice aA TT.nA kA]) rfl (by kernel_rfl) (by kernel_rfl) (by kernel_rfl) (fun _ _ _ h => h) (Or.inl ⟨by rfl, ?_⟩) (by assumption) ?_
      · intro wx hSw; have s0 := hSw (b, o + i * 10 + 1, .int .i64 (Z i 1)) (by simp); have s1 := hSw (b, o + i * 10 + 3, .int .i64 (Z i 3)) (by simp); have s2 := hSw (b, o + i * 10 + 4, .int .i64 (Z i 4)) (by simp); have s3 := hSw (b, o + i * 10 + 5, .int .i64 (Z i 5)) (by simp); have s4 := hSw (b, o + i * 10 + 6, .int .i64 (Z i 6)) (by simp); have s5 := hSw (b, o + i * 10 + 7, .int .i64 (Z i 7)) (by simp); have s6 := hSw ((w.heap.size + 1 + 1), 0, .slice aS TT.nS kS) (by simp); have s7 := hSw ((w.heap.size + 1 + 1), 1, .slice aA TT.nA kA) (by simp); have s8 := hSw ((w.heap.size + 1), 0, .slice (some ⟨b, o, none⟩) n cap) (by simp); obtain ⟨s0, t0⟩ := s0; obtain ⟨s1, t1⟩ := s1; obtain ⟨s2, t2⟩ := s2; obtain ⟨s3, t3⟩ := s3; obtain ⟨s4, t4⟩ := s4; obtain ⟨s5, t5⟩ := s5; obtain ⟨s6, t6⟩ := s6; obtain ⟨s7, t7⟩ := s7; obtain ⟨s8, t8⟩ := s8; go_simp
      try simp only [Act.put, List.setIfInBounds_toArray, List.set_cons_zero, List.set_cons_succ, List.getElem_toArray, List.getElem_cons_zero]
      refine wpAnyH_take (i := 1) (v := .pointer (some ⟨w.heap.size + 1, 0, none⟩)) rfl (by kernel_rfl) (by kernel_rfl) (by kernel_rfl) (fun _ _ _ h => h) (Or.inl ⟨by rfl, ?_⟩) (by assumption) ?_
      · intro wx hSw; have s0 := hSw (b, o + i * 10 + 1, .int .i64 (Z i 1)) (by simp); have s1 := hSw (b, o + i * 10 + 3, .int .i64 (Z i 3)) (by simp); have s2 := hSw (b, o + i * 10 + 4, .int .i64 (Z i 4)) (by simp); have s3 := hSw (b, o + i * 10 + 5, .int .i64 (Z i 5)) (by simp); have s4 := hSw (b, o + i * 10 + 6, .int .i64 (Z i 6)) (by simp); have s5 := hSw (b, o + i * 10 + 7, .int .i64 (Z i 7)) (by simp); have s6 := hSw ((w.heap.size + 1 + 1), 0, .slice aS TT.nS kS) (by simp); have s7 := hSw ((w.heap.size + 1 + 1), 1, .slice aA TT.nA kA) (by simp); have s8 := hSw ((w.heap.size + 1), 0, .slice (some ⟨b, o, none⟩) n cap) (by simp); obtain ⟨s0, t0⟩ := s0; obtain ⟨s1, t1⟩ := s1; obtain ⟨s2, t2⟩ := s2; obtain ⟨s3, t3⟩ := s3; obtain ⟨s4, t4⟩ := s4; obtain ⟨s5, t5⟩ := s5; obtain ⟨s6, t6⟩ := s6; obtain ⟨s7, t7⟩ := s7; obtain ⟨s8, t8⟩ := s8; go_simp
      try simp only [Act.put, List.setIfInBounds_toArray, List.set_cons_zero, List.set_cons_succ, List.getElem_toArray, List.getElem_cons_zero, List.getElem_cons_succ]
      refine wpAnyH_take (i := 2) (v := .slice (some ⟨b, o, none⟩) n cap) rfl (by kernel_rfl) (by kernel_rfl) (by kernel_rfl) (fun _ _ _ h => h) (Or.inl ⟨by rfl, ?_⟩) (by assumption) ?_
      · intro wx hSw; have s0 := hSw (b, o + i * 10 + 1, .int .i64 (Z i 1)) (by simp); have s1 := hSw (b, o + i * 10 + 3, .int .i64 (Z i 3)) (by simp); have s2 := hSw (b, o + i * 10 + 4, .int .i64 (Z i 4)) (by simp); have s3 := hSw (b, o + i * 10 + 5, .int .i64 (Z i 5)) (by simp); have s4 := hSw (b, o + i * 10 + 6, .int .i64 (Z i 6)) (by simp); have s5 := hSw (b, o + i * 10 + 7, .int .i64 (Z i 7)) (by simp); have s6 := hSw ((w.heap.size + 1 + 1), 0, .slice aS TT.nS kS) (by simp); have s7 := hSw ((w.heap.size + 1 + 1), 1, .slice aA TT.nA kA) (by simp); have s8 := hSw ((w.heap.size + 1), 0, .slice (some ⟨b, o, none⟩) n cap) (by simp); obtain ⟨s0, t0⟩ := s0; obtain ⟨s1, t1⟩ := s1; obtain ⟨s2, t2⟩ := s2; obtain ⟨s3, t3⟩ := s3; obtain ⟨s4, t4⟩ := s4; obtain ⟨s5, t5⟩ := s5; obtain ⟨s6, t6⟩ := s6; obtain ⟨s7, t7⟩ := s7; obtain ⟨s8, t8⟩ := s8; go_simp
      try simp only [Act.put, List.setIfInBounds_toArray, List.set_cons_zero, List.set_cons_succ, List.getElem_toArray, List.getElem_cons_zero, List.getElem_cons_succ]
      refine wpAnyH_take (i := 3) (v := .int .i64 (i : Int)) rfl (by kernel_rfl) (by kernel_rfl) (by kernel_rfl) (fun _ _ _ h => h) (Or.inl ⟨by rfl, ?_⟩) (by assumption) ?_
      · intro wx hSw; have s0 := hSw (b, o + i * 10 + 1, .int .i64 (Z i 1)) (by simp); have s1 := hSw (b, o + i * 10 + 3, .int .i64 (Z i 3)) (by simp); have s2 := hSw (b, o + i * 10 + 4, .int .i64 (Z i 4)) (by simp); have s3 := hSw (b, o + i * 10 + 5, .int .i64 (Z i 5)) (by simp); have s4 := hSw (b, o + i * 10 + 6, .int .i64 (Z i 6)) (by simp); have s5 := hSw (b, o + i * 10 + 7, .int .i64 (Z i 7)) (by simp); have s6 := hSw ((w.heap.size + 1 + 1), 0, .slice aS TT.nS kS) (by simp); have s7 := hSw ((w.heap.size + 1 + 1), 1, .slice aA TT.nA kA) (by simp); have s8 := hSw ((w.heap.size + 1), 0, .slice (some ⟨b, o, none⟩) n cap) (by simp); obtain ⟨s0, t0⟩ := s0; obtain ⟨s1, t1⟩ := s1; obtain ⟨s2, t2⟩ := s2; obtain ⟨s3, t3⟩ := s3; obtain ⟨s4, t4⟩ := s4; obtain ⟨s5, t5⟩ := s5; obtain ⟨s6, t6⟩ := s6; obtain ⟨s7, t7⟩ := s7; obtain ⟨s8, t8⟩ := s8; go_simp
      try simp only [Act.put, List.setIfInBounds_toArray, List.set_cons_zero, List.set_cons_succ, List.getElem_toArray, List.getElem_cons_zero, List.getElem_cons_succ]
      refine wpAnyH_take (i := 4) (v := .pointer (some ⟨b, o + i * 10, none⟩)) rfl (by kernel_rfl) (by kernel_rfl) (by kernel_rfl) (fun _ _ _ h => h) (Or.inl ⟨by rfl, ?_⟩) (by assumption) ?_
      · intro wx hSw; have s0 := hSw (b, o + i * 10 + 1, .int .i64 (Z i 1)) (by simp); have s1 := hSw (b, o + i * 10 + 3, .int .i64 (Z i 3)) (by simp); have s2 := hSw (b, o + i * 10 + 4, .int .i64 (Z i 4)) (by simp); have s3 := hSw (b, o + i * 10 + 5, .int .i64 (Z i 5)) (by simp); have s4 := hSw (b, o + i * 10 + 6, .int .i64 (Z i 6)) (by simp); have s5 := hSw (b, o + i * 10 + 7, .int .i64 (Z i 7)) (by simp); have s6 := hSw ((w.heap.size + 1 + 1), 0, .slice aS TT.nS kS) (by simp); have s7 := hSw ((w.heap.size + 1 + 1), 1, .slice aA TT.nA kA) (by simp); have s8 := hSw ((w.heap.size + 1), 0, .slice (some ⟨b, o, none⟩) n cap) (by simp); obtain ⟨s0, t0⟩ := s0; obtain ⟨s1, t1⟩ := s1; obtain ⟨s2, t2⟩ := s2; obtain ⟨s3, t3⟩ := s3; obtain ⟨s4, t4⟩ := s4; obtain ⟨s5, t5⟩ := s5; obtain ⟨s6, t6⟩ := s6; obtain ⟨s7, t7⟩ := s7; obtain ⟨s8, t8⟩ := s8; go_simp
      try simp only [Act.put, List.setIfInBounds_toArray, List.set_cons_zero, List.set_cons_succ, List.getElem_toArray, List.getElem_cons_zero, List.getElem_cons_succ]
      refine wpAnyH_take (i := 5) (v := .pointer (some ⟨b, o + i * 10 + 1, none⟩)) rfl (by kernel_rfl) (by kernel_rfl) (by kernel_rfl) (fun _ _ _ h => h) (Or.inl ⟨by rfl, ?_⟩) (by assumption) ?_
      · intro wx hSw; have s0 := hSw (b, o + i * 10 + 1, .int .i64 (Z i 1)) (by simp); have s1 := hSw (b, o + i * 10 + 3, .int .i64 (Z i 3)) (by simp); have s2 := hSw (b, o + i * 10 + 4, .int .i64 (Z i 4)) (by simp); have s3 := hSw (b, o + i * 10 + 5, .int .i64 (Z i 5)) (by simp); have s4 := hSw (b, o + i * 10 + 6, .int .i64 (Z i 6)) (by simp); have s5 := hSw (b, o + i * 10 + 7, .int .i64 (Z i 7)) (by simp); have s6 := hSw ((w.heap.size + 1 + 1), 0, .slice aS TT.nS kS) (by simp); have s7 := hSw ((w.heap.size + 1 + 1), 1, .slice aA TT.nA kA) (by simp); have s8 := hSw ((w.heap.size + 1), 0, .slice (some ⟨b, o, none⟩) n cap) (by simp); obtain ⟨s0, t0⟩ := s0; obtain ⟨s1, t1⟩ := s1; obtain ⟨s2, t2⟩ := s2; obtain ⟨s3, t3⟩ := s3; obtain ⟨s4, t4⟩ := s4; obtain ⟨s5, t5⟩ := s5; obtain ⟨s6, t6⟩ := s6; obtain ⟨s7, t7⟩ := s7; obtain ⟨s8, t8⟩ := s8; go_simp
      try simp only [Act.put, List.setIfInBounds_toArray, List.set_cons_zero, List.set_cons_succ, List.getElem_toArray, List.getElem_cons_zero, List.getElem_cons_succ]
      refine wpAnyH_take (i := 6) (v := .int .i64 (Z i 1)) rfl (by kernel_rfl) (by kernel_rfl) (by kernel_rfl) (fun _ _ _ h => h) (Or.inl ⟨by rfl, ?_⟩) (by assumption) ?_
      · intro wx hSw; have s0 := hSw (b, o + i * 10 + 1, .int .i64 (Z i 1)) (by simp); have s1 := hSw (b, o + i * 10 + 3, .int .i64 (Z i 3)) (by simp); have s2 := hSw (b, o + i * 10 + 4, .int .i64 (Z i 4)) (by simp); have s3 := hSw (b, o + i * 10 + 5, .int .i64 (Z i 5)) (by simp); have s4 := hSw (b, o + i * 10 + 6, .int .i64 (Z i 6)) (by simp); have s5 := hSw (b, o + i * 10 + 7, .int .i64 (Z i 7)) (by simp); have s6 := hSw ((w.heap.size + 1 + 1), 0, .slice aS TT.nS kS) (by simp); have s7 := hSw ((w.heap.size + 1 + 1), 1, .slice aA TT.nA kA) (by simp); have s8 := hSw ((w.heap.size + 1), 0, .slice (some ⟨b, o, none⟩) n cap) (by simp); obtain ⟨s0, t0⟩ := s0; obtain ⟨s1, t1⟩ := s1; obtain ⟨s2, t2⟩ := s2; obtain ⟨s3, t3⟩ := s3; obtain ⟨s4, t4⟩ := s4; obtain ⟨s5, t5⟩ := s5; obtain ⟨s6, t6⟩ := s6; obtain ⟨s7, t7⟩ := s7; obtain ⟨s8, t8⟩ := s8; go_simp
      try simp only [Act.put, List.setIfInBounds_toArray, List.set_cons_zero, List.set_cons_succ, List.getElem_toArray, List.getElem_cons_zero, List.getElem_cons_succ]
      refine wpAnyH_take (i := 8) (v := .pointer (some ⟨w.heap.size + 1, 0, none⟩)) rfl (by kernel_rfl) (by kernel_rfl) (by kernel_rfl) (fun _ _ _ h => h) (Or.inl ⟨by rfl, ?_⟩) (by assumption) ?_
      · intro wx hSw; have s0 := hSw (b, o + i * 10 + 1, .int .i64 (Z i 1)) (by simp); have s1 := hSw (b, o + i * 10 + 3, .int .i64 (Z i 3)) (by simp); have s2 := hSw (b, o + i * 10 + 4, .int .i64 (Z i 4)) (by simp); have s3 := hSw (b, o + i * 10 + 5, .int .i64 (Z i 5)) (by simp); have s4 := hSw (b, o + i * 10 + 6, .int .i64 (Z i 6)) (by simp); have s5 := hSw (b, o + i * 10 + 7, .int .i64 (Z i 7)) (by simp); have s6 := hSw ((w.heap.size + 1 + 1), 0, .slice aS TT.nS kS) (by simp); have s7 := hSw ((w.heap.size + 1 + 1), 1, .slice aA TT.nA kA) (by simp); have s8 := hSw ((w.heap.size + 1), 0, .slice (some ⟨b, o, none⟩) n cap) (by simp); obtain ⟨s0, t0⟩ := s0; obtain ⟨s1, t1⟩ := s1; obtain ⟨s2, t2⟩ := s2; obtain ⟨s3, t3⟩ := s3; obtain ⟨s4, t4⟩ := s4; obtain ⟨s5, t5⟩ := s5; obtain ⟨s6, t6⟩ := s6; obtain ⟨s7, t7⟩ := s7; obtain ⟨s8, t8⟩ := s8; go_simp
      try simp only [Act.put, List.setIfInBounds_toArray, List.set_cons_zero, List.set_cons_succ, List.getElem_toArray, List.getElem_cons_zero, List.getElem_cons_succ]
      refine wpAnyH_take (i := 9) (v := .slice (some ⟨b, o, none⟩) n cap) rfl (by kernel_rfl) (by kernel_rfl) (by kernel_rfl) (fun _ _ _ h => h) (Or.inl ⟨by rfl, ?_⟩) (by assumption) ?_
      · intro wx hSw; have s0 := hSw (b, o + i * 10 + 1, .int .i64 (Z i 1)) (by simp); have s1 := hSw (b, o + i * 10 + 3, .int .i64 (Z i 3)) (by simp); have s2 := hSw (b, o + i * 10 + 4, .int .i64 (Z i 4)) (by simp); have s3 := hSw (b, o + i * 10 + 5, .int .i64 (Z i 5)) (by simp); have s4 := hSw (b, o + i * 10 + 6, .int .i64 (Z i 6)) (by simp); have s5 := hSw (b, o + i * 10 + 7, .int .i64 (Z i 7)) (by simp); have s6 := hSw ((w.heap.size + 1 + 1), 0, .slice aS TT.nS kS) (by simp); have s7 := hSw ((w.heap.size + 1 + 1), 1, .slice aA TT.nA kA) (by simp); have s8 := hSw ((w.heap.size + 1), 0, .slice (some ⟨b, o, none⟩) n cap) (by simp); obtain ⟨s0, t0⟩ := s0; obtain ⟨s1, t1⟩ := s1; obtain ⟨s2, t2⟩ := s2; obtain ⟨s3, t3⟩ := s3; obtain ⟨s4, t4⟩ := s4; obtain ⟨s5, t5⟩ := s5; obtain ⟨s6, t6⟩ := s6; obtain ⟨s7, t7⟩ := s7; obtain ⟨s8, t8⟩ := s8; go_simp
      try simp only [Act.put, List.setIfInBounds_toArray, List.set_cons_zero, List.set_cons_succ, List.getElem_toArray, List.getElem_cons_zero, List.getElem_cons_succ]
      refine wpAnyH_take (i := 10) (v := .int .i64 (i : Int)) rfl (by kernel_rfl) (by kernel_rfl) (by kernel_rfl) (fun _ _ _ h => h) (Or.inl ⟨by rfl, ?_⟩) (by assumption) ?_
      · intro wx hSw; have s0 := hSw (b, o + i * 10 + 1, .int .i64 (Z i 1)) (by simp); have s1 := hSw (b, o + i * 10 + 3, .int .i64 (Z i 3)) (by simp); have s2 := hSw (b, o + i * 10 + 4, .int .i64 (Z i 4)) (by simp); have s3 := hSw (b, o + i * 10 + 5, .int .i64 (Z i 5)) (by simp); have s4 := hSw (b, o + i * 10 + 6, .int .i64 (Z i 6)) (by simp); have s5 := hSw (b, o + i * 10 + 7, .int .i64 (Z i 7)) (by simp); have s6 := hSw ((w.heap.size + 1 + 1), 0, .slice aS TT.nS kS) (by simp); have s7 := hSw ((w.heap.size + 1 + 1), 1, .slice aA TT.nA kA) (by simp); have s8 := hSw ((w.heap.size + 1), 0, .slice (some ⟨b, o, none⟩) n cap) (by simp); obtain ⟨s0, t0⟩ := s0; obtain ⟨s1, t1⟩ := s1; obtain ⟨s2, t2⟩ := s2; obtain ⟨s3, t3⟩ := s3; obtain ⟨s4, t4⟩ := s4; obtain ⟨s5, t5⟩ := s5; obtain ⟨s6, t6⟩ := s6; obtain ⟨s7, t7⟩ := s7; obtain ⟨s8, t8⟩ := s8; go_simp
      try simp only [Act.put, List.setIfInBounds_toArray, List.set_cons_zero, List.set_cons_succ, List.getElem_toArray, List.getElem_cons_zero, List.getElem_cons_succ]
      refine wpAnyH_take (i := 11) (v := .pointer (some ⟨b, o + i * 10, none⟩)) rfl (by kernel_rfl) (by kernel_rfl) (by kernel_rfl) (fun _ _ _ h => h) (Or.inl ⟨by rfl, ?_⟩) (by assumption) ?_
      · intro wx hSw; have s0 := hSw (b, o + i * 10 + 1, .int .i64 (Z i 1)) (by simp); have s1 := hSw (b, o + i * 10 + 3, .int .i64 (Z i 3)) (by simp); have s2 := hSw (b, o + i * 10 + 4, .int .i64 (Z i 4)) (by simp); have s3 := hSw (b, o + i * 10 + 5, .int .i64 (Z i 5)) (by simp); have s4 := hSw (b, o + i * 10 + 6, .int .i64 (Z i 6)) (by simp); have s5 := hSw (b, o + i * 10 + 7, .int .i64 (Z i 7)) (by simp); have s6 := hSw ((w.heap.size + 1 + 1), 0, .slice aS TT.nS kS) (by simp); have s7 := hSw ((w.heap.size + 1 + 1), 1, .slice aA TT.nA kA) (by simp); have s8 := hSw ((w.heap.size + 1), 0, .slice (some ⟨b, o, none⟩) n cap) (by simp); obtain ⟨s0, t0⟩ := s0; obtain ⟨s1, t1⟩ := s1; obtain ⟨s2, t2⟩ := s2; obtain ⟨s3, t3⟩ := s3; obtain ⟨s4, t4⟩ := s4; obtain ⟨s5, t5⟩ := s5; obtain ⟨s6, t6⟩ := s6; obtain ⟨s7, t7⟩ := s7; obtain ⟨s8, t8⟩ := s8; go_simp
      try simp only [Act.put, List.setIfInBounds_toArray, List.set_cons_zero, List.set_cons_succ, List.getElem_toArray, List.getElem_cons_zero, List.getElem_cons_succ]
      refine wpAnyH_take (i := 12) (v := .pointer (some ⟨b, o + i * 10 + 1, none⟩)) rfl (by kernel_rfl) (by kernel_rfl) (by kernel_rfl) (fun _ _ _ h => h) (Or.inl ⟨by rfl, ?_⟩) (by assumption) ?_
      · intro wx hSw; have s0 := hSw (b, o + i * 10 + 1, .int .i64 (Z i 1)) (by simp); have s1 := hSw (b, o + i * 10 + 3, .int .i64 (Z i 3)) (by simp); have s2 := hSw (b, o + i * 10 + 4, .int .i64 (Z i 4)) (by simp); have s3 := hSw (b, o + i * 10 + 5, .int .i64 (Z i 5)) (by simp); have s4 := hSw (b, o + i * 10 + 6, .int .i64 (Z i 6)) (by simp); have s5 := hSw (b, o + i * 10 + 7, .int .i64 (Z i 7)) (by simp); have s6 := hSw ((w.heap.size + 1 + 1), 0, .slice aS TT.nS kS) (by simp); have s7 := hSw ((w.heap.size + 1 + 1), 1, .slice aA TT.nA kA) (by simp); have s8 := hSw ((w.heap.size + 1), 0, .slice (some ⟨b, o, none⟩) n cap) (by simp); obtain ⟨s0, t0⟩ := s0; obtain ⟨s1, t1⟩ := s1; obtain ⟨s2, t2⟩ := s2; obtain ⟨s3, t3⟩ := s3; obtain ⟨s4, t4⟩ := s4; obtain ⟨s5, t5⟩ := s5; obtain ⟨s6, t6⟩ := s6; obtain ⟨s7, t7⟩ := s7; obtain ⟨s8, t8⟩ := s8; go_simp
      try simp only [Act.put, List.setIfInBounds_toArray, List.set_cons_zero, List.set_cons_succ, List.getElem_toArray, List.getElem_cons_zero, List.getElem_cons_succ]
      refine wpAnyH_take (i := 13) (v := .int .i64 (Z i 1)) rfl (by kernel_rfl) (by kernel_rfl) (by kernel_rfl) (fun _ _ _ h => h) (Or.inl ⟨by rfl, ?_⟩) (by assumption) ?_
      · intro wx hSw; have s0 := hSw (b, o + i * 10 + 1, .int .i64 (Z i 1)) (by simp); have s1 := hSw (b, o + i * 10 + 3, .int .i64 (Z i 3)) (by simp); have s2 := hSw (b, o + i * 10 + 4, .int .i64 (Z i 4)) (by simp); have s3 := hSw (b, o + i * 10 + 5, .int .i64 (Z i 5)) (by simp); have s4 := hSw (b, o + i * 10 + 6, .int .i64 (Z i 6)) (by simp); have s5 := hSw (b, o + i * 10 + 7, .int .i64 (Z i 7)) (by simp); have s6 := hSw ((w.heap.size + 1 + 1), 0, .slice aS TT.nS kS) (by simp); have s7 := hSw ((w.heap.size + 1 + 1), 1, .slice aA TT.nA kA) (by simp); have s8 := hSw ((w.heap.size + 1), 0, .slice (some ⟨b, o, none⟩) n cap) (by simp); obtain ⟨s0, t0⟩ := s0; obtain ⟨s1, t1⟩ := s1; obtain ⟨s2, t2⟩ := s2; obtain ⟨s3, t3⟩ := s3; obtain ⟨s4, t4⟩ := s4; obtain ⟨s5, t5⟩ := s5; obtain ⟨s6, t6⟩ := s6; obtain ⟨s7, t7⟩ := s7; obtain ⟨s8, t8⟩ := s8; go_simp
      try simp only [Act.put, List.setIfInBounds_toArray, List.set_cons_zero, List.set_cons_succ, List.getElem_toArray, List.getElem_cons_zero, List.getElem_cons_succ]
      refine wpAnyH_take (i := 14) (v := .pointer (some ⟨w.heap.size + 1, 0, none⟩)) rfl (by kernel_rfl) (by kernel_rfl) (by kernel_rfl) (fun _ _ _ h => h) (Or.inl ⟨by rfl, ?_⟩) (by assumption) ?_
      · intro wx hSw; have s0 := hSw (b, o + i * 10 + 1, .int .i64 (Z i 1)) (by simp); have s1 := hSw (b, o + i * 10 + 3, .int .i64 (Z i 3)) (by simp); have s2 := hSw (b, o + i * 10 + 4, .int .i64 (Z i 4)) (by simp); have s3 := hSw (b, o + i * 10 + 5, .int .i64 (Z i 5)) (by simp); have s4 := hSw (b, o + i * 10 + 6, .int .i64 (Z i 6)) (by simp); have s5 := hSw (b, o + i * 10 + 7, .int .i64 (Z i 7)) (by simp); have s6 := hSw ((w.heap.size + 1 + 1), 0, .slice aS TT.nS kS) (by simp); have s7 := hSw ((w.heap.size + 1 + 1), 1, .slice aA TT.nA kA) (by simp); have s8 := hSw ((w.heap.size + 1), 0, .slice (some ⟨b, o, none⟩) n cap) (by simp); obtain ⟨s0, t0⟩ := s0; obtain ⟨s1, t1⟩ := s1; obtain ⟨s2, t2⟩ := s2; obtain ⟨s3, t3⟩ := s3; obtain ⟨s4, t4⟩ := s4; obtain ⟨s5, t5⟩ := s5; obtain ⟨s6, t6⟩ := s6; obtain ⟨s7, t7⟩ := s7; obtain ⟨s8, t8⟩ := s8; go_simp
      try simp only [Act.put, List.setIfInBounds_toArray, List.set_cons_zero, List.set_cons_succ, List.getElem_toArray, List.getElem_cons_zero, List.getElem_cons_succ]
      refine wpAnyH_take (i := 15) (v := .slice (some ⟨b, o, none⟩) n cap) rfl (by kernel_rfl) (by kernel_rfl) (by kernel_rfl) (fun _ _ _ h => h) (Or.inl ⟨by rfl, ?_⟩) (by assumption) ?_
      · intro wx hSw; have s0 := hSw (b, o + i * 10 + 1, .int .i64 (Z i 1)) (by simp); have s1 := hSw (b, o + i * 10 + 3, .int .i64 (Z i 3)) (by simp); have s2 := hSw (b, o + i * 10 + 4, .int .i64 (Z i 4)) (by simp); have s3 := hSw (b, o + i * 10 + 5, .int .i64 (Z i 5)) (by simp); have s4 := hSw (b, o + i * 10 + 6, .int .i64 (Z i 6)) (by simp); have s5 := hSw (b, o + i * 10 + 7, .int .i64 (Z i 7)) (by simp); have s6 := hSw ((w.heap.size + 1 + 1), 0, .slice aS TT.nS kS) (by simp); have s7 := hSw ((w.heap.size + 1 + 1), 1, .slice aA TT.nA kA) (by simp); have s8 := hSw ((w.heap.size + 1), 0, .slice (some ⟨b, o, none⟩) n cap) (by simp); obtain ⟨s0, t0⟩ := s0; obtain ⟨s1, t1⟩ := s1; obtain ⟨s2, t2⟩ := s2; obtain ⟨s3, t3⟩ := s3; obtain ⟨s4, t4⟩ := s4; obtain ⟨s5, t5⟩ := s5; obtain ⟨s6, t6⟩ := s6; obtain ⟨s7, t7⟩ := s7; obtain ⟨s8, t8⟩ := s8; go_simp
      try simp only [Act.put, List.setIfInBounds_toArray, List.set_cons_zero, List.set_cons_succ, List.getElem_toArray, List.getElem_cons_zero, List.getElem_cons_succ]
      refine wpAnyH_take (i := 16) (v := .int .i64 (i : Int)) rfl (by kernel_rfl) (by kernel_rfl) (by kernel_rfl) (fun _ _ _ h => h) (Or.inl ⟨by rfl, ?_⟩) (by assumption) ?_
      · intro wx hSw; have s0 := hSw (b, o + i * 10 + 1, .int .i64 (Z i 1)) (by simp); have s1 := hSw (b, o + i * 10 + 3, .int .i64 (Z i 3)) (by simp); have s2 := hSw (b, o + i * 10 + 4, .int .i64 (Z i 4)) (by simp); have s3 := hSw (b, o + i * 10 + 5, .int .i64 (Z i 5)) (by simp); have s4 := hSw (b, o + i * 10 + 6, .int .i64 (Z i 6)) (by simp); have s5 := hSw (b, o + i * 10 + 7, .int .i64 (Z i 7)) (by simp); have s6 := hSw ((w.heap.size + 1 + 1), 0, .slice aS TT.nS kS) (by simp); have s7 := hSw ((w.heap.size + 1 + 1), 1, .slice aA TT.nA kA) (by simp); have s8 := hSw ((w.heap.size + 1), 0, .slice (some ⟨b, o, none⟩) n cap) (by simp); obtain ⟨s0, t0⟩ := s0; obtain ⟨s1, t1⟩ := s1; obtain ⟨s2, t2⟩ := s2; obtain ⟨s3, t3⟩ := s3; obtain ⟨s4, t4⟩ := s4; obtain ⟨s5, t5⟩ := s5; obtain ⟨s6, t6⟩ := s6; obtain ⟨s7, t7⟩ := s7; obtain ⟨s8, t8⟩ := s8; go_simp
      try simp only [Act.put, List.setIfInBounds_toArray, List.set_cons_zero, List.set_cons_succ, List.getElem_toArray, List.getElem_cons_zero, List.getElem_cons_succ]
      refine wpAnyH_take (i := 17) (v := .pointer (some ⟨b, o + i * 10, none⟩)) rfl (by kernel_rfl) (by kernel_rfl) (by kernel_rfl) (fun _ _ _ h => h) (Or.inl ⟨by rfl, ?_⟩) (by assumption) ?_
      · intro wx hSw; have s0 := hSw (b, o + i * 10 + 1, .int .i64 (Z i 1)) (by simp); have s1 := hSw (b, o + i * 10 + 3, .int .i64 (Z i 3)) (by simp); have s2 := hSw (b, o + i * 10 + 4, .int .i64 (Z i 4)) (by simp); have s3 := hSw (b, o + i * 10 + 5, .int .i64 (Z i 5)) (by simp); have s4 := hSw (b, o + i * 10 + 6, .int .i64 (Z i 6)) (by simp); have s5 := hSw (b, o + i * 10 + 7, .int .i64 (Z i 7)) (by simp); have s6 := hSw ((w.heap.size + 1 + 1), 0, .slice aS TT.nS kS) (by simp); have s7 := hSw ((w.heap.size + 1 + 1), 1, .slice aA TT.nA kA) (by simp); have s8 := hSw ((w.heap.size + 1), 0, .slice (some ⟨b, o, none⟩) n cap) (by simp); obtain ⟨s0, t0⟩ := s0; obtain ⟨s1, t1⟩ := s1; obtain ⟨s2, t2⟩ := s2; obtain ⟨s3, t3⟩ := s3; obtain ⟨s4, t4⟩ := s4; obtain ⟨s5, t5⟩ := s5; obtain ⟨s6, t6⟩ := s6; obtain ⟨s7, t7⟩ := s7; obtain ⟨s8, t8⟩ := s8; go_simp
      try simp only [Act.put, List.setIfInBounds_toArray, List.set_cons_zero, List.set_cons_succ, List.getElem_toArray, List.getElem_cons_zero, List.getElem_cons_succ]
      refine wpAnyH_take (i := 18) (v := .pointer (some ⟨b, o + i * 10 + 3, none⟩)) rfl (by kernel_rfl) (by kernel_rfl) (by kernel_rfl) (fun _ _ _ h => h) (Or.inl ⟨by rfl, ?_⟩) (by assumption) ?_
      · intro wx hSw; have s0 := hSw (b, o + i * 10 + 1, .int .i64 (Z i 1)) (by simp); have s1 := hSw (b, o + i * 10 + 3, .int .i64 (Z i 3)) (by simp); have s2 := hSw (b, o + i * 10 + 4, .int .i64 (Z i 4)) (by simp); have s3 := hSw (b, o + i * 10 + 5, .int .i64 (Z i 5)) (by simp); have s4 := hSw (b, o + i * 10 + 6, .int .i64 (Z i 6)) (by simp); have s5 := hSw (b, o + i * 10 + 7, .int .i64 (Z i 7)) (by simp); have s6 := hSw ((w.heap.size + 1 + 1), 0, .slice aS TT.nS kS) (by simp); have s7 := hSw ((w.heap.size + 1 + 1), 1, .slice aA TT.nA kA) (by simp); have s8 := hSw ((w.heap.size + 1), 0, .slice (some ⟨b, o, none⟩) n cap) (by simp); obtain ⟨s0, t0⟩ := s0; obtain ⟨s1, t1⟩ := s1; obtain ⟨s2, t2⟩ := s2; obtain ⟨s3, t3⟩ := s3; obtain ⟨s4, t4⟩ := s4; obtain ⟨s5, t5⟩ := s5; obtain ⟨s6, t6⟩ := s6; obtain ⟨s7, t7⟩ := s7; obtain ⟨s8, t8⟩ := s8; go_simp
      try simp only [Act.put, List.setIfInBounds_toArray, List.set_cons_zero, List.set_cons_succ, List.getElem_toArray, List.getElem_cons_zero, List.getElem_cons_succ]
      refine wpAnyH_take (i := 19) (v := .agg #[.int .i64 (Z i 3), .int .i64 (Z i 4), .int .i64 (Z i 5), .int .i64 (Z i 6), .int .i64 (Z i 7)]) rfl (by kernel_rfl) (by kernel_rfl) (by kernel_rfl) (fun _ _ _ h => h) (Or.inl ⟨by rfl, ?_⟩) (by assumption) ?_
      · intro wx hSw; have s0 := hSw (b, o + i * 10 + 1, .int .i64 (Z i 1)) (by simp); have s1 := hSw (b, o + i * 10 + 3, .int .i64 (Z i 3)) (by simp); have s2 := hSw (b, o + i * 10 + 4, .int .i64 (Z i 4)) (by simp); have s3 := hSw (b, o + i * 10 + 5, .int .i64 (Z i 5)) (by simp); have s4 := hSw (b, o + i * 10 + 6, .int .i64 (Z i 6)) (by simp); have s5 := hSw (b, o + i * 10 + 7, .int .i64 (Z i 7)) (by simp); have s6 := hSw ((w.heap.size + 1 + 1), 0, .slice aS TT.nS kS) (by simp); have s7 := hSw ((w.heap.size + 1 + 1), 1, .slice aA TT.nA kA) (by simp); have s8 := hSw ((w.heap.size + 1), 0, .slice (some ⟨b, o, none⟩) n cap) (by simp); obtain ⟨s0, t0⟩ := s0; obtain ⟨s1, t1⟩ := s1; obtain ⟨s2, t2⟩ := s2; obtain ⟨s3, t3⟩ := s3; obtain ⟨s4, t4⟩ := s4; obtain ⟨s5, t5⟩ := s5; obtain ⟨s6, t6⟩ := s6; obtain ⟨s7, t7⟩ := s7; obtain ⟨s8, t8⟩ := s8; go_simp
      try simp only [Act.put, List.setIfInBounds_toArray, List.set_cons_zero, List.set_cons_succ, List.getElem_toArray, List.getElem_cons_zero, List.getElem_cons_succ]
      refine wpAnyH_ready (rs := [7]) (by kernel_rfl) (by simp) ?_
      refine AllReadyH.cons rfl (fun K hK => ?_) AllReadyH.nil
      go_simp
      go_wp2_with fail
      refine (srv_spec _ TT (Z i 1) hT _ (HT.out.below (bthen B40.out ((Below.refl _ _).drew)))).mono ?_
      rintro e x5 ⟨rfl, hx5⟩
      have hb5 : Below x4.heap.size x4 x5 := bthen ((Below.refl _ _).drew) hx5
      refine hK.out _ _ (hHeld.below hx5) (fun hNew => ?_)
      clear hK K hHeld
      have hHeld := hNew
      clear hNew
      try simp only [Act.put, List.setIfInBounds_toArray, List.set_cons_zero, List.set_cons_succ, List.getElem_toArray, List.getElem_cons_zero, List.getElem_cons_succ]
      clear yT0 yT1 hlT yK0 hlK
      have B41 : Hid (Below w.heap.size w x5) := bthen B40.out hb5
      have M41 : Hid (Bk x5 w.heap.size [.int .i64 c, .int .i64 d]) := M40.out.below hb5
      have K41 : Hid (Bk x5 (w.heap.size + 1) [.slice (some ⟨b, o, none⟩) n cap]) := K40.out.below hb5
      have T41 : Hid (Bk x5 (w.heap.size + 1 + 1) [.slice aS TT.nS kS, .slice aA TT.nA kA]) := T40.out.below hb5
      have R41 : Hid (Bk x5 (w.heap.size + 1 + 1 + 1) [.int .i64 0, .int .i64 0, .int .i64 0, .int .i64 0, .int .i64 0, .int .i64 0, .int .i64 0, .int .i64 0, .int .i64 0, .int .i64 0, .int .i64 0, .int .i64 0, .int .i64 0, .int .i64 0, .int .i64 0, .int .i64 0, .int .i64 0, .int .i64 0, .int .i64 0, .int .i64 0, .int .i64 0, .int .i64 0, .int .i64 0, .int .i64 0, .int .i64 0]) := R40.out.below hb5
      clear B40 M40 K40 T40 R40
      clear hb5 hx5
      refine wpAnyH_take (i := 20) (v := .agg #[.int .i64 2, .int .i64 (srvI TT (Z i 1)), .int .i64 (Z i 1), .int .i64 0, .int .i64 0, .int .i64 (Z i 3), .int .i64 (Z i 4), .int .i64 (Z i 5), .int .i64 (Z i 6), .int .i64 (Z i 7), .int .i64 0, .int .i64 0, .int .i64 0, .int .i64 0, .int .i64 0, .int .i64 0, .int .i64 0, .int .i64 0, .int .i64 0, .int .i64 0, .int .i64 0, .int .i64 0, .int .i64 0, .int .i64 0, .int .i64 0]) rfl (by kernel_rfl) (by kernel_rfl) (by kernel_rfl) (fun _ _ _ h => h) (Or.inl ⟨by rfl, ?_⟩) (by assumption) ?_
      · intro wx hSw; have s0 := hSw (b, o + i * 10 + 1, .int .i64 (Z i 1)) (by simp); have s1 := hSw (b, o + i * 10 + 3, .int .i64 (Z i 3)) (by simp); have s2 := hSw (b, o + i * 10 + 4, .int .i64 (Z i 4)) (by simp); have s3 := hSw (b, o + i * 10 + 5, .int .i64 (Z i 5)) (by simp); have s4 := hSw (b, o + i * 10 + 6, .int .i64 (Z i 6)) (by simp); have s5 := hSw (b, o + i * 10 + 7, .int .i64 (Z i 7)) (by simp); have s6 := hSw ((w.heap.size + 1 + 1), 0, .slice aS TT.nS kS) (by simp); have s7 := hSw ((w.heap.size + 1 + 1), 1, .slice aA TT.nA kA) (by simp); have s8 := hSw ((w.heap.size + 1), 0, .slice (some ⟨b, o, none⟩) n cap) (by simp); obtain ⟨s0, t0⟩ := s0; obtain ⟨s1, t1⟩ := s1; obtain ⟨s2, t2⟩ := s2; obtain ⟨s3, t3⟩ := s3; obtain ⟨s4, t4⟩ := s4; obtain ⟨s5, t5⟩ := s5; obtain ⟨s6, t6⟩ := s6; obtain ⟨s7, t7⟩ := s7; obtain ⟨s8, t8⟩ := s8; go_simp
      try simp only [Act.put, List.setIfInBounds_toArray, List.set_cons_zero, List.set_cons_succ, List.getElem_toArray, List.getElem_cons_zero, List.getElem_cons_succ]
      refine wpAnyH_ready (rs := [21]) (by kernel_rfl) (by simp) ?_
      refine AllReadyH.cons rfl (fun K hK => ?_) AllReadyH.nil
      go_simp
      rw [store62_bk (R41.out) rfl _ rfl (by kernel_rfl)]
      refine hK.out _ _ (hHeld.put (by intro p hp; simp only [List.mem_cons, List.not_mem_nil, or_false] at hp; rcases hp with rfl | rfl | rfl | rfl | rfl | rfl | rfl | rfl | rfl <;> first | exact nB | (show ¬ w.heap.size + 1 + 1 = w.heap.size + 1 + 1 + 1; omega) | (show ¬ w.heap.size + 1 = w.heap.size + 1 + 1 + 1; omega))) (fun hNew => ?_)
      clear hK K hHeld
      have hHeld := hNew
      clear hNew
      try simp only [Act.put]
      refine wpAnyH_take (i := 22) (v := .bool true) rfl (by kernel_rfl) (by kernel_rfl) (by kernel_rfl) (fun _ _ _ h => h) (Or.inl ⟨by rfl, ?_⟩) (by assumption) ?_
      · intro wx hSw; have s0 := hSw (b, o + i * 10 + 1, .int .i64 (Z i 1)) (by simp); have s1 := hSw (b, o + i * 10 + 3, .int .i64 (Z i 3)) (by simp); have s2 := hSw (b, o + i * 10 + 4, .int .i64 (Z i 4)) (by simp); have s3 := hSw (b, o + i * 10 + 5, .int .i64 (Z i 5)) (by simp); have s4 := hSw (b, o + i * 10 + 6, .int .i64 (Z i 6)) (by simp); have s5 := hSw (b, o + i * 10 + 7, .int .i64 (Z i 7)) (by simp); have s6 := hSw ((w.heap.size + 1 + 1), 0, .slice aS TT.nS kS) (by simp); have s7 := hSw ((w.heap.size + 1 + 1), 1, .slice aA TT.nA kA) (by simp); have s8 := hSw ((w.heap.size + 1), 0, .slice (some ⟨b, o, none⟩) n cap) (by simp); obtain ⟨s0, t0⟩ := s0; obtain ⟨s1, t1⟩ := s1; obtain ⟨s2, t2⟩ := s2; obtain ⟨s3, t3⟩ := s3; obtain ⟨s4, t4⟩ := s4; obtain ⟨s5, t5⟩ := s5; obtain ⟨s6, t6⟩ := s6; obtain ⟨s7, t7⟩ := s7; obtain ⟨s8, t8⟩ := s8; go_simp
      try simp only [Act.put, List.setIfInBounds_toArray, List.set_cons_zero, List.set_cons_succ, List.getElem_toArray, List.getElem_cons_zero, List.getElem_cons_succ]
      refine wpAnyH_done (by kernel_rfl) ?_ _
      clear hHeld
      obtain ⟨w9, e9⟩ : ∃ y, y = putL (w.heap.size + 1 + 1 + 1) ((#[.int .i64 2, .int .i64 (srvI TT (Z i 1)), .int .i64 (Z i 1), .int .i64 0, .int .i64 0, .int .i64 (Z i 3), .int .i64 (Z i 4), .int .i64 (Z i 5), .int .i64 (Z i 6), .int .i64 (Z i 7), .int .i64 0, .int .i64 0, .int .i64 0, .int .i64 0, .int .i64 0, .int .i64 0, .int .i64 0, .int .i64 0, .int .i64 0, .int .i64 0, .int .i64 0, .int .i64 0, .int .i64 0, .int .i64 0, .int .i64 0] : Array Value).toList) 0 x5 := ⟨_, rfl⟩
      have R9 : Hid (Bk w9 (w.heap.size + 1 + 1 + 1) [.int .i64 2, .int .i64 (srvI TT (Z i 1)), .int .i64 (Z i 1), .int .i64 0, .int .i64 0, .int .i64 (Z i 3), .int .i64 (Z i 4), .int .i64 (Z i 5), .int .i64 (Z i 6), .int .i64 (Z i 7), .int .i64 0, .int .i64 0, .int .i64 0, .int .i64 0, .int .i64 0, .int .i64 0, .int .i64 0, .int .i64 0, .int .i64 0, .int .i64 0, .int .i64 0, .int .i64 0, .int .i64 0, .int .i64 0, .int .i64 0]) := by unfold Hid; rw [e9]; exact bk_put (R41.out) rfl
      have B9 : Hid (Below w.heap.size w w9) := by unfold Hid; rw [e9]; exact below_put (by omega) _ _ (B41.out)
      rw [← e9]
      clear e9
      go_wp2
      have hr := fun tmps hp hq => results_mid2 (P := Try.prog) (fn := Try.f24) Try.results24 tmps w9 (w.heap.size + 1 + 1 + 1) [.int .i64 2, .int .i64 (srvI TT (Z i 1)), .int .i64 (Z i 1), .int .i64 0, .int .i64 0, .int .i64 (Z i 3), .int .i64 (Z i 4), .int .i64 (Z i 5), .int .i64 (Z i 6), .int .i64 (Z i 7), .int .i64 0, .int .i64 0, .int .i64 0, .int .i64 0, .int .i64 0, .int .i64 0, .int .i64 0, .int .i64 0, .int .i64 0, .int .i64 0, .int .i64 0, .int .i64 0, .int .i64 0, .int .i64 0, .int .i64 0] _ (.bool true) hp hq (Bk.range R9.out) Try.underlying62 rfl (by kernel_rfl)
      exact bodyPost_ret (v := .tuple #[.agg #[.int .i64 2, .int .i64 (srvI TT (Z i 1)), .int .i64 (Z i 1), .int .i64 0, .int .i64 0, .int .i64 (Z i 3), .int .i64 (Z i 4), .int .i64 (Z i 5), .int .i64 (Z i 6), .int .i64 (Z i 7), .int .i64 0, .int .i64 0, .int .i64 0, .int .i64 0, .int .i64 0, .int .i64 0, .int .i64 0, .int .i64 0, .int .i64 0, .int .i64 0, .int .i64 0, .int .i64 0, .int .i64 0, .int .i64 0, .int .i64 0], .bool true]) (hr _ rfl rfl) rfl ⟨rfl, B9.out⟩
    · have he : (srvI TT (Z i 1)) = -1 := by simpa using hq
      have hs : sayI c d n Z TT sv who = none := by simp [sayI, hs, he]
      rw [hs]
      clear hs
      go_enter Try.func24, Try.ntmps24
      go_wp2_with fail
      obtain ⟨w0, e0⟩ : ∃ w0, w0 = ((((w.alloc (.cells #[.int .i64 c, .int .i64 d] 30)).alloc (.cells #[.slice (some ⟨b, o, none⟩) n cap] 28)).alloc (.cells #[.slice aS TT.nS kS, .slice aA TT.nA kA] 65)).alloc (.cells #[.int .i64 0, .int .i64 0, .int .i64 0, .int .i64 0, .int .i64 0, .int .i64 0, .int .i64 0, .int .i64 0, .int .i64 0, .int .i64 0, .int .i64 0, .int .i64 0, .int .i64 0, .int .i64 0, .int .i64 0, .int .i64 0, .int .i64 0, .int .i64 0, .int .i64 0, .int .i64 0, .int .i64 0, .int .i64 0, .int .i64 0, .int .i64 0, .int .i64 0] 62)) := ⟨_, rfl⟩
      have B42 : Hid (Below w.heap.size w w0) := by rw [e0]; exact ((((Below.refl _ _).alloc (by simp) _).alloc (by simp) _).alloc (by simp; omega) _).alloc (by simp; omega) _
      have M43 : Hid (Bk w0 w.heap.size [.int .i64 c, .int .i64 d]) := by rw [e0]; exact (((bk_new w 30 [.int .i64 c, .int .i64 d]).below ((Below.refl _ _).alloc (Nat.le_refl _) _)).below ((Below.refl _ _).alloc (Nat.le_refl _) _)).below ((Below.refl _ _).alloc (Nat.le_refl _) _)
      have K44 : Hid (Bk w0 (w.heap.size + 1) [.slice (some ⟨b, o, none⟩) n cap]) := by rw [e0]; have := ((bk_new (w.alloc (.cells #[.int .i64 c, .int .i64 d] 30)) 28 [.slice (some ⟨b, o, none⟩) n cap]).below ((Below.refl _ _).alloc (Nat.le_refl _) (.cells #[.slice aS TT.nS kS, .slice aA TT.nA kA] 65))).below ((Below.refl _ _).alloc (Nat.le_refl _) (.cells #[.int .i64 0, .int .i64 0, .int .i64 0, .int .i64 0, .int .i64 0, .int .i64 0, .int .i64 0, .int .i64 0, .int .i64 0, .int .i64 0, .int .i64 0, .int .i64 0, .int .i64 0, .int .i64 0, .int .i64 0, .int .i64 0, .int .i64 0, .int .i64 0, .int .i64 0, .int .i64 0, .int .i64 0, .int .i64 0, .int .i64 0, .int .i64 0, .int .i64 0] 62)); rwa [show (w.alloc (.cells #[.int .i64 c, .int .i64 d] 30)).heap.size = w.heap.size + 1 by simp] at this
      have T45 : Hid (Bk w0 (w.heap.size + 1 + 1) [.slice aS TT.nS kS, .slice aA TT.nA kA]) := by rw [e0]; have := (bk_new ((w.alloc (.cells #[.int .i64 c, .int .i64 d] 30)).alloc (.cells #[.slice (some ⟨b, o, none⟩) n cap] 28)) 65 [.slice aS TT.nS kS, .slice aA TT.nA kA]).below ((Below.refl _ _).alloc (Nat.le_refl _) (.cells #[.int .i64 0, .int .i64 0, .int .i64 0, .int .i64 0, .int .i64 0, .int .i64 0, .int .i64 0, .int .i64 0, .int .i64 0, .int .i64 0, .int .i64 0, .int .i64 0, .int .i64 0, .int .i64 0, .int .i64 0, .int .i64 0, .int .i64 0, .int .i64 0, .int .i64 0, .int .i64 0, .int .i64 0, .int .i64 0, .int .i64 0, .int .i64 0, .int .i64 0] 62)); rwa [show ((w.alloc (.cells #[.int .i64 c, .int .i64 d] 30)).alloc (.cells #[.slice (some ⟨b, o, none⟩) n cap] 28)).heap.size = w.heap.size + 1 + 1 by simp] at this
      have R46 : Hid (Bk w0 (w.heap.size + 1 + 1 + 1) [.int .i64 0, .int .i64 0, .int .i64 0, .int .i64 0, .int .i64 0, .int .i64 0, .int .i64 0, .int .i64 0, .int .i64 0, .int .i64 0, .int .i64 0, .int .i64 0, .int .i64 0, .int .i64 0, .int .i64 0, .int .i64 0, .int .i64 0, .int .i64 0, .int .i64 0, .int .i64 0, .int .i64 0, .int .i64 0, .int .i64 0, .int .i64 0, .int .i64 0]) := by rw [e0]; have := bk_new (((w.alloc (.cells #[.int .i64 c, .int .i64 d] 30)).alloc (.cells #[.slice (some ⟨b, o, none⟩) n cap] 28)).alloc (.cells #[.slice aS TT.nS kS, .slice aA TT.nA kA] 65)) 62 [.int .i64 0, .int .i64 0, .int .i64 0, .int .i64 0, .int .i64 0, .int .i64 0, .int .i64 0, .int .i64 0, .int .i64 0, .int .i64 0, .int .i64 0, .int .i64 0, .int .i64 0, .int .i64 0, .int .i64 0, .int .i64 0, .int .i64 0, .int .i64 0, .int .i64 0, .int .i64 0, .int .i64 0, .int .i64 0, .int .i64 0, .int .i64 0, .int .i64 0]; rwa [show (((w.alloc (.cells #[.int .i64 c, .int .i64 d] 30)).alloc (.cells #[.slice (some ⟨b, o, none⟩) n cap] 28)).alloc (.cells #[.slice aS TT.nS kS, .slice aA TT.nA kA] 65)).heap.size = w.heap.size + 1 + 1 + 1 by simp] at this
      rw [← e0]
      clear e0
      refine (book_spec c d _ n cap Z hn _ (P10.row_below HR.out B42.out)).mono ?_
      rintro e w1 ⟨rfl, hb1⟩
      have B47 : Hid (Below w.heap.size w w1) := bthen B42.out hb1
      have M47 : Hid (Bk w1 w.heap.size [.int .i64 c, .int .i64 d]) := M43.out.below hb1
      have K47 : Hid (Bk w1 (w.heap.size + 1) [.slice (some ⟨b, o, none⟩) n cap]) := K44.out.below hb1
      have T47 : Hid (Bk w1 (w.heap.size + 1 + 1) [.slice aS TT.nS kS, .slice aA TT.nA kA]) := T45.out.below hb1
      have R47 : Hid (Bk w1 (w.heap.size + 1 + 1 + 1) [.int .i64 0, .int .i64 0, .int .i64 0, .int .i64 0, .int .i64 0, .int .i64 0, .int .i64 0, .int .i64 0, .int .i64 0, .int .i64 0, .int .i64 0, .int .i64 0, .int .i64 0, .int .i64 0, .int .i64 0, .int .i64 0, .int .i64 0, .int .i64 0, .int .i64 0, .int .i64 0, .int .i64 0, .int .i64 0, .int .i64 0, .int .i64 0, .int .i64 0]) := R46.out.below hb1
      clear B42 M43 K44 T45 R46
      clear hb1
      rw [hk]
      have yM0 : w1.cell? ⟨w.heap.size, 0, none⟩ = some (.int .i64 c) := (M47.out.2 0 (by simp)).1
      have yM1 : w1.cell? ⟨w.heap.size, 1, none⟩ = some (.int .i64 d) := (M47.out.2 1 (by simp)).1
      have hlM : w.heap.size < w1.heap.size := M47.out.1
      have yK0 : w1.cell? ⟨(w.heap.size + 1), 0, none⟩ = some (.slice (some ⟨b, o, none⟩) n cap) := (K47.out.2 0 (by simp)).1
      have hlK : (w.heap.size + 1) < w1.heap.size := K47.out.1
      have yT0 : w1.cell? ⟨(w.heap.size + 1 + 1), 0, none⟩ = some (.slice aS TT.nS kS) := (T47.out.2 0 (by simp)).1
      have yT1 : w1.cell? ⟨(w.heap.size + 1 + 1), 1, none⟩ = some (.slice aA TT.nA kA) := (T47.out.2 1 (by simp)).1
      have hlT : (w.heap.size + 1 + 1) < w1.heap.size := T47.out.1
      go_wp2_with fail
      refine (arbOk_spec c d _ TT sv hT _ (HT.out.below B47.out)).mono ?_
      rintro e w2 ⟨rfl, hb2⟩
      clear yM0 yM1 hlM yK0 hlK yT0 yT1 hlT
      have B48 : Hid (Below w.heap.size w w2) := bthen B47.out hb2
      have M48 : Hid (Bk w2 w.heap.size [.int .i64 c, .int .i64 d]) := M47.out.below hb2
      have K48 : Hid (Bk w2 (w.heap.size + 1) [.slice (some ⟨b, o, none⟩) n cap]) := K47.out.below hb2
      have T48 : Hid (Bk w2 (w.heap.size + 1 + 1) [.slice aS TT.nS kS, .slice aA TT.nA kA]) := T47.out.below hb2
      have R48 : Hid (Bk w2 (w.heap.size + 1 + 1 + 1) [.int .i64 0, .int .i64 0, .int .i64 0, .int .i64 0, .int .i64 0, .int .i64 0, .int .i64 0, .int .i64 0, .int .i64 0, .int .i64 0, .int .i64 0, .int .i64 0, .int .i64 0, .int .i64 0, .int .i64 0, .int .i64 0, .int .i64 0, .int .i64 0, .int .i64 0, .int .i64 0, .int .i64 0, .int .i64 0, .int .i64 0, .int .i64 0, .int .i64 0]) := R47.out.below hb2
      clear B47 M47 K47 T47 R47
      clear hb2
      rw [ht]
      have yM0 : w2.cell? ⟨w.heap.size, 0, none⟩ = some (.int .i64 c) := (M48.out.2 0 (by simp)).1
      have yM1 : w2.cell? ⟨w.heap.size, 1, none⟩ = some (.int .i64 d) := (M48.out.2 1 (by simp)).1
      have hlM : w.heap.size < w2.heap.size := M48.out.1
      have yK0 : w2.cell? ⟨(w.heap.size + 1), 0, none⟩ = some (.slice (some ⟨b, o, none⟩) n cap) := (K48.out.2 0 (by simp)).1
      have hlK : (w.heap.size + 1) < w2.heap.size := K48.out.1
      have yT0 : w2.cell? ⟨(w.heap.size + 1 + 1), 0, none⟩ = some (.slice aS TT.nS kS) := (T48.out.2 0 (by simp)).1
      have yT1 : w2.cell? ⟨(w.heap.size + 1 + 1), 1, none⟩ = some (.slice aA TT.nA kA) := (T48.out.2 1 (by simp)).1
      have hlT : (w.heap.size + 1 + 1) < w2.heap.size := T48.out.1
      go_wp2_with fail
      refine (at_spec _ n cap Z who hn _ (P10.row_below HR.out B48.out)).mono ?_
      rintro e w3 ⟨rfl, hb3⟩
      clear yM0 yM1 hlM yK0 hlK yT0 yT1 hlT
      have B49 : Hid (Below w.heap.size w w3) := bthen B48.out hb3
      have M49 : Hid (Bk w3 w.heap.size [.int .i64 c, .int .i64 d]) := M48.out.below hb3
      have K49 : Hid (Bk w3 (w.heap.size + 1) [.slice (some ⟨b, o, none⟩) n cap]) := K48.out.below hb3
      have T49 : Hid (Bk w3 (w.heap.size + 1 + 1) [.slice aS TT.nS kS, .slice aA TT.nA kA]) := T48.out.below hb3
      have R49 : Hid (Bk w3 (w.heap.size + 1 + 1 + 1) [.int .i64 0, .int .i64 0, .int .i64 0, .int .i64 0, .int .i64 0, .int .i64 0, .int .i64 0, .int .i64 0, .int .i64 0, .int .i64 0, .int .i64 0, .int .i64 0, .int .i64 0, .int .i64 0, .int .i64 0, .int .i64 0, .int .i64 0, .int .i64 0, .int .i64 0, .int .i64 0, .int .i64 0, .int .i64 0, .int .i64 0, .int .i64 0, .int .i64 0]) := R48.out.below hb3
      clear B48 M48 K48 T48 R48
      clear hb3
      rw [hs]
      simp only [atI]
      have c0 : w3.cell? ⟨b, o + i * 10, none⟩ = some (.int .i64 (Z i 0)) := (B49.out.cell (p := ⟨b, _, none⟩) hbl).trans (HW.out i 0 hi (by omega))
      have c1 : w3.cell? ⟨b, o + i * 10 + 1, none⟩ = some (.int .i64 (Z i 1)) := (B49.out.cell (p := ⟨b, _, none⟩) hbl).trans (HW.out i 1 hi (by omega))
      have c2 : w3.cell? ⟨b, o + i * 10 + 2, none⟩ = some (.bool true) := (B49.out.cell (p := ⟨b, _, none⟩) hbl).trans ((HW.out i 2 hi (by omega)).trans (by simp [P10.cv, hb]))
      have c3 : w3.cell? ⟨b, o + i * 10 + 3, none⟩ = some (.int .i64 (Z i 3)) := (B49.out.cell (p := ⟨b, _, none⟩) hbl).trans (HW.out i 3 hi (by omega))
      have c4 : w3.cell? ⟨b, o + i * 10 + 4, none⟩ = some (.int .i64 (Z i 4)) := (B49.out.cell (p := ⟨b, _, none⟩) hbl).trans (HW.out i 4 hi (by omega))
      have c5 : w3.cell? ⟨b, o + i * 10 + 5, none⟩ = some (.int .i64 (Z i 5)) := (B49.out.cell (p := ⟨b, _, none⟩) hbl).trans (HW.out i 5 hi (by omega))
      have c6 : w3.cell? ⟨b, o + i * 10 + 6, none⟩ = some (.int .i64 (Z i 6)) := (B49.out.cell (p := ⟨b, _, none⟩) hbl).trans (HW.out i 6 hi (by omega))
      have c7 : w3.cell? ⟨b, o + i * 10 + 7, none⟩ = some (.int .i64 (Z i 7)) := (B49.out.cell (p := ⟨b, _, none⟩) hbl).trans (HW.out i 7 hi (by omega))
      have c8 : w3.cell? ⟨b, o + i * 10 + 8, none⟩ = some (.int .i64 (Z i 8)) := (B49.out.cell (p := ⟨b, _, none⟩) hbl).trans (HW.out i 8 hi (by omega))
      have c9 : w3.cell? ⟨b, o + i * 10 + 9, none⟩ = some (.int .i64 (Z i 9)) := (B49.out.cell (p := ⟨b, _, none⟩) hbl).trans (HW.out i 9 hi (by omega))
      have lb : b < w3.heap.size := Nat.lt_of_lt_of_le hbl B49.out.size
      have yT0 : w3.cell? ⟨(w.heap.size + 1 + 1), 0, none⟩ = some (.slice aS TT.nS kS) := (T49.out.2 0 (by simp)).1
      have yT1 : w3.cell? ⟨(w.heap.size + 1 + 1), 1, none⟩ = some (.slice aA TT.nA kA) := (T49.out.2 1 (by simp)).1
      have hlT : (w.heap.size + 1 + 1) < w3.heap.size := T49.out.1
      have yK0 : w3.cell? ⟨(w.heap.size + 1), 0, none⟩ = some (.slice (some ⟨b, o, none⟩) n cap) := (K49.out.2 0 (by simp)).1
      have hlK : (w.heap.size + 1) < w3.heap.size := K49.out.1
      go_wp2_with fail
      refine wp_region_held_drew (S := fun w' => (∀ b o, b < w3.heap.size → w'.cell? ⟨b, o, none⟩ = w3.cell? ⟨b, o, none⟩) ∧ w3.heap.size ≤ w'.heap.size) (by kernel_rfl) ⟨fun _ _ _ => rfl, Nat.le_refl _⟩ ?_
      intro hHeld
      refine wpAnyH_take (i := 0) (v := .int .i64 (i : Int)) rfl (by kernel_rfl) (by kernel_rfl) (by kernel_rfl) (fun _ _ _ h => h) (Or.inl ⟨by rfl, ?_⟩) (by assumption) ?_
      · intro wx hSw; go_simp
      try simp only [Act.put, List.setIfInBounds_toArray, List.set_cons_zero, List.set_cons_succ, List.getElem_toArray, List.getElem_cons_zero]
      refine wpAnyH_take (i := 1) (v := .bool false) rfl (by kernel_rfl) (by kernel_rfl) (by kernel_rfl) (fun _ _ _ h => h) (Or.inl ⟨by rfl, ?_⟩) (by assumption) ?_
      · intro wx hSw; go_simp <;> first | omega | (exact IntWalk.i64_in _ (by omega)) | go_num
      try simp only [Act.put, List.setIfInBounds_toArray, List.set_cons_zero, List.set_cons_succ, List.getElem_toArray, List.getElem_cons_zero, List.getElem_cons_succ]
      refine wpAnyH_take (i := 2) (v := .bool false) rfl (by kernel_rfl) (by kernel_rfl) (by kernel_rfl) (fun _ _ _ h => h) (Or.inl ⟨by rfl, ?_⟩) (by assumption) ?_
      · intro wx hSw; go_simp
      try simp only [Act.put, List.setIfInBounds_toArray, List.set_cons_zero, List.set_cons_succ, List.getElem_toArray, List.getElem_cons_zero, List.getElem_cons_succ]
      refine wpAnyH_take (i := 3) (v := .pointer (some ⟨(w.heap.size + 1), 0, none⟩)) rfl (by kernel_rfl) (by kernel_rfl) (by kernel_rfl) (fun _ _ _ h => h) (Or.inl ⟨by rfl, ?_⟩) (by assumption) ?_
      · intro wx hSw; go_simp
      try simp only [Act.put, List.setIfInBounds_toArray, List.set_cons_zero, List.set_cons_succ, List.getElem_toArray, List.getElem_cons_zero, List.getElem_cons_succ]
      refine wpAnyH_take (i := 4) (v := .slice (some ⟨b, o, none⟩) n cap) rfl (by kernel_rfl) (by kernel_rfl) (by kernel_rfl) (fun _ _ _ h => h) (Or.inl ⟨by rfl, ?_⟩) (by assumption) ?_
      · intro wx hSw; go_simp
      try simp only [Act.put, List.setIfInBounds_toArray, List.set_cons_zero, List.set_cons_succ, List.getElem_toArray, List.getElem_cons_zero, List.getElem_cons_succ]
      refine wpAnyH_take (i := 5) (v := .int .i64 (i : Int)) rfl (by kernel_rfl) (by kernel_rfl) (by kernel_rfl) (fun _ _ _ h => h) (Or.inl ⟨by rfl, ?_⟩) (by assumption) ?_
      · intro wx hSw; go_simp
      try simp only [Act.put, List.setIfInBounds_toArray, List.set_cons_zero, List.set_cons_succ, List.getElem_toArray, List.getElem_cons_zero, List.getElem_cons_succ]
      refine wpAnyH_take (i := 6) (v := .pointer (some ⟨b, o + i * 10, none⟩)) rfl (by kernel_rfl) (by kernel_rfl) (by kernel_rfl) (fun _ _ _ h => h) (Or.inl ⟨by rfl, ?_⟩) (by assumption) ?_
      · intro wx hSw; go_simp
      try simp only [Act.put, List.setIfInBounds_toArray, List.set_cons_zero, List.set_cons_succ, List.getElem_toArray, List.getElem_cons_zero, List.getElem_cons_succ]
      refine wpAnyH_take (i := 7) (v := .pointer (some ⟨b, o + i * 10 + 2, none⟩)) rfl (by kernel_rfl) (by kernel_rfl) (by kernel_rfl) (fun _ _ _ h => h) (Or.inl ⟨by rfl, ?_⟩) (by assumption) ?_
      · intro wx hSw; go_simp
      try simp only [Act.put, List.setIfInBounds_toArray, List.set_cons_zero, List.set_cons_succ, List.getElem_toArray, List.getElem_cons_zero, List.getElem_cons_succ]
      refine wpAnyH_take (i := 8) (v := .bool true) rfl (by kernel_rfl) (by kernel_rfl) (by kernel_rfl) (fun _ _ _ h => h) (Or.inl ⟨by rfl, ?_⟩) (by assumption) ?_
      · intro wx hSw; go_simp
      try simp only [Act.put, List.setIfInBounds_toArray, List.set_cons_zero, List.set_cons_succ, List.getElem_toArray, List.getElem_cons_zero, List.getElem_cons_succ]
      refine wpAnyH_take (i := 9) (v := .bool false) rfl (by kernel_rfl) (by kernel_rfl) (by kernel_rfl) (fun _ _ _ h => h) (Or.inl ⟨by rfl, ?_⟩) (by assumption) ?_
      · intro wx hSw; go_simp
      try simp only [Act.put, List.setIfInBounds_toArray, List.set_cons_zero, List.set_cons_succ, List.getElem_toArray, List.getElem_cons_zero, List.getElem_cons_succ]
      refine wpAnyH_take (i := 10) (v := .bool false) rfl (by kernel_rfl) (by kernel_rfl) (by kernel_rfl) (fun _ _ _ h => h) (Or.inl ⟨by rfl, ?_⟩) (by assumption) ?_
      · intro wx hSw; go_simp
      try simp only [Act.put, List.setIfInBounds_toArray, List.set_cons_zero, List.set_cons_succ, List.getElem_toArray, List.getElem_cons_zero, List.getElem_cons_succ]
      refine wpAnyH_take (i := 11) (v := .bool false) rfl (by kernel_rfl) (by kernel_rfl) (by kernel_rfl) (fun _ _ _ h => h) (Or.inl ⟨by rfl, ?_⟩) (by assumption) ?_
      · intro wx hSw; go_simp
      try simp only [Act.put, List.setIfInBounds_toArray, List.set_cons_zero, List.set_cons_succ, List.getElem_toArray, List.getElem_cons_zero, List.getElem_cons_succ]
      refine wpAnyH_take (i := 12) (v := .agg #[.slice aS TT.nS kS, .slice aA TT.nA kA]) rfl (by kernel_rfl) (by kernel_rfl) (by kernel_rfl) (fun _ _ _ h => h) (Or.inl ⟨by rfl, ?_⟩) (by assumption) ?_
      · intro wx hSw; go_simp
      try simp only [Act.put, List.setIfInBounds_toArray, List.set_cons_zero, List.set_cons_succ, List.getElem_toArray, List.getElem_cons_zero, List.getElem_cons_succ]
      refine wpAnyH_take (i := 13) (v := .pointer (some ⟨(w.heap.size + 1), 0, none⟩)) rfl (by kernel_rfl) (by kernel_rfl) (by kernel_rfl) (fun _ _ _ h => h) (Or.inl ⟨by rfl, ?_⟩) (by assumption) ?_
      · intro wx hSw; go_simp
      try simp only [Act.put, List.setIfInBounds_toArray, List.set_cons_zero, List.set_cons_succ, List.getElem_toArray, List.getElem_cons_zero, List.getElem_cons_succ]
      refine wpAnyH_take (i := 14) (v := .slice (some ⟨b, o, none⟩) n cap) rfl (by kernel_rfl) (by kernel_rfl) (by kernel_rfl) (fun _ _ _ h => h) (Or.inl ⟨by rfl, ?_⟩) (by assumption) ?_
      · intro wx hSw; go_simp
      try simp only [Act.put, List.setIfInBounds_toArray, List.set_cons_zero, List.set_cons_succ, List.getElem_toArray, List.getElem_cons_zero, List.getElem_cons_succ]
      refine wpAnyH_take (i := 15) (v := .int .i64 (i : Int)) rfl (by kernel_rfl) (by kernel_rfl) (by kernel_rfl) (fun _ _ _ h => h) (Or.inl ⟨by rfl, ?_⟩) (by assumption) ?_
      · intro wx hSw; go_simp
      try simp only [Act.put, List.setIfInBounds_toArray, List.set_cons_zero, List.set_cons_succ, List.getElem_toArray, List.getElem_cons_zero, List.getElem_cons_succ]
      refine wpAnyH_take (i := 16) (v := .pointer (some ⟨b, o + i * 10, none⟩)) rfl (by kernel_rfl) (by kernel_rfl) (by kernel_rfl) (fun _ _ _ h => h) (Or.inl ⟨by rfl, ?_⟩) (by assumption) ?_
      · intro wx hSw; go_simp
      try simp only [Act.put, List.setIfInBounds_toArray, List.set_cons_zero, List.set_cons_succ, List.getElem_toArray, List.getElem_cons_zero, List.getElem_cons_succ]
      refine wpAnyH_take (i := 17) (v := .pointer (some ⟨b, o + i * 10 + 1, none⟩)) rfl (by kernel_rfl) (by kernel_rfl) (by kernel_rfl) (fun _ _ _ h => h) (Or.inl ⟨by rfl, ?_⟩) (by assumption) ?_
      · intro wx hSw; go_simp
      try simp only [Act.put, List.setIfInBounds_toArray, List.set_cons_zero, List.set_cons_succ, List.getElem_toArray, List.getElem_cons_zero, List.getElem_cons_succ]
      refine wpAnyH_take (i := 18) (v := .int .i64 (Z i 1)) rfl (by kernel_rfl) (by kernel_rfl) (by kernel_rfl) (fun _ _ _ h => h) (Or.inl ⟨by rfl, ?_⟩) (by assumption) ?_
      · intro wx hSw; go_simp
      try simp only [Act.put, List.setIfInBounds_toArray, List.set_cons_zero, List.set_cons_succ, List.getElem_toArray, List.getElem_cons_zero, List.getElem_cons_succ]
      refine wpAnyH_ready (rs := [19]) (by kernel_rfl) (by simp) ?_
      refine AllReadyH.cons rfl (fun K hK => ?_) AllReadyH.nil
      go_simp
      go_wp2_with fail
      refine (srv_spec _ TT (Z i 1) hT _ (HT.out.below (bthen B49.out (by repeat (first | exact Below.refl _ _ | refine bthen ?_ (by assumption) | apply Below.drew))))).mono ?_
      rintro e x4 ⟨rfl, hx4⟩
      refine hK.out _ _ (keepS (by assumption) hx4) (fun hNew => ?_)
      clear hK K hHeld
      have hHeld := hNew
      clear hNew
      try simp only [Act.put, List.setIfInBounds_toArray, List.set_cons_zero, List.set_cons_succ, List.getElem_toArray, List.getElem_cons_zero, List.getElem_cons_succ]
      refine wpAnyH_take (i := 20) (v := .bool true) rfl (by kernel_rfl) (by kernel_rfl) (by kernel_rfl) (fun _ _ _ h => h) (Or.inl ⟨by rfl, ?_⟩) (by assumption) ?_
      · intro wx hSw; go_simp <;> first | omega | (exact IntWalk.i64_in _ (by omega)) | go_num
      try simp only [Act.put, List.setIfInBounds_toArray, List.set_cons_zero, List.set_cons_succ, List.getElem_toArray, List.getElem_cons_zero, List.getElem_cons_succ]
      refine wpAnyH_take (i := 21) (v := .bool true) rfl (by kernel_rfl) (by kernel_rfl) (by kernel_rfl) (fun _ _ _ h => h) (Or.inl ⟨by rfl, ?_⟩) (by assumption) ?_
      · intro wx hSw; go_simp
      try simp only [Act.put, List.setIfInBounds_toArray, List.set_cons_zero, List.set_cons_succ, List.getElem_toArray, List.getElem_cons_zero, List.getElem_cons_succ]
      refine wpAnyH_done (by kernel_rfl) ?_ _
      clear hHeld
      clear yT0 yT1 hlT yK0 hlK
      have hb4 : Below w3.heap.size w3 x4 := by repeat (first | exact Below.refl _ _ | refine bthen ?_ (by assumption) | apply Below.drew)
      clear c0 c1 c2 c3 c4 c5 c6 c7 c8 c9 lb
      have B50 : Hid (Below w.heap.size w x4) := bthen B49.out hb4
      have M50 : Hid (Bk x4 w.heap.size [.int .i64 c, .int .i64 d]) := M49.out.below hb4
      have K50 : Hid (Bk x4 (w.heap.size + 1) [.slice (some ⟨b, o, none⟩) n cap]) := K49.out.below hb4
      have T50 : Hid (Bk x4 (w.heap.size + 1 + 1) [.slice aS TT.nS kS, .slice aA TT.nA kA]) := T49.out.below hb4
      have R50 : Hid (Bk x4 (w.heap.size + 1 + 1 + 1) [.int .i64 0, .int .i64 0, .int .i64 0, .int .i64 0, .int .i64 0, .int .i64 0, .int .i64 0, .int .i64 0, .int .i64 0, .int .i64 0, .int .i64 0, .int .i64 0, .int .i64 0, .int .i64 0, .int .i64 0, .int .i64 0, .int .i64 0, .int .i64 0, .int .i64 0, .int .i64 0, .int .i64 0, .int .i64 0, .int .i64 0, .int .i64 0, .int .i64 0]) := R49.out.below hb4
      clear B49 M49 K49 T49 R49
      clear hb4 hx4
      clear he
      go_wp2
      rw [store62_bk (R50.out) rfl _ rfl (by kernel_rfl)]
      obtain ⟨w9, e9⟩ : ∃ y, y = putL (w.heap.size + 1 + 1 + 1) ((#[.int .i64 0, .int .i64 0, .int .i64 0, .int .i64 0, .int .i64 0, .int .i64 0, .int .i64 0, .int .i64 0, .int .i64 0, .int .i64 0, .int .i64 0, .int .i64 0, .int .i64 0, .int .i64 0, .int .i64 0, .int .i64 0, .int .i64 0, .int .i64 0, .int .i64 0, .int .i64 0, .int .i64 0, .int .i64 0, .int .i64 0, .int .i64 0, .int .i64 0] : Array Value).toList) 0 x4 := ⟨_, rfl⟩
      have R9 : Hid (Bk w9 (w.heap.size + 1 + 1 + 1) [.int .i64 0, .int .i64 0, .int .i64 0, .int .i64 0, .int .i64 0, .int .i64 0, .int .i64 0, .int .i64 0, .int .i64 0, .int .i64 0, .int .i64 0, .int .i64 0, .int .i64 0, .int .i64 0, .int .i64 0, .int .i64 0, .int .i64 0, .int .i64 0, .int .i64 0, .int .i64 0, .int .i64 0, .int .i64 0, .int .i64 0, .int .i64 0, .int .i64 0]) := by unfold Hid; rw [e9]; exact bk_put (R50.out) rfl
      have B9 : Hid (Below w.heap.size w w9) := by unfold Hid; rw [e9]; exact below_put (by omega) _ _ (B50.out)
      rw [← e9]
      clear e9
      go_wp2
      have hr := fun tmps hp hq => results_mid2 (P := Try.prog) (fn := Try.f24) Try.results24 tmps w9 (w.heap.size + 1 + 1 + 1) [.int .i64 0, .int .i64 0, .int .i64 0, .int .i64 0, .int .i64 0, .int .i64 0, .int .i64 0, .int .i64 0, .int .i64 0, .int .i64 0, .int .i64 0, .int .i64 0, .int .i64 0, .int .i64 0, .int .i64 0, .int .i64 0, .int .i64 0, .int .i64 0, .int .i64 0, .int .i64 0, .int .i64 0, .int .i64 0, .int .i64 0, .int .i64 0, .int .i64 0] _ (.bool false) hp hq (Bk.range R9.out) Try.underlying62 rfl (by kernel_rfl)
      exact bodyPost_ret (v := .tuple #[.agg #[.int .i64 0, .int .i64 0, .int .i64 0, .int .i64 0, .int .i64 0, .int .i64 0, .int .i64 0, .int .i64 0, .int .i64 0, .int .i64 0, .int .i64 0, .int .i64 0, .int .i64 0, .int .i64 0, .int .i64 0, .int .i64 0, .int .i64 0, .int .i64 0, .int .i64 0, .int .i64 0, .int .i64 0, .int .i64 0, .int .i64 0, .int .i64 0, .int .i64 0], .bool false]) (hr _ rfl rfl) rfl ⟨rfl, B9.out⟩
end Go.Proofs.Ytgjapdjidighlaa
