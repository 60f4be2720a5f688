/- GwyHear of the program; conditions: those typed. -/
import Derived.Test.YtgjapdjidighlabGreatGH3
import Derived.Test.YtgjapdjidighlabGreatMsg7
namespace Go.Proofs.YtgjapdjidighlabGreat
open Go.RowKit Go.Deep
set_option linter.unusedVariables false
def ghN (c d sv : Int) (n : Nat) (Z : Nat → Nat → Int) (k : Int) (x : Nat → Int) : Nat := if bookB c d n Z = true ∧ msgB c d sv k x = true then n else 0
def ghB (c d sv : Int) (n : Nat) (Z : Nat → Nat → Int) (k : Int) (x : Nat → Int) : Bool := bookB c d n Z && (msgB c d sv k x && (heardR c n Z k x).2)
theorem msg_who {c d sv k : Int} {x : Nat → Int} (h : msgB c d sv k x = true) (hk : k = 3 ∨ k = 4) : 1 ≤ x 5 ∧ x 5 ≤ 9 := by
  simp only [msgB, Bool.and_eq_true] at h
  have hm := h.2.2.2.2.2
  rcases hk with rfl | rfl
  · simp only [kindM, if_neg (show ¬ (3 : Int) = 1 by decide), if_neg (show ¬ (3 : Int) = 2 by decide), if_true, Bool.and_eq_true, ordB, inB, decide_eq_true_eq] at hm
    exact hm.2.2.1.1
  · simp only [kindM, if_neg (show ¬ (4 : Int) = 1 by decide), if_neg (show ¬ (4 : Int) = 2 by decide), if_neg (show ¬ (4 : Int) = 3 by decide), if_true, Bool.and_eq_true, ordB, inB, decide_eq_true_eq] at hm
    exact hm.2.2.1.1
theorem msg_cells {c d sv k : Int} {x : Nat → Int} (h : msgB c d sv k x = true) : (c = 2 ∨ c = 3 ∨ c = 4) ∧ (x 2 = 0 ∨ x 2 = 1 ∨ x 2 = 2 ∨ x 2 = 3) ∧ 0 ≤ x 2 ∧ x 2 ≤ c - 1 := by
  simp only [msgB, okB, inB, Bool.and_eq_true, decide_eq_true_eq] at h
  obtain ⟨⟨h1, _⟩, _, h2, _⟩ := h
  omega
theorem msg_wf {c d sv k : Int} {x : Nat → Int} (h : msgB c d sv k x = true) (hk : k = 3 ∨ k = 4) : (Lit.int .i64 (x 5)).wf = true := by
  have := msg_who h hk
  simp [Lit.wf, IntKind.min, IntKind.max, IntKind.bits, IntKind.signed]
  omega
theorem hear_any (lo mb n : Nat) (Bs : Nat → Nat) (Z : Nat → Nat → Int) (c d sv k : Int) (x : Nat → Int) (hk : bookB c d n Z = true) (hm : msgB c d sv k x = true) (w : World) (hlo : lo ≤ w.heap.size) (h : Op lo w mb n (fun k => Z k 0) Bs Z) :
    Calls Tryz.prog 25 #[.map (some mb), .agg #[.int .i64 c, .int .i64 d], .agg #[.int .i64 k, .int .i64 (x 1), .int .i64 (x 2), .int .i64 (x 3), .int .i64 (x 4), .int .i64 (x 5), .int .i64 (x 6), .int .i64 (x 7), .int .i64 (x 8), .int .i64 (x 9), .int .i64 (x 10), .int .i64 (x 11), .int .i64 (x 12), .int .i64 (x 13), .int .i64 (x 14), .int .i64 (x 15), .int .i64 (x 16), .int .i64 (x 17), .int .i64 (x 18), .int .i64 (x 19), .int .i64 (x 20), .int .i64 (x 21), .int .i64 (x 22), .int .i64 (x 23), .int .i64 (x 24)]] w fun e w' => e = .returned (.bool (heardR c n Z k x).2) ∧ Op lo w' mb n (fun k => Z k 0) Bs (heardR c n Z k x).1 ∧ Below lo w w' ∧ w.heap.size ≤ w'.heap.size := by
  by_cases k3 : k = 3
  · subst k3
    cases hs : seek n Z (x 5) with
    | none =>
      have hr : heardR c n Z 3 x = (Z, false) := by simp [heardR, hs]
      rw [hr]
      exact hear3_none lo mb n Bs Z c d x (msg_wf hm (.inl rfl)) (seek_none hs) w hlo h
    | some i =>
      obtain ⟨hi, hz, _⟩ := seek_some hs
      cases he : eq5 (Z i) x
      · have hr : heardR c n Z 3 x = (Z, false) := by simp [heardR, hs, he]
        rw [hr]
        exact hear3_ne lo mb n Bs Z c d x (msg_wf hm (.inl rfl)) i hi hz (book_rise hk) he w hlo h
      · have hr : heardR c n Z 3 x = (tellZ Z i (x 2) (x 6) (x 4), true) := by simp [heardR, hs, he]
        rw [hr]
        exact hear3_eq lo mb n Bs Z c d x (msg_wf hm (.inl rfl)) i hi hz (book_rise hk) he w hlo h
  by_cases k4 : k = 4
  · subst k4
    cases hs : seek n Z (x 5) with
    | none =>
      have hr : heardR c n Z 4 x = (Z, false) := by simp [heardR, hs]
      rw [hr]
      exact hear4_none lo mb n Bs Z c d x (msg_wf hm (.inr rfl)) (seek_none hs) w hlo h
    | some i =>
      obtain ⟨hi, hz, _⟩ := seek_some hs
      cases he : eq5 (Z i) x
      · have hr : heardR c n Z 4 x = (Z, false) := by simp [heardR, hs, he]
        rw [hr]
        exact hear4_ne lo mb n Bs Z c d x (msg_wf hm (.inr rfl)) i hi hz (book_rise hk) he w hlo h
      · have hr : heardR c n Z 4 x = (awayZ c Z i (x 2), false) := by simp [heardR, hs, he]
        rw [hr]
        exact hear4_eq lo mb n Bs Z c d x (msg_wf hm (.inr rfl)) i hi hz (book_rise hk) he (msg_cells hm).1 (msg_cells hm).2.1 w hlo h
  have hr : heardR c n Z k x = (Z, false) := by simp [heardR, k3, k4]
  rw [hr]
  by_cases k1 : k = 1
  · subst k1; exact hear1 lo mb n Bs Z c d x w hlo h
  by_cases k2 : k = 2
  · subst k2; exact hear2 lo mb n Bs Z c d x w hlo h
  by_cases k5 : k = 5
  · subst k5; exact hear5 lo mb n Bs Z c d x w hlo h
  by_cases k6 : k = 6
  · subst k6; exact hear6 lo mb n Bs Z c d x w hlo h
  by_cases k7 : k = 7
  · subst k7; exact hear7 lo mb n Bs Z c d x w hlo h
  exact hear0 lo mb n Bs Z c d x k (by simpa using k1) (by simpa using k2) (by simpa using k3) (by simpa using k4) (by simpa using k5) (by simpa using k6) (by simpa using k7) w hlo h
attribute [local go_sem ↓] load44_eq
attribute [local go_sem] run_load44 cellD
set_option maxRecDepth 20000 in
set_option maxHeartbeats 4000000 in
theorem hear_impl (c d : Int) (a : Option Addr) (n cap : Nat) (Z : Nat → Nat → Int) (sv k : Int) (x : Nat → Int) (hn : n ≤ 1048576) (w : World) (h : P10.RowK w a n Z) :
    Calls Tryz.prog 9 #[.agg #[.int .i64 c, .int .i64 d], .agg #[.slice a n cap], .int .i64 sv, .agg #[.int .i64 k, .int .i64 (x 1), .int .i64 (x 2), .int .i64 (x 3), .int .i64 (x 4), .int .i64 (x 5), .int .i64 (x 6), .int .i64 (x 7), .int .i64 (x 8), .int .i64 (x 9), .int .i64 (x 10), .int .i64 (x 11), .int .i64 (x 12), .int .i64 (x 13), .int .i64 (x 14), .int .i64 (x 15), .int .i64 (x 16), .int .i64 (x 17), .int .i64 (x 18), .int .i64 (x 19), .int .i64 (x 20), .int .i64 (x 21), .int .i64 (x 22), .int .i64 (x 23), .int .i64 (x 24)]] w fun e w' => (∃ v, e = .returned (.tuple #[.agg #[v], .bool (ghB c d sv n Z k x)]) ∧ P10.RL w.heap.size w'.heap.size w' v (ghN c d sv n Z k x) (heardR c n Z k x).1) ∧ Below w.heap.size w w' := by
  have HR : Hid (P10.RowK w a n Z) := h
  clear h
  cases hk : bookB c d n Z
  · have hv : ghN c d sv n Z k x = 0 := by simp [ghN, hk]
    have hb : ghB c d sv n Z k x = false := by simp [ghB, hk]
    rw [hv, hb]
    clear hv hb
    go_enter Tryz.func9, Tryz.ntmps9
    go_upto_region 1 with fail
    obtain ⟨w0, e0⟩ : ∃ w0, w0 = ((((w.alloc (.cells #[.int .i64 c, .int .i64 d] 43)).alloc (.cells #[.slice a n cap] 40)).alloc (.cells #[.int .i64 k, .int .i64 (x 1), .int .i64 (x 2), .int .i64 (x 3), .int .i64 (x 4), .int .i64 (x 5), .int .i64 (x 6), .int .i64 (x 7), .int .i64 (x 8), .int .i64 (x 9), .int .i64 (x 10), .int .i64 (x 11), .int .i64 (x 12), .int .i64 (x 13), .int .i64 (x 14), .int .i64 (x 15), .int .i64 (x 16), .int .i64 (x 17), .int .i64 (x 18), .int .i64 (x 19), .int .i64 (x 20), .int .i64 (x 21), .int .i64 (x 22), .int .i64 (x 23), .int .i64 (x 24)] 53)).alloc (.cells #[.slice none 0 0] 40)) := ⟨_, rfl⟩
    have B1 : Hid (Below w.heap.size w w0) := by rw [e0]; exact ((((Below.refl _ _).alloc (by simp) _).alloc (by simp) _).alloc (by simp; omega) _).alloc (by simp; omega) _
    have M2 : Hid (Bk w0 w.heap.size [.int .i64 c, .int .i64 d]) := by rw [e0]; exact (((bk_new w 43 [.int .i64 c, .int .i64 d]).below ((Below.refl _ _).alloc (Nat.le_refl _) _)).below ((Below.refl _ _).alloc (Nat.le_refl _) _)).below ((Below.refl _ _).alloc (Nat.le_refl _) _)
    have K3 : Hid (Bk w0 (w.heap.size + 1) [.slice a n cap]) := by rw [e0]; have := ((bk_new (w.alloc (.cells #[.int .i64 c, .int .i64 d] 43)) 40 [.slice a n cap]).below ((Below.refl _ _).alloc (Nat.le_refl _) (.cells #[.int .i64 k, .int .i64 (x 1), .int .i64 (x 2), .int .i64 (x 3), .int .i64 (x 4), .int .i64 (x 5), .int .i64 (x 6), .int .i64 (x 7), .int .i64 (x 8), .int .i64 (x 9), .int .i64 (x 10), .int .i64 (x 11), .int .i64 (x 12), .int .i64 (x 13), .int .i64 (x 14), .int .i64 (x 15), .int .i64 (x 16), .int .i64 (x 17), .int .i64 (x 18), .int .i64 (x 19), .int .i64 (x 20), .int .i64 (x 21), .int .i64 (x 22), .int .i64 (x 23), .int .i64 (x 24)] 53))).below ((Below.refl _ _).alloc (Nat.le_refl _) (.cells #[.slice none 0 0] 40)); rwa [show (w.alloc (.cells #[.int .i64 c, .int .i64 d] 43)).heap.size = w.heap.size + 1 by simp] at this
    have X4 : Hid (Bk w0 (w.heap.size + 1 + 1) [.int .i64 k, .int .i64 (x 1), .int .i64 (x 2), .int .i64 (x 3), .int .i64 (x 4), .int .i64 (x 5), .int .i64 (x 6), .int .i64 (x 7), .int .i64 (x 8), .int .i64 (x 9), .int .i64 (x 10), .int .i64 (x 11), .int .i64 (x 12), .int .i64 (x 13), .int .i64 (x 14), .int .i64 (x 15), .int .i64 (x 16), .int .i64 (x 17), .int .i64 (x 18), .int .i64 (x 19), .int .i64 (x 20), .int .i64 (x 21), .int .i64 (x 22), .int .i64 (x 23), .int .i64 (x 24)]) := by rw [e0]; have := (bk_new ((w.alloc (.cells #[.int .i64 c, .int .i64 d] 43)).alloc (.cells #[.slice a n cap] 40)) 53 [.int .i64 k, .int .i64 (x 1), .int .i64 (x 2), .int .i64 (x 3), .int .i64 (x 4), .int .i64 (x 5), .int .i64 (x 6), .int .i64 (x 7), .int .i64 (x 8), .int .i64 (x 9), .int .i64 (x 10), .int .i64 (x 11), .int .i64 (x 12), .int .i64 (x 13), .int .i64 (x 14), .int .i64 (x 15), .int .i64 (x 16), .int .i64 (x 17), .int .i64 (x 18), .int .i64 (x 19), .int .i64 (x 20), .int .i64 (x 21), .int .i64 (x 22), .int .i64 (x 23), .int .i64 (x 24)]).below ((Below.refl _ _).alloc (Nat.le_refl _) (.cells #[.slice none 0 0] 40)); rwa [show ((w.alloc (.cells #[.int .i64 c, .int .i64 d] 43)).alloc (.cells #[.slice a n cap] 40)).heap.size = w.heap.size + 1 + 1 by simp] at this
    have R5 : Hid (Bk w0 (w.heap.size + 1 + 1 + 1) [.slice none 0 0]) := by rw [e0]; have := bk_new (((w.alloc (.cells #[.int .i64 c, .int .i64 d] 43)).alloc (.cells #[.slice a n cap] 40)).alloc (.cells #[.int .i64 k, .int .i64 (x 1), .int .i64 (x 2), .int .i64 (x 3), .int .i64 (x 4), .int .i64 (x 5), .int .i64 (x 6), .int .i64 (x 7), .int .i64 (x 8), .int .i64 (x 9), .int .i64 (x 10), .int .i64 (x 11), .int .i64 (x 12), .int .i64 (x 13), .int .i64 (x 14), .int .i64 (x 15), .int .i64 (x 16), .int .i64 (x 17), .int .i64 (x 18), .int .i64 (x 19), .int .i64 (x 20), .int .i64 (x 21), .int .i64 (x 22), .int .i64 (x 23), .int .i64 (x 24)] 53)) 40 [.slice none 0 0]; rwa [show (((w.alloc (.cells #[.int .i64 c, .int .i64 d] 43)).alloc (.cells #[.slice a n cap] 40)).alloc (.cells #[.int .i64 k, .int .i64 (x 1), .int .i64 (x 2), .int .i64 (x 3), .int .i64 (x 4), .int .i64 (x 5), .int .i64 (x 6), .int .i64 (x 7), .int .i64 (x 8), .int .i64 (x 9), .int .i64 (x 10), .int .i64 (x 11), .int .i64 (x 12), .int .i64 (x 13), .int .i64 (x 14), .int .i64 (x 15), .int .i64 (x 16), .int .i64 (x 17), .int .i64 (x 18), .int .i64 (x 19), .int .i64 (x 20), .int .i64 (x 21), .int .i64 (x 22), .int .i64 (x 23), .int .i64 (x 24)] 53)).heap.size = w.heap.size + 1 + 1 + 1 by simp] at this
    rw [← e0]
    clear e0
    obtain ⟨yM0, yM1⟩ := M2.out.a2
    have hlM : w.heap.size < w0.heap.size := M2.out.1
    have yK0 := K3.out.a1
    have hlK : (w.heap.size + 1) < w0.heap.size := K3.out.1
    go_wp2_with fail
    refine (book_impl c d a n cap Z hn _ (P10.row_below HR.out B1.out)).mono ?_
    rintro e w1 ⟨rfl, hb1⟩
    clear yM0 yM1 hlM yK0 hlK
    have B6 := hid (bthen B1.out hb1)
    have M6 := hid (M2.out.below hb1)
    have K6 := hid (K3.out.below hb1)
    have X6 := hid (X4.out.below hb1)
    have R6 := hid (R5.out.below hb1)
    clear B1 M2 K3 X4 R5
    clear hb1
    rw [hk]
    have yR0 := R6.out.a1
    have zR0 := R6.out.f1
    have hlR : (w.heap.size + 1 + 1 + 1) < w1.heap.size := R6.out.1
    go_wp2
    refine bodyPost_ret (v := .tuple #[.agg #[.slice none 0 0], .bool false]) (by simp [results, Tryz.results9, go_sem, *]) rfl ?_
    exact ⟨⟨_, rfl, .inl ⟨rfl, none, 0, rfl⟩⟩, B6.out.setCell (by show w.heap.size ≤ w.heap.size + 1 + 1 + 1; omega) _⟩
  cases hm : msgB c d sv k x
  · have hv : ghN c d sv n Z k x = 0 := by simp [ghN, hm]
    have hb : ghB c d sv n Z k x = false := by simp [ghB, hm]
    rw [hv, hb]
    clear hv hb
    go_enter Tryz.func9, Tryz.ntmps9
    go_upto_region 1 with fail
    obtain ⟨w0, e0⟩ : ∃ w0, w0 = ((((w.alloc (.cells #[.int .i64 c, .int .i64 d] 43)).alloc (.cells #[.slice a n cap] 40)).alloc (.cells #[.int .i64 k, .int .i64 (x 1), .int .i64 (x 2), .int .i64 (x 3), .int .i64 (x 4), .int .i64 (x 5), .int .i64 (x 6), .int .i64 (x 7), .int .i64 (x 8), .int .i64 (x 9), .int .i64 (x 10), .int .i64 (x 11), .int .i64 (x 12), .int .i64 (x 13), .int .i64 (x 14), .int .i64 (x 15), .int .i64 (x 16), .int .i64 (x 17), .int .i64 (x 18), .int .i64 (x 19), .int .i64 (x 20), .int .i64 (x 21), .int .i64 (x 22), .int .i64 (x 23), .int .i64 (x 24)] 53)).alloc (.cells #[.slice none 0 0] 40)) := ⟨_, rfl⟩
    have B7 : Hid (Below w.heap.size w w0) := by rw [e0]; exact ((((Below.refl _ _).alloc (by simp) _).alloc (by simp) _).alloc (by simp; omega) _).alloc (by simp; omega) _
    have M8 : Hid (Bk w0 w.heap.size [.int .i64 c, .int .i64 d]) := by rw [e0]; exact (((bk_new w 43 [.int .i64 c, .int .i64 d]).below ((Below.refl _ _).alloc (Nat.le_refl _) _)).below ((Below.refl _ _).alloc (Nat.le_refl _) _)).below ((Below.refl _ _).alloc (Nat.le_refl _) _)
    have K9 : Hid (Bk w0 (w.heap.size + 1) [.slice a n cap]) := by rw [e0]; have := ((bk_new (w.alloc (.cells #[.int .i64 c, .int .i64 d] 43)) 40 [.slice a n cap]).below ((Below.refl _ _).alloc (Nat.le_refl _) (.cells #[.int .i64 k, .int .i64 (x 1), .int .i64 (x 2), .int .i64 (x 3), .int .i64 (x 4), .int .i64 (x 5), .int .i64 (x 6), .int .i64 (x 7), .int .i64 (x 8), .int .i64 (x 9), .int .i64 (x 10), .int .i64 (x 11), .int .i64 (x 12), .int .i64 (x 13), .int .i64 (x 14), .int .i64 (x 15), .int .i64 (x 16), .int .i64 (x 17), .int .i64 (x 18), .int .i64 (x 19), .int .i64 (x 20), .int .i64 (x 21), .int .i64 (x 22), .int .i64 (x 23), .int .i64 (x 24)] 53))).below ((Below.refl _ _).alloc (Nat.le_refl _) (.cells #[.slice none 0 0] 40)); rwa [show (w.alloc (.cells #[.int .i64 c, .int .i64 d] 43)).heap.size = w.heap.size + 1 by simp] at this
    have X10 : Hid (Bk w0 (w.heap.size + 1 + 1) [.int .i64 k, .int .i64 (x 1), .int .i64 (x 2), .int .i64 (x 3), .int .i64 (x 4), .int .i64 (x 5), .int .i64 (x 6), .int .i64 (x 7), .int .i64 (x 8), .int .i64 (x 9), .int .i64 (x 10), .int .i64 (x 11), .int .i64 (x 12), .int .i64 (x 13), .int .i64 (x 14), .int .i64 (x 15), .int .i64 (x 16), .int .i64 (x 17), .int .i64 (x 18), .int .i64 (x 19), .int .i64 (x 20), .int .i64 (x 21), .int .i64 (x 22), .int .i64 (x 23), .int .i64 (x 24)]) := by rw [e0]; have := (bk_new ((w.alloc (.cells #[.int .i64 c, .int .i64 d] 43)).alloc (.cells #[.slice a n cap] 40)) 53 [.int .i64 k, .int .i64 (x 1), .int .i64 (x 2), .int .i64 (x 3), .int .i64 (x 4), .int .i64 (x 5), .int .i64 (x 6), .int .i64 (x 7), .int .i64 (x 8), .int .i64 (x 9), .int .i64 (x 10), .int .i64 (x 11), .int .i64 (x 12), .int .i64 (x 13), .int .i64 (x 14), .int .i64 (x 15), .int .i64 (x 16), .int .i64 (x 17), .int .i64 (x 18), .int .i64 (x 19), .int .i64 (x 20), .int .i64 (x 21), .int .i64 (x 22), .int .i64 (x 23), .int .i64 (x 24)]).below ((Below.refl _ _).alloc (Nat.le_refl _) (.cells #[.slice none 0 0] 40)); rwa [show ((w.alloc (.cells #[.int .i64 c, .int .i64 d] 43)).alloc (.cells #[.slice a n cap] 40)).heap.size = w.heap.size + 1 + 1 by simp] at this
    have R11 : Hid (Bk w0 (w.heap.size + 1 + 1 + 1) [.slice none 0 0]) := by rw [e0]; have := bk_new (((w.alloc (.cells #[.int .i64 c, .int .i64 d] 43)).alloc (.cells #[.slice a n cap] 40)).alloc (.cells #[.int .i64 k, .int .i64 (x 1), .int .i64 (x 2), .int .i64 (x 3), .int .i64 (x 4), .int .i64 (x 5), .int .i64 (x 6), .int .i64 (x 7), .int .i64 (x 8), .int .i64 (x 9), .int .i64 (x 10), .int .i64 (x 11), .int .i64 (x 12), .int .i64 (x 13), .int .i64 (x 14), .int .i64 (x 15), .int .i64 (x 16), .int .i64 (x 17), .int .i64 (x 18), .int .i64 (x 19), .int .i64 (x 20), .int .i64 (x 21), .int .i64 (x 22), .int .i64 (x 23), .int .i64 (x 24)] 53)) 40 [.slice none 0 0]; rwa [show (((w.alloc (.cells #[.int .i64 c, .int .i64 d] 43)).alloc (.cells #[.slice a n cap] 40)).alloc (.cells #[.int .i64 k, .int .i64 (x 1), .int .i64 (x 2), .int .i64 (x 3), .int .i64 (x 4), .int .i64 (x 5), .int .i64 (x 6), .int .i64 (x 7), .int .i64 (x 8), .int .i64 (x 9), .int .i64 (x 10), .int .i64 (x 11), .int .i64 (x 12), .int .i64 (x 13), .int .i64 (x 14), .int .i64 (x 15), .int .i64 (x 16), .int .i64 (x 17), .int .i64 (x 18), .int .i64 (x 19), .int .i64 (x 20), .int .i64 (x 21), .int .i64 (x 22), .int .i64 (x 23), .int .i64 (x 24)] 53)).heap.size = w.heap.size + 1 + 1 + 1 by simp] at this
    rw [← e0]
    clear e0
    obtain ⟨yM0, yM1⟩ := M8.out.a2
    have hlM : w.heap.size < w0.heap.size := M8.out.1
    have yK0 := K9.out.a1
    have hlK : (w.heap.size + 1) < w0.heap.size := K9.out.1
    go_wp2_with fail
    refine (book_impl c d a n cap Z hn _ (P10.row_below HR.out B7.out)).mono ?_
    rintro e w1 ⟨rfl, hb1⟩
    clear yM0 yM1 hlM yK0 hlK
    have B12 := hid (bthen B7.out hb1)
    have M12 := hid (M8.out.below hb1)
    have K12 := hid (K9.out.below hb1)
    have X12 := hid (X10.out.below hb1)
    have R12 := hid (R11.out.below hb1)
    clear B7 M8 K9 X10 R11
    clear hb1
    rw [hk]
    obtain ⟨yM0, yM1⟩ := M12.out.a2
    have hlM : w.heap.size < w1.heap.size := M12.out.1
    obtain ⟨yX0, yX1, yX2, yX3, yX4, yX5, yX6, yX7, yX8, yX9, yX10, yX11, yX12, yX13, yX14, yX15, yX16, yX17, yX18, yX19, yX20, yX21, yX22, yX23, yX24⟩ := X12.out.a25
    have hlX : (w.heap.size + 1 + 1) < w1.heap.size := X12.out.1
    go_wp2_with fail
    refine (msgOk_impl c d sv k x _).mono ?_
    rintro e w2 ⟨rfl, hb2⟩
    clear yM0 yM1 hlM yX0 yX1 yX2 yX3 yX4 yX5 yX6 yX7 yX8 yX9 yX10 yX11 yX12 yX13 yX14 yX15 yX16 yX17 yX18 yX19 yX20 yX21 yX22 yX23 yX24 hlX
    have B13 := hid (bthen B12.out hb2)
    have M13 := hid (M12.out.below hb2)
    have K13 := hid (K12.out.below hb2)
    have X13 := hid (X12.out.below hb2)
    have R13 := hid (R12.out.below hb2)
    clear B12 M12 K12 X12 R12
    clear hb2
    rw [hm]
    have yR0 := R13.out.a1
    have zR0 := R13.out.f1
    have hlR : (w.heap.size + 1 + 1 + 1) < w2.heap.size := R13.out.1
    go_wp2
    refine bodyPost_ret (v := .tuple #[.agg #[.slice none 0 0], .bool false]) (by simp [results, Tryz.results9, go_sem, *]) rfl ?_
    exact ⟨⟨_, rfl, .inl ⟨rfl, none, 0, rfl⟩⟩, B13.out.setCell (by show w.heap.size ≤ w.heap.size + 1 + 1 + 1; omega) _⟩
  · have hv : ghN c d sv n Z k x = n := by simp [ghN, hk, hm]
    have hb : ghB c d sv n Z k x = (heardR c n Z k x).2 := by simp [ghB, hk, hm]
    rw [hv, hb]
    clear hv hb
    obtain ⟨Y, eY⟩ : ∃ Y, Y = (heardR c n Z k x).1 := ⟨_, rfl⟩
    obtain ⟨q, eq⟩ : ∃ q, q = (heardR c n Z k x).2 := ⟨_, rfl⟩
    have EY : Hid (Y = (heardR c n Z k x).1) := eY
    have EQ : Hid (q = (heardR c n Z k x).2) := eq
    rw [← eY, ← eq]
    clear eY eq
    go_enter Tryz.func9, Tryz.ntmps9
    go_upto_region 1 with fail
    obtain ⟨w0, e0⟩ : ∃ w0, w0 = ((((w.alloc (.cells #[.int .i64 c, .int .i64 d] 43)).alloc (.cells #[.slice a n cap] 40)).alloc (.cells #[.int .i64 k, .int .i64 (x 1), .int .i64 (x 2), .int .i64 (x 3), .int .i64 (x 4), .int .i64 (x 5), .int .i64 (x 6), .int .i64 (x 7), .int .i64 (x 8), .int .i64 (x 9), .int .i64 (x 10), .int .i64 (x 11), .int .i64 (x 12), .int .i64 (x 13), .int .i64 (x 14), .int .i64 (x 15), .int .i64 (x 16), .int .i64 (x 17), .int .i64 (x 18), .int .i64 (x 19), .int .i64 (x 20), .int .i64 (x 21), .int .i64 (x 22), .int .i64 (x 23), .int .i64 (x 24)] 53)).alloc (.cells #[.slice none 0 0] 40)) := ⟨_, rfl⟩
    have B14 : Hid (Below w.heap.size w w0) := by rw [e0]; exact ((((Below.refl _ _).alloc (by simp) _).alloc (by simp) _).alloc (by simp; omega) _).alloc (by simp; omega) _
    have M15 : Hid (Bk w0 w.heap.size [.int .i64 c, .int .i64 d]) := by rw [e0]; exact (((bk_new w 43 [.int .i64 c, .int .i64 d]).below ((Below.refl _ _).alloc (Nat.le_refl _) _)).below ((Below.refl _ _).alloc (Nat.le_refl _) _)).below ((Below.refl _ _).alloc (Nat.le_refl _) _)
    have K16 : Hid (Bk w0 (w.heap.size + 1) [.slice a n cap]) := by rw [e0]; have := ((bk_new (w.alloc (.cells #[.int .i64 c, .int .i64 d] 43)) 40 [.slice a n cap]).below ((Below.refl _ _).alloc (Nat.le_refl _) (.cells #[.int .i64 k, .int .i64 (x 1), .int .i64 (x 2), .int .i64 (x 3), .int .i64 (x 4), .int .i64 (x 5), .int .i64 (x 6), .int .i64 (x 7), .int .i64 (x 8), .int .i64 (x 9), .int .i64 (x 10), .int .i64 (x 11), .int .i64 (x 12), .int .i64 (x 13), .int .i64 (x 14), .int .i64 (x 15), .int .i64 (x 16), .int .i64 (x 17), .int .i64 (x 18), .int .i64 (x 19), .int .i64 (x 20), .int .i64 (x 21), .int .i64 (x 22), .int .i64 (x 23), .int .i64 (x 24)] 53))).below ((Below.refl _ _).alloc (Nat.le_refl _) (.cells #[.slice none 0 0] 40)); rwa [show (w.alloc (.cells #[.int .i64 c, .int .i64 d] 43)).heap.size = w.heap.size + 1 by simp] at this
    have X17 : Hid (Bk w0 (w.heap.size + 1 + 1) [.int .i64 k, .int .i64 (x 1), .int .i64 (x 2), .int .i64 (x 3), .int .i64 (x 4), .int .i64 (x 5), .int .i64 (x 6), .int .i64 (x 7), .int .i64 (x 8), .int .i64 (x 9), .int .i64 (x 10), .int .i64 (x 11), .int .i64 (x 12), .int .i64 (x 13), .int .i64 (x 14), .int .i64 (x 15), .int .i64 (x 16), .int .i64 (x 17), .int .i64 (x 18), .int .i64 (x 19), .int .i64 (x 20), .int .i64 (x 21), .int .i64 (x 22), .int .i64 (x 23), .int .i64 (x 24)]) := by rw [e0]; have := (bk_new ((w.alloc (.cells #[.int .i64 c, .int .i64 d] 43)).alloc (.cells #[.slice a n cap] 40)) 53 [.int .i64 k, .int .i64 (x 1), .int .i64 (x 2), .int .i64 (x 3), .int .i64 (x 4), .int .i64 (x 5), .int .i64 (x 6), .int .i64 (x 7), .int .i64 (x 8), .int .i64 (x 9), .int .i64 (x 10), .int .i64 (x 11), .int .i64 (x 12), .int .i64 (x 13), .int .i64 (x 14), .int .i64 (x 15), .int .i64 (x 16), .int .i64 (x 17), .int .i64 (x 18), .int .i64 (x 19), .int .i64 (x 20), .int .i64 (x 21), .int .i64 (x 22), .int .i64 (x 23), .int .i64 (x 24)]).below ((Below.refl _ _).alloc (Nat.le_refl _) (.cells #[.slice none 0 0] 40)); rwa [show ((w.alloc (.cells #[.int .i64 c, .int .i64 d] 43)).alloc (.cells #[.slice a n cap] 40)).heap.size = w.heap.size + 1 + 1 by simp] at this
    have R18 : Hid (Bk w0 (w.heap.size + 1 + 1 + 1) [.slice none 0 0]) := by rw [e0]; have := bk_new (((w.alloc (.cells #[.int .i64 c, .int .i64 d] 43)).alloc (.cells #[.slice a n cap] 40)).alloc (.cells #[.int .i64 k, .int .i64 (x 1), .int .i64 (x 2), .int .i64 (x 3), .int .i64 (x 4), .int .i64 (x 5), .int .i64 (x 6), .int .i64 (x 7), .int .i64 (x 8), .int .i64 (x 9), .int .i64 (x 10), .int .i64 (x 11), .int .i64 (x 12), .int .i64 (x 13), .int .i64 (x 14), .int .i64 (x 15), .int .i64 (x 16), .int .i64 (x 17), .int .i64 (x 18), .int .i64 (x 19), .int .i64 (x 20), .int .i64 (x 21), .int .i64 (x 22), .int .i64 (x 23), .int .i64 (x 24)] 53)) 40 [.slice none 0 0]; rwa [show (((w.alloc (.cells #[.int .i64 c, .int .i64 d] 43)).alloc (.cells #[.slice a n cap] 40)).alloc (.cells #[.int .i64 k, .int .i64 (x 1), .int .i64 (x 2), .int .i64 (x 3), .int .i64 (x 4), .int .i64 (x 5), .int .i64 (x 6), .int .i64 (x 7), .int .i64 (x 8), .int .i64 (x 9), .int .i64 (x 10), .int .i64 (x 11), .int .i64 (x 12), .int .i64 (x 13), .int .i64 (x 14), .int .i64 (x 15), .int .i64 (x 16), .int .i64 (x 17), .int .i64 (x 18), .int .i64 (x 19), .int .i64 (x 20), .int .i64 (x 21), .int .i64 (x 22), .int .i64 (x 23), .int .i64 (x 24)] 53)).heap.size = w.heap.size + 1 + 1 + 1 by simp] at this
    rw [← e0]
    clear e0
    obtain ⟨yM0, yM1⟩ := M15.out.a2
    have hlM : w.heap.size < w0.heap.size := M15.out.1
    have yK0 := K16.out.a1
    have hlK : (w.heap.size + 1) < w0.heap.size := K16.out.1
    go_wp2_with fail
    refine (book_impl c d a n cap Z hn _ (P10.row_below HR.out B14.out)).mono ?_
    rintro e w1 ⟨rfl, hb1⟩
    clear yM0 yM1 hlM yK0 hlK
    have B19 := hid (bthen B14.out hb1)
    have M19 := hid (M15.out.below hb1)
    have K19 := hid (K16.out.below hb1)
    have X19 := hid (X17.out.below hb1)
    have R19 := hid (R18.out.below hb1)
    clear B14 M15 K16 X17 R18
    clear hb1
    rw [hk]
    obtain ⟨yM0, yM1⟩ := M19.out.a2
    have hlM : w.heap.size < w1.heap.size := M19.out.1
    obtain ⟨yX0, yX1, yX2, yX3, yX4, yX5, yX6, yX7, yX8, yX9, yX10, yX11, yX12, yX13, yX14, yX15, yX16, yX17, yX18, yX19, yX20, yX21, yX22, yX23, yX24⟩ := X19.out.a25
    have hlX : (w.heap.size + 1 + 1) < w1.heap.size := X19.out.1
    go_wp2_with fail
    refine (msgOk_impl c d sv k x _).mono ?_
    rintro e w2 ⟨rfl, hb2⟩
    clear yM0 yM1 hlM yX0 yX1 yX2 yX3 yX4 yX5 yX6 yX7 yX8 yX9 yX10 yX11 yX12 yX13 yX14 yX15 yX16 yX17 yX18 yX19 yX20 yX21 yX22 yX23 yX24 hlX
    have B20 := hid (bthen B19.out hb2)
    have M20 := hid (M19.out.below hb2)
    have K20 := hid (K19.out.below hb2)
    have X20 := hid (X19.out.below hb2)
    have R20 := hid (R19.out.below hb2)
    clear B19 M19 K19 X19 R19
    clear hb2
    rw [hm]
    have r1 : w.heap.size + 1 + 1 + 1 < w2.heap.size := R20.out.1
    have yK0 := K20.out.a1
    have hlK : (w.heap.size + 1) < w2.heap.size := K20.out.1
    go_wp2_with fail
    refine (opened a n cap Z hn (book_key hk) _ (P10.row_below HR.out B20.out)).mono ?_
    rintro e w3 ⟨⟨mb, Bs, rfl, hO3⟩, hb3⟩
    clear yK0 hlK
    have B21 := hid (bthen B20.out hb3)
    have M21 := hid (M20.out.below hb3)
    have K21 := hid (K20.out.below hb3)
    have X21 := hid (X20.out.below hb3)
    have R21 := hid (R20.out.below hb3)
    clear B20 M20 K20 X20 R20
    have z3 := hb3.size
    obtain ⟨lo, elo⟩ : ∃ g, g = w2.heap.size := ⟨_, rfl⟩
    rw [← elo] at z3 r1 hO3
    clear elo hb3
    obtain ⟨yM0, yM1⟩ := M21.out.a2
    have hlM : w.heap.size < w3.heap.size := M21.out.1
    obtain ⟨yX0, yX1, yX2, yX3, yX4, yX5, yX6, yX7, yX8, yX9, yX10, yX11, yX12, yX13, yX14, yX15, yX16, yX17, yX18, yX19, yX20, yX21, yX22, yX23, yX24⟩ := X21.out.a25
    have hlX : (w.heap.size + 1 + 1) < w3.heap.size := X21.out.1
    go_wp2_with fail
    clear yM0 yM1 hlM yX0 yX1 yX2 yX3 yX4 yX5 yX6 yX7 yX8 yX9 yX10 yX11 yX12 yX13 yX14 yX15 yX16 yX17 yX18 yX19 yX20 yX21 yX22 yX23 yX24 hlX
    refine (hear_any lo mb n Bs Z c d sv k x hk hm _ z3 hO3).mono ?_
    rintro e w4 ⟨rfl, hO4, hb4, hz4⟩
    rw [← EY.out] at hO4
    rw [← EQ.out]
    have B22 : Hid (Below w.heap.size w w4) := B21.out.trans (hb4.mono (by omega))
    have M22 := hid (M21.out.sm hz4 (sm_below hb4 (by omega)))
    have K22 := hid (K21.out.sm hz4 (sm_below hb4 (by omega)))
    have X22 := hid (X21.out.sm hz4 (sm_below hb4 (by omega)))
    have R22 := hid (R21.out.sm hz4 (sm_below hb4 (by omega)))
    clear B21 M21 K21 X21 R21
    have HO4 : Hid (Op lo w4 mb n (fun k => Z k 0) Bs Y) := hO4
    clear hO4 hO3 hb4
    go_wp2_with fail
    refine (told lo mb n (fun k => Z k 0) Bs Y hn (book_rise hk) _ HO4.out).mono ?_
    rintro e w5 ⟨⟨v, rfl, hr5⟩, hb5⟩
    have B23 := hid (bthen B22.out hb5)
    have M23 := hid (M22.out.below hb5)
    have K23 := hid (K22.out.below hb5)
    have X23 := hid (X22.out.below hb5)
    have R23 := hid (R22.out.below hb5)
    clear B22 M22 K22 X22 R22
    obtain ⟨va, vc, ev, _⟩ := hr5.at
    subst ev
    have HL : Hid (P10.RL w4.heap.size w5.heap.size w5 (.slice va n vc) n Y) := hr5
    have z5 := hb5.size
    clear hr5 hb5 HO4
    have yR0 := R23.out.a1
    have zR0 := R23.out.f1
    have hlR : (w.heap.size + 1 + 1 + 1) < w5.heap.size := R23.out.1
    go_wp2
    refine bodyPost_ret (v := .tuple #[.agg #[.slice va n vc], .bool q]) (by simp [results, Tryz.results9, go_sem, *]) rfl ?_
    exact ⟨⟨_, rfl, rl_mono (by rw [set_size]; exact rl_set HL.out (by omega)) (by omega)⟩, B23.out.setCell (by show w.heap.size ≤ w.heap.size + 1 + 1 + 1; omega) _⟩
end Go.Proofs.YtgjapdjidighlabGreat
