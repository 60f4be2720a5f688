/- ArbGrant, of the program and of the model; conditions: the table lies in memory. -/
import Derived.Test.YtodmfbbicdbjdaaArb8
namespace Go.Proofs.Ytodmfbbicdbjdaa
open Go.RowKit Go.Deep
set_option linter.unusedVariables false

def hasB (c d k : Int) : Bool := okB c d && inB k 0 (c - 1)
theorem has_impl (c d k : Int) (w : World) :
    Calls Try.prog 17 #[.agg #[.int .i64 c, .int .i64 d], .int .i64 k] w fun e w' => e = .returned (.bool (hasB c d k)) ∧ Below w.heap.size w w' := by
  cases h : okB c d
  · go_enter Try.func17, Try.ntmps17
    go_wp2_with fail
    refine (ok_impl _ _ _).mono ?_
    rintro e w1 ⟨rfl, hb1⟩
    go_wp2
    go_ret
    exact ⟨by simp [hasB, h], bthen ((Below.refl _ _).alloc (by simp) _) hb1⟩
  · obtain ⟨a1, a2⟩ := okB_in h
    go_enter Try.func17, Try.ntmps17
    go_wp2_with fail
    refine (ok_impl _ _ _).mono ?_
    rintro e w1 ⟨rfl, hb1⟩
    obtain ⟨hc1, hf1⟩ := bcell hb1
    go_wp2_with (go_at_call 22; refine (in_impl _ _ _ _).mono ?_; rintro e w' ⟨rfl, rfl⟩)
    go_ret
    exact ⟨by simp [hasB, h], bthen ((Below.refl _ _).alloc (by simp) _) hb1⟩
theorem next_impl (a : Int) (h0 : 0 ≤ a) (h1 : a ≤ 900) (w : World) : Calls Try.prog 19 #[.int .i64 a] w fun e w' => e = .returned (.tuple #[.int .i64 (if a = 900 then a else a + 1), .bool (!(a == 900))]) ∧ w' = w := by
  by_cases h : a = 900
  · subst h
    go_enter Try.func19, Try.ntmps19
    go_wp2
    exact bodyPost_ret (v := .tuple #[.int .i64 900, .bool false]) (by simp [results, Try.results19, go_sem]) rfl ⟨by simp, rfl⟩
  · have hh : (a == 900) = false := by simp [h]
    rw [if_neg h, hh]
    have h2 : ¬ 900 ≤ a := by omega
    go_enter Try.func19, Try.ntmps19
    go_wp2
    exact bodyPost_ret (v := .tuple #[.int .i64 (a + 1), .bool true]) (by simp [results, Try.results19, go_sem]) rfl ⟨rfl, rfl⟩

theorem tab_facts {c d n : Int} {T : TV} (h : tabB c d T n = true) : okB c d = true ∧ (1 ≤ n ∧ n ≤ 3) ∧ ((T.nS : Int) ≤ c ∧ c ≤ T.nS) ∧ (T.nA ≤ T.nS ∧ T.nS ≤ T.nA) ∧ (2 ≤ c ∧ c ≤ 4) ∧ ∀ i, i < T.nS → 0 ≤ T.A i ∧ T.A i ≤ 900 := by
  simp only [tabB, sizB, Bool.and_eq_true, decide_eq_true_eq] at h
  obtain ⟨h1, h2, ⟨h3, h4⟩, h5⟩ := h
  have hc := okB_in h1
  have hn : 1 ≤ n ∧ n ≤ 3 := by simpa [inB] using h2
  refine ⟨h1, hn, by omega, by omega, hc, fun i hi => ?_⟩
  have := of_decide_eq_true h5 i hi
  simp only [rowB, decide_eq_true_eq] at this
  omega
/-- May the cell be given to the server? -/
def mayB (c : Int) (T : TV) (n cell server : Int) : Bool := inB cell 0 (c - 1) && (inB server 0 (n - 1) && !(T.A cell.toNat == 900))
def givenT (T : TV) (cell server : Int) : TV := { T with S := fun j => if j = cell.toNat then server else T.S j, A := fun j => if j = cell.toNat then T.A cell.toNat + 1 else T.A j }
def grantR (c d : Int) (T : TV) (n cell server : Int) : TV × Bool := if tabB c d T n then (if mayB c T n cell server then (givenT T cell server, true) else (T, false)) else (TV.zero, false)
theorem grantR_bad {c d n cell server : Int} {T : TV} (h : tabB c d T n = false) : grantR c d T n cell server = (TV.zero, false) := by simp [grantR, h]
theorem grantR_no {c d n cell server : Int} {T : TV} (h : tabB c d T n = true) (h2 : mayB c T n cell server = false) : grantR c d T n cell server = (T, false) := by simp [grantR, h, h2]
theorem grantR_yes {c d n cell server : Int} {T : TV} (h : tabB c d T n = true) (h2 : mayB c T n cell server = true) : grantR c d T n cell server = (givenT T cell server, true) := by simp [grantR, h, h2]

theorem ownT_two {lo hi : Nat} {w : World} {v : Value} {T : TV} (h : OwnT lo hi w v T) (p1 : 0 < T.nS) (p2 : 0 < T.nA) : ∃ g1 g2 d1 d2, v = .agg #[.slice (some ⟨g1, 0, none⟩) T.nS d1, .slice (some ⟨g2, 0, none⟩) T.nA d2] ∧ lo ≤ g1 ∧ g1 < hi ∧ lo ≤ g2 ∧ g2 < hi ∧ (¬ g1 = g2 ∧ hi ≤ w.heap.size) ∧ Own1 w g1 T.nS T.S T.nS ∧ Own1 w g2 T.nA T.A T.nA := by
  obtain ⟨v0, v1, g0, g1, rfl, r0, r1, hn⟩ := h
  rcases r0 with ⟨h, _⟩ | ⟨c0, rfl, a1, a2, a3, a4⟩
  · omega
  rcases r1 with ⟨h, _⟩ | ⟨c1, rfl, b1, b2, b3, b4⟩
  · omega
  exact ⟨g0, g1, c0, c1, rfl, a1, a2, b1, b2, ⟨hn, a3⟩, a4, b4⟩

set_option maxHeartbeats 8000000 in
theorem grant_impl (c d : Int) (v : Value) (T : TV) (n cell server : Int) (hs : T.short 1048576) (w : World) (h : TabAt w v T) :
    Calls Try.prog 5 #[.agg #[.int .i64 c, .int .i64 d], v, .int .i64 n, .int .i64 cell, .int .i64 server] w fun e w' => (∃ u t, e = .returned (.tuple #[u, .bool t]) ∧ t = (grantR c d T n cell server).2 ∧ OwnT w.heap.size w'.heap.size w' u (grantR c d T n cell server).1) ∧ Below w.heap.size w w' := by
  obtain ⟨aS, kS, aA, kA, rfl, rS, rA⟩ := h
  have H0 : Hid (TabAt w (.agg #[.slice aS T.nS kS, .slice aA T.nA kA]) T) := ⟨aS, kS, aA, kA, rfl, rS, rA⟩
  have HS : Hid (T.short 1048576) := hs
  have HR : Hid (Row1 w aS T.nS T.S ∧ Row1 w aA T.nA T.A) := ⟨rS, rA⟩
  clear rS rA hs
  go_enter Try.func5, Try.ntmps5
  go_wp2_with fail
  obtain ⟨w0, e0⟩ : ∃ w0, w0 = ((w.alloc (.cells #[.int .i64 c, .int .i64 d] 24)).alloc (.cells #[.slice aS T.nS kS, .slice aA T.nA kA] 27)).alloc (.cells #[.slice none 0 0, .slice none 0 0] 27) := ⟨_, rfl⟩
  have B1 : Hid (Below w.heap.size w w0) := by rw [e0]; exact (((Below.refl _ _).alloc (by simp) _).alloc (by simp) _).alloc (by simp; omega) _
  have M2 : Hid (Bk w0 w.heap.size [.int .i64 c, .int .i64 d]) := by rw [e0]; exact ((bk_new w 24 [.int .i64 c, .int .i64 d]).below ((Below.refl _ _).alloc (Nat.le_refl _) _)).below ((Below.refl _ _).alloc (Nat.le_refl _) _)
  have A3 : Hid (Bk w0 (w.heap.size + 1) [.slice aS T.nS kS, .slice aA T.nA kA]) := by rw [e0]; have := (bk_new (w.alloc (.cells #[.int .i64 c, .int .i64 d] 24)) 27 [.slice aS T.nS kS, .slice aA T.nA kA]).below ((Below.refl _ _).alloc (Nat.le_refl _) (.cells #[.slice none 0 0, .slice none 0 0] 27)); rwa [show (w.alloc (.cells #[.int .i64 c, .int .i64 d] 24)).heap.size = w.heap.size + 1 by simp] at this
  have R4 : Hid (Bk w0 (w.heap.size + 1 + 1) [.slice none 0 0, .slice none 0 0]) := by rw [e0]; have := bk_new ((w.alloc (.cells #[.int .i64 c, .int .i64 d] 24)).alloc (.cells #[.slice aS T.nS kS, .slice aA T.nA kA] 27)) 27 [.slice none 0 0, .slice none 0 0]; rwa [show ((w.alloc (.cells #[.int .i64 c, .int .i64 d] 24)).alloc (.cells #[.slice aS T.nS kS, .slice aA T.nA kA] 27)).heap.size = w.heap.size + 1 + 1 by simp] at this
  rw [← e0]
  clear e0
  refine (arbOk_impl c d _ T n HS.out _ (H0.out.below B1.out)).mono ?_
  rintro e w1 ⟨rfl, hb1⟩
  have y_w1 : w0.heap.size ≤ w1.heap.size := hb1.size
  have B5 : Hid (Below w.heap.size w w1) := bthen B1.out hb1
  have M5 : Hid (Bk w1 w.heap.size [.int .i64 c, .int .i64 d]) := M2.out.below hb1
  have A5 : Hid (Bk w1 (w.heap.size + 1) [.slice aS T.nS kS, .slice aA T.nA kA]) := A3.out.below hb1
  have R5 : Hid (Bk w1 (w.heap.size + 1 + 1) [.slice none 0 0, .slice none 0 0]) := R4.out.below hb1
  clear B1 M2 A3 R4
  clear hb1
  have zR : w.heap.size + 1 + 1 < w1.heap.size := R5.out.1
  have yM0 : w1.cell? ⟨w.heap.size, 0, none⟩ = some (.int .i64 c) := (M5.out.2 0 (by simp)).1
  have zM0 : w1.frozen? ⟨w.heap.size, 0, none⟩ = false := (M5.out.2 0 (by simp)).2
  have yM1 : w1.cell? ⟨w.heap.size, 1, none⟩ = some (.int .i64 d) := (M5.out.2 1 (by simp)).1
  have zM1 : w1.frozen? ⟨w.heap.size, 1, none⟩ = false := (M5.out.2 1 (by simp)).2
  have hlM : w.heap.size < w1.heap.size := M5.out.1
  have yA0 : w1.cell? ⟨(w.heap.size + 1), 0, none⟩ = some (.slice aS T.nS kS) := (A5.out.2 0 (by simp)).1
  have zA0 : w1.frozen? ⟨(w.heap.size + 1), 0, none⟩ = false := (A5.out.2 0 (by simp)).2
  have yA1 : w1.cell? ⟨(w.heap.size + 1), 1, none⟩ = some (.slice aA T.nA kA) := (A5.out.2 1 (by simp)).1
  have zA1 : w1.frozen? ⟨(w.heap.size + 1), 1, none⟩ = false := (A5.out.2 1 (by simp)).2
  have hlA : (w.heap.size + 1) < w1.heap.size := A5.out.1
  have yR0 : w1.cell? ⟨(w.heap.size + 1 + 1), 0, none⟩ = some (.slice none 0 0) := (R5.out.2 0 (by simp)).1
  have zR0 : w1.frozen? ⟨(w.heap.size + 1 + 1), 0, none⟩ = false := (R5.out.2 0 (by simp)).2
  have yR1 : w1.cell? ⟨(w.heap.size + 1 + 1), 1, none⟩ = some (.slice none 0 0) := (R5.out.2 1 (by simp)).1
  have zR1 : w1.frozen? ⟨(w.heap.size + 1 + 1), 1, none⟩ = false := (R5.out.2 1 (by simp)).2
  have hlR : (w.heap.size + 1 + 1) < w1.heap.size := R5.out.1
  cases hok : tabB c d T n
  · go_wp2
    refine bodyPost_ret (v := .tuple #[.agg #[.slice none 0 0, .slice none 0 0], .bool false]) (by simp [results, Try.results5, go_sem, *]) rfl ?_
    exact ⟨⟨_, _, rfl, by rw [grantR_bad hok], by rw [grantR_bad hok]; exact ownT_zero _ _ _⟩, (B5.out.setCell (by simp; try omega) _).setCell (by simp; try omega) _⟩
  obtain ⟨k1, ⟨k2, k3⟩, ⟨k4, k5⟩, ⟨k6, k7⟩, ⟨k8, k9⟩, kA⟩ := tab_facts hok
  have KA : Hid (∀ i, i < T.nS → 0 ≤ T.A i ∧ T.A i ≤ 900) := kA
  have HOK : Hid (tabB c d T n = true) := hok
  clear kA hok
  go_wp2_with fail
  refine (copyTable _ T HS.out (by omega) (by omega) _ (H0.out.below B5.out)).mono ?_
  rintro e w2 ⟨⟨v2, rfl, hO⟩, hb2⟩
  clear yM0 zM0 yM1 zM1 hlM yA0 zA0 yA1 zA1 hlA yR0 zR0 yR1 zR1 hlR
  have y_w2 : w1.heap.size ≤ w2.heap.size := hb2.size
  have B6 : Hid (Below w.heap.size w w2) := bthen B5.out hb2
  have M6 : Hid (Bk w2 w.heap.size [.int .i64 c, .int .i64 d]) := M5.out.below hb2
  have A6 : Hid (Bk w2 (w.heap.size + 1) [.slice aS T.nS kS, .slice aA T.nA kA]) := A5.out.below hb2
  have R6 : Hid (Bk w2 (w.heap.size + 1 + 1) [.slice none 0 0, .slice none 0 0]) := R5.out.below hb2
  clear B5 M5 A5 R5
  clear hb2
  obtain ⟨g1, g2, d1, d2, rfl, j1, j2, j3, j4, j5, hP, hQ⟩ := ownT_two hO (by omega) (by omega)
  clear hO
  have yM0 : w2.cell? ⟨w.heap.size, 0, none⟩ = some (.int .i64 c) := (M6.out.2 0 (by simp)).1
  have yM1 : w2.cell? ⟨w.heap.size, 1, none⟩ = some (.int .i64 d) := (M6.out.2 1 (by simp)).1
  have hlM : w.heap.size < w2.heap.size := M6.out.1
  have yA0 : w2.cell? ⟨(w.heap.size + 1), 0, none⟩ = some (.slice aS T.nS kS) := (A6.out.2 0 (by simp)).1
  have yA1 : w2.cell? ⟨(w.heap.size + 1), 1, none⟩ = some (.slice aA T.nA kA) := (A6.out.2 1 (by simp)).1
  have hlA : (w.heap.size + 1) < w2.heap.size := A6.out.1
  have yR0 : w2.cell? ⟨(w.heap.size + 1 + 1), 0, none⟩ = some (.slice none 0 0) := (R6.out.2 0 (by simp)).1
  have yR1 : w2.cell? ⟨(w.heap.size + 1 + 1), 1, none⟩ = some (.slice none 0 0) := (R6.out.2 1 (by simp)).1
  have hlR : (w.heap.size + 1 + 1) < w2.heap.size := R6.out.1
  go_wp2_with fail
  obtain ⟨w3, e3⟩ : ∃ wq, wq = w2.alloc (.cells #[.slice (some ⟨g1, 0, none⟩) T.nS d1, .slice (some ⟨g2, 0, none⟩) T.nA d2] 27) := ⟨_, rfl⟩
  rw [← e3]
  have hb3 : Below w2.heap.size w2 w3 := by rw [e3]; exact (Below.refl _ _).alloc (Nat.le_refl _) _
  have X3 : Hid (Bk w3 w2.heap.size [.slice (some ⟨g1, 0, none⟩) T.nS d1, .slice (some ⟨g2, 0, none⟩) T.nA d2]) := by rw [e3]; exact bk_new w2 27 [.slice (some ⟨g1, 0, none⟩) T.nS d1, .slice (some ⟨g2, 0, none⟩) T.nA d2]
  clear e3
  clear yM0 yM1 hlM yA0 yA1 hlA yR0 yR1 hlR
  have y_w3 : w2.heap.size ≤ w3.heap.size := hb3.size
  have B7 : Hid (Below w.heap.size w w3) := bthen B6.out hb3
  have M7 : Hid (Bk w3 w.heap.size [.int .i64 c, .int .i64 d]) := M6.out.below hb3
  have A7 : Hid (Bk w3 (w.heap.size + 1) [.slice aS T.nS kS, .slice aA T.nA kA]) := A6.out.below hb3
  have R7 : Hid (Bk w3 (w.heap.size + 1 + 1) [.slice none 0 0, .slice none 0 0]) := R6.out.below hb3
  clear B6 M6 A6 R6
  have P8 : Hid (Own1 w3 g1 T.nS T.S T.nS) := own1_below hP (by omega) hb3
  have Q9 : Hid (Own1 w3 g2 T.nA T.A T.nA) := own1_below hQ (by omega) hb3
  clear hP hQ hb3
  obtain ⟨gC, eC⟩ : ∃ g, g = w2.heap.size := ⟨_, rfl⟩
  rw [← eC] at X3 ⊢
  have eC1 : gC ≤ w2.heap.size := by omega
  have eC2 : w2.heap.size ≤ gC := by omega
  clear eC
  have C10 : Hid (Bk w3 gC [.slice (some ⟨g1, 0, none⟩) T.nS d1, .slice (some ⟨g2, 0, none⟩) T.nA d2]) := X3.out
  clear X3
  refine (has_impl c d cell _).mono ?_
  rintro e w4 ⟨rfl, hb4⟩
  have y_w4 : w3.heap.size ≤ w4.heap.size := hb4.size
  have B11 : Hid (Below w.heap.size w w4) := bthen B7.out hb4
  have M11 : Hid (Bk w4 w.heap.size [.int .i64 c, .int .i64 d]) := M7.out.below hb4
  have A11 : Hid (Bk w4 (w.heap.size + 1) [.slice aS T.nS kS, .slice aA T.nA kA]) := A7.out.below hb4
  have R11 : Hid (Bk w4 (w.heap.size + 1 + 1) [.slice none 0 0, .slice none 0 0]) := R7.out.below hb4
  have P11 : Hid (Own1 w4 g1 T.nS T.S T.nS) := own1_below P8.out (by omega) hb4
  have Q11 : Hid (Own1 w4 g2 T.nA T.A T.nA) := own1_below Q9.out (by omega) hb4
  have C11 : Hid (Bk w4 gC [.slice (some ⟨g1, 0, none⟩) T.nS d1, .slice (some ⟨g2, 0, none⟩) T.nA d2]) := C10.out.below hb4
  clear B7 M7 A7 R7 P8 Q9 C10
  clear hb4
  have hh : hasB c d cell = inB cell 0 (c - 1) := by simp [hasB, k1]
  rw [hh]
  have yM0 : w4.cell? ⟨w.heap.size, 0, none⟩ = some (.int .i64 c) := (M11.out.2 0 (by simp)).1
  have zM0 : w4.frozen? ⟨w.heap.size, 0, none⟩ = false := (M11.out.2 0 (by simp)).2
  have yM1 : w4.cell? ⟨w.heap.size, 1, none⟩ = some (.int .i64 d) := (M11.out.2 1 (by simp)).1
  have zM1 : w4.frozen? ⟨w.heap.size, 1, none⟩ = false := (M11.out.2 1 (by simp)).2
  have hlM : w.heap.size < w4.heap.size := M11.out.1
  have yA0 : w4.cell? ⟨(w.heap.size + 1), 0, none⟩ = some (.slice aS T.nS kS) := (A11.out.2 0 (by simp)).1
  have zA0 : w4.frozen? ⟨(w.heap.size + 1), 0, none⟩ = false := (A11.out.2 0 (by simp)).2
  have yA1 : w4.cell? ⟨(w.heap.size + 1), 1, none⟩ = some (.slice aA T.nA kA) := (A11.out.2 1 (by simp)).1
  have zA1 : w4.frozen? ⟨(w.heap.size + 1), 1, none⟩ = false := (A11.out.2 1 (by simp)).2
  have hlA : (w.heap.size + 1) < w4.heap.size := A11.out.1
  have yR0 : w4.cell? ⟨(w.heap.size + 1 + 1), 0, none⟩ = some (.slice none 0 0) := (R11.out.2 0 (by simp)).1
  have zR0 : w4.frozen? ⟨(w.heap.size + 1 + 1), 0, none⟩ = false := (R11.out.2 0 (by simp)).2
  have yR1 : w4.cell? ⟨(w.heap.size + 1 + 1), 1, none⟩ = some (.slice none 0 0) := (R11.out.2 1 (by simp)).1
  have zR1 : w4.frozen? ⟨(w.heap.size + 1 + 1), 1, none⟩ = false := (R11.out.2 1 (by simp)).2
  have hlR : (w.heap.size + 1 + 1) < w4.heap.size := R11.out.1
  have yC0 : w4.cell? ⟨gC, 0, none⟩ = some (.slice (some ⟨g1, 0, none⟩) T.nS d1) := (C11.out.2 0 (by simp)).1
  have zC0 : w4.frozen? ⟨gC, 0, none⟩ = false := (C11.out.2 0 (by simp)).2
  have yC1 : w4.cell? ⟨gC, 1, none⟩ = some (.slice (some ⟨g2, 0, none⟩) T.nA d2) := (C11.out.2 1 (by simp)).1
  have zC1 : w4.frozen? ⟨gC, 1, none⟩ = false := (C11.out.2 1 (by simp)).2
  have hlC : gC < w4.heap.size := C11.out.1
  have zC : gC < w4.heap.size := hlC
  cases m1 : inB cell 0 (c - 1)
  · have hno : mayB c T n cell server = false := by simp [mayB, m1]
    go_wp2
    refine bodyPost_ret (v := .tuple #[.agg #[.slice (some ⟨g1, 0, none⟩) T.nS d1, .slice (some ⟨g2, 0, none⟩) T.nA d2], .bool false]) (by simp [results, Try.results5, go_sem, *]) rfl ?_
    refine ⟨⟨_, _, rfl, by rw [grantR_no HOK.out hno], ?_⟩, (B11.out.setCell (by simp; try omega) _).setCell (by simp; try omega) _⟩
    rw [grantR_no HOK.out hno]
    exact ⟨_, _, g1, g2, rfl, .inr ⟨_, rfl, by omega, by simp [World.setCell]; omega, Nat.le_refl _, own1_set (own1_set P11.out (by omega)) (by omega)⟩, .inr ⟨_, rfl, by omega, by simp [World.setCell]; omega, Nat.le_refl _, own1_set (own1_set Q11.out (by omega)) (by omega)⟩, by omega⟩
  have hcell : 0 ≤ cell ∧ cell ≤ c - 1 := by simpa [inB] using m1
  go_wp2_with fail
  refine (isServer_impl _ _ (by omega) (by omega) _).mono ?_
  rintro e w4 ⟨rfl, rfl⟩
  cases m2 : inB server 0 (n - 1)
  · have hno : mayB c T n cell server = false := by simp [mayB, m2]
    go_wp2
    refine bodyPost_ret (v := .tuple #[.agg #[.slice (some ⟨g1, 0, none⟩) T.nS d1, .slice (some ⟨g2, 0, none⟩) T.nA d2], .bool false]) (by simp [results, Try.results5, go_sem, *]) rfl ?_
    refine ⟨⟨_, _, rfl, by rw [grantR_no HOK.out hno], ?_⟩, (B11.out.setCell (by simp; try omega) _).setCell (by simp; try omega) _⟩
    rw [grantR_no HOK.out hno]
    exact ⟨_, _, g1, g2, rfl, .inr ⟨_, rfl, by omega, by simp [World.setCell]; omega, Nat.le_refl _, own1_set (own1_set P11.out (by omega)) (by omega)⟩, .inr ⟨_, rfl, by omega, by simp [World.setCell]; omega, Nat.le_refl _, own1_set (own1_set Q11.out (by omega)) (by omega)⟩, by omega⟩
  obtain ⟨k, hck⟩ : ∃ k : Nat, cell = k := ⟨cell.toNat, by omega⟩
  subst hck
  have hk : k < T.nS := by omega
  have hk2 : k < T.nA := by omega
  have hkS : (k : Int) < T.nS := by omega
  have hkA : (k : Int) < T.nA := by omega
  obtain ⟨b, o, rfl, hb, hc2⟩ := row_at HR.out.2 B11.out hk2
  obtain ⟨q1, q2⟩ := KA.out k hk
  have hbw : b < w4.heap.size := Nat.lt_of_lt_of_le hb B11.out.size
  go_wp2_with fail
  refine (next_impl _ q1 q2 _).mono ?_
  rintro e w4 ⟨rfl, rfl⟩
  cases m3 : (T.A k == 900)
  · have m3n : ¬ T.A k = 900 := by simpa using m3
    rw [if_neg m3n]
    have hyes : mayB c T n k server = true := by simp [mayB, m1, m2, m3]
    obtain ⟨p0, pf⟩ := P11.out.1 k hk
    obtain ⟨pv, p0⟩ := Option.isSome_iff_exists.1 p0
    obtain ⟨t0, tf⟩ := Q11.out.1 k hk2
    obtain ⟨tv, t0⟩ := Option.isSome_iff_exists.1 t0
    have n12 : ¬ g1 = g2 := by omega
    have n21 : ¬ g2 = g1 := by omega
    go_wp2
    go_region
    obtain ⟨w5, e5⟩ : ∃ wq, wq = ((w4.setCell ⟨g1, k, none⟩ (.int .i64 server)).setCell ⟨g2, k, none⟩ (.int .i64 (T.A k + 1))).drew := ⟨_, rfl⟩
    rw [← e5]
    have hd5 : Below ((w4.setCell ⟨g1, k, none⟩ (.int .i64 server)).setCell ⟨g2, k, none⟩ (.int .i64 (T.A k + 1))).heap.size ((w4.setCell ⟨g1, k, none⟩ (.int .i64 server)).setCell ⟨g2, k, none⟩ (.int .i64 (T.A k + 1))) w5 := by rw [e5]; exact (Below.refl _ _).drew
    have z5 : w5.heap.size = w4.heap.size := by rw [e5]; show ((w4.setCell ⟨g1, k, none⟩ (.int .i64 server)).setCell ⟨g2, k, none⟩ (.int .i64 (T.A k + 1))).heap.size = _; rw [set_size, set_size]
    have P5 : Hid (Own1 w5 g1 T.nS (givenT T k server).S T.nS) := own1_below (own1_set (own1_congr (own1_upd (z := server) P11.out hk) (fun j _ => by simp [givenT])) n21) (by rw [set_size, set_size]; omega) hd5
    have Q5 : Hid (Own1 w5 g2 T.nA (givenT T k server).A T.nA) := own1_below (own1_congr (own1_upd (z := T.A k + 1) (own1_set Q11.out n12) hk2) (fun j _ => by simp [givenT])) (by rw [set_size, set_size]; omega) hd5
    have C5 : Hid (Bk w5 gC [.slice (some ⟨g1, 0, none⟩) T.nS d1, .slice (some ⟨g2, 0, none⟩) T.nA d2]) := ((C11.out.far (by omega)).far (by omega)).below hd5
    have R5 : Hid (Bk w5 (w.heap.size + 1 + 1) [.slice none 0 0, .slice none 0 0]) := ((R11.out.far (by omega)).far (by omega)).below hd5
    have B5 : Hid (Below w.heap.size w w5) := ((B11.out.setCell (by show w.heap.size ≤ g1; omega) _).setCell (by show w.heap.size ≤ g2; omega) _).trans (hd5.mono (by have := B11.out.size; rw [set_size, set_size]; omega))
    clear hd5 e5
    clear yM0 zM0 yM1 zM1 hlM yA0 zA0 yA1 zA1 hlA yR0 zR0 yR1 zR1 hlR yC0 zC0 yC1 zC1 hlC
    clear p0 pf t0 tf hc2
    have c0 : w5.cell? ⟨gC, 0, none⟩ = some (.slice (some ⟨g1, 0, none⟩) T.nS d1) := (C5.out.2 0 (by simp)).1
    have c1 : w5.cell? ⟨gC, 1, none⟩ = some (.slice (some ⟨g2, 0, none⟩) T.nA d2) := (C5.out.2 1 (by simp)).1
    have r0 : w5.cell? ⟨w.heap.size + 1 + 1, 0, none⟩ = some (.slice none 0 0) := (R5.out.2 0 (by simp)).1
    have r1 : w5.cell? ⟨w.heap.size + 1 + 1, 1, none⟩ = some (.slice none 0 0) := (R5.out.2 1 (by simp)).1
    have rf0 := (R5.out.2 0 (by simp)).2
    have rf1 := (R5.out.2 1 (by simp)).2
    have lC5 := C5.out.1
    have lR5 := R5.out.1
    have z51 : w5.heap.size ≤ w4.heap.size := by omega
    have z52 : w4.heap.size ≤ w5.heap.size := by omega
    clear z5
    go_wp2
    refine bodyPost_ret (v := .tuple #[.agg #[.slice (some ⟨g1, 0, none⟩) T.nS d1, .slice (some ⟨g2, 0, none⟩) T.nA d2], .bool true]) (by simp [results, Try.results5, go_sem, *]) rfl ?_
    refine ⟨⟨_, _, rfl, by rw [grantR_yes HOK.out hyes], ?_⟩, (B5.out.setCell (by show w.heap.size ≤ w.heap.size + 1 + 1; omega) _).setCell (by show w.heap.size ≤ w.heap.size + 1 + 1; omega) _⟩
    rw [grantR_yes HOK.out hyes]
    exact ⟨_, _, g1, g2, rfl, .inr ⟨_, rfl, by omega, by simp [World.setCell]; omega, Nat.le_refl _, own1_set (own1_set P5.out (by omega)) (by omega)⟩, .inr ⟨_, rfl, by omega, by simp [World.setCell]; omega, Nat.le_refl _, own1_set (own1_set Q5.out (by omega)) (by omega)⟩, by omega⟩
  · have m3y : T.A k = 900 := by simpa using m3
    have hno : mayB c T n k server = false := by simp [mayB, m3]
    rw [if_pos m3y]
    clear m3y
    go_wp2
    refine bodyPost_ret (v := .tuple #[.agg #[.slice (some ⟨g1, 0, none⟩) T.nS d1, .slice (some ⟨g2, 0, none⟩) T.nA d2], .bool false]) (by simp [results, Try.results5, go_sem, *]) rfl ?_
    refine ⟨⟨_, _, rfl, by rw [grantR_no HOK.out hno], ?_⟩, (B11.out.setCell (by simp; try omega) _).setCell (by simp; try omega) _⟩
    rw [grantR_no HOK.out hno]
    exact ⟨_, _, g1, g2, rfl, .inr ⟨_, rfl, by omega, by simp [World.setCell]; omega, Nat.le_refl _, own1_set (own1_set P11.out (by omega)) (by omega)⟩, .inr ⟨_, rfl, by omega, by simp [World.setCell]; omega, Nat.le_refl _, own1_set (own1_set Q11.out (by omega)) (by omega)⟩, by omega⟩
end Go.Proofs.Ytodmfbbicdbjdaa
