/- OneDown of the model; conditions: those typed. -/
import Derived.Test.YtoickljpjlhkoaaOH
import Derived.Test.YtoickljpjlhkoaaOS2
namespace Go.Proofs.Ytoickljpjlhkoaa
open Go.RowKit Go.Deep
set_option linter.unusedVariables false


set_option maxRecDepth 20000 in
set_option maxHeartbeats 4000000 in
theorem oneDown_spec (lo : Nat) (v : Value) (V : OV) (cell side n : Int) (hs : V.short 1048576) (w : World) (h : CopyO lo w v V) :
    Calls Try.prog 16 #[v, .int .i64 cell, .int .i64 side, .int .i64 n] w fun e w' => (∃ v', e = .returned v' ∧ OwnW w.heap.size w'.heap.size w' v' (V.down cell side n)) ∧ Below w.heap.size w w' := by
  have HC : Hid (CopyO lo w v V) := h
  have HS : Hid (V.short 1048576) := hs
  obtain ⟨b1, b2, b3, l1, l2, l3, l4, rfl, _, _, _⟩ := h
  obtain ⟨c, d, nW, Z, nG, G, nA, N, O⟩ := V
  simp only at HC HS l4
  cases hok : OV.ok ⟨c, d, nW, Z, nG, G, nA, N, O⟩
  · have hv : OV.down ⟨c, d, nW, Z, nG, G, nA, N, O⟩ cell side n = OV.none := by rw [OV.down, if_neg (by rw [hok]; simp)]
    rw [hv]
    clear hv
    go_enter Try.func16, Try.ntmps16
    go_wp2_with fail
    obtain ⟨w0, e0⟩ : ∃ w0, w0 = (w.alloc (.cells #[.int .i64 c, .int .i64 d, .slice (some ⟨b1, 0, none⟩) nW nW, .slice (some ⟨b2, 0, none⟩) nG nG, .slice (some ⟨b3, 0, none⟩) nA nA] 34)).alloc (.cells #[.int .i64 0, .int .i64 0, .slice none 0 0, .slice none 0 0, .slice none 0 0] 34) := ⟨_, rfl⟩
    have B1 : Hid (Below w.heap.size w w0) := by rw [e0]; exact ((Below.refl _ _).alloc (by simp) _).alloc (by simp) _
    have A2 : Hid (Bk w0 w.heap.size [.int .i64 c, .int .i64 d, .slice (some ⟨b1, 0, none⟩) nW nW, .slice (some ⟨b2, 0, none⟩) nG nG, .slice (some ⟨b3, 0, none⟩) nA nA]) := by rw [e0]; exact (bk_new w 34 [.int .i64 c, .int .i64 d, .slice (some ⟨b1, 0, none⟩) nW nW, .slice (some ⟨b2, 0, none⟩) nG nG, .slice (some ⟨b3, 0, none⟩) nA nA]).below ((Below.refl _ _).alloc (Nat.le_refl _) _)
    have R3 : Hid (Bk w0 (w.heap.size + 1) [.int .i64 0, .int .i64 0, .slice none 0 0, .slice none 0 0, .slice none 0 0]) := by rw [e0]; have := bk_new (w.alloc (.cells #[.int .i64 c, .int .i64 d, .slice (some ⟨b1, 0, none⟩) nW nW, .slice (some ⟨b2, 0, none⟩) nG nG, .slice (some ⟨b3, 0, none⟩) nA nA] 34)) 34 [.int .i64 0, .int .i64 0, .slice none 0 0, .slice none 0 0, .slice none 0 0]; rwa [show (w.alloc (.cells #[.int .i64 c, .int .i64 d, .slice (some ⟨b1, 0, none⟩) nW nW, .slice (some ⟨b2, 0, none⟩) nG nG, .slice (some ⟨b3, 0, none⟩) nA nA] 34)).heap.size = w.heap.size + 1 by simp] at this
    rw [← e0]
    clear e0
    have C4 : Hid (CopyO lo w0 (.agg #[.int .i64 c, .int .i64 d, .slice (some ⟨b1, 0, none⟩) nW nW, .slice (some ⟨b2, 0, none⟩) nG nG, .slice (some ⟨b3, 0, none⟩) nA nA]) ⟨c, d, nW, Z, nG, G, nA, N, O⟩) := CopyO.below HC.out B1.out
    refine (oneOk_spec _ ⟨c, d, nW, Z, nG, G, nA, N, O⟩ HS.out _ C4.out.at).mono ?_
    rintro e w1 ⟨rfl, hb1⟩
    have B5 : Hid (Below w.heap.size w w1) := bthen B1.out hb1
    have A5 : Hid (Bk w1 w.heap.size [.int .i64 c, .int .i64 d, .slice (some ⟨b1, 0, none⟩) nW nW, .slice (some ⟨b2, 0, none⟩) nG nG, .slice (some ⟨b3, 0, none⟩) nA nA]) := A2.out.below hb1
    have R5 : Hid (Bk w1 (w.heap.size + 1) [.int .i64 0, .int .i64 0, .slice none 0 0, .slice none 0 0, .slice none 0 0]) := R3.out.below hb1
    have C5 : Hid (CopyO lo w1 (.agg #[.int .i64 c, .int .i64 d, .slice (some ⟨b1, 0, none⟩) nW nW, .slice (some ⟨b2, 0, none⟩) nG nG, .slice (some ⟨b3, 0, none⟩) nA nA]) ⟨c, d, nW, Z, nG, G, nA, N, O⟩) := C4.out.below hb1
    clear B1 A2 R3 C4
    clear hb1
    rw [hok]
    have yA0 : w1.cell? ⟨w.heap.size, 0, none⟩ = some (.int .i64 c) := (A5.out.2 0 (by simp)).1
    have zA0 : w1.frozen? ⟨w.heap.size, 0, none⟩ = false := (A5.out.2 0 (by simp)).2
    have yA1 : w1.cell? ⟨w.heap.size, 1, none⟩ = some (.int .i64 d) := (A5.out.2 1 (by simp)).1
    have zA1 : w1.frozen? ⟨w.heap.size, 1, none⟩ = false := (A5.out.2 1 (by simp)).2
    have yA2 : w1.cell? ⟨w.heap.size, 2, none⟩ = some (.slice (some ⟨b1, 0, none⟩) nW nW) := (A5.out.2 2 (by simp)).1
    have zA2 : w1.frozen? ⟨w.heap.size, 2, none⟩ = false := (A5.out.2 2 (by simp)).2
    have yA3 : w1.cell? ⟨w.heap.size, 3, none⟩ = some (.slice (some ⟨b2, 0, none⟩) nG nG) := (A5.out.2 3 (by simp)).1
    have zA3 : w1.frozen? ⟨w.heap.size, 3, none⟩ = false := (A5.out.2 3 (by simp)).2
    have yA4 : w1.cell? ⟨w.heap.size, 4, none⟩ = some (.slice (some ⟨b3, 0, none⟩) nA nA) := (A5.out.2 4 (by simp)).1
    have zA4 : w1.frozen? ⟨w.heap.size, 4, none⟩ = false := (A5.out.2 4 (by simp)).2
    have hlA : w.heap.size < w1.heap.size := A5.out.1
    have yR0 : w1.cell? ⟨(w.heap.size + 1), 0, none⟩ = some (.int .i64 0) := (R5.out.2 0 (by simp)).1
    have zR0 : w1.frozen? ⟨(w.heap.size + 1), 0, none⟩ = false := (R5.out.2 0 (by simp)).2
    have yR1 : w1.cell? ⟨(w.heap.size + 1), 1, none⟩ = some (.int .i64 0) := (R5.out.2 1 (by simp)).1
    have zR1 : w1.frozen? ⟨(w.heap.size + 1), 1, none⟩ = false := (R5.out.2 1 (by simp)).2
    have yR2 : w1.cell? ⟨(w.heap.size + 1), 2, none⟩ = some (.slice none 0 0) := (R5.out.2 2 (by simp)).1
    have zR2 : w1.frozen? ⟨(w.heap.size + 1), 2, none⟩ = false := (R5.out.2 2 (by simp)).2
    have yR3 : w1.cell? ⟨(w.heap.size + 1), 3, none⟩ = some (.slice none 0 0) := (R5.out.2 3 (by simp)).1
    have zR3 : w1.frozen? ⟨(w.heap.size + 1), 3, none⟩ = false := (R5.out.2 3 (by simp)).2
    have yR4 : w1.cell? ⟨(w.heap.size + 1), 4, none⟩ = some (.slice none 0 0) := (R5.out.2 4 (by simp)).1
    have zR4 : w1.frozen? ⟨(w.heap.size + 1), 4, none⟩ = false := (R5.out.2 4 (by simp)).2
    have hlR : (w.heap.size + 1) < w1.heap.size := R5.out.1
    go_wp2
    refine bodyPost_ret (v := .agg #[.int .i64 0, .int .i64 0, .slice none 0 0, .slice none 0 0, .slice none 0 0]) (P6.results_mid (P := Try.prog) (fn := Try.f16) Try.results16 _ _ (w.heap.size + 1) [.int .i64 0, .int .i64 0, .slice none 0 0, .slice none 0 0, .slice none 0 0] _ rfl (P6.Bk.range (Bk.set (j := 4) (v := .slice none 0 0) (Bk.set (j := 3) (v := .slice none 0 0) (Bk.set (j := 2) (v := .slice none 0 0) (Bk.set (j := 1) (v := .int .i64 0) (Bk.set (j := 0) (v := .int .i64 0) R5.out (by simp)) (by simp)) (by simp)) (by simp)) (by simp))) Try.underlying34 rfl (by kernel_rfl)) rfl ⟨⟨_, rfl, own_none _ _ _⟩, (((((B5.out.setCell (by show w.heap.size ≤ w.heap.size + 1; omega) _).setCell (by show w.heap.size ≤ w.heap.size + 1; omega) _).setCell (by show w.heap.size ≤ w.heap.size + 1; omega) _).setCell (by show w.heap.size ≤ w.heap.size + 1; omega) _).setCell (by show w.heap.size ≤ w.heap.size + 1; omega) _)⟩
  obtain ⟨⟨c0, c1, eG, eA⟩, bG, bA, _⟩ := OV.good hok
  simp only at c0 c1 eG eA bG bA
  have BA : Hid (∀ k, k < nA → N k = 2 ∧ ∀ j, j < 2 → 0 ≤ O k j ∧ O k j ≤ 100000) := bA
  have BG : Hid (∀ k, k < nG → 0 ≤ G k ∧ G k ≤ 900) := bG
  have hnG : 0 < nG := by omega
  have hnA : 0 < nA := by omega
  have EG : Hid ((nG : Int) = c ∧ (nA : Int) = c) := ⟨eG, eA⟩
  clear bA bG eG eA
  go_enter Try.func16, Try.ntmps16
  go_wp2_with fail
  obtain ⟨w0, e0⟩ : ∃ w0, w0 = (w.alloc (.cells #[.int .i64 c, .int .i64 d, .slice (some ⟨b1, 0, none⟩) nW nW, .slice (some ⟨b2, 0, none⟩) nG nG, .slice (some ⟨b3, 0, none⟩) nA nA] 34)).alloc (.cells #[.int .i64 0, .int .i64 0, .slice none 0 0, .slice none 0 0, .slice none 0 0] 34) := ⟨_, rfl⟩
  have B1 : Hid (Below w.heap.size w w0) := by rw [e0]; exact ((Below.refl _ _).alloc (by simp) _).alloc (by simp) _
  have A2 : Hid (Bk w0 w.heap.size [.int .i64 c, .int .i64 d, .slice (some ⟨b1, 0, none⟩) nW nW, .slice (some ⟨b2, 0, none⟩) nG nG, .slice (some ⟨b3, 0, none⟩) nA nA]) := by rw [e0]; exact (bk_new w 34 [.int .i64 c, .int .i64 d, .slice (some ⟨b1, 0, none⟩) nW nW, .slice (some ⟨b2, 0, none⟩) nG nG, .slice (some ⟨b3, 0, none⟩) nA nA]).below ((Below.refl _ _).alloc (Nat.le_refl _) _)
  have R3 : Hid (Bk w0 (w.heap.size + 1) [.int .i64 0, .int .i64 0, .slice none 0 0, .slice none 0 0, .slice none 0 0]) := by rw [e0]; have := bk_new (w.alloc (.cells #[.int .i64 c, .int .i64 d, .slice (some ⟨b1, 0, none⟩) nW nW, .slice (some ⟨b2, 0, none⟩) nG nG, .slice (some ⟨b3, 0, none⟩) nA nA] 34)) 34 [.int .i64 0, .int .i64 0, .slice none 0 0, .slice none 0 0, .slice none 0 0]; rwa [show (w.alloc (.cells #[.int .i64 c, .int .i64 d, .slice (some ⟨b1, 0, none⟩) nW nW, .slice (some ⟨b2, 0, none⟩) nG nG, .slice (some ⟨b3, 0, none⟩) nA nA] 34)).heap.size = w.heap.size + 1 by simp] at this
  rw [← e0]
  clear e0
  have C4 : Hid (CopyO lo w0 (.agg #[.int .i64 c, .int .i64 d, .slice (some ⟨b1, 0, none⟩) nW nW, .slice (some ⟨b2, 0, none⟩) nG nG, .slice (some ⟨b3, 0, none⟩) nA nA]) ⟨c, d, nW, Z, nG, G, nA, N, O⟩) := CopyO.below HC.out B1.out
  refine (oneOk_spec _ ⟨c, d, nW, Z, nG, G, nA, N, O⟩ HS.out _ C4.out.at).mono ?_
  rintro e w1 ⟨rfl, hb1⟩
  have B5 : Hid (Below w.heap.size w w1) := bthen B1.out hb1
  have A5 : Hid (Bk w1 w.heap.size [.int .i64 c, .int .i64 d, .slice (some ⟨b1, 0, none⟩) nW nW, .slice (some ⟨b2, 0, none⟩) nG nG, .slice (some ⟨b3, 0, none⟩) nA nA]) := A2.out.below hb1
  have R5 : Hid (Bk w1 (w.heap.size + 1) [.int .i64 0, .int .i64 0, .slice none 0 0, .slice none 0 0, .slice none 0 0]) := R3.out.below hb1
  have C5 : Hid (CopyO lo w1 (.agg #[.int .i64 c, .int .i64 d, .slice (some ⟨b1, 0, none⟩) nW nW, .slice (some ⟨b2, 0, none⟩) nG nG, .slice (some ⟨b3, 0, none⟩) nA nA]) ⟨c, d, nW, Z, nG, G, nA, N, O⟩) := C4.out.below hb1
  clear B1 A2 R3 C4
  clear hb1
  rw [hok]
  have yA0 : w1.cell? ⟨w.heap.size, 0, none⟩ = some (.int .i64 c) := (A5.out.2 0 (by simp)).1
  have zA0 : w1.frozen? ⟨w.heap.size, 0, none⟩ = false := (A5.out.2 0 (by simp)).2
  have yA1 : w1.cell? ⟨w.heap.size, 1, none⟩ = some (.int .i64 d) := (A5.out.2 1 (by simp)).1
  have zA1 : w1.frozen? ⟨w.heap.size, 1, none⟩ = false := (A5.out.2 1 (by simp)).2
  have yA2 : w1.cell? ⟨w.heap.size, 2, none⟩ = some (.slice (some ⟨b1, 0, none⟩) nW nW) := (A5.out.2 2 (by simp)).1
  have zA2 : w1.frozen? ⟨w.heap.size, 2, none⟩ = false := (A5.out.2 2 (by simp)).2
  have yA3 : w1.cell? ⟨w.heap.size, 3, none⟩ = some (.slice (some ⟨b2, 0, none⟩) nG nG) := (A5.out.2 3 (by simp)).1
  have zA3 : w1.frozen? ⟨w.heap.size, 3, none⟩ = false := (A5.out.2 3 (by simp)).2
  have yA4 : w1.cell? ⟨w.heap.size, 4, none⟩ = some (.slice (some ⟨b3, 0, none⟩) nA nA) := (A5.out.2 4 (by simp)).1
  have zA4 : w1.frozen? ⟨w.heap.size, 4, none⟩ = false := (A5.out.2 4 (by simp)).2
  have hlA : w.heap.size < w1.heap.size := A5.out.1
  have yR0 : w1.cell? ⟨(w.heap.size + 1), 0, none⟩ = some (.int .i64 0) := (R5.out.2 0 (by simp)).1
  have zR0 : w1.frozen? ⟨(w.heap.size + 1), 0, none⟩ = false := (R5.out.2 0 (by simp)).2
  have yR1 : w1.cell? ⟨(w.heap.size + 1), 1, none⟩ = some (.int .i64 0) := (R5.out.2 1 (by simp)).1
  have zR1 : w1.frozen? ⟨(w.heap.size + 1), 1, none⟩ = false := (R5.out.2 1 (by simp)).2
  have yR2 : w1.cell? ⟨(w.heap.size + 1), 2, none⟩ = some (.slice none 0 0) := (R5.out.2 2 (by simp)).1
  have zR2 : w1.frozen? ⟨(w.heap.size + 1), 2, none⟩ = false := (R5.out.2 2 (by simp)).2
  have yR3 : w1.cell? ⟨(w.heap.size + 1), 3, none⟩ = some (.slice none 0 0) := (R5.out.2 3 (by simp)).1
  have zR3 : w1.frozen? ⟨(w.heap.size + 1), 3, none⟩ = false := (R5.out.2 3 (by simp)).2
  have yR4 : w1.cell? ⟨(w.heap.size + 1), 4, none⟩ = some (.slice none 0 0) := (R5.out.2 4 (by simp)).1
  have zR4 : w1.frozen? ⟨(w.heap.size + 1), 4, none⟩ = false := (R5.out.2 4 (by simp)).2
  have hlR : (w.heap.size + 1) < w1.heap.size := R5.out.1
  have lwb0 := R5.out.1
  go_wp2_with fail
  refine (copyS lo _ ⟨c, d, nW, Z, nG, G, nA, N, O⟩ HS.out hnG hnA (fun k hk => (BA.out k hk).1) _ C5.out).mono ?_
  rintro e w2 ⟨⟨v2, rfl, hO2⟩, hb2⟩
  clear yA0 zA0 yA1 zA1 yA2 zA2 yA3 zA3 yA4 zA4 hlA yR0 zR0 yR1 zR1 yR2 zR2 yR3 zR3 yR4 zR4 hlR
  have B6 : Hid (Below w.heap.size w w2) := bthen B5.out hb2
  have A6 : Hid (Bk w2 w.heap.size [.int .i64 c, .int .i64 d, .slice (some ⟨b1, 0, none⟩) nW nW, .slice (some ⟨b2, 0, none⟩) nG nG, .slice (some ⟨b3, 0, none⟩) nA nA]) := A5.out.below hb2
  have R6 : Hid (Bk w2 (w.heap.size + 1) [.int .i64 0, .int .i64 0, .slice none 0 0, .slice none 0 0, .slice none 0 0]) := R5.out.below hb2
  have C6 : Hid (CopyO lo w2 (.agg #[.int .i64 c, .int .i64 d, .slice (some ⟨b1, 0, none⟩) nW nW, .slice (some ⟨b2, 0, none⟩) nG nG, .slice (some ⟨b3, 0, none⟩) nA nA]) ⟨c, d, nW, Z, nG, G, nA, N, O⟩) := C5.out.below hb2
  clear B5 A5 R5 C5
  have z2 := hb2.size
  clear hb2
  obtain ⟨vW, vG, vA, gW, gG, gA, sl, xs, rfl, o1, o2, o3, o4, o5, o6⟩ := hO2
  simp only at o1 o2 o3 o5 o6
  obtain ⟨aW, cW, rfl, _⟩ := row_of_rw o1
  obtain ⟨cG, rfl, p1, p2, _, _⟩ : ∃ c, vG = .slice (some ⟨gG, 0, none⟩) nG c ∧ w1.heap.size ≤ gG ∧ gG < w2.heap.size ∧ True ∧ True := by
    rcases o2 with ⟨h, _⟩ | ⟨c, q1, q2, q3, _⟩
    · omega
    · exact ⟨c, q1, q2, q3, trivial, trivial⟩
  obtain ⟨cA, rfl, p3, p4, HSL⟩ : ∃ c, vA = .slice (some ⟨gA, 0, none⟩) nA c ∧ w1.heap.size ≤ gA ∧ gA < w2.heap.size ∧ Hid (∀ k, k < nA → RI w1.heap.size w2.heap.size w2 (sl k) (N k) (O k) (xs k)) := by
    rcases o3 with ⟨h, _⟩ | ⟨c, q1, q2, q3, _, q5⟩
    · omega
    · exact ⟨c, q1, q2, q3, fun k hk => (q5 k hk).2⟩
  obtain ⟨hi, ehi⟩ : ∃ t, t = w2.heap.size := ⟨_, rfl⟩
  obtain ⟨lw, elw⟩ : ∃ t, t = w1.heap.size := ⟨_, rfl⟩
  rw [← ehi, ← elw] at o1 o2 o3 HSL
  have hi1 : hi ≤ w2.heap.size := by omega
  have lw1 : lw ≤ w1.heap.size := by omega
  have lw2 : w1.heap.size ≤ lw := by omega
  have hi2 : w2.heap.size ≤ hi := by omega
  have lwb : w.heap.size + 1 < lw := by omega
  clear ehi elw
  have H4 : Hid (¬ gW = gG ∧ ¬ gW = gA ∧ ¬ gG = gA) := o4
  have H5 : Hid (∀ k, k < nA → ¬ xs k = gW ∧ ¬ xs k = gG ∧ ¬ xs k = gA) := o5
  have H6 : Hid (∀ i j, i < nA → j < nA → ¬ i = j → ¬ xs i = xs j) := o6
  clear o4 o5 o6
  have O1_7 : Hid (RW lw hi w2 (.slice aW nW cW) nW Z gW) := o1
  have O2_8 : Hid (RI lw hi w2 (.slice (some ⟨gG, 0, none⟩) nG cG) nG G gG) := o2
  have O3_9 : Hid (RO lw hi w2 (.slice (some ⟨gA, 0, none⟩) nA cA) nA N O gA sl xs) := o3
  clear o1 o2 o3
  have yA0 : w2.cell? ⟨w.heap.size, 0, none⟩ = some (.int .i64 c) := (A6.out.2 0 (by simp)).1
  have zA0 : w2.frozen? ⟨w.heap.size, 0, none⟩ = false := (A6.out.2 0 (by simp)).2
  have yA1 : w2.cell? ⟨w.heap.size, 1, none⟩ = some (.int .i64 d) := (A6.out.2 1 (by simp)).1
  have zA1 : w2.frozen? ⟨w.heap.size, 1, none⟩ = false := (A6.out.2 1 (by simp)).2
  have yA2 : w2.cell? ⟨w.heap.size, 2, none⟩ = some (.slice (some ⟨b1, 0, none⟩) nW nW) := (A6.out.2 2 (by simp)).1
  have zA2 : w2.frozen? ⟨w.heap.size, 2, none⟩ = false := (A6.out.2 2 (by simp)).2
  have yA3 : w2.cell? ⟨w.heap.size, 3, none⟩ = some (.slice (some ⟨b2, 0, none⟩) nG nG) := (A6.out.2 3 (by simp)).1
  have zA3 : w2.frozen? ⟨w.heap.size, 3, none⟩ = false := (A6.out.2 3 (by simp)).2
  have yA4 : w2.cell? ⟨w.heap.size, 4, none⟩ = some (.slice (some ⟨b3, 0, none⟩) nA nA) := (A6.out.2 4 (by simp)).1
  have zA4 : w2.frozen? ⟨w.heap.size, 4, none⟩ = false := (A6.out.2 4 (by simp)).2
  have hlA : w.heap.size < w2.heap.size := A6.out.1
  have yR0 : w2.cell? ⟨(w.heap.size + 1), 0, none⟩ = some (.int .i64 0) := (R6.out.2 0 (by simp)).1
  have zR0 : w2.frozen? ⟨(w.heap.size + 1), 0, none⟩ = false := (R6.out.2 0 (by simp)).2
  have yR1 : w2.cell? ⟨(w.heap.size + 1), 1, none⟩ = some (.int .i64 0) := (R6.out.2 1 (by simp)).1
  have zR1 : w2.frozen? ⟨(w.heap.size + 1), 1, none⟩ = false := (R6.out.2 1 (by simp)).2
  have yR2 : w2.cell? ⟨(w.heap.size + 1), 2, none⟩ = some (.slice none 0 0) := (R6.out.2 2 (by simp)).1
  have zR2 : w2.frozen? ⟨(w.heap.size + 1), 2, none⟩ = false := (R6.out.2 2 (by simp)).2
  have yR3 : w2.cell? ⟨(w.heap.size + 1), 3, none⟩ = some (.slice none 0 0) := (R6.out.2 3 (by simp)).1
  have zR3 : w2.frozen? ⟨(w.heap.size + 1), 3, none⟩ = false := (R6.out.2 3 (by simp)).2
  have yR4 : w2.cell? ⟨(w.heap.size + 1), 4, none⟩ = some (.slice none 0 0) := (R6.out.2 4 (by simp)).1
  have zR4 : w2.frozen? ⟨(w.heap.size + 1), 4, none⟩ = false := (R6.out.2 4 (by simp)).2
  have hlR : (w.heap.size + 1) < w2.heap.size := R6.out.1
  go_wp2_with fail
  obtain ⟨w3, e3⟩ : ∃ y, y = w2.alloc (.cells #[.int .i64 c, .int .i64 d, .slice aW nW cW, .slice (some ⟨gG, 0, none⟩) nG cG, .slice (some ⟨gA, 0, none⟩) nA cA] 34) := ⟨_, rfl⟩
  rw [← e3]
  have hb3 : Below w2.heap.size w2 w3 := by rw [e3]; exact (Below.refl _ _).alloc (Nat.le_refl _) _
  have X3 : Bk w3 w2.heap.size [.int .i64 c, .int .i64 d, .slice aW nW cW, .slice (some ⟨gG, 0, none⟩) nG cG, .slice (some ⟨gA, 0, none⟩) nA cA] := by rw [e3]; exact bk_new w2 34 [.int .i64 c, .int .i64 d, .slice aW nW cW, .slice (some ⟨gG, 0, none⟩) nG cG, .slice (some ⟨gA, 0, none⟩) nA cA]
  clear e3
  clear yA0 zA0 yA1 zA1 yA2 zA2 yA3 zA3 yA4 zA4 hlA yR0 zR0 yR1 zR1 yR2 zR2 yR3 zR3 yR4 zR4 hlR
  have B10 : Hid (Below w.heap.size w w3) := bthen B6.out hb3
  have A10 : Hid (Bk w3 w.heap.size [.int .i64 c, .int .i64 d, .slice (some ⟨b1, 0, none⟩) nW nW, .slice (some ⟨b2, 0, none⟩) nG nG, .slice (some ⟨b3, 0, none⟩) nA nA]) := A6.out.below hb3
  have R10 : Hid (Bk w3 (w.heap.size + 1) [.int .i64 0, .int .i64 0, .slice none 0 0, .slice none 0 0, .slice none 0 0]) := R6.out.below hb3
  have C10 : Hid (CopyO lo w3 (.agg #[.int .i64 c, .int .i64 d, .slice (some ⟨b1, 0, none⟩) nW nW, .slice (some ⟨b2, 0, none⟩) nG nG, .slice (some ⟨b3, 0, none⟩) nA nA]) ⟨c, d, nW, Z, nG, G, nA, N, O⟩) := C6.out.below hb3
  have O1_10 : Hid (RW lw hi w3 (.slice aW nW cW) nW Z gW) := O1_7.out.below hb3
  have O2_10 : Hid (RI lw hi w3 (.slice (some ⟨gG, 0, none⟩) nG cG) nG G gG) := O2_8.out.below hb3
  have O3_10 : Hid (RO lw hi w3 (.slice (some ⟨gA, 0, none⟩) nA cA) nA N O gA sl xs) := O3_9.out.below hb3
  clear B6 A6 R6 C6 O1_7 O2_8 O3_9
  clear hb3
  obtain ⟨gx, egx⟩ : ∃ g, g = w2.heap.size := ⟨_, rfl⟩
  rw [← egx] at X3 ⊢
  have gx1 : gx ≤ w2.heap.size := by omega
  have gx2 : w2.heap.size ≤ gx := by omega
  clear egx
  have X11 : Hid (Bk w3 gx [.int .i64 c, .int .i64 d, .slice aW nW cW, .slice (some ⟨gG, 0, none⟩) nG cG, .slice (some ⟨gA, 0, none⟩) nA cA]) := X3
  clear X3
  have hc : IntKind.wrap .i64 (c - 1) = c - 1 := by simp [IntKind.wrap, IntKind.bits, IntKind.signed]; omega
  have hokB : okB c d = true := by simp only [OV.ok, Bool.and_eq_true] at hok; exact hok.1
  have hmay : OV.may ⟨c, d, nW, Z, nG, G, nA, N, O⟩ cell side n = (inB cell 0 (c - 1) && (inB side 0 1 && (inB n 1 (O cell.toNat side.toNat) && decide (G cell.toNat + n ≤ 900)))) := by simp [OV.may, hasB, hokB]
  have HMAY : Hid (OV.may ⟨c, d, nW, Z, nG, G, nA, N, O⟩ cell side n = (inB cell 0 (c - 1) && (inB side 0 1 && (inB n 1 (O cell.toNat side.toNat) && decide (G cell.toNat + n ≤ 900))))) := hmay
  have HOK : Hid (OV.ok ⟨c, d, nW, Z, nG, G, nA, N, O⟩ = true) := hok
  clear hmay hokB hok
  have yR0 : w3.cell? ⟨(w.heap.size + 1), 0, none⟩ = some (.int .i64 0) := (R10.out.2 0 (by simp)).1
  have zR0 : w3.frozen? ⟨(w.heap.size + 1), 0, none⟩ = false := (R10.out.2 0 (by simp)).2
  have yR1 : w3.cell? ⟨(w.heap.size + 1), 1, none⟩ = some (.int .i64 0) := (R10.out.2 1 (by simp)).1
  have zR1 : w3.frozen? ⟨(w.heap.size + 1), 1, none⟩ = false := (R10.out.2 1 (by simp)).2
  have yR2 : w3.cell? ⟨(w.heap.size + 1), 2, none⟩ = some (.slice none 0 0) := (R10.out.2 2 (by simp)).1
  have zR2 : w3.frozen? ⟨(w.heap.size + 1), 2, none⟩ = false := (R10.out.2 2 (by simp)).2
  have yR3 : w3.cell? ⟨(w.heap.size + 1), 3, none⟩ = some (.slice none 0 0) := (R10.out.2 3 (by simp)).1
  have zR3 : w3.frozen? ⟨(w.heap.size + 1), 3, none⟩ = false := (R10.out.2 3 (by simp)).2
  have yR4 : w3.cell? ⟨(w.heap.size + 1), 4, none⟩ = some (.slice none 0 0) := (R10.out.2 4 (by simp)).1
  have zR4 : w3.frozen? ⟨(w.heap.size + 1), 4, none⟩ = false := (R10.out.2 4 (by simp)).2
  have hlR : (w.heap.size + 1) < w3.heap.size := R10.out.1
  have yX0 : w3.cell? ⟨gx, 0, none⟩ = some (.int .i64 c) := (X11.out.2 0 (by simp)).1
  have zX0 : w3.frozen? ⟨gx, 0, none⟩ = false := (X11.out.2 0 (by simp)).2
  have yX1 : w3.cell? ⟨gx, 1, none⟩ = some (.int .i64 d) := (X11.out.2 1 (by simp)).1
  have zX1 : w3.frozen? ⟨gx, 1, none⟩ = false := (X11.out.2 1 (by simp)).2
  have yX2 : w3.cell? ⟨gx, 2, none⟩ = some (.slice aW nW cW) := (X11.out.2 2 (by simp)).1
  have zX2 : w3.frozen? ⟨gx, 2, none⟩ = false := (X11.out.2 2 (by simp)).2
  have yX3 : w3.cell? ⟨gx, 3, none⟩ = some (.slice (some ⟨gG, 0, none⟩) nG cG) := (X11.out.2 3 (by simp)).1
  have zX3 : w3.frozen? ⟨gx, 3, none⟩ = false := (X11.out.2 3 (by simp)).2
  have yX4 : w3.cell? ⟨gx, 4, none⟩ = some (.slice (some ⟨gA, 0, none⟩) nA cA) := (X11.out.2 4 (by simp)).1
  have zX4 : w3.frozen? ⟨gx, 4, none⟩ = false := (X11.out.2 4 (by simp)).2
  have hlX : gx < w3.heap.size := X11.out.1
  refine (in_spec _ _ _ _).mono ?_
  rintro e w9 ⟨rfl, e9⟩
  obtain rfl := e9.symm
  cases m1 : inB cell 0 (c - 1)
  · have hdn : Hid (OV.down ⟨c, d, nW, Z, nG, G, nA, N, O⟩ cell side n = ⟨c, d, nW, Z, nG, G, nA, N, O⟩) := by unfold Hid; rw [OV.down, if_pos HOK.out, if_neg (by rw [HMAY.out, m1]; simp)]
    go_wp2
    refine bodyPost_ret (v := .agg #[.int .i64 c, .int .i64 d, .slice aW nW cW, .slice (some ⟨gG, 0, none⟩) nG cG, .slice (some ⟨gA, 0, none⟩) nA cA]) (P6.results_mid (P := Try.prog) (fn := Try.f16) Try.results16 _ _ (w.heap.size + 1) [.int .i64 c, .int .i64 d, .slice aW nW cW, .slice (some ⟨gG, 0, none⟩) nG cG, .slice (some ⟨gA, 0, none⟩) nA cA] _ rfl (P6.Bk.range (Bk.set (j := 4) (v := .slice (some ⟨gA, 0, none⟩) nA cA) (Bk.set (j := 3) (v := .slice (some ⟨gG, 0, none⟩) nG cG) (Bk.set (j := 2) (v := .slice aW nW cW) (Bk.set (j := 1) (v := .int .i64 d) (Bk.set (j := 0) (v := .int .i64 c) R10.out (by simp)) (by simp)) (by simp)) (by simp)) (by simp))) Try.underlying34 rfl (by kernel_rfl)) rfl ⟨⟨_, rfl, by rw [hdn.out]; exact OwnW.wide2 (own_put5 (OwnW.mk O1_10.out O2_10.out O3_10.out H4.out H5.out H6.out) (show w.heap.size + 1 < lw by omega)) (by omega) (by rw [set_size, set_size, set_size, set_size, set_size]; omega) (Nat.le_refl _)⟩, (((((B10.out.setCell (by show w.heap.size ≤ w.heap.size + 1; omega) _).setCell (by show w.heap.size ≤ w.heap.size + 1; omega) _).setCell (by show w.heap.size ≤ w.heap.size + 1; omega) _).setCell (by show w.heap.size ≤ w.heap.size + 1; omega) _).setCell (by show w.heap.size ≤ w.heap.size + 1; omega) _)⟩
  go_wp2_with fail
  refine (in_spec _ _ _ _).mono ?_
  rintro e w9 ⟨rfl, e9⟩
  obtain rfl := e9.symm
  cases m2 : inB side 0 1
  · have hdn : Hid (OV.down ⟨c, d, nW, Z, nG, G, nA, N, O⟩ cell side n = ⟨c, d, nW, Z, nG, G, nA, N, O⟩) := by unfold Hid; rw [OV.down, if_pos HOK.out, if_neg (by rw [HMAY.out, m2]; simp)]
    go_wp2
    refine bodyPost_ret (v := .agg #[.int .i64 c, .int .i64 d, .slice aW nW cW, .slice (some ⟨gG, 0, none⟩) nG cG, .slice (some ⟨gA, 0, none⟩) nA cA]) (P6.results_mid (P := Try.prog) (fn := Try.f16) Try.results16 _ _ (w.heap.size + 1) [.int .i64 c, .int .i64 d, .slice aW nW cW, .slice (some ⟨gG, 0, none⟩) nG cG, .slice (some ⟨gA, 0, none⟩) nA cA] _ rfl (P6.Bk.range (Bk.set (j := 4) (v := .slice (some ⟨gA, 0, none⟩) nA cA) (Bk.set (j := 3) (v := .slice (some ⟨gG, 0, none⟩) nG cG) (Bk.set (j := 2) (v := .slice aW nW cW) (Bk.set (j := 1) (v := .int .i64 d) (Bk.set (j := 0) (v := .int .i64 c) R10.out (by simp)) (by simp)) (by simp)) (by simp)) (by simp))) Try.underlying34 rfl (by kernel_rfl)) rfl ⟨⟨_, rfl, by rw [hdn.out]; exact OwnW.wide2 (own_put5 (OwnW.mk O1_10.out O2_10.out O3_10.out H4.out H5.out H6.out) (show w.heap.size + 1 < lw by omega)) (by omega) (by rw [set_size, set_size, set_size, set_size, set_size]; omega) (Nat.le_refl _)⟩, (((((B10.out.setCell (by show w.heap.size ≤ w.heap.size + 1; omega) _).setCell (by show w.heap.size ≤ w.heap.size + 1; omega) _).setCell (by show w.heap.size ≤ w.heap.size + 1; omega) _).setCell (by show w.heap.size ≤ w.heap.size + 1; omega) _).setCell (by show w.heap.size ≤ w.heap.size + 1; omega) _)⟩
  obtain ⟨q1, q2⟩ := inB_true.1 m1
  obtain ⟨r1, r2⟩ := inB_true.1 m2
  obtain ⟨k, hck⟩ : ∃ k : Nat, cell = k := ⟨cell.toNat, by omega⟩
  obtain ⟨j, hcj⟩ : ∃ j : Nat, side = j := ⟨side.toNat, by omega⟩
  subst hck
  subst hcj
  have HM2 : Hid (OV.may ⟨c, d, nW, Z, nG, G, nA, N, O⟩ k j n = (inB n 1 (O k j) && decide (G k + n ≤ 900))) := by unfold Hid; rw [HMAY.out, m1, m2]; simp
  clear HMAY
  have hkA : k < nA := by have := EG.out; omega
  have hkG : k < nG := by have := EG.out; omega
  obtain ⟨hN2, hA2⟩ := BA.out k hkA
  obtain ⟨a0, a1⟩ := hA2 j (by omega)
  obtain ⟨g0, g1⟩ := BG.out k hkG
  obtain ⟨xc, exk, x1, x2, hxo⟩ : ∃ c, sl k = .slice (some ⟨xs k, 0, none⟩) 2 c ∧ lw ≤ xs k ∧ xs k < hi ∧ True := by
    rcases HSL.out k hkA with ⟨h, _⟩ | ⟨c, e1, e2, e3, _⟩
    · omega
    · exact ⟨c, by rw [e1, hN2], e2, e3, trivial⟩
  have hcA : w3.cell? ⟨gA, k, none⟩ = some (.slice (some ⟨xs k, 0, none⟩) 2 xc) := by
    rcases O3_10.out with ⟨h, _⟩ | ⟨_, _, _, _, _, q⟩
    · omega
    · rw [← exk]; exact (q k hkA).1
  obtain ⟨hcx, hfx⟩ : w3.cell? ⟨xs k, j, none⟩ = some (.int .i64 (O k j)) ∧ w3.frozen? ⟨xs k, j, none⟩ = false := by
    rcases O3_10.out with ⟨h, _⟩ | ⟨_, _, _, _, _, q⟩
    · omega
    · rcases (q k hkA).2 with ⟨h, _⟩ | ⟨_, _, _, _, _, u⟩
      · omega
      · exact ⟨u.2 j (by omega), (u.1 j (by omega)).2⟩
  obtain ⟨hcg, hfg⟩ : w3.cell? ⟨gG, k, none⟩ = some (.int .i64 (G k)) ∧ w3.frozen? ⟨gG, k, none⟩ = false := by
    rcases O2_10.out with ⟨h, _⟩ | ⟨_, _, _, _, _, u⟩
    · omega
    · exact ⟨u.2 k hkG, (u.1 k hkG).2⟩
  have hkA' : (k : Int) < nA := by omega
  have hkG' : (k : Int) < nG := by omega
  have hj' : (j : Int) < 2 := by omega
  have nxg := (H5.out k hkA).2.1
  have nxa := (H5.out k hkA).2.2
  have nga := H4.out.2.2
  have HN2 : Hid (N k = 2) := hN2
  obtain ⟨xk, hxk⟩ : ∃ t, t = xs k := ⟨_, rfl⟩
  rw [← hxk] at hcA hcx hfx x1 x2 nxg nxa
  have HXK : Hid (xk = xs k) := hxk
  clear exk hN2 hxk hA2 m1 m2
  go_wp2_with fail
  refine (in_spec _ _ _ _).mono ?_
  rintro e w9 ⟨rfl, e9⟩
  obtain rfl := e9.symm
  cases m3 : inB n 1 (O k j)
  · have hdn : Hid (OV.down ⟨c, d, nW, Z, nG, G, nA, N, O⟩ k j n = ⟨c, d, nW, Z, nG, G, nA, N, O⟩) := by unfold Hid; rw [OV.down, if_pos HOK.out, if_neg (by rw [HM2.out, m3]; simp)]
    go_wp2
    refine bodyPost_ret (v := .agg #[.int .i64 c, .int .i64 d, .slice aW nW cW, .slice (some ⟨gG, 0, none⟩) nG cG, .slice (some ⟨gA, 0, none⟩) nA cA]) (P6.results_mid (P := Try.prog) (fn := Try.f16) Try.results16 _ _ (w.heap.size + 1) [.int .i64 c, .int .i64 d, .slice aW nW cW, .slice (some ⟨gG, 0, none⟩) nG cG, .slice (some ⟨gA, 0, none⟩) nA cA] _ rfl (P6.Bk.range (Bk.set (j := 4) (v := .slice (some ⟨gA, 0, none⟩) nA cA) (Bk.set (j := 3) (v := .slice (some ⟨gG, 0, none⟩) nG cG) (Bk.set (j := 2) (v := .slice aW nW cW) (Bk.set (j := 1) (v := .int .i64 d) (Bk.set (j := 0) (v := .int .i64 c) R10.out (by simp)) (by simp)) (by simp)) (by simp)) (by simp))) Try.underlying34 rfl (by kernel_rfl)) rfl ⟨⟨_, rfl, by rw [hdn.out]; exact OwnW.wide2 (own_put5 (OwnW.mk O1_10.out O2_10.out O3_10.out H4.out H5.out H6.out) (show w.heap.size + 1 < lw by omega)) (by omega) (by rw [set_size, set_size, set_size, set_size, set_size]; omega) (Nat.le_refl _)⟩, (((((B10.out.setCell (by show w.heap.size ≤ w.heap.size + 1; omega) _).setCell (by show w.heap.size ≤ w.heap.size + 1; omega) _).setCell (by show w.heap.size ≤ w.heap.size + 1; omega) _).setCell (by show w.heap.size ≤ w.heap.size + 1; omega) _).setCell (by show w.heap.size ≤ w.heap.size + 1; omega) _)⟩
  obtain ⟨n0, n1⟩ := inB_true.1 m3
  have hw1 : IntKind.wrap .i64 (O k j - n) = O k j - n := by simp [IntKind.wrap, IntKind.bits, IntKind.signed]; omega
  have hw2 : IntKind.wrap .i64 (G k + n) = G k + n := by simp [IntKind.wrap, IntKind.bits, IntKind.signed]; omega
  by_cases m4 : 900 < G k + n
  · have hdn : Hid (OV.down ⟨c, d, nW, Z, nG, G, nA, N, O⟩ k j n = ⟨c, d, nW, Z, nG, G, nA, N, O⟩) := by unfold Hid; rw [OV.down, if_pos HOK.out, if_neg (by rw [HM2.out, m3]; simp; omega)]
    go_wp2
    refine bodyPost_ret (v := .agg #[.int .i64 c, .int .i64 d, .slice aW nW cW, .slice (some ⟨gG, 0, none⟩) nG cG, .slice (some ⟨gA, 0, none⟩) nA cA]) (P6.results_mid (P := Try.prog) (fn := Try.f16) Try.results16 _ _ (w.heap.size + 1) [.int .i64 c, .int .i64 d, .slice aW nW cW, .slice (some ⟨gG, 0, none⟩) nG cG, .slice (some ⟨gA, 0, none⟩) nA cA] _ rfl (P6.Bk.range (Bk.set (j := 4) (v := .slice (some ⟨gA, 0, none⟩) nA cA) (Bk.set (j := 3) (v := .slice (some ⟨gG, 0, none⟩) nG cG) (Bk.set (j := 2) (v := .slice aW nW cW) (Bk.set (j := 1) (v := .int .i64 d) (Bk.set (j := 0) (v := .int .i64 c) R10.out (by simp)) (by simp)) (by simp)) (by simp)) (by simp))) Try.underlying34 rfl (by kernel_rfl)) rfl ⟨⟨_, rfl, by rw [hdn.out]; exact OwnW.wide2 (own_put5 (OwnW.mk O1_10.out O2_10.out O3_10.out H4.out H5.out H6.out) (show w.heap.size + 1 < lw by omega)) (by omega) (by rw [set_size, set_size, set_size, set_size, set_size]; omega) (Nat.le_refl _)⟩, (((((B10.out.setCell (by show w.heap.size ≤ w.heap.size + 1; omega) _).setCell (by show w.heap.size ≤ w.heap.size + 1; omega) _).setCell (by show w.heap.size ≤ w.heap.size + 1; omega) _).setCell (by show w.heap.size ≤ w.heap.size + 1; omega) _).setCell (by show w.heap.size ≤ w.heap.size + 1; omega) _)⟩
  have HDN : Hid (OV.down ⟨c, d, nW, Z, nG, G, nA, N, O⟩ k j n = OV.fell ⟨c, d, nW, Z, nG, G, nA, N, O⟩ k j n) := by unfold Hid; rw [OV.down, if_pos HOK.out, if_pos (by rw [HM2.out, m3]; simp; omega)]; simp
  clear m3
  go_wp2
  go_region
  obtain ⟨u5, e5⟩ : ∃ y, y = (w3.setCell ⟨xk, j, none⟩ (.int .i64 (O k j - n))).drew := ⟨_, rfl⟩
  rw [← e5]
  have ta : u5.cell? ⟨gx, 0, none⟩ = some (.int .i64 c) := by rw [e5]; exact (set_out (fun e => by omega)).trans yX0
  have tb : u5.cell? ⟨gx, 1, none⟩ = some (.int .i64 d) := by rw [e5]; exact (set_out (fun e => by omega)).trans yX1
  have tc : u5.cell? ⟨gx, 2, none⟩ = some (.slice aW nW cW) := by rw [e5]; exact (set_out (fun e => by omega)).trans yX2
  have td : u5.cell? ⟨gx, 3, none⟩ = some (.slice (some ⟨gG, 0, none⟩) nG cG) := by rw [e5]; exact (set_out (fun e => by omega)).trans yX3
  have te : u5.cell? ⟨gx, 4, none⟩ = some (.slice (some ⟨gA, 0, none⟩) nA cA) := by rw [e5]; exact (set_out (fun e => by omega)).trans yX4
  have tg : u5.cell? ⟨gG, k, none⟩ = some (.int .i64 (G k)) := by rw [e5]; exact (set_out (fun e => nxg e.1)).trans hcg
  have tf : u5.frozen? ⟨gG, k, none⟩ = false := by rw [e5]; exact set_frozen.trans hfg
  have E5 : Hid (u5 = (w3.setCell ⟨xk, j, none⟩ (.int .i64 (O k j - n))).drew) := e5
  have zu : gx < u5.heap.size := by rw [e5]; show gx < (w3.setCell ⟨xk, j, none⟩ (.int .i64 (O k j - n))).heap.size; rw [set_size]; exact hlX
  have zg : gG < u5.heap.size := by omega
  clear e5 hcA hcx hfx hcg hfg yR0 yR1 yR2 yR3 yR4 yX0 yX1 yX2 yX3 yX4 zR0 zR1 zR2 zR3 zR4 zX0 zX1 zX2 zX3 zX4 hlR hlX
  go_wp2
  go_region
  obtain ⟨w5, e5⟩ : ∃ y, y = (u5.setCell ⟨gG, k, none⟩ (.int .i64 (G k + n))).drew := ⟨_, rfl⟩
  rw [← e5]
  have ew : w5 = ((w3.setCell ⟨xk, j, none⟩ (.int .i64 (O k j - n))).setCell ⟨gG, k, none⟩ (.int .i64 (G k + n))).drew.drew := by rw [e5, E5.out]; rfl
  clear e5 E5 ta tb tc td te tg tf zu zg
  obtain ⟨w6, e6⟩ : ∃ y, y = (w3.setCell ⟨xk, j, none⟩ (.int .i64 (O k j - n))).setCell ⟨gG, k, none⟩ (.int .i64 (G k + n)) := ⟨_, rfl⟩
  rw [← e6] at ew
  have hb6 : Below w6.heap.size w6 w5 := by rw [ew]; exact (Below.refl _ _).drew.drew
  have OW6 : OwnW lw hi w6 (.agg #[.int .i64 c, .int .i64 d, .slice aW nW cW, .slice (some ⟨gG, 0, none⟩) nG cG, .slice (some ⟨gA, 0, none⟩) nA cA]) (OV.fell ⟨c, d, nW, Z, nG, G, nA, N, O⟩ k j n) := own_fell (V := ⟨c, d, nW, Z, nG, G, nA, N, O⟩) O1_10.out O2_10.out O3_10.out H4.out H5.out H6.out hkA hkG (by show j < N k; rw [HN2.out]; omega) (by rw [e6, HXK.out])
  have z6 : hi ≤ w6.heap.size := by rw [e6, set_size, set_size]; have := X11.out.1; omega
  have OW5 : Hid (OwnW lw hi w5 (.agg #[.int .i64 c, .int .i64 d, .slice aW nW cW, .slice (some ⟨gG, 0, none⟩) nG cG, .slice (some ⟨gA, 0, none⟩) nA cA]) (OV.fell ⟨c, d, nW, Z, nG, G, nA, N, O⟩ k j n)) := OW6.lt z6 hb6
  have R5 : Hid (Bk w5 (w.heap.size + 1) [.int .i64 0, .int .i64 0, .slice none 0 0, .slice none 0 0, .slice none 0 0]) := Bk.below (W := w6) (by rw [e6]; exact (R10.out.far (by omega)).far (by omega)) hb6
  have X5 : Hid (Bk w5 gx [.int .i64 c, .int .i64 d, .slice aW nW cW, .slice (some ⟨gG, 0, none⟩) nG cG, .slice (some ⟨gA, 0, none⟩) nA cA]) := Bk.below (W := w6) (by rw [e6]; exact (X11.out.far (by omega)).far (by omega)) hb6
  have B5 : Hid (Below w.heap.size w w5) := by
    refine Below.trans (b := w6) (by rw [e6]; exact (B10.out.setCell (by show w.heap.size ≤ xk; omega) _).setCell (by show w.heap.size ≤ gG; omega) _) (hb6.mono (by omega))
  have z5 : hi ≤ w5.heap.size := Nat.le_trans z6 hb6.size
  clear ew e6 OW6 hb6 z6
  have yR0 : w5.cell? ⟨(w.heap.size + 1), 0, none⟩ = some (.int .i64 0) := (R5.out.2 0 (by simp)).1
  have zR0 : w5.frozen? ⟨(w.heap.size + 1), 0, none⟩ = false := (R5.out.2 0 (by simp)).2
  have yR1 : w5.cell? ⟨(w.heap.size + 1), 1, none⟩ = some (.int .i64 0) := (R5.out.2 1 (by simp)).1
  have zR1 : w5.frozen? ⟨(w.heap.size + 1), 1, none⟩ = false := (R5.out.2 1 (by simp)).2
  have yR2 : w5.cell? ⟨(w.heap.size + 1), 2, none⟩ = some (.slice none 0 0) := (R5.out.2 2 (by simp)).1
  have zR2 : w5.frozen? ⟨(w.heap.size + 1), 2, none⟩ = false := (R5.out.2 2 (by simp)).2
  have yR3 : w5.cell? ⟨(w.heap.size + 1), 3, none⟩ = some (.slice none 0 0) := (R5.out.2 3 (by simp)).1
  have zR3 : w5.frozen? ⟨(w.heap.size + 1), 3, none⟩ = false := (R5.out.2 3 (by simp)).2
  have yR4 : w5.cell? ⟨(w.heap.size + 1), 4, none⟩ = some (.slice none 0 0) := (R5.out.2 4 (by simp)).1
  have zR4 : w5.frozen? ⟨(w.heap.size + 1), 4, none⟩ = false := (R5.out.2 4 (by simp)).2
  have hlR : (w.heap.size + 1) < w5.heap.size := R5.out.1
  have yX0 : w5.cell? ⟨gx, 0, none⟩ = some (.int .i64 c) := (X5.out.2 0 (by simp)).1
  have zX0 : w5.frozen? ⟨gx, 0, none⟩ = false := (X5.out.2 0 (by simp)).2
  have yX1 : w5.cell? ⟨gx, 1, none⟩ = some (.int .i64 d) := (X5.out.2 1 (by simp)).1
  have zX1 : w5.frozen? ⟨gx, 1, none⟩ = false := (X5.out.2 1 (by simp)).2
  have yX2 : w5.cell? ⟨gx, 2, none⟩ = some (.slice aW nW cW) := (X5.out.2 2 (by simp)).1
  have zX2 : w5.frozen? ⟨gx, 2, none⟩ = false := (X5.out.2 2 (by simp)).2
  have yX3 : w5.cell? ⟨gx, 3, none⟩ = some (.slice (some ⟨gG, 0, none⟩) nG cG) := (X5.out.2 3 (by simp)).1
  have zX3 : w5.frozen? ⟨gx, 3, none⟩ = false := (X5.out.2 3 (by simp)).2
  have yX4 : w5.cell? ⟨gx, 4, none⟩ = some (.slice (some ⟨gA, 0, none⟩) nA cA) := (X5.out.2 4 (by simp)).1
  have zX4 : w5.frozen? ⟨gx, 4, none⟩ = false := (X5.out.2 4 (by simp)).2
  have hlX : gx < w5.heap.size := X5.out.1
  go_wp2
  refine bodyPost_ret (v := .agg #[.int .i64 c, .int .i64 d, .slice aW nW cW, .slice (some ⟨gG, 0, none⟩) nG cG, .slice (some ⟨gA, 0, none⟩) nA cA]) (P6.results_mid (P := Try.prog) (fn := Try.f16) Try.results16 _ _ (w.heap.size + 1) [.int .i64 c, .int .i64 d, .slice aW nW cW, .slice (some ⟨gG, 0, none⟩) nG cG, .slice (some ⟨gA, 0, none⟩) nA cA] _ rfl (P6.Bk.range (Bk.set (j := 4) (v := .slice (some ⟨gA, 0, none⟩) nA cA) (Bk.set (j := 3) (v := .slice (some ⟨gG, 0, none⟩) nG cG) (Bk.set (j := 2) (v := .slice aW nW cW) (Bk.set (j := 1) (v := .int .i64 d) (Bk.set (j := 0) (v := .int .i64 c) R5.out (by simp)) (by simp)) (by simp)) (by simp)) (by simp))) Try.underlying34 rfl (by kernel_rfl)) rfl ⟨⟨_, rfl, by rw [HDN.out]; exact OwnW.wide2 (own_put5 OW5.out (show w.heap.size + 1 < lw by omega)) (by omega) (by rw [set_size, set_size, set_size, set_size, set_size]; omega) (Nat.le_refl _)⟩, (((((B5.out.setCell (by show w.heap.size ≤ w.heap.size + 1; omega) _).setCell (by show w.heap.size ≤ w.heap.size + 1; omega) _).setCell (by show w.heap.size ≤ w.heap.size + 1; omega) _).setCell (by show w.heap.size ≤ w.heap.size + 1; omega) _).setCell (by show w.heap.size ≤ w.heap.size + 1; omega) _)⟩
end Go.Proofs.Ytoickljpjlhkoaa
