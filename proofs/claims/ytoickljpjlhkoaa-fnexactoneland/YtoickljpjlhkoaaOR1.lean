/- OneLand of the program; conditions: those typed. -/
import Derived.Test.YtoickljpjlhkoaaOQ
namespace Go.Proofs.Ytoickljpjlhkoaa
open Go.RowKit Go.Deep
set_option linter.unusedVariables false


set_option maxRecDepth 20000 in
set_option maxHeartbeats 4000000 in
theorem oneLand_impl (lo : Nat) (v : Value) (V : OV) (id : Int) (hs : V.short 1048576) (w : World) (h : CopyO lo w v V) :
    Calls Try.prog 13 #[v, .int .i64 id] w fun e w' => (∃ v', e = .returned v' ∧ OwnW w.heap.size w'.heap.size w' v' (V.land id)) ∧ Below w.heap.size w w' := by
  have HC : Hid (CopyO lo w v V) := h
  have HS : Hid (V.short 1048576) := hs
  obtain ⟨b1, b2, b3, l1, l2, l3, l4, rfl, _, _, _⟩ := h
  obtain ⟨c, d, nW, Z, nG, G, nA, N, O⟩ := V
  simp only at HC HS l4
  cases hok : OV.ok ⟨c, d, nW, Z, nG, G, nA, N, O⟩
  · have hv : OV.land ⟨c, d, nW, Z, nG, G, nA, N, O⟩ id = OV.none := by rw [OV.land, if_neg (by rw [hok]; simp)]
    rw [hv]
    clear hv
    go_enter Try.func13, Try.ntmps13
    go_wp2_with fail
    obtain ⟨w0, e0⟩ : ∃ w0, w0 = (w.alloc (.cells #[.int .i64 c, .int .i64 d, .slice (some ⟨b1, 0, none⟩) nW nW, .slice (some ⟨b2, 0, none⟩) nG nG, .slice (some ⟨b3, 0, none⟩) nA nA] 34)).alloc (.cells #[.int .i64 0, .int .i64 0, .slice none 0 0, .slice none 0 0, .slice none 0 0] 34) := ⟨_, rfl⟩
    have B1 : Hid (Below w.heap.size w w0) := by rw [e0]; exact ((Below.refl _ _).alloc (by simp) _).alloc (by simp) _
    have A2 : Hid (Bk w0 w.heap.size [.int .i64 c, .int .i64 d, .slice (some ⟨b1, 0, none⟩) nW nW, .slice (some ⟨b2, 0, none⟩) nG nG, .slice (some ⟨b3, 0, none⟩) nA nA]) := by rw [e0]; exact (bk_new w 34 [.int .i64 c, .int .i64 d, .slice (some ⟨b1, 0, none⟩) nW nW, .slice (some ⟨b2, 0, none⟩) nG nG, .slice (some ⟨b3, 0, none⟩) nA nA]).below ((Below.refl _ _).alloc (Nat.le_refl _) _)
    have R3 : Hid (Bk w0 (w.heap.size + 1) [.int .i64 0, .int .i64 0, .slice none 0 0, .slice none 0 0, .slice none 0 0]) := by rw [e0]; have := bk_new (w.alloc (.cells #[.int .i64 c, .int .i64 d, .slice (some ⟨b1, 0, none⟩) nW nW, .slice (some ⟨b2, 0, none⟩) nG nG, .slice (some ⟨b3, 0, none⟩) nA nA] 34)) 34 [.int .i64 0, .int .i64 0, .slice none 0 0, .slice none 0 0, .slice none 0 0]; rwa [show (w.alloc (.cells #[.int .i64 c, .int .i64 d, .slice (some ⟨b1, 0, none⟩) nW nW, .slice (some ⟨b2, 0, none⟩) nG nG, .slice (some ⟨b3, 0, none⟩) nA nA] 34)).heap.size = w.heap.size + 1 by simp] at this
    rw [← e0]
    clear e0
    have C4 : Hid (CopyO lo w0 (.agg #[.int .i64 c, .int .i64 d, .slice (some ⟨b1, 0, none⟩) nW nW, .slice (some ⟨b2, 0, none⟩) nG nG, .slice (some ⟨b3, 0, none⟩) nA nA]) ⟨c, d, nW, Z, nG, G, nA, N, O⟩) := CopyO.below HC.out B1.out
    refine (oneOk_impl _ ⟨c, d, nW, Z, nG, G, nA, N, O⟩ HS.out _ C4.out.at).mono ?_
    rintro e w1 ⟨rfl, hb1⟩
    have B5 : Hid (Below w.heap.size w w1) := bthen B1.out hb1
    have A5 : Hid (Bk w1 w.heap.size [.int .i64 c, .int .i64 d, .slice (some ⟨b1, 0, none⟩) nW nW, .slice (some ⟨b2, 0, none⟩) nG nG, .slice (some ⟨b3, 0, none⟩) nA nA]) := A2.out.below hb1
    have R5 : Hid (Bk w1 (w.heap.size + 1) [.int .i64 0, .int .i64 0, .slice none 0 0, .slice none 0 0, .slice none 0 0]) := R3.out.below hb1
    have C5 : Hid (CopyO lo w1 (.agg #[.int .i64 c, .int .i64 d, .slice (some ⟨b1, 0, none⟩) nW nW, .slice (some ⟨b2, 0, none⟩) nG nG, .slice (some ⟨b3, 0, none⟩) nA nA]) ⟨c, d, nW, Z, nG, G, nA, N, O⟩) := C4.out.below hb1
    clear B1 A2 R3 C4
    clear hb1
    rw [hok]
    have yA0 : w1.cell? ⟨w.heap.size, 0, none⟩ = some (.int .i64 c) := (A5.out.2 0 (by simp)).1
    have zA0 : w1.frozen? ⟨w.heap.size, 0, none⟩ = false := (A5.out.2 0 (by simp)).2
    have yA1 : w1.cell? ⟨w.heap.size, 1, none⟩ = some (.int .i64 d) := (A5.out.2 1 (by simp)).1
    have zA1 : w1.frozen? ⟨w.heap.size, 1, none⟩ = false := (A5.out.2 1 (by simp)).2
    have yA2 : w1.cell? ⟨w.heap.size, 2, none⟩ = some (.slice (some ⟨b1, 0, none⟩) nW nW) := (A5.out.2 2 (by simp)).1
    have zA2 : w1.frozen? ⟨w.heap.size, 2, none⟩ = false := (A5.out.2 2 (by simp)).2
    have yA3 : w1.cell? ⟨w.heap.size, 3, none⟩ = some (.slice (some ⟨b2, 0, none⟩) nG nG) := (A5.out.2 3 (by simp)).1
    have zA3 : w1.frozen? ⟨w.heap.size, 3, none⟩ = false := (A5.out.2 3 (by simp)).2
    have yA4 : w1.cell? ⟨w.heap.size, 4, none⟩ = some (.slice (some ⟨b3, 0, none⟩) nA nA) := (A5.out.2 4 (by simp)).1
    have zA4 : w1.frozen? ⟨w.heap.size, 4, none⟩ = false := (A5.out.2 4 (by simp)).2
    have hlA : w.heap.size < w1.heap.size := A5.out.1
    have yR0 : w1.cell? ⟨(w.heap.size + 1), 0, none⟩ = some (.int .i64 0) := (R5.out.2 0 (by simp)).1
    have zR0 : w1.frozen? ⟨(w.heap.size + 1), 0, none⟩ = false := (R5.out.2 0 (by simp)).2
    have yR1 : w1.cell? ⟨(w.heap.size + 1), 1, none⟩ = some (.int .i64 0) := (R5.out.2 1 (by simp)).1
    have zR1 : w1.frozen? ⟨(w.heap.size + 1), 1, none⟩ = false := (R5.out.2 1 (by simp)).2
    have yR2 : w1.cell? ⟨(w.heap.size + 1), 2, none⟩ = some (.slice none 0 0) := (R5.out.2 2 (by simp)).1
    have zR2 : w1.frozen? ⟨(w.heap.size + 1), 2, none⟩ = false := (R5.out.2 2 (by simp)).2
    have yR3 : w1.cell? ⟨(w.heap.size + 1), 3, none⟩ = some (.slice none 0 0) := (R5.out.2 3 (by simp)).1
    have zR3 : w1.frozen? ⟨(w.heap.size + 1), 3, none⟩ = false := (R5.out.2 3 (by simp)).2
    have yR4 : w1.cell? ⟨(w.heap.size + 1), 4, none⟩ = some (.slice none 0 0) := (R5.out.2 4 (by simp)).1
    have zR4 : w1.frozen? ⟨(w.heap.size + 1), 4, none⟩ = false := (R5.out.2 4 (by simp)).2
    have hlR : (w.heap.size + 1) < w1.heap.size := R5.out.1
    go_wp2
    refine bodyPost_ret (v := .agg #[.int .i64 0, .int .i64 0, .slice none 0 0, .slice none 0 0, .slice none 0 0]) (P6.results_mid (P := Try.prog) (fn := Try.f13) Try.results13 _ _ (w.heap.size + 1) [.int .i64 0, .int .i64 0, .slice none 0 0, .slice none 0 0, .slice none 0 0] _ rfl (P6.Bk.range (Bk.set (j := 4) (v := .slice none 0 0) (Bk.set (j := 3) (v := .slice none 0 0) (Bk.set (j := 2) (v := .slice none 0 0) (Bk.set (j := 1) (v := .int .i64 0) (Bk.set (j := 0) (v := .int .i64 0) R5.out (by simp)) (by simp)) (by simp)) (by simp)) (by simp))) Try.underlying34 rfl (by kernel_rfl)) rfl ⟨⟨_, rfl, own_none _ _ _⟩, (((((B5.out.setCell (by show w.heap.size ≤ w.heap.size + 1; omega) _).setCell (by show w.heap.size ≤ w.heap.size + 1; omega) _).setCell (by show w.heap.size ≤ w.heap.size + 1; omega) _).setCell (by show w.heap.size ≤ w.heap.size + 1; omega) _).setCell (by show w.heap.size ≤ w.heap.size + 1; omega) _)⟩
  obtain ⟨⟨c0, c1, eG, eA⟩, bG, bA, _⟩ := OV.good hok
  simp only at c0 c1 eG eA bG bA
  have BA : Hid (∀ k, k < nA → N k = 2 ∧ ∀ j, j < 2 → 0 ≤ O k j ∧ O k j ≤ 100000) := bA
  have BG : Hid (∀ k, k < nG → 0 ≤ G k ∧ G k ≤ 900) := bG
  have hnG : 0 < nG := by omega
  have hnA : 0 < nA := by omega
  have EG : Hid ((nG : Int) = c ∧ (nA : Int) = c) := ⟨eG, eA⟩
  clear bA bG eG eA
  go_enter Try.func13, Try.ntmps13
  go_wp2_with fail
  obtain ⟨w0, e0⟩ : ∃ w0, w0 = (w.alloc (.cells #[.int .i64 c, .int .i64 d, .slice (some ⟨b1, 0, none⟩) nW nW, .slice (some ⟨b2, 0, none⟩) nG nG, .slice (some ⟨b3, 0, none⟩) nA nA] 34)).alloc (.cells #[.int .i64 0, .int .i64 0, .slice none 0 0, .slice none 0 0, .slice none 0 0] 34) := ⟨_, rfl⟩
  have B1 : Hid (Below w.heap.size w w0) := by rw [e0]; exact ((Below.refl _ _).alloc (by simp) _).alloc (by simp) _
  have A2 : Hid (Bk w0 w.heap.size [.int .i64 c, .int .i64 d, .slice (some ⟨b1, 0, none⟩) nW nW, .slice (some ⟨b2, 0, none⟩) nG nG, .slice (some ⟨b3, 0, none⟩) nA nA]) := by rw [e0]; exact (bk_new w 34 [.int .i64 c, .int .i64 d, .slice (some ⟨b1, 0, none⟩) nW nW, .slice (some ⟨b2, 0, none⟩) nG nG, .slice (some ⟨b3, 0, none⟩) nA nA]).below ((Below.refl _ _).alloc (Nat.le_refl _) _)
  have R3 : Hid (Bk w0 (w.heap.size + 1) [.int .i64 0, .int .i64 0, .slice none 0 0, .slice none 0 0, .slice none 0 0]) := by rw [e0]; have := bk_new (w.alloc (.cells #[.int .i64 c, .int .i64 d, .slice (some ⟨b1, 0, none⟩) nW nW, .slice (some ⟨b2, 0, none⟩) nG nG, .slice (some ⟨b3, 0, none⟩) nA nA] 34)) 34 [.int .i64 0, .int .i64 0, .slice none 0 0, .slice none 0 0, .slice none 0 0]; rwa [show (w.alloc (.cells #[.int .i64 c, .int .i64 d, .slice (some ⟨b1, 0, none⟩) nW nW, .slice (some ⟨b2, 0, none⟩) nG nG, .slice (some ⟨b3, 0, none⟩) nA nA] 34)).heap.size = w.heap.size + 1 by simp] at this
  rw [← e0]
  clear e0
  have C4 : Hid (CopyO lo w0 (.agg #[.int .i64 c, .int .i64 d, .slice (some ⟨b1, 0, none⟩) nW nW, .slice (some ⟨b2, 0, none⟩) nG nG, .slice (some ⟨b3, 0, none⟩) nA nA]) ⟨c, d, nW, Z, nG, G, nA, N, O⟩) := CopyO.below HC.out B1.out
  refine (oneOk_impl _ ⟨c, d, nW, Z, nG, G, nA, N, O⟩ HS.out _ C4.out.at).mono ?_
  rintro e w1 ⟨rfl, hb1⟩
  have B5 : Hid (Below w.heap.size w w1) := bthen B1.out hb1
  have A5 : Hid (Bk w1 w.heap.size [.int .i64 c, .int .i64 d, .slice (some ⟨b1, 0, none⟩) nW nW, .slice (some ⟨b2, 0, none⟩) nG nG, .slice (some ⟨b3, 0, none⟩) nA nA]) := A2.out.below hb1
  have R5 : Hid (Bk w1 (w.heap.size + 1) [.int .i64 0, .int .i64 0, .slice none 0 0, .slice none 0 0, .slice none 0 0]) := R3.out.below hb1
  have C5 : Hid (CopyO lo w1 (.agg #[.int .i64 c, .int .i64 d, .slice (some ⟨b1, 0, none⟩) nW nW, .slice (some ⟨b2, 0, none⟩) nG nG, .slice (some ⟨b3, 0, none⟩) nA nA]) ⟨c, d, nW, Z, nG, G, nA, N, O⟩) := C4.out.below hb1
  clear B1 A2 R3 C4
  clear hb1
  rw [hok]
  have yA0 : w1.cell? ⟨w.heap.size, 0, none⟩ = some (.int .i64 c) := (A5.out.2 0 (by simp)).1
  have zA0 : w1.frozen? ⟨w.heap.size, 0, none⟩ = false := (A5.out.2 0 (by simp)).2
  have yA1 : w1.cell? ⟨w.heap.size, 1, none⟩ = some (.int .i64 d) := (A5.out.2 1 (by simp)).1
  have zA1 : w1.frozen? ⟨w.heap.size, 1, none⟩ = false := (A5.out.2 1 (by simp)).2
  have yA2 : w1.cell? ⟨w.heap.size, 2, none⟩ = some (.slice (some ⟨b1, 0, none⟩) nW nW) := (A5.out.2 2 (by simp)).1
  have zA2 : w1.frozen? ⟨w.heap.size, 2, none⟩ = false := (A5.out.2 2 (by simp)).2
  have yA3 : w1.cell? ⟨w.heap.size, 3, none⟩ = some (.slice (some ⟨b2, 0, none⟩) nG nG) := (A5.out.2 3 (by simp)).1
  have zA3 : w1.frozen? ⟨w.heap.size, 3, none⟩ = false := (A5.out.2 3 (by simp)).2
  have yA4 : w1.cell? ⟨w.heap.size, 4, none⟩ = some (.slice (some ⟨b3, 0, none⟩) nA nA) := (A5.out.2 4 (by simp)).1
  have zA4 : w1.frozen? ⟨w.heap.size, 4, none⟩ = false := (A5.out.2 4 (by simp)).2
  have hlA : w.heap.size < w1.heap.size := A5.out.1
  have yR0 : w1.cell? ⟨(w.heap.size + 1), 0, none⟩ = some (.int .i64 0) := (R5.out.2 0 (by simp)).1
  have zR0 : w1.frozen? ⟨(w.heap.size + 1), 0, none⟩ = false := (R5.out.2 0 (by simp)).2
  have yR1 : w1.cell? ⟨(w.heap.size + 1), 1, none⟩ = some (.int .i64 0) := (R5.out.2 1 (by simp)).1
  have zR1 : w1.frozen? ⟨(w.heap.size + 1), 1, none⟩ = false := (R5.out.2 1 (by simp)).2
  have yR2 : w1.cell? ⟨(w.heap.size + 1), 2, none⟩ = some (.slice none 0 0) := (R5.out.2 2 (by simp)).1
  have zR2 : w1.frozen? ⟨(w.heap.size + 1), 2, none⟩ = false := (R5.out.2 2 (by simp)).2
  have yR3 : w1.cell? ⟨(w.heap.size + 1), 3, none⟩ = some (.slice none 0 0) := (R5.out.2 3 (by simp)).1
  have zR3 : w1.frozen? ⟨(w.heap.size + 1), 3, none⟩ = false := (R5.out.2 3 (by simp)).2
  have yR4 : w1.cell? ⟨(w.heap.size + 1), 4, none⟩ = some (.slice none 0 0) := (R5.out.2 4 (by simp)).1
  have zR4 : w1.frozen? ⟨(w.heap.size + 1), 4, none⟩ = false := (R5.out.2 4 (by simp)).2
  have hlR : (w.heap.size + 1) < w1.heap.size := R5.out.1
  have lwb0 := R5.out.1
  go_wp2_with fail
  refine (copyOne lo _ ⟨c, d, nW, Z, nG, G, nA, N, O⟩ HS.out hnG hnA (fun k hk => (BA.out k hk).1) _ C5.out).mono ?_
  rintro e w2 ⟨⟨v2, rfl, hO2⟩, hb2⟩
  clear yA0 zA0 yA1 zA1 yA2 zA2 yA3 zA3 yA4 zA4 hlA yR0 zR0 yR1 zR1 yR2 zR2 yR3 zR3 yR4 zR4 hlR
  have B6 : Hid (Below w.heap.size w w2) := bthen B5.out hb2
  have A6 : Hid (Bk w2 w.heap.size [.int .i64 c, .int .i64 d, .slice (some ⟨b1, 0, none⟩) nW nW, .slice (some ⟨b2, 0, none⟩) nG nG, .slice (some ⟨b3, 0, none⟩) nA nA]) := A5.out.below hb2
  have R6 : Hid (Bk w2 (w.heap.size + 1) [.int .i64 0, .int .i64 0, .slice none 0 0, .slice none 0 0, .slice none 0 0]) := R5.out.below hb2
  have C6 : Hid (CopyO lo w2 (.agg #[.int .i64 c, .int .i64 d, .slice (some ⟨b1, 0, none⟩) nW nW, .slice (some ⟨b2, 0, none⟩) nG nG, .slice (some ⟨b3, 0, none⟩) nA nA]) ⟨c, d, nW, Z, nG, G, nA, N, O⟩) := C5.out.below hb2
  clear B5 A5 R5 C5
  have z2 := hb2.size
  clear hb2
  obtain ⟨vW, vG, vA, gW, gG, gA, sl, xs, rfl, o1, o2, o3, o4, o5, o6⟩ := hO2
  simp only at o1 o2 o3 o5 o6
  obtain ⟨aW, cW, rfl, _⟩ := row_of_rw o1
  obtain ⟨cG, rfl, p1, p2, _, _⟩ : ∃ c, vG = .slice (some ⟨gG, 0, none⟩) nG c ∧ w1.heap.size ≤ gG ∧ gG < w2.heap.size ∧ True ∧ True := by
    rcases o2 with ⟨h, _⟩ | ⟨c, q1, q2, q3, _⟩
    · omega
    · exact ⟨c, q1, q2, q3, trivial, trivial⟩
  obtain ⟨cA, rfl, p3, p4, HSL⟩ : ∃ c, vA = .slice (some ⟨gA, 0, none⟩) nA c ∧ w1.heap.size ≤ gA ∧ gA < w2.heap.size ∧ Hid (∀ k, k < nA → RI w1.heap.size w2.heap.size w2 (sl k) (N k) (O k) (xs k)) := by
    rcases o3 with ⟨h, _⟩ | ⟨c, q1, q2, q3, _, q5⟩
    · omega
    · exact ⟨c, q1, q2, q3, fun k hk => (q5 k hk).2⟩
  obtain ⟨hi, ehi⟩ : ∃ t, t = w2.heap.size := ⟨_, rfl⟩
  obtain ⟨lw, elw⟩ : ∃ t, t = w1.heap.size := ⟨_, rfl⟩
  rw [← ehi, ← elw] at o1 o2 o3 HSL
  have hi1 : hi ≤ w2.heap.size := by omega
  have lw1 : lw ≤ w1.heap.size := by omega
  have lw2 : w1.heap.size ≤ lw := by omega
  have hi2 : w2.heap.size ≤ hi := by omega
  have lwb : w.heap.size + 1 < lw := by omega
  clear ehi elw
  have H4 : Hid (¬ gW = gG ∧ ¬ gW = gA ∧ ¬ gG = gA) := o4
  have H5 : Hid (∀ k, k < nA → ¬ xs k = gW ∧ ¬ xs k = gG ∧ ¬ xs k = gA) := o5
  have H6 : Hid (∀ i j, i < nA → j < nA → ¬ i = j → ¬ xs i = xs j) := o6
  clear o4 o5 o6
  have O1_7 : Hid (RW lw hi w2 (.slice aW nW cW) nW Z gW) := o1
  have O2_8 : Hid (RI lw hi w2 (.slice (some ⟨gG, 0, none⟩) nG cG) nG G gG) := o2
  have O3_9 : Hid (RO lw hi w2 (.slice (some ⟨gA, 0, none⟩) nA cA) nA N O gA sl xs) := o3
  clear o1 o2 o3
  have yA0 : w2.cell? ⟨w.heap.size, 0, none⟩ = some (.int .i64 c) := (A6.out.2 0 (by simp)).1
  have zA0 : w2.frozen? ⟨w.heap.size, 0, none⟩ = false := (A6.out.2 0 (by simp)).2
  have yA1 : w2.cell? ⟨w.heap.size, 1, none⟩ = some (.int .i64 d) := (A6.out.2 1 (by simp)).1
  have zA1 : w2.frozen? ⟨w.heap.size, 1, none⟩ = false := (A6.out.2 1 (by simp)).2
  have yA2 : w2.cell? ⟨w.heap.size, 2, none⟩ = some (.slice (some ⟨b1, 0, none⟩) nW nW) := (A6.out.2 2 (by simp)).1
  have zA2 : w2.frozen? ⟨w.heap.size, 2, none⟩ = false := (A6.out.2 2 (by simp)).2
  have yA3 : w2.cell? ⟨w.heap.size, 3, none⟩ = some (.slice (some ⟨b2, 0, none⟩) nG nG) := (A6.out.2 3 (by simp)).1
  have zA3 : w2.frozen? ⟨w.heap.size, 3, none⟩ = false := (A6.out.2 3 (by simp)).2
  have yA4 : w2.cell? ⟨w.heap.size, 4, none⟩ = some (.slice (some ⟨b3, 0, none⟩) nA nA) := (A6.out.2 4 (by simp)).1
  have zA4 : w2.frozen? ⟨w.heap.size, 4, none⟩ = false := (A6.out.2 4 (by simp)).2
  have hlA : w.heap.size < w2.heap.size := A6.out.1
  have yR0 : w2.cell? ⟨(w.heap.size + 1), 0, none⟩ = some (.int .i64 0) := (R6.out.2 0 (by simp)).1
  have zR0 : w2.frozen? ⟨(w.heap.size + 1), 0, none⟩ = false := (R6.out.2 0 (by simp)).2
  have yR1 : w2.cell? ⟨(w.heap.size + 1), 1, none⟩ = some (.int .i64 0) := (R6.out.2 1 (by simp)).1
  have zR1 : w2.frozen? ⟨(w.heap.size + 1), 1, none⟩ = false := (R6.out.2 1 (by simp)).2
  have yR2 : w2.cell? ⟨(w.heap.size + 1), 2, none⟩ = some (.slice none 0 0) := (R6.out.2 2 (by simp)).1
  have zR2 : w2.frozen? ⟨(w.heap.size + 1), 2, none⟩ = false := (R6.out.2 2 (by simp)).2
  have yR3 : w2.cell? ⟨(w.heap.size + 1), 3, none⟩ = some (.slice none 0 0) := (R6.out.2 3 (by simp)).1
  have zR3 : w2.frozen? ⟨(w.heap.size + 1), 3, none⟩ = false := (R6.out.2 3 (by simp)).2
  have yR4 : w2.cell? ⟨(w.heap.size + 1), 4, none⟩ = some (.slice none 0 0) := (R6.out.2 4 (by simp)).1
  have zR4 : w2.frozen? ⟨(w.heap.size + 1), 4, none⟩ = false := (R6.out.2 4 (by simp)).2
  have hlR : (w.heap.size + 1) < w2.heap.size := R6.out.1
  go_wp2_with fail
  obtain ⟨w3, e3⟩ : ∃ y, y = w2.alloc (.cells #[.int .i64 c, .int .i64 d, .slice aW nW cW, .slice (some ⟨gG, 0, none⟩) nG cG, .slice (some ⟨gA, 0, none⟩) nA cA] 34) := ⟨_, rfl⟩
  rw [← e3]
  have hb3 : Below w2.heap.size w2 w3 := by rw [e3]; exact (Below.refl _ _).alloc (Nat.le_refl _) _
  have X3 : Bk w3 w2.heap.size [.int .i64 c, .int .i64 d, .slice aW nW cW, .slice (some ⟨gG, 0, none⟩) nG cG, .slice (some ⟨gA, 0, none⟩) nA cA] := by rw [e3]; exact bk_new w2 34 [.int .i64 c, .int .i64 d, .slice aW nW cW, .slice (some ⟨gG, 0, none⟩) nG cG, .slice (some ⟨gA, 0, none⟩) nA cA]
  clear e3
  clear yA0 zA0 yA1 zA1 yA2 zA2 yA3 zA3 yA4 zA4 hlA yR0 zR0 yR1 zR1 yR2 zR2 yR3 zR3 yR4 zR4 hlR
  have B10 : Hid (Below w.heap.size w w3) := bthen B6.out hb3
  have A10 : Hid (Bk w3 w.heap.size [.int .i64 c, .int .i64 d, .slice (some ⟨b1, 0, none⟩) nW nW, .slice (some ⟨b2, 0, none⟩) nG nG, .slice (some ⟨b3, 0, none⟩) nA nA]) := A6.out.below hb3
  have R10 : Hid (Bk w3 (w.heap.size + 1) [.int .i64 0, .int .i64 0, .slice none 0 0, .slice none 0 0, .slice none 0 0]) := R6.out.below hb3
  have C10 : Hid (CopyO lo w3 (.agg #[.int .i64 c, .int .i64 d, .slice (some ⟨b1, 0, none⟩) nW nW, .slice (some ⟨b2, 0, none⟩) nG nG, .slice (some ⟨b3, 0, none⟩) nA nA]) ⟨c, d, nW, Z, nG, G, nA, N, O⟩) := C6.out.below hb3
  have O1_10 : Hid (RW lw hi w3 (.slice aW nW cW) nW Z gW) := O1_7.out.below hb3
  have O2_10 : Hid (RI lw hi w3 (.slice (some ⟨gG, 0, none⟩) nG cG) nG G gG) := O2_8.out.below hb3
  have O3_10 : Hid (RO lw hi w3 (.slice (some ⟨gA, 0, none⟩) nA cA) nA N O gA sl xs) := O3_9.out.below hb3
  clear B6 A6 R6 C6 O1_7 O2_8 O3_9
  clear hb3
  obtain ⟨gx, egx⟩ : ∃ g, g = w2.heap.size := ⟨_, rfl⟩
  rw [← egx] at X3 ⊢
  have gx1 : gx ≤ w2.heap.size := by omega
  have gx2 : w2.heap.size ≤ gx := by omega
  clear egx
  have X11 : Hid (Bk w3 gx [.int .i64 c, .int .i64 d, .slice aW nW cW, .slice (some ⟨gG, 0, none⟩) nG cG, .slice (some ⟨gA, 0, none⟩) nA cA]) := X3
  clear X3
  have hrise : Hid (∀ i j, i < j → j < nW → Z i 0 < Z j 0) := by
    simp only [OV.ok, Bool.and_eq_true] at hok
    exact allB_rise hok.2.2.2
  have HLD : Hid (OV.land ⟨c, d, nW, Z, nG, G, nA, N, O⟩ id = OV.came ⟨c, d, nW, Z, nG, G, nA, N, O⟩ id) := by unfold Hid; rw [OV.land, if_pos hok]
  have hsW : nW ≤ 2000000 := Nat.le_trans HS.out.1 (by decide)
  clear hok
  refine (place_impl _ ⟨c, d, nW, Z, nG, G, nA, N, O⟩ id hsW _ (OwnW.at (lo := lw) (hi := hi) ⟨_, _, _, gW, gG, gA, sl, xs, rfl, O1_10.out, O2_10.out, O3_10.out, H4.out, H5.out, H6.out⟩)).mono ?_
  rintro e w4 ⟨⟨r, rfl, hr⟩, hb4⟩
  have B12 : Hid (Below w.heap.size w w4) := bthen B10.out hb4
  have A12 : Hid (Bk w4 w.heap.size [.int .i64 c, .int .i64 d, .slice (some ⟨b1, 0, none⟩) nW nW, .slice (some ⟨b2, 0, none⟩) nG nG, .slice (some ⟨b3, 0, none⟩) nA nA]) := A10.out.below hb4
  have R12 : Hid (Bk w4 (w.heap.size + 1) [.int .i64 0, .int .i64 0, .slice none 0 0, .slice none 0 0, .slice none 0 0]) := R10.out.below hb4
  have C12 : Hid (CopyO lo w4 (.agg #[.int .i64 c, .int .i64 d, .slice (some ⟨b1, 0, none⟩) nW nW, .slice (some ⟨b2, 0, none⟩) nG nG, .slice (some ⟨b3, 0, none⟩) nA nA]) ⟨c, d, nW, Z, nG, G, nA, N, O⟩) := C10.out.below hb4
  have O1_12 : Hid (RW lw hi w4 (.slice aW nW cW) nW Z gW) := O1_10.out.below hb4
  have O2_12 : Hid (RI lw hi w4 (.slice (some ⟨gG, 0, none⟩) nG cG) nG G gG) := O2_10.out.below hb4
  have O3_12 : Hid (RO lw hi w4 (.slice (some ⟨gA, 0, none⟩) nA cA) nA N O gA sl xs) := O3_10.out.below hb4
  have X12 : Hid (Bk w4 gx [.int .i64 c, .int .i64 d, .slice aW nW cW, .slice (some ⟨gG, 0, none⟩) nG cG, .slice (some ⟨gA, 0, none⟩) nA cA]) := X11.out.below hb4
  clear B10 A10 R10 C10 O1_10 O2_10 O3_10 X11
  clear hb4
  simp only at hr
  rcases hr with ⟨k, hkn, rfl, hid⟩ | ⟨rfl, hno⟩
  · have HID : Hid (Z k 0 = id) := hid
    clear hid
    obtain ⟨rfl, g1, g2⟩ : aW = some ⟨gW, 0, none⟩ ∧ lw ≤ gW ∧ gW < hi := by
      rcases O1_12.out with ⟨h, _⟩ | ⟨c, q1, q2, q3, _⟩
      · omega
      · simp at q1
        exact ⟨q1.1, q2, q3⟩
    obtain ⟨d0, f0⟩ : (w4.cell? ⟨gW, k * 6 + 5, none⟩).isSome = true ∧ w4.frozen? ⟨gW, k * 6 + 5, none⟩ = false := by
      rcases O1_12.out with ⟨h, _⟩ | ⟨_, _, _, _, _, u⟩
      · omega
      · exact u.1 (k * 6 + 5) (by omega)
    obtain ⟨v0, d0⟩ := Option.isSome_iff_exists.1 d0
    have hkn' : (k : Int) < nW := by omega
    have hk0 : ¬ (k : Int) < 0 := by omega
    have hk1 : (0 : Int) ≤ k := by omega
    have yR0 : w4.cell? ⟨(w.heap.size + 1), 0, none⟩ = some (.int .i64 0) := (R12.out.2 0 (by simp)).1
    have zR0 : w4.frozen? ⟨(w.heap.size + 1), 0, none⟩ = false := (R12.out.2 0 (by simp)).2
    have yR1 : w4.cell? ⟨(w.heap.size + 1), 1, none⟩ = some (.int .i64 0) := (R12.out.2 1 (by simp)).1
    have zR1 : w4.frozen? ⟨(w.heap.size + 1), 1, none⟩ = false := (R12.out.2 1 (by simp)).2
    have yR2 : w4.cell? ⟨(w.heap.size + 1), 2, none⟩ = some (.slice none 0 0) := (R12.out.2 2 (by simp)).1
    have zR2 : w4.frozen? ⟨(w.heap.size + 1), 2, none⟩ = false := (R12.out.2 2 (by simp)).2
    have yR3 : w4.cell? ⟨(w.heap.size + 1), 3, none⟩ = some (.slice none 0 0) := (R12.out.2 3 (by simp)).1
    have zR3 : w4.frozen? ⟨(w.heap.size + 1), 3, none⟩ = false := (R12.out.2 3 (by simp)).2
    have yR4 : w4.cell? ⟨(w.heap.size + 1), 4, none⟩ = some (.slice none 0 0) := (R12.out.2 4 (by simp)).1
    have zR4 : w4.frozen? ⟨(w.heap.size + 1), 4, none⟩ = false := (R12.out.2 4 (by simp)).2
    have hlR : (w.heap.size + 1) < w4.heap.size := R12.out.1
    have yX0 : w4.cell? ⟨gx, 0, none⟩ = some (.int .i64 c) := (X12.out.2 0 (by simp)).1
    have zX0 : w4.frozen? ⟨gx, 0, none⟩ = false := (X12.out.2 0 (by simp)).2
    have yX1 : w4.cell? ⟨gx, 1, none⟩ = some (.int .i64 d) := (X12.out.2 1 (by simp)).1
    have zX1 : w4.frozen? ⟨gx, 1, none⟩ = false := (X12.out.2 1 (by simp)).2
    have yX2 : w4.cell? ⟨gx, 2, none⟩ = some (.slice (some ⟨gW, 0, none⟩) nW cW) := (X12.out.2 2 (by simp)).1
    have zX2 : w4.frozen? ⟨gx, 2, none⟩ = false := (X12.out.2 2 (by simp)).2
    have yX3 : w4.cell? ⟨gx, 3, none⟩ = some (.slice (some ⟨gG, 0, none⟩) nG cG) := (X12.out.2 3 (by simp)).1
    have zX3 : w4.frozen? ⟨gx, 3, none⟩ = false := (X12.out.2 3 (by simp)).2
    have yX4 : w4.cell? ⟨gx, 4, none⟩ = some (.slice (some ⟨gA, 0, none⟩) nA cA) := (X12.out.2 4 (by simp)).1
    have zX4 : w4.frozen? ⟨gx, 4, none⟩ = false := (X12.out.2 4 (by simp)).2
    have hlX : gx < w4.heap.size := X12.out.1
    go_upto_region 7 with fail
    obtain ⟨w5, e5⟩ : ∃ y, y = w4.setCell ⟨gW, k * 6 + 5, none⟩ (.bool true) := ⟨_, rfl⟩
    rw [← e5]
    have z45 : w4.heap.size ≤ w5.heap.size := by rw [e5, set_size]; exact Nat.le_refl _
    have OW5 : Hid (OwnW lw hi w5 (.agg #[.int .i64 c, .int .i64 d, .slice (some ⟨gW, 0, none⟩) nW cW, .slice (some ⟨gG, 0, none⟩) nG cG, .slice (some ⟨gA, 0, none⟩) nA cA]) (OV.came ⟨c, d, nW, Z, nG, G, nA, N, O⟩ id)) := by
      refine ⟨_, _, _, gW, gG, gA, sl, xs, rfl, ?_, O2_12.out.sm z45 (fun _ _ => by rw [e5]; exact smf H4.out.1), O3_12.out.sm z45 (fun _ _ => by rw [e5]; exact smf H4.out.2.1) (fun i hi _ _ => by rw [e5]; exact smf (fun e => (H5.out i hi).1 e.symm)), H4.out, H5.out, H6.out⟩
      rcases O1_12.out with ⟨h, _⟩ | ⟨c', q1, q2, q3, q4, u⟩
      · omega
      · refine .inr ⟨c', q1, q2, q3, Nat.le_trans q4 z45, ?_⟩
        rw [e5]
        refine ownK_congr (ownK_upd u hkn) (fun i j hi hj => ?_)
        dsimp only [OV.came]
        have hiff : (i = k ∧ j = 5) ↔ (Z i 0 = id ∧ j = 5) := by
          constructor
          · rintro ⟨rfl, h⟩
            exact ⟨HID.out, h⟩
          · rintro ⟨h, h2⟩
            refine ⟨?_, h2⟩
            have h3 := HID.out
            rcases Nat.lt_trichotomy i k with q | q | q
            · have := hrise.out i k q hkn; omega
            · exact q
            · have := hrise.out k i q hi; omega
        by_cases hc : i = k ∧ j = 5
        · rw [if_pos hc, if_pos (hiff.1 hc)]
        · rw [if_neg hc, if_neg (fun e => hc (hiff.2 e))]
    have R5 : Hid (Bk w5 (w.heap.size + 1) [.int .i64 0, .int .i64 0, .slice none 0 0, .slice none 0 0, .slice none 0 0]) := by rw [e5]; exact R12.out.far (by omega)
    have X5 : Hid (Bk w5 gx [.int .i64 c, .int .i64 d, .slice (some ⟨gW, 0, none⟩) nW cW, .slice (some ⟨gG, 0, none⟩) nG cG, .slice (some ⟨gA, 0, none⟩) nA cA]) := by rw [e5]; exact X12.out.far (by omega)
    have B5 : Hid (Below w.heap.size w w5) := by rw [e5]; exact B12.out.setCell (by show w.heap.size ≤ gW; omega) _
    have z5 : hi ≤ w5.heap.size := by have := X12.out.1; omega
    clear e5 d0 f0
    clear yR0 zR0 yR1 zR1 yR2 zR2 yR3 zR3 yR4 zR4 hlR yX0 zX0 yX1 zX1 yX2 zX2 yX3 zX3 yX4 zX4 hlX
    have yR0 : w5.cell? ⟨(w.heap.size + 1), 0, none⟩ = some (.int .i64 0) := (R5.out.2 0 (by simp)).1
    have zR0 : w5.frozen? ⟨(w.heap.size + 1), 0, none⟩ = false := (R5.out.2 0 (by simp)).2
    have yR1 : w5.cell? ⟨(w.heap.size + 1), 1, none⟩ = some (.int .i64 0) := (R5.out.2 1 (by simp)).1
    have zR1 : w5.frozen? ⟨(w.heap.size + 1), 1, none⟩ = false := (R5.out.2 1 (by simp)).2
    have yR2 : w5.cell? ⟨(w.heap.size + 1), 2, none⟩ = some (.slice none 0 0) := (R5.out.2 2 (by simp)).1
    have zR2 : w5.frozen? ⟨(w.heap.size + 1), 2, none⟩ = false := (R5.out.2 2 (by simp)).2
    have yR3 : w5.cell? ⟨(w.heap.size + 1), 3, none⟩ = some (.slice none 0 0) := (R5.out.2 3 (by simp)).1
    have zR3 : w5.frozen? ⟨(w.heap.size + 1), 3, none⟩ = false := (R5.out.2 3 (by simp)).2
    have yR4 : w5.cell? ⟨(w.heap.size + 1), 4, none⟩ = some (.slice none 0 0) := (R5.out.2 4 (by simp)).1
    have zR4 : w5.frozen? ⟨(w.heap.size + 1), 4, none⟩ = false := (R5.out.2 4 (by simp)).2
    have hlR : (w.heap.size + 1) < w5.heap.size := R5.out.1
    have yX0 : w5.cell? ⟨gx, 0, none⟩ = some (.int .i64 c) := (X5.out.2 0 (by simp)).1
    have zX0 : w5.frozen? ⟨gx, 0, none⟩ = false := (X5.out.2 0 (by simp)).2
    have yX1 : w5.cell? ⟨gx, 1, none⟩ = some (.int .i64 d) := (X5.out.2 1 (by simp)).1
    have zX1 : w5.frozen? ⟨gx, 1, none⟩ = false := (X5.out.2 1 (by simp)).2
    have yX2 : w5.cell? ⟨gx, 2, none⟩ = some (.slice (some ⟨gW, 0, none⟩) nW cW) := (X5.out.2 2 (by simp)).1
    have zX2 : w5.frozen? ⟨gx, 2, none⟩ = false := (X5.out.2 2 (by simp)).2
    have yX3 : w5.cell? ⟨gx, 3, none⟩ = some (.slice (some ⟨gG, 0, none⟩) nG cG) := (X5.out.2 3 (by simp)).1
    have zX3 : w5.frozen? ⟨gx, 3, none⟩ = false := (X5.out.2 3 (by simp)).2
    have yX4 : w5.cell? ⟨gx, 4, none⟩ = some (.slice (some ⟨gA, 0, none⟩) nA cA) := (X5.out.2 4 (by simp)).1
    have zX4 : w5.frozen? ⟨gx, 4, none⟩ = false := (X5.out.2 4 (by simp)).2
    have hlX : gx < w5.heap.size := X5.out.1
    go_wp2
    refine bodyPost_ret (v := .agg #[.int .i64 c, .int .i64 d, .slice (some ⟨gW, 0, none⟩) nW cW, .slice (some ⟨gG, 0, none⟩) nG cG, .slice (some ⟨gA, 0, none⟩) nA cA]) (P6.results_mid (P := Try.prog) (fn := Try.f13) Try.results13 _ _ (w.heap.size + 1) [.int .i64 c, .int .i64 d, .slice (some ⟨gW, 0, none⟩) nW cW, .slice (some ⟨gG, 0, none⟩) nG cG, .slice (some ⟨gA, 0, none⟩) nA cA] _ rfl (P6.Bk.range (Bk.set (j := 4) (v := .slice (some ⟨gA, 0, none⟩) nA cA) (Bk.set (j := 3) (v := .slice (some ⟨gG, 0, none⟩) nG cG) (Bk.set (j := 2) (v := .slice (some ⟨gW, 0, none⟩) nW cW) (Bk.set (j := 1) (v := .int .i64 d) (Bk.set (j := 0) (v := .int .i64 c) R5.out (by simp)) (by simp)) (by simp)) (by simp)) (by simp))) Try.underlying34 rfl (by kernel_rfl)) rfl ⟨⟨_, rfl, by rw [HLD.out]; exact OwnW.wide2 (own_put5 OW5.out (show w.heap.size + 1 < lw by omega)) (by omega) (by rw [set_size, set_size, set_size, set_size, set_size]; omega) (Nat.le_refl _)⟩, (((((B5.out.setCell (by show w.heap.size ≤ w.heap.size + 1; omega) _).setCell (by show w.heap.size ≤ w.heap.size + 1; omega) _).setCell (by show w.heap.size ≤ w.heap.size + 1; omega) _).setCell (by show w.heap.size ≤ w.heap.size + 1; omega) _).setCell (by show w.heap.size ≤ w.heap.size + 1; omega) _)⟩
  · have OW4 : Hid (OwnW lw hi w4 (.agg #[.int .i64 c, .int .i64 d, .slice aW nW cW, .slice (some ⟨gG, 0, none⟩) nG cG, .slice (some ⟨gA, 0, none⟩) nA cA]) (OV.came ⟨c, d, nW, Z, nG, G, nA, N, O⟩ id)) := ⟨_, _, _, gW, gG, gA, sl, xs, rfl, rw_congr O1_12.out (fun i j hi hj => by dsimp only [OV.came]; rw [if_neg (fun e => hno i hi e.1)]), O2_12.out, O3_12.out, H4.out, H5.out, H6.out⟩
    clear hno
    have yR0 : w4.cell? ⟨(w.heap.size + 1), 0, none⟩ = some (.int .i64 0) := (R12.out.2 0 (by simp)).1
    have zR0 : w4.frozen? ⟨(w.heap.size + 1), 0, none⟩ = false := (R12.out.2 0 (by simp)).2
    have yR1 : w4.cell? ⟨(w.heap.size + 1), 1, none⟩ = some (.int .i64 0) := (R12.out.2 1 (by simp)).1
    have zR1 : w4.frozen? ⟨(w.heap.size + 1), 1, none⟩ = false := (R12.out.2 1 (by simp)).2
    have yR2 : w4.cell? ⟨(w.heap.size + 1), 2, none⟩ = some (.slice none 0 0) := (R12.out.2 2 (by simp)).1
    have zR2 : w4.frozen? ⟨(w.heap.size + 1), 2, none⟩ = false := (R12.out.2 2 (by simp)).2
    have yR3 : w4.cell? ⟨(w.heap.size + 1), 3, none⟩ = some (.slice none 0 0) := (R12.out.2 3 (by simp)).1
    have zR3 : w4.frozen? ⟨(w.heap.size + 1), 3, none⟩ = false := (R12.out.2 3 (by simp)).2
    have yR4 : w4.cell? ⟨(w.heap.size + 1), 4, none⟩ = some (.slice none 0 0) := (R12.out.2 4 (by simp)).1
    have zR4 : w4.frozen? ⟨(w.heap.size + 1), 4, none⟩ = false := (R12.out.2 4 (by simp)).2
    have hlR : (w.heap.size + 1) < w4.heap.size := R12.out.1
    have yX0 : w4.cell? ⟨gx, 0, none⟩ = some (.int .i64 c) := (X12.out.2 0 (by simp)).1
    have zX0 : w4.frozen? ⟨gx, 0, none⟩ = false := (X12.out.2 0 (by simp)).2
    have yX1 : w4.cell? ⟨gx, 1, none⟩ = some (.int .i64 d) := (X12.out.2 1 (by simp)).1
    have zX1 : w4.frozen? ⟨gx, 1, none⟩ = false := (X12.out.2 1 (by simp)).2
    have yX2 : w4.cell? ⟨gx, 2, none⟩ = some (.slice aW nW cW) := (X12.out.2 2 (by simp)).1
    have zX2 : w4.frozen? ⟨gx, 2, none⟩ = false := (X12.out.2 2 (by simp)).2
    have yX3 : w4.cell? ⟨gx, 3, none⟩ = some (.slice (some ⟨gG, 0, none⟩) nG cG) := (X12.out.2 3 (by simp)).1
    have zX3 : w4.frozen? ⟨gx, 3, none⟩ = false := (X12.out.2 3 (by simp)).2
    have yX4 : w4.cell? ⟨gx, 4, none⟩ = some (.slice (some ⟨gA, 0, none⟩) nA cA) := (X12.out.2 4 (by simp)).1
    have zX4 : w4.frozen? ⟨gx, 4, none⟩ = false := (X12.out.2 4 (by simp)).2
    have hlX : gx < w4.heap.size := X12.out.1
    go_wp2
    refine bodyPost_ret (v := .agg #[.int .i64 c, .int .i64 d, .slice aW nW cW, .slice (some ⟨gG, 0, none⟩) nG cG, .slice (some ⟨gA, 0, none⟩) nA cA]) (P6.results_mid (P := Try.prog) (fn := Try.f13) Try.results13 _ _ (w.heap.size + 1) [.int .i64 c, .int .i64 d, .slice aW nW cW, .slice (some ⟨gG, 0, none⟩) nG cG, .slice (some ⟨gA, 0, none⟩) nA cA] _ rfl (P6.Bk.range (Bk.set (j := 4) (v := .slice (some ⟨gA, 0, none⟩) nA cA) (Bk.set (j := 3) (v := .slice (some ⟨gG, 0, none⟩) nG cG) (Bk.set (j := 2) (v := .slice aW nW cW) (Bk.set (j := 1) (v := .int .i64 d) (Bk.set (j := 0) (v := .int .i64 c) R12.out (by simp)) (by simp)) (by simp)) (by simp)) (by simp))) Try.underlying34 rfl (by kernel_rfl)) rfl ⟨⟨_, rfl, by rw [HLD.out]; exact OwnW.wide2 (own_put5 OW4.out (show w.heap.size + 1 < lw by omega)) (by omega) (by rw [set_size, set_size, set_size, set_size, set_size]; omega) (Nat.le_refl _)⟩, (((((B12.out.setCell (by show w.heap.size ≤ w.heap.size + 1; omega) _).setCell (by show w.heap.size ≤ w.heap.size + 1; omega) _).setCell (by show w.heap.size ≤ w.heap.size + 1; omega) _).setCell (by show w.heap.size ≤ w.heap.size + 1; omega) _).setCell (by show w.heap.size ≤ w.heap.size + 1; omega) _)⟩
end Go.Proofs.Ytoickljpjlhkoaa
