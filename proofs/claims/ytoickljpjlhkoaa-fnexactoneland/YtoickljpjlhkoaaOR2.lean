/- OneLand of the model; conditions: those typed. -/
import Derived.Test.YtoickljpjlhkoaaOQ
import Derived.Test.YtoickljpjlhkoaaOS2
namespace Go.Proofs.Ytoickljpjlhkoaa
open Go.RowKit Go.Deep
set_option linter.unusedVariables false


set_option maxRecDepth 20000 in
set_option maxHeartbeats 4000000 in
theorem oneLand_spec (lo : Nat) (v : Value) (V : OV) (id : Int) (hs : V.short 1048576) (w : World) (h : CopyO lo w v V) :
    Calls Try.prog 12 #[v, .int .i64 id] w fun e w' => (∃ v', e = .returned v' ∧ OwnW w.heap.size w'.heap.size w' v' (V.land id)) ∧ Below w.heap.size w w' := by
  have HC : Hid (CopyO lo w v V) := h
  have HS : Hid (V.short 1048576) := hs
  obtain ⟨b1, b2, b3, l1, l2, l3, l4, rfl, _, _, _⟩ := h
  obtain ⟨c, d, nW, Z, nG, G, nA, N, O⟩ := V
  simp only at HC HS l4
  cases hok : OV.ok ⟨c, d, nW, Z, nG, G, nA, N, O⟩
  · have hv : OV.land ⟨c, d, nW, Z, nG, G, nA, N, O⟩ id = OV.none := by rw [OV.land, if_neg (by rw [hok]; simp)]
    rw [hv]
    clear hv
    go_enter Try.func12, Try.ntmps12
    go_wp2_with fail
    obtain ⟨w0, e0⟩ : ∃ w0, w0 = (w.alloc (.cells #[.int .i64 c, .int .i64 d, .slice (some ⟨b1, 0, none⟩) nW nW, .slice (some ⟨b2, 0, none⟩) nG nG, .slice (some ⟨b3, 0, none⟩) nA nA] 34)).alloc (.cells #[.int .i64 0, .int .i64 0, .slice none 0 0, .slice none 0 0, .slice none 0 0] 34) := ⟨_, rfl⟩
    have B1 : Hid (Below w.heap.size w w0) := by rw [e0]; exact ((Below.refl _ _).alloc (by simp) _).alloc (by simp) _
    have A2 : Hid (Bk w0 w.heap.size [.int .i64 c, .int .i64 d, .slice (some ⟨b1, 0, none⟩) nW nW, .slice (some ⟨b2, 0, none⟩) nG nG, .slice (some ⟨b3, 0, none⟩) nA nA]) := by rw [e0]; exact (bk_new w 34 [.int .i64 c, .int .i64 d, .slice (some ⟨b1, 0, none⟩) nW nW, .slice (some ⟨b2, 0, none⟩) nG nG, .slice (some ⟨b3, 0, none⟩) nA nA]).below ((Below.refl _ _).alloc (Nat.le_refl _) _)
    have R3 : Hid (Bk w0 (w.heap.size + 1) [.int .i64 0, .int .i64 0, .slice none 0 0, .slice none 0 0, .slice none 0 0]) := by rw [e0]; have := bk_new (w.alloc (.cells #[.int .i64 c, .int .i64 d, .slice (some ⟨b1, 0, none⟩) nW nW, .slice (some ⟨b2, 0, none⟩) nG nG, .slice (some ⟨b3, 0, none⟩) nA nA] 34)) 34 [.int .i64 0, .int .i64 0, .slice none 0 0, .slice none 0 0, .slice none 0 0]; rwa [show (w.alloc (.cells #[.int .i64 c, .int .i64 d, .slice (some ⟨b1, 0, none⟩) nW nW, .slice (some ⟨b2, 0, none⟩) nG nG, .slice (some ⟨b3, 0, none⟩) nA nA] 34)).heap.size = w.heap.size + 1 by simp] at this
    rw [← e0]
    clear e0
    have C4 : Hid (CopyO lo w0 (.agg #[.int .i64 c, .int .i64 d, .slice (some ⟨b1, 0, none⟩) nW nW, .slice (some ⟨b2, 0, none⟩) nG nG, .slice (some ⟨b3, 0, none⟩) nA nA]) ⟨c, d, nW, Z, nG, G, nA, N, O⟩) := CopyO.below HC.out B1.out
    refine (oneOk_spec _ ⟨c, d, nW, Z, nG, G, nA, N, O⟩ HS.out _ C4.out.at).mono ?_
    rintro e w1 ⟨rfl, hb1⟩
    have B5 : Hid (Below w.heap.size w w1) := bthen B1.out hb1
    have A5 : Hid (Bk w1 w.heap.size [.int .i64 c, .int .i64 d, .slice (some ⟨b1, 0, none⟩) nW nW, .slice (some ⟨b2, 0, none⟩) nG nG, .slice (some ⟨b3, 0, none⟩) nA nA]) := A2.out.below hb1
    have R5 : Hid (Bk w1 (w.heap.size + 1) [.int .i64 0, .int .i64 0, .slice none 0 0, .slice none 0 0, .slice none 0 0]) := R3.out.below hb1
    have C5 : Hid (CopyO lo w1 (.agg #[.int .i64 c, .int .i64 d, .slice (some ⟨b1, 0, none⟩) nW nW, .slice (some ⟨b2, 0, none⟩) nG nG, .slice (some ⟨b3, 0, none⟩) nA nA]) ⟨c, d, nW, Z, nG, G, nA, N, O⟩) := C4.out.below hb1
    clear B1 A2 R3 C4
    clear hb1
    rw [hok]
    have yA0 : w1.cell? ⟨w.heap.size, 0, none⟩ = some (.int .i64 c) := (A5.out.2 0 (by simp)).1
    have zA0 : w1.frozen? ⟨w.heap.size, 0, none⟩ = false := (A5.out.2 0 (by simp)).2
    have yA1 : w1.cell? ⟨w.heap.size, 1, none⟩ = some (.int .i64 d) := (A5.out.2 1 (by simp)).1
    have zA1 : w1.frozen? ⟨w.heap.size, 1, none⟩ = false := (A5.out.2 1 (by simp)).2
    have yA2 : w1.cell? ⟨w.heap.size, 2, none⟩ = some (.slice (some ⟨b1, 0, none⟩) nW nW) := (A5.out.2 2 (by simp)).1
    have zA2 : w1.frozen? ⟨w.heap.size, 2, none⟩ = false := (A5.out.2 2 (by simp)).2
    have yA3 : w1.cell? ⟨w.heap.size, 3, none⟩ = some (.slice (some ⟨b2, 0, none⟩) nG nG) := (A5.out.2 3 (by simp)).1
    have zA3 : w1.frozen? ⟨w.heap.size, 3, none⟩ = false := (A5.out.2 3 (by simp)).2
    have yA4 : w1.cell? ⟨w.heap.size, 4, none⟩ = some (.slice (some ⟨b3, 0, none⟩) nA nA) := (A5.out.2 4 (by simp)).1
    have zA4 : w1.frozen? ⟨w.heap.size, 4, none⟩ = false := (A5.out.2 4 (by simp)).2
    have hlA : w.heap.size < w1.heap.size := A5.out.1
    have yR0 : w1.cell? ⟨(w.heap.size + 1), 0, none⟩ = some (.int .i64 0) := (R5.out.2 0 (by simp)).1
    have zR0 : w1.frozen? ⟨(w.heap.size + 1), 0, none⟩ = false := (R5.out.2 0 (by simp)).2
    have yR1 : w1.cell? ⟨(w.heap.size + 1), 1, none⟩ = some (.int .i64 0) := (R5.out.2 1 (by simp)).1
    have zR1 : w1.frozen? ⟨(w.heap.size + 1), 1, none⟩ = false := (R5.out.2 1 (by simp)).2
    have yR2 : w1.cell? ⟨(w.heap.size + 1), 2, none⟩ = some (.slice none 0 0) := (R5.out.2 2 (by simp)).1
    have zR2 : w1.frozen? ⟨(w.heap.size + 1), 2, none⟩ = false := (R5.out.2 2 (by simp)).2
    have yR3 : w1.cell? ⟨(w.heap.size + 1), 3, none⟩ = some (.slice none 0 0) := (R5.out.2 3 (by simp)).1
    have zR3 : w1.frozen? ⟨(w.heap.size + 1), 3, none⟩ = false := (R5.out.2 3 (by simp)).2
    have yR4 : w1.cell? ⟨(w.heap.size + 1), 4, none⟩ = some (.slice none 0 0) := (R5.out.2 4 (by simp)).1
    have zR4 : w1.frozen? ⟨(w.heap.size + 1), 4, none⟩ = false := (R5.out.2 4 (by simp)).2
    have hlR : (w.heap.size + 1) < w1.heap.size := R5.out.1
    go_wp2
    refine bodyPost_ret (v := .agg #[.int .i64 0, .int .i64 0, .slice none 0 0, .slice none 0 0, .slice none 0 0]) (P6.results_mid (P := Try.prog) (fn := Try.f12) Try.results12 _ _ (w.heap.size + 1) [.int .i64 0, .int .i64 0, .slice none 0 0, .slice none 0 0, .slice none 0 0] _ rfl (P6.Bk.range (Bk.set (j := 4) (v := .slice none 0 0) (Bk.set (j := 3) (v := .slice none 0 0) (Bk.set (j := 2) (v := .slice none 0 0) (Bk.set (j := 1) (v := .int .i64 0) (Bk.set (j := 0) (v := .int .i64 0) R5.out (by simp)) (by simp)) (by simp)) (by simp)) (by simp))) Try.underlying34 rfl (by kernel_rfl)) rfl ⟨⟨_, rfl, own_none _ _ _⟩, (((((B5.out.setCell (by show w.heap.size ≤ w.heap.size + 1; omega) _).setCell (by show w.heap.size ≤ w.heap.size + 1; omega) _).setCell (by show w.heap.size ≤ w.heap.size + 1; omega) _).setCell (by show w.heap.size ≤ w.heap.size + 1; omega) _).setCell (by show w.heap.size ≤ w.heap.size + 1; omega) _)⟩
  obtain ⟨⟨c0, c1, eG, eA⟩, bG, bA, _⟩ := OV.good hok
  simp only at c0 c1 eG eA bG bA
  have BA : Hid (∀ k, k < nA → N k = 2 ∧ ∀ j, j < 2 → 0 ≤ O k j ∧ O k j ≤ 100000) := bA
  have BG : Hid (∀ k, k < nG → 0 ≤ G k ∧ G k ≤ 900) := bG
  have hnG : 0 < nG := by omega
  have hnA : 0 < nA := by omega
  have EG : Hid ((nG : Int) = c ∧ (nA : Int) = c) := ⟨eG, eA⟩
  clear bA bG eG eA
  go_enter Try.func12, Try.ntmps12
  go_wp2_with fail
  obtain ⟨w0, e0⟩ : ∃ w0, w0 = (w.alloc (.cells #[.int .i64 c, .int .i64 d, .slice (some ⟨b1, 0, none⟩) nW nW, .slice (some ⟨b2, 0, none⟩) nG nG, .slice (some ⟨b3, 0, none⟩) nA nA] 34)).alloc (.cells #[.int .i64 0, .int .i64 0, .slice none 0 0, .slice none 0 0, .slice none 0 0] 34) := ⟨_, rfl⟩
  have B1 : Hid (Below w.heap.size w w0) := by rw [e0]; exact ((Below.refl _ _).alloc (by simp) _).alloc (by simp) _
  have A2 : Hid (Bk w0 w.heap.size [.int .i64 c, .int .i64 d, .slice (some ⟨b1, 0, none⟩) nW nW, .slice (some ⟨b2, 0, none⟩) nG nG, .slice (some ⟨b3, 0, none⟩) nA nA]) := by rw [e0]; exact (bk_new w 34 [.int .i64 c, .int .i64 d, .slice (some ⟨b1, 0, none⟩) nW nW, .slice (some ⟨b2, 0, none⟩) nG nG, .slice (some ⟨b3, 0, none⟩) nA nA]).below ((Below.refl _ _).alloc (Nat.le_refl _) _)
  have R3 : Hid (Bk w0 (w.heap.size + 1) [.int .i64 0, .int .i64 0, .slice none 0 0, .slice none 0 0, .slice none 0 0]) := by rw [e0]; have := bk_new (w.alloc (.cells #[.int .i64 c, .int .i64 d, .slice (some ⟨b1, 0, none⟩) nW nW, .slice (some ⟨b2, 0, none⟩) nG nG, .slice (some ⟨b3, 0, none⟩) nA nA] 34)) 34 [.int .i64 0, .int .i64 0, .slice none 0 0, .slice none 0 0, .slice none 0 0]; rwa [show (w.alloc (.cells #[.int .i64 c, .int .i64 d, .slice (some ⟨b1, 0, none⟩) nW nW, .slice (some ⟨b2, 0, none⟩) nG nG, .slice (some ⟨b3, 0, none⟩) nA nA] 34)).heap.size = w.heap.size + 1 by simp] at this
  rw [← e0]
  clear e0
  have C4 : Hid (CopyO lo w0 (.agg #[.int .i64 c, .int .i64 d, .slice (some ⟨b1, 0, none⟩) nW nW, .slice (some ⟨b2, 0, none⟩) nG nG, .slice (some ⟨b3, 0, none⟩) nA nA]) ⟨c, d, nW, Z, nG, G, nA, N, O⟩) := CopyO.below HC.out B1.out
  refine (oneOk_spec _ ⟨c, d, nW, Z, nG, G, nA, N, O⟩ HS.out _ C4.out.at).mono ?_
  rintro e w1 ⟨rfl, hb1⟩
  have B5 : Hid (Below w.heap.size w w1) := bthen B1.out hb1
  have A5 : Hid (Bk w1 w.heap.size [.int .i64 c, .int .i64 d, .slice (some ⟨b1, 0, none⟩) nW nW, .slice (some ⟨b2, 0, none⟩) nG nG, .slice (some ⟨b3, 0, none⟩) nA nA]) := A2.out.below hb1
  have R5 : Hid (Bk w1 (w.heap.size + 1) [.int .i64 0, .int .i64 0, .slice none 0 0, .slice none 0 0, .slice none 0 0]) := R3.out.below hb1
  have C5 : Hid (CopyO lo w1 (.agg #[.int .i64 c, .int .i64 d, .slice (some ⟨b1, 0, none⟩) nW nW, .slice (some ⟨b2, 0, none⟩) nG nG, .slice (some ⟨b3, 0, none⟩) nA nA]) ⟨c, d, nW, Z, nG, G, nA, N, O⟩) := C4.out.below hb1
  clear B1 A2 R3 C4
  clear hb1
  rw [hok]
  have yA0 : w1.cell? ⟨w.heap.size, 0, none⟩ = some (.int .i64 c) := (A5.out.2 0 (by simp)).1
  have zA0 : w1.frozen? ⟨w.heap.size, 0, none⟩ = false := (A5.out.2 0 (by simp)).2
  have yA1 : w1.cell? ⟨w.heap.size, 1, none⟩ = some (.int .i64 d) := (A5.out.2 1 (by simp)).1
  have zA1 : w1.frozen? ⟨w.heap.size, 1, none⟩ = false := (A5.out.2 1 (by simp)).2
  have yA2 : w1.cell? ⟨w.heap.size, 2, none⟩ = some (.slice (some ⟨b1, 0, none⟩) nW nW) := (A5.out.2 2 (by simp)).1
  have zA2 : w1.frozen? ⟨w.heap.size, 2, none⟩ = false := (A5.out.2 2 (by simp)).2
  have yA3 : w1.cell? ⟨w.heap.size, 3, none⟩ = some (.slice (some ⟨b2, 0, none⟩) nG nG) := (A5.out.2 3 (by simp)).1
  have zA3 : w1.frozen? ⟨w.heap.size, 3, none⟩ = false := (A5.out.2 3 (by simp)).2
  have yA4 : w1.cell? ⟨w.heap.size, 4, none⟩ = some (.slice (some ⟨b3, 0, none⟩) nA nA) := (A5.out.2 4 (by simp)).1
  have zA4 : w1.frozen? ⟨w.heap.size, 4, none⟩ = false := (A5.out.2 4 (by simp)).2
  have hlA : w.heap.size < w1.heap.size := A5.out.1
  have yR0 : w1.cell? ⟨(w.heap.size + 1), 0, none⟩ = some (.int .i64 0) := (R5.out.2 0 (by simp)).1
  have zR0 : w1.frozen? ⟨(w.heap.size + 1), 0, none⟩ = false := (R5.out.2 0 (by simp)).2
  have yR1 : w1.cell? ⟨(w.heap.size + 1), 1, none⟩ = some (.int .i64 0) := (R5.out.2 1 (by simp)).1
  have zR1 : w1.frozen? ⟨(w.heap.size + 1), 1, none⟩ = false := (R5.out.2 1 (by simp)).2
  have yR2 : w1.cell? ⟨(w.heap.size + 1), 2, none⟩ = some (.slice none 0 0) := (R5.out.2 2 (by simp)).1
  have zR2 : w1.frozen? ⟨(w.heap.size + 1), 2, none⟩ = false := (R5.out.2 2 (by simp)).2
  have yR3 : w1.cell? ⟨(w.heap.size + 1), 3, none⟩ = some (.slice none 0 0) := (R5.out.2 3 (by simp)).1
  have zR3 : w1.frozen? ⟨(w.heap.size + 1), 3, none⟩ = false := (R5.out.2 3 (by simp)).2
  have yR4 : w1.cell? ⟨(w.heap.size + 1), 4, none⟩ = some (.slice none 0 0) := (R5.out.2 4 (by simp)).1
  have zR4 : w1.frozen? ⟨(w.heap.size + 1), 4, none⟩ = false := (R5.out.2 4 (by simp)).2
  have hlR : (w.heap.size + 1) < w1.heap.size := R5.out.1
  have lwb0 := R5.out.1
  go_wp2_with fail
  refine (copyS lo _ ⟨c, d, nW, Z, nG, G, nA, N, O⟩ HS.out hnG hnA (fun k hk => (BA.out k hk).1) _ C5.out).mono ?_
  rintro e w2 ⟨⟨v2, rfl, hO2⟩, hb2⟩
  clear yA0 zA0 yA1 zA1 yA2 zA2 yA3 zA3 yA4 zA4 hlA yR0 zR0 yR1 zR1 yR2 zR2 yR3 zR3 yR4 zR4 hlR
  have B6 : Hid (Below w.heap.size w w2) := bthen B5.out hb2
  have A6 : Hid (Bk w2 w.heap.size [.int .i64 c, .int .i64 d, .slice (some ⟨b1, 0, none⟩) nW nW, .slice (some ⟨b2, 0, none⟩) nG nG, .slice (some ⟨b3, 0, none⟩) nA nA]) := A5.out.below hb2
  have R6 : Hid (Bk w2 (w.heap.size + 1) [.int .i64 0, .int .i64 0, .slice none 0 0, .slice none 0 0, .slice none 0 0]) := R5.out.below hb2
  have C6 : Hid (CopyO lo w2 (.agg #[.int .i64 c, .int .i64 d, .slice (some ⟨b1, 0, none⟩) nW nW, .slice (some ⟨b2, 0, none⟩) nG nG, .slice (some ⟨b3, 0, none⟩) nA nA]) ⟨c, d, nW, Z, nG, G, nA, N, O⟩) := C5.out.below hb2
  clear B5 A5 R5 C5
  have z2 := hb2.size
  clear hb2
  obtain ⟨vW, vG, vA, gW, gG, gA, sl, xs, rfl, o1, o2, o3, o4, o5, o6⟩ := hO2
  simp only at o1 o2 o3 o5 o6
  obtain ⟨aW, cW, rfl, _⟩ := row_of_rw o1
  obtain ⟨cG, rfl, p1, p2, _, _⟩ : ∃ c, vG = .slice (some ⟨gG, 0, none⟩) nG c ∧ w1.heap.size ≤ gG ∧ gG < w2.heap.size ∧ True ∧ True := by
    rcases o2 with ⟨h, _⟩ | ⟨c, q1, q2, q3, _⟩
    · omega
    · exact ⟨c, q1, q2, q3, trivial, trivial⟩
  obtain ⟨cA, rfl, p3, p4, HSL⟩ : ∃ c, vA = .slice (some ⟨gA, 0, none⟩) nA c ∧ w1.heap.size ≤ gA ∧ gA < w2.heap.size ∧ Hid (∀ k, k < nA → RI w1.heap.size w2.heap.size w2 (sl k) (N k) (O k) (xs k)) := by
    rcases o3 with ⟨h, _⟩ | ⟨c, q1, q2, q3, _, q5⟩
    · omega
    · exact ⟨c, q1, q2, q3, fun k hk => (q5 k hk).2⟩
  obtain ⟨hi, ehi⟩ : ∃ t, t = w2.heap.size := ⟨_, rfl⟩
  obtain ⟨lw, elw⟩ : ∃ t, t = w1.heap.size := ⟨_, rfl⟩
  rw [← ehi, ← elw] at o1 o2 o3 HSL
  have hi1 : hi ≤ w2.heap.size := by omega
  have lw1 : lw ≤ w1.heap.size := by omega
  have lw2 : w1.heap.size ≤ lw := by omega
  have hi2 : w2.heap.size ≤ hi := by omega
  have lwb : w.heap.size + 1 < lw := by omega
  clear ehi elw
  have H4 : Hid (¬ gW = gG ∧ ¬ gW = gA ∧ ¬ gG = gA) := o4
  have H5 : Hid (∀ k, k < nA → ¬ xs k = gW ∧ ¬ xs k = gG ∧ ¬ xs k = gA) := o5
  have H6 : Hid (∀ i j, i < nA → j < nA → ¬ i = j → ¬ xs i = xs j) := o6
  clear o4 o5 o6
  have O1_7 : Hid (RW lw hi w2 (.slice aW nW cW) nW Z gW) := o1
  have O2_8 : Hid (RI lw hi w2 (.slice (some ⟨gG, 0, none⟩) nG cG) nG G gG) := o2
  have O3_9 : Hid (RO lw hi w2 (.slice (some ⟨gA, 0, none⟩) nA cA) nA N O gA sl xs) := o3
  clear o1 o2 o3
  have yA0 : w2.cell? ⟨w.heap.size, 0, none⟩ = some (.int .i64 c) := (A6.out.2 0 (by simp)).1
  have zA0 : w2.frozen? ⟨w.heap.size, 0, none⟩ = false := (A6.out.2 0 (by simp)).2
  have yA1 : w2.cell? ⟨w.heap.size, 1, none⟩ = some (.int .i64 d) := (A6.out.2 1 (by simp)).1
  have zA1 : w2.frozen? ⟨w.heap.size, 1, none⟩ = false := (A6.out.2 1 (by simp)).2
  have yA2 : w2.cell? ⟨w.heap.size, 2, none⟩ = some (.slice (some ⟨b1, 0, none⟩) nW nW) := (A6.out.2 2 (by simp)).1
  have zA2 : w2.frozen? ⟨w.heap.size, 2, none⟩ = false := (A6.out.2 2 (by simp)).2
  have yA3 : w2.cell? ⟨w.heap.size, 3, none⟩ = some (.slice (some ⟨b2, 0, none⟩) nG nG) := (A6.out.2 3 (by simp)).1
  have zA3 : w2.frozen? ⟨w.heap.size, 3, none⟩ = false := (A6.out.2 3 (by simp)).2
  have yA4 : w2.cell? ⟨w.heap.size, 4, none⟩ = some (.slice (some ⟨b3, 0, none⟩) nA nA) := (A6.out.2 4 (by simp)).1
  have zA4 : w2.frozen? ⟨w.heap.size, 4, none⟩ = false := (A6.out.2 4 (by simp)).2
  have hlA : w.heap.size < w2.heap.size := A6.out.1
  have yR0 : w2.cell? ⟨(w.heap.size + 1), 0, none⟩ = some (.int .i64 0) := (R6.out.2 0 (by simp)).1
  have zR0 : w2.frozen? ⟨(w.heap.size + 1), 0, none⟩ = false := (R6.out.2 0 (by simp)).2
  have yR1 : w2.cell? ⟨(w.heap.size + 1), 1, none⟩ = some (.int .i64 0) := (R6.out.2 1 (by simp)).1
  have zR1 : w2.frozen? ⟨(w.heap.size + 1), 1, none⟩ = false := (R6.out.2 1 (by simp)).2
  have yR2 : w2.cell? ⟨(w.heap.size + 1), 2, none⟩ = some (.slice none 0 0) := (R6.out.2 2 (by simp)).1
  have zR2 : w2.frozen? ⟨(w.heap.size + 1), 2, none⟩ = false := (R6.out.2 2 (by simp)).2
  have yR3 : w2.cell? ⟨(w.heap.size + 1), 3, none⟩ = some (.slice none 0 0) := (R6.out.2 3 (by simp)).1
  have zR3 : w2.frozen? ⟨(w.heap.size + 1), 3, none⟩ = false := (R6.out.2 3 (by simp)).2
  have yR4 : w2.cell? ⟨(w.heap.size + 1), 4, none⟩ = some (.slice none 0 0) := (R6.out.2 4 (by simp)).1
  have zR4 : w2.frozen? ⟨(w.heap.size + 1), 4, none⟩ = false := (R6.out.2 4 (by simp)).2
  have hlR : (w.heap.size + 1) < w2.heap.size := R6.out.1
  go_wp2_with fail
  obtain ⟨w3, e3⟩ : ∃ y, y = w2.alloc (.cells #[.int .i64 c, .int .i64 d, .slice aW nW cW, .slice (some ⟨gG, 0, none⟩) nG cG, .slice (some ⟨gA, 0, none⟩) nA cA] 34) := ⟨_, rfl⟩
  rw [← e3]
  have hb3 : Below w2.heap.size w2 w3 := by rw [e3]; exact (Below.refl _ _).alloc (Nat.le_refl _) _
  have X3 : Bk w3 w2.heap.size [.int .i64 c, .int .i64 d, .slice aW nW cW, .slice (some ⟨gG, 0, none⟩) nG cG, .slice (some ⟨gA, 0, none⟩) nA cA] := by rw [e3]; exact bk_new w2 34 [.int .i64 c, .int .i64 d, .slice aW nW cW, .slice (some ⟨gG, 0, none⟩) nG cG, .slice (some ⟨gA, 0, none⟩) nA cA]
  clear e3
  clear yA0 zA0 yA1 zA1 yA2 zA2 yA3 zA3 yA4 zA4 hlA yR0 zR0 yR1 zR1 yR2 zR2 yR3 zR3 yR4 zR4 hlR
  have B10 : Hid (Below w.heap.size w w3) := bthen B6.out hb3
  have A10 : Hid (Bk w3 w.heap.size [.int .i64 c, .int .i64 d, .slice (some ⟨b1, 0, none⟩) nW nW, .slice (some ⟨b2, 0, none⟩) nG nG, .slice (some ⟨b3, 0, none⟩) nA nA]) := A6.out.below hb3
  have R10 : Hid (Bk w3 (w.heap.size + 1) [.int .i64 0, .int .i64 0, .slice none 0 0, .slice none 0 0, .slice none 0 0]) := R6.out.below hb3
  have C10 : Hid (CopyO lo w3 (.agg #[.int .i64 c, .int .i64 d, .slice (some ⟨b1, 0, none⟩) nW nW, .slice (some ⟨b2, 0, none⟩) nG nG, .slice (some ⟨b3, 0, none⟩) nA nA]) ⟨c, d, nW, Z, nG, G, nA, N, O⟩) := C6.out.below hb3
  have O1_10 : Hid (RW lw hi w3 (.slice aW nW cW) nW Z gW) := O1_7.out.below hb3
  have O2_10 : Hid (RI lw hi w3 (.slice (some ⟨gG, 0, none⟩) nG cG) nG G gG) := O2_8.out.below hb3
  have O3_10 : Hid (RO lw hi w3 (.slice (some ⟨gA, 0, none⟩) nA cA) nA N O gA sl xs) := O3_9.out.below hb3
  clear B6 A6 R6 C6 O1_7 O2_8 O3_9
  clear hb3
  obtain ⟨gx, egx⟩ : ∃ g, g = w2.heap.size := ⟨_, rfl⟩
  rw [← egx] at X3 ⊢
  have gx1 : gx ≤ w2.heap.size := by omega
  have gx2 : w2.heap.size ≤ gx := by omega
  clear egx
  have X11 : Hid (Bk w3 gx [.int .i64 c, .int .i64 d, .slice aW nW cW, .slice (some ⟨gG, 0, none⟩) nG cG, .slice (some ⟨gA, 0, none⟩) nA cA]) := X3
  clear X3
  have HLD : Hid (OV.land ⟨c, d, nW, Z, nG, G, nA, N, O⟩ id = OV.came ⟨c, d, nW, Z, nG, G, nA, N, O⟩ id) := by unfold Hid; rw [OV.land, if_pos hok]
  have hsW : nW ≤ 2000000 := Nat.le_trans HS.out.1 (by decide)
  clear hok
  skip
  go_loopw [6] (fun i wr => ∃ k : Nat, k ≤ nW ∧ i = .int .i64 k ∧ RW lw hi wr (.slice aW nW cW) nW (fun i j => if i < k ∧ Z i 0 = id ∧ j = 5 then 0 else Z i j) gW ∧ RI lw hi wr (.slice (some ⟨gG, 0, none⟩) nG cG) nG G gG ∧ RO lw hi wr (.slice (some ⟨gA, 0, none⟩) nA cA) nA N O gA sl xs ∧ Bk wr gx [.int .i64 c, .int .i64 d, .slice aW nW cW, .slice (some ⟨gG, 0, none⟩) nG cG, .slice (some ⟨gA, 0, none⟩) nA cA] ∧ Bk wr (w.heap.size + 1) [.int .i64 0, .int .i64 0, .slice none 0 0, .slice none 0 0, .slice none 0 0] ∧ Below w.heap.size w wr ∧ w3.heap.size ≤ wr.heap.size) (fun i _ => nW - (intOf i).toNat)
  case atStart => exact ⟨0, Nat.zero_le _, rfl, rw_congr O1_10.out (fun i j _ _ => by simp), O2_10.out, O3_10.out, X11.out, R10.out, B10.out, Nat.le_refl _⟩
  case round =>
    have gx3 := X11.out.1
    clear O1_10 O2_10 O3_10 X11 R10 B10
    obtain ⟨k, hk, rfl, r1, r2, r3, rx, rr, rb, rz⟩ := hrel
    have Q1 : Hid (RW lw hi wr (.slice aW nW cW) nW (fun i j => if i < k ∧ Z i 0 = id ∧ j = 5 then 0 else Z i j) gW) := r1
    have Q2 : Hid (RI lw hi wr (.slice (some ⟨gG, 0, none⟩) nG cG) nG G gG) := r2
    have Q3 : Hid (RO lw hi wr (.slice (some ⟨gA, 0, none⟩) nA cA) nA N O gA sl xs) := r3
    have QX : Hid (Bk wr gx [.int .i64 c, .int .i64 d, .slice aW nW cW, .slice (some ⟨gG, 0, none⟩) nG cG, .slice (some ⟨gA, 0, none⟩) nA cA]) := rx
    have QR : Hid (Bk wr (w.heap.size + 1) [.int .i64 0, .int .i64 0, .slice none 0 0, .slice none 0 0, .slice none 0 0]) := rr
    have QB : Hid (Below w.heap.size w wr) := rb
    clear r1 r2 r3 rx rr rb
    by_cases hkn : k < nW
    · have hkn' : (k : Int) < nW := by omega
      obtain ⟨rfl, g1, g2, u⟩ : aW = some ⟨gW, 0, none⟩ ∧ lw ≤ gW ∧ gW < hi ∧ P6.OwnK wr gW nW (fun i j => if i < k ∧ Z i 0 = id ∧ j = 5 then 0 else Z i j) nW := by
        rcases Q1.out with ⟨h, _⟩ | ⟨c, q1, q2, q3, _, u⟩
        · omega
        · simp at q1
          exact ⟨q1.1, q2, q3, u⟩
      have hc0 : wr.cell? ⟨gW, k * 6, none⟩ = some (.int .i64 (Z k 0)) := by
        have := u.2 k 0 hkn (by omega)
        simpa [P6.cv] using this
      obtain ⟨d0, f0⟩ := u.1 (k * 6 + 5) (by omega)
      obtain ⟨v0, d0⟩ := Option.isSome_iff_exists.1 d0
      have HU : Hid (P6.OwnK wr gW nW (fun i j => if i < k ∧ Z i 0 = id ∧ j = 5 then 0 else Z i j) nW) := u
      clear u
      have yX0 : wr.cell? ⟨gx, 0, none⟩ = some (.int .i64 c) := (QX.out.2 0 (by simp)).1
      have yX1 : wr.cell? ⟨gx, 1, none⟩ = some (.int .i64 d) := (QX.out.2 1 (by simp)).1
      have yX2 : wr.cell? ⟨gx, 2, none⟩ = some (.slice (some ⟨gW, 0, none⟩) nW cW) := (QX.out.2 2 (by simp)).1
      have yX3 : wr.cell? ⟨gx, 3, none⟩ = some (.slice (some ⟨gG, 0, none⟩) nG cG) := (QX.out.2 3 (by simp)).1
      have yX4 : wr.cell? ⟨gx, 4, none⟩ = some (.slice (some ⟨gA, 0, none⟩) nA cA) := (QX.out.2 4 (by simp)).1
      have ylX := QX.out.1
      have lgW : gW < wr.heap.size := by omega
      by_cases hq : Z k 0 = id
      · have hq' : (Z k 0 == id) = true := by simp [hq]
        have HQ : Hid (Z k 0 = id) := hq
        clear hq
        go_wp2
        obtain ⟨w5, e5⟩ : ∃ y, y = wr.setCell ⟨gW, k * 6 + 5, none⟩ (.bool true) := ⟨_, rfl⟩
        try rw [← e5]
        have z45 : wr.heap.size ≤ w5.heap.size := by rw [e5, set_size]; exact Nat.le_refl _
        have T1 : Hid (RW lw hi w5 (.slice (some ⟨gW, 0, none⟩) nW cW) nW (fun i j => if i < (k + 1) ∧ Z i 0 = id ∧ j = 5 then 0 else Z i j) gW) := by
          rcases Q1.out with ⟨h, _⟩ | ⟨c', q1, q2, q3, q4, _⟩
          · omega
          · refine .inr ⟨c', q1, q2, q3, Nat.le_trans q4 z45, ?_⟩
            rw [e5]
            refine ownK_congr (ownK_upd HU.out hkn) (fun i j hi hj => ?_)
            have h3 := HQ.out
            by_cases h1 : i = k ∧ j = 5
            · rw [if_pos h1, if_pos ⟨by omega, by rw [h1.1]; exact h3, h1.2⟩]
            · rw [if_neg h1]
              by_cases h2 : i < k ∧ Z i 0 = id ∧ j = 5
              · rw [if_pos h2, if_pos ⟨by omega, h2.2⟩]
              · rw [if_neg h2, if_neg (fun e => h2 ⟨by rcases Nat.lt_or_ge i k with q | q; exact q; exact absurd ⟨by omega, e.2.2⟩ h1, e.2⟩)]
        have T2 : Hid (RI lw hi w5 (.slice (some ⟨gG, 0, none⟩) nG cG) nG G gG) := Q2.out.sm z45 (fun _ _ => by rw [e5]; exact smf H4.out.1)
        have T3 : Hid (RO lw hi w5 (.slice (some ⟨gA, 0, none⟩) nA cA) nA N O gA sl xs) := Q3.out.sm z45 (fun _ _ => by rw [e5]; exact smf H4.out.2.1) (fun i hi _ _ => by rw [e5]; exact smf (fun e => (H5.out i hi).1 e.symm))
        have TX : Hid (Bk w5 gx [.int .i64 c, .int .i64 d, .slice (some ⟨gW, 0, none⟩) nW cW, .slice (some ⟨gG, 0, none⟩) nG cG, .slice (some ⟨gA, 0, none⟩) nA cA]) := by rw [e5]; exact QX.out.far (by omega)
        have TR : Hid (Bk w5 (w.heap.size + 1) [.int .i64 0, .int .i64 0, .slice none 0 0, .slice none 0 0, .slice none 0 0]) := by rw [e5]; exact QR.out.far (by omega)
        have TB : Hid (Below w.heap.size w w5) := by rw [e5]; exact QB.out.setCell (by show w.heap.size ≤ gW; omega) _
        clear e5
        go_roundw
        case rel => exact ⟨k + 1, by omega, by go_num, T1.out, T2.out, T3.out, TX.out, TR.out, TB.out, by omega⟩
        case measure => simp [intOf]; omega
      · have hq' : (Z k 0 == id) = false := beq_eq_false_iff_ne.2 hq
        have T1 : Hid (RW lw hi wr (.slice (some ⟨gW, 0, none⟩) nW cW) nW (fun i j => if i < (k + 1) ∧ Z i 0 = id ∧ j = 5 then 0 else Z i j) gW) := rw_congr Q1.out (fun i j hi hj => by
          by_cases h2 : i < k ∧ Z i 0 = id ∧ j = 5
          · rw [if_pos h2, if_pos ⟨by omega, h2.2⟩]
          · rw [if_neg h2, if_neg (fun e => h2 ⟨by rcases Nat.lt_or_ge i k with q | q; exact q; exact absurd (show Z k 0 = id by rw [show k = i by omega]; exact e.2.1) hq, e.2⟩)])
        go_wp2
        go_roundw
        case rel => exact ⟨k + 1, by omega, by go_num, T1.out, Q2.out, Q3.out, QX.out, QR.out, QB.out, rz⟩
        case measure => simp [intOf]; omega
    · have hkk : k = nW := by omega
      have OW4 : Hid (OwnW lw hi wr (.agg #[.int .i64 c, .int .i64 d, .slice aW nW cW, .slice (some ⟨gG, 0, none⟩) nG cG, .slice (some ⟨gA, 0, none⟩) nA cA]) (OV.came ⟨c, d, nW, Z, nG, G, nA, N, O⟩ id)) := ⟨_, _, _, gW, gG, gA, sl, xs, rfl, rw_congr Q1.out (fun i j hi hj => by
        have hi' : i < nW := hi
        dsimp only [OV.came]
        by_cases h2 : Z i 0 = id ∧ j = 5
        · rw [if_pos h2, if_pos ⟨by omega, h2⟩]
        · rw [if_neg h2, if_neg (fun e => h2 e.2)]), Q2.out, Q3.out, H4.out, H5.out, H6.out⟩
      have hkn' : ¬ (k : Int) < nW := by omega
      have yR0 : wr.cell? ⟨(w.heap.size + 1), 0, none⟩ = some (.int .i64 0) := (QR.out.2 0 (by simp)).1
      have zR0 : wr.frozen? ⟨(w.heap.size + 1), 0, none⟩ = false := (QR.out.2 0 (by simp)).2
      have yR1 : wr.cell? ⟨(w.heap.size + 1), 1, none⟩ = some (.int .i64 0) := (QR.out.2 1 (by simp)).1
      have zR1 : wr.frozen? ⟨(w.heap.size + 1), 1, none⟩ = false := (QR.out.2 1 (by simp)).2
      have yR2 : wr.cell? ⟨(w.heap.size + 1), 2, none⟩ = some (.slice none 0 0) := (QR.out.2 2 (by simp)).1
      have zR2 : wr.frozen? ⟨(w.heap.size + 1), 2, none⟩ = false := (QR.out.2 2 (by simp)).2
      have yR3 : wr.cell? ⟨(w.heap.size + 1), 3, none⟩ = some (.slice none 0 0) := (QR.out.2 3 (by simp)).1
      have zR3 : wr.frozen? ⟨(w.heap.size + 1), 3, none⟩ = false := (QR.out.2 3 (by simp)).2
      have yR4 : wr.cell? ⟨(w.heap.size + 1), 4, none⟩ = some (.slice none 0 0) := (QR.out.2 4 (by simp)).1
      have zR4 : wr.frozen? ⟨(w.heap.size + 1), 4, none⟩ = false := (QR.out.2 4 (by simp)).2
      have hlR : (w.heap.size + 1) < wr.heap.size := QR.out.1
      have yX0 : wr.cell? ⟨gx, 0, none⟩ = some (.int .i64 c) := (QX.out.2 0 (by simp)).1
      have zX0 : wr.frozen? ⟨gx, 0, none⟩ = false := (QX.out.2 0 (by simp)).2
      have yX1 : wr.cell? ⟨gx, 1, none⟩ = some (.int .i64 d) := (QX.out.2 1 (by simp)).1
      have zX1 : wr.frozen? ⟨gx, 1, none⟩ = false := (QX.out.2 1 (by simp)).2
      have yX2 : wr.cell? ⟨gx, 2, none⟩ = some (.slice aW nW cW) := (QX.out.2 2 (by simp)).1
      have zX2 : wr.frozen? ⟨gx, 2, none⟩ = false := (QX.out.2 2 (by simp)).2
      have yX3 : wr.cell? ⟨gx, 3, none⟩ = some (.slice (some ⟨gG, 0, none⟩) nG cG) := (QX.out.2 3 (by simp)).1
      have zX3 : wr.frozen? ⟨gx, 3, none⟩ = false := (QX.out.2 3 (by simp)).2
      have yX4 : wr.cell? ⟨gx, 4, none⟩ = some (.slice (some ⟨gA, 0, none⟩) nA cA) := (QX.out.2 4 (by simp)).1
      have zX4 : wr.frozen? ⟨gx, 4, none⟩ = false := (QX.out.2 4 (by simp)).2
      have hlX : gx < wr.heap.size := QX.out.1
      go_wp2
      refine bodyPost_ret (v := .agg #[.int .i64 c, .int .i64 d, .slice aW nW cW, .slice (some ⟨gG, 0, none⟩) nG cG, .slice (some ⟨gA, 0, none⟩) nA cA]) (P6.results_mid (P := Try.prog) (fn := Try.f12) Try.results12 _ _ (w.heap.size + 1) [.int .i64 c, .int .i64 d, .slice aW nW cW, .slice (some ⟨gG, 0, none⟩) nG cG, .slice (some ⟨gA, 0, none⟩) nA cA] _ rfl (P6.Bk.range (Bk.set (j := 4) (v := .slice (some ⟨gA, 0, none⟩) nA cA) (Bk.set (j := 3) (v := .slice (some ⟨gG, 0, none⟩) nG cG) (Bk.set (j := 2) (v := .slice aW nW cW) (Bk.set (j := 1) (v := .int .i64 d) (Bk.set (j := 0) (v := .int .i64 c) QR.out (by simp)) (by simp)) (by simp)) (by simp)) (by simp))) Try.underlying34 rfl (by kernel_rfl)) rfl ⟨⟨_, rfl, by rw [HLD.out]; exact OwnW.wide2 (own_put5 OW4.out (show w.heap.size + 1 < lw by omega)) (by omega) (by rw [set_size, set_size, set_size, set_size, set_size]; omega) (Nat.le_refl _)⟩, (((((QB.out.setCell (by show w.heap.size ≤ w.heap.size + 1; omega) _).setCell (by show w.heap.size ≤ w.heap.size + 1; omega) _).setCell (by show w.heap.size ≤ w.heap.size + 1; omega) _).setCell (by show w.heap.size ≤ w.heap.size + 1; omega) _).setCell (by show w.heap.size ≤ w.heap.size + 1; omega) _)⟩
end Go.Proofs.Ytoickljpjlhkoaa
