/- One worlds in memory of their own, and marks in them; conditions: those typed. -/
import Derived.Test.YtoickljpjlhkoaaOW
namespace Go.Proofs.Ytoickljpjlhkoaa
open Go.RowKit Go.Deep
set_option linter.unusedVariables false


/-- v is a list of n walkers, Z, in the block g of its own, between lo and hi; or there are none. -/
def RW (lo hi : Nat) (w : World) (v : Value) (n : Nat) (Z : Nat → Nat → Int) (g : Nat) : Prop :=
  (n = 0 ∧ ∃ a c, v = .slice a 0 c) ∨ ∃ c, v = .slice (some ⟨g, 0, none⟩) n c ∧ lo ≤ g ∧ g < hi ∧ hi ≤ w.heap.size ∧ P6.OwnK w g n Z n
theorem RW.sm {lo hi : Nat} {w w' : World} {v : Value} {n : Nat} {Z : Nat → Nat → Int} {g : Nat} (h : RW lo hi w v n Z g) (hs : w.heap.size ≤ w'.heap.size) (k : lo ≤ g → g < hi → Sm w w' g) : RW lo hi w' v n Z g := by
  rcases h with h | ⟨c, h1, h2, h3, h4, h5⟩
  · exact .inl h
  · exact .inr ⟨c, h1, h2, h3, Nat.le_trans h4 hs, P6.ownK_sm h5 (k h2 h3)⟩
theorem markW_any (lo hi s : Nat) (v : Value) (n : Nat) (Z : Nat → Nat → Int) (g : Nat) (hn : n ≤ 2000000) (hs : s ≤ 2000000000) (w : World) (h : RW lo hi w v n Z g) :
    Calls Try.prog 42 #[v, .int .i64 (s : Int)] w fun e w' => e = .returned (.int .i64 ((s + n * 6 : Nat) : Int)) ∧ RW lo hi w' v n (P6.Mk 6 s) g ∧ w'.heap.size = w.heap.size ∧ (∀ b, b < w.heap.size → (¬ b = g ∨ b < lo ∨ hi ≤ b) → Sm w w' b) ∧ Below lo w w' := by
  rcases h with ⟨rfl, a, c, rfl⟩ | ⟨c, rfl, h2, h3, h4, h5⟩
  · refine (P6.markL0 s a c w).mono ?_
    rintro e w' ⟨rfl, rfl⟩
    exact ⟨by simp, .inl ⟨rfl, a, c, rfl⟩, rfl, fun b _ _ => Sm.refl _ _, Below.refl _ _⟩
  · refine (P6.markL s g n c Z hn hs w (by omega) h5).mono ?_
    rintro e w' ⟨rfl, o, hg, hz⟩
    exact ⟨rfl, .inr ⟨c, rfl, h2, h3, by omega, o⟩, hz, fun b hb hne => sm_grown hg hb (by intro e; injection e with e; omega), below_grown hg h2 (by omega)⟩
theorem heldW_any (lo hi s : Nat) (v : Value) (n : Nat) (g : Nat) (hn : n ≤ 2000000) (hs : s ≤ 2000000000) (w : World) (h : RW lo hi w v n (P6.Mk 6 s) g) :
    Calls Try.prog 45 #[v, .int .i64 (s : Int)] w fun e w' => e = .returned (.int .i64 ((s + n * 6 : Nat) : Int)) ∧ Below w.heap.size w w' := by
  rcases h with ⟨rfl, a, c, rfl⟩ | ⟨c, rfl, h2, h3, h4, h5⟩
  · refine (P6.heldL0 s a c w).mono ?_
    rintro e w' ⟨rfl, hb⟩
    exact ⟨by simp, hb⟩
  · exact P6.heldL s g n c hn hs w (by omega) h5

/-- v is a one world that holds V, each of its lists in a block of its own, between lo and hi. -/
def OwnW (lo hi : Nat) (w : World) (v : Value) (V : OV) : Prop :=
  ∃ vW vG vA gW gG gA sl xs, v = .agg #[.int .i64 V.c, .int .i64 V.d, vW, vG, vA] ∧ RW lo hi w vW V.nW V.W gW ∧ RI lo hi w vG V.nG V.G gG ∧ RO lo hi w vA V.nA V.N V.A gA sl xs ∧
    (¬ gW = gG ∧ ¬ gW = gA ∧ ¬ gG = gA) ∧ (∀ k, k < V.nA → ¬ xs k = gW ∧ ¬ xs k = gG ∧ ¬ xs k = gA) ∧ (∀ i j, i < V.nA → j < V.nA → ¬ i = j → ¬ xs i = xs j)
theorem OwnW.sm {lo hi : Nat} {w w' : World} {v : Value} {V : OV} (h : OwnW lo hi w v V) (hs : w.heap.size ≤ w'.heap.size) (k : ∀ b, lo ≤ b → b < hi → Sm w w' b) : OwnW lo hi w' v V := by
  obtain ⟨vW, vG, vA, gW, gG, gA, sl, xs, e, h1, h2, h3, h4, h5, h6⟩ := h
  exact ⟨vW, vG, vA, gW, gG, gA, sl, xs, e, h1.sm hs (k gW), h2.sm hs (k gG), h3.sm hs (k gA) (fun i _ => k (xs i)), h4, h5, h6⟩
theorem OwnW.lt {lo hi : Nat} {w : World} {v : Value} {V : OV} (h : OwnW lo hi w v V) (hh : hi ≤ w.heap.size) {w' : World} (hb : Below w.heap.size w w') : OwnW lo hi w' v V :=
  h.sm hb.size (fun b _ q => sm_below hb (by omega))
theorem row_of_rw {lo hi : Nat} {w : World} {v : Value} {n : Nat} {Z : Nat → Nat → Int} {g : Nat} (h : RW lo hi w v n Z g) : ∃ a c, v = .slice a n c ∧ P6.RowK w a n Z := by
  rcases h with ⟨rfl, a, c, rfl⟩ | ⟨c, rfl, h2, h3, h4, h5⟩
  · exact ⟨a, c, rfl, .inl rfl⟩
  · exact ⟨_, c, rfl, P6.row_of_own h5 (by omega)⟩
theorem row_of_ri {lo hi : Nat} {w : World} {v : Value} {n : Nat} {X : Nat → Int} {g : Nat} (h : RI lo hi w v n X g) : ∃ a c, v = .slice a n c ∧ Row1 w a n X := by
  rcases h with ⟨rfl, a, c, rfl⟩ | ⟨c, rfl, h2, h3, h4, h5⟩
  · exact ⟨a, c, rfl, .inl rfl⟩
  · exact ⟨_, c, rfl, row1_of_own h5 (by omega)⟩
theorem row_of_ro {lo hi : Nat} {w : World} {v : Value} {n : Nat} {N : Nat → Nat} {O : Nat → Nat → Int} {g : Nat} {sl : Nat → Value} {xs : Nat → Nat} (h : RO lo hi w v n N O g sl xs) : ∃ a c, v = .slice a n c ∧ RowO w a n N O := by
  rcases h with ⟨rfl, a, c, rfl⟩ | ⟨c, rfl, h2, h3, h4, h5⟩
  · exact ⟨a, c, rfl, .inl rfl⟩
  · refine ⟨_, c, rfl, .inr ⟨g, 0, rfl, by omega, fun k hk => ?_⟩⟩
    obtain ⟨q1, q2⟩ := h5 k hk
    obtain ⟨a, c', e, r⟩ := row_of_ri q2
    exact ⟨a, c', by rw [Nat.zero_add, q1, e], r⟩
theorem OwnW.at {lo hi : Nat} {w : World} {v : Value} {V : OV} (h : OwnW lo hi w v V) : OneAt w v V := by
  obtain ⟨vW, vG, vA, gW, gG, gA, sl, xs, e, h1, h2, h3, _⟩ := h
  obtain ⟨aW, cW, rfl, r1⟩ := row_of_rw h1
  obtain ⟨aG, cG, rfl, r2⟩ := row_of_ri h2
  obtain ⟨aA, cA, rfl, r3⟩ := row_of_ro h3
  exact ⟨aW, cW, aG, cG, aA, cA, e, r1, r2, r3⟩
theorem CopyO.own {lo : Nat} {w : World} {v : Value} {V : OV} (h : CopyO lo w v V) : OwnW lo w.heap.size w v V := by
  obtain ⟨b1, b2, b3, l1, l2, l3, l4, e, h1, h2, h3, xs, h4, h5⟩ := h
  refine ⟨_, _, _, b1, b2, b3, fun k => .slice (some ⟨xs k, 0, none⟩) (V.N k) (V.N k), xs, e, .inr ⟨_, rfl, l1, by omega, Nat.le_refl _, h1⟩, .inr ⟨_, rfl, by omega, by omega, Nat.le_refl _, h2⟩, .inr ⟨_, rfl, by omega, l4, Nat.le_refl _, fun k hk => ?_⟩, by omega, fun k hk => ?_, fun i j hi hj hij => ?_⟩
  · obtain ⟨q1, q2, q3, q4⟩ := h5 k hk
    exact ⟨q3, .inr ⟨_, rfl, by omega, q2, Nat.le_refl _, q4⟩⟩
  · obtain ⟨q1, q2, q3, q4⟩ := h5 k hk
    omega
  · rcases Nat.lt_or_gt_of_ne hij with h | h
    · have := h4 i j h hj; omega
    · have := h4 j i h hi; omega

/-- Where the marks of its lists begin, and what it holds behind the marking. -/
def OV.s1 (V : OV) : Nat := 1 + V.nW * 6
def OV.s2 (V : OV) : Nat := V.s1 + V.nG
def OV.s3 (V : OV) : Nat := st V.s2 V.N V.nA
def OV.marked (V : OV) : OV := { V with W := P6.Mk 6 1, G := M1 V.s1, A := fun k => M1 (st V.s2 V.N k) }
theorem st_sum (s : Nat) (N : Nat → Nat) : ∀ k, st s N k = s + sumN N k
  | 0 => rfl
  | k + 1 => by simp only [st, sumN]; rw [st_sum s N k]; omega
theorem sumN_le (N : Nat → Nat) {k : Nat} : ∀ {n : Nat}, k ≤ n → sumN N k ≤ sumN N n
  | 0, h => by obtain rfl : k = 0 := by omega
               exact Nat.le_refl _
  | n + 1, h => by
    by_cases e : k = n + 1
    · subst e; exact Nat.le_refl _
    · have := sumN_le N (k := k) (n := n) (by omega)
      simp only [sumN]; omega

set_option maxHeartbeats 4000000 in
theorem markOne (lo hi : Nat) (v : Value) (V : OV) (hs : V.few) (w : World) (hlh : lo ≤ w.heap.size) (hhi : hi ≤ w.heap.size) (h : OwnW lo hi w v V) :
    Calls Try.prog 14 #[v, .int .i64 1] w fun e w' => e = .returned (.int .i64 (V.s3 : Int)) ∧ OwnW lo hi w' v V.marked ∧ w.heap.size ≤ w'.heap.size ∧ (∀ b, b < w.heap.size → (b < lo ∨ hi ≤ b) → Sm w w' b) ∧ Below lo w w' := by
  obtain ⟨vW, vG, vA, gW, gG, gA, sl, xs, rfl, h1, h2, h3, h4, h5, h6⟩ := h
  obtain ⟨c, d, nW, Z, nG, G, nA, N, O⟩ := V
  simp only at h1 h2 h3 h4 h5 h6
  obtain ⟨⟨f1, f2, f3, f4⟩, f5⟩ := hs
  simp only at f1 f2 f3 f4 f5
  have F4 : Hid (∀ k, k < nA → N k ≤ 1048576) := f4
  have H5 : Hid (∀ k, k < nA → ¬ xs k = gW ∧ ¬ xs k = gG ∧ ¬ xs k = gA) := h5
  have H6 : Hid (∀ i j, i < nA → j < nA → ¬ i = j → ¬ xs i = xs j) := h6
  have HT : Hid (∀ k, k ≤ nA → st (1 + nW * 6 + nG) N k ≤ 2000000000) := fun k hk => by have := sumN_le N hk; rw [st_sum]; omega
  clear f4 h5 h6
  obtain ⟨n1, n2, n3⟩ := h4
  obtain ⟨aW, cW, rfl, _⟩ := row_of_rw h1
  obtain ⟨aG, cG, rfl, _⟩ := row_of_ri h2
  obtain ⟨aA, cA, rfl, _⟩ := row_of_ro h3
  have R1 : Hid (RW lo hi w (.slice aW nW cW) nW Z gW) := h1
  have R2 : Hid (RI lo hi w (.slice aG nG cG) nG G gG) := h2
  have R3 : Hid (RO lo hi w (.slice aA nA cA) nA N O gA sl xs) := h3
  clear h1 h2 h3
  go_enter Try.func14, Try.ntmps14
  go_wp2_with fail
  obtain ⟨w0, e0⟩ : ∃ w0, w0 = w.alloc (.cells #[.int .i64 c, .int .i64 d, .slice aW nW cW, .slice aG nG cG, .slice aA nA cA] 34) := ⟨_, rfl⟩
  have hb0 : Below w.heap.size w w0 := by rw [e0]; exact (Below.refl _ _).alloc (Nat.le_refl _) _
  have K0 : Hid (Bk w0 w.heap.size [.int .i64 c, .int .i64 d, .slice aW nW cW, .slice aG nG cG, .slice aA nA cA]) := by rw [e0]; exact bk_new w 34 [.int .i64 c, .int .i64 d, .slice aW nW cW, .slice aG nG cG, .slice aA nA cA]
  rw [← e0]
  clear e0
  have z0 := hb0.size
  have S0 : Hid (∀ b, b < w.heap.size → Sm w w0 b) := fun b hb => sm_below hb0 hb
  have A1 : Hid (RW lo hi w0 (.slice aW nW cW) nW Z gW) := R1.out.sm z0 (fun _ q => S0.out _ (by omega))
  have A2 : Hid (RI lo hi w0 (.slice aG nG cG) nG G gG) := R2.out.sm z0 (fun _ q => S0.out _ (by omega))
  have A3 : Hid (RO lo hi w0 (.slice aA nA cA) nA N O gA sl xs) := R3.out.sm z0 (fun _ q => S0.out _ (by omega)) (fun i _ _ q => S0.out _ (by omega))
  have L0 : Hid (Below lo w w0) := hb0.mono (by omega)
  clear R1 R2 R3 hb0
  refine (markW_any lo hi 1 _ nW Z gW (by omega) (by omega) _ A1.out).mono ?_
  rintro e w1 ⟨rfl, M1', z1, sm1, l1⟩
  have B1 : Hid (RW lo hi w1 (.slice aW nW cW) nW (P6.Mk 6 1) gW) := M1'
  have B2 : Hid (RI lo hi w1 (.slice aG nG cG) nG G gG) := A2.out.sm (Nat.le_of_eq z1.symm) (fun _ q => sm1 _ (by omega) (.inl (by omega)))
  have B3 : Hid (RO lo hi w1 (.slice aA nA cA) nA N O gA sl xs) := A3.out.sm (Nat.le_of_eq z1.symm) (fun _ q => sm1 _ (by omega) (.inl (by omega))) (fun i hi _ q => sm1 _ (by omega) (.inl (H5.out i hi).1))
  have K1 : Hid (Bk w1 w.heap.size [.int .i64 c, .int .i64 d, .slice aW nW cW, .slice aG nG cG, .slice aA nA cA]) := K0.out.sm (Nat.le_of_eq z1.symm) (sm1 _ K0.out.1 (.inr (.inr (by omega))))
  have S1 : Hid (∀ b, b < w.heap.size → (b < lo ∨ hi ≤ b) → Sm w w1 b) := fun b hb hne => (S0.out b hb).trans (sm1 b (by omega) (.inr hne))
  have L1 : Hid (Below lo w w1) := L0.out.trans l1
  have y1 : w.heap.size ≤ w1.heap.size := by omega
  have y1b : w.heap.size < w1.heap.size := K1.out.1
  clear M1' z1 sm1 l1 A1 A2 A3 K0 S0 L0 z0
  have c0 : w1.cell? ⟨w.heap.size, 0, none⟩ = some (.int .i64 c) := (K1.out.2 0 (by simp)).1
  have c1 : w1.cell? ⟨w.heap.size, 1, none⟩ = some (.int .i64 d) := (K1.out.2 1 (by simp)).1
  have c2 : w1.cell? ⟨w.heap.size, 2, none⟩ = some (.slice aW nW cW) := (K1.out.2 2 (by simp)).1
  have c3 : w1.cell? ⟨w.heap.size, 3, none⟩ = some (.slice aG nG cG) := (K1.out.2 3 (by simp)).1
  have c4 : w1.cell? ⟨w.heap.size, 4, none⟩ = some (.slice aA nA cA) := (K1.out.2 4 (by simp)).1
  go_wp2_with fail
  clear c0 c1 c2 c3 c4
  refine (markI_any lo hi (1 + nW * 6) _ nG G gG (by omega) (by omega) _ B2.out).mono ?_
  rintro e w2 ⟨rfl, M2', z2, sm2, l2⟩
  have C1 : Hid (RW lo hi w2 (.slice aW nW cW) nW (P6.Mk 6 1) gW) := B1.out.sm (Nat.le_of_eq z2.symm) (fun _ q => sm2 _ (by omega) (.inl (by omega)))
  have C2 : Hid (RI lo hi w2 (.slice aG nG cG) nG (M1 (1 + nW * 6)) gG) := M2'
  have C3 : Hid (RO lo hi w2 (.slice aA nA cA) nA N O gA sl xs) := B3.out.sm (Nat.le_of_eq z2.symm) (fun _ q => sm2 _ (by omega) (.inl (by omega))) (fun i hi _ q => sm2 _ (by omega) (.inl (H5.out i hi).2.1))
  have K2 : Hid (Bk w2 w.heap.size [.int .i64 c, .int .i64 d, .slice aW nW cW, .slice aG nG cG, .slice aA nA cA]) := K1.out.sm (Nat.le_of_eq z2.symm) (sm2 _ K1.out.1 (.inr (.inr (by omega))))
  have S2 : Hid (∀ b, b < w.heap.size → (b < lo ∨ hi ≤ b) → Sm w w2 b) := fun b hb hne => (S1.out b hb hne).trans (sm2 b (by omega) (.inr hne))
  have L2 : Hid (Below lo w w2) := L1.out.trans l2
  have y2 : w.heap.size < w2.heap.size := K2.out.1
  clear M2' z2 sm2 l2 B1 B2 B3 K1 S1 L1 y1 y1b
  have c0 : w2.cell? ⟨w.heap.size, 0, none⟩ = some (.int .i64 c) := (K2.out.2 0 (by simp)).1
  have c1 : w2.cell? ⟨w.heap.size, 1, none⟩ = some (.int .i64 d) := (K2.out.2 1 (by simp)).1
  have c2 : w2.cell? ⟨w.heap.size, 2, none⟩ = some (.slice aW nW cW) := (K2.out.2 2 (by simp)).1
  have c3 : w2.cell? ⟨w.heap.size, 3, none⟩ = some (.slice aG nG cG) := (K2.out.2 3 (by simp)).1
  have c4 : w2.cell? ⟨w.heap.size, 4, none⟩ = some (.slice aA nA cA) := (K2.out.2 4 (by simp)).1
  go_wp2_with fail
  clear c0 c1 c2 c3 c4
  refine (markO lo hi (1 + nW * 6 + nG) _ nA N O gA sl xs f3 F4.out HT.out (fun k hk => (H5.out k hk).2.2) H6.out _ C3.out).mono ?_
  rintro e w3 ⟨rfl, M3, z3, sm3, l3⟩
  have D1 : Hid (RW lo hi w3 (.slice aW nW cW) nW (P6.Mk 6 1) gW) := C1.out.sm (Nat.le_of_eq z3.symm) (fun _ q => sm3 _ (by omega) (.inl fun k hk e => (H5.out k hk).1 e.symm))
  have D2 : Hid (RI lo hi w3 (.slice aG nG cG) nG (M1 (1 + nW * 6)) gG) := C2.out.sm (Nat.le_of_eq z3.symm) (fun _ q => sm3 _ (by omega) (.inl fun k hk e => (H5.out k hk).2.1 e.symm))
  have D3 : Hid (RO lo hi w3 (.slice aA nA cA) nA N (fun k => M1 (st (1 + nW * 6 + nG) N k)) gA sl xs) := M3
  have S3 : Hid (∀ b, b < w.heap.size → (b < lo ∨ hi ≤ b) → Sm w w3 b) := fun b hb hne => (S2.out b hb hne).trans (sm3 b (by omega) (.inr hne))
  have L3 : Hid (Below lo w w3) := L2.out.trans l3
  have y3 : w.heap.size ≤ w3.heap.size := by omega
  clear M3 z3 sm3 l3 C1 C2 C3 K2 S2 L2 y2
  go_wp2
  go_ret
  exact ⟨rfl, ⟨_, _, _, gW, gG, gA, sl, xs, rfl, D1.out, D2.out, D3.out, ⟨n1, n2, n3⟩, H5.out, H6.out⟩, y3, S3.out, L3.out⟩

set_option maxHeartbeats 4000000 in
theorem heldOne (lo hi : Nat) (v : Value) (V : OV) (hs : V.few) (w : World) (hhi : hi ≤ w.heap.size) (h : OwnW lo hi w v V.marked) :
    Calls Try.prog 15 #[v, .int .i64 1] w fun e w' => e = .returned (.int .i64 (V.s3 : Int)) ∧ Below w.heap.size w w' := by
  obtain ⟨vW, vG, vA, gW, gG, gA, sl, xs, rfl, h1, h2, h3, h4, h5, h6⟩ := h
  obtain ⟨c, d, nW, Z, nG, G, nA, N, O⟩ := V
  simp only [OV.marked, OV.s1, OV.s2] at h1 h2 h3 h4 h5 h6 ⊢
  obtain ⟨⟨f1, f2, f3, f4⟩, f5⟩ := hs
  simp only at f1 f2 f3 f4 f5
  have F4 : Hid (∀ k, k < nA → N k ≤ 1048576) := f4
  have H5 : Hid (∀ k, k < nA → ¬ xs k = gW ∧ ¬ xs k = gG ∧ ¬ xs k = gA) := h5
  have H6 : Hid (∀ i j, i < nA → j < nA → ¬ i = j → ¬ xs i = xs j) := h6
  have HT : Hid (∀ k, k ≤ nA → st (1 + nW * 6 + nG) N k ≤ 2000000000) := fun k hk => by have := sumN_le N hk; rw [st_sum]; omega
  clear f4 h5 h6
  obtain ⟨n1, n2, n3⟩ := h4
  obtain ⟨aW, cW, rfl, _⟩ := row_of_rw h1
  obtain ⟨aG, cG, rfl, _⟩ := row_of_ri h2
  obtain ⟨aA, cA, rfl, _⟩ := row_of_ro h3
  have R1 : Hid (RW lo hi w (.slice aW nW cW) nW (P6.Mk 6 1) gW) := h1
  have R2 : Hid (RI lo hi w (.slice aG nG cG) nG (M1 (1 + nW * 6)) gG) := h2
  have R3 : Hid (RO lo hi w (.slice aA nA cA) nA N (fun k => M1 (st (1 + nW * 6 + nG) N k)) gA sl xs) := h3
  clear h1 h2 h3
  go_enter Try.func15, Try.ntmps15
  go_wp2_with fail
  obtain ⟨w0, e0⟩ : ∃ w0, w0 = w.alloc (.cells #[.int .i64 c, .int .i64 d, .slice aW nW cW, .slice aG nG cG, .slice aA nA cA] 34) := ⟨_, rfl⟩
  have B1 : Hid (Below w.heap.size w w0) := by rw [e0]; exact (Below.refl _ _).alloc (by simp) _
  have A2 : Hid (Bk w0 w.heap.size [.int .i64 c, .int .i64 d, .slice aW nW cW, .slice aG nG cG, .slice aA nA cA]) := by rw [e0]; exact bk_new w 34 [.int .i64 c, .int .i64 d, .slice aW nW cW, .slice aG nG cG, .slice aA nA cA]
  rw [← e0]
  clear e0
  refine (heldW_any lo hi 1 _ nW gW (by omega) (by omega) _ (R1.out.sm B1.out.size (fun _ q => sm_below B1.out (by omega)))).mono ?_
  rintro e w1 ⟨rfl, hb1⟩
  have B3 : Hid (Below w.heap.size w w1) := bthen B1.out hb1
  have A3 : Hid (Bk w1 w.heap.size [.int .i64 c, .int .i64 d, .slice aW nW cW, .slice aG nG cG, .slice aA nA cA]) := A2.out.below hb1
  clear B1 A2
  clear hb1
  have yA0 : w1.cell? ⟨w.heap.size, 0, none⟩ = some (.int .i64 c) := (A3.out.2 0 (by simp)).1
  have yA1 : w1.cell? ⟨w.heap.size, 1, none⟩ = some (.int .i64 d) := (A3.out.2 1 (by simp)).1
  have yA2 : w1.cell? ⟨w.heap.size, 2, none⟩ = some (.slice aW nW cW) := (A3.out.2 2 (by simp)).1
  have yA3 : w1.cell? ⟨w.heap.size, 3, none⟩ = some (.slice aG nG cG) := (A3.out.2 3 (by simp)).1
  have yA4 : w1.cell? ⟨w.heap.size, 4, none⟩ = some (.slice aA nA cA) := (A3.out.2 4 (by simp)).1
  have hlA : w.heap.size < w1.heap.size := A3.out.1
  have k1 : ¬ ((1 + nW * 6 : Nat) : Int) < 0 := by omega
  go_wp2_with fail
  refine (heldI_any lo hi (1 + nW * 6) _ nG gG (by omega) (by omega) _ (R2.out.sm B3.out.size (fun _ q => sm_below B3.out (by omega)))).mono ?_
  rintro e w2 ⟨rfl, hb2⟩
  clear yA0 yA1 yA2 yA3 yA4 hlA
  have B4 : Hid (Below w.heap.size w w2) := bthen B3.out hb2
  have A4 : Hid (Bk w2 w.heap.size [.int .i64 c, .int .i64 d, .slice aW nW cW, .slice aG nG cG, .slice aA nA cA]) := A3.out.below hb2
  clear B3 A3
  clear hb2
  have yA0 : w2.cell? ⟨w.heap.size, 0, none⟩ = some (.int .i64 c) := (A4.out.2 0 (by simp)).1
  have yA1 : w2.cell? ⟨w.heap.size, 1, none⟩ = some (.int .i64 d) := (A4.out.2 1 (by simp)).1
  have yA2 : w2.cell? ⟨w.heap.size, 2, none⟩ = some (.slice aW nW cW) := (A4.out.2 2 (by simp)).1
  have yA3 : w2.cell? ⟨w.heap.size, 3, none⟩ = some (.slice aG nG cG) := (A4.out.2 3 (by simp)).1
  have yA4 : w2.cell? ⟨w.heap.size, 4, none⟩ = some (.slice aA nA cA) := (A4.out.2 4 (by simp)).1
  have hlA : w.heap.size < w2.heap.size := A4.out.1
  have k2 : ¬ ((1 + nW * 6 + nG : Nat) : Int) < 0 := by omega
  go_wp2_with fail
  refine (heldO lo hi (1 + nW * 6 + nG) _ nA N gA sl xs f3 F4.out HT.out _ (R3.out.sm B4.out.size (fun _ q => sm_below B4.out (by omega)) (fun i _ _ q => sm_below B4.out (by omega)))).mono ?_
  rintro e w3 ⟨rfl, hb3⟩
  clear yA0 yA1 yA2 yA3 yA4 hlA
  have B5 : Hid (Below w.heap.size w w3) := bthen B4.out hb3
  have A5 : Hid (Bk w3 w.heap.size [.int .i64 c, .int .i64 d, .slice aW nW cW, .slice aG nG cG, .slice aA nA cA]) := A4.out.below hb3
  clear B4 A4
  clear hb3
  have k3 : ¬ ((st (1 + nW * 6 + nG) N nA : Nat) : Int) < 0 := by omega
  go_wp2
  go_ret
  exact ⟨rfl, B5.out⟩
end Go.Proofs.Ytoickljpjlhkoaa
