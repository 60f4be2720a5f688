/- OneCoins of the program; conditions: those typed. -/
import Derived.Test.YtoickljpjlhkoaaOP
namespace Go.Proofs.Ytoickljpjlhkoaa
open Go.RowKit Go.Deep
set_option linter.unusedVariables false


def sumX (X : Nat → Int) : Nat → Int
  | 0 => 0
  | k + 1 => sumX X k + X k
theorem sumX_le {X : Nat → Int} {m : Int} : ∀ {n : Nat}, (∀ k, k < n → 0 ≤ X k ∧ X k ≤ m) → 0 ≤ sumX X n ∧ sumX X n ≤ n * m
  | 0, _ => by simp [sumX]
  | n + 1, h => by
    obtain ⟨a, b⟩ := sumX_le (n := n) fun k hk => h k (by omega)
    obtain ⟨c, d⟩ := h n (by omega)
    simp only [sumX]
    have e : ((n + 1 : Nat) : Int) * m = n * m + m := by rw [Int.natCast_add, Int.add_mul]; simp
    omega
theorem sumX_eq {X Y : Nat → Int} : ∀ {n : Nat}, (∀ k, k < n → X k = Y k) → sumX X n = sumX Y n
  | 0, _ => rfl
  | n + 1, h => by simp only [sumX]; rw [sumX_eq (n := n) fun k hk => h k (by omega), h n (by omega)]
theorem sumX_add (X Y : Nat → Int) : ∀ n, sumX (fun k => X k + Y k) n = sumX X n + sumX Y n
  | 0 => rfl
  | n + 1 => by simp only [sumX]; rw [sumX_add X Y n]; omega
/-- The coins of a one world. -/
def OV.coins (V : OV) : Int := if V.ok = true then sumX V.G V.nG + sumX (fun k => V.W k 2) V.nW + sumX (fun k => sumX (V.A k) (V.N k)) V.nA else 0
theorem allB_at {c d : Int} {Z : Nat → Nat → Int} {n : Nat} (h : allB c d Z n = true) : ∀ k, k < n → goodB c d Z k = true := by
  intro k hk
  have := allB_down n (show k + 1 ≤ n by omega) h
  simp only [allB, Bool.and_eq_true] at this
  exact this.2
/-- What a one world that is ok has. -/
theorem OV.good {V : OV} (h : V.ok = true) : (2 ≤ V.c ∧ V.c ≤ 4 ∧ (V.nG : Int) = V.c ∧ (V.nA : Int) = V.c) ∧ (∀ k, k < V.nG → 0 ≤ V.G k ∧ V.G k ≤ 900) ∧ (∀ k, k < V.nA → V.N k = 2 ∧ ∀ j, j < 2 → 0 ≤ V.A k j ∧ V.A k j ≤ 100000) ∧ (∀ k, k < V.nW → 0 ≤ V.W k 2 ∧ V.W k 2 ≤ 99) := by
  simp only [OV.ok, Bool.and_eq_true, cntB, beq_iff_eq] at h
  obtain ⟨h1, ⟨h2, h3⟩, ⟨h4, h5⟩, h6⟩ := h
  obtain ⟨c0, c1, _, _⟩ := okB_bounds h1
  refine ⟨⟨c0, c1, h3, h5⟩, fun k hk => inB_true.1 (allIn_at h2 k hk), fun k hk => ?_, fun k hk => ?_⟩
  · have := airB_at h4 k hk
    simp only [cntB, Bool.and_eq_true, beq_iff_eq] at this
    have h2 : V.N k = 2 := by have := this.2; omega
    exact ⟨h2, fun j hj => inB_true.1 (allIn_at this.1 j (by omega))⟩
  · have := allB_at h6 k hk
    simp only [goodB, wkB, wlkB, boundsB, Bool.and_eq_true] at this
    exact inB_true.1 this.1.1.2.1

set_option maxHeartbeats 1000000 in
theorem sum_impl (a : Option Addr) (n cap : Nat) (X : Nat → Int) (hn : n ≤ 1048576) (hX : ∀ k, k < n → 0 ≤ X k ∧ X k ≤ 100000) (w : World) (h : Row1 w a n X) :
    Calls Try.prog 50 #[.slice a n cap] w fun e w' => e = .returned (.int .i64 (sumX X n)) ∧ Below w.heap.size w w' := by
  have H1 : Hid (Row1 w a n X) := h
  have HX : Hid (∀ k, k < n → 0 ≤ X k ∧ X k ≤ 100000) := hX
  clear h hX
  go_enter Try.func50, Try.ntmps50
  go_wp2
  go_loopw [3, 8] (fun s i wr => ∃ (k : Nat) (z : Int), k ≤ n ∧ .int .i64 k = i ∧ .int .i64 z = s ∧ z = sumX X k ∧ Below w.heap.size w wr) (fun _ i _ => n - (intOf i).toNat)
  case atStart => exact ⟨0, 0, Nat.zero_le _, rfl, rfl, rfl, Below.refl _ _⟩
  case round =>
    obtain ⟨k, z, hk, rfl, rfl, hz, hbel⟩ := hrel
    have HZ : Hid (z = sumX X k) := hz
    obtain ⟨z0, z1⟩ := sumX_le (n := k) (X := X) (m := 100000) fun j hj => HX.out j (by omega)
    rw [← hz] at z0 z1
    clear hz
    by_cases hkn : k < n
    · have hkn' : (k : Int) < n := by omega
      obtain ⟨b1, o1, rfl, hb1, hr1⟩ : ∃ b o, a = some ⟨b, o, none⟩ ∧ b < w.heap.size ∧ ∀ k, k < n → w.cell? ⟨b, o + k, none⟩ = some (.int .i64 (X k)) := by
        rcases H1.out with h | h
        · omega
        · exact h
      have d1 : wr.cell? ⟨b1, o1 + k, none⟩ = some (.int .i64 (X k)) := (hbel.cell (p := ⟨b1, o1 + k, none⟩) hb1).trans (hr1 k hkn)
      clear hr1
      obtain ⟨x0, x1⟩ := HX.out k hkn
      have hw : IntKind.wrap .i64 (z + X k) = z + X k := by simp [IntKind.wrap, IntKind.bits, IntKind.signed]; omega
      go_wp2
      go_roundw
      case rel => exact ⟨k + 1, z + X k, by omega, by go_num, rfl, by rw [HZ.out]; rfl, hbel⟩
      case measure => simp [intOf]; omega
    · have : k = n := by omega
      subst this
      go_wp2
      go_ret
      exact ⟨by rw [← HZ.out]; rfl, hbel⟩

set_option maxHeartbeats 4000000 in
theorem oneCoins_impl (v : Value) (V : OV) (hs : V.short 1048576) (w : World) (h : OneAt w v V) :
    Calls Try.prog 19 #[v] w fun e w' => e = .returned (.int .i64 V.coins) ∧ Below w.heap.size w w' := by
  have HV : Hid (OneAt w v V) := h
  have HS : Hid (V.short 1048576) := hs
  obtain ⟨aW, kW, aG, kG, aA, kA, rfl, rW, rG, rA⟩ := h
  obtain ⟨c, d, nW, Z, nG, G, nA, N, O⟩ := V
  simp only at HV HS rW rG rA
  obtain ⟨sW, sG, sA, sN⟩ := hs
  simp only at sW sG sA
  have HW : Hid (P6.RowK w aW nW Z) := rW
  have HG : Hid (Row1 w aG nG G) := rG
  have HA : Hid (RowO w aA nA N O) := rA
  clear rW rG rA sN
  cases hok : OV.ok ⟨c, d, nW, Z, nG, G, nA, N, O⟩
  · have hv : OV.coins ⟨c, d, nW, Z, nG, G, nA, N, O⟩ = 0 := by rw [OV.coins, if_neg (by rw [hok]; simp)]
    rw [hv]
    clear hv
    go_enter Try.func19, Try.ntmps19
    go_wp2_with fail
    obtain ⟨w0, e0⟩ : ∃ w0, w0 = w.alloc (.cells #[.int .i64 c, .int .i64 d, .slice aW nW kW, .slice aG nG kG, .slice aA nA kA] 34) := ⟨_, rfl⟩
    have B1 : Hid (Below w.heap.size w w0) := by rw [e0]; exact (Below.refl _ _).alloc (by simp) _
    have A2 : Hid (Bk w0 w.heap.size [.int .i64 c, .int .i64 d, .slice aW nW kW, .slice aG nG kG, .slice aA nA kA]) := by rw [e0]; exact bk_new w 34 [.int .i64 c, .int .i64 d, .slice aW nW kW, .slice aG nG kG, .slice aA nA kA]
    rw [← e0]
    clear e0
    refine (oneOk_impl _ ⟨c, d, nW, Z, nG, G, nA, N, O⟩ HS.out _ (oneAt_below HV.out B1.out)).mono ?_
    rintro e w1 ⟨rfl, hb1⟩
    have B3 : Hid (Below w.heap.size w w1) := bthen B1.out hb1
    have A3 : Hid (Bk w1 w.heap.size [.int .i64 c, .int .i64 d, .slice aW nW kW, .slice aG nG kG, .slice aA nA kA]) := A2.out.below hb1
    clear B1 A2
    clear hb1
    rw [hok]
    have yA0 : w1.cell? ⟨w.heap.size, 0, none⟩ = some (.int .i64 c) := (A3.out.2 0 (by simp)).1
    have yA1 : w1.cell? ⟨w.heap.size, 1, none⟩ = some (.int .i64 d) := (A3.out.2 1 (by simp)).1
    have yA2 : w1.cell? ⟨w.heap.size, 2, none⟩ = some (.slice aW nW kW) := (A3.out.2 2 (by simp)).1
    have yA3 : w1.cell? ⟨w.heap.size, 3, none⟩ = some (.slice aG nG kG) := (A3.out.2 3 (by simp)).1
    have yA4 : w1.cell? ⟨w.heap.size, 4, none⟩ = some (.slice aA nA kA) := (A3.out.2 4 (by simp)).1
    have hlA : w.heap.size < w1.heap.size := A3.out.1
    go_wp2
    go_ret
    exact ⟨rfl, B3.out⟩
  have hv : OV.coins ⟨c, d, nW, Z, nG, G, nA, N, O⟩ = sumX G nG + sumX (fun k => Z k 2) nW + sumX (fun k => sumX (O k) (N k)) nA := by rw [OV.coins, if_pos hok]
  obtain ⟨⟨c0, c1, eG, eA⟩, bG, bA, bW⟩ := OV.good hok
  simp only at c0 c1 eG eA bG bA bW
  rw [hv]
  clear hv
  have BG : Hid (∀ k, k < nG → 0 ≤ G k ∧ G k ≤ 900) := bG
  have BA : Hid (∀ k, k < nA → N k = 2 ∧ ∀ j, j < 2 → 0 ≤ O k j ∧ O k j ≤ 100000) := bA
  have BZ : Hid (∀ k, k < nW → 0 ≤ Z k 2 ∧ Z k 2 ≤ 99) := bW
  have hg4 : nG ≤ 4 := by omega
  have ha4 : nA ≤ 4 := by omega
  have EG : Hid ((nG : Int) = c ∧ (nA : Int) = c) := ⟨eG, eA⟩
  clear bG bA bW eG eA
  go_enter Try.func19, Try.ntmps19
  go_wp2_with fail
  obtain ⟨w0, e0⟩ : ∃ w0, w0 = w.alloc (.cells #[.int .i64 c, .int .i64 d, .slice aW nW kW, .slice aG nG kG, .slice aA nA kA] 34) := ⟨_, rfl⟩
  have B1 : Hid (Below w.heap.size w w0) := by rw [e0]; exact (Below.refl _ _).alloc (by simp) _
  have A2 : Hid (Bk w0 w.heap.size [.int .i64 c, .int .i64 d, .slice aW nW kW, .slice aG nG kG, .slice aA nA kA]) := by rw [e0]; exact bk_new w 34 [.int .i64 c, .int .i64 d, .slice aW nW kW, .slice aG nG kG, .slice aA nA kA]
  rw [← e0]
  clear e0
  refine (oneOk_impl _ ⟨c, d, nW, Z, nG, G, nA, N, O⟩ HS.out _ (oneAt_below HV.out B1.out)).mono ?_
  rintro e w1 ⟨rfl, hb1⟩
  have B3 : Hid (Below w.heap.size w w1) := bthen B1.out hb1
  have A3 : Hid (Bk w1 w.heap.size [.int .i64 c, .int .i64 d, .slice aW nW kW, .slice aG nG kG, .slice aA nA kA]) := A2.out.below hb1
  clear B1 A2
  clear hb1
  rw [hok]
  have yA0 : w1.cell? ⟨w.heap.size, 0, none⟩ = some (.int .i64 c) := (A3.out.2 0 (by simp)).1
  have yA1 : w1.cell? ⟨w.heap.size, 1, none⟩ = some (.int .i64 d) := (A3.out.2 1 (by simp)).1
  have yA2 : w1.cell? ⟨w.heap.size, 2, none⟩ = some (.slice aW nW kW) := (A3.out.2 2 (by simp)).1
  have yA3 : w1.cell? ⟨w.heap.size, 3, none⟩ = some (.slice aG nG kG) := (A3.out.2 3 (by simp)).1
  have yA4 : w1.cell? ⟨w.heap.size, 4, none⟩ = some (.slice aA nA kA) := (A3.out.2 4 (by simp)).1
  have hlA : w.heap.size < w1.heap.size := A3.out.1
  go_wp2_with fail
  refine (sum_impl aG nG kG G sG (fun k hk => by have := BG.out k hk; omega) _ (row1_below HG.out B3.out)).mono ?_
  rintro e w2 ⟨rfl, hb2⟩
  clear yA0 yA1 yA2 yA3 yA4 hlA
  have B4 : Hid (Below w.heap.size w w2) := bthen B3.out hb2
  have A4 : Hid (Bk w2 w.heap.size [.int .i64 c, .int .i64 d, .slice aW nW kW, .slice aG nG kG, .slice aA nA kA]) := A3.out.below hb2
  clear B3 A3
  clear hb2
  obtain ⟨g0, g1⟩ := sumX_le (X := G) (m := 900) BG.out
  obtain ⟨sg, esg⟩ : ∃ s, s = sumX G nG := ⟨_, rfl⟩
  rw [← esg] at g0 g1 ⊢
  have ESG : Hid (sg = sumX G nG) := esg
  clear esg
  have yA0 : w2.cell? ⟨w.heap.size, 0, none⟩ = some (.int .i64 c) := (A4.out.2 0 (by simp)).1
  have yA1 : w2.cell? ⟨w.heap.size, 1, none⟩ = some (.int .i64 d) := (A4.out.2 1 (by simp)).1
  have yA2 : w2.cell? ⟨w.heap.size, 2, none⟩ = some (.slice aW nW kW) := (A4.out.2 2 (by simp)).1
  have yA3 : w2.cell? ⟨w.heap.size, 3, none⟩ = some (.slice aG nG kG) := (A4.out.2 3 (by simp)).1
  have yA4 : w2.cell? ⟨w.heap.size, 4, none⟩ = some (.slice aA nA kA) := (A4.out.2 4 (by simp)).1
  have hlA : w.heap.size < w2.heap.size := A4.out.1
  go_wp2_with fail
  clear yA0 yA1 yA2 yA3 yA4 hlA
  go_loopw [3, 17] (fun s i wr => ∃ (k : Nat) (z : Int), k ≤ nW ∧ .int .i64 k = i ∧ .int .i64 z = s ∧ z = sg + sumX (fun k => Z k 2) k ∧ Below w.heap.size w wr ∧ Bk wr w.heap.size [.int .i64 c, .int .i64 d, .slice aW nW kW, .slice aG nG kG, .slice aA nA kA]) (fun _ i _ => nW - (intOf i).toNat)
  case atStart => exact ⟨0, _, Nat.zero_le _, rfl, rfl, by simp [sumX], B4.out, A4.out⟩
  case round =>
    clear B4 A4
    obtain ⟨k, z, hk, rfl, rfl, hz, hbel, hbox⟩ := hrel
    have HZ1 : Hid (z = sg + sumX (fun k => Z k 2) k) := hz
    have B5 : Hid (Below w.heap.size w wr) := hbel
    have A6 : Hid (Bk wr w.heap.size [.int .i64 c, .int .i64 d, .slice aW nW kW, .slice aG nG kG, .slice aA nA kA]) := hbox
    clear hbel hbox
    obtain ⟨y0, y1⟩ := sumX_le (n := k) (X := fun k => Z k 2) (m := 99) fun j hj => BZ.out j (by omega)
    have zb : 0 ≤ z ∧ z ≤ 900000000 := by omega
    clear hz y0 y1
    obtain ⟨z0, z1⟩ := zb
    by_cases hkn : k < nW
    · have hkn' : (k : Int) < nW := by omega
      obtain ⟨b, o, rfl, hb, hrow⟩ : ∃ b o, aW = some ⟨b, o, none⟩ ∧ b < w.heap.size ∧ ∀ k j, k < nW → j < 6 → w.cell? ⟨b, o + k * 6 + j, none⟩ = some (P6.cv j (Z k j)) := by
        rcases HW.out with h | h
        · omega
        · exact h
      have c0 : wr.cell? ⟨b, o + k * 6, none⟩ = some (.int .i64 (Z k 0)) := (B5.out.cell (by exact hb)).trans (hrow k 0 hkn (by omega))
      have c1 : wr.cell? ⟨b, o + k * 6 + 1, none⟩ = some (.int .i64 (Z k 1)) := (B5.out.cell (by exact hb)).trans (hrow k 1 hkn (by omega))
      have c2 : wr.cell? ⟨b, o + k * 6 + 2, none⟩ = some (.int .i64 (Z k 2)) := (B5.out.cell (by exact hb)).trans (hrow k 2 hkn (by omega))
      have c3 : wr.cell? ⟨b, o + k * 6 + 3, none⟩ = some (.int .i64 (Z k 3)) := (B5.out.cell (by exact hb)).trans (hrow k 3 hkn (by omega))
      have c4 : wr.cell? ⟨b, o + k * 6 + 4, none⟩ = some (.int .i64 (Z k 4)) := (B5.out.cell (by exact hb)).trans (hrow k 4 hkn (by omega))
      have c5 : wr.cell? ⟨b, o + k * 6 + 5, none⟩ = some (.bool (P6.tr (Z k 5))) := (B5.out.cell (by exact hb)).trans (hrow k 5 hkn (by omega))
      clear hrow
      obtain ⟨x0, x1⟩ := BZ.out k hkn
      have hw : IntKind.wrap .i64 (z + Z k 2) = z + Z k 2 := by simp [IntKind.wrap, IntKind.bits, IntKind.signed]; omega
      have yA0 : wr.cell? ⟨w.heap.size, 0, none⟩ = some (.int .i64 c) := (A6.out.2 0 (by simp)).1
      have yA1 : wr.cell? ⟨w.heap.size, 1, none⟩ = some (.int .i64 d) := (A6.out.2 1 (by simp)).1
      have yA2 : wr.cell? ⟨w.heap.size, 2, none⟩ = some (.slice (some ⟨b, o, none⟩) nW kW) := (A6.out.2 2 (by simp)).1
      have yA3 : wr.cell? ⟨w.heap.size, 3, none⟩ = some (.slice aG nG kG) := (A6.out.2 3 (by simp)).1
      have yA4 : wr.cell? ⟨w.heap.size, 4, none⟩ = some (.slice aA nA kA) := (A6.out.2 4 (by simp)).1
      have hlA : w.heap.size < wr.heap.size := A6.out.1
      go_wp2
      go_roundw
      case rel => exact ⟨k + 1, z + Z k 2, by omega, by go_num, rfl, by rw [HZ1.out]; simp only [sumX]; omega, B5.out.alloc B5.out.size _, A6.out.below ((Below.refl _ _).alloc (Nat.le_refl _) _)⟩
      case measure => simp [intOf]; omega
    · have hkk : k = nW := by omega
      subst hkk
      have yA0 : wr.cell? ⟨w.heap.size, 0, none⟩ = some (.int .i64 c) := (A6.out.2 0 (by simp)).1
      have yA1 : wr.cell? ⟨w.heap.size, 1, none⟩ = some (.int .i64 d) := (A6.out.2 1 (by simp)).1
      have yA2 : wr.cell? ⟨w.heap.size, 2, none⟩ = some (.slice aW k kW) := (A6.out.2 2 (by simp)).1
      have yA3 : wr.cell? ⟨w.heap.size, 3, none⟩ = some (.slice aG nG kG) := (A6.out.2 3 (by simp)).1
      have yA4 : wr.cell? ⟨w.heap.size, 4, none⟩ = some (.slice aA nA kA) := (A6.out.2 4 (by simp)).1
      have hlA : w.heap.size < wr.heap.size := A6.out.1
      go_wp2_with fail
      clear yA0 yA1 yA2 yA3 yA4 hlA
      go_loopw [3, 30] (fun s i wr => ∃ (k2 : Nat) (y : Int), k2 ≤ nA ∧ .int .i64 k2 = i ∧ .int .i64 y = s ∧ y = z + sumX (fun k => sumX (O k) (N k)) k2 ∧ Below w.heap.size w wr ∧ Bk wr w.heap.size [.int .i64 c, .int .i64 d, .slice aW k kW, .slice aG nG kG, .slice aA nA kA]) (fun _ i _ => nA - (intOf i).toNat)
      case atStart => exact ⟨0, _, Nat.zero_le _, rfl, rfl, by simp [sumX], B5.out, A6.out⟩
      case round =>
        clear B5 A6
        obtain ⟨k2, y, hk2, rfl, rfl, hz2, hbel, hbox⟩ := hrel
        have HZ2 : Hid (y = z + sumX (fun k => sumX (O k) (N k)) k2) := hz2
        have B7 : Hid (Below w.heap.size w wr) := hbel
        have A8 : Hid (Bk wr w.heap.size [.int .i64 c, .int .i64 d, .slice aW k kW, .slice aG nG kG, .slice aA nA kA]) := hbox
        clear hbel hbox
        obtain ⟨y0, y1⟩ := sumX_le (n := k2) (X := fun k => sumX (O k) (N k)) (m := 200000) fun j hj => by
          obtain ⟨n2, hj2⟩ := BA.out j (by omega)
          rw [n2]
          have := sumX_le (X := O j) (m := 100000) hj2
          omega
        have yb : 0 ≤ y ∧ y ≤ 901000000 := by omega
        clear hz2 y0 y1
        obtain ⟨y0, y1⟩ := yb
        by_cases hkn : k2 < nA
        · have hkn' : (k2 : Int) < nA := by omega
          obtain ⟨b1, o1, rfl, hb1, hr1⟩ : ∃ b o, aA = some ⟨b, o, none⟩ ∧ b < w.heap.size ∧ ∀ k, k < nA → ∃ x c, w.cell? ⟨b, o + k, none⟩ = some (.slice x (N k) c) ∧ Row1 w x (N k) (O k) := by
            rcases HA.out with h | h
            · omega
            · exact h
          obtain ⟨xa, xc, hc, hx⟩ := hr1 k2 hkn
          have hc1 : wr.cell? ⟨b1, o1 + k2, none⟩ = some (.slice xa (N k2) xc) := (B7.out.cell (p := ⟨b1, o1 + k2, none⟩) hb1).trans hc
          have HX : Hid (Row1 wr xa (N k2) (O k2)) := row1_keep hx (keepS ⟨fun _ _ _ => rfl, Nat.le_refl _⟩ B7.out)
          clear hr1 hc hx
          have hb2 : b1 < w.heap.size := hb1
          have hN2 := (BA.out k2 hkn).1
          have hO2 := (BA.out k2 hkn).2
          have HN2 : Hid (N k2 = 2) := hN2
          have HO2 : Hid (∀ j, j < N k2 → 0 ≤ O k2 j ∧ O k2 j ≤ 100000) := by rw [hN2]; exact hO2
          clear hN2 hO2
          have yA0 : wr.cell? ⟨w.heap.size, 0, none⟩ = some (.int .i64 c) := (A8.out.2 0 (by simp)).1
          have yA1 : wr.cell? ⟨w.heap.size, 1, none⟩ = some (.int .i64 d) := (A8.out.2 1 (by simp)).1
          have yA2 : wr.cell? ⟨w.heap.size, 2, none⟩ = some (.slice aW k kW) := (A8.out.2 2 (by simp)).1
          have yA3 : wr.cell? ⟨w.heap.size, 3, none⟩ = some (.slice aG nG kG) := (A8.out.2 3 (by simp)).1
          have yA4 : wr.cell? ⟨w.heap.size, 4, none⟩ = some (.slice (some ⟨b1, o1, none⟩) nA kA) := (A8.out.2 4 (by simp)).1
          have hlA : w.heap.size < wr.heap.size := A8.out.1
          go_wp2_with fail
          refine (sum_impl xa (N k2) xc (O k2) (by have := HN2.out; omega) HO2.out _ HX.out).mono ?_
          rintro e w3 ⟨rfl, hb3⟩
          clear yA0 yA1 yA2 yA3 yA4 hlA
          have B9 : Hid (Below w.heap.size w w3) := bthen B7.out hb3
          have A9 : Hid (Bk w3 w.heap.size [.int .i64 c, .int .i64 d, .slice aW k kW, .slice aG nG kG, .slice (some ⟨b1, o1, none⟩) nA kA]) := A8.out.below hb3
          clear B7 A8
          clear hb3 hc1 HX
          have yA0 : w3.cell? ⟨w.heap.size, 0, none⟩ = some (.int .i64 c) := (A9.out.2 0 (by simp)).1
          have yA1 : w3.cell? ⟨w.heap.size, 1, none⟩ = some (.int .i64 d) := (A9.out.2 1 (by simp)).1
          have yA2 : w3.cell? ⟨w.heap.size, 2, none⟩ = some (.slice aW k kW) := (A9.out.2 2 (by simp)).1
          have yA3 : w3.cell? ⟨w.heap.size, 3, none⟩ = some (.slice aG nG kG) := (A9.out.2 3 (by simp)).1
          have yA4 : w3.cell? ⟨w.heap.size, 4, none⟩ = some (.slice (some ⟨b1, o1, none⟩) nA kA) := (A9.out.2 4 (by simp)).1
          have hlA : w.heap.size < w3.heap.size := A9.out.1
          obtain ⟨u0, u1⟩ := sumX_le (X := O k2) (m := 100000) HO2.out
          have u2 : sumX (O k2) (N k2) ≤ 200000 := by have := HN2.out; rw [this] at u1 ⊢; omega
          obtain ⟨sq, esq⟩ : ∃ s, s = sumX (O k2) (N k2) := ⟨_, rfl⟩
          rw [← esq] at u0 u2 ⊢
          clear u1
          have ESQ : Hid (sq = sumX (O k2) (N k2)) := esq
          clear esq
          have hw : IntKind.wrap .i64 (y + sq) = y + sq := by simp [IntKind.wrap, IntKind.bits, IntKind.signed]; omega
          go_wp2
          go_roundw
          case rel => exact ⟨k2 + 1, y + sq, by omega, by go_num, rfl, by rw [HZ2.out, ESQ.out]; simp only [sumX]; omega, B9.out, A9.out⟩
          case measure => simp [intOf]; omega
        · have hkk : k2 = nA := by omega
          subst hkk
          go_wp2
          go_ret
          exact ⟨by rw [HZ2.out, HZ1.out, ESG.out]; rfl, B7.out⟩
end Go.Proofs.Ytoickljpjlhkoaa
