/- The size of servers, with the sum of all that they hold; conditions: the server lies in memory. -/
import Derived.Test.YtlbjgecjonegkaaHS6
import Derived.Test.YtlbjgecjonegkaaCSz2
namespace Go.Proofs.Ytlbjgecjonegkaa
open Go.RowKit Go.Deep
set_option linter.unusedVariables false
def szV (V : CV) : Nat := V.nW + V.nO + sumN V.N V.nO + V.nX + V.nI
def sumH (F : Nat → HV) : Nat → Nat
  | 0 => 0
  | k + 1 => sumH F k + szV (F k).V
theorem sumN_at (N : Nat → Nat) : ∀ n k, k < n → N k ≤ sumN N n
  | n + 1, k, h => by
    by_cases e : k = n
    · subst e; simp only [sumN]; omega
    · have := sumN_at N n k (by omega); simp only [sumN]; omega
theorem sumH_at (F : Nat → HV) : ∀ n k, k < n → szV (F k).V ≤ sumH F n
  | n + 1, k, h => by
    by_cases e : k = n
    · subst e; simp only [sumH]; omega
    · have := sumH_at F n k (by omega); simp only [sumH]; omega
theorem short_of {V : CV} (h : szV V ≤ 1048576) : V.short 1048576 := by
  unfold szV at h
  exact ⟨by omega, by omega, fun k hk => by have := sumN_at V.N V.nO k hk; omega, by omega, by omega⟩

set_option maxHeartbeats 1000000 in
theorem szOuts3 (a : Option Addr) (n cap : Nat) (N : Nat → Nat) (O : Nat → Nat → Nat → Int) (left : Int) (h0 : 0 ≤ left) (h1 : left ≤ 1048576) (hn : (n : Int) ≤ 9223372036854775807) (hN : ∀ k, k < n → (N k : Int) ≤ 9223372036854775807) (w : World) (h : RowO w a n N O) :
    Calls Try.prog 86 #[.slice a n cap, .int .i64 left] w fun e w' => (∃ r : Int, e = .returned (.int .i64 r) ∧ (r = -1 ∨ (0 ≤ r ∧ r + (n : Int) + (sumN N n : Int) ≤ left))) ∧ Below w.heap.size w w' := by
  have HN : Hid (∀ k, k < n → (N k : Int) ≤ 9223372036854775807) := hN
  have HR : Hid (RowO w a n N O) := h
  clear hN h
  by_cases h : (n : Int) ≤ left
  · have hd : 0 ≤ left - n := by omega
    go_enter Try.func86, Try.ntmps86
    go_wp2
    go_loopw [1, 5] (fun l i wr => ∃ (k : Nat) (r : Int), k ≤ n ∧ i = .int .i64 k ∧ l = .int .i64 r ∧ 0 ≤ r ∧ r + (n : Int) + (sumN N k : Int) ≤ left ∧ Below w.heap.size w wr) (fun _ i _ => n - (intOf i).toNat)
    case atStart => exact ⟨0, left - n, Nat.zero_le _, rfl, by go_num, by omega, by simp [sumN] <;> omega, Below.refl _ _⟩
    case round =>
      obtain ⟨k, r, hk, rfl, rfl, hr0, hr1, hbel⟩ := hrel
      by_cases hkn : k < n
      · have hkn' : (k : Int) < n := by omega
        obtain ⟨b, o, rfl, hb, hrow⟩ : ∃ b o, a = some ⟨b, o, none⟩ ∧ b < w.heap.size ∧ ∀ k, k < n → ∃ x c, w.cell? ⟨b, o + k, none⟩ = some (.slice x (N k) c) ∧ P8.Row8 w x (N k) (O k) := by
          rcases HR.out with h | h
          · omega
          · exact h
        obtain ⟨x, c, hc, _⟩ := hrow k hkn
        clear hrow
        have hc' : wr.cell? ⟨b, o + k, none⟩ = some (.slice x (N k) c) := (hbel.cell (p := ⟨b, o + k, none⟩) hb).trans hc
        clear hc
        go_wp2_with fail
        refine (szParcels x (N k) c r hr0 (by omega) (HN.out k hkn) _).mono ?_
        rintro e w1 ⟨rfl, hb1⟩
        have B1 : Below w.heap.size w w1 := bthen hbel hb1
        clear hb1 hbel hc'
        by_cases hle : (N k : Int) ≤ r
        · have hd1 : 0 ≤ r - (N k : Int) := by omega
          rw [if_pos hle]
          go_wp2
          go_roundw
          case rel => exact ⟨k + 1, r - (N k : Int), by omega, by go_num, rfl, by omega, by simp only [sumN]; omega, B1⟩
          case measure => simp [intOf]; omega
        · rw [if_neg hle]
          go_wp2
          go_ret
          exact ⟨⟨-1, rfl, .inl rfl⟩, B1⟩
      · have : k = n := by omega
        subst this
        go_wp2
        go_ret
        exact ⟨⟨r, rfl, .inr ⟨hr0, hr1⟩⟩, hbel⟩
  · go_enter Try.func86, Try.ntmps86
    go_wp2
    all_goals (go_ret; exact ⟨⟨-1, rfl, .inl rfl⟩, Below.refl _ _⟩)

set_option maxHeartbeats 1000000 in
theorem szCell3 (v : Value) (V : CV) (hs : V.short maxLen) (left : Int) (g0 : 0 ≤ left) (g1 : left ≤ 1048576) (w : World) (h : CellAt w v V) :
    Calls Try.prog 61 #[v, .int .i64 left] w fun e w' => (∃ r : Int, e = .returned (.int .i64 r) ∧ (r < 0 ∨ (0 ≤ r ∧ r + (szV V : Int) ≤ left))) ∧ Below w.heap.size w w' := by
  obtain ⟨aW, kW, aO, kO, aX, kX, aI, kI, rfl, rW, rO, rX, rI⟩ := h
  obtain ⟨VC, nW, W, VG, nO, N, O, nX, X, nI, I⟩ := V
  simp only at rW rO rX rI ⊢
  simp only [CV.short, szV] at hs ⊢
  obtain ⟨sW, sO, sN, sX, sI⟩ := hs
  unfold maxLen at sW sO sN sX sI
  have HO : Hid (RowO w aO nO N O) := rO
  have HN : Hid (∀ k, k < nO → (N k : Int) ≤ 9223372036854775807) := fun k hk => by have := sN k hk; omega
  clear rW rO rX rI sN
  go_enter Try.func61, Try.ntmps61
  go_wp2_with fail
  refine (szWalkers aW nW kW left g0 g1 (by omega) _).mono ?_
  rintro e w1 ⟨rfl, hb1⟩
  have B1 : Below w.heap.size w w1 := bthen (by first | exact Below.refl _ _ | exact (Below.refl _ _).alloc (by simp) _) hb1
  by_cases hW : (nW : Int) ≤ left
  · rw [if_pos hW]
    have hW0 : 0 ≤ left - (nW : Int) := by omega
    obtain ⟨hc1, hf1⟩ := bcell hb1
    have s1 : w.heap.size < w1.heap.size := by have := hb1.size; simp at this; omega
    go_wp2_with fail
    refine (szOuts3 aO nO kO N O _ hW0 (by omega) (by omega) HN.out _ (rowO_below HO.out B1)).mono ?_
    rintro e w2 ⟨⟨r, rfl, hr⟩, hb2⟩
    have B2 := bthen B1 hb2
    obtain ⟨hc2, hf2⟩ := bcell hb2
    have s2 : w.heap.size < w2.heap.size := Nat.lt_of_lt_of_le s1 hb2.size
    rcases hr with rfl | ⟨r0, r1⟩
    · go_wp2
      go_ret
      exact ⟨⟨-1, rfl, .inl (by omega)⟩, B2⟩
    · go_wp2_with fail
      refine (szInts aX nX kX _ r0 (by omega) (by omega) _).mono ?_
      rintro e w3 ⟨rfl, hb3⟩
      have B3 := bthen B2 hb3
      obtain ⟨hc3, hf3⟩ := bcell hb3
      have s3 : w.heap.size < w3.heap.size := Nat.lt_of_lt_of_le s2 hb3.size
      by_cases hX : (nX : Int) ≤ r
      · rw [if_pos hX]
        have hX0 : 0 ≤ r - (nX : Int) := by omega
        go_wp2_with fail
        refine (szInts aI nI kI _ hX0 (by omega) (by omega) _).mono ?_
        rintro e w4 ⟨rfl, hb4⟩
        have B4 := bthen B3 hb4
        by_cases hI : (nI : Int) ≤ r - (nX : Int)
        · rw [if_pos hI]
          have hI0 : 0 ≤ r - (nX : Int) - (nI : Int) := by omega
          go_wp2
          go_ret
          exact ⟨⟨_, rfl, .inr ⟨hI0, by omega⟩⟩, B4⟩
        · rw [if_neg hI]
          go_wp2
          go_ret
          exact ⟨⟨-1, rfl, .inl (by omega)⟩, B4⟩
      · rw [if_neg hX]
        go_wp2
        go_ret
        exact ⟨⟨-1, rfl, .inl (by omega)⟩, B3⟩
  · rw [if_neg hW]
    go_wp2
    go_ret
    exact ⟨⟨-1, rfl, .inl (by omega)⟩, B1⟩

set_option maxHeartbeats 1000000 in
theorem szHold3 (v : Value) (ag ct : Int) (V : CV) (hs : V.short maxLen) (left : Int) (g0 : 0 ≤ left) (g1 : left ≤ 1048576) (w : World) (h : HoldAt w v ag ct V) :
    Calls Try.prog 36 #[v, .int .i64 left] w fun e w' => (∃ r : Int, e = .returned (.int .i64 r) ∧ (r < 0 ∨ (0 ≤ r ∧ r + (szV V : Int) ≤ left))) ∧ Below w.heap.size w w' := by
  obtain ⟨aW, kW, aO, kO, aX, kX, aI, kI, rfl, rW, rO, rX, rI⟩ := h
  have HC : Hid (CellAt w (.agg #[.int .i64 V.c, .slice aW V.nW kW, .int .i64 V.g, .slice aO V.nO kO, .slice aX V.nX kX, .slice aI V.nI kI]) V) := cell_of_rows ⟨rW, rO, rX, rI⟩
  have HS : Hid (V.short maxLen) := hs
  clear rW rO rX rI hs
  go_enter Try.func36, Try.ntmps36
  go_wp2_with fail
  refine (szCell3 _ V HS.out left g0 g1 _ (cellAt_below HC.out ((Below.refl _ _).alloc (by simp) _))).mono ?_
  rintro e w1 ⟨⟨r, rfl, hr⟩, hb1⟩
  have B1 : Below w.heap.size w w1 := bthen ((Below.refl _ _).alloc (by simp) _) hb1
  rcases hr with hr | ⟨hr, hrl⟩
  · go_wp2
    go_ret
    exact ⟨⟨-1, rfl, .inl (by omega)⟩, B1⟩
  · have hr2 : ¬ r < 0 := by omega
    go_wp2
    go_ret
    exact ⟨⟨r, rfl, .inr ⟨hr, hrl⟩⟩, B1⟩

set_option maxHeartbeats 1000000 in
theorem szHolds3 (a : Option Addr) (n cap : Nat) (F : Nat → HV) (left : Int) (g0 : 0 ≤ left) (g1 : left ≤ 1048576) (hn : (n : Int) ≤ 9223372036854775807) (hN : ∀ k, k < n → (F k).V.short maxLen) (w : World) (h : HRow w a n F) :
    Calls Try.prog 17 #[.slice a n cap, .int .i64 left] w fun e w' => (∃ r : Int, e = .returned (.int .i64 r) ∧ (r < 0 ∨ (0 ≤ r ∧ r + (n : Int) + (sumH F n : Int) ≤ left))) ∧ Below w.heap.size w w' := by
  have HN : Hid (∀ k, k < n → (F k).V.short maxLen) := hN
  have HR : Hid (HRow w a n F) := h
  clear hN h
  by_cases h : (n : Int) ≤ left
  · have hd : 0 ≤ left - n := by omega
    go_enter Try.func17, Try.ntmps17
    go_wp2
    go_loopw [1, 5] (fun l i wr => ∃ (k : Nat) (r : Int), k ≤ n ∧ i = .int .i64 k ∧ l = .int .i64 r ∧ 0 ≤ r ∧ r + (n : Int) + (sumH F k : Int) ≤ left ∧ Below w.heap.size w wr) (fun _ i _ => n - (intOf i).toNat)
    case atStart => exact ⟨0, left - n, Nat.zero_le _, rfl, by go_num, by omega, by simp [sumH] <;> omega, Below.refl _ _⟩
    case round =>
      obtain ⟨k, r, hk, rfl, rfl, hr0, hr1, hbel⟩ := hrel
      by_cases hkn : k < n
      · have hkn' : (k : Int) < n := by omega
        obtain ⟨b, o, rfl, hb, hrow⟩ : ∃ b o, a = some ⟨b, o, none⟩ ∧ b < w.heap.size ∧ ∀ k, k < n → HSpot w b (o + k * 8) (F k) := by
          rcases HR.out with h | h
          · omega
          · exact h
        obtain ⟨aW, kW, aO, kO, aX, kX, aI, kI, ⟨c0, c1, c2, c3, c4, c5, c6, c7⟩, r1, r2, r3, r4⟩ := (hrow k hkn).below hb hbel
        clear hrow
        have HO : Hid (HoldAt wr (.agg #[.int .i64 (F k).ag, .int .i64 (F k).ct, .int .i64 (F k).V.c, .slice aW (F k).V.nW kW, .int .i64 (F k).V.g, .slice aO (F k).V.nO kO, .slice aX (F k).V.nX kX, .slice aI (F k).V.nI kI]) (F k).ag (F k).ct (F k).V) := ⟨aW, kW, aO, kO, aX, kX, aI, kI, rfl, r1, r2, r3, r4⟩
        clear r1 r2 r3 r4
        go_wp2_with fail
        refine (szHold3 _ _ _ (F k).V (HN.out k hkn) r hr0 (by omega) _ HO.out).mono ?_
        rintro e w1 ⟨⟨r', rfl, hr⟩, hb1⟩
        have B1 : Below w.heap.size w w1 := bthen hbel hb1
        clear hb1 hbel c0 c1 c2 c3 c4 c5 c6 c7
        rcases hr with hr | ⟨q0, q1⟩
        · go_wp2
          go_ret
          exact ⟨⟨-1, rfl, .inl (by omega)⟩, B1⟩
        · have hr2 : ¬ r' < 0 := by omega
          go_wp2
          go_roundw
          case rel => exact ⟨k + 1, r', by omega, by go_num, rfl, by omega, by simp only [sumH]; omega, B1⟩
          case measure => simp [intOf]; omega
      · have : k = n := by omega
        subst this
        go_wp2
        go_ret
        exact ⟨⟨r, rfl, .inr ⟨hr0, hr1⟩⟩, hbel⟩
  · go_enter Try.func17, Try.ntmps17
    go_wp2
    all_goals (go_ret; exact ⟨⟨-1, rfl, .inl (by omega)⟩, Below.refl _ _⟩)

set_option maxHeartbeats 1000000 in
theorem szSrv3 (up : Bool) (aH : Option Addr) (n cH : Nat) (F : Nat → HV) (aG : Option Addr) (g cG : Nat) (hn : (n : Int) ≤ 9223372036854775807) (hg : (g : Int) ≤ 9223372036854775807) (hN : ∀ k, k < n → (F k).V.short maxLen) (w : World) (hH : HRow w aH n F) :
    Calls Try.prog 5 #[.agg #[.bool up, .slice aH n cH, .slice aG g cG], .int .i64 1048576] w fun e w' => (∃ r : Int, e = .returned (.int .i64 r) ∧ (r < 0 ∨ (0 ≤ r ∧ n + sumH F n + g ≤ 1048576))) ∧ Below w.heap.size w w' := by
  have HH : Hid (HRow w aH n F) := hH
  have HN : Hid (∀ k, k < n → (F k).V.short maxLen) := hN
  clear hH hN
  go_enter Try.func5, Try.ntmps5
  go_wp2_with fail
  obtain ⟨w0, e0⟩ : ∃ w0, w0 = w.alloc (.cells #[.bool up, .slice aH n cH, .slice aG g cG] 27) := ⟨_, rfl⟩
  have B1 : Hid (Below w.heap.size w w0) := by rw [e0]; exact (Below.refl _ _).alloc (by simp) _
  have A2 : Hid (Bk w0 w.heap.size [.bool up, .slice aH n cH, .slice aG g cG]) := by rw [e0]; exact bk_new w 27 [.bool up, .slice aH n cH, .slice aG g cG]
  rw [← e0]
  clear e0
  refine (szHolds3 aH n cH F 1048576 (by omega) (by omega) hn HN.out _ (HH.out.below B1.out)).mono ?_
  rintro e w1 ⟨⟨r, rfl, hr⟩, hb1⟩
  have B3 : Hid (Below w.heap.size w w1) := bthen B1.out hb1
  have A3 : Hid (Bk w1 w.heap.size [.bool up, .slice aH n cH, .slice aG g cG]) := A2.out.below hb1
  clear B1 A2
  clear hb1
  have yA0 : w1.cell? ⟨w.heap.size, 0, none⟩ = some (.bool up) := (A3.out.2 0 (by simp)).1
  have yA1 : w1.cell? ⟨w.heap.size, 1, none⟩ = some (.slice aH n cH) := (A3.out.2 1 (by simp)).1
  have yA2 : w1.cell? ⟨w.heap.size, 2, none⟩ = some (.slice aG g cG) := (A3.out.2 2 (by simp)).1
  have hlA : w.heap.size < w1.heap.size := A3.out.1
  rcases hr with hr | ⟨r0, r1⟩
  · go_wp2
    go_ret
    exact ⟨⟨-1, rfl, .inl (by omega)⟩, B3.out⟩
  · have hr' : ¬ r < 0 := by omega
    go_wp2_with fail
    refine (P7.szList aG g cG r r0 (by omega) hg _).mono ?_
    rintro e w2 ⟨rfl, hb2⟩
    have B2 : Hid (Below w.heap.size w w2) := bthen B3.out hb2
    clear hb2 yA0 yA1 yA2 hlA
    by_cases hge : (g : Int) ≤ r
    · rw [if_pos hge]
      have h5 : ¬ r - (g : Int) < 0 := by omega
      go_wp2
      go_ret
      exact ⟨⟨r - (g : Int), rfl, .inr ⟨by omega, by omega⟩⟩, B2.out⟩
    · rw [if_neg hge]
      go_wp2
      go_ret
      exact ⟨⟨-1, rfl, .inl (by omega)⟩, B2.out⟩

end Go.Proofs.Ytlbjgecjonegkaa
