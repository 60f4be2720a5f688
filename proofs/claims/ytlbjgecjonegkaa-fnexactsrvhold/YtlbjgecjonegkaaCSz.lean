/- The sizes of lists and of cells, as the laws ask for them; conditions: the lists lie in memory. -/
import Derived.Test.YtlbjgecjonegkaaCell0
import Derived.Test.YtlbjgecjonegkaaWalks4
import Derived.LoopTactic
namespace Go.Proofs.Ytlbjgecjonegkaa
open Go.RowKit Go.Deep
set_option linter.unusedVariables false

theorem szInts (a : Option Addr) (n cap : Nat) (left : Int) (h0 : 0 ≤ left) (h1 : left ≤ 1048576) (hn : (n : Int) ≤ 9223372036854775807) (w : World) :
    Calls Try.prog 87 #[.slice a n cap, .int .i64 left] w fun e w' => e = .returned (.int .i64 (if (n : Int) ≤ left then left - n else -1)) ∧ Below w.heap.size w w' := by
  by_cases h : (n : Int) ≤ left
  · go_enter Try.func87, Try.ntmps87
    go_wp2
    all_goals (go_ret; exact ⟨by simp <;> omega, Below.refl _ _⟩)
  · go_enter Try.func87, Try.ntmps87
    go_wp2
    all_goals (go_ret; exact ⟨by simp <;> omega, Below.refl _ _⟩)

theorem szWalkers (a : Option Addr) (n cap : Nat) (left : Int) (h0 : 0 ≤ left) (h1 : left ≤ 1048576) (hn : (n : Int) ≤ 9223372036854775807) (w : World) :
    Calls Try.prog 85 #[.slice a n cap, .int .i64 left] w fun e w' => e = .returned (.int .i64 (if (n : Int) ≤ left then left - n else -1)) ∧ Below w.heap.size w w' := by
  by_cases h : (n : Int) ≤ left
  · go_enter Try.func85, Try.ntmps85
    go_wp2
    all_goals (go_ret; exact ⟨by simp <;> omega, Below.refl _ _⟩)
  · go_enter Try.func85, Try.ntmps85
    go_wp2
    all_goals (go_ret; exact ⟨by simp <;> omega, Below.refl _ _⟩)

theorem szParcels (a : Option Addr) (n cap : Nat) (left : Int) (h0 : 0 ≤ left) (h1 : left ≤ 1048576) (hn : (n : Int) ≤ 9223372036854775807) (w : World) :
    Calls Try.prog 101 #[.slice a n cap, .int .i64 left] w fun e w' => e = .returned (.int .i64 (if (n : Int) ≤ left then left - n else -1)) ∧ Below w.heap.size w w' := by
  by_cases h : (n : Int) ≤ left
  · go_enter Try.func101, Try.ntmps101
    go_wp2
    all_goals (go_ret; exact ⟨by simp <;> omega, Below.refl _ _⟩)
  · go_enter Try.func101, Try.ntmps101
    go_wp2
    all_goals (go_ret; exact ⟨by simp <;> omega, Below.refl _ _⟩)

set_option maxHeartbeats 1000000 in
theorem szOuts (a : Option Addr) (n cap : Nat) (N : Nat → Nat) (O : Nat → Nat → Nat → Int) (left : Int) (h0 : 0 ≤ left) (h1 : left ≤ 1048576) (hn : (n : Int) ≤ 9223372036854775807) (hN : ∀ k, k < n → (N k : Int) ≤ 9223372036854775807) (w : World) (h : RowO w a n N O) :
    Calls Try.prog 86 #[.slice a n cap, .int .i64 left] w fun e w' => (∃ r : Int, e = .returned (.int .i64 r) ∧ (r = -1 ∨ (0 ≤ r ∧ r ≤ left ∧ (n : Int) ≤ left ∧ ∀ k, k < n → (N k : Int) ≤ left))) ∧ Below w.heap.size w w' := by
  have HN : Hid (∀ k, k < n → (N k : Int) ≤ 9223372036854775807) := hN
  have HR : Hid (RowO w a n N O) := h
  clear hN h
  by_cases h : (n : Int) ≤ left
  · have hd : 0 ≤ left - n := by omega
    go_enter Try.func86, Try.ntmps86
    go_wp2
    go_loopw [1, 5] (fun l i wr => ∃ (k : Nat) (r : Int), k ≤ n ∧ i = .int .i64 k ∧ l = .int .i64 r ∧ 0 ≤ r ∧ r ≤ left ∧ (∀ j, j < k → (N j : Int) ≤ left) ∧ Below w.heap.size w wr) (fun _ i _ => n - (intOf i).toNat)
    case atStart => exact ⟨0, left - n, Nat.zero_le _, rfl, by go_num, by omega, by omega, fun _ h => absurd h (by omega), Below.refl _ _⟩
    case round =>
      obtain ⟨k, r, hk, rfl, rfl, hr0, hr1, hall, hbel⟩ := hrel
      have HA : Hid (∀ j, j < k → (N j : Int) ≤ left) := hall
      clear hall
      by_cases hkn : k < n
      · have hkn' : (k : Int) < n := by omega
        obtain ⟨b, o, rfl, hb, hrow⟩ : ∃ b o, a = some ⟨b, o, none⟩ ∧ b < w.heap.size ∧ ∀ k, k < n → ∃ x c, w.cell? ⟨b, o + k, none⟩ = some (.slice x (N k) c) ∧ P8.Row8 w x (N k) (O k) := by
          rcases HR.out with h | h
          · omega
          · exact h
        obtain ⟨x, c, hc, _⟩ := hrow k hkn
        clear hrow
        have hc' : wr.cell? ⟨b, o + k, none⟩ = some (.slice x (N k) c) := (hbel.cell (p := ⟨b, o + k, none⟩) hb).trans hc
        clear hc
        go_wp2_with fail
        refine (szParcels x (N k) c r hr0 (by omega) (HN.out k hkn) _).mono ?_
        rintro e w1 ⟨rfl, hb1⟩
        have B1 : Below w.heap.size w w1 := bthen hbel hb1
        clear hb1 hbel hc'
        by_cases hle : (N k : Int) ≤ r
        · have hd1 : 0 ≤ r - (N k : Int) := by omega
          rw [if_pos hle]
          go_wp2
          go_roundw
          case rel => exact ⟨k + 1, r - (N k : Int), by omega, by go_num, rfl, by omega, by omega, fun j hj => by
            by_cases hjk : j = k
            · subst hjk; omega
            · exact HA.out j (by omega), B1⟩
          case measure => simp [intOf]; omega
        · rw [if_neg hle]
          go_wp2
          go_ret
          exact ⟨⟨-1, rfl, .inl rfl⟩, B1⟩
      · have : k = n := by omega
        subst this
        go_wp2
        go_ret
        exact ⟨⟨r, rfl, .inr ⟨hr0, hr1, h, HA.out⟩⟩, hbel⟩
  · go_enter Try.func86, Try.ntmps86
    go_wp2
    all_goals (go_ret; exact ⟨⟨-1, rfl, .inl rfl⟩, Below.refl _ _⟩)

set_option maxHeartbeats 1000000 in
theorem szCell (v : Value) (V : CV) (hs : V.short maxLen) (w : World) (h : CellAt w v V) :
    Calls Try.prog 61 #[v, .int .i64 1048576] w fun e w' => (∃ r : Int, e = .returned (.int .i64 r) ∧ (r < 0 ∨ (0 ≤ r ∧ V.short 1048576))) ∧ Below w.heap.size w w' := by
  obtain ⟨aW, kW, aO, kO, aX, kX, aI, kI, rfl, rW, rO, rX, rI⟩ := h
  obtain ⟨VC, nW, W, VG, nO, N, O, nX, X, nI, I⟩ := V
  simp only at rW rO rX rI ⊢
  simp only [CV.short] at hs ⊢
  obtain ⟨sW, sO, sN, sX, sI⟩ := hs
  unfold maxLen at sW sO sN sX sI
  have HO : Hid (RowO w aO nO N O) := rO
  have HN : Hid (∀ k, k < nO → (N k : Int) ≤ 9223372036854775807) := fun k hk => by have := sN k hk; omega
  clear rW rO rX rI sN
  go_enter Try.func61, Try.ntmps61
  go_wp2_with fail
  refine (szWalkers aW nW kW 1048576 (by omega) (by omega) (by omega) _).mono ?_
  rintro e w1 ⟨rfl, hb1⟩
  have B1 : Below w.heap.size w w1 := bthen (by first | exact Below.refl _ _ | exact (Below.refl _ _).alloc (by simp) _) hb1
  by_cases hW : (nW : Int) ≤ 1048576
  · rw [if_pos hW]
    have hW0 : 0 ≤ 1048576 - (nW : Int) := by omega
    obtain ⟨hc1, hf1⟩ := bcell hb1
    have s1 : w.heap.size < w1.heap.size := by have := hb1.size; simp at this; omega
    go_wp2_with fail
    refine (szOuts aO nO kO N O _ hW0 (by omega) (by omega) HN.out _ (rowO_below HO.out B1)).mono ?_
    rintro e w2 ⟨⟨r, rfl, hr⟩, hb2⟩
    have B2 := bthen B1 hb2
    obtain ⟨hc2, hf2⟩ := bcell hb2
    have s2 : w.heap.size < w2.heap.size := Nat.lt_of_lt_of_le s1 hb2.size
    rcases hr with rfl | ⟨r0, r1, r2, r3⟩
    · go_wp2
      go_ret
      exact ⟨⟨-1, rfl, .inl (by omega)⟩, B2⟩
    · have HR3 : Hid (∀ k, k < nO → (N k : Int) ≤ 1048576 - (nW : Int)) := r3
      clear r3
      go_wp2_with fail
      refine (szInts aX nX kX _ r0 (by omega) (by omega) _).mono ?_
      rintro e w3 ⟨rfl, hb3⟩
      have B3 := bthen B2 hb3
      obtain ⟨hc3, hf3⟩ := bcell hb3
      have s3 : w.heap.size < w3.heap.size := Nat.lt_of_lt_of_le s2 hb3.size
      by_cases hX : (nX : Int) ≤ r
      · rw [if_pos hX]
        have hX0 : 0 ≤ r - (nX : Int) := by omega
        go_wp2_with fail
        refine (szInts aI nI kI _ hX0 (by omega) (by omega) _).mono ?_
        rintro e w4 ⟨rfl, hb4⟩
        have B4 := bthen B3 hb4
        by_cases hI : (nI : Int) ≤ r - (nX : Int)
        · rw [if_pos hI]
          have hI0 : 0 ≤ r - (nX : Int) - (nI : Int) := by omega
          go_wp2
          go_ret
          exact ⟨⟨_, rfl, .inr ⟨hI0, by omega, by omega, fun k hk => by have := HR3.out k hk; omega, by omega, by omega⟩⟩, B4⟩
        · rw [if_neg hI]
          go_wp2
          go_ret
          exact ⟨⟨-1, rfl, .inl (by omega)⟩, B4⟩
      · rw [if_neg hX]
        go_wp2
        go_ret
        exact ⟨⟨-1, rfl, .inl (by omega)⟩, B3⟩
  · rw [if_neg hW]
    go_wp2
    go_ret
    exact ⟨⟨-1, rfl, .inl (by omega)⟩, B1⟩
end Go.Proofs.Ytlbjgecjonegkaa
