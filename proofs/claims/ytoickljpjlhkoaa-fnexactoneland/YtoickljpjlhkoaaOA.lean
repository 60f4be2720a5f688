/- Lists of lists of numbers: how they lie, how they are copied, compared and marked, as the laws do it; conditions: the lists lie in memory. -/
import Derived.Test.YtoickljpjlhkoaaInts
namespace Go.Proofs.Ytoickljpjlhkoaa
open Go.RowKit Go.Deep
set_option linter.unusedVariables false

set_option maxHeartbeats 1000000 in
theorem markI (s B n cap : Nat) (X : Nat → Int) (hn : n ≤ 2000000) (hs : s ≤ 2000000000) (w : World) (hB : B < w.heap.size) (h : Own1 w B n X n) :
    Calls Try.prog 43 #[.slice (some ⟨B, 0, none⟩) n cap, .int .i64 (s : Int)] w fun e w' => e = .returned (.int .i64 ((s + n : Nat) : Int)) ∧ Own1 w' B n (M1 s) n ∧ w.grownBy w' (some B) ∧ w'.heap.size = w.heap.size := by
  have H0 : Hid (Own1 w B n (M1 s) 0) := ⟨h.1, fun _ h => absurd h (by omega)⟩
  clear h
  go_enter Try.func43, Try.ntmps43
  go_wp2
  go_loopw [1, 5] (fun c i wr => ∃ k : Nat, k ≤ n ∧ .int .i64 k = i ∧ .int .i64 (M1 s k) = c ∧ Own1 wr B n (M1 s) k ∧ w.grownBy wr (some B) ∧ wr.heap.size = w.heap.size) (fun _ i _ => n - (intOf i).toNat)
  case atStart => exact ⟨0, Nat.zero_le _, rfl, by simp [M1], H0.out, World.grownBy.refl _ _, rfl⟩
  case round =>
    obtain ⟨k, hk, rfl, rfl, hown, hg, hsz⟩ := hrel
    by_cases hkn : k < n
    · have hkn' : (k : Int) < (n : Int) := by omega
      obtain ⟨d0, f0⟩ := hown.1 k hkn
      obtain ⟨v0, d0⟩ := Option.isSome_iff_exists.1 d0
      have HP : Hid (Own1 (wr.setCell ⟨B, k, none⟩ (.int .i64 (M1 s k))) B n (M1 s) (k + 1)) := own1_next hown hkn
      have HG : Hid (w.grownBy (wr.setCell ⟨B, k, none⟩ (.int .i64 (M1 s k))) (some B) ∧ (wr.setCell ⟨B, k, none⟩ (.int .i64 (M1 s k))).heap.size = w.heap.size) := ⟨hg.trans (set_grown wr B k _).1, (set_grown wr B k _).2.trans hsz⟩
      have m1 : IntKind.wrap .i64 (M1 s k + 1) = M1 s (k + 1) := by unfold M1; simp [IntKind.wrap, IntKind.bits, IntKind.signed]; omega
      clear hown hg hsz
      go_wp2
      go_roundw
      case rel => exact ⟨k + 1, by omega, by go_num, rfl, HP.out, HG.out.1, HG.out.2⟩
      case measure => simp [intOf]; omega
    · have hkn' : k = n := by omega
      subst hkn'
      have HO : Hid (Own1 wr B k (M1 s) k) := hown
      clear hown
      go_wp2
      go_ret
      exact ⟨rfl, HO.out, hg, hsz⟩

set_option maxHeartbeats 1000000 in
theorem heldI (s B n cap : Nat) (hn : n ≤ 2000000) (hs : s ≤ 2000000000) (w : World) (hB : B < w.heap.size) (h : Own1 w B n (M1 s) n) :
    Calls Try.prog 46 #[.slice (some ⟨B, 0, none⟩) n cap, .int .i64 (s : Int)] w fun e w' => e = .returned (.int .i64 ((s + n : Nat) : Int)) ∧ Below w.heap.size w w' := by
  have H0 : Hid (Own1 w B n (M1 s) n) := h
  clear h
  go_enter Try.func46, Try.ntmps46
  go_wp2
  go_loopw [1, 5] (fun c i wr => ∃ k : Nat, k ≤ n ∧ .int .i64 k = i ∧ .int .i64 (M1 s k) = c ∧ w = wr) (fun _ i _ => n - (intOf i).toNat)
  case atStart => exact ⟨0, Nat.zero_le _, rfl, by simp [M1], rfl⟩
  case round =>
    obtain ⟨k, hk, rfl, rfl, rfl⟩ := hrel
    by_cases hkn : k < n
    · have hkn' : (k : Int) < (n : Int) := by omega
      have c0 : w.cell? ⟨B, k, none⟩ = some (.int .i64 (M1 s k)) := H0.out.2 k hkn
      have m1 : IntKind.wrap .i64 (M1 s k + 1) = M1 s (k + 1) := by unfold M1; simp [IntKind.wrap, IntKind.bits, IntKind.signed]; omega
      go_wp2
      go_roundw
      case rel => exact ⟨k + 1, by omega, by go_num, rfl, by trivial⟩
      case measure => simp [intOf]; omega
    · have hkn' : k = n := by omega
      subst hkn'
      go_wp2
      go_ret
      exact ⟨rfl, Below.refl _ _⟩

theorem markI0 (s : Nat) (a : Option Addr) (c : Nat) (w : World) :
    Calls Try.prog 43 #[.slice a 0 c, .int .i64 (s : Int)] w fun e w' => e = .returned (.int .i64 (s : Int)) ∧ w' = w := by
  go_enter Try.func43, Try.ntmps43
  go_wp2
  refine wp_loop_rounds 1 ?_
  rw [rounds_succ]
  go_wp2
  go_ret
  exact ⟨rfl, rfl⟩

theorem heldI0 (s : Nat) (a : Option Addr) (c : Nat) (w : World) :
    Calls Try.prog 46 #[.slice a 0 c, .int .i64 (s : Int)] w fun e w' => e = .returned (.int .i64 (s : Int)) ∧ Below w.heap.size w w' := by
  go_enter Try.func46, Try.ntmps46
  go_wp2
  refine wp_loop_rounds 1 ?_
  rw [rounds_succ]
  go_wp2
  go_ret
  exact ⟨rfl, Below.refl _ _⟩

theorem markI_any (lo hi s : Nat) (v : Value) (n : Nat) (X : Nat → Int) (g : Nat) (hn : n ≤ 2000000) (hs : s ≤ 2000000000) (w : World) (h : RI lo hi w v n X g) :
    Calls Try.prog 43 #[v, .int .i64 (s : Int)] w fun e w' => e = .returned (.int .i64 ((s + n : Nat) : Int)) ∧ RI lo hi w' v n (M1 s) g ∧ w'.heap.size = w.heap.size ∧ (∀ b, b < w.heap.size → (¬ b = g ∨ b < lo ∨ hi ≤ b) → Sm w w' b) ∧ Below lo w w' := by
  rcases h with ⟨rfl, a, c, rfl⟩ | ⟨c, rfl, h2, h3, h4, h5⟩
  · refine (markI0 s a c w).mono ?_
    rintro e w' ⟨rfl, rfl⟩
    exact ⟨by simp, .inl ⟨rfl, a, c, rfl⟩, rfl, fun b _ _ => Sm.refl _ _, Below.refl _ _⟩
  · refine (markI s g n c X hn hs w (by omega) h5).mono ?_
    rintro e w' ⟨rfl, o, hg, hz⟩
    exact ⟨rfl, .inr ⟨c, rfl, h2, h3, by omega, o⟩, hz, fun b hb hne => sm_grown hg hb (by intro e; injection e with e; omega), below_grown hg h2 (by omega)⟩

theorem heldI_any (lo hi s : Nat) (v : Value) (n : Nat) (g : Nat) (hn : n ≤ 2000000) (hs : s ≤ 2000000000) (w : World) (h : RI lo hi w v n (M1 s) g) :
    Calls Try.prog 46 #[v, .int .i64 (s : Int)] w fun e w' => e = .returned (.int .i64 ((s + n : Nat) : Int)) ∧ Below w.heap.size w w' := by
  rcases h with ⟨rfl, a, c, rfl⟩ | ⟨c, rfl, h2, h3, h4, h5⟩
  · refine (heldI0 s a c w).mono ?_
    rintro e w' ⟨rfl, hb⟩
    exact ⟨by simp, hb⟩
  · exact heldI s g n c hn hs w (by omega) h5

/-- In w there lie n lists of numbers, from a on: the k-th one has N k numbers, and their numbers are O k. -/
def RowO (w : World) (a : Option Addr) (n : Nat) (N : Nat → Nat) (O : Nat → Nat → Int) : Prop :=
  n = 0 ∨ ∃ b o, a = some ⟨b, o, none⟩ ∧ b < w.heap.size ∧ ∀ k, k < n → ∃ x c, w.cell? ⟨b, o + k, none⟩ = some (.slice x (N k) c) ∧ Row1 w x (N k) (O k)

theorem rowO_below {w w' : World} {a : Option Addr} {n : Nat} {N : Nat → Nat} {O : Nat → Nat → Int} (h : RowO w a n N O) (hb : Below w.heap.size w w') : RowO w' a n N O := by
  rcases h with rfl | ⟨b, o, rfl, hlt, hr⟩
  · exact .inl rfl
  · refine .inr ⟨b, o, rfl, Nat.lt_of_lt_of_le hlt hb.size, fun k hk => ?_⟩
    obtain ⟨x, c, h1, h2⟩ := hr k hk
    exact ⟨x, c, (hb.cell (p := ⟨b, _, none⟩) hlt).trans h1, row1_below h2 hb⟩

def sumN (N : Nat → Nat) : Nat → Nat
  | 0 => 0
  | k + 1 => sumN N k + N k

set_option maxHeartbeats 1000000 in
theorem szOuts2 (a : Option Addr) (n cap : Nat) (N : Nat → Nat) (O : Nat → Nat → Int) (left : Int) (h0 : 0 ≤ left) (h1 : left ≤ 1048576) (hn : (n : Int) ≤ 9223372036854775807) (hN : ∀ k, k < n → (N k : Int) ≤ 9223372036854775807) (w : World) (h : RowO w a n N O) :
    Calls Try.prog 22 #[.slice a n cap, .int .i64 left] w fun e w' => (∃ r : Int, e = .returned (.int .i64 r) ∧ (r = -1 ∨ (0 ≤ r ∧ r ≤ left ∧ (n : Int) ≤ left ∧ (∀ k, k < n → (N k : Int) ≤ left) ∧ (sumN N n : Int) ≤ left))) ∧ Below w.heap.size w w' := by
  have HN : Hid (∀ k, k < n → (N k : Int) ≤ 9223372036854775807) := hN
  have HR : Hid (RowO w a n N O) := h
  clear hN h
  by_cases h : (n : Int) ≤ left
  · have hd : 0 ≤ left - n := by omega
    go_enter Try.func22, Try.ntmps22
    go_wp2
    go_loopw [1, 5] (fun l i wr => ∃ (k : Nat) (r : Int), k ≤ n ∧ i = .int .i64 k ∧ l = .int .i64 r ∧ 0 ≤ r ∧ r ≤ left ∧ (∀ j, j < k → (N j : Int) ≤ left) ∧ (sumN N k : Int) + r ≤ left ∧ Below w.heap.size w wr) (fun _ i _ => n - (intOf i).toNat)
    case atStart => exact ⟨0, left - n, Nat.zero_le _, rfl, by go_num, by omega, by omega, fun _ h => absurd h (by omega), by simp [sumN]; omega, Below.refl _ _⟩
    case round =>
      obtain ⟨k, r, hk, rfl, rfl, hr0, hr1, hall, hsum, hbel⟩ := hrel
      have HSU : Hid ((sumN N k : Int) + r ≤ left) := hsum
      clear hsum
      have HA : Hid (∀ j, j < k → (N j : Int) ≤ left) := hall
      clear hall
      by_cases hkn : k < n
      · have hkn' : (k : Int) < n := by omega
        obtain ⟨b, o, rfl, hb, hrow⟩ : ∃ b o, a = some ⟨b, o, none⟩ ∧ b < w.heap.size ∧ ∀ k, k < n → ∃ x c, w.cell? ⟨b, o + k, none⟩ = some (.slice x (N k) c) ∧ Row1 w x (N k) (O k) := by
          rcases HR.out with h | h
          · omega
          · exact h
        obtain ⟨x, c, hc, _⟩ := hrow k hkn
        clear hrow
        have hc' : wr.cell? ⟨b, o + k, none⟩ = some (.slice x (N k) c) := (hbel.cell (p := ⟨b, o + k, none⟩) hb).trans hc
        clear hc
        go_wp2_with fail
        refine (szInts x (N k) c r hr0 (by omega) (HN.out k hkn) _).mono ?_
        rintro e w1 ⟨rfl, hb1⟩
        have B1 : Below w.heap.size w w1 := bthen hbel hb1
        clear hb1 hbel hc'
        by_cases hle : (N k : Int) ≤ r
        · have hd1 : 0 ≤ r - (N k : Int) := by omega
          rw [if_pos hle]
          go_wp2
          go_roundw
          case rel => exact ⟨k + 1, r - (N k : Int), by omega, by go_num, rfl, by omega, by omega, fun j hj => by
            by_cases hjk : j = k
            · subst hjk; omega
            · exact HA.out j (by omega), by have := HSU.out; simp only [sumN]; omega, B1⟩
          case measure => simp [intOf]; omega
        · rw [if_neg hle]
          go_wp2
          go_ret
          exact ⟨⟨-1, rfl, .inl rfl⟩, B1⟩
      · have : k = n := by omega
        subst this
        go_wp2
        go_ret
        exact ⟨⟨r, rfl, .inr ⟨hr0, hr1, h, HA.out, by have := HSU.out; omega⟩⟩, hbel⟩
  · go_enter Try.func22, Try.ntmps22
    go_wp2
    all_goals (go_ret; exact ⟨⟨-1, rfl, .inl rfl⟩, Below.refl _ _⟩)

theorem Try.info25 : (Try.prog.info? 25).map (fun i => (i.zero, i.size, i.bytes)) = some (some (.slice none 0 0), 1, 24) := by kernel_rfl
theorem makeO (n : Nat) (hn : n ≤ 1048576) (w : World) :
    (Instr.makeSlice 26 (.int .i64 (n : Int)) (.int .i64 (n : Int))).run Try.prog w = .ok (.slice (some ⟨w.heap.size, 0, none⟩) n n) (w.alloc (.cells (madeCells #[.slice none 0 0] (n * 1)) 25)) := by
  obtain ⟨i, hi, hzz⟩ := Option.map_eq_some_iff.1 Try.info25
  simp only [Prod.mk.injEq] at hzz
  obtain ⟨hz, hs, hb⟩ := hzz
  have := run_make (P := Try.prog) w 26 25 i _ Try.underlying26 hi hz .i64 .i64 n n (by omega) (by omega) (by rw [hb]; omega) (by omega)
  rw [this, hs]
  rfl

/-- Block B of w is a row of n lists of numbers of the call's own, of which the first k hold O's, each in a later block than the one ahead. -/
def OwnO (w : World) (B n : Nat) (N : Nat → Nat) (O : Nat → Nat → Int) (k : Nat) : Prop :=
  (∀ i, i < n → (w.cell? ⟨B, i, none⟩).isSome = true ∧ w.frozen? ⟨B, i, none⟩ = false) ∧
    ∃ xs : Nat → Nat, (∀ i j, i < j → j < k → xs i < xs j) ∧ ∀ j, j < k → B < xs j ∧ xs j < w.heap.size ∧ w.cell? ⟨B, j, none⟩ = some (.slice (some ⟨xs j, 0, none⟩) (N j) (N j)) ∧ Own1 w (xs j) (N j) (O j) (N j)

theorem ownO_below {w w' : World} {B n k : Nat} {N : Nat → Nat} {O : Nat → Nat → Int} (h : OwnO w B n N O k) (hB : B < w.heap.size) (hb : Below w.heap.size w w') : OwnO w' B n N O k := by
  obtain ⟨h1, xs, h2, h3⟩ := h
  refine ⟨fun i hi => by rw [hb.cell (p := ⟨B, i, none⟩) hB, hb.frozen (p := ⟨B, i, none⟩) hB]; exact h1 i hi, xs, h2, fun j hj => ?_⟩
  obtain ⟨a1, a2, a3, a4⟩ := h3 j hj
  exact ⟨a1, Nat.lt_of_lt_of_le a2 hb.size, (hb.cell (p := ⟨B, j, none⟩) hB).trans a3, own1_below a4 a2 hb⟩

theorem ownO_next {wr w1 : World} {B n k : Nat} {N : Nat → Nat} {O : Nat → Nat → Int} (h : OwnO wr B n N O k) (hk : k < n) (hB : B < wr.heap.size) (hb : Below wr.heap.size wr w1) (ho : Own1 w1 wr.heap.size (N k) (O k) (N k)) (hs : wr.heap.size < w1.heap.size) :
    OwnO (w1.setCell ⟨B, k, none⟩ (.slice (some ⟨wr.heap.size, 0, none⟩) (N k) (N k))) B n N O (k + 1) := by
  obtain ⟨g1, xs, h2, g3⟩ := h
  have h3' : ∀ j, j < k → xs j < wr.heap.size := fun j hj => (g3 j hj).2.1
  have h1 : ∀ i, i < n → (w1.cell? ⟨B, i, none⟩).isSome = true ∧ w1.frozen? ⟨B, i, none⟩ = false := fun i hi => by rw [hb.cell (p := ⟨B, i, none⟩) hB, hb.frozen (p := ⟨B, i, none⟩) hB]; exact g1 i hi
  have h3 : ∀ j, j < k → B < xs j ∧ xs j < w1.heap.size ∧ w1.cell? ⟨B, j, none⟩ = some (.slice (some ⟨xs j, 0, none⟩) (N j) (N j)) ∧ Own1 w1 (xs j) (N j) (O j) (N j) := fun j hj => by
    obtain ⟨a1, a2, a3, a4⟩ := g3 j hj
    exact ⟨a1, Nat.lt_of_lt_of_le a2 hb.size, (hb.cell (p := ⟨B, j, none⟩) hB).trans a3, own1_below a4 a2 hb⟩
  refine ⟨fun i hi => ⟨?_, by rw [set_frozen]; exact (h1 i hi).2⟩, fun j => if j = k then wr.heap.size else xs j, fun i j hij hj => ?_, fun j hj => ?_⟩
  · by_cases hc : k = i
    · subst hc; rw [set_in (h1 k hk).1]; rfl
    · rw [set_out (fun e => hc e.2)]; exact (h1 i hi).1
  · dsimp only
    by_cases hjk : j = k
    · subst hjk
      rw [if_pos rfl, if_neg (by omega)]
      exact h3' i hij
    · rw [if_neg (by omega), if_neg hjk]
      exact h2 i j hij (by omega)
  · dsimp only
    by_cases hjk : j = k
    · subst hjk
      simp only [if_pos]
      exact ⟨hB, by rw [set_size]; exact hs, set_in (h1 j hk).1, own1_set ho (by omega)⟩
    · rw [if_neg hjk]
      obtain ⟨a1, a2, a3, a4⟩ := h3 j (by omega)
      exact ⟨a1, by rw [set_size]; exact a2, by rw [set_out (fun e => hjk e.2.symm)]; exact a3, own1_set a4 (by omega)⟩

set_option maxHeartbeats 1000000 in
theorem toOuts (a : Option Addr) (n cap : Nat) (N : Nat → Nat) (O : Nat → Nat → Int) (hn : n ≤ 1048576) (hN : ∀ k, k < n → N k ≤ 1048576) (w : World) (h : RowO w a n N O) :
    Calls Try.prog 29 #[.slice a n cap] w fun e w' => e = .returned (.slice (some ⟨w.heap.size, 0, none⟩) n n) ∧ OwnO w' w.heap.size n N O n ∧ w.heap.size < w'.heap.size ∧ Below w.heap.size w w' := by
  have hmk := makeO n hn
  have HR : Hid (RowO w a n N O) := h
  have HN : Hid (∀ k, k < n → N k ≤ 1048576) := hN
  clear h hN
  go_enter Try.func29, Try.ntmps29
  go_wp2
  go_loopw [4] (fun i wr => ∃ k : Nat, k ≤ n ∧ i = .int .i64 k ∧ OwnO wr w.heap.size n N O k ∧ w.heap.size < wr.heap.size ∧ Below w.heap.size w wr) (fun i _ => n - (intOf i).toNat)
  case atStart => exact ⟨0, Nat.zero_le _, rfl, ⟨fun i hi => by simp [size_madeCells, hi], fun _ => 0, fun _ _ _ h => absurd h (by omega), fun _ h => absurd h (by omega)⟩, by simp, (Below.refl _ _).alloc (by simp) _⟩
  case round =>
    clear hmk
    obtain ⟨k, hk, rfl, hown0, hsz, hbel⟩ := hrel
    have hown : Hid (OwnO wr w.heap.size n N O k) := hown0
    clear hown0
    by_cases hkn : k < n
    · have hkn' : (k : Int) < n := by omega
      obtain ⟨b, o, rfl, hb, hrow⟩ : ∃ b o, a = some ⟨b, o, none⟩ ∧ b < w.heap.size ∧ ∀ k, k < n → ∃ x c, w.cell? ⟨b, o + k, none⟩ = some (.slice x (N k) c) ∧ Row1 w x (N k) (O k) := by
        rcases HR.out with h | h
        · omega
        · exact h
      obtain ⟨x, c, hc0, hx⟩ := hrow k hkn
      have HX : Hid (Row1 wr x (N k) (O k)) := row1_below hx hbel
      have hc : wr.cell? ⟨b, o + k, none⟩ = some (.slice x (N k) c) := (hbel.cell (p := ⟨b, o + k, none⟩) hb).trans hc0
      clear hrow hx hc0
      go_wp2_with fail
      refine (toInts x (N k) c (O k) (HN.out k hkn) _ HX.out).mono ?_
      rintro e w1 ⟨rfl, ho1, hs1, hb1⟩
      have hsz1 : w.heap.size < w1.heap.size := Nat.lt_of_lt_of_le hsz hb1.size
      have hbel1 : Below w.heap.size w w1 := hbel.trans (hb1.mono (Nat.le_of_lt hsz))
      have NX : Hid (OwnO (w1.setCell ⟨w.heap.size, k, none⟩ (.slice (some ⟨wr.heap.size, 0, none⟩) (N k) (N k))) w.heap.size n N O (k + 1)) := ownO_next hown.out hkn hsz hb1 ho1 hs1
      obtain ⟨d0, f0⟩ := (ownO_below hown.out hsz hb1).1 k hkn
      obtain ⟨v0, d0⟩ := Option.isSome_iff_exists.1 d0
      clear ho1 hs1 hb1 hbel hc HX hown
      go_wp2
      go_roundw
      case rel => exact ⟨k + 1, by omega, by go_num, NX.out, by simpa [World.setCell] using hsz1, hbel1.setCell (Nat.le_refl _) _⟩
      case measure => simp [intOf]; omega
    · have : k = n := by omega
      subst this
      go_wp2
      go_ret
      exact ⟨rfl, hown.out, hsz, hbel⟩

theorem rowO_of_own {w : World} {B n : Nat} {N : Nat → Nat} {O : Nat → Nat → Int} (h : OwnO w B n N O n) (hB : B < w.heap.size) : RowO w (some ⟨B, 0, none⟩) n N O := by
  obtain ⟨_, xs, _, h3⟩ := h
  refine .inr ⟨B, 0, rfl, hB, fun k hk => ?_⟩
  obtain ⟨_, a2, a3, a4⟩ := h3 k hk
  exact ⟨_, _, by rw [Nat.zero_add]; exact a3, row1_of_own a4 a2⟩

theorem ownO_set {w : World} {B g n k j : Nat} {N : Nat → Nat} {O : Nat → Nat → Int} {u : Value} (h : OwnO w g n N O k) (hne : B < g) : OwnO (w.setCell ⟨B, j, none⟩ u) g n N O k := by
  obtain ⟨h1, xs, h2, h3⟩ := h
  refine ⟨fun i hi => by rw [set_out (fun e => absurd e.1 (by omega)), set_frozen]; exact h1 i hi, xs, h2, fun i hi => ?_⟩
  obtain ⟨a1, a2, a3, a4⟩ := h3 i hi
  exact ⟨a1, by rw [set_size]; exact a2, by rw [set_out (fun e => absurd e.1 (by omega))]; exact a3, own1_set a4 (by omega)⟩

theorem row1_keep {w w' : World} {a : Option Addr} {n : Nat} {Z : Nat → Int} (h : Row1 w a n Z) (k : (∀ b o, b < w.heap.size → w'.cell? ⟨b, o, none⟩ = w.cell? ⟨b, o, none⟩) ∧ w.heap.size ≤ w'.heap.size) : Row1 w' a n Z := by
  rcases h with rfl | ⟨b, o, rfl, hlt, hr⟩
  · exact .inl rfl
  · exact .inr ⟨b, o, rfl, Nat.lt_of_lt_of_le hlt k.2, fun i hi => (k.1 b _ hlt).trans (hr i hi)⟩

set_option maxHeartbeats 4000000 in
theorem eqOuts (a1 a2 : Option Addr) (n c1 c2 : Nat) (N : Nat → Nat) (O : Nat → Nat → Int) (hn : n ≤ 2000000) (hN : ∀ k, k < n → N k ≤ 2000000) (w : World) (h1 : RowO w a1 n N O) (h2 : RowO w a2 n N O) :
    Calls Try.prog 38 #[.slice a1 n c1, .slice a2 n c2] w fun e w' => e = .returned (.bool true) ∧ Below w.heap.size w w' := by
  have H1 : Hid (RowO w a1 n N O) := h1
  have H2 : Hid (RowO w a2 n N O) := h2
  have HN : Hid (∀ k, k < n → N k ≤ 2000000) := hN
  clear h1 h2 hN
  go_enter Try.func38, Try.ntmps38
  go_wp2
  go_loopw [5] (fun i wr => ∃ k : Nat, k ≤ n ∧ i = .int .i64 k ∧ ((∀ b o, b < w.heap.size → wr.cell? ⟨b, o, none⟩ = w.cell? ⟨b, o, none⟩) ∧ w.heap.size ≤ wr.heap.size) ∧ Below w.heap.size w wr) (fun i _ => n - (intOf i).toNat)
  case atStart => exact ⟨0, Nat.zero_le _, rfl, ⟨fun _ _ _ => rfl, Nat.le_refl _⟩, Below.refl _ _⟩
  case round =>
    obtain ⟨k, hk, rfl, HS, BR⟩ := hrel
    by_cases hkn : k < n
    · have hkn' : (k : Int) < n := by omega
      obtain ⟨b1, o1, rfl, hb1, hr1⟩ : ∃ b o, a1 = some ⟨b, o, none⟩ ∧ b < w.heap.size ∧ ∀ k, k < n → ∃ x c, w.cell? ⟨b, o + k, none⟩ = some (.slice x (N k) c) ∧ Row1 w x (N k) (O k) := by
        rcases H1.out with h | h
        · omega
        · exact h
      obtain ⟨b2, o2, rfl, hb2, hr2⟩ : ∃ b o, a2 = some ⟨b, o, none⟩ ∧ b < w.heap.size ∧ ∀ k, k < n → ∃ x c, w.cell? ⟨b, o + k, none⟩ = some (.slice x (N k) c) ∧ Row1 w x (N k) (O k) := by
        rcases H2.out with h | h
        · omega
        · exact h
      obtain ⟨x1, d1, e1, hx1⟩ := hr1 k hkn
      obtain ⟨x2, d2, e2, hx2⟩ := hr2 k hkn
      have HX1 : Hid (Row1 w x1 (N k) (O k)) := hx1
      have HX2 : Hid (Row1 w x2 (N k) (O k)) := hx2
      clear hr1 hr2 hx1 hx2
      go_wp2
      refine wp_region_held_drew (S := fun w' => (∀ b o, b < w.heap.size → w'.cell? ⟨b, o, none⟩ = w.cell? ⟨b, o, none⟩) ∧ w.heap.size ≤ w'.heap.size) (by kernel_rfl) HS ?_
      intro hHeld
      refine wpAnyH_take (i := 0) (v := .slice (some ⟨b1, o1, none⟩) n c1) rfl (by kernel_rfl) (by kernel_rfl) (by kernel_rfl) (fun _ _ _ h => h) (Or.inl ⟨by rfl, ?_⟩) (by assumption) ?_
      · intro wx hSw; go_simp
      try simp only [Act.put, List.setIfInBounds_toArray, List.set_cons_zero, List.set_cons_succ, List.getElem_toArray, List.getElem_cons_zero]
      refine wpAnyH_take (i := 1) (v := .int .i64 (k : Int)) rfl (by kernel_rfl) (by kernel_rfl) (by kernel_rfl) (fun _ _ _ h => h) (Or.inl ⟨by rfl, ?_⟩) (by assumption) ?_
      · intro wx hSw; go_simp
      try simp only [Act.put, List.setIfInBounds_toArray, List.set_cons_zero, List.set_cons_succ, List.getElem_toArray, List.getElem_cons_zero, List.getElem_cons_succ]
      refine wpAnyH_take (i := 2) (v := .pointer (some ⟨b1, o1 + k, none⟩)) rfl (by kernel_rfl) (by kernel_rfl) (by kernel_rfl) (fun _ _ _ h => h) (Or.inl ⟨by rfl, ?_⟩) (by assumption) ?_
      · intro wx hSw; go_simp
      try simp only [Act.put, List.setIfInBounds_toArray, List.set_cons_zero, List.set_cons_succ, List.getElem_toArray, List.getElem_cons_zero, List.getElem_cons_succ]
      refine wpAnyH_take (i := 3) (v := .slice x1 (N k) d1) rfl (by kernel_rfl) (by kernel_rfl) (by kernel_rfl) (fun _ _ _ h => h) (Or.inl ⟨by rfl, ?_⟩) (by assumption) ?_
      · intro wx hSw; go_simp
      try simp only [Act.put, List.setIfInBounds_toArray, List.set_cons_zero, List.set_cons_succ, List.getElem_toArray, List.getElem_cons_zero, List.getElem_cons_succ]
      refine wpAnyH_take (i := 4) (v := .slice (some ⟨b2, o2, none⟩) n c2) rfl (by kernel_rfl) (by kernel_rfl) (by kernel_rfl) (fun _ _ _ h => h) (Or.inl ⟨by rfl, ?_⟩) (by assumption) ?_
      · intro wx hSw; go_simp
      try simp only [Act.put, List.setIfInBounds_toArray, List.set_cons_zero, List.set_cons_succ, List.getElem_toArray, List.getElem_cons_zero, List.getElem_cons_succ]
      refine wpAnyH_take (i := 5) (v := .int .i64 (k : Int)) rfl (by kernel_rfl) (by kernel_rfl) (by kernel_rfl) (fun _ _ _ h => h) (Or.inl ⟨by rfl, ?_⟩) (by assumption) ?_
      · intro wx hSw; go_simp
      try simp only [Act.put, List.setIfInBounds_toArray, List.set_cons_zero, List.set_cons_succ, List.getElem_toArray, List.getElem_cons_zero, List.getElem_cons_succ]
      refine wpAnyH_take (i := 6) (v := .pointer (some ⟨b2, o2 + k, none⟩)) rfl (by kernel_rfl) (by kernel_rfl) (by kernel_rfl) (fun _ _ _ h => h) (Or.inl ⟨by rfl, ?_⟩) (by assumption) ?_
      · intro wx hSw; go_simp
      try simp only [Act.put, List.setIfInBounds_toArray, List.set_cons_zero, List.set_cons_succ, List.getElem_toArray, List.getElem_cons_zero, List.getElem_cons_succ]
      refine wpAnyH_take (i := 7) (v := .slice x2 (N k) d2) rfl (by kernel_rfl) (by kernel_rfl) (by kernel_rfl) (fun _ _ _ h => h) (Or.inl ⟨by rfl, ?_⟩) (by assumption) ?_
      · intro wx hSw; go_simp
      try simp only [Act.put, List.setIfInBounds_toArray, List.set_cons_zero, List.set_cons_succ, List.getElem_toArray, List.getElem_cons_zero, List.getElem_cons_succ]
      refine wpAnyH_ready (rs := [8]) (by kernel_rfl) (by simp) ?_
      refine AllReadyH.cons rfl (fun K hK => ?_) AllReadyH.nil
      go_simp
      go_wp2_with (go_at_call 37; refine (eqInts x1 x2 (N k) d1 d2 (O k) (HN.out k hkn) _ (row1_keep HX1.out (by assumption)) (row1_keep HX2.out (by assumption))).mono ?_; rintro e w2 ⟨rfl, hbw2⟩)
      refine hK.out _ _ (keepS (by assumption) hbw2) (fun hHeld => ?_)
      clear hK K
      try simp only [Act.put, List.setIfInBounds_toArray, List.set_cons_zero, List.set_cons_succ, List.getElem_toArray, List.getElem_cons_zero, List.getElem_cons_succ]
      refine wpAnyH_take (i := 9) (v := .bool false) rfl (by kernel_rfl) (by kernel_rfl) (by kernel_rfl) (fun _ _ _ h => h) (Or.inl ⟨by rfl, ?_⟩) (by assumption) ?_
      · intro wx hSw; go_simp
      try simp only [Act.put, List.setIfInBounds_toArray, List.set_cons_zero, List.set_cons_succ, List.getElem_toArray, List.getElem_cons_zero, List.getElem_cons_succ]
      refine wpAnyH_done (by kernel_rfl) ?_ _
      go_wp2
      go_roundw
      case rel => exact ⟨k + 1, by omega, by go_num, by assumption, by repeat (first | exact BR | refine bthen ?_ (by assumption) | apply Below.drew)⟩
      case measure => simp [intOf]; omega
    · have : k = n := by omega
      subst this
      go_wp2
      go_ret
      exact ⟨rfl, BR⟩

/-- .. n lists of numbers, sl k the k-th, in the block xs k. -/
def RO (lo hi : Nat) (w : World) (v : Value) (n : Nat) (N : Nat → Nat) (O : Nat → Nat → Int) (g : Nat) (sl : Nat → Value) (xs : Nat → Nat) : Prop :=
  (n = 0 ∧ ∃ a c, v = .slice a 0 c) ∨ ∃ c, v = .slice (some ⟨g, 0, none⟩) n c ∧ lo ≤ g ∧ g < hi ∧ hi ≤ w.heap.size ∧ ∀ k, k < n → w.cell? ⟨g, k, none⟩ = some (sl k) ∧ RI lo hi w (sl k) (N k) (O k) (xs k)

theorem RO.sm {lo hi : Nat} {w w' : World} {v : Value} {n : Nat} {N : Nat → Nat} {O : Nat → Nat → Int} {g : Nat} {sl : Nat → Value} {xs : Nat → Nat} (h : RO lo hi w v n N O g sl xs) (hs : w.heap.size ≤ w'.heap.size) (k : lo ≤ g → g < hi → Sm w w' g) (kx : ∀ i, i < n → lo ≤ xs i → xs i < hi → Sm w w' (xs i)) : RO lo hi w' v n N O g sl xs := by
  rcases h with h | ⟨c, h1, h2, h3, h4, h5⟩
  · exact .inl h
  · exact .inr ⟨c, h1, h2, h3, Nat.le_trans h4 hs, fun i hi => ⟨((k h2 h3 i).1).trans (h5 i hi).1, (h5 i hi).2.sm hs (kx i hi)⟩⟩

/-- Where the marks of the k-th list of numbers begin. -/
def st (s : Nat) (N : Nat → Nat) : Nat → Nat
  | 0 => s
  | k + 1 => st s N k + N k

set_option maxHeartbeats 2000000 in
theorem markO (lo hi s : Nat) (v : Value) (n : Nat) (N : Nat → Nat) (O : Nat → Nat → Int) (g : Nat) (sl : Nat → Value) (xs : Nat → Nat) (hn : n ≤ 1048576) (hN : ∀ k, k < n → N k ≤ 1048576) (hst : ∀ k, k ≤ n → st s N k ≤ 2000000000) (hg : ∀ k, k < n → ¬ xs k = g) (hx : ∀ i j, i < n → j < n → ¬ i = j → ¬ xs i = xs j)
    (w : World) (h : RO lo hi w v n N O g sl xs) :
    Calls Try.prog 44 #[v, .int .i64 (s : Int)] w fun e w' => e = .returned (.int .i64 ((st s N n : Nat) : Int)) ∧ RO lo hi w' v n N (fun k => M1 (st s N k)) g sl xs ∧ w'.heap.size = w.heap.size ∧ (∀ b, b < w.heap.size → ((∀ k, k < n → ¬ b = xs k) ∨ b < lo ∨ hi ≤ b) → Sm w w' b) ∧ Below lo w w' := by
  have HG : Hid (∀ k, k < n → ¬ xs k = g) := hg
  have HX : Hid (∀ i j, i < n → j < n → ¬ i = j → ¬ xs i = xs j) := hx
  have HN : Hid (∀ k, k < n → N k ≤ 1048576) := hN
  have HT : Hid (∀ k, k ≤ n → st s N k ≤ 2000000000) := hst
  clear hg hx hN hst
  rcases h with ⟨rfl, a, c, rfl⟩ | ⟨c, rfl, h2, h3, h4, h5⟩
  · go_enter Try.func44, Try.ntmps44
    go_wp2
    refine wp_loop_rounds 1 ?_
    rw [rounds_succ]
    go_wp2
    go_ret
    exact ⟨rfl, .inl ⟨rfl, a, c, rfl⟩, rfl, fun b _ _ => Sm.refl _ _, Below.refl _ _⟩
  · have H5 : Hid (∀ k, k < n → w.cell? ⟨g, k, none⟩ = some (sl k) ∧ RI lo hi w (sl k) (N k) (O k) (xs k)) := h5
    clear h5
    go_enter Try.func44, Try.ntmps44
    go_wp2
    go_loopw [1, 5] (fun cc i wr => ∃ k : Nat, k ≤ n ∧ i = .int .i64 k ∧ cc = .int .i64 ((st s N k : Nat) : Int) ∧ wr.heap.size = w.heap.size ∧ (∀ b, b < w.heap.size → ((∀ j, j < n → ¬ b = xs j) ∨ b < lo ∨ hi ≤ b) → Sm w wr b) ∧ (∀ j, j < k → RI lo hi wr (sl j) (N j) (M1 (st s N j)) (xs j)) ∧ (∀ j, k ≤ j → j < n → RI lo hi wr (sl j) (N j) (O j) (xs j)) ∧ Below lo w wr) (fun _ i _ => n - (intOf i).toNat)
    case atStart => exact ⟨0, Nat.zero_le _, rfl, rfl, rfl, fun b _ _ => Sm.refl _ _, fun _ h => absurd h (by omega), fun j _ hj => (H5.out j hj).2, Below.refl _ _⟩
    case round =>
      obtain ⟨k, hk, rfl, rfl, hsz, hsm, hdone, hleft, hbel⟩ := hrel
      have SM : Hid (∀ b, b < w.heap.size → ((∀ j, j < n → ¬ b = xs j) ∨ b < lo ∨ hi ≤ b) → Sm w wr b) := hsm
      have DN : Hid (∀ j, j < k → RI lo hi wr (sl j) (N j) (M1 (st s N j)) (xs j)) := hdone
      have LF : Hid (∀ j, k ≤ j → j < n → RI lo hi wr (sl j) (N j) (O j) (xs j)) := hleft
      have BL : Hid (Below lo w wr) := hbel
      clear hsm hdone hleft hbel
      by_cases hkn : k < n
      · have hkn' : (k : Int) < n := by omega
        have hc : wr.cell? ⟨g, k, none⟩ = some (sl k) := ((SM.out g (by omega) (.inl fun j hj e => HG.out j hj e.symm)) k).1.trans (H5.out k hkn).1
        have SZ : Hid (wr.heap.size = w.heap.size) := hsz
        have hgw : g < wr.heap.size := by omega
        clear hsz
        obtain ⟨slk, esl⟩ : ∃ x, x = sl k := ⟨_, rfl⟩
        rw [← esl] at hc
        have hRP : Hid (RI lo hi wr slk (N k) (O k) (xs k)) := by rw [esl]; exact LF.out k (Nat.le_refl _) hkn
        have ESL : Hid (slk = sl k) := esl
        clear esl
        have hshape : ∃ a ln cp, slk = .slice a ln cp := by
          rcases hRP.out with ⟨_, a, c, e⟩ | ⟨c, e, _⟩
          · exact ⟨_, _, _, e⟩
          · exact ⟨_, _, _, e⟩
        obtain ⟨xa, xl, xc, rfl⟩ := hshape
        go_wp2_with fail
        refine (markI_any lo hi (st s N k) _ (N k) (O k) (xs k) (by have := HN.out k hkn; omega) (HT.out k hk) _ hRP.out).mono ?_
        rintro e w1 ⟨rfl, r1, z1, sm1, gr1⟩
        have S1 : Hid (w1.heap.size = w.heap.size) := z1.trans SZ.out
        have SM1 : Hid (∀ b, b < w.heap.size → ((∀ j, j < n → ¬ b = xs j) ∨ b < lo ∨ hi ≤ b) → Sm w w1 b) := fun b hb hne => (SM.out b hb hne).trans (sm1 b (by rw [SZ.out]; exact hb) (hne.elim (fun h => .inl (h k hkn)) .inr))
        have DN1 : Hid (∀ j, j < k + 1 → RI lo hi w1 (sl j) (N j) (M1 (st s N j)) (xs j)) := fun j hj => by
          by_cases e : j = k
          · subst e; rw [← ESL.out]; exact r1
          · rcases DN.out j (by omega) with h | ⟨c', h1, h2, h3, h4, h5⟩
            · exact .inl h
            · exact .inr ⟨c', h1, h2, h3, by rw [z1]; exact h4, own1_sm h5 (sm1 (xs j) (by omega) (.inl (HX.out j k (by omega) hkn e)))⟩
        have LF1 : Hid (∀ j, k + 1 ≤ j → j < n → RI lo hi w1 (sl j) (N j) (O j) (xs j)) := fun j hj hjn => by
          rcases LF.out j (by omega) hjn with h | ⟨c', h1, h2, h3, h4, h5⟩
          · exact .inl h
          · exact .inr ⟨c', h1, h2, h3, by rw [z1]; exact h4, own1_sm h5 (sm1 (xs j) (by omega) (.inl (HX.out j k hjn hkn (by omega))))⟩
        have BL1 : Hid (Below lo w w1) := BL.out.trans gr1
        clear r1 z1 sm1 gr1 SM DN LF BL SZ hc hRP
        go_wp2
        go_roundw
        case rel => exact ⟨k + 1, by omega, by go_num, rfl, S1.out, SM1.out, DN1.out, LF1.out, BL1.out⟩
        case measure => simp [intOf]; omega
      · have hkk : k = n := by omega
        subst hkk
        go_wp2
        go_ret
        exact ⟨rfl, .inr ⟨c, rfl, h2, h3, by rw [hsz]; exact h4, fun j hj => ⟨((SM.out g (by omega) (.inl fun j hj e => HG.out j hj e.symm)) j).1.trans (H5.out j hj).1, DN.out j hj⟩⟩, hsz, SM.out, BL.out⟩

set_option maxHeartbeats 2000000 in
theorem heldO (lo hi s : Nat) (v : Value) (n : Nat) (N : Nat → Nat) (g : Nat) (sl : Nat → Value) (xs : Nat → Nat) (hn : n ≤ 1048576) (hN : ∀ k, k < n → N k ≤ 1048576) (hst : ∀ k, k ≤ n → st s N k ≤ 2000000000)
    (w : World) (h : RO lo hi w v n N (fun k => M1 (st s N k)) g sl xs) :
    Calls Try.prog 47 #[v, .int .i64 (s : Int)] w fun e w' => e = .returned (.int .i64 ((st s N n : Nat) : Int)) ∧ Below w.heap.size w w' := by
  have HN : Hid (∀ k, k < n → N k ≤ 1048576) := hN
  have HT : Hid (∀ k, k ≤ n → st s N k ≤ 2000000000) := hst
  clear hN hst
  rcases h with ⟨rfl, a, c, rfl⟩ | ⟨c, rfl, h2, h3, h4, h5⟩
  · go_enter Try.func47, Try.ntmps47
    go_wp2
    refine wp_loop_rounds 1 ?_
    rw [rounds_succ]
    go_wp2
    go_ret
    exact ⟨rfl, Below.refl _ _⟩
  · have H5 : Hid (∀ k, k < n → w.cell? ⟨g, k, none⟩ = some (sl k) ∧ RI lo hi w (sl k) (N k) (M1 (st s N k)) (xs k)) := h5
    clear h5
    go_enter Try.func47, Try.ntmps47
    go_wp2
    go_loopw [1, 5] (fun cc i wr => ∃ k : Nat, k ≤ n ∧ i = .int .i64 k ∧ cc = .int .i64 ((st s N k : Nat) : Int) ∧ Below w.heap.size w wr) (fun _ i _ => n - (intOf i).toNat)
    case atStart => exact ⟨0, Nat.zero_le _, rfl, rfl, Below.refl _ _⟩
    case round =>
      obtain ⟨k, hk, rfl, rfl, hbel⟩ := hrel
      have BL : Hid (Below w.heap.size w wr) := hbel
      have hz := hbel.size
      clear hbel
      by_cases hkn : k < n
      · have hkn' : (k : Int) < n := by omega
        have hc : wr.cell? ⟨g, k, none⟩ = some (sl k) := (BL.out.cell (p := ⟨g, k, none⟩) (by show g < _; omega)).trans (H5.out k hkn).1
        have hgw : g < wr.heap.size := by omega
        obtain ⟨slk, esl⟩ : ∃ x, x = sl k := ⟨_, rfl⟩
        rw [← esl] at hc
        have hRP : Hid (RI lo hi wr slk (N k) (M1 (st s N k)) (xs k)) := by
          rw [esl]
          rcases (H5.out k hkn).2 with h | ⟨c', q1, q2, q3, q4, q5⟩
          · exact .inl h
          · exact .inr ⟨c', q1, q2, q3, by omega, own1_sm q5 (sm_below BL.out (by omega))⟩
        clear esl
        have hshape : ∃ a ln cp, slk = .slice a ln cp := by
          rcases hRP.out with ⟨_, a, c, e⟩ | ⟨c, e, _⟩
          · exact ⟨_, _, _, e⟩
          · exact ⟨_, _, _, e⟩
        obtain ⟨xa, xl, xc, rfl⟩ := hshape
        have hnn : ¬ ((st s N (k + 1) : Nat) : Int) < 0 := by omega
        go_wp2_with fail
        refine (heldI_any lo hi (st s N k) _ (N k) (xs k) (by have := HN.out k hkn; omega) (HT.out k hk) _ hRP.out).mono ?_
        rintro e w1 ⟨rfl, hb1⟩
        have B1 : Hid (Below w.heap.size w w1) := bthen BL.out hb1
        rw [show st s N k + N k = st s N (k + 1) from rfl]
        clear hb1 BL hc hRP
        obtain ⟨sk, hsk⟩ : ∃ x, x = st s N (k + 1) := ⟨_, rfl⟩
        rw [← hsk] at hnn ⊢
        have HSK : Hid (sk = st s N (k + 1)) := hsk
        clear hsk
        go_wp2
        go_roundw
        case rel => exact ⟨k + 1, by omega, by go_num, by rw [HSK.out], B1.out⟩
        case measure => simp [intOf]; omega
      · have hkk : k = n := by omega
        subst hkk
        go_wp2
        go_ret
        exact ⟨rfl, BL.out⟩
end Go.Proofs.Ytoickljpjlhkoaa
