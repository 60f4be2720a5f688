/- Lists of structs of 7 integers: their size, their copy, and that two of the same are the same; conditions: the lists lie in memory. -/
import Derived.Test.YtlbjgecjonegkaaGst2
import Derived.LoopTactic
import Derived.Laws.IdiomCopy
namespace Go.Proofs.Ytlbjgecjonegkaa.P7
open Go.RowKit Go.Deep
set_option linter.unusedVariables false

theorem eqWalker (i a co s l : Int) (w : World) :
    Calls Try.prog 77 #[.agg #[.int .i64 i, .int .i64 a, .int .i64 co, .int .i64 s, .int .i64 l], .agg #[.int .i64 i, .int .i64 a, .int .i64 co, .int .i64 s, .int .i64 l]] w fun e w' => e = .returned (.bool true) ∧ Below w.heap.size w w' := by
  go_enter Try.func77, Try.ntmps77
  go_wp2
  go_ret
  exact ⟨rfl, by repeat (first | exact Below.refl _ _ | refine Below.alloc ?_ (by simp <;> omega) _)⟩

set_option maxHeartbeats 1000000 in
theorem eqElem (f n i a co s l : Int) (w : World) :
    Calls Try.prog 49 #[.agg #[.int .i64 f, .int .i64 n, .int .i64 i, .int .i64 a, .int .i64 co, .int .i64 s, .int .i64 l], .agg #[.int .i64 f, .int .i64 n, .int .i64 i, .int .i64 a, .int .i64 co, .int .i64 s, .int .i64 l]] w fun e w' => e = .returned (.bool true) ∧ Below w.heap.size w w' := by
  go_enter Try.func49, Try.ntmps49
  go_wp2_with (go_at_call 77; refine (eqWalker _ _ _ _ _ _).mono ?_; rintro e w1 ⟨rfl, hb⟩; obtain ⟨hc, hf⟩ := bcell hb)
  go_ret
  exact ⟨rfl, by repeat (first | exact Below.refl _ _ | refine bthen ?_ (by assumption) | refine Below.alloc ?_ (by simp <;> omega) _)⟩

theorem szList (a : Option Addr) (n cap : Nat) (left : Int) (h0 : 0 ≤ left) (h1 : left ≤ 1048576) (hn : (n : Int) ≤ 9223372036854775807) (w : World) :
    Calls Try.prog 18 #[.slice a n cap, .int .i64 left] w fun e w' => e = .returned (.int .i64 (if (n : Int) ≤ left then left - n else -1)) ∧ Below w.heap.size w w' := by
  by_cases h : (n : Int) ≤ left
  · go_enter Try.func18, Try.ntmps18
    go_wp2
    all_goals (go_ret; exact ⟨by simp <;> omega, Below.refl _ _⟩)
  · go_enter Try.func18, Try.ntmps18
    go_wp2
    all_goals (go_ret; exact ⟨by simp <;> omega, Below.refl _ _⟩)

theorem infoE : (Try.prog.info? 78).map (fun i => (i.zero, i.size, i.bytes)) = some (some (.agg #[.int .i64 0, .int .i64 0, .int .i64 0, .int .i64 0, .int .i64 0, .int .i64 0, .int .i64 0]), 7, 56) := by kernel_rfl

theorem makeK (n : Nat) (hn : n ≤ 1048576) (w : World) :
    (Instr.makeSlice 33 (.int .i64 (n : Int)) (.int .i64 (n : Int))).run Try.prog w = .ok (.slice (some ⟨w.heap.size, 0, none⟩) n n) (w.alloc (.cells (madeCells #[.int .i64 0, .int .i64 0, .int .i64 0, .int .i64 0, .int .i64 0, .int .i64 0, .int .i64 0] (n * 7)) 78)) := by
  obtain ⟨i, hi, hzz⟩ := Option.map_eq_some_iff.1 infoE
  simp only [Prod.mk.injEq] at hzz
  obtain ⟨hz, hs, hb⟩ := hzz
  have := run_make (P := Try.prog) w 33 78 i _ Try.underlying33 hi hz .i64 .i64 n n (by omega) (by omega) (by rw [hb]; omega) (by omega)
  rw [this, hs]
  rfl

/-- In w there lie n structs, from a on: the numbers of the k-th one are Z k. -/
def RowK (w : World) (a : Option Addr) (n : Nat) (Z : Nat → Nat → Int) : Prop :=
  n = 0 ∨ ∃ b o, a = some ⟨b, o, none⟩ ∧ b < w.heap.size ∧ ∀ k j, k < n → j < 7 → w.cell? ⟨b, o + k * 7 + j, none⟩ = some (.int .i64 (Z k j))
/-- Block B of wr is a row of n structs of the call's own, of which the first k hold Z's. -/
def OwnK (wr : World) (B n : Nat) (Z : Nat → Nat → Int) (k : Nat) : Prop :=
  (∀ i, i < n * 7 → (wr.cell? ⟨B, i, none⟩).isSome = true ∧ wr.frozen? ⟨B, i, none⟩ = false) ∧ ∀ k' j, k' < k → j < 7 → wr.cell? ⟨B, k' * 7 + j, none⟩ = some (.int .i64 (Z k' j))
theorem own_cell {wr : World} {B n k : Nat} {Z : Nat → Nat → Int} (h : OwnK wr B n Z k) (hk : k < n) (j : Nat) (hj : j < 7) : (∃ v, wr.cell? ⟨B, k * 7 + j, none⟩ = some v) ∧ wr.frozen? ⟨B, k * 7 + j, none⟩ = false := by
  obtain ⟨h1, h2⟩ := h.1 (k * 7 + j) (by omega)
  exact ⟨Option.isSome_iff_exists.1 h1, h2⟩
theorem own_below {w w' : World} {B n k : Nat} {Z : Nat → Nat → Int} (h : OwnK w B n Z k) (hB : B < w.heap.size) (hb : Below w.heap.size w w') : OwnK w' B n Z k :=
  ⟨fun i hi => by rw [hb.cell (p := ⟨B, i, none⟩) hB, hb.frozen (p := ⟨B, i, none⟩) hB]; exact h.1 i hi, fun k' j hk hj => by rw [hb.cell (p := ⟨B, k' * 7 + j, none⟩) hB]; exact h.2 k' j hk hj⟩
def putK (w : World) (B k : Nat) (Z : Nat → Nat → Int) : World :=
  (((((((w.setCell ⟨B, k * 7, none⟩ (.int .i64 (Z k 0))).setCell ⟨B, k * 7 + 1, none⟩ (.int .i64 (Z k 1))).setCell ⟨B, k * 7 + 2, none⟩ (.int .i64 (Z k 2))).setCell ⟨B, k * 7 + 3, none⟩ (.int .i64 (Z k 3))).setCell ⟨B, k * 7 + 4, none⟩ (.int .i64 (Z k 4))).setCell ⟨B, k * 7 + 5, none⟩ (.int .i64 (Z k 5))).setCell ⟨B, k * 7 + 6, none⟩ (.int .i64 (Z k 6)))
theorem putK_cells (w : World) (B k : Nat) (Z : Nat → Nat → Int) : putK w B k Z = w.setCells B (k * 7) [.int .i64 (Z k 0), .int .i64 (Z k 1), .int .i64 (Z k 2), .int .i64 (Z k 3), .int .i64 (Z k 4), .int .i64 (Z k 5), .int .i64 (Z k 6)] := rfl
theorem own_put {w : World} {B n k : Nat} {Z : Nat → Nat → Int} (h : OwnK w B n Z k) (hk : k < n) : OwnK (putK w B k Z) B n Z (k + 1) := by
  have hin : ∀ j, j < 7 → (putK w B k Z).cell? ⟨B, k * 7 + j, none⟩ = some (.int .i64 (Z k j)) := by
    intro j hj
    rw [putK_cells]
    have := World.cell?_setCells_in B [.int .i64 (Z k 0), .int .i64 (Z k 1), .int .i64 (Z k 2), .int .i64 (Z k 3), .int .i64 (Z k 4), .int .i64 (Z k 5), .int .i64 (Z k 6)] (k * 7) w (fun j' hj' => (h.1 (k * 7 + j') (by simp at hj'; omega)).1) j (by simpa using hj)
    rw [this]
    match j, hj with
    | 0, _ => rfl
    | 1, _ => rfl
    | 2, _ => rfl
    | 3, _ => rfl
    | 4, _ => rfl
    | 5, _ => rfl
    | 6, _ => rfl
    | j + 7, hj => omega
  have hout : ∀ i, (i < k * 7 ∨ k * 7 + 7 ≤ i) → (putK w B k Z).cell? ⟨B, i, none⟩ = w.cell? ⟨B, i, none⟩ := by
    intro i hi
    rw [putK_cells]
    exact World.cell?_setCells_out B _ (k * 7) w ⟨B, i, none⟩ (fun _ _ => by simpa using hi)
  refine ⟨fun i hi => ⟨?_, ?_⟩, fun k' j hk' hj => ?_⟩
  · by_cases hc : i < k * 7 ∨ k * 7 + 7 ≤ i
    · rw [hout i hc]; exact (h.1 i hi).1
    · have := hin (i - k * 7) (by omega)
      rw [show k * 7 + (i - k * 7) = i by omega] at this
      rw [this]; rfl
  · rw [putK_cells, World.frozen?_setCells]; exact (h.1 i hi).2
  · by_cases hc : k' = k
    · subst hc; exact hin j hj
    · rw [hout _ (by omega)]; exact h.2 k' j (by omega) hj
theorem own_row {w : World} {B n : Nat} {Z : Nat → Nat → Int} (h : OwnK w B n Z n) : ∀ k j, k < n → j < 7 → w.cell? ⟨B, 0 + k * 7 + j, none⟩ = some (.int .i64 (Z k j)) := fun k j hk hj => by
  rw [Nat.zero_add]; exact h.2 k j hk hj
theorem row_of_own {w : World} {B n : Nat} {Z : Nat → Nat → Int} (h : OwnK w B n Z n) (hB : B < w.heap.size) : RowK w (some ⟨B, 0, none⟩) n Z := .inr ⟨B, 0, rfl, hB, own_row h⟩

set_option maxRecDepth 100000 in
set_option maxHeartbeats 4000000 in
theorem toList (b o : Nat) (n cap : Nat) (Z : Nat → Nat → Int) (hn : n ≤ 1048576) (w : World) (hb : b < w.heap.size)
    (hr : ∀ k j, k < n → j < 7 → w.cell? ⟨b, o + k * 7 + j, none⟩ = some (.int .i64 (Z k j))) :
    Calls Try.prog 23 #[.slice (some ⟨b, o, none⟩) n cap] w fun e w' => e = .returned (.slice (some ⟨w.heap.size, 0, none⟩) n n) ∧ OwnK w' w.heap.size n Z n ∧ w.heap.size < w'.heap.size ∧ Below w.heap.size w w' := by
  have hmk := makeK n hn
  have HR : Hid (∀ k j, k < n → j < 7 → w.cell? ⟨b, o + k * 7 + j, none⟩ = some (.int .i64 (Z k j))) := hr
  clear hr
  go_enter Try.func23, Try.ntmps23
  go_wp2
  go_loopw [4] (fun i wr => ∃ k : Nat, k ≤ n ∧ i = .int .i64 k ∧ OwnK wr w.heap.size n Z k ∧ w.heap.size < wr.heap.size ∧ Below w.heap.size w wr) (fun i _ => n - (intOf i).toNat)
  case atStart => exact ⟨0, Nat.zero_le _, rfl, ⟨fun i hi => by simp [size_madeCells, hi], fun _ _ h => absurd h (by omega)⟩, by simp, (Below.refl _ _).alloc (by simp) _⟩
  case round =>
    obtain ⟨k, hk, rfl, hown, hsz, hbel⟩ := hrel
    have c0 : k < n → wr.cell? ⟨b, o + k * 7, none⟩ = some (.int .i64 (Z k 0)) := fun h => (hbel.cell (by exact hb)).trans (HR.out k 0 h (by omega))
    have c1 : k < n → wr.cell? ⟨b, o + k * 7 + 1, none⟩ = some (.int .i64 (Z k 1)) := fun h => (hbel.cell (by exact hb)).trans (HR.out k 1 h (by omega))
    have c2 : k < n → wr.cell? ⟨b, o + k * 7 + 2, none⟩ = some (.int .i64 (Z k 2)) := fun h => (hbel.cell (by exact hb)).trans (HR.out k 2 h (by omega))
    have c3 : k < n → wr.cell? ⟨b, o + k * 7 + 3, none⟩ = some (.int .i64 (Z k 3)) := fun h => (hbel.cell (by exact hb)).trans (HR.out k 3 h (by omega))
    have c4 : k < n → wr.cell? ⟨b, o + k * 7 + 4, none⟩ = some (.int .i64 (Z k 4)) := fun h => (hbel.cell (by exact hb)).trans (HR.out k 4 h (by omega))
    have c5 : k < n → wr.cell? ⟨b, o + k * 7 + 5, none⟩ = some (.int .i64 (Z k 5)) := fun h => (hbel.cell (by exact hb)).trans (HR.out k 5 h (by omega))
    have c6 : k < n → wr.cell? ⟨b, o + k * 7 + 6, none⟩ = some (.int .i64 (Z k 6)) := fun h => (hbel.cell (by exact hb)).trans (HR.out k 6 h (by omega))
    clear hmk
    go_wp2_with fail
    · refine (toGhost _ _ _ _ _ _ _ _ ).mono ?_
      rintro e w1 ⟨rfl, hb1⟩
      have hlt : k < n := by assumption
      have hown1 := own_below hown hsz hb1
      have hsz1 : w.heap.size < w1.heap.size := Nat.lt_of_lt_of_le hsz hb1.size
      have hbel1 : Below w.heap.size w w1 := hbel.trans (hb1.mono (Nat.le_of_lt hsz))
      clear hown hb1 hbel c0 c1 c2 c3 c4 c5 c6
      obtain ⟨⟨v0, d0⟩, f0⟩ := own_cell hown1 hlt 0 (by omega)
      obtain ⟨⟨v1, d1⟩, f1⟩ := own_cell hown1 hlt 1 (by omega)
      obtain ⟨⟨v2, d2⟩, f2⟩ := own_cell hown1 hlt 2 (by omega)
      obtain ⟨⟨v3, d3⟩, f3⟩ := own_cell hown1 hlt 3 (by omega)
      obtain ⟨⟨v4, d4⟩, f4⟩ := own_cell hown1 hlt 4 (by omega)
      obtain ⟨⟨v5, d5⟩, f5⟩ := own_cell hown1 hlt 5 (by omega)
      obtain ⟨⟨v6, d6⟩, f6⟩ := own_cell hown1 hlt 6 (by omega)
      simp only [Nat.add_zero] at d0 f0
      go_wp2
      go_roundw
      case rel => exact ⟨k + 1, by omega, by go_num, own_put hown1 hlt, by simpa [World.setCell] using hsz1, (((((((hbel1.setCell (Nat.le_refl _) _).setCell (Nat.le_refl _) _).setCell (Nat.le_refl _) _).setCell (Nat.le_refl _) _).setCell (Nat.le_refl _) _).setCell (Nat.le_refl _) _).setCell (Nat.le_refl _) _)⟩
      case measure => simp [intOf]; omega
    · have : k = n := by omega
      subst this
      go_ret
      exact ⟨rfl, hown, hsz, hbel⟩

theorem toList0 (a : Option Addr) (cap : Nat) (Z : Nat → Nat → Int) (w : World) :
    Calls Try.prog 23 #[.slice a 0 cap] w fun e w' => e = .returned (.slice (some ⟨w.heap.size, 0, none⟩) 0 0) ∧ OwnK w' w.heap.size 0 Z 0 ∧ w.heap.size < w'.heap.size ∧ Below w.heap.size w w' := by
  have hmk : ∀ w : World, (Instr.makeSlice 33 (.int .i64 0) (.int .i64 0)).run Try.prog w = .ok (.slice (some ⟨w.heap.size, 0, none⟩) 0 0) (w.alloc (.cells (madeCells #[.int .i64 0, .int .i64 0, .int .i64 0, .int .i64 0, .int .i64 0, .int .i64 0, .int .i64 0] 0) 78)) := fun w => makeK 0 (by omega) w
  go_enter Try.func23, Try.ntmps23
  go_wp2
  refine wp_loop_rounds 1 ?_
  rw [rounds_succ]
  go_wp2
  go_ret
  exact ⟨rfl, ⟨fun i hi => absurd hi (by omega), fun _ _ h => absurd h (by omega)⟩, by simp, (Below.refl _ _).alloc (by simp) _⟩

theorem toList_any (a : Option Addr) (n cap : Nat) (Z : Nat → Nat → Int) (hn : n ≤ 1048576) (w : World) (h : RowK w a n Z) :
    Calls Try.prog 23 #[.slice a n cap] w fun e w' => e = .returned (.slice (some ⟨w.heap.size, 0, none⟩) n n) ∧ OwnK w' w.heap.size n Z n ∧ w.heap.size < w'.heap.size ∧ Below w.heap.size w w' := by
  rcases h with rfl | ⟨b, o, rfl, hb, hr⟩
  · exact toList0 a cap Z w
  · exact toList b o n cap Z hn w hb hr
theorem row_below {w w' : World} {a : Option Addr} {n : Nat} {Z : Nat → Nat → Int} (h : RowK w a n Z) (hb : Below w.heap.size w w') : RowK w' a n Z := by
  rcases h with rfl | ⟨b, o, rfl, hlt, hr⟩
  · exact .inl rfl
  · exact .inr ⟨b, o, rfl, Nat.lt_of_lt_of_le hlt hb.size, fun k j hk hj => (hb.cell (p := ⟨b, _, none⟩) hlt).trans (hr k j hk hj)⟩

set_option maxRecDepth 100000 in
set_option maxHeartbeats 4000000 in
theorem eqList (a1 : Option Addr) (cap1 : Nat) (a2 : Option Addr) (cap2 n : Nat) (Z : Nat → Nat → Int) (hn : n ≤ 2000000) (w : World) (h1 : RowK w a1 n Z) (h2 : RowK w a2 n Z) :
    Calls Try.prog 28 #[.slice a1 n cap1, .slice a2 n cap2] w fun e w' => e = .returned (.bool true) ∧ Below w.heap.size w w' := by
  have H1 : Hid (RowK w a1 n Z) := h1
  have H2 : Hid (RowK w a2 n Z) := h2
  clear h1 h2
  go_enter Try.func28, Try.ntmps28
  go_wp2
  go_loopw [5] (fun i wr => ∃ k : Nat, k ≤ n ∧ i = .int .i64 k ∧ ((∀ b o, b < w.heap.size → wr.cell? ⟨b, o, none⟩ = w.cell? ⟨b, o, none⟩) ∧ w.heap.size ≤ wr.heap.size) ∧ Below w.heap.size w wr) (fun i _ => n - (intOf i).toNat)
  case atStart => exact ⟨0, Nat.zero_le _, rfl, ⟨fun _ _ _ => rfl, Nat.le_refl _⟩, Below.refl _ _⟩
  case round =>
    obtain ⟨k, hk, rfl, HS, BR⟩ := hrel
    by_cases hkn : k < n
    · obtain ⟨b1, o1, rfl, hb1, hr1⟩ : ∃ b o, a1 = some ⟨b, o, none⟩ ∧ b < w.heap.size ∧ ∀ k j, k < n → j < 7 → w.cell? ⟨b, o + k * 7 + j, none⟩ = some (.int .i64 (Z k j)) := by
        rcases H1.out with h | h
        · omega
        · exact h
      obtain ⟨b2, o2, rfl, hb2, hr2⟩ : ∃ b o, a2 = some ⟨b, o, none⟩ ∧ b < w.heap.size ∧ ∀ k j, k < n → j < 7 → w.cell? ⟨b, o + k * 7 + j, none⟩ = some (.int .i64 (Z k j)) := by
        rcases H2.out with h | h
        · omega
        · exact h
      have c1_0 : w.cell? ⟨b1, o1 + k * 7, none⟩ = some (.int .i64 (Z k 0)) := hr1 k 0 hkn (by omega)
      have c1_1 : w.cell? ⟨b1, o1 + k * 7 + 1, none⟩ = some (.int .i64 (Z k 1)) := hr1 k 1 hkn (by omega)
      have c1_2 : w.cell? ⟨b1, o1 + k * 7 + 2, none⟩ = some (.int .i64 (Z k 2)) := hr1 k 2 hkn (by omega)
      have c1_3 : w.cell? ⟨b1, o1 + k * 7 + 3, none⟩ = some (.int .i64 (Z k 3)) := hr1 k 3 hkn (by omega)
      have c1_4 : w.cell? ⟨b1, o1 + k * 7 + 4, none⟩ = some (.int .i64 (Z k 4)) := hr1 k 4 hkn (by omega)
      have c1_5 : w.cell? ⟨b1, o1 + k * 7 + 5, none⟩ = some (.int .i64 (Z k 5)) := hr1 k 5 hkn (by omega)
      have c1_6 : w.cell? ⟨b1, o1 + k * 7 + 6, none⟩ = some (.int .i64 (Z k 6)) := hr1 k 6 hkn (by omega)
      have c2_0 : w.cell? ⟨b2, o2 + k * 7, none⟩ = some (.int .i64 (Z k 0)) := hr2 k 0 hkn (by omega)
      have c2_1 : w.cell? ⟨b2, o2 + k * 7 + 1, none⟩ = some (.int .i64 (Z k 1)) := hr2 k 1 hkn (by omega)
      have c2_2 : w.cell? ⟨b2, o2 + k * 7 + 2, none⟩ = some (.int .i64 (Z k 2)) := hr2 k 2 hkn (by omega)
      have c2_3 : w.cell? ⟨b2, o2 + k * 7 + 3, none⟩ = some (.int .i64 (Z k 3)) := hr2 k 3 hkn (by omega)
      have c2_4 : w.cell? ⟨b2, o2 + k * 7 + 4, none⟩ = some (.int .i64 (Z k 4)) := hr2 k 4 hkn (by omega)
      have c2_5 : w.cell? ⟨b2, o2 + k * 7 + 5, none⟩ = some (.int .i64 (Z k 5)) := hr2 k 5 hkn (by omega)
      have c2_6 : w.cell? ⟨b2, o2 + k * 7 + 6, none⟩ = some (.int .i64 (Z k 6)) := hr2 k 6 hkn (by omega)
      clear hr1 hr2
      go_wp2
      refine wp_region_held_drew (S := fun w' => (∀ b o, b < w.heap.size → w'.cell? ⟨b, o, none⟩ = w.cell? ⟨b, o, none⟩) ∧ w.heap.size ≤ w'.heap.size) (by kernel_rfl) HS ?_
      intro hHeld
      refine wpAnyH_take (i := 0) (v := .slice (some ⟨b1, o1, none⟩) n cap1) rfl (by kernel_rfl) (by kernel_rfl) (by kernel_rfl) (fun _ _ _ h => h) (Or.inl ⟨by rfl, ?_⟩) (by assumption) ?_
      · intro wx hSw; go_simp
      try simp only [Act.put, List.setIfInBounds_toArray, List.set_cons_zero, List.set_cons_succ, List.getElem_toArray, List.getElem_cons_zero]
      refine wpAnyH_take (i := 1) (v := .int .i64 (k : Int)) rfl (by kernel_rfl) (by kernel_rfl) (by kernel_rfl) (fun _ _ _ h => h) (Or.inl ⟨by rfl, ?_⟩) (by assumption) ?_
      · intro wx hSw; go_simp
      try simp only [Act.put, List.setIfInBounds_toArray, List.set_cons_zero, List.set_cons_succ, List.getElem_toArray, List.getElem_cons_zero, List.getElem_cons_succ]
      refine wpAnyH_take (i := 2) (v := .pointer (some ⟨b1, o1 + k * 7, none⟩)) rfl (by kernel_rfl) (by kernel_rfl) (by kernel_rfl) (fun _ _ _ h => h) (Or.inl ⟨by rfl, ?_⟩) (by assumption) ?_
      · intro wx hSw; go_simp
      try simp only [Act.put, List.setIfInBounds_toArray, List.set_cons_zero, List.set_cons_succ, List.getElem_toArray, List.getElem_cons_zero, List.getElem_cons_succ]
      refine wpAnyH_take (i := 3) (v := .agg #[.int .i64 (Z k 0), .int .i64 (Z k 1), .int .i64 (Z k 2), .int .i64 (Z k 3), .int .i64 (Z k 4), .int .i64 (Z k 5), .int .i64 (Z k 6)]) rfl (by kernel_rfl) (by kernel_rfl) (by kernel_rfl) (fun _ _ _ h => h) (Or.inl ⟨by rfl, ?_⟩) (by assumption) ?_
      · intro wx hSw; go_simp
      try simp only [Act.put, List.setIfInBounds_toArray, List.set_cons_zero, List.set_cons_succ, List.getElem_toArray, List.getElem_cons_zero, List.getElem_cons_succ]
      refine wpAnyH_take (i := 4) (v := .slice (some ⟨b2, o2, none⟩) n cap2) rfl (by kernel_rfl) (by kernel_rfl) (by kernel_rfl) (fun _ _ _ h => h) (Or.inl ⟨by rfl, ?_⟩) (by assumption) ?_
      · intro wx hSw; go_simp
      try simp only [Act.put, List.setIfInBounds_toArray, List.set_cons_zero, List.set_cons_succ, List.getElem_toArray, List.getElem_cons_zero, List.getElem_cons_succ]
      refine wpAnyH_take (i := 5) (v := .int .i64 (k : Int)) rfl (by kernel_rfl) (by kernel_rfl) (by kernel_rfl) (fun _ _ _ h => h) (Or.inl ⟨by rfl, ?_⟩) (by assumption) ?_
      · intro wx hSw; go_simp
      try simp only [Act.put, List.setIfInBounds_toArray, List.set_cons_zero, List.set_cons_succ, List.getElem_toArray, List.getElem_cons_zero, List.getElem_cons_succ]
      refine wpAnyH_take (i := 6) (v := .pointer (some ⟨b2, o2 + k * 7, none⟩)) rfl (by kernel_rfl) (by kernel_rfl) (by kernel_rfl) (fun _ _ _ h => h) (Or.inl ⟨by rfl, ?_⟩) (by assumption) ?_
      · intro wx hSw; go_simp
      try simp only [Act.put, List.setIfInBounds_toArray, List.set_cons_zero, List.set_cons_succ, List.getElem_toArray, List.getElem_cons_zero, List.getElem_cons_succ]
      refine wpAnyH_take (i := 7) (v := .agg #[.int .i64 (Z k 0), .int .i64 (Z k 1), .int .i64 (Z k 2), .int .i64 (Z k 3), .int .i64 (Z k 4), .int .i64 (Z k 5), .int .i64 (Z k 6)]) rfl (by kernel_rfl) (by kernel_rfl) (by kernel_rfl) (fun _ _ _ h => h) (Or.inl ⟨by rfl, ?_⟩) (by assumption) ?_
      · intro wx hSw; go_simp
      try simp only [Act.put, List.setIfInBounds_toArray, List.set_cons_zero, List.set_cons_succ, List.getElem_toArray, List.getElem_cons_zero, List.getElem_cons_succ]
      refine wpAnyH_ready (rs := [8]) (by kernel_rfl) (by simp) ?_
      refine AllReadyH.cons rfl (fun K hK => ?_) AllReadyH.nil
      go_simp
      go_wp2_with (go_at_call 49; refine (eqElem _ _ _ _ _ _ _ _ ).mono ?_; rintro e w2 ⟨rfl, hbw2⟩)
      refine hK.out _ _ (keepS (by assumption) hbw2) (fun hHeld => ?_)
      clear hK K
      try simp only [Act.put, List.setIfInBounds_toArray, List.set_cons_zero, List.set_cons_succ, List.getElem_toArray, List.getElem_cons_zero, List.getElem_cons_succ]
      refine wpAnyH_take (i := 9) (v := .bool false) rfl (by kernel_rfl) (by kernel_rfl) (by kernel_rfl) (fun _ _ _ h => h) (Or.inl ⟨by rfl, ?_⟩) (by assumption) ?_
      · intro wx hSw; go_simp
      try simp only [Act.put, List.setIfInBounds_toArray, List.set_cons_zero, List.set_cons_succ, List.getElem_toArray, List.getElem_cons_zero, List.getElem_cons_succ]
      refine wpAnyH_done (by kernel_rfl) ?_ _
      go_wp2
      go_roundw
      case rel => exact ⟨k + 1, by omega, by go_num, by assumption, by repeat (first | exact BR | refine bthen ?_ (by assumption) | apply Below.drew)⟩
      case measure => simp [intOf]; omega
    · have : k = n := by omega
      subst this
      go_wp2
      go_ret
      exact ⟨rfl, by repeat (first | exact BR | refine bthen ?_ (by assumption) | apply Below.drew)⟩
end Go.Proofs.Ytlbjgecjonegkaa.P7
