/- Lists of integers: how they lie, how they are copied, compared and marked, as the laws do it; conditions: the lists lie in memory. -/
import Derived.Test.YtoickljpjlhkoaaBase
import Derived.Test.YtoickljpjlhkoaaWalks4
import Derived.Test.YtoickljpjlhkoaaWalks1
import Derived.LoopTactic
import Derived.Deep.Slices
import Derived.Deep.OwnRows
import Derived.Laws.IdiomCopy
import Derived.Deep.QuietTactic
import Derived.BigQuiet
import Derived.Laws.AppendOwn
namespace Go.Proofs.Ytoickljpjlhkoaa
open Go.RowKit Go.ChangeShapes Go.WideShapes Go.ChangeAt Go.Deep
set_option linter.unusedVariables false

variable {H : Type} {enc : TypeId × Value → H} {P : Program} {w : World} {base : Nat} {spare : Nat → Bool} {held : Bool}

/-- In w there lie n integers, from a on: the k-th one is X k. -/
def Row1 (w : World) (a : Option Addr) (n : Nat) (X : Nat → Int) : Prop :=
  n = 0 ∨ ∃ b o, a = some ⟨b, o, none⟩ ∧ b < w.heap.size ∧ ∀ k, k < n → w.cell? ⟨b, o + k, none⟩ = some (.int .i64 (X k))

theorem row1_below {w w' : World} {a : Option Addr} {n : Nat} {X : Nat → Int} (h : Row1 w a n X) (hb : Below w.heap.size w w') : Row1 w' a n X := by
  rcases h with rfl | ⟨b, o, rfl, hlt, hr⟩
  · exact .inl rfl
  · exact .inr ⟨b, o, rfl, Nat.lt_of_lt_of_le hlt hb.size, fun k hk => (hb.cell (p := ⟨b, _, none⟩) hlt).trans (hr k hk)⟩

theorem open_row1 {t e : TypeId} {fuel : Nat} {cs : List Value} {x : DataW H × List MemPlace} (ht : P.underlying t = some (.slice e)) (hi : P.underlying e = some (.int .i64)) (h1 : P.cellsOf e = 1)
    (h : DataW.trod enc P w base spare held fuel t cs = some x) : ∃ a len cap X, cs = [.slice a len cap] ∧ len ≤ maxLen ∧ Row1 w a len X := by
  rcases open_slice1 ht h1 h with ⟨hcs, _⟩ | ⟨x, l, c, m, n, V, D, Pl, hcs, _, hl, hm, hmm, _, hel⟩
  · exact ⟨none, 0, 0, fun _ => 0, hcs, Nat.zero_le _, .inl rfl⟩
  · by_cases h0 : l = 0
    · subst h0
      exact ⟨some x, 0, c, fun _ => 0, hcs, Nat.zero_le _, .inl rfl⟩
    have hlm : l ≤ m := by rw [hmm]; split <;> omega
    obtain ⟨b, o, rfl, hb⟩ := spot_none (hel 0 (by omega)).1
    refine ⟨_, l, c, fun k => match V k with | .int _ z => z | _ => 0, hcs, Nat.le_trans hl hm, .inr ⟨b, o, rfl, hb, fun k hk => ?_⟩⟩
    obtain ⟨hc, htr⟩ := hel k (by omega)
    obtain ⟨z, hz, _, _⟩ := DataW.trod_int hi htr
    rw [add_none] at hc
    have hv : V k = .int .i64 z := by simpa using hz
    rw [hc]
    simp [hv]

theorem szInts (a : Option Addr) (n cap : Nat) (left : Int) (h0 : 0 ≤ left) (h1 : left ≤ 1048576) (hn : (n : Int) ≤ 9223372036854775807) (w : World) :
    Calls Try.prog 21 #[.slice a n cap, .int .i64 left] w fun e w' => e = .returned (.int .i64 (if (n : Int) ≤ left then left - n else -1)) ∧ Below w.heap.size w w' := by
  by_cases h : (n : Int) ≤ left
  · go_enter Try.func21, Try.ntmps21
    go_wp2
    all_goals (go_ret; exact ⟨by simp <;> omega, Below.refl _ _⟩)
  · go_enter Try.func21, Try.ntmps21
    go_wp2
    all_goals (go_ret; exact ⟨by simp <;> omega, Below.refl _ _⟩)

/-- Block B of w is a row of n integers of the call's own, of which the first k are X's. -/
def Own1 (w : World) (B n : Nat) (X : Nat → Int) (k : Nat) : Prop :=
  (∀ i, i < n → (w.cell? ⟨B, i, none⟩).isSome = true ∧ w.frozen? ⟨B, i, none⟩ = false) ∧ ∀ j, j < k → w.cell? ⟨B, j, none⟩ = some (.int .i64 (X j))

theorem own1_next {w : World} {B n k : Nat} {X : Nat → Int} (h : Own1 w B n X k) (hk : k < n) : Own1 (w.setCell ⟨B, k, none⟩ (.int .i64 (X k))) B n X (k + 1) := by
  refine ⟨fun i hi => ⟨?_, ?_⟩, fun j hj => ?_⟩
  · by_cases hc : k = i
    · subst hc; rw [set_in (h.1 k hk).1]; rfl
    · rw [set_out (fun e => hc e.2)]; exact (h.1 i hi).1
  · rw [set_frozen]; exact (h.1 i hi).2
  · by_cases hc : k = j
    · subst hc; exact set_in (h.1 k hk).1
    · rw [set_out (fun e => hc e.2)]; exact h.2 j (by omega)

theorem own1_below {w w' : World} {B n k : Nat} {X : Nat → Int} (h : Own1 w B n X k) (hB : B < w.heap.size) (hb : Below w.heap.size w w') : Own1 w' B n X k :=
  ⟨fun i hi => by rw [hb.cell (p := ⟨B, i, none⟩) hB, hb.frozen (p := ⟨B, i, none⟩) hB]; exact h.1 i hi, fun j hj => by rw [hb.cell (p := ⟨B, j, none⟩) hB]; exact h.2 j hj⟩

theorem own1_set {w : World} {B g n k j : Nat} {X : Nat → Int} {u : Value} (h : Own1 w g n X k) (hne : ¬ B = g) : Own1 (w.setCell ⟨B, j, none⟩ u) g n X k :=
  ⟨fun i hi => by rw [set_out (fun e => hne e.1), set_frozen]; exact h.1 i hi, fun k' hk => by rw [set_out (fun e => hne e.1)]; exact h.2 k' hk⟩

theorem Try.info3 : (Try.prog.info? 3).map (fun i => (i.zero, i.size, i.bytes)) = some (some (.int .i64 0), 1, 8) := by kernel_rfl

theorem make1 (n : Nat) (hn : n ≤ 1048576) (w : World) :
    (Instr.makeSlice 25 (.int .i64 (n : Int)) (.int .i64 (n : Int))).run Try.prog w = .ok (.slice (some ⟨w.heap.size, 0, none⟩) n n) (w.alloc (.cells (madeCells #[.int .i64 0] (n * 1)) 3)) := by
  obtain ⟨i, hi, hzz⟩ := Option.map_eq_some_iff.1 Try.info3
  simp only [Prod.mk.injEq] at hzz
  obtain ⟨hz, hs, hb⟩ := hzz
  have := run_make (P := Try.prog) w 25 3 i _ Try.underlying25 hi hz .i64 .i64 n n (by omega) (by omega) (by rw [hb]; omega) (by omega)
  rw [this, hs]
  rfl

set_option maxHeartbeats 1000000 in
theorem toInts (a : Option Addr) (n cap : Nat) (X : Nat → Int) (hn : n ≤ 1048576) (w : World) (h : Row1 w a n X) :
    Calls Try.prog 28 #[.slice a n cap] w fun e w' => e = .returned (.slice (some ⟨w.heap.size, 0, none⟩) n n) ∧ Own1 w' w.heap.size n X n ∧ w.heap.size < w'.heap.size ∧ Below w.heap.size w w' := by
  have hmk := make1 n hn
  have HR : Hid (Row1 w a n X) := h
  clear h
  go_enter Try.func28, Try.ntmps28
  go_wp2
  go_loopw [4] (fun i wr => ∃ k : Nat, k ≤ n ∧ i = .int .i64 k ∧ Own1 wr w.heap.size n X k ∧ w.heap.size < wr.heap.size ∧ Below w.heap.size w wr) (fun i _ => n - (intOf i).toNat)
  case atStart => exact ⟨0, Nat.zero_le _, rfl, ⟨fun i hi => by simp [size_madeCells, hi], fun _ h => absurd h (by omega)⟩, by simp, (Below.refl _ _).alloc (by simp) _⟩
  case round =>
    clear hmk
    obtain ⟨k, hk, rfl, hown, hsz, hbel⟩ := hrel
    by_cases hkn : k < n
    · have hkn' : (k : Int) < n := by omega
      obtain ⟨b, o, rfl, hb, hrow⟩ : ∃ b o, a = some ⟨b, o, none⟩ ∧ b < w.heap.size ∧ ∀ k, k < n → w.cell? ⟨b, o + k, none⟩ = some (.int .i64 (X k)) := by
        rcases HR.out with h | h
        · omega
        · exact h
      have hc : wr.cell? ⟨b, o + k, none⟩ = some (.int .i64 (X k)) := (hbel.cell (p := ⟨b, o + k, none⟩) hb).trans (hrow k hkn)
      clear hrow
      obtain ⟨d0, f0⟩ := hown.1 k hkn
      obtain ⟨v0, d0⟩ := Option.isSome_iff_exists.1 d0
      go_wp2
      go_roundw
      case rel => exact ⟨k + 1, by omega, by go_num, own1_next hown hkn, by simpa [World.setCell] using hsz, hbel.setCell (Nat.le_refl _) _⟩
      case measure => simp [intOf]; omega
    · have : k = n := by omega
      subst this
      go_wp2
      go_ret
      exact ⟨rfl, hown, hsz, hbel⟩

theorem row1_of_own {w : World} {B n : Nat} {X : Nat → Int} (h : Own1 w B n X n) (hB : B < w.heap.size) : Row1 w (some ⟨B, 0, none⟩) n X :=
  .inr ⟨B, 0, rfl, hB, fun k hk => by rw [Nat.zero_add]; exact h.2 k hk⟩

set_option maxHeartbeats 1000000 in
theorem eqInts (a1 a2 : Option Addr) (n c1 c2 : Nat) (X : Nat → Int) (hn : n ≤ 2000000) (w : World) (h1 : Row1 w a1 n X) (h2 : Row1 w a2 n X) :
    Calls Try.prog 37 #[.slice a1 n c1, .slice a2 n c2] w fun e w' => e = .returned (.bool true) ∧ Below w.heap.size w w' := by
  have H1 : Hid (Row1 w a1 n X) := h1
  have H2 : Hid (Row1 w a2 n X) := h2
  clear h1 h2
  go_enter Try.func37, Try.ntmps37
  go_wp2
  go_loopw [5] (fun i wr => ∃ k : Nat, k ≤ n ∧ i = .int .i64 k ∧ Below w.heap.size w wr) (fun i _ => n - (intOf i).toNat)
  case atStart => exact ⟨0, Nat.zero_le _, rfl, Below.refl _ _⟩
  case round =>
    obtain ⟨k, hk, rfl, hbel⟩ := hrel
    by_cases hkn : k < n
    · have hkn' : (k : Int) < n := by omega
      obtain ⟨b1, o1, rfl, hb1, hr1⟩ : ∃ b o, a1 = some ⟨b, o, none⟩ ∧ b < w.heap.size ∧ ∀ k, k < n → w.cell? ⟨b, o + k, none⟩ = some (.int .i64 (X k)) := by
        rcases H1.out with h | h
        · omega
        · exact h
      obtain ⟨b2, o2, rfl, hb2, hr2⟩ : ∃ b o, a2 = some ⟨b, o, none⟩ ∧ b < w.heap.size ∧ ∀ k, k < n → w.cell? ⟨b, o + k, none⟩ = some (.int .i64 (X k)) := by
        rcases H2.out with h | h
        · omega
        · exact h
      have d1 : wr.cell? ⟨b1, o1 + k, none⟩ = some (.int .i64 (X k)) := (hbel.cell (p := ⟨b1, o1 + k, none⟩) hb1).trans (hr1 k hkn)
      have d2 : wr.cell? ⟨b2, o2 + k, none⟩ = some (.int .i64 (X k)) := (hbel.cell (p := ⟨b2, o2 + k, none⟩) hb2).trans (hr2 k hkn)
      clear hr1 hr2
      go_wp2
      go_region
      go_wp2
      go_roundw
      case rel => exact ⟨k + 1, by omega, by go_num, by repeat (first | exact hbel | apply Below.drew | apply bdrewN)⟩
      case measure => simp [intOf]; omega
    · have : k = n := by omega
      subst this
      go_wp2
      go_ret
      exact ⟨rfl, hbel⟩

def M1 (s k : Nat) : Int := ((s + k : Nat) : Int)

theorem own1_sm {w w' : World} {B n k : Nat} {X : Nat → Int} (h : Own1 w B n X k) (hs : Sm w w' B) : Own1 w' B n X k :=
  ⟨fun i hi => by rw [(hs i).1, (hs i).2]; exact h.1 i hi, fun k' hk => by rw [(hs _).1]; exact h.2 k' hk⟩

def RI (lo hi : Nat) (w : World) (v : Value) (n : Nat) (X : Nat → Int) (g : Nat) : Prop :=
  (n = 0 ∧ ∃ a c, v = .slice a 0 c) ∨ ∃ c, v = .slice (some ⟨g, 0, none⟩) n c ∧ lo ≤ g ∧ g < hi ∧ hi ≤ w.heap.size ∧ Own1 w g n X n

theorem RI.sm {lo hi : Nat} {w w' : World} {v : Value} {n : Nat} {X : Nat → Int} {g : Nat} (h : RI lo hi w v n X g) (hs : w.heap.size ≤ w'.heap.size) (k : lo ≤ g → g < hi → Sm w w' g) : RI lo hi w' v n X g := by
  rcases h with h | ⟨c, h1, h2, h3, h4, h5⟩
  · exact .inl h
  · exact .inr ⟨c, h1, h2, h3, Nat.le_trans h4 hs, own1_sm h5 (k h2 h3)⟩

def one1 (X : Nat → Int) (k : Nat) : List Value := [.int .i64 (X k)]

/-- Two rows after each other read so. -/
theorem flat_get {m : Nat} (f : Nat → List Value) (hf : ∀ k, (f k).length = m) (hm : 0 < m) : ∀ n i, i < n * m → ((List.range n).flatMap f)[i]? = (f (i / m))[i % m]?
  | 0, i, h => by omega
  | n + 1, i, h => by
    rw [List.range_succ, List.flatMap_append]
    have hl : ((List.range n).flatMap f).length = n * m := by
      clear h
      induction n with
      | zero => simp
      | succ n ih => rw [List.range_succ, List.flatMap_append, List.length_append, ih]; simp [hf, Nat.succ_mul]
    by_cases hi : i < n * m
    · rw [List.getElem?_append_left (by omega)]
      exact flat_get f hf hm n i hi
    · rw [List.getElem?_append_right (by omega), hl]
      have h1 : i / m = n := Nat.div_eq_of_lt_le (by omega) (by omega)
      have h2 : i % m = i - n * m := by
        have := Nat.div_add_mod i m
        rw [h1, Nat.mul_comm] at this
        omega
      rw [h1, h2]
      simp

theorem ri_of_own {w : World} {base n : Nat} {v : Value} {X : Nat → Int} (h : w.ownsRow base 3 1 v n ((List.range n).flatMap (one1 X))) : ∃ g, RI base w.heap.size w v n X g ∧ (v.ownBlock = none ∨ v.ownBlock = some g) := by
  rcases h.2 with ⟨e, hl⟩ | ⟨g, cap, cur, hv, _⟩
  · subst e; subst hl
    exact ⟨0, .inl ⟨rfl, none, 0, rfl⟩, .inl rfl⟩
  · have ho : w.ownsRow base 3 1 (.slice (some ⟨g, 0, none⟩) n cap) n ((List.range n).flatMap (one1 X)) := by rw [← hv]; exact h
    refine ⟨g, .inr ⟨cap, hv, (ho.lt g rfl).1, (ho.lt g rfl).2, Nat.le_refl _, fun i hi => ⟨?_, ho.frozenAt i⟩, fun k hk => ?_⟩, .inr (by rw [hv]; rfl)⟩
    · rw [ho.cellAt i (by omega)]
      have : i < ((List.range n).flatMap (one1 X)).length := by rw [ho.1]; omega
      rw [List.getElem?_eq_getElem this]
      rfl
    · skip
      rw [ho.cellAt k (by omega), flat_get (m := 1) (one1 X) (fun _ => rfl) (by decide) n k (by omega), Nat.div_one, Nat.mod_one]
      rfl

theorem one11_len (n : Nat) (X : Nat → Int) : ((List.range n).flatMap (one1 X)).length = n * 1 := by
  induction n with
  | zero => simp
  | succ n ih => rw [List.range_succ, List.flatMap_append, List.length_append, ih]; simp [one1, Nat.succ_mul]

theorem one11_cells {w : World} {b o n : Nat} {X : Nat → Int} (hr : ∀ k, k < n → w.cell? ⟨b, o + k, none⟩ = some (.int .i64 (X k))) : ∀ j u, ((List.range n).flatMap (one1 X))[j]? = some u → w.cell? ((⟨b, o, none⟩ : Addr).add j) = some u := by
  intro j u hj
  have hlt : j < n * 1 := by
    have := (List.getElem?_eq_some_iff.1 hj).1
    rw [one11_len] at this; exact this
  rw [flat_get (m := 1) (one1 X) (fun _ => rfl) (by decide) n j hlt, Nat.div_one, Nat.mod_one] at hj
  rw [add_none, hr j (by omega), ← hj]
  rfl

theorem one11_one (n : Nat) (X : Nat → Int) : ∀ u ∈ (List.range n).flatMap (one1 X), u.oneCell' = true := by
  intro u hu
  obtain ⟨k, _, hk⟩ := List.mem_flatMap.1 hu
  simp [one1] at hk
  subst hk; rfl

end Go.Proofs.Ytoickljpjlhkoaa
