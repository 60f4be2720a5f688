/- What is from a number on, of parcels that are ok; comparing lists, nil or not; conditions: those typed. -/
import Derived.Test.YtkobiniogigloaaPls
import Derived.Test.YtkobiniogigloaaPList2
namespace Go.Proofs.Ytkobiniogigloaa
open Go.RowKit Go.Deep
set_option linter.unusedVariables false

/-- A slice of n parcels Z, nil or not. -/
def Ro8 (w : World) (v : Value) (n : Nat) (Z : Nat → Nat → Int) : Prop :=
  (n = 0 ∧ ∃ a c, v = .slice a 0 c) ∨ ∃ b o c, v = .slice (some ⟨b, o, none⟩) n c ∧ b < w.heap.size ∧ ∀ k j, k < n → j < 8 → w.cell? ⟨b, o + k * 8 + j, none⟩ = some (.int .i64 (Z k j))
theorem Ro8.same {w : World} {v : Value} {n : Nat} {Z Z' : Nat → Nat → Int} (h : Ro8 w v n Z) (e : ∀ k j, k < n → j < 8 → Z k j = Z' k j) : Ro8 w v n Z' := by
  rcases h with h | ⟨b, o, c, hv, hb, hc⟩
  · exact .inl h
  · exact .inr ⟨b, o, c, hv, hb, fun k j hk hj => by rw [← e k j hk hj]; exact hc k j hk hj⟩
theorem Ro8.below {w w' : World} {v : Value} {n : Nat} {Z : Nat → Nat → Int} (h : Ro8 w v n Z) (hb' : Below w.heap.size w w') : Ro8 w' v n Z := by
  rcases h with h | ⟨b, o, c, hv, hb, hc⟩
  · exact .inl h
  · exact .inr ⟨b, o, c, hv, Nat.lt_of_lt_of_le hb hb'.size, fun k j hk hj => (hb'.cell (p := ⟨b, o + k * 8 + j, none⟩) hb).trans (hc k j hk hj)⟩
theorem Walks.ro {w : World} {base : Nat} {v : Value} {L : List Nat} {Z : Nat → Nat → Int} (h : Walks w base v L Z) : Ro8 w v L.length (fun k j => Z L[k]! j) := by
  rcases h.own with h | ⟨g, cap, hv, _, hl, ho⟩
  · exact .inl h
  · exact .inr ⟨g, 0, cap, hv, hl, fun k j hk hj => by rw [Nat.zero_add]; exact ho.2 k j hk hj⟩
theorem Ro8.form {w : World} {v : Value} {n : Nat} {Z : Nat → Nat → Int} (h : Ro8 w v n Z) : ∃ a c, v = .slice a n c := by
  rcases h with ⟨rfl, h⟩ | ⟨b, o, c, hv, _⟩
  · exact h
  · exact ⟨_, _, hv⟩

theorem filt (s : Nat) : ∀ n, (List.range n).filter (fun j => decide (s ≤ j)) = (List.range (n - s)).map (· + s)
  | 0 => by simp
  | n + 1 => by
    rw [List.range_succ, List.filter_append, filt s n]
    by_cases h : s ≤ n
    · rw [show n + 1 - s = (n - s) + 1 by omega, List.range_succ, List.map_append]
      simp [h]
    · rw [show n + 1 - s = 0 by omega, show n - s = 0 by omega]
      simp [h]
/-- From the number z on: an end of the parcels, if their numbers go on up to next. -/
theorem rest_end {Z : Nat → Nat → Int} {n : Nat} {next z : Int} (h : ∀ k, k < n → Z k 0 = next - n + k) {s : Nat} (hs : s ≤ n) (h1 : ∀ k : Nat, k < n → (z ≤ next - n + k ↔ s ≤ k)) : rest Z n z = (List.range (n - s)).map (· + s) := by
  rw [← filt s n]
  unfold rest
  apply List.filter_congr
  intro k hk
  have hk' := List.mem_range.1 hk
  rw [h k hk']
  exact decide_eq_decide.2 (h1 k hk')
theorem end_len (n s : Nat) : ((List.range (n - s)).map (· + s)).length = n - s := by simp
theorem end_at {n s k : Nat} (h : k < n - s) : ((List.range (n - s)).map (· + s))[k]! = k + s := by
  rw [getElem!_pos _ k (by simpa using h)]; simp
theorem allP_iff {c d next : Int} {m : Nat} {Z : Nat → Nat → Int} : ∀ n, allP c d next m Z n = true ↔ ∀ k, k < n → goodP c d next m Z k = true
  | 0 => by simp [allP]
  | n + 1 => by
    simp only [allP, Bool.and_eq_true]
    rw [allP_iff n]
    constructor
    · intro h k hk
      by_cases e : k = n
      · subst e; exact h.2
      · exact h.1 k (by omega)
    · intro h
      exact ⟨fun k hk => h k (by omega), h n (by omega)⟩
theorem listP_end {c d next : Int} {n s : Nat} {Z : Nat → Nat → Int} (h : listP c d next n Z = true) (hs : s ≤ n) : listP c d next (n - s) (fun k j => Z (k + s) j) = true := by
  simp only [listP, Bool.and_eq_true, decide_eq_true_eq] at h ⊢
  refine ⟨h.1, h.2.1, by omega, (allP_iff _).2 fun k hk => ?_⟩
  have g := (allP_iff n).1 h.2.2.2 (k + s) (by omega)
  simp only [goodP, Bool.and_eq_true, beq_iff_eq] at g ⊢
  exact ⟨g.1, by rw [g.2]; omega⟩
theorem listP_num {c d next : Int} {n : Nat} {Z : Nat → Nat → Int} (h : listP c d next n Z = true) : (0 ≤ next ∧ next ≤ 5000) ∧ (n : Int) ≤ next ∧ ∀ k, k < n → Z k 0 = next - n + k := by
  simp only [listP, Bool.and_eq_true, decide_eq_true_eq] at h
  refine ⟨by simpa [inB] using h.2.1, h.2.2.1, fun k hk => ?_⟩
  have g := (allP_iff n).1 h.2.2.2 k hk
  simp only [goodP, Bool.and_eq_true, beq_iff_eq] at g
  exact g.2

set_option maxRecDepth 20000 in
set_option maxHeartbeats 2000000 in
theorem ma_list (g1 o1 c1 g2 o2 c2 n : Nat) (Z : Nat → Nat → Int) (hn : n ≤ 1000) (w : World) (l1 : g1 < w.heap.size) (l2 : g2 < w.heap.size)
    (h1 : ∀ k j, k < n → j < 8 → w.cell? ⟨g1, o1 + k * 8 + j, none⟩ = some (.int .i64 (Z k j))) (h2 : ∀ k j, k < n → j < 8 → w.cell? ⟨g2, o2 + k * 8 + j, none⟩ = some (.int .i64 (Z k j))) :
    Calls Try.prog 9 #[.slice (some ⟨g1, o1, none⟩) n c1, .slice (some ⟨g2, o2, none⟩) n c2] w fun e w' => e = .returned (.bool true) ∧ Below w.heap.size w w' := by
  have H1 : Hid (∀ k j, k < n → j < 8 → w.cell? ⟨g1, o1 + k * 8 + j, none⟩ = some (.int .i64 (Z k j))) := h1
  have H2 : Hid (∀ k j, k < n → j < 8 → w.cell? ⟨g2, o2 + k * 8 + j, none⟩ = some (.int .i64 (Z k j))) := h2
  clear h1 h2
  go_enter Try.func9, Try.ntmps9
  go_wp2
  go_loopw [5] (fun i wr => ∃ k q : Nat, k ≤ n ∧ .int .i64 k = i ∧ wr = w.drewN q) (fun i _ => n - (intOf i).toNat)
  case atStart => exact ⟨0, 0, Nat.zero_le _, rfl, rfl⟩
  case round =>
    obtain ⟨k, q, hk, rfl, rfl⟩ := hrel
    by_cases hkn : k < n
    · have hkn' : (k : Int) < (n : Int) := by omega
      have a0 : w.cell? ⟨g1, o1 + k * 8, none⟩ = some (.int .i64 (Z k 0)) := H1.out k 0 hkn (by omega)
      have a1 : w.cell? ⟨g1, o1 + k * 8 + 1, none⟩ = some (.int .i64 (Z k 1)) := H1.out k 1 hkn (by omega)
      have a2 : w.cell? ⟨g1, o1 + k * 8 + 2, none⟩ = some (.int .i64 (Z k 2)) := H1.out k 2 hkn (by omega)
      have a3 : w.cell? ⟨g1, o1 + k * 8 + 3, none⟩ = some (.int .i64 (Z k 3)) := H1.out k 3 hkn (by omega)
      have a4 : w.cell? ⟨g1, o1 + k * 8 + 4, none⟩ = some (.int .i64 (Z k 4)) := H1.out k 4 hkn (by omega)
      have a5 : w.cell? ⟨g1, o1 + k * 8 + 5, none⟩ = some (.int .i64 (Z k 5)) := H1.out k 5 hkn (by omega)
      have a6 : w.cell? ⟨g1, o1 + k * 8 + 6, none⟩ = some (.int .i64 (Z k 6)) := H1.out k 6 hkn (by omega)
      have a7 : w.cell? ⟨g1, o1 + k * 8 + 7, none⟩ = some (.int .i64 (Z k 7)) := H1.out k 7 hkn (by omega)
      have b0 : w.cell? ⟨g2, o2 + k * 8, none⟩ = some (.int .i64 (Z k 0)) := H2.out k 0 hkn (by omega)
      have b1 : w.cell? ⟨g2, o2 + k * 8 + 1, none⟩ = some (.int .i64 (Z k 1)) := H2.out k 1 hkn (by omega)
      have b2 : w.cell? ⟨g2, o2 + k * 8 + 2, none⟩ = some (.int .i64 (Z k 2)) := H2.out k 2 hkn (by omega)
      have b3 : w.cell? ⟨g2, o2 + k * 8 + 3, none⟩ = some (.int .i64 (Z k 3)) := H2.out k 3 hkn (by omega)
      have b4 : w.cell? ⟨g2, o2 + k * 8 + 4, none⟩ = some (.int .i64 (Z k 4)) := H2.out k 4 hkn (by omega)
      have b5 : w.cell? ⟨g2, o2 + k * 8 + 5, none⟩ = some (.int .i64 (Z k 5)) := H2.out k 5 hkn (by omega)
      have b6 : w.cell? ⟨g2, o2 + k * 8 + 6, none⟩ = some (.int .i64 (Z k 6)) := H2.out k 6 hkn (by omega)
      have b7 : w.cell? ⟨g2, o2 + k * 8 + 7, none⟩ = some (.int .i64 (Z k 7)) := H2.out k 7 hkn (by omega)
      go_wp2_with fail
      go_quiet (fail)
      go_wp2
      go_roundw
      case rel => exact ⟨k + 1, q + nq, by omega, by go_num, by simp [World.drewN]⟩
      case measure => simp [intOf]; omega
    · have hkn' : k = n := by omega
      subst hkn'
      go_wp2
      go_ret
      exact ⟨rfl, bdrewN (Below.refl _ _) q⟩
theorem ma_nil (a1 a2 : Option Addr) (c1 c2 : Nat) (w : World) : Calls Try.prog 9 #[.slice a1 0 c1, .slice a2 0 c2] w fun e w' => e = .returned (.bool true) ∧ Below w.heap.size w w' := by
  go_enter Try.func9, Try.ntmps9
  go_wp2
  go_loopw [5] (fun i wr => .int .i64 0 = i ∧ wr = w) (fun i _ => 0)
  case atStart => exact ⟨rfl, rfl⟩
  case round =>
    obtain ⟨rfl, rfl⟩ := hrel
    go_wp2
    go_ret
    exact ⟨rfl, Below.refl _ _⟩
theorem ma8 {w : World} {v1 v2 : Value} {n : Nat} {Z : Nat → Nat → Int} (h1 : Ro8 w v1 n Z) (h2 : Ro8 w v2 n Z) (hn : n ≤ 1000) : Calls Try.prog 9 #[v1, v2] w fun e w' => e = .returned (.bool true) ∧ Below w.heap.size w w' := by
  by_cases h0 : n = 0
  · subst h0
    obtain ⟨a1, c1, rfl⟩ := h1.form
    obtain ⟨a2, c2, rfl⟩ := h2.form
    exact ma_nil a1 a2 c1 c2 w
  · rcases h1 with ⟨h, _⟩ | ⟨b1, o1, c1, rfl, l1, k1⟩
    · exact absurd h h0
    · rcases h2 with ⟨h, _⟩ | ⟨b2, o2, c2, rfl, l2, k2⟩
      · exact absurd h h0
      · exact ma_list b1 o1 c1 b2 o2 c2 n Z hn w l1 l2 k1 k2

set_option maxRecDepth 20000 in
set_option maxHeartbeats 2000000 in
theorem plist_nil (c d next : Int) (a : Option Addr) (cap : Nat) (Z : Nat → Nat → Int) (h : listP c d next 0 Z = true) (w : World) :
    Calls Try.prog 5 #[.agg #[.int .i64 c, .int .i64 d], .slice a 0 cap, .int .i64 next] w fun e w' => e = .returned (.bool true) ∧ Below w.heap.size w w' := by
  simp only [listP, Bool.and_eq_true, decide_eq_true_eq] at h
  obtain ⟨h1, h2, h3, _⟩ := h
  have hnx : 0 ≤ next ∧ next ≤ 5000 := by simpa [inB] using h2
  have h3' : (0 : Int) ≤ next := hnx.1
  have m1 : IntKind.wrap .i64 next = next := by simp [IntKind.wrap, IntKind.bits, IntKind.signed]; omega
  clear h3
  go_enter Try.func5, Try.ntmps5
  go_wp2_with (first | (go_at_call 14; refine (ok_impl _ _ _).mono ?_; rintro e w1 ⟨rfl, hb1⟩; rw [h1]) | (go_at_call 15; refine (in_impl _ _ _ _).mono ?_; rintro e w1 ⟨rfl, rfl⟩; rw [h2]))
  have B1 : Below w.heap.size w w1 := bthen ((Below.refl _ _).alloc (by simp) _) hb1
  clear hb1
  go_loopw [30] (fun i wr => .int .i64 0 = i ∧ wr = w1) (fun i _ => 0)
  case atStart => exact ⟨rfl, rfl⟩
  case round =>
    obtain ⟨rfl, rfl⟩ := hrel
    go_wp2
    go_ret
    exact ⟨rfl, B1⟩
theorem plist8 {c d next : Int} {w : World} {v : Value} {n : Nat} {Z : Nat → Nat → Int} (h : Ro8 w v n Z) (hn : n ≤ 1000) (hl : listP c d next n Z = true) :
    Calls Try.prog 5 #[.agg #[.int .i64 c, .int .i64 d], v, .int .i64 next] w fun e w' => e = .returned (.bool true) ∧ Below w.heap.size w w' := by
  by_cases h0 : n = 0
  · subst h0
    obtain ⟨a, cp, rfl⟩ := h.form
    exact plist_nil c d next a cp Z hl w
  · rcases h with ⟨h, _⟩ | ⟨b, o, cp, rfl, l, k⟩
    · exact absurd h h0
    · have := plist_impl c d next b o n cp Z (by omega) w l k
      rw [hl] at this
      exact this
end Go.Proofs.Ytkobiniogigloaa
