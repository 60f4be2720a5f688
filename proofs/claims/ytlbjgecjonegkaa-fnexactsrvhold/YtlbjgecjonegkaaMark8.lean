/- The walks of the law's own helpers on lists of parcels: the marks laid, the marks read, two lists compared; conditions: the list is the call's own. -/
import Derived.Test.YtlbjgecjonegkaaFrom8
namespace Go.Proofs.Ytlbjgecjonegkaa.P8
open Go.RowKit Go.Deep
set_option linter.unusedVariables false

/-- The flat row's t-th cell. -/
theorem get_flat {α : Type} [Inhabited α] {m : Nat} (f : α → List Value) (hf : ∀ x, (f x).length = m) : ∀ (L : List α) (i c : Nat), i < L.length → c < m → (L.flatMap f)[i * m + c]? = some (f L[i]!)[c]!
  | [], i, c, hi, _ => absurd hi (by simp)
  | x :: r, 0, c, _, hc => by
    rw [List.flatMap_cons, List.getElem?_append_left (by rw [hf]; omega)]
    have : c < (f x).length := by rw [hf]; exact hc
    simp [this]
  | x :: r, i + 1, c, hi, hc => by
    have h := get_flat f hf r i c (by simpa using hi) hc
    rw [List.flatMap_cons, List.getElem?_append_right (by rw [hf, Nat.add_mul]; omega), hf]
    rw [show (i + 1) * m + c - m = i * m + c by rw [Nat.add_mul]; omega, h]
    simp

/-- The marks. -/
def M (k j : Nat) : Int := ((1 + k * 8 + j : Nat) : Int)

theorem own_grown {w w' : World} {B n k : Nat} {Z : Nat → Nat → Int} {row : Option Nat} (h : Own8 w B n Z k) (hB : B < w.heap.size) (hg : w.grownBy w' row) (hne : some B ≠ row) : Own8 w' B n Z k := by
  have e : w'.heap[B]? = w.heap[B]? := hg.block B hB hne
  refine ⟨fun i hi => ?_, fun k' j hk hj => ?_⟩
  · rw [World.cell?_of_block (a := ⟨B, i, none⟩) e, World.frozen?_of_block (a := ⟨B, i, none⟩) e]; exact h.1 i hi
  · rw [World.cell?_of_block (a := ⟨B, k' * 8 + j, none⟩) e]; exact h.2 k' j hk hj

theorem set_grown (w : World) (B i : Nat) (u : Value) : w.grownBy (w.setCell ⟨B, i, none⟩ u) (some B) ∧ (w.setCell ⟨B, i, none⟩ u).heap.size = w.heap.size :=
  ⟨⟨rfl, rfl, rfl, by simp [World.setCell], fun k _ hne => Below.heap_setCell _ _ _ _ (fun e => hne (by rw [e]))⟩, by simp [World.setCell]⟩

theorem put8_grown (w : World) (B k : Nat) (Z : Nat → Nat → Int) : w.grownBy (put8 w B k Z) (some B) ∧ (put8 w B k Z).heap.size = w.heap.size := by
  unfold put8
  refine ⟨((((((((set_grown _ _ _ _).1.trans (set_grown _ _ _ _).1).trans (set_grown _ _ _ _).1).trans (set_grown _ _ _ _).1).trans (set_grown _ _ _ _).1).trans (set_grown _ _ _ _).1).trans (set_grown _ _ _ _).1).trans (set_grown _ _ _ _).1), ?_⟩
  rw [(set_grown _ _ _ _).2, (set_grown _ _ _ _).2, (set_grown _ _ _ _).2, (set_grown _ _ _ _).2, (set_grown _ _ _ _).2, (set_grown _ _ _ _).2, (set_grown _ _ _ _).2, (set_grown _ _ _ _).2]

set_option maxRecDepth 20000 in
set_option maxHeartbeats 1000000 in
theorem mark (B n cap : Nat) (Z : Nat → Nat → Int) (hn : n ≤ 2000000) (w : World) (hB : B < w.heap.size) (h : Own8 w B n Z n) :
    Calls Try.prog 83 #[.slice (some ⟨B, 0, none⟩) n cap, .int .i64 1] w fun e w' => e = .returned (.int .i64 ((1 + n * 8 : Nat) : Int)) ∧ Own8 w' B n M n ∧ w.grownBy w' (some B) ∧ w'.heap.size = w.heap.size := by
  have H0 : Hid (Own8 w B n M 0) := ⟨h.1, fun _ _ h => absurd h (by omega)⟩
  clear h
  go_enter Try.func83, Try.ntmps83
  go_wp2
  go_loopw [1, 5] (fun c i wr => ∃ k : Nat, k ≤ n ∧ .int .i64 k = i ∧ .int .i64 (M k 0) = c ∧ Own8 wr B n M k ∧ w.grownBy wr (some B) ∧ wr.heap.size = w.heap.size) (fun _ i _ => n - (intOf i).toNat)
  case atStart => exact ⟨0, Nat.zero_le _, rfl, rfl, H0.out, World.grownBy.refl _ _, rfl⟩
  case round =>
    obtain ⟨k, hk, rfl, rfl, hown, hg, hsz⟩ := hrel
    by_cases hkn : k < n
    · have hkn' : (k : Int) < (n : Int) := by omega
      obtain ⟨⟨v0, d0⟩, f0⟩ := own_cell hown hkn 0 (by omega)
      obtain ⟨⟨v1, d1⟩, f1⟩ := own_cell hown hkn 1 (by omega)
      obtain ⟨⟨v2, d2⟩, f2⟩ := own_cell hown hkn 2 (by omega)
      obtain ⟨⟨v3, d3⟩, f3⟩ := own_cell hown hkn 3 (by omega)
      obtain ⟨⟨v4, d4⟩, f4⟩ := own_cell hown hkn 4 (by omega)
      obtain ⟨⟨v5, d5⟩, f5⟩ := own_cell hown hkn 5 (by omega)
      obtain ⟨⟨v6, d6⟩, f6⟩ := own_cell hown hkn 6 (by omega)
      obtain ⟨⟨v7, d7⟩, f7⟩ := own_cell hown hkn 7 (by omega)
      simp only [Nat.add_zero] at d0 f0
      have HO : Hid (Own8 wr B n M k) := hown
      have HP : Hid (Own8 (put8 wr B k M) B n M (k + 1)) := own_put hown hkn
      have HG : Hid (w.grownBy (put8 wr B k M) (some B) ∧ (put8 wr B k M).heap.size = w.heap.size) := ⟨hg.trans (put8_grown wr B k M).1, (put8_grown wr B k M).2.trans hsz⟩
      have m1 : IntKind.wrap .i64 (M k 0 + 1) = M k 1 := by unfold M; simp [IntKind.wrap, IntKind.bits, IntKind.signed]; omega
      have m2 : IntKind.wrap .i64 (M k 1 + 1) = M k 2 := by unfold M; simp [IntKind.wrap, IntKind.bits, IntKind.signed]; omega
      have m3 : IntKind.wrap .i64 (M k 2 + 1) = M k 3 := by unfold M; simp [IntKind.wrap, IntKind.bits, IntKind.signed]; omega
      have m4 : IntKind.wrap .i64 (M k 3 + 1) = M k 4 := by unfold M; simp [IntKind.wrap, IntKind.bits, IntKind.signed]; omega
      have m5 : IntKind.wrap .i64 (M k 4 + 1) = M k 5 := by unfold M; simp [IntKind.wrap, IntKind.bits, IntKind.signed]; omega
      have m6 : IntKind.wrap .i64 (M k 5 + 1) = M k 6 := by unfold M; simp [IntKind.wrap, IntKind.bits, IntKind.signed]; omega
      have m7 : IntKind.wrap .i64 (M k 6 + 1) = M k 7 := by unfold M; simp [IntKind.wrap, IntKind.bits, IntKind.signed]; omega
      have m8 : IntKind.wrap .i64 (M k 7 + 1) = M (k + 1) 0 := by unfold M; simp [IntKind.wrap, IntKind.bits, IntKind.signed]; omega
      clear hown hg hsz
      go_wp2
      go_roundw
      case rel => exact ⟨k + 1, by omega, by go_num, rfl, HP.out, HG.out.1, HG.out.2⟩
      case measure => simp [intOf]; omega
    · have hkn' : k = n := by omega
      subst hkn'
      have HO : Hid (Own8 wr B k M k) := hown
      clear hown
      go_wp2
      go_ret
      exact ⟨rfl, HO.out, hg, hsz⟩

theorem grown_of_below {w w' : World} (h : Below w.heap.size w w') : w.grownBy w' none := ⟨h.os, h.tape, h.output, h.size, fun k hk _ => h.block k hk⟩

theorem Walks.below {w w' : World} {base : Nat} {v : Value} {L : List Nat} {Z : Nat → Nat → Int} (h : Walks w base v L Z) (hb : Below w.heap.size w w') : Walks w' base v L Z :=
  World.ownsRow.kept h (grown_of_below hb) (by cases e : v.ownBlock <;> simp)

theorem Walks.kept {w w' : World} {base : Nat} {v : Value} {L : List Nat} {Z : Nat → Nat → Int} {row : Option Nat} (h : Walks w base v L Z) (hg : w.grownBy w' row) (hne : v.ownBlock = none ∨ v.ownBlock ≠ row) : Walks w' base v L Z :=
  World.ownsRow.kept h hg hne

theorem Walks.own {w : World} {base : Nat} {v : Value} {L : List Nat} {Z : Nat → Nat → Int} (h : Walks w base v L Z) : (L.length = 0 ∧ ∃ a c, v = .slice a 0 c) ∨
    ∃ g cap, v = .slice (some ⟨g, 0, none⟩) L.length cap ∧ base ≤ g ∧ g < w.heap.size ∧ Own8 w g L.length (fun k j => Z L[k]! j) L.length := by
  rcases h.2 with ⟨e, hl⟩ | ⟨g, cap, cur, hv, _⟩
  · exact .inl ⟨hl, none, 0, e⟩
  · have ho : w.ownsRow base 114 8 (.slice (some ⟨g, 0, none⟩) L.length cap) L.length (L.flatMap (eight Z)) := by rw [← hv]; exact h
    refine .inr ⟨g, cap, hv, (ho.lt g rfl).1, (ho.lt g rfl).2, fun i hi => ⟨?_, ho.frozenAt i⟩, fun k j hk hj => ?_⟩
    · rw [ho.cellAt i hi]
      have : i < (L.flatMap (eight Z)).length := by rw [ho.1]; exact hi
      rw [List.getElem?_eq_getElem this]
      rfl
    · rw [ho.cellAt (k * 8 + j) (by omega), get_flat (m := 8) (eight Z) (fun _ => rfl) L k j hk hj]
      match j, hj with
      | 0, _ => rfl
      | 1, _ => rfl
      | 2, _ => rfl
      | 3, _ => rfl
      | 4, _ => rfl
      | 5, _ => rfl
      | 6, _ => rfl
      | 7, _ => rfl

theorem eqList0 (a1 a2 : Option Addr) (c1 c2 : Nat) (w : World) :
    Calls Try.prog 82 #[.slice a1 0 c1, .slice a2 0 c2] w fun e w' => e = .returned (.bool true) ∧ Below w.heap.size w w' := by
  go_enter Try.func82, Try.ntmps82
  go_wp2
  refine wp_loop_rounds 1 ?_
  rw [rounds_succ]
  go_wp2
  go_ret
  exact ⟨rfl, Below.refl _ _⟩

theorem mark0 (a : Option Addr) (c : Nat) (w : World) :
    Calls Try.prog 83 #[.slice a 0 c, .int .i64 1] w fun e w' => e = .returned (.int .i64 (M 0 0)) ∧ w' = w := by
  go_enter Try.func83, Try.ntmps83
  go_wp2
  refine wp_loop_rounds 1 ?_
  rw [rounds_succ]
  go_wp2
  go_ret
  exact ⟨rfl, rfl⟩

theorem eqWalks {base1 base2 : Nat} {v1 v2 : Value} {L : List Nat} {Z : Nat → Nat → Int} {w : World} (h1 : Walks w base1 v1 L Z) (h2 : Walks w base2 v2 L Z) (hL : L.length ≤ 2000000) :
    Calls Try.prog 82 #[v1, v2] w fun e w' => e = .returned (.bool true) ∧ Below w.heap.size w w' := by
  rcases h1.own with ⟨hl1, a1, c1, rfl⟩ | ⟨g1, c1, rfl, _, l1, o1⟩
  · rcases h2.own with ⟨hl2, a2, c2, rfl⟩ | ⟨g2, c2, rfl, _, l2, o2⟩
    · exact eqList0 a1 a2 c1 c2 w
    · rw [hl1]
      exact eqList0 a1 _ c1 c2 w
  · rcases h2.own with ⟨hl2, a2, c2, rfl⟩ | ⟨g2, c2, rfl, _, l2, o2⟩
    · rw [hl2]
      exact eqList0 _ a2 c1 c2 w
    · exact eqList g1 0 c1 g2 0 c2 L.length _ hL w l1 l2 (own_row o1) (own_row o2)
end Go.Proofs.Ytlbjgecjonegkaa.P8
