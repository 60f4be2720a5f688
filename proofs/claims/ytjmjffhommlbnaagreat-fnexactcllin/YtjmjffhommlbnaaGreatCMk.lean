/- Marks in lists of a cell, as the laws lay and look for them, from whatever number on; conditions: the lists lie in memory of their own. -/
import Derived.Test.YtjmjffhommlbnaaGreatCTo
import Derived.Laws.AppendOwn
namespace Go.Proofs.YtjmjffhommlbnaaGreat.P8
open Go.RowKit Go.Deep
set_option linter.unusedVariables false

def eight (Z : Nat → Nat → Int) (k : Nat) : List Value := [.int .i64 (Z k 0), .int .i64 (Z k 1), .int .i64 (Z k 2), .int .i64 (Z k 3), .int .i64 (Z k 4), .int .i64 (Z k 5), .int .i64 (Z k 6), .int .i64 (Z k 7)]
/-- The places of those from the number z on. -/
def rest (Z : Nat → Nat → Int) (n : Nat) (z : Int) : List Nat := (List.range n).filter (fun k => decide (z ≤ Z k 0))
/-- A slice of the call's own (nil, where there is none) that holds the parcels L of Z. -/
def Walks (w : World) (base : Nat) (v : Value) (L : List Nat) (Z : Nat → Nat → Int) : Prop := w.ownsRow base 45 8 v L.length (L.flatMap (eight Z))

theorem info_parts8 : ∃ i, Tryz.prog.info? 45 = some i ∧ i.zero = some (.agg #[.int .i64 0, .int .i64 0, .int .i64 0, .int .i64 0, .int .i64 0, .int .i64 0, .int .i64 0, .int .i64 0]) ∧ i.size = 8 ∧ i.bytes = 64 := by
  obtain ⟨i, hi, hzz⟩ := Option.map_eq_some_iff.1 Tryz.info45
  simp only [Prod.mk.injEq] at hzz
  exact ⟨i, hi, hzz.1, hzz.2.1, hzz.2.2⟩

theorem rest_next (Z : Nat → Nat → Int) (k : Nat) (z : Int) : rest Z (k + 1) z = rest Z k z ++ (if z ≤ Z k 0 then [k] else []) := by
  unfold rest
  rw [List.range_succ, List.filter_append]
  congr 1
  by_cases h : z ≤ Z k 0 <;> simp [h]
theorem rest_len (Z : Nat → Nat → Int) (k : Nat) (z : Int) : (rest Z k z).length ≤ k := by
  have := (List.filter_sublist (p := fun k => decide (z ≤ Z k 0)) (l := List.range k)).length_le
  rw [List.length_range] at this
  exact this

end Go.Proofs.YtjmjffhommlbnaaGreat.P8
namespace Go.Proofs.YtjmjffhommlbnaaGreat.P8
open Go.RowKit Go.Deep
set_option linter.unusedVariables false

/-- The flat row's t-th cell. -/
theorem get_flat {α : Type} [Inhabited α] {m : Nat} (f : α → List Value) (hf : ∀ x, (f x).length = m) : ∀ (L : List α) (i c : Nat), i < L.length → c < m → (L.flatMap f)[i * m + c]? = some (f L[i]!)[c]!
  | [], i, c, hi, _ => absurd hi (by simp)
  | x :: r, 0, c, _, hc => by
    rw [List.flatMap_cons, List.getElem?_append_left (by rw [hf]; omega)]
    have : c < (f x).length := by rw [hf]; exact hc
    simp [this]
  | x :: r, i + 1, c, hi, hc => by
    have h := get_flat f hf r i c (by simpa using hi) hc
    rw [List.flatMap_cons, List.getElem?_append_right (by rw [hf, Nat.add_mul]; omega), hf]
    rw [show (i + 1) * m + c - m = i * m + c by rw [Nat.add_mul]; omega, h]
    simp

/-- The marks. -/
def M (k j : Nat) : Int := ((1 + k * 8 + j : Nat) : Int)

theorem own_grown {w w' : World} {B n k : Nat} {Z : Nat → Nat → Int} {row : Option Nat} (h : Own8 w B n Z k) (hB : B < w.heap.size) (hg : w.grownBy w' row) (hne : some B ≠ row) : Own8 w' B n Z k := by
  have e : w'.heap[B]? = w.heap[B]? := hg.block B hB hne
  refine ⟨fun i hi => ?_, fun k' j hk hj => ?_⟩
  · rw [World.cell?_of_block (a := ⟨B, i, none⟩) e, World.frozen?_of_block (a := ⟨B, i, none⟩) e]; exact h.1 i hi
  · rw [World.cell?_of_block (a := ⟨B, k' * 8 + j, none⟩) e]; exact h.2 k' j hk hj

theorem set_grown (w : World) (B i : Nat) (u : Value) : w.grownBy (w.setCell ⟨B, i, none⟩ u) (some B) ∧ (w.setCell ⟨B, i, none⟩ u).heap.size = w.heap.size :=
  ⟨⟨rfl, rfl, rfl, by simp [World.setCell], fun k _ hne => Below.heap_setCell _ _ _ _ (fun e => hne (by rw [e]))⟩, by simp [World.setCell]⟩

theorem put8_grown (w : World) (B k : Nat) (Z : Nat → Nat → Int) : w.grownBy (put8 w B k Z) (some B) ∧ (put8 w B k Z).heap.size = w.heap.size := by
  unfold put8
  refine ⟨((((((((set_grown _ _ _ _).1.trans (set_grown _ _ _ _).1).trans (set_grown _ _ _ _).1).trans (set_grown _ _ _ _).1).trans (set_grown _ _ _ _).1).trans (set_grown _ _ _ _).1).trans (set_grown _ _ _ _).1).trans (set_grown _ _ _ _).1), ?_⟩
  rw [(set_grown _ _ _ _).2, (set_grown _ _ _ _).2, (set_grown _ _ _ _).2, (set_grown _ _ _ _).2, (set_grown _ _ _ _).2, (set_grown _ _ _ _).2, (set_grown _ _ _ _).2, (set_grown _ _ _ _).2]

set_option maxRecDepth 20000 in
set_option maxHeartbeats 1000000 in
theorem mark (B n cap : Nat) (Z : Nat → Nat → Int) (hn : n ≤ 2000000) (w : World) (hB : B < w.heap.size) (h : Own8 w B n Z n) :
    Calls Tryz.prog 61 #[.slice (some ⟨B, 0, none⟩) n cap, .int .i64 1] w fun e w' => e = .returned (.int .i64 ((1 + n * 8 : Nat) : Int)) ∧ Own8 w' B n M n ∧ w.grownBy w' (some B) ∧ w'.heap.size = w.heap.size := by
  have H0 : Hid (Own8 w B n M 0) := ⟨h.1, fun _ _ h => absurd h (by omega)⟩
  clear h
  go_enter Tryz.func61, Tryz.ntmps61
  go_wp2
  go_loopw [1, 5] (fun c i wr => ∃ k : Nat, k ≤ n ∧ .int .i64 k = i ∧ .int .i64 (M k 0) = c ∧ Own8 wr B n M k ∧ w.grownBy wr (some B) ∧ wr.heap.size = w.heap.size) (fun _ i _ => n - (intOf i).toNat)
  case atStart => exact ⟨0, Nat.zero_le _, rfl, rfl, H0.out, World.grownBy.refl _ _, rfl⟩
  case round =>
    obtain ⟨k, hk, rfl, rfl, hown, hg, hsz⟩ := hrel
    by_cases hkn : k < n
    · have hkn' : (k : Int) < (n : Int) := by omega
      obtain ⟨⟨v0, d0⟩, f0⟩ := own_cell hown hkn 0 (by omega)
      obtain ⟨⟨v1, d1⟩, f1⟩ := own_cell hown hkn 1 (by omega)
      obtain ⟨⟨v2, d2⟩, f2⟩ := own_cell hown hkn 2 (by omega)
      obtain ⟨⟨v3, d3⟩, f3⟩ := own_cell hown hkn 3 (by omega)
      obtain ⟨⟨v4, d4⟩, f4⟩ := own_cell hown hkn 4 (by omega)
      obtain ⟨⟨v5, d5⟩, f5⟩ := own_cell hown hkn 5 (by omega)
      obtain ⟨⟨v6, d6⟩, f6⟩ := own_cell hown hkn 6 (by omega)
      obtain ⟨⟨v7, d7⟩, f7⟩ := own_cell hown hkn 7 (by omega)
      simp only [Nat.add_zero] at d0 f0
      have HO : Hid (Own8 wr B n M k) := hown
      have HP : Hid (Own8 (put8 wr B k M) B n M (k + 1)) := own_put hown hkn
      have HG : Hid (w.grownBy (put8 wr B k M) (some B) ∧ (put8 wr B k M).heap.size = w.heap.size) := ⟨hg.trans (put8_grown wr B k M).1, (put8_grown wr B k M).2.trans hsz⟩
      have m1 : IntKind.wrap .i64 (M k 0 + 1) = M k 1 := by unfold M; simp [IntKind.wrap, IntKind.bits, IntKind.signed]; omega
      have m2 : IntKind.wrap .i64 (M k 1 + 1) = M k 2 := by unfold M; simp [IntKind.wrap, IntKind.bits, IntKind.signed]; omega
      have m3 : IntKind.wrap .i64 (M k 2 + 1) = M k 3 := by unfold M; simp [IntKind.wrap, IntKind.bits, IntKind.signed]; omega
      have m4 : IntKind.wrap .i64 (M k 3 + 1) = M k 4 := by unfold M; simp [IntKind.wrap, IntKind.bits, IntKind.signed]; omega
      have m5 : IntKind.wrap .i64 (M k 4 + 1) = M k 5 := by unfold M; simp [IntKind.wrap, IntKind.bits, IntKind.signed]; omega
      have m6 : IntKind.wrap .i64 (M k 5 + 1) = M k 6 := by unfold M; simp [IntKind.wrap, IntKind.bits, IntKind.signed]; omega
      have m7 : IntKind.wrap .i64 (M k 6 + 1) = M k 7 := by unfold M; simp [IntKind.wrap, IntKind.bits, IntKind.signed]; omega
      have m8 : IntKind.wrap .i64 (M k 7 + 1) = M (k + 1) 0 := by unfold M; simp [IntKind.wrap, IntKind.bits, IntKind.signed]; omega
      clear hown hg hsz
      go_wp2
      go_roundw
      case rel => exact ⟨k + 1, by omega, by go_num, rfl, HP.out, HG.out.1, HG.out.2⟩
      case measure => simp [intOf]; omega
    · have hkn' : k = n := by omega
      subst hkn'
      have HO : Hid (Own8 wr B k M k) := hown
      clear hown
      go_wp2
      go_ret
      exact ⟨rfl, HO.out, hg, hsz⟩

set_option maxRecDepth 20000 in
set_option maxHeartbeats 1000000 in
theorem held (B n cap : Nat) (hn : n ≤ 2000000) (w : World) (hB : B < w.heap.size) (h : Own8 w B n M n) :
    Calls Tryz.prog 62 #[.slice (some ⟨B, 0, none⟩) n cap, .int .i64 1] w fun e w' => e = .returned (.int .i64 ((1 + n * 8 : Nat) : Int)) ∧ Below w.heap.size w w' := by
  have H0 : Hid (Own8 w B n M n) := h
  clear h
  go_enter Tryz.func62, Tryz.ntmps62
  go_wp2
  go_loopw [1, 5] (fun c i wr => ∃ k : Nat, k ≤ n ∧ .int .i64 k = i ∧ .int .i64 (M k 0) = c ∧ w = wr) (fun _ i _ => n - (intOf i).toNat)
  case atStart => exact ⟨0, Nat.zero_le _, rfl, rfl, rfl⟩
  case round =>
    obtain ⟨k, hk, rfl, rfl, rfl⟩ := hrel
    by_cases hkn : k < n
    · have hkn' : (k : Int) < (n : Int) := by omega
      have c0 : w.cell? ⟨B, k * 8, none⟩ = some (.int .i64 (M k 0)) := H0.out.2 k 0 hkn (by omega)
      have c1 : w.cell? ⟨B, k * 8 + 1, none⟩ = some (.int .i64 (M k 1)) := H0.out.2 k 1 hkn (by omega)
      have c2 : w.cell? ⟨B, k * 8 + 2, none⟩ = some (.int .i64 (M k 2)) := H0.out.2 k 2 hkn (by omega)
      have c3 : w.cell? ⟨B, k * 8 + 3, none⟩ = some (.int .i64 (M k 3)) := H0.out.2 k 3 hkn (by omega)
      have c4 : w.cell? ⟨B, k * 8 + 4, none⟩ = some (.int .i64 (M k 4)) := H0.out.2 k 4 hkn (by omega)
      have c5 : w.cell? ⟨B, k * 8 + 5, none⟩ = some (.int .i64 (M k 5)) := H0.out.2 k 5 hkn (by omega)
      have c6 : w.cell? ⟨B, k * 8 + 6, none⟩ = some (.int .i64 (M k 6)) := H0.out.2 k 6 hkn (by omega)
      have c7 : w.cell? ⟨B, k * 8 + 7, none⟩ = some (.int .i64 (M k 7)) := H0.out.2 k 7 hkn (by omega)
      have m1 : IntKind.wrap .i64 (M k 0 + 1) = M k 1 := by unfold M; simp [IntKind.wrap, IntKind.bits, IntKind.signed]; omega
      have m2 : IntKind.wrap .i64 (M k 1 + 1) = M k 2 := by unfold M; simp [IntKind.wrap, IntKind.bits, IntKind.signed]; omega
      have m3 : IntKind.wrap .i64 (M k 2 + 1) = M k 3 := by unfold M; simp [IntKind.wrap, IntKind.bits, IntKind.signed]; omega
      have m4 : IntKind.wrap .i64 (M k 3 + 1) = M k 4 := by unfold M; simp [IntKind.wrap, IntKind.bits, IntKind.signed]; omega
      have m5 : IntKind.wrap .i64 (M k 4 + 1) = M k 5 := by unfold M; simp [IntKind.wrap, IntKind.bits, IntKind.signed]; omega
      have m6 : IntKind.wrap .i64 (M k 5 + 1) = M k 6 := by unfold M; simp [IntKind.wrap, IntKind.bits, IntKind.signed]; omega
      have m7 : IntKind.wrap .i64 (M k 6 + 1) = M k 7 := by unfold M; simp [IntKind.wrap, IntKind.bits, IntKind.signed]; omega
      have m8 : IntKind.wrap .i64 (M k 7 + 1) = M (k + 1) 0 := by unfold M; simp [IntKind.wrap, IntKind.bits, IntKind.signed]; omega
      go_wp2
      go_roundw
      case rel => exact ⟨k + 1, by omega, by go_num, rfl, by trivial⟩
      case measure => simp [intOf]; omega
    · have hkn' : k = n := by omega
      subst hkn'
      go_wp2
      go_ret
      exact ⟨rfl, Below.refl _ _⟩

theorem grown_of_below {w w' : World} (h : Below w.heap.size w w') : w.grownBy w' none := ⟨h.os, h.tape, h.output, h.size, fun k hk _ => h.block k hk⟩

theorem Walks.below {w w' : World} {base : Nat} {v : Value} {L : List Nat} {Z : Nat → Nat → Int} (h : Walks w base v L Z) (hb : Below w.heap.size w w') : Walks w' base v L Z :=
  World.ownsRow.kept h (grown_of_below hb) (by cases e : v.ownBlock <;> simp)

theorem Walks.kept {w w' : World} {base : Nat} {v : Value} {L : List Nat} {Z : Nat → Nat → Int} {row : Option Nat} (h : Walks w base v L Z) (hg : w.grownBy w' row) (hne : v.ownBlock = none ∨ v.ownBlock ≠ row) : Walks w' base v L Z :=
  World.ownsRow.kept h hg hne

theorem Walks.own {w : World} {base : Nat} {v : Value} {L : List Nat} {Z : Nat → Nat → Int} (h : Walks w base v L Z) : (L.length = 0 ∧ ∃ a c, v = .slice a 0 c) ∨
    ∃ g cap, v = .slice (some ⟨g, 0, none⟩) L.length cap ∧ base ≤ g ∧ g < w.heap.size ∧ Own8 w g L.length (fun k j => Z L[k]! j) L.length := by
  rcases h.2 with ⟨e, hl⟩ | ⟨g, cap, cur, hv, _⟩
  · exact .inl ⟨hl, none, 0, e⟩
  · have ho : w.ownsRow base 45 8 (.slice (some ⟨g, 0, none⟩) L.length cap) L.length (L.flatMap (eight Z)) := by rw [← hv]; exact h
    refine .inr ⟨g, cap, hv, (ho.lt g rfl).1, (ho.lt g rfl).2, fun i hi => ⟨?_, ho.frozenAt i⟩, fun k j hk hj => ?_⟩
    · rw [ho.cellAt i hi]
      have : i < (L.flatMap (eight Z)).length := by rw [ho.1]; exact hi
      rw [List.getElem?_eq_getElem this]
      rfl
    · rw [ho.cellAt (k * 8 + j) (by omega), get_flat (m := 8) (eight Z) (fun _ => rfl) L k j hk hj]
      match j, hj with
      | 0, _ => rfl
      | 1, _ => rfl
      | 2, _ => rfl
      | 3, _ => rfl
      | 4, _ => rfl
      | 5, _ => rfl
      | 6, _ => rfl
      | 7, _ => rfl

theorem eqList0 (a1 a2 : Option Addr) (c1 c2 : Nat) (w : World) :
    Calls Tryz.prog 60 #[.slice a1 0 c1, .slice a2 0 c2] w fun e w' => e = .returned (.bool true) ∧ Below w.heap.size w w' := by
  go_enter Tryz.func60, Tryz.ntmps60
  go_wp2
  refine wp_loop_rounds 1 ?_
  rw [rounds_succ]
  go_wp2
  go_ret
  exact ⟨rfl, Below.refl _ _⟩

theorem mark0 (a : Option Addr) (c : Nat) (w : World) :
    Calls Tryz.prog 61 #[.slice a 0 c, .int .i64 1] w fun e w' => e = .returned (.int .i64 (M 0 0)) ∧ w' = w := by
  go_enter Tryz.func61, Tryz.ntmps61
  go_wp2
  refine wp_loop_rounds 1 ?_
  rw [rounds_succ]
  go_wp2
  go_ret
  exact ⟨rfl, rfl⟩

theorem held0 (a : Option Addr) (c : Nat) (w : World) :
    Calls Tryz.prog 62 #[.slice a 0 c, .int .i64 1] w fun e w' => e = .returned (.int .i64 (M 0 0)) ∧ Below w.heap.size w w' := by
  go_enter Tryz.func62, Tryz.ntmps62
  go_wp2
  refine wp_loop_rounds 1 ?_
  rw [rounds_succ]
  go_wp2
  go_ret
  exact ⟨rfl, Below.refl _ _⟩

theorem eqWalks {base1 base2 : Nat} {v1 v2 : Value} {L : List Nat} {Z : Nat → Nat → Int} {w : World} (h1 : Walks w base1 v1 L Z) (h2 : Walks w base2 v2 L Z) (hL : L.length ≤ 2000000) :
    Calls Tryz.prog 60 #[v1, v2] w fun e w' => e = .returned (.bool true) ∧ Below w.heap.size w w' := by
  rcases h1.own with ⟨hl1, a1, c1, rfl⟩ | ⟨g1, c1, rfl, _, l1, o1⟩
  · rcases h2.own with ⟨hl2, a2, c2, rfl⟩ | ⟨g2, c2, rfl, _, l2, o2⟩
    · exact eqList0 a1 a2 c1 c2 w
    · rw [hl1]
      exact eqList0 a1 _ c1 c2 w
  · rcases h2.own with ⟨hl2, a2, c2, rfl⟩ | ⟨g2, c2, rfl, _, l2, o2⟩
    · rw [hl2]
      exact eqList0 _ a2 c1 c2 w
    · exact eqList g1 0 c1 g2 0 c2 L.length _ hL w l1 l2 (own_row o1) (own_row o2)
end Go.Proofs.YtjmjffhommlbnaaGreat.P8
namespace Go.Proofs.YtjmjffhommlbnaaGreat
open Go.RowKit Go.Deep
set_option linter.unusedVariables false

theorem eqWalkers0 (a1 a2 : Option Addr) (c1 c2 : Nat) (w : World) :
    Calls Tryz.prog 30 #[.slice a1 0 c1, .slice a2 0 c2] w fun e w' => e = .returned (.bool true) ∧ Below w.heap.size w w' := by
  go_enter Tryz.func30, Tryz.ntmps30
  go_wp2
  refine wp_loop_rounds 1 ?_
  rw [rounds_succ]
  go_wp2
  go_ret
  exact ⟨rfl, Below.refl _ _⟩

theorem eqWalkers (a1 a2 : Option Addr) (n c1 c2 : Nat) (Z : Nat → Nat → Int) (hn : n ≤ 2000000) (w : World) (h1 : Row5 w a1 n Z) (h2 : Row5 w a2 n Z) :
    Calls Tryz.prog 30 #[.slice a1 n c1, .slice a2 n c2] w fun e w' => e = .returned (.bool true) ∧ Below w.heap.size w w' := by
  rcases h1 with rfl | ⟨b1, o1, rfl, hb1, hr1⟩
  · exact eqWalkers0 _ _ _ _ _
  rcases h2 with rfl | ⟨b2, o2, rfl, hb2, hr2⟩
  · exact eqWalkers0 _ _ _ _ _
  exact eqList b1 o1 c1 b2 o2 c2 n Z hn w hb1 hb2 hr1 hr2

theorem eqParcels (a1 a2 : Option Addr) (n c1 c2 : Nat) (Z : Nat → Nat → Int) (hn : n ≤ 2000000) (w : World) (h1 : P8.Row8 w a1 n Z) (h2 : P8.Row8 w a2 n Z) :
    Calls Tryz.prog 60 #[.slice a1 n c1, .slice a2 n c2] w fun e w' => e = .returned (.bool true) ∧ Below w.heap.size w w' := by
  rcases h1 with rfl | ⟨b1, o1, rfl, hb1, hr1⟩
  · exact P8.eqList0 _ _ _ _ _
  rcases h2 with rfl | ⟨b2, o2, rfl, hb2, hr2⟩
  · exact P8.eqList0 _ _ _ _ _
  exact P8.eqList b1 o1 c1 b2 o2 c2 n Z hn w hb1 hb2 hr1 hr2

set_option maxHeartbeats 1000000 in
theorem eqInts (a1 a2 : Option Addr) (n c1 c2 : Nat) (X : Nat → Int) (hn : n ≤ 2000000) (w : World) (h1 : Row1 w a1 n X) (h2 : Row1 w a2 n X) :
    Calls Tryz.prog 32 #[.slice a1 n c1, .slice a2 n c2] w fun e w' => e = .returned (.bool true) ∧ Below w.heap.size w w' := by
  have H1 : Hid (Row1 w a1 n X) := h1
  have H2 : Hid (Row1 w a2 n X) := h2
  clear h1 h2
  go_enter Tryz.func32, Tryz.ntmps32
  go_wp2
  go_loopw [5] (fun i wr => ∃ k : Nat, k ≤ n ∧ i = .int .i64 k ∧ Below w.heap.size w wr) (fun i _ => n - (intOf i).toNat)
  case atStart => exact ⟨0, Nat.zero_le _, rfl, Below.refl _ _⟩
  case round =>
    obtain ⟨k, hk, rfl, hbel⟩ := hrel
    by_cases hkn : k < n
    · have hkn' : (k : Int) < n := by omega
      obtain ⟨b1, o1, rfl, hb1, hr1⟩ : ∃ b o, a1 = some ⟨b, o, none⟩ ∧ b < w.heap.size ∧ ∀ k, k < n → w.cell? ⟨b, o + k, none⟩ = some (.int .i64 (X k)) := by
        rcases H1.out with h | h
        · omega
        · exact h
      obtain ⟨b2, o2, rfl, hb2, hr2⟩ : ∃ b o, a2 = some ⟨b, o, none⟩ ∧ b < w.heap.size ∧ ∀ k, k < n → w.cell? ⟨b, o + k, none⟩ = some (.int .i64 (X k)) := by
        rcases H2.out with h | h
        · omega
        · exact h
      have d1 : wr.cell? ⟨b1, o1 + k, none⟩ = some (.int .i64 (X k)) := (hbel.cell (p := ⟨b1, o1 + k, none⟩) hb1).trans (hr1 k hkn)
      have d2 : wr.cell? ⟨b2, o2 + k, none⟩ = some (.int .i64 (X k)) := (hbel.cell (p := ⟨b2, o2 + k, none⟩) hb2).trans (hr2 k hkn)
      clear hr1 hr2
      go_wp2
      go_region
      go_wp2
      go_roundw
      case rel => exact ⟨k + 1, by omega, by go_num, by repeat (first | exact hbel | apply Below.drew | apply bdrewN)⟩
      case measure => simp [intOf]; omega
    · have : k = n := by omega
      subst this
      go_wp2
      go_ret
      exact ⟨rfl, hbel⟩

theorem row8_keep {w w' : World} {a : Option Addr} {n : Nat} {Z : Nat → Nat → Int} (h : P8.Row8 w a n Z) (k : (∀ b o, b < w.heap.size → w'.cell? ⟨b, o, none⟩ = w.cell? ⟨b, o, none⟩) ∧ w.heap.size ≤ w'.heap.size) : P8.Row8 w' a n Z := by
  rcases h with rfl | ⟨b, o, rfl, hlt, hr⟩
  · exact .inl rfl
  · exact .inr ⟨b, o, rfl, Nat.lt_of_lt_of_le hlt k.2, fun i j hi hj => (k.1 b _ hlt).trans (hr i j hi hj)⟩

set_option maxHeartbeats 4000000 in
theorem eqOuts (a1 a2 : Option Addr) (n c1 c2 : Nat) (N : Nat → Nat) (O : Nat → Nat → Nat → Int) (hn : n ≤ 2000000) (hN : ∀ k, k < n → N k ≤ 2000000) (w : World) (h1 : RowO w a1 n N O) (h2 : RowO w a2 n N O) :
    Calls Tryz.prog 31 #[.slice a1 n c1, .slice a2 n c2] w fun e w' => e = .returned (.bool true) ∧ Below w.heap.size w w' := by
  have H1 : Hid (RowO w a1 n N O) := h1
  have H2 : Hid (RowO w a2 n N O) := h2
  have HN : Hid (∀ k, k < n → N k ≤ 2000000) := hN
  clear h1 h2 hN
  go_enter Tryz.func31, Tryz.ntmps31
  go_wp2
  go_loopw [5] (fun i wr => ∃ k : Nat, k ≤ n ∧ i = .int .i64 k ∧ ((∀ b o, b < w.heap.size → wr.cell? ⟨b, o, none⟩ = w.cell? ⟨b, o, none⟩) ∧ w.heap.size ≤ wr.heap.size) ∧ Below w.heap.size w wr) (fun i _ => n - (intOf i).toNat)
  case atStart => exact ⟨0, Nat.zero_le _, rfl, ⟨fun _ _ _ => rfl, Nat.le_refl _⟩, Below.refl _ _⟩
  case round =>
    obtain ⟨k, hk, rfl, HS, BR⟩ := hrel
    by_cases hkn : k < n
    · have hkn' : (k : Int) < n := by omega
      obtain ⟨b1, o1, rfl, hb1, hr1⟩ : ∃ b o, a1 = some ⟨b, o, none⟩ ∧ b < w.heap.size ∧ ∀ k, k < n → ∃ x c, w.cell? ⟨b, o + k, none⟩ = some (.slice x (N k) c) ∧ P8.Row8 w x (N k) (O k) := by
        rcases H1.out with h | h
        · omega
        · exact h
      obtain ⟨b2, o2, rfl, hb2, hr2⟩ : ∃ b o, a2 = some ⟨b, o, none⟩ ∧ b < w.heap.size ∧ ∀ k, k < n → ∃ x c, w.cell? ⟨b, o + k, none⟩ = some (.slice x (N k) c) ∧ P8.Row8 w x (N k) (O k) := by
        rcases H2.out with h | h
        · omega
        · exact h
      obtain ⟨x1, d1, e1, hx1⟩ := hr1 k hkn
      obtain ⟨x2, d2, e2, hx2⟩ := hr2 k hkn
      have HX1 : Hid (P8.Row8 w x1 (N k) (O k)) := hx1
      have HX2 : Hid (P8.Row8 w x2 (N k) (O k)) := hx2
      clear hr1 hr2 hx1 hx2
      go_wp2
      refine wp_region_held_drew (S := fun w' => (∀ b o, b < w.heap.size → w'.cell? ⟨b, o, none⟩ = w.cell? ⟨b, o, none⟩) ∧ w.heap.size ≤ w'.heap.size) (by kernel_rfl) HS ?_
      intro hHeld
      refine wpAnyH_take (i := 0) (v := .slice (some ⟨b1, o1, none⟩) n c1) rfl (by kernel_rfl) (by kernel_rfl) (by kernel_rfl) (fun _ _ _ h => h) (Or.inl ⟨by rfl, ?_⟩) (by assumption) ?_
      · intro wx hSw; go_simp
      try simp only [Act.put, List.setIfInBounds_toArray, List.set_cons_zero, List.set_cons_succ, List.getElem_toArray, List.getElem_cons_zero]
      refine wpAnyH_take (i := 1) (v := .int .i64 (k : Int)) rfl (by kernel_rfl) (by kernel_rfl) (by kernel_rfl) (fun _ _ _ h => h) (Or.inl ⟨by rfl, ?_⟩) (by assumption) ?_
      · intro wx hSw; go_simp
      try simp only [Act.put, List.setIfInBounds_toArray, List.set_cons_zero, List.set_cons_succ, List.getElem_toArray, List.getElem_cons_zero, List.getElem_cons_succ]
      refine wpAnyH_take (i := 2) (v := .pointer (some ⟨b1, o1 + k, none⟩)) rfl (by kernel_rfl) (by kernel_rfl) (by kernel_rfl) (fun _ _ _ h => h) (Or.inl ⟨by rfl, ?_⟩) (by assumption) ?_
      · intro wx hSw; go_simp
      try simp only [Act.put, List.setIfInBounds_toArray, List.set_cons_zero, List.set_cons_succ, List.getElem_toArray, List.getElem_cons_zero, List.getElem_cons_succ]
      refine wpAnyH_take (i := 3) (v := .slice x1 (N k) d1) rfl (by kernel_rfl) (by kernel_rfl) (by kernel_rfl) (fun _ _ _ h => h) (Or.inl ⟨by rfl, ?_⟩) (by assumption) ?_
      · intro wx hSw; go_simp
      try simp only [Act.put, List.setIfInBounds_toArray, List.set_cons_zero, List.set_cons_succ, List.getElem_toArray, List.getElem_cons_zero, List.getElem_cons_succ]
      refine wpAnyH_take (i := 4) (v := .slice (some ⟨b2, o2, none⟩) n c2) rfl (by kernel_rfl) (by kernel_rfl) (by kernel_rfl) (fun _ _ _ h => h) (Or.inl ⟨by rfl, ?_⟩) (by assumption) ?_
      · intro wx hSw; go_simp
      try simp only [Act.put, List.setIfInBounds_toArray, List.set_cons_zero, List.set_cons_succ, List.getElem_toArray, List.getElem_cons_zero, List.getElem_cons_succ]
      refine wpAnyH_take (i := 5) (v := .int .i64 (k : Int)) rfl (by kernel_rfl) (by kernel_rfl) (by kernel_rfl) (fun _ _ _ h => h) (Or.inl ⟨by rfl, ?_⟩) (by assumption) ?_
      · intro wx hSw; go_simp
      try simp only [Act.put, List.setIfInBounds_toArray, List.set_cons_zero, List.set_cons_succ, List.getElem_toArray, List.getElem_cons_zero, List.getElem_cons_succ]
      refine wpAnyH_take (i := 6) (v := .pointer (some ⟨b2, o2 + k, none⟩)) rfl (by kernel_rfl) (by kernel_rfl) (by kernel_rfl) (fun _ _ _ h => h) (Or.inl ⟨by rfl, ?_⟩) (by assumption) ?_
      · intro wx hSw; go_simp
      try simp only [Act.put, List.setIfInBounds_toArray, List.set_cons_zero, List.set_cons_succ, List.getElem_toArray, List.getElem_cons_zero, List.getElem_cons_succ]
      refine wpAnyH_take (i := 7) (v := .slice x2 (N k) d2) rfl (by kernel_rfl) (by kernel_rfl) (by kernel_rfl) (fun _ _ _ h => h) (Or.inl ⟨by rfl, ?_⟩) (by assumption) ?_
      · intro wx hSw; go_simp
      try simp only [Act.put, List.setIfInBounds_toArray, List.set_cons_zero, List.set_cons_succ, List.getElem_toArray, List.getElem_cons_zero, List.getElem_cons_succ]
      refine wpAnyH_ready (rs := [8]) (by kernel_rfl) (by simp) ?_
      refine AllReadyH.cons rfl (fun K hK => ?_) AllReadyH.nil
      go_simp
      go_wp2_with (go_at_call 60; refine (eqParcels x1 x2 (N k) d1 d2 (O k) (HN.out k hkn) _ (row8_keep HX1.out (by assumption)) (row8_keep HX2.out (by assumption))).mono ?_; rintro e w2 ⟨rfl, hbw2⟩)
      refine hK.out _ _ (keepS (by assumption) hbw2) (fun hHeld => ?_)
      clear hK K
      try simp only [Act.put, List.setIfInBounds_toArray, List.set_cons_zero, List.set_cons_succ, List.getElem_toArray, List.getElem_cons_zero, List.getElem_cons_succ]
      refine wpAnyH_take (i := 9) (v := .bool false) rfl (by kernel_rfl) (by kernel_rfl) (by kernel_rfl) (fun _ _ _ h => h) (Or.inl ⟨by rfl, ?_⟩) (by assumption) ?_
      · intro wx hSw; go_simp
      try simp only [Act.put, List.setIfInBounds_toArray, List.set_cons_zero, List.set_cons_succ, List.getElem_toArray, List.getElem_cons_zero, List.getElem_cons_succ]
      refine wpAnyH_done (by kernel_rfl) ?_ _
      go_wp2
      go_roundw
      case rel => exact ⟨k + 1, by omega, by go_num, by assumption, by repeat (first | exact BR | refine bthen ?_ (by assumption) | apply Below.drew)⟩
      case measure => simp [intOf]; omega
    · have : k = n := by omega
      subst this
      go_wp2
      go_ret
      exact ⟨rfl, BR⟩

set_option maxHeartbeats 2000000 in
theorem eqCell (v1 v2 : Value) (V : CV) (hs : V.short 2000000) (w : World) (h1 : CellAt w v1 V) (h2 : CellAt w v2 V) :
    Calls Tryz.prog 10 #[v1, v2] w fun e w' => e = .returned (.bool true) ∧ Below w.heap.size w w' := by
  obtain ⟨aW, kW, aO, kO, aX, kX, aI, kI, rfl, rW, rO, rX, rI⟩ := h1
  obtain ⟨bW, lW, bO, lO, bX, lX, bI, lI, rfl, sW, sO, sX, sI⟩ := h2
  obtain ⟨VC, nW, W, VG, nO, N, O, nX, X, nI, I⟩ := V
  simp only at rW rO rX rI sW sO sX sI
  obtain ⟨tW, tO, tN, tX, tI⟩ := hs
  simp only at tW tO tN tX tI
  have HW : Hid (Row5 w aW nW W ∧ Row5 w bW nW W) := ⟨rW, sW⟩
  have HO : Hid (RowO w aO nO N O ∧ RowO w bO nO N O) := ⟨rO, sO⟩
  have HX : Hid (Row1 w aX nX X ∧ Row1 w bX nX X) := ⟨rX, sX⟩
  have HI : Hid (Row1 w aI nI I ∧ Row1 w bI nI I) := ⟨rI, sI⟩
  have HN : Hid (∀ k, k < nO → N k ≤ 2000000) := tN
  clear rW rO rX rI sW sO sX sI tN
  go_enter Tryz.func10, Tryz.ntmps10
  go_wp2_with fail
  obtain ⟨w0, e0⟩ : ∃ w0, w0 = (w.alloc (.cells #[.int .i64 VC, .slice aW nW kW, .int .i64 VG, .slice aO nO kO, .slice aX nX kX, .slice aI nI kI] 37)).alloc (.cells #[.int .i64 VC, .slice bW nW lW, .int .i64 VG, .slice bO nO lO, .slice bX nX lX, .slice bI nI lI] 37) := ⟨_, rfl⟩
  have z0 : w.heap.size + 2 ≤ w0.heap.size := by rw [e0]; simp
  have B0 : Hid (Below w.heap.size w w0) := by rw [e0]; exact ((Below.refl _ _).alloc (by simp) _).alloc (by simp) _
  have A0 : Hid (Six w0 w.heap.size [.int .i64 VC, .slice aW nW kW, .int .i64 VG, .slice aO nO kO, .slice aX nX kX, .slice aI nI kI]) := by rw [e0]; exact (six_new w 37 (.int .i64 VC) (.slice aW nW kW) (.int .i64 VG) (.slice aO nO kO) (.slice aX nX kX) (.slice aI nI kI)).below (by simp) ((Below.refl _ _).alloc (by simp) _)
  have C0 : Hid (Six w0 (w.heap.size + 1) [.int .i64 VC, .slice bW nW lW, .int .i64 VG, .slice bO nO lO, .slice bX nX lX, .slice bI nI lI]) := by rw [e0]; have := six_new (w.alloc (.cells #[.int .i64 VC, .slice aW nW kW, .int .i64 VG, .slice aO nO kO, .slice aX nX kX, .slice aI nI kI] 37)) 37 (.int .i64 VC) (.slice bW nW lW) (.int .i64 VG) (.slice bO nO lO) (.slice bX nX lX) (.slice bI nI lI); rw [show (w.alloc (.cells #[.int .i64 VC, .slice aW nW kW, .int .i64 VG, .slice aO nO kO, .slice aX nX kX, .slice aI nI kI] 37)).heap.size = w.heap.size + 1 by simp] at this; exact this
  rw [← e0]
  clear e0
  refine (eqWalkers aW bW nW kW lW W tW _ (row5_below HW.out.1 B0.out) (row5_below HW.out.2 B0.out)).mono ?_
  rintro e w1 ⟨rfl, hb⟩
  have B1 : Hid (Below w.heap.size w w1) := bthen B0.out hb
  have A1 : Hid (Six w1 w.heap.size [.int .i64 VC, .slice aW nW kW, .int .i64 VG, .slice aO nO kO, .slice aX nX kX, .slice aI nI kI]) := A0.out.below (by omega) hb
  have C1 : Hid (Six w1 (w.heap.size + 1) [.int .i64 VC, .slice bW nW lW, .int .i64 VG, .slice bO nO lO, .slice bX nX lX, .slice bI nI lI]) := C0.out.below (by omega) hb
  have z1 : w.heap.size + 2 ≤ w1.heap.size := Nat.le_trans z0 hb.size
  have a0 : w1.cell? ⟨w.heap.size, 0, none⟩ = some (.int .i64 VC) := (A1.out 0 (by decide)).1
  have a1 : w1.cell? ⟨w.heap.size, 1, none⟩ = some (.slice aW nW kW) := (A1.out 1 (by decide)).1
  have a2 : w1.cell? ⟨w.heap.size, 2, none⟩ = some (.int .i64 VG) := (A1.out 2 (by decide)).1
  have a3 : w1.cell? ⟨w.heap.size, 3, none⟩ = some (.slice aO nO kO) := (A1.out 3 (by decide)).1
  have a4 : w1.cell? ⟨w.heap.size, 4, none⟩ = some (.slice aX nX kX) := (A1.out 4 (by decide)).1
  have a5 : w1.cell? ⟨w.heap.size, 5, none⟩ = some (.slice aI nI kI) := (A1.out 5 (by decide)).1
  have c0 : w1.cell? ⟨w.heap.size + 1, 0, none⟩ = some (.int .i64 VC) := (C1.out 0 (by decide)).1
  have c1 : w1.cell? ⟨w.heap.size + 1, 1, none⟩ = some (.slice bW nW lW) := (C1.out 1 (by decide)).1
  have c2 : w1.cell? ⟨w.heap.size + 1, 2, none⟩ = some (.int .i64 VG) := (C1.out 2 (by decide)).1
  have c3 : w1.cell? ⟨w.heap.size + 1, 3, none⟩ = some (.slice bO nO lO) := (C1.out 3 (by decide)).1
  have c4 : w1.cell? ⟨w.heap.size + 1, 4, none⟩ = some (.slice bX nX lX) := (C1.out 4 (by decide)).1
  have c5 : w1.cell? ⟨w.heap.size + 1, 5, none⟩ = some (.slice bI nI lI) := (C1.out 5 (by decide)).1
  clear hb A0 C0 B0
  go_wp2_with fail
  clear a0 c0 a1 c1 a2 c2 a3 c3 a4 c4 a5 c5
  refine (eqOuts aO bO nO kO lO N O tO HN.out _ (rowO_below HO.out.1 B1.out) (rowO_below HO.out.2 B1.out)).mono ?_
  rintro e w2 ⟨rfl, hb⟩
  have B2 : Hid (Below w.heap.size w w2) := bthen B1.out hb
  have A2 : Hid (Six w2 w.heap.size [.int .i64 VC, .slice aW nW kW, .int .i64 VG, .slice aO nO kO, .slice aX nX kX, .slice aI nI kI]) := A1.out.below (by omega) hb
  have C2 : Hid (Six w2 (w.heap.size + 1) [.int .i64 VC, .slice bW nW lW, .int .i64 VG, .slice bO nO lO, .slice bX nX lX, .slice bI nI lI]) := C1.out.below (by omega) hb
  have z2 : w.heap.size + 2 ≤ w2.heap.size := Nat.le_trans z1 hb.size
  have a0 : w2.cell? ⟨w.heap.size, 0, none⟩ = some (.int .i64 VC) := (A2.out 0 (by decide)).1
  have a1 : w2.cell? ⟨w.heap.size, 1, none⟩ = some (.slice aW nW kW) := (A2.out 1 (by decide)).1
  have a2 : w2.cell? ⟨w.heap.size, 2, none⟩ = some (.int .i64 VG) := (A2.out 2 (by decide)).1
  have a3 : w2.cell? ⟨w.heap.size, 3, none⟩ = some (.slice aO nO kO) := (A2.out 3 (by decide)).1
  have a4 : w2.cell? ⟨w.heap.size, 4, none⟩ = some (.slice aX nX kX) := (A2.out 4 (by decide)).1
  have a5 : w2.cell? ⟨w.heap.size, 5, none⟩ = some (.slice aI nI kI) := (A2.out 5 (by decide)).1
  have c0 : w2.cell? ⟨w.heap.size + 1, 0, none⟩ = some (.int .i64 VC) := (C2.out 0 (by decide)).1
  have c1 : w2.cell? ⟨w.heap.size + 1, 1, none⟩ = some (.slice bW nW lW) := (C2.out 1 (by decide)).1
  have c2 : w2.cell? ⟨w.heap.size + 1, 2, none⟩ = some (.int .i64 VG) := (C2.out 2 (by decide)).1
  have c3 : w2.cell? ⟨w.heap.size + 1, 3, none⟩ = some (.slice bO nO lO) := (C2.out 3 (by decide)).1
  have c4 : w2.cell? ⟨w.heap.size + 1, 4, none⟩ = some (.slice bX nX lX) := (C2.out 4 (by decide)).1
  have c5 : w2.cell? ⟨w.heap.size + 1, 5, none⟩ = some (.slice bI nI lI) := (C2.out 5 (by decide)).1
  clear hb A1 C1 B1
  go_wp2_with fail
  clear a0 c0 a1 c1 a2 c2 a3 c3 a4 c4 a5 c5
  refine (eqInts aX bX nX kX lX X tX _ (row1_below HX.out.1 B2.out) (row1_below HX.out.2 B2.out)).mono ?_
  rintro e w3 ⟨rfl, hb⟩
  have B3 : Hid (Below w.heap.size w w3) := bthen B2.out hb
  have A3 : Hid (Six w3 w.heap.size [.int .i64 VC, .slice aW nW kW, .int .i64 VG, .slice aO nO kO, .slice aX nX kX, .slice aI nI kI]) := A2.out.below (by omega) hb
  have C3 : Hid (Six w3 (w.heap.size + 1) [.int .i64 VC, .slice bW nW lW, .int .i64 VG, .slice bO nO lO, .slice bX nX lX, .slice bI nI lI]) := C2.out.below (by omega) hb
  have z3 : w.heap.size + 2 ≤ w3.heap.size := Nat.le_trans z2 hb.size
  have a0 : w3.cell? ⟨w.heap.size, 0, none⟩ = some (.int .i64 VC) := (A3.out 0 (by decide)).1
  have a1 : w3.cell? ⟨w.heap.size, 1, none⟩ = some (.slice aW nW kW) := (A3.out 1 (by decide)).1
  have a2 : w3.cell? ⟨w.heap.size, 2, none⟩ = some (.int .i64 VG) := (A3.out 2 (by decide)).1
  have a3 : w3.cell? ⟨w.heap.size, 3, none⟩ = some (.slice aO nO kO) := (A3.out 3 (by decide)).1
  have a4 : w3.cell? ⟨w.heap.size, 4, none⟩ = some (.slice aX nX kX) := (A3.out 4 (by decide)).1
  have a5 : w3.cell? ⟨w.heap.size, 5, none⟩ = some (.slice aI nI kI) := (A3.out 5 (by decide)).1
  have c0 : w3.cell? ⟨w.heap.size + 1, 0, none⟩ = some (.int .i64 VC) := (C3.out 0 (by decide)).1
  have c1 : w3.cell? ⟨w.heap.size + 1, 1, none⟩ = some (.slice bW nW lW) := (C3.out 1 (by decide)).1
  have c2 : w3.cell? ⟨w.heap.size + 1, 2, none⟩ = some (.int .i64 VG) := (C3.out 2 (by decide)).1
  have c3 : w3.cell? ⟨w.heap.size + 1, 3, none⟩ = some (.slice bO nO lO) := (C3.out 3 (by decide)).1
  have c4 : w3.cell? ⟨w.heap.size + 1, 4, none⟩ = some (.slice bX nX lX) := (C3.out 4 (by decide)).1
  have c5 : w3.cell? ⟨w.heap.size + 1, 5, none⟩ = some (.slice bI nI lI) := (C3.out 5 (by decide)).1
  clear hb A2 C2 B2
  go_wp2_with fail
  clear a0 c0 a1 c1 a2 c2 a3 c3 a4 c4 a5 c5
  refine (eqInts aI bI nI kI lI I tI _ (row1_below HI.out.1 B3.out) (row1_below HI.out.2 B3.out)).mono ?_
  rintro e w4 ⟨rfl, hb⟩
  have B4 : Hid (Below w.heap.size w w4) := bthen B3.out hb
  clear hb
  go_wp2
  go_ret
  exact ⟨rfl, B4.out⟩

/-- The marks from s on, of things of m numbers each. -/
def Mk (m s k j : Nat) : Int := ((s + k * m + j : Nat) : Int)
def M1 (s k : Nat) : Int := ((s + k : Nat) : Int)

theorem put5_grown (w : World) (B k : Nat) (Z : Nat → Nat → Int) : w.grownBy (put5 w B k Z) (some B) ∧ (put5 w B k Z).heap.size = w.heap.size := by
  unfold put5
  refine ⟨((((P8.set_grown _ _ _ _).1.trans (P8.set_grown _ _ _ _).1).trans (P8.set_grown _ _ _ _).1).trans (P8.set_grown _ _ _ _).1).trans (P8.set_grown _ _ _ _).1, ?_⟩
  rw [(P8.set_grown _ _ _ _).2, (P8.set_grown _ _ _ _).2, (P8.set_grown _ _ _ _).2, (P8.set_grown _ _ _ _).2, (P8.set_grown _ _ _ _).2]

set_option maxRecDepth 20000 in
set_option maxHeartbeats 1000000 in
theorem markW (s B n cap : Nat) (Z : Nat → Nat → Int) (hn : n ≤ 2000000) (hs : s ≤ 2000000000) (w : World) (hB : B < w.heap.size) (h : Own5 w B n Z n) :
    Calls Tryz.prog 33 #[.slice (some ⟨B, 0, none⟩) n cap, .int .i64 (s : Int)] w fun e w' => e = .returned (.int .i64 ((s + n * 5 : Nat) : Int)) ∧ Own5 w' B n (Mk 5 s) n ∧ w.grownBy w' (some B) ∧ w'.heap.size = w.heap.size := by
  have H0 : Hid (Own5 w B n (Mk 5 s) 0) := ⟨h.1, fun _ _ h => absurd h (by omega)⟩
  clear h
  go_enter Tryz.func33, Tryz.ntmps33
  go_wp2
  go_loopw [1, 5] (fun c i wr => ∃ k : Nat, k ≤ n ∧ .int .i64 k = i ∧ .int .i64 (Mk 5 s k 0) = c ∧ Own5 wr B n (Mk 5 s) k ∧ w.grownBy wr (some B) ∧ wr.heap.size = w.heap.size) (fun _ i _ => n - (intOf i).toNat)
  case atStart => exact ⟨0, Nat.zero_le _, rfl, by simp [Mk], H0.out, World.grownBy.refl _ _, rfl⟩
  case round =>
    obtain ⟨k, hk, rfl, rfl, hown, hg, hsz⟩ := hrel
    by_cases hkn : k < n
    · have hkn' : (k : Int) < (n : Int) := by omega
      obtain ⟨⟨v0, d0⟩, f0⟩ := own_cell hown hkn 0 (by omega)
      obtain ⟨⟨v1, d1⟩, f1⟩ := own_cell hown hkn 1 (by omega)
      obtain ⟨⟨v2, d2⟩, f2⟩ := own_cell hown hkn 2 (by omega)
      obtain ⟨⟨v3, d3⟩, f3⟩ := own_cell hown hkn 3 (by omega)
      obtain ⟨⟨v4, d4⟩, f4⟩ := own_cell hown hkn 4 (by omega)
      simp only [Nat.add_zero] at d0 f0
      have HO : Hid (Own5 wr B n (Mk 5 s) k) := hown
      have HP : Hid (Own5 (put5 wr B k (Mk 5 s)) B n (Mk 5 s) (k + 1)) := own_put hown hkn
      have HG : Hid (w.grownBy (put5 wr B k (Mk 5 s)) (some B) ∧ (put5 wr B k (Mk 5 s)).heap.size = w.heap.size) := ⟨hg.trans (put5_grown wr B k (Mk 5 s)).1, (put5_grown wr B k (Mk 5 s)).2.trans hsz⟩
      have m1 : IntKind.wrap .i64 ((Mk 5 s k 0) + 1) = (Mk 5 s k 1) := by unfold Mk; simp [IntKind.wrap, IntKind.bits, IntKind.signed]; omega
      have m2 : IntKind.wrap .i64 ((Mk 5 s k 1) + 1) = (Mk 5 s k 2) := by unfold Mk; simp [IntKind.wrap, IntKind.bits, IntKind.signed]; omega
      have m3 : IntKind.wrap .i64 ((Mk 5 s k 2) + 1) = (Mk 5 s k 3) := by unfold Mk; simp [IntKind.wrap, IntKind.bits, IntKind.signed]; omega
      have m4 : IntKind.wrap .i64 ((Mk 5 s k 3) + 1) = (Mk 5 s k 4) := by unfold Mk; simp [IntKind.wrap, IntKind.bits, IntKind.signed]; omega
      have m5 : IntKind.wrap .i64 ((Mk 5 s k 4) + 1) = (Mk 5 s (k + 1) 0) := by unfold Mk; simp [IntKind.wrap, IntKind.bits, IntKind.signed]; omega
      clear hown hg hsz
      go_wp2
      go_roundw
      case rel => exact ⟨k + 1, by omega, by go_num, rfl, HP.out, HG.out.1, HG.out.2⟩
      case measure => simp [intOf]; omega
    · have hkn' : k = n := by omega
      subst hkn'
      have HO : Hid (Own5 wr B k (Mk 5 s) k) := hown
      clear hown
      go_wp2
      go_ret
      exact ⟨rfl, HO.out, hg, hsz⟩

set_option maxRecDepth 20000 in
set_option maxHeartbeats 1000000 in
theorem heldW (s B n cap : Nat) (hn : n ≤ 2000000) (hs : s ≤ 2000000000) (w : World) (hB : B < w.heap.size) (h : Own5 w B n (Mk 5 s) n) :
    Calls Tryz.prog 36 #[.slice (some ⟨B, 0, none⟩) n cap, .int .i64 (s : Int)] w fun e w' => e = .returned (.int .i64 ((s + n * 5 : Nat) : Int)) ∧ Below w.heap.size w w' := by
  have H0 : Hid (Own5 w B n (Mk 5 s) n) := h
  clear h
  go_enter Tryz.func36, Tryz.ntmps36
  go_wp2
  go_loopw [1, 5] (fun c i wr => ∃ k : Nat, k ≤ n ∧ .int .i64 k = i ∧ .int .i64 (Mk 5 s k 0) = c ∧ w = wr) (fun _ i _ => n - (intOf i).toNat)
  case atStart => exact ⟨0, Nat.zero_le _, rfl, by simp [Mk], rfl⟩
  case round =>
    obtain ⟨k, hk, rfl, rfl, rfl⟩ := hrel
    by_cases hkn : k < n
    · have hkn' : (k : Int) < (n : Int) := by omega
      have c0 : w.cell? ⟨B, k * 5, none⟩ = some (.int .i64 (Mk 5 s k 0)) := H0.out.2 k 0 hkn (by omega)
      have c1 : w.cell? ⟨B, k * 5 + 1, none⟩ = some (.int .i64 (Mk 5 s k 1)) := H0.out.2 k 1 hkn (by omega)
      have c2 : w.cell? ⟨B, k * 5 + 2, none⟩ = some (.int .i64 (Mk 5 s k 2)) := H0.out.2 k 2 hkn (by omega)
      have c3 : w.cell? ⟨B, k * 5 + 3, none⟩ = some (.int .i64 (Mk 5 s k 3)) := H0.out.2 k 3 hkn (by omega)
      have c4 : w.cell? ⟨B, k * 5 + 4, none⟩ = some (.int .i64 (Mk 5 s k 4)) := H0.out.2 k 4 hkn (by omega)
      have m1 : IntKind.wrap .i64 ((Mk 5 s k 0) + 1) = (Mk 5 s k 1) := by unfold Mk; simp [IntKind.wrap, IntKind.bits, IntKind.signed]; omega
      have m2 : IntKind.wrap .i64 ((Mk 5 s k 1) + 1) = (Mk 5 s k 2) := by unfold Mk; simp [IntKind.wrap, IntKind.bits, IntKind.signed]; omega
      have m3 : IntKind.wrap .i64 ((Mk 5 s k 2) + 1) = (Mk 5 s k 3) := by unfold Mk; simp [IntKind.wrap, IntKind.bits, IntKind.signed]; omega
      have m4 : IntKind.wrap .i64 ((Mk 5 s k 3) + 1) = (Mk 5 s k 4) := by unfold Mk; simp [IntKind.wrap, IntKind.bits, IntKind.signed]; omega
      have m5 : IntKind.wrap .i64 ((Mk 5 s k 4) + 1) = (Mk 5 s (k + 1) 0) := by unfold Mk; simp [IntKind.wrap, IntKind.bits, IntKind.signed]; omega
      go_wp2
      go_roundw
      case rel => exact ⟨k + 1, by omega, by go_num, rfl, by trivial⟩
      case measure => simp [intOf]; omega
    · have hkn' : k = n := by omega
      subst hkn'
      go_wp2
      go_ret
      exact ⟨rfl, Below.refl _ _⟩

set_option maxRecDepth 20000 in
set_option maxHeartbeats 1000000 in
theorem markP (s B n cap : Nat) (Z : Nat → Nat → Int) (hn : n ≤ 2000000) (hs : s ≤ 2000000000) (w : World) (hB : B < w.heap.size) (h : P8.Own8 w B n Z n) :
    Calls Tryz.prog 61 #[.slice (some ⟨B, 0, none⟩) n cap, .int .i64 (s : Int)] w fun e w' => e = .returned (.int .i64 ((s + n * 8 : Nat) : Int)) ∧ P8.Own8 w' B n (Mk 8 s) n ∧ w.grownBy w' (some B) ∧ w'.heap.size = w.heap.size := by
  have H0 : Hid (P8.Own8 w B n (Mk 8 s) 0) := ⟨h.1, fun _ _ h => absurd h (by omega)⟩
  clear h
  go_enter Tryz.func61, Tryz.ntmps61
  go_wp2
  go_loopw [1, 5] (fun c i wr => ∃ k : Nat, k ≤ n ∧ .int .i64 k = i ∧ .int .i64 (Mk 8 s k 0) = c ∧ P8.Own8 wr B n (Mk 8 s) k ∧ w.grownBy wr (some B) ∧ wr.heap.size = w.heap.size) (fun _ i _ => n - (intOf i).toNat)
  case atStart => exact ⟨0, Nat.zero_le _, rfl, by simp [Mk], H0.out, World.grownBy.refl _ _, rfl⟩
  case round =>
    obtain ⟨k, hk, rfl, rfl, hown, hg, hsz⟩ := hrel
    by_cases hkn : k < n
    · have hkn' : (k : Int) < (n : Int) := by omega
      obtain ⟨⟨v0, d0⟩, f0⟩ := P8.own_cell hown hkn 0 (by omega)
      obtain ⟨⟨v1, d1⟩, f1⟩ := P8.own_cell hown hkn 1 (by omega)
      obtain ⟨⟨v2, d2⟩, f2⟩ := P8.own_cell hown hkn 2 (by omega)
      obtain ⟨⟨v3, d3⟩, f3⟩ := P8.own_cell hown hkn 3 (by omega)
      obtain ⟨⟨v4, d4⟩, f4⟩ := P8.own_cell hown hkn 4 (by omega)
      obtain ⟨⟨v5, d5⟩, f5⟩ := P8.own_cell hown hkn 5 (by omega)
      obtain ⟨⟨v6, d6⟩, f6⟩ := P8.own_cell hown hkn 6 (by omega)
      obtain ⟨⟨v7, d7⟩, f7⟩ := P8.own_cell hown hkn 7 (by omega)
      simp only [Nat.add_zero] at d0 f0
      have HO : Hid (P8.Own8 wr B n (Mk 8 s) k) := hown
      have HP : Hid (P8.Own8 (P8.put8 wr B k (Mk 8 s)) B n (Mk 8 s) (k + 1)) := P8.own_put hown hkn
      have HG : Hid (w.grownBy (P8.put8 wr B k (Mk 8 s)) (some B) ∧ (P8.put8 wr B k (Mk 8 s)).heap.size = w.heap.size) := ⟨hg.trans (P8.put8_grown wr B k (Mk 8 s)).1, (P8.put8_grown wr B k (Mk 8 s)).2.trans hsz⟩
      have m1 : IntKind.wrap .i64 ((Mk 8 s k 0) + 1) = (Mk 8 s k 1) := by unfold Mk; simp [IntKind.wrap, IntKind.bits, IntKind.signed]; omega
      have m2 : IntKind.wrap .i64 ((Mk 8 s k 1) + 1) = (Mk 8 s k 2) := by unfold Mk; simp [IntKind.wrap, IntKind.bits, IntKind.signed]; omega
      have m3 : IntKind.wrap .i64 ((Mk 8 s k 2) + 1) = (Mk 8 s k 3) := by unfold Mk; simp [IntKind.wrap, IntKind.bits, IntKind.signed]; omega
      have m4 : IntKind.wrap .i64 ((Mk 8 s k 3) + 1) = (Mk 8 s k 4) := by unfold Mk; simp [IntKind.wrap, IntKind.bits, IntKind.signed]; omega
      have m5 : IntKind.wrap .i64 ((Mk 8 s k 4) + 1) = (Mk 8 s k 5) := by unfold Mk; simp [IntKind.wrap, IntKind.bits, IntKind.signed]; omega
      have m6 : IntKind.wrap .i64 ((Mk 8 s k 5) + 1) = (Mk 8 s k 6) := by unfold Mk; simp [IntKind.wrap, IntKind.bits, IntKind.signed]; omega
      have m7 : IntKind.wrap .i64 ((Mk 8 s k 6) + 1) = (Mk 8 s k 7) := by unfold Mk; simp [IntKind.wrap, IntKind.bits, IntKind.signed]; omega
      have m8 : IntKind.wrap .i64 ((Mk 8 s k 7) + 1) = (Mk 8 s (k + 1) 0) := by unfold Mk; simp [IntKind.wrap, IntKind.bits, IntKind.signed]; omega
      clear hown hg hsz
      go_wp2
      go_roundw
      case rel => exact ⟨k + 1, by omega, by go_num, rfl, HP.out, HG.out.1, HG.out.2⟩
      case measure => simp [intOf]; omega
    · have hkn' : k = n := by omega
      subst hkn'
      have HO : Hid (P8.Own8 wr B k (Mk 8 s) k) := hown
      clear hown
      go_wp2
      go_ret
      exact ⟨rfl, HO.out, hg, hsz⟩

set_option maxRecDepth 20000 in
set_option maxHeartbeats 1000000 in
theorem heldP (s B n cap : Nat) (hn : n ≤ 2000000) (hs : s ≤ 2000000000) (w : World) (hB : B < w.heap.size) (h : P8.Own8 w B n (Mk 8 s) n) :
    Calls Tryz.prog 62 #[.slice (some ⟨B, 0, none⟩) n cap, .int .i64 (s : Int)] w fun e w' => e = .returned (.int .i64 ((s + n * 8 : Nat) : Int)) ∧ Below w.heap.size w w' := by
  have H0 : Hid (P8.Own8 w B n (Mk 8 s) n) := h
  clear h
  go_enter Tryz.func62, Tryz.ntmps62
  go_wp2
  go_loopw [1, 5] (fun c i wr => ∃ k : Nat, k ≤ n ∧ .int .i64 k = i ∧ .int .i64 (Mk 8 s k 0) = c ∧ w = wr) (fun _ i _ => n - (intOf i).toNat)
  case atStart => exact ⟨0, Nat.zero_le _, rfl, by simp [Mk], rfl⟩
  case round =>
    obtain ⟨k, hk, rfl, rfl, rfl⟩ := hrel
    by_cases hkn : k < n
    · have hkn' : (k : Int) < (n : Int) := by omega
      have c0 : w.cell? ⟨B, k * 8, none⟩ = some (.int .i64 (Mk 8 s k 0)) := H0.out.2 k 0 hkn (by omega)
      have c1 : w.cell? ⟨B, k * 8 + 1, none⟩ = some (.int .i64 (Mk 8 s k 1)) := H0.out.2 k 1 hkn (by omega)
      have c2 : w.cell? ⟨B, k * 8 + 2, none⟩ = some (.int .i64 (Mk 8 s k 2)) := H0.out.2 k 2 hkn (by omega)
      have c3 : w.cell? ⟨B, k * 8 + 3, none⟩ = some (.int .i64 (Mk 8 s k 3)) := H0.out.2 k 3 hkn (by omega)
      have c4 : w.cell? ⟨B, k * 8 + 4, none⟩ = some (.int .i64 (Mk 8 s k 4)) := H0.out.2 k 4 hkn (by omega)
      have c5 : w.cell? ⟨B, k * 8 + 5, none⟩ = some (.int .i64 (Mk 8 s k 5)) := H0.out.2 k 5 hkn (by omega)
      have c6 : w.cell? ⟨B, k * 8 + 6, none⟩ = some (.int .i64 (Mk 8 s k 6)) := H0.out.2 k 6 hkn (by omega)
      have c7 : w.cell? ⟨B, k * 8 + 7, none⟩ = some (.int .i64 (Mk 8 s k 7)) := H0.out.2 k 7 hkn (by omega)
      have m1 : IntKind.wrap .i64 ((Mk 8 s k 0) + 1) = (Mk 8 s k 1) := by unfold Mk; simp [IntKind.wrap, IntKind.bits, IntKind.signed]; omega
      have m2 : IntKind.wrap .i64 ((Mk 8 s k 1) + 1) = (Mk 8 s k 2) := by unfold Mk; simp [IntKind.wrap, IntKind.bits, IntKind.signed]; omega
      have m3 : IntKind.wrap .i64 ((Mk 8 s k 2) + 1) = (Mk 8 s k 3) := by unfold Mk; simp [IntKind.wrap, IntKind.bits, IntKind.signed]; omega
      have m4 : IntKind.wrap .i64 ((Mk 8 s k 3) + 1) = (Mk 8 s k 4) := by unfold Mk; simp [IntKind.wrap, IntKind.bits, IntKind.signed]; omega
      have m5 : IntKind.wrap .i64 ((Mk 8 s k 4) + 1) = (Mk 8 s k 5) := by unfold Mk; simp [IntKind.wrap, IntKind.bits, IntKind.signed]; omega
      have m6 : IntKind.wrap .i64 ((Mk 8 s k 5) + 1) = (Mk 8 s k 6) := by unfold Mk; simp [IntKind.wrap, IntKind.bits, IntKind.signed]; omega
      have m7 : IntKind.wrap .i64 ((Mk 8 s k 6) + 1) = (Mk 8 s k 7) := by unfold Mk; simp [IntKind.wrap, IntKind.bits, IntKind.signed]; omega
      have m8 : IntKind.wrap .i64 ((Mk 8 s k 7) + 1) = (Mk 8 s (k + 1) 0) := by unfold Mk; simp [IntKind.wrap, IntKind.bits, IntKind.signed]; omega
      go_wp2
      go_roundw
      case rel => exact ⟨k + 1, by omega, by go_num, rfl, by trivial⟩
      case measure => simp [intOf]; omega
    · have hkn' : k = n := by omega
      subst hkn'
      go_wp2
      go_ret
      exact ⟨rfl, Below.refl _ _⟩

set_option maxHeartbeats 1000000 in
theorem markI (s B n cap : Nat) (X : Nat → Int) (hn : n ≤ 2000000) (hs : s ≤ 2000000000) (w : World) (hB : B < w.heap.size) (h : Own1 w B n X n) :
    Calls Tryz.prog 35 #[.slice (some ⟨B, 0, none⟩) n cap, .int .i64 (s : Int)] w fun e w' => e = .returned (.int .i64 ((s + n : Nat) : Int)) ∧ Own1 w' B n (M1 s) n ∧ w.grownBy w' (some B) ∧ w'.heap.size = w.heap.size := by
  have H0 : Hid (Own1 w B n (M1 s) 0) := ⟨h.1, fun _ h => absurd h (by omega)⟩
  clear h
  go_enter Tryz.func35, Tryz.ntmps35
  go_wp2
  go_loopw [1, 5] (fun c i wr => ∃ k : Nat, k ≤ n ∧ .int .i64 k = i ∧ .int .i64 (M1 s k) = c ∧ Own1 wr B n (M1 s) k ∧ w.grownBy wr (some B) ∧ wr.heap.size = w.heap.size) (fun _ i _ => n - (intOf i).toNat)
  case atStart => exact ⟨0, Nat.zero_le _, rfl, by simp [M1], H0.out, World.grownBy.refl _ _, rfl⟩
  case round =>
    obtain ⟨k, hk, rfl, rfl, hown, hg, hsz⟩ := hrel
    by_cases hkn : k < n
    · have hkn' : (k : Int) < (n : Int) := by omega
      obtain ⟨d0, f0⟩ := hown.1 k hkn
      obtain ⟨v0, d0⟩ := Option.isSome_iff_exists.1 d0
      have HP : Hid (Own1 (wr.setCell ⟨B, k, none⟩ (.int .i64 (M1 s k))) B n (M1 s) (k + 1)) := own1_next hown hkn
      have HG : Hid (w.grownBy (wr.setCell ⟨B, k, none⟩ (.int .i64 (M1 s k))) (some B) ∧ (wr.setCell ⟨B, k, none⟩ (.int .i64 (M1 s k))).heap.size = w.heap.size) := ⟨hg.trans (P8.set_grown wr B k _).1, (P8.set_grown wr B k _).2.trans hsz⟩
      have m1 : IntKind.wrap .i64 (M1 s k + 1) = M1 s (k + 1) := by unfold M1; simp [IntKind.wrap, IntKind.bits, IntKind.signed]; omega
      clear hown hg hsz
      go_wp2
      go_roundw
      case rel => exact ⟨k + 1, by omega, by go_num, rfl, HP.out, HG.out.1, HG.out.2⟩
      case measure => simp [intOf]; omega
    · have hkn' : k = n := by omega
      subst hkn'
      have HO : Hid (Own1 wr B k (M1 s) k) := hown
      clear hown
      go_wp2
      go_ret
      exact ⟨rfl, HO.out, hg, hsz⟩

set_option maxHeartbeats 1000000 in
theorem heldI (s B n cap : Nat) (hn : n ≤ 2000000) (hs : s ≤ 2000000000) (w : World) (hB : B < w.heap.size) (h : Own1 w B n (M1 s) n) :
    Calls Tryz.prog 38 #[.slice (some ⟨B, 0, none⟩) n cap, .int .i64 (s : Int)] w fun e w' => e = .returned (.int .i64 ((s + n : Nat) : Int)) ∧ Below w.heap.size w w' := by
  have H0 : Hid (Own1 w B n (M1 s) n) := h
  clear h
  go_enter Tryz.func38, Tryz.ntmps38
  go_wp2
  go_loopw [1, 5] (fun c i wr => ∃ k : Nat, k ≤ n ∧ .int .i64 k = i ∧ .int .i64 (M1 s k) = c ∧ w = wr) (fun _ i _ => n - (intOf i).toNat)
  case atStart => exact ⟨0, Nat.zero_le _, rfl, by simp [M1], rfl⟩
  case round =>
    obtain ⟨k, hk, rfl, rfl, rfl⟩ := hrel
    by_cases hkn : k < n
    · have hkn' : (k : Int) < (n : Int) := by omega
      have c0 : w.cell? ⟨B, k, none⟩ = some (.int .i64 (M1 s k)) := H0.out.2 k hkn
      have m1 : IntKind.wrap .i64 (M1 s k + 1) = M1 s (k + 1) := by unfold M1; simp [IntKind.wrap, IntKind.bits, IntKind.signed]; omega
      go_wp2
      go_roundw
      case rel => exact ⟨k + 1, by omega, by go_num, rfl, by trivial⟩
      case measure => simp [intOf]; omega
    · have hkn' : k = n := by omega
      subst hkn'
      go_wp2
      go_ret
      exact ⟨rfl, Below.refl _ _⟩

theorem markW0 (s : Nat) (a : Option Addr) (c : Nat) (w : World) :
    Calls Tryz.prog 33 #[.slice a 0 c, .int .i64 (s : Int)] w fun e w' => e = .returned (.int .i64 (s : Int)) ∧ w' = w := by
  go_enter Tryz.func33, Tryz.ntmps33
  go_wp2
  refine wp_loop_rounds 1 ?_
  rw [rounds_succ]
  go_wp2
  go_ret
  exact ⟨rfl, rfl⟩

theorem heldW0 (s : Nat) (a : Option Addr) (c : Nat) (w : World) :
    Calls Tryz.prog 36 #[.slice a 0 c, .int .i64 (s : Int)] w fun e w' => e = .returned (.int .i64 (s : Int)) ∧ Below w.heap.size w w' := by
  go_enter Tryz.func36, Tryz.ntmps36
  go_wp2
  refine wp_loop_rounds 1 ?_
  rw [rounds_succ]
  go_wp2
  go_ret
  exact ⟨rfl, Below.refl _ _⟩

theorem markP0 (s : Nat) (a : Option Addr) (c : Nat) (w : World) :
    Calls Tryz.prog 61 #[.slice a 0 c, .int .i64 (s : Int)] w fun e w' => e = .returned (.int .i64 (s : Int)) ∧ w' = w := by
  go_enter Tryz.func61, Tryz.ntmps61
  go_wp2
  refine wp_loop_rounds 1 ?_
  rw [rounds_succ]
  go_wp2
  go_ret
  exact ⟨rfl, rfl⟩

theorem heldP0 (s : Nat) (a : Option Addr) (c : Nat) (w : World) :
    Calls Tryz.prog 62 #[.slice a 0 c, .int .i64 (s : Int)] w fun e w' => e = .returned (.int .i64 (s : Int)) ∧ Below w.heap.size w w' := by
  go_enter Tryz.func62, Tryz.ntmps62
  go_wp2
  refine wp_loop_rounds 1 ?_
  rw [rounds_succ]
  go_wp2
  go_ret
  exact ⟨rfl, Below.refl _ _⟩

theorem markI0 (s : Nat) (a : Option Addr) (c : Nat) (w : World) :
    Calls Tryz.prog 35 #[.slice a 0 c, .int .i64 (s : Int)] w fun e w' => e = .returned (.int .i64 (s : Int)) ∧ w' = w := by
  go_enter Tryz.func35, Tryz.ntmps35
  go_wp2
  refine wp_loop_rounds 1 ?_
  rw [rounds_succ]
  go_wp2
  go_ret
  exact ⟨rfl, rfl⟩

theorem heldI0 (s : Nat) (a : Option Addr) (c : Nat) (w : World) :
    Calls Tryz.prog 38 #[.slice a 0 c, .int .i64 (s : Int)] w fun e w' => e = .returned (.int .i64 (s : Int)) ∧ Below w.heap.size w w' := by
  go_enter Tryz.func38, Tryz.ntmps38
  go_wp2
  refine wp_loop_rounds 1 ?_
  rw [rounds_succ]
  go_wp2
  go_ret
  exact ⟨rfl, Below.refl _ _⟩
end Go.Proofs.YtjmjffhommlbnaaGreat
