/- The walks of the law's own helpers on lists of walkers: the marks laid, the marks read, two lists compared; conditions: the list is the call's own. -/
import Derived.Test.YtfigfalmmieelaaOut
namespace Go.Proofs.Ytfigfalmmieelaa
open Go.RowKit Go.Deep Go.Maps
set_option linter.unusedVariables false

/-- The marks. -/
def M (k j : Nat) : Int := ((1 + k * 5 + j : Nat) : Int)

theorem own_grown {w w' : World} {B n k : Nat} {Z : Nat → Nat → Int} {row : Option Nat} (h : Own5 w B n Z k) (hB : B < w.heap.size) (hg : w.grownBy w' row) (hne : some B ≠ row) : Own5 w' B n Z k := by
  have e : w'.heap[B]? = w.heap[B]? := hg.block B hB hne
  refine ⟨fun i hi => ?_, fun k' j hk hj => ?_⟩
  · rw [World.cell?_of_block (a := ⟨B, i, none⟩) e, World.frozen?_of_block (a := ⟨B, i, none⟩) e]; exact h.1 i hi
  · rw [World.cell?_of_block (a := ⟨B, k' * 5 + j, none⟩) e]; exact h.2 k' j hk hj

theorem set_grown (w : World) (B i : Nat) (u : Value) : w.grownBy (w.setCell ⟨B, i, none⟩ u) (some B) ∧ (w.setCell ⟨B, i, none⟩ u).heap.size = w.heap.size :=
  ⟨⟨rfl, rfl, rfl, by simp [World.setCell], fun k _ hne => Below.heap_setCell _ _ _ _ (fun e => hne (by rw [e]))⟩, by simp [World.setCell]⟩

theorem put5_grown (w : World) (B k : Nat) (Z : Nat → Nat → Int) : w.grownBy (put5 w B k Z) (some B) ∧ (put5 w B k Z).heap.size = w.heap.size := by
  unfold put5
  refine ⟨((((set_grown _ _ _ _).1.trans (set_grown _ _ _ _).1).trans (set_grown _ _ _ _).1).trans (set_grown _ _ _ _).1).trans (set_grown _ _ _ _).1, ?_⟩
  rw [(set_grown _ _ _ _).2, (set_grown _ _ _ _).2, (set_grown _ _ _ _).2, (set_grown _ _ _ _).2, (set_grown _ _ _ _).2]

set_option maxRecDepth 20000 in
set_option maxHeartbeats 1000000 in
theorem mark (B n cap : Nat) (Z : Nat → Nat → Int) (hn : n ≤ 2000000) (w : World) (hB : B < w.heap.size) (h : Own5 w B n Z n) :
    Calls Try.prog 17 #[.slice (some ⟨B, 0, none⟩) n cap, .int .i64 1] w fun e w' => e = .returned (.int .i64 ((1 + n * 5 : Nat) : Int)) ∧ Own5 w' B n M n ∧ w.grownBy w' (some B) ∧ w'.heap.size = w.heap.size := by
  have H0 : Hid (Own5 w B n M 0) := ⟨h.1, fun _ _ h => absurd h (by omega)⟩
  clear h
  go_enter Try.func17, Try.ntmps17
  go_wp2
  go_loopw [1, 5] (fun c i wr => ∃ k : Nat, k ≤ n ∧ .int .i64 k = i ∧ .int .i64 (M k 0) = c ∧ Own5 wr B n M k ∧ w.grownBy wr (some B) ∧ wr.heap.size = w.heap.size) (fun _ i _ => n - (intOf i).toNat)
  case atStart => exact ⟨0, Nat.zero_le _, rfl, rfl, H0.out, World.grownBy.refl _ _, rfl⟩
  case round =>
    obtain ⟨k, hk, rfl, rfl, hown, hg, hsz⟩ := hrel
    by_cases hkn : k < n
    · have hkn' : (k : Int) < (n : Int) := by omega
      obtain ⟨⟨v0, d0⟩, f0⟩ := own_cell hown hkn 0 (by omega)
      obtain ⟨⟨v1, d1⟩, f1⟩ := own_cell hown hkn 1 (by omega)
      obtain ⟨⟨v2, d2⟩, f2⟩ := own_cell hown hkn 2 (by omega)
      obtain ⟨⟨v3, d3⟩, f3⟩ := own_cell hown hkn 3 (by omega)
      obtain ⟨⟨v4, d4⟩, f4⟩ := own_cell hown hkn 4 (by omega)
      simp only [Nat.add_zero] at d0 f0
      have HO : Hid (Own5 wr B n M k) := hown
      have HP : Hid (Own5 (put5 wr B k M) B n M (k + 1)) := own_put hown hkn
      have HG : Hid (w.grownBy (put5 wr B k M) (some B) ∧ (put5 wr B k M).heap.size = w.heap.size) := ⟨hg.trans (put5_grown wr B k M).1, (put5_grown wr B k M).2.trans hsz⟩
      have m1 : IntKind.wrap .i64 (M k 0 + 1) = M k 1 := by unfold M; simp [IntKind.wrap, IntKind.bits, IntKind.signed]; omega
      have m2 : IntKind.wrap .i64 (M k 1 + 1) = M k 2 := by unfold M; simp [IntKind.wrap, IntKind.bits, IntKind.signed]; omega
      have m3 : IntKind.wrap .i64 (M k 2 + 1) = M k 3 := by unfold M; simp [IntKind.wrap, IntKind.bits, IntKind.signed]; omega
      have m4 : IntKind.wrap .i64 (M k 3 + 1) = M k 4 := by unfold M; simp [IntKind.wrap, IntKind.bits, IntKind.signed]; omega
      have m5 : IntKind.wrap .i64 (M k 4 + 1) = M (k + 1) 0 := by unfold M; simp [IntKind.wrap, IntKind.bits, IntKind.signed]; omega
      clear hown hg hsz
      go_wp2
      go_roundw
      case rel => exact ⟨k + 1, by omega, by go_num, rfl, HP.out, HG.out.1, HG.out.2⟩
      case measure => simp [intOf]; omega
    · have hkn' : k = n := by omega
      subst hkn'
      have HO : Hid (Own5 wr B k M k) := hown
      clear hown
      go_wp2
      go_ret
      exact ⟨rfl, HO.out, hg, hsz⟩

set_option maxRecDepth 20000 in
set_option maxHeartbeats 1000000 in
theorem held (B n cap : Nat) (hn : n ≤ 2000000) (w : World) (hB : B < w.heap.size) (h : Own5 w B n M n) :
    Calls Try.prog 18 #[.slice (some ⟨B, 0, none⟩) n cap, .int .i64 1] w fun e w' => e = .returned (.int .i64 ((1 + n * 5 : Nat) : Int)) ∧ Below w.heap.size w w' := by
  have H0 : Hid (Own5 w B n M n) := h
  clear h
  go_enter Try.func18, Try.ntmps18
  go_wp2
  go_loopw [1, 5] (fun c i wr => ∃ k : Nat, k ≤ n ∧ .int .i64 k = i ∧ .int .i64 (M k 0) = c ∧ w = wr) (fun _ i _ => n - (intOf i).toNat)
  case atStart => exact ⟨0, Nat.zero_le _, rfl, rfl, rfl⟩
  case round =>
    obtain ⟨k, hk, rfl, rfl, rfl⟩ := hrel
    by_cases hkn : k < n
    · have hkn' : (k : Int) < (n : Int) := by omega
      have c0 : w.cell? ⟨B, k * 5, none⟩ = some (.int .i64 (M k 0)) := H0.out.2 k 0 hkn (by omega)
      have c1 : w.cell? ⟨B, k * 5 + 1, none⟩ = some (.int .i64 (M k 1)) := H0.out.2 k 1 hkn (by omega)
      have c2 : w.cell? ⟨B, k * 5 + 2, none⟩ = some (.int .i64 (M k 2)) := H0.out.2 k 2 hkn (by omega)
      have c3 : w.cell? ⟨B, k * 5 + 3, none⟩ = some (.int .i64 (M k 3)) := H0.out.2 k 3 hkn (by omega)
      have c4 : w.cell? ⟨B, k * 5 + 4, none⟩ = some (.int .i64 (M k 4)) := H0.out.2 k 4 hkn (by omega)
      have m1 : IntKind.wrap .i64 (M k 0 + 1) = M k 1 := by unfold M; simp [IntKind.wrap, IntKind.bits, IntKind.signed]; omega
      have m2 : IntKind.wrap .i64 (M k 1 + 1) = M k 2 := by unfold M; simp [IntKind.wrap, IntKind.bits, IntKind.signed]; omega
      have m3 : IntKind.wrap .i64 (M k 2 + 1) = M k 3 := by unfold M; simp [IntKind.wrap, IntKind.bits, IntKind.signed]; omega
      have m4 : IntKind.wrap .i64 (M k 3 + 1) = M k 4 := by unfold M; simp [IntKind.wrap, IntKind.bits, IntKind.signed]; omega
      have m5 : IntKind.wrap .i64 (M k 4 + 1) = M (k + 1) 0 := by unfold M; simp [IntKind.wrap, IntKind.bits, IntKind.signed]; omega
      go_wp2
      go_roundw
      case rel => exact ⟨k + 1, by omega, by go_num, rfl, by trivial⟩
      case measure => simp [intOf]; omega
    · have hkn' : k = n := by omega
      subst hkn'
      go_wp2
      go_ret
      exact ⟨rfl, Below.refl _ _⟩

theorem Walks.kept {w w' : World} {base : Nat} {v : Value} {L : List Nat} {Z : Nat → Nat → Int} {row : Option Nat} (h : Walks w base v L Z) (hg : w.grownBy w' row) (hne : v.ownBlock ≠ row) : Walks w' base v L Z := by
  obtain ⟨g, cap, hv, ho⟩ := h
  exact ⟨g, cap, hv, ho.kept hg (.inr hne)⟩

theorem Walks.below {w w' : World} {base : Nat} {v : Value} {L : List Nat} {Z : Nat → Nat → Int} (h : Walks w base v L Z) (hb : Below w.heap.size w w') : Walks w' base v L Z := by
  obtain ⟨g, cap, hv, ho⟩ := h
  exact ⟨g, cap, hv, ho.kept (grown_of_below hb) (by subst hv; simp [Value.ownBlock])⟩

theorem Walks.block {w : World} {base : Nat} {v : Value} {L : List Nat} {Z : Nat → Nat → Int} (h : Walks w base v L Z) : ∃ g, v.ownBlock = some g ∧ base ≤ g ∧ g < w.heap.size := by
  obtain ⟨g, cap, rfl, ho⟩ := h
  exact ⟨g, rfl, ho.lt g rfl⟩

theorem Walks.own {w : World} {base : Nat} {v : Value} {L : List Nat} {Z : Nat → Nat → Int} (h : Walks w base v L Z) : ∃ g cap, v = .slice (some ⟨g, 0, none⟩) L.length cap ∧ base ≤ g ∧ g < w.heap.size ∧ Own5 w g L.length (fun k j => Z L[k]! j) L.length := by
  obtain ⟨g, cap, rfl, ho⟩ := h
  refine ⟨g, cap, rfl, (ho.lt g rfl).1, (ho.lt g rfl).2, fun i hi => ⟨?_, ho.frozenAt i⟩, fun k j hk hj => ?_⟩
  · rw [ho.cellAt i hi]
    have : i < (L.flatMap (five Z)).length := by rw [ho.1]; exact hi
    rw [List.getElem?_eq_getElem this]
    rfl
  · rw [ho.cellAt (k * 5 + j) (by omega), get_flat (m := 5) (five Z) (fun _ => rfl) L k j hk hj]
    match j, hj with
    | 0, _ => rfl
    | 1, _ => rfl
    | 2, _ => rfl
    | 3, _ => rfl
    | 4, _ => rfl

theorem eqWalks {base1 base2 : Nat} {v1 v2 : Value} {L : List Nat} {Z : Nat → Nat → Int} {w : World} (h1 : Walks w base1 v1 L Z) (h2 : Walks w base2 v2 L Z) (hL : L.length ≤ 2000000) :
    Calls Try.prog 16 #[v1, v2] w fun e w' => e = .returned (.bool true) ∧ Below w.heap.size w w' := by
  obtain ⟨g1, c1, rfl, _, l1, o1⟩ := h1.own
  obtain ⟨g2, c2, rfl, _, l2, o2⟩ := h2.own
  exact eqList g1 0 c1 g2 0 c2 L.length _ hL w l1 l2 (own_row o1) (own_row o2)
end Go.Proofs.Ytfigfalmmieelaa
