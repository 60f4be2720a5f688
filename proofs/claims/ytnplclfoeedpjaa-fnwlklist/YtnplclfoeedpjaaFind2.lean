/- The walks of WlkFind, the program's and the model's: the first walker with a number and true, or nothing and false; conditions: the list lies in memory as a row of structs of five integers. -/
import Derived.Test.YtnplclfoeedpjaaFind1
namespace Go.Proofs.Ytnplclfoeedpjaa
open Go.RowKit Go.Deep Go.Maps
set_option linter.unusedVariables false

/-- Five cells of a block, written anew. -/
def putR (W : World) (b : Nat) (x0 x1 x2 x3 x4 : Value) : World :=
  ((((W.setCell ⟨b, 0, none⟩ x0).setCell ⟨b, 1, none⟩ x1).setCell ⟨b, 2, none⟩ x2).setCell ⟨b, 3, none⟩ x3).setCell ⟨b, 4, none⟩ x4
theorem putR_cells {W : World} {b : Nat} {y0 y1 y2 y3 y4 : Value} (c0 : W.cell? ⟨b, 0, none⟩ = some y0) (c1 : W.cell? ⟨b, 1, none⟩ = some y1) (c2 : W.cell? ⟨b, 2, none⟩ = some y2) (c3 : W.cell? ⟨b, 3, none⟩ = some y3) (c4 : W.cell? ⟨b, 4, none⟩ = some y4) (x0 x1 x2 x3 x4 : Value) :
    (putR W b x0 x1 x2 x3 x4).cell? ⟨b, 0, none⟩ = some x0 ∧ (putR W b x0 x1 x2 x3 x4).cell? ⟨b, 1, none⟩ = some x1 ∧ (putR W b x0 x1 x2 x3 x4).cell? ⟨b, 2, none⟩ = some x2 ∧ (putR W b x0 x1 x2 x3 x4).cell? ⟨b, 3, none⟩ = some x3 ∧ (putR W b x0 x1 x2 x3 x4).cell? ⟨b, 4, none⟩ = some x4 := by
  have h : ∀ j, j < 5 → (W.cell? ⟨b, 0 + j, none⟩).isSome = true := by
    intro j hj
    match j, hj with
    | 0, _ => simp [c0]
    | 1, _ => simp [c1]
    | 2, _ => simp [c2]
    | 3, _ => simp [c3]
    | 4, _ => simp [c4]
  have e : putR W b x0 x1 x2 x3 x4 = W.setCells b 0 [x0, x1, x2, x3, x4] := rfl
  rw [e]
  have g := World.cell?_setCells_in b [x0, x1, x2, x3, x4] 0 W h
  exact ⟨g 0 (by simp), g 1 (by simp), g 2 (by simp), g 3 (by simp), g 4 (by simp)⟩
theorem putR_below {B : Nat} {a W : World} (h : Below B a W) {b : Nat} (hb : B ≤ b) (x0 x1 x2 x3 x4 : Value) : Below B a (putR W b x0 x1 x2 x3 x4) :=
  ((((h.setCell (p := ⟨b, 0, none⟩) hb _).setCell (p := ⟨b, 1, none⟩) hb _).setCell (p := ⟨b, 2, none⟩) hb _).setCell (p := ⟨b, 3, none⟩) hb _).setCell (p := ⟨b, 4, none⟩) hb _

/-- m is the first whose number is z. -/
def First (Z : Nat → Nat → Int) (n : Nat) (z : Int) (m : Nat) : Prop := m < n ∧ Z m 0 = z ∧ ∀ j, j < m → ¬ Z j 0 = z
/-- None has the number z. -/
def Noone (Z : Nat → Nat → Int) (n : Nat) (z : Int) : Prop := ∀ j, j < n → ¬ Z j 0 = z
theorem first_or (Z : Nat → Nat → Int) (z : Int) : ∀ n, Noone Z n z ∨ ∃ m, First Z n z m
  | 0 => .inl (fun j h => absurd h (by omega))
  | n + 1 => by
    rcases first_or Z z n with h | ⟨m, h1, h2, h3⟩
    · by_cases e : Z n 0 = z
      · exact .inr ⟨n, by omega, e, h⟩
      · refine .inl (fun j hj => ?_)
        by_cases hjn : j = n
        · subst hjn; exact e
        · exact h j (by omega)
    · exact .inr ⟨m, by omega, h2, h3⟩
theorem grp_none {Z : Nat → Nat → Int} {z : Int} : ∀ n, Noone Z n z → grp Z n z = []
  | 0, _ => rfl
  | n + 1, h => by
    have e : ¬ Z n 0 = z := h n (by omega)
    simp only [grp, if_neg e, List.append_nil]
    exact grp_none n (fun j hj => h j (by omega))
theorem grp_first {Z : Nat → Nat → Int} {z : Int} {m : Nat} : ∀ n, First Z n z m → ∃ r, grp Z n z = six Z m ++ r
  | 0, h => absurd h.1 (by omega)
  | n + 1, h => by
    by_cases e : m = n
    · subst e
      refine ⟨[], ?_⟩
      simp only [grp, if_pos h.2.1, grp_none m h.2.2, List.nil_append, List.append_nil]
    · obtain ⟨r, hr⟩ := grp_first n ⟨by have := h.1; omega, h.2⟩
      exact ⟨r ++ (if Z n 0 = z then six Z n else []), by simp only [grp, hr, List.append_assoc]⟩

set_option maxHeartbeats 1000000 in
theorem find_impl_yes (z : Int) (b o n cap m : Nat) (Z : Nat → Nat → Int) (hn : n ≤ 1048576) (w : World) (hb : b < w.heap.size) (hzw : (Lit.int .i64 z).wf = true) (hF : First Z n z m)
    (hr : ∀ k j, k < n → j < 5 → w.cell? ⟨b, o + k * 5 + j, none⟩ = some (.int .i64 (Z k j))) (hwf : ∀ k j, k < n → j < 5 → (Lit.int .i64 (Z k j)).wf = true) :
    Calls Try.prog 8 #[.slice (some ⟨b, o, none⟩) n cap, .int .i64 z] w fun e w' => e = .returned (.tuple #[.agg #[.int .i64 (Z m 0), .int .i64 (Z m 1), .int .i64 (Z m 2), .int .i64 (Z m 3), .int .i64 (Z m 4)], .bool true]) ∧ Below w.heap.size w w' := by
  have hr' : ∀ k j, k < n → j < 5 → (w.alloc (.cells #[.int .i64 0, .int .i64 0, .int .i64 0, .int .i64 0, .int .i64 0] 25)).cell? ⟨b, o + k * 5 + j, none⟩ = some (.int .i64 (Z k j)) := fun k j hk hj => (World.cell?_alloc_past _ _ _ hb).trans (hr k j hk hj)
  have HB : Hid (∀ k j, k < n → j < 5 → (w.alloc (.cells #[.int .i64 0, .int .i64 0, .int .i64 0, .int .i64 0, .int .i64 0] 25)).cell? ⟨b, o + k * 5 + j, none⟩ = some (.int .i64 (Z k j))) := hr'
  have HW : Hid (∀ k j, k < n → j < 5 → (Lit.int .i64 (Z k j)).wf = true) := hwf
  clear hr hr' hwf
  go_enter Try.func8, Try.ntmps8
  go_wp2_with fail
  refine (byNumber .nilFunc b o n cap Z hn _ (by simp; omega) HB.out HW.out).mono ?_
  rintro e w1 ⟨rfl, hG, hs1, hb1⟩
  have c0 : w1.cell? ⟨w.heap.size, 0, none⟩ = some (.int .i64 0) := (hb1.cell (p := ⟨w.heap.size, 0, none⟩) (by simp)).trans (by simp)
  have f0 : w1.frozen? ⟨w.heap.size, 0, none⟩ = false := (hb1.frozen (p := ⟨w.heap.size, 0, none⟩) (by simp)).trans (by simp)
  have c1 : w1.cell? ⟨w.heap.size, 1, none⟩ = some (.int .i64 0) := (hb1.cell (p := ⟨w.heap.size, 1, none⟩) (by simp)).trans (by simp)
  have f1 : w1.frozen? ⟨w.heap.size, 1, none⟩ = false := (hb1.frozen (p := ⟨w.heap.size, 1, none⟩) (by simp)).trans (by simp)
  have c2 : w1.cell? ⟨w.heap.size, 2, none⟩ = some (.int .i64 0) := (hb1.cell (p := ⟨w.heap.size, 2, none⟩) (by simp)).trans (by simp)
  have f2 : w1.frozen? ⟨w.heap.size, 2, none⟩ = false := (hb1.frozen (p := ⟨w.heap.size, 2, none⟩) (by simp)).trans (by simp)
  have c3 : w1.cell? ⟨w.heap.size, 3, none⟩ = some (.int .i64 0) := (hb1.cell (p := ⟨w.heap.size, 3, none⟩) (by simp)).trans (by simp)
  have f3 : w1.frozen? ⟨w.heap.size, 3, none⟩ = false := (hb1.frozen (p := ⟨w.heap.size, 3, none⟩) (by simp)).trans (by simp)
  have c4 : w1.cell? ⟨w.heap.size, 4, none⟩ = some (.int .i64 0) := (hb1.cell (p := ⟨w.heap.size, 4, none⟩) (by simp)).trans (by simp)
  have f4 : w1.frozen? ⟨w.heap.size, 4, none⟩ = false := (hb1.frozen (p := ⟨w.heap.size, 4, none⟩) (by simp)).trans (by simp)
  have B1 : Below w.heap.size w w1 := bthen ((Below.refl _ _).alloc (by simp) _) hb1
  clear HB HW hb1
  have hsA : (w.alloc (.cells #[.int .i64 0, .int .i64 0, .int .i64 0, .int .i64 0, .int .i64 0] 25)).heap.size = w.heap.size + 1 := by simp
  rw [hsA] at hG hs1
  clear hsA
  obtain ⟨v, q, hlook, ho, _⟩ := hG.look z hzw
  obtain ⟨r, hg⟩ := grp_first n hF
  rw [hg] at ho
  have hq : 1 ≤ q := by have := ho.1; simp [six] at this; omega
  rcases ho.2 with ⟨_, h0⟩ | ⟨g, cp, cur, rfl, hbg, _⟩
  · omega
  · have cs := ho.cells (g := g) rfl
    have d0 : w1.cell? ⟨g, 0, none⟩ = some (.int .i64 (Z m 0)) := by simpa [Addr.add] using cs 0 _ rfl
    have d1 : w1.cell? ⟨g, 1, none⟩ = some (.int .i64 (Z m 1)) := by simpa [Addr.add] using cs 1 _ rfl
    have d2 : w1.cell? ⟨g, 2, none⟩ = some (.int .i64 (Z m 2)) := by simpa [Addr.add] using cs 2 _ rfl
    have d3 : w1.cell? ⟨g, 3, none⟩ = some (.int .i64 (Z m 3)) := by simpa [Addr.add] using cs 3 _ rfl
    have d4 : w1.cell? ⟨g, 4, none⟩ = some (.int .i64 (Z m 4)) := by simpa [Addr.add] using cs 4 _ rfl
    have hq0 : ((q : Int) == 0) = false := beq_eq_false_iff_ne.2 (by omega)
    have hgw : ¬ g = w.heap.size := by omega
    have hgw' : ¬ w.heap.size = g := by omega
    have hqi : (0 : Int) < (q : Int) := by omega
    clear cs ho hg hG hF
    go_wp2
    obtain ⟨r0, r1, r2, r3, r4⟩ := putR_cells c0 c1 c2 c3 c4 (.int .i64 (Z m 0)) (.int .i64 (Z m 1)) (.int .i64 (Z m 2)) (.int .i64 (Z m 3)) (.int .i64 (Z m 4))
    unfold putR at r0 r1 r2 r3 r4
    refine bodyPost_ret (v := .tuple #[.agg #[.int .i64 (Z m 0), .int .i64 (Z m 1), .int .i64 (Z m 2), .int .i64 (Z m 3), .int .i64 (Z m 4)], .bool true]) ?_ rfl ⟨rfl, putR_below B1 (Nat.le_refl _) (.int .i64 (Z m 0)) (.int .i64 (Z m 1)) (.int .i64 (Z m 2)) (.int .i64 (Z m 3)) (.int .i64 (Z m 4))⟩
    simp [results, Try.results8, go_sem, r0, r1, r2, r3, r4]

set_option maxHeartbeats 1000000 in
theorem find_impl_no (z : Int) (b o n cap : Nat) (Z : Nat → Nat → Int) (hn : n ≤ 1048576) (w : World) (hb : b < w.heap.size) (hzw : (Lit.int .i64 z).wf = true) (hF : Noone Z n z)
    (hr : ∀ k j, k < n → j < 5 → w.cell? ⟨b, o + k * 5 + j, none⟩ = some (.int .i64 (Z k j))) (hwf : ∀ k j, k < n → j < 5 → (Lit.int .i64 (Z k j)).wf = true) :
    Calls Try.prog 8 #[.slice (some ⟨b, o, none⟩) n cap, .int .i64 z] w fun e w' => e = .returned (.tuple #[.agg #[.int .i64 0, .int .i64 0, .int .i64 0, .int .i64 0, .int .i64 0], .bool false]) ∧ Below w.heap.size w w' := by
  have hr' : ∀ k j, k < n → j < 5 → (w.alloc (.cells #[.int .i64 0, .int .i64 0, .int .i64 0, .int .i64 0, .int .i64 0] 25)).cell? ⟨b, o + k * 5 + j, none⟩ = some (.int .i64 (Z k j)) := fun k j hk hj => (World.cell?_alloc_past _ _ _ hb).trans (hr k j hk hj)
  have HB : Hid (∀ k j, k < n → j < 5 → (w.alloc (.cells #[.int .i64 0, .int .i64 0, .int .i64 0, .int .i64 0, .int .i64 0] 25)).cell? ⟨b, o + k * 5 + j, none⟩ = some (.int .i64 (Z k j))) := hr'
  have HW : Hid (∀ k j, k < n → j < 5 → (Lit.int .i64 (Z k j)).wf = true) := hwf
  clear hr hr' hwf
  go_enter Try.func8, Try.ntmps8
  go_wp2_with fail
  refine (byNumber .nilFunc b o n cap Z hn _ (by simp; omega) HB.out HW.out).mono ?_
  rintro e w1 ⟨rfl, hG, hs1, hb1⟩
  have c0 : w1.cell? ⟨w.heap.size, 0, none⟩ = some (.int .i64 0) := (hb1.cell (p := ⟨w.heap.size, 0, none⟩) (by simp)).trans (by simp)
  have f0 : w1.frozen? ⟨w.heap.size, 0, none⟩ = false := (hb1.frozen (p := ⟨w.heap.size, 0, none⟩) (by simp)).trans (by simp)
  have c1 : w1.cell? ⟨w.heap.size, 1, none⟩ = some (.int .i64 0) := (hb1.cell (p := ⟨w.heap.size, 1, none⟩) (by simp)).trans (by simp)
  have f1 : w1.frozen? ⟨w.heap.size, 1, none⟩ = false := (hb1.frozen (p := ⟨w.heap.size, 1, none⟩) (by simp)).trans (by simp)
  have c2 : w1.cell? ⟨w.heap.size, 2, none⟩ = some (.int .i64 0) := (hb1.cell (p := ⟨w.heap.size, 2, none⟩) (by simp)).trans (by simp)
  have f2 : w1.frozen? ⟨w.heap.size, 2, none⟩ = false := (hb1.frozen (p := ⟨w.heap.size, 2, none⟩) (by simp)).trans (by simp)
  have c3 : w1.cell? ⟨w.heap.size, 3, none⟩ = some (.int .i64 0) := (hb1.cell (p := ⟨w.heap.size, 3, none⟩) (by simp)).trans (by simp)
  have f3 : w1.frozen? ⟨w.heap.size, 3, none⟩ = false := (hb1.frozen (p := ⟨w.heap.size, 3, none⟩) (by simp)).trans (by simp)
  have c4 : w1.cell? ⟨w.heap.size, 4, none⟩ = some (.int .i64 0) := (hb1.cell (p := ⟨w.heap.size, 4, none⟩) (by simp)).trans (by simp)
  have f4 : w1.frozen? ⟨w.heap.size, 4, none⟩ = false := (hb1.frozen (p := ⟨w.heap.size, 4, none⟩) (by simp)).trans (by simp)
  have B1 : Below w.heap.size w w1 := bthen ((Below.refl _ _).alloc (by simp) _) hb1
  clear HB HW hb1
  have hsA : (w.alloc (.cells #[.int .i64 0, .int .i64 0, .int .i64 0, .int .i64 0, .int .i64 0] 25)).heap.size = w.heap.size + 1 := by simp
  rw [hsA] at hG hs1
  clear hsA
  obtain ⟨v, q, hlook, ho, _⟩ := hG.look z hzw
  rw [grp_none n hF] at ho
  have hq : q = 0 := by have := ho.1; simp at this; omega
  subst hq
  obtain ⟨a, cp, rfl⟩ : ∃ a cp, v = .slice a 0 cp := by
    rcases ho.2 with ⟨e, _⟩ | ⟨g, cp, cur, e, _⟩
    · exact ⟨_, _, e⟩
    · exact ⟨_, _, e⟩
  clear ho hG hF
  go_wp2
  obtain ⟨r0, r1, r2, r3, r4⟩ := putR_cells c0 c1 c2 c3 c4 (.int .i64 0) (.int .i64 0) (.int .i64 0) (.int .i64 0) (.int .i64 0)
  unfold putR at r0 r1 r2 r3 r4
  refine bodyPost_ret (v := .tuple #[.agg #[.int .i64 0, .int .i64 0, .int .i64 0, .int .i64 0, .int .i64 0], .bool false]) ?_ rfl ⟨rfl, putR_below B1 (Nat.le_refl _) (.int .i64 0) (.int .i64 0) (.int .i64 0) (.int .i64 0) (.int .i64 0)⟩
  simp [results, Try.results8, go_sem, r0, r1, r2, r3, r4]
end Go.Proofs.Ytnplclfoeedpjaa
