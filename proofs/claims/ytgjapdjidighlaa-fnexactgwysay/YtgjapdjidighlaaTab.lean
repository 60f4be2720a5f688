/- Tables (which server has which cell, in which age): how they lie, how the laws copy, compare and mark them; conditions: the lists lie in memory. -/
import Derived.Test.YtgjapdjidighlaaInts
namespace Go.Proofs.Ytgjapdjidighlaa
open Go.RowKit Go.ChangeShapes Go.WideShapes Go.ChangeAt Go.Deep
set_option linter.unusedVariables false

/-- What a table holds: so many servers, so many ages. -/
structure TV where
  nS : Nat
  S : Nat → Int
  nA : Nat
  A : Nat → Int
def TV.short (T : TV) (m : Nat) : Prop := T.nS ≤ m ∧ T.nA ≤ m
/-- The value v is a table that holds T, in w. -/
def TabAt (w : World) (v : Value) (T : TV) : Prop :=
  ∃ aS kS aA kA, v = .agg #[.slice aS T.nS kS, .slice aA T.nA kA] ∧ Row1 w aS T.nS T.S ∧ Row1 w aA T.nA T.A
theorem TabAt.below {w w' : World} {v : Value} {T : TV} (h : TabAt w v T) (hb : Below w.heap.size w w') : TabAt w' v T := by
  obtain ⟨aS, kS, aA, kA, e, h1, h2⟩ := h
  exact ⟨aS, kS, aA, kA, e, row1_below h1 hb, row1_below h2 hb⟩

section
variable {H : Type} {enc : TypeId × Value → H} {P : Program} {w : World} {base : Nat} {spare : Nat → Bool} {held : Bool}
/-- A table by value. -/
theorem open_tab {b0 : Nat} {r : Reach} {t tX ti : TypeId} {f0 f1 : Field} {v : Value} {d : DataW H} {pl : List MemPlace}
    (ht : P.underlying t = some (.struct #[f0, f1])) (hct : P.cellsOf t = 2) (q0 : f0.offset = 0 ∧ f0.type = tX) (q1 : f1.offset = 1 ∧ f1.type = tX)
    (hX : P.underlying tX = some (.slice ti)) (hcX : P.cellsOf tX = 1) (hi : P.underlying ti = some (.int .i64)) (hi1 : P.cellsOf ti = 1)
    (hv : Value.okWide P w r b0 t v) (h : DataW.Trod enc P w base spare held t v d pl) : ∃ T, TabAt w v T ∧ T.short maxLen := by
  obtain ⟨cs, rfl, hsize⟩ := okWide_struct ht hv
  obtain ⟨fuel, hf⟩ := h
  obtain ⟨xs, n, _, _, hl, hlen, hfld⟩ := DataW.trod_struct ht hf
  simp only [Value.cells] at hl hfld
  rw [hct] at hl
  have one : ∀ (i : Nat) (f : Field) (ty : TypeId), (#[f0, f1] : Array Field)[i]? = some f → f.offset = i ∧ f.type = ty → P.cellsOf ty = 1 → (hi : i < cs.toList.length) → ∃ x, DataW.trod enc P w base spare held n ty [cs.toList[i]] = some x := by
    intro i f ty hg ho h1 hi
    have := hfld i f hg
    rw [ho.1, ho.2, h1] at this
    have e : (cs.toList.drop i).take 1 = [cs.toList[i]] := by
      rw [List.drop_eq_getElem_cons hi, List.take_succ_cons, List.take_zero]
    rw [e] at this
    have hx : i < xs.length := by rw [hlen]; exact (by rw [hl] at hi; simpa using hi)
    rw [List.getElem?_eq_getElem hx] at this
    exact ⟨_, this⟩
  obtain ⟨x0, t0⟩ := one 0 f0 tX rfl q0 hcX (by omega)
  obtain ⟨x1, t1⟩ := one 1 f1 tX rfl q1 hcX (by omega)
  obtain ⟨aX, nX, kX, X, e0, lX, rX⟩ := open_row1 hX hi hi1 t0
  obtain ⟨aI, nI, kI, I, e1, lI, rI⟩ := open_row1 hX hi hi1 t1
  simp only [List.cons.injEq, and_true] at e0 e1
  refine ⟨⟨nX, X, nI, I⟩, ⟨aX, kX, aI, kI, ?_, rX, rI⟩, lX, lI⟩
  congr 1
  apply Array.ext'
  apply List.ext_getElem?
  intro i
  match i with
  | 0 => rw [List.getElem?_eq_getElem (by omega), e0]; rfl
  | 1 => rw [List.getElem?_eq_getElem (by omega), e1]; rfl
  | i + 2 => rw [List.getElem?_eq_none (by omega), List.getElem?_eq_none (by simp)]
end

/-- v is a table that holds T, each of its lists in a block of its own, between lo and hi. -/
def OwnT (lo hi : Nat) (w : World) (v : Value) (T : TV) : Prop :=
  ∃ v0 v1 g0 g1, v = .agg #[v0, v1] ∧ RI lo hi w v0 T.nS T.S g0 ∧ RI lo hi w v1 T.nA T.A g1 ∧ ¬ g0 = g1
theorem ri_row {lo hi : Nat} {w : World} {v : Value} {n : Nat} {X : Nat → Int} {g : Nat} (h : RI lo hi w v n X g) : ∃ a c, v = .slice a n c ∧ Row1 w a n X := by
  rcases h with ⟨rfl, a, c, rfl⟩ | ⟨c, rfl, h1, h2, h3, h4⟩
  · exact ⟨a, c, rfl, .inl rfl⟩
  · exact ⟨_, c, rfl, row1_of_own h4 (by omega)⟩
theorem OwnT.at {lo hi : Nat} {w : World} {v : Value} {T : TV} (h : OwnT lo hi w v T) : TabAt w v T := by
  obtain ⟨v0, v1, g0, g1, rfl, r0, r1, _⟩ := h
  obtain ⟨a0, c0, rfl, h0⟩ := ri_row r0
  obtain ⟨a1, c1, rfl, h1⟩ := ri_row r1
  exact ⟨_, _, _, _, rfl, h0, h1⟩
theorem OwnT.below {lo hi : Nat} {w w' : World} {v : Value} {T : TV} (h : OwnT lo hi w v T) (hb : Below w.heap.size w w') : OwnT lo hi w' v T := by
  obtain ⟨v0, v1, g0, g1, e, r0, r1, hn⟩ := h
  refine ⟨v0, v1, g0, g1, e, ?_, ?_, hn⟩
  · rcases r0 with h | ⟨c, h1, h2, h3, h4, h5⟩
    · exact .inl h
    · exact .inr ⟨c, h1, h2, h3, Nat.le_trans h4 hb.size, own1_sm h5 (sm_below hb (by omega))⟩
  · rcases r1 with h | ⟨c, h1, h2, h3, h4, h5⟩
    · exact .inl h
    · exact .inr ⟨c, h1, h2, h3, Nat.le_trans h4 hb.size, own1_sm h5 (sm_below hb (by omega))⟩

set_option maxHeartbeats 1000000 in
theorem szTab (v : Value) (T : TV) (hs : T.short maxLen) (w : World) (h : TabAt w v T) :
    Calls Try.prog 23 #[v, .int .i64 1048576] w fun e w' => (∃ r : Int, e = .returned (.int .i64 r) ∧ (r < 0 ∨ (0 ≤ r ∧ T.short 1048576))) ∧ Below w.heap.size w w' := by
  obtain ⟨aS, kS, aA, kA, rfl, rS, rA⟩ := h
  obtain ⟨s1, s2⟩ := hs
  unfold maxLen at s1 s2
  clear rS rA
  go_enter Try.func23, Try.ntmps23
  go_wp2_with fail
  refine (szInts aS T.nS kS 1048576 (by omega) (by omega) (by omega) _).mono ?_
  rintro e w1 ⟨rfl, hb1⟩
  have B1 : Below w.heap.size w w1 := bthen ((Below.refl _ _).alloc (by simp) _) hb1
  by_cases h1 : (T.nS : Int) ≤ 1048576
  · rw [if_pos h1]
    have h10 : 0 ≤ 1048576 - (T.nS : Int) := by omega
    obtain ⟨hc1, hf1⟩ := bcell hb1
    have z1 : w.heap.size < w1.heap.size := by have := hb1.size; simp at this; omega
    go_wp2_with fail
    refine (szInts aA T.nA kA _ h10 (by omega) (by omega) _).mono ?_
    rintro e w2 ⟨rfl, hb2⟩
    have B2 := bthen B1 hb2
    by_cases h2 : (T.nA : Int) ≤ 1048576 - (T.nS : Int)
    · rw [if_pos h2]
      have h20 : 0 ≤ 1048576 - (T.nS : Int) - (T.nA : Int) := by omega
      go_wp2
      go_ret
      exact ⟨⟨_, rfl, .inr ⟨h20, by omega, by omega⟩⟩, B2⟩
    · rw [if_neg h2]
      go_wp2
      go_ret
      exact ⟨⟨-1, rfl, .inl (by omega)⟩, B2⟩
  · rw [if_neg h1]
    go_wp2
    go_ret
    exact ⟨⟨-1, rfl, .inl (by omega)⟩, B1⟩

set_option maxHeartbeats 4000000 in
theorem toTab (v : Value) (T : TV) (hs : T.short 1048576) (w : World) (h : TabAt w v T) :
    Calls Try.prog 25 #[v] w fun e w' => (∃ v', e = .returned v' ∧ OwnT w.heap.size w'.heap.size w' v' T) ∧ Below w.heap.size w w' := by
  obtain ⟨aS, kS, aA, kA, rfl, rS, rA⟩ := h
  obtain ⟨s1, s2⟩ := hs
  have HS : Hid (Row1 w aS T.nS T.S) := rS
  have HA : Hid (Row1 w aA T.nA T.A) := rA
  clear rS rA
  go_enter Try.func25, Try.ntmps25
  go_wp2_with fail
  obtain ⟨w0, e0⟩ : ∃ w0, w0 = ((w.alloc (.cells #[.slice aS T.nS kS, .slice aA T.nA kA] 51)).alloc (.cells #[.slice none 0 0, .slice none 0 0] 65)).alloc (.cells #[.slice none 0 0, .slice none 0 0] 65) := ⟨_, rfl⟩
  have B1 : Hid (Below w.heap.size w w0) := by rw [e0]; exact (((Below.refl _ _).alloc (by simp) _).alloc (by simp) _).alloc (by simp; omega) _
  have A2 : Hid (Bk w0 w.heap.size [.slice aS T.nS kS, .slice aA T.nA kA]) := by rw [e0]; exact ((bk_new w 51 [.slice aS T.nS kS, .slice aA T.nA kA]).below ((Below.refl _ _).alloc (Nat.le_refl _) _)).below ((Below.refl _ _).alloc (Nat.le_refl _) _)
  have R3 : Hid (Bk w0 (w.heap.size + 1) [.slice none 0 0, .slice none 0 0]) := by rw [e0]; have := (bk_new (w.alloc (.cells #[.slice aS T.nS kS, .slice aA T.nA kA] 51)) 65 [.slice none 0 0, .slice none 0 0]).below ((Below.refl _ _).alloc (Nat.le_refl _) (.cells #[.slice none 0 0, .slice none 0 0] 65)); rwa [show (w.alloc (.cells #[.slice aS T.nS kS, .slice aA T.nA kA] 51)).heap.size = w.heap.size + 1 by simp] at this
  have O4 : Hid (Bk w0 (w.heap.size + 1 + 1) [.slice none 0 0, .slice none 0 0]) := by rw [e0]; have := bk_new ((w.alloc (.cells #[.slice aS T.nS kS, .slice aA T.nA kA] 51)).alloc (.cells #[.slice none 0 0, .slice none 0 0] 65)) 65 [.slice none 0 0, .slice none 0 0]; rwa [show ((w.alloc (.cells #[.slice aS T.nS kS, .slice aA T.nA kA] 51)).alloc (.cells #[.slice none 0 0, .slice none 0 0] 65)).heap.size = w.heap.size + 1 + 1 by simp] at this
  rw [← e0]
  clear e0
  refine (toInts aS T.nS kS T.S s1 _ (row1_below HS.out B1.out)).mono ?_
  rintro e w1 ⟨rfl, o1, z1, hb1⟩
  have hz0 := O4.out.1
  obtain ⟨b1, eb⟩ : ∃ b, b = w0.heap.size := ⟨_, rfl⟩
  rw [← eb] at o1 z1 ⊢
  have zz1 : w.heap.size + 1 + 1 < b1 := by omega
  clear eb
  have B5 : Hid (Below w.heap.size w w1) := bthen B1.out hb1
  have A5 : Hid (Bk w1 w.heap.size [.slice aS T.nS kS, .slice aA T.nA kA]) := A2.out.below hb1
  have R5 : Hid (Bk w1 (w.heap.size + 1) [.slice none 0 0, .slice none 0 0]) := R3.out.below hb1
  have O5 : Hid (Bk w1 (w.heap.size + 1 + 1) [.slice none 0 0, .slice none 0 0]) := O4.out.below hb1
  clear B1 A2 R3 O4
  clear hb1 hz0
  have yA0 : w1.cell? ⟨w.heap.size, 0, none⟩ = some (.slice aS T.nS kS) := (A5.out.2 0 (by simp)).1
  have zA0 : w1.frozen? ⟨w.heap.size, 0, none⟩ = false := (A5.out.2 0 (by simp)).2
  have yA1 : w1.cell? ⟨w.heap.size, 1, none⟩ = some (.slice aA T.nA kA) := (A5.out.2 1 (by simp)).1
  have zA1 : w1.frozen? ⟨w.heap.size, 1, none⟩ = false := (A5.out.2 1 (by simp)).2
  have hlA : w.heap.size < w1.heap.size := A5.out.1
  have yR0 : w1.cell? ⟨(w.heap.size + 1), 0, none⟩ = some (.slice none 0 0) := (R5.out.2 0 (by simp)).1
  have zR0 : w1.frozen? ⟨(w.heap.size + 1), 0, none⟩ = false := (R5.out.2 0 (by simp)).2
  have yR1 : w1.cell? ⟨(w.heap.size + 1), 1, none⟩ = some (.slice none 0 0) := (R5.out.2 1 (by simp)).1
  have zR1 : w1.frozen? ⟨(w.heap.size + 1), 1, none⟩ = false := (R5.out.2 1 (by simp)).2
  have hlR : (w.heap.size + 1) < w1.heap.size := R5.out.1
  have yO0 : w1.cell? ⟨(w.heap.size + 1 + 1), 0, none⟩ = some (.slice none 0 0) := (O5.out.2 0 (by simp)).1
  have zO0 : w1.frozen? ⟨(w.heap.size + 1 + 1), 0, none⟩ = false := (O5.out.2 0 (by simp)).2
  have yO1 : w1.cell? ⟨(w.heap.size + 1 + 1), 1, none⟩ = some (.slice none 0 0) := (O5.out.2 1 (by simp)).1
  have zO1 : w1.frozen? ⟨(w.heap.size + 1 + 1), 1, none⟩ = false := (O5.out.2 1 (by simp)).2
  have hlO : (w.heap.size + 1 + 1) < w1.heap.size := O5.out.1
  go_wp2_with fail
  obtain ⟨w2, e2⟩ : ∃ w2, w2 = w1.setCell ⟨w.heap.size + 1 + 1, 0, none⟩ (.slice (some ⟨b1, 0, none⟩) T.nS T.nS) := ⟨_, rfl⟩
  rw [← e2]
  have o1b : Hid (Own1 w2 b1 T.nS T.S T.nS) := by rw [e2]; exact own1_set o1 (by omega)
  have z2 : w1.heap.size = w2.heap.size := by rw [e2, set_size]
  clear yA0 zA0 yA1 zA1 hlA yR0 zR0 yR1 zR1 hlR yO0 zO0 yO1 zO1 hlO
  have B6 : Hid (Below w.heap.size w w2) := by rw [e2]; exact B5.out.setCell (by simp; omega) _
  have A6 : Hid (Bk w2 w.heap.size [.slice aS T.nS kS, .slice aA T.nA kA]) := by rw [e2]; exact A5.out.far (by omega)
  have R6 : Hid (Bk w2 (w.heap.size + 1) [.slice none 0 0, .slice none 0 0]) := by rw [e2]; exact R5.out.far (by omega)
  have O6 : Hid (Bk w2 (w.heap.size + 1 + 1) [.slice (some ⟨b1, 0, none⟩) T.nS T.nS, .slice none 0 0]) := by rw [e2]; exact O5.out.set (j := 0) (by simp)
  clear B5 A5 R5 O5
  clear e2 o1
  refine (toInts aA T.nA kA T.A s2 _ (row1_below HA.out B6.out)).mono ?_
  rintro e w3 ⟨rfl, o2, z3, hb3⟩
  obtain ⟨b2, eb⟩ : ∃ b, b = w2.heap.size := ⟨_, rfl⟩
  rw [← eb] at o2 z3 ⊢
  have zz2 : b1 < b2 := by omega
  have o1c : Hid (Own1 w3 b1 T.nS T.S T.nS) := own1_below o1b.out (by omega) hb3
  clear eb o1b
  have B7 : Hid (Below w.heap.size w w3) := bthen B6.out hb3
  have A7 : Hid (Bk w3 w.heap.size [.slice aS T.nS kS, .slice aA T.nA kA]) := A6.out.below hb3
  have R7 : Hid (Bk w3 (w.heap.size + 1) [.slice none 0 0, .slice none 0 0]) := R6.out.below hb3
  have O7 : Hid (Bk w3 (w.heap.size + 1 + 1) [.slice (some ⟨b1, 0, none⟩) T.nS T.nS, .slice none 0 0]) := O6.out.below hb3
  clear B6 A6 R6 O6
  clear hb3
  have yA0 : w3.cell? ⟨w.heap.size, 0, none⟩ = some (.slice aS T.nS kS) := (A7.out.2 0 (by simp)).1
  have zA0 : w3.frozen? ⟨w.heap.size, 0, none⟩ = false := (A7.out.2 0 (by simp)).2
  have yA1 : w3.cell? ⟨w.heap.size, 1, none⟩ = some (.slice aA T.nA kA) := (A7.out.2 1 (by simp)).1
  have zA1 : w3.frozen? ⟨w.heap.size, 1, none⟩ = false := (A7.out.2 1 (by simp)).2
  have hlA : w.heap.size < w3.heap.size := A7.out.1
  have yR0 : w3.cell? ⟨(w.heap.size + 1), 0, none⟩ = some (.slice none 0 0) := (R7.out.2 0 (by simp)).1
  have zR0 : w3.frozen? ⟨(w.heap.size + 1), 0, none⟩ = false := (R7.out.2 0 (by simp)).2
  have yR1 : w3.cell? ⟨(w.heap.size + 1), 1, none⟩ = some (.slice none 0 0) := (R7.out.2 1 (by simp)).1
  have zR1 : w3.frozen? ⟨(w.heap.size + 1), 1, none⟩ = false := (R7.out.2 1 (by simp)).2
  have hlR : (w.heap.size + 1) < w3.heap.size := R7.out.1
  have yO0 : w3.cell? ⟨(w.heap.size + 1 + 1), 0, none⟩ = some (.slice (some ⟨b1, 0, none⟩) T.nS T.nS) := (O7.out.2 0 (by simp)).1
  have zO0 : w3.frozen? ⟨(w.heap.size + 1 + 1), 0, none⟩ = false := (O7.out.2 0 (by simp)).2
  have yO1 : w3.cell? ⟨(w.heap.size + 1 + 1), 1, none⟩ = some (.slice none 0 0) := (O7.out.2 1 (by simp)).1
  have zO1 : w3.frozen? ⟨(w.heap.size + 1 + 1), 1, none⟩ = false := (O7.out.2 1 (by simp)).2
  have hlO : (w.heap.size + 1 + 1) < w3.heap.size := O7.out.1
  go_wp2
  refine bodyPost_ret (v := .agg #[.slice (some ⟨b1, 0, none⟩) T.nS T.nS, .slice (some ⟨b2, 0, none⟩) T.nA T.nA]) (by simp [results, Try.results25, go_sem, *]) rfl ?_
  refine ⟨⟨_, rfl, .slice (some ⟨b1, 0, none⟩) T.nS T.nS, .slice (some ⟨b2, 0, none⟩) T.nA T.nA, b1, b2, rfl, .inr ⟨_, rfl, by omega, by simp [World.setCell]; omega, Nat.le_refl _, ?_⟩, .inr ⟨_, rfl, by omega, by simp [World.setCell]; omega, Nat.le_refl _, ?_⟩, by omega⟩, ?_⟩
  · exact own1_set (own1_set (own1_set o1c.out (by omega)) (by omega)) (by omega)
  · exact own1_set (own1_set (own1_set o2 (by omega)) (by omega)) (by omega)
  · exact ((B7.out.setCell (by simp; omega) _).setCell (by simp) _).setCell (by simp) _

set_option maxHeartbeats 1000000 in
theorem eqTab (v1 v2 : Value) (T : TV) (hs : T.short 2000000) (w : World) (h1 : TabAt w v1 T) (h2 : TabAt w v2 T) :
    Calls Try.prog 28 #[v1, v2] w fun e w' => e = .returned (.bool true) ∧ Below w.heap.size w w' := by
  obtain ⟨aS, kS, aA, kA, rfl, rS, rA⟩ := h1
  obtain ⟨bS, lS, bA, lA, rfl, sS, sA⟩ := h2
  obtain ⟨s1, s2⟩ := hs
  have HS : Hid (Row1 w aS T.nS T.S ∧ Row1 w bS T.nS T.S) := ⟨rS, sS⟩
  have HA : Hid (Row1 w aA T.nA T.A ∧ Row1 w bA T.nA T.A) := ⟨rA, sA⟩
  clear rS rA sS sA
  go_enter Try.func28, Try.ntmps28
  go_wp2_with fail
  obtain ⟨w0, e0⟩ : ∃ w0, w0 = (w.alloc (.cells #[.slice aS T.nS kS, .slice aA T.nA kA] 65)).alloc (.cells #[.slice bS T.nS lS, .slice bA T.nA lA] 65) := ⟨_, rfl⟩
  have B1 : Hid (Below w.heap.size w w0) := by rw [e0]; exact ((Below.refl _ _).alloc (by simp) _).alloc (by simp) _
  have A2 : Hid (Bk w0 w.heap.size [.slice aS T.nS kS, .slice aA T.nA kA]) := by rw [e0]; exact (bk_new w 65 [.slice aS T.nS kS, .slice aA T.nA kA]).below ((Below.refl _ _).alloc (Nat.le_refl _) _)
  have C3 : Hid (Bk w0 (w.heap.size + 1) [.slice bS T.nS lS, .slice bA T.nA lA]) := by rw [e0]; have := bk_new (w.alloc (.cells #[.slice aS T.nS kS, .slice aA T.nA kA] 65)) 65 [.slice bS T.nS lS, .slice bA T.nA lA]; rwa [show (w.alloc (.cells #[.slice aS T.nS kS, .slice aA T.nA kA] 65)).heap.size = w.heap.size + 1 by simp] at this
  rw [← e0]
  clear e0
  refine (eqInts aS bS T.nS kS lS T.S s1 _ (row1_below HS.out.1 B1.out) (row1_below HS.out.2 B1.out)).mono ?_
  rintro e w1 ⟨rfl, hb1⟩
  have B4 : Hid (Below w.heap.size w w1) := bthen B1.out hb1
  have A4 : Hid (Bk w1 w.heap.size [.slice aS T.nS kS, .slice aA T.nA kA]) := A2.out.below hb1
  have C4 : Hid (Bk w1 (w.heap.size + 1) [.slice bS T.nS lS, .slice bA T.nA lA]) := C3.out.below hb1
  clear B1 A2 C3
  clear hb1
  have yA0 : w1.cell? ⟨w.heap.size, 0, none⟩ = some (.slice aS T.nS kS) := (A4.out.2 0 (by simp)).1
  have yA1 : w1.cell? ⟨w.heap.size, 1, none⟩ = some (.slice aA T.nA kA) := (A4.out.2 1 (by simp)).1
  have hlA : w.heap.size < w1.heap.size := A4.out.1
  have yC0 : w1.cell? ⟨(w.heap.size + 1), 0, none⟩ = some (.slice bS T.nS lS) := (C4.out.2 0 (by simp)).1
  have yC1 : w1.cell? ⟨(w.heap.size + 1), 1, none⟩ = some (.slice bA T.nA lA) := (C4.out.2 1 (by simp)).1
  have hlC : (w.heap.size + 1) < w1.heap.size := C4.out.1
  go_wp2_with fail
  clear yA0 yA1 hlA yC0 yC1 hlC
  refine (eqInts aA bA T.nA kA lA T.A s2 _ (row1_below HA.out.1 B4.out) (row1_below HA.out.2 B4.out)).mono ?_
  rintro e w2 ⟨rfl, hb2⟩
  have B5 : Hid (Below w.heap.size w w2) := bthen B4.out hb2
  have A5 : Hid (Bk w2 w.heap.size [.slice aS T.nS kS, .slice aA T.nA kA]) := A4.out.below hb2
  have C5 : Hid (Bk w2 (w.heap.size + 1) [.slice bS T.nS lS, .slice bA T.nA lA]) := C4.out.below hb2
  clear B4 A4 C4
  clear hb2
  have yA0 : w2.cell? ⟨w.heap.size, 0, none⟩ = some (.slice aS T.nS kS) := (A5.out.2 0 (by simp)).1
  have yA1 : w2.cell? ⟨w.heap.size, 1, none⟩ = some (.slice aA T.nA kA) := (A5.out.2 1 (by simp)).1
  have hlA : w.heap.size < w2.heap.size := A5.out.1
  have yC0 : w2.cell? ⟨(w.heap.size + 1), 0, none⟩ = some (.slice bS T.nS lS) := (C5.out.2 0 (by simp)).1
  have yC1 : w2.cell? ⟨(w.heap.size + 1), 1, none⟩ = some (.slice bA T.nA lA) := (C5.out.2 1 (by simp)).1
  have hlC : (w.heap.size + 1) < w2.heap.size := C5.out.1
  go_wp2
  go_ret
  exact ⟨rfl, B5.out⟩

end Go.Proofs.Ytgjapdjidighlaa
