/- The walk of l20Order: an order is drawn; conditions: the reader lies open. -/
import Derived.Test.YtmccbbanganjlaaDoorWkrL
namespace Go.Proofs.YtmccbbanganjlaaDoor
open Go.RowKit
set_option linter.unusedVariables false

theorem up3 {u : Value} {p : Nat → Value} {n m : Nat} (h : u = undef ∨ ∃ g, u = p g ∧ g < n) (hs : n ≤ m) : u = undef ∨ ∃ g, u = p g ∧ g < m := by
  rcases h with h | ⟨g, h1, h2⟩
  · exact .inl h
  · exact .inr ⟨g, h1, Nat.lt_of_lt_of_le h2 hs⟩
theorem slice_blk {a b n m : Nat} (h : Value.slice (some ⟨a, 0, none⟩) n m = .slice (some ⟨b, 0, none⟩) n m) : a = b := by simpa using h
theorem ptr_blk {a b : Nat} (h : Value.pointer (some ⟨a, 0, none⟩) = .pointer (some ⟨b, 0, none⟩)) : a = b := by simpa using h
theorem undef_slice {a : Option Addr} {n m : Nat} : ¬ undef = Value.slice a n m := by intro h; cases h
theorem undef_pointer {a : Option Addr} : ¬ undef = Value.pointer a := by intro h; cases h

theorem new_ne {u : Value} {n ga : Nat} (h : u = undef ∨ ∃ g, u = Value.pointer (some ⟨g, 0, none⟩) ∧ g < n) (e : u = .pointer (some ⟨ga, 0, none⟩)) : ¬ n = ga := by
  rcases h with h | ⟨g, h1, h2⟩
  · exact absurd (h.symm.trans e) undef_pointer
  · have := ptr_blk (h1.symm.trans e); omega

theorem tmod5 (z : Int) : -5 ≤ Int.tmod z 5 ∧ Int.tmod z 5 ≤ 5 := by
  by_cases h : 0 ≤ z
  · rw [Int.tmod_eq_emod_of_nonneg h]; omega
  · have e : Int.tmod z 5 = - Int.tmod (-z) 5 := by rw [Int.neg_tmod, Int.neg_neg]
    rw [e, Int.tmod_eq_emod_of_nonneg (by omega)]; omega

/-- Block g begins with five small numbers, and may be written. -/
def Ord5 (W : World) (g : Nat) : Prop := ∃ f : Nat → Int, ∀ i, i < 5 → Small (f i) ∧ W.cell? ⟨g, i, none⟩ = some (.int .i64 (f i)) ∧ W.frozen? ⟨g, i, none⟩ = false
theorem Ord5.kept {r : Nat} {W W' : World} {g : Nat} (h : Ord5 W g) (K : Kept r W W') (hn : ¬ g = r) : Ord5 W' g := by
  obtain ⟨f, h⟩ := h
  refine ⟨f, fun i hi => ?_⟩
  obtain ⟨h1, h2, h3⟩ := h i hi
  have hlt := cell_lt h2
  exact ⟨h1, ((kcell K).1 g i hlt hn).trans h2, ((kcell K).2 g i hlt hn).trans h3⟩
theorem Ord5.set {W : World} {g j : Nat} (h : Ord5 W g) (hj : j < 5) {z : Int} (hz : Small z) : Ord5 (W.setCell ⟨g, j, none⟩ (.int .i64 z)) g := by
  obtain ⟨f, h⟩ := h
  refine ⟨fun i => if i = j then z else f i, fun i hi => ?_⟩
  obtain ⟨h1, h2, h3⟩ := h i hi
  rw [World.frozen?_setCell]
  by_cases e : i = j
  · subst e
    have := World.cell?_setCells_in g [.int .i64 z] i W (fun j' hj' => by
      have : j' = 0 := by simpa using hj'
      subst this; rw [Nat.add_zero, h2]; rfl) 0 (by simp)
    refine ⟨by simpa using hz, ?_, h3⟩
    rw [show W.setCell ⟨g, i, none⟩ (.int .i64 z) = W.setCells g i [.int .i64 z] from rfl]
    simpa using this
  · refine ⟨by simpa [e] using h1, ?_, h3⟩
    simp only [e, if_false]
    exact (World.cell?_setCell_other _ _ _ _ (by intro e'; injection e' with _ e2; exact e e2.symm)).trans h2
theorem ord5_of {W : World} {g : Nat} (h : Wr5 W g) {z0 z1 z2 z3 z4 : Int} (s0 : Small z0) (s1 : Small z1) (s2 : Small z2) (s3 : Small z3) (s4 : Small z4) : Ord5 (put5c W g (.int .i64 z0) (.int .i64 z1) (.int .i64 z2) (.int .i64 z3) (.int .i64 z4)) g := by
  obtain ⟨c0, c1, c2, c3, c4⟩ := five_set h z0 z1 z2 z3 z4
  have hw := h.p5 (.int .i64 z0) (.int .i64 z1) (.int .i64 z2) (.int .i64 z3) (.int .i64 z4)
  refine ⟨fun i => [z0, z1, z2, z3, z4].getD i 0, fun i hi => ?_⟩
  generalize put5c W g (.int .i64 z0) (.int .i64 z1) (.int .i64 z2) (.int .i64 z3) (.int .i64 z4) = W' at *
  obtain ⟨v, _, hf⟩ := hw i hi
  have : i = 0 ∨ i = 1 ∨ i = 2 ∨ i = 3 ∨ i = 4 := by omega
  rcases this with rfl | rfl | rfl | rfl | rfl
  · exact ⟨s0, c0, hf⟩
  · exact ⟨s1, c1, hf⟩
  · exact ⟨s2, c2, hf⟩
  · exact ⟨s3, c3, hf⟩
  · exact ⟨s4, c4, hf⟩
theorem wr5_new (W : World) (t : TypeId) : Wr5 (W.alloc (.cells #[.int .i64 0, .int .i64 0, .int .i64 0, .int .i64 0, .int .i64 0] t)) W.heap.size := by
  intro j hj
  match j, hj with
  | 0, _ => exact ⟨.int .i64 0, by simp⟩
  | 1, _ => exact ⟨.int .i64 0, by simp⟩
  | 2, _ => exact ⟨.int .i64 0, by simp⟩
  | 3, _ => exact ⟨.int .i64 0, by simp⟩
  | 4, _ => exact ⟨.int .i64 0, by simp⟩
theorem Wr5.far {W : World} {b g : Nat} (h : Wr5 W b) (hn : ¬ b = g) (x0 x1 x2 x3 x4 : Value) : Wr5 (put5c W g x0 x1 x2 x3 x4) b := by
  intro j hj
  obtain ⟨v, h1, h2⟩ := h j hj
  refine ⟨v, ((stay5 hn x0 x1 x2 x3 x4).2 j).trans h1, ?_⟩
  unfold put5c
  rw [World.frozen?_setCell, World.frozen?_setCell, World.frozen?_setCell, World.frozen?_setCell, World.frozen?_setCell]
  exact h2
theorem Wr5.set {W : World} {b g j : Nat} (h : Wr5 W b) (hn : ¬ b = g) (x : Value) : Wr5 (W.setCell ⟨g, j, none⟩ x) b := by
  intro i hi
  obtain ⟨v, h1, h2⟩ := h i hi
  refine ⟨v, (World.cell?_setCell_other _ _ _ _ (by intro e; injection e with e1; exact hn e1.symm)).trans h1, ?_⟩
  rw [World.frozen?_setCell]; exact h2
theorem RdB.set {w : World} {r : Nat} {a : Option Addr} {len cap : Nat} {m : Int} (h : RdB w r a len cap m) {b j : Nat} (hb : r < b) (x : Value) : RdB (w.setCell ⟨b, j, none⟩ x) r a len cap m := by
  obtain ⟨p, h0, h1, h⟩ := h
  exact ⟨p, h0, h1, h.below ((Below.refl _ _).setCell (p := ⟨b, j, none⟩) hb _)⟩

set_option maxRecDepth 20000 in
set_option maxHeartbeats 4000000 in
theorem order_B {r : Nat} {ad : Option Addr} {len cap : Nat} {m : Int} {w : World} (h : RdB w r ad len cap m) (hm : m ≤ 100000) :
    Calls Tryd.prog 31 #[.pointer (some ⟨r, 0, none⟩)] w fun e w' => ∃ z0 z1 z2 z3 z4, e = .returned (.agg #[.int .i64 z0, .int .i64 z1, .int .i64 z2, .int .i64 z3, .int .i64 z4]) ∧ (Small z0 ∧ Small z1 ∧ Small z2 ∧ Small z3 ∧ Small z4) ∧ RdB w' r ad len cap (m + 6) ∧ Kept r w w' := by
  have hrl := h.lt
  have S0 : Hid ((RdB ((w.alloc (.cells #[.int .i64 0, .int .i64 0, .int .i64 0, .int .i64 0, .int .i64 0] 24)).drew) r ad len cap (m + cntL [1, 5, 9] (fun _ => false)) ∧ Kept r w ((w.alloc (.cells #[.int .i64 0, .int .i64 0, .int .i64 0, .int .i64 0, .int .i64 0] 24)).drew) ∧ Wr5 ((w.alloc (.cells #[.int .i64 0, .int .i64 0, .int .i64 0, .int .i64 0, .int .i64 0] 24)).drew) w.heap.size ∧ w.heap.size < ((w.alloc (.cells #[.int .i64 0, .int .i64 0, .int .i64 0, .int .i64 0, .int .i64 0] 24)).drew).heap.size ∧ (undef = undef ∨ ∃ g, undef = Value.pointer (some ⟨g, 0, none⟩) ∧ g < ((w.alloc (.cells #[.int .i64 0, .int .i64 0, .int .i64 0, .int .i64 0, .int .i64 0] 24)).drew).heap.size) ∧ (undef = undef ∨ ∃ g, undef = Value.slice (some ⟨g, 0, none⟩) 5 5 ∧ g < ((w.alloc (.cells #[.int .i64 0, .int .i64 0, .int .i64 0, .int .i64 0, .int .i64 0] 24)).drew).heap.size) ∧ ((fun _ => false : Nat → Bool) 12 = true → (fun _ => false : Nat → Bool) 11 = true))) :=
    ⟨by rw [cntL_none, Int.add_zero]; exact (h.alloc _).drew, ((Kept.refl r w).alloc _).drew, wr5_new w 24, by simp [World.drew], .inl rfl, .inl rfl, fun h => absurd h (by simp)⟩
  clear h
  go_enter Tryd.func31, Tryd.ntmps31
  go_upto_region 1 with fail
  refine wp_region_inv (by kernel_rfl) (by kernel_rfl) (fun L a w' => ∃ u3 u4 u5 u6 u7 u8 u9 u10 u11 u12 u13 u14 : Value, a = ⟨#[.pointer (some ⟨r, 0, none⟩), undef, .pointer (some ⟨w.heap.size, 0, none⟩), u3, u4, u5, u6, u7, u8, u9, u10, u11, u12, u13, u14, undef, undef, undef, undef, undef, undef, undef, undef, undef, undef, undef, undef, undef, undef, undef, undef, undef, undef, undef, undef, undef, undef, undef, undef, undef, undef, undef, undef, undef, undef, undef, undef, undef, undef, undef, undef, undef, undef, undef, undef, undef, undef, undef, undef, undef, undef, undef, undef, undef, undef, undef, undef, undef, undef, undef, undef, undef, undef, undef, undef, undef], []⟩ ∧ (RdB w' r ad len cap (m + cntL [1, 5, 9] L) ∧ Kept r w w' ∧ Wr5 w' w.heap.size ∧ w.heap.size < w'.heap.size ∧ (u3 = undef ∨ ∃ g, u3 = .pointer (some ⟨g, 0, none⟩) ∧ g < w'.heap.size) ∧ (u7 = undef ∨ ∃ g, u7 = .slice (some ⟨g, 0, none⟩) 5 5 ∧ g < w'.heap.size) ∧ (L 12 = true → L 11 = true)) ∧ (L 0 = true → u4 = .pointer (some ⟨r, 0, none⟩)) ∧ (L 1 = true → ∃ x, u5 = .int .i64 x ∧ PickOut 5 x) ∧ (L 2 = true → ∃ z, u6 = .int .i64 z ∧ Small z) ∧ (L 3 = true → ∃ g, u7 = .slice (some ⟨g, 0, none⟩) 5 5 ∧ Lits w' g [1, 1, 2, 8, 900] ∧ ¬ g = r ∧ (∀ ga, u3 = .pointer (some ⟨ga, 0, none⟩) → ¬ g = ga)) ∧ (L 4 = true → u8 = .pointer (some ⟨r, 0, none⟩)) ∧ (L 5 = true → ∃ x, u9 = .int .i64 x ∧ PickOut 5 x) ∧ (L 6 = true → ∃ (g : Nat) (x : Int), u10 = .pointer (some ⟨g, x.toNat, none⟩) ∧ Lits w' g [1, 1, 2, 8, 900] ∧ 0 ≤ x ∧ x < 5 ∧ ¬ g = r ∧ (∀ ga, u3 = .pointer (some ⟨ga, 0, none⟩) → ¬ g = ga)) ∧ (L 7 = true → ∃ z, u11 = .int .i64 z ∧ Small z) ∧ (L 8 = true → u12 = .pointer (some ⟨r, 0, none⟩)) ∧ (L 9 = true → ∃ z, u13 = .int .i64 z ∧ Small z) ∧ (L 10 = true → ∃ z0 z1 z3, u14 = .agg #[.int .i64 z0, .int .i64 z1, .int .i64 1, .int .i64 z3, .int .i64 0] ∧ (Small z0 ∧ Small z1 ∧ Small z3)) ∧ (L 11 = true → ∃ ga, u3 = .pointer (some ⟨ga, 0, none⟩) ∧ Wr5 w' ga ∧ ¬ ga = r ∧ w.heap.size < ga) ∧ (L 12 = true → ∃ ga, u3 = .pointer (some ⟨ga, 0, none⟩) ∧ Ord5 w' ga ∧ w.heap.size < ga ∧ ¬ ga = r)) ?h0 ?hstep ?hdone
  case h0 => exact ⟨undef, undef, undef, undef, undef, undef, undef, undef, undef, undef, undef, undef, rfl, S0.out, fun h => absurd h (by simp), fun h => absurd h (by simp), fun h => absurd h (by simp), fun h => absurd h (by simp), fun h => absurd h (by simp), fun h => absurd h (by simp), fun h => absurd h (by simp), fun h => absurd h (by simp), fun h => absurd h (by simp), fun h => absurd h (by simp), fun h => absurd h (by simp), fun h => absurd h (by simp), fun h => absurd h (by simp)⟩
  case hstep =>
    refine ⟨?_, ?_, ?_, ?_, ?_, ?_, ?_, ?_, ?_, ?_, ?_, ?_, ?_, trivial⟩
    · intro L a w' K' hd hL hI hK
      obtain ⟨u3, u4, u5, u6, u7, u8, u9, u10, u11, u12, u13, u14, rfl, ⟨hR, hKp, hW, hz, hU3, hU7, hP⟩, h0, h1, h2, h3, h4, h5, h6, h7, h8, h9, h10, h11, h12⟩ := hI
      go_simp
      exact hK.out _ _ ⟨_, _, _, _, _, _, _, _, _, _, _, _, rfl, ⟨by rw [cntL_out (by decide)]; exact hR, hKp, hW, hz, hU3, hU7, keepL (by decide) (fun e => mark1_true (hP e))⟩, fun _ => rfl, keepL (by decide) h1, keepL (by decide) h2, keepL (by decide) h3, keepL (by decide) h4, keepL (by decide) h5, keepL (by decide) h6, keepL (by decide) h7, keepL (by decide) h8, keepL (by decide) h9, keepL (by decide) h10, keepL (by decide) h11, keepL (by decide) h12⟩
    · intro L a w' K' hd hL hI hK
      obtain ⟨u3, u4, u5, u6, u7, u8, u9, u10, u11, u12, u13, u14, rfl, ⟨hR, hKp, hW, hz, hU3, hU7, hP⟩, h0, h1, h2, h3, h4, h5, h6, h7, h8, h9, h10, h11, h12⟩ := hI
      have hrl := hR.lt
      obtain rfl := h0 (hd ⟨0, .data⟩ (by simp) rfl)
      go_simp
      go_wp2_with (go_at_call 51; refine (pick_B hR (by have := (cntL_bd L [1, 5, 9]).2; simp at this; omega)).mono ?_; rintro e w2 ⟨x, rfl, hx, hR2, K2⟩)
      exact hK.out _ _ ⟨_, _, _, _, _, _, _, _, _, _, _, _, rfl, ⟨by rw [cntL_in hL (by decide) (by decide), ← Int.add_assoc]; exact hR2, hKp.trans K2, hW.kept K2 (by omega), Nat.lt_of_lt_of_le hz K2.size, up3 hU3 K2.size, up3 hU7 K2.size, keepL (by decide) (fun e => mark1_true (hP e))⟩, keepL (by decide) (fun _ => rfl), fun _ => ⟨x, rfl, hx⟩, keepL (by decide) h2, keepL (by decide) (fun e => match (h3 e) with | ⟨g, e1, e2, e3, e4⟩ => ⟨g, e1, Lits.kept K2 e2 e3, e3, e4⟩), keepL (by decide) h4, keepL (by decide) h5, keepL (by decide) (fun e => match (h6 e) with | ⟨g, x, e1, e2, e5, e6, e3, e4⟩ => ⟨g, x, e1, Lits.kept K2 e2 e3, e5, e6, e3, e4⟩), keepL (by decide) h7, keepL (by decide) h8, keepL (by decide) h9, keepL (by decide) h10, keepL (by decide) (fun e => match (h11 e) with | ⟨ga, e1, e2, e3, e4⟩ => ⟨ga, e1, e2.kept K2 e3, e3, e4⟩), keepL (by decide) (fun e => match (h12 e) with | ⟨ga, e1, e2, e3, e4⟩ => ⟨ga, e1, e2.kept K2 e4, e3, e4⟩)⟩
    · intro L a w' K' hd hL hI hK
      obtain ⟨u3, u4, u5, u6, u7, u8, u9, u10, u11, u12, u13, u14, rfl, ⟨hR, hKp, hW, hz, hU3, hU7, hP⟩, h0, h1, h2, h3, h4, h5, h6, h7, h8, h9, h10, h11, h12⟩ := hI
      have hrl := hR.lt
      obtain ⟨x, rfl, hx⟩ := h1 (hd ⟨1, .data⟩ (by simp) rfl)
      have hx0 := hx.1
      have hx1 := hx.2.1 (by decide)
      have hwr : IntKind.i64.wrap (1 + x) = 1 + x := by rw [IntKind.wrap_i64]; omega
      go_simp
      exact hK.out _ _ ⟨_, _, _, _, _, _, _, _, _, _, _, _, rfl, ⟨by rw [cntL_out (by decide)]; exact hR, hKp, hW, hz, hU3, hU7, keepL (by decide) (fun e => mark1_true (hP e))⟩, keepL (by decide) h0, keepL (by decide) (fun _ => ⟨x, rfl, hx⟩), fun _ => ⟨1 + x, rfl, by unfold Small; omega⟩, keepL (by decide) h3, keepL (by decide) h4, keepL (by decide) h5, keepL (by decide) h6, keepL (by decide) h7, keepL (by decide) h8, keepL (by decide) h9, keepL (by decide) h10, keepL (by decide) h11, keepL (by decide) h12⟩
    · intro L a w' K' hd hL hI hK
      obtain ⟨u3, u4, u5, u6, u7, u8, u9, u10, u11, u12, u13, u14, rfl, ⟨hR, hKp, hW, hz, hU3, hU7, hP⟩, h0, h1, h2, h3, h4, h5, h6, h7, h8, h9, h10, h11, h12⟩ := hI
      have hrl := hR.lt
      go_simp
      exact hK.out _ _ ⟨_, _, _, _, _, _, _, _, _, _, _, _, rfl, ⟨by rw [cntL_out (by decide)]; exact hR.alloc _, hKp.alloc _, hW.kept ((Kept.refl r w').alloc _) (by omega), by simp; omega, up3 hU3 (by simp), .inr ⟨w'.heap.size, rfl, by simp⟩, keepL (by decide) (fun e => mark1_true (hP e))⟩, keepL (by decide) h0, keepL (by decide) h1, keepL (by decide) h2, fun _ => ⟨w'.heap.size, rfl, Lits.new [1, 1, 2, 8, 900] w' 3, by omega, fun ga eg => new_ne hU3 eg⟩, keepL (by decide) h4, keepL (by decide) h5, keepL (by decide) (fun e => match (h6 e) with | ⟨g, x, e1, e2, e5, e6, e3, e4⟩ => ⟨g, x, e1, Lits.kept ((Kept.refl r w').alloc _) e2 e3, e5, e6, e3, e4⟩), keepL (by decide) h7, keepL (by decide) h8, keepL (by decide) h9, keepL (by decide) h10, keepL (by decide) (fun e => match (h11 e) with | ⟨ga, e1, e2, e3, e4⟩ => ⟨ga, e1, e2.kept ((Kept.refl r w').alloc _) e3, e3, e4⟩), keepL (by decide) (fun e => match (h12 e) with | ⟨ga, e1, e2, e3, e4⟩ => ⟨ga, e1, e2.kept ((Kept.refl r w').alloc _) e4, e3, e4⟩)⟩
    · intro L a w' K' hd hL hI hK
      obtain ⟨u3, u4, u5, u6, u7, u8, u9, u10, u11, u12, u13, u14, rfl, ⟨hR, hKp, hW, hz, hU3, hU7, hP⟩, h0, h1, h2, h3, h4, h5, h6, h7, h8, h9, h10, h11, h12⟩ := hI
      go_simp
      exact hK.out _ _ ⟨_, _, _, _, _, _, _, _, _, _, _, _, rfl, ⟨by rw [cntL_out (by decide)]; exact hR, hKp, hW, hz, hU3, hU7, keepL (by decide) (fun e => mark1_true (hP e))⟩, keepL (by decide) h0, keepL (by decide) h1, keepL (by decide) h2, keepL (by decide) h3, fun _ => rfl, keepL (by decide) h5, keepL (by decide) h6, keepL (by decide) h7, keepL (by decide) h8, keepL (by decide) h9, keepL (by decide) h10, keepL (by decide) h11, keepL (by decide) h12⟩
    · intro L a w' K' hd hL hI hK
      obtain ⟨u3, u4, u5, u6, u7, u8, u9, u10, u11, u12, u13, u14, rfl, ⟨hR, hKp, hW, hz, hU3, hU7, hP⟩, h0, h1, h2, h3, h4, h5, h6, h7, h8, h9, h10, h11, h12⟩ := hI
      have hrl := hR.lt
      obtain rfl := h4 (hd ⟨4, .data⟩ (by simp) rfl)
      go_simp
      go_wp2_with (go_at_call 51; refine (pick_B hR (by have := (cntL_bd L [1, 5, 9]).2; simp at this; omega)).mono ?_; rintro e w2 ⟨x, rfl, hx, hR2, K2⟩)
      exact hK.out _ _ ⟨_, _, _, _, _, _, _, _, _, _, _, _, rfl, ⟨by rw [cntL_in hL (by decide) (by decide), ← Int.add_assoc]; exact hR2, hKp.trans K2, hW.kept K2 (by omega), Nat.lt_of_lt_of_le hz K2.size, up3 hU3 K2.size, up3 hU7 K2.size, keepL (by decide) (fun e => mark1_true (hP e))⟩, keepL (by decide) h0, keepL (by decide) h1, keepL (by decide) h2, keepL (by decide) (fun e => match (h3 e) with | ⟨g, e1, e2, e3, e4⟩ => ⟨g, e1, Lits.kept K2 e2 e3, e3, e4⟩), keepL (by decide) (fun _ => rfl), fun _ => ⟨x, rfl, hx⟩, keepL (by decide) (fun e => match (h6 e) with | ⟨g, x, e1, e2, e5, e6, e3, e4⟩ => ⟨g, x, e1, Lits.kept K2 e2 e3, e5, e6, e3, e4⟩), keepL (by decide) h7, keepL (by decide) h8, keepL (by decide) h9, keepL (by decide) h10, keepL (by decide) (fun e => match (h11 e) with | ⟨ga, e1, e2, e3, e4⟩ => ⟨ga, e1, e2.kept K2 e3, e3, e4⟩), keepL (by decide) (fun e => match (h12 e) with | ⟨ga, e1, e2, e3, e4⟩ => ⟨ga, e1, e2.kept K2 e4, e3, e4⟩)⟩
    · intro L a w' K' hd hL hI hK
      obtain ⟨u3, u4, u5, u6, u7, u8, u9, u10, u11, u12, u13, u14, rfl, ⟨hR, hKp, hW, hz, hU3, hU7, hP⟩, h0, h1, h2, h3, h4, h5, h6, h7, h8, h9, h10, h11, h12⟩ := hI
      have hrl := hR.lt
      obtain ⟨g, rfl, hg, hn, hn2⟩ := h3 (hd ⟨3, .data⟩ (by simp) rfl)
      obtain ⟨x, rfl, hx⟩ := h5 (hd ⟨5, .data⟩ (by simp) rfl)
      have hx0 := hx.1
      have hx1 := hx.2.1 (by decide)
      go_simp
      exact hK.out _ _ ⟨_, _, _, _, _, _, _, _, _, _, _, _, rfl, ⟨by rw [cntL_out (by decide)]; exact hR, hKp, hW, hz, hU3, hU7, keepL (by decide) (fun e => mark1_true (hP e))⟩, keepL (by decide) h0, keepL (by decide) h1, keepL (by decide) h2, keepL (by decide) (fun _ => ⟨g, rfl, hg, hn, hn2⟩), keepL (by decide) h4, keepL (by decide) (fun _ => ⟨x, rfl, hx⟩), fun _ => ⟨g, x, rfl, hg, hx0, hx1, hn, hn2⟩, keepL (by decide) h7, keepL (by decide) h8, keepL (by decide) h9, keepL (by decide) h10, keepL (by decide) h11, keepL (by decide) h12⟩
    · intro L a w' K' hd hL hI hK
      obtain ⟨u3, u4, u5, u6, u7, u8, u9, u10, u11, u12, u13, u14, rfl, ⟨hR, hKp, hW, hz, hU3, hU7, hP⟩, h0, h1, h2, h3, h4, h5, h6, h7, h8, h9, h10, h11, h12⟩ := hI
      have hrl := hR.lt
      obtain ⟨g, x, rfl, hg, hx0, hx1, hn, hn2⟩ := h6 (hd ⟨6, .data⟩ (by simp) rfl)
      obtain ⟨z, hcz, hsz⟩ : ∃ z, w'.cell? ⟨g, x.toNat, none⟩ = some (.int .i64 z) ∧ Small z := ⟨_, hg.2 x hx0 hx1, lits_small _ (by decide)⟩
      go_simp
      exact hK.out _ _ ⟨_, _, _, _, _, _, _, _, _, _, _, _, rfl, ⟨by rw [cntL_out (by decide)]; exact hR, hKp, hW, hz, hU3, hU7, keepL (by decide) (fun e => mark1_true (hP e))⟩, keepL (by decide) h0, keepL (by decide) h1, keepL (by decide) h2, keepL (by decide) h3, keepL (by decide) h4, keepL (by decide) h5, keepL (by decide) (fun _ => ⟨g, x, rfl, hg, hx0, hx1, hn, hn2⟩), fun _ => ⟨z, rfl, hsz⟩, keepL (by decide) h8, keepL (by decide) h9, keepL (by decide) h10, keepL (by decide) h11, keepL (by decide) h12⟩
    · intro L a w' K' hd hL hI hK
      obtain ⟨u3, u4, u5, u6, u7, u8, u9, u10, u11, u12, u13, u14, rfl, ⟨hR, hKp, hW, hz, hU3, hU7, hP⟩, h0, h1, h2, h3, h4, h5, h6, h7, h8, h9, h10, h11, h12⟩ := hI
      go_simp
      exact hK.out _ _ ⟨_, _, _, _, _, _, _, _, _, _, _, _, rfl, ⟨by rw [cntL_out (by decide)]; exact hR, hKp, hW, hz, hU3, hU7, keepL (by decide) (fun e => mark1_true (hP e))⟩, keepL (by decide) h0, keepL (by decide) h1, keepL (by decide) h2, keepL (by decide) h3, keepL (by decide) h4, keepL (by decide) h5, keepL (by decide) h6, keepL (by decide) h7, fun _ => rfl, keepL (by decide) h9, keepL (by decide) h10, keepL (by decide) h11, keepL (by decide) h12⟩
    · intro L a w' K' hd hL hI hK
      obtain ⟨u3, u4, u5, u6, u7, u8, u9, u10, u11, u12, u13, u14, rfl, ⟨hR, hKp, hW, hz, hU3, hU7, hP⟩, h0, h1, h2, h3, h4, h5, h6, h7, h8, h9, h10, h11, h12⟩ := hI
      have hrl := hR.lt
      obtain rfl := h8 (hd ⟨8, .data⟩ (by simp) rfl)
      go_simp
      go_wp2_with (go_at_call 51; refine (pick_B hR (by have := (cntL_bd L [1, 5, 9]).2; simp at this; omega)).mono ?_; rintro e w2 ⟨x, rfl, hx, hR2, K2⟩)
      exact hK.out _ _ ⟨_, _, _, _, _, _, _, _, _, _, _, _, rfl, ⟨by rw [cntL_in hL (by decide) (by decide), ← Int.add_assoc]; exact hR2, hKp.trans K2, hW.kept K2 (by omega), Nat.lt_of_lt_of_le hz K2.size, up3 hU3 K2.size, up3 hU7 K2.size, keepL (by decide) (fun e => mark1_true (hP e))⟩, keepL (by decide) h0, keepL (by decide) h1, keepL (by decide) h2, keepL (by decide) (fun e => match (h3 e) with | ⟨g, e1, e2, e3, e4⟩ => ⟨g, e1, Lits.kept K2 e2 e3, e3, e4⟩), keepL (by decide) h4, keepL (by decide) h5, keepL (by decide) (fun e => match (h6 e) with | ⟨g, x, e1, e2, e5, e6, e3, e4⟩ => ⟨g, x, e1, Lits.kept K2 e2 e3, e5, e6, e3, e4⟩), keepL (by decide) h7, keepL (by decide) (fun _ => rfl), fun _ => ⟨x, rfl, pick_small hx (by decide)⟩, keepL (by decide) h10, keepL (by decide) (fun e => match (h11 e) with | ⟨ga, e1, e2, e3, e4⟩ => ⟨ga, e1, e2.kept K2 e3, e3, e4⟩), keepL (by decide) (fun e => match (h12 e) with | ⟨ga, e1, e2, e3, e4⟩ => ⟨ga, e1, e2.kept K2 e4, e3, e4⟩)⟩
    · intro L a w' K' hd hL hI hK
      obtain ⟨u3, u4, u5, u6, u7, u8, u9, u10, u11, u12, u13, u14, rfl, ⟨hR, hKp, hW, hz, hU3, hU7, hP⟩, h0, h1, h2, h3, h4, h5, h6, h7, h8, h9, h10, h11, h12⟩ := hI
      have hrl := hR.lt
      obtain ⟨z0, rfl, s0⟩ := h2 (hd ⟨2, .data⟩ (by simp) rfl)
      obtain ⟨z1, rfl, s1⟩ := h7 (hd ⟨7, .data⟩ (by simp) rfl)
      obtain ⟨z3, rfl, s3⟩ := h9 (hd ⟨9, .data⟩ (by simp) rfl)
      go_simp
      exact hK.out _ _ ⟨_, _, _, _, _, _, _, _, _, _, _, _, rfl, ⟨by rw [cntL_out (by decide)]; exact hR, hKp, hW, hz, hU3, hU7, keepL (by decide) (fun e => mark1_true (hP e))⟩, keepL (by decide) h0, keepL (by decide) h1, keepL (by decide) (fun _ => ⟨z0, rfl, s0⟩), keepL (by decide) h3, keepL (by decide) h4, keepL (by decide) h5, keepL (by decide) h6, keepL (by decide) (fun _ => ⟨z1, rfl, s1⟩), keepL (by decide) h8, keepL (by decide) (fun _ => ⟨z3, rfl, s3⟩), fun _ => ⟨z0, z1, z3, rfl, s0, s1, s3⟩, keepL (by decide) h11, keepL (by decide) h12⟩
    · intro L a w' K' hd hL hI hK
      obtain ⟨u3, u4, u5, u6, u7, u8, u9, u10, u11, u12, u13, u14, rfl, ⟨hR, hKp, hW, hz, hU3, hU7, hP⟩, h0, h1, h2, h3, h4, h5, h6, h7, h8, h9, h10, h11, h12⟩ := hI
      have hrl := hR.lt
      go_simp
      exact hK.out _ _ ⟨_, _, _, _, _, _, _, _, _, _, _, _, rfl, ⟨by rw [cntL_out (by decide)]; exact hR.alloc _, hKp.alloc _, hW.kept ((Kept.refl r w').alloc _) (by omega), by simp; omega, .inr ⟨w'.heap.size, rfl, by simp⟩, up3 hU7 (by simp), keepL (by decide) (fun e => mark1_true (hP e))⟩, keepL (by decide) h0, keepL (by decide) h1, keepL (by decide) h2, keepL (by decide) (fun e => match (h3 e) with | ⟨g, e1, e2, e3, e4⟩ => ⟨g, e1, Lits.kept ((Kept.refl r w').alloc _) e2 e3, e3, fun ga eg => by have h1 := ptr_blk eg; have h2 := e2.1; omega⟩), keepL (by decide) h4, keepL (by decide) h5, keepL (by decide) (fun e => match (h6 e) with | ⟨g, x, e1, e2, e5, e6, e3, e4⟩ => ⟨g, x, e1, Lits.kept ((Kept.refl r w').alloc _) e2 e3, e5, e6, e3, fun ga eg => by have h1 := ptr_blk eg; have h2 := e2.1; omega⟩), keepL (by decide) h7, keepL (by decide) h8, keepL (by decide) h9, keepL (by decide) h10, fun _ => ⟨w'.heap.size, rfl, wr5_new w' _, by omega, by omega⟩, keepL (by decide) (fun e => absurd (hP e) (by simp [hL]))⟩
    · intro L a w' K' hd hL hI hK
      obtain ⟨u3, u4, u5, u6, u7, u8, u9, u10, u11, u12, u13, u14, rfl, ⟨hR, hKp, hW, hz, hU3, hU7, hP⟩, h0, h1, h2, h3, h4, h5, h6, h7, h8, h9, h10, h11, h12⟩ := hI
      have hrl := hR.lt
      obtain ⟨z0, z1, z3, rfl, s0, s1, s3⟩ := h10 (hd ⟨10, .data⟩ (by simp) rfl)
      obtain ⟨ga, rfl, hWa, hra, hga⟩ := h11 (hd ⟨11, .data⟩ (by simp) rfl)
      obtain ⟨v0, q0, f0⟩ := hWa 0 (by decide)
      obtain ⟨v1, q1, f1⟩ := hWa 1 (by decide)
      obtain ⟨v2, q2, f2⟩ := hWa 2 (by decide)
      obtain ⟨v3, q3, f3⟩ := hWa 3 (by decide)
      obtain ⟨v4, q4, f4⟩ := hWa 4 (by decide)
      go_simp
      exact hK.out _ _ ⟨_, _, _, _, _, _, _, _, _, _, _, _, rfl, ⟨by rw [cntL_out (by decide)]; exact hR.p5 (by omega) _ _ _ _ _, hKp.p5 (by omega) _ _ _ _ _, hW.far (by omega) _ _ _ _ _, by simpa [World.setCell] using hz, .inr ⟨ga, rfl, by have := cell_lt q0; simpa [World.setCell] using this⟩, up3 hU7 (by simp [World.setCell]), fun _ => mark1_true (hd ⟨11, .data⟩ (by simp) rfl)⟩, keepL (by decide) h0, keepL (by decide) h1, keepL (by decide) h2, keepL (by decide) (fun e => match (h3 e) with | ⟨g, e1, e2, e3, e4⟩ => ⟨g, e1, e2.stay (stay5 (e4 ga rfl) _ _ _ _ _), e3, e4⟩), keepL (by decide) h4, keepL (by decide) h5, keepL (by decide) (fun e => match (h6 e) with | ⟨g, x, e1, e2, e5, e6, e3, e4⟩ => ⟨g, x, e1, e2.stay (stay5 (e4 ga rfl) _ _ _ _ _), e5, e6, e3, e4⟩), keepL (by decide) h7, keepL (by decide) h8, keepL (by decide) h9, keepL (by decide) (fun _ => ⟨z0, z1, z3, rfl, s0, s1, s3⟩), keepL (by decide) (fun e => ⟨_, rfl, hWa.p5 _ _ _ _ _, hra, hga⟩), fun _ => ⟨ga, rfl, ord5_of hWa s0 s1 (by unfold Small; omega) s3 (by unfold Small; omega), hga, hra⟩⟩
  case hdone =>
    intro L a w' hL hI
    obtain ⟨u3, u4, u5, u6, u7, u8, u9, u10, u11, u12, u13, u14, rfl, ⟨hR, hKp, hW, hz, hU3, hU7, hP⟩, h0, h1, h2, h3, h4, h5, h6, h7, h8, h9, h10, h11, h12⟩ := hI
    obtain ⟨ga, rfl, hO, hga, hgr⟩ := h12 (hL 12 (by decide))
    have hcb := (cntL_bd L [1, 5, 9]).2
    simp at hcb
    have R3 : Hid (RdB w' r ad len cap (m + 3)) := hR.more (by omega)
    have K3 : Hid (Kept r w w') := hKp
    have O3 : Hid (Ord5 w' ga) := hO
    have W3 : Hid (Wr5 w' w.heap.size) := hW
    clear h0 h1 h2 h3 h4 h5 h6 h7 h8 h9 h10 h11 h12 hL hW hR hKp hO hcb hU3 hU7 S0 hP hz
    go_wp2_with fail
    refine (pick_B R3.out (by omega)).mono ?_
    rintro e w4 ⟨x4, rfl, hx4, hR4, hK4⟩
    have R4 : Hid (RdB w4 r ad len cap (m + 4)) := hR4.more (by omega)
    have K4 : Hid (Kept r w w4) := K3.out.trans hK4
    have O4 : Hid (Ord5 w4 ga) := O3.out.kept hK4 hgr
    have W4 : Hid (Wr5 w4 w.heap.size) := W3.out.kept hK4 (by omega)
    have x4l := hx4.1
    have x4h := hx4.2.1 (by decide)
    clear hR4 hK4 hx4
    clear R3 K3 O3 W3
    have hx : x4 = 0 ∨ x4 = 1 ∨ x4 = 2 ∨ x4 = 3 ∨ x4 = 4 ∨ x4 = 5 ∨ x4 = 6 ∨ x4 = 7 := by omega
    rcases hx with rfl | rfl | rfl | rfl | rfl | rfl | rfl | rfl
    · obtain ⟨f, hf⟩ := O4.out
      have HF : Hid (∀ i, i < 5 → Small (f i)) := fun i hi => (hf i hi).1
      have c0 := (hf 0 (by decide)).2.1
      have z0 := (hf 0 (by decide)).2.2
      have c1 := (hf 1 (by decide)).2.1
      have z1 := (hf 1 (by decide)).2.2
      have c2 := (hf 2 (by decide)).2.1
      have z2 := (hf 2 (by decide)).2.2
      have c3 := (hf 3 (by decide)).2.1
      have z3 := (hf 3 (by decide)).2.2
      have c4 := (hf 4 (by decide)).2.1
      have z4 := (hf 4 (by decide)).2.2
      obtain ⟨v0, q0, y0⟩ := W4.out 0 (by decide)
      obtain ⟨v1, q1, y1⟩ := W4.out 1 (by decide)
      obtain ⟨v2, q2, y2⟩ := W4.out 2 (by decide)
      obtain ⟨v3, q3, y3⟩ := W4.out 3 (by decide)
      obtain ⟨v4, q4, y4⟩ := W4.out 4 (by decide)
      have b0 := HF.out 0 (by decide)
      have b1 := HF.out 3 (by decide)
      unfold Small at b0 b1
      clear hf
      go_upto_region 6 with fail
      refine wp_region_inv (by kernel_rfl) (by kernel_rfl) (fun L a w' => ∃ u21 u22 u23 u24 u25 u26 u27 u28 : Value, a = ⟨#[.pointer (some ⟨r, 0, none⟩), undef, .pointer (some ⟨w.heap.size, 0, none⟩), .pointer (some ⟨ga, 0, none⟩), u4, u5, u6, u7, u8, u9, u10, u11, u12, u13, u14, .pointer (some ⟨r, 0, none⟩), .int .i64 0, .bool true, .bool true, undef, .pointer (some ⟨ga, 2, none⟩), u21, u22, u23, u24, u25, u26, u27, u28, undef, undef, undef, undef, undef, undef, undef, undef, undef, undef, undef, undef, undef, undef, undef, undef, undef, undef, undef, undef, undef, undef, undef, undef, undef, undef, undef, undef, undef, undef, undef, undef, undef, undef, undef, undef, undef, undef, undef, undef, undef, undef, undef, undef, undef, undef, undef], []⟩ ∧ (RdB w' r ad len cap (m + 4 + cntL [3] L) ∧ Kept r w w' ∧ Ord5 w' ga ∧ Wr5 w' w.heap.size) ∧ (L 0 = true → u21 = .pointer (some ⟨ga, 0, none⟩)) ∧ (L 1 = true → ∃ z, u22 = .int .i64 z ∧ Small z) ∧ (L 2 = true → u23 = .pointer (some ⟨r, 0, none⟩)) ∧ (L 3 = true → ∃ x, u24 = .int .i64 x ∧ PickOut 4 x) ∧ (L 4 = true → ∃ z, u25 = .int .i64 z ∧ -200000 ≤ z ∧ z ≤ 200000) ∧ (L 5 = true → ∃ z, u26 = .int .i64 z ∧ -5 ≤ z ∧ z ≤ 5) ∧ (L 6 = true → ∃ z, u27 = .int .i64 z ∧ Small z) ∧ (L 7 = true → u28 = .pointer (some ⟨ga, 3, none⟩)) ∧ (L 8 = true → True)) ?h0 ?hstep ?hdone
      case h0 => exact ⟨undef, undef, undef, undef, undef, undef, undef, undef, rfl, ⟨by rw [cntL_none, Int.add_zero]; exact (R4.out.set (by omega) _).drew, (K4.out.setCell (.inl (by simp; omega)) _).drew, O4.out.set (j := 2) (by decide) (by unfold Small; omega), W4.out.set (by omega) _⟩, fun h => absurd h (by simp), fun h => absurd h (by simp), fun h => absurd h (by simp), fun h => absurd h (by simp), fun h => absurd h (by simp), fun h => absurd h (by simp), fun h => absurd h (by simp), fun h => absurd h (by simp), fun h => absurd h (by simp)⟩
      case hstep =>
        clear R4 K4 O4 W4 c0 c1 c2 c3 c4 z0 z1 z2 z3 z4 q0 q1 q2 q3 q4 y0 y1 y2 y3 y4 b0 b1 HF
        refine ⟨?_, ?_, ?_, ?_, ?_, ?_, ?_, ?_, ?_, trivial⟩
        · intro L a w' K' hd hL hI hK
          obtain ⟨u21, u22, u23, u24, u25, u26, u27, u28, rfl, ⟨hR, hKp, hO, hW⟩, h0, h1, h2, h3, h4, h5, h6, h7, h8⟩ := hI
          go_simp
          exact hK.out _ _ ⟨_, _, _, _, _, _, _, _, rfl, ⟨by rw [cntL_out (by decide)]; exact hR, hKp, hO, hW⟩, fun _ => rfl, keepL (by decide) h1, keepL (by decide) h2, keepL (by decide) h3, keepL (by decide) h4, keepL (by decide) h5, keepL (by decide) h6, keepL (by decide) h7, keepL (by decide) h8⟩
        · intro L a w' K' hd hL hI hK
          obtain ⟨u21, u22, u23, u24, u25, u26, u27, u28, rfl, ⟨hR, hKp, hO, hW⟩, h0, h1, h2, h3, h4, h5, h6, h7, h8⟩ := hI
          obtain rfl := h0 (hd ⟨0, .data⟩ (by simp) rfl)
          have hO' := hO
          obtain ⟨f, hf⟩ := hO'
          have c0 := (hf 0 (by decide)).2.1
          have s0 := (hf 0 (by decide)).1
          clear hf
          go_simp
          exact hK.out _ _ ⟨_, _, _, _, _, _, _, _, rfl, ⟨by rw [cntL_out (by decide)]; exact hR, hKp, hO, hW⟩, keepL (by decide) (fun _ => rfl), fun _ => ⟨f 0, rfl, s0⟩, keepL (by decide) h2, keepL (by decide) h3, keepL (by decide) h4, keepL (by decide) h5, keepL (by decide) h6, keepL (by decide) h7, keepL (by decide) h8⟩
        · intro L a w' K' hd hL hI hK
          obtain ⟨u21, u22, u23, u24, u25, u26, u27, u28, rfl, ⟨hR, hKp, hO, hW⟩, h0, h1, h2, h3, h4, h5, h6, h7, h8⟩ := hI
          go_simp
          exact hK.out _ _ ⟨_, _, _, _, _, _, _, _, rfl, ⟨by rw [cntL_out (by decide)]; exact hR, hKp, hO, hW⟩, keepL (by decide) h0, keepL (by decide) h1, fun _ => rfl, keepL (by decide) h3, keepL (by decide) h4, keepL (by decide) h5, keepL (by decide) h6, keepL (by decide) h7, keepL (by decide) h8⟩
        · intro L a w' K' hd hL hI hK
          obtain ⟨u21, u22, u23, u24, u25, u26, u27, u28, rfl, ⟨hR, hKp, hO, hW⟩, h0, h1, h2, h3, h4, h5, h6, h7, h8⟩ := hI
          obtain rfl := h2 (hd ⟨2, .data⟩ (by simp) rfl)
          go_simp
          go_wp2_with (go_at_call 51; refine (pick_B hR (by have := (cntL_bd L [3]).2; simp at this; omega)).mono ?_; rintro e w2 ⟨x, rfl, hx, hR2, K2⟩)
          exact hK.out _ _ ⟨_, _, _, _, _, _, _, _, rfl, ⟨by rw [cntL_in hL (by decide) (by decide), ← Int.add_assoc]; exact hR2, hKp.trans K2, hO.kept K2 hgr, hW.kept K2 (by omega)⟩, keepL (by decide) h0, keepL (by decide) h1, keepL (by decide) (fun _ => rfl), fun _ => ⟨x, rfl, hx⟩, keepL (by decide) h4, keepL (by decide) h5, keepL (by decide) h6, keepL (by decide) h7, keepL (by decide) h8⟩
        · intro L a w' K' hd hL hI hK
          obtain ⟨u21, u22, u23, u24, u25, u26, u27, u28, rfl, ⟨hR, hKp, hO, hW⟩, h0, h1, h2, h3, h4, h5, h6, h7, h8⟩ := hI
          obtain ⟨z, rfl, hs⟩ := h1 (hd ⟨1, .data⟩ (by simp) rfl)
          obtain ⟨x, rfl, hx⟩ := h3 (hd ⟨3, .data⟩ (by simp) rfl)
          have hx0 := hx.1
          have hx1 := hx.2.1 (by decide)
          obtain ⟨s1, s2⟩ := id hs
          have hwr : IntKind.i64.wrap (z + x) = z + x := by rw [IntKind.wrap_i64]; omega
          go_simp
          exact hK.out _ _ ⟨_, _, _, _, _, _, _, _, rfl, ⟨by rw [cntL_out (by decide)]; exact hR, hKp, hO, hW⟩, keepL (by decide) h0, keepL (by decide) (fun _ => ⟨z, rfl, hs⟩), keepL (by decide) h2, keepL (by decide) (fun _ => ⟨x, rfl, hx⟩), fun _ => ⟨z + x, rfl, by omega, by omega⟩, keepL (by decide) h5, keepL (by decide) h6, keepL (by decide) h7, keepL (by decide) h8⟩
        · intro L a w' K' hd hL hI hK
          obtain ⟨u21, u22, u23, u24, u25, u26, u27, u28, rfl, ⟨hR, hKp, hO, hW⟩, h0, h1, h2, h3, h4, h5, h6, h7, h8⟩ := hI
          obtain ⟨z, rfl, t1, t2⟩ := h4 (hd ⟨4, .data⟩ (by simp) rfl)
          have ht := tmod5 z
          have hwr : IntKind.i64.wrap (Int.tmod z 5) = Int.tmod z 5 := by rw [IntKind.wrap_i64]; omega
          go_simp
          exact hK.out _ _ ⟨_, _, _, _, _, _, _, _, rfl, ⟨by rw [cntL_out (by decide)]; exact hR, hKp, hO, hW⟩, keepL (by decide) h0, keepL (by decide) h1, keepL (by decide) h2, keepL (by decide) h3, keepL (by decide) (fun _ => ⟨z, rfl, t1, t2⟩), fun _ => ⟨_, rfl, ht.1, ht.2⟩, keepL (by decide) h6, keepL (by decide) h7, keepL (by decide) h8⟩
        · intro L a w' K' hd hL hI hK
          obtain ⟨u21, u22, u23, u24, u25, u26, u27, u28, rfl, ⟨hR, hKp, hO, hW⟩, h0, h1, h2, h3, h4, h5, h6, h7, h8⟩ := hI
          obtain ⟨z, rfl, t1, t2⟩ := h5 (hd ⟨5, .data⟩ (by simp) rfl)
          have hwr : IntKind.i64.wrap (1 + z) = 1 + z := by rw [IntKind.wrap_i64]; omega
          go_simp
          exact hK.out _ _ ⟨_, _, _, _, _, _, _, _, rfl, ⟨by rw [cntL_out (by decide)]; exact hR, hKp, hO, hW⟩, keepL (by decide) h0, keepL (by decide) h1, keepL (by decide) h2, keepL (by decide) h3, keepL (by decide) h4, keepL (by decide) (fun _ => ⟨z, rfl, t1, t2⟩), fun _ => ⟨1 + z, rfl, by unfold Small; omega⟩, keepL (by decide) h7, keepL (by decide) h8⟩
        · intro L a w' K' hd hL hI hK
          obtain ⟨u21, u22, u23, u24, u25, u26, u27, u28, rfl, ⟨hR, hKp, hO, hW⟩, h0, h1, h2, h3, h4, h5, h6, h7, h8⟩ := hI
          go_simp
          exact hK.out _ _ ⟨_, _, _, _, _, _, _, _, rfl, ⟨by rw [cntL_out (by decide)]; exact hR, hKp, hO, hW⟩, keepL (by decide) h0, keepL (by decide) h1, keepL (by decide) h2, keepL (by decide) h3, keepL (by decide) h4, keepL (by decide) h5, keepL (by decide) h6, fun _ => rfl, keepL (by decide) h8⟩
        · intro L a w' K' hd hL hI hK
          obtain ⟨u21, u22, u23, u24, u25, u26, u27, u28, rfl, ⟨hR, hKp, hO, hW⟩, h0, h1, h2, h3, h4, h5, h6, h7, h8⟩ := hI
          obtain ⟨z, rfl, hs⟩ := h6 (hd ⟨6, .data⟩ (by simp) rfl)
          obtain rfl := h7 (hd ⟨7, .data⟩ (by simp) rfl)
          have hO' := hO
          obtain ⟨f, hf⟩ := hO'
          have c3 := (hf 3 (by decide)).2.1
          have z3 := (hf 3 (by decide)).2.2
          clear hf
          go_simp
          exact hK.out _ _ ⟨_, _, _, _, _, _, _, _, rfl, ⟨by rw [cntL_out (by decide)]; exact hR.set (by omega) _, hKp.setCell (.inl (by simp; omega)) _, hO.set (j := 3) (by decide) hs, hW.set (by omega) _⟩, keepL (by decide) h0, keepL (by decide) h1, keepL (by decide) h2, keepL (by decide) h3, keepL (by decide) h4, keepL (by decide) h5, keepL (by decide) (fun _ => ⟨z, rfl, hs⟩), keepL (by decide) (fun _ => rfl), fun _ => trivial⟩
      case hdone =>
        clear R4 K4 O4 W4 c0 c1 c2 c3 c4 z0 z1 z2 z3 z4 q0 q1 q2 q3 q4 y0 y1 y2 y3 y4 b0 b1 HF
        intro L5 a5 w5 hL hI
        obtain ⟨u21, u22, u23, u24, u25, u26, u27, u28, rfl, ⟨hR, hKp, hO, hW⟩, h0, h1, h2, h3, h4, h5, h6, h7, h8⟩ := hI
        have hcb := (cntL_bd L5 [3]).2
        simp at hcb
        have R5 : Hid (RdB w5 r ad len cap (m + 5)) := hR.more (by omega)
        have K5 : Hid (Kept r w w5) := hKp
        have O5 : Hid (Ord5 w5 ga) := hO
        have W5 : Hid (Wr5 w5 w.heap.size) := hW
        clear hR hKp hO hW hcb hL h0 h1 h2 h3 h4 h5 h6 h7 h8
        obtain ⟨f, hf⟩ := O5.out
        have HF : Hid (∀ i, i < 5 → Small (f i)) := fun i hi => (hf i hi).1
        have c0 := (hf 0 (by decide)).2.1
        have z0 := (hf 0 (by decide)).2.2
        have c1 := (hf 1 (by decide)).2.1
        have z1 := (hf 1 (by decide)).2.2
        have c2 := (hf 2 (by decide)).2.1
        have z2 := (hf 2 (by decide)).2.2
        have c3 := (hf 3 (by decide)).2.1
        have z3 := (hf 3 (by decide)).2.2
        have c4 := (hf 4 (by decide)).2.1
        have z4 := (hf 4 (by decide)).2.2
        obtain ⟨v0, q0, y0⟩ := W5.out 0 (by decide)
        obtain ⟨v1, q1, y1⟩ := W5.out 1 (by decide)
        obtain ⟨v2, q2, y2⟩ := W5.out 2 (by decide)
        obtain ⟨v3, q3, y3⟩ := W5.out 3 (by decide)
        obtain ⟨v4, q4, y4⟩ := W5.out 4 (by decide)
        have b0 := HF.out 0 (by decide)
        have b1 := HF.out 3 (by decide)
        unfold Small at b0 b1
        clear hf
        by_cases he : f 3 = f 0
        · have he2 : (f 3 == f 0) = true := by simp [he]
          go_wp2_with fail
          clear c0 z0 q0 y0 c1 z1 q1 y1 c2 z2 q2 y2 c3 z3 q3 y3 c4 z4 q4 y4 b0 b1 HF he he2
          refine (pick_B (R5.out.set (by omega) _) (by omega)).mono ?_
          rintro e w6 ⟨x6, rfl, hx6, hR6, hK6⟩
          have R6 : Hid (RdB w6 r ad len cap (m + 6)) := hR6.more (by omega)
          have K6 : Hid (Kept r w w6) := (K5.out.setCell (.inl (by simp; omega)) _).trans hK6
          have O6 : Hid (Ord5 w6 ga) := (O5.out.set (j := 3) (by decide) (by unfold Small; omega)).kept hK6 hgr
          have W6 : Hid (Wr5 w6 w.heap.size) := (W5.out.set (by omega) _).kept hK6 (by omega)
          have x6l := hx6.1
          have x6h := hx6.2.1 (by decide)
          clear hR6 hK6 hx6
          obtain ⟨f, hf⟩ := O6.out
          have HF : Hid (∀ i, i < 5 → Small (f i)) := fun i hi => (hf i hi).1
          have c0 := (hf 0 (by decide)).2.1
          have z0 := (hf 0 (by decide)).2.2
          have c1 := (hf 1 (by decide)).2.1
          have z1 := (hf 1 (by decide)).2.2
          have c2 := (hf 2 (by decide)).2.1
          have z2 := (hf 2 (by decide)).2.2
          have c3 := (hf 3 (by decide)).2.1
          have z3 := (hf 3 (by decide)).2.2
          have c4 := (hf 4 (by decide)).2.1
          have z4 := (hf 4 (by decide)).2.2
          obtain ⟨v0, q0, y0⟩ := W6.out 0 (by decide)
          obtain ⟨v1, q1, y1⟩ := W6.out 1 (by decide)
          obtain ⟨v2, q2, y2⟩ := W6.out 2 (by decide)
          obtain ⟨v3, q3, y3⟩ := W6.out 3 (by decide)
          obtain ⟨v4, q4, y4⟩ := W6.out 4 (by decide)
          have b0 := HF.out 0 (by decide)
          have b1 := HF.out 3 (by decide)
          unfold Small at b0 b1
          clear hf
          go_wp2
          refine bodyPost_ret (v := .agg #[.int .i64 (f 0), .int .i64 (f 1), .int .i64 (f 2), .int .i64 (f 3), .int .i64 (1 + x6)]) (by simp [results, Tryd.results31, go_sem, q0, q1, q2, q3, q4]) rfl ?_
          refine ⟨f 0, f 1, f 2, f 3, 1 + x6, rfl, ⟨HF.out 0 (by decide), HF.out 1 (by decide), HF.out 2 (by decide), HF.out 3 (by decide), by unfold Small; omega⟩, RdB.more (m := m + 6) ?_ (by omega), ?_⟩
          · exact ((((((R6.out.set (by omega) _).set (by omega) _).set (by omega) _).set (by omega) _).set (by omega) _).set (by omega) _)
          · refine Kept.setCell ?_ (.inl (by simp)) _
            refine Kept.setCell ?_ (.inl (by simp)) _
            refine Kept.setCell ?_ (.inl (by simp)) _
            refine Kept.setCell ?_ (.inl (by simp)) _
            refine Kept.setCell ?_ (.inl (by simp)) _
            refine Kept.setCell ?_ (.inl (by simp; omega)) _
            exact K6.out
        · have he2 : (f 3 == f 0) = false := by simpa using he
          go_wp2_with fail
          clear c0 z0 q0 y0 c1 z1 q1 y1 c2 z2 q2 y2 c3 z3 q3 y3 c4 z4 q4 y4 b0 b1 HF he he2
          refine (pick_B R5.out (by omega)).mono ?_
          rintro e w6 ⟨x6, rfl, hx6, hR6, hK6⟩
          have R6 : Hid (RdB w6 r ad len cap (m + 6)) := hR6.more (by omega)
          have K6 : Hid (Kept r w w6) := K5.out.trans hK6
          have O6 : Hid (Ord5 w6 ga) := O5.out.kept hK6 hgr
          have W6 : Hid (Wr5 w6 w.heap.size) := W5.out.kept hK6 (by omega)
          have x6l := hx6.1
          have x6h := hx6.2.1 (by decide)
          clear hR6 hK6 hx6
          obtain ⟨f, hf⟩ := O6.out
          have HF : Hid (∀ i, i < 5 → Small (f i)) := fun i hi => (hf i hi).1
          have c0 := (hf 0 (by decide)).2.1
          have z0 := (hf 0 (by decide)).2.2
          have c1 := (hf 1 (by decide)).2.1
          have z1 := (hf 1 (by decide)).2.2
          have c2 := (hf 2 (by decide)).2.1
          have z2 := (hf 2 (by decide)).2.2
          have c3 := (hf 3 (by decide)).2.1
          have z3 := (hf 3 (by decide)).2.2
          have c4 := (hf 4 (by decide)).2.1
          have z4 := (hf 4 (by decide)).2.2
          obtain ⟨v0, q0, y0⟩ := W6.out 0 (by decide)
          obtain ⟨v1, q1, y1⟩ := W6.out 1 (by decide)
          obtain ⟨v2, q2, y2⟩ := W6.out 2 (by decide)
          obtain ⟨v3, q3, y3⟩ := W6.out 3 (by decide)
          obtain ⟨v4, q4, y4⟩ := W6.out 4 (by decide)
          have b0 := HF.out 0 (by decide)
          have b1 := HF.out 3 (by decide)
          unfold Small at b0 b1
          clear hf
          go_wp2
          refine bodyPost_ret (v := .agg #[.int .i64 (f 0), .int .i64 (f 1), .int .i64 (f 2), .int .i64 (f 3), .int .i64 (1 + x6)]) (by simp [results, Tryd.results31, go_sem, q0, q1, q2, q3, q4]) rfl ?_
          refine ⟨f 0, f 1, f 2, f 3, 1 + x6, rfl, ⟨HF.out 0 (by decide), HF.out 1 (by decide), HF.out 2 (by decide), HF.out 3 (by decide), by unfold Small; omega⟩, RdB.more (m := m + 6) ?_ (by omega), ?_⟩
          · exact ((((((R6.out.set (by omega) _).set (by omega) _).set (by omega) _).set (by omega) _).set (by omega) _).set (by omega) _)
          · refine Kept.setCell ?_ (.inl (by simp)) _
            refine Kept.setCell ?_ (.inl (by simp)) _
            refine Kept.setCell ?_ (.inl (by simp)) _
            refine Kept.setCell ?_ (.inl (by simp)) _
            refine Kept.setCell ?_ (.inl (by simp)) _
            refine Kept.setCell ?_ (.inl (by simp; omega)) _
            exact K6.out
    · obtain ⟨f, hf⟩ := O4.out
      have HF : Hid (∀ i, i < 5 → Small (f i)) := fun i hi => (hf i hi).1
      have c0 := (hf 0 (by decide)).2.1
      have z0 := (hf 0 (by decide)).2.2
      have c1 := (hf 1 (by decide)).2.1
      have z1 := (hf 1 (by decide)).2.2
      have c2 := (hf 2 (by decide)).2.1
      have z2 := (hf 2 (by decide)).2.2
      have c3 := (hf 3 (by decide)).2.1
      have z3 := (hf 3 (by decide)).2.2
      have c4 := (hf 4 (by decide)).2.1
      have z4 := (hf 4 (by decide)).2.2
      obtain ⟨v0, q0, y0⟩ := W4.out 0 (by decide)
      obtain ⟨v1, q1, y1⟩ := W4.out 1 (by decide)
      obtain ⟨v2, q2, y2⟩ := W4.out 2 (by decide)
      obtain ⟨v3, q3, y3⟩ := W4.out 3 (by decide)
      obtain ⟨v4, q4, y4⟩ := W4.out 4 (by decide)
      have b0 := HF.out 0 (by decide)
      have b1 := HF.out 3 (by decide)
      unfold Small at b0 b1
      clear hf
      go_upto_region 6 with fail
      refine wp_region_inv (by kernel_rfl) (by kernel_rfl) (fun L a w' => ∃ u21 u22 u23 u24 u25 u26 u27 u28 : Value, a = ⟨#[.pointer (some ⟨r, 0, none⟩), undef, .pointer (some ⟨w.heap.size, 0, none⟩), .pointer (some ⟨ga, 0, none⟩), u4, u5, u6, u7, u8, u9, u10, u11, u12, u13, u14, .pointer (some ⟨r, 0, none⟩), .int .i64 1, .bool true, .bool false, .bool true, .pointer (some ⟨ga, 2, none⟩), u21, u22, u23, u24, u25, u26, u27, u28, undef, undef, undef, undef, undef, undef, undef, undef, undef, undef, undef, undef, undef, undef, undef, undef, undef, undef, undef, undef, undef, undef, undef, undef, undef, undef, undef, undef, undef, undef, undef, undef, undef, undef, undef, undef, undef, undef, undef, undef, undef, undef, undef, undef, undef, undef, undef], []⟩ ∧ (RdB w' r ad len cap (m + 4 + cntL [3] L) ∧ Kept r w w' ∧ Ord5 w' ga ∧ Wr5 w' w.heap.size) ∧ (L 0 = true → u21 = .pointer (some ⟨ga, 0, none⟩)) ∧ (L 1 = true → ∃ z, u22 = .int .i64 z ∧ Small z) ∧ (L 2 = true → u23 = .pointer (some ⟨r, 0, none⟩)) ∧ (L 3 = true → ∃ x, u24 = .int .i64 x ∧ PickOut 4 x) ∧ (L 4 = true → ∃ z, u25 = .int .i64 z ∧ -200000 ≤ z ∧ z ≤ 200000) ∧ (L 5 = true → ∃ z, u26 = .int .i64 z ∧ -5 ≤ z ∧ z ≤ 5) ∧ (L 6 = true → ∃ z, u27 = .int .i64 z ∧ Small z) ∧ (L 7 = true → u28 = .pointer (some ⟨ga, 3, none⟩)) ∧ (L 8 = true → True)) ?h0 ?hstep ?hdone
      case h0 => exact ⟨undef, undef, undef, undef, undef, undef, undef, undef, rfl, ⟨by rw [cntL_none, Int.add_zero]; exact (R4.out.set (by omega) _).drew, (K4.out.setCell (.inl (by simp; omega)) _).drew, O4.out.set (j := 2) (by decide) (by unfold Small; omega), W4.out.set (by omega) _⟩, fun h => absurd h (by simp), fun h => absurd h (by simp), fun h => absurd h (by simp), fun h => absurd h (by simp), fun h => absurd h (by simp), fun h => absurd h (by simp), fun h => absurd h (by simp), fun h => absurd h (by simp), fun h => absurd h (by simp)⟩
      case hstep =>
        clear R4 K4 O4 W4 c0 c1 c2 c3 c4 z0 z1 z2 z3 z4 q0 q1 q2 q3 q4 y0 y1 y2 y3 y4 b0 b1 HF
        refine ⟨?_, ?_, ?_, ?_, ?_, ?_, ?_, ?_, ?_, trivial⟩
        · intro L a w' K' hd hL hI hK
          obtain ⟨u21, u22, u23, u24, u25, u26, u27, u28, rfl, ⟨hR, hKp, hO, hW⟩, h0, h1, h2, h3, h4, h5, h6, h7, h8⟩ := hI
          go_simp
          exact hK.out _ _ ⟨_, _, _, _, _, _, _, _, rfl, ⟨by rw [cntL_out (by decide)]; exact hR, hKp, hO, hW⟩, fun _ => rfl, keepL (by decide) h1, keepL (by decide) h2, keepL (by decide) h3, keepL (by decide) h4, keepL (by decide) h5, keepL (by decide) h6, keepL (by decide) h7, keepL (by decide) h8⟩
        · intro L a w' K' hd hL hI hK
          obtain ⟨u21, u22, u23, u24, u25, u26, u27, u28, rfl, ⟨hR, hKp, hO, hW⟩, h0, h1, h2, h3, h4, h5, h6, h7, h8⟩ := hI
          obtain rfl := h0 (hd ⟨0, .data⟩ (by simp) rfl)
          have hO' := hO
          obtain ⟨f, hf⟩ := hO'
          have c0 := (hf 0 (by decide)).2.1
          have s0 := (hf 0 (by decide)).1
          clear hf
          go_simp
          exact hK.out _ _ ⟨_, _, _, _, _, _, _, _, rfl, ⟨by rw [cntL_out (by decide)]; exact hR, hKp, hO, hW⟩, keepL (by decide) (fun _ => rfl), fun _ => ⟨f 0, rfl, s0⟩, keepL (by decide) h2, keepL (by decide) h3, keepL (by decide) h4, keepL (by decide) h5, keepL (by decide) h6, keepL (by decide) h7, keepL (by decide) h8⟩
        · intro L a w' K' hd hL hI hK
          obtain ⟨u21, u22, u23, u24, u25, u26, u27, u28, rfl, ⟨hR, hKp, hO, hW⟩, h0, h1, h2, h3, h4, h5, h6, h7, h8⟩ := hI
          go_simp
          exact hK.out _ _ ⟨_, _, _, _, _, _, _, _, rfl, ⟨by rw [cntL_out (by decide)]; exact hR, hKp, hO, hW⟩, keepL (by decide) h0, keepL (by decide) h1, fun _ => rfl, keepL (by decide) h3, keepL (by decide) h4, keepL (by decide) h5, keepL (by decide) h6, keepL (by decide) h7, keepL (by decide) h8⟩
        · intro L a w' K' hd hL hI hK
          obtain ⟨u21, u22, u23, u24, u25, u26, u27, u28, rfl, ⟨hR, hKp, hO, hW⟩, h0, h1, h2, h3, h4, h5, h6, h7, h8⟩ := hI
          obtain rfl := h2 (hd ⟨2, .data⟩ (by simp) rfl)
          go_simp
          go_wp2_with (go_at_call 51; refine (pick_B hR (by have := (cntL_bd L [3]).2; simp at this; omega)).mono ?_; rintro e w2 ⟨x, rfl, hx, hR2, K2⟩)
          exact hK.out _ _ ⟨_, _, _, _, _, _, _, _, rfl, ⟨by rw [cntL_in hL (by decide) (by decide), ← Int.add_assoc]; exact hR2, hKp.trans K2, hO.kept K2 hgr, hW.kept K2 (by omega)⟩, keepL (by decide) h0, keepL (by decide) h1, keepL (by decide) (fun _ => rfl), fun _ => ⟨x, rfl, hx⟩, keepL (by decide) h4, keepL (by decide) h5, keepL (by decide) h6, keepL (by decide) h7, keepL (by decide) h8⟩
        · intro L a w' K' hd hL hI hK
          obtain ⟨u21, u22, u23, u24, u25, u26, u27, u28, rfl, ⟨hR, hKp, hO, hW⟩, h0, h1, h2, h3, h4, h5, h6, h7, h8⟩ := hI
          obtain ⟨z, rfl, hs⟩ := h1 (hd ⟨1, .data⟩ (by simp) rfl)
          obtain ⟨x, rfl, hx⟩ := h3 (hd ⟨3, .data⟩ (by simp) rfl)
          have hx0 := hx.1
          have hx1 := hx.2.1 (by decide)
          obtain ⟨s1, s2⟩ := id hs
          have hwr : IntKind.i64.wrap (z + x) = z + x := by rw [IntKind.wrap_i64]; omega
          go_simp
          exact hK.out _ _ ⟨_, _, _, _, _, _, _, _, rfl, ⟨by rw [cntL_out (by decide)]; exact hR, hKp, hO, hW⟩, keepL (by decide) h0, keepL (by decide) (fun _ => ⟨z, rfl, hs⟩), keepL (by decide) h2, keepL (by decide) (fun _ => ⟨x, rfl, hx⟩), fun _ => ⟨z + x, rfl, by omega, by omega⟩, keepL (by decide) h5, keepL (by decide) h6, keepL (by decide) h7, keepL (by decide) h8⟩
        · intro L a w' K' hd hL hI hK
          obtain ⟨u21, u22, u23, u24, u25, u26, u27, u28, rfl, ⟨hR, hKp, hO, hW⟩, h0, h1, h2, h3, h4, h5, h6, h7, h8⟩ := hI
          obtain ⟨z, rfl, t1, t2⟩ := h4 (hd ⟨4, .data⟩ (by simp) rfl)
          have ht := tmod5 z
          have hwr : IntKind.i64.wrap (Int.tmod z 5) = Int.tmod z 5 := by rw [IntKind.wrap_i64]; omega
          go_simp
          exact hK.out _ _ ⟨_, _, _, _, _, _, _, _, rfl, ⟨by rw [cntL_out (by decide)]; exact hR, hKp, hO, hW⟩, keepL (by decide) h0, keepL (by decide) h1, keepL (by decide) h2, keepL (by decide) h3, keepL (by decide) (fun _ => ⟨z, rfl, t1, t2⟩), fun _ => ⟨_, rfl, ht.1, ht.2⟩, keepL (by decide) h6, keepL (by decide) h7, keepL (by decide) h8⟩
        · intro L a w' K' hd hL hI hK
          obtain ⟨u21, u22, u23, u24, u25, u26, u27, u28, rfl, ⟨hR, hKp, hO, hW⟩, h0, h1, h2, h3, h4, h5, h6, h7, h8⟩ := hI
          obtain ⟨z, rfl, t1, t2⟩ := h5 (hd ⟨5, .data⟩ (by simp) rfl)
          have hwr : IntKind.i64.wrap (1 + z) = 1 + z := by rw [IntKind.wrap_i64]; omega
          go_simp
          exact hK.out _ _ ⟨_, _, _, _, _, _, _, _, rfl, ⟨by rw [cntL_out (by decide)]; exact hR, hKp, hO, hW⟩, keepL (by decide) h0, keepL (by decide) h1, keepL (by decide) h2, keepL (by decide) h3, keepL (by decide) h4, keepL (by decide) (fun _ => ⟨z, rfl, t1, t2⟩), fun _ => ⟨1 + z, rfl, by unfold Small; omega⟩, keepL (by decide) h7, keepL (by decide) h8⟩
        · intro L a w' K' hd hL hI hK
          obtain ⟨u21, u22, u23, u24, u25, u26, u27, u28, rfl, ⟨hR, hKp, hO, hW⟩, h0, h1, h2, h3, h4, h5, h6, h7, h8⟩ := hI
          go_simp
          exact hK.out _ _ ⟨_, _, _, _, _, _, _, _, rfl, ⟨by rw [cntL_out (by decide)]; exact hR, hKp, hO, hW⟩, keepL (by decide) h0, keepL (by decide) h1, keepL (by decide) h2, keepL (by decide) h3, keepL (by decide) h4, keepL (by decide) h5, keepL (by decide) h6, fun _ => rfl, keepL (by decide) h8⟩
        · intro L a w' K' hd hL hI hK
          obtain ⟨u21, u22, u23, u24, u25, u26, u27, u28, rfl, ⟨hR, hKp, hO, hW⟩, h0, h1, h2, h3, h4, h5, h6, h7, h8⟩ := hI
          obtain ⟨z, rfl, hs⟩ := h6 (hd ⟨6, .data⟩ (by simp) rfl)
          obtain rfl := h7 (hd ⟨7, .data⟩ (by simp) rfl)
          have hO' := hO
          obtain ⟨f, hf⟩ := hO'
          have c3 := (hf 3 (by decide)).2.1
          have z3 := (hf 3 (by decide)).2.2
          clear hf
          go_simp
          exact hK.out _ _ ⟨_, _, _, _, _, _, _, _, rfl, ⟨by rw [cntL_out (by decide)]; exact hR.set (by omega) _, hKp.setCell (.inl (by simp; omega)) _, hO.set (j := 3) (by decide) hs, hW.set (by omega) _⟩, keepL (by decide) h0, keepL (by decide) h1, keepL (by decide) h2, keepL (by decide) h3, keepL (by decide) h4, keepL (by decide) h5, keepL (by decide) (fun _ => ⟨z, rfl, hs⟩), keepL (by decide) (fun _ => rfl), fun _ => trivial⟩
      case hdone =>
        clear R4 K4 O4 W4 c0 c1 c2 c3 c4 z0 z1 z2 z3 z4 q0 q1 q2 q3 q4 y0 y1 y2 y3 y4 b0 b1 HF
        intro L5 a5 w5 hL hI
        obtain ⟨u21, u22, u23, u24, u25, u26, u27, u28, rfl, ⟨hR, hKp, hO, hW⟩, h0, h1, h2, h3, h4, h5, h6, h7, h8⟩ := hI
        have hcb := (cntL_bd L5 [3]).2
        simp at hcb
        have R5 : Hid (RdB w5 r ad len cap (m + 5)) := hR.more (by omega)
        have K5 : Hid (Kept r w w5) := hKp
        have O5 : Hid (Ord5 w5 ga) := hO
        have W5 : Hid (Wr5 w5 w.heap.size) := hW
        clear hR hKp hO hW hcb hL h0 h1 h2 h3 h4 h5 h6 h7 h8
        obtain ⟨f, hf⟩ := O5.out
        have HF : Hid (∀ i, i < 5 → Small (f i)) := fun i hi => (hf i hi).1
        have c0 := (hf 0 (by decide)).2.1
        have z0 := (hf 0 (by decide)).2.2
        have c1 := (hf 1 (by decide)).2.1
        have z1 := (hf 1 (by decide)).2.2
        have c2 := (hf 2 (by decide)).2.1
        have z2 := (hf 2 (by decide)).2.2
        have c3 := (hf 3 (by decide)).2.1
        have z3 := (hf 3 (by decide)).2.2
        have c4 := (hf 4 (by decide)).2.1
        have z4 := (hf 4 (by decide)).2.2
        obtain ⟨v0, q0, y0⟩ := W5.out 0 (by decide)
        obtain ⟨v1, q1, y1⟩ := W5.out 1 (by decide)
        obtain ⟨v2, q2, y2⟩ := W5.out 2 (by decide)
        obtain ⟨v3, q3, y3⟩ := W5.out 3 (by decide)
        obtain ⟨v4, q4, y4⟩ := W5.out 4 (by decide)
        have b0 := HF.out 0 (by decide)
        have b1 := HF.out 3 (by decide)
        unfold Small at b0 b1
        clear hf
        by_cases he : f 3 = f 0
        · have he2 : (f 3 == f 0) = true := by simp [he]
          go_wp2_with fail
          clear c0 z0 q0 y0 c1 z1 q1 y1 c2 z2 q2 y2 c3 z3 q3 y3 c4 z4 q4 y4 b0 b1 HF he he2
          refine (pick_B (R5.out.set (by omega) _) (by omega)).mono ?_
          rintro e w6 ⟨x6, rfl, hx6, hR6, hK6⟩
          have R6 : Hid (RdB w6 r ad len cap (m + 6)) := hR6.more (by omega)
          have K6 : Hid (Kept r w w6) := (K5.out.setCell (.inl (by simp; omega)) _).trans hK6
          have O6 : Hid (Ord5 w6 ga) := (O5.out.set (j := 3) (by decide) (by unfold Small; omega)).kept hK6 hgr
          have W6 : Hid (Wr5 w6 w.heap.size) := (W5.out.set (by omega) _).kept hK6 (by omega)
          have x6l := hx6.1
          have x6h := hx6.2.1 (by decide)
          clear hR6 hK6 hx6
          obtain ⟨f, hf⟩ := O6.out
          have HF : Hid (∀ i, i < 5 → Small (f i)) := fun i hi => (hf i hi).1
          have c0 := (hf 0 (by decide)).2.1
          have z0 := (hf 0 (by decide)).2.2
          have c1 := (hf 1 (by decide)).2.1
          have z1 := (hf 1 (by decide)).2.2
          have c2 := (hf 2 (by decide)).2.1
          have z2 := (hf 2 (by decide)).2.2
          have c3 := (hf 3 (by decide)).2.1
          have z3 := (hf 3 (by decide)).2.2
          have c4 := (hf 4 (by decide)).2.1
          have z4 := (hf 4 (by decide)).2.2
          obtain ⟨v0, q0, y0⟩ := W6.out 0 (by decide)
          obtain ⟨v1, q1, y1⟩ := W6.out 1 (by decide)
          obtain ⟨v2, q2, y2⟩ := W6.out 2 (by decide)
          obtain ⟨v3, q3, y3⟩ := W6.out 3 (by decide)
          obtain ⟨v4, q4, y4⟩ := W6.out 4 (by decide)
          have b0 := HF.out 0 (by decide)
          have b1 := HF.out 3 (by decide)
          unfold Small at b0 b1
          clear hf
          go_wp2
          refine bodyPost_ret (v := .agg #[.int .i64 (f 0), .int .i64 (f 1), .int .i64 (f 2), .int .i64 (f 3), .int .i64 (1 + x6)]) (by simp [results, Tryd.results31, go_sem, q0, q1, q2, q3, q4]) rfl ?_
          refine ⟨f 0, f 1, f 2, f 3, 1 + x6, rfl, ⟨HF.out 0 (by decide), HF.out 1 (by decide), HF.out 2 (by decide), HF.out 3 (by decide), by unfold Small; omega⟩, RdB.more (m := m + 6) ?_ (by omega), ?_⟩
          · exact ((((((R6.out.set (by omega) _).set (by omega) _).set (by omega) _).set (by omega) _).set (by omega) _).set (by omega) _)
          · refine Kept.setCell ?_ (.inl (by simp)) _
            refine Kept.setCell ?_ (.inl (by simp)) _
            refine Kept.setCell ?_ (.inl (by simp)) _
            refine Kept.setCell ?_ (.inl (by simp)) _
            refine Kept.setCell ?_ (.inl (by simp)) _
            refine Kept.setCell ?_ (.inl (by simp; omega)) _
            exact K6.out
        · have he2 : (f 3 == f 0) = false := by simpa using he
          go_wp2_with fail
          clear c0 z0 q0 y0 c1 z1 q1 y1 c2 z2 q2 y2 c3 z3 q3 y3 c4 z4 q4 y4 b0 b1 HF he he2
          refine (pick_B R5.out (by omega)).mono ?_
          rintro e w6 ⟨x6, rfl, hx6, hR6, hK6⟩
          have R6 : Hid (RdB w6 r ad len cap (m + 6)) := hR6.more (by omega)
          have K6 : Hid (Kept r w w6) := K5.out.trans hK6
          have O6 : Hid (Ord5 w6 ga) := O5.out.kept hK6 hgr
          have W6 : Hid (Wr5 w6 w.heap.size) := W5.out.kept hK6 (by omega)
          have x6l := hx6.1
          have x6h := hx6.2.1 (by decide)
          clear hR6 hK6 hx6
          obtain ⟨f, hf⟩ := O6.out
          have HF : Hid (∀ i, i < 5 → Small (f i)) := fun i hi => (hf i hi).1
          have c0 := (hf 0 (by decide)).2.1
          have z0 := (hf 0 (by decide)).2.2
          have c1 := (hf 1 (by decide)).2.1
          have z1 := (hf 1 (by decide)).2.2
          have c2 := (hf 2 (by decide)).2.1
          have z2 := (hf 2 (by decide)).2.2
          have c3 := (hf 3 (by decide)).2.1
          have z3 := (hf 3 (by decide)).2.2
          have c4 := (hf 4 (by decide)).2.1
          have z4 := (hf 4 (by decide)).2.2
          obtain ⟨v0, q0, y0⟩ := W6.out 0 (by decide)
          obtain ⟨v1, q1, y1⟩ := W6.out 1 (by decide)
          obtain ⟨v2, q2, y2⟩ := W6.out 2 (by decide)
          obtain ⟨v3, q3, y3⟩ := W6.out 3 (by decide)
          obtain ⟨v4, q4, y4⟩ := W6.out 4 (by decide)
          have b0 := HF.out 0 (by decide)
          have b1 := HF.out 3 (by decide)
          unfold Small at b0 b1
          clear hf
          go_wp2
          refine bodyPost_ret (v := .agg #[.int .i64 (f 0), .int .i64 (f 1), .int .i64 (f 2), .int .i64 (f 3), .int .i64 (1 + x6)]) (by simp [results, Tryd.results31, go_sem, q0, q1, q2, q3, q4]) rfl ?_
          refine ⟨f 0, f 1, f 2, f 3, 1 + x6, rfl, ⟨HF.out 0 (by decide), HF.out 1 (by decide), HF.out 2 (by decide), HF.out 3 (by decide), by unfold Small; omega⟩, RdB.more (m := m + 6) ?_ (by omega), ?_⟩
          · exact ((((((R6.out.set (by omega) _).set (by omega) _).set (by omega) _).set (by omega) _).set (by omega) _).set (by omega) _)
          · refine Kept.setCell ?_ (.inl (by simp)) _
            refine Kept.setCell ?_ (.inl (by simp)) _
            refine Kept.setCell ?_ (.inl (by simp)) _
            refine Kept.setCell ?_ (.inl (by simp)) _
            refine Kept.setCell ?_ (.inl (by simp)) _
            refine Kept.setCell ?_ (.inl (by simp; omega)) _
            exact K6.out
    · obtain ⟨f, hf⟩ := O4.out
      have HF : Hid (∀ i, i < 5 → Small (f i)) := fun i hi => (hf i hi).1
      have c0 := (hf 0 (by decide)).2.1
      have z0 := (hf 0 (by decide)).2.2
      have c1 := (hf 1 (by decide)).2.1
      have z1 := (hf 1 (by decide)).2.2
      have c2 := (hf 2 (by decide)).2.1
      have z2 := (hf 2 (by decide)).2.2
      have c3 := (hf 3 (by decide)).2.1
      have z3 := (hf 3 (by decide)).2.2
      have c4 := (hf 4 (by decide)).2.1
      have z4 := (hf 4 (by decide)).2.2
      obtain ⟨v0, q0, y0⟩ := W4.out 0 (by decide)
      obtain ⟨v1, q1, y1⟩ := W4.out 1 (by decide)
      obtain ⟨v2, q2, y2⟩ := W4.out 2 (by decide)
      obtain ⟨v3, q3, y3⟩ := W4.out 3 (by decide)
      obtain ⟨v4, q4, y4⟩ := W4.out 4 (by decide)
      have b0 := HF.out 0 (by decide)
      have b1 := HF.out 3 (by decide)
      unfold Small at b0 b1
      clear hf
      go_wp2_with fail
      clear c0 z0 q0 y0 c1 z1 q1 y1 c2 z2 q2 y2 c3 z3 q3 y3 c4 z4 q4 y4 b0 b1 HF
      refine (pick_B ((R4.out.set (by omega) _).set (by omega) _) (by omega)).mono ?_
      rintro e w5 ⟨x5, rfl, hx5, hR5, hK5⟩
      have R5 : Hid (RdB w5 r ad len cap (m + 5)) := hR5.more (by omega)
      have K5 : Hid (Kept r w w5) := ((K4.out.setCell (.inl (by simp; omega)) _).setCell (.inl (by simp; omega)) _).trans hK5
      have O5 : Hid (Ord5 w5 ga) := ((O4.out.set (j := 2) (by decide) (by unfold Small; omega)).set (j := 3) (by decide) (by unfold Small; omega)).kept hK5 hgr
      have W5 : Hid (Wr5 w5 w.heap.size) := ((W4.out.set (by omega) _).set (by omega) _).kept hK5 (by omega)
      have x5l := hx5.1
      have x5h := hx5.2.1 (by decide)
      clear hR5 hK5 hx5
      obtain ⟨f, hf⟩ := O5.out
      have HF : Hid (∀ i, i < 5 → Small (f i)) := fun i hi => (hf i hi).1
      have c0 := (hf 0 (by decide)).2.1
      have z0 := (hf 0 (by decide)).2.2
      have c1 := (hf 1 (by decide)).2.1
      have z1 := (hf 1 (by decide)).2.2
      have c2 := (hf 2 (by decide)).2.1
      have z2 := (hf 2 (by decide)).2.2
      have c3 := (hf 3 (by decide)).2.1
      have z3 := (hf 3 (by decide)).2.2
      have c4 := (hf 4 (by decide)).2.1
      have z4 := (hf 4 (by decide)).2.2
      obtain ⟨v0, q0, y0⟩ := W5.out 0 (by decide)
      obtain ⟨v1, q1, y1⟩ := W5.out 1 (by decide)
      obtain ⟨v2, q2, y2⟩ := W5.out 2 (by decide)
      obtain ⟨v3, q3, y3⟩ := W5.out 3 (by decide)
      obtain ⟨v4, q4, y4⟩ := W5.out 4 (by decide)
      have b0 := HF.out 0 (by decide)
      have b1 := HF.out 3 (by decide)
      unfold Small at b0 b1
      clear hf
      go_wp2
      refine bodyPost_ret (v := .agg #[.int .i64 (f 0), .int .i64 (f 1), .int .i64 (f 2), .int .i64 (f 3), .int .i64 (1 + x5)]) (by simp [results, Tryd.results31, go_sem, q0, q1, q2, q3, q4]) rfl ?_
      refine ⟨f 0, f 1, f 2, f 3, 1 + x5, rfl, ⟨HF.out 0 (by decide), HF.out 1 (by decide), HF.out 2 (by decide), HF.out 3 (by decide), by unfold Small; omega⟩, RdB.more (m := m + 5) ?_ (by omega), ?_⟩
      · exact ((((((R5.out.set (by omega) _).set (by omega) _).set (by omega) _).set (by omega) _).set (by omega) _).set (by omega) _)
      · refine Kept.setCell ?_ (.inl (by simp)) _
        refine Kept.setCell ?_ (.inl (by simp)) _
        refine Kept.setCell ?_ (.inl (by simp)) _
        refine Kept.setCell ?_ (.inl (by simp)) _
        refine Kept.setCell ?_ (.inl (by simp)) _
        refine Kept.setCell ?_ (.inl (by simp; omega)) _
        exact K5.out
    · obtain ⟨f, hf⟩ := O4.out
      have HF : Hid (∀ i, i < 5 → Small (f i)) := fun i hi => (hf i hi).1
      have c0 := (hf 0 (by decide)).2.1
      have z0 := (hf 0 (by decide)).2.2
      have c1 := (hf 1 (by decide)).2.1
      have z1 := (hf 1 (by decide)).2.2
      have c2 := (hf 2 (by decide)).2.1
      have z2 := (hf 2 (by decide)).2.2
      have c3 := (hf 3 (by decide)).2.1
      have z3 := (hf 3 (by decide)).2.2
      have c4 := (hf 4 (by decide)).2.1
      have z4 := (hf 4 (by decide)).2.2
      obtain ⟨v0, q0, y0⟩ := W4.out 0 (by decide)
      obtain ⟨v1, q1, y1⟩ := W4.out 1 (by decide)
      obtain ⟨v2, q2, y2⟩ := W4.out 2 (by decide)
      obtain ⟨v3, q3, y3⟩ := W4.out 3 (by decide)
      obtain ⟨v4, q4, y4⟩ := W4.out 4 (by decide)
      have b0 := HF.out 0 (by decide)
      have b1 := HF.out 3 (by decide)
      unfold Small at b0 b1
      clear hf
      go_wp2_with fail
      clear c0 z0 q0 y0 c1 z1 q1 y1 c2 z2 q2 y2 c3 z3 q3 y3 c4 z4 q4 y4 b0 b1 HF
      refine (pick_B ((R4.out.set (by omega) _).set (by omega) _) (by omega)).mono ?_
      rintro e w5 ⟨x5, rfl, hx5, hR5, hK5⟩
      have R5 : Hid (RdB w5 r ad len cap (m + 5)) := hR5.more (by omega)
      have K5 : Hid (Kept r w w5) := ((K4.out.setCell (.inl (by simp; omega)) _).setCell (.inl (by simp; omega)) _).trans hK5
      have O5 : Hid (Ord5 w5 ga) := ((O4.out.set (j := 2) (by decide) (by unfold Small; omega)).set (j := 3) (by decide) (by unfold Small; omega)).kept hK5 hgr
      have W5 : Hid (Wr5 w5 w.heap.size) := ((W4.out.set (by omega) _).set (by omega) _).kept hK5 (by omega)
      have x5l := hx5.1
      have x5h := hx5.2.1 (by decide)
      clear hR5 hK5 hx5
      obtain ⟨f, hf⟩ := O5.out
      have HF : Hid (∀ i, i < 5 → Small (f i)) := fun i hi => (hf i hi).1
      have c0 := (hf 0 (by decide)).2.1
      have z0 := (hf 0 (by decide)).2.2
      have c1 := (hf 1 (by decide)).2.1
      have z1 := (hf 1 (by decide)).2.2
      have c2 := (hf 2 (by decide)).2.1
      have z2 := (hf 2 (by decide)).2.2
      have c3 := (hf 3 (by decide)).2.1
      have z3 := (hf 3 (by decide)).2.2
      have c4 := (hf 4 (by decide)).2.1
      have z4 := (hf 4 (by decide)).2.2
      obtain ⟨v0, q0, y0⟩ := W5.out 0 (by decide)
      obtain ⟨v1, q1, y1⟩ := W5.out 1 (by decide)
      obtain ⟨v2, q2, y2⟩ := W5.out 2 (by decide)
      obtain ⟨v3, q3, y3⟩ := W5.out 3 (by decide)
      obtain ⟨v4, q4, y4⟩ := W5.out 4 (by decide)
      have b0 := HF.out 0 (by decide)
      have b1 := HF.out 3 (by decide)
      unfold Small at b0 b1
      clear hf
      go_wp2
      refine bodyPost_ret (v := .agg #[.int .i64 (f 0), .int .i64 (f 1), .int .i64 (f 2), .int .i64 (f 3), .int .i64 (1 + x5)]) (by simp [results, Tryd.results31, go_sem, q0, q1, q2, q3, q4]) rfl ?_
      refine ⟨f 0, f 1, f 2, f 3, 1 + x5, rfl, ⟨HF.out 0 (by decide), HF.out 1 (by decide), HF.out 2 (by decide), HF.out 3 (by decide), by unfold Small; omega⟩, RdB.more (m := m + 5) ?_ (by omega), ?_⟩
      · exact ((((((R5.out.set (by omega) _).set (by omega) _).set (by omega) _).set (by omega) _).set (by omega) _).set (by omega) _)
      · refine Kept.setCell ?_ (.inl (by simp)) _
        refine Kept.setCell ?_ (.inl (by simp)) _
        refine Kept.setCell ?_ (.inl (by simp)) _
        refine Kept.setCell ?_ (.inl (by simp)) _
        refine Kept.setCell ?_ (.inl (by simp)) _
        refine Kept.setCell ?_ (.inl (by simp; omega)) _
        exact K5.out
    · obtain ⟨f, hf⟩ := O4.out
      have HF : Hid (∀ i, i < 5 → Small (f i)) := fun i hi => (hf i hi).1
      have c0 := (hf 0 (by decide)).2.1
      have z0 := (hf 0 (by decide)).2.2
      have c1 := (hf 1 (by decide)).2.1
      have z1 := (hf 1 (by decide)).2.2
      have c2 := (hf 2 (by decide)).2.1
      have z2 := (hf 2 (by decide)).2.2
      have c3 := (hf 3 (by decide)).2.1
      have z3 := (hf 3 (by decide)).2.2
      have c4 := (hf 4 (by decide)).2.1
      have z4 := (hf 4 (by decide)).2.2
      obtain ⟨v0, q0, y0⟩ := W4.out 0 (by decide)
      obtain ⟨v1, q1, y1⟩ := W4.out 1 (by decide)
      obtain ⟨v2, q2, y2⟩ := W4.out 2 (by decide)
      obtain ⟨v3, q3, y3⟩ := W4.out 3 (by decide)
      obtain ⟨v4, q4, y4⟩ := W4.out 4 (by decide)
      have b0 := HF.out 0 (by decide)
      have b1 := HF.out 3 (by decide)
      unfold Small at b0 b1
      clear hf
      go_wp2_with fail
      clear c0 z0 q0 y0 c1 z1 q1 y1 c2 z2 q2 y2 c3 z3 q3 y3 c4 z4 q4 y4 b0 b1 HF
      refine (pick_B (R4.out.set (by omega) _) (by omega)).mono ?_
      rintro e w5 ⟨x5, rfl, hx5, hR5, hK5⟩
      have R5 : Hid (RdB w5 r ad len cap (m + 5)) := hR5.more (by omega)
      have K5 : Hid (Kept r w w5) := (K4.out.setCell (.inl (by simp; omega)) _).trans hK5
      have O5 : Hid (Ord5 w5 ga) := (O4.out.set (j := 2) (by decide) (by unfold Small; omega)).kept hK5 hgr
      have W5 : Hid (Wr5 w5 w.heap.size) := (W4.out.set (by omega) _).kept hK5 (by omega)
      have x5l := hx5.1
      have x5h := hx5.2.1 (by decide)
      clear hR5 hK5 hx5
      obtain ⟨f, hf⟩ := O5.out
      have HF : Hid (∀ i, i < 5 → Small (f i)) := fun i hi => (hf i hi).1
      have c0 := (hf 0 (by decide)).2.1
      have z0 := (hf 0 (by decide)).2.2
      have c1 := (hf 1 (by decide)).2.1
      have z1 := (hf 1 (by decide)).2.2
      have c2 := (hf 2 (by decide)).2.1
      have z2 := (hf 2 (by decide)).2.2
      have c3 := (hf 3 (by decide)).2.1
      have z3 := (hf 3 (by decide)).2.2
      have c4 := (hf 4 (by decide)).2.1
      have z4 := (hf 4 (by decide)).2.2
      obtain ⟨v0, q0, y0⟩ := W5.out 0 (by decide)
      obtain ⟨v1, q1, y1⟩ := W5.out 1 (by decide)
      obtain ⟨v2, q2, y2⟩ := W5.out 2 (by decide)
      obtain ⟨v3, q3, y3⟩ := W5.out 3 (by decide)
      obtain ⟨v4, q4, y4⟩ := W5.out 4 (by decide)
      have b0 := HF.out 0 (by decide)
      have b1 := HF.out 3 (by decide)
      unfold Small at b0 b1
      clear hf
      go_wp2
      refine bodyPost_ret (v := .agg #[.int .i64 (f 0), .int .i64 (f 1), .int .i64 (f 2), .int .i64 (f 3), .int .i64 (1 + x5)]) (by simp [results, Tryd.results31, go_sem, q0, q1, q2, q3, q4]) rfl ?_
      refine ⟨f 0, f 1, f 2, f 3, 1 + x5, rfl, ⟨HF.out 0 (by decide), HF.out 1 (by decide), HF.out 2 (by decide), HF.out 3 (by decide), by unfold Small; omega⟩, RdB.more (m := m + 5) ?_ (by omega), ?_⟩
      · exact ((((((R5.out.set (by omega) _).set (by omega) _).set (by omega) _).set (by omega) _).set (by omega) _).set (by omega) _)
      · refine Kept.setCell ?_ (.inl (by simp)) _
        refine Kept.setCell ?_ (.inl (by simp)) _
        refine Kept.setCell ?_ (.inl (by simp)) _
        refine Kept.setCell ?_ (.inl (by simp)) _
        refine Kept.setCell ?_ (.inl (by simp)) _
        refine Kept.setCell ?_ (.inl (by simp; omega)) _
        exact K5.out
    · obtain ⟨f, hf⟩ := O4.out
      have HF : Hid (∀ i, i < 5 → Small (f i)) := fun i hi => (hf i hi).1
      have c0 := (hf 0 (by decide)).2.1
      have z0 := (hf 0 (by decide)).2.2
      have c1 := (hf 1 (by decide)).2.1
      have z1 := (hf 1 (by decide)).2.2
      have c2 := (hf 2 (by decide)).2.1
      have z2 := (hf 2 (by decide)).2.2
      have c3 := (hf 3 (by decide)).2.1
      have z3 := (hf 3 (by decide)).2.2
      have c4 := (hf 4 (by decide)).2.1
      have z4 := (hf 4 (by decide)).2.2
      obtain ⟨v0, q0, y0⟩ := W4.out 0 (by decide)
      obtain ⟨v1, q1, y1⟩ := W4.out 1 (by decide)
      obtain ⟨v2, q2, y2⟩ := W4.out 2 (by decide)
      obtain ⟨v3, q3, y3⟩ := W4.out 3 (by decide)
      obtain ⟨v4, q4, y4⟩ := W4.out 4 (by decide)
      have b0 := HF.out 0 (by decide)
      have b1 := HF.out 3 (by decide)
      unfold Small at b0 b1
      clear hf
      go_wp2_with fail
      clear c0 z0 q0 y0 c1 z1 q1 y1 c2 z2 q2 y2 c3 z3 q3 y3 c4 z4 q4 y4 b0 b1 HF
      refine (pick_B (R4.out.set (by omega) _) (by omega)).mono ?_
      rintro e w5 ⟨x5, rfl, hx5, hR5, hK5⟩
      have R5 : Hid (RdB w5 r ad len cap (m + 5)) := hR5.more (by omega)
      have K5 : Hid (Kept r w w5) := (K4.out.setCell (.inl (by simp; omega)) _).trans hK5
      have O5 : Hid (Ord5 w5 ga) := (O4.out.set (j := 2) (by decide) (by unfold Small; omega)).kept hK5 hgr
      have W5 : Hid (Wr5 w5 w.heap.size) := (W4.out.set (by omega) _).kept hK5 (by omega)
      have x5l := hx5.1
      have x5h := hx5.2.1 (by decide)
      clear hR5 hK5 hx5
      obtain ⟨f, hf⟩ := O5.out
      have HF : Hid (∀ i, i < 5 → Small (f i)) := fun i hi => (hf i hi).1
      have c0 := (hf 0 (by decide)).2.1
      have z0 := (hf 0 (by decide)).2.2
      have c1 := (hf 1 (by decide)).2.1
      have z1 := (hf 1 (by decide)).2.2
      have c2 := (hf 2 (by decide)).2.1
      have z2 := (hf 2 (by decide)).2.2
      have c3 := (hf 3 (by decide)).2.1
      have z3 := (hf 3 (by decide)).2.2
      have c4 := (hf 4 (by decide)).2.1
      have z4 := (hf 4 (by decide)).2.2
      obtain ⟨v0, q0, y0⟩ := W5.out 0 (by decide)
      obtain ⟨v1, q1, y1⟩ := W5.out 1 (by decide)
      obtain ⟨v2, q2, y2⟩ := W5.out 2 (by decide)
      obtain ⟨v3, q3, y3⟩ := W5.out 3 (by decide)
      obtain ⟨v4, q4, y4⟩ := W5.out 4 (by decide)
      have b0 := HF.out 0 (by decide)
      have b1 := HF.out 3 (by decide)
      unfold Small at b0 b1
      clear hf
      go_wp2
      refine bodyPost_ret (v := .agg #[.int .i64 (f 0), .int .i64 (f 1), .int .i64 (f 2), .int .i64 (f 3), .int .i64 (1 + x5)]) (by simp [results, Tryd.results31, go_sem, q0, q1, q2, q3, q4]) rfl ?_
      refine ⟨f 0, f 1, f 2, f 3, 1 + x5, rfl, ⟨HF.out 0 (by decide), HF.out 1 (by decide), HF.out 2 (by decide), HF.out 3 (by decide), by unfold Small; omega⟩, RdB.more (m := m + 5) ?_ (by omega), ?_⟩
      · exact ((((((R5.out.set (by omega) _).set (by omega) _).set (by omega) _).set (by omega) _).set (by omega) _).set (by omega) _)
      · refine Kept.setCell ?_ (.inl (by simp)) _
        refine Kept.setCell ?_ (.inl (by simp)) _
        refine Kept.setCell ?_ (.inl (by simp)) _
        refine Kept.setCell ?_ (.inl (by simp)) _
        refine Kept.setCell ?_ (.inl (by simp)) _
        refine Kept.setCell ?_ (.inl (by simp; omega)) _
        exact K5.out
    · obtain ⟨f, hf⟩ := O4.out
      have HF : Hid (∀ i, i < 5 → Small (f i)) := fun i hi => (hf i hi).1
      have c0 := (hf 0 (by decide)).2.1
      have z0 := (hf 0 (by decide)).2.2
      have c1 := (hf 1 (by decide)).2.1
      have z1 := (hf 1 (by decide)).2.2
      have c2 := (hf 2 (by decide)).2.1
      have z2 := (hf 2 (by decide)).2.2
      have c3 := (hf 3 (by decide)).2.1
      have z3 := (hf 3 (by decide)).2.2
      have c4 := (hf 4 (by decide)).2.1
      have z4 := (hf 4 (by decide)).2.2
      obtain ⟨v0, q0, y0⟩ := W4.out 0 (by decide)
      obtain ⟨v1, q1, y1⟩ := W4.out 1 (by decide)
      obtain ⟨v2, q2, y2⟩ := W4.out 2 (by decide)
      obtain ⟨v3, q3, y3⟩ := W4.out 3 (by decide)
      obtain ⟨v4, q4, y4⟩ := W4.out 4 (by decide)
      have b0 := HF.out 0 (by decide)
      have b1 := HF.out 3 (by decide)
      unfold Small at b0 b1
      clear hf
      go_wp2_with fail
      clear c0 z0 q0 y0 c1 z1 q1 y1 c2 z2 q2 y2 c3 z3 q3 y3 c4 z4 q4 y4 b0 b1 HF
      have hg4 : r < w4.heap.size := R4.out.lt
      refine (pick_B (R4.out.alloc _) (by omega)).mono ?_
      rintro e w5 ⟨x5, rfl, hx5, hR5, hK5⟩
      have R5 : Hid (RdB w5 r ad len cap (m + 5)) := hR5.more (by omega)
      have K5 : Hid (Kept r w w5) := (K4.out.alloc _).trans hK5
      have O5 : Hid (Ord5 w5 ga) := (O4.out.kept ((Kept.refl r w4).alloc (.cells #[.int .i64 6, .int .i64 1] 3)) hgr).kept hK5 hgr
      have W5 : Hid (Wr5 w5 w.heap.size) := (W4.out.kept ((Kept.refl r w4).alloc (.cells #[.int .i64 6, .int .i64 1] 3)) (by omega)).kept hK5 (by omega)
      have l0 : w5.cell? ⟨w4.heap.size, 0, none⟩ = some (.int .i64 6) := ((kcell hK5).1 w4.heap.size 0 (by simp) (by omega)).trans (by simp)
      have l1 : w5.cell? ⟨w4.heap.size, 1, none⟩ = some (.int .i64 1) := ((kcell hK5).1 w4.heap.size 1 (by simp) (by omega)).trans (by simp)
      have x5l := hx5.1
      have x5h := hx5.2.1 (by decide)
      clear hR5 hK5 hx5
      obtain ⟨f, hf⟩ := O5.out
      have HF : Hid (∀ i, i < 5 → Small (f i)) := fun i hi => (hf i hi).1
      have c0 := (hf 0 (by decide)).2.1
      have z0 := (hf 0 (by decide)).2.2
      have c1 := (hf 1 (by decide)).2.1
      have z1 := (hf 1 (by decide)).2.2
      have c2 := (hf 2 (by decide)).2.1
      have z2 := (hf 2 (by decide)).2.2
      have c3 := (hf 3 (by decide)).2.1
      have z3 := (hf 3 (by decide)).2.2
      have c4 := (hf 4 (by decide)).2.1
      have z4 := (hf 4 (by decide)).2.2
      obtain ⟨v0, q0, y0⟩ := W5.out 0 (by decide)
      obtain ⟨v1, q1, y1⟩ := W5.out 1 (by decide)
      obtain ⟨v2, q2, y2⟩ := W5.out 2 (by decide)
      obtain ⟨v3, q3, y3⟩ := W5.out 3 (by decide)
      obtain ⟨v4, q4, y4⟩ := W5.out 4 (by decide)
      have b0 := HF.out 0 (by decide)
      have b1 := HF.out 3 (by decide)
      unfold Small at b0 b1
      clear hf
      have hx : x5 = 0 ∨ x5 = 1 := by omega
      rcases hx with rfl | rfl
      · go_wp2
        refine bodyPost_ret (v := .agg #[.int .i64 (f 0), .int .i64 (f 1), .int .i64 (6), .int .i64 (0), .int .i64 (f 4)]) (by simp [results, Tryd.results31, go_sem, q0, q1, q2, q3, q4]) rfl ?_
        refine ⟨f 0, f 1, 6, 0, f 4, rfl, ⟨HF.out 0 (by decide), HF.out 1 (by decide), by unfold Small; omega, by unfold Small; omega, HF.out 4 (by decide)⟩, RdB.more (m := m + 5) ?_ (by omega), ?_⟩
        · exact (((((((R5.out.set (by omega) _).set (by omega) _).set (by omega) _).set (by omega) _).set (by omega) _).set (by omega) _).set (by omega) _)
        · refine Kept.setCell ?_ (.inl (by simp)) _
          refine Kept.setCell ?_ (.inl (by simp)) _
          refine Kept.setCell ?_ (.inl (by simp)) _
          refine Kept.setCell ?_ (.inl (by simp)) _
          refine Kept.setCell ?_ (.inl (by simp)) _
          refine Kept.setCell ?_ (.inl (by simp; omega)) _
          refine Kept.setCell ?_ (.inl (by simp; omega)) _
          exact K5.out
      · go_wp2
        refine bodyPost_ret (v := .agg #[.int .i64 (f 0), .int .i64 (f 1), .int .i64 (1), .int .i64 (f 3), .int .i64 (f 4)]) (by simp [results, Tryd.results31, go_sem, q0, q1, q2, q3, q4]) rfl ?_
        refine ⟨f 0, f 1, 1, f 3, f 4, rfl, ⟨HF.out 0 (by decide), HF.out 1 (by decide), by unfold Small; omega, HF.out 3 (by decide), HF.out 4 (by decide)⟩, RdB.more (m := m + 5) ?_ (by omega), ?_⟩
        · exact ((((((R5.out.set (by omega) _).set (by omega) _).set (by omega) _).set (by omega) _).set (by omega) _).set (by omega) _)
        · refine Kept.setCell ?_ (.inl (by simp)) _
          refine Kept.setCell ?_ (.inl (by simp)) _
          refine Kept.setCell ?_ (.inl (by simp)) _
          refine Kept.setCell ?_ (.inl (by simp)) _
          refine Kept.setCell ?_ (.inl (by simp)) _
          refine Kept.setCell ?_ (.inl (by simp; omega)) _
          exact K5.out
    · obtain ⟨f, hf⟩ := O4.out
      have HF : Hid (∀ i, i < 5 → Small (f i)) := fun i hi => (hf i hi).1
      have c0 := (hf 0 (by decide)).2.1
      have z0 := (hf 0 (by decide)).2.2
      have c1 := (hf 1 (by decide)).2.1
      have z1 := (hf 1 (by decide)).2.2
      have c2 := (hf 2 (by decide)).2.1
      have z2 := (hf 2 (by decide)).2.2
      have c3 := (hf 3 (by decide)).2.1
      have z3 := (hf 3 (by decide)).2.2
      have c4 := (hf 4 (by decide)).2.1
      have z4 := (hf 4 (by decide)).2.2
      obtain ⟨v0, q0, y0⟩ := W4.out 0 (by decide)
      obtain ⟨v1, q1, y1⟩ := W4.out 1 (by decide)
      obtain ⟨v2, q2, y2⟩ := W4.out 2 (by decide)
      obtain ⟨v3, q3, y3⟩ := W4.out 3 (by decide)
      obtain ⟨v4, q4, y4⟩ := W4.out 4 (by decide)
      have b0 := HF.out 0 (by decide)
      have b1 := HF.out 3 (by decide)
      unfold Small at b0 b1
      clear hf
      go_wp2
      refine bodyPost_ret (v := .agg #[.int .i64 (f 0), .int .i64 (f 1), .int .i64 (f 2), .int .i64 (f 3), .int .i64 (f 4)]) (by simp [results, Tryd.results31, go_sem, q0, q1, q2, q3, q4]) rfl ?_
      refine ⟨f 0, f 1, f 2, f 3, f 4, rfl, ⟨HF.out 0 (by decide), HF.out 1 (by decide), HF.out 2 (by decide), HF.out 3 (by decide), HF.out 4 (by decide)⟩, RdB.more (m := m + 4) ?_ (by omega), ?_⟩
      · exact (((((R4.out.set (by omega) _).set (by omega) _).set (by omega) _).set (by omega) _).set (by omega) _)
      · refine Kept.setCell ?_ (.inl (by simp)) _
        refine Kept.setCell ?_ (.inl (by simp)) _
        refine Kept.setCell ?_ (.inl (by simp)) _
        refine Kept.setCell ?_ (.inl (by simp)) _
        refine Kept.setCell ?_ (.inl (by simp)) _
        exact K4.out
end Go.Proofs.YtmccbbanganjlaaDoor
