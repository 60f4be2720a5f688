/- The walk of l20Parcel: a parcel is drawn; conditions: the reader lies open. -/
import Derived.Test.YtkobiniogigloaaBad
namespace Go.Proofs.Ytkobiniogigloaa
open Go.RowKit
set_option linter.unusedVariables false

theorem up3 {u : Value} {p : Nat → Value} {n m : Nat} (h : u = undef ∨ ∃ g, u = p g ∧ g < n) (hs : n ≤ m) : u = undef ∨ ∃ g, u = p g ∧ g < m := by
  rcases h with h | ⟨g, h1, h2⟩
  · exact .inl h
  · exact .inr ⟨g, h1, Nat.lt_of_lt_of_le h2 hs⟩
theorem ptr_blk {a b : Nat} (h : Value.pointer (some ⟨a, 0, none⟩) = .pointer (some ⟨b, 0, none⟩)) : a = b := by simpa using h
theorem undef_pointer {a : Option Addr} : ¬ undef = Value.pointer a := by intro h; cases h
theorem new_ne {u : Value} {n ga : Nat} (h : u = undef ∨ ∃ g, u = Value.pointer (some ⟨g, 0, none⟩) ∧ g < n) (e : u = .pointer (some ⟨ga, 0, none⟩)) : ¬ n = ga := by
  rcases h with h | ⟨g, h1, h2⟩
  · exact absurd (h.symm.trans e) undef_pointer
  · have := ptr_blk (h1.symm.trans e); omega

/-- Values written into a block from cell k on. -/
def puts (b : Nat) : List Value → Nat → World → World
  | [], _, w => w
  | x :: r, k, w => puts b r (k + 1) (w.setCell ⟨b, k, none⟩ x)
/-- The first n cells of block b are there, and may be written. -/
def WrN (n : Nat) (w : World) (b : Nat) : Prop := ∀ j, j < n → ∃ v, w.cell? ⟨b, j, none⟩ = some v ∧ w.frozen? ⟨b, j, none⟩ = false
/-- Block g begins with n small numbers, and may be written. -/
def SmN (n : Nat) (W : World) (g : Nat) : Prop := ∃ f : Nat → Int, ∀ i, i < n → Small (f i) ∧ W.cell? ⟨g, i, none⟩ = some (.int .i64 (f i)) ∧ W.frozen? ⟨g, i, none⟩ = false

theorem puts_frozen (b : Nat) : ∀ (l : List Value) (k : Nat) (w : World) (p : Addr), (puts b l k w).frozen? p = w.frozen? p
  | [], _, _, _ => rfl
  | x :: r, k, w, p => (puts_frozen b r (k + 1) _ p).trans (World.frozen?_setCell ..)
theorem puts_far {b g : Nat} (h : ¬ g = b) : ∀ (l : List Value) (k : Nat) (w : World) (o : Nat), (puts b l k w).cell? ⟨g, o, none⟩ = w.cell? ⟨g, o, none⟩
  | [], _, _, _ => rfl
  | x :: r, k, w, o => (puts_far h r (k + 1) _ o).trans (World.cell?_setCell_other _ _ _ _ (by intro e; injection e with e1; exact h e1.symm))
theorem puts_low {b : Nat} : ∀ (l : List Value) (k : Nat) (w : World) (o : Nat), o < k → (puts b l k w).cell? ⟨b, o, none⟩ = w.cell? ⟨b, o, none⟩
  | [], _, _, _, _ => rfl
  | x :: r, k, w, o, h => (puts_low r (k + 1) _ o (by omega)).trans (World.cell?_setCell_other _ _ _ _ (by intro e; injection e with _ e2; omega))
theorem puts_size (b : Nat) : ∀ (l : List Value) (k : Nat) (w : World), (puts b l k w).heap.size = w.heap.size
  | [], _, _ => rfl
  | x :: r, k, w => (puts_size b r (k + 1) _).trans (by simp [World.setCell])
theorem set_own {W : World} {b k : Nat} {x v : Value} (h : W.cell? ⟨b, k, none⟩ = some v) : (W.setCell ⟨b, k, none⟩ x).cell? ⟨b, k, none⟩ = some x := by
  have := World.cell?_setCells_in b [x] k W (fun j' hj' => by
    have : j' = 0 := by simpa using hj'
    subst this; rw [Nat.add_zero, h]; rfl) 0 (by simp)
  rw [show W.setCell ⟨b, k, none⟩ x = W.setCells b k [x] from rfl]
  simpa using this
theorem puts_at {b : Nat} : ∀ (l : List Value) (k : Nat) (w : World), (∀ j, j < l.length → ∃ v, w.cell? ⟨b, k + j, none⟩ = some v) → ∀ j, j < l.length → (puts b l k w).cell? ⟨b, k + j, none⟩ = some (l.getD j undef)
  | [], _, _, _, j, hj => absurd hj (by simp)
  | x :: r, k, w, h, 0, _ => by
    obtain ⟨v, hv⟩ := h 0 (by simp)
    exact (puts_low r (k + 1) _ (k + 0) (by omega)).trans (set_own hv)
  | x :: r, k, w, h, j + 1, hj => by
    have := puts_at r (k + 1) (w.setCell ⟨b, k, none⟩ x) (fun i hi => by
      obtain ⟨v, hv⟩ := h (i + 1) (by simp; omega)
      refine ⟨v, (World.cell?_setCell_other _ _ _ _ (by intro e; injection e with _ e2; omega)).trans ?_⟩
      rw [show k + 1 + i = k + (i + 1) by omega]; exact hv) j (by simpa using hj)
    rw [show k + (j + 1) = k + 1 + j by omega]
    show (puts b r (k + 1) (w.setCell ⟨b, k, none⟩ x)).cell? ⟨b, k + 1 + j, none⟩ = _
    simpa using this
theorem below_puts {B b : Nat} {a : World} (hb : B ≤ b) : ∀ (l : List Value) (k : Nat) {w : World}, Below B a w → Below B a (puts b l k w)
  | [], _, _, h => h
  | x :: r, k, _, h => below_puts hb r (k + 1) (h.setCell (p := ⟨b, k, none⟩) hb x)
theorem kept_puts {r b : Nat} {a : World} (hb : a.heap.size ≤ b) : ∀ (l : List Value) (k : Nat) {w : World}, Kept r a w → Kept r a (puts b l k w)
  | [], _, _, h => h
  | x :: t, k, _, h => kept_puts hb t (k + 1) (h.setCell (q := ⟨b, k, none⟩) (.inl hb) x)
theorem stayN {g b : Nat} {w : World} (h : ¬ g = b) (l : List Value) (k : Nat) : Stay g w (puts b l k w) := ⟨by rw [puts_size]; exact Nat.le_refl _, fun o => puts_far h l k w o⟩
theorem WrN.kept {n r : Nat} {w w' : World} {b : Nat} (h : WrN n w b) (K : Kept r w w') (hn : ¬ b = r) : WrN n w' b := by
  intro j hj
  obtain ⟨v, h1, h2⟩ := h j hj
  have hlt := cell_lt h1
  exact ⟨v, ((kcell K).1 b j hlt hn).trans h1, ((kcell K).2 b j hlt hn).trans h2⟩
theorem WrN.puts {n : Nat} {w : World} {b : Nat} (h : WrN n w b) (l : List Value) : WrN n (puts b l 0 w) b := by
  intro j hj
  obtain ⟨v, h1, h2⟩ := h j hj
  rw [puts_frozen]
  suffices ∀ (l : List Value) (k : Nat) (w : World), (∃ v, w.cell? ⟨b, j, none⟩ = some v) → ∃ v, (Go.Proofs.Ytkobiniogigloaa.puts b l k w).cell? ⟨b, j, none⟩ = some v by
    obtain ⟨u, hu⟩ := this l 0 w ⟨v, h1⟩
    exact ⟨u, hu, h2⟩
  intro l
  induction l with
  | nil => intro k w h; exact h
  | cons x r ih =>
    intro k w ⟨v, hv⟩
    refine ih (k + 1) _ ?_
    by_cases e : k = j
    · subst e; exact ⟨x, set_own hv⟩
    · exact ⟨v, (World.cell?_setCell_other _ _ _ _ (by intro e'; injection e' with _ e2; exact e e2)).trans hv⟩
theorem WrN.far {n : Nat} {w : World} {b g : Nat} {l : List Value} (h : WrN n w b) (hn : ¬ b = g) : WrN n (Go.Proofs.Ytkobiniogigloaa.puts g l 0 w) b := by
  intro j hj
  obtain ⟨v, h1, h2⟩ := h j hj
  exact ⟨v, (puts_far hn l 0 w j).trans h1, (puts_frozen g l 0 w _).trans h2⟩
theorem Two.far {w : World} {b g : Nat} {l : List Value} {x y : Value} (h : Two w b x y) (hn : ¬ b = g) : Two (puts g l 0 w) b x y :=
  ⟨(puts_far hn l 0 w 0).trans h.1, (puts_far hn l 0 w 1).trans h.2.1, (puts_frozen g l 0 w _).trans h.2.2.1, (puts_frozen g l 0 w _).trans h.2.2.2⟩
theorem RdB.puts {w : World} {r : Nat} {a : Option Addr} {len cap : Nat} {m : Int} (h : RdB w r a len cap m) {b : Nat} {l : List Value} {k : Nat} (hb : r < b) : RdB (puts b l k w) r a len cap m := by
  obtain ⟨p, h0, h1, h⟩ := h
  exact ⟨p, h0, h1, h.below (below_puts hb l k (Below.refl _ _))⟩
theorem Kept.puts {r : Nat} {a w : World} (h : Kept r a w) {b : Nat} {l : List Value} {k : Nat} (hb : a.heap.size ≤ b) : Kept r a (puts b l k w) := kept_puts hb l k h
theorem wrN_new (W : World) (t : TypeId) (l : List Value) : WrN l.length (W.alloc (.cells l.toArray t)) W.heap.size := fun j hj => ⟨l[j], by simp [hj], by simp⟩
theorem SmN.kept {n r : Nat} {W W' : World} {g : Nat} (h : SmN n W g) (K : Kept r W W') (hn : ¬ g = r) : SmN n W' g := by
  obtain ⟨f, h⟩ := h
  refine ⟨f, fun i hi => ?_⟩
  obtain ⟨h1, h2, h3⟩ := h i hi
  have hlt := cell_lt h2
  exact ⟨h1, ((kcell K).1 g i hlt hn).trans h2, ((kcell K).2 g i hlt hn).trans h3⟩
theorem smN_of {W : World} {g : Nat} {n : Nat} (h : WrN n W g) (l : List Int) (hl : l.length = n) (hs : ∀ z ∈ l, Small z) : SmN n (Go.Proofs.Ytkobiniogigloaa.puts g (l.map (.int .i64 ·)) 0 W) g := by
  refine ⟨fun i => l.getD i 0, fun i hi => ?_⟩
  have hi' : i < l.length := by omega
  have e : l.getD i 0 = l[i] := by simp [List.getD, List.getElem?_eq_getElem hi']
  obtain ⟨v, h1, h2⟩ := h i hi
  refine ⟨by show Small (l.getD i 0); rw [e]; exact hs _ (List.getElem_mem hi'), ?_, (puts_frozen g _ 0 W _).trans h2⟩
  have := puts_at (b := g) (l.map (.int .i64 ·)) 0 W (fun j hj => by
    rw [List.length_map] at hj
    obtain ⟨v, h1, _⟩ := h j (by omega)
    exact ⟨v, by rw [Nat.zero_add]; exact h1⟩) i (by simpa using hi')
  rw [Nat.zero_add] at this
  rw [this]
  show some _ = some (Value.int IntKind.i64 (l.getD i 0))
  rw [e]
  simp [List.getD, hi']
theorem SmN.set {n : Nat} {W : World} {g j : Nat} (h : SmN n W g) (hj : j < n) {z : Int} (hz : Small z) : SmN n (W.setCell ⟨g, j, none⟩ (.int .i64 z)) g := by
  obtain ⟨f, h⟩ := h
  refine ⟨fun i => if i = j then z else f i, fun i hi => ?_⟩
  obtain ⟨h1, h2, h3⟩ := h i hi
  rw [World.frozen?_setCell]
  by_cases e : i = j
  · subst e
    exact ⟨by simpa using hz, by simpa using set_own h2, h3⟩
  · refine ⟨by simpa [e] using h1, ?_, h3⟩
    simp only [e, if_false]
    exact (World.cell?_setCell_other _ _ _ _ (by intro e'; injection e' with _ e2; exact e e2.symm)).trans h2
theorem WrN.set {n : Nat} {W : World} {b g j : Nat} (h : WrN n W b) (hn : ¬ b = g) (x : Value) : WrN n (W.setCell ⟨g, j, none⟩ x) b := fun i hi => by
  obtain ⟨v, h1, h2⟩ := h i hi
  exact ⟨v, (World.cell?_setCell_other _ _ _ _ (by intro e; injection e with e1; exact hn e1.symm)).trans h1, (World.frozen?_setCell ..).trans h2⟩
theorem RdB.set {w : World} {r : Nat} {a : Option Addr} {len cap : Nat} {m : Int} (h : RdB w r a len cap m) {b j : Nat} (hb : r < b) (x : Value) : RdB (w.setCell ⟨b, j, none⟩ x) r a len cap m := by
  obtain ⟨p, h0, h1, h⟩ := h
  exact ⟨p, h0, h1, h.below ((Below.refl _ _).setCell (p := ⟨b, j, none⟩) hb _)⟩

theorem World_drew_cell (w : World) (p : Addr) : w.drew.cell? p = w.cell? p := rfl
theorem World_drew_frozen (w : World) (p : Addr) : w.drew.frozen? p = w.frozen? p := rfl

set_option maxRecDepth 20000 in
set_option maxHeartbeats 4000000 in
theorem parcel_B {r : Nat} {ad : Option Addr} {len cap : Nat} {m c d : Int} {w : World} (h : RdB w r ad len cap m) (hm : m ≤ 1000) (hc : MapOut c d) :
    Calls Try.prog 21 #[.pointer (some ⟨r, 0, none⟩), .agg #[.int .i64 c, .int .i64 d]] w fun e w' => ∃ f : Nat → Int, e = .returned (.agg #[.int .i64 (f 0), .int .i64 (f 1), .int .i64 (f 2), .int .i64 (f 3), .int .i64 (f 4), .int .i64 (f 5), .int .i64 (f 6), .int .i64 (f 7)]) ∧ (∀ i, i < 8 → Small (f i)) ∧ RdB w' r ad len cap (m + 8) ∧ Kept r w w' := by
  have hrl := h.lt
  have HC : Hid (MapOut c d) := hc
  have hw0 : WrN 8 ((w.alloc (.cells #[.int .i64 c, .int .i64 d] 24)).alloc (.cells #[.int .i64 0, .int .i64 0, .int .i64 0, .int .i64 0, .int .i64 0, .int .i64 0, .int .i64 0, .int .i64 0] 43)) (w.heap.size + 1) := by have := wrN_new (w.alloc (.cells #[.int .i64 c, .int .i64 d] 24)) 43 (List.replicate 8 (.int .i64 0)); simpa using this
  have S0 : Hid ((RdB (((w.alloc (.cells #[.int .i64 c, .int .i64 d] 24)).alloc (.cells #[.int .i64 0, .int .i64 0, .int .i64 0, .int .i64 0, .int .i64 0, .int .i64 0, .int .i64 0, .int .i64 0] 43)).drew) r ad len cap (m + cntL [2, 6] (fun _ => false)) ∧ Kept r w (((w.alloc (.cells #[.int .i64 c, .int .i64 d] 24)).alloc (.cells #[.int .i64 0, .int .i64 0, .int .i64 0, .int .i64 0, .int .i64 0, .int .i64 0, .int .i64 0, .int .i64 0] 43)).drew) ∧ WrN 8 (((w.alloc (.cells #[.int .i64 c, .int .i64 d] 24)).alloc (.cells #[.int .i64 0, .int .i64 0, .int .i64 0, .int .i64 0, .int .i64 0, .int .i64 0, .int .i64 0, .int .i64 0] 43)).drew) (w.heap.size + 1) ∧ Two (((w.alloc (.cells #[.int .i64 c, .int .i64 d] 24)).alloc (.cells #[.int .i64 0, .int .i64 0, .int .i64 0, .int .i64 0, .int .i64 0, .int .i64 0, .int .i64 0, .int .i64 0] 43)).drew) w.heap.size (.int .i64 c) (.int .i64 d) ∧ w.heap.size + 1 < (((w.alloc (.cells #[.int .i64 c, .int .i64 d] 24)).alloc (.cells #[.int .i64 0, .int .i64 0, .int .i64 0, .int .i64 0, .int .i64 0, .int .i64 0, .int .i64 0, .int .i64 0] 43)).drew).heap.size ∧ (undef = undef ∨ ∃ g, undef = Value.pointer (some ⟨g, 0, none⟩) ∧ g < (((w.alloc (.cells #[.int .i64 c, .int .i64 d] 24)).alloc (.cells #[.int .i64 0, .int .i64 0, .int .i64 0, .int .i64 0, .int .i64 0, .int .i64 0, .int .i64 0, .int .i64 0] 43)).drew).heap.size) ∧ (undef = undef ∨ ∃ g, undef = Value.slice (some ⟨g, 0, none⟩) 5 5 ∧ g < (((w.alloc (.cells #[.int .i64 c, .int .i64 d] 24)).alloc (.cells #[.int .i64 0, .int .i64 0, .int .i64 0, .int .i64 0, .int .i64 0, .int .i64 0, .int .i64 0, .int .i64 0] 43)).drew).heap.size) ∧ ((fun _ => false : Nat → Bool) 10 = true → (fun _ => false : Nat → Bool) 9 = true))) :=
    ⟨by rw [cntL_none, Int.add_zero]; exact ((h.alloc _).alloc _).drew, (((Kept.refl r w).alloc _).alloc _).drew, hw0, ⟨by rw [Go.Proofs.Ytkobiniogigloaa.World_drew_cell, old_cell _ (by simp)]; simp, by rw [Go.Proofs.Ytkobiniogigloaa.World_drew_cell, old_cell _ (by simp)]; simp, by rw [Go.Proofs.Ytkobiniogigloaa.World_drew_frozen, old_frozen _ (by simp)]; simp, by rw [Go.Proofs.Ytkobiniogigloaa.World_drew_frozen, old_frozen _ (by simp)]; simp⟩, by simp [World.drew], .inl rfl, .inl rfl, fun h => absurd h (by simp)⟩
  clear h hc hw0
  go_enter Try.func21, Try.ntmps21
  go_upto_region 1 with fail
  refine wp_region_inv (by kernel_rfl) (by kernel_rfl) (fun L a w' => ∃ u5 u6 u7 u8 u9 u10 u11 u12 u13 u14 : Value, a = ⟨#[.pointer (some ⟨r, 0, none⟩), .agg #[.int .i64 c, .int .i64 d], undef, .pointer (some ⟨w.heap.size, 0, none⟩), .pointer (some ⟨w.heap.size + 1, 0, none⟩), u5, u6, u7, u8, u9, u10, u11, u12, u13, u14, undef, undef, undef, undef, undef, undef, undef, undef, undef, undef], []⟩ ∧ (RdB w' r ad len cap (m + cntL [2, 6] L) ∧ Kept r w w' ∧ WrN 8 w' (w.heap.size + 1) ∧ Two w' w.heap.size (.int .i64 c) (.int .i64 d) ∧ w.heap.size + 1 < w'.heap.size ∧ (u5 = undef ∨ ∃ g, u5 = .pointer (some ⟨g, 0, none⟩) ∧ g < w'.heap.size) ∧ (u6 = undef ∨ ∃ g, u6 = .slice (some ⟨g, 0, none⟩) 5 5 ∧ g < w'.heap.size) ∧ (L 10 = true → L 9 = true)) ∧ (L 0 = true → ∃ g, u6 = .slice (some ⟨g, 0, none⟩) 5 5 ∧ Lits w' g [0, 0, 1, 2, 4999] ∧ ¬ g = r ∧ (∀ ga, u5 = .pointer (some ⟨ga, 0, none⟩) → ¬ g = ga)) ∧ (L 1 = true → u7 = .pointer (some ⟨r, 0, none⟩)) ∧ (L 2 = true → ∃ x, u8 = .int .i64 x ∧ PickOut 5 x) ∧ (L 3 = true → ∃ (g : Nat) (x : Int), u9 = .pointer (some ⟨g, x.toNat, none⟩) ∧ Lits w' g [0, 0, 1, 2, 4999] ∧ 0 ≤ x ∧ x < 5 ∧ ¬ g = r ∧ (∀ ga, u5 = .pointer (some ⟨ga, 0, none⟩) → ¬ g = ga)) ∧ (L 4 = true → ∃ z, u10 = .int .i64 z ∧ Small z) ∧ (L 5 = true → u11 = .pointer (some ⟨r, 0, none⟩)) ∧ (L 6 = true → ∃ x, u12 = .int .i64 x ∧ PickOut 9 x) ∧ (L 7 = true → ∃ z, u13 = .int .i64 z ∧ Small z) ∧ (L 8 = true → ∃ z0 z1, u14 = .agg #[.int .i64 z0, .int .i64 2, .int .i64 0, .int .i64 0, .int .i64 0, .int .i64 0, .int .i64 0, .int .i64 z1] ∧ (Small z0 ∧ Small z1)) ∧ (L 9 = true → ∃ ga, u5 = .pointer (some ⟨ga, 0, none⟩) ∧ WrN 8 w' ga ∧ ¬ ga = r ∧ w.heap.size + 1 < ga) ∧ (L 10 = true → ∃ ga, u5 = .pointer (some ⟨ga, 0, none⟩) ∧ SmN 8 w' ga ∧ w.heap.size + 1 < ga ∧ ¬ ga = r)) ?h0 ?hstep ?hdone
  case h0 => exact ⟨undef, undef, undef, undef, undef, undef, undef, undef, undef, undef, rfl, S0.out, fun h => absurd h (by simp), fun h => absurd h (by simp), fun h => absurd h (by simp), fun h => absurd h (by simp), fun h => absurd h (by simp), fun h => absurd h (by simp), fun h => absurd h (by simp), fun h => absurd h (by simp), fun h => absurd h (by simp), fun h => absurd h (by simp), fun h => absurd h (by simp)⟩
  case hstep =>
    refine ⟨?_, ?_, ?_, ?_, ?_, ?_, ?_, ?_, ?_, ?_, ?_, trivial⟩
    · intro L a w' K' hd hL hI hK
      obtain ⟨u5, u6, u7, u8, u9, u10, u11, u12, u13, u14, rfl, ⟨hR, hKp, hW, hT, hz, hU5, hU6, hP⟩, h0, h1, h2, h3, h4, h5, h6, h7, h8, h9, h10⟩ := hI
      have hrl := hR.lt
      go_simp
      exact hK.out _ _ ⟨_, _, _, _, _, _, _, _, _, _, rfl, ⟨by rw [cntL_out (by decide)]; exact hR.alloc _, hKp.alloc _, hW.kept ((Kept.refl r w').alloc _) (by omega), hT.kept ((Kept.refl r w').alloc _) (by omega), by simp; omega, up3 hU5 (by simp), .inr ⟨w'.heap.size, rfl, by simp⟩, keepL (by decide) (fun e => mark1_true (hP e))⟩, fun _ => ⟨w'.heap.size, rfl, Lits.new [0, 0, 1, 2, 4999] w' 3, by omega, fun ga eg => new_ne hU5 eg⟩, keepL (by decide) h1, keepL (by decide) h2, keepL (by decide) (fun e => match (h3 e) with | ⟨g, x, e1, e2, e5, e6, e3, e4⟩ => ⟨g, x, e1, Lits.kept ((Kept.refl r w').alloc _) e2 e3, e5, e6, e3, e4⟩), keepL (by decide) h4, keepL (by decide) h5, keepL (by decide) h6, keepL (by decide) h7, keepL (by decide) h8, keepL (by decide) (fun e => match (h9 e) with | ⟨ga, e1, e2, e3, e4⟩ => ⟨ga, e1, e2.kept ((Kept.refl r w').alloc _) e3, e3, e4⟩), keepL (by decide) (fun e => match (h10 e) with | ⟨ga, e1, e2, e3, e4⟩ => ⟨ga, e1, e2.kept ((Kept.refl r w').alloc _) e4, e3, e4⟩)⟩
    · intro L a w' K' hd hL hI hK
      obtain ⟨u5, u6, u7, u8, u9, u10, u11, u12, u13, u14, rfl, ⟨hR, hKp, hW, hT, hz, hU5, hU6, hP⟩, h0, h1, h2, h3, h4, h5, h6, h7, h8, h9, h10⟩ := hI
      go_simp
      exact hK.out _ _ ⟨_, _, _, _, _, _, _, _, _, _, rfl, ⟨by rw [cntL_out (by decide)]; exact hR, hKp, hW, hT, hz, hU5, hU6, keepL (by decide) (fun e => mark1_true (hP e))⟩, keepL (by decide) h0, fun _ => rfl, keepL (by decide) h2, keepL (by decide) h3, keepL (by decide) h4, keepL (by decide) h5, keepL (by decide) h6, keepL (by decide) h7, keepL (by decide) h8, keepL (by decide) h9, keepL (by decide) h10⟩
    · intro L a w' K' hd hL hI hK
      obtain ⟨u5, u6, u7, u8, u9, u10, u11, u12, u13, u14, rfl, ⟨hR, hKp, hW, hT, hz, hU5, hU6, hP⟩, h0, h1, h2, h3, h4, h5, h6, h7, h8, h9, h10⟩ := hI
      have hrl := hR.lt
      obtain rfl := h1 (hd ⟨1, .data⟩ (by simp) rfl)
      go_simp
      go_wp2_with (go_at_call 20; refine (pick_B hR (by have := (cntL_bd L [2, 6]).2; simp at this; omega)).mono ?_; rintro e w2 ⟨x, rfl, hx, hR2, K2⟩)
      exact hK.out _ _ ⟨_, _, _, _, _, _, _, _, _, _, rfl, ⟨by rw [cntL_in hL (by decide) (by decide), ← Int.add_assoc]; exact hR2, hKp.trans K2, hW.kept K2 (by omega), hT.kept K2 (by omega), Nat.lt_of_lt_of_le hz K2.size, up3 hU5 K2.size, up3 hU6 K2.size, keepL (by decide) (fun e => mark1_true (hP e))⟩, keepL (by decide) (fun e => match (h0 e) with | ⟨g, e1, e2, e3, e4⟩ => ⟨g, e1, Lits.kept K2 e2 e3, e3, e4⟩), keepL (by decide) (fun _ => rfl), fun _ => ⟨x, rfl, hx⟩, keepL (by decide) (fun e => match (h3 e) with | ⟨g, x, e1, e2, e5, e6, e3, e4⟩ => ⟨g, x, e1, Lits.kept K2 e2 e3, e5, e6, e3, e4⟩), keepL (by decide) h4, keepL (by decide) h5, keepL (by decide) h6, keepL (by decide) h7, keepL (by decide) h8, keepL (by decide) (fun e => match (h9 e) with | ⟨ga, e1, e2, e3, e4⟩ => ⟨ga, e1, e2.kept K2 e3, e3, e4⟩), keepL (by decide) (fun e => match (h10 e) with | ⟨ga, e1, e2, e3, e4⟩ => ⟨ga, e1, e2.kept K2 e4, e3, e4⟩)⟩
    · intro L a w' K' hd hL hI hK
      obtain ⟨u5, u6, u7, u8, u9, u10, u11, u12, u13, u14, rfl, ⟨hR, hKp, hW, hT, hz, hU5, hU6, hP⟩, h0, h1, h2, h3, h4, h5, h6, h7, h8, h9, h10⟩ := hI
      have hrl := hR.lt
      obtain ⟨g, rfl, hg, hn, hn2⟩ := h0 (hd ⟨0, .data⟩ (by simp) rfl)
      obtain ⟨x, rfl, hx⟩ := h2 (hd ⟨2, .data⟩ (by simp) rfl)
      have hx0 := hx.1
      have hx1 := hx.2.1 (by decide)
      go_simp
      exact hK.out _ _ ⟨_, _, _, _, _, _, _, _, _, _, rfl, ⟨by rw [cntL_out (by decide)]; exact hR, hKp, hW, hT, hz, hU5, hU6, keepL (by decide) (fun e => mark1_true (hP e))⟩, keepL (by decide) (fun _ => ⟨g, rfl, hg, hn, hn2⟩), keepL (by decide) h1, keepL (by decide) (fun _ => ⟨x, rfl, hx⟩), fun _ => ⟨g, x, rfl, hg, hx0, hx1, hn, hn2⟩, keepL (by decide) h4, keepL (by decide) h5, keepL (by decide) h6, keepL (by decide) h7, keepL (by decide) h8, keepL (by decide) h9, keepL (by decide) h10⟩
    · intro L a w' K' hd hL hI hK
      obtain ⟨u5, u6, u7, u8, u9, u10, u11, u12, u13, u14, rfl, ⟨hR, hKp, hW, hT, hz, hU5, hU6, hP⟩, h0, h1, h2, h3, h4, h5, h6, h7, h8, h9, h10⟩ := hI
      have hrl := hR.lt
      obtain ⟨g, x, rfl, hg, hx0, hx1, hn, hn2⟩ := h3 (hd ⟨3, .data⟩ (by simp) rfl)
      obtain ⟨z, hcz, hsz⟩ : ∃ z, w'.cell? ⟨g, x.toNat, none⟩ = some (.int .i64 z) ∧ Small z := ⟨_, hg.2 x hx0 hx1, lits_small _ (by decide)⟩
      go_simp
      exact hK.out _ _ ⟨_, _, _, _, _, _, _, _, _, _, rfl, ⟨by rw [cntL_out (by decide)]; exact hR, hKp, hW, hT, hz, hU5, hU6, keepL (by decide) (fun e => mark1_true (hP e))⟩, keepL (by decide) h0, keepL (by decide) h1, keepL (by decide) h2, keepL (by decide) (fun _ => ⟨g, x, rfl, hg, hx0, hx1, hn, hn2⟩), fun _ => ⟨z, rfl, hsz⟩, keepL (by decide) h5, keepL (by decide) h6, keepL (by decide) h7, keepL (by decide) h8, keepL (by decide) h9, keepL (by decide) h10⟩
    · intro L a w' K' hd hL hI hK
      obtain ⟨u5, u6, u7, u8, u9, u10, u11, u12, u13, u14, rfl, ⟨hR, hKp, hW, hT, hz, hU5, hU6, hP⟩, h0, h1, h2, h3, h4, h5, h6, h7, h8, h9, h10⟩ := hI
      go_simp
      exact hK.out _ _ ⟨_, _, _, _, _, _, _, _, _, _, rfl, ⟨by rw [cntL_out (by decide)]; exact hR, hKp, hW, hT, hz, hU5, hU6, keepL (by decide) (fun e => mark1_true (hP e))⟩, keepL (by decide) h0, keepL (by decide) h1, keepL (by decide) h2, keepL (by decide) h3, keepL (by decide) h4, fun _ => rfl, keepL (by decide) h6, keepL (by decide) h7, keepL (by decide) h8, keepL (by decide) h9, keepL (by decide) h10⟩
    · intro L a w' K' hd hL hI hK
      obtain ⟨u5, u6, u7, u8, u9, u10, u11, u12, u13, u14, rfl, ⟨hR, hKp, hW, hT, hz, hU5, hU6, hP⟩, h0, h1, h2, h3, h4, h5, h6, h7, h8, h9, h10⟩ := hI
      have hrl := hR.lt
      obtain rfl := h5 (hd ⟨5, .data⟩ (by simp) rfl)
      go_simp
      go_wp2_with (go_at_call 20; refine (pick_B hR (by have := (cntL_bd L [2, 6]).2; simp at this; omega)).mono ?_; rintro e w2 ⟨x, rfl, hx, hR2, K2⟩)
      exact hK.out _ _ ⟨_, _, _, _, _, _, _, _, _, _, rfl, ⟨by rw [cntL_in hL (by decide) (by decide), ← Int.add_assoc]; exact hR2, hKp.trans K2, hW.kept K2 (by omega), hT.kept K2 (by omega), Nat.lt_of_lt_of_le hz K2.size, up3 hU5 K2.size, up3 hU6 K2.size, keepL (by decide) (fun e => mark1_true (hP e))⟩, keepL (by decide) (fun e => match (h0 e) with | ⟨g, e1, e2, e3, e4⟩ => ⟨g, e1, Lits.kept K2 e2 e3, e3, e4⟩), keepL (by decide) h1, keepL (by decide) h2, keepL (by decide) (fun e => match (h3 e) with | ⟨g, x, e1, e2, e5, e6, e3, e4⟩ => ⟨g, x, e1, Lits.kept K2 e2 e3, e5, e6, e3, e4⟩), keepL (by decide) h4, keepL (by decide) (fun _ => rfl), fun _ => ⟨x, rfl, hx⟩, keepL (by decide) h7, keepL (by decide) h8, keepL (by decide) (fun e => match (h9 e) with | ⟨ga, e1, e2, e3, e4⟩ => ⟨ga, e1, e2.kept K2 e3, e3, e4⟩), keepL (by decide) (fun e => match (h10 e) with | ⟨ga, e1, e2, e3, e4⟩ => ⟨ga, e1, e2.kept K2 e4, e3, e4⟩)⟩
    · intro L a w' K' hd hL hI hK
      obtain ⟨u5, u6, u7, u8, u9, u10, u11, u12, u13, u14, rfl, ⟨hR, hKp, hW, hT, hz, hU5, hU6, hP⟩, h0, h1, h2, h3, h4, h5, h6, h7, h8, h9, h10⟩ := hI
      have hrl := hR.lt
      obtain ⟨x, rfl, hx⟩ := h6 (hd ⟨6, .data⟩ (by simp) rfl)
      have hx0 := hx.1
      have hx1 := hx.2.1 (by decide)
      have hwr : IntKind.i64.wrap (1 + x) = 1 + x := by rw [IntKind.wrap_i64]; omega
      go_simp
      exact hK.out _ _ ⟨_, _, _, _, _, _, _, _, _, _, rfl, ⟨by rw [cntL_out (by decide)]; exact hR, hKp, hW, hT, hz, hU5, hU6, keepL (by decide) (fun e => mark1_true (hP e))⟩, keepL (by decide) h0, keepL (by decide) h1, keepL (by decide) h2, keepL (by decide) h3, keepL (by decide) h4, keepL (by decide) h5, keepL (by decide) (fun _ => ⟨x, rfl, hx⟩), fun _ => ⟨1 + x, rfl, by unfold Small; omega⟩, keepL (by decide) h8, keepL (by decide) h9, keepL (by decide) h10⟩
    · intro L a w' K' hd hL hI hK
      obtain ⟨u5, u6, u7, u8, u9, u10, u11, u12, u13, u14, rfl, ⟨hR, hKp, hW, hT, hz, hU5, hU6, hP⟩, h0, h1, h2, h3, h4, h5, h6, h7, h8, h9, h10⟩ := hI
      have hrl := hR.lt
      obtain ⟨z0, rfl, s0⟩ := h4 (hd ⟨4, .data⟩ (by simp) rfl)
      obtain ⟨z1, rfl, s1⟩ := h7 (hd ⟨7, .data⟩ (by simp) rfl)
      go_simp
      exact hK.out _ _ ⟨_, _, _, _, _, _, _, _, _, _, rfl, ⟨by rw [cntL_out (by decide)]; exact hR, hKp, hW, hT, hz, hU5, hU6, keepL (by decide) (fun e => mark1_true (hP e))⟩, keepL (by decide) h0, keepL (by decide) h1, keepL (by decide) h2, keepL (by decide) h3, keepL (by decide) (fun _ => ⟨z0, rfl, s0⟩), keepL (by decide) h5, keepL (by decide) h6, keepL (by decide) (fun _ => ⟨z1, rfl, s1⟩), fun _ => ⟨z0, z1, rfl, s0, s1⟩, keepL (by decide) h9, keepL (by decide) h10⟩
    · intro L a w' K' hd hL hI hK
      obtain ⟨u5, u6, u7, u8, u9, u10, u11, u12, u13, u14, rfl, ⟨hR, hKp, hW, hT, hz, hU5, hU6, hP⟩, h0, h1, h2, h3, h4, h5, h6, h7, h8, h9, h10⟩ := hI
      have hrl := hR.lt
      go_simp
      exact hK.out _ _ ⟨_, _, _, _, _, _, _, _, _, _, rfl, ⟨by rw [cntL_out (by decide)]; exact hR.alloc _, hKp.alloc _, hW.kept ((Kept.refl r w').alloc _) (by omega), hT.kept ((Kept.refl r w').alloc _) (by omega), by simp; omega, .inr ⟨w'.heap.size, rfl, by simp⟩, up3 hU6 (by simp), keepL (by decide) (fun e => mark1_true (hP e))⟩, keepL (by decide) (fun e => match (h0 e) with | ⟨g, e1, e2, e3, e4⟩ => ⟨g, e1, Lits.kept ((Kept.refl r w').alloc _) e2 e3, e3, fun ga eg => by have h1 := ptr_blk eg; have h2 := e2.1; omega⟩), keepL (by decide) h1, keepL (by decide) h2, keepL (by decide) (fun e => match (h3 e) with | ⟨g, x, e1, e2, e5, e6, e3, e4⟩ => ⟨g, x, e1, Lits.kept ((Kept.refl r w').alloc _) e2 e3, e5, e6, e3, fun ga eg => by have h1 := ptr_blk eg; have h2 := e2.1; omega⟩), keepL (by decide) h4, keepL (by decide) h5, keepL (by decide) h6, keepL (by decide) h7, keepL (by decide) h8, fun _ => ⟨w'.heap.size, rfl, wrN_new w' _ (List.replicate 8 (.int .i64 0)), by omega, by omega⟩, keepL (by decide) (fun e => absurd (hP e) (by simp [hL]))⟩
    · intro L a w' K' hd hL hI hK
      obtain ⟨u5, u6, u7, u8, u9, u10, u11, u12, u13, u14, rfl, ⟨hR, hKp, hW, hT, hz, hU5, hU6, hP⟩, h0, h1, h2, h3, h4, h5, h6, h7, h8, h9, h10⟩ := hI
      have hrl := hR.lt
      obtain ⟨z0, z1, rfl, s0, s1⟩ := h8 (hd ⟨8, .data⟩ (by simp) rfl)
      obtain ⟨ga, rfl, hWa, hra, hga⟩ := h9 (hd ⟨9, .data⟩ (by simp) rfl)
      obtain ⟨v0, q0, f0⟩ := hWa 0 (by decide)
      obtain ⟨v1, q1, f1⟩ := hWa 1 (by decide)
      obtain ⟨v2, q2, f2⟩ := hWa 2 (by decide)
      obtain ⟨v3, q3, f3⟩ := hWa 3 (by decide)
      obtain ⟨v4, q4, f4⟩ := hWa 4 (by decide)
      obtain ⟨v5, q5, f5⟩ := hWa 5 (by decide)
      obtain ⟨v6, q6, f6⟩ := hWa 6 (by decide)
      obtain ⟨v7, q7, f7⟩ := hWa 7 (by decide)
      have EP : Hid (puts ga [.int .i64 z0, .int .i64 2, .int .i64 0, .int .i64 0, .int .i64 0, .int .i64 0, .int .i64 0, .int .i64 z1] 0 w' = ((((((((w'.setCell ⟨ga, 0, none⟩ (.int .i64 z0)).setCell ⟨ga, 1, none⟩ (.int .i64 2)).setCell ⟨ga, 2, none⟩ (.int .i64 0)).setCell ⟨ga, 3, none⟩ (.int .i64 0)).setCell ⟨ga, 4, none⟩ (.int .i64 0)).setCell ⟨ga, 5, none⟩ (.int .i64 0)).setCell ⟨ga, 6, none⟩ (.int .i64 0)).setCell ⟨ga, 7, none⟩ (.int .i64 z1))) := rfl
      go_simp
      rw [← EP.out]
      have SO : SmN 8 (puts ga [.int .i64 z0, .int .i64 2, .int .i64 0, .int .i64 0, .int .i64 0, .int .i64 0, .int .i64 0, .int .i64 z1] 0 w') ga := smN_of hWa [z0, 2, 0, 0, 0, 0, 0, z1] rfl (by intro z hz; simp at hz; rcases hz with rfl | rfl | rfl | rfl <;> first | assumption | (unfold Small; omega))
      have hq0 := cell_lt q0
      clear EP q0 f0 q1 f1 q2 f2 q3 f3 q4 f4 q5 f5 q6 f6 q7 f7
      exact hK.out _ _ ⟨_, _, _, _, _, _, _, _, _, _, rfl, ⟨by rw [cntL_out (by decide)]; exact hR.puts (l := [.int .i64 z0, .int .i64 2, .int .i64 0, .int .i64 0, .int .i64 0, .int .i64 0, .int .i64 0, .int .i64 z1]) (by omega), hKp.puts (l := [.int .i64 z0, .int .i64 2, .int .i64 0, .int .i64 0, .int .i64 0, .int .i64 0, .int .i64 0, .int .i64 z1]) (by omega), hW.far (l := [.int .i64 z0, .int .i64 2, .int .i64 0, .int .i64 0, .int .i64 0, .int .i64 0, .int .i64 0, .int .i64 z1]) (by omega), hT.far (l := [.int .i64 z0, .int .i64 2, .int .i64 0, .int .i64 0, .int .i64 0, .int .i64 0, .int .i64 0, .int .i64 z1]) (by omega), by rw [puts_size]; exact hz, .inr ⟨ga, rfl, by rw [puts_size]; exact hq0⟩, up3 hU6 (by rw [puts_size]; exact Nat.le_refl _), fun _ => mark1_true (hd ⟨9, .data⟩ (by simp) rfl)⟩, keepL (by decide) (fun e => match (h0 e) with | ⟨g, e1, e2, e3, e4⟩ => ⟨g, e1, e2.stay (stayN (e4 ga rfl) _ _), e3, e4⟩), keepL (by decide) h1, keepL (by decide) h2, keepL (by decide) (fun e => match (h3 e) with | ⟨g, x, e1, e2, e5, e6, e3, e4⟩ => ⟨g, x, e1, e2.stay (stayN (e4 ga rfl) _ _), e5, e6, e3, e4⟩), keepL (by decide) h4, keepL (by decide) h5, keepL (by decide) h6, keepL (by decide) h7, keepL (by decide) (fun _ => ⟨z0, z1, rfl, s0, s1⟩), keepL (by decide) (fun e => ⟨_, rfl, hWa.puts _, hra, hga⟩), fun _ => ⟨ga, rfl, SO, hga, hra⟩⟩
  case hdone =>
    intro L a w' hL hI
    obtain ⟨u5, u6, u7, u8, u9, u10, u11, u12, u13, u14, rfl, ⟨hR, hKp, hW, hT, hz, hU5, hU6, hP⟩, h0, h1, h2, h3, h4, h5, h6, h7, h8, h9, h10⟩ := hI
    obtain ⟨ga, rfl, hO, hga, hgr⟩ := h10 (hL 10 (by decide))
    have hcb := (cntL_bd L [2, 6]).2
    simp at hcb
    have R3 : Hid (RdB w' r ad len cap (m + 2)) := hR.more (by omega)
    have K3 : Hid (Kept r w w') := hKp
    have O3 : Hid (SmN 8 w' ga) := hO
    have W3 : Hid (WrN 8 w' (w.heap.size + 1)) := hW
    have T3 : Hid (Two w' w.heap.size (.int .i64 c) (.int .i64 d)) := hT
    clear h0 h1 h2 h3 h4 h5 h6 h7 h8 h9 h10 hL hW hR hKp hO hcb hU5 hU6 S0 hP hz hT
    go_wp2_with fail
    refine (pick_B R3.out (by omega)).mono ?_
    rintro e w4 ⟨x, rfl, hx, hR4, hK4⟩
    have R4 : Hid (RdB w4 r ad len cap (m + 3)) := hR4.more (by omega)
    have K4 : Hid (Kept r w w4) := K3.out.trans hK4
    have O4 : Hid (SmN 8 w4 ga) := O3.out.kept hK4 hgr
    have W4 : Hid (WrN 8 w4 (w.heap.size + 1)) := W3.out.kept hK4 (by omega)
    have T4 : Hid (Two w4 w.heap.size (.int .i64 c) (.int .i64 d)) := T3.out.kept hK4 (by omega)
    clear hR4 hK4 hx R3 K3 O3 W3 T3
    by_cases hx0 : x = 0
    · subst hx0
      go_upto_region 3 with fail
      obtain ⟨f, hf⟩ := O4.out
      have s0 := (hf 0 (by decide)).1
      have c0 := (hf 0 (by decide)).2.1
      clear hf
      refine wp_region_held_drew (S := fun w' => w'.cell? ⟨ga, 0, none⟩ = some (.int .i64 (f 0)) ∧ Two w' w.heap.size (.int .i64 c) (.int .i64 d)) (by kernel_rfl) ⟨c0, T4.out.drew⟩ ?_
      intro hHeld
      refine wpAnyH_take (i := 0) (v := .pointer (some ⟨ga, 0, none⟩)) rfl (by kernel_rfl) (by kernel_rfl) (by kernel_rfl) (fun _ _ _ h => h) (Or.inl ⟨by rfl, ?_⟩) (by assumption) ?_
      · intro wx hSw; go_simp
      try simp only [Act.put, List.setIfInBounds_toArray, List.set_cons_zero, List.set_cons_succ, List.getElem_toArray, List.getElem_cons_zero]
      refine wpAnyH_take (i := 1) (v := .int .i64 (f 0)) rfl (by kernel_rfl) (by kernel_rfl) (by kernel_rfl) (fun _ _ _ h => h) (Or.inl ⟨by rfl, ?_⟩) (by assumption) ?_
      · intro wx hSw; obtain ⟨s, _⟩ := hSw; go_simp
      try simp only [Act.put, List.setIfInBounds_toArray, List.set_cons_zero, List.set_cons_succ, List.getElem_toArray, List.getElem_cons_zero, List.getElem_cons_succ]
      refine wpAnyH_take (i := 2) (v := .pointer (some ⟨r, 0, none⟩)) rfl (by kernel_rfl) (by kernel_rfl) (by kernel_rfl) (fun _ _ _ h => h) (Or.inl ⟨by rfl, ?_⟩) (by assumption) ?_
      · intro wx hSw; go_simp
      try simp only [Act.put, List.setIfInBounds_toArray, List.set_cons_zero, List.set_cons_succ, List.getElem_toArray, List.getElem_cons_zero, List.getElem_cons_succ]
      refine wpAnyH_take (i := 3) (v := .agg #[.int .i64 c, .int .i64 d]) rfl (by kernel_rfl) (by kernel_rfl) (by kernel_rfl) (fun _ _ _ h => h) (Or.inl ⟨by rfl, ?_⟩) (by assumption) ?_
      · intro wx hSw; obtain ⟨_, s1, s2, _, _⟩ := hSw; go_simp
      try simp only [Act.put, List.setIfInBounds_toArray, List.set_cons_zero, List.set_cons_succ, List.getElem_toArray, List.getElem_cons_zero, List.getElem_cons_succ]
      refine wpAnyH_ready (rs := [4]) (by kernel_rfl) (by simp) ?_
      refine AllReadyH.cons rfl (fun K hK => ?_) AllReadyH.nil
      go_simp
      go_wp2_with (go_at_call 25; refine (walker_B (w := w4.drew) R4.out.drew (by omega) HC.out).mono ?_; rintro e w5 ⟨z0, z1, z2, z3, z4, rfl, hs, hR5, K5⟩)
      refine hK.out _ _ ⟨((kcell K5).1 ga 0 (cell_lt hHeld.1) hgr).trans hHeld.1, hHeld.2.kept K5 (by omega)⟩ (fun hHeld5 => ?_)
      clear hK K
      have R5 : Hid (RdB w5 r ad len cap (m + 8)) := hR5.more (by omega)
      have K5A : Hid (Kept r w w5) := K4.out.drew.trans K5
      have O5 : SmN 8 w5 ga := SmN.kept (W := w4.drew) O4.out K5 hgr
      have W5 : Hid (WrN 8 w5 (w.heap.size + 1)) := WrN.kept (w := w4.drew) W4.out K5 (by omega)
      have WG : Hid (WrN 8 w5 ga) := fun i hi => by obtain ⟨g, hg⟩ := O5; exact ⟨_, (hg i hi).2.1, (hg i hi).2.2⟩
      clear K5 hR5 O5 R4 K4 O4 W4 T4 c0
      try simp only [Act.put, List.setIfInBounds_toArray, List.set_cons_zero, List.set_cons_succ, List.getElem_toArray, List.getElem_cons_zero, List.getElem_cons_succ]
      refine wpAnyH_take (i := 5) (v := .agg #[.int .i64 (f 0), .int .i64 1, .int .i64 z0, .int .i64 z1, .int .i64 z2, .int .i64 z3, .int .i64 z4, .int .i64 0]) rfl (by kernel_rfl) (by kernel_rfl) (by kernel_rfl) (fun _ _ _ h => h) (Or.inl ⟨by rfl, ?_⟩) (by assumption) ?_
      · intro wx hSw; go_simp
      try simp only [Act.put, List.setIfInBounds_toArray, List.set_cons_zero, List.set_cons_succ, List.getElem_toArray, List.getElem_cons_zero, List.getElem_cons_succ]
      refine wpAnyH_ready (rs := [6]) (by kernel_rfl) (by simp) ?_
      refine AllReadyH.cons rfl (fun K hK => ?_) AllReadyH.nil
      obtain ⟨v0, q0, y0⟩ := WG.out 0 (by decide)
      obtain ⟨v1, q1, y1⟩ := WG.out 1 (by decide)
      obtain ⟨v2, q2, y2⟩ := WG.out 2 (by decide)
      obtain ⟨v3, q3, y3⟩ := WG.out 3 (by decide)
      obtain ⟨v4, q4, y4⟩ := WG.out 4 (by decide)
      obtain ⟨v5, q5, y5⟩ := WG.out 5 (by decide)
      obtain ⟨v6, q6, y6⟩ := WG.out 6 (by decide)
      obtain ⟨v7, q7, y7⟩ := WG.out 7 (by decide)
      have EP : Hid (puts ga [.int .i64 (f 0), .int .i64 1, .int .i64 z0, .int .i64 z1, .int .i64 z2, .int .i64 z3, .int .i64 z4, .int .i64 0] 0 w5 = ((((((((w5.setCell ⟨ga, 0, none⟩ (.int .i64 (f 0))).setCell ⟨ga, 1, none⟩ (.int .i64 1)).setCell ⟨ga, 2, none⟩ (.int .i64 z0)).setCell ⟨ga, 3, none⟩ (.int .i64 z1)).setCell ⟨ga, 4, none⟩ (.int .i64 z2)).setCell ⟨ga, 5, none⟩ (.int .i64 z3)).setCell ⟨ga, 6, none⟩ (.int .i64 z4)).setCell ⟨ga, 7, none⟩ (.int .i64 0))) := rfl
      go_simp
      rw [← EP.out]
      have R6 : Hid (RdB (puts ga [.int .i64 (f 0), .int .i64 1, .int .i64 z0, .int .i64 z1, .int .i64 z2, .int .i64 z3, .int .i64 z4, .int .i64 0] 0 w5) r ad len cap (m + 8)) := R5.out.puts (by omega)
      have K6 : Hid (Kept r w (puts ga [.int .i64 (f 0), .int .i64 1, .int .i64 z0, .int .i64 z1, .int .i64 z2, .int .i64 z3, .int .i64 z4, .int .i64 0] 0 w5)) := K5A.out.puts (by omega)
      have W6 : Hid (WrN 8 (puts ga [.int .i64 (f 0), .int .i64 1, .int .i64 z0, .int .i64 z1, .int .i64 z2, .int .i64 z3, .int .i64 z4, .int .i64 0] 0 w5) (w.heap.size + 1)) := W5.out.far (by omega)
      have T6 : Two (puts ga [.int .i64 (f 0), .int .i64 1, .int .i64 z0, .int .i64 z1, .int .i64 z2, .int .i64 z3, .int .i64 z4, .int .i64 0] 0 w5) w.heap.size (.int .i64 c) (.int .i64 d) := hHeld5.2.far (by omega)
      have C6 : ∀ j, j < 8 → (puts ga [.int .i64 (f 0), .int .i64 1, .int .i64 z0, .int .i64 z1, .int .i64 z2, .int .i64 z3, .int .i64 z4, .int .i64 0] 0 w5).cell? ⟨ga, j, none⟩ = some (([.int .i64 (f 0), .int .i64 1, .int .i64 z0, .int .i64 z1, .int .i64 z2, .int .i64 z3, .int .i64 z4, .int .i64 0] : List Value).getD j undef) := fun j hj => by have := puts_at (b := ga) [.int .i64 (f 0), .int .i64 1, .int .i64 z0, .int .i64 z1, .int .i64 z2, .int .i64 z3, .int .i64 z4, .int .i64 0] 0 w5 (fun j hj => by obtain ⟨v, h1, _⟩ := WG.out j (by simpa using hj); exact ⟨v, by rw [Nat.zero_add]; exact h1⟩) j (by simpa using hj); rw [Nat.zero_add] at this; exact this
      clear EP R5 K5A W5 WG q0 y0 q1 y1 q2 y2 q3 y3 q4 y4 q5 y5 q6 y6 q7 y7
      generalize puts ga [.int .i64 (f 0), .int .i64 1, .int .i64 z0, .int .i64 z1, .int .i64 z2, .int .i64 z3, .int .i64 z4, .int .i64 0] 0 w5 = w6 at *
      refine hK.out _ _ ⟨C6 0 (by decide), T6⟩ (fun hHeld6 => ?_)
      clear hK K T6
      try simp only [Act.put, List.setIfInBounds_toArray, List.set_cons_zero, List.set_cons_succ, List.getElem_toArray, List.getElem_cons_zero, List.getElem_cons_succ]
      refine wpAnyH_done (by kernel_rfl) ?_ _
      clear hHeld hHeld5 hHeld6
      have c0 := C6 0 (by decide)
      have c1 := C6 1 (by decide)
      have c2 := C6 2 (by decide)
      have c3 := C6 3 (by decide)
      have c4 := C6 4 (by decide)
      have c5 := C6 5 (by decide)
      have c6 := C6 6 (by decide)
      have c7 := C6 7 (by decide)
      clear C6
      simp only [List.getD, List.getElem?_cons_zero, List.getElem?_cons_succ, Option.getD_some] at c0 c1 c2 c3 c4 c5 c6 c7
      obtain ⟨v0, q0, y0⟩ := W6.out 0 (by decide)
      obtain ⟨v1, q1, y1⟩ := W6.out 1 (by decide)
      obtain ⟨v2, q2, y2⟩ := W6.out 2 (by decide)
      obtain ⟨v3, q3, y3⟩ := W6.out 3 (by decide)
      obtain ⟨v4, q4, y4⟩ := W6.out 4 (by decide)
      obtain ⟨v5, q5, y5⟩ := W6.out 5 (by decide)
      obtain ⟨v6, q6, y6⟩ := W6.out 6 (by decide)
      obtain ⟨v7, q7, y7⟩ := W6.out 7 (by decide)
      go_wp2
      refine bodyPost_ret (v := .agg #[.int .i64 (f 0), .int .i64 1, .int .i64 z0, .int .i64 z1, .int .i64 z2, .int .i64 z3, .int .i64 z4, .int .i64 0]) (by simp [results, Try.results21, go_sem, q0, q1, q2, q3, q4, q5, q6, q7]) rfl ⟨fun j => [f 0, 1, z0, z1, z2, z3, z4, 0].getD j 0, rfl, ?_, R6.out.puts (l := [.int .i64 (f 0), .int .i64 1, .int .i64 z0, .int .i64 z1, .int .i64 z2, .int .i64 z3, .int .i64 z4, .int .i64 0]) (k := 0) (by omega), K6.out.puts (l := [.int .i64 (f 0), .int .i64 1, .int .i64 z0, .int .i64 z1, .int .i64 z2, .int .i64 z3, .int .i64 z4, .int .i64 0]) (k := 0) (by omega)⟩
      intro i hi
      have hi8 : i = 0 ∨ i = 1 ∨ i = 2 ∨ i = 3 ∨ i = 4 ∨ i = 5 ∨ i = 6 ∨ i = 7 := by omega
      have h1 : Small 1 := by unfold Small; omega
      have h0 : Small 0 := by unfold Small; omega
      rcases hi8 with rfl | rfl | rfl | rfl | rfl | rfl | rfl | rfl
      · exact s0
      · exact h1
      · exact hs.1
      · exact hs.2.1
      · exact hs.2.2.1
      · exact hs.2.2.2.1
      · exact hs.2.2.2.2
      · exact h0
    · have hx1 : (x == 0) = false := by simpa using hx0
      obtain ⟨f, hf⟩ := O4.out
      have HF : Hid (∀ i, i < 8 → Small (f i)) := fun i hi => (hf i hi).1
      have c0 := (hf 0 (by decide)).2.1
      have c1 := (hf 1 (by decide)).2.1
      have c2 := (hf 2 (by decide)).2.1
      have c3 := (hf 3 (by decide)).2.1
      have c4 := (hf 4 (by decide)).2.1
      have c5 := (hf 5 (by decide)).2.1
      have c6 := (hf 6 (by decide)).2.1
      have c7 := (hf 7 (by decide)).2.1
      obtain ⟨v0, q0, y0⟩ := W4.out 0 (by decide)
      obtain ⟨v1, q1, y1⟩ := W4.out 1 (by decide)
      obtain ⟨v2, q2, y2⟩ := W4.out 2 (by decide)
      obtain ⟨v3, q3, y3⟩ := W4.out 3 (by decide)
      obtain ⟨v4, q4, y4⟩ := W4.out 4 (by decide)
      obtain ⟨v5, q5, y5⟩ := W4.out 5 (by decide)
      obtain ⟨v6, q6, y6⟩ := W4.out 6 (by decide)
      obtain ⟨v7, q7, y7⟩ := W4.out 7 (by decide)
      clear hf
      go_wp2
      refine bodyPost_ret (v := .agg #[.int .i64 (f 0), .int .i64 (f 1), .int .i64 (f 2), .int .i64 (f 3), .int .i64 (f 4), .int .i64 (f 5), .int .i64 (f 6), .int .i64 (f 7)]) (by simp [results, Try.results21, go_sem, q0, q1, q2, q3, q4, q5, q6, q7]) rfl ⟨f, rfl, HF.out, (R4.out.more (by omega)).puts (l := [.int .i64 (f 0), .int .i64 (f 1), .int .i64 (f 2), .int .i64 (f 3), .int .i64 (f 4), .int .i64 (f 5), .int .i64 (f 6), .int .i64 (f 7)]) (k := 0) (by omega), K4.out.puts (l := [.int .i64 (f 0), .int .i64 (f 1), .int .i64 (f 2), .int .i64 (f 3), .int .i64 (f 4), .int .i64 (f 5), .int .i64 (f 6), .int .i64 (f 7)]) (k := 0) (by omega)⟩
end Go.Proofs.Ytkobiniogigloaa
