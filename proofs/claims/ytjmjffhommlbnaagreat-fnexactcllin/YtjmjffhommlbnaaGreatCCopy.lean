/- The walk of copyCell: a copy of a cell in memory of its own; conditions: the cell lies in memory as a copy does. -/
import Derived.Test.YtjmjffhommlbnaaGreatLawNew
namespace Go.Proofs.YtjmjffhommlbnaaGreat
open Go.RowKit Go.Deep
set_option linter.unusedVariables false

theorem copy_boxes (w : World) (v0 v1 v2 v3 v4 v5 : Value) : Six (((w.alloc (.cells #[v0, v1, v2, v3, v4, v5] 37)).alloc (.cells #[.int .i64 0, .slice none 0 0, .int .i64 0, .slice none 0 0, .slice none 0 0, .slice none 0 0] 37)).alloc (.cells #[v0, v1, v2, v3, v4, v5] 37)) w.heap.size [v0, v1, v2, v3, v4, v5] ∧
    Six (((w.alloc (.cells #[v0, v1, v2, v3, v4, v5] 37)).alloc (.cells #[.int .i64 0, .slice none 0 0, .int .i64 0, .slice none 0 0, .slice none 0 0, .slice none 0 0] 37)).alloc (.cells #[v0, v1, v2, v3, v4, v5] 37)) (w.heap.size + 1) [.int .i64 0, .slice none 0 0, .int .i64 0, .slice none 0 0, .slice none 0 0, .slice none 0 0] ∧
    Six (((w.alloc (.cells #[v0, v1, v2, v3, v4, v5] 37)).alloc (.cells #[.int .i64 0, .slice none 0 0, .int .i64 0, .slice none 0 0, .slice none 0 0, .slice none 0 0] 37)).alloc (.cells #[v0, v1, v2, v3, v4, v5] 37)) (w.heap.size + 1 + 1) [v0, v1, v2, v3, v4, v5] := by
  generalize ha : w.alloc (.cells #[v0, v1, v2, v3, v4, v5] 37) = wa
  have za : wa.heap.size = w.heap.size + 1 := by rw [← ha]; simp
  have sa : Six wa w.heap.size [v0, v1, v2, v3, v4, v5] := by rw [← ha]; exact six_new w 37 v0 v1 v2 v3 v4 v5
  generalize hb : wa.alloc (.cells #[.int .i64 0, .slice none 0 0, .int .i64 0, .slice none 0 0, .slice none 0 0, .slice none 0 0] 37) = wb
  have zb : wb.heap.size = w.heap.size + 1 + 1 := by rw [← hb]; simp [za]
  have kb : Below wa.heap.size wa wb := by rw [← hb]; exact (Below.refl _ _).alloc (Nat.le_refl _) _
  have sb : Six wb (w.heap.size + 1) [.int .i64 0, .slice none 0 0, .int .i64 0, .slice none 0 0, .slice none 0 0, .slice none 0 0] := by rw [← hb, ← za]; exact six_new wa 37 _ _ _ _ _ _
  have kc : Below wb.heap.size wb (wb.alloc (.cells #[v0, v1, v2, v3, v4, v5] 37)) := (Below.refl _ _).alloc (Nat.le_refl _) _
  refine ⟨(sa.below (by omega) kb).below (by omega) kc, sb.below (by omega) kc, ?_⟩
  rw [← zb]
  exact six_new wb 37 v0 v1 v2 v3 v4 v5

theorem RP.move {lo hi hi' : Nat} {w w' : World} {v : Value} {n : Nat} {Z : Nat → Nat → Int} {g : Nat} (h : RP lo hi w v n Z g) (h1 : hi ≤ hi') (h2 : hi' ≤ w'.heap.size) (k : lo ≤ g → g < hi → Sm w w' g) : RP lo hi' w' v n Z g := by
  rcases h with h | ⟨c, a1, a2, a3, a4, a5⟩
  · exact .inl h
  · exact .inr ⟨c, a1, a2, by omega, h2, own8_sm a5 (k a2 a3)⟩
theorem RP.low {lo lo' hi : Nat} {w : World} {v : Value} {n : Nat} {Z : Nat → Nat → Int} {g : Nat} (h : RP lo hi w v n Z g) (h1 : lo' ≤ lo) : RP lo' hi w v n Z g := by
  rcases h with h | ⟨c, a1, a2, a3, a4, a5⟩
  · exact .inl h
  · exact .inr ⟨c, a1, by omega, a3, a4, a5⟩
theorem RW.move {lo lo' hi hi' : Nat} {w w' : World} {v : Value} {n : Nat} {Z : Nat → Nat → Int} {g : Nat} (h : RW lo hi w v n Z g) (h0 : lo' ≤ lo) (h1 : hi ≤ hi') (h2 : hi' ≤ w'.heap.size) (k : lo ≤ g → g < hi → Sm w w' g) : RW lo' hi' w' v n Z g := by
  rcases h with h | ⟨c, a1, a2, a3, a4, a5⟩
  · exact .inl h
  · exact .inr ⟨c, a1, by omega, by omega, h2, own5_sm a5 (k a2 a3)⟩
theorem RI.move {lo lo' hi hi' : Nat} {w w' : World} {v : Value} {n : Nat} {X : Nat → Int} {g : Nat} (h : RI lo hi w v n X g) (h0 : lo' ≤ lo) (h1 : hi ≤ hi') (h2 : hi' ≤ w'.heap.size) (k : lo ≤ g → g < hi → Sm w w' g) : RI lo' hi' w' v n X g := by
  rcases h with h | ⟨c, a1, a2, a3, a4, a5⟩
  · exact .inl h
  · exact .inr ⟨c, a1, by omega, by omega, h2, own1_sm a5 (k a2 a3)⟩
theorem RW.pick {lo hi : Nat} {w : World} {v : Value} {n : Nat} {Z : Nat → Nat → Int} {g : Nat} (h : RW lo hi w v n Z g) (f : Nat) : ∃ g', RW lo hi w v n Z g' ∧ ((n = 0 ∧ g' = f) ∨ (n ≠ 0 ∧ g' = g ∧ g < hi)) := by
  by_cases e : n = 0
  · refine ⟨f, .inl ⟨e, ?_⟩, .inl ⟨e, rfl⟩⟩
    rcases h with ⟨_, a, c, h⟩ | ⟨c, h, _⟩
    · exact ⟨a, c, h⟩
    · exact ⟨_, c, by rw [h, e]⟩
  · refine ⟨g, h, .inr ⟨e, rfl, ?_⟩⟩
    rcases h with ⟨h, _⟩ | ⟨c, _, _, h, _⟩
    · exact absurd h e
    · exact h
theorem RI.pick {lo hi : Nat} {w : World} {v : Value} {n : Nat} {Z : Nat → Int} {g : Nat} (h : RI lo hi w v n Z g) (f : Nat) : ∃ g', RI lo hi w v n Z g' ∧ ((n = 0 ∧ g' = f) ∨ (n ≠ 0 ∧ g' = g ∧ g < hi)) := by
  by_cases e : n = 0
  · refine ⟨f, .inl ⟨e, ?_⟩, .inl ⟨e, rfl⟩⟩
    rcases h with ⟨_, a, c, h⟩ | ⟨c, h, _⟩
    · exact ⟨a, c, h⟩
    · exact ⟨_, c, by rw [h, e]⟩
  · refine ⟨g, h, .inr ⟨e, rfl, ?_⟩⟩
    rcases h with ⟨h, _⟩ | ⟨c, _, _, h, _⟩
    · exact absurd h e
    · exact h
theorem RP.pick {lo hi : Nat} {w : World} {v : Value} {n : Nat} {Z : Nat → Nat → Int} {g : Nat} (h : RP lo hi w v n Z g) (f : Nat) : RP lo hi w v n Z (if n = 0 then f else g) ∧ (n ≠ 0 → g < hi) := by
  by_cases e : n = 0
  · refine ⟨.inl ⟨e, ?_⟩, fun h => absurd e h⟩
    rcases h with ⟨_, a, c, h⟩ | ⟨c, h, _⟩
    · exact ⟨a, c, h⟩
    · exact ⟨_, c, by rw [h, e]⟩
  · rw [if_neg e]
    refine ⟨h, fun _ => ?_⟩
    rcases h with ⟨h, _⟩ | ⟨c, _, _, h, _⟩
    · exact absurd h e
    · exact h
/-- Lists that lie apart where there is something in them are a cell of one's own. -/
theorem ownC_mk {lo hi : Nat} {w : World} {V : CV} {vW vX vI : Value} {gW gO gX gI cO : Nat} {sl : Nat → Value} {xs : Nat → Nat} (rW : RW lo hi w vW V.nW V.W gW) (hO1 : lo ≤ gO) (hO2 : gO < hi) (hhi : hi ≤ w.heap.size)
    (rO : ∀ k, k < V.nO → w.cell? ⟨gO, k, none⟩ = some (sl k) ∧ RP lo hi w (sl k) (V.N k) (V.O k) (xs k)) (rX : RI lo hi w vX V.nX V.X gX) (rI : RI lo hi w vI V.nI V.I gI)
    (d1 : V.nW ≠ 0 → gW < gO) (d4 : V.nX ≠ 0 → gO < gX) (d5 : V.nI ≠ 0 → gO < gI) (d6 : V.nX ≠ 0 → V.nI ≠ 0 → gX < gI)
    (hx : ∀ k, k < V.nO → V.N k ≠ 0 → gO < xs k ∧ (V.nX ≠ 0 → xs k < gX) ∧ (V.nI ≠ 0 → xs k < gI)) (hxx : ∀ i j, i < j → j < V.nO → V.N i ≠ 0 → V.N j ≠ 0 → xs i < xs j) :
    OwnC lo hi w (.agg #[.int .i64 V.c, vW, .int .i64 V.g, .slice (some ⟨gO, 0, none⟩) V.nO cO, vX, vI]) V := by
  obtain ⟨pW, rW', cW⟩ := rW.pick hi
  obtain ⟨pX, rX', cX⟩ := rX.pick (hi + 1)
  obtain ⟨pI, rI', cI⟩ := rI.pick (hi + 2)
  refine ⟨vW, _, vX, vI, pW, gO, pX, pI, sl, fun k => if V.N k = 0 then hi + 3 + k else xs k, rfl, rW', .inr ⟨cO, rfl, hO1, hO2, hhi, fun k hk => ⟨(rO k hk).1, ((rO k hk).2.pick (hi + 3 + k)).1⟩⟩, rX', rI', ?_, fun k hk => ?_, fun i j hi' hj' hne => ?_⟩
  · refine ⟨?_, ?_, ?_, ?_, ?_, ?_⟩
    · rcases cW with ⟨_, rfl⟩ | ⟨e, rfl, _⟩
      · omega
      · have := d1 e; omega
    · rcases cW with ⟨_, rfl⟩ | ⟨e, rfl, _⟩ <;> rcases cX with ⟨_, rfl⟩ | ⟨e2, rfl, _⟩ <;> first | omega | (have := d1 e; have := d4 e2; omega)
    · rcases cW with ⟨_, rfl⟩ | ⟨e, rfl, _⟩ <;> rcases cI with ⟨_, rfl⟩ | ⟨e2, rfl, _⟩ <;> first | omega | (have := d1 e; have := d5 e2; omega)
    · rcases cX with ⟨_, rfl⟩ | ⟨e2, rfl, _⟩ <;> first | omega | (have := d4 e2; omega)
    · rcases cI with ⟨_, rfl⟩ | ⟨e2, rfl, _⟩ <;> first | omega | (have := d5 e2; omega)
    · rcases cX with ⟨_, rfl⟩ | ⟨e, rfl, _⟩ <;> rcases cI with ⟨_, rfl⟩ | ⟨e2, rfl, _⟩ <;> first | omega | (have := d6 e e2; omega)
  · have hb := ((rO k hk).2.pick (hi + 3 + k)).2
    dsimp only
    by_cases e0 : V.N k = 0
    · rw [if_pos e0]
      refine ⟨?_, by omega, ?_, ?_⟩
      · rcases cW with ⟨_, rfl⟩ | ⟨e, rfl, _⟩ <;> omega
      · rcases cX with ⟨_, rfl⟩ | ⟨e, rfl, _⟩ <;> omega
      · rcases cI with ⟨_, rfl⟩ | ⟨e, rfl, _⟩ <;> omega
    · rw [if_neg e0]
      have h1 := hb e0
      obtain ⟨h2, h3, h4⟩ := hx k hk e0
      refine ⟨?_, by omega, ?_, ?_⟩
      · rcases cW with ⟨_, rfl⟩ | ⟨e, rfl, _⟩ <;> first | omega | (have := d1 e; omega)
      · rcases cX with ⟨_, rfl⟩ | ⟨e, rfl, _⟩ <;> first | omega | (have := h3 e; omega)
      · rcases cI with ⟨_, rfl⟩ | ⟨e, rfl, _⟩ <;> first | omega | (have := h4 e; omega)
  · have b1 := ((rO i hi').2.pick (hi + 3 + i)).2
    have b2 := ((rO j hj').2.pick (hi + 3 + j)).2
    dsimp only
    by_cases e1 : V.N i = 0
    · rw [if_pos e1]
      by_cases e2 : V.N j = 0
      · rw [if_pos e2]; omega
      · rw [if_neg e2]; have := b2 e2; omega
    · rw [if_neg e1]
      have := b1 e1
      by_cases e2 : V.N j = 0
      · rw [if_pos e2]; omega
      · rw [if_neg e2]
        rcases Nat.lt_or_gt_of_ne hne with h | h
        · have := hxx i j h hj' e1 e2; omega
        · have := hxx j i h hi' e2 e1; omega

set_option maxRecDepth 20000 in
/-- The block of the lists of parcels of a cell v lies between lo and hi, and may be written. -/
def Thaw (lo hi : Nat) (w : World) (v : Value) : Prop := ∀ x0 x1 x2 g n k x4 x5, v = .agg #[x0, x1, x2, .slice (some ⟨g, 0, none⟩) n k, x4, x5] → lo ≤ g ∧ g < hi ∧ ∀ j, j < n → w.frozen? ⟨g, j, none⟩ = false
theorem Thaw.sm {lo hi : Nat} {w w' : World} {v : Value} (h : Thaw lo hi w v) (k : ∀ b, lo ≤ b → b < hi → Sm w w' b) : Thaw lo hi w' v := fun x0 x1 x2 g n c x4 x5 e => by
  obtain ⟨h1, h2, h3⟩ := h x0 x1 x2 g n c x4 x5 e
  exact ⟨h1, h2, fun j hj => (k g h1 h2 j).2.trans (h3 j hj)⟩
theorem agg6 {x0 x1 x2 x3 x4 x5 y0 y1 y2 y3 y4 y5 : Value} (h : Value.agg #[x0, x1, x2, x3, x4, x5] = .agg #[y0, y1, y2, y3, y4, y5]) : x1 = y1 ∧ x3 = y3 ∧ x4 = y4 ∧ x5 = y5 := by
  simp only [Value.agg.injEq] at h
  have h := congrArg Array.toList h
  simp at h
  exact ⟨h.2.1, h.2.2.2.1, h.2.2.2.2.1, h.2.2.2.2.2⟩

set_option maxRecDepth 20000 in
set_option maxHeartbeats 4000000 in
theorem copyC (v : Value) (V : CV) (lo : Nat) (hs : V.short 1048576) (w : World) (h : CopyAt lo w v V) :
    Calls Tryz.prog 56 #[v] w fun e w' => (∃ v', e = .returned v' ∧ OwnC w.heap.size w'.heap.size w' v' V ∧ Thaw w.heap.size w'.heap.size w' v') ∧ Below w.heap.size w w' := by
  obtain ⟨bW, bO, bX, bI, q0, q1, q2, q3, q4, rfl, oW, oO, oX, oI⟩ := h
  obtain ⟨tW, tO, tN, tX, tI⟩ := hs
  have HW : Hid (Own5 w bW V.nW V.W V.nW) := oW
  have HO : Hid (OwnO w bO V.nO V.N V.O V.nO) := oO
  have HX : Hid (Own1 w bX V.nX V.X V.nX) := oX
  have HI : Hid (Own1 w bI V.nI V.I V.nI) := oI
  have HN : Hid (∀ k, k < V.nO → V.N k ≤ 1048576) := tN
  clear oW oO oX oI tN
  have hmk := makeO V.nO tO
  go_enter Tryz.func56, Tryz.ntmps56
  go_wp2_with fail
  obtain ⟨w0, e0⟩ : ∃ w0, w0 = ((w.alloc (.cells #[.int .i64 V.c, .slice (some ⟨bW, 0, none⟩) V.nW V.nW, .int .i64 V.g, .slice (some ⟨bO, 0, none⟩) V.nO V.nO, .slice (some ⟨bX, 0, none⟩) V.nX V.nX, .slice (some ⟨bI, 0, none⟩) V.nI V.nI] 37)).alloc (.cells #[.int .i64 0, .slice none 0 0, .int .i64 0, .slice none 0 0, .slice none 0 0, .slice none 0 0] 37)).alloc (.cells #[.int .i64 V.c, .slice (some ⟨bW, 0, none⟩) V.nW V.nW, .int .i64 V.g, .slice (some ⟨bO, 0, none⟩) V.nO V.nO, .slice (some ⟨bX, 0, none⟩) V.nX V.nX, .slice (some ⟨bI, 0, none⟩) V.nI V.nI] 37) := ⟨_, rfl⟩
  have z0 : w.heap.size + 3 ≤ w0.heap.size := by rw [e0]; simp
  have B0 : Hid (Below w.heap.size w w0) := by rw [e0]; exact (((Below.refl _ _).alloc (by simp) _).alloc (by simp) _).alloc (by simp; omega) _
  have F0 := copy_boxes w (.int .i64 V.c) (.slice (some ⟨bW, 0, none⟩) V.nW V.nW) (.int .i64 V.g) (.slice (some ⟨bO, 0, none⟩) V.nO V.nO) (.slice (some ⟨bX, 0, none⟩) V.nX V.nX) (.slice (some ⟨bI, 0, none⟩) V.nI V.nI)
  rw [← e0] at F0 ⊢
  clear e0
  have A0 : Hid (Six w0 w.heap.size [.int .i64 V.c, .slice (some ⟨bW, 0, none⟩) V.nW V.nW, .int .i64 V.g, .slice (some ⟨bO, 0, none⟩) V.nO V.nO, .slice (some ⟨bX, 0, none⟩) V.nX V.nX, .slice (some ⟨bI, 0, none⟩) V.nI V.nI]) := F0.1
  have R0 : Hid (Six w0 (w.heap.size + 1) [.int .i64 0, .slice none 0 0, .int .i64 0, .slice none 0 0, .slice none 0 0, .slice none 0 0]) := F0.2.1
  have C0 : Hid (Six w0 (w.heap.size + 1 + 1) [.int .i64 V.c, .slice (some ⟨bW, 0, none⟩) V.nW V.nW, .int .i64 V.g, .slice (some ⟨bO, 0, none⟩) V.nO V.nO, .slice (some ⟨bX, 0, none⟩) V.nX V.nX, .slice (some ⟨bI, 0, none⟩) V.nI V.nI]) := F0.2.2
  clear F0
  refine (copyW bW 0 V.nW V.nW V.W tW _ (by omega) (fun k j a1 a2 => (B0.out.cell (p := ⟨bW, _, none⟩) (by show bW < _; omega)).trans (own_row HW.out k j a1 a2))).mono ?_
  rintro e w1 ⟨⟨v1, rfl, ho⟩, hb⟩
  obtain ⟨wa, wl, wc, hvv⟩ := own_shape ho
  subst hvv
  obtain ⟨gW, RW1, _⟩ := rw_of_own ho
  have A1 : Hid (Six w1 w.heap.size [.int .i64 V.c, .slice (some ⟨bW, 0, none⟩) V.nW V.nW, .int .i64 V.g, .slice (some ⟨bO, 0, none⟩) V.nO V.nO, .slice (some ⟨bX, 0, none⟩) V.nX V.nX, .slice (some ⟨bI, 0, none⟩) V.nI V.nI]) := A0.out.below (by omega) hb
  have R1 : Hid (Six w1 (w.heap.size + 1) [.int .i64 0, .slice none 0 0, .int .i64 0, .slice none 0 0, .slice none 0 0, .slice none 0 0]) := R0.out.below (by omega) hb
  have C1 : Hid (Six w1 (w.heap.size + 1 + 1) [.int .i64 V.c, .slice (some ⟨bW, 0, none⟩) V.nW V.nW, .int .i64 V.g, .slice (some ⟨bO, 0, none⟩) V.nO V.nO, .slice (some ⟨bX, 0, none⟩) V.nX V.nX, .slice (some ⟨bI, 0, none⟩) V.nI V.nI]) := C0.out.below (by omega) hb
  have B1 : Hid (Below w.heap.size w w1) := bthen B0.out hb
  have z1 : w0.heap.size ≤ w1.heap.size := hb.size
  have HRW : Hid (RW w0.heap.size w1.heap.size w1 (.slice wa wl wc) V.nW V.W gW) := RW1
  clear RW1 ho hb A0 R0 C0 B0
  have a0 : w1.cell? ⟨w.heap.size, 0, none⟩ = some (.int .i64 V.c) := (A1.out 0 (by decide)).1
  have a1 : w1.cell? ⟨w.heap.size, 1, none⟩ = some (.slice (some ⟨bW, 0, none⟩) V.nW V.nW) := (A1.out 1 (by decide)).1
  have a2 : w1.cell? ⟨w.heap.size, 2, none⟩ = some (.int .i64 V.g) := (A1.out 2 (by decide)).1
  have a3 : w1.cell? ⟨w.heap.size, 3, none⟩ = some (.slice (some ⟨bO, 0, none⟩) V.nO V.nO) := (A1.out 3 (by decide)).1
  have a4 : w1.cell? ⟨w.heap.size, 4, none⟩ = some (.slice (some ⟨bX, 0, none⟩) V.nX V.nX) := (A1.out 4 (by decide)).1
  have a5 : w1.cell? ⟨w.heap.size, 5, none⟩ = some (.slice (some ⟨bI, 0, none⟩) V.nI V.nI) := (A1.out 5 (by decide)).1
  have y0 : w1.cell? ⟨w.heap.size + 1 + 1, 0, none⟩ = some (.int .i64 V.c) := (C1.out 0 (by decide)).1
  have y1 : w1.cell? ⟨w.heap.size + 1 + 1, 1, none⟩ = some (.slice (some ⟨bW, 0, none⟩) V.nW V.nW) := (C1.out 1 (by decide)).1
  have y2 : w1.cell? ⟨w.heap.size + 1 + 1, 2, none⟩ = some (.int .i64 V.g) := (C1.out 2 (by decide)).1
  have y3 : w1.cell? ⟨w.heap.size + 1 + 1, 3, none⟩ = some (.slice (some ⟨bO, 0, none⟩) V.nO V.nO) := (C1.out 3 (by decide)).1
  have y4 : w1.cell? ⟨w.heap.size + 1 + 1, 4, none⟩ = some (.slice (some ⟨bX, 0, none⟩) V.nX V.nX) := (C1.out 4 (by decide)).1
  have y5 : w1.cell? ⟨w.heap.size + 1 + 1, 5, none⟩ = some (.slice (some ⟨bI, 0, none⟩) V.nI V.nI) := (C1.out 5 (by decide)).1
  have f1 : w1.frozen? ⟨w.heap.size + 1 + 1, 1, none⟩ = false := (C1.out 1 (by decide)).2
  have f3 : w1.frozen? ⟨w.heap.size + 1 + 1, 3, none⟩ = false := (C1.out 3 (by decide)).2
  have l1 : w.heap.size < w1.heap.size := by omega
  have l3 : w.heap.size + 1 + 1 < w1.heap.size := by omega
  go_wp2
  clear a0 a1 a2 a3 a4 a5 y0 y1 y2 y3 y4 y5 f1 f3 l1 l3 hmk
  obtain ⟨w2, e2⟩ : ∃ x, x = ((w1.setCell ⟨w.heap.size + 1 + 1, 1, none⟩ (.slice wa wl wc)).setCell ⟨w.heap.size + 1 + 1, 3, none⟩ (.slice (some ⟨w1.heap.size, 0, none⟩) V.nO V.nO)) := ⟨_, rfl⟩
  rw [← e2]
  have A2 : Six w2 w.heap.size [.int .i64 V.c, .slice (some ⟨bW, 0, none⟩) V.nW V.nW, .int .i64 V.g, .slice (some ⟨bO, 0, none⟩) V.nO V.nO, .slice (some ⟨bX, 0, none⟩) V.nX V.nX, .slice (some ⟨bI, 0, none⟩) V.nI V.nI] := by rw [e2]; exact (A1.out.far (by omega)).far (by omega)
  have R2 : Six w2 (w.heap.size + 1) [.int .i64 0, .slice none 0 0, .int .i64 0, .slice none 0 0, .slice none 0 0, .slice none 0 0] := by rw [e2]; exact (R1.out.far (by omega)).far (by omega)
  have C2 : Six w2 (w.heap.size + 1 + 1) [.int .i64 V.c, .slice wa wl wc, .int .i64 V.g, .slice (some ⟨w1.heap.size, 0, none⟩) V.nO V.nO, .slice (some ⟨bX, 0, none⟩) V.nX V.nX, .slice (some ⟨bI, 0, none⟩) V.nI V.nI] := by rw [e2]; exact (C1.out.set (j := 1) (v := .slice wa wl wc) rfl (by decide)).set (j := 3) (v := .slice (some ⟨w1.heap.size, 0, none⟩) V.nO V.nO) rfl (by decide)
  have B2 : Below w.heap.size w w2 := by rw [e2]; exact (B1.out.setCell (by simp; omega) _).setCell (by simp; omega) _
  have z2 : w2.heap.size = w1.heap.size := by rw [e2, set_size, set_size]
  have S2 : Sm w1 w2 gW ∨ gW < w0.heap.size := by
    by_cases h : gW < w0.heap.size
    · exact .inr h
    · refine .inl (fun o => ⟨?_, ?_⟩)
      · rw [e2, set_out (fun e => by have := e.1; omega), set_out (fun e => by have := e.1; omega)]
      · rw [e2, set_frozen, set_frozen]
  clear e2 A1 R1 C1 B1
  obtain ⟨w3, e3⟩ : ∃ x, x = w2.alloc (.cells (madeCells #[.slice none 0 0] V.nO) 81) := ⟨_, rfl⟩
  rw [← e3]
  have k3 : Below w2.heap.size w2 w3 := by rw [e3]; exact (Below.refl _ _).alloc (Nat.le_refl _) _
  have z3 : w3.heap.size = w2.heap.size + 1 := by rw [e3]; simp
  have O3 : Hid (∀ i, i < V.nO → (w3.cell? ⟨w1.heap.size, i, none⟩).isSome = true ∧ w3.frozen? ⟨w1.heap.size, i, none⟩ = false) := by unfold Hid; rw [e3, ← z2]; exact fun i hi => by simp [size_madeCells, hi]
  clear e3
  have A3 : Hid (Six w3 w.heap.size [.int .i64 V.c, .slice (some ⟨bW, 0, none⟩) V.nW V.nW, .int .i64 V.g, .slice (some ⟨bO, 0, none⟩) V.nO V.nO, .slice (some ⟨bX, 0, none⟩) V.nX V.nX, .slice (some ⟨bI, 0, none⟩) V.nI V.nI]) := A2.below (by omega) k3
  have R3 : Hid (Six w3 (w.heap.size + 1) [.int .i64 0, .slice none 0 0, .int .i64 0, .slice none 0 0, .slice none 0 0, .slice none 0 0]) := R2.below (by omega) k3
  have C3 : Hid (Six w3 (w.heap.size + 1 + 1) [.int .i64 V.c, .slice wa wl wc, .int .i64 V.g, .slice (some ⟨w1.heap.size, 0, none⟩) V.nO V.nO, .slice (some ⟨bX, 0, none⟩) V.nX V.nX, .slice (some ⟨bI, 0, none⟩) V.nI V.nI]) := C2.below (by omega) k3
  have B3 : Hid (Below w.heap.size w w3) := bthen B2 k3
  have W3 : Hid (RW w0.heap.size w1.heap.size w3 (.slice wa wl wc) V.nW V.W gW) := HRW.out.move (Nat.le_refl _) (Nat.le_refl _) (by omega) (fun q1 q2 => by rcases S2 with h | h; exact h.trans (sm_below k3 (by omega)); omega)
  clear A2 R2 C2 B2 S2 HRW k3
  have z4 : w1.heap.size + 1 ≤ w3.heap.size := by omega
  have z4b : w3.heap.size ≤ w1.heap.size + 1 := by omega
  clear z2 z3
  generalize w1.heap.size = gO at *
  go_loopw [19] (fun i wr => ∃ (k : Nat) (sl : Nat → Value) (xs : Nat → Nat), k ≤ V.nO ∧ i = .int .i64 k ∧ (∀ x, x < w3.heap.size → ¬ x = gO → Sm w3 wr x) ∧ (∀ j, j < V.nO → (wr.cell? ⟨gO, j, none⟩).isSome = true ∧ wr.frozen? ⟨gO, j, none⟩ = false) ∧ (∀ j, j < k → wr.cell? ⟨gO, j, none⟩ = some (sl j) ∧ RP w3.heap.size wr.heap.size wr (sl j) (V.N j) (V.O j) (xs j)) ∧ (∀ i j, i < j → j < k → V.N i ≠ 0 → V.N j ≠ 0 → xs i < xs j) ∧ w3.heap.size ≤ wr.heap.size ∧ Below w.heap.size w wr) (fun i _ => V.nO - (intOf i).toNat)
  case atStart => exact ⟨0, fun _ => undef, fun _ => 0, Nat.zero_le _, rfl, fun x _ _ => Sm.refl _ _, O3.out, fun _ h => absurd h (by omega), fun _ _ _ h => absurd h (by omega), Nat.le_refl _, B3.out⟩
  case round =>
    obtain ⟨k, sl, xs, hk, rfl, hsm, hoc, hdn, hxx, hsz, hbel⟩ := hrel
    have SM : Hid (∀ x, x < w3.heap.size → ¬ x = gO → Sm w3 wr x) := hsm
    have OC : Hid (∀ j, j < V.nO → (wr.cell? ⟨gO, j, none⟩).isSome = true ∧ wr.frozen? ⟨gO, j, none⟩ = false) := hoc
    have DN : Hid (∀ j, j < k → wr.cell? ⟨gO, j, none⟩ = some (sl j) ∧ RP w3.heap.size wr.heap.size wr (sl j) (V.N j) (V.O j) (xs j)) := hdn
    have XX : Hid (∀ i j, i < j → j < k → V.N i ≠ 0 → V.N j ≠ 0 → xs i < xs j) := hxx
    have BL : Hid (Below w.heap.size w wr) := hbel
    clear hsm hoc hdn hxx hbel
    by_cases hkn : k < V.nO
    · have hkn' : (k : Int) < V.nO := by omega
      obtain ⟨yk, hyk, hck, hrk⟩ : ∃ yk, yk < w.heap.size ∧ wr.cell? ⟨bO, k, none⟩ = some (.slice (some ⟨yk, 0, none⟩) (V.N k) (V.N k)) ∧ Hid (∀ i j, i < V.N k → j < 8 → wr.cell? ⟨yk, 0 + i * 8 + j, none⟩ = some (.int .i64 (V.O k i j))) := by
        obtain ⟨_, ys, _, hy⟩ := HO.out
        obtain ⟨_, y2, y3, y4⟩ := hy k hkn
        exact ⟨ys k, y2, (BL.out.cell (p := ⟨bO, k, none⟩) (by show bO < _; omega)).trans y3, fun i j a1 a2 => (BL.out.cell (p := ⟨ys k, _, none⟩) y2).trans (P8.own_row y4 i j a1 a2)⟩
      have p3 : wr.cell? ⟨w.heap.size + 1 + 1, 3, none⟩ = some (.slice (some ⟨gO, 0, none⟩) V.nO V.nO) := ((SM.out (w.heap.size + 1 + 1) (by omega) (by omega)) 3).1.trans (C3.out 3 (by decide)).1
      have lg : w.heap.size + 1 + 1 < wr.heap.size := by omega
      have hne : ¬ w.heap.size + 1 + 1 = gO := by omega
      have lb : bO < wr.heap.size := by omega
      have hnk := HN.out k hkn
      go_wp2
      refine wp_region_held_drew (S := fun w' => (∀ b o, b < wr.heap.size → ¬ b = gO → w'.cell? ⟨b, o, none⟩ = wr.cell? ⟨b, o, none⟩) ∧ wr.heap.size ≤ w'.heap.size) (by kernel_rfl) ⟨fun _ _ _ _ => rfl, Nat.le_refl _⟩ ?_
      intro hHeld
      refine wpAnyH_take (i := 0) (v := .pointer (some ⟨w.heap.size + 1 + 1, 3, none⟩)) rfl (by kernel_rfl) (by kernel_rfl) (by kernel_rfl) (fun _ _ _ h => h) (Or.inl ⟨by rfl, ?_⟩) (by assumption) ?_
      · intro wx hSw; go_simp
      try simp only [Act.put, List.setIfInBounds_toArray, List.set_cons_zero, List.set_cons_succ, List.getElem_toArray, List.getElem_cons_zero]
      refine wpAnyH_take (i := 1) (v := .slice (some ⟨gO, 0, none⟩) V.nO V.nO) rfl (by kernel_rfl) (by kernel_rfl) (by kernel_rfl) (fun _ _ _ h => h) (Or.inl ⟨by rfl, ?_⟩) (by assumption) ?_
      · intro wx hSw; go_simp
      try simp only [Act.put, List.setIfInBounds_toArray, List.set_cons_zero, List.set_cons_succ, List.getElem_toArray, List.getElem_cons_zero, List.getElem_cons_succ]
      refine wpAnyH_take (i := 2) (v := .int .i64 (k : Int)) rfl (by kernel_rfl) (by kernel_rfl) (by kernel_rfl) (fun _ _ _ h => h) (Or.inl ⟨by rfl, ?_⟩) (by assumption) ?_
      · intro wx hSw; go_simp
      try simp only [Act.put, List.setIfInBounds_toArray, List.set_cons_zero, List.set_cons_succ, List.getElem_toArray, List.getElem_cons_zero, List.getElem_cons_succ]
      refine wpAnyH_take (i := 3) (v := .slice (some ⟨yk, 0, none⟩) (V.N k) (V.N k)) rfl (by kernel_rfl) (by kernel_rfl) (by kernel_rfl) (fun _ _ _ h => h) (Or.inl ⟨by rfl, ?_⟩) (by assumption) ?_
      · intro wx hSw; go_simp
      try simp only [Act.put, List.setIfInBounds_toArray, List.set_cons_zero, List.set_cons_succ, List.getElem_toArray, List.getElem_cons_zero, List.getElem_cons_succ]
      refine wpAnyH_ready (rs := [4]) (by kernel_rfl) (by simp) ?_
      refine AllReadyH.cons rfl (fun K hK => ?_) AllReadyH.nil
      go_simp
      go_wp2_with fail
      refine (copyP yk 0 (V.N k) (V.N k) (V.O k) hnk wr.drew (by show yk < wr.heap.size; omega) (fun i j a1 a2 => hrk.out i j a1 a2)).mono ?_
      rintro e w4 ⟨⟨v4, rfl, ho⟩, hb4⟩
      obtain ⟨pa, pl, pc, hvv⟩ := own_shape ho
      subst hvv
      obtain ⟨g, hRP, _⟩ := rp_of_own ho
      have hb5 : Below wr.heap.size wr w4 := bthen ((Below.refl _ _).drew) hb4
      have RPk : Hid (RP wr.heap.size w4.heap.size w4 (.slice pa pl pc) (V.N k) (V.O k) g) := hRP
      refine hK.out _ _ (keepG (by assumption) (Nat.le_refl _) (fun x hx _ => sm_below hb4 hx) hb4.size) (fun hNew => ?_)
      clear hK K hHeld
      have hHeld := hNew
      clear hNew ho hRP
      try simp only [Act.put, List.setIfInBounds_toArray, List.set_cons_zero, List.set_cons_succ, List.getElem_toArray, List.getElem_cons_zero, List.getElem_cons_succ]
      refine wpAnyH_take (i := 5) (v := .pointer (some ⟨gO, k, none⟩)) rfl (by kernel_rfl) (by kernel_rfl) (by kernel_rfl) (fun _ _ _ h => h) (Or.inl ⟨by rfl, ?_⟩) (by assumption) ?_
      · intro wx hSw; go_simp
      try simp only [Act.put, List.setIfInBounds_toArray, List.set_cons_zero, List.set_cons_succ, List.getElem_toArray, List.getElem_cons_zero, List.getElem_cons_succ]
      refine wpAnyH_ready (rs := [6]) (by kernel_rfl) (by simp) ?_
      refine AllReadyH.cons rfl (fun K hK => ?_) AllReadyH.nil
      have hz5 : wr.heap.size ≤ w4.heap.size := hb5.size
      have d0 : ∃ u, w4.cell? ⟨gO, k, none⟩ = some u := by rw [hb5.cell (p := ⟨gO, k, none⟩) (by show gO < _; omega)]; exact Option.isSome_iff_exists.1 (OC.out k hkn).1
      obtain ⟨u0, d0⟩ := d0
      have f0 : w4.frozen? ⟨gO, k, none⟩ = false := by rw [hb5.frozen (p := ⟨gO, k, none⟩) (by show gO < _; omega)]; exact (OC.out k hkn).2
      have lgO : gO < w4.heap.size := by omega
      clear hHeld
      go_simp
      refine hK.out _ _ ⟨fun x o hx hne => (set_out (fun e => hne e.1.symm)).trans (hb5.cell (p := ⟨x, o, none⟩) hx), by rw [set_size]; exact hz5⟩ (fun hNew => ?_)
      clear hK K hNew
      try simp only [Act.put, List.setIfInBounds_toArray, List.set_cons_zero, List.set_cons_succ, List.getElem_toArray, List.getElem_cons_zero, List.getElem_cons_succ]
      refine wpAnyH_done (by kernel_rfl) ?_ _
      have SM5 : Hid (∀ x, x < w3.heap.size → ¬ x = gO → Sm w3 (w4.setCell ⟨gO, k, none⟩ (.slice pa pl pc)) x) := fun x hx hne => ((SM.out x hx hne).trans (sm_below hb5 (by omega))).trans (fun o => ⟨set_out (fun e => hne e.1.symm), set_frozen⟩)
      have OC5 : Hid (∀ j, j < V.nO → ((w4.setCell ⟨gO, k, none⟩ (.slice pa pl pc)).cell? ⟨gO, j, none⟩).isSome = true ∧ (w4.setCell ⟨gO, k, none⟩ (.slice pa pl pc)).frozen? ⟨gO, j, none⟩ = false) := fun j hj => by
        rw [set_frozen]
        have o1 := OC.out j hj
        rw [← hb5.cell (p := ⟨gO, j, none⟩) (by show gO < _; omega), ← hb5.frozen (p := ⟨gO, j, none⟩) (by show gO < _; omega)] at o1
        refine ⟨?_, o1.2⟩
        by_cases e : k = j
        · subst e; rw [set_in (by rw [d0]; rfl)]; rfl
        · rw [set_out (fun e' => e e'.2)]; exact o1.1
      have DN5 : Hid (∀ j, j < k + 1 → (w4.setCell ⟨gO, k, none⟩ (.slice pa pl pc)).cell? ⟨gO, j, none⟩ = some ((fun j => if j = k then (.slice pa pl pc) else sl j) j) ∧ RP w3.heap.size (w4.setCell ⟨gO, k, none⟩ (.slice pa pl pc)).heap.size (w4.setCell ⟨gO, k, none⟩ (.slice pa pl pc)) ((fun j => if j = k then (.slice pa pl pc) else sl j) j) (V.N j) (V.O j) ((fun j => if j = k then g else xs j) j)) := fun j hj => by
        dsimp only
        by_cases e : j = k
        · subst e
          rw [if_pos rfl, if_pos rfl]
          exact ⟨set_in (by rw [d0]; rfl), (RPk.out.low hsz).move (by rw [set_size]; exact Nat.le_refl _) (Nat.le_refl _) (fun q1 q2 o => ⟨set_out (fun e => by have := e.1; omega), set_frozen⟩)⟩
        · rw [if_neg e, if_neg e]
          obtain ⟨u1, u2⟩ := DN.out j (by omega)
          exact ⟨by rw [set_out (fun e' => e e'.2.symm), hb5.cell (p := ⟨gO, j, none⟩) (by show gO < _; omega)]; exact u1, u2.move (by rw [set_size]; exact hz5) (Nat.le_refl _) (fun q1 q2 => (sm_below hb5 q2).trans (fun o => ⟨set_out (fun e => by have := e.1; omega), set_frozen⟩))⟩
      have XX5 : Hid (∀ i j, i < j → j < k + 1 → V.N i ≠ 0 → V.N j ≠ 0 → (fun j => if j = k then g else xs j) i < (fun j => if j = k then g else xs j) j) := fun i j hij hj n1 n2 => by
        dsimp only
        by_cases e : j = k
        · subst e
          rw [if_pos rfl, if_neg (by omega)]
          have u1 := (DN.out i hij).2
          have u2 := RPk.out
          rcases u1 with ⟨h, _⟩ | ⟨_, _, _, h1, _⟩
          · exact absurd h n1
          · rcases u2 with ⟨h, _⟩ | ⟨_, _, h2, _⟩
            · exact absurd h n2
            · omega
        · rw [if_neg e, if_neg (by omega)]
          exact XX.out i j hij (by omega) n1 n2
      have BL5 : Hid (Below w.heap.size w (w4.setCell ⟨gO, k, none⟩ (.slice pa pl pc))) := (bthen BL.out hb5).setCell (by show w.heap.size ≤ gO; omega) _
      have z5 : w3.heap.size ≤ (w4.setCell ⟨gO, k, none⟩ (.slice pa pl pc)).heap.size := by rw [set_size]; omega
      clear hb4 hb5 SM OC DN XX BL RPk d0 f0 p3 hck hrk
      go_wp2
      go_roundw
      case rel => exact ⟨k + 1, _, _, by omega, by go_num, SM5.out, OC5.out, DN5.out, XX5.out, z5, BL5.out⟩
      case measure => simp [intOf]; omega
    · have hkk : k = V.nO := by omega
      have A4 : Hid (Six wr w.heap.size [.int .i64 V.c, .slice (some ⟨bW, 0, none⟩) V.nW V.nW, .int .i64 V.g, .slice (some ⟨bO, 0, none⟩) V.nO V.nO, .slice (some ⟨bX, 0, none⟩) V.nX V.nX, .slice (some ⟨bI, 0, none⟩) V.nI V.nI]) := fun i hi => by have h1 := SM.out (w.heap.size) (by omega) (by omega) i; rw [h1.1, h1.2]; exact A3.out i hi
      have R4 : Hid (Six wr (w.heap.size + 1) [.int .i64 0, .slice none 0 0, .int .i64 0, .slice none 0 0, .slice none 0 0, .slice none 0 0]) := fun i hi => by have h1 := SM.out (w.heap.size + 1) (by omega) (by omega) i; rw [h1.1, h1.2]; exact R3.out i hi
      have C4 : Hid (Six wr (w.heap.size + 1 + 1) [.int .i64 V.c, .slice wa wl wc, .int .i64 V.g, .slice (some ⟨gO, 0, none⟩) V.nO V.nO, .slice (some ⟨bX, 0, none⟩) V.nX V.nX, .slice (some ⟨bI, 0, none⟩) V.nI V.nI]) := fun i hi => by have h1 := SM.out (w.heap.size + 1 + 1) (by omega) (by omega) i; rw [h1.1, h1.2]; exact C3.out i hi
      have W4 : Hid (RW w0.heap.size gO wr (.slice wa wl wc) V.nW V.W gW) := W3.out.move (Nat.le_refl _) (Nat.le_refl _) (by omega) (fun q1 q2 => SM.out gW (by omega) (by omega))
      have FR : Hid (∀ j, j < V.nO → wr.frozen? ⟨gO, j, none⟩ = false) := fun j hj => (OC.out j hj).2
      have DD : Hid (∀ j, j < V.nO → wr.cell? ⟨gO, j, none⟩ = some (sl j) ∧ RP w3.heap.size wr.heap.size wr (sl j) (V.N j) (V.O j) (xs j)) := fun j hj => DN.out j (by omega)
      have XD : Hid (∀ i j, i < j → j < V.nO → V.N i ≠ 0 → V.N j ≠ 0 → xs i < xs j) := fun i j h1 h2 => XX.out i j h1 (by omega)
      have hkn' : ¬ (k : Int) < V.nO := by omega
      clear A3 R3 C3 W3 DN XX OC hkk O3 B3
      have a0 : wr.cell? ⟨w.heap.size, 0, none⟩ = some (.int .i64 V.c) := (A4.out 0 (by decide)).1
      have a1 : wr.cell? ⟨w.heap.size, 1, none⟩ = some (.slice (some ⟨bW, 0, none⟩) V.nW V.nW) := (A4.out 1 (by decide)).1
      have a2 : wr.cell? ⟨w.heap.size, 2, none⟩ = some (.int .i64 V.g) := (A4.out 2 (by decide)).1
      have a3 : wr.cell? ⟨w.heap.size, 3, none⟩ = some (.slice (some ⟨bO, 0, none⟩) V.nO V.nO) := (A4.out 3 (by decide)).1
      have a4 : wr.cell? ⟨w.heap.size, 4, none⟩ = some (.slice (some ⟨bX, 0, none⟩) V.nX V.nX) := (A4.out 4 (by decide)).1
      have a5 : wr.cell? ⟨w.heap.size, 5, none⟩ = some (.slice (some ⟨bI, 0, none⟩) V.nI V.nI) := (A4.out 5 (by decide)).1
      have l1 : w.heap.size < wr.heap.size := by omega
      go_wp2_with fail
      clear a0 a1 a2 a3 a4 a5 l1
      refine (copyI bX 0 V.nX V.nX V.X tX _ (by omega) (fun i hi => (BL.out.cell (p := ⟨bX, _, none⟩) (by show bX < _; omega)).trans (by rw [Nat.zero_add]; exact HX.out.2 i hi))).mono ?_
      rintro e w4 ⟨⟨v4, rfl, ho⟩, hb⟩
      obtain ⟨xa, xl, xc, hvv⟩ := own_shape ho
      subst hvv
      obtain ⟨gX, hRX, _⟩ := ri_of_own ho
      have X4 : Hid (RI wr.heap.size w4.heap.size w4 (.slice xa xl xc) V.nX V.X gX) := hRX
      have s4 : wr.heap.size ≤ w4.heap.size := hb.size
      have K4 : Hid (Below wr.heap.size wr w4) := hb
      have A5 : Hid (Six w4 w.heap.size [.int .i64 V.c, .slice (some ⟨bW, 0, none⟩) V.nW V.nW, .int .i64 V.g, .slice (some ⟨bO, 0, none⟩) V.nO V.nO, .slice (some ⟨bX, 0, none⟩) V.nX V.nX, .slice (some ⟨bI, 0, none⟩) V.nI V.nI]) := A4.out.below (by omega) hb
      have R5 : Hid (Six w4 (w.heap.size + 1) [.int .i64 0, .slice none 0 0, .int .i64 0, .slice none 0 0, .slice none 0 0, .slice none 0 0]) := R4.out.below (by omega) hb
      have C5 : Hid (Six w4 (w.heap.size + 1 + 1) [.int .i64 V.c, .slice wa wl wc, .int .i64 V.g, .slice (some ⟨gO, 0, none⟩) V.nO V.nO, .slice (some ⟨bX, 0, none⟩) V.nX V.nX, .slice (some ⟨bI, 0, none⟩) V.nI V.nI]) := C4.out.below (by omega) hb
      clear ho hRX hb A4 R4 C4
      have a0 : w4.cell? ⟨w.heap.size, 0, none⟩ = some (.int .i64 V.c) := (A5.out 0 (by decide)).1
      have a1 : w4.cell? ⟨w.heap.size, 1, none⟩ = some (.slice (some ⟨bW, 0, none⟩) V.nW V.nW) := (A5.out 1 (by decide)).1
      have a2 : w4.cell? ⟨w.heap.size, 2, none⟩ = some (.int .i64 V.g) := (A5.out 2 (by decide)).1
      have a3 : w4.cell? ⟨w.heap.size, 3, none⟩ = some (.slice (some ⟨bO, 0, none⟩) V.nO V.nO) := (A5.out 3 (by decide)).1
      have a4 : w4.cell? ⟨w.heap.size, 4, none⟩ = some (.slice (some ⟨bX, 0, none⟩) V.nX V.nX) := (A5.out 4 (by decide)).1
      have a5 : w4.cell? ⟨w.heap.size, 5, none⟩ = some (.slice (some ⟨bI, 0, none⟩) V.nI V.nI) := (A5.out 5 (by decide)).1
      have y0 : w4.cell? ⟨w.heap.size + 1 + 1, 0, none⟩ = some (.int .i64 V.c) := (C5.out 0 (by decide)).1
      have y1 : w4.cell? ⟨w.heap.size + 1 + 1, 1, none⟩ = some (.slice wa wl wc) := (C5.out 1 (by decide)).1
      have y2 : w4.cell? ⟨w.heap.size + 1 + 1, 2, none⟩ = some (.int .i64 V.g) := (C5.out 2 (by decide)).1
      have y3 : w4.cell? ⟨w.heap.size + 1 + 1, 3, none⟩ = some (.slice (some ⟨gO, 0, none⟩) V.nO V.nO) := (C5.out 3 (by decide)).1
      have y4 : w4.cell? ⟨w.heap.size + 1 + 1, 4, none⟩ = some (.slice (some ⟨bX, 0, none⟩) V.nX V.nX) := (C5.out 4 (by decide)).1
      have y5 : w4.cell? ⟨w.heap.size + 1 + 1, 5, none⟩ = some (.slice (some ⟨bI, 0, none⟩) V.nI V.nI) := (C5.out 5 (by decide)).1
      have f0 : w4.frozen? ⟨w.heap.size + 1 + 1, 0, none⟩ = false := (C5.out 0 (by decide)).2
      have f1 : w4.frozen? ⟨w.heap.size + 1 + 1, 1, none⟩ = false := (C5.out 1 (by decide)).2
      have f2 : w4.frozen? ⟨w.heap.size + 1 + 1, 2, none⟩ = false := (C5.out 2 (by decide)).2
      have f3 : w4.frozen? ⟨w.heap.size + 1 + 1, 3, none⟩ = false := (C5.out 3 (by decide)).2
      have f4 : w4.frozen? ⟨w.heap.size + 1 + 1, 4, none⟩ = false := (C5.out 4 (by decide)).2
      have f5 : w4.frozen? ⟨w.heap.size + 1 + 1, 5, none⟩ = false := (C5.out 5 (by decide)).2
      have l1 : w.heap.size < w4.heap.size := by omega
      have l3 : w.heap.size + 1 + 1 < w4.heap.size := by omega
      go_wp2_with fail
      clear a0 a1 a2 a3 a4 a5 y0 y1 y2 y3 y4 y5 f0 f1 f2 f3 f4 f5 l1 l3
      obtain ⟨w5, e5⟩ : ∃ x, x = w4.setCell ⟨w.heap.size + 1 + 1, 4, none⟩ (.slice xa xl xc) := ⟨_, rfl⟩
      rw [← e5]
      have A6 : Hid (Six w5 w.heap.size [.int .i64 V.c, .slice (some ⟨bW, 0, none⟩) V.nW V.nW, .int .i64 V.g, .slice (some ⟨bO, 0, none⟩) V.nO V.nO, .slice (some ⟨bX, 0, none⟩) V.nX V.nX, .slice (some ⟨bI, 0, none⟩) V.nI V.nI]) := by rw [e5]; exact A5.out.far (by omega)
      have R6 : Hid (Six w5 (w.heap.size + 1) [.int .i64 0, .slice none 0 0, .int .i64 0, .slice none 0 0, .slice none 0 0, .slice none 0 0]) := by rw [e5]; exact R5.out.far (by omega)
      have C6 : Hid (Six w5 (w.heap.size + 1 + 1) [.int .i64 V.c, .slice wa wl wc, .int .i64 V.g, .slice (some ⟨gO, 0, none⟩) V.nO V.nO, .slice xa xl xc, .slice (some ⟨bI, 0, none⟩) V.nI V.nI]) := by rw [e5]; exact C5.out.set (j := 4) (v := .slice xa xl xc) rfl (by decide)
      have s5 : w5.heap.size = w4.heap.size := by rw [e5, set_size]
      have K5 : Hid (∀ x, ¬ x = w.heap.size + 1 + 1 → Sm w4 w5 x) := fun x hx o => by rw [e5]; exact ⟨set_out (fun e => hx e.1.symm), set_frozen⟩
      have B5 : Hid (Below w.heap.size w w5) := by rw [e5]; exact (bthen BL.out K4.out).setCell (by simp; omega) _
      clear e5 A5 R5 C5
      refine (copyI bI 0 V.nI V.nI V.I tI _ (by omega) (fun i hi => (B5.out.cell (p := ⟨bI, _, none⟩) (by show bI < _; omega)).trans (by rw [Nat.zero_add]; exact HI.out.2 i hi))).mono ?_
      rintro e w6 ⟨⟨v6, rfl, ho⟩, hb⟩
      obtain ⟨ia, il, ic, hvv⟩ := own_shape ho
      subst hvv
      obtain ⟨gI, hRI, _⟩ := ri_of_own ho
      have I6 : Hid (RI w5.heap.size w6.heap.size w6 (.slice ia il ic) V.nI V.I gI) := hRI
      have s6 : w5.heap.size ≤ w6.heap.size := hb.size
      have K6 : Hid (Below w5.heap.size w5 w6) := hb
      have B6 : Hid (Below w.heap.size w w6) := bthen B5.out hb
      have R7 : Hid (Six w6 (w.heap.size + 1) [.int .i64 0, .slice none 0 0, .int .i64 0, .slice none 0 0, .slice none 0 0, .slice none 0 0]) := R6.out.below (by omega) hb
      have C7 : Hid (Six w6 (w.heap.size + 1 + 1) [.int .i64 V.c, .slice wa wl wc, .int .i64 V.g, .slice (some ⟨gO, 0, none⟩) V.nO V.nO, .slice xa xl xc, .slice (some ⟨bI, 0, none⟩) V.nI V.nI]) := C6.out.below (by omega) hb
      clear ho hRI hb A6 R6 C6
      have y0 : w6.cell? ⟨w.heap.size + 1 + 1, 0, none⟩ = some (.int .i64 V.c) := (C7.out 0 (by decide)).1
      have y1 : w6.cell? ⟨w.heap.size + 1 + 1, 1, none⟩ = some (.slice wa wl wc) := (C7.out 1 (by decide)).1
      have y2 : w6.cell? ⟨w.heap.size + 1 + 1, 2, none⟩ = some (.int .i64 V.g) := (C7.out 2 (by decide)).1
      have y3 : w6.cell? ⟨w.heap.size + 1 + 1, 3, none⟩ = some (.slice (some ⟨gO, 0, none⟩) V.nO V.nO) := (C7.out 3 (by decide)).1
      have y4 : w6.cell? ⟨w.heap.size + 1 + 1, 4, none⟩ = some (.slice xa xl xc) := (C7.out 4 (by decide)).1
      have y5 : w6.cell? ⟨w.heap.size + 1 + 1, 5, none⟩ = some (.slice (some ⟨bI, 0, none⟩) V.nI V.nI) := (C7.out 5 (by decide)).1
      have f0 : w6.frozen? ⟨w.heap.size + 1 + 1, 0, none⟩ = false := (C7.out 0 (by decide)).2
      have f1 : w6.frozen? ⟨w.heap.size + 1 + 1, 1, none⟩ = false := (C7.out 1 (by decide)).2
      have f2 : w6.frozen? ⟨w.heap.size + 1 + 1, 2, none⟩ = false := (C7.out 2 (by decide)).2
      have f3 : w6.frozen? ⟨w.heap.size + 1 + 1, 3, none⟩ = false := (C7.out 3 (by decide)).2
      have f4 : w6.frozen? ⟨w.heap.size + 1 + 1, 4, none⟩ = false := (C7.out 4 (by decide)).2
      have f5 : w6.frozen? ⟨w.heap.size + 1 + 1, 5, none⟩ = false := (C7.out 5 (by decide)).2
      have r0 : w6.cell? ⟨w.heap.size + 1, 0, none⟩ = some (.int .i64 0) := (R7.out 0 (by decide)).1
      have r1 : w6.cell? ⟨w.heap.size + 1, 1, none⟩ = some (.slice none 0 0) := (R7.out 1 (by decide)).1
      have r2 : w6.cell? ⟨w.heap.size + 1, 2, none⟩ = some (.int .i64 0) := (R7.out 2 (by decide)).1
      have r3 : w6.cell? ⟨w.heap.size + 1, 3, none⟩ = some (.slice none 0 0) := (R7.out 3 (by decide)).1
      have r4 : w6.cell? ⟨w.heap.size + 1, 4, none⟩ = some (.slice none 0 0) := (R7.out 4 (by decide)).1
      have r5 : w6.cell? ⟨w.heap.size + 1, 5, none⟩ = some (.slice none 0 0) := (R7.out 5 (by decide)).1
      have q0 : w6.frozen? ⟨w.heap.size + 1, 0, none⟩ = false := (R7.out 0 (by decide)).2
      have q1 : w6.frozen? ⟨w.heap.size + 1, 1, none⟩ = false := (R7.out 1 (by decide)).2
      have q2 : w6.frozen? ⟨w.heap.size + 1, 2, none⟩ = false := (R7.out 2 (by decide)).2
      have q3 : w6.frozen? ⟨w.heap.size + 1, 3, none⟩ = false := (R7.out 3 (by decide)).2
      have q4 : w6.frozen? ⟨w.heap.size + 1, 4, none⟩ = false := (R7.out 4 (by decide)).2
      have q5 : w6.frozen? ⟨w.heap.size + 1, 5, none⟩ = false := (R7.out 5 (by decide)).2
      have l1 : w.heap.size + 1 < w6.heap.size := by omega
      have l3 : w.heap.size + 1 + 1 < w6.heap.size := by omega
      go_wp2
      refine bodyPost_ret (v := .agg #[.int .i64 V.c, .slice wa wl wc, .int .i64 V.g, .slice (some ⟨gO, 0, none⟩) V.nO V.nO, .slice xa xl xc, .slice ia il ic]) (by simp [results, Tryz.results56, go_sem, r0, r1, r2, r3, r4, r5]) rfl ?_
      have hzz : (put6 (w6.setCell ⟨w.heap.size + 1 + 1, 5, none⟩ (.slice ia il ic)) (w.heap.size + 1) (.int .i64 V.c) (.slice wa wl wc) (.int .i64 V.g) (.slice (some ⟨gO, 0, none⟩) V.nO V.nO) (.slice xa xl xc) (.slice ia il ic)).heap.size = w6.heap.size := by rw [size_put6, set_size]
      have hbb : Below w.heap.size w (put6 (w6.setCell ⟨w.heap.size + 1 + 1, 5, none⟩ (.slice ia il ic)) (w.heap.size + 1) (.int .i64 V.c) (.slice wa wl wc) (.int .i64 V.g) (.slice (some ⟨gO, 0, none⟩) V.nO V.nO) (.slice xa xl xc) (.slice ia il ic)) := below_put6 (B6.out.setCell (by simp; omega) _) (Nat.le_succ w.heap.size) (.int .i64 V.c) (.slice wa wl wc) (.int .i64 V.g) (.slice (some ⟨gO, 0, none⟩) V.nO V.nO) (.slice xa xl xc) (.slice ia il ic)
      have SF : ∀ x, ¬ x = w.heap.size + 1 → ¬ x = w.heap.size + 1 + 1 → Sm w6 (put6 (w6.setCell ⟨w.heap.size + 1 + 1, 5, none⟩ (.slice ia il ic)) (w.heap.size + 1) (.int .i64 V.c) (.slice wa wl wc) (.int .i64 V.g) (.slice (some ⟨gO, 0, none⟩) V.nO V.nO) (.slice xa xl xc) (.slice ia il ic)) x := fun x h1 h2 => Sm.trans (fun o => ⟨set_out (fun e => h2 e.1.symm), set_frozen⟩) (sm_put6 (fun e => h1 e.symm) (.int .i64 V.c) (.slice wa wl wc) (.int .i64 V.g) (.slice (some ⟨gO, 0, none⟩) V.nO V.nO) (.slice xa xl xc) (.slice ia il ic))
      refine ⟨⟨_, rfl, ?_, ?_⟩, hbb⟩
      · show OwnC w.heap.size (put6 (w6.setCell ⟨w.heap.size + 1 + 1, 5, none⟩ (.slice ia il ic)) (w.heap.size + 1) (.int .i64 V.c) (.slice wa wl wc) (.int .i64 V.g) (.slice (some ⟨gO, 0, none⟩) V.nO V.nO) (.slice xa xl xc) (.slice ia il ic)).heap.size (put6 (w6.setCell ⟨w.heap.size + 1 + 1, 5, none⟩ (.slice ia il ic)) (w.heap.size + 1) (.int .i64 V.c) (.slice wa wl wc) (.int .i64 V.g) (.slice (some ⟨gO, 0, none⟩) V.nO V.nO) (.slice xa xl xc) (.slice ia il ic)) _ _
        rw [hzz]
        clear r0 r1 r2 r3 r4 r5 q0 q1 q2 q3 q4 q5 y0 y1 y2 y3 y4 y5 f0 f1 f2 f3 f4 f5 hbb
        have S5 : ∀ x, x < w5.heap.size → w0.heap.size ≤ x → Sm w5 (put6 (w6.setCell ⟨w.heap.size + 1 + 1, 5, none⟩ (.slice ia il ic)) (w.heap.size + 1) (.int .i64 V.c) (.slice wa wl wc) (.int .i64 V.g) (.slice (some ⟨gO, 0, none⟩) V.nO V.nO) (.slice xa xl xc) (.slice ia il ic)) x := fun x h1 h2 => (sm_below K6.out h1).trans (SF x (by omega) (by omega))
        have S4 : ∀ x, x < w4.heap.size → w0.heap.size ≤ x → Sm w4 (put6 (w6.setCell ⟨w.heap.size + 1 + 1, 5, none⟩ (.slice ia il ic)) (w.heap.size + 1) (.int .i64 V.c) (.slice wa wl wc) (.int .i64 V.g) (.slice (some ⟨gO, 0, none⟩) V.nO V.nO) (.slice xa xl xc) (.slice ia il ic)) x := fun x h1 h2 => (K5.out x (by omega)).trans (S5 x (by omega) h2)
        have S3 : ∀ x, x < wr.heap.size → w0.heap.size ≤ x → Sm wr (put6 (w6.setCell ⟨w.heap.size + 1 + 1, 5, none⟩ (.slice ia il ic)) (w.heap.size + 1) (.int .i64 V.c) (.slice wa wl wc) (.int .i64 V.g) (.slice (some ⟨gO, 0, none⟩) V.nO V.nO) (.slice xa xl xc) (.slice ia il ic)) x := fun x h1 h2 => (sm_below K4.out h1).trans (S4 x (by omega) h2)
        have bWl : V.nW ≠ 0 → gW < gO := fun e => by rcases W4.out with ⟨h, _⟩ | ⟨_, _, _, h, _⟩; exact absurd h e; exact h
        have bXl : V.nX ≠ 0 → wr.heap.size ≤ gX ∧ gX < w4.heap.size := fun e => by rcases X4.out with ⟨h, _⟩ | ⟨_, _, h, h2, _⟩; exact absurd h e; exact ⟨h, h2⟩
        have bIl : V.nI ≠ 0 → w5.heap.size ≤ gI ∧ gI < w6.heap.size := fun e => by rcases I6.out with ⟨h, _⟩ | ⟨_, _, h, h2, _⟩; exact absurd h e; exact ⟨h, h2⟩
        have bPl : ∀ k, k < V.nO → V.N k ≠ 0 → w3.heap.size ≤ xs k ∧ xs k < wr.heap.size := fun k hk e => by rcases (DD.out k hk).2 with ⟨h, _⟩ | ⟨_, _, h, h2, _⟩; exact absurd h e; exact ⟨h, h2⟩
        refine ownC_mk (gW := gW) (gO := gO) (gX := gX) (gI := gI) (sl := sl) (xs := xs) (W4.out.move (by omega) (by omega) (Nat.le_of_eq hzz.symm) (fun q1 q2 => S3 gW (by omega) q1)) (by omega) (by omega) (Nat.le_of_eq hzz.symm) (fun k hk => ⟨(S3 gO (by omega) (by omega) k).1.trans (DD.out k hk).1, ((DD.out k hk).2.move (by omega) (Nat.le_of_eq hzz.symm) (fun q1 q2 => S3 _ q2 (by omega))).low (by omega)⟩) (X4.out.move (by omega) (by omega) (Nat.le_of_eq hzz.symm) (fun q1 q2 => S4 gX q2 (by omega))) (I6.out.move (by omega) (Nat.le_refl _) (Nat.le_of_eq hzz.symm) (fun q1 q2 => SF gI (by omega) (by omega))) bWl (fun e => by have := bXl e; omega) (fun e => by have := bIl e; omega) (fun e e2 => by have := bXl e; have := bIl e2; omega) (fun k hk e => ⟨by have := bPl k hk e; omega, fun e2 => by have := bPl k hk e; have := bXl e2; omega, fun e2 => by have := bPl k hk e; have := bIl e2; omega⟩) XD.out
      · have S5 : ∀ x, x < w5.heap.size → w0.heap.size ≤ x → Sm w5 (put6 (w6.setCell ⟨w.heap.size + 1 + 1, 5, none⟩ (.slice ia il ic)) (w.heap.size + 1) (.int .i64 V.c) (.slice wa wl wc) (.int .i64 V.g) (.slice (some ⟨gO, 0, none⟩) V.nO V.nO) (.slice xa xl xc) (.slice ia il ic)) x := fun x h1 h2 => (sm_below K6.out h1).trans (SF x (by omega) (by omega))
        have S4 : ∀ x, x < w4.heap.size → w0.heap.size ≤ x → Sm w4 (put6 (w6.setCell ⟨w.heap.size + 1 + 1, 5, none⟩ (.slice ia il ic)) (w.heap.size + 1) (.int .i64 V.c) (.slice wa wl wc) (.int .i64 V.g) (.slice (some ⟨gO, 0, none⟩) V.nO V.nO) (.slice xa xl xc) (.slice ia il ic)) x := fun x h1 h2 => (K5.out x (by omega)).trans (S5 x (by omega) h2)
        have S3 : ∀ x, x < wr.heap.size → w0.heap.size ≤ x → Sm wr (put6 (w6.setCell ⟨w.heap.size + 1 + 1, 5, none⟩ (.slice ia il ic)) (w.heap.size + 1) (.int .i64 V.c) (.slice wa wl wc) (.int .i64 V.g) (.slice (some ⟨gO, 0, none⟩) V.nO V.nO) (.slice xa xl xc) (.slice ia il ic)) x := fun x h1 h2 => (sm_below K4.out h1).trans (S4 x (by omega) h2)
        intro x0 x1 x2 g n k x4 x5 e
        have e3 := (agg6 e).2.1
        simp only [Value.slice.injEq, Option.some.injEq, Addr.mk.injEq] at e3
        obtain ⟨⟨rfl, _, _⟩, rfl, _⟩ := e3
        refine ⟨by omega, ?_, fun j hj => (S3 _ (by omega) (by omega) j).2.trans (FR.out j hj)⟩
        have h1 := hzz
        simp only [put6] at h1
        show _ < (put6 _ _ _ _ _ _ _ _).heap.size
        rw [size_put6]
        show _ < (w6.setCell _ _).heap.size
        rw [set_size]
        omega
end Go.Proofs.YtjmjffhommlbnaaGreat
