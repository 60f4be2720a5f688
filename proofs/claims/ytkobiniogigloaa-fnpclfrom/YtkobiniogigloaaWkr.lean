/- The walk of l20Walker: a walker is drawn; conditions: the reader lies open. -/
import Derived.Test.YtkobiniogigloaaWalks1
import Derived.Test.YtkobiniogigloaaDraw2
import Derived.Test.YtkobiniogigloaaInv
import Derived.Deep.DeepCutAuto
namespace Go.Proofs.Ytkobiniogigloaa
open Go.RowKit
set_option linter.unusedVariables false

/-- A number that fits in any bound asked for. -/
def Small (z : Int) : Prop := -100000 ≤ z ∧ z ≤ 100000

theorem pick_small {n x : Int} (h : PickOut n x) (hn : n ≤ 100000) : Small x := by
  obtain ⟨a1, a2, a3⟩ := h
  unfold Small
  by_cases h : 1 ≤ n
  · have := a2 h; omega
  · have := a3 (by omega); omega
theorem lits_small (zs : List Int) (h : ∀ z ∈ zs, -100000 ≤ z ∧ z ≤ 100000) {k : Nat} : Small (zs.getD k 0) := by
  by_cases hk : k < zs.length
  · rw [show zs.getD k 0 = zs[k] by simp [List.getD, hk]]
    exact h _ (List.getElem_mem hk)
  · rw [show zs.getD k 0 = 0 by simp [List.getD, hk]]
    exact ⟨by decide, by decide⟩
theorem RdB.more {w : World} {r : Nat} {a : Option Addr} {len cap : Nat} {m m' : Int} (h : RdB w r a len cap m) (hm : m ≤ m') : RdB w r a len cap m' := by
  obtain ⟨p, h0, h1, h⟩ := h; exact ⟨p, h0, by omega, h⟩
/-- Five cells of a block that may be written. -/
def Wr5 (w : World) (b : Nat) : Prop := ∀ j, j < 5 → ∃ v, w.cell? ⟨b, j, none⟩ = some v ∧ w.frozen? ⟨b, j, none⟩ = false
theorem Wr5.kept {r : Nat} {w w' : World} {b : Nat} (h : Wr5 w b) (K : Kept r w w') (hn : ¬ b = r) : Wr5 w' b := by
  intro j hj
  obtain ⟨v, h1, h2⟩ := h j hj
  have hlt := cell_lt h1
  exact ⟨v, ((kcell K).1 b j hlt hn).trans h1, ((kcell K).2 b j hlt hn).trans h2⟩
/-- Block g is as it was. -/
def Stay (g : Nat) (w w' : World) : Prop := w.heap.size ≤ w'.heap.size ∧ ∀ o, w'.cell? ⟨g, o, none⟩ = w.cell? ⟨g, o, none⟩
theorem Kept.stay {r g : Nat} {w w' : World} (h : Kept r w w') (hl : g < w.heap.size) (hn : ¬ g = r) : Stay g w w' := ⟨h.size, fun o => (kcell h).1 g o hl hn⟩
theorem Lits.stay {g : Nat} {w w' : World} {zs : List Int} (h : Lits w g zs) (k : Stay g w w') : Lits w' g zs := ⟨Nat.lt_of_lt_of_le h.1 k.1, fun u h0 h1 => (k.2 _).trans (h.2 u h0 h1)⟩
/-- Five cells written. -/
def put5c (w : World) (b : Nat) (x0 x1 x2 x3 x4 : Value) : World :=
  ((((w.setCell ⟨b, 0, none⟩ x0).setCell ⟨b, 1, none⟩ x1).setCell ⟨b, 2, none⟩ x2).setCell ⟨b, 3, none⟩ x3).setCell ⟨b, 4, none⟩ x4
theorem below_put5c {B : Nat} {a w : World} (h : Below B a w) {b : Nat} (hb : B ≤ b) (x0 x1 x2 x3 x4 : Value) : Below B a (put5c w b x0 x1 x2 x3 x4) :=
  ((((h.setCell (p := ⟨b, 0, none⟩) hb _).setCell (p := ⟨b, 1, none⟩) hb _).setCell (p := ⟨b, 2, none⟩) hb _).setCell (p := ⟨b, 3, none⟩) hb _).setCell (p := ⟨b, 4, none⟩) hb _
theorem RdB.p5 {w : World} {r : Nat} {a : Option Addr} {len cap : Nat} {m : Int} (h : RdB w r a len cap m) {b : Nat} (hb : r < b) (x0 x1 x2 x3 x4 : Value) : RdB (put5c w b x0 x1 x2 x3 x4) r a len cap m := by
  obtain ⟨p, h0, h1, h⟩ := h
  exact ⟨p, h0, h1, h.below (below_put5c (Below.refl _ _) hb _ _ _ _ _)⟩
theorem Kept.p5 {r : Nat} {a w : World} (h : Kept r a w) {b : Nat} (hb : a.heap.size ≤ b) (x0 x1 x2 x3 x4 : Value) : Kept r a (put5c w b x0 x1 x2 x3 x4) :=
  ((((h.setCell (q := ⟨b, 0, none⟩) (.inl hb) _).setCell (q := ⟨b, 1, none⟩) (.inl hb) _).setCell (q := ⟨b, 2, none⟩) (.inl hb) _).setCell (q := ⟨b, 3, none⟩) (.inl hb) _).setCell (q := ⟨b, 4, none⟩) (.inl hb) _
/-- Block b begins with these five numbers. -/
def Five (w : World) (b : Nat) (z0 z1 z2 z3 z4 : Int) : Prop :=
  w.cell? ⟨b, 0, none⟩ = some (.int .i64 z0) ∧ w.cell? ⟨b, 1, none⟩ = some (.int .i64 z1) ∧ w.cell? ⟨b, 2, none⟩ = some (.int .i64 z2) ∧ w.cell? ⟨b, 3, none⟩ = some (.int .i64 z3) ∧ w.cell? ⟨b, 4, none⟩ = some (.int .i64 z4)
theorem Five.stay {w w' : World} {b : Nat} {z0 z1 z2 z3 z4 : Int} (h : Five w b z0 z1 z2 z3 z4) (k : Stay b w w') : Five w' b z0 z1 z2 z3 z4 := by
  unfold Five
  rw [k.2, k.2, k.2, k.2, k.2]
  exact h
theorem stay5 {w : World} {g b : Nat} (h : ¬ g = b) (x0 x1 x2 x3 x4 : Value) : Stay g w (put5c w b x0 x1 x2 x3 x4) := by
  refine ⟨by simp [put5c, World.setCell], fun o => ?_⟩
  have far : ∀ (o' : Nat) (W : World) (z : Value), (W.setCell ⟨b, o', none⟩ z).cell? ⟨g, o, none⟩ = W.cell? ⟨g, o, none⟩ := fun o' W z => World.cell?_setCell_other _ _ _ _ (by intro e; exact h (by injection e with e1; exact e1.symm))
  unfold put5c
  rw [far, far, far, far, far]
theorem put5c_cells {w : World} {b : Nat} (h : Wr5 w b) (x0 x1 x2 x3 x4 : Value) : (put5c w b x0 x1 x2 x3 x4).cell? ⟨b, 0, none⟩ = some x0 ∧ (put5c w b x0 x1 x2 x3 x4).cell? ⟨b, 1, none⟩ = some x1 ∧ (put5c w b x0 x1 x2 x3 x4).cell? ⟨b, 2, none⟩ = some x2 ∧ (put5c w b x0 x1 x2 x3 x4).cell? ⟨b, 3, none⟩ = some x3 ∧ (put5c w b x0 x1 x2 x3 x4).cell? ⟨b, 4, none⟩ = some x4 := by
  have e : put5c w b x0 x1 x2 x3 x4 = w.setCells b 0 [x0, x1, x2, x3, x4] := rfl
  have g := World.cell?_setCells_in b [x0, x1, x2, x3, x4] 0 w (fun j hj => by
    obtain ⟨v, h1, _⟩ := h j (by simpa using hj)
    rw [Nat.zero_add, h1]; rfl)
  rw [e]
  exact ⟨g 0 (by simp), g 1 (by simp), g 2 (by simp), g 3 (by simp), g 4 (by simp)⟩
theorem five_set {w : World} {b : Nat} (h : Wr5 w b) (z0 z1 z2 z3 z4 : Int) : Five (put5c w b (.int .i64 z0) (.int .i64 z1) (.int .i64 z2) (.int .i64 z3) (.int .i64 z4)) b z0 z1 z2 z3 z4 := put5c_cells h _ _ _ _ _
theorem Wr5.p5 {w : World} {b : Nat} (h : Wr5 w b) (x0 x1 x2 x3 x4 : Value) : Wr5 (put5c w b x0 x1 x2 x3 x4) b := by
  have hc := put5c_cells h x0 x1 x2 x3 x4
  have hfr : ∀ j, (put5c w b x0 x1 x2 x3 x4).frozen? ⟨b, j, none⟩ = w.frozen? ⟨b, j, none⟩ := fun j => by
    unfold put5c
    rw [World.frozen?_setCell, World.frozen?_setCell, World.frozen?_setCell, World.frozen?_setCell, World.frozen?_setCell]
  generalize put5c w b x0 x1 x2 x3 x4 = W at hc hfr ⊢
  obtain ⟨g0, g1, g2, g3, g4⟩ := hc
  intro j hj
  obtain ⟨v, _, hf⟩ := h j hj
  rw [hfr j]
  have : j = 0 ∨ j = 1 ∨ j = 2 ∨ j = 3 ∨ j = 4 := by omega
  rcases this with rfl | rfl | rfl | rfl | rfl
  · exact ⟨_, g0, hf⟩
  · exact ⟨_, g1, hf⟩
  · exact ⟨_, g2, hf⟩
  · exact ⟨_, g3, hf⟩
  · exact ⟨_, g4, hf⟩

set_option maxRecDepth 20000 in
set_option maxHeartbeats 2000000 in
theorem walker_B {r : Nat} {ad : Option Addr} {len cap : Nat} {m c d : Int} {w : World} (h : RdB w r ad len cap m) (hm : m ≤ 100000) (hc : MapOut c d) :
    Calls Try.prog 25 #[.pointer (some ⟨r, 0, none⟩), .agg #[.int .i64 c, .int .i64 d]] w fun e w' => ∃ z0 z1 z2 z3 z4, e = .returned (.agg #[.int .i64 z0, .int .i64 z1, .int .i64 z2, .int .i64 z3, .int .i64 z4]) ∧ (Small z0 ∧ Small z1 ∧ Small z2 ∧ Small z3 ∧ Small z4) ∧ RdB w' r ad len cap (m + 5) ∧ Kept r w w' := by
  have H : Hid (RdB w r ad len cap m) := h
  have hrl := h.lt
  obtain ⟨c0, c1, d0, d1⟩ := hc
  have hcd : -9 ≤ c * d ∧ c * d ≤ 45 := by
    have : d = 0 ∨ d = 1 ∨ d = 2 ∨ d = 3 ∨ d = 4 ∨ d = 5 ∨ d = 6 ∨ d = 7 ∨ d = 8 ∨ d = 9 := by omega
    rcases this with rfl | rfl | rfl | rfl | rfl | rfl | rfl | rfl | rfl | rfl <;> omega
  obtain ⟨e0, e1⟩ := hcd
  clear h
  go_enter Try.func25, Try.ntmps25
  go_wp2_with fail
  refine (ok_spec _ _ _).mono ?_
  rintro e w1 ⟨rfl, hb1⟩
  have K1 : Kept r w w1 := (((Kept.refl r w).alloc _).alloc _).trans (Kept.ofBelow hb1)
  have R1 : Hid (RdB w1 r ad len cap m) := by
    obtain ⟨p, h0, h1, h⟩ := (H.out.alloc (.cells #[.int .i64 c, .int .i64 d] 24)).alloc (.cells #[.int .i64 0, .int .i64 0, .int .i64 0, .int .i64 0, .int .i64 0] 41)
    exact ⟨p, h0, h1, h.below (hb1.mono (by simp; omega))⟩
  have hz1 : w.heap.size + 1 < w1.heap.size := by have := hb1.size; simp at this; omega
  have f1 : (∀ j, j < 5 → ∃ v, w1.cell? ⟨w.heap.size + 1, j, none⟩ = some v ∧ w1.frozen? ⟨w.heap.size + 1, j, none⟩ = false) := by
    intro j hj
    rw [hb1.cell (p := ⟨w.heap.size + 1, j, none⟩) (by simp), hb1.frozen (p := ⟨w.heap.size + 1, j, none⟩) (by simp)]
    match j, hj with
    | 0, _ => exact ⟨.int .i64 0, by simp⟩
    | 1, _ => exact ⟨.int .i64 0, by simp⟩
    | 2, _ => exact ⟨.int .i64 0, by simp⟩
    | 3, _ => exact ⟨.int .i64 0, by simp⟩
    | 4, _ => exact ⟨.int .i64 0, by simp⟩
  have F1 : Hid (∀ j, j < 5 → ∃ v, w1.cell? ⟨w.heap.size + 1, j, none⟩ = some v ∧ w1.frozen? ⟨w.heap.size + 1, j, none⟩ = false) := f1
  have KK1 : Hid (Kept r w w1) := K1
  clear f1 hb1 H K1
  go_upto_if 13 with fail
  go_cut [5] (fun s wx => ∃ n, .int .i64 n = s ∧ -9 ≤ n ∧ n ≤ 45 ∧ wx = w1)
  case first =>
    cases hok : okB c d
    · go_wp2
      go_meet
      case rel => exact ⟨4, rfl, by omega, by omega, rfl⟩
    · go_wp2
      go_meet
      case rel => exact ⟨c * d, rfl, by omega, by omega, rfl⟩
  case rest =>
    obtain ⟨n, rfl, n0, n1, rfl⟩ := hcut
    go_upto_region 4 with fail
    refine wp_region_inv (by kernel_rfl) (by kernel_rfl) (fun L a w' => ∃ u14 u15 u16 u17 u18 u19 u20 u21 u22 u23 u24 u25 u26 u27 u28 u29 u30 u31 u32 : Value, a = ⟨#[.pointer (some ⟨r, 0, none⟩), .agg #[.int .i64 c, .int .i64 d], undef, .pointer (some ⟨w.heap.size, 0, none⟩), .pointer (some ⟨w.heap.size + 1, 0, none⟩), .int .i64 n, u6, u7, u8, u9, u10, u11, u12, u13, u14, u15, u16, u17, u18, u19, u20, u21, u22, u23, u24, u25, u26, u27, u28, u29, u30, u31, u32], []⟩ ∧ (RdB w' r ad len cap (m + cntL [1, 5, 8, 13, 17] L) ∧ Kept r w w' ∧ Wr5 w' (w.heap.size + 1) ∧ w.heap.size + 1 < w'.heap.size) ∧ (L 0 = true → u14 = .pointer (some ⟨r, 0, none⟩)) ∧ (L 1 = true → ∃ x, u15 = .int .i64 x ∧ PickOut 9 x) ∧ (L 2 = true → ∃ z, u16 = .int .i64 z ∧ Small z) ∧ (L 3 = true → u17 = .pointer (some ⟨r, 0, none⟩)) ∧ (L 4 = true → u18 = .int .i64 n) ∧ (L 5 = true → ∃ z, u19 = .int .i64 z ∧ Small z) ∧ (L 6 = true → ∃ g, u20 = .slice (some ⟨g, 0, none⟩) 6 6 ∧ Lits w' g [0, 1, 5, 20, 95, 99] ∧ ¬ g = r ∧ ¬ g = w.heap.size + 1) ∧ (L 7 = true → u21 = .pointer (some ⟨r, 0, none⟩)) ∧ (L 8 = true → ∃ x, u22 = .int .i64 x ∧ PickOut 6 x) ∧ (L 9 = true → ∃ (g : Nat) (x : Int), u23 = .pointer (some ⟨g, x.toNat, none⟩) ∧ Lits w' g [0, 1, 5, 20, 95, 99] ∧ 0 ≤ x ∧ x < 6 ∧ ¬ g = r ∧ ¬ g = w.heap.size + 1) ∧ (L 10 = true → ∃ z, u24 = .int .i64 z ∧ Small z) ∧ (L 11 = true → ∃ g, u25 = .slice (some ⟨g, 0, none⟩) 5 5 ∧ Lits w' g [0, 0, 1, 7, 900] ∧ ¬ g = r ∧ ¬ g = w.heap.size + 1) ∧ (L 12 = true → u26 = .pointer (some ⟨r, 0, none⟩)) ∧ (L 13 = true → ∃ x, u27 = .int .i64 x ∧ PickOut 5 x) ∧ (L 14 = true → ∃ (g : Nat) (x : Int), u28 = .pointer (some ⟨g, x.toNat, none⟩) ∧ Lits w' g [0, 0, 1, 7, 900] ∧ 0 ≤ x ∧ x < 5 ∧ ¬ g = r ∧ ¬ g = w.heap.size + 1) ∧ (L 15 = true → ∃ z, u29 = .int .i64 z ∧ Small z) ∧ (L 16 = true → u30 = .pointer (some ⟨r, 0, none⟩)) ∧ (L 17 = true → ∃ z, u31 = .int .i64 z ∧ Small z) ∧ (L 18 = true → ∃ z0 z1 z2 z3 z4, u32 = .agg #[.int .i64 z0, .int .i64 z1, .int .i64 z2, .int .i64 z3, .int .i64 z4] ∧ (Small z0 ∧ Small z1 ∧ Small z2 ∧ Small z3 ∧ Small z4)) ∧ (L 19 = true → ∃ z0 z1 z2 z3 z4, (Small z0 ∧ Small z1 ∧ Small z2 ∧ Small z3 ∧ Small z4) ∧ Five w' (w.heap.size + 1) z0 z1 z2 z3 z4)) ?h0 ?hstep ?hdone
    case h0 => exact ⟨u14, u15, u16, u17, u18, u19, u20, u21, u22, u23, u24, u25, u26, u27, u28, u29, u30, u31, u32, rfl, ⟨by rw [cntL_none, Int.add_zero]; exact R1.out.drew, KK1.out.drew, F1.out, hz1⟩, fun h => absurd h (by simp), fun h => absurd h (by simp), fun h => absurd h (by simp), fun h => absurd h (by simp), fun h => absurd h (by simp), fun h => absurd h (by simp), fun h => absurd h (by simp), fun h => absurd h (by simp), fun h => absurd h (by simp), fun h => absurd h (by simp), fun h => absurd h (by simp), fun h => absurd h (by simp), fun h => absurd h (by simp), fun h => absurd h (by simp), fun h => absurd h (by simp), fun h => absurd h (by simp), fun h => absurd h (by simp), fun h => absurd h (by simp), fun h => absurd h (by simp), fun h => absurd h (by simp)⟩
    case hstep =>
      refine ⟨?_, ?_, ?_, ?_, ?_, ?_, ?_, ?_, ?_, ?_, ?_, ?_, ?_, ?_, ?_, ?_, ?_, ?_, ?_, ?_, trivial⟩
      · intro L a w' K' hd hL hI hK
        obtain ⟨u14, u15, u16, u17, u18, u19, u20, u21, u22, u23, u24, u25, u26, u27, u28, u29, u30, u31, u32, rfl, ⟨hR, hKp, hW, hz⟩, h0, h1, h2, h3, h4, h5, h6, h7, h8, h9, h10, h11, h12, h13, h14, h15, h16, h17, h18, h19⟩ := hI
        go_simp
        exact hK.out _ _ ⟨_, _, _, _, _, _, _, _, _, _, _, _, _, _, _, _, _, _, _, rfl, ⟨by rw [cntL_out (by decide)]; exact hR, hKp, hW, hz⟩, fun _ => rfl, keepL (by decide) h1, keepL (by decide) h2, keepL (by decide) h3, keepL (by decide) h4, keepL (by decide) h5, keepL (by decide) h6, keepL (by decide) h7, keepL (by decide) h8, keepL (by decide) h9, keepL (by decide) h10, keepL (by decide) h11, keepL (by decide) h12, keepL (by decide) h13, keepL (by decide) h14, keepL (by decide) h15, keepL (by decide) h16, keepL (by decide) h17, keepL (by decide) h18, keepL (by decide) h19⟩
      · intro L a w' K' hd hL hI hK
        obtain ⟨u14, u15, u16, u17, u18, u19, u20, u21, u22, u23, u24, u25, u26, u27, u28, u29, u30, u31, u32, rfl, ⟨hR, hKp, hW, hz⟩, h0, h1, h2, h3, h4, h5, h6, h7, h8, h9, h10, h11, h12, h13, h14, h15, h16, h17, h18, h19⟩ := hI
        obtain rfl := h0 (hd ⟨0, .data⟩ (by simp) rfl)
        go_simp
        go_wp2_with (go_at_call 20; refine (pick_B hR (by have := (cntL_bd L [1, 5, 8, 13, 17]).2; simp at this; omega)).mono ?_; rintro e w2 ⟨x, rfl, hx, hR2, K2⟩)
        exact hK.out _ _ ⟨_, _, _, _, _, _, _, _, _, _, _, _, _, _, _, _, _, _, _, rfl, ⟨by rw [cntL_in hL (by decide) (by decide), ← Int.add_assoc]; exact hR2, hKp.trans K2, hW.kept K2 (by omega), Nat.lt_of_lt_of_le hz K2.size⟩, keepL (by decide) (fun _ => rfl), fun _ => ⟨x, rfl, hx⟩, keepL (by decide) h2, keepL (by decide) h3, keepL (by decide) h4, keepL (by decide) h5, keepL (by decide) (fun e => match (h6 e) with | ⟨g, e1, e2, e3, e4⟩ => ⟨g, e1, e2.stay (K2.stay e2.1 e3), e3, e4⟩), keepL (by decide) h7, keepL (by decide) h8, keepL (by decide) (fun e => match (h9 e) with | ⟨g, x, e1, e2, e5, e6, e3, e4⟩ => ⟨g, x, e1, e2.stay (K2.stay e2.1 e3), e5, e6, e3, e4⟩), keepL (by decide) h10, keepL (by decide) (fun e => match (h11 e) with | ⟨g, e1, e2, e3, e4⟩ => ⟨g, e1, e2.stay (K2.stay e2.1 e3), e3, e4⟩), keepL (by decide) h12, keepL (by decide) h13, keepL (by decide) (fun e => match (h14 e) with | ⟨g, x, e1, e2, e5, e6, e3, e4⟩ => ⟨g, x, e1, e2.stay (K2.stay e2.1 e3), e5, e6, e3, e4⟩), keepL (by decide) h15, keepL (by decide) h16, keepL (by decide) h17, keepL (by decide) h18, keepL (by decide) (fun e => match (h19 e) with | ⟨z0, z1, z2, z3, z4, e1, e2⟩ => ⟨z0, z1, z2, z3, z4, e1, e2.stay (K2.stay (by omega) (by omega))⟩)⟩
      · intro L a w' K' hd hL hI hK
        obtain ⟨u14, u15, u16, u17, u18, u19, u20, u21, u22, u23, u24, u25, u26, u27, u28, u29, u30, u31, u32, rfl, ⟨hR, hKp, hW, hz⟩, h0, h1, h2, h3, h4, h5, h6, h7, h8, h9, h10, h11, h12, h13, h14, h15, h16, h17, h18, h19⟩ := hI
        obtain ⟨x, rfl, hx⟩ := h1 (hd ⟨1, .data⟩ (by simp) rfl)
        have hx0 := hx.1
        have hx1 := hx.2.1 (by decide)
        have hwr : IntKind.i64.wrap (1 + x) = 1 + x := by rw [IntKind.wrap_i64]; omega
        go_simp
        exact hK.out _ _ ⟨_, _, _, _, _, _, _, _, _, _, _, _, _, _, _, _, _, _, _, rfl, ⟨by rw [cntL_out (by decide)]; exact hR, hKp, hW, hz⟩, keepL (by decide) h0, keepL (by decide) (fun _ => ⟨x, rfl, hx⟩), fun _ => ⟨1 + x, rfl, by unfold Small; omega⟩, keepL (by decide) h3, keepL (by decide) h4, keepL (by decide) h5, keepL (by decide) h6, keepL (by decide) h7, keepL (by decide) h8, keepL (by decide) h9, keepL (by decide) h10, keepL (by decide) h11, keepL (by decide) h12, keepL (by decide) h13, keepL (by decide) h14, keepL (by decide) h15, keepL (by decide) h16, keepL (by decide) h17, keepL (by decide) h18, keepL (by decide) h19⟩
      · intro L a w' K' hd hL hI hK
        obtain ⟨u14, u15, u16, u17, u18, u19, u20, u21, u22, u23, u24, u25, u26, u27, u28, u29, u30, u31, u32, rfl, ⟨hR, hKp, hW, hz⟩, h0, h1, h2, h3, h4, h5, h6, h7, h8, h9, h10, h11, h12, h13, h14, h15, h16, h17, h18, h19⟩ := hI
        go_simp
        exact hK.out _ _ ⟨_, _, _, _, _, _, _, _, _, _, _, _, _, _, _, _, _, _, _, rfl, ⟨by rw [cntL_out (by decide)]; exact hR, hKp, hW, hz⟩, keepL (by decide) h0, keepL (by decide) h1, keepL (by decide) h2, fun _ => rfl, keepL (by decide) h4, keepL (by decide) h5, keepL (by decide) h6, keepL (by decide) h7, keepL (by decide) h8, keepL (by decide) h9, keepL (by decide) h10, keepL (by decide) h11, keepL (by decide) h12, keepL (by decide) h13, keepL (by decide) h14, keepL (by decide) h15, keepL (by decide) h16, keepL (by decide) h17, keepL (by decide) h18, keepL (by decide) h19⟩
      · intro L a w' K' hd hL hI hK
        obtain ⟨u14, u15, u16, u17, u18, u19, u20, u21, u22, u23, u24, u25, u26, u27, u28, u29, u30, u31, u32, rfl, ⟨hR, hKp, hW, hz⟩, h0, h1, h2, h3, h4, h5, h6, h7, h8, h9, h10, h11, h12, h13, h14, h15, h16, h17, h18, h19⟩ := hI
        go_simp
        exact hK.out _ _ ⟨_, _, _, _, _, _, _, _, _, _, _, _, _, _, _, _, _, _, _, rfl, ⟨by rw [cntL_out (by decide)]; exact hR, hKp, hW, hz⟩, keepL (by decide) h0, keepL (by decide) h1, keepL (by decide) h2, keepL (by decide) h3, fun _ => rfl, keepL (by decide) h5, keepL (by decide) h6, keepL (by decide) h7, keepL (by decide) h8, keepL (by decide) h9, keepL (by decide) h10, keepL (by decide) h11, keepL (by decide) h12, keepL (by decide) h13, keepL (by decide) h14, keepL (by decide) h15, keepL (by decide) h16, keepL (by decide) h17, keepL (by decide) h18, keepL (by decide) h19⟩
      · intro L a w' K' hd hL hI hK
        obtain ⟨u14, u15, u16, u17, u18, u19, u20, u21, u22, u23, u24, u25, u26, u27, u28, u29, u30, u31, u32, rfl, ⟨hR, hKp, hW, hz⟩, h0, h1, h2, h3, h4, h5, h6, h7, h8, h9, h10, h11, h12, h13, h14, h15, h16, h17, h18, h19⟩ := hI
        obtain rfl := h3 (hd ⟨3, .data⟩ (by simp) rfl)
        obtain rfl := h4 (hd ⟨4, .data⟩ (by simp) rfl)
        go_simp
        go_wp2_with (go_at_call 20; refine (pick_B hR (by have := (cntL_bd L [1, 5, 8, 13, 17]).2; simp at this; omega)).mono ?_; rintro e w2 ⟨x, rfl, hx, hR2, K2⟩)
        exact hK.out _ _ ⟨_, _, _, _, _, _, _, _, _, _, _, _, _, _, _, _, _, _, _, rfl, ⟨by rw [cntL_in hL (by decide) (by decide), ← Int.add_assoc]; exact hR2, hKp.trans K2, hW.kept K2 (by omega), Nat.lt_of_lt_of_le hz K2.size⟩, keepL (by decide) h0, keepL (by decide) h1, keepL (by decide) h2, keepL (by decide) (fun _ => rfl), keepL (by decide) (fun _ => rfl), fun _ => ⟨x, rfl, pick_small hx (by omega)⟩, keepL (by decide) (fun e => match (h6 e) with | ⟨g, e1, e2, e3, e4⟩ => ⟨g, e1, e2.stay (K2.stay e2.1 e3), e3, e4⟩), keepL (by decide) h7, keepL (by decide) h8, keepL (by decide) (fun e => match (h9 e) with | ⟨g, x, e1, e2, e5, e6, e3, e4⟩ => ⟨g, x, e1, e2.stay (K2.stay e2.1 e3), e5, e6, e3, e4⟩), keepL (by decide) h10, keepL (by decide) (fun e => match (h11 e) with | ⟨g, e1, e2, e3, e4⟩ => ⟨g, e1, e2.stay (K2.stay e2.1 e3), e3, e4⟩), keepL (by decide) h12, keepL (by decide) h13, keepL (by decide) (fun e => match (h14 e) with | ⟨g, x, e1, e2, e5, e6, e3, e4⟩ => ⟨g, x, e1, e2.stay (K2.stay e2.1 e3), e5, e6, e3, e4⟩), keepL (by decide) h15, keepL (by decide) h16, keepL (by decide) h17, keepL (by decide) h18, keepL (by decide) (fun e => match (h19 e) with | ⟨z0, z1, z2, z3, z4, e1, e2⟩ => ⟨z0, z1, z2, z3, z4, e1, e2.stay (K2.stay (by omega) (by omega))⟩)⟩
      · intro L a w' K' hd hL hI hK
        obtain ⟨u14, u15, u16, u17, u18, u19, u20, u21, u22, u23, u24, u25, u26, u27, u28, u29, u30, u31, u32, rfl, ⟨hR, hKp, hW, hz⟩, h0, h1, h2, h3, h4, h5, h6, h7, h8, h9, h10, h11, h12, h13, h14, h15, h16, h17, h18, h19⟩ := hI
        go_simp
        exact hK.out _ _ ⟨_, _, _, _, _, _, _, _, _, _, _, _, _, _, _, _, _, _, _, rfl, ⟨by rw [cntL_out (by decide)]; exact hR.alloc _, hKp.alloc _, hW.kept ((Kept.refl r w').alloc _) (by omega), by simp; omega⟩, keepL (by decide) h0, keepL (by decide) h1, keepL (by decide) h2, keepL (by decide) h3, keepL (by decide) h4, keepL (by decide) h5, fun _ => ⟨w'.heap.size, rfl, Lits.new [0, 1, 5, 20, 95, 99] w' 3, by omega, by omega⟩, keepL (by decide) h7, keepL (by decide) h8, keepL (by decide) (fun e => match (h9 e) with | ⟨g, x, e1, e2, e5, e6, e3, e4⟩ => ⟨g, x, e1, e2.stay (((Kept.refl r w').alloc _).stay e2.1 e3), e5, e6, e3, e4⟩), keepL (by decide) h10, keepL (by decide) (fun e => match (h11 e) with | ⟨g, e1, e2, e3, e4⟩ => ⟨g, e1, e2.stay (((Kept.refl r w').alloc _).stay e2.1 e3), e3, e4⟩), keepL (by decide) h12, keepL (by decide) h13, keepL (by decide) (fun e => match (h14 e) with | ⟨g, x, e1, e2, e5, e6, e3, e4⟩ => ⟨g, x, e1, e2.stay (((Kept.refl r w').alloc _).stay e2.1 e3), e5, e6, e3, e4⟩), keepL (by decide) h15, keepL (by decide) h16, keepL (by decide) h17, keepL (by decide) h18, keepL (by decide) (fun e => match (h19 e) with | ⟨z0, z1, z2, z3, z4, e1, e2⟩ => ⟨z0, z1, z2, z3, z4, e1, e2.stay (((Kept.refl r w').alloc _).stay (by omega) (by omega))⟩)⟩
      · intro L a w' K' hd hL hI hK
        obtain ⟨u14, u15, u16, u17, u18, u19, u20, u21, u22, u23, u24, u25, u26, u27, u28, u29, u30, u31, u32, rfl, ⟨hR, hKp, hW, hz⟩, h0, h1, h2, h3, h4, h5, h6, h7, h8, h9, h10, h11, h12, h13, h14, h15, h16, h17, h18, h19⟩ := hI
        go_simp
        exact hK.out _ _ ⟨_, _, _, _, _, _, _, _, _, _, _, _, _, _, _, _, _, _, _, rfl, ⟨by rw [cntL_out (by decide)]; exact hR, hKp, hW, hz⟩, keepL (by decide) h0, keepL (by decide) h1, keepL (by decide) h2, keepL (by decide) h3, keepL (by decide) h4, keepL (by decide) h5, keepL (by decide) h6, fun _ => rfl, keepL (by decide) h8, keepL (by decide) h9, keepL (by decide) h10, keepL (by decide) h11, keepL (by decide) h12, keepL (by decide) h13, keepL (by decide) h14, keepL (by decide) h15, keepL (by decide) h16, keepL (by decide) h17, keepL (by decide) h18, keepL (by decide) h19⟩
      · intro L a w' K' hd hL hI hK
        obtain ⟨u14, u15, u16, u17, u18, u19, u20, u21, u22, u23, u24, u25, u26, u27, u28, u29, u30, u31, u32, rfl, ⟨hR, hKp, hW, hz⟩, h0, h1, h2, h3, h4, h5, h6, h7, h8, h9, h10, h11, h12, h13, h14, h15, h16, h17, h18, h19⟩ := hI
        obtain rfl := h7 (hd ⟨7, .data⟩ (by simp) rfl)
        go_simp
        go_wp2_with (go_at_call 20; refine (pick_B hR (by have := (cntL_bd L [1, 5, 8, 13, 17]).2; simp at this; omega)).mono ?_; rintro e w2 ⟨x, rfl, hx, hR2, K2⟩)
        exact hK.out _ _ ⟨_, _, _, _, _, _, _, _, _, _, _, _, _, _, _, _, _, _, _, rfl, ⟨by rw [cntL_in hL (by decide) (by decide), ← Int.add_assoc]; exact hR2, hKp.trans K2, hW.kept K2 (by omega), Nat.lt_of_lt_of_le hz K2.size⟩, keepL (by decide) h0, keepL (by decide) h1, keepL (by decide) h2, keepL (by decide) h3, keepL (by decide) h4, keepL (by decide) h5, keepL (by decide) (fun e => match (h6 e) with | ⟨g, e1, e2, e3, e4⟩ => ⟨g, e1, e2.stay (K2.stay e2.1 e3), e3, e4⟩), keepL (by decide) (fun _ => rfl), fun _ => ⟨x, rfl, hx⟩, keepL (by decide) (fun e => match (h9 e) with | ⟨g, x, e1, e2, e5, e6, e3, e4⟩ => ⟨g, x, e1, e2.stay (K2.stay e2.1 e3), e5, e6, e3, e4⟩), keepL (by decide) h10, keepL (by decide) (fun e => match (h11 e) with | ⟨g, e1, e2, e3, e4⟩ => ⟨g, e1, e2.stay (K2.stay e2.1 e3), e3, e4⟩), keepL (by decide) h12, keepL (by decide) h13, keepL (by decide) (fun e => match (h14 e) with | ⟨g, x, e1, e2, e5, e6, e3, e4⟩ => ⟨g, x, e1, e2.stay (K2.stay e2.1 e3), e5, e6, e3, e4⟩), keepL (by decide) h15, keepL (by decide) h16, keepL (by decide) h17, keepL (by decide) h18, keepL (by decide) (fun e => match (h19 e) with | ⟨z0, z1, z2, z3, z4, e1, e2⟩ => ⟨z0, z1, z2, z3, z4, e1, e2.stay (K2.stay (by omega) (by omega))⟩)⟩
      · intro L a w' K' hd hL hI hK
        obtain ⟨u14, u15, u16, u17, u18, u19, u20, u21, u22, u23, u24, u25, u26, u27, u28, u29, u30, u31, u32, rfl, ⟨hR, hKp, hW, hz⟩, h0, h1, h2, h3, h4, h5, h6, h7, h8, h9, h10, h11, h12, h13, h14, h15, h16, h17, h18, h19⟩ := hI
        obtain ⟨g, rfl, hg, hn, hn2⟩ := h6 (hd ⟨6, .data⟩ (by simp) rfl)
        obtain ⟨x, rfl, hx⟩ := h8 (hd ⟨8, .data⟩ (by simp) rfl)
        have hx0 := hx.1
        have hx1 := hx.2.1 (by decide)
        go_simp
        exact hK.out _ _ ⟨_, _, _, _, _, _, _, _, _, _, _, _, _, _, _, _, _, _, _, rfl, ⟨by rw [cntL_out (by decide)]; exact hR, hKp, hW, hz⟩, keepL (by decide) h0, keepL (by decide) h1, keepL (by decide) h2, keepL (by decide) h3, keepL (by decide) h4, keepL (by decide) h5, keepL (by decide) (fun _ => ⟨g, rfl, hg, hn, hn2⟩), keepL (by decide) h7, keepL (by decide) (fun _ => ⟨x, rfl, hx⟩), fun _ => ⟨g, x, rfl, hg, hx0, hx1, hn, hn2⟩, keepL (by decide) h10, keepL (by decide) h11, keepL (by decide) h12, keepL (by decide) h13, keepL (by decide) h14, keepL (by decide) h15, keepL (by decide) h16, keepL (by decide) h17, keepL (by decide) h18, keepL (by decide) h19⟩
      · intro L a w' K' hd hL hI hK
        obtain ⟨u14, u15, u16, u17, u18, u19, u20, u21, u22, u23, u24, u25, u26, u27, u28, u29, u30, u31, u32, rfl, ⟨hR, hKp, hW, hz⟩, h0, h1, h2, h3, h4, h5, h6, h7, h8, h9, h10, h11, h12, h13, h14, h15, h16, h17, h18, h19⟩ := hI
        obtain ⟨g, x, rfl, hg, hx0, hx1, hn, hn2⟩ := h9 (hd ⟨9, .data⟩ (by simp) rfl)
        obtain ⟨z, hcz, hsz⟩ : ∃ z, w'.cell? ⟨g, x.toNat, none⟩ = some (.int .i64 z) ∧ Small z := ⟨_, hg.2 x hx0 hx1, lits_small _ (by decide)⟩
        go_simp
        exact hK.out _ _ ⟨_, _, _, _, _, _, _, _, _, _, _, _, _, _, _, _, _, _, _, rfl, ⟨by rw [cntL_out (by decide)]; exact hR, hKp, hW, hz⟩, keepL (by decide) h0, keepL (by decide) h1, keepL (by decide) h2, keepL (by decide) h3, keepL (by decide) h4, keepL (by decide) h5, keepL (by decide) h6, keepL (by decide) h7, keepL (by decide) h8, keepL (by decide) (fun _ => ⟨g, x, rfl, hg, hx0, hx1, hn, hn2⟩), fun _ => ⟨z, rfl, hsz⟩, keepL (by decide) h11, keepL (by decide) h12, keepL (by decide) h13, keepL (by decide) h14, keepL (by decide) h15, keepL (by decide) h16, keepL (by decide) h17, keepL (by decide) h18, keepL (by decide) h19⟩
      · intro L a w' K' hd hL hI hK
        obtain ⟨u14, u15, u16, u17, u18, u19, u20, u21, u22, u23, u24, u25, u26, u27, u28, u29, u30, u31, u32, rfl, ⟨hR, hKp, hW, hz⟩, h0, h1, h2, h3, h4, h5, h6, h7, h8, h9, h10, h11, h12, h13, h14, h15, h16, h17, h18, h19⟩ := hI
        go_simp
        exact hK.out _ _ ⟨_, _, _, _, _, _, _, _, _, _, _, _, _, _, _, _, _, _, _, rfl, ⟨by rw [cntL_out (by decide)]; exact hR.alloc _, hKp.alloc _, hW.kept ((Kept.refl r w').alloc _) (by omega), by simp; omega⟩, keepL (by decide) h0, keepL (by decide) h1, keepL (by decide) h2, keepL (by decide) h3, keepL (by decide) h4, keepL (by decide) h5, keepL (by decide) (fun e => match (h6 e) with | ⟨g, e1, e2, e3, e4⟩ => ⟨g, e1, e2.stay (((Kept.refl r w').alloc _).stay e2.1 e3), e3, e4⟩), keepL (by decide) h7, keepL (by decide) h8, keepL (by decide) (fun e => match (h9 e) with | ⟨g, x, e1, e2, e5, e6, e3, e4⟩ => ⟨g, x, e1, e2.stay (((Kept.refl r w').alloc _).stay e2.1 e3), e5, e6, e3, e4⟩), keepL (by decide) h10, fun _ => ⟨w'.heap.size, rfl, Lits.new [0, 0, 1, 7, 900] w' 3, by omega, by omega⟩, keepL (by decide) h12, keepL (by decide) h13, keepL (by decide) (fun e => match (h14 e) with | ⟨g, x, e1, e2, e5, e6, e3, e4⟩ => ⟨g, x, e1, e2.stay (((Kept.refl r w').alloc _).stay e2.1 e3), e5, e6, e3, e4⟩), keepL (by decide) h15, keepL (by decide) h16, keepL (by decide) h17, keepL (by decide) h18, keepL (by decide) (fun e => match (h19 e) with | ⟨z0, z1, z2, z3, z4, e1, e2⟩ => ⟨z0, z1, z2, z3, z4, e1, e2.stay (((Kept.refl r w').alloc _).stay (by omega) (by omega))⟩)⟩
      · intro L a w' K' hd hL hI hK
        obtain ⟨u14, u15, u16, u17, u18, u19, u20, u21, u22, u23, u24, u25, u26, u27, u28, u29, u30, u31, u32, rfl, ⟨hR, hKp, hW, hz⟩, h0, h1, h2, h3, h4, h5, h6, h7, h8, h9, h10, h11, h12, h13, h14, h15, h16, h17, h18, h19⟩ := hI
        go_simp
        exact hK.out _ _ ⟨_, _, _, _, _, _, _, _, _, _, _, _, _, _, _, _, _, _, _, rfl, ⟨by rw [cntL_out (by decide)]; exact hR, hKp, hW, hz⟩, keepL (by decide) h0, keepL (by decide) h1, keepL (by decide) h2, keepL (by decide) h3, keepL (by decide) h4, keepL (by decide) h5, keepL (by decide) h6, keepL (by decide) h7, keepL (by decide) h8, keepL (by decide) h9, keepL (by decide) h10, keepL (by decide) h11, fun _ => rfl, keepL (by decide) h13, keepL (by decide) h14, keepL (by decide) h15, keepL (by decide) h16, keepL (by decide) h17, keepL (by decide) h18, keepL (by decide) h19⟩
      · intro L a w' K' hd hL hI hK
        obtain ⟨u14, u15, u16, u17, u18, u19, u20, u21, u22, u23, u24, u25, u26, u27, u28, u29, u30, u31, u32, rfl, ⟨hR, hKp, hW, hz⟩, h0, h1, h2, h3, h4, h5, h6, h7, h8, h9, h10, h11, h12, h13, h14, h15, h16, h17, h18, h19⟩ := hI
        obtain rfl := h12 (hd ⟨12, .data⟩ (by simp) rfl)
        go_simp
        go_wp2_with (go_at_call 20; refine (pick_B hR (by have := (cntL_bd L [1, 5, 8, 13, 17]).2; simp at this; omega)).mono ?_; rintro e w2 ⟨x, rfl, hx, hR2, K2⟩)
        exact hK.out _ _ ⟨_, _, _, _, _, _, _, _, _, _, _, _, _, _, _, _, _, _, _, rfl, ⟨by rw [cntL_in hL (by decide) (by decide), ← Int.add_assoc]; exact hR2, hKp.trans K2, hW.kept K2 (by omega), Nat.lt_of_lt_of_le hz K2.size⟩, keepL (by decide) h0, keepL (by decide) h1, keepL (by decide) h2, keepL (by decide) h3, keepL (by decide) h4, keepL (by decide) h5, keepL (by decide) (fun e => match (h6 e) with | ⟨g, e1, e2, e3, e4⟩ => ⟨g, e1, e2.stay (K2.stay e2.1 e3), e3, e4⟩), keepL (by decide) h7, keepL (by decide) h8, keepL (by decide) (fun e => match (h9 e) with | ⟨g, x, e1, e2, e5, e6, e3, e4⟩ => ⟨g, x, e1, e2.stay (K2.stay e2.1 e3), e5, e6, e3, e4⟩), keepL (by decide) h10, keepL (by decide) (fun e => match (h11 e) with | ⟨g, e1, e2, e3, e4⟩ => ⟨g, e1, e2.stay (K2.stay e2.1 e3), e3, e4⟩), keepL (by decide) (fun _ => rfl), fun _ => ⟨x, rfl, hx⟩, keepL (by decide) (fun e => match (h14 e) with | ⟨g, x, e1, e2, e5, e6, e3, e4⟩ => ⟨g, x, e1, e2.stay (K2.stay e2.1 e3), e5, e6, e3, e4⟩), keepL (by decide) h15, keepL (by decide) h16, keepL (by decide) h17, keepL (by decide) h18, keepL (by decide) (fun e => match (h19 e) with | ⟨z0, z1, z2, z3, z4, e1, e2⟩ => ⟨z0, z1, z2, z3, z4, e1, e2.stay (K2.stay (by omega) (by omega))⟩)⟩
      · intro L a w' K' hd hL hI hK
        obtain ⟨u14, u15, u16, u17, u18, u19, u20, u21, u22, u23, u24, u25, u26, u27, u28, u29, u30, u31, u32, rfl, ⟨hR, hKp, hW, hz⟩, h0, h1, h2, h3, h4, h5, h6, h7, h8, h9, h10, h11, h12, h13, h14, h15, h16, h17, h18, h19⟩ := hI
        obtain ⟨g, rfl, hg, hn, hn2⟩ := h11 (hd ⟨11, .data⟩ (by simp) rfl)
        obtain ⟨x, rfl, hx⟩ := h13 (hd ⟨13, .data⟩ (by simp) rfl)
        have hx0 := hx.1
        have hx1 := hx.2.1 (by decide)
        go_simp
        exact hK.out _ _ ⟨_, _, _, _, _, _, _, _, _, _, _, _, _, _, _, _, _, _, _, rfl, ⟨by rw [cntL_out (by decide)]; exact hR, hKp, hW, hz⟩, keepL (by decide) h0, keepL (by decide) h1, keepL (by decide) h2, keepL (by decide) h3, keepL (by decide) h4, keepL (by decide) h5, keepL (by decide) h6, keepL (by decide) h7, keepL (by decide) h8, keepL (by decide) h9, keepL (by decide) h10, keepL (by decide) (fun _ => ⟨g, rfl, hg, hn, hn2⟩), keepL (by decide) h12, keepL (by decide) (fun _ => ⟨x, rfl, hx⟩), fun _ => ⟨g, x, rfl, hg, hx0, hx1, hn, hn2⟩, keepL (by decide) h15, keepL (by decide) h16, keepL (by decide) h17, keepL (by decide) h18, keepL (by decide) h19⟩
      · intro L a w' K' hd hL hI hK
        obtain ⟨u14, u15, u16, u17, u18, u19, u20, u21, u22, u23, u24, u25, u26, u27, u28, u29, u30, u31, u32, rfl, ⟨hR, hKp, hW, hz⟩, h0, h1, h2, h3, h4, h5, h6, h7, h8, h9, h10, h11, h12, h13, h14, h15, h16, h17, h18, h19⟩ := hI
        obtain ⟨g, x, rfl, hg, hx0, hx1, hn, hn2⟩ := h14 (hd ⟨14, .data⟩ (by simp) rfl)
        obtain ⟨z, hcz, hsz⟩ : ∃ z, w'.cell? ⟨g, x.toNat, none⟩ = some (.int .i64 z) ∧ Small z := ⟨_, hg.2 x hx0 hx1, lits_small _ (by decide)⟩
        go_simp
        exact hK.out _ _ ⟨_, _, _, _, _, _, _, _, _, _, _, _, _, _, _, _, _, _, _, rfl, ⟨by rw [cntL_out (by decide)]; exact hR, hKp, hW, hz⟩, keepL (by decide) h0, keepL (by decide) h1, keepL (by decide) h2, keepL (by decide) h3, keepL (by decide) h4, keepL (by decide) h5, keepL (by decide) h6, keepL (by decide) h7, keepL (by decide) h8, keepL (by decide) h9, keepL (by decide) h10, keepL (by decide) h11, keepL (by decide) h12, keepL (by decide) h13, keepL (by decide) (fun _ => ⟨g, x, rfl, hg, hx0, hx1, hn, hn2⟩), fun _ => ⟨z, rfl, hsz⟩, keepL (by decide) h16, keepL (by decide) h17, keepL (by decide) h18, keepL (by decide) h19⟩
      · intro L a w' K' hd hL hI hK
        obtain ⟨u14, u15, u16, u17, u18, u19, u20, u21, u22, u23, u24, u25, u26, u27, u28, u29, u30, u31, u32, rfl, ⟨hR, hKp, hW, hz⟩, h0, h1, h2, h3, h4, h5, h6, h7, h8, h9, h10, h11, h12, h13, h14, h15, h16, h17, h18, h19⟩ := hI
        go_simp
        exact hK.out _ _ ⟨_, _, _, _, _, _, _, _, _, _, _, _, _, _, _, _, _, _, _, rfl, ⟨by rw [cntL_out (by decide)]; exact hR, hKp, hW, hz⟩, keepL (by decide) h0, keepL (by decide) h1, keepL (by decide) h2, keepL (by decide) h3, keepL (by decide) h4, keepL (by decide) h5, keepL (by decide) h6, keepL (by decide) h7, keepL (by decide) h8, keepL (by decide) h9, keepL (by decide) h10, keepL (by decide) h11, keepL (by decide) h12, keepL (by decide) h13, keepL (by decide) h14, keepL (by decide) h15, fun _ => rfl, keepL (by decide) h17, keepL (by decide) h18, keepL (by decide) h19⟩
      · intro L a w' K' hd hL hI hK
        obtain ⟨u14, u15, u16, u17, u18, u19, u20, u21, u22, u23, u24, u25, u26, u27, u28, u29, u30, u31, u32, rfl, ⟨hR, hKp, hW, hz⟩, h0, h1, h2, h3, h4, h5, h6, h7, h8, h9, h10, h11, h12, h13, h14, h15, h16, h17, h18, h19⟩ := hI
        obtain rfl := h16 (hd ⟨16, .data⟩ (by simp) rfl)
        go_simp
        go_wp2_with (go_at_call 20; refine (pick_B hR (by have := (cntL_bd L [1, 5, 8, 13, 17]).2; simp at this; omega)).mono ?_; rintro e w2 ⟨x, rfl, hx, hR2, K2⟩)
        exact hK.out _ _ ⟨_, _, _, _, _, _, _, _, _, _, _, _, _, _, _, _, _, _, _, rfl, ⟨by rw [cntL_in hL (by decide) (by decide), ← Int.add_assoc]; exact hR2, hKp.trans K2, hW.kept K2 (by omega), Nat.lt_of_lt_of_le hz K2.size⟩, keepL (by decide) h0, keepL (by decide) h1, keepL (by decide) h2, keepL (by decide) h3, keepL (by decide) h4, keepL (by decide) h5, keepL (by decide) (fun e => match (h6 e) with | ⟨g, e1, e2, e3, e4⟩ => ⟨g, e1, e2.stay (K2.stay e2.1 e3), e3, e4⟩), keepL (by decide) h7, keepL (by decide) h8, keepL (by decide) (fun e => match (h9 e) with | ⟨g, x, e1, e2, e5, e6, e3, e4⟩ => ⟨g, x, e1, e2.stay (K2.stay e2.1 e3), e5, e6, e3, e4⟩), keepL (by decide) h10, keepL (by decide) (fun e => match (h11 e) with | ⟨g, e1, e2, e3, e4⟩ => ⟨g, e1, e2.stay (K2.stay e2.1 e3), e3, e4⟩), keepL (by decide) h12, keepL (by decide) h13, keepL (by decide) (fun e => match (h14 e) with | ⟨g, x, e1, e2, e5, e6, e3, e4⟩ => ⟨g, x, e1, e2.stay (K2.stay e2.1 e3), e5, e6, e3, e4⟩), keepL (by decide) h15, keepL (by decide) (fun _ => rfl), fun _ => ⟨x, rfl, pick_small hx (by decide)⟩, keepL (by decide) h18, keepL (by decide) (fun e => match (h19 e) with | ⟨z0, z1, z2, z3, z4, e1, e2⟩ => ⟨z0, z1, z2, z3, z4, e1, e2.stay (K2.stay (by omega) (by omega))⟩)⟩
      · intro L a w' K' hd hL hI hK
        obtain ⟨u14, u15, u16, u17, u18, u19, u20, u21, u22, u23, u24, u25, u26, u27, u28, u29, u30, u31, u32, rfl, ⟨hR, hKp, hW, hz⟩, h0, h1, h2, h3, h4, h5, h6, h7, h8, h9, h10, h11, h12, h13, h14, h15, h16, h17, h18, h19⟩ := hI
        obtain ⟨z0, rfl, s0⟩ := h2 (hd ⟨2, .data⟩ (by simp) rfl)
        obtain ⟨z1, rfl, s1⟩ := h5 (hd ⟨5, .data⟩ (by simp) rfl)
        obtain ⟨z2, rfl, s2⟩ := h10 (hd ⟨10, .data⟩ (by simp) rfl)
        obtain ⟨z3, rfl, s3⟩ := h15 (hd ⟨15, .data⟩ (by simp) rfl)
        obtain ⟨z4, rfl, s4⟩ := h17 (hd ⟨17, .data⟩ (by simp) rfl)
        go_simp
        exact hK.out _ _ ⟨_, _, _, _, _, _, _, _, _, _, _, _, _, _, _, _, _, _, _, rfl, ⟨by rw [cntL_out (by decide)]; exact hR, hKp, hW, hz⟩, keepL (by decide) h0, keepL (by decide) h1, keepL (by decide) (fun _ => ⟨z0, rfl, s0⟩), keepL (by decide) h3, keepL (by decide) h4, keepL (by decide) (fun _ => ⟨z1, rfl, s1⟩), keepL (by decide) h6, keepL (by decide) h7, keepL (by decide) h8, keepL (by decide) h9, keepL (by decide) (fun _ => ⟨z2, rfl, s2⟩), keepL (by decide) h11, keepL (by decide) h12, keepL (by decide) h13, keepL (by decide) h14, keepL (by decide) (fun _ => ⟨z3, rfl, s3⟩), keepL (by decide) h16, keepL (by decide) (fun _ => ⟨z4, rfl, s4⟩), fun _ => ⟨z0, z1, z2, z3, z4, rfl, s0, s1, s2, s3, s4⟩, keepL (by decide) h19⟩
      · intro L a w' K' hd hL hI hK
        obtain ⟨u14, u15, u16, u17, u18, u19, u20, u21, u22, u23, u24, u25, u26, u27, u28, u29, u30, u31, u32, rfl, ⟨hR, hKp, hW, hz⟩, h0, h1, h2, h3, h4, h5, h6, h7, h8, h9, h10, h11, h12, h13, h14, h15, h16, h17, h18, h19⟩ := hI
        obtain ⟨z0, z1, z2, z3, z4, rfl, hsm⟩ := h18 (hd ⟨18, .data⟩ (by simp) rfl)
        obtain ⟨v0, q0, f0⟩ := hW 0 (by decide)
        obtain ⟨v1, q1, f1⟩ := hW 1 (by decide)
        obtain ⟨v2, q2, f2⟩ := hW 2 (by decide)
        obtain ⟨v3, q3, f3⟩ := hW 3 (by decide)
        obtain ⟨v4, q4, f4⟩ := hW 4 (by decide)
        go_simp
        exact hK.out _ _ ⟨_, _, _, _, _, _, _, _, _, _, _, _, _, _, _, _, _, _, _, rfl, ⟨by rw [cntL_out (by decide)]; exact hR.p5 (by omega) _ _ _ _ _, hKp.p5 (by omega) _ _ _ _ _, hW.p5 _ _ _ _ _, by simpa [World.setCell] using hz⟩, keepL (by decide) h0, keepL (by decide) h1, keepL (by decide) h2, keepL (by decide) h3, keepL (by decide) h4, keepL (by decide) h5, keepL (by decide) (fun e => match (h6 e) with | ⟨g, e1, e2, e3, e4⟩ => ⟨g, e1, e2.stay (stay5 e4 _ _ _ _ _), e3, e4⟩), keepL (by decide) h7, keepL (by decide) h8, keepL (by decide) (fun e => match (h9 e) with | ⟨g, x, e1, e2, e5, e6, e3, e4⟩ => ⟨g, x, e1, e2.stay (stay5 e4 _ _ _ _ _), e5, e6, e3, e4⟩), keepL (by decide) h10, keepL (by decide) (fun e => match (h11 e) with | ⟨g, e1, e2, e3, e4⟩ => ⟨g, e1, e2.stay (stay5 e4 _ _ _ _ _), e3, e4⟩), keepL (by decide) h12, keepL (by decide) h13, keepL (by decide) (fun e => match (h14 e) with | ⟨g, x, e1, e2, e5, e6, e3, e4⟩ => ⟨g, x, e1, e2.stay (stay5 e4 _ _ _ _ _), e5, e6, e3, e4⟩), keepL (by decide) h15, keepL (by decide) h16, keepL (by decide) h17, keepL (by decide) (fun _ => ⟨z0, z1, z2, z3, z4, rfl, hsm⟩), fun _ => ⟨z0, z1, z2, z3, z4, hsm, five_set hW _ _ _ _ _⟩⟩
    case hdone =>
      intro L a w' hL hI
      obtain ⟨u14, u15, u16, u17, u18, u19, u20, u21, u22, u23, u24, u25, u26, u27, u28, u29, u30, u31, u32, rfl, ⟨hR, hKp, hW, hz⟩, h0, h1, h2, h3, h4, h5, h6, h7, h8, h9, h10, h11, h12, h13, h14, h15, h16, h17, h18, h19⟩ := hI
      obtain ⟨z0, z1, z2, z3, z4, hsm, c0, c1, c2, c3, c4⟩ := h19 (hL 19 (by decide))
      have hcb := (cntL_bd L [1, 5, 8, 13, 17]).2
      simp at hcb
      clear h0 h1 h2 h3 h4 h5 h6 h7 h8 h9 h10 h11 h12 h13 h14 h15 h16 h17 h18 h19 hL hW
      go_wp2
      refine bodyPost_ret (v := .agg #[.int .i64 z0, .int .i64 z1, .int .i64 z2, .int .i64 z3, .int .i64 z4]) (by simp [results, Try.results25, go_sem, c0, c1, c2, c3, c4]) rfl ⟨z0, z1, z2, z3, z4, rfl, hsm, hR.more (by omega), hKp⟩
end Go.Proofs.Ytkobiniogigloaa
