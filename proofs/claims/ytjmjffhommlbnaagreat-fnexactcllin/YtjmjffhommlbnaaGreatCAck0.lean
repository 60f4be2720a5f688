/- Parcels that are numbered one behind the other, and what is left of them from a number on; no Go text in sight; conditions: none beyond those typed. -/
import Derived.Test.YtjmjffhommlbnaaGreatCCopy
namespace Go.Proofs.YtjmjffhommlbnaaGreat
open Go.RowKit Go.Deep
set_option linter.unusedVariables false

theorem five5_len (n : Nat) (Z : Nat → Nat → Int) : ((List.range n).flatMap (five5 Z)).length = n * 5 := by
  induction n with
  | zero => simp
  | succ n ih => rw [List.range_succ, List.flatMap_append, List.length_append, ih]; simp [five5, Nat.succ_mul]
theorem five5_cells {w : World} {b o n : Nat} {Z : Nat → Nat → Int} (hr : ∀ k j, k < n → j < 5 → w.cell? ⟨b, o + k * 5 + j, none⟩ = some (.int .i64 (Z k j))) : ∀ j u, ((List.range n).flatMap (five5 Z))[j]? = some u → w.cell? ((⟨b, o, none⟩ : Addr).add j) = some u := by
  intro j u hj
  have hlt : j < n * 5 := by
    have := (List.getElem?_eq_some_iff.1 hj).1
    rw [five5_len] at this; exact this
  rw [flat_get (five5 Z) (fun _ => rfl) (by decide) n j hlt] at hj
  have hq : j / 5 < n := Nat.div_lt_of_lt_mul (by omega)
  have hr' := hr (j / 5) (j % 5) hq (Nat.mod_lt _ (by decide))
  rw [add_none, show o + j = o + j / 5 * 5 + j % 5 by omega, hr', ← hj]
  have : j % 5 < 5 := Nat.mod_lt _ (by decide)
  generalize j % 5 = q at this ⊢
  match q, this with
  | 0, _ => rfl
  | 1, _ => rfl
  | 2, _ => rfl
  | 3, _ => rfl
  | 4, _ => rfl
theorem five5_one (n : Nat) (Z : Nat → Nat → Int) : ∀ u ∈ (List.range n).flatMap (five5 Z), u.oneCell' = true := by
  intro u hu
  obtain ⟨k, _, hk⟩ := List.mem_flatMap.1 hu
  simp [five5] at hk
  rcases hk with rfl | rfl | rfl | rfl | rfl <;> rfl
theorem eight8_len (n : Nat) (Z : Nat → Nat → Int) : ((List.range n).flatMap (P8.eight Z)).length = n * 8 := by
  induction n with
  | zero => simp
  | succ n ih => rw [List.range_succ, List.flatMap_append, List.length_append, ih]; simp [P8.eight, Nat.succ_mul]
theorem eight8_cells {w : World} {b o n : Nat} {Z : Nat → Nat → Int} (hr : ∀ k j, k < n → j < 8 → w.cell? ⟨b, o + k * 8 + j, none⟩ = some (.int .i64 (Z k j))) : ∀ j u, ((List.range n).flatMap (P8.eight Z))[j]? = some u → w.cell? ((⟨b, o, none⟩ : Addr).add j) = some u := by
  intro j u hj
  have hlt : j < n * 8 := by
    have := (List.getElem?_eq_some_iff.1 hj).1
    rw [eight8_len] at this; exact this
  rw [flat_get (P8.eight Z) (fun _ => rfl) (by decide) n j hlt] at hj
  have hq : j / 8 < n := Nat.div_lt_of_lt_mul (by omega)
  have hr' := hr (j / 8) (j % 8) hq (Nat.mod_lt _ (by decide))
  rw [add_none, show o + j = o + j / 8 * 8 + j % 8 by omega, hr', ← hj]
  have : j % 8 < 8 := Nat.mod_lt _ (by decide)
  generalize j % 8 = q at this ⊢
  match q, this with
  | 0, _ => rfl
  | 1, _ => rfl
  | 2, _ => rfl
  | 3, _ => rfl
  | 4, _ => rfl
  | 5, _ => rfl
  | 6, _ => rfl
  | 7, _ => rfl
theorem eight8_one (n : Nat) (Z : Nat → Nat → Int) : ∀ u ∈ (List.range n).flatMap (P8.eight Z), u.oneCell' = true := by
  intro u hu
  obtain ⟨k, _, hk⟩ := List.mem_flatMap.1 hu
  simp [P8.eight] at hk
  rcases hk with rfl | rfl | rfl | rfl | rfl | rfl | rfl | rfl <;> rfl
theorem one11_len (n : Nat) (X : Nat → Int) : ((List.range n).flatMap (one1 X)).length = n * 1 := by
  induction n with
  | zero => simp
  | succ n ih => rw [List.range_succ, List.flatMap_append, List.length_append, ih]; simp [one1, Nat.succ_mul]
theorem one11_cells {w : World} {b o n : Nat} {X : Nat → Int} (hr : ∀ k, k < n → w.cell? ⟨b, o + k, none⟩ = some (.int .i64 (X k))) : ∀ j u, ((List.range n).flatMap (one1 X))[j]? = some u → w.cell? ((⟨b, o, none⟩ : Addr).add j) = some u := by
  intro j u hj
  have hlt : j < n * 1 := by
    have := (List.getElem?_eq_some_iff.1 hj).1
    rw [one11_len] at this; exact this
  rw [flat_get (m := 1) (one1 X) (fun _ => rfl) (by decide) n j hlt, Nat.div_one, Nat.mod_one] at hj
  rw [add_none, hr j (by omega), ← hj]
  rfl
theorem one11_one (n : Nat) (X : Nat → Int) : ∀ u ∈ (List.range n).flatMap (one1 X), u.oneCell' = true := by
  intro u hu
  obtain ⟨k, _, hk⟩ := List.mem_flatMap.1 hu
  simp [one1] at hk
  subst hk; rfl

/-- Lists that lie apart where there is something in them, in whatever order, are a cell of one's own. -/
theorem ownC_any {lo hi : Nat} {w : World} {V : CV} {vW vX vI : Value} {gW gO gX gI cO : Nat} {sl : Nat → Value} {xs : Nat → Nat} (rW : RW lo hi w vW V.nW V.W gW) (hO1 : lo ≤ gO) (hO2 : gO < hi) (hhi : hi ≤ w.heap.size)
    (rO : ∀ k, k < V.nO → w.cell? ⟨gO, k, none⟩ = some (sl k) ∧ RP lo hi w (sl k) (V.N k) (V.O k) (xs k)) (rX : RI lo hi w vX V.nX V.X gX) (rI : RI lo hi w vI V.nI V.I gI)
    (d1 : V.nW ≠ 0 → gW ≠ gO) (d2 : V.nW ≠ 0 → V.nX ≠ 0 → gW ≠ gX) (d3 : V.nW ≠ 0 → V.nI ≠ 0 → gW ≠ gI) (d4 : V.nX ≠ 0 → gO ≠ gX) (d5 : V.nI ≠ 0 → gO ≠ gI) (d6 : V.nX ≠ 0 → V.nI ≠ 0 → gX ≠ gI)
    (hx : ∀ k, k < V.nO → V.N k ≠ 0 → (V.nW ≠ 0 → xs k ≠ gW) ∧ xs k ≠ gO ∧ (V.nX ≠ 0 → xs k ≠ gX) ∧ (V.nI ≠ 0 → xs k ≠ gI)) (hxx : ∀ i j, i < j → j < V.nO → V.N i ≠ 0 → V.N j ≠ 0 → xs i ≠ xs j) :
    OwnC lo hi w (.agg #[.int .i64 V.c, vW, .int .i64 V.g, .slice (some ⟨gO, 0, none⟩) V.nO cO, vX, vI]) V := by
  obtain ⟨pW, rW', cW⟩ := rW.pick hi
  obtain ⟨pX, rX', cX⟩ := rX.pick (hi + 1)
  obtain ⟨pI, rI', cI⟩ := rI.pick (hi + 2)
  refine ⟨vW, _, vX, vI, pW, gO, pX, pI, sl, fun k => if V.N k = 0 then hi + 3 + k else xs k, rfl, rW', .inr ⟨cO, rfl, hO1, hO2, hhi, fun k hk => ⟨(rO k hk).1, ((rO k hk).2.pick (hi + 3 + k)).1⟩⟩, rX', rI', ?_, fun k hk => ?_, fun i j hi' hj' hne => ?_⟩
  · refine ⟨?_, ?_, ?_, ?_, ?_, ?_⟩
    · rcases cW with ⟨_, rfl⟩ | ⟨e, rfl, _⟩
      · omega
      · have := d1 e; omega
    · rcases cW with ⟨_, rfl⟩ | ⟨e, rfl, _⟩ <;> rcases cX with ⟨_, rfl⟩ | ⟨e2, rfl, _⟩ <;> first | omega | exact d2 e e2
    · rcases cW with ⟨_, rfl⟩ | ⟨e, rfl, _⟩ <;> rcases cI with ⟨_, rfl⟩ | ⟨e2, rfl, _⟩ <;> first | omega | exact d3 e e2
    · rcases cX with ⟨_, rfl⟩ | ⟨e2, rfl, _⟩ <;> first | omega | (have := d4 e2; omega)
    · rcases cI with ⟨_, rfl⟩ | ⟨e2, rfl, _⟩ <;> first | omega | (have := d5 e2; omega)
    · rcases cX with ⟨_, rfl⟩ | ⟨e, rfl, _⟩ <;> rcases cI with ⟨_, rfl⟩ | ⟨e2, rfl, _⟩ <;> first | omega | (have := d6 e e2; omega)
  · have hb := ((rO k hk).2.pick (hi + 3 + k)).2
    dsimp only
    by_cases e0 : V.N k = 0
    · rw [if_pos e0]
      refine ⟨?_, by omega, ?_, ?_⟩
      · rcases cW with ⟨_, rfl⟩ | ⟨e, rfl, _⟩ <;> omega
      · rcases cX with ⟨_, rfl⟩ | ⟨e, rfl, _⟩ <;> omega
      · rcases cI with ⟨_, rfl⟩ | ⟨e, rfl, _⟩ <;> omega
    · rw [if_neg e0]
      have h1 := hb e0
      obtain ⟨h1b, h2, h3, h4⟩ := hx k hk e0
      refine ⟨?_, by omega, ?_, ?_⟩
      · rcases cW with ⟨_, rfl⟩ | ⟨e, rfl, _⟩ <;> first | omega | exact h1b e
      · rcases cX with ⟨_, rfl⟩ | ⟨e, rfl, _⟩ <;> first | omega | (have := h3 e; omega)
      · rcases cI with ⟨_, rfl⟩ | ⟨e, rfl, _⟩ <;> first | omega | (have := h4 e; omega)
  · have b1 := ((rO i hi').2.pick (hi + 3 + i)).2
    have b2 := ((rO j hj').2.pick (hi + 3 + j)).2
    dsimp only
    by_cases e1 : V.N i = 0
    · rw [if_pos e1]
      by_cases e2 : V.N j = 0
      · rw [if_pos e2]; omega
      · rw [if_neg e2]; have := b2 e2; omega
    · rw [if_neg e1]
      have := b1 e1
      by_cases e2 : V.N j = 0
      · rw [if_pos e2]; omega
      · rw [if_neg e2]
        rcases Nat.lt_or_gt_of_ne hne with h | h
        · have := hxx i j h hj' e1 e2; omega
        · have := hxx j i h hi' e2 e1; omega

set_option maxHeartbeats 1000000 in
theorem copyW_spec (b o n cap : Nat) (Z : Nat → Nat → Int) (hn : n ≤ 1048576) (w : World) (hb : b < w.heap.size) (hr : ∀ k j, k < n → j < 5 → w.cell? ⟨b, o + k * 5 + j, none⟩ = some (.int .i64 (Z k j))) :
    Calls Tryz.prog 64 #[.slice (some ⟨b, o, none⟩) n cap] w fun e w' => (∃ v, e = .returned v ∧ w'.ownsRow w.heap.size 43 5 v n ((List.range n).flatMap (five5 Z))) ∧ Below w.heap.size w w' := by
  have kb : Below w.heap.size w (w.alloc (.cells #[] 43)) := (Below.refl _ _).alloc (Nat.le_refl _) _
  have HC : Hid (∀ j u, ((List.range n).flatMap (five5 Z))[j]? = some u → (w.alloc (.cells #[] 43)).cell? ((⟨b, o, none⟩ : Addr).add j) = some u) := five5_cells (fun k j a1 a2 => (kb.cell (p := ⟨b, _, none⟩) hb).trans (hr k j a1 a2))
  have H1 : Hid (∀ u ∈ (List.range n).flatMap (five5 Z), u.oneCell' = true) := five5_one n Z
  have HL : Hid (((List.range n).flatMap (five5 Z)).length = n * 5) := five5_len n Z
  have KB : Hid (Below w.heap.size w (w.alloc (.cells #[] 43))) := kb
  clear hr kb
  obtain ⟨i5, hi5, hzz⟩ := Option.map_eq_some_iff.1 Tryz.info43
  simp only [Prod.mk.injEq] at hzz
  obtain ⟨hz50, hz51, hz52⟩ := hzz
  go_enter Tryz.func64, Tryz.ntmps64
  go_wp2_with (at_builtin; refine wpList_append_own _ rfl _ _ 34 rfl w.heap.size 43 i5 (.agg #[.int .i64 0, .int .i64 0, .int .i64 0, .int .i64 0, .int .i64 0]) 5 40 Tryz.underlying34 hi5 hz50 hz51 hz52 rfl (by decide) _ 0 [] rfl (World.ownsRow_lit w #[] 0 (Nat.le_refl _) (by simp) (by simp)) ⟨b, o, none⟩ n cap ((List.range n).flatMap (five5 Z)) rfl HL.out HC.out H1.out (by unfold maxLen; omega) (by omega) (by simp) ?_)
  intro v' w2 hown hg hnil
  have hb2 : Below w.heap.size w w2 := KB.out.grown hg (by simp) (fun kk e => by cases e; exact Nat.le_refl _)
  have HO : Hid (w2.ownsRow w.heap.size 43 5 v' n ((List.range n).flatMap (five5 Z))) := by unfold Hid; simpa using hown
  clear hown hg hnil
  go_wp2
  go_ret
  exact ⟨⟨_, rfl, HO.out⟩, hb2⟩

theorem RP.zero {lo hi lo' hi' : Nat} {w w' : World} {v : Value} {n : Nat} {Z : Nat → Nat → Int} {g : Nat} (h : RP lo hi w v n Z g) (e : n = 0) : RP lo' hi' w' v n Z g := by
  rcases h with ⟨_, a, c, h⟩ | ⟨c, h, _⟩
  · exact .inl ⟨e, a, c, h⟩
  · exact .inl ⟨e, _, c, by rw [h, e]⟩
theorem RP.shape {lo hi : Nat} {w : World} {v : Value} {n : Nat} {Z : Nat → Nat → Int} {g : Nat} (h : RP lo hi w v n Z g) : ∃ a l c, v = .slice a l c := by
  rcases h with ⟨_, a, c, h⟩ | ⟨c, h, _⟩
  · exact ⟨_, _, _, h⟩
  · exact ⟨_, _, _, h⟩
/-- A block of lists is no block of parcels. -/
theorem own_ne {w : World} {base k : Nat} {s : Value} {sl : Nat → Value} (h : w.ownsRow base 81 1 s k ((List.range k).map sl)) (hk : 0 < k) (hs : ∃ a l c, sl 0 = .slice a l c) {lo hi : Nat} {v : Value} {n : Nat} {Z : Nat → Nat → Int} {g : Nat} (r : RP lo hi w v n Z g) (hn : n ≠ 0) : s.ownBlock ≠ some g := by
  intro e
  obtain ⟨a, l, c, hsl⟩ := hs
  have h0 := h.cells e 0 (sl 0) (by rw [List.getElem?_map, List.getElem?_range hk]; rfl)
  rcases r with ⟨r, _⟩ | ⟨_, _, _, _, _, r⟩
  · exact absurd r hn
  · have h1 := r.2 0 0 (by omega) (by omega)
    rw [add_none, Nat.add_zero] at h0
    rw [show 0 * 8 + 0 = 0 from rfl, h0, hsl] at h1
    cases h1
theorem map_ext_if {α : Type} (k : Nat) (sl : Nat → α) (x : α) : (List.range (k + 1)).map (fun j => if j = k then x else sl j) = (List.range k).map sl ++ [x] := by
  rw [List.range_succ, List.map_append, List.map_cons, List.map_nil, if_pos rfl]
  congr 1
  apply List.map_congr_left
  intro j hj
  rw [if_neg (by have := List.mem_range.1 hj; omega)]

set_option maxRecDepth 20000 in
set_option maxRecDepth 20000 in
set_option maxHeartbeats 4000000 in
theorem copyC_spec (v : Value) (V : CV) (lo : Nat) (hs : V.short 1048576) (w : World) (h : CopyAt lo w v V) :
    Calls Tryz.prog 46 #[v] w fun e w' => (∃ v', e = .returned v' ∧ OwnC w.heap.size w'.heap.size w' v' V ∧ Thaw w.heap.size w'.heap.size w' v') ∧ Below w.heap.size w w' := by
  obtain ⟨bW, bO, bX, bI, q0, q1, q2, q3, q4, rfl, oW, oO, oX, oI⟩ := h
  obtain ⟨tW, tO, tN, tX, tI⟩ := hs
  have HW : Hid (Own5 w bW V.nW V.W V.nW) := oW
  have HO : Hid (OwnO w bO V.nO V.N V.O V.nO) := oO
  have HX : Hid (Own1 w bX V.nX V.X V.nX) := oX
  have HI : Hid (Own1 w bI V.nI V.I V.nI) := oI
  have HN : Hid (∀ k, k < V.nO → V.N k ≤ 1048576) := tN
  clear oW oO oX oI tN
  obtain ⟨j8, hj8, hzz⟩ := Option.map_eq_some_iff.1 P8.Tryz.info45
  simp only [Prod.mk.injEq] at hzz
  obtain ⟨hk80, hk81, hk82⟩ := hzz
  obtain ⟨j6, hj6, hzz⟩ := Option.map_eq_some_iff.1 Tryz.info81
  simp only [Prod.mk.injEq] at hzz
  obtain ⟨hk60, hk61, hk62⟩ := hzz
  obtain ⟨j3, hj3, hzz⟩ := Option.map_eq_some_iff.1 Tryz.info3
  simp only [Prod.mk.injEq] at hzz
  obtain ⟨hk30, hk31, hk32⟩ := hzz
  go_enter Tryz.func46, Tryz.ntmps46
  go_wp2_with fail
  obtain ⟨w0, e0⟩ : ∃ w0, w0 = (w.alloc (.cells #[.int .i64 V.c, .slice (some ⟨bW, 0, none⟩) V.nW V.nW, .int .i64 V.g, .slice (some ⟨bO, 0, none⟩) V.nO V.nO, .slice (some ⟨bX, 0, none⟩) V.nX V.nX, .slice (some ⟨bI, 0, none⟩) V.nI V.nI] 37)).alloc (.cells #[.int .i64 0, .slice none 0 0, .int .i64 0, .slice none 0 0, .slice none 0 0, .slice none 0 0] 37) := ⟨_, rfl⟩
  have z0 : w.heap.size + 2 ≤ w0.heap.size := by rw [e0]; simp
  have B0 : Hid (Below w.heap.size w w0) := by rw [e0]; exact ((Below.refl _ _).alloc (by simp) _).alloc (by simp) _
  have A0 : Hid (Six w0 w.heap.size [.int .i64 V.c, .slice (some ⟨bW, 0, none⟩) V.nW V.nW, .int .i64 V.g, .slice (some ⟨bO, 0, none⟩) V.nO V.nO, .slice (some ⟨bX, 0, none⟩) V.nX V.nX, .slice (some ⟨bI, 0, none⟩) V.nI V.nI]) := by rw [e0]; exact (six_new w 37 (.int .i64 V.c) (.slice (some ⟨bW, 0, none⟩) V.nW V.nW) (.int .i64 V.g) (.slice (some ⟨bO, 0, none⟩) V.nO V.nO) (.slice (some ⟨bX, 0, none⟩) V.nX V.nX) (.slice (some ⟨bI, 0, none⟩) V.nI V.nI)).below (by simp) ((Below.refl _ _).alloc (by simp) _)
  have R0 : Hid (Six w0 (w.heap.size + 1) [.int .i64 0, .slice none 0 0, .int .i64 0, .slice none 0 0, .slice none 0 0, .slice none 0 0]) := by rw [e0]; exact six_box2 w #[.int .i64 V.c, .slice (some ⟨bW, 0, none⟩) V.nW V.nW, .int .i64 V.g, .slice (some ⟨bO, 0, none⟩) V.nO V.nO, .slice (some ⟨bX, 0, none⟩) V.nX V.nX, .slice (some ⟨bI, 0, none⟩) V.nI V.nI] 37 37 _ _ _ _ _ _
  rw [← e0]
  clear e0
  refine (copyW_spec bW 0 V.nW V.nW V.W tW _ (by omega) (fun k j a1 a2 => (B0.out.cell (p := ⟨bW, _, none⟩) (by show bW < _; omega)).trans (own_row HW.out k j a1 a2))).mono ?_
  rintro e w1 ⟨⟨v1, rfl, ho⟩, hb⟩
  obtain ⟨wa, wl, wc, hvv⟩ := own_shape ho
  subst hvv
  obtain ⟨gW, RW1, _⟩ := rw_of_own ho
  have A1 : Hid (Six w1 w.heap.size [.int .i64 V.c, .slice (some ⟨bW, 0, none⟩) V.nW V.nW, .int .i64 V.g, .slice (some ⟨bO, 0, none⟩) V.nO V.nO, .slice (some ⟨bX, 0, none⟩) V.nX V.nX, .slice (some ⟨bI, 0, none⟩) V.nI V.nI]) := A0.out.below (by omega) hb
  have R1 : Hid (Six w1 (w.heap.size + 1) [.int .i64 0, .slice none 0 0, .int .i64 0, .slice none 0 0, .slice none 0 0, .slice none 0 0]) := R0.out.below (by omega) hb
  have B1 : Hid (Below w.heap.size w w1) := bthen B0.out hb
  have z1 : w0.heap.size ≤ w1.heap.size := hb.size
  have HRW : Hid (RW w0.heap.size w1.heap.size w1 (.slice wa wl wc) V.nW V.W gW) := RW1
  clear RW1 ho hb A0 R0 B0
  have a0 : w1.cell? ⟨w.heap.size, 0, none⟩ = some (.int .i64 V.c) := (A1.out 0 (by decide)).1
  have a1 : w1.cell? ⟨w.heap.size, 1, none⟩ = some (.slice (some ⟨bW, 0, none⟩) V.nW V.nW) := (A1.out 1 (by decide)).1
  have a2 : w1.cell? ⟨w.heap.size, 2, none⟩ = some (.int .i64 V.g) := (A1.out 2 (by decide)).1
  have a3 : w1.cell? ⟨w.heap.size, 3, none⟩ = some (.slice (some ⟨bO, 0, none⟩) V.nO V.nO) := (A1.out 3 (by decide)).1
  have a4 : w1.cell? ⟨w.heap.size, 4, none⟩ = some (.slice (some ⟨bX, 0, none⟩) V.nX V.nX) := (A1.out 4 (by decide)).1
  have a5 : w1.cell? ⟨w.heap.size, 5, none⟩ = some (.slice (some ⟨bI, 0, none⟩) V.nI V.nI) := (A1.out 5 (by decide)).1
  have f0 : w1.frozen? ⟨w.heap.size, 0, none⟩ = false := (A1.out 0 (by decide)).2
  have f1 : w1.frozen? ⟨w.heap.size, 1, none⟩ = false := (A1.out 1 (by decide)).2
  have f2 : w1.frozen? ⟨w.heap.size, 2, none⟩ = false := (A1.out 2 (by decide)).2
  have f3 : w1.frozen? ⟨w.heap.size, 3, none⟩ = false := (A1.out 3 (by decide)).2
  have f4 : w1.frozen? ⟨w.heap.size, 4, none⟩ = false := (A1.out 4 (by decide)).2
  have f5 : w1.frozen? ⟨w.heap.size, 5, none⟩ = false := (A1.out 5 (by decide)).2
  have l1 : w.heap.size < w1.heap.size := by omega
  go_wp2
  clear a0 a1 a2 a3 a4 a5 f0 f1 f2 f3 f4 f5 l1
  obtain ⟨w2, e2⟩ : ∃ x, x = w1.setCell ⟨w.heap.size, 1, none⟩ (.slice wa wl wc) := ⟨_, rfl⟩
  rw [← e2]
  have A2 : Six w2 w.heap.size [.int .i64 V.c, .slice wa wl wc, .int .i64 V.g, .slice (some ⟨bO, 0, none⟩) V.nO V.nO, .slice (some ⟨bX, 0, none⟩) V.nX V.nX, .slice (some ⟨bI, 0, none⟩) V.nI V.nI] := by rw [e2]; exact A1.out.set (j := 1) (v := .slice wa wl wc) rfl (by decide)
  have R2 : Six w2 (w.heap.size + 1) [.int .i64 0, .slice none 0 0, .int .i64 0, .slice none 0 0, .slice none 0 0, .slice none 0 0] := by rw [e2]; exact R1.out.far (by omega)
  have B2 : Below w.heap.size w w2 := by rw [e2]; exact B1.out.setCell (by simp) _
  have z2 : w2.heap.size = w1.heap.size := by rw [e2, set_size]
  have S2 : ∀ x, ¬ x = w.heap.size → Sm w1 w2 x := fun x hx o => by rw [e2]; exact ⟨set_out (fun e => hx e.1.symm), set_frozen⟩
  clear e2 A1 R1 B1
  obtain ⟨w3, e3⟩ : ∃ x, x = w2.alloc (.cells #[] 81) := ⟨_, rfl⟩
  rw [← e3]
  have k3 : Below w2.heap.size w2 w3 := by rw [e3]; exact (Below.refl _ _).alloc (Nat.le_refl _) _
  have z3 : w3.heap.size = w2.heap.size + 1 := by rw [e3]; simp
  have O3 : Hid (w3.ownsRow w1.heap.size 81 1 (.slice (some ⟨w1.heap.size, 0, none⟩) 0 0) 0 []) := by unfold Hid; rw [e3, ← z2]; exact World.ownsRow_lit w2 #[] 0 (Nat.le_refl _) (by simp) (by simp)
  clear e3
  have A3 : Hid (Six w3 w.heap.size [.int .i64 V.c, .slice wa wl wc, .int .i64 V.g, .slice (some ⟨bO, 0, none⟩) V.nO V.nO, .slice (some ⟨bX, 0, none⟩) V.nX V.nX, .slice (some ⟨bI, 0, none⟩) V.nI V.nI]) := A2.below (by omega) k3
  have R3 : Hid (Six w3 (w.heap.size + 1) [.int .i64 0, .slice none 0 0, .int .i64 0, .slice none 0 0, .slice none 0 0, .slice none 0 0]) := R2.below (by omega) k3
  have B3 : Hid (Below w.heap.size w w3) := bthen B2 k3
  have W3 : Hid (RW w0.heap.size w1.heap.size w3 (.slice wa wl wc) V.nW V.W gW) := HRW.out.move (Nat.le_refl _) (Nat.le_refl _) (by omega) (fun q1 q2 => (S2 gW (by omega)).trans (sm_below k3 (by omega)))
  clear A2 R2 B2 S2 HRW k3
  have z4 : w1.heap.size + 1 ≤ w3.heap.size := by omega
  have z4b : w3.heap.size ≤ w1.heap.size + 1 := by omega
  clear z2 z3
  generalize w1.heap.size = gB at *
  go_loopw [3, 4] (fun s i wr => ∃ (k : Nat) (sl : Nat → Value) (xs : Nat → Nat), k ≤ V.nO ∧ i = .int .i64 k ∧ s ≠ .slice none 0 0 ∧ (∀ x, x < gB → Sm w3 wr x) ∧ wr.ownsRow gB 81 1 s k ((List.range k).map sl) ∧ (∀ j, j < k → RP gB wr.heap.size wr (sl j) (V.N j) (V.O j) (xs j)) ∧ (∀ i j, i < j → j < k → V.N i ≠ 0 → V.N j ≠ 0 → xs i ≠ xs j) ∧ w3.heap.size ≤ wr.heap.size ∧ Below w.heap.size w wr) (fun _ i _ => V.nO - (intOf i).toNat)
  case atStart => exact ⟨0, fun _ => undef, fun _ => 0, Nat.zero_le _, rfl, by simp, fun x _ => Sm.refl _ _, O3.out, fun _ h => absurd h (by omega), fun _ _ _ h => absurd h (by omega), Nat.le_refl _, B3.out⟩
  case round =>
    obtain ⟨k, sl, xs, hk, rfl, hnn, hsm, hown, hdn, hxx, hsz, hbel⟩ := hrel
    obtain ⟨oa, ol, oc, hvv⟩ := own_shape hown
    subst hvv
    have SM : Hid (∀ x, x < gB → Sm w3 wr x) := hsm
    have OW : Hid (wr.ownsRow gB 81 1 (.slice oa ol oc) k ((List.range k).map sl)) := hown
    have DN : Hid (∀ j, j < k → RP gB wr.heap.size wr (sl j) (V.N j) (V.O j) (xs j)) := hdn
    have XX : Hid (∀ i j, i < j → j < k → V.N i ≠ 0 → V.N j ≠ 0 → xs i ≠ xs j) := hxx
    have BL : Hid (Below w.heap.size w wr) := hbel
    have NN : Hid (Value.slice oa ol oc ≠ Value.slice none 0 0) := hnn
    clear hsm hown hdn hxx hbel hnn
    have A4 : Hid (Six wr w.heap.size [.int .i64 V.c, .slice wa wl wc, .int .i64 V.g, .slice (some ⟨bO, 0, none⟩) V.nO V.nO, .slice (some ⟨bX, 0, none⟩) V.nX V.nX, .slice (some ⟨bI, 0, none⟩) V.nI V.nI]) := fun i hi => by have h1 := SM.out w.heap.size (by omega) i; rw [h1.1, h1.2]; exact A3.out i hi
    have a0 : wr.cell? ⟨w.heap.size, 0, none⟩ = some (.int .i64 V.c) := (A4.out 0 (by decide)).1
    have a1 : wr.cell? ⟨w.heap.size, 1, none⟩ = some (.slice wa wl wc) := (A4.out 1 (by decide)).1
    have a2 : wr.cell? ⟨w.heap.size, 2, none⟩ = some (.int .i64 V.g) := (A4.out 2 (by decide)).1
    have a3 : wr.cell? ⟨w.heap.size, 3, none⟩ = some (.slice (some ⟨bO, 0, none⟩) V.nO V.nO) := (A4.out 3 (by decide)).1
    have a4 : wr.cell? ⟨w.heap.size, 4, none⟩ = some (.slice (some ⟨bX, 0, none⟩) V.nX V.nX) := (A4.out 4 (by decide)).1
    have a5 : wr.cell? ⟨w.heap.size, 5, none⟩ = some (.slice (some ⟨bI, 0, none⟩) V.nI V.nI) := (A4.out 5 (by decide)).1
    have f0 : wr.frozen? ⟨w.heap.size, 0, none⟩ = false := (A4.out 0 (by decide)).2
    have f1 : wr.frozen? ⟨w.heap.size, 1, none⟩ = false := (A4.out 1 (by decide)).2
    have f2 : wr.frozen? ⟨w.heap.size, 2, none⟩ = false := (A4.out 2 (by decide)).2
    have f3 : wr.frozen? ⟨w.heap.size, 3, none⟩ = false := (A4.out 3 (by decide)).2
    have f4 : wr.frozen? ⟨w.heap.size, 4, none⟩ = false := (A4.out 4 (by decide)).2
    have f5 : wr.frozen? ⟨w.heap.size, 5, none⟩ = false := (A4.out 5 (by decide)).2
    have l1 : w.heap.size < wr.heap.size := by omega
    by_cases hkn : k < V.nO
    · have hkn' : (k : Int) < V.nO := by omega
      obtain ⟨yk, hyk, hck, hrk⟩ : ∃ yk, yk < w.heap.size ∧ wr.cell? ⟨bO, k, none⟩ = some (.slice (some ⟨yk, 0, none⟩) (V.N k) (V.N k)) ∧ Hid (∀ i j, i < V.N k → j < 8 → wr.cell? ⟨yk, 0 + i * 8 + j, none⟩ = some (.int .i64 (V.O k i j))) := by
        obtain ⟨_, ys, _, hy⟩ := HO.out
        obtain ⟨_, y2, y3, y4⟩ := hy k hkn
        exact ⟨ys k, y2, (BL.out.cell (p := ⟨bO, k, none⟩) (by show bO < _; omega)).trans y3, fun i j a1 a2 => (BL.out.cell (p := ⟨ys k, _, none⟩) y2).trans (P8.own_row y4 i j a1 a2)⟩
      have lb : bO < wr.heap.size := by omega
      have hnk := HN.out k hkn
      have kb : Below wr.heap.size wr (wr.alloc (.cells #[] 45)) := (Below.refl _ _).alloc (Nat.le_refl _) _
      have HC : Hid (∀ j u, ((List.range (V.N k)).flatMap (P8.eight (V.O k)))[j]? = some u → (wr.alloc (.cells #[] 45)).cell? ((⟨yk, 0, none⟩ : Addr).add j) = some u) := eight8_cells (fun i j a1 a2 => (kb.cell (p := ⟨yk, _, none⟩) (by show yk < _; omega)).trans (hrk.out i j a1 a2))
      have H1 : Hid (∀ u ∈ (List.range (V.N k)).flatMap (P8.eight (V.O k)), u.oneCell' = true) := eight8_one _ _
      have HL : Hid (((List.range (V.N k)).flatMap (P8.eight (V.O k))).length = V.N k * 8) := eight8_len _ _
      have KB : Hid (Below wr.heap.size wr (wr.alloc (.cells #[] 45))) := kb
      clear kb
      go_wp2_with (at_builtin; refine wpList_append_own _ rfl _ _ 81 rfl wr.heap.size 45 j8 (.agg #[.int .i64 0, .int .i64 0, .int .i64 0, .int .i64 0, .int .i64 0, .int .i64 0, .int .i64 0, .int .i64 0]) 8 64 Tryz.underlying81 hj8 hk80 hk81 hk82 rfl (by decide) _ 0 [] rfl (World.ownsRow_lit wr #[] 0 (Nat.le_refl _) (by simp) (by simp)) ⟨yk, 0, none⟩ (V.N k) (V.N k) ((List.range (V.N k)).flatMap (P8.eight (V.O k))) rfl HL.out HC.out H1.out (by unfold maxLen; omega) (by omega) (by simp) ?_)
      intro v4 w4 hown4 hg4 hnil4
      obtain ⟨pa, pl, pc, hvv⟩ := own_shape hown4
      subst hvv
      have P4 : w4.ownsRow wr.heap.size 45 8 (.slice pa pl pc) (V.N k) ((List.range (V.N k)).flatMap (P8.eight (V.O k))) := by simpa using hown4
      have hb4 : Below wr.heap.size wr w4 := KB.out.grown hg4 (by simp) (fun kk e => by cases e; exact Nat.le_refl _)
      obtain ⟨g, hRP, _⟩ := rp_of_own P4
      have RPk : Hid (RP wr.heap.size w4.heap.size w4 (.slice pa pl pc) (V.N k) (V.O k) g) := hRP
      have K4 : Hid (Below wr.heap.size wr w4) := hb4
      have s4 : wr.heap.size ≤ w4.heap.size := hb4.size
      have OW4 : Hid (w4.ownsRow gB 81 1 (.slice oa ol oc) k ((List.range k).map sl)) := World.ownsRow.kept OW.out (P8.grown_of_below hb4) (by cases e : (Value.slice oa ol oc).ownBlock <;> simp)
      clear hown4 hg4 hnil4 hRP P4 hb4 HC H1 HL KB a0 a1 a2 a3 a4 a5 f0 f1 f2 f3 f4 f5 hck hrk
      have HW4 := OW4.out.alloc (.cells #[.slice pa pl pc] 81)
      go_wp2_with (at_builtin; refine wpList_append_own _ rfl _ _ 35 rfl gB 81 j6 (.slice none 0 0) 1 24 Tryz.underlying35 hj6 hk60 hk61 hk62 rfl (by decide) _ _ _ rfl HW4 ⟨w4.heap.size, 0, none⟩ 1 1 [.slice pa pl pc] rfl rfl ?d1 ?d2 ?d3 ?d4 ?d5 ?_)
      case d1 => intro j u hj; match j, hj with | 0, hj => (simp at hj; subst hj; simp [Addr.add]) | j + 1, hj => simp at hj
      case d2 => intro u hu; simp at hu; subst hu; rfl
      case d3 => unfold maxLen; omega
      case d4 => omega
      case d5 => simp; omega
      · intro v' w5 hown' hg5 hnil
        obtain ⟨ua, ul, uc, hxx⟩ := own_shape hown'
        subst hxx
        have hlow : ∀ kk, (Value.slice oa ol oc).ownBlock = some kk → gB ≤ kk ∧ kk < wr.heap.size := fun kk e => OW.out.lt kk e
        have hall := (World.grownBy_alloc w4 (.cells #[.slice pa pl pc] 81) (Value.slice oa ol oc).ownBlock).trans hg5
        have s5 : w4.heap.size ≤ w5.heap.size := hall.size
        have S45 : ∀ x, x < w4.heap.size → (Value.slice oa ol oc).ownBlock ≠ some x → Sm w4 w5 x := fun x h1 h2 => sm_grown hall h1 (fun e => h2 e.symm)
        have SM5 : Hid (∀ x, x < gB → Sm w3 w5 x) := fun x hx => ((SM.out x hx).trans (sm_below K4.out (by omega))).trans (S45 x (by omega) (fun e => by have := hlow x e; omega))
        have OW5 : Hid (w5.ownsRow gB 81 1 (.slice ua ul uc) (k + 1) ((List.range (k + 1)).map (fun j => if j = k then (.slice pa pl pc) else sl j))) := by
          unfold Hid
          rw [map_ext_if]
          exact hown'
        have NN5 : Hid (Value.slice ua ul uc ≠ Value.slice none 0 0) := fun e => hnil e
        have DN5 : Hid (∀ j, j < k + 1 → RP gB w5.heap.size w5 ((fun j => if j = k then (.slice pa pl pc) else sl j) j) (V.N j) (V.O j) ((fun j => if j = k then g else xs j) j)) := fun j hj => by
          dsimp only
          by_cases e : j = k
          · subst e
            rw [if_pos rfl, if_pos rfl]
            exact (RPk.out.move s5 (Nat.le_refl _) (fun q1 q2 => S45 g q2 (fun e => by have := hlow g e; omega))).low (by omega)
          · rw [if_neg e, if_neg e]
            have u2 := DN.out j (by omega)
            by_cases e0 : V.N j = 0
            · exact u2.zero e0
            · exact u2.move (by omega) (Nat.le_refl _) (fun q1 q2 => (sm_below K4.out q2).trans (S45 (xs j) (by omega) (own_ne OW.out (by omega) (DN.out 0 (by omega)).shape u2 e0)))
        have XX5 : Hid (∀ i j, i < j → j < k + 1 → V.N i ≠ 0 → V.N j ≠ 0 → (fun j => if j = k then g else xs j) i ≠ (fun j => if j = k then g else xs j) j) := fun i j hij hj n1 n2 => by
          dsimp only
          by_cases e : j = k
          · subst e
            rw [if_pos rfl, if_neg (by omega)]
            have u1 := DN.out i hij
            have u2 := RPk.out
            rcases u1 with ⟨h, _⟩ | ⟨_, _, _, h1, _⟩
            · exact absurd h n1
            · rcases u2 with ⟨h, _⟩ | ⟨_, _, h2, _⟩
              · exact absurd h n2
              · omega
          · rw [if_neg e, if_neg (by omega)]
            exact XX.out i j hij (by omega) n1 n2
        have BL5 : Hid (Below w.heap.size w w5) := (bthen BL.out K4.out).grown hall (by omega) (fun kk e => by have := hlow kk e; omega)
        have z5 : w3.heap.size ≤ w5.heap.size := by omega
        clear hown' hg5 hnil hall hlow S45 HW4 SM OW OW4 DN XX BL NN RPk K4 A4
        go_wp2
        go_roundw
        case rel => exact ⟨k + 1, _, _, by omega, by go_num, NN5.out, SM5.out, OW5.out, DN5.out, XX5.out, z5, BL5.out⟩
        case measure => simp [intOf]; omega
    · have hkk : k = V.nO := by omega
      have R4 : Hid (Six wr (w.heap.size + 1) [.int .i64 0, .slice none 0 0, .int .i64 0, .slice none 0 0, .slice none 0 0, .slice none 0 0]) := fun i hi => by have h1 := SM.out (w.heap.size + 1) (by omega) i; rw [h1.1, h1.2]; exact R3.out i hi
      have W4 : Hid (RW w0.heap.size gB wr (.slice wa wl wc) V.nW V.W gW) := W3.out.move (Nat.le_refl _) (Nat.le_refl _) (by omega) (fun q1 q2 => SM.out gW q2)
      obtain ⟨gO, cO, hgO, hOl, hOh, hOc, FR⟩ : ∃ gO cO, Value.slice oa ol oc = .slice (some ⟨gO, 0, none⟩) V.nO cO ∧ gB ≤ gO ∧ gO < wr.heap.size ∧ Hid (∀ j, j < V.nO → wr.cell? ⟨gO, j, none⟩ = some (sl j)) ∧ Hid (∀ j, wr.frozen? ⟨gO, j, none⟩ = false) := by
        rcases OW.out.2 with ⟨e, _⟩ | ⟨g, cap, cur, hv, _⟩
        · exact absurd e NN.out
        · have ho := OW.out
          rw [hv] at ho
          refine ⟨g, cap, by rw [hv, hkk], (ho.lt g rfl).1, (ho.lt g rfl).2, fun j hj => ?_, fun j => ho.frozenAt j⟩
          rw [ho.cellAt j (by omega), List.getElem?_map, List.getElem?_range (by omega)]
          rfl
      injection hgO with e1 e2 e3
      subst e1 e2 e3
      have DD : Hid (∀ j, j < V.nO → RP gB wr.heap.size wr (sl j) (V.N j) (V.O j) (xs j) ∧ (V.N j ≠ 0 → xs j ≠ gO)) := fun j hj => ⟨DN.out j (by omega), fun e0 e => own_ne OW.out (by omega) (DN.out 0 (by omega)).shape (DN.out j (by omega)) e0 (by rw [e]; rfl)⟩
      have XD : Hid (∀ i j, i < j → j < V.nO → V.N i ≠ 0 → V.N j ≠ 0 → xs i ≠ xs j) := fun i j h1 h2 => XX.out i j h1 (by omega)
      have hkn' : ¬ (k : Int) < V.nO := by omega
      clear DN XX OW NN hkk A3 R3 W3 O3 B3
      have hsA : ((wr.setCell ⟨w.heap.size, 3, none⟩ (.slice (some ⟨gO, 0, none⟩) V.nO oc)).alloc (.cells #[] 3)).heap.size = wr.heap.size + 1 := by simp [World.setCell]
      have kw : Below w.heap.size w ((wr.setCell ⟨w.heap.size, 3, none⟩ (.slice (some ⟨gO, 0, none⟩) V.nO oc)).alloc (.cells #[] 3)) := (BL.out.setCell (by simp) _).alloc (by rw [set_size]; omega) _
      have HC : Hid (∀ j u, ((List.range V.nX).flatMap (one1 V.X))[j]? = some u → ((wr.setCell ⟨w.heap.size, 3, none⟩ (.slice (some ⟨gO, 0, none⟩) V.nO oc)).alloc (.cells #[] 3)).cell? ((⟨bX, 0, none⟩ : Addr).add j) = some u) := one11_cells (fun i hi => (kw.cell (p := ⟨bX, _, none⟩) (by show bX < _; omega)).trans (by rw [Nat.zero_add]; exact HX.out.2 i hi))
      have H1 : Hid (∀ u ∈ (List.range V.nX).flatMap (one1 V.X), u.oneCell' = true) := one11_one _ _
      have HL : Hid (((List.range V.nX).flatMap (one1 V.X)).length = V.nX * 1) := one11_len _ _
      have HLit : ((wr.setCell ⟨w.heap.size, 3, none⟩ (.slice (some ⟨gO, 0, none⟩) V.nO oc)).alloc (.cells #[] 3)).ownsRow wr.heap.size 3 1 (.slice (some ⟨wr.heap.size, 0, none⟩) 0 0) 0 [] := by have q := World.ownsRow_lit (base := wr.heap.size) (e := 3) (size := 1) (wr.setCell ⟨w.heap.size, 3, none⟩ (.slice (some ⟨gO, 0, none⟩) V.nO oc)) #[] 0 (by rw [set_size]; exact Nat.le_refl _) (by simp) (by simp); rw [set_size] at q; exact q
      have KW : Hid (Below w.heap.size w ((wr.setCell ⟨w.heap.size, 3, none⟩ (.slice (some ⟨gO, 0, none⟩) V.nO oc)).alloc (.cells #[] 3))) := kw
      clear kw
      have l9 : w.heap.size < wr.heap.size := by omega
      go_wp2_with (at_builtin; refine wpList_append_own _ rfl _ _ 26 rfl wr.heap.size 3 j3 (.int .i64 0) 1 8 Tryz.underlying26 hj3 hk30 hk31 hk32 rfl (by decide) _ 0 [] rfl HLit ⟨bX, 0, none⟩ V.nX V.nX ((List.range V.nX).flatMap (one1 V.X)) rfl HL.out HC.out H1.out (by unfold maxLen; omega) (by omega) (by simp) ?_)
      intro v5 w5 hown hg hnil
      obtain ⟨xa, xl, xc, hvv⟩ := own_shape hown
      subst hvv
      have hown2 : w5.ownsRow wr.heap.size 3 1 (.slice xa xl xc) V.nX ((List.range V.nX).flatMap (one1 V.X)) := by simpa using hown
      obtain ⟨gX, hRI, _⟩ := ri_of_own hown2
      have X5 : Hid (RI wr.heap.size w5.heap.size w5 (.slice xa xl xc) V.nX V.X gX) := hRI
      have K5 : Hid (∀ x, x < wr.heap.size → ¬ x = w.heap.size → Sm wr w5 x) := fun x hx hne => (Sm.trans (b := (wr.setCell ⟨w.heap.size, 3, none⟩ (.slice (some ⟨gO, 0, none⟩) V.nO oc))) (fun o => ⟨set_out (fun e => hne e.1.symm), set_frozen⟩) (sm_below (n := wr.heap.size) ((Below.refl _ _).alloc (by rw [set_size]; exact Nat.le_refl _) _) hx)).trans (sm_grown hg (by rw [hsA]; omega) (fun e => by injection e with e; replace e : x = wr.heap.size := e; omega))
      have Sw5 : wr.heap.size ≤ w5.heap.size := by have := hg.size; rw [hsA] at this; omega
      have B5 : Hid (Below w.heap.size w w5) := KW.out.grown hg (by rw [hsA]; omega) (fun kk e => by cases e; show w.heap.size ≤ wr.heap.size; omega)
      have A5 : Hid (Six w5 w.heap.size [.int .i64 V.c, .slice wa wl wc, .int .i64 V.g, .slice (some ⟨gO, 0, none⟩) V.nO oc, .slice (some ⟨bX, 0, none⟩) V.nX V.nX, .slice (some ⟨bI, 0, none⟩) V.nI V.nI]) := fun i hi => by have h1 := sm_grown hg (b := w.heap.size) (by rw [hsA]; omega) (fun e => by injection e with e; replace e : w.heap.size = wr.heap.size := e; omega) i; rw [h1.1, h1.2]; exact ((A4.out.set (j := 3) (v := .slice (some ⟨gO, 0, none⟩) V.nO oc) rfl (by decide)).below (by rw [set_size]; omega) ((Below.refl _ _).alloc (Nat.le_refl _) _)) i hi
      have R5 : Hid (Six w5 (w.heap.size + 1) [.int .i64 0, .slice none 0 0, .int .i64 0, .slice none 0 0, .slice none 0 0, .slice none 0 0]) := fun i hi => by have h1 := K5.out (w.heap.size + 1) (by omega) (by omega) i; rw [h1.1, h1.2]; exact R4.out i hi
      clear hown hown2 hg hnil hRI HC H1 HL HLit KW l9 hsA A4 R4 a0 a1 a2 a3 a4 a5 f0 f1 f2 f3 f4 f5
      have hsA : ((w5.setCell ⟨w.heap.size, 4, none⟩ (.slice xa xl xc)).alloc (.cells #[] 3)).heap.size = w5.heap.size + 1 := by simp [World.setCell]
      have kw : Below w.heap.size w ((w5.setCell ⟨w.heap.size, 4, none⟩ (.slice xa xl xc)).alloc (.cells #[] 3)) := (B5.out.setCell (by simp) _).alloc (by rw [set_size]; omega) _
      have HC : Hid (∀ j u, ((List.range V.nI).flatMap (one1 V.I))[j]? = some u → ((w5.setCell ⟨w.heap.size, 4, none⟩ (.slice xa xl xc)).alloc (.cells #[] 3)).cell? ((⟨bI, 0, none⟩ : Addr).add j) = some u) := one11_cells (fun i hi => (kw.cell (p := ⟨bI, _, none⟩) (by show bI < _; omega)).trans (by rw [Nat.zero_add]; exact HI.out.2 i hi))
      have H1 : Hid (∀ u ∈ (List.range V.nI).flatMap (one1 V.I), u.oneCell' = true) := one11_one _ _
      have HL : Hid (((List.range V.nI).flatMap (one1 V.I)).length = V.nI * 1) := one11_len _ _
      have HLit : ((w5.setCell ⟨w.heap.size, 4, none⟩ (.slice xa xl xc)).alloc (.cells #[] 3)).ownsRow w5.heap.size 3 1 (.slice (some ⟨w5.heap.size, 0, none⟩) 0 0) 0 [] := by have q := World.ownsRow_lit (base := w5.heap.size) (e := 3) (size := 1) (w5.setCell ⟨w.heap.size, 4, none⟩ (.slice xa xl xc)) #[] 0 (by rw [set_size]; exact Nat.le_refl _) (by simp) (by simp); rw [set_size] at q; exact q
      have KW : Hid (Below w.heap.size w ((w5.setCell ⟨w.heap.size, 4, none⟩ (.slice xa xl xc)).alloc (.cells #[] 3))) := kw
      clear kw
      have a0 : w5.cell? ⟨w.heap.size, 0, none⟩ = some (.int .i64 V.c) := (A5.out 0 (by decide)).1
      have a1 : w5.cell? ⟨w.heap.size, 1, none⟩ = some (.slice wa wl wc) := (A5.out 1 (by decide)).1
      have a2 : w5.cell? ⟨w.heap.size, 2, none⟩ = some (.int .i64 V.g) := (A5.out 2 (by decide)).1
      have a3 : w5.cell? ⟨w.heap.size, 3, none⟩ = some (.slice (some ⟨gO, 0, none⟩) V.nO oc) := (A5.out 3 (by decide)).1
      have a4 : w5.cell? ⟨w.heap.size, 4, none⟩ = some (.slice (some ⟨bX, 0, none⟩) V.nX V.nX) := (A5.out 4 (by decide)).1
      have a5 : w5.cell? ⟨w.heap.size, 5, none⟩ = some (.slice (some ⟨bI, 0, none⟩) V.nI V.nI) := (A5.out 5 (by decide)).1
      have f0 : w5.frozen? ⟨w.heap.size, 0, none⟩ = false := (A5.out 0 (by decide)).2
      have f1 : w5.frozen? ⟨w.heap.size, 1, none⟩ = false := (A5.out 1 (by decide)).2
      have f2 : w5.frozen? ⟨w.heap.size, 2, none⟩ = false := (A5.out 2 (by decide)).2
      have f3 : w5.frozen? ⟨w.heap.size, 3, none⟩ = false := (A5.out 3 (by decide)).2
      have f4 : w5.frozen? ⟨w.heap.size, 4, none⟩ = false := (A5.out 4 (by decide)).2
      have f5 : w5.frozen? ⟨w.heap.size, 5, none⟩ = false := (A5.out 5 (by decide)).2
      have l9 : w.heap.size < w5.heap.size := by omega
      go_wp2_with (at_builtin; refine wpList_append_own _ rfl _ _ 26 rfl w5.heap.size 3 j3 (.int .i64 0) 1 8 Tryz.underlying26 hj3 hk30 hk31 hk32 rfl (by decide) _ 0 [] rfl HLit ⟨bI, 0, none⟩ V.nI V.nI ((List.range V.nI).flatMap (one1 V.I)) rfl HL.out HC.out H1.out (by unfold maxLen; omega) (by omega) (by simp) ?_)
      intro v5 w7 hown hg hnil
      obtain ⟨ia, il, ic, hvv⟩ := own_shape hown
      subst hvv
      have hown2 : w7.ownsRow w5.heap.size 3 1 (.slice ia il ic) V.nI ((List.range V.nI).flatMap (one1 V.I)) := by simpa using hown
      obtain ⟨gI, hRI, _⟩ := ri_of_own hown2
      have I7 : Hid (RI w5.heap.size w7.heap.size w7 (.slice ia il ic) V.nI V.I gI) := hRI
      have K7 : Hid (∀ x, x < w5.heap.size → ¬ x = w.heap.size → Sm w5 w7 x) := fun x hx hne => (Sm.trans (b := (w5.setCell ⟨w.heap.size, 4, none⟩ (.slice xa xl xc))) (fun o => ⟨set_out (fun e => hne e.1.symm), set_frozen⟩) (sm_below (n := w5.heap.size) ((Below.refl _ _).alloc (by rw [set_size]; exact Nat.le_refl _) _) hx)).trans (sm_grown hg (by rw [hsA]; omega) (fun e => by injection e with e; replace e : x = w5.heap.size := e; omega))
      have Sw7 : w5.heap.size ≤ w7.heap.size := by have := hg.size; rw [hsA] at this; omega
      have B7 : Hid (Below w.heap.size w w7) := KW.out.grown hg (by rw [hsA]; omega) (fun kk e => by cases e; show w.heap.size ≤ w5.heap.size; omega)
      have A7 : Hid (Six w7 w.heap.size [.int .i64 V.c, .slice wa wl wc, .int .i64 V.g, .slice (some ⟨gO, 0, none⟩) V.nO oc, .slice xa xl xc, .slice (some ⟨bI, 0, none⟩) V.nI V.nI]) := fun i hi => by have h1 := sm_grown hg (b := w.heap.size) (by rw [hsA]; omega) (fun e => by injection e with e; replace e : w.heap.size = w5.heap.size := e; omega) i; rw [h1.1, h1.2]; exact ((A5.out.set (j := 4) (v := .slice xa xl xc) rfl (by decide)).below (by rw [set_size]; omega) ((Below.refl _ _).alloc (Nat.le_refl _) _)) i hi
      have R7 : Hid (Six w7 (w.heap.size + 1) [.int .i64 0, .slice none 0 0, .int .i64 0, .slice none 0 0, .slice none 0 0, .slice none 0 0]) := fun i hi => by have h1 := K7.out (w.heap.size + 1) (by omega) (by omega) i; rw [h1.1, h1.2]; exact R5.out i hi
      clear hown hown2 hg hnil hRI HC H1 HL HLit KW l9 hsA A5 R5 a0 a1 a2 a3 a4 a5 f0 f1 f2 f3 f4 f5
      have a0 : w7.cell? ⟨w.heap.size, 0, none⟩ = some (.int .i64 V.c) := (A7.out 0 (by decide)).1
      have a1 : w7.cell? ⟨w.heap.size, 1, none⟩ = some (.slice wa wl wc) := (A7.out 1 (by decide)).1
      have a2 : w7.cell? ⟨w.heap.size, 2, none⟩ = some (.int .i64 V.g) := (A7.out 2 (by decide)).1
      have a3 : w7.cell? ⟨w.heap.size, 3, none⟩ = some (.slice (some ⟨gO, 0, none⟩) V.nO oc) := (A7.out 3 (by decide)).1
      have a4 : w7.cell? ⟨w.heap.size, 4, none⟩ = some (.slice xa xl xc) := (A7.out 4 (by decide)).1
      have a5 : w7.cell? ⟨w.heap.size, 5, none⟩ = some (.slice (some ⟨bI, 0, none⟩) V.nI V.nI) := (A7.out 5 (by decide)).1
      have f0 : w7.frozen? ⟨w.heap.size, 0, none⟩ = false := (A7.out 0 (by decide)).2
      have f1 : w7.frozen? ⟨w.heap.size, 1, none⟩ = false := (A7.out 1 (by decide)).2
      have f2 : w7.frozen? ⟨w.heap.size, 2, none⟩ = false := (A7.out 2 (by decide)).2
      have f3 : w7.frozen? ⟨w.heap.size, 3, none⟩ = false := (A7.out 3 (by decide)).2
      have f4 : w7.frozen? ⟨w.heap.size, 4, none⟩ = false := (A7.out 4 (by decide)).2
      have f5 : w7.frozen? ⟨w.heap.size, 5, none⟩ = false := (A7.out 5 (by decide)).2
      have r0 : w7.cell? ⟨w.heap.size + 1, 0, none⟩ = some (.int .i64 0) := (R7.out 0 (by decide)).1
      have r1 : w7.cell? ⟨w.heap.size + 1, 1, none⟩ = some (.slice none 0 0) := (R7.out 1 (by decide)).1
      have r2 : w7.cell? ⟨w.heap.size + 1, 2, none⟩ = some (.int .i64 0) := (R7.out 2 (by decide)).1
      have r3 : w7.cell? ⟨w.heap.size + 1, 3, none⟩ = some (.slice none 0 0) := (R7.out 3 (by decide)).1
      have r4 : w7.cell? ⟨w.heap.size + 1, 4, none⟩ = some (.slice none 0 0) := (R7.out 4 (by decide)).1
      have r5 : w7.cell? ⟨w.heap.size + 1, 5, none⟩ = some (.slice none 0 0) := (R7.out 5 (by decide)).1
      have q0 : w7.frozen? ⟨w.heap.size + 1, 0, none⟩ = false := (R7.out 0 (by decide)).2
      have q1 : w7.frozen? ⟨w.heap.size + 1, 1, none⟩ = false := (R7.out 1 (by decide)).2
      have q2 : w7.frozen? ⟨w.heap.size + 1, 2, none⟩ = false := (R7.out 2 (by decide)).2
      have q3 : w7.frozen? ⟨w.heap.size + 1, 3, none⟩ = false := (R7.out 3 (by decide)).2
      have q4 : w7.frozen? ⟨w.heap.size + 1, 4, none⟩ = false := (R7.out 4 (by decide)).2
      have q5 : w7.frozen? ⟨w.heap.size + 1, 5, none⟩ = false := (R7.out 5 (by decide)).2
      have l1b : w.heap.size + 1 < w7.heap.size := by omega
      have l1c : w.heap.size < w7.heap.size := by omega
      go_wp2
      refine bodyPost_ret (v := .agg #[.int .i64 V.c, .slice wa wl wc, .int .i64 V.g, .slice (some ⟨gO, 0, none⟩) V.nO oc, .slice xa xl xc, .slice ia il ic]) (by simp [results, Tryz.results46, go_sem, r0, r1, r2, r3, r4, r5]) rfl ?_
      have hzz : (put6 (w7.setCell ⟨w.heap.size, 5, none⟩ (.slice ia il ic)) (w.heap.size + 1) (.int .i64 V.c) (.slice wa wl wc) (.int .i64 V.g) (.slice (some ⟨gO, 0, none⟩) V.nO oc) (.slice xa xl xc) (.slice ia il ic)).heap.size = w7.heap.size := by rw [size_put6, set_size]
      have hbb : Below w.heap.size w (put6 (w7.setCell ⟨w.heap.size, 5, none⟩ (.slice ia il ic)) (w.heap.size + 1) (.int .i64 V.c) (.slice wa wl wc) (.int .i64 V.g) (.slice (some ⟨gO, 0, none⟩) V.nO oc) (.slice xa xl xc) (.slice ia il ic)) := below_put6 (B7.out.setCell (by simp) _) (Nat.le_succ w.heap.size) (.int .i64 V.c) (.slice wa wl wc) (.int .i64 V.g) (.slice (some ⟨gO, 0, none⟩) V.nO oc) (.slice xa xl xc) (.slice ia il ic)
      have SF : ∀ x, ¬ x = w.heap.size + 1 → ¬ x = w.heap.size → Sm w7 (put6 (w7.setCell ⟨w.heap.size, 5, none⟩ (.slice ia il ic)) (w.heap.size + 1) (.int .i64 V.c) (.slice wa wl wc) (.int .i64 V.g) (.slice (some ⟨gO, 0, none⟩) V.nO oc) (.slice xa xl xc) (.slice ia il ic)) x := fun x h1 h2 => Sm.trans (fun o => ⟨set_out (fun e => h2 e.1.symm), set_frozen⟩) (sm_put6 (fun e => h1 e.symm) (.int .i64 V.c) (.slice wa wl wc) (.int .i64 V.g) (.slice (some ⟨gO, 0, none⟩) V.nO oc) (.slice xa xl xc) (.slice ia il ic))
      refine ⟨⟨_, rfl, ?_, ?_⟩, hbb⟩
      · show OwnC w.heap.size (put6 (w7.setCell ⟨w.heap.size, 5, none⟩ (.slice ia il ic)) (w.heap.size + 1) (.int .i64 V.c) (.slice wa wl wc) (.int .i64 V.g) (.slice (some ⟨gO, 0, none⟩) V.nO oc) (.slice xa xl xc) (.slice ia il ic)).heap.size (put6 (w7.setCell ⟨w.heap.size, 5, none⟩ (.slice ia il ic)) (w.heap.size + 1) (.int .i64 V.c) (.slice wa wl wc) (.int .i64 V.g) (.slice (some ⟨gO, 0, none⟩) V.nO oc) (.slice xa xl xc) (.slice ia il ic)) _ _
        rw [hzz]
        clear r0 r1 r2 r3 r4 r5 q0 q1 q2 q3 q4 q5 a0 a1 a2 a3 a4 a5 f0 f1 f2 f3 f4 f5 hbb
        have S5 : ∀ x, x < w5.heap.size → w0.heap.size ≤ x → Sm w5 (put6 (w7.setCell ⟨w.heap.size, 5, none⟩ (.slice ia il ic)) (w.heap.size + 1) (.int .i64 V.c) (.slice wa wl wc) (.int .i64 V.g) (.slice (some ⟨gO, 0, none⟩) V.nO oc) (.slice xa xl xc) (.slice ia il ic)) x := fun x h1 h2 => (K7.out x h1 (by omega)).trans (SF x (by omega) (by omega))
        have S3 : ∀ x, x < wr.heap.size → w0.heap.size ≤ x → Sm wr (put6 (w7.setCell ⟨w.heap.size, 5, none⟩ (.slice ia il ic)) (w.heap.size + 1) (.int .i64 V.c) (.slice wa wl wc) (.int .i64 V.g) (.slice (some ⟨gO, 0, none⟩) V.nO oc) (.slice xa xl xc) (.slice ia il ic)) x := fun x h1 h2 => (K5.out x h1 (by omega)).trans (S5 x (by omega) h2)
        have bWl : V.nW ≠ 0 → gW < gB := fun e => by rcases W4.out with ⟨h, _⟩ | ⟨_, _, _, h, _⟩; exact absurd h e; exact h
        have bXl : V.nX ≠ 0 → wr.heap.size ≤ gX ∧ gX < w5.heap.size := fun e => by rcases X5.out with ⟨h, _⟩ | ⟨_, _, h, h2, _⟩; exact absurd h e; exact ⟨h, h2⟩
        have bIl : V.nI ≠ 0 → w5.heap.size ≤ gI ∧ gI < w7.heap.size := fun e => by rcases I7.out with ⟨h, _⟩ | ⟨_, _, h, h2, _⟩; exact absurd h e; exact ⟨h, h2⟩
        have bPl : ∀ k, k < V.nO → V.N k ≠ 0 → gB ≤ xs k ∧ xs k < wr.heap.size := fun k hk e => by rcases (DD.out k hk).1 with ⟨h, _⟩ | ⟨_, _, h, h2, _⟩; exact absurd h e; exact ⟨h, h2⟩
        refine ownC_any (gW := gW) (gO := gO) (gX := gX) (gI := gI) (sl := sl) (xs := xs) (W4.out.move (by omega) (by omega) (Nat.le_of_eq hzz.symm) (fun q1 q2 => S3 gW (by omega) q1)) (by omega) (by omega) (Nat.le_of_eq hzz.symm) (fun k hk => ⟨(S3 gO (by omega) (by omega) k).1.trans (hOc.out k hk), ((DD.out k hk).1.move (by omega) (Nat.le_of_eq hzz.symm) (fun q1 q2 => S3 _ q2 (by omega))).low (by omega)⟩) (X5.out.move (by omega) (by omega) (Nat.le_of_eq hzz.symm) (fun q1 q2 => S5 gX q2 (by omega))) (I7.out.move (by omega) (Nat.le_refl _) (Nat.le_of_eq hzz.symm) (fun q1 q2 => SF gI (by omega) (by omega))) (fun e => by have := bWl e; omega) (fun e e2 => by have := bWl e; have := bXl e2; omega) (fun e e2 => by have := bWl e; have := bIl e2; omega) (fun e => by have := bXl e; omega) (fun e => by have := bIl e; omega) (fun e e2 => by have := bXl e; have := bIl e2; omega) (fun k hk e => ⟨fun e2 => by have := bPl k hk e; have := bWl e2; omega, (DD.out k hk).2 e, fun e2 => by have := bPl k hk e; have := bXl e2; omega, fun e2 => by have := bPl k hk e; have := bIl e2; omega⟩) XD.out
      · have S5 : ∀ x, x < w5.heap.size → w0.heap.size ≤ x → Sm w5 (put6 (w7.setCell ⟨w.heap.size, 5, none⟩ (.slice ia il ic)) (w.heap.size + 1) (.int .i64 V.c) (.slice wa wl wc) (.int .i64 V.g) (.slice (some ⟨gO, 0, none⟩) V.nO oc) (.slice xa xl xc) (.slice ia il ic)) x := fun x h1 h2 => (K7.out x h1 (by omega)).trans (SF x (by omega) (by omega))
        have S3 : ∀ x, x < wr.heap.size → w0.heap.size ≤ x → Sm wr (put6 (w7.setCell ⟨w.heap.size, 5, none⟩ (.slice ia il ic)) (w.heap.size + 1) (.int .i64 V.c) (.slice wa wl wc) (.int .i64 V.g) (.slice (some ⟨gO, 0, none⟩) V.nO oc) (.slice xa xl xc) (.slice ia il ic)) x := fun x h1 h2 => (K5.out x h1 (by omega)).trans (S5 x (by omega) h2)
        intro x0 x1 x2 g n k x4 x5 e
        have e3 := (agg6 e).2.1
        simp only [Value.slice.injEq, Option.some.injEq, Addr.mk.injEq] at e3
        obtain ⟨⟨rfl, _, _⟩, rfl, _⟩ := e3
        refine ⟨by omega, ?_, fun j hj => (S3 _ (by omega) (by omega) j).2.trans (FR.out j)⟩
        show _ < (put6 _ _ _ _ _ _ _ _).heap.size
        rw [size_put6]
        show _ < (w7.setCell _ _).heap.size
        rw [set_size]
        omega

theorem allP_at {c d next : Int} {m : Nat} {Z : Nat → Nat → Int} {n : Nat} (h : P8.allP c d next m Z n = true) : ∀ k, k < n → Z k 0 = next - m + k := fun k hk => by
  cases e : P8.goodP c d next m Z k
  · rw [P8.allP_stop hk e] at h
    cases h
  · simp [P8.goodP] at e
    exact e.2
theorem listP_at {c d next : Int} {n : Nat} {Z : Nat → Nat → Int} (h : P8.listP c d next n Z = true) : (n : Int) ≤ next ∧ ∀ k, k < n → Z k 0 = next - n + k := by
  simp only [P8.listP, Bool.and_eq_true, decide_eq_true_eq] at h
  exact ⟨h.2.2.1, allP_at h.2.2.2⟩
theorem rest_all {Z : Nat → Nat → Int} {n : Nat} {z next : Int} (h : ∀ k, k < n → Z k 0 = next - n + k) : (P8.rest Z n z).length = n ↔ n = 0 ∨ z ≤ next - n := by
  have e : (P8.rest Z n z).length = n ↔ ∀ k ∈ List.range n, decide (z ≤ Z k 0) = true := by
    have := List.length_filter_eq_length_iff (p := fun k => decide (z ≤ Z k 0)) (l := List.range n)
    rw [List.length_range] at this
    exact this
  rw [e]
  constructor
  · intro q
    by_cases h0 : n = 0
    · exact .inl h0
    · have := q 0 (List.mem_range.2 (by omega))
      rw [h 0 (by omega)] at this
      simp at this
      exact .inr this
  · intro q k hk
    have hk := List.mem_range.1 hk
    rw [h k hk]
    rcases q with q | q
    · omega
    · simp; omega
/-- The two ways to say that there is nothing to throw away are one. -/
theorem ack_one {Z : Nat → Nat → Int} {n : Nat} {z next : Int} (h : ∀ k, k < n → Z k 0 = next - n + k) (hz : ¬ z > next) : ((P8.rest Z n z).length = n) ↔ z ≤ next - n := by
  rw [rest_all h]
  constructor
  · rintro (q | q)
    · subst q; simp; omega
    · exact q
  · exact .inr
/-- A cell of which a side's parcels are those from number z on. -/
def CV.ack (V : CV) (s : Nat) (z : Int) : CV :=
  { V with N := fun k => if k = s then (P8.rest (V.O s) (V.N s) z).length else V.N k, O := fun k => if k = s then fun i j => V.O s (P8.rest (V.O s) (V.N s) z)[i]! j else V.O k }
theorem CV.ack_short {V : CV} {m s : Nat} {z : Int} (h : V.short m) (hs : s < V.nO) : (V.ack s z).short m := by
  refine ⟨h.1, h.2.1, fun k hk => ?_, h.2.2.2.1, h.2.2.2.2⟩
  show (if k = s then (P8.rest (V.O s) (V.N s) z).length else V.N k) ≤ m
  by_cases e : k = s
  · rw [if_pos e]; exact Nat.le_trans (P8.rest_len _ _ _) (h.2.2.1 s hs)
  · rw [if_neg e]; exact h.2.2.1 k hk
end Go.Proofs.YtjmjffhommlbnaaGreat
