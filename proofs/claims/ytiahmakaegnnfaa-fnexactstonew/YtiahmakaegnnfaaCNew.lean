/- The walk of CllNew, the program's; conditions: the walkers lie in memory. -/
import Derived.Test.YtiahmakaegnnfaaCCp
import Derived.Test.YtiahmakaegnnfaaCOk5
import Derived.Test.YtiahmakaegnnfaaInv
import Derived.Deep.DeepCutAuto
namespace Go.Proofs.Ytiahmakaegnnfaa
open Go.RowKit Go.Deep
set_option linter.unusedVariables false

/-- The block that a value leads to. -/
def blk : Value → Option Nat
  | .slice (some a) _ _ => some a.block
  | .pointer (some a) => some a.block
  | _ => none
def In1 (lo : Nat) (w : World) (u : Value) : Prop := ∀ b, blk u = some b → lo ≤ b ∧ b < w.heap.size
def Ap (u v : Value) : Prop := ∀ b c, blk u = some b → blk v = some c → ¬ b = c
theorem in_undef {lo : Nat} {w : World} : In1 lo w undef := fun b h => by cases h
theorem ap_undef : Ap undef undef := fun b c h _ => by cases h
theorem In1.up {lo : Nat} {w w' : World} {u : Value} (h : In1 lo w u) (hs : w.heap.size ≤ w'.heap.size) : In1 lo w' u := fun b e => ⟨(h b e).1, Nat.lt_of_lt_of_le (h b e).2 hs⟩
theorem new_in {lo : Nat} {w : World} {u : Value} {o : Obj} (e : blk u = some w.heap.size) (h : lo ≤ w.heap.size) : In1 lo (w.alloc o) u := fun b hb => by
  rw [e] at hb; cases hb; exact ⟨h, by simp⟩
theorem ap_new_l {lo : Nat} {w : World} {u v : Value} (e : blk u = some w.heap.size) (h : In1 lo w v) : Ap u v := fun b c hb hc => by
  rw [e] at hb; cases hb; have := (h c hc).2; omega
theorem ap_new_r {lo : Nat} {w : World} {u v : Value} (e : blk v = some w.heap.size) (h : In1 lo w u) : Ap u v := fun b c hb hc => by
  rw [e] at hc; cases hc; have := (h b hb).2; omega
theorem own1_zero (w : World) : Own1 (w.alloc (.cells (madeCells #[.int .i64 0] (2 * 1)) 3)) w.heap.size 2 (fun _ => 0) 2 := by
  refine ⟨fun i hi => ?_, fun j hj => ?_⟩
  · have : i = 0 ∨ i = 1 := by omega
    rcases this with rfl | rfl <;> exact ⟨by simp [madeCells], by simp⟩
  · have : j = 0 ∨ j = 1 := by omega
    rcases this with rfl | rfl <;> simp [madeCells]

theorem nils_zero (w : World) : (w.alloc (.cells (madeCells #[.slice none 0 0] (2 * 1)) 97)).cell? ⟨w.heap.size, 0, none⟩ = some (.slice none 0 0) ∧ (w.alloc (.cells (madeCells #[.slice none 0 0] (2 * 1)) 97)).cell? ⟨w.heap.size, 1, none⟩ = some (.slice none 0 0) := ⟨by simp [madeCells], by simp [madeCells]⟩
/-- Six cells written. -/
def put6 (w : World) (g : Nat) (v0 v1 v2 v3 v4 v5 : Value) : World := (((((w.setCell ⟨g, 0, none⟩ v0).setCell ⟨g, 1, none⟩ v1).setCell ⟨g, 2, none⟩ v2).setCell ⟨g, 3, none⟩ v3).setCell ⟨g, 4, none⟩ v4).setCell ⟨g, 5, none⟩ v5
theorem six_put {w : World} {g : Nat} {l : List Value} (h : Six w g l) (v0 v1 v2 v3 v4 v5 : Value) : Six (put6 w g v0 v1 v2 v3 v4 v5) g [v0, v1, v2, v3, v4, v5] := by
  have e : put6 w g v0 v1 v2 v3 v4 v5 = w.setCells g 0 [v0, v1, v2, v3, v4, v5] := rfl
  have q := World.cell?_setCells_in g [v0, v1, v2, v3, v4, v5] 0 w (fun j hj => by
    have := (h j (by simpa using hj)).1
    rw [Nat.zero_add, this]; rfl)
  intro i hi
  rw [e, World.frozen?_setCells]
  refine ⟨?_, (h i hi).2⟩
  have := q i (by simpa using hi)
  rw [Nat.zero_add] at this
  rw [this]
  have : i = 0 ∨ i = 1 ∨ i = 2 ∨ i = 3 ∨ i = 4 ∨ i = 5 := by omega
  rcases this with rfl | rfl | rfl | rfl | rfl | rfl <;> rfl
theorem below_put6 {n : Nat} {a w : World} (h : Below n a w) {g : Nat} (hg : n ≤ g) (v0 v1 v2 v3 v4 v5 : Value) : Below n a (put6 w g v0 v1 v2 v3 v4 v5) :=
  (((((h.setCell (p := ⟨g, 0, none⟩) hg _).setCell (p := ⟨g, 1, none⟩) hg _).setCell (p := ⟨g, 2, none⟩) hg _).setCell (p := ⟨g, 3, none⟩) hg _).setCell (p := ⟨g, 4, none⟩) hg _).setCell (p := ⟨g, 5, none⟩) hg _
theorem size_put6 (w : World) (g : Nat) (v0 v1 v2 v3 v4 v5 : Value) : (put6 w g v0 v1 v2 v3 v4 v5).heap.size = w.heap.size := by simp [put6, World.setCell]
theorem sm_put6 {w : World} {g b : Nat} (h : ¬ g = b) (v0 v1 v2 v3 v4 v5 : Value) : Sm w (put6 w g v0 v1 v2 v3 v4 v5) b := by
  intro o
  unfold put6
  refine ⟨?_, ?_⟩
  · rw [set_out (fun e => h e.1), set_out (fun e => h e.1), set_out (fun e => h e.1), set_out (fun e => h e.1), set_out (fun e => h e.1), set_out (fun e => h e.1)]
  · rw [set_frozen, set_frozen, set_frozen, set_frozen, set_frozen, set_frozen]

/-- The places of those in a cell. -/
def inL (c d cell : Int) (Z : Nat → Nat → Int) (n : Nat) : List Nat := (List.range n).filter (fun k => cellF c d (Z k 1) == cell)
def newV (c d cell : Int) (Z : Nat → Nat → Int) (n : Nat) : CV :=
  if (hasB c d cell && allB c d Z n) = true then ⟨cell, (inL c d cell Z n).length, fun k j => Z (inL c d cell Z n)[k]! j, 0, 2, fun _ => 0, fun _ _ _ => 0, 2, fun _ => 0, 2, fun _ => 0⟩
  else ⟨0, 0, fun _ _ => 0, 0, 0, fun _ => 0, fun _ _ _ => 0, 0, fun _ => 0, 0, fun _ => 0⟩

theorem nothing_own (lo hi : Nat) (w : World) : OwnC lo hi w (.agg #[.int .i64 0, .slice none 0 0, .int .i64 0, .slice none 0 0, .slice none 0 0, .slice none 0 0]) ⟨0, 0, fun _ _ => 0, 0, 0, fun _ => 0, fun _ _ _ => 0, 0, fun _ => 0, 0, fun _ => 0⟩ :=
  ⟨_, _, _, _, 0, 1, 2, 3, fun _ => undef, fun _ => 0, rfl, .inl ⟨rfl, none, 0, rfl⟩, .inl ⟨rfl, none, 0, rfl⟩, .inl ⟨rfl, none, 0, rfl⟩, .inl ⟨rfl, none, 0, rfl⟩, ⟨by decide, by decide, by decide, by decide, by decide, by decide⟩, fun _ h => absurd h (Nat.not_lt_zero _), fun _ _ h => absurd h (Nat.not_lt_zero _)⟩
theorem own_shape {w : World} {base e m n : Nat} {v : Value} {xs : List Value} (h : w.ownsRow base e m v n xs) : ∃ a l c, v = .slice a l c := by
  rcases h.2 with ⟨e, _⟩ | ⟨g, cap, cur, hv, _⟩
  · exact ⟨_, _, _, e⟩
  · exact ⟨_, _, _, hv⟩
theorem inL_len (c d cell : Int) (Z : Nat → Nat → Int) (k : Nat) : (inL c d cell Z k).length ≤ k := by
  have := (List.filter_sublist (p := fun k => cellF c d (Z k 1) == cell) (l := List.range k)).length_le
  rw [List.length_range] at this
  exact this
theorem inL_no {c d cell : Int} {Z : Nat → Nat → Int} {k : Nat} (h : (cellF c d (Z k 1) == cell) = false) : inL c d cell Z (k + 1) = inL c d cell Z k := by
  unfold inL
  rw [List.range_succ, List.filter_append]
  simp [h]
theorem inL_yes {c d cell : Int} {Z : Nat → Nat → Int} {k : Nat} (h : (cellF c d (Z k 1) == cell) = true) : inL c d cell Z (k + 1) = inL c d cell Z k ++ [k] := by
  unfold inL
  rw [List.range_succ, List.filter_append]
  simp [h]

theorem rw_ofL {w : World} {base lo : Nat} {v : Value} {L : List Nat} {Z : Nat → Nat → Int} (h : w.ownsRow base 36 5 v L.length (L.flatMap (five5 Z))) (hlo : lo ≤ base) : ∃ g, base ≤ g ∧ RW lo w.heap.size w v L.length (fun k j => Z L[k]! j) g := by
  rcases h.2 with ⟨e, hl⟩ | ⟨g, cap, cur, hv, _⟩
  · exact ⟨base, Nat.le_refl _, .inl ⟨hl, none, 0, e⟩⟩
  · have ho : w.ownsRow base 36 5 (.slice (some ⟨g, 0, none⟩) L.length cap) L.length (L.flatMap (five5 Z)) := by rw [← hv]; exact h
    refine ⟨g, (ho.lt g rfl).1, .inr ⟨cap, hv, Nat.le_trans hlo (ho.lt g rfl).1, (ho.lt g rfl).2, Nat.le_refl _, fun i hi => ⟨?_, ho.frozenAt i⟩, fun k j hk hj => ?_⟩⟩
    · rw [ho.cellAt i hi]
      have : i < (L.flatMap (five5 Z)).length := by rw [ho.1]; exact hi
      rw [List.getElem?_eq_getElem this]
      rfl
    · rw [ho.cellAt (k * 5 + j) (by omega), P8.get_flat (m := 5) (five5 Z) (fun _ => rfl) L k j hk hj]
      match j, hj with
      | 0, _ => rfl
      | 1, _ => rfl
      | 2, _ => rfl
      | 3, _ => rfl
      | 4, _ => rfl

set_option maxRecDepth 20000 in
set_option maxHeartbeats 4000000 in
theorem new_impl (c d cell : Int) (b n cap : Nat) (Z : Nat → Nat → Int) (hn : n ≤ 1048576) (w : World) (hb : b < w.heap.size) (hr : ∀ k j, k < n → j < 5 → w.cell? ⟨b, 0 + k * 5 + j, none⟩ = some (.int .i64 (Z k j))) :
    Calls Try.prog 39 #[.agg #[.int .i64 c, .int .i64 d], .int .i64 cell, .slice (some ⟨b, 0, none⟩) n cap] w fun e w' => (∃ v, e = .returned v ∧ OwnC w.heap.size w'.heap.size w' v (newV c d cell Z n)) ∧ Below w.heap.size w w' := by
  have HR : Hid (∀ k j, k < n → j < 5 → w.cell? ⟨b, 0 + k * 5 + j, none⟩ = some (.int .i64 (Z k j))) := hr
  clear hr
  obtain ⟨i5, hi5, hzz⟩ := Option.map_eq_some_iff.1 Try.info36
  simp only [Prod.mk.injEq] at hzz
  obtain ⟨hz50, hz51, hz52⟩ := hzz
  cases h1 : hasB c d cell
  · skip
    have E : Hid (newV c d cell Z n = ⟨0, 0, fun _ _ => 0, 0, 0, fun _ => 0, fun _ _ _ => 0, 0, fun _ => 0, 0, fun _ => 0⟩) := by show newV c d cell Z n = _; unfold newV; rw [h1]; rfl
    go_enter Try.func39, Try.ntmps39
    go_wp2_with fail
    obtain ⟨w0, e0⟩ : ∃ w0, w0 = (w.alloc (.cells #[.int .i64 c, .int .i64 d] 33)).alloc (.cells #[.int .i64 0, .slice none 0 0, .int .i64 0, .slice none 0 0, .slice none 0 0, .slice none 0 0] 49) := ⟨_, rfl⟩
    have z0 : w.heap.size + 2 ≤ w0.heap.size := by rw [e0]; simp
    have B0 : Hid (Below w.heap.size w w0) := by rw [e0]; exact ((Below.refl _ _).alloc (by simp) _).alloc (by simp) _
    have M0 : Hid (w0.cell? ⟨w.heap.size, 0, none⟩ = some (.int .i64 c) ∧ w0.cell? ⟨w.heap.size, 1, none⟩ = some (.int .i64 d)) := by rw [e0]; exact two_box w c d _
    have R0 : Hid (Six w0 (w.heap.size + 1) [.int .i64 0, .slice none 0 0, .int .i64 0, .slice none 0 0, .slice none 0 0, .slice none 0 0]) := by rw [e0]; exact six_box2 w _ 33 49 _ _ _ _ _ _
    rw [← e0]
    clear e0
    refine (has_impl _ _ _ _).mono ?_
    rintro e w1 ⟨rfl, hb1⟩
    rw [h1]
    have B1 : Hid (Below w.heap.size w w1) := bthen B0.out hb1
    have M1' : Hid (w1.cell? ⟨w.heap.size, 0, none⟩ = some (.int .i64 c) ∧ w1.cell? ⟨w.heap.size, 1, none⟩ = some (.int .i64 d)) := ⟨(hb1.cell (p := ⟨w.heap.size, 0, none⟩) (by show w.heap.size < _; omega)).trans M0.out.1, (hb1.cell (p := ⟨w.heap.size, 1, none⟩) (by show w.heap.size < _; omega)).trans M0.out.2⟩
    have R1 : Hid (Six w1 (w.heap.size + 1) [.int .i64 0, .slice none 0 0, .int .i64 0, .slice none 0 0, .slice none 0 0, .slice none 0 0]) := R0.out.below (by omega) hb1
    have z1 : w.heap.size + 2 ≤ w1.heap.size := Nat.le_trans z0 hb1.size
    clear hb1 B0 M0 R0
    have r0 := (R1.out 0 (by decide)).1
    have q0 := (R1.out 0 (by decide)).2
    have r1 := (R1.out 1 (by decide)).1
    have q1 := (R1.out 1 (by decide)).2
    have r2 := (R1.out 2 (by decide)).1
    have q2 := (R1.out 2 (by decide)).2
    have r3 := (R1.out 3 (by decide)).1
    have q3 := (R1.out 3 (by decide)).2
    have r4 := (R1.out 4 (by decide)).1
    have q4 := (R1.out 4 (by decide)).2
    have r5 := (R1.out 5 (by decide)).1
    have q5 := (R1.out 5 (by decide)).2
    simp only [List.getD, List.getElem?_cons_zero, List.getElem?_cons_succ, Option.getD_some] at r0 r1 r2 r3 r4 r5
    have lr : w.heap.size + 1 < w1.heap.size := by omega
    go_wp2
    refine bodyPost_ret (v := .agg #[.int .i64 0, .slice none 0 0, .int .i64 0, .slice none 0 0, .slice none 0 0, .slice none 0 0]) (by simp [results, Try.results39, go_sem, r0, r1, r2, r3, r4, r5]) rfl ?_
    exact ⟨⟨_, rfl, by rw [E.out]; exact nothing_own _ _ _⟩, below_put6 B1.out (Nat.le_succ w.heap.size) _ _ _ _ _ _⟩
  cases h2 : allB c d Z n
  · skip
    have E : Hid (newV c d cell Z n = ⟨0, 0, fun _ _ => 0, 0, 0, fun _ => 0, fun _ _ _ => 0, 0, fun _ => 0, 0, fun _ => 0⟩) := by show newV c d cell Z n = _; unfold newV; rw [h1, h2]; rfl
    go_enter Try.func39, Try.ntmps39
    go_wp2_with fail
    obtain ⟨w0, e0⟩ : ∃ w0, w0 = (w.alloc (.cells #[.int .i64 c, .int .i64 d] 33)).alloc (.cells #[.int .i64 0, .slice none 0 0, .int .i64 0, .slice none 0 0, .slice none 0 0, .slice none 0 0] 49) := ⟨_, rfl⟩
    have z0 : w.heap.size + 2 ≤ w0.heap.size := by rw [e0]; simp
    have B0 : Hid (Below w.heap.size w w0) := by rw [e0]; exact ((Below.refl _ _).alloc (by simp) _).alloc (by simp) _
    have M0 : Hid (w0.cell? ⟨w.heap.size, 0, none⟩ = some (.int .i64 c) ∧ w0.cell? ⟨w.heap.size, 1, none⟩ = some (.int .i64 d)) := by rw [e0]; exact two_box w c d _
    have R0 : Hid (Six w0 (w.heap.size + 1) [.int .i64 0, .slice none 0 0, .int .i64 0, .slice none 0 0, .slice none 0 0, .slice none 0 0]) := by rw [e0]; exact six_box2 w _ 33 49 _ _ _ _ _ _
    rw [← e0]
    clear e0
    refine (has_impl _ _ _ _).mono ?_
    rintro e w1 ⟨rfl, hb1⟩
    rw [h1]
    have B1 : Hid (Below w.heap.size w w1) := bthen B0.out hb1
    have M1' : Hid (w1.cell? ⟨w.heap.size, 0, none⟩ = some (.int .i64 c) ∧ w1.cell? ⟨w.heap.size, 1, none⟩ = some (.int .i64 d)) := ⟨(hb1.cell (p := ⟨w.heap.size, 0, none⟩) (by show w.heap.size < _; omega)).trans M0.out.1, (hb1.cell (p := ⟨w.heap.size, 1, none⟩) (by show w.heap.size < _; omega)).trans M0.out.2⟩
    have R1 : Hid (Six w1 (w.heap.size + 1) [.int .i64 0, .slice none 0 0, .int .i64 0, .slice none 0 0, .slice none 0 0, .slice none 0 0]) := R0.out.below (by omega) hb1
    have z1 : w.heap.size + 2 ≤ w1.heap.size := Nat.le_trans z0 hb1.size
    clear hb1 B0 M0 R0
    have m0 : w1.cell? ⟨w.heap.size, 0, none⟩ = some (.int .i64 c) := M1'.out.1
    have m1 : w1.cell? ⟨w.heap.size, 1, none⟩ = some (.int .i64 d) := M1'.out.2
    have lM : w.heap.size < w1.heap.size := by omega
    go_wp2_with fail
    refine (listOk_impl c d b 0 n cap Z hn _ (by omega) (fun k j a1 a2 => (B1.out.cell (p := ⟨b, _, none⟩) hb).trans (HR.out k j a1 a2))).mono ?_
    rintro e w2 ⟨rfl, hb2⟩
    rw [h2]
    have B2 : Hid (Below w.heap.size w w2) := bthen B1.out hb2
    have M2 : Hid (w2.cell? ⟨w.heap.size, 0, none⟩ = some (.int .i64 c) ∧ w2.cell? ⟨w.heap.size, 1, none⟩ = some (.int .i64 d)) := ⟨(hb2.cell (p := ⟨w.heap.size, 0, none⟩) (by show w.heap.size < _; omega)).trans M1'.out.1, (hb2.cell (p := ⟨w.heap.size, 1, none⟩) (by show w.heap.size < _; omega)).trans M1'.out.2⟩
    have R2 : Hid (Six w2 (w.heap.size + 1) [.int .i64 0, .slice none 0 0, .int .i64 0, .slice none 0 0, .slice none 0 0, .slice none 0 0]) := R1.out.below (by omega) hb2
    have z2 : w.heap.size + 2 ≤ w2.heap.size := Nat.le_trans z1 hb2.size
    clear hb2 B1 M1' R1 m0 m1 lM
    have r0 := (R2.out 0 (by decide)).1
    have q0 := (R2.out 0 (by decide)).2
    have r1 := (R2.out 1 (by decide)).1
    have q1 := (R2.out 1 (by decide)).2
    have r2 := (R2.out 2 (by decide)).1
    have q2 := (R2.out 2 (by decide)).2
    have r3 := (R2.out 3 (by decide)).1
    have q3 := (R2.out 3 (by decide)).2
    have r4 := (R2.out 4 (by decide)).1
    have q4 := (R2.out 4 (by decide)).2
    have r5 := (R2.out 5 (by decide)).1
    have q5 := (R2.out 5 (by decide)).2
    simp only [List.getD, List.getElem?_cons_zero, List.getElem?_cons_succ, Option.getD_some] at r0 r1 r2 r3 r4 r5
    have lr : w.heap.size + 1 < w2.heap.size := by omega
    go_wp2
    refine bodyPost_ret (v := .agg #[.int .i64 0, .slice none 0 0, .int .i64 0, .slice none 0 0, .slice none 0 0, .slice none 0 0]) (by simp [results, Try.results39, go_sem, r0, r1, r2, r3, r4, r5]) rfl ?_
    exact ⟨⟨_, rfl, by rw [E.out]; exact nothing_own _ _ _⟩, below_put6 B2.out (Nat.le_succ w.heap.size) _ _ _ _ _ _⟩
  go_enter Try.func39, Try.ntmps39
  go_wp2_with fail
  obtain ⟨w0, e0⟩ : ∃ w0, w0 = (w.alloc (.cells #[.int .i64 c, .int .i64 d] 33)).alloc (.cells #[.int .i64 0, .slice none 0 0, .int .i64 0, .slice none 0 0, .slice none 0 0, .slice none 0 0] 49) := ⟨_, rfl⟩
  have z0 : w.heap.size + 2 ≤ w0.heap.size := by rw [e0]; simp
  have B0 : Hid (Below w.heap.size w w0) := by rw [e0]; exact ((Below.refl _ _).alloc (by simp) _).alloc (by simp) _
  have M0 : Hid (w0.cell? ⟨w.heap.size, 0, none⟩ = some (.int .i64 c) ∧ w0.cell? ⟨w.heap.size, 1, none⟩ = some (.int .i64 d)) := by rw [e0]; exact two_box w c d _
  have R0 : Hid (Six w0 (w.heap.size + 1) [.int .i64 0, .slice none 0 0, .int .i64 0, .slice none 0 0, .slice none 0 0, .slice none 0 0]) := by rw [e0]; exact six_box2 w _ 33 49 _ _ _ _ _ _
  rw [← e0]
  clear e0
  refine (has_impl _ _ _ _).mono ?_
  rintro e w1 ⟨rfl, hb1⟩
  rw [h1]
  have B1 : Hid (Below w.heap.size w w1) := bthen B0.out hb1
  have M1' : Hid (w1.cell? ⟨w.heap.size, 0, none⟩ = some (.int .i64 c) ∧ w1.cell? ⟨w.heap.size, 1, none⟩ = some (.int .i64 d)) := ⟨(hb1.cell (p := ⟨w.heap.size, 0, none⟩) (by show w.heap.size < _; omega)).trans M0.out.1, (hb1.cell (p := ⟨w.heap.size, 1, none⟩) (by show w.heap.size < _; omega)).trans M0.out.2⟩
  have R1 : Hid (Six w1 (w.heap.size + 1) [.int .i64 0, .slice none 0 0, .int .i64 0, .slice none 0 0, .slice none 0 0, .slice none 0 0]) := R0.out.below (by omega) hb1
  have z1 : w.heap.size + 2 ≤ w1.heap.size := Nat.le_trans z0 hb1.size
  clear hb1 B0 M0 R0
  have m0 : w1.cell? ⟨w.heap.size, 0, none⟩ = some (.int .i64 c) := M1'.out.1
  have m1 : w1.cell? ⟨w.heap.size, 1, none⟩ = some (.int .i64 d) := M1'.out.2
  have lM : w.heap.size < w1.heap.size := by omega
  go_wp2_with fail
  refine (listOk_impl c d b 0 n cap Z hn _ (by omega) (fun k j a1 a2 => (B1.out.cell (p := ⟨b, _, none⟩) hb).trans (HR.out k j a1 a2))).mono ?_
  rintro e w2 ⟨rfl, hb2⟩
  rw [h2]
  have B2 : Hid (Below w.heap.size w w2) := bthen B1.out hb2
  have M2 : Hid (w2.cell? ⟨w.heap.size, 0, none⟩ = some (.int .i64 c) ∧ w2.cell? ⟨w.heap.size, 1, none⟩ = some (.int .i64 d)) := ⟨(hb2.cell (p := ⟨w.heap.size, 0, none⟩) (by show w.heap.size < _; omega)).trans M1'.out.1, (hb2.cell (p := ⟨w.heap.size, 1, none⟩) (by show w.heap.size < _; omega)).trans M1'.out.2⟩
  have R2 : Hid (Six w2 (w.heap.size + 1) [.int .i64 0, .slice none 0 0, .int .i64 0, .slice none 0 0, .slice none 0 0, .slice none 0 0]) := R1.out.below (by omega) hb2
  have z2 : w.heap.size + 2 ≤ w2.heap.size := Nat.le_trans z1 hb2.size
  clear hb2 B1 M1' R1 m0 m1 lM
  go_upto_region 3 with fail
  refine wp_region_inv (by kernel_rfl) (by kernel_rfl) (fun L a w' => ∃ u7 u21 u22 u23 u24 u25 : Value, a = ⟨#[.agg #[.int .i64 c, .int .i64 d], .int .i64 cell, .slice (some ⟨b, 0, none⟩) n cap, .pointer (some ⟨w.heap.size, 0, none⟩), undef, undef, .pointer (some ⟨w.heap.size + 1, 0, none⟩), u7, undef, undef, .agg #[.int .i64 c, .int .i64 d], .int .i64 cell, .bool true, .bool false, .bool false, .agg #[.int .i64 c, .int .i64 d], .slice (some ⟨b, 0, none⟩) n cap, .bool true, .bool false, .bool false, undef, u21, u22, u23, u24, u25, undef, undef, undef, undef, undef, undef, undef, undef, undef, undef, undef, undef, undef, undef, undef, undef, undef, undef, undef, undef], []⟩ ∧ (Below w2.heap.size w2 w' ∧ In1 w2.heap.size w' u22 ∧ In1 w2.heap.size w' u23 ∧ In1 w2.heap.size w' u24 ∧ In1 w2.heap.size w' u7 ∧ Ap u22 u23 ∧ Ap u22 u24 ∧ Ap u22 u7 ∧ Ap u23 u24 ∧ Ap u23 u7 ∧ Ap u24 u7 ∧ (L 6 = true → L 1 = true ∧ L 2 = true ∧ L 3 = true ∧ L 5 = true ∧ L 4 = true) ∧ (L 4 = true → L 0 = true ∧ L 1 = true ∧ L 2 = true ∧ L 3 = true)) ∧ (L 0 = true → u21 = .int .i64 cell) ∧ (L 1 = true → ∃ g, u22 = .slice (some ⟨g, 0, none⟩) 2 2 ∧ w'.cell? ⟨g, 0, none⟩ = some (.slice none 0 0) ∧ w'.cell? ⟨g, 1, none⟩ = some (.slice none 0 0) ∧ g < w'.heap.size) ∧ (L 2 = true → ∃ g, u23 = .slice (some ⟨g, 0, none⟩) 2 2 ∧ Own1 w' g 2 (fun _ => 0) 2 ∧ g < w'.heap.size) ∧ (L 3 = true → ∃ g, u24 = .slice (some ⟨g, 0, none⟩) 2 2 ∧ Own1 w' g 2 (fun _ => 0) 2 ∧ g < w'.heap.size) ∧ (L 4 = true → u25 = .agg #[.int .i64 cell, .slice none 0 0, .int .i64 0, u22, u23, u24]) ∧ (L 5 = true → ∃ g, u7 = .pointer (some ⟨g, 0, none⟩) ∧ (∃ l, Six w' g l) ∧ g < w'.heap.size) ∧ (L 6 = true → ∃ g, u7 = .pointer (some ⟨g, 0, none⟩) ∧ Six w' g [.int .i64 cell, .slice none 0 0, .int .i64 0, u22, u23, u24] ∧ g < w'.heap.size)) ?h0 ?hstep ?hdone
  case h0 => exact ⟨undef, undef, undef, undef, undef, undef, rfl, ⟨(Below.refl _ _).drew, in_undef, in_undef, in_undef, in_undef, ap_undef, ap_undef, ap_undef, ap_undef, ap_undef, ap_undef, fun h => absurd h (by simp), fun h => absurd h (by simp)⟩, fun h => absurd h (by simp), fun h => absurd h (by simp), fun h => absurd h (by simp), fun h => absurd h (by simp), fun h => absurd h (by simp), fun h => absurd h (by simp), fun h => absurd h (by simp)⟩
  case hstep =>
    refine ⟨?_, ?_, ?_, ?_, ?_, ?_, ?_, trivial⟩
    · intro L a w' K' hd hL hI hK
      obtain ⟨u7, u21, u22, u23, u24, u25, rfl, ⟨hB, n22, n23, n24, n7, p22_23, p22_24, p22_7, p23_24, p23_7, p24_7, hP6, hP4⟩, h0, h1, h2, h3, h4, h5, h6⟩ := hI
      go_simp
      exact hK.out _ _ ⟨_, _, _, _, _, _, rfl, ⟨hB, n22, n23, n24, n7, p22_23, p22_24, p22_7, p23_24, p23_7, p24_7, keepL (by decide) (fun e => match hP6 e with | ⟨a1, a2, a3, a5, a4⟩ => ⟨mark1_true a1, mark1_true a2, mark1_true a3, mark1_true a5, mark1_true a4⟩), keepL (by decide) (fun e => match hP4 e with | ⟨a0, a1, a2, a3⟩ => ⟨mark1_true a0, mark1_true a1, mark1_true a2, mark1_true a3⟩)⟩, fun _ => rfl, keepL (by decide) h1, keepL (by decide) h2, keepL (by decide) h3, keepL (by decide) (fun e => absurd (hP4 e).1 (by simp [hL])), keepL (by decide) h5, keepL (by decide) h6⟩
    · intro L a w' K' hd hL hI hK
      obtain ⟨u7, u21, u22, u23, u24, u25, rfl, ⟨hB, n22, n23, n24, n7, p22_23, p22_24, p22_7, p23_24, p23_7, p24_7, hP6, hP4⟩, h0, h1, h2, h3, h4, h5, h6⟩ := hI
      have hmk : (Instr.makeSlice 46 (.int .i64 2) (.int .i64 2)).run Try.prog w' = .ok (.slice (some ⟨w'.heap.size, 0, none⟩) 2 2) (w'.alloc (.cells (madeCells #[.slice none 0 0] (2 * 1)) 97)) := makeO 2 (by decide) w'
      go_simp
      exact hK.out _ _ ⟨_, _, _, _, _, _, rfl, ⟨hB.alloc hB.size _, new_in rfl hB.size, n23.up (by simp), n24.up (by simp), n7.up (by simp), ap_new_l rfl n23, ap_new_l rfl n24, ap_new_l rfl n7, p23_24, p23_7, p24_7, keepL (by decide) (fun e => match hP6 e with | ⟨a1, a2, a3, a5, a4⟩ => ⟨mark1_true a1, mark1_true a2, mark1_true a3, mark1_true a5, mark1_true a4⟩), keepL (by decide) (fun e => match hP4 e with | ⟨a0, a1, a2, a3⟩ => ⟨mark1_true a0, mark1_true a1, mark1_true a2, mark1_true a3⟩)⟩, keepL (by decide) h0, fun _ => ⟨w'.heap.size, rfl, (nils_zero w').1, (nils_zero w').2, by simp⟩, keepL (by decide) (fun e => match (h2 e) with | ⟨g, e1, e2, e3⟩ => ⟨g, e1, own1_below e2 e3 ((Below.refl _ _).alloc (Nat.le_refl _) _), by simp; omega⟩), keepL (by decide) (fun e => match (h3 e) with | ⟨g, e1, e2, e3⟩ => ⟨g, e1, own1_below e2 e3 ((Below.refl _ _).alloc (Nat.le_refl _) _), by simp; omega⟩), keepL (by decide) (fun e => absurd (hP4 e).2.1 (by simp [hL])), keepL (by decide) (fun e => match (h5 e) with | ⟨g, e1, ⟨l, e2⟩, e3⟩ => ⟨g, e1, ⟨l, e2.below e3 ((Below.refl _ _).alloc (Nat.le_refl _) _)⟩, by simp; omega⟩), keepL (by decide) (fun e => absurd (hP6 e).1 (by simp [hL]))⟩
    · intro L a w' K' hd hL hI hK
      obtain ⟨u7, u21, u22, u23, u24, u25, rfl, ⟨hB, n22, n23, n24, n7, p22_23, p22_24, p22_7, p23_24, p23_7, p24_7, hP6, hP4⟩, h0, h1, h2, h3, h4, h5, h6⟩ := hI
      have hmk : (Instr.makeSlice 47 (.int .i64 2) (.int .i64 2)).run Try.prog w' = .ok (.slice (some ⟨w'.heap.size, 0, none⟩) 2 2) (w'.alloc (.cells (madeCells #[.int .i64 0] (2 * 1)) 3)) := make1 2 (by decide) w'
      go_simp
      exact hK.out _ _ ⟨_, _, _, _, _, _, rfl, ⟨hB.alloc hB.size _, n22.up (by simp), new_in rfl hB.size, n24.up (by simp), n7.up (by simp), ap_new_r rfl n22, p22_24, p22_7, ap_new_l rfl n24, ap_new_l rfl n7, p24_7, keepL (by decide) (fun e => match hP6 e with | ⟨a1, a2, a3, a5, a4⟩ => ⟨mark1_true a1, mark1_true a2, mark1_true a3, mark1_true a5, mark1_true a4⟩), keepL (by decide) (fun e => match hP4 e with | ⟨a0, a1, a2, a3⟩ => ⟨mark1_true a0, mark1_true a1, mark1_true a2, mark1_true a3⟩)⟩, keepL (by decide) h0, keepL (by decide) (fun e => match (h1 e) with | ⟨g, e1, e2, e3, e4⟩ => ⟨g, e1, (((Below.refl _ _).alloc (Nat.le_refl _) _).cell (p := ⟨g, 0, none⟩) e4).trans e2, (((Below.refl _ _).alloc (Nat.le_refl _) _).cell (p := ⟨g, 1, none⟩) e4).trans e3, by simp; omega⟩), fun _ => ⟨w'.heap.size, rfl, own1_zero w', by simp⟩, keepL (by decide) (fun e => match (h3 e) with | ⟨g, e1, e2, e3⟩ => ⟨g, e1, own1_below e2 e3 ((Below.refl _ _).alloc (Nat.le_refl _) _), by simp; omega⟩), keepL (by decide) (fun e => absurd (hP4 e).2.2.1 (by simp [hL])), keepL (by decide) (fun e => match (h5 e) with | ⟨g, e1, ⟨l, e2⟩, e3⟩ => ⟨g, e1, ⟨l, e2.below e3 ((Below.refl _ _).alloc (Nat.le_refl _) _)⟩, by simp; omega⟩), keepL (by decide) (fun e => absurd (hP6 e).2.1 (by simp [hL]))⟩
    · intro L a w' K' hd hL hI hK
      obtain ⟨u7, u21, u22, u23, u24, u25, rfl, ⟨hB, n22, n23, n24, n7, p22_23, p22_24, p22_7, p23_24, p23_7, p24_7, hP6, hP4⟩, h0, h1, h2, h3, h4, h5, h6⟩ := hI
      have hmk : (Instr.makeSlice 47 (.int .i64 2) (.int .i64 2)).run Try.prog w' = .ok (.slice (some ⟨w'.heap.size, 0, none⟩) 2 2) (w'.alloc (.cells (madeCells #[.int .i64 0] (2 * 1)) 3)) := make1 2 (by decide) w'
      go_simp
      exact hK.out _ _ ⟨_, _, _, _, _, _, rfl, ⟨hB.alloc hB.size _, n22.up (by simp), n23.up (by simp), new_in rfl hB.size, n7.up (by simp), p22_23, ap_new_r rfl n22, p22_7, ap_new_r rfl n23, p23_7, ap_new_l rfl n7, keepL (by decide) (fun e => match hP6 e with | ⟨a1, a2, a3, a5, a4⟩ => ⟨mark1_true a1, mark1_true a2, mark1_true a3, mark1_true a5, mark1_true a4⟩), keepL (by decide) (fun e => match hP4 e with | ⟨a0, a1, a2, a3⟩ => ⟨mark1_true a0, mark1_true a1, mark1_true a2, mark1_true a3⟩)⟩, keepL (by decide) h0, keepL (by decide) (fun e => match (h1 e) with | ⟨g, e1, e2, e3, e4⟩ => ⟨g, e1, (((Below.refl _ _).alloc (Nat.le_refl _) _).cell (p := ⟨g, 0, none⟩) e4).trans e2, (((Below.refl _ _).alloc (Nat.le_refl _) _).cell (p := ⟨g, 1, none⟩) e4).trans e3, by simp; omega⟩), keepL (by decide) (fun e => match (h2 e) with | ⟨g, e1, e2, e3⟩ => ⟨g, e1, own1_below e2 e3 ((Below.refl _ _).alloc (Nat.le_refl _) _), by simp; omega⟩), fun _ => ⟨w'.heap.size, rfl, own1_zero w', by simp⟩, keepL (by decide) (fun e => absurd (hP4 e).2.2.2 (by simp [hL])), keepL (by decide) (fun e => match (h5 e) with | ⟨g, e1, ⟨l, e2⟩, e3⟩ => ⟨g, e1, ⟨l, e2.below e3 ((Below.refl _ _).alloc (Nat.le_refl _) _)⟩, by simp; omega⟩), keepL (by decide) (fun e => absurd (hP6 e).2.2.1 (by simp [hL]))⟩
    · intro L a w' K' hd hL hI hK
      obtain ⟨u7, u21, u22, u23, u24, u25, rfl, ⟨hB, n22, n23, n24, n7, p22_23, p22_24, p22_7, p23_24, p23_7, p24_7, hP6, hP4⟩, h0, h1, h2, h3, h4, h5, h6⟩ := hI
      obtain rfl := h0 (hd ⟨0, .data⟩ (by simp) rfl)
      obtain ⟨g1, rfl, e1⟩ := h1 (hd ⟨1, .data⟩ (by simp) rfl)
      obtain ⟨g2, rfl, e2⟩ := h2 (hd ⟨2, .data⟩ (by simp) rfl)
      obtain ⟨g3, rfl, e3⟩ := h3 (hd ⟨3, .data⟩ (by simp) rfl)
      go_simp
      exact hK.out _ _ ⟨_, _, _, _, _, _, rfl, ⟨hB, n22, n23, n24, n7, p22_23, p22_24, p22_7, p23_24, p23_7, p24_7, keepL (by decide) (fun e => match hP6 e with | ⟨a1, a2, a3, a5, a4⟩ => ⟨mark1_true a1, mark1_true a2, mark1_true a3, mark1_true a5, mark1_true a4⟩), fun _ => ⟨mark1_true (hd ⟨0, .data⟩ (by simp) rfl), mark1_true (hd ⟨1, .data⟩ (by simp) rfl), mark1_true (hd ⟨2, .data⟩ (by simp) rfl), mark1_true (hd ⟨3, .data⟩ (by simp) rfl)⟩⟩, keepL (by decide) (fun _ => rfl), keepL (by decide) (fun _ => ⟨g1, rfl, e1⟩), keepL (by decide) (fun _ => ⟨g2, rfl, e2⟩), keepL (by decide) (fun _ => ⟨g3, rfl, e3⟩), fun _ => rfl, keepL (by decide) h5, keepL (by decide) h6⟩
    · intro L a w' K' hd hL hI hK
      obtain ⟨u7, u21, u22, u23, u24, u25, rfl, ⟨hB, n22, n23, n24, n7, p22_23, p22_24, p22_7, p23_24, p23_7, p24_7, hP6, hP4⟩, h0, h1, h2, h3, h4, h5, h6⟩ := hI
      go_simp
      exact hK.out _ _ ⟨_, _, _, _, _, _, rfl, ⟨hB.alloc hB.size _, n22.up (by simp), n23.up (by simp), n24.up (by simp), new_in rfl hB.size, p22_23, p22_24, ap_new_r rfl n22, p23_24, ap_new_r rfl n23, ap_new_r rfl n24, keepL (by decide) (fun e => match hP6 e with | ⟨a1, a2, a3, a5, a4⟩ => ⟨mark1_true a1, mark1_true a2, mark1_true a3, mark1_true a5, mark1_true a4⟩), keepL (by decide) (fun e => match hP4 e with | ⟨a0, a1, a2, a3⟩ => ⟨mark1_true a0, mark1_true a1, mark1_true a2, mark1_true a3⟩)⟩, keepL (by decide) h0, keepL (by decide) (fun e => match (h1 e) with | ⟨g, e1, e2, e3, e4⟩ => ⟨g, e1, (((Below.refl _ _).alloc (Nat.le_refl _) _).cell (p := ⟨g, 0, none⟩) e4).trans e2, (((Below.refl _ _).alloc (Nat.le_refl _) _).cell (p := ⟨g, 1, none⟩) e4).trans e3, by simp; omega⟩), keepL (by decide) (fun e => match (h2 e) with | ⟨g, e1, e2, e3⟩ => ⟨g, e1, own1_below e2 e3 ((Below.refl _ _).alloc (Nat.le_refl _) _), by simp; omega⟩), keepL (by decide) (fun e => match (h3 e) with | ⟨g, e1, e2, e3⟩ => ⟨g, e1, own1_below e2 e3 ((Below.refl _ _).alloc (Nat.le_refl _) _), by simp; omega⟩), keepL (by decide) h4, fun _ => ⟨w'.heap.size, rfl, ⟨_, six_new w' 49 _ _ _ _ _ _⟩, by simp⟩, keepL (by decide) (fun e => absurd (hP6 e).2.2.2.1 (by simp [hL]))⟩
    · intro L a w' K' hd hL hI hK
      obtain ⟨u7, u21, u22, u23, u24, u25, rfl, ⟨hB, n22, n23, n24, n7, p22_23, p22_24, p22_7, p23_24, p23_7, p24_7, hP6, hP4⟩, h0, h1, h2, h3, h4, h5, h6⟩ := hI
      obtain rfl := h4 (hd ⟨4, .data⟩ (by simp) rfl)
      obtain ⟨g7, rfl, ⟨l7, s7⟩, hg7⟩ := h5 (hd ⟨5, .data⟩ (by simp) rfl)
      obtain ⟨b0, b1, b2, b3⟩ := hP4 (hd ⟨4, .data⟩ (by simp) rfl)
      obtain rfl := h0 b0
      obtain ⟨g1, rfl, e1⟩ := h1 b1
      obtain ⟨g2, rfl, e2⟩ := h2 b2
      obtain ⟨g3, rfl, e3⟩ := h3 b3
      have c0 := (s7 0 (by decide)).1
      have f0 := (s7 0 (by decide)).2
      have c1 := (s7 1 (by decide)).1
      have f1 := (s7 1 (by decide)).2
      have c2 := (s7 2 (by decide)).1
      have f2 := (s7 2 (by decide)).2
      have c3 := (s7 3 (by decide)).1
      have f3 := (s7 3 (by decide)).2
      have c4 := (s7 4 (by decide)).1
      have f4 := (s7 4 (by decide)).2
      have c5 := (s7 5 (by decide)).1
      have f5 := (s7 5 (by decide)).2
      go_simp
      have hset := six_put s7 (.int .i64 cell) (.slice none 0 0) (.int .i64 0) (.slice (some ⟨g1, 0, none⟩) 2 2) (.slice (some ⟨g2, 0, none⟩) 2 2) (.slice (some ⟨g3, 0, none⟩) 2 2)
      have hle : w2.heap.size ≤ g7 := (n7 g7 rfl).1
      have x1 : ¬ g7 = g1 := fun e => p22_7 g1 g7 rfl rfl e.symm
      have x2 : ¬ g7 = g2 := fun e => p23_7 g2 g7 rfl rfl e.symm
      have x3 : ¬ g7 = g3 := fun e => p24_7 g3 g7 rfl rfl e.symm
      obtain ⟨y1, y2, y3⟩ := e1
      obtain ⟨o2, l2⟩ := e2
      obtain ⟨o3, l3⟩ := e3
      have hz6 := size_put6 w' g7 (.int .i64 cell) (.slice none 0 0) (.int .i64 0) (.slice (some ⟨g1, 0, none⟩) 2 2) (.slice (some ⟨g2, 0, none⟩) 2 2) (.slice (some ⟨g3, 0, none⟩) 2 2)
      exact hK.out _ _ ⟨_, _, _, _, _, _, rfl, ⟨below_put6 hB hle _ _ _ _ _ _, n22.up (Nat.le_of_eq hz6.symm), n23.up (Nat.le_of_eq hz6.symm), n24.up (Nat.le_of_eq hz6.symm), n7.up (Nat.le_of_eq hz6.symm), p22_23, p22_24, p22_7, p23_24, p23_7, p24_7, fun _ => match hP4 (hd ⟨4, .data⟩ (by simp) rfl) with | ⟨a0, a1, a2, a3⟩ => ⟨mark1_true a1, mark1_true a2, mark1_true a3, mark1_true (hd ⟨5, .data⟩ (by simp) rfl), mark1_true (hd ⟨4, .data⟩ (by simp) rfl)⟩, keepL (by decide) (fun e => match hP4 e with | ⟨a0, a1, a2, a3⟩ => ⟨mark1_true a0, mark1_true a1, mark1_true a2, mark1_true a3⟩)⟩, keepL (by decide) (fun _ => rfl), keepL (by decide) (fun _ => ⟨g1, rfl, ((sm_put6 x1 _ _ _ _ _ _ 0).1).trans y1, ((sm_put6 x1 _ _ _ _ _ _ 1).1).trans y2, Nat.lt_of_lt_of_eq y3 hz6.symm⟩), keepL (by decide) (fun _ => ⟨g2, rfl, own1_sm o2 (sm_put6 x2 _ _ _ _ _ _), Nat.lt_of_lt_of_eq l2 hz6.symm⟩), keepL (by decide) (fun _ => ⟨g3, rfl, own1_sm o3 (sm_put6 x3 _ _ _ _ _ _), Nat.lt_of_lt_of_eq l3 hz6.symm⟩), keepL (by decide) (fun _ => rfl), keepL (by decide) (fun _ => ⟨g7, rfl, ⟨_, hset⟩, Nat.lt_of_lt_of_eq hg7 hz6.symm⟩), fun _ => ⟨g7, rfl, hset, Nat.lt_of_lt_of_eq hg7 hz6.symm⟩⟩
  case hdone =>
    intro L a w' hL hI
    obtain ⟨u7, u21, u22, u23, u24, u25, rfl, ⟨hB, n22, n23, n24, n7, p22_23, p22_24, p22_7, p23_24, p23_7, p24_7, hP6, hP4⟩, h0, h1, h2, h3, h4, h5, h6⟩ := hI
    obtain ⟨g7, rfl, s7, hg7⟩ := h6 (hL 6 (by decide))
    obtain ⟨g1, rfl, y1, y2, y3⟩ := h1 (hL 1 (by decide))
    obtain ⟨g2, rfl, o2, l2⟩ := h2 (hL 2 (by decide))
    obtain ⟨g3, rfl, o3, l3⟩ := h3 (hL 3 (by decide))
    have X12 : ¬ g1 = g2 := p22_23 g1 g2 rfl rfl
    have X13 : ¬ g1 = g3 := p22_24 g1 g3 rfl rfl
    have X17 : ¬ g1 = g7 := p22_7 g1 g7 rfl rfl
    have X23 : ¬ g2 = g3 := p23_24 g2 g3 rfl rfl
    have X27 : ¬ g2 = g7 := p23_7 g2 g7 rfl rfl
    have X37 : ¬ g3 = g7 := p24_7 g3 g7 rfl rfl
    have L1 : w2.heap.size ≤ g1 := (n22 g1 rfl).1
    have L2 : w2.heap.size ≤ g2 := (n23 g2 rfl).1
    have L3 : w2.heap.size ≤ g3 := (n24 g3 rfl).1
    have L7 : w2.heap.size ≤ g7 := (n7 g7 rfl).1
    clear h0 h1 h2 h3 h4 h5 h6 hL n22 n23 n24 n7 p22_23 p22_24 p22_7 p23_24 p23_7 p24_7 hP6 hP4
    generalize w' = w3 at *
    have B3 : Hid (Below w.heap.size w w3) := bthen B2.out hB
    have z3 : w2.heap.size ≤ w3.heap.size := hB.size
    have M3 : Hid (w3.cell? ⟨w.heap.size, 0, none⟩ = some (.int .i64 c) ∧ w3.cell? ⟨w.heap.size, 1, none⟩ = some (.int .i64 d)) := ⟨(hB.cell (p := ⟨w.heap.size, 0, none⟩) (by show w.heap.size < _; omega)).trans M2.out.1, (hB.cell (p := ⟨w.heap.size, 1, none⟩) (by show w.heap.size < _; omega)).trans M2.out.2⟩
    have R3 : Hid (Six w3 (w.heap.size + 1) [.int .i64 0, .slice none 0 0, .int .i64 0, .slice none 0 0, .slice none 0 0, .slice none 0 0]) := R2.out.below (by omega) hB
    have S3 : Hid (Six w3 g7 [.int .i64 cell, .slice none 0 0, .int .i64 0, .slice (some ⟨g1, 0, none⟩) 2 2, .slice (some ⟨g2, 0, none⟩) 2 2, .slice (some ⟨g3, 0, none⟩) 2 2]) := s7
    have N1 : Hid (w3.cell? ⟨g1, 0, none⟩ = some (.slice none 0 0) ∧ w3.cell? ⟨g1, 1, none⟩ = some (.slice none 0 0)) := ⟨y1, y2⟩
    have O2 : Hid (Own1 w3 g2 2 (fun _ => 0) 2) := o2
    have O3 : Hid (Own1 w3 g3 2 (fun _ => 0) 2) := o3
    clear hB B2 M2 R2 s7 y1 y2 o2 o3
    go_wp2
    go_loopw [28] (fun i wr => ∃ (k : Nat) (v : Value), k ≤ n ∧ i = .int .i64 k ∧ Six wr g7 [.int .i64 cell, v, .int .i64 0, .slice (some ⟨g1, 0, none⟩) 2 2, .slice (some ⟨g2, 0, none⟩) 2 2, .slice (some ⟨g3, 0, none⟩) 2 2] ∧ wr.ownsRow w3.heap.size 36 5 v (inL c d cell Z k).length ((inL c d cell Z k).flatMap (five5 Z)) ∧ (∀ x, x < w3.heap.size → ¬ x = g7 → Sm w3 wr x) ∧ w3.heap.size ≤ wr.heap.size ∧ Below w.heap.size w wr) (fun i _ => n - (intOf i).toNat)
    case atStart => exact ⟨0, _, Nat.zero_le _, rfl, S3.out, ⟨rfl, .inl ⟨rfl, rfl⟩⟩, fun x _ _ => Sm.refl _ _, Nat.le_refl _, B3.out⟩
    case round =>
      obtain ⟨k, v, hk, rfl, hsix, hown, hsm, hsz, hbel⟩ := hrel
      obtain ⟨va, vl, vc, hvv⟩ := own_shape hown
      subst hvv
      have SX : Hid (Six wr g7 [.int .i64 cell, .slice va vl vc, .int .i64 0, .slice (some ⟨g1, 0, none⟩) 2 2, .slice (some ⟨g2, 0, none⟩) 2 2, .slice (some ⟨g3, 0, none⟩) 2 2]) := hsix
      have OW : Hid (wr.ownsRow w3.heap.size 36 5 (.slice va vl vc) (inL c d cell Z k).length ((inL c d cell Z k).flatMap (five5 Z))) := hown
      have SM : Hid (∀ x, x < w3.heap.size → ¬ x = g7 → Sm w3 wr x) := hsm
      have BL : Hid (Below w.heap.size w wr) := hbel
      have hlen : (inL c d cell Z k).length ≤ k := inL_len c d cell Z k
      have m0 : wr.cell? ⟨w.heap.size, 0, none⟩ = some (.int .i64 c) := ((hsm w.heap.size (by omega) (by omega)) 0).1.trans M3.out.1
      have m1 : wr.cell? ⟨w.heap.size, 1, none⟩ = some (.int .i64 d) := ((hsm w.heap.size (by omega) (by omega)) 1).1.trans M3.out.2
      have lM : w.heap.size < wr.heap.size := by omega
      clear hsix hown hsm hbel
      by_cases hkn : k < n
      · have hkn' : (k : Int) < n := by omega
        have c0 : wr.cell? ⟨b, k * 5, none⟩ = some (.int .i64 (Z k 0)) := by have := (BL.out.cell (p := ⟨b, 0 + k * 5 + 0, none⟩) hb).trans (HR.out k 0 hkn (by omega)); simpa using this
        have c1 : wr.cell? ⟨b, k * 5 + 1, none⟩ = some (.int .i64 (Z k 1)) := by have := (BL.out.cell (p := ⟨b, 0 + k * 5 + 1, none⟩) hb).trans (HR.out k 1 hkn (by omega)); simpa using this
        have c2 : wr.cell? ⟨b, k * 5 + 2, none⟩ = some (.int .i64 (Z k 2)) := by have := (BL.out.cell (p := ⟨b, 0 + k * 5 + 2, none⟩) hb).trans (HR.out k 2 hkn (by omega)); simpa using this
        have c3 : wr.cell? ⟨b, k * 5 + 3, none⟩ = some (.int .i64 (Z k 3)) := by have := (BL.out.cell (p := ⟨b, 0 + k * 5 + 3, none⟩) hb).trans (HR.out k 3 hkn (by omega)); simpa using this
        have c4 : wr.cell? ⟨b, k * 5 + 4, none⟩ = some (.int .i64 (Z k 4)) := by have := (BL.out.cell (p := ⟨b, 0 + k * 5 + 4, none⟩) hb).trans (HR.out k 4 hkn (by omega)); simpa using this
        have lb : b < wr.heap.size := by omega
        cases hp : (cellF c d (Z k 1) == cell)
        · go_wp2_with fail
          refine (plcCell_impl _ _ _ _).mono ?_
          rintro e w4 ⟨rfl, hb4⟩
          have hb5 : Below wr.heap.size wr w4 := bthen ((Below.refl _ _).alloc (Nat.le_refl _) _) hb4
          have SX4 : Hid (Six w4 g7 [.int .i64 cell, .slice va vl vc, .int .i64 0, .slice (some ⟨g1, 0, none⟩) 2 2, .slice (some ⟨g2, 0, none⟩) 2 2, .slice (some ⟨g3, 0, none⟩) 2 2]) := SX.out.below (by omega) hb5
          have OW4 : Hid (w4.ownsRow w3.heap.size 36 5 (.slice va vl vc) (inL c d cell Z (k + 1)).length ((inL c d cell Z (k + 1)).flatMap (five5 Z))) := by rw [show inL c d cell Z (k + 1) = inL c d cell Z k from inL_no hp]; exact World.ownsRow.kept OW.out (P8.grown_of_below hb5) (by cases e : (Value.slice va vl vc).ownBlock <;> simp)
          have SM4 : Hid (∀ x, x < w3.heap.size → ¬ x = g7 → Sm w3 w4 x) := fun x hx hne => (SM.out x hx hne).trans (sm_below hb5 (by omega))
          have BL4 : Hid (Below w.heap.size w w4) := bthen BL.out hb5
          have z4 : w3.heap.size ≤ w4.heap.size := Nat.le_trans hsz hb5.size
          clear hb4 hb5 SX OW SM BL
          go_wp2
          go_roundw
          case rel => exact ⟨k + 1, _, by omega, by go_num, SX4.out, OW4.out, SM4.out, z4, BL4.out⟩
          case measure => simp [intOf]; omega
        · go_wp2_with fail
          refine (plcCell_impl _ _ _ _).mono ?_
          rintro e w4 ⟨rfl, hb4⟩
          have hb5 : Below wr.heap.size wr w4 := bthen ((Below.refl _ _).alloc (Nat.le_refl _) _) hb4
          have SX4 : Hid (Six w4 g7 [.int .i64 cell, .slice va vl vc, .int .i64 0, .slice (some ⟨g1, 0, none⟩) 2 2, .slice (some ⟨g2, 0, none⟩) 2 2, .slice (some ⟨g3, 0, none⟩) 2 2]) := SX.out.below (by omega) hb5
          have OW4 : Hid (w4.ownsRow w3.heap.size 36 5 (.slice va vl vc) (inL c d cell Z k).length ((inL c d cell Z k).flatMap (five5 Z))) := World.ownsRow.kept OW.out (P8.grown_of_below hb5) (by cases e : (Value.slice va vl vc).ownBlock <;> simp)
          have SM4 : Hid (∀ x, x < w3.heap.size → ¬ x = g7 → Sm w3 w4 x) := fun x hx hne => (SM.out x hx hne).trans (sm_below hb5 (by omega))
          have BL4 : Hid (Below w.heap.size w w4) := bthen BL.out hb5
          have z4 : w3.heap.size ≤ w4.heap.size := Nat.le_trans hsz hb5.size
          have t0 : w4.cell? ⟨wr.heap.size, 0, none⟩ = some (.int .i64 (Z k 0)) := (hb4.cell (p := ⟨wr.heap.size, 0, none⟩) (by simp)).trans (by simp)
          have t1 : w4.cell? ⟨wr.heap.size, 1, none⟩ = some (.int .i64 (Z k 1)) := (hb4.cell (p := ⟨wr.heap.size, 1, none⟩) (by simp)).trans (by simp)
          have t2 : w4.cell? ⟨wr.heap.size, 2, none⟩ = some (.int .i64 (Z k 2)) := (hb4.cell (p := ⟨wr.heap.size, 2, none⟩) (by simp)).trans (by simp)
          have t3 : w4.cell? ⟨wr.heap.size, 3, none⟩ = some (.int .i64 (Z k 3)) := (hb4.cell (p := ⟨wr.heap.size, 3, none⟩) (by simp)).trans (by simp)
          have t4 : w4.cell? ⟨wr.heap.size, 4, none⟩ = some (.int .i64 (Z k 4)) := (hb4.cell (p := ⟨wr.heap.size, 4, none⟩) (by simp)).trans (by simp)
          have lt4 : wr.heap.size < w4.heap.size := by have := hb4.size; simp at this; omega
          have lg7 : g7 < w4.heap.size := by omega
          have f1 : w4.cell? ⟨g7, 1, none⟩ = some (.slice va vl vc) := (SX4.out 1 (by decide)).1
          have hW4 := OW4.out
          clear hb4 hb5 SX OW SM BL c0 c1 c2 c3 c4 m0 m1
          go_wp2_with (at_builtin; refine wpList_append_own _ rfl _ _ 45 rfl w3.heap.size 36 i5 (.agg #[.int .i64 0, .int .i64 0, .int .i64 0, .int .i64 0, .int .i64 0]) 5 40 Try.underlying45 hi5 hz50 hz51 hz52 rfl (by decide) _ _ _ rfl (hW4.alloc _) ⟨w4.heap.size, 0, none⟩ 1 1 (five5 Z k) rfl rfl ?d1 ?d2 ?d3 ?d4 ?d5 ?_)
          case d1 =>
            intro j u hj
            match j, hj with
            | 0, hj => simp [five5] at hj; subst hj; simp [Addr.add]
            | 1, hj => simp [five5] at hj; subst hj; simp [Addr.add]
            | 2, hj => simp [five5] at hj; subst hj; simp [Addr.add]
            | 3, hj => simp [five5] at hj; subst hj; simp [Addr.add]
            | 4, hj => simp [five5] at hj; subst hj; simp [Addr.add]
            | j + 5, hj => simp [five5] at hj
          case d2 => intro u hu; simp [five5] at hu; rcases hu with rfl | rfl | rfl | rfl | rfl <;> rfl
          case d3 => unfold maxLen; omega
          case d4 => omega
          case d5 => simp; omega
          · intro v' w5 hown' hg5 hnil
            obtain ⟨xa, xl, xc, hxx⟩ := own_shape hown'
            subst hxx
            have hall := (World.grownBy_alloc w4 _ _).trans hg5
            have hz5 : w4.heap.size ≤ w5.heap.size := hall.size
            have hlow : ∀ kk, (Value.slice va vl vc).ownBlock = some kk → w3.heap.size ≤ kk := fun kk e => (OW4.out.lt kk e).1
            have hfar : ∀ x, x < w3.heap.size → Sm w4 w5 x := fun x hx => sm_grown hall (by omega) (fun e => by have := hlow x e.symm; omega)
            have SX5 : Hid (Six w5 g7 [.int .i64 cell, .slice va vl vc, .int .i64 0, .slice (some ⟨g1, 0, none⟩) 2 2, .slice (some ⟨g2, 0, none⟩) 2 2, .slice (some ⟨g3, 0, none⟩) 2 2]) := fun i hi => by have h1 := hfar g7 (by omega) i; rw [h1.1, h1.2]; exact SX4.out i hi
            have SX6 : Hid (Six (w5.setCell ⟨g7, 1, none⟩ (.slice xa xl xc)) g7 [.int .i64 cell, .slice xa xl xc, .int .i64 0, .slice (some ⟨g1, 0, none⟩) 2 2, .slice (some ⟨g2, 0, none⟩) 2 2, .slice (some ⟨g3, 0, none⟩) 2 2]) := SX5.out.set (j := 1) (v := (.slice xa xl xc)) rfl (by decide)
            have OW6 : Hid ((w5.setCell ⟨g7, 1, none⟩ (.slice xa xl xc)).ownsRow w3.heap.size 36 5 (.slice xa xl xc) (inL c d cell Z (k + 1)).length ((inL c d cell Z (k + 1)).flatMap (five5 Z))) := by
              unfold Hid
              rw [inL_yes hp, List.length_append, List.flatMap_append]
              refine World.ownsRow.kept ?_ (P8.set_grown w5 g7 1 (.slice xa xl xc)).1 ?_
              · simpa using hown'
              · cases e : (Value.slice xa xl xc).ownBlock with
                | none => exact .inl rfl
                | some kk => exact .inr (fun e2 => by have := (hown'.lt kk e).1; injection e2 with e2; omega)
            have SM6 : Hid (∀ x, x < w3.heap.size → ¬ x = g7 → Sm w3 (w5.setCell ⟨g7, 1, none⟩ (.slice xa xl xc)) x) := fun x hx hne => ((SM4.out x hx hne).trans (hfar x hx)).trans (fun o => ⟨set_out (fun e => hne e.1.symm), set_frozen⟩)
            have BL6 : Hid (Below w.heap.size w (w5.setCell ⟨g7, 1, none⟩ (.slice xa xl xc))) := (BL4.out.grown hall (by omega) (fun kk e => by have := hlow kk e; omega)).setCell (by show w.heap.size ≤ g7; omega) _
            have e1 := (SX5.out 1 (by decide)).1
            have e1f := (SX5.out 1 (by decide)).2
            have lg8 : g7 < w5.heap.size := by omega
            have z6 : w3.heap.size ≤ (w5.setCell ⟨g7, 1, none⟩ (.slice xa xl xc)).heap.size := by rw [set_size]; omega
            clear hown' hg5 hnil hall hlow hfar hW4 OW4 SM4 BL4 SX4 SX5 t0 t1 t2 t3 t4 f1
            go_wp2
            go_roundw
            case rel => exact ⟨k + 1, _, by omega, by go_num, SX6.out, OW6.out, SM6.out, z6, BL6.out⟩
            case measure => simp [intOf]; omega
      · have hkk : k = n := by omega
        subst hkk
        have RR : Hid (Six wr (w.heap.size + 1) [.int .i64 0, .slice none 0 0, .int .i64 0, .slice none 0 0, .slice none 0 0, .slice none 0 0]) := fun i hi => by have h1 := SM.out (w.heap.size + 1) (by omega) (by omega) i; rw [h1.1, h1.2]; exact R3.out i hi
        have y0 : wr.cell? ⟨g7, 0, none⟩ = some (.int .i64 cell) := (SX.out 0 (by decide)).1
        have y1 : wr.cell? ⟨g7, 1, none⟩ = some (.slice va vl vc) := (SX.out 1 (by decide)).1
        have y2 : wr.cell? ⟨g7, 2, none⟩ = some (.int .i64 0) := (SX.out 2 (by decide)).1
        have y3 : wr.cell? ⟨g7, 3, none⟩ = some (.slice (some ⟨g1, 0, none⟩) 2 2) := (SX.out 3 (by decide)).1
        have y4 : wr.cell? ⟨g7, 4, none⟩ = some (.slice (some ⟨g2, 0, none⟩) 2 2) := (SX.out 4 (by decide)).1
        have y5 : wr.cell? ⟨g7, 5, none⟩ = some (.slice (some ⟨g3, 0, none⟩) 2 2) := (SX.out 5 (by decide)).1
        have r0 : wr.cell? ⟨w.heap.size + 1, 0, none⟩ = some (.int .i64 0) := (RR.out 0 (by decide)).1
        have q0 : wr.frozen? ⟨w.heap.size + 1, 0, none⟩ = false := (RR.out 0 (by decide)).2
        have r1 : wr.cell? ⟨w.heap.size + 1, 1, none⟩ = some (.slice none 0 0) := (RR.out 1 (by decide)).1
        have q1 : wr.frozen? ⟨w.heap.size + 1, 1, none⟩ = false := (RR.out 1 (by decide)).2
        have r2 : wr.cell? ⟨w.heap.size + 1, 2, none⟩ = some (.int .i64 0) := (RR.out 2 (by decide)).1
        have q2 : wr.frozen? ⟨w.heap.size + 1, 2, none⟩ = false := (RR.out 2 (by decide)).2
        have r3 : wr.cell? ⟨w.heap.size + 1, 3, none⟩ = some (.slice none 0 0) := (RR.out 3 (by decide)).1
        have q3 : wr.frozen? ⟨w.heap.size + 1, 3, none⟩ = false := (RR.out 3 (by decide)).2
        have r4 : wr.cell? ⟨w.heap.size + 1, 4, none⟩ = some (.slice none 0 0) := (RR.out 4 (by decide)).1
        have q4 : wr.frozen? ⟨w.heap.size + 1, 4, none⟩ = false := (RR.out 4 (by decide)).2
        have r5 : wr.cell? ⟨w.heap.size + 1, 5, none⟩ = some (.slice none 0 0) := (RR.out 5 (by decide)).1
        have q5 : wr.frozen? ⟨w.heap.size + 1, 5, none⟩ = false := (RR.out 5 (by decide)).2
        have lg9 : g7 < wr.heap.size := by omega
        have lr9 : w.heap.size + 1 < wr.heap.size := by omega
        have hne9 : ¬ w.heap.size + 1 = g7 := by omega
        go_wp2
        refine bodyPost_ret (v := .agg #[.int .i64 cell, .slice va vl vc, .int .i64 0, .slice (some ⟨g1, 0, none⟩) 2 2, .slice (some ⟨g2, 0, none⟩) 2 2, .slice (some ⟨g3, 0, none⟩) 2 2]) (by simp [results, Try.results39, go_sem, r0, r1, r2, r3, r4, r5]) rfl ?_
        have hzz := size_put6 wr (w.heap.size + 1) (.int .i64 cell) (.slice va vl vc) (.int .i64 0) (.slice (some ⟨g1, 0, none⟩) 2 2) (.slice (some ⟨g2, 0, none⟩) 2 2) (.slice (some ⟨g3, 0, none⟩) 2 2)
        have hbb := below_put6 BL.out (Nat.le_succ w.heap.size) (.int .i64 cell) (.slice va vl vc) (.int .i64 0) (.slice (some ⟨g1, 0, none⟩) 2 2) (.slice (some ⟨g2, 0, none⟩) 2 2) (.slice (some ⟨g3, 0, none⟩) 2 2)
        have hss : ∀ x, ¬ w.heap.size + 1 = x → Sm wr (put6 wr (w.heap.size + 1) (.int .i64 cell) (.slice va vl vc) (.int .i64 0) (.slice (some ⟨g1, 0, none⟩) 2 2) (.slice (some ⟨g2, 0, none⟩) 2 2) (.slice (some ⟨g3, 0, none⟩) 2 2)) x := fun x hx => sm_put6 hx _ _ _ _ _ _
        refine ⟨⟨_, rfl, ?_⟩, hbb⟩
        obtain ⟨gW, hgW, hRW⟩ := rw_ofL (lo := w.heap.size) OW.out (by omega)
        rw [show newV c d cell Z k = ⟨cell, (inL c d cell Z k).length, fun i j => Z (inL c d cell Z k)[i]! j, 0, 2, fun _ => 0, fun _ _ _ => 0, 2, fun _ => 0, 2, fun _ => 0⟩ by unfold newV; rw [h1, h2]; rfl]
        show OwnC w.heap.size (put6 wr (w.heap.size + 1) (.int .i64 cell) (.slice va vl vc) (.int .i64 0) (.slice (some ⟨g1, 0, none⟩) 2 2) (.slice (some ⟨g2, 0, none⟩) 2 2) (.slice (some ⟨g3, 0, none⟩) 2 2)).heap.size (put6 wr (w.heap.size + 1) (.int .i64 cell) (.slice va vl vc) (.int .i64 0) (.slice (some ⟨g1, 0, none⟩) 2 2) (.slice (some ⟨g2, 0, none⟩) 2 2) (.slice (some ⟨g3, 0, none⟩) 2 2)) _ _
        rw [hzz]
        have hx1 : Sm w3 (put6 wr (w.heap.size + 1) (.int .i64 cell) (.slice va vl vc) (.int .i64 0) (.slice (some ⟨g1, 0, none⟩) 2 2) (.slice (some ⟨g2, 0, none⟩) 2 2) (.slice (some ⟨g3, 0, none⟩) 2 2)) g1 := (SM.out g1 (by omega) X17).trans (hss g1 (by omega))
        have hx2 : Sm w3 (put6 wr (w.heap.size + 1) (.int .i64 cell) (.slice va vl vc) (.int .i64 0) (.slice (some ⟨g1, 0, none⟩) 2 2) (.slice (some ⟨g2, 0, none⟩) 2 2) (.slice (some ⟨g3, 0, none⟩) 2 2)) g2 := (SM.out g2 (by omega) X27).trans (hss g2 (by omega))
        have hx3 : Sm w3 (put6 wr (w.heap.size + 1) (.int .i64 cell) (.slice va vl vc) (.int .i64 0) (.slice (some ⟨g1, 0, none⟩) 2 2) (.slice (some ⟨g2, 0, none⟩) 2 2) (.slice (some ⟨g3, 0, none⟩) 2 2)) g3 := (SM.out g3 (by omega) X37).trans (hss g3 (by omega))
        refine ⟨_, _, _, _, gW, g1, g2, g3, fun _ => .slice none 0 0, fun i => gW + 1 + i, rfl, hRW.sm (Nat.le_of_eq hzz.symm) (fun _ _ => hss gW (by omega)), .inr ⟨2, rfl, by omega, by omega, Nat.le_of_eq hzz.symm, fun i hi => ⟨?_, .inl ⟨rfl, none, 0, rfl⟩⟩⟩, .inr ⟨2, rfl, by omega, by omega, Nat.le_of_eq hzz.symm, own1_sm O2.out hx2⟩, .inr ⟨2, rfl, by omega, by omega, Nat.le_of_eq hzz.symm, own1_sm O3.out hx3⟩, ⟨by omega, by omega, by omega, X12, X13, X23⟩, fun i hi => ⟨by show ¬ gW + 1 + i = gW; omega, by show ¬ gW + 1 + i = g1; omega, by show ¬ gW + 1 + i = g2; omega, by show ¬ gW + 1 + i = g3; omega⟩, fun i j _ _ hij => by show ¬ gW + 1 + i = gW + 1 + j; omega⟩
        have : i = 0 ∨ i = 1 := by have := hi; simp only at this; omega
        rcases this with rfl | rfl
        · exact (hx1 0).1.trans N1.out.1
        · exact (hx1 1).1.trans N1.out.2
end Go.Proofs.Ytiahmakaegnnfaa
