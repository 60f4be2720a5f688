/- Stores with no records: the comparison, the marking and what is held; conditions: the state lies in memory. -/
import Derived.Test.YtiahmakaegnnfaaLawNew
import Derived.Test.YtiahmakaegnnfaaEq16
namespace Go.Proofs.Ytiahmakaegnnfaa
open Go.RowKit Go.Deep
set_option linter.unusedVariables false

/-- Two lists of no records are the same. -/
theorem P16.eqList0 (a1 a2 : Option Addr) (c1 c2 : Nat) (w : World) :
    Calls Try.prog 23 #[.slice a1 0 c1, .slice a2 0 c2] w fun e w' => e = .returned (.bool true) ∧ Below w.heap.size w w' := by
  go_enter Try.func23, Try.ntmps23
  go_wp2
  refine wp_loop_rounds 1 ?_
  rw [rounds_succ]
  go_wp2
  go_ret
  exact ⟨rfl, Below.refl _ _⟩

set_option maxRecDepth 100000 in
theorem P16.mark0 (a : Option Addr) (c : Nat) (k : Int) (w : World) :
    Calls Try.prog 43 #[.slice a 0 c, .int .i64 k] w fun e w' => e = .returned (.int .i64 k) ∧ w' = w := by
  go_enter Try.func43, Try.ntmps43
  go_wp2
  refine wp_loop_rounds 1 ?_
  rw [rounds_succ]
  go_wp2
  go_ret
  exact ⟨rfl, rfl⟩

set_option maxRecDepth 100000 in
theorem P16.held0 (a : Option Addr) (c : Nat) (k : Int) (w : World) :
    Calls Try.prog 45 #[.slice a 0 c, .int .i64 k] w fun e w' => e = .returned (.int .i64 k) ∧ Below w.heap.size w w' := by
  go_enter Try.func45, Try.ntmps45
  go_wp2
  refine wp_loop_rounds 1 ?_
  rw [rounds_succ]
  go_wp2
  go_ret
  exact ⟨rfl, Below.refl _ _⟩

/-- A store of age 0 with no records, whose state is V's. -/
def StoAt (w : World) (v : Value) (V : CV) : Prop :=
  ∃ x1 x2 x3 x4, v = .agg #[.int .i64 0, .int .i64 V.c, x1, .int .i64 V.g, x2, x3, x4, .slice none 0 0] ∧ CellAt w (.agg #[.int .i64 V.c, x1, .int .i64 V.g, x2, x3, x4]) V

set_option maxHeartbeats 2000000 in
theorem eqSto (v1 v2 : Value) (V : CV) (hs : V.short 2000000) (w : World) (h1 : StoAt w v1 V) (h2 : StoAt w v2 V) :
    Calls Try.prog 14 #[v1, v2] w fun e w' => e = .returned (.bool true) ∧ Below w.heap.size w w' := by
  obtain ⟨x1, x2, x3, x4, rfl, hx⟩ := h1
  obtain ⟨y1, y2, y3, y4, rfl, hy⟩ := h2
  have HX : Hid (CellAt w (.agg #[.int .i64 V.c, x1, .int .i64 V.g, x2, x3, x4]) V) := hx
  have HY : Hid (CellAt w (.agg #[.int .i64 V.c, y1, .int .i64 V.g, y2, y3, y4]) V) := hy
  clear hx hy
  go_enter Try.func14, Try.ntmps14
  go_wp2_with fail
  obtain ⟨w0, e0⟩ : ∃ w0, w0 = (w.alloc (.cells #[.int .i64 0, .int .i64 V.c, x1, .int .i64 V.g, x2, x3, x4, .slice none 0 0] 52)).alloc (.cells #[.int .i64 0, .int .i64 V.c, y1, .int .i64 V.g, y2, y3, y4, .slice none 0 0] 52) := ⟨_, rfl⟩
  have z0 : w.heap.size + 2 ≤ w0.heap.size := by rw [e0]; simp
  have B0 : Hid (Below w.heap.size w w0) := by rw [e0]; exact ((Below.refl _ _).alloc (by simp) _).alloc (by simp) _
  have R0 : w0.cell? ⟨w.heap.size, 7, none⟩ = some (.slice none 0 0) := by rw [e0]; simp
  have T0 : w0.cell? ⟨w.heap.size + 1, 7, none⟩ = some (.slice none 0 0) := by
    have e1 : w.heap.size + 1 = (w.alloc (.cells #[.int .i64 0, .int .i64 V.c, x1, .int .i64 V.g, x2, x3, x4, .slice none 0 0] 52)).heap.size := by simp
    rw [e0, e1]; exact (by simp)
  rw [← e0]
  clear e0
  refine (eqCell _ _ V hs _ (cellAt_below HX.out B0.out) (cellAt_below HY.out B0.out)).mono ?_
  rintro e w1 ⟨rfl, hb1⟩
  have R1 : w1.cell? ⟨w.heap.size, 7, none⟩ = some (.slice none 0 0) := (hb1.cell (p := ⟨w.heap.size, 7, none⟩) (by show w.heap.size < _; omega)).trans R0
  have T1 : w1.cell? ⟨w.heap.size + 1, 7, none⟩ = some (.slice none 0 0) := (hb1.cell (p := ⟨w.heap.size + 1, 7, none⟩) (by show w.heap.size + 1 < _; omega)).trans T0
  have B1 : Hid (Below w.heap.size w w1) := bthen B0.out hb1
  have z1 : w.heap.size + 2 ≤ w1.heap.size := Nat.le_trans z0 hb1.size
  clear R0 T0 B0 hb1 z0
  go_wp2_with fail
  refine (P16.eqList0 _ _ _ _ _).mono ?_
  rintro e w2 ⟨rfl, hb2⟩
  have B2 : Hid (Below w.heap.size w w2) := bthen B1.out hb2
  clear B1 hb2
  go_wp2
  go_ret
  exact ⟨rfl, B2.out⟩

/-- A store of age 0 with no records, whose state's lists are the call's own. -/
def OwnS (lo hi : Nat) (w : World) (v : Value) (V : CV) : Prop :=
  ∃ x1 x2 x3 x4, v = .agg #[.int .i64 0, .int .i64 V.c, x1, .int .i64 V.g, x2, x3, x4, .slice none 0 0] ∧ OwnC lo hi w (.agg #[.int .i64 V.c, x1, .int .i64 V.g, x2, x3, x4]) V
theorem OwnS.sm {lo hi : Nat} {w w' : World} {v : Value} {V : CV} (h : OwnS lo hi w v V) (hs : w.heap.size ≤ w'.heap.size) (k : ∀ b, lo ≤ b → b < hi → Sm w w' b) : OwnS lo hi w' v V := by
  obtain ⟨x1, x2, x3, x4, e, h⟩ := h
  exact ⟨x1, x2, x3, x4, e, h.sm hs k⟩
theorem OwnS.below {lo hi : Nat} {w w' : World} {v : Value} {V : CV} (h : OwnS lo hi w v V) (hh : hi ≤ w.heap.size) (hb : Below w.heap.size w w') : OwnS lo hi w' v V :=
  h.sm hb.size (fun b _ hb' => sm_below hb (Nat.lt_of_lt_of_le hb' hh))
theorem OwnS.at {lo hi : Nat} {w : World} {v : Value} {V : CV} (h : OwnS lo hi w v V) : StoAt w v V := by
  obtain ⟨x1, x2, x3, x4, e, h⟩ := h
  exact ⟨x1, x2, x3, x4, e, h.at⟩

set_option maxHeartbeats 2000000 in
theorem markS (lo hi : Nat) (v : Value) (V : CV) (hs : V.few) (w : World) (hlh : lo ≤ w.heap.size) (hhi : hi ≤ w.heap.size) (h : OwnS lo hi w v V) :
    Calls Try.prog 17 #[v, .int .i64 1] w fun e w' => e = .returned (.int .i64 ((V.s4 : Nat) : Int)) ∧ OwnS lo hi w' v V.marked ∧ w.heap.size ≤ w'.heap.size ∧ (∀ b, b < w.heap.size → (b < lo ∨ hi ≤ b) → Sm w w' b) ∧ Below lo w w' := by
  obtain ⟨x1, x2, x3, x4, rfl, hx⟩ := h
  have HX : Hid (OwnC lo hi w (.agg #[.int .i64 V.c, x1, .int .i64 V.g, x2, x3, x4]) V) := hx
  clear hx
  go_enter Try.func17, Try.ntmps17
  go_wp2_with fail
  obtain ⟨w0, e0⟩ : ∃ w0, w0 = w.alloc (.cells #[.int .i64 0, .int .i64 V.c, x1, .int .i64 V.g, x2, x3, x4, .slice none 0 0] 52) := ⟨_, rfl⟩
  have z0 : w.heap.size + 1 ≤ w0.heap.size := by rw [e0]; simp
  have B0 : Hid (Below w.heap.size w w0) := by rw [e0]; exact (Below.refl _ _).alloc (by simp) _
  have R0 : w0.cell? ⟨w.heap.size, 7, none⟩ = some (.slice none 0 0) := by rw [e0]; simp
  rw [← e0]
  clear e0
  refine (markC lo hi _ V hs _ (by omega) (by omega) (HX.out.below hhi B0.out)).mono ?_
  rintro e w1 ⟨rfl, hm1, hz1, hk1, hb1⟩
  have R1 : w1.cell? ⟨w.heap.size, 7, none⟩ = some (.slice none 0 0) := ((hk1 w.heap.size (by omega) (.inr hhi)) 7).1.trans R0
  have HM : Hid (OwnC lo hi w1 (.agg #[.int .i64 V.c, x1, .int .i64 V.g, x2, x3, x4]) V.marked) := hm1
  have HK : Hid (∀ b, b < w0.heap.size → (b < lo ∨ hi ≤ b) → Sm w0 w1 b) := hk1
  have HB : Hid (Below lo w0 w1) := hb1
  clear hm1 hk1 hb1 R0 HX
  go_wp2_with fail
  refine (P16.mark0 _ _ _ _).mono ?_
  rintro e w2 ⟨rfl, rfl⟩
  go_wp2
  go_ret
  exact ⟨rfl, ⟨x1, x2, x3, x4, rfl, HM.out⟩, by omega, fun b h1 h2 => (sm_below B0.out h1).trans (HK.out b (by omega) h2), (B0.out.mono hlh).trans HB.out⟩

set_option maxHeartbeats 2000000 in
theorem heldS (lo hi : Nat) (v : Value) (V : CV) (hs : V.few) (w : World) (hhi : hi ≤ w.heap.size) (h : OwnS lo hi w v V.marked) :
    Calls Try.prog 18 #[v, .int .i64 1] w fun e w' => e = .returned (.int .i64 ((V.s4 : Nat) : Int)) ∧ Below w.heap.size w w' := by
  obtain ⟨x1, x2, x3, x4, rfl, hx⟩ := h
  have HX : Hid (OwnC lo hi w (.agg #[.int .i64 V.c, x1, .int .i64 V.g, x2, x3, x4]) V.marked) := hx
  clear hx
  show Calls Try.prog 18 #[.agg #[.int .i64 0, .int .i64 V.c, x1, .int .i64 V.g, x2, x3, x4, .slice none 0 0], .int .i64 1] w _
  go_enter Try.func18, Try.ntmps18
  go_wp2_with fail
  obtain ⟨w0, e0⟩ : ∃ w0, w0 = w.alloc (.cells #[.int .i64 0, .int .i64 V.c, x1, .int .i64 V.g, x2, x3, x4, .slice none 0 0] 52) := ⟨_, rfl⟩
  have z0 : w.heap.size + 1 ≤ w0.heap.size := by rw [e0]; simp
  have B0 : Hid (Below w.heap.size w w0) := by rw [e0]; exact (Below.refl _ _).alloc (by simp) _
  have R0 : w0.cell? ⟨w.heap.size, 7, none⟩ = some (.slice none 0 0) := by rw [e0]; simp
  rw [← e0]
  clear e0
  refine (heldC lo hi _ V hs _ (by omega) (HX.out.below hhi B0.out)).mono ?_
  rintro e w1 ⟨rfl, hb1⟩
  have R1 : w1.cell? ⟨w.heap.size, 7, none⟩ = some (.slice none 0 0) := (hb1.cell (p := ⟨w.heap.size, 7, none⟩) (by show w.heap.size < _; omega)).trans R0
  have B1 : Hid (Below w.heap.size w w1) := bthen B0.out hb1
  have z1 : w.heap.size + 1 ≤ w1.heap.size := Nat.le_trans z0 hb1.size
  have hp : ¬ ((V.s4 : Nat) : Int) < 0 := by omega
  clear R0 B0 hb1 z0 HX
  go_wp2_with fail
  refine (P16.held0 _ _ _ _).mono ?_
  rintro e w2 ⟨rfl, hb2⟩
  have B2 : Hid (Below w.heap.size w w2) := bthen B1.out hb2
  clear hb2 B1
  go_wp2
  go_ret
  exact ⟨rfl, B2.out⟩

end Go.Proofs.Ytiahmakaegnnfaa
