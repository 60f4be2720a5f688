/- Lists of structs of 10 integers: their size, their copy, and that two of the same are the same; conditions: the lists lie in memory. -/
import Derived.Test.YtgjapdjidighlabGreatTk
import Derived.Test.YtgjapdjidighlabGreatBase
import Derived.Test.YtgjapdjidighlabGreatOrd1
import Derived.Test.YtgjapdjidighlabGreatWalks4
import Derived.LoopTactic
import Derived.Laws.IdiomCopy
import Derived.Deep.RegionHeld3
import Derived.Deep.QuietTactic
import Derived.BigQuiet
import Derived.Laws.AppendOwn
namespace Go.Proofs.YtgjapdjidighlabGreat.P10
open Go.RowKit Go.Deep
set_option linter.unusedVariables false
def tr (z : Int) : Bool := Int.tmod z 3 == 0
def cv (j : Nat) (z : Int) : Value := if j = 2 then .bool (tr z) else .int .i64 z
theorem eqOrder (a b c d e : Int) (w : World) :
    Calls Tryz.prog 57 #[.agg #[.int .i64 a, .int .i64 b, .int .i64 c, .int .i64 d, .int .i64 e], .agg #[.int .i64 a, .int .i64 b, .int .i64 c, .int .i64 d, .int .i64 e]] w fun e w' => e = .returned (.bool true) ∧ Below w.heap.size w w' := by
  go_enter Tryz.func57, Tryz.ntmps57
  go_wp2
  go_ret
  exact ⟨rfl, by repeat (first | exact Below.refl _ _ | refine Below.alloc ?_ (by simp <;> omega) _)⟩
set_option maxHeartbeats 1000000 in
theorem eqElem (z0 z1 : Int) (b : Bool) (z3 z4 z5 z6 z7 z8 z9 : Int) (w : World) :
    Calls Tryz.prog 49 #[.agg #[.int .i64 z0, .int .i64 z1, .bool b, .int .i64 z3, .int .i64 z4, .int .i64 z5, .int .i64 z6, .int .i64 z7, .int .i64 z8, .int .i64 z9], .agg #[.int .i64 z0, .int .i64 z1, .bool b, .int .i64 z3, .int .i64 z4, .int .i64 z5, .int .i64 z6, .int .i64 z7, .int .i64 z8, .int .i64 z9]] w fun e w' => e = .returned (.bool true) ∧ Below w.heap.size w w' := by
  cases b
  · go_enter Tryz.func49, Tryz.ntmps49
    go_wp2_with (go_at_call 57; refine (eqOrder _ _ _ _ _ _).mono ?_; rintro e w1 ⟨rfl, hb⟩; obtain ⟨hc, hf⟩ := bcell hb)
    go_ret
    exact ⟨rfl, by repeat (first | exact Below.refl _ _ | refine bthen ?_ (by assumption) | refine Below.alloc ?_ (by simp <;> omega) _)⟩
  · go_enter Tryz.func49, Tryz.ntmps49
    go_wp2_with (go_at_call 57; refine (eqOrder _ _ _ _ _ _).mono ?_; rintro e w1 ⟨rfl, hb⟩; obtain ⟨hc, hf⟩ := bcell hb)
    go_ret
    exact ⟨rfl, by repeat (first | exact Below.refl _ _ | refine bthen ?_ (by assumption) | refine Below.alloc ?_ (by simp <;> omega) _)⟩
theorem Bk.range {W : World} {b : Nat} {l : List Value} (h : Bk W b l) : W.rangeAt b 0 l := by
  intro j v hv
  obtain ⟨hj, rfl⟩ := List.getElem?_eq_some_iff.1 hv
  rw [Nat.zero_add]
  have g := (h.2 j hj).1
  rw [g, List.getD_eq_getElem?_getD, hv]; rfl
theorem results_mid {P : Program} {fn : Func} {p : Tmp} {ty : TypeId} (h : fn.results = #[.cell p ty]) (tmps : Array Value) (w : World) (b : Nat) (cs : List Value) (d : TypeDesc)
    (hp : tmps.getD p undef = .pointer (some ⟨b, 0, none⟩)) (hc : w.rangeAt b 0 cs) (hu : P.underlying ty = some d) (hd : d.isRow = true) (hi : (P.info? ty).map (·.size) = some cs.length) :
    (results fn tmps).run P w = .ok (.agg cs.toArray) w := by
  have hp' : tmps[p]?.getD undef = .pointer (some ⟨b, 0, none⟩) := by simpa using hp
  simp [results, h, hp', asAddr, run_loadVar_mid w b 0 ty cs d hc hu hd hi]
set_option maxHeartbeats 2000000 in
theorem toRow (z0 z1 : Int) (b : Bool) (z3 z4 z5 z6 z7 z8 z9 : Int) (w : World) :
    Calls Tryz.prog 38 #[.agg #[.int .i64 z0, .int .i64 z1, .bool b, .int .i64 z3, .int .i64 z4, .int .i64 z5, .int .i64 z6, .int .i64 z7, .int .i64 z8, .int .i64 z9]] w fun e w' => e = .returned (.agg #[.int .i64 z0, .int .i64 z1, .bool b, .int .i64 z3, .int .i64 z4, .int .i64 z5, .int .i64 z6, .int .i64 z7, .int .i64 z8, .int .i64 z9]) ∧ Below w.heap.size w w' := by
  go_enter Tryz.func38, Tryz.ntmps38
  go_wp2_with fail
  obtain ⟨w0, e0⟩ : ∃ w0, w0 = ((w.alloc (.cells #[.int .i64 z0, .int .i64 z1, .bool b, .int .i64 z3, .int .i64 z4, .int .i64 z5, .int .i64 z6, .int .i64 z7, .int .i64 z8, .int .i64 z9] 85)).alloc (.cells #[.int .i64 0, .int .i64 0, .bool false, .int .i64 0, .int .i64 0, .int .i64 0, .int .i64 0, .int .i64 0, .int .i64 0, .int .i64 0] 63)).alloc (.cells #[.int .i64 z0, .int .i64 z1, .bool b, .int .i64 0, .int .i64 0, .int .i64 0, .int .i64 0, .int .i64 0, .int .i64 0, .int .i64 0] 63) := ⟨_, rfl⟩
  have B1 : Hid (Below w.heap.size w w0) := by rw [e0]; exact (((Below.refl _ _).alloc (by simp) _).alloc (by simp) _).alloc (by simp; omega) _
  have A2 : Hid (Bk w0 w.heap.size [.int .i64 z0, .int .i64 z1, .bool b, .int .i64 z3, .int .i64 z4, .int .i64 z5, .int .i64 z6, .int .i64 z7, .int .i64 z8, .int .i64 z9]) := by rw [e0]; exact ((bk_new w 85 [.int .i64 z0, .int .i64 z1, .bool b, .int .i64 z3, .int .i64 z4, .int .i64 z5, .int .i64 z6, .int .i64 z7, .int .i64 z8, .int .i64 z9]).below ((Below.refl _ _).alloc (Nat.le_refl _) _)).below ((Below.refl _ _).alloc (Nat.le_refl _) _)
  have R3 : Hid (Bk w0 (w.heap.size + 1) [.int .i64 0, .int .i64 0, .bool false, .int .i64 0, .int .i64 0, .int .i64 0, .int .i64 0, .int .i64 0, .int .i64 0, .int .i64 0]) := by rw [e0]; have := (bk_new (w.alloc (.cells #[.int .i64 z0, .int .i64 z1, .bool b, .int .i64 z3, .int .i64 z4, .int .i64 z5, .int .i64 z6, .int .i64 z7, .int .i64 z8, .int .i64 z9] 85)) 63 [.int .i64 0, .int .i64 0, .bool false, .int .i64 0, .int .i64 0, .int .i64 0, .int .i64 0, .int .i64 0, .int .i64 0, .int .i64 0]).below ((Below.refl _ _).alloc (Nat.le_refl _) (.cells #[.int .i64 z0, .int .i64 z1, .bool b, .int .i64 0, .int .i64 0, .int .i64 0, .int .i64 0, .int .i64 0, .int .i64 0, .int .i64 0] 63)); rwa [show (w.alloc (.cells #[.int .i64 z0, .int .i64 z1, .bool b, .int .i64 z3, .int .i64 z4, .int .i64 z5, .int .i64 z6, .int .i64 z7, .int .i64 z8, .int .i64 z9] 85)).heap.size = w.heap.size + 1 by simp] at this
  have O4 : Hid (Bk w0 (w.heap.size + 1 + 1) [.int .i64 z0, .int .i64 z1, .bool b, .int .i64 0, .int .i64 0, .int .i64 0, .int .i64 0, .int .i64 0, .int .i64 0, .int .i64 0]) := by rw [e0]; have := bk_new ((w.alloc (.cells #[.int .i64 z0, .int .i64 z1, .bool b, .int .i64 z3, .int .i64 z4, .int .i64 z5, .int .i64 z6, .int .i64 z7, .int .i64 z8, .int .i64 z9] 85)).alloc (.cells #[.int .i64 0, .int .i64 0, .bool false, .int .i64 0, .int .i64 0, .int .i64 0, .int .i64 0, .int .i64 0, .int .i64 0, .int .i64 0] 63)) 63 [.int .i64 z0, .int .i64 z1, .bool b, .int .i64 0, .int .i64 0, .int .i64 0, .int .i64 0, .int .i64 0, .int .i64 0, .int .i64 0]; rwa [show ((w.alloc (.cells #[.int .i64 z0, .int .i64 z1, .bool b, .int .i64 z3, .int .i64 z4, .int .i64 z5, .int .i64 z6, .int .i64 z7, .int .i64 z8, .int .i64 z9] 85)).alloc (.cells #[.int .i64 0, .int .i64 0, .bool false, .int .i64 0, .int .i64 0, .int .i64 0, .int .i64 0, .int .i64 0, .int .i64 0, .int .i64 0] 63)).heap.size = w.heap.size + 1 + 1 by simp] at this
  rw [← e0]
  clear e0
  refine (toOrder _ _ _ _ _ _).mono ?_
  rintro e w1 ⟨rfl, hb1⟩
  have B5 := hid (bthen B1.out hb1)
  have A5 := hid (A2.out.below hb1)
  have R5 := hid (R3.out.below hb1)
  have O5 := hid (O4.out.below hb1)
  clear B1 A2 R3 O4
  clear hb1
  obtain ⟨yA0, yA1, yA2, yA3, yA4, yA5, yA6, yA7, yA8, yA9⟩ := A5.out.a10
  have hlA : w.heap.size < w1.heap.size := A5.out.1
  obtain ⟨yR0, yR1, yR2, yR3, yR4, yR5, yR6, yR7, yR8, yR9⟩ := R5.out.a10
  obtain ⟨zR0, zR1, zR2, zR3, zR4, zR5, zR6, zR7, zR8, zR9⟩ := R5.out.f10
  have hlR : (w.heap.size + 1) < w1.heap.size := R5.out.1
  obtain ⟨yO0, yO1, yO2, yO3, yO4, yO5, yO6, yO7, yO8, yO9⟩ := O5.out.a10
  obtain ⟨zO0, zO1, zO2, zO3, zO4, zO5, zO6, zO7, zO8, zO9⟩ := O5.out.f10
  have hlO : (w.heap.size + 1 + 1) < w1.heap.size := O5.out.1
  go_wp2
  refine bodyPost_ret (v := .agg #[.int .i64 z0, .int .i64 z1, .bool b, .int .i64 z3, .int .i64 z4, .int .i64 z5, .int .i64 z6, .int .i64 z7, .int .i64 z8, .int .i64 z9]) (results_mid (P := Tryz.prog) (fn := Tryz.f38) Tryz.results38 _ _ (w.heap.size + 1) [.int .i64 z0, .int .i64 z1, .bool b, .int .i64 z3, .int .i64 z4, .int .i64 z5, .int .i64 z6, .int .i64 z7, .int .i64 z8, .int .i64 z9] _ rfl (Bk.range (Bk.set (j := 9) (Bk.set (j := 8) (Bk.set (j := 7) (Bk.set (j := 6) (Bk.set (j := 5) (Bk.set (j := 4) (Bk.set (j := 3) (Bk.set (j := 2) (Bk.set (j := 1) (Bk.set (j := 0) (((((((R5.out.far (by omega)).far (by omega)).far (by omega)).far (by omega)).far (by omega)).far (by omega)).far (by omega)) (by simp)) (by simp)) (by simp)) (by simp)) (by simp)) (by simp)) (by simp)) (by simp)) (by simp)) (by simp))) Tryz.underlying63 rfl (by kernel_rfl)) rfl ⟨rfl, (((((((((((((((((B5.out.setCell (by show w.heap.size ≤ w.heap.size + 1 + 1; omega) _).setCell (by show w.heap.size ≤ w.heap.size + 1 + 1; omega) _).setCell (by show w.heap.size ≤ w.heap.size + 1 + 1; omega) _).setCell (by show w.heap.size ≤ w.heap.size + 1 + 1; omega) _).setCell (by show w.heap.size ≤ w.heap.size + 1 + 1; omega) _).setCell (by show w.heap.size ≤ w.heap.size + 1 + 1; omega) _).setCell (by show w.heap.size ≤ w.heap.size + 1 + 1; omega) _).setCell (by show w.heap.size ≤ w.heap.size + 1; omega) _).setCell (by show w.heap.size ≤ w.heap.size + 1; omega) _).setCell (by show w.heap.size ≤ w.heap.size + 1; omega) _).setCell (by show w.heap.size ≤ w.heap.size + 1; omega) _).setCell (by show w.heap.size ≤ w.heap.size + 1; omega) _).setCell (by show w.heap.size ≤ w.heap.size + 1; omega) _).setCell (by show w.heap.size ≤ w.heap.size + 1; omega) _).setCell (by show w.heap.size ≤ w.heap.size + 1; omega) _).setCell (by show w.heap.size ≤ w.heap.size + 1; omega) _).setCell (by show w.heap.size ≤ w.heap.size + 1; omega) _)⟩
def Mk (m s k j : Nat) : Int := ((s + k * m + j : Nat) : Int)
theorem szList (a : Option Addr) (n cap : Nat) (left : Int) (h0 : 0 ≤ left) (h1 : left ≤ 1048576) (hn : (n : Int) ≤ 9223372036854775807) (w : World) :
    Calls Tryz.prog 13 #[.slice a n cap, .int .i64 left] w fun e w' => e = .returned (.int .i64 (if (n : Int) ≤ left then left - n else -1)) ∧ Below w.heap.size w w' := by
  by_cases h : (n : Int) ≤ left
  · go_enter Tryz.func13, Tryz.ntmps13
    go_wp2
    all_goals (go_ret; exact ⟨by simp <;> omega, Below.refl _ _⟩)
  · go_enter Tryz.func13, Tryz.ntmps13
    go_wp2
    all_goals (go_ret; exact ⟨by simp <;> omega, Below.refl _ _⟩)
theorem infoE : (Tryz.prog.info? 63).map (fun i => (i.zero, i.size, i.bytes)) = some (some (.agg #[.int .i64 0, .int .i64 0, .bool false, .int .i64 0, .int .i64 0, .int .i64 0, .int .i64 0, .int .i64 0, .int .i64 0, .int .i64 0]), 10, 80) := by kernel_rfl
theorem makeK (n : Nat) (hn : n ≤ 1048576) (w : World) :
    (Instr.makeSlice 38 (.int .i64 (n : Int)) (.int .i64 (n : Int))).run Tryz.prog w = .ok (.slice (some ⟨w.heap.size, 0, none⟩) n n) (w.alloc (.cells (madeCells #[.int .i64 0, .int .i64 0, .bool false, .int .i64 0, .int .i64 0, .int .i64 0, .int .i64 0, .int .i64 0, .int .i64 0, .int .i64 0] (n * 10)) 63)) := by
  obtain ⟨i, hi, hzz⟩ := Option.map_eq_some_iff.1 infoE
  simp only [Prod.mk.injEq] at hzz
  obtain ⟨hz, hs, hb⟩ := hzz
  have := run_make (P := Tryz.prog) w 38 63 i _ Tryz.underlying38 hi hz .i64 .i64 n n (by omega) (by omega) (by rw [hb]; omega) (by omega)
  rw [this, hs]
  rfl
def RowK (w : World) (a : Option Addr) (n : Nat) (Z : Nat → Nat → Int) : Prop :=
  n = 0 ∨ ∃ b o, a = some ⟨b, o, none⟩ ∧ b < w.heap.size ∧ ∀ k j, k < n → j < 10 → w.cell? ⟨b, o + k * 10 + j, none⟩ = some (cv j (Z k j))
def OwnK (wr : World) (B n : Nat) (Z : Nat → Nat → Int) (k : Nat) : Prop :=
  (∀ i, i < n * 10 → (wr.cell? ⟨B, i, none⟩).isSome = true ∧ wr.frozen? ⟨B, i, none⟩ = false) ∧ ∀ k' j, k' < k → j < 10 → wr.cell? ⟨B, k' * 10 + j, none⟩ = some (cv j (Z k' j))
theorem own_cell {wr : World} {B n k : Nat} {Z : Nat → Nat → Int} (h : OwnK wr B n Z k) (hk : k < n) (j : Nat) (hj : j < 10) : (∃ v, wr.cell? ⟨B, k * 10 + j, none⟩ = some v) ∧ wr.frozen? ⟨B, k * 10 + j, none⟩ = false := by
  obtain ⟨h1, h2⟩ := h.1 (k * 10 + j) (by omega)
  exact ⟨Option.isSome_iff_exists.1 h1, h2⟩
theorem own_below {w w' : World} {B n k : Nat} {Z : Nat → Nat → Int} (h : OwnK w B n Z k) (hB : B < w.heap.size) (hb : Below w.heap.size w w') : OwnK w' B n Z k :=
  ⟨fun i hi => by rw [hb.cell (p := ⟨B, i, none⟩) hB, hb.frozen (p := ⟨B, i, none⟩) hB]; exact h.1 i hi, fun k' j hk hj => by rw [hb.cell (p := ⟨B, k' * 10 + j, none⟩) hB]; exact h.2 k' j hk hj⟩
def putK (w : World) (B k : Nat) (Z : Nat → Nat → Int) : World :=
  ((((((((((w.setCell ⟨B, k * 10, none⟩ (.int .i64 (Z k 0))).setCell ⟨B, k * 10 + 1, none⟩ (.int .i64 (Z k 1))).setCell ⟨B, k * 10 + 2, none⟩ (.bool (tr (Z k 2)))).setCell ⟨B, k * 10 + 3, none⟩ (.int .i64 (Z k 3))).setCell ⟨B, k * 10 + 4, none⟩ (.int .i64 (Z k 4))).setCell ⟨B, k * 10 + 5, none⟩ (.int .i64 (Z k 5))).setCell ⟨B, k * 10 + 6, none⟩ (.int .i64 (Z k 6))).setCell ⟨B, k * 10 + 7, none⟩ (.int .i64 (Z k 7))).setCell ⟨B, k * 10 + 8, none⟩ (.int .i64 (Z k 8))).setCell ⟨B, k * 10 + 9, none⟩ (.int .i64 (Z k 9)))
theorem putK_cells (w : World) (B k : Nat) (Z : Nat → Nat → Int) : putK w B k Z = w.setCells B (k * 10) [.int .i64 (Z k 0), .int .i64 (Z k 1), .bool (tr (Z k 2)), .int .i64 (Z k 3), .int .i64 (Z k 4), .int .i64 (Z k 5), .int .i64 (Z k 6), .int .i64 (Z k 7), .int .i64 (Z k 8), .int .i64 (Z k 9)] := rfl
theorem own_put {w : World} {B n k : Nat} {Z : Nat → Nat → Int} (h : OwnK w B n Z k) (hk : k < n) : OwnK (putK w B k Z) B n Z (k + 1) := by
  have hin : ∀ j, j < 10 → (putK w B k Z).cell? ⟨B, k * 10 + j, none⟩ = some (cv j (Z k j)) := by
    intro j hj
    rw [putK_cells]
    have := World.cell?_setCells_in B [.int .i64 (Z k 0), .int .i64 (Z k 1), .bool (tr (Z k 2)), .int .i64 (Z k 3), .int .i64 (Z k 4), .int .i64 (Z k 5), .int .i64 (Z k 6), .int .i64 (Z k 7), .int .i64 (Z k 8), .int .i64 (Z k 9)] (k * 10) w (fun j' hj' => (h.1 (k * 10 + j') (by simp at hj'; omega)).1) j (by simpa using hj)
    rw [this]
    match j, hj with
    | 0, _ => rfl
    | 1, _ => rfl
    | 2, _ => rfl
    | 3, _ => rfl
    | 4, _ => rfl
    | 5, _ => rfl
    | 6, _ => rfl
    | 7, _ => rfl
    | 8, _ => rfl
    | 9, _ => rfl
    | j + 10, hj => omega
  have hout : ∀ i, (i < k * 10 ∨ k * 10 + 10 ≤ i) → (putK w B k Z).cell? ⟨B, i, none⟩ = w.cell? ⟨B, i, none⟩ := by
    intro i hi
    rw [putK_cells]
    exact World.cell?_setCells_out B _ (k * 10) w ⟨B, i, none⟩ (fun _ _ => by simpa using hi)
  refine ⟨fun i hi => ⟨?_, ?_⟩, fun k' j hk' hj => ?_⟩
  · by_cases hc : i < k * 10 ∨ k * 10 + 10 ≤ i
    · rw [hout i hc]; exact (h.1 i hi).1
    · have := hin (i - k * 10) (by omega)
      rw [show k * 10 + (i - k * 10) = i by omega] at this
      rw [this]; rfl
  · rw [putK_cells, World.frozen?_setCells]; exact (h.1 i hi).2
  · by_cases hc : k' = k
    · subst hc; exact hin j hj
    · rw [hout _ (by omega)]; exact h.2 k' j (by omega) hj
theorem own_row {w : World} {B n : Nat} {Z : Nat → Nat → Int} (h : OwnK w B n Z n) : ∀ k j, k < n → j < 10 → w.cell? ⟨B, 0 + k * 10 + j, none⟩ = some (cv j (Z k j)) := fun k j hk hj => by
  rw [Nat.zero_add]; exact h.2 k j hk hj
theorem row_of_own {w : World} {B n : Nat} {Z : Nat → Nat → Int} (h : OwnK w B n Z n) (hB : B < w.heap.size) : RowK w (some ⟨B, 0, none⟩) n Z := .inr ⟨B, 0, rfl, hB, own_row h⟩
set_option maxRecDepth 100000 in
set_option maxHeartbeats 4000000 in
theorem toList (b o : Nat) (n cap : Nat) (Z : Nat → Nat → Int) (hn : n ≤ 1048576) (w : World) (hb : b < w.heap.size)
    (hr : ∀ k j, k < n → j < 10 → w.cell? ⟨b, o + k * 10 + j, none⟩ = some (cv j (Z k j))) :
    Calls Tryz.prog 18 #[.slice (some ⟨b, o, none⟩) n cap] w fun e w' => e = .returned (.slice (some ⟨w.heap.size, 0, none⟩) n n) ∧ OwnK w' w.heap.size n Z n ∧ w.heap.size < w'.heap.size ∧ Below w.heap.size w w' := by
  have hmk := makeK n hn
  have HR : Hid (∀ k j, k < n → j < 10 → w.cell? ⟨b, o + k * 10 + j, none⟩ = some (cv j (Z k j))) := hr
  clear hr
  go_enter Tryz.func18, Tryz.ntmps18
  go_wp2
  go_loopw [4] (fun i wr => ∃ k : Nat, k ≤ n ∧ i = .int .i64 k ∧ OwnK wr w.heap.size n Z k ∧ w.heap.size < wr.heap.size ∧ Below w.heap.size w wr) (fun i _ => n - (intOf i).toNat)
  case atStart => exact ⟨0, Nat.zero_le _, rfl, ⟨fun i hi => by simp [size_madeCells, hi], fun _ _ h => absurd h (by omega)⟩, by simp, (Below.refl _ _).alloc (by simp) _⟩
  case round =>
    obtain ⟨k, hk, rfl, hown, hsz, hbel⟩ := hrel
    have c0 : k < n → wr.cell? ⟨b, o + k * 10, none⟩ = some (.int .i64 (Z k 0)) := fun h => (hbel.cell (by exact hb)).trans (HR.out k 0 h (by omega))
    have c1 : k < n → wr.cell? ⟨b, o + k * 10 + 1, none⟩ = some (.int .i64 (Z k 1)) := fun h => (hbel.cell (by exact hb)).trans (HR.out k 1 h (by omega))
    have c2 : k < n → wr.cell? ⟨b, o + k * 10 + 2, none⟩ = some (.bool (tr (Z k 2))) := fun h => (hbel.cell (by exact hb)).trans (HR.out k 2 h (by omega))
    have c3 : k < n → wr.cell? ⟨b, o + k * 10 + 3, none⟩ = some (.int .i64 (Z k 3)) := fun h => (hbel.cell (by exact hb)).trans (HR.out k 3 h (by omega))
    have c4 : k < n → wr.cell? ⟨b, o + k * 10 + 4, none⟩ = some (.int .i64 (Z k 4)) := fun h => (hbel.cell (by exact hb)).trans (HR.out k 4 h (by omega))
    have c5 : k < n → wr.cell? ⟨b, o + k * 10 + 5, none⟩ = some (.int .i64 (Z k 5)) := fun h => (hbel.cell (by exact hb)).trans (HR.out k 5 h (by omega))
    have c6 : k < n → wr.cell? ⟨b, o + k * 10 + 6, none⟩ = some (.int .i64 (Z k 6)) := fun h => (hbel.cell (by exact hb)).trans (HR.out k 6 h (by omega))
    have c7 : k < n → wr.cell? ⟨b, o + k * 10 + 7, none⟩ = some (.int .i64 (Z k 7)) := fun h => (hbel.cell (by exact hb)).trans (HR.out k 7 h (by omega))
    have c8 : k < n → wr.cell? ⟨b, o + k * 10 + 8, none⟩ = some (.int .i64 (Z k 8)) := fun h => (hbel.cell (by exact hb)).trans (HR.out k 8 h (by omega))
    have c9 : k < n → wr.cell? ⟨b, o + k * 10 + 9, none⟩ = some (.int .i64 (Z k 9)) := fun h => (hbel.cell (by exact hb)).trans (HR.out k 9 h (by omega))
    clear hmk
    go_wp2_with fail
    · refine (toRow _ _ _ _ _ _ _ _ _ _ _ ).mono ?_
      rintro e w1 ⟨rfl, hb1⟩
      have hlt : k < n := by assumption
      have hown1 := own_below hown hsz hb1
      have hsz1 : w.heap.size < w1.heap.size := Nat.lt_of_lt_of_le hsz hb1.size
      have hbel1 : Below w.heap.size w w1 := hbel.trans (hb1.mono (Nat.le_of_lt hsz))
      clear hown hb1 hbel c0 c1 c2 c3 c4 c5 c6 c7 c8 c9
      obtain ⟨⟨v0, d0⟩, f0⟩ := own_cell hown1 hlt 0 (by omega)
      obtain ⟨⟨v1, d1⟩, f1⟩ := own_cell hown1 hlt 1 (by omega)
      obtain ⟨⟨v2, d2⟩, f2⟩ := own_cell hown1 hlt 2 (by omega)
      obtain ⟨⟨v3, d3⟩, f3⟩ := own_cell hown1 hlt 3 (by omega)
      obtain ⟨⟨v4, d4⟩, f4⟩ := own_cell hown1 hlt 4 (by omega)
      obtain ⟨⟨v5, d5⟩, f5⟩ := own_cell hown1 hlt 5 (by omega)
      obtain ⟨⟨v6, d6⟩, f6⟩ := own_cell hown1 hlt 6 (by omega)
      obtain ⟨⟨v7, d7⟩, f7⟩ := own_cell hown1 hlt 7 (by omega)
      obtain ⟨⟨v8, d8⟩, f8⟩ := own_cell hown1 hlt 8 (by omega)
      obtain ⟨⟨v9, d9⟩, f9⟩ := own_cell hown1 hlt 9 (by omega)
      simp only [Nat.add_zero] at d0 f0
      go_wp2
      go_roundw
      case rel => exact ⟨k + 1, by omega, by go_num, own_put hown1 hlt, by simpa [World.setCell] using hsz1, ((((((((((hbel1.setCell (Nat.le_refl _) _).setCell (Nat.le_refl _) _).setCell (Nat.le_refl _) _).setCell (Nat.le_refl _) _).setCell (Nat.le_refl _) _).setCell (Nat.le_refl _) _).setCell (Nat.le_refl _) _).setCell (Nat.le_refl _) _).setCell (Nat.le_refl _) _).setCell (Nat.le_refl _) _)⟩
      case measure => simp [intOf]; omega
    · have : k = n := by omega
      subst this
      go_ret
      exact ⟨rfl, hown, hsz, hbel⟩
theorem toList0 (a : Option Addr) (cap : Nat) (Z : Nat → Nat → Int) (w : World) :
    Calls Tryz.prog 18 #[.slice a 0 cap] w fun e w' => e = .returned (.slice (some ⟨w.heap.size, 0, none⟩) 0 0) ∧ OwnK w' w.heap.size 0 Z 0 ∧ w.heap.size < w'.heap.size ∧ Below w.heap.size w w' := by
  have hmk : ∀ w : World, (Instr.makeSlice 38 (.int .i64 0) (.int .i64 0)).run Tryz.prog w = .ok (.slice (some ⟨w.heap.size, 0, none⟩) 0 0) (w.alloc (.cells (madeCells #[.int .i64 0, .int .i64 0, .bool false, .int .i64 0, .int .i64 0, .int .i64 0, .int .i64 0, .int .i64 0, .int .i64 0, .int .i64 0] 0) 63)) := fun w => makeK 0 (by omega) w
  go_enter Tryz.func18, Tryz.ntmps18
  go_wp2
  refine wp_loop_rounds 1 ?_
  rw [rounds_succ]
  go_wp2
  go_ret
  exact ⟨rfl, ⟨fun i hi => absurd hi (by omega), fun _ _ h => absurd h (by omega)⟩, by simp, (Below.refl _ _).alloc (by simp) _⟩
theorem toList_any (a : Option Addr) (n cap : Nat) (Z : Nat → Nat → Int) (hn : n ≤ 1048576) (w : World) (h : RowK w a n Z) :
    Calls Tryz.prog 18 #[.slice a n cap] w fun e w' => e = .returned (.slice (some ⟨w.heap.size, 0, none⟩) n n) ∧ OwnK w' w.heap.size n Z n ∧ w.heap.size < w'.heap.size ∧ Below w.heap.size w w' := by
  rcases h with rfl | ⟨b, o, rfl, hb, hr⟩
  · exact toList0 a cap Z w
  · exact toList b o n cap Z hn w hb hr
theorem row_below {w w' : World} {a : Option Addr} {n : Nat} {Z : Nat → Nat → Int} (h : RowK w a n Z) (hb : Below w.heap.size w w') : RowK w' a n Z := by
  rcases h with rfl | ⟨b, o, rfl, hlt, hr⟩
  · exact .inl rfl
  · exact .inr ⟨b, o, rfl, Nat.lt_of_lt_of_le hlt hb.size, fun k j hk hj => (hb.cell (p := ⟨b, _, none⟩) hlt).trans (hr k j hk hj)⟩
set_option maxRecDepth 100000 in
set_option maxHeartbeats 4000000 in
theorem eqList (a1 : Option Addr) (cap1 : Nat) (a2 : Option Addr) (cap2 n : Nat) (Z : Nat → Nat → Int) (hn : n ≤ 2000000) (w : World) (h1 : RowK w a1 n Z) (h2 : RowK w a2 n Z) :
    Calls Tryz.prog 27 #[.slice a1 n cap1, .slice a2 n cap2] w fun e w' => e = .returned (.bool true) ∧ Below w.heap.size w w' := by
  have H1 : Hid (RowK w a1 n Z) := h1
  have H2 : Hid (RowK w a2 n Z) := h2
  clear h1 h2
  go_enter Tryz.func27, Tryz.ntmps27
  go_wp2
  go_loopw [5] (fun i wr => ∃ k : Nat, k ≤ n ∧ i = .int .i64 k ∧ ((∀ b o, b < w.heap.size → wr.cell? ⟨b, o, none⟩ = w.cell? ⟨b, o, none⟩) ∧ w.heap.size ≤ wr.heap.size) ∧ Below w.heap.size w wr) (fun i _ => n - (intOf i).toNat)
  case atStart => exact ⟨0, Nat.zero_le _, rfl, ⟨fun _ _ _ => rfl, Nat.le_refl _⟩, Below.refl _ _⟩
  case round =>
    obtain ⟨k, hk, rfl, HS, BR⟩ := hrel
    by_cases hkn : k < n
    · obtain ⟨b1, o1, rfl, hb1, hr1⟩ : ∃ b o, a1 = some ⟨b, o, none⟩ ∧ b < w.heap.size ∧ ∀ k j, k < n → j < 10 → w.cell? ⟨b, o + k * 10 + j, none⟩ = some (cv j (Z k j)) := by
        rcases H1.out with h | h
        · omega
        · exact h
      obtain ⟨b2, o2, rfl, hb2, hr2⟩ : ∃ b o, a2 = some ⟨b, o, none⟩ ∧ b < w.heap.size ∧ ∀ k j, k < n → j < 10 → w.cell? ⟨b, o + k * 10 + j, none⟩ = some (cv j (Z k j)) := by
        rcases H2.out with h | h
        · omega
        · exact h
      have c1_0 : w.cell? ⟨b1, o1 + k * 10, none⟩ = some (.int .i64 (Z k 0)) := hr1 k 0 hkn (by omega)
      have c1_1 : w.cell? ⟨b1, o1 + k * 10 + 1, none⟩ = some (.int .i64 (Z k 1)) := hr1 k 1 hkn (by omega)
      have c1_2 : w.cell? ⟨b1, o1 + k * 10 + 2, none⟩ = some (.bool (tr (Z k 2))) := hr1 k 2 hkn (by omega)
      have c1_3 : w.cell? ⟨b1, o1 + k * 10 + 3, none⟩ = some (.int .i64 (Z k 3)) := hr1 k 3 hkn (by omega)
      have c1_4 : w.cell? ⟨b1, o1 + k * 10 + 4, none⟩ = some (.int .i64 (Z k 4)) := hr1 k 4 hkn (by omega)
      have c1_5 : w.cell? ⟨b1, o1 + k * 10 + 5, none⟩ = some (.int .i64 (Z k 5)) := hr1 k 5 hkn (by omega)
      have c1_6 : w.cell? ⟨b1, o1 + k * 10 + 6, none⟩ = some (.int .i64 (Z k 6)) := hr1 k 6 hkn (by omega)
      have c1_7 : w.cell? ⟨b1, o1 + k * 10 + 7, none⟩ = some (.int .i64 (Z k 7)) := hr1 k 7 hkn (by omega)
      have c1_8 : w.cell? ⟨b1, o1 + k * 10 + 8, none⟩ = some (.int .i64 (Z k 8)) := hr1 k 8 hkn (by omega)
      have c1_9 : w.cell? ⟨b1, o1 + k * 10 + 9, none⟩ = some (.int .i64 (Z k 9)) := hr1 k 9 hkn (by omega)
      have c2_0 : w.cell? ⟨b2, o2 + k * 10, none⟩ = some (.int .i64 (Z k 0)) := hr2 k 0 hkn (by omega)
      have c2_1 : w.cell? ⟨b2, o2 + k * 10 + 1, none⟩ = some (.int .i64 (Z k 1)) := hr2 k 1 hkn (by omega)
      have c2_2 : w.cell? ⟨b2, o2 + k * 10 + 2, none⟩ = some (.bool (tr (Z k 2))) := hr2 k 2 hkn (by omega)
      have c2_3 : w.cell? ⟨b2, o2 + k * 10 + 3, none⟩ = some (.int .i64 (Z k 3)) := hr2 k 3 hkn (by omega)
      have c2_4 : w.cell? ⟨b2, o2 + k * 10 + 4, none⟩ = some (.int .i64 (Z k 4)) := hr2 k 4 hkn (by omega)
      have c2_5 : w.cell? ⟨b2, o2 + k * 10 + 5, none⟩ = some (.int .i64 (Z k 5)) := hr2 k 5 hkn (by omega)
      have c2_6 : w.cell? ⟨b2, o2 + k * 10 + 6, none⟩ = some (.int .i64 (Z k 6)) := hr2 k 6 hkn (by omega)
      have c2_7 : w.cell? ⟨b2, o2 + k * 10 + 7, none⟩ = some (.int .i64 (Z k 7)) := hr2 k 7 hkn (by omega)
      have c2_8 : w.cell? ⟨b2, o2 + k * 10 + 8, none⟩ = some (.int .i64 (Z k 8)) := hr2 k 8 hkn (by omega)
      have c2_9 : w.cell? ⟨b2, o2 + k * 10 + 9, none⟩ = some (.int .i64 (Z k 9)) := hr2 k 9 hkn (by omega)
      clear hr1 hr2
      go_wp2
      refine wp_region_held_drew (S := fun w' => (∀ b o, b < w.heap.size → w'.cell? ⟨b, o, none⟩ = w.cell? ⟨b, o, none⟩) ∧ w.heap.size ≤ w'.heap.size) (by kernel_rfl) HS ?_
      intro hHeld
      refine tkl 0 (.slice (some ⟨b1, o1, none⟩) n cap1) rfl ?_ ?_
      · intro wx hSw; go_simp
      try simp only [Act.put, aS]
      refine tkl 1 (.int .i64 (k : Int)) rfl ?_ ?_
      · intro wx hSw; go_simp
      try simp only [Act.put, aS]
      refine tkl 2 (.pointer (some ⟨b1, o1 + k * 10, none⟩)) rfl ?_ ?_
      · intro wx hSw; go_simp
      try simp only [Act.put, aS]
      refine tkl 3 (.agg #[.int .i64 (Z k 0), .int .i64 (Z k 1), .bool (tr (Z k 2)), .int .i64 (Z k 3), .int .i64 (Z k 4), .int .i64 (Z k 5), .int .i64 (Z k 6), .int .i64 (Z k 7), .int .i64 (Z k 8), .int .i64 (Z k 9)]) rfl ?_ ?_
      · intro wx hSw; go_simp
      try simp only [Act.put, aS]
      refine tkl 4 (.slice (some ⟨b2, o2, none⟩) n cap2) rfl ?_ ?_
      · intro wx hSw; go_simp
      try simp only [Act.put, aS]
      refine tkl 5 (.int .i64 (k : Int)) rfl ?_ ?_
      · intro wx hSw; go_simp
      try simp only [Act.put, aS]
      refine tkl 6 (.pointer (some ⟨b2, o2 + k * 10, none⟩)) rfl ?_ ?_
      · intro wx hSw; go_simp
      try simp only [Act.put, aS]
      refine tkl 7 (.agg #[.int .i64 (Z k 0), .int .i64 (Z k 1), .bool (tr (Z k 2)), .int .i64 (Z k 3), .int .i64 (Z k 4), .int .i64 (Z k 5), .int .i64 (Z k 6), .int .i64 (Z k 7), .int .i64 (Z k 8), .int .i64 (Z k 9)]) rfl ?_ ?_
      · intro wx hSw; go_simp
      try simp only [Act.put, aS]
      refine rd1 8 rfl fun K hK => ?_
      go_simp
      go_wp2_with (go_at_call 49; refine (eqElem _ _ _ _ _ _ _ _ _ _ _ ).mono ?_; rintro e w2 ⟨rfl, hbw2⟩)
      refine hK.out _ _ (keepS (by assumption) hbw2) (fun hHeld => ?_)
      clear hK K
      try simp only [Act.put, aS]
      refine tkl 9 (.bool false) rfl ?_ ?_
      · intro wx hSw; go_simp
      try simp only [Act.put, aS]
      refine wpAnyH_done (by kernel_rfl) ?_ _
      go_wp2
      go_roundw
      case rel => exact ⟨k + 1, by omega, by go_num, by assumption, by repeat (first | exact BR | refine bthen ?_ (by assumption) | apply Below.drew)⟩
      case measure => simp [intOf]; omega
    · have : k = n := by omega
      subst this
      go_wp2
      go_ret
      exact ⟨rfl, by repeat (first | exact BR | refine bthen ?_ (by assumption) | apply Below.drew)⟩
theorem setg (w : World) (B i : Nat) (u : Value) : w.grownBy (w.setCell ⟨B, i, none⟩ u) (some B) ∧ (w.setCell ⟨B, i, none⟩ u).heap.size = w.heap.size :=
  ⟨⟨rfl, rfl, rfl, by simp [World.setCell], fun k _ hne => Below.heap_setCell _ _ _ _ (fun e => hne (by rw [e]))⟩, by simp [World.setCell]⟩
theorem putK_grown (w : World) (B k : Nat) (Z : Nat → Nat → Int) : w.grownBy (putK w B k Z) (some B) ∧ (putK w B k Z).heap.size = w.heap.size := by
  unfold putK
  refine ⟨((((((((((setg _ _ _ _).1.trans (setg _ _ _ _).1).trans (setg _ _ _ _).1).trans (setg _ _ _ _).1).trans (setg _ _ _ _).1).trans (setg _ _ _ _).1).trans (setg _ _ _ _).1).trans (setg _ _ _ _).1).trans (setg _ _ _ _).1).trans (setg _ _ _ _).1), ?_⟩
  rw [(setg _ _ _ _).2, (setg _ _ _ _).2, (setg _ _ _ _).2, (setg _ _ _ _).2, (setg _ _ _ _).2, (setg _ _ _ _).2, (setg _ _ _ _).2, (setg _ _ _ _).2, (setg _ _ _ _).2, (setg _ _ _ _).2]
set_option maxRecDepth 20000 in
set_option maxHeartbeats 2000000 in
theorem markL (s B n cap : Nat) (Z : Nat → Nat → Int) (hn : n ≤ 2000000) (hs : s ≤ 2000000000) (w : World) (hB : B < w.heap.size) (h : OwnK w B n Z n) :
    Calls Tryz.prog 28 #[.slice (some ⟨B, 0, none⟩) n cap, .int .i64 (s : Int)] w fun e w' => e = .returned (.int .i64 ((s + n * 10 : Nat) : Int)) ∧ OwnK w' B n (Mk 10 s) n ∧ w.grownBy w' (some B) ∧ w'.heap.size = w.heap.size := by
  have H0 : Hid (OwnK w B n (Mk 10 s) 0) := ⟨h.1, fun _ _ h => absurd h (by omega)⟩
  clear h
  go_enter Tryz.func28, Tryz.ntmps28
  go_wp2
  go_loopw [1, 5] (fun c i wr => ∃ k : Nat, k ≤ n ∧ .int .i64 k = i ∧ .int .i64 (Mk 10 s k 0) = c ∧ OwnK wr B n (Mk 10 s) k ∧ w.grownBy wr (some B) ∧ wr.heap.size = w.heap.size) (fun _ i _ => n - (intOf i).toNat)
  case atStart => exact ⟨0, Nat.zero_le _, rfl, by simp [Mk], H0.out, World.grownBy.refl _ _, rfl⟩
  case round =>
    obtain ⟨k, hk, rfl, rfl, hown, hg, hsz⟩ := hrel
    by_cases hkn : k < n
    · have hkn' : (k : Int) < (n : Int) := by omega
      obtain ⟨⟨v0, d0⟩, f0⟩ := own_cell hown hkn 0 (by omega)
      obtain ⟨⟨v1, d1⟩, f1⟩ := own_cell hown hkn 1 (by omega)
      obtain ⟨⟨v2, d2⟩, f2⟩ := own_cell hown hkn 2 (by omega)
      obtain ⟨⟨v3, d3⟩, f3⟩ := own_cell hown hkn 3 (by omega)
      obtain ⟨⟨v4, d4⟩, f4⟩ := own_cell hown hkn 4 (by omega)
      obtain ⟨⟨v5, d5⟩, f5⟩ := own_cell hown hkn 5 (by omega)
      obtain ⟨⟨v6, d6⟩, f6⟩ := own_cell hown hkn 6 (by omega)
      obtain ⟨⟨v7, d7⟩, f7⟩ := own_cell hown hkn 7 (by omega)
      obtain ⟨⟨v8, d8⟩, f8⟩ := own_cell hown hkn 8 (by omega)
      obtain ⟨⟨v9, d9⟩, f9⟩ := own_cell hown hkn 9 (by omega)
      simp only [Nat.add_zero] at d0 f0
      have HP : Hid (OwnK (putK wr B k (Mk 10 s)) B n (Mk 10 s) (k + 1)) := own_put hown hkn
      have HG : Hid (w.grownBy (putK wr B k (Mk 10 s)) (some B) ∧ (putK wr B k (Mk 10 s)).heap.size = w.heap.size) := ⟨hg.trans (putK_grown wr B k (Mk 10 s)).1, (putK_grown wr B k (Mk 10 s)).2.trans hsz⟩
      have m1 : IntKind.wrap .i64 ((Mk 10 s k 0) + 1) = (Mk 10 s k 1) := by unfold Mk; simp [IntKind.wrap, IntKind.bits, IntKind.signed]; omega
      have m2 : IntKind.wrap .i64 ((Mk 10 s k 1) + 1) = (Mk 10 s k 2) := by unfold Mk; simp [IntKind.wrap, IntKind.bits, IntKind.signed]; omega
      have m3 : IntKind.wrap .i64 ((Mk 10 s k 2) + 1) = (Mk 10 s k 3) := by unfold Mk; simp [IntKind.wrap, IntKind.bits, IntKind.signed]; omega
      have m4 : IntKind.wrap .i64 ((Mk 10 s k 3) + 1) = (Mk 10 s k 4) := by unfold Mk; simp [IntKind.wrap, IntKind.bits, IntKind.signed]; omega
      have m5 : IntKind.wrap .i64 ((Mk 10 s k 4) + 1) = (Mk 10 s k 5) := by unfold Mk; simp [IntKind.wrap, IntKind.bits, IntKind.signed]; omega
      have m6 : IntKind.wrap .i64 ((Mk 10 s k 5) + 1) = (Mk 10 s k 6) := by unfold Mk; simp [IntKind.wrap, IntKind.bits, IntKind.signed]; omega
      have m7 : IntKind.wrap .i64 ((Mk 10 s k 6) + 1) = (Mk 10 s k 7) := by unfold Mk; simp [IntKind.wrap, IntKind.bits, IntKind.signed]; omega
      have m8 : IntKind.wrap .i64 ((Mk 10 s k 7) + 1) = (Mk 10 s k 8) := by unfold Mk; simp [IntKind.wrap, IntKind.bits, IntKind.signed]; omega
      have m9 : IntKind.wrap .i64 ((Mk 10 s k 8) + 1) = (Mk 10 s k 9) := by unfold Mk; simp [IntKind.wrap, IntKind.bits, IntKind.signed]; omega
      have m10 : IntKind.wrap .i64 ((Mk 10 s k 9) + 1) = (Mk 10 s (k + 1) 0) := by unfold Mk; simp [IntKind.wrap, IntKind.bits, IntKind.signed]; omega
      clear hown hg hsz
      go_wp2
      go_roundw
      case rel => exact ⟨k + 1, by omega, by go_num, rfl, HP.out, HG.out.1, HG.out.2⟩
      case measure => simp [intOf]; omega
    · have hkn' : k = n := by omega
      subst hkn'
      have HO : Hid (OwnK wr B k (Mk 10 s) k) := hown
      clear hown
      go_wp2
      go_ret
      exact ⟨rfl, HO.out, hg, hsz⟩
set_option maxRecDepth 20000 in
set_option maxHeartbeats 2000000 in
theorem heldL (s B n cap : Nat) (hn : n ≤ 2000000) (hs : s ≤ 2000000000) (w : World) (hB : B < w.heap.size) (h : OwnK w B n (Mk 10 s) n) :
    Calls Tryz.prog 29 #[.slice (some ⟨B, 0, none⟩) n cap, .int .i64 (s : Int)] w fun e w' => e = .returned (.int .i64 ((s + n * 10 : Nat) : Int)) ∧ Below w.heap.size w w' := by
  have H0 : Hid (OwnK w B n (Mk 10 s) n) := h
  clear h
  go_enter Tryz.func29, Tryz.ntmps29
  go_wp2
  go_loopw [1, 5] (fun c i wr => ∃ k : Nat, k ≤ n ∧ .int .i64 k = i ∧ .int .i64 (Mk 10 s k 0) = c ∧ w = wr) (fun _ i _ => n - (intOf i).toNat)
  case atStart => exact ⟨0, Nat.zero_le _, rfl, by simp [Mk], rfl⟩
  case round =>
    obtain ⟨k, hk, rfl, rfl, rfl⟩ := hrel
    by_cases hkn : k < n
    · have hkn' : (k : Int) < (n : Int) := by omega
      have c0 : w.cell? ⟨B, k * 10, none⟩ = some (.int .i64 (Mk 10 s k 0)) := H0.out.2 k 0 hkn (by omega)
      have c1 : w.cell? ⟨B, k * 10 + 1, none⟩ = some (.int .i64 (Mk 10 s k 1)) := H0.out.2 k 1 hkn (by omega)
      have c2 : w.cell? ⟨B, k * 10 + 2, none⟩ = some (.bool (tr (Mk 10 s k 2))) := H0.out.2 k 2 hkn (by omega)
      have c3 : w.cell? ⟨B, k * 10 + 3, none⟩ = some (.int .i64 (Mk 10 s k 3)) := H0.out.2 k 3 hkn (by omega)
      have c4 : w.cell? ⟨B, k * 10 + 4, none⟩ = some (.int .i64 (Mk 10 s k 4)) := H0.out.2 k 4 hkn (by omega)
      have c5 : w.cell? ⟨B, k * 10 + 5, none⟩ = some (.int .i64 (Mk 10 s k 5)) := H0.out.2 k 5 hkn (by omega)
      have c6 : w.cell? ⟨B, k * 10 + 6, none⟩ = some (.int .i64 (Mk 10 s k 6)) := H0.out.2 k 6 hkn (by omega)
      have c7 : w.cell? ⟨B, k * 10 + 7, none⟩ = some (.int .i64 (Mk 10 s k 7)) := H0.out.2 k 7 hkn (by omega)
      have c8 : w.cell? ⟨B, k * 10 + 8, none⟩ = some (.int .i64 (Mk 10 s k 8)) := H0.out.2 k 8 hkn (by omega)
      have c9 : w.cell? ⟨B, k * 10 + 9, none⟩ = some (.int .i64 (Mk 10 s k 9)) := H0.out.2 k 9 hkn (by omega)
      have m1 : IntKind.wrap .i64 ((Mk 10 s k 0) + 1) = (Mk 10 s k 1) := by unfold Mk; simp [IntKind.wrap, IntKind.bits, IntKind.signed]; omega
      have m2 : IntKind.wrap .i64 ((Mk 10 s k 1) + 1) = (Mk 10 s k 2) := by unfold Mk; simp [IntKind.wrap, IntKind.bits, IntKind.signed]; omega
      have m3 : IntKind.wrap .i64 ((Mk 10 s k 2) + 1) = (Mk 10 s k 3) := by unfold Mk; simp [IntKind.wrap, IntKind.bits, IntKind.signed]; omega
      have m4 : IntKind.wrap .i64 ((Mk 10 s k 3) + 1) = (Mk 10 s k 4) := by unfold Mk; simp [IntKind.wrap, IntKind.bits, IntKind.signed]; omega
      have m5 : IntKind.wrap .i64 ((Mk 10 s k 4) + 1) = (Mk 10 s k 5) := by unfold Mk; simp [IntKind.wrap, IntKind.bits, IntKind.signed]; omega
      have m6 : IntKind.wrap .i64 ((Mk 10 s k 5) + 1) = (Mk 10 s k 6) := by unfold Mk; simp [IntKind.wrap, IntKind.bits, IntKind.signed]; omega
      have m7 : IntKind.wrap .i64 ((Mk 10 s k 6) + 1) = (Mk 10 s k 7) := by unfold Mk; simp [IntKind.wrap, IntKind.bits, IntKind.signed]; omega
      have m8 : IntKind.wrap .i64 ((Mk 10 s k 7) + 1) = (Mk 10 s k 8) := by unfold Mk; simp [IntKind.wrap, IntKind.bits, IntKind.signed]; omega
      have m9 : IntKind.wrap .i64 ((Mk 10 s k 8) + 1) = (Mk 10 s k 9) := by unfold Mk; simp [IntKind.wrap, IntKind.bits, IntKind.signed]; omega
      have m10 : IntKind.wrap .i64 ((Mk 10 s k 9) + 1) = (Mk 10 s (k + 1) 0) := by unfold Mk; simp [IntKind.wrap, IntKind.bits, IntKind.signed]; omega
      have hq2 : ((Mk 10 s k 2).tmod 3 == 0) = tr (Mk 10 s k 2) := rfl
      go_wp2
      go_roundw
      case rel => exact ⟨k + 1, by omega, by go_num, rfl, by trivial⟩
      case measure => simp [intOf]; omega
    · have hkn' : k = n := by omega
      subst hkn'
      go_wp2
      go_ret
      exact ⟨rfl, Below.refl _ _⟩
theorem markL0 (s : Nat) (a : Option Addr) (c : Nat) (w : World) :
    Calls Tryz.prog 28 #[.slice a 0 c, .int .i64 (s : Int)] w fun e w' => e = .returned (.int .i64 (s : Int)) ∧ w' = w := by
  go_enter Tryz.func28, Tryz.ntmps28
  go_wp2
  refine wp_loop_rounds 1 ?_
  rw [rounds_succ]
  go_wp2
  go_ret
  exact ⟨rfl, rfl⟩
theorem heldL0 (s : Nat) (a : Option Addr) (c : Nat) (w : World) :
    Calls Tryz.prog 29 #[.slice a 0 c, .int .i64 (s : Int)] w fun e w' => e = .returned (.int .i64 (s : Int)) ∧ Below w.heap.size w w' := by
  go_enter Tryz.func29, Tryz.ntmps29
  go_wp2
  refine wp_loop_rounds 1 ?_
  rw [rounds_succ]
  go_wp2
  go_ret
  exact ⟨rfl, Below.refl _ _⟩
def RL (lo hi : Nat) (w : World) (v : Value) (n : Nat) (Z : Nat → Nat → Int) : Prop :=
  (n = 0 ∧ ∃ a c, v = .slice a 0 c) ∨ ∃ g c, v = .slice (some ⟨g, 0, none⟩) n c ∧ lo ≤ g ∧ g < hi ∧ hi ≤ w.heap.size ∧ OwnK w g n Z n
theorem ownK_sm {w w' : World} {B n k : Nat} {Z : Nat → Nat → Int} (h : OwnK w B n Z k) (hs : Sm w w' B) : OwnK w' B n Z k :=
  ⟨fun i hi => by rw [(hs i).1, (hs i).2]; exact h.1 i hi, fun k' j hk hj => by rw [(hs _).1]; exact h.2 k' j hk hj⟩
theorem RL.sm {lo hi : Nat} {w w' : World} {v : Value} {n : Nat} {Z : Nat → Nat → Int} (h : RL lo hi w v n Z) (hs : w.heap.size ≤ w'.heap.size) (k : ∀ b, lo ≤ b → b < hi → Sm w w' b) : RL lo hi w' v n Z := by
  rcases h with h | ⟨g, c, h1, h2, h3, h4, h5⟩
  · exact .inl h
  · exact .inr ⟨g, c, h1, h2, h3, Nat.le_trans h4 hs, ownK_sm h5 (k g h2 h3)⟩
theorem RL.below {lo hi : Nat} {w w' : World} {v : Value} {n : Nat} {Z : Nat → Nat → Int} (h : RL lo hi w v n Z) (hb : Below w.heap.size w w') : RL lo hi w' v n Z := by
  rcases h with h | ⟨g, c, h1, h2, h3, h4, h5⟩
  · exact .inl h
  · exact .inr ⟨g, c, h1, h2, h3, Nat.le_trans h4 hb.size, ownK_sm h5 (sm_below hb (by omega))⟩
theorem RL.at {lo hi : Nat} {w : World} {v : Value} {n : Nat} {Z : Nat → Nat → Int} (h : RL lo hi w v n Z) : ∃ a c, v = .slice a n c ∧ RowK w a n Z := by
  rcases h with ⟨rfl, a, c, rfl⟩ | ⟨g, c, rfl, h2, h3, h4, h5⟩
  · exact ⟨a, c, rfl, .inl rfl⟩
  · exact ⟨_, c, rfl, row_of_own h5 (by omega)⟩
theorem mark_any (lo hi s : Nat) (v : Value) (n : Nat) (Z : Nat → Nat → Int) (hn : n ≤ 2000000) (hs : s ≤ 2000000000) (w : World) (hlh : lo ≤ w.heap.size) (h : RL lo hi w v n Z) :
    Calls Tryz.prog 28 #[v, .int .i64 (s : Int)] w fun e w' => e = .returned (.int .i64 ((s + n * 10 : Nat) : Int)) ∧ RL lo hi w' v n (Mk 10 s) ∧ w.heap.size ≤ w'.heap.size ∧ (∀ b, b < w.heap.size → (b < lo ∨ hi ≤ b) → Sm w w' b) ∧ Below lo w w' := by
  rcases h with ⟨rfl, a, c, rfl⟩ | ⟨g, c, rfl, h2, h3, h4, h5⟩
  · refine (markL0 s a c w).mono ?_
    rintro e w' ⟨rfl, rfl⟩
    exact ⟨by simp, .inl ⟨rfl, a, c, rfl⟩, Nat.le_refl _, fun b _ _ => Sm.refl _ _, Below.refl _ _⟩
  · refine (markL s g n c Z hn hs w (by omega) h5).mono ?_
    rintro e w' ⟨rfl, o, hg, hz⟩
    exact ⟨rfl, .inr ⟨g, c, rfl, h2, h3, by omega, o⟩, Nat.le_of_eq hz.symm, fun b hb hne => sm_grown hg hb (by intro e; injection e with e; omega), below_grown hg h2 (by omega)⟩
theorem held_any (lo hi s : Nat) (v : Value) (n : Nat) (hn : n ≤ 2000000) (hs : s ≤ 2000000000) (w : World) (h : RL lo hi w v n (Mk 10 s)) :
    Calls Tryz.prog 29 #[v, .int .i64 (s : Int)] w fun e w' => e = .returned (.int .i64 ((s + n * 10 : Nat) : Int)) ∧ Below w.heap.size w w' := by
  rcases h with ⟨rfl, a, c, rfl⟩ | ⟨g, c, rfl, h2, h3, h4, h5⟩
  · refine (heldL0 s a c w).mono ?_
    rintro e w' ⟨rfl, hb⟩
    exact ⟨by simp, hb⟩
  · exact heldL s g n c hn hs w (by omega) h5
def rowK (Z : Nat → Nat → Int) (k : Nat) : List Value := [.int .i64 (Z k 0), .int .i64 (Z k 1), .bool (tr (Z k 2)), .int .i64 (Z k 3), .int .i64 (Z k 4), .int .i64 (Z k 5), .int .i64 (Z k 6), .int .i64 (Z k 7), .int .i64 (Z k 8), .int .i64 (Z k 9)]
theorem flat_getK {m : Nat} (f : Nat → List Value) (hf : ∀ k, (f k).length = m) (hm : 0 < m) : ∀ n i, i < n * m → ((List.range n).flatMap f)[i]? = (f (i / m))[i % m]?
  | 0, i, h => by omega
  | n + 1, i, h => by
    rw [List.range_succ, List.flatMap_append]
    have hl : ((List.range n).flatMap f).length = n * m := by
      clear h
      induction n with
      | zero => simp
      | succ n ih => rw [List.range_succ, List.flatMap_append, List.length_append, ih]; simp [hf, Nat.succ_mul]
    by_cases hi : i < n * m
    · rw [List.getElem?_append_left (by omega)]
      exact flat_getK f hf hm n i hi
    · rw [List.getElem?_append_right (by omega), hl]
      have h1 : i / m = n := Nat.div_eq_of_lt_le (by omega) (by omega)
      have h2 : i % m = i - n * m := by
        have := Nat.div_add_mod i m
        rw [h1, Nat.mul_comm] at this
        omega
      rw [h1, h2]
      simp
theorem rl_of_own {w : World} {base n : Nat} {v : Value} {Z : Nat → Nat → Int} (h : w.ownsRow base 63 10 v n ((List.range n).flatMap (rowK Z))) : RL base w.heap.size w v n Z := by
  rcases h.2 with ⟨e, hl⟩ | ⟨g, cap, cur, hv, _⟩
  · subst e; subst hl
    exact .inl ⟨rfl, none, 0, rfl⟩
  · have ho : w.ownsRow base 63 10 (.slice (some ⟨g, 0, none⟩) n cap) n ((List.range n).flatMap (rowK Z)) := by rw [← hv]; exact h
    refine .inr ⟨g, cap, hv, (ho.lt g rfl).1, (ho.lt g rfl).2, Nat.le_refl _, fun i hi => ⟨?_, ho.frozenAt i⟩, fun k j hk hj => ?_⟩
    · rw [ho.cellAt i (by omega)]
      have : i < ((List.range n).flatMap (rowK Z)).length := by rw [ho.1]; omega
      rw [List.getElem?_eq_getElem this]
      rfl
    · rw [ho.cellAt (k * 10 + j) (by omega), flat_getK (m := 10) (rowK Z) (fun _ => rfl) (by decide) n (k * 10 + j) (by omega), show (k * 10 + j) / 10 = k by omega, show (k * 10 + j) % 10 = j by omega]
      match j, hj with
      | 0, _ => rfl
      | 1, _ => rfl
      | 2, _ => rfl
      | 3, _ => rfl
      | 4, _ => rfl
      | 5, _ => rfl
      | 6, _ => rfl
      | 7, _ => rfl
      | 8, _ => rfl
      | 9, _ => rfl
      | j + 10, hj => omega
end Go.Proofs.YtgjapdjidighlabGreat.P10
