/- What is carried: lemmas on lists, cells and draws; conditions: those typed. -/
import Derived.WalkKit
import Derived.ProofKit
import Derived.OpenShut
import Derived.Below
import Derived.Deep.Slices
import Derived.Test.YtjllgmkficjiaaaRows
import Derived.WalkSpells
import Derived.Deep.RegionHeld3
import Derived.Deep.QuietTactic
import Derived.BigQuiet
import Derived.LoopTactic
import Derived.Deep.OwnRows
import Derived.Laws.IdiomCopy
import Derived.Laws.AppendOwn
import Derived.Deep.RegionHeld
import Derived.Deep.DeepCutAuto
namespace Go.Proofs.Ytjllgmkficjiaaa
open Go.RowKit Go.ChangeShapes Go.WideShapes Go.ChangeAt
theorem bcell {W w1 : World} (hb : Below W.heap.size W w1) : (∀ b o, b < W.heap.size → w1.cell? ⟨b, o, none⟩ = W.cell? ⟨b, o, none⟩) ∧ (∀ b o, b < W.heap.size → w1.frozen? ⟨b, o, none⟩ = W.frozen? ⟨b, o, none⟩) :=
  ⟨fun b o h => hb.cell (p := ⟨b, o, none⟩) h, fun b o h => hb.frozen (p := ⟨b, o, none⟩) h⟩
theorem bthen {a b c : World} (h : Below a.heap.size a b) (k : Below b.heap.size b c) : Below a.heap.size a c := h.trans (k.mono h.size)
end Go.Proofs.Ytjllgmkficjiaaa
namespace Go.Proofs.Ytjllgmkficjiaaa
open Go.RowKit Go.ChangeShapes Go.WideShapes Go.ChangeAt Go.Deep
/-- In w there lie n structs of five integers, from a on: the k-th one's fields are Z k 0 .. Z k 4. -/
def Row5 (w : World) (a : Option Addr) (n : Nat) (Z : Nat → Nat → Int) : Prop :=
  n = 0 ∨ ∃ b o, a = some ⟨b, o, none⟩ ∧ b < w.heap.size ∧ ∀ k j, k < n → j < 5 → w.cell? ⟨b, o + k * 5 + j, none⟩ = some (.int .i64 (Z k j))
end Go.Proofs.Ytjllgmkficjiaaa
namespace Go.Proofs.Ytjllgmkficjiaaa.P8
open Go.RowKit Go.ChangeShapes Go.WideShapes Go.ChangeAt Go.Deep
/-- In w there lie n parcels, from a on: the k-th one's numbers are Z k 0 .. Z k 7. -/
def Row8 (w : World) (a : Option Addr) (n : Nat) (Z : Nat → Nat → Int) : Prop :=
  n = 0 ∨ ∃ b o, a = some ⟨b, o, none⟩ ∧ b < w.heap.size ∧ ∀ k j, k < n → j < 8 → w.cell? ⟨b, o + k * 8 + j, none⟩ = some (.int .i64 (Z k j))
end Go.Proofs.Ytjllgmkficjiaaa.P8
namespace Go.Proofs.Ytjllgmkficjiaaa
open Go.RowKit Go.ChangeShapes Go.WideShapes Go.ChangeAt Go.Deep
/-- In w there lie n integers, from a on: the k-th one is X k. -/
def Row1 (w : World) (a : Option Addr) (n : Nat) (X : Nat → Int) : Prop :=
  n = 0 ∨ ∃ b o, a = some ⟨b, o, none⟩ ∧ b < w.heap.size ∧ ∀ k, k < n → w.cell? ⟨b, o + k, none⟩ = some (.int .i64 (X k))
/-- In w there lie n lists of parcels, from a on: the k-th one has N k parcels, and their numbers are O k. -/
def RowO (w : World) (a : Option Addr) (n : Nat) (N : Nat → Nat) (O : Nat → Nat → Nat → Int) : Prop :=
  n = 0 ∨ ∃ b o, a = some ⟨b, o, none⟩ ∧ b < w.heap.size ∧ ∀ k, k < n → ∃ x c, w.cell? ⟨b, o + k, none⟩ = some (.slice x (N k) c) ∧ P8.Row8 w x (N k) (O k)
/-- What a cell holds. -/
structure CV where
  c : Int
  nW : Nat
  W : Nat → Nat → Int
  g : Int
  nO : Nat
  N : Nat → Nat
  O : Nat → Nat → Nat → Int
  nX : Nat
  X : Nat → Int
  nI : Nat
  I : Nat → Int
/-- The value v is a cell that holds V, in w. -/
def CellAt (w : World) (v : Value) (V : CV) : Prop :=
  ∃ aW kW aO kO aX kX aI kI, v = .agg #[.int .i64 V.c, .slice aW V.nW kW, .int .i64 V.g, .slice aO V.nO kO, .slice aX V.nX kX, .slice aI V.nI kI] ∧
    Row5 w aW V.nW V.W ∧ RowO w aO V.nO V.N V.O ∧ Row1 w aX V.nX V.X ∧ Row1 w aI V.nI V.I
section
variable {H : Type} {enc : TypeId × Value → H} {P : Program} {w : World} {base : Nat} {spare : Nat → Bool} {held : Bool}
variable {tw8 ti : TypeId} {fs5 : Array Field} {g0 g1 g2 g3 : Field}
end
end Go.Proofs.Ytjllgmkficjiaaa
namespace Go.Proofs.Ytjllgmkficjiaaa
open Go.RowKit
set_option linter.unusedVariables false
theorem bdrewN {a b : World} (h : Below a.heap.size a b) (n : Nat) : Below a.heap.size a (b.drewN n) := h.trans ⟨rfl, rfl, rfl, Nat.le_refl _, fun _ _ => rfl⟩
theorem keepS {W w1 w2 : World} {m : Nat} (h : (∀ b o, b < m → w1.cell? ⟨b, o, none⟩ = W.cell? ⟨b, o, none⟩) ∧ m ≤ w1.heap.size) (hb : Below w1.heap.size w1 w2) :
    (∀ b o, b < m → w2.cell? ⟨b, o, none⟩ = W.cell? ⟨b, o, none⟩) ∧ m ≤ w2.heap.size :=
  ⟨fun b o hlt => (hb.cell (p := ⟨b, o, none⟩) (Nat.lt_of_lt_of_le hlt h.2)).trans (h.1 b o hlt), Nat.le_trans h.2 hb.size⟩
end Go.Proofs.Ytjllgmkficjiaaa
namespace Go.Proofs.Ytjllgmkficjiaaa
open Go.RowKit Go.Deep
set_option linter.unusedVariables false
end Go.Proofs.Ytjllgmkficjiaaa
namespace Go.Proofs.Ytjllgmkficjiaaa
open Go.RowKit Go.Deep
set_option linter.unusedVariables false
theorem Try.info46 : (Try.prog.info? 46).map (fun i => (i.zero, i.size, i.bytes)) = some (some (.agg #[.int .i64 0, .int .i64 0, .int .i64 0, .int .i64 0, .int .i64 0]), 5, 40) := by kernel_rfl
theorem make5 (n : Nat) (hn : n ≤ 1048576) (w : World) :
    (Instr.makeSlice 25 (.int .i64 (n : Int)) (.int .i64 (n : Int))).run Try.prog w = .ok (.slice (some ⟨w.heap.size, 0, none⟩) n n) (w.alloc (.cells (madeCells #[.int .i64 0, .int .i64 0, .int .i64 0, .int .i64 0, .int .i64 0] (n * 5)) 46)) := by
  obtain ⟨i, hi, hzz⟩ := Option.map_eq_some_iff.1 Try.info46
  simp only [Prod.mk.injEq] at hzz
  obtain ⟨hz, hs, hb⟩ := hzz
  have := run_make (P := Try.prog) w 25 46 i _ Try.underlying25 hi hz .i64 .i64 n n (by omega) (by omega) (by rw [hb]; omega) (by omega)
  rw [this, hs]
  rfl
/-- Block B of wr is a row of n structs of five integers of the call's own, of which the first k hold Z's. -/
def Own5 (wr : World) (B n : Nat) (Z : Nat → Nat → Int) (k : Nat) : Prop :=
  (∀ i, i < n * 5 → (wr.cell? ⟨B, i, none⟩).isSome = true ∧ wr.frozen? ⟨B, i, none⟩ = false) ∧ ∀ k' j, k' < k → j < 5 → wr.cell? ⟨B, k' * 5 + j, none⟩ = some (.int .i64 (Z k' j))
theorem own_cell {wr : World} {B n k : Nat} {Z : Nat → Nat → Int} (h : Own5 wr B n Z k) (hk : k < n) (j : Nat) (hj : j < 5) : (∃ v, wr.cell? ⟨B, k * 5 + j, none⟩ = some v) ∧ wr.frozen? ⟨B, k * 5 + j, none⟩ = false := by
  obtain ⟨h1, h2⟩ := h.1 (k * 5 + j) (by omega)
  exact ⟨Option.isSome_iff_exists.1 h1, h2⟩
theorem own_below {w w' : World} {B n k : Nat} {Z : Nat → Nat → Int} (h : Own5 w B n Z k) (hB : B < w.heap.size) (hb : Below w.heap.size w w') : Own5 w' B n Z k :=
  ⟨fun i hi => by rw [hb.cell (p := ⟨B, i, none⟩) hB, hb.frozen (p := ⟨B, i, none⟩) hB]; exact h.1 i hi, fun k' j hk hj => by rw [hb.cell (p := ⟨B, k' * 5 + j, none⟩) hB]; exact h.2 k' j hk hj⟩
def put5 (w : World) (B k : Nat) (Z : Nat → Nat → Int) : World :=
  ((((w.setCell ⟨B, k * 5, none⟩ (.int .i64 (Z k 0))).setCell ⟨B, k * 5 + 1, none⟩ (.int .i64 (Z k 1))).setCell ⟨B, k * 5 + 2, none⟩ (.int .i64 (Z k 2))).setCell ⟨B, k * 5 + 3, none⟩ (.int .i64 (Z k 3))).setCell ⟨B, k * 5 + 4, none⟩ (.int .i64 (Z k 4))
theorem put5_cells (w : World) (B k : Nat) (Z : Nat → Nat → Int) : put5 w B k Z = w.setCells B (k * 5) [.int .i64 (Z k 0), .int .i64 (Z k 1), .int .i64 (Z k 2), .int .i64 (Z k 3), .int .i64 (Z k 4)] := rfl
theorem own_put {w : World} {B n k : Nat} {Z : Nat → Nat → Int} (h : Own5 w B n Z k) (hk : k < n) : Own5 (put5 w B k Z) B n Z (k + 1) := by
  have hin : ∀ j, j < 5 → (put5 w B k Z).cell? ⟨B, k * 5 + j, none⟩ = some (.int .i64 (Z k j)) := by
    intro j hj
    rw [put5_cells]
    have := World.cell?_setCells_in B [.int .i64 (Z k 0), .int .i64 (Z k 1), .int .i64 (Z k 2), .int .i64 (Z k 3), .int .i64 (Z k 4)] (k * 5) w (fun j' hj' => (h.1 (k * 5 + j') (by simp at hj'; omega)).1) j (by simpa using hj)
    rw [this]
    match j, hj with
    | 0, _ => rfl
    | 1, _ => rfl
    | 2, _ => rfl
    | 3, _ => rfl
    | 4, _ => rfl
  have hout : ∀ i, (i < k * 5 ∨ k * 5 + 5 ≤ i) → (put5 w B k Z).cell? ⟨B, i, none⟩ = w.cell? ⟨B, i, none⟩ := by
    intro i hi
    rw [put5_cells]
    exact World.cell?_setCells_out B _ (k * 5) w ⟨B, i, none⟩ (fun _ _ => by simpa using hi)
  refine ⟨fun i hi => ⟨?_, ?_⟩, fun k' j hk' hj => ?_⟩
  · by_cases hc : i < k * 5 ∨ k * 5 + 5 ≤ i
    · rw [hout i hc]; exact (h.1 i hi).1
    · have := hin (i - k * 5) (by omega)
      rw [show k * 5 + (i - k * 5) = i by omega] at this
      rw [this]; rfl
  · rw [put5_cells, World.frozen?_setCells]; exact (h.1 i hi).2
  · by_cases hc : k' = k
    · subst hc; exact hin j hj
    · rw [hout _ (by omega)]; exact h.2 k' j (by omega) hj
end Go.Proofs.Ytjllgmkficjiaaa
namespace Go.Proofs.Ytjllgmkficjiaaa
open Go.RowKit Go.Deep
set_option linter.unusedVariables false
theorem own_row {w : World} {B n : Nat} {Z : Nat → Nat → Int} (h : Own5 w B n Z n) : ∀ k j, k < n → j < 5 → w.cell? ⟨B, 0 + k * 5 + j, none⟩ = some (.int .i64 (Z k j)) := fun k j hk hj => by
  rw [Nat.zero_add]; exact h.2 k j hk hj
end Go.Proofs.Ytjllgmkficjiaaa
namespace Go.Proofs.Ytjllgmkficjiaaa
open Go.RowKit
set_option linter.unusedVariables false
def inB (n lo hi : Int) : Bool := decide (lo ≤ n ∧ n ≤ hi)
def okB (c d : Int) : Bool := inB c 2 4 && inB d 2 8
theorem in_spec (n lo hi : Int) (w : World) :
    Calls Try.prog 22 #[.int .i64 n, .int .i64 lo, .int .i64 hi] w fun e w' => e = .returned (.bool (inB n lo hi)) ∧ w' = w := by
  go_enter Try.func22, Try.ntmps22
  go_wp2
  all_goals (go_ret; exact ⟨by simp [inB, *] <;> omega, rfl⟩)
theorem in_impl (n lo hi : Int) (w : World) :
    Calls Try.prog 27 #[.int .i64 n, .int .i64 lo, .int .i64 hi] w fun e w' => e = .returned (.bool (inB n lo hi)) ∧ w' = w := by
  go_enter Try.func27, Try.ntmps27
  go_wp2
  all_goals (go_ret; exact ⟨by simp [inB, *] <;> omega, rfl⟩)
theorem ok_spec (c d : Int) (w : World) :
    Calls Try.prog 8 #[.agg #[.int .i64 c, .int .i64 d]] w fun e w' => e = .returned (.bool (okB c d)) ∧ Below w.heap.size w w' := by
  cases h : inB c 2 4
  all_goals
    go_enter Try.func8, Try.ntmps8
    go_wp2_with (go_at_call 22; refine (in_spec _ _ _ _).mono ?_; rintro e w' ⟨rfl, rfl⟩)
    go_ret
    exact ⟨by simp [okB, h], (Below.refl _ _).alloc (by simp) _⟩
theorem ok_impl (c d : Int) (w : World) :
    Calls Try.prog 25 #[.agg #[.int .i64 c, .int .i64 d]] w fun e w' => e = .returned (.bool (okB c d)) ∧ Below w.heap.size w w' := by
  cases h : inB c 2 4
  all_goals
    go_enter Try.func25, Try.ntmps25
    go_wp2_with (go_at_call 27; refine (in_impl _ _ _ _).mono ?_; rintro e w' ⟨rfl, rfl⟩)
    go_ret
    exact ⟨by simp [okB, h], (Below.refl _ _).alloc (by simp) _⟩
end Go.Proofs.Ytjllgmkficjiaaa
namespace Go.Proofs.Ytjllgmkficjiaaa
open Go.RowKit
set_option linter.unusedVariables false
def cellF (c d a : Int) : Int := if okB c d = true ∧ inB a 0 (c * d - 1) = true then a / d else -1
theorem inB_true {n lo hi : Int} : inB n lo hi = true ↔ lo ≤ n ∧ n ≤ hi := by simp [inB]
theorem inB_false {n lo hi : Int} : inB n lo hi = false ↔ (n < lo ∨ hi < n) := by simp [inB]; omega
theorem okB_bounds {c d : Int} (h : okB c d = true) : 2 ≤ c ∧ c ≤ 4 ∧ 2 ≤ d ∧ d ≤ 8 := by
  simp only [okB, Bool.and_eq_true, inB_true] at h; omega
theorem mul_bounds {c d : Int} (h : okB c d = true) : 4 ≤ c * d ∧ c * d ≤ 32 := by
  obtain ⟨a, b, e, f⟩ := okB_bounds h
  have : c = 2 ∨ c = 3 ∨ c = 4 := by omega
  rcases this with rfl | rfl | rfl <;> omega
theorem cell_spec (c d a : Int) (w : World) :
    Calls Try.prog 23 #[.agg #[.int .i64 c, .int .i64 d], .int .i64 a] w fun e w' => e = .returned (.int .i64 (cellF c d a)) ∧ Below w.heap.size w w' := by
  cases h : okB c d
  · go_enter Try.func23, Try.ntmps23
    go_wp2_with fail
    refine (ok_spec _ _ _).mono ?_
    rintro e w1 ⟨rfl, hb1⟩
    go_wp2
    go_ret
    exact ⟨by simp [cellF, h], bthen ((Below.refl _ _).alloc (by simp) _) hb1⟩
  · obtain ⟨a1, a2, a3, a4⟩ := okB_bounds h
    obtain ⟨m1, m2⟩ := mul_bounds h
    cases hin : inB a 0 (c * d - 1)
    · go_enter Try.func23, Try.ntmps23
      go_wp2_with fail
      refine (ok_spec _ _ _).mono ?_
      rintro e w1 ⟨rfl, hb1⟩
      obtain ⟨hc1, hf1⟩ := bcell hb1
      go_wp2_with (go_at_call 22; refine (in_spec _ _ _ _).mono ?_; rintro e w' ⟨rfl, rfl⟩)
      go_ret
      exact ⟨by simp [cellF, h, hin], bthen ((Below.refl _ _).alloc (by simp) _) hb1⟩
    · obtain ⟨i1, i2⟩ := inB_true.1 hin
      go_enter Try.func23, Try.ntmps23
      go_wp2_with fail
      refine (ok_spec _ _ _).mono ?_
      rintro e w1 ⟨rfl, hb1⟩
      obtain ⟨hc1, hf1⟩ := bcell hb1
      go_wp2_with (go_at_call 22; refine (in_spec _ _ _ _).mono ?_; rintro e w' ⟨rfl, rfl⟩)
      go_ret
      exact ⟨by simp [cellF, h, hin], bthen ((Below.refl _ _).alloc (by simp) _) hb1⟩
theorem cell_impl (c d a : Int) (w : World) :
    Calls Try.prog 33 #[.int .i64 a, .agg #[.int .i64 c, .int .i64 d]] w fun e w' => e = .returned (.int .i64 (cellF c d a)) ∧ Below w.heap.size w w' := by
  cases h : okB c d
  · go_enter Try.func33, Try.ntmps33
    go_wp2_with fail
    refine (ok_impl _ _ _).mono ?_
    rintro e w1 ⟨rfl, hb1⟩
    go_wp2
    go_ret
    exact ⟨by simp [cellF, h], bthen ((Below.refl _ _).alloc (by simp) _) hb1⟩
  · obtain ⟨a1, a2, a3, a4⟩ := okB_bounds h
    obtain ⟨m1, m2⟩ := mul_bounds h
    cases hin : inB a 0 (c * d - 1)
    · go_enter Try.func33, Try.ntmps33
      go_wp2_with fail
      refine (ok_impl _ _ _).mono ?_
      rintro e w1 ⟨rfl, hb1⟩
      obtain ⟨hc1, hf1⟩ := bcell hb1
      go_wp2_with (go_at_call 27; refine (in_impl _ _ _ _).mono ?_; rintro e w' ⟨rfl, rfl⟩)
      go_ret
      exact ⟨by simp [cellF, h, hin], bthen ((Below.refl _ _).alloc (by simp) _) hb1⟩
    · obtain ⟨i1, i2⟩ := inB_true.1 hin
      go_enter Try.func33, Try.ntmps33
      go_wp2_with fail
      refine (ok_impl _ _ _).mono ?_
      rintro e w1 ⟨rfl, hb1⟩
      obtain ⟨hc1, hf1⟩ := bcell hb1
      go_wp2_with (go_at_call 27; refine (in_impl _ _ _ _).mono ?_; rintro e w' ⟨rfl, rfl⟩)
      go_ret
      exact ⟨by simp [cellF, h, hin], bthen ((Below.refl _ _).alloc (by simp) _) hb1⟩
theorem plcCell_impl (c d a : Int) (w : World) :
    Calls Try.prog 18 #[.agg #[.int .i64 c, .int .i64 d], .int .i64 a] w fun e w' => e = .returned (.int .i64 (cellF c d a)) ∧ Below w.heap.size w w' := by
  go_enter Try.func18, Try.ntmps18
  go_wp2_with fail
  refine (cell_impl _ _ _ _).mono ?_
  rintro e w1 ⟨rfl, hb1⟩
  go_wp2
  go_ret
  exact ⟨rfl, bthen ((Below.refl _ _).alloc (by simp) _) hb1⟩
end Go.Proofs.Ytjllgmkficjiaaa
namespace Go.Proofs.Ytjllgmkficjiaaa
open Go.RowKit
set_option linter.unusedVariables false
def boundsB (i n s l : Int) : Bool := inB i 1 9 && (inB n 0 99 && (inB s 0 900 && inB l 0 9))
def wlkB (c d i a n s l : Int) : Bool := boundsB i n s l && (cellF c d a != -1)
theorem bounds_impl (i a n s l : Int) (w : World) :
    Calls Try.prog 37 #[.agg #[.int .i64 i, .int .i64 a, .int .i64 n, .int .i64 s, .int .i64 l]] w fun e w' => e = .returned (.bool (boundsB i n s l)) ∧ Below w.heap.size w w' := by
  cases h1 : inB i 1 9
  · go_enter Try.func37, Try.ntmps37
    go_wp2_with (go_at_call 27; refine (in_impl _ _ _ _).mono ?_; rintro e w' ⟨rfl, rfl⟩)
    go_ret
    exact ⟨by simp [boundsB, *], by repeat (first | exact Below.refl _ _ | refine bthen ?_ (by assumption) | apply Below.drew | apply bdrewN | refine Below.alloc ?_ (by simp) _)⟩
  ·
    cases h2 : inB n 0 99
    · go_enter Try.func37, Try.ntmps37
      go_wp2_with (go_at_call 27; refine (in_impl _ _ _ _).mono ?_; rintro e w' ⟨rfl, rfl⟩)
      go_ret
      exact ⟨by simp [boundsB, *], by repeat (first | exact Below.refl _ _ | refine bthen ?_ (by assumption) | apply Below.drew | apply bdrewN | refine Below.alloc ?_ (by simp) _)⟩
    ·
      cases h3 : inB s 0 900
      · go_enter Try.func37, Try.ntmps37
        go_wp2_with (go_at_call 27; refine (in_impl _ _ _ _).mono ?_; rintro e w' ⟨rfl, rfl⟩)
        go_ret
        exact ⟨by simp [boundsB, *], by repeat (first | exact Below.refl _ _ | refine bthen ?_ (by assumption) | apply Below.drew | apply bdrewN | refine Below.alloc ?_ (by simp) _)⟩
      · go_enter Try.func37, Try.ntmps37
        go_wp2_with (go_at_call 27; refine (in_impl _ _ _ _).mono ?_; rintro e w' ⟨rfl, rfl⟩)
        go_ret
        exact ⟨by simp [boundsB, *], by repeat (first | exact Below.refl _ _ | refine bthen ?_ (by assumption) | apply Below.drew | apply bdrewN | refine Below.alloc ?_ (by simp) _)⟩
theorem wlkOk_impl (c d i a n s l : Int) (w : World) :
    Calls Try.prog 32 #[.agg #[.int .i64 c, .int .i64 d], .agg #[.int .i64 i, .int .i64 a, .int .i64 n, .int .i64 s, .int .i64 l]] w fun e w' => e = .returned (.bool (wlkB c d i a n s l)) ∧ Below w.heap.size w w' := by
  cases h1 : boundsB i n s l
  · go_enter Try.func32, Try.ntmps32
    go_wp2_with (first | (go_at_call 37; refine (bounds_impl _ _ _ _ _ _).mono ?_; rintro e w' ⟨rfl, hb⟩; obtain ⟨hc, hf⟩ := bcell hb) | (go_at_call 18; refine (plcCell_impl _ _ _ _).mono ?_; rintro e w' ⟨rfl, hb⟩; obtain ⟨hc, hf⟩ := bcell hb))
    go_ret
    exact ⟨by simp [wlkB, *], by repeat (first | exact Below.refl _ _ | refine bthen ?_ (by assumption) | apply Below.drew | apply bdrewN | refine Below.alloc ?_ (by simp) _)⟩
  · go_enter Try.func32, Try.ntmps32
    go_wp2_with (first | (go_at_call 37; refine (bounds_impl _ _ _ _ _ _).mono ?_; rintro e w' ⟨rfl, hb⟩; obtain ⟨hc, hf⟩ := bcell hb) | (go_at_call 18; refine (plcCell_impl _ _ _ _).mono ?_; rintro e w' ⟨rfl, hb⟩; obtain ⟨hc, hf⟩ := bcell hb))
    go_ret
    exact ⟨by simp [wlkB, *], by repeat (first | exact Below.refl _ _ | refine bthen ?_ (by assumption) | apply Below.drew | apply bdrewN | refine Below.alloc ?_ (by simp) _)⟩
set_option maxHeartbeats 400000 in
theorem wlkOk_spec (c d i a n s l : Int) (w : World) :
    Calls Try.prog 24 #[.agg #[.int .i64 c, .int .i64 d], .agg #[.int .i64 i, .int .i64 a, .int .i64 n, .int .i64 s, .int .i64 l]] w fun e w' => e = .returned (.bool (wlkB c d i a n s l)) ∧ Below w.heap.size w w' := by
  cases h1 : inB i 1 9
  · go_enter Try.func24, Try.ntmps24
    go_wp2_with (first | (go_at_call 22; refine (in_spec _ _ _ _).mono ?_; rintro e w' ⟨rfl, rfl⟩) | (go_at_call 23; refine (cell_spec _ _ _ _).mono ?_; rintro e w' ⟨rfl, hb⟩; obtain ⟨hc, hf⟩ := bcell hb))
    go_ret
    exact ⟨by simp [wlkB, boundsB, *], by repeat (first | exact Below.refl _ _ | refine bthen ?_ (by assumption) | apply Below.drew | apply bdrewN | refine Below.alloc ?_ (by simp) _)⟩
  ·
    cases h0 : (cellF c d a != -1)
    · go_enter Try.func24, Try.ntmps24
      go_wp2_with (first | (go_at_call 22; refine (in_spec _ _ _ _).mono ?_; rintro e w' ⟨rfl, rfl⟩) | (go_at_call 23; refine (cell_spec _ _ _ _).mono ?_; rintro e w' ⟨rfl, hb⟩; obtain ⟨hc, hf⟩ := bcell hb))
      go_ret
      exact ⟨by simp [wlkB, boundsB, *], by repeat (first | exact Below.refl _ _ | refine bthen ?_ (by assumption) | apply Below.drew | apply bdrewN | refine Below.alloc ?_ (by simp) _)⟩
    ·
      cases h2 : inB n 0 99
      · go_enter Try.func24, Try.ntmps24
        go_wp2_with (first | (go_at_call 22; refine (in_spec _ _ _ _).mono ?_; rintro e w' ⟨rfl, rfl⟩) | (go_at_call 23; refine (cell_spec _ _ _ _).mono ?_; rintro e w' ⟨rfl, hb⟩; obtain ⟨hc, hf⟩ := bcell hb))
        go_ret
        exact ⟨by simp [wlkB, boundsB, *], by repeat (first | exact Below.refl _ _ | refine bthen ?_ (by assumption) | apply Below.drew | apply bdrewN | refine Below.alloc ?_ (by simp) _)⟩
      ·
        cases h3 : inB s 0 900
        · go_enter Try.func24, Try.ntmps24
          go_wp2_with (first | (go_at_call 22; refine (in_spec _ _ _ _).mono ?_; rintro e w' ⟨rfl, rfl⟩) | (go_at_call 23; refine (cell_spec _ _ _ _).mono ?_; rintro e w' ⟨rfl, hb⟩; obtain ⟨hc, hf⟩ := bcell hb))
          go_ret
          exact ⟨by simp [wlkB, boundsB, *], by repeat (first | exact Below.refl _ _ | refine bthen ?_ (by assumption) | apply Below.drew | apply bdrewN | refine Below.alloc ?_ (by simp) _)⟩
        · go_enter Try.func24, Try.ntmps24
          go_wp2_with (first | (go_at_call 22; refine (in_spec _ _ _ _).mono ?_; rintro e w' ⟨rfl, rfl⟩) | (go_at_call 23; refine (cell_spec _ _ _ _).mono ?_; rintro e w' ⟨rfl, hb⟩; obtain ⟨hc, hf⟩ := bcell hb))
          go_ret
          exact ⟨by simp [wlkB, boundsB, *], by repeat (first | exact Below.refl _ _ | refine bthen ?_ (by assumption) | apply Below.drew | apply bdrewN | refine Below.alloc ?_ (by simp) _)⟩
end Go.Proofs.Ytjllgmkficjiaaa
namespace Go.Proofs.Ytjllgmkficjiaaa
open Go.RowKit
set_option linter.unusedVariables false
end Go.Proofs.Ytjllgmkficjiaaa
namespace Go.Proofs.Ytjllgmkficjiaaa
open Go.RowKit
set_option linter.unusedVariables false
end Go.Proofs.Ytjllgmkficjiaaa
namespace Go.Proofs.Ytjllgmkficjiaaa.P8
open Go.RowKit Go.Deep
set_option linter.unusedVariables false
theorem Try.info64 : (Try.prog.info? 64).map (fun i => (i.zero, i.size, i.bytes)) = some (some (.agg #[.int .i64 0, .int .i64 0, .int .i64 0, .int .i64 0, .int .i64 0, .int .i64 0, .int .i64 0, .int .i64 0]), 8, 64) := by kernel_rfl
theorem make8 (n : Nat) (hn : n ≤ 1048576) (w : World) :
    (Instr.makeSlice 51 (.int .i64 (n : Int)) (.int .i64 (n : Int))).run Try.prog w = .ok (.slice (some ⟨w.heap.size, 0, none⟩) n n) (w.alloc (.cells (madeCells #[.int .i64 0, .int .i64 0, .int .i64 0, .int .i64 0, .int .i64 0, .int .i64 0, .int .i64 0, .int .i64 0] (n * 8)) 64)) := by
  obtain ⟨i, hi, hzz⟩ := Option.map_eq_some_iff.1 Try.info64
  simp only [Prod.mk.injEq] at hzz
  obtain ⟨hz, hs, hb⟩ := hzz
  have := run_make (P := Try.prog) w 51 64 i _ Try.underlying51 hi hz .i64 .i64 n n (by omega) (by omega) (by rw [hb]; omega) (by omega)
  rw [this, hs]
  rfl
/-- Block B of wr is a row of n structs of eight integers of the call's own, of which the first k hold Z's. -/
def Own8 (wr : World) (B n : Nat) (Z : Nat → Nat → Int) (k : Nat) : Prop :=
  (∀ i, i < n * 8 → (wr.cell? ⟨B, i, none⟩).isSome = true ∧ wr.frozen? ⟨B, i, none⟩ = false) ∧ ∀ k' j, k' < k → j < 8 → wr.cell? ⟨B, k' * 8 + j, none⟩ = some (.int .i64 (Z k' j))
theorem own_cell {wr : World} {B n k : Nat} {Z : Nat → Nat → Int} (h : Own8 wr B n Z k) (hk : k < n) (j : Nat) (hj : j < 8) : (∃ v, wr.cell? ⟨B, k * 8 + j, none⟩ = some v) ∧ wr.frozen? ⟨B, k * 8 + j, none⟩ = false := by
  obtain ⟨h1, h2⟩ := h.1 (k * 8 + j) (by omega)
  exact ⟨Option.isSome_iff_exists.1 h1, h2⟩
theorem own_below {w w' : World} {B n k : Nat} {Z : Nat → Nat → Int} (h : Own8 w B n Z k) (hB : B < w.heap.size) (hb : Below w.heap.size w w') : Own8 w' B n Z k :=
  ⟨fun i hi => by rw [hb.cell (p := ⟨B, i, none⟩) hB, hb.frozen (p := ⟨B, i, none⟩) hB]; exact h.1 i hi, fun k' j hk hj => by rw [hb.cell (p := ⟨B, k' * 8 + j, none⟩) hB]; exact h.2 k' j hk hj⟩
def put8 (w : World) (B k : Nat) (Z : Nat → Nat → Int) : World :=
  ((((((((w.setCell ⟨B, k * 8, none⟩ (.int .i64 (Z k 0))).setCell ⟨B, k * 8 + 1, none⟩ (.int .i64 (Z k 1))).setCell ⟨B, k * 8 + 2, none⟩ (.int .i64 (Z k 2))).setCell ⟨B, k * 8 + 3, none⟩ (.int .i64 (Z k 3))).setCell ⟨B, k * 8 + 4, none⟩ (.int .i64 (Z k 4))).setCell ⟨B, k * 8 + 5, none⟩ (.int .i64 (Z k 5))).setCell ⟨B, k * 8 + 6, none⟩ (.int .i64 (Z k 6))).setCell ⟨B, k * 8 + 7, none⟩ (.int .i64 (Z k 7)))
theorem put8_cells (w : World) (B k : Nat) (Z : Nat → Nat → Int) : put8 w B k Z = w.setCells B (k * 8) [.int .i64 (Z k 0), .int .i64 (Z k 1), .int .i64 (Z k 2), .int .i64 (Z k 3), .int .i64 (Z k 4), .int .i64 (Z k 5), .int .i64 (Z k 6), .int .i64 (Z k 7)] := rfl
theorem own_put {w : World} {B n k : Nat} {Z : Nat → Nat → Int} (h : Own8 w B n Z k) (hk : k < n) : Own8 (put8 w B k Z) B n Z (k + 1) := by
  have hin : ∀ j, j < 8 → (put8 w B k Z).cell? ⟨B, k * 8 + j, none⟩ = some (.int .i64 (Z k j)) := by
    intro j hj
    rw [put8_cells]
    have := World.cell?_setCells_in B [.int .i64 (Z k 0), .int .i64 (Z k 1), .int .i64 (Z k 2), .int .i64 (Z k 3), .int .i64 (Z k 4), .int .i64 (Z k 5), .int .i64 (Z k 6), .int .i64 (Z k 7)] (k * 8) w (fun j' hj' => (h.1 (k * 8 + j') (by simp at hj'; omega)).1) j (by simpa using hj)
    rw [this]
    match j, hj with
    | 0, _ => rfl
    | 1, _ => rfl
    | 2, _ => rfl
    | 3, _ => rfl
    | 4, _ => rfl
    | 5, _ => rfl
    | 6, _ => rfl
    | 7, _ => rfl
  have hout : ∀ i, (i < k * 8 ∨ k * 8 + 8 ≤ i) → (put8 w B k Z).cell? ⟨B, i, none⟩ = w.cell? ⟨B, i, none⟩ := by
    intro i hi
    rw [put8_cells]
    exact World.cell?_setCells_out B _ (k * 8) w ⟨B, i, none⟩ (fun _ _ => by simpa using hi)
  refine ⟨fun i hi => ⟨?_, ?_⟩, fun k' j hk' hj => ?_⟩
  · by_cases hc : i < k * 8 ∨ k * 8 + 8 ≤ i
    · rw [hout i hc]; exact (h.1 i hi).1
    · have := hin (i - k * 8) (by omega)
      rw [show k * 8 + (i - k * 8) = i by omega] at this
      rw [this]; rfl
  · rw [put8_cells, World.frozen?_setCells]; exact (h.1 i hi).2
  · by_cases hc : k' = k
    · subst hc; exact hin j hj
    · rw [hout _ (by omega)]; exact h.2 k' j (by omega) hj
end Go.Proofs.Ytjllgmkficjiaaa.P8
namespace Go.Proofs.Ytjllgmkficjiaaa.P8
open Go.RowKit Go.Deep
set_option linter.unusedVariables false
theorem own_row {w : World} {B n : Nat} {Z : Nat → Nat → Int} (h : Own8 w B n Z n) : ∀ k j, k < n → j < 8 → w.cell? ⟨B, 0 + k * 8 + j, none⟩ = some (.int .i64 (Z k j)) := fun k j hk hj => by
  rw [Nat.zero_add]; exact h.2 k j hk hj
end Go.Proofs.Ytjllgmkficjiaaa.P8
namespace Go.Proofs.Ytjllgmkficjiaaa
open Go.RowKit Go.Deep
set_option linter.unusedVariables false
theorem set_in {w : World} {B k : Nat} {u : Value} (h : (w.cell? ⟨B, k, none⟩).isSome = true) : (w.setCell ⟨B, k, none⟩ u).cell? ⟨B, k, none⟩ = some u := by
  have := World.cell?_setCells_in B [u] k w (fun j hj => by
    have : j = 0 := by simpa using hj
    subst this; exact h) 0 (by simp)
  rw [show w.setCell ⟨B, k, none⟩ u = w.setCells B k [u] from rfl]
  simpa using this
theorem set_out {w : World} {B k b i : Nat} {u : Value} (h : ¬ (B = b ∧ k = i)) : (w.setCell ⟨B, k, none⟩ u).cell? ⟨b, i, none⟩ = w.cell? ⟨b, i, none⟩ :=
  World.cell?_setCell_other _ _ _ _ (by intro e; injection e with e1 e2; exact h ⟨e1, e2⟩)
theorem set_frozen {w : World} {B k b i : Nat} {u : Value} : (w.setCell ⟨B, k, none⟩ u).frozen? ⟨b, i, none⟩ = w.frozen? ⟨b, i, none⟩ := World.frozen?_setCell ..
theorem set_size {w : World} {B k : Nat} {u : Value} : (w.setCell ⟨B, k, none⟩ u).heap.size = w.heap.size := by simp [World.setCell]
/-- Block B of w is a row of n integers of the call's own, of which the first k are X's. -/
def Own1 (w : World) (B n : Nat) (X : Nat → Int) (k : Nat) : Prop :=
  (∀ i, i < n → (w.cell? ⟨B, i, none⟩).isSome = true ∧ w.frozen? ⟨B, i, none⟩ = false) ∧ ∀ j, j < k → w.cell? ⟨B, j, none⟩ = some (.int .i64 (X j))
theorem own1_below {w w' : World} {B n k : Nat} {X : Nat → Int} (h : Own1 w B n X k) (hB : B < w.heap.size) (hb : Below w.heap.size w w') : Own1 w' B n X k :=
  ⟨fun i hi => by rw [hb.cell (p := ⟨B, i, none⟩) hB, hb.frozen (p := ⟨B, i, none⟩) hB]; exact h.1 i hi, fun j hj => by rw [hb.cell (p := ⟨B, j, none⟩) hB]; exact h.2 j hj⟩
theorem Try.info3 : (Try.prog.info? 3).map (fun i => (i.zero, i.size, i.bytes)) = some (some (.int .i64 0), 1, 8) := by kernel_rfl
theorem Try.info51 : (Try.prog.info? 51).map (fun i => (i.zero, i.size, i.bytes)) = some (some (.slice none 0 0), 1, 24) := by kernel_rfl
theorem make1 (n : Nat) (hn : n ≤ 1048576) (w : World) :
    (Instr.makeSlice 29 (.int .i64 (n : Int)) (.int .i64 (n : Int))).run Try.prog w = .ok (.slice (some ⟨w.heap.size, 0, none⟩) n n) (w.alloc (.cells (madeCells #[.int .i64 0] (n * 1)) 3)) := by
  obtain ⟨i, hi, hzz⟩ := Option.map_eq_some_iff.1 Try.info3
  simp only [Prod.mk.injEq] at hzz
  obtain ⟨hz, hs, hb⟩ := hzz
  have := run_make (P := Try.prog) w 29 3 i _ Try.underlying29 hi hz .i64 .i64 n n (by omega) (by omega) (by rw [hb]; omega) (by omega)
  rw [this, hs]
  rfl
theorem makeO (n : Nat) (hn : n ≤ 1048576) (w : World) :
    (Instr.makeSlice 28 (.int .i64 (n : Int)) (.int .i64 (n : Int))).run Try.prog w = .ok (.slice (some ⟨w.heap.size, 0, none⟩) n n) (w.alloc (.cells (madeCells #[.slice none 0 0] (n * 1)) 51)) := by
  obtain ⟨i, hi, hzz⟩ := Option.map_eq_some_iff.1 Try.info51
  simp only [Prod.mk.injEq] at hzz
  obtain ⟨hz, hs, hb⟩ := hzz
  have := run_make (P := Try.prog) w 28 51 i _ Try.underlying28 hi hz .i64 .i64 n n (by omega) (by omega) (by rw [hb]; omega) (by omega)
  rw [this, hs]
  rfl
/-- Block B of w is a row of n lists of parcels of the call's own, of which the first k hold O's, each in a later block than the one ahead. -/
def OwnO (w : World) (B n : Nat) (N : Nat → Nat) (O : Nat → Nat → Nat → Int) (k : Nat) : Prop :=
  (∀ i, i < n → (w.cell? ⟨B, i, none⟩).isSome = true ∧ w.frozen? ⟨B, i, none⟩ = false) ∧
    ∃ xs : Nat → Nat, (∀ i j, i < j → j < k → xs i < xs j) ∧ ∀ j, j < k → B < xs j ∧ xs j < w.heap.size ∧ w.cell? ⟨B, j, none⟩ = some (.slice (some ⟨xs j, 0, none⟩) (N j) (N j)) ∧ P8.Own8 w (xs j) (N j) (O j) (N j)
theorem ownO_below {w w' : World} {B n k : Nat} {N : Nat → Nat} {O : Nat → Nat → Nat → Int} (h : OwnO w B n N O k) (hB : B < w.heap.size) (hb : Below w.heap.size w w') : OwnO w' B n N O k := by
  obtain ⟨h1, xs, h2, h3⟩ := h
  refine ⟨fun i hi => by rw [hb.cell (p := ⟨B, i, none⟩) hB, hb.frozen (p := ⟨B, i, none⟩) hB]; exact h1 i hi, xs, h2, fun j hj => ?_⟩
  obtain ⟨a1, a2, a3, a4⟩ := h3 j hj
  exact ⟨a1, Nat.lt_of_lt_of_le a2 hb.size, (hb.cell (p := ⟨B, j, none⟩) hB).trans a3, P8.own_below a4 a2 hb⟩
/-- v is a copy of a cell, of V, in memory of its own from block lo on: block by block. -/
def CopyAt (lo : Nat) (w : World) (v : Value) (V : CV) : Prop :=
  ∃ bW bO bX bI, lo ≤ bW ∧ bW < bO ∧ bO < bX ∧ bX < bI ∧ bI < w.heap.size ∧
    v = .agg #[.int .i64 V.c, .slice (some ⟨bW, 0, none⟩) V.nW V.nW, .int .i64 V.g, .slice (some ⟨bO, 0, none⟩) V.nO V.nO, .slice (some ⟨bX, 0, none⟩) V.nX V.nX, .slice (some ⟨bI, 0, none⟩) V.nI V.nI] ∧
    Own5 w bW V.nW V.W V.nW ∧ OwnO w bO V.nO V.N V.O V.nO ∧ Own1 w bX V.nX V.X V.nX ∧ Own1 w bI V.nI V.I V.nI
theorem row1_of_own {w : World} {B n : Nat} {X : Nat → Int} (h : Own1 w B n X n) (hB : B < w.heap.size) : Row1 w (some ⟨B, 0, none⟩) n X :=
  .inr ⟨B, 0, rfl, hB, fun k hk => by rw [Nat.zero_add]; exact h.2 k hk⟩
theorem row5_of_own {w : World} {B n : Nat} {Z : Nat → Nat → Int} (h : Own5 w B n Z n) (hB : B < w.heap.size) : Row5 w (some ⟨B, 0, none⟩) n Z :=
  .inr ⟨B, 0, rfl, hB, own_row h⟩
theorem row8_of_own {w : World} {B n : Nat} {Z : Nat → Nat → Int} (h : P8.Own8 w B n Z n) (hB : B < w.heap.size) : P8.Row8 w (some ⟨B, 0, none⟩) n Z :=
  .inr ⟨B, 0, rfl, hB, P8.own_row h⟩
theorem rowO_of_own {w : World} {B n : Nat} {N : Nat → Nat} {O : Nat → Nat → Nat → Int} (h : OwnO w B n N O n) (hB : B < w.heap.size) : RowO w (some ⟨B, 0, none⟩) n N O := by
  obtain ⟨_, xs, _, h3⟩ := h
  refine .inr ⟨B, 0, rfl, hB, fun k hk => ?_⟩
  obtain ⟨_, a2, a3, a4⟩ := h3 k hk
  exact ⟨_, _, by rw [Nat.zero_add]; exact a3, row8_of_own a4 a2⟩
theorem CopyAt.at {lo : Nat} {w : World} {v : Value} {V : CV} (h : CopyAt lo w v V) : CellAt w v V := by
  obtain ⟨bW, bO, bX, bI, h0, h1, h2, h3, h4, rfl, g1, g2, g3, g4⟩ := h
  exact ⟨_, _, _, _, _, _, _, _, rfl, row5_of_own g1 (by omega), rowO_of_own g2 (by omega), row1_of_own g3 (by omega), row1_of_own g4 (by omega)⟩
theorem CopyAt.below {lo : Nat} {w w' : World} {v : Value} {V : CV} (h : CopyAt lo w v V) (hb : Below w.heap.size w w') : CopyAt lo w' v V := by
  obtain ⟨bW, bO, bX, bI, h0, h1, h2, h3, h4, rfl, g1, g2, g3, g4⟩ := h
  exact ⟨bW, bO, bX, bI, h0, h1, h2, h3, Nat.lt_of_lt_of_le h4 hb.size, rfl, own_below g1 (by omega) hb, ownO_below g2 (by omega) hb, own1_below g3 (by omega) hb, own1_below g4 (by omega) hb⟩
/-- Block b of W begins with these six values, and may be written. -/
def Six (W : World) (b : Nat) (l : List Value) : Prop := ∀ i, i < 6 → W.cell? ⟨b, i, none⟩ = some (l.getD i undef) ∧ W.frozen? ⟨b, i, none⟩ = false
theorem Six.below {W W' : World} {b : Nat} {l : List Value} (h : Six W b l) (hb : b < W.heap.size) (k : Below W.heap.size W W') : Six W' b l := fun i hi => by
  rw [k.cell (p := ⟨b, i, none⟩) hb, k.frozen (p := ⟨b, i, none⟩) hb]; exact h i hi
theorem Six.set {W : World} {b j : Nat} {l : List Value} {v : Value} (h : Six W b l) (hl : l.length = 6) (hj : j < 6) : Six (W.setCell ⟨b, j, none⟩ v) b (l.set j v) := fun i hi => by
  rw [set_frozen]
  refine ⟨?_, (h i hi).2⟩
  by_cases e : j = i
  · subst e
    rw [set_in (by rw [(h j hi).1]; rfl)]
    simp [List.getD, hl, hi]
  · rw [set_out (fun e' => e e'.2), (h i hi).1]
    simp [List.getD, List.getElem?_set_ne e]
theorem six_new (W : World) (t : TypeId) (v0 v1 v2 v3 v4 v5 : Value) : Six (W.alloc (.cells #[v0, v1, v2, v3, v4, v5] t)) W.heap.size [v0, v1, v2, v3, v4, v5] := by
  intro i hi
  have : i = 0 ∨ i = 1 ∨ i = 2 ∨ i = 3 ∨ i = 4 ∨ i = 5 := by omega
  rcases this with rfl | rfl | rfl | rfl | rfl | rfl <;> exact ⟨by simp, by simp⟩
end Go.Proofs.Ytjllgmkficjiaaa
namespace Go.Proofs.Ytjllgmkficjiaaa.P8
open Go.RowKit Go.Deep
set_option linter.unusedVariables false
def eight (Z : Nat → Nat → Int) (k : Nat) : List Value := [.int .i64 (Z k 0), .int .i64 (Z k 1), .int .i64 (Z k 2), .int .i64 (Z k 3), .int .i64 (Z k 4), .int .i64 (Z k 5), .int .i64 (Z k 6), .int .i64 (Z k 7)]
/-- A slice of the call's own (nil, where there is none) that holds the parcels L of Z. -/
def Walks (w : World) (base : Nat) (v : Value) (L : List Nat) (Z : Nat → Nat → Int) : Prop := w.ownsRow base 64 8 v L.length (L.flatMap (eight Z))
end Go.Proofs.Ytjllgmkficjiaaa.P8
namespace Go.Proofs.Ytjllgmkficjiaaa.P8
open Go.RowKit Go.Deep
set_option linter.unusedVariables false
/-- The flat row's t-th cell. -/
theorem get_flat {α : Type} [Inhabited α] {m : Nat} (f : α → List Value) (hf : ∀ x, (f x).length = m) : ∀ (L : List α) (i c : Nat), i < L.length → c < m → (L.flatMap f)[i * m + c]? = some (f L[i]!)[c]!
  | [], i, c, hi, _ => absurd hi (by simp)
  | x :: r, 0, c, _, hc => by
    rw [List.flatMap_cons, List.getElem?_append_left (by rw [hf]; omega)]
    have : c < (f x).length := by rw [hf]; exact hc
    simp [this]
  | x :: r, i + 1, c, hi, hc => by
    have h := get_flat f hf r i c (by simpa using hi) hc
    rw [List.flatMap_cons, List.getElem?_append_right (by rw [hf, Nat.add_mul]; omega), hf]
    rw [show (i + 1) * m + c - m = i * m + c by rw [Nat.add_mul]; omega, h]
    simp
theorem set_grown (w : World) (B i : Nat) (u : Value) : w.grownBy (w.setCell ⟨B, i, none⟩ u) (some B) ∧ (w.setCell ⟨B, i, none⟩ u).heap.size = w.heap.size :=
  ⟨⟨rfl, rfl, rfl, by simp [World.setCell], fun k _ hne => Below.heap_setCell _ _ _ _ (fun e => hne (by rw [e]))⟩, by simp [World.setCell]⟩
theorem grown_of_below {w w' : World} (h : Below w.heap.size w w') : w.grownBy w' none := ⟨h.os, h.tape, h.output, h.size, fun k hk _ => h.block k hk⟩
theorem Walks.below {w w' : World} {base : Nat} {v : Value} {L : List Nat} {Z : Nat → Nat → Int} (h : Walks w base v L Z) (hb : Below w.heap.size w w') : Walks w' base v L Z :=
  World.ownsRow.kept h (grown_of_below hb) (by cases e : v.ownBlock <;> simp)
theorem Walks.kept {w w' : World} {base : Nat} {v : Value} {L : List Nat} {Z : Nat → Nat → Int} {row : Option Nat} (h : Walks w base v L Z) (hg : w.grownBy w' row) (hne : v.ownBlock = none ∨ v.ownBlock ≠ row) : Walks w' base v L Z :=
  World.ownsRow.kept h hg hne
theorem Walks.own {w : World} {base : Nat} {v : Value} {L : List Nat} {Z : Nat → Nat → Int} (h : Walks w base v L Z) : (L.length = 0 ∧ ∃ a c, v = .slice a 0 c) ∨
    ∃ g cap, v = .slice (some ⟨g, 0, none⟩) L.length cap ∧ base ≤ g ∧ g < w.heap.size ∧ Own8 w g L.length (fun k j => Z L[k]! j) L.length := by
  rcases h.2 with ⟨e, hl⟩ | ⟨g, cap, cur, hv, _⟩
  · exact .inl ⟨hl, none, 0, e⟩
  · have ho : w.ownsRow base 64 8 (.slice (some ⟨g, 0, none⟩) L.length cap) L.length (L.flatMap (eight Z)) := by rw [← hv]; exact h
    refine .inr ⟨g, cap, hv, (ho.lt g rfl).1, (ho.lt g rfl).2, fun i hi => ⟨?_, ho.frozenAt i⟩, fun k j hk hj => ?_⟩
    · rw [ho.cellAt i hi]
      have : i < (L.flatMap (eight Z)).length := by rw [ho.1]; exact hi
      rw [List.getElem?_eq_getElem this]
      rfl
    · rw [ho.cellAt (k * 8 + j) (by omega), get_flat (m := 8) (eight Z) (fun _ => rfl) L k j hk hj]
      match j, hj with
      | 0, _ => rfl
      | 1, _ => rfl
      | 2, _ => rfl
      | 3, _ => rfl
      | 4, _ => rfl
      | 5, _ => rfl
      | 6, _ => rfl
      | 7, _ => rfl
end Go.Proofs.Ytjllgmkficjiaaa.P8
namespace Go.Proofs.Ytjllgmkficjiaaa
open Go.RowKit Go.Deep
set_option linter.unusedVariables false
end Go.Proofs.Ytjllgmkficjiaaa
namespace Go.Proofs.Ytjllgmkficjiaaa
open Go.RowKit Go.Deep
set_option linter.unusedVariables false
def M1 (s k : Nat) : Int := ((s + k : Nat) : Int)
end Go.Proofs.Ytjllgmkficjiaaa
namespace Go.Proofs.Ytjllgmkficjiaaa
open Go.RowKit Go.Deep
set_option linter.unusedVariables false
/-- Block b reads as it did. -/
def Sm (w w' : World) (b : Nat) : Prop := ∀ o, w'.cell? ⟨b, o, none⟩ = w.cell? ⟨b, o, none⟩ ∧ w'.frozen? ⟨b, o, none⟩ = w.frozen? ⟨b, o, none⟩
theorem Sm.refl (w : World) (b : Nat) : Sm w w b := fun _ => ⟨rfl, rfl⟩
theorem Sm.trans {a b c : World} {g : Nat} (h : Sm a b g) (k : Sm b c g) : Sm a c g := fun o => ⟨(k o).1.trans (h o).1, (k o).2.trans (h o).2⟩
theorem sm_grown {w w' : World} {row : Option Nat} {b : Nat} (h : w.grownBy w' row) (hb : b < w.heap.size) (hne : some b ≠ row) : Sm w w' b := by
  have e : w'.heap[b]? = w.heap[b]? := h.block b hb hne
  exact fun o => ⟨World.cell?_of_block (a := ⟨b, o, none⟩) e, World.frozen?_of_block (a := ⟨b, o, none⟩) e⟩
theorem sm_below {w w' : World} {n b : Nat} (h : Below n w w') (hb : b < n) : Sm w w' b := fun o => ⟨h.cell (p := ⟨b, o, none⟩) hb, h.frozen (p := ⟨b, o, none⟩) hb⟩
theorem own5_sm {w w' : World} {B n k : Nat} {Z : Nat → Nat → Int} (h : Own5 w B n Z k) (hs : Sm w w' B) : Own5 w' B n Z k :=
  ⟨fun i hi => by rw [(hs i).1, (hs i).2]; exact h.1 i hi, fun k' j hk hj => by rw [(hs _).1]; exact h.2 k' j hk hj⟩
theorem own8_sm {w w' : World} {B n k : Nat} {Z : Nat → Nat → Int} (h : P8.Own8 w B n Z k) (hs : Sm w w' B) : P8.Own8 w' B n Z k :=
  ⟨fun i hi => by rw [(hs i).1, (hs i).2]; exact h.1 i hi, fun k' j hk hj => by rw [(hs _).1]; exact h.2 k' j hk hj⟩
theorem own1_sm {w w' : World} {B n k : Nat} {X : Nat → Int} (h : Own1 w B n X k) (hs : Sm w w' B) : Own1 w' B n X k :=
  ⟨fun i hi => by rw [(hs i).1, (hs i).2]; exact h.1 i hi, fun k' hk => by rw [(hs _).1]; exact h.2 k' hk⟩
/-- v is a list of n walkers, Z, in the block g of its own, between lo and hi; or there are none. -/
def RW (lo hi : Nat) (w : World) (v : Value) (n : Nat) (Z : Nat → Nat → Int) (g : Nat) : Prop :=
  (n = 0 ∧ ∃ a c, v = .slice a 0 c) ∨ ∃ c, v = .slice (some ⟨g, 0, none⟩) n c ∧ lo ≤ g ∧ g < hi ∧ hi ≤ w.heap.size ∧ Own5 w g n Z n
def RP (lo hi : Nat) (w : World) (v : Value) (n : Nat) (Z : Nat → Nat → Int) (g : Nat) : Prop :=
  (n = 0 ∧ ∃ a c, v = .slice a 0 c) ∨ ∃ c, v = .slice (some ⟨g, 0, none⟩) n c ∧ lo ≤ g ∧ g < hi ∧ hi ≤ w.heap.size ∧ P8.Own8 w g n Z n
def RI (lo hi : Nat) (w : World) (v : Value) (n : Nat) (X : Nat → Int) (g : Nat) : Prop :=
  (n = 0 ∧ ∃ a c, v = .slice a 0 c) ∨ ∃ c, v = .slice (some ⟨g, 0, none⟩) n c ∧ lo ≤ g ∧ g < hi ∧ hi ≤ w.heap.size ∧ Own1 w g n X n
/-- .. n lists of parcels, sl k the k-th, in the block xs k. -/
def RO (lo hi : Nat) (w : World) (v : Value) (n : Nat) (N : Nat → Nat) (O : Nat → Nat → Nat → Int) (g : Nat) (sl : Nat → Value) (xs : Nat → Nat) : Prop :=
  (n = 0 ∧ ∃ a c, v = .slice a 0 c) ∨ ∃ c, v = .slice (some ⟨g, 0, none⟩) n c ∧ lo ≤ g ∧ g < hi ∧ hi ≤ w.heap.size ∧ ∀ k, k < n → w.cell? ⟨g, k, none⟩ = some (sl k) ∧ RP lo hi w (sl k) (N k) (O k) (xs k)
theorem RW.sm {lo hi : Nat} {w w' : World} {v : Value} {n : Nat} {Z : Nat → Nat → Int} {g : Nat} (h : RW lo hi w v n Z g) (hs : w.heap.size ≤ w'.heap.size) (k : lo ≤ g → g < hi → Sm w w' g) : RW lo hi w' v n Z g := by
  rcases h with h | ⟨c, h1, h2, h3, h4, h5⟩
  · exact .inl h
  · exact .inr ⟨c, h1, h2, h3, Nat.le_trans h4 hs, own5_sm h5 (k h2 h3)⟩
theorem RP.sm {lo hi : Nat} {w w' : World} {v : Value} {n : Nat} {Z : Nat → Nat → Int} {g : Nat} (h : RP lo hi w v n Z g) (hs : w.heap.size ≤ w'.heap.size) (k : lo ≤ g → g < hi → Sm w w' g) : RP lo hi w' v n Z g := by
  rcases h with h | ⟨c, h1, h2, h3, h4, h5⟩
  · exact .inl h
  · exact .inr ⟨c, h1, h2, h3, Nat.le_trans h4 hs, own8_sm h5 (k h2 h3)⟩
theorem RI.sm {lo hi : Nat} {w w' : World} {v : Value} {n : Nat} {X : Nat → Int} {g : Nat} (h : RI lo hi w v n X g) (hs : w.heap.size ≤ w'.heap.size) (k : lo ≤ g → g < hi → Sm w w' g) : RI lo hi w' v n X g := by
  rcases h with h | ⟨c, h1, h2, h3, h4, h5⟩
  · exact .inl h
  · exact .inr ⟨c, h1, h2, h3, Nat.le_trans h4 hs, own1_sm h5 (k h2 h3)⟩
theorem RO.sm {lo hi : Nat} {w w' : World} {v : Value} {n : Nat} {N : Nat → Nat} {O : Nat → Nat → Nat → Int} {g : Nat} {sl : Nat → Value} {xs : Nat → Nat} (h : RO lo hi w v n N O g sl xs) (hs : w.heap.size ≤ w'.heap.size) (k : lo ≤ g → g < hi → Sm w w' g) (kx : ∀ i, i < n → lo ≤ xs i → xs i < hi → Sm w w' (xs i)) : RO lo hi w' v n N O g sl xs := by
  rcases h with h | ⟨c, h1, h2, h3, h4, h5⟩
  · exact .inl h
  · exact .inr ⟨c, h1, h2, h3, Nat.le_trans h4 hs, fun i hi => ⟨((k h2 h3 i).1).trans (h5 i hi).1, (h5 i hi).2.sm hs (kx i hi)⟩⟩
/-- Where the marks of the k-th list of parcels begin. -/
def st (s : Nat) (N : Nat → Nat) : Nat → Nat
  | 0 => s
  | k + 1 => st s N k + N k * 8
/-- v is a cell that holds V, each of its lists in a block of its own, between lo and hi. -/
def OwnC (lo hi : Nat) (w : World) (v : Value) (V : CV) : Prop :=
  ∃ vW vO vX vI gW gO gX gI sl xs, v = .agg #[.int .i64 V.c, vW, .int .i64 V.g, vO, vX, vI] ∧ RW lo hi w vW V.nW V.W gW ∧ RO lo hi w vO V.nO V.N V.O gO sl xs ∧ RI lo hi w vX V.nX V.X gX ∧ RI lo hi w vI V.nI V.I gI ∧
    (¬ gW = gO ∧ ¬ gW = gX ∧ ¬ gW = gI ∧ ¬ gO = gX ∧ ¬ gO = gI ∧ ¬ gX = gI) ∧ (∀ k, k < V.nO → ¬ xs k = gW ∧ ¬ xs k = gO ∧ ¬ xs k = gX ∧ ¬ xs k = gI) ∧ (∀ i j, i < V.nO → j < V.nO → ¬ i = j → ¬ xs i = xs j)
/-- Where the marks of its lists begin, and what it holds behind the marking. -/
def CV.s1 (V : CV) : Nat := 1 + V.nW * 5
def CV.s2 (V : CV) : Nat := st V.s1 V.N V.nO
end Go.Proofs.Ytjllgmkficjiaaa
namespace Go.Proofs.Ytjllgmkficjiaaa
open Go.RowKit Go.Deep
set_option linter.unusedVariables false
def five5 (Z : Nat → Nat → Int) (k : Nat) : List Value := [.int .i64 (Z k 0), .int .i64 (Z k 1), .int .i64 (Z k 2), .int .i64 (Z k 3), .int .i64 (Z k 4)]
end Go.Proofs.Ytjllgmkficjiaaa
namespace Go.Proofs.Ytjllgmkficjiaaa
open Go.RowKit Go.Deep
set_option linter.unusedVariables false
def wkB (c d : Int) (Z : Nat → Nat → Int) (k : Nat) : Bool := wlkB c d (Z k 0) (Z k 1) (Z k 2) (Z k 3) (Z k 4)
def goodB (c d : Int) (Z : Nat → Nat → Int) (k : Nat) : Bool := wkB c d Z k && (k == 0 || decide (Z (k - 1) 0 < Z k 0))
def allB (c d : Int) (Z : Nat → Nat → Int) : Nat → Bool
  | 0 => true
  | k + 1 => allB c d Z k && goodB c d Z k
theorem allB_step {c d : Int} {Z : Nat → Nat → Int} {k : Nat} (h : allB c d Z k = true) (g : goodB c d Z k = true) : allB c d Z (k + 1) = true := by simp [allB, h, g]
theorem allB_down {c d : Int} {Z : Nat → Nat → Int} {k : Nat} : ∀ n, k ≤ n → allB c d Z n = true → allB c d Z k = true
  | 0, hk, h => by obtain rfl : k = 0 := by omega
                   exact h
  | n + 1, hk, h => by
    by_cases e : k = n + 1
    · subst e; exact h
    · simp only [allB, Bool.and_eq_true] at h
      exact allB_down n (by omega) h.1
theorem allB_stop {c d : Int} {Z : Nat → Nat → Int} {k n : Nat} (h : allB c d Z k = true) (hk : k < n) (g : goodB c d Z k = false) : allB c d Z n = false := by
  cases e : allB c d Z n with
  | false => rfl
  | true =>
    have := allB_down n (show k + 1 ≤ n by omega) e
    simp [allB, g] at this
set_option maxHeartbeats 8000000 in
theorem listOk_spec (c d : Int) (b o n cap : Nat) (Z : Nat → Nat → Int) (hn : n ≤ 1048576) (w : World) (hb : b < w.heap.size)
    (hr : ∀ k j, k < n → j < 5 → w.cell? ⟨b, o + k * 5 + j, none⟩ = some (.int .i64 (Z k j))) :
    Calls Try.prog 9 #[.agg #[.int .i64 c, .int .i64 d], .slice (some ⟨b, o, none⟩) n cap] w fun e w' => e = .returned (.bool (allB c d Z n)) ∧ Below w.heap.size w w' := by
  have HR : Hid (∀ k j, k < n → j < 5 → w.cell? ⟨b, o + k * 5 + j, none⟩ = some (.int .i64 (Z k j))) := hr
  clear hr
  go_enter Try.func9, Try.ntmps9
  go_wp2
  go_loopw [5] (fun i wr => ∃ k : Nat, k ≤ n ∧ i = .int .i64 k ∧ allB c d Z k = true ∧ ((∀ b o, b < w.heap.size + 1 → wr.cell? ⟨b, o, none⟩ = (w.alloc (.cells #[.int .i64 c, .int .i64 d] 24)).cell? ⟨b, o, none⟩) ∧ w.heap.size + 1 ≤ wr.heap.size) ∧ Below w.heap.size w wr) (fun i _ => n - (intOf i).toNat)
  case atStart => exact ⟨0, Nat.zero_le _, rfl, rfl, ⟨fun _ _ _ => rfl, by simp⟩, (Below.refl _ _).alloc (by simp) _⟩
  case round =>
    obtain ⟨k, hk, rfl, hall, HS, BR⟩ := hrel
    by_cases hkn : k < n
    · have c0 : w.cell? ⟨b, o + k * 5, none⟩ = some (.int .i64 (Z k 0)) := HR.out k 0 hkn (by omega)
      have c1 : w.cell? ⟨b, o + k * 5 + 1, none⟩ = some (.int .i64 (Z k 1)) := HR.out k 1 hkn (by omega)
      have c2 : w.cell? ⟨b, o + k * 5 + 2, none⟩ = some (.int .i64 (Z k 2)) := HR.out k 2 hkn (by omega)
      have c3 : w.cell? ⟨b, o + k * 5 + 3, none⟩ = some (.int .i64 (Z k 3)) := HR.out k 3 hkn (by omega)
      have c4 : w.cell? ⟨b, o + k * 5 + 4, none⟩ = some (.int .i64 (Z k 4)) := HR.out k 4 hkn (by omega)
      have cp : w.cell? ⟨b, o + (k - 1) * 5, none⟩ = some (.int .i64 (Z (k - 1) 0)) := HR.out (k - 1) 0 (by omega) (by omega)
      have hb1 : b < w.heap.size + 1 := by omega
      have HALL : Hid (allB c d Z k = true) := hall
      clear hall
      cases hok : wlkB c d (Z k 0) (Z k 1) (Z k 2) (Z k 3) (Z k 4)
      · have EG : Hid (goodB c d Z k = false) := by show goodB c d Z k = _; unfold goodB wkB; rw [hok]; rfl
        go_wp2
        refine wp_region_held_drew (S := fun w' => (∀ b o, b < w.heap.size + 1 → w'.cell? ⟨b, o, none⟩ = (w.alloc (.cells #[.int .i64 c, .int .i64 d] 24)).cell? ⟨b, o, none⟩) ∧ w.heap.size + 1 ≤ w'.heap.size) (by kernel_rfl) HS ?_
        intro hHeld
        refine wpAnyH_take (i := 0) (v := .agg #[.int .i64 c, .int .i64 d]) rfl (by kernel_rfl) (by kernel_rfl) (by kernel_rfl) (fun _ _ _ h => h) (Or.inl ⟨by rfl, ?_⟩) (by assumption) ?_
        · intro wx hSw; go_simp
        try simp only [Act.put, List.setIfInBounds_toArray, List.set_cons_zero, List.set_cons_succ, List.getElem_toArray, List.getElem_cons_zero]
        refine wpAnyH_take (i := 1) (v := .slice (some ⟨b, o, none⟩) n cap) rfl (by kernel_rfl) (by kernel_rfl) (by kernel_rfl) (fun _ _ _ h => h) (Or.inl ⟨by rfl, ?_⟩) (by assumption) ?_
        · intro wx hSw; go_simp
        try simp only [Act.put, List.setIfInBounds_toArray, List.set_cons_zero, List.set_cons_succ, List.getElem_toArray, List.getElem_cons_zero, List.getElem_cons_succ]
        refine wpAnyH_take (i := 2) (v := .int .i64 (k : Int)) rfl (by kernel_rfl) (by kernel_rfl) (by kernel_rfl) (fun _ _ _ h => h) (Or.inl ⟨by rfl, ?_⟩) (by assumption) ?_
        · intro wx hSw; go_simp
        try simp only [Act.put, List.setIfInBounds_toArray, List.set_cons_zero, List.set_cons_succ, List.getElem_toArray, List.getElem_cons_zero, List.getElem_cons_succ]
        refine wpAnyH_take (i := 3) (v := .pointer (some ⟨b, o + k * 5, none⟩)) rfl (by kernel_rfl) (by kernel_rfl) (by kernel_rfl) (fun _ _ _ h => h) (Or.inl ⟨by rfl, ?_⟩) (by assumption) ?_
        · intro wx hSw; go_simp
        try simp only [Act.put, List.setIfInBounds_toArray, List.set_cons_zero, List.set_cons_succ, List.getElem_toArray, List.getElem_cons_zero, List.getElem_cons_succ]
        refine wpAnyH_take (i := 4) (v := .agg #[.int .i64 (Z k 0), .int .i64 (Z k 1), .int .i64 (Z k 2), .int .i64 (Z k 3), .int .i64 (Z k 4)]) rfl (by kernel_rfl) (by kernel_rfl) (by kernel_rfl) (fun _ _ _ h => h) (Or.inl ⟨by rfl, ?_⟩) (by assumption) ?_
        · intro wx hSw; go_simp
        try simp only [Act.put, List.setIfInBounds_toArray, List.set_cons_zero, List.set_cons_succ, List.getElem_toArray, List.getElem_cons_zero, List.getElem_cons_succ]
        refine wpAnyH_ready (rs := [5]) (by kernel_rfl) (by simp) ?_
        refine AllReadyH.cons rfl (fun K hK => ?_) AllReadyH.nil
        go_simp
        go_wp2_with (go_at_call 24; refine (wlkOk_spec _ _ _ _ _ _ _ _).mono ?_; rintro e w2 ⟨rfl, hbw2⟩)
        refine hK.out _ _ (keepS (by assumption) hbw2) (fun hHeld => ?_)
        clear hK K
        try simp only [Act.put, List.setIfInBounds_toArray, List.set_cons_zero, List.set_cons_succ, List.getElem_toArray, List.getElem_cons_zero, List.getElem_cons_succ]
        refine wpAnyH_take (i := 6) (v := .bool true) rfl (by kernel_rfl) (by kernel_rfl) (by kernel_rfl) (fun _ _ _ h => h) (Or.inl ⟨by rfl, ?_⟩) (by assumption) ?_
        · intro wx hSw; go_simp
        try simp only [Act.put, List.setIfInBounds_toArray, List.set_cons_zero, List.set_cons_succ, List.getElem_toArray, List.getElem_cons_zero, List.getElem_cons_succ]
        refine wpAnyH_take (i := 7) (v := .bool true) rfl (by kernel_rfl) (by kernel_rfl) (by kernel_rfl) (fun _ _ _ h => h) (Or.inl ⟨by rfl, ?_⟩) (by assumption) ?_
        · intro wx hSw; go_simp
        try simp only [Act.put, List.setIfInBounds_toArray, List.set_cons_zero, List.set_cons_succ, List.getElem_toArray, List.getElem_cons_zero, List.getElem_cons_succ]
        refine wpAnyH_take (i := 8) (v := undef) rfl (by kernel_rfl) (by kernel_rfl) (by kernel_rfl) (fun _ _ _ h => h) (Or.inr ⟨by rfl, rfl⟩) (by assumption) ?_
        try simp only [Act.put, List.setIfInBounds_toArray, List.set_cons_zero, List.set_cons_succ, List.getElem_toArray, List.getElem_cons_zero, List.getElem_cons_succ]
        refine wpAnyH_take (i := 9) (v := undef) rfl (by kernel_rfl) (by kernel_rfl) (by kernel_rfl) (fun _ _ _ h => h) (Or.inr ⟨by rfl, rfl⟩) (by assumption) ?_
        try simp only [Act.put, List.setIfInBounds_toArray, List.set_cons_zero, List.set_cons_succ, List.getElem_toArray, List.getElem_cons_zero, List.getElem_cons_succ]
        refine wpAnyH_take (i := 10) (v := undef) rfl (by kernel_rfl) (by kernel_rfl) (by kernel_rfl) (fun _ _ _ h => h) (Or.inr ⟨by rfl, rfl⟩) (by assumption) ?_
        try simp only [Act.put, List.setIfInBounds_toArray, List.set_cons_zero, List.set_cons_succ, List.getElem_toArray, List.getElem_cons_zero, List.getElem_cons_succ]
        refine wpAnyH_take (i := 11) (v := undef) rfl (by kernel_rfl) (by kernel_rfl) (by kernel_rfl) (fun _ _ _ h => h) (Or.inr ⟨by rfl, rfl⟩) (by assumption) ?_
        try simp only [Act.put, List.setIfInBounds_toArray, List.set_cons_zero, List.set_cons_succ, List.getElem_toArray, List.getElem_cons_zero, List.getElem_cons_succ]
        refine wpAnyH_take (i := 12) (v := undef) rfl (by kernel_rfl) (by kernel_rfl) (by kernel_rfl) (fun _ _ _ h => h) (Or.inr ⟨by rfl, rfl⟩) (by assumption) ?_
        try simp only [Act.put, List.setIfInBounds_toArray, List.set_cons_zero, List.set_cons_succ, List.getElem_toArray, List.getElem_cons_zero, List.getElem_cons_succ]
        refine wpAnyH_take (i := 13) (v := undef) rfl (by kernel_rfl) (by kernel_rfl) (by kernel_rfl) (fun _ _ _ h => h) (Or.inr ⟨by rfl, rfl⟩) (by assumption) ?_
        try simp only [Act.put, List.setIfInBounds_toArray, List.set_cons_zero, List.set_cons_succ, List.getElem_toArray, List.getElem_cons_zero, List.getElem_cons_succ]
        refine wpAnyH_take (i := 14) (v := undef) rfl (by kernel_rfl) (by kernel_rfl) (by kernel_rfl) (fun _ _ _ h => h) (Or.inr ⟨by rfl, rfl⟩) (by assumption) ?_
        try simp only [Act.put, List.setIfInBounds_toArray, List.set_cons_zero, List.set_cons_succ, List.getElem_toArray, List.getElem_cons_zero, List.getElem_cons_succ]
        refine wpAnyH_take (i := 15) (v := undef) rfl (by kernel_rfl) (by kernel_rfl) (by kernel_rfl) (fun _ _ _ h => h) (Or.inr ⟨by rfl, rfl⟩) (by assumption) ?_
        try simp only [Act.put, List.setIfInBounds_toArray, List.set_cons_zero, List.set_cons_succ, List.getElem_toArray, List.getElem_cons_zero, List.getElem_cons_succ]
        refine wpAnyH_take (i := 16) (v := undef) rfl (by kernel_rfl) (by kernel_rfl) (by kernel_rfl) (fun _ _ _ h => h) (Or.inr ⟨by rfl, rfl⟩) (by assumption) ?_
        try simp only [Act.put, List.setIfInBounds_toArray, List.set_cons_zero, List.set_cons_succ, List.getElem_toArray, List.getElem_cons_zero, List.getElem_cons_succ]
        refine wpAnyH_take (i := 17) (v := undef) rfl (by kernel_rfl) (by kernel_rfl) (by kernel_rfl) (fun _ _ _ h => h) (Or.inr ⟨by rfl, rfl⟩) (by assumption) ?_
        try simp only [Act.put, List.setIfInBounds_toArray, List.set_cons_zero, List.set_cons_succ, List.getElem_toArray, List.getElem_cons_zero, List.getElem_cons_succ]
        refine wpAnyH_take (i := 18) (v := undef) rfl (by kernel_rfl) (by kernel_rfl) (by kernel_rfl) (fun _ _ _ h => h) (Or.inr ⟨by rfl, rfl⟩) (by assumption) ?_
        try simp only [Act.put, List.setIfInBounds_toArray, List.set_cons_zero, List.set_cons_succ, List.getElem_toArray, List.getElem_cons_zero, List.getElem_cons_succ]
        refine wpAnyH_take (i := 19) (v := undef) rfl (by kernel_rfl) (by kernel_rfl) (by kernel_rfl) (fun _ _ _ h => h) (Or.inr ⟨by rfl, rfl⟩) (by assumption) ?_
        try simp only [Act.put, List.setIfInBounds_toArray, List.set_cons_zero, List.set_cons_succ, List.getElem_toArray, List.getElem_cons_zero, List.getElem_cons_succ]
        refine wpAnyH_take (i := 20) (v := undef) rfl (by kernel_rfl) (by kernel_rfl) (by kernel_rfl) (fun _ _ _ h => h) (Or.inr ⟨by rfl, rfl⟩) (by assumption) ?_
        try simp only [Act.put, List.setIfInBounds_toArray, List.set_cons_zero, List.set_cons_succ, List.getElem_toArray, List.getElem_cons_zero, List.getElem_cons_succ]
        refine wpAnyH_take (i := 21) (v := undef) rfl (by kernel_rfl) (by kernel_rfl) (by kernel_rfl) (fun _ _ _ h => h) (Or.inr ⟨by rfl, rfl⟩) (by assumption) ?_
        try simp only [Act.put, List.setIfInBounds_toArray, List.set_cons_zero, List.set_cons_succ, List.getElem_toArray, List.getElem_cons_zero, List.getElem_cons_succ]
        refine wpAnyH_take (i := 22) (v := undef) rfl (by kernel_rfl) (by kernel_rfl) (by kernel_rfl) (fun _ _ _ h => h) (Or.inr ⟨by rfl, rfl⟩) (by assumption) ?_
        try simp only [Act.put, List.setIfInBounds_toArray, List.set_cons_zero, List.set_cons_succ, List.getElem_toArray, List.getElem_cons_zero, List.getElem_cons_succ]
        refine wpAnyH_take (i := 23) (v := undef) rfl (by kernel_rfl) (by kernel_rfl) (by kernel_rfl) (fun _ _ _ h => h) (Or.inr ⟨by rfl, rfl⟩) (by assumption) ?_
        try simp only [Act.put, List.setIfInBounds_toArray, List.set_cons_zero, List.set_cons_succ, List.getElem_toArray, List.getElem_cons_zero, List.getElem_cons_succ]
        refine wpAnyH_take (i := 24) (v := .bool true) rfl (by kernel_rfl) (by kernel_rfl) (by kernel_rfl) (fun _ _ _ h => h) (Or.inl ⟨by rfl, ?_⟩) (by assumption) ?_
        · intro wx hSw; go_simp
        try simp only [Act.put, List.setIfInBounds_toArray, List.set_cons_zero, List.set_cons_succ, List.getElem_toArray, List.getElem_cons_zero, List.getElem_cons_succ]
        refine wpAnyH_done (by kernel_rfl) ?_ _
        go_wp2
        go_ret
        exact ⟨by rw [allB_stop HALL.out hkn EG.out]; rfl, by repeat (first | exact BR | refine bthen ?_ (by assumption) | apply Below.drew)⟩
      · by_cases hk0 : k = 0
        · have EG : Hid (goodB c d Z k = true) := by show goodB c d Z k = _; unfold goodB wkB; rw [hok]; simp [hk0]
          have hkf : ¬ 0 < k := by omega
          clear hk0
          go_wp2
          refine wp_region_held_drew (S := fun w' => (∀ b o, b < w.heap.size + 1 → w'.cell? ⟨b, o, none⟩ = (w.alloc (.cells #[.int .i64 c, .int .i64 d] 24)).cell? ⟨b, o, none⟩) ∧ w.heap.size + 1 ≤ w'.heap.size) (by kernel_rfl) HS ?_
          intro hHeld
          refine wpAnyH_take (i := 0) (v := .agg #[.int .i64 c, .int .i64 d]) rfl (by kernel_rfl) (by kernel_rfl) (by kernel_rfl) (fun _ _ _ h => h) (Or.inl ⟨by rfl, ?_⟩) (by assumption) ?_
          · intro wx hSw; go_simp
          try simp only [Act.put, List.setIfInBounds_toArray, List.set_cons_zero, List.set_cons_succ, List.getElem_toArray, List.getElem_cons_zero]
          refine wpAnyH_take (i := 1) (v := .slice (some ⟨b, o, none⟩) n cap) rfl (by kernel_rfl) (by kernel_rfl) (by kernel_rfl) (fun _ _ _ h => h) (Or.inl ⟨by rfl, ?_⟩) (by assumption) ?_
          · intro wx hSw; go_simp
          try simp only [Act.put, List.setIfInBounds_toArray, List.set_cons_zero, List.set_cons_succ, List.getElem_toArray, List.getElem_cons_zero, List.getElem_cons_succ]
          refine wpAnyH_take (i := 2) (v := .int .i64 (k : Int)) rfl (by kernel_rfl) (by kernel_rfl) (by kernel_rfl) (fun _ _ _ h => h) (Or.inl ⟨by rfl, ?_⟩) (by assumption) ?_
          · intro wx hSw; go_simp
          try simp only [Act.put, List.setIfInBounds_toArray, List.set_cons_zero, List.set_cons_succ, List.getElem_toArray, List.getElem_cons_zero, List.getElem_cons_succ]
          refine wpAnyH_take (i := 3) (v := .pointer (some ⟨b, o + k * 5, none⟩)) rfl (by kernel_rfl) (by kernel_rfl) (by kernel_rfl) (fun _ _ _ h => h) (Or.inl ⟨by rfl, ?_⟩) (by assumption) ?_
          · intro wx hSw; go_simp
          try simp only [Act.put, List.setIfInBounds_toArray, List.set_cons_zero, List.set_cons_succ, List.getElem_toArray, List.getElem_cons_zero, List.getElem_cons_succ]
          refine wpAnyH_take (i := 4) (v := .agg #[.int .i64 (Z k 0), .int .i64 (Z k 1), .int .i64 (Z k 2), .int .i64 (Z k 3), .int .i64 (Z k 4)]) rfl (by kernel_rfl) (by kernel_rfl) (by kernel_rfl) (fun _ _ _ h => h) (Or.inl ⟨by rfl, ?_⟩) (by assumption) ?_
          · intro wx hSw; go_simp
          try simp only [Act.put, List.setIfInBounds_toArray, List.set_cons_zero, List.set_cons_succ, List.getElem_toArray, List.getElem_cons_zero, List.getElem_cons_succ]
          refine wpAnyH_ready (rs := [5]) (by kernel_rfl) (by simp) ?_
          refine AllReadyH.cons rfl (fun K hK => ?_) AllReadyH.nil
          go_simp
          go_wp2_with (go_at_call 24; refine (wlkOk_spec _ _ _ _ _ _ _ _).mono ?_; rintro e w2 ⟨rfl, hbw2⟩)
          refine hK.out _ _ (keepS (by assumption) hbw2) (fun hHeld => ?_)
          clear hK K
          try simp only [Act.put, List.setIfInBounds_toArray, List.set_cons_zero, List.set_cons_succ, List.getElem_toArray, List.getElem_cons_zero, List.getElem_cons_succ]
          refine wpAnyH_take (i := 6) (v := .bool false) rfl (by kernel_rfl) (by kernel_rfl) (by kernel_rfl) (fun _ _ _ h => h) (Or.inl ⟨by rfl, ?_⟩) (by assumption) ?_
          · intro wx hSw; go_simp
          try simp only [Act.put, List.setIfInBounds_toArray, List.set_cons_zero, List.set_cons_succ, List.getElem_toArray, List.getElem_cons_zero, List.getElem_cons_succ]
          refine wpAnyH_take (i := 7) (v := .bool false) rfl (by kernel_rfl) (by kernel_rfl) (by kernel_rfl) (fun _ _ _ h => h) (Or.inl ⟨by rfl, ?_⟩) (by assumption) ?_
          · intro wx hSw; go_simp
          try simp only [Act.put, List.setIfInBounds_toArray, List.set_cons_zero, List.set_cons_succ, List.getElem_toArray, List.getElem_cons_zero, List.getElem_cons_succ]
          refine wpAnyH_take (i := 8) (v := .int .i64 (k : Int)) rfl (by kernel_rfl) (by kernel_rfl) (by kernel_rfl) (fun _ _ _ h => h) (Or.inl ⟨by rfl, ?_⟩) (by assumption) ?_
          · intro wx hSw; go_simp
          try simp only [Act.put, List.setIfInBounds_toArray, List.set_cons_zero, List.set_cons_succ, List.getElem_toArray, List.getElem_cons_zero, List.getElem_cons_succ]
          refine wpAnyH_take (i := 9) (v := .bool false) rfl (by kernel_rfl) (by kernel_rfl) (by kernel_rfl) (fun _ _ _ h => h) (Or.inl ⟨by rfl, ?_⟩) (by assumption) ?_
          · intro wx hSw; go_simp <;> omega
          try simp only [Act.put, List.setIfInBounds_toArray, List.set_cons_zero, List.set_cons_succ, List.getElem_toArray, List.getElem_cons_zero, List.getElem_cons_succ]
          refine wpAnyH_take (i := 10) (v := .bool false) rfl (by kernel_rfl) (by kernel_rfl) (by kernel_rfl) (fun _ _ _ h => h) (Or.inl ⟨by rfl, ?_⟩) (by assumption) ?_
          · intro wx hSw; go_simp
          try simp only [Act.put, List.setIfInBounds_toArray, List.set_cons_zero, List.set_cons_succ, List.getElem_toArray, List.getElem_cons_zero, List.getElem_cons_succ]
          refine wpAnyH_take (i := 11) (v := undef) rfl (by kernel_rfl) (by kernel_rfl) (by kernel_rfl) (fun _ _ _ h => h) (Or.inr ⟨by rfl, rfl⟩) (by assumption) ?_
          try simp only [Act.put, List.setIfInBounds_toArray, List.set_cons_zero, List.set_cons_succ, List.getElem_toArray, List.getElem_cons_zero, List.getElem_cons_succ]
          refine wpAnyH_take (i := 12) (v := undef) rfl (by kernel_rfl) (by kernel_rfl) (by kernel_rfl) (fun _ _ _ h => h) (Or.inr ⟨by rfl, rfl⟩) (by assumption) ?_
          try simp only [Act.put, List.setIfInBounds_toArray, List.set_cons_zero, List.set_cons_succ, List.getElem_toArray, List.getElem_cons_zero, List.getElem_cons_succ]
          refine wpAnyH_take (i := 13) (v := undef) rfl (by kernel_rfl) (by kernel_rfl) (by kernel_rfl) (fun _ _ _ h => h) (Or.inr ⟨by rfl, rfl⟩) (by assumption) ?_
          try simp only [Act.put, List.setIfInBounds_toArray, List.set_cons_zero, List.set_cons_succ, List.getElem_toArray, List.getElem_cons_zero, List.getElem_cons_succ]
          refine wpAnyH_take (i := 14) (v := undef) rfl (by kernel_rfl) (by kernel_rfl) (by kernel_rfl) (fun _ _ _ h => h) (Or.inr ⟨by rfl, rfl⟩) (by assumption) ?_
          try simp only [Act.put, List.setIfInBounds_toArray, List.set_cons_zero, List.set_cons_succ, List.getElem_toArray, List.getElem_cons_zero, List.getElem_cons_succ]
          refine wpAnyH_take (i := 15) (v := undef) rfl (by kernel_rfl) (by kernel_rfl) (by kernel_rfl) (fun _ _ _ h => h) (Or.inr ⟨by rfl, rfl⟩) (by assumption) ?_
          try simp only [Act.put, List.setIfInBounds_toArray, List.set_cons_zero, List.set_cons_succ, List.getElem_toArray, List.getElem_cons_zero, List.getElem_cons_succ]
          refine wpAnyH_take (i := 16) (v := undef) rfl (by kernel_rfl) (by kernel_rfl) (by kernel_rfl) (fun _ _ _ h => h) (Or.inr ⟨by rfl, rfl⟩) (by assumption) ?_
          try simp only [Act.put, List.setIfInBounds_toArray, List.set_cons_zero, List.set_cons_succ, List.getElem_toArray, List.getElem_cons_zero, List.getElem_cons_succ]
          refine wpAnyH_take (i := 17) (v := undef) rfl (by kernel_rfl) (by kernel_rfl) (by kernel_rfl) (fun _ _ _ h => h) (Or.inr ⟨by rfl, rfl⟩) (by assumption) ?_
          try simp only [Act.put, List.setIfInBounds_toArray, List.set_cons_zero, List.set_cons_succ, List.getElem_toArray, List.getElem_cons_zero, List.getElem_cons_succ]
          refine wpAnyH_take (i := 18) (v := undef) rfl (by kernel_rfl) (by kernel_rfl) (by kernel_rfl) (fun _ _ _ h => h) (Or.inr ⟨by rfl, rfl⟩) (by assumption) ?_
          try simp only [Act.put, List.setIfInBounds_toArray, List.set_cons_zero, List.set_cons_succ, List.getElem_toArray, List.getElem_cons_zero, List.getElem_cons_succ]
          refine wpAnyH_take (i := 19) (v := undef) rfl (by kernel_rfl) (by kernel_rfl) (by kernel_rfl) (fun _ _ _ h => h) (Or.inr ⟨by rfl, rfl⟩) (by assumption) ?_
          try simp only [Act.put, List.setIfInBounds_toArray, List.set_cons_zero, List.set_cons_succ, List.getElem_toArray, List.getElem_cons_zero, List.getElem_cons_succ]
          refine wpAnyH_take (i := 20) (v := undef) rfl (by kernel_rfl) (by kernel_rfl) (by kernel_rfl) (fun _ _ _ h => h) (Or.inr ⟨by rfl, rfl⟩) (by assumption) ?_
          try simp only [Act.put, List.setIfInBounds_toArray, List.set_cons_zero, List.set_cons_succ, List.getElem_toArray, List.getElem_cons_zero, List.getElem_cons_succ]
          refine wpAnyH_take (i := 21) (v := undef) rfl (by kernel_rfl) (by kernel_rfl) (by kernel_rfl) (fun _ _ _ h => h) (Or.inr ⟨by rfl, rfl⟩) (by assumption) ?_
          try simp only [Act.put, List.setIfInBounds_toArray, List.set_cons_zero, List.set_cons_succ, List.getElem_toArray, List.getElem_cons_zero, List.getElem_cons_succ]
          refine wpAnyH_take (i := 22) (v := undef) rfl (by kernel_rfl) (by kernel_rfl) (by kernel_rfl) (fun _ _ _ h => h) (Or.inr ⟨by rfl, rfl⟩) (by assumption) ?_
          try simp only [Act.put, List.setIfInBounds_toArray, List.set_cons_zero, List.set_cons_succ, List.getElem_toArray, List.getElem_cons_zero, List.getElem_cons_succ]
          refine wpAnyH_take (i := 23) (v := .bool false) rfl (by kernel_rfl) (by kernel_rfl) (by kernel_rfl) (fun _ _ _ h => h) (Or.inl ⟨by rfl, ?_⟩) (by assumption) ?_
          · intro wx hSw; go_simp
          try simp only [Act.put, List.setIfInBounds_toArray, List.set_cons_zero, List.set_cons_succ, List.getElem_toArray, List.getElem_cons_zero, List.getElem_cons_succ]
          refine wpAnyH_take (i := 24) (v := .bool false) rfl (by kernel_rfl) (by kernel_rfl) (by kernel_rfl) (fun _ _ _ h => h) (Or.inl ⟨by rfl, ?_⟩) (by assumption) ?_
          · intro wx hSw; go_simp
          try simp only [Act.put, List.setIfInBounds_toArray, List.set_cons_zero, List.set_cons_succ, List.getElem_toArray, List.getElem_cons_zero, List.getElem_cons_succ]
          refine wpAnyH_done (by kernel_rfl) ?_ _
          go_wp2
          go_roundw
          case rel => exact ⟨k + 1, by omega, by go_num, allB_step HALL.out EG.out, by assumption, by repeat (first | exact BR | refine bthen ?_ (by assumption) | apply Below.drew)⟩
          case measure => simp [intOf]; omega
        · by_cases hlt : Z (k - 1) 0 < Z k 0
          · have EG : Hid (goodB c d Z k = true) := by show goodB c d Z k = _; unfold goodB wkB; rw [hok]; simp [hlt]
            go_wp2
            refine wp_region_held_drew (S := fun w' => (∀ b o, b < w.heap.size + 1 → w'.cell? ⟨b, o, none⟩ = (w.alloc (.cells #[.int .i64 c, .int .i64 d] 24)).cell? ⟨b, o, none⟩) ∧ w.heap.size + 1 ≤ w'.heap.size) (by kernel_rfl) HS ?_
            intro hHeld
            refine wpAnyH_take (i := 0) (v := .agg #[.int .i64 c, .int .i64 d]) rfl (by kernel_rfl) (by kernel_rfl) (by kernel_rfl) (fun _ _ _ h => h) (Or.inl ⟨by rfl, ?_⟩) (by assumption) ?_
            · intro wx hSw; go_simp
            try simp only [Act.put, List.setIfInBounds_toArray, List.set_cons_zero, List.set_cons_succ, List.getElem_toArray, List.getElem_cons_zero]
            refine wpAnyH_take (i := 1) (v := .slice (some ⟨b, o, none⟩) n cap) rfl (by kernel_rfl) (by kernel_rfl) (by kernel_rfl) (fun _ _ _ h => h) (Or.inl ⟨by rfl, ?_⟩) (by assumption) ?_
            · intro wx hSw; go_simp
            try simp only [Act.put, List.setIfInBounds_toArray, List.set_cons_zero, List.set_cons_succ, List.getElem_toArray, List.getElem_cons_zero, List.getElem_cons_succ]
            refine wpAnyH_take (i := 2) (v := .int .i64 (k : Int)) rfl (by kernel_rfl) (by kernel_rfl) (by kernel_rfl) (fun _ _ _ h => h) (Or.inl ⟨by rfl, ?_⟩) (by assumption) ?_
            · intro wx hSw; go_simp
            try simp only [Act.put, List.setIfInBounds_toArray, List.set_cons_zero, List.set_cons_succ, List.getElem_toArray, List.getElem_cons_zero, List.getElem_cons_succ]
            refine wpAnyH_take (i := 3) (v := .pointer (some ⟨b, o + k * 5, none⟩)) rfl (by kernel_rfl) (by kernel_rfl) (by kernel_rfl) (fun _ _ _ h => h) (Or.inl ⟨by rfl, ?_⟩) (by assumption) ?_
            · intro wx hSw; go_simp
            try simp only [Act.put, List.setIfInBounds_toArray, List.set_cons_zero, List.set_cons_succ, List.getElem_toArray, List.getElem_cons_zero, List.getElem_cons_succ]
            refine wpAnyH_take (i := 4) (v := .agg #[.int .i64 (Z k 0), .int .i64 (Z k 1), .int .i64 (Z k 2), .int .i64 (Z k 3), .int .i64 (Z k 4)]) rfl (by kernel_rfl) (by kernel_rfl) (by kernel_rfl) (fun _ _ _ h => h) (Or.inl ⟨by rfl, ?_⟩) (by assumption) ?_
            · intro wx hSw; go_simp
            try simp only [Act.put, List.setIfInBounds_toArray, List.set_cons_zero, List.set_cons_succ, List.getElem_toArray, List.getElem_cons_zero, List.getElem_cons_succ]
            refine wpAnyH_ready (rs := [5]) (by kernel_rfl) (by simp) ?_
            refine AllReadyH.cons rfl (fun K hK => ?_) AllReadyH.nil
            go_simp
            go_wp2_with (go_at_call 24; refine (wlkOk_spec _ _ _ _ _ _ _ _).mono ?_; rintro e w2 ⟨rfl, hbw2⟩)
            refine hK.out _ _ (keepS (by assumption) hbw2) (fun hHeld => ?_)
            clear hK K
            try simp only [Act.put, List.setIfInBounds_toArray, List.set_cons_zero, List.set_cons_succ, List.getElem_toArray, List.getElem_cons_zero, List.getElem_cons_succ]
            refine wpAnyH_take (i := 6) (v := .bool false) rfl (by kernel_rfl) (by kernel_rfl) (by kernel_rfl) (fun _ _ _ h => h) (Or.inl ⟨by rfl, ?_⟩) (by assumption) ?_
            · intro wx hSw; go_simp
            try simp only [Act.put, List.setIfInBounds_toArray, List.set_cons_zero, List.set_cons_succ, List.getElem_toArray, List.getElem_cons_zero, List.getElem_cons_succ]
            refine wpAnyH_take (i := 7) (v := .bool false) rfl (by kernel_rfl) (by kernel_rfl) (by kernel_rfl) (fun _ _ _ h => h) (Or.inl ⟨by rfl, ?_⟩) (by assumption) ?_
            · intro wx hSw; go_simp
            try simp only [Act.put, List.setIfInBounds_toArray, List.set_cons_zero, List.set_cons_succ, List.getElem_toArray, List.getElem_cons_zero, List.getElem_cons_succ]
            refine wpAnyH_take (i := 8) (v := .int .i64 (k : Int)) rfl (by kernel_rfl) (by kernel_rfl) (by kernel_rfl) (fun _ _ _ h => h) (Or.inl ⟨by rfl, ?_⟩) (by assumption) ?_
            · intro wx hSw; go_simp
            try simp only [Act.put, List.setIfInBounds_toArray, List.set_cons_zero, List.set_cons_succ, List.getElem_toArray, List.getElem_cons_zero, List.getElem_cons_succ]
            refine wpAnyH_take (i := 9) (v := .bool true) rfl (by kernel_rfl) (by kernel_rfl) (by kernel_rfl) (fun _ _ _ h => h) (Or.inl ⟨by rfl, ?_⟩) (by assumption) ?_
            · intro wx hSw; go_simp <;> omega
            try simp only [Act.put, List.setIfInBounds_toArray, List.set_cons_zero, List.set_cons_succ, List.getElem_toArray, List.getElem_cons_zero, List.getElem_cons_succ]
            refine wpAnyH_take (i := 10) (v := .bool true) rfl (by kernel_rfl) (by kernel_rfl) (by kernel_rfl) (fun _ _ _ h => h) (Or.inl ⟨by rfl, ?_⟩) (by assumption) ?_
            · intro wx hSw; go_simp
            try simp only [Act.put, List.setIfInBounds_toArray, List.set_cons_zero, List.set_cons_succ, List.getElem_toArray, List.getElem_cons_zero, List.getElem_cons_succ]
            refine wpAnyH_take (i := 11) (v := .slice (some ⟨b, o, none⟩) n cap) rfl (by kernel_rfl) (by kernel_rfl) (by kernel_rfl) (fun _ _ _ h => h) (Or.inl ⟨by rfl, ?_⟩) (by assumption) ?_
            · intro wx hSw; go_simp
            try simp only [Act.put, List.setIfInBounds_toArray, List.set_cons_zero, List.set_cons_succ, List.getElem_toArray, List.getElem_cons_zero, List.getElem_cons_succ]
            refine wpAnyH_take (i := 12) (v := .int .i64 (k : Int)) rfl (by kernel_rfl) (by kernel_rfl) (by kernel_rfl) (fun _ _ _ h => h) (Or.inl ⟨by rfl, ?_⟩) (by assumption) ?_
            · intro wx hSw; go_simp
            try simp only [Act.put, List.setIfInBounds_toArray, List.set_cons_zero, List.set_cons_succ, List.getElem_toArray, List.getElem_cons_zero, List.getElem_cons_succ]
            refine wpAnyH_take (i := 13) (v := .int .i64 ((k : Int) - 1)) rfl (by kernel_rfl) (by kernel_rfl) (by kernel_rfl) (fun _ _ _ h => h) (Or.inl ⟨by rfl, ?_⟩) (by assumption) ?_
            · intro wx hSw; go_simp; rw [IntKind.wrap_i64]; omega
            try simp only [Act.put, List.setIfInBounds_toArray, List.set_cons_zero, List.set_cons_succ, List.getElem_toArray, List.getElem_cons_zero, List.getElem_cons_succ]
            refine wpAnyH_take (i := 14) (v := .pointer (some ⟨b, o + (k - 1) * 5, none⟩)) rfl (by kernel_rfl) (by kernel_rfl) (by kernel_rfl) (fun _ _ _ h => h) (Or.inl ⟨by rfl, ?_⟩) (by assumption) ?_
            · intro wx hSw; go_simp; intro h; omega
            try simp only [Act.put, List.setIfInBounds_toArray, List.set_cons_zero, List.set_cons_succ, List.getElem_toArray, List.getElem_cons_zero, List.getElem_cons_succ]
            refine wpAnyH_take (i := 15) (v := .pointer (some ⟨b, o + (k - 1) * 5, none⟩)) rfl (by kernel_rfl) (by kernel_rfl) (by kernel_rfl) (fun _ _ _ h => h) (Or.inl ⟨by rfl, ?_⟩) (by assumption) ?_
            · intro wx hSw; go_simp
            try simp only [Act.put, List.setIfInBounds_toArray, List.set_cons_zero, List.set_cons_succ, List.getElem_toArray, List.getElem_cons_zero, List.getElem_cons_succ]
            refine wpAnyH_take (i := 16) (v := .int .i64 (Z (k - 1) 0)) rfl (by kernel_rfl) (by kernel_rfl) (by kernel_rfl) (fun _ _ _ h => h) (Or.inl ⟨by rfl, ?_⟩) (by assumption) ?_
            · intro wx hSw; go_simp
            try simp only [Act.put, List.setIfInBounds_toArray, List.set_cons_zero, List.set_cons_succ, List.getElem_toArray, List.getElem_cons_zero, List.getElem_cons_succ]
            refine wpAnyH_take (i := 17) (v := .slice (some ⟨b, o, none⟩) n cap) rfl (by kernel_rfl) (by kernel_rfl) (by kernel_rfl) (fun _ _ _ h => h) (Or.inl ⟨by rfl, ?_⟩) (by assumption) ?_
            · intro wx hSw; go_simp
            try simp only [Act.put, List.setIfInBounds_toArray, List.set_cons_zero, List.set_cons_succ, List.getElem_toArray, List.getElem_cons_zero, List.getElem_cons_succ]
            refine wpAnyH_take (i := 18) (v := .int .i64 (k : Int)) rfl (by kernel_rfl) (by kernel_rfl) (by kernel_rfl) (fun _ _ _ h => h) (Or.inl ⟨by rfl, ?_⟩) (by assumption) ?_
            · intro wx hSw; go_simp
            try simp only [Act.put, List.setIfInBounds_toArray, List.set_cons_zero, List.set_cons_succ, List.getElem_toArray, List.getElem_cons_zero, List.getElem_cons_succ]
            refine wpAnyH_take (i := 19) (v := .pointer (some ⟨b, o + k * 5, none⟩)) rfl (by kernel_rfl) (by kernel_rfl) (by kernel_rfl) (fun _ _ _ h => h) (Or.inl ⟨by rfl, ?_⟩) (by assumption) ?_
            · intro wx hSw; go_simp
            try simp only [Act.put, List.setIfInBounds_toArray, List.set_cons_zero, List.set_cons_succ, List.getElem_toArray, List.getElem_cons_zero, List.getElem_cons_succ]
            refine wpAnyH_take (i := 20) (v := .pointer (some ⟨b, o + k * 5, none⟩)) rfl (by kernel_rfl) (by kernel_rfl) (by kernel_rfl) (fun _ _ _ h => h) (Or.inl ⟨by rfl, ?_⟩) (by assumption) ?_
            · intro wx hSw; go_simp
            try simp only [Act.put, List.setIfInBounds_toArray, List.set_cons_zero, List.set_cons_succ, List.getElem_toArray, List.getElem_cons_zero, List.getElem_cons_succ]
            refine wpAnyH_take (i := 21) (v := .int .i64 (Z k 0)) rfl (by kernel_rfl) (by kernel_rfl) (by kernel_rfl) (fun _ _ _ h => h) (Or.inl ⟨by rfl, ?_⟩) (by assumption) ?_
            · intro wx hSw; go_simp
            try simp only [Act.put, List.setIfInBounds_toArray, List.set_cons_zero, List.set_cons_succ, List.getElem_toArray, List.getElem_cons_zero, List.getElem_cons_succ]
            refine wpAnyH_take (i := 22) (v := .bool false) rfl (by kernel_rfl) (by kernel_rfl) (by kernel_rfl) (fun _ _ _ h => h) (Or.inl ⟨by rfl, ?_⟩) (by assumption) ?_
            · intro wx hSw; go_simp
            try simp only [Act.put, List.setIfInBounds_toArray, List.set_cons_zero, List.set_cons_succ, List.getElem_toArray, List.getElem_cons_zero, List.getElem_cons_succ]
            refine wpAnyH_take (i := 23) (v := .bool false) rfl (by kernel_rfl) (by kernel_rfl) (by kernel_rfl) (fun _ _ _ h => h) (Or.inl ⟨by rfl, ?_⟩) (by assumption) ?_
            · intro wx hSw; go_simp
            try simp only [Act.put, List.setIfInBounds_toArray, List.set_cons_zero, List.set_cons_succ, List.getElem_toArray, List.getElem_cons_zero, List.getElem_cons_succ]
            refine wpAnyH_take (i := 24) (v := .bool false) rfl (by kernel_rfl) (by kernel_rfl) (by kernel_rfl) (fun _ _ _ h => h) (Or.inl ⟨by rfl, ?_⟩) (by assumption) ?_
            · intro wx hSw; go_simp
            try simp only [Act.put, List.setIfInBounds_toArray, List.set_cons_zero, List.set_cons_succ, List.getElem_toArray, List.getElem_cons_zero, List.getElem_cons_succ]
            refine wpAnyH_done (by kernel_rfl) ?_ _
            go_wp2
            go_roundw
            case rel => exact ⟨k + 1, by omega, by go_num, allB_step HALL.out EG.out, by assumption, by repeat (first | exact BR | refine bthen ?_ (by assumption) | apply Below.drew)⟩
            case measure => simp [intOf]; omega
          · have EG : Hid (goodB c d Z k = false) := by show goodB c d Z k = _; unfold goodB wkB; rw [hok]; simp [hk0, hlt]
            go_wp2
            refine wp_region_held_drew (S := fun w' => (∀ b o, b < w.heap.size + 1 → w'.cell? ⟨b, o, none⟩ = (w.alloc (.cells #[.int .i64 c, .int .i64 d] 24)).cell? ⟨b, o, none⟩) ∧ w.heap.size + 1 ≤ w'.heap.size) (by kernel_rfl) HS ?_
            intro hHeld
            refine wpAnyH_take (i := 0) (v := .agg #[.int .i64 c, .int .i64 d]) rfl (by kernel_rfl) (by kernel_rfl) (by kernel_rfl) (fun _ _ _ h => h) (Or.inl ⟨by rfl, ?_⟩) (by assumption) ?_
            · intro wx hSw; go_simp
            try simp only [Act.put, List.setIfInBounds_toArray, List.set_cons_zero, List.set_cons_succ, List.getElem_toArray, List.getElem_cons_zero]
            refine wpAnyH_take (i := 1) (v := .slice (some ⟨b, o, none⟩) n cap) rfl (by kernel_rfl) (by kernel_rfl) (by kernel_rfl) (fun _ _ _ h => h) (Or.inl ⟨by rfl, ?_⟩) (by assumption) ?_
            · intro wx hSw; go_simp
            try simp only [Act.put, List.setIfInBounds_toArray, List.set_cons_zero, List.set_cons_succ, List.getElem_toArray, List.getElem_cons_zero, List.getElem_cons_succ]
            refine wpAnyH_take (i := 2) (v := .int .i64 (k : Int)) rfl (by kernel_rfl) (by kernel_rfl) (by kernel_rfl) (fun _ _ _ h => h) (Or.inl ⟨by rfl, ?_⟩) (by assumption) ?_
            · intro wx hSw; go_simp
            try simp only [Act.put, List.setIfInBounds_toArray, List.set_cons_zero, List.set_cons_succ, List.getElem_toArray, List.getElem_cons_zero, List.getElem_cons_succ]
            refine wpAnyH_take (i := 3) (v := .pointer (some ⟨b, o + k * 5, none⟩)) rfl (by kernel_rfl) (by kernel_rfl) (by kernel_rfl) (fun _ _ _ h => h) (Or.inl ⟨by rfl, ?_⟩) (by assumption) ?_
            · intro wx hSw; go_simp
            try simp only [Act.put, List.setIfInBounds_toArray, List.set_cons_zero, List.set_cons_succ, List.getElem_toArray, List.getElem_cons_zero, List.getElem_cons_succ]
            refine wpAnyH_take (i := 4) (v := .agg #[.int .i64 (Z k 0), .int .i64 (Z k 1), .int .i64 (Z k 2), .int .i64 (Z k 3), .int .i64 (Z k 4)]) rfl (by kernel_rfl) (by kernel_rfl) (by kernel_rfl) (fun _ _ _ h => h) (Or.inl ⟨by rfl, ?_⟩) (by assumption) ?_
            · intro wx hSw; go_simp
            try simp only [Act.put, List.setIfInBounds_toArray, List.set_cons_zero, List.set_cons_succ, List.getElem_toArray, List.getElem_cons_zero, List.getElem_cons_succ]
            refine wpAnyH_ready (rs := [5]) (by kernel_rfl) (by simp) ?_
            refine AllReadyH.cons rfl (fun K hK => ?_) AllReadyH.nil
            go_simp
            go_wp2_with (go_at_call 24; refine (wlkOk_spec _ _ _ _ _ _ _ _).mono ?_; rintro e w2 ⟨rfl, hbw2⟩)
            refine hK.out _ _ (keepS (by assumption) hbw2) (fun hHeld => ?_)
            clear hK K
            try simp only [Act.put, List.setIfInBounds_toArray, List.set_cons_zero, List.set_cons_succ, List.getElem_toArray, List.getElem_cons_zero, List.getElem_cons_succ]
            refine wpAnyH_take (i := 6) (v := .bool false) rfl (by kernel_rfl) (by kernel_rfl) (by kernel_rfl) (fun _ _ _ h => h) (Or.inl ⟨by rfl, ?_⟩) (by assumption) ?_
            · intro wx hSw; go_simp
            try simp only [Act.put, List.setIfInBounds_toArray, List.set_cons_zero, List.set_cons_succ, List.getElem_toArray, List.getElem_cons_zero, List.getElem_cons_succ]
            refine wpAnyH_take (i := 7) (v := .bool false) rfl (by kernel_rfl) (by kernel_rfl) (by kernel_rfl) (fun _ _ _ h => h) (Or.inl ⟨by rfl, ?_⟩) (by assumption) ?_
            · intro wx hSw; go_simp
            try simp only [Act.put, List.setIfInBounds_toArray, List.set_cons_zero, List.set_cons_succ, List.getElem_toArray, List.getElem_cons_zero, List.getElem_cons_succ]
            refine wpAnyH_take (i := 8) (v := .int .i64 (k : Int)) rfl (by kernel_rfl) (by kernel_rfl) (by kernel_rfl) (fun _ _ _ h => h) (Or.inl ⟨by rfl, ?_⟩) (by assumption) ?_
            · intro wx hSw; go_simp
            try simp only [Act.put, List.setIfInBounds_toArray, List.set_cons_zero, List.set_cons_succ, List.getElem_toArray, List.getElem_cons_zero, List.getElem_cons_succ]
            refine wpAnyH_take (i := 9) (v := .bool true) rfl (by kernel_rfl) (by kernel_rfl) (by kernel_rfl) (fun _ _ _ h => h) (Or.inl ⟨by rfl, ?_⟩) (by assumption) ?_
            · intro wx hSw; go_simp <;> omega
            try simp only [Act.put, List.setIfInBounds_toArray, List.set_cons_zero, List.set_cons_succ, List.getElem_toArray, List.getElem_cons_zero, List.getElem_cons_succ]
            refine wpAnyH_take (i := 10) (v := .bool true) rfl (by kernel_rfl) (by kernel_rfl) (by kernel_rfl) (fun _ _ _ h => h) (Or.inl ⟨by rfl, ?_⟩) (by assumption) ?_
            · intro wx hSw; go_simp
            try simp only [Act.put, List.setIfInBounds_toArray, List.set_cons_zero, List.set_cons_succ, List.getElem_toArray, List.getElem_cons_zero, List.getElem_cons_succ]
            refine wpAnyH_take (i := 11) (v := .slice (some ⟨b, o, none⟩) n cap) rfl (by kernel_rfl) (by kernel_rfl) (by kernel_rfl) (fun _ _ _ h => h) (Or.inl ⟨by rfl, ?_⟩) (by assumption) ?_
            · intro wx hSw; go_simp
            try simp only [Act.put, List.setIfInBounds_toArray, List.set_cons_zero, List.set_cons_succ, List.getElem_toArray, List.getElem_cons_zero, List.getElem_cons_succ]
            refine wpAnyH_take (i := 12) (v := .int .i64 (k : Int)) rfl (by kernel_rfl) (by kernel_rfl) (by kernel_rfl) (fun _ _ _ h => h) (Or.inl ⟨by rfl, ?_⟩) (by assumption) ?_
            · intro wx hSw; go_simp
            try simp only [Act.put, List.setIfInBounds_toArray, List.set_cons_zero, List.set_cons_succ, List.getElem_toArray, List.getElem_cons_zero, List.getElem_cons_succ]
            refine wpAnyH_take (i := 13) (v := .int .i64 ((k : Int) - 1)) rfl (by kernel_rfl) (by kernel_rfl) (by kernel_rfl) (fun _ _ _ h => h) (Or.inl ⟨by rfl, ?_⟩) (by assumption) ?_
            · intro wx hSw; go_simp; rw [IntKind.wrap_i64]; omega
            try simp only [Act.put, List.setIfInBounds_toArray, List.set_cons_zero, List.set_cons_succ, List.getElem_toArray, List.getElem_cons_zero, List.getElem_cons_succ]
            refine wpAnyH_take (i := 14) (v := .pointer (some ⟨b, o + (k - 1) * 5, none⟩)) rfl (by kernel_rfl) (by kernel_rfl) (by kernel_rfl) (fun _ _ _ h => h) (Or.inl ⟨by rfl, ?_⟩) (by assumption) ?_
            · intro wx hSw; go_simp; intro h; omega
            try simp only [Act.put, List.setIfInBounds_toArray, List.set_cons_zero, List.set_cons_succ, List.getElem_toArray, List.getElem_cons_zero, List.getElem_cons_succ]
            refine wpAnyH_take (i := 15) (v := .pointer (some ⟨b, o + (k - 1) * 5, none⟩)) rfl (by kernel_rfl) (by kernel_rfl) (by kernel_rfl) (fun _ _ _ h => h) (Or.inl ⟨by rfl, ?_⟩) (by assumption) ?_
            · intro wx hSw; go_simp
            try simp only [Act.put, List.setIfInBounds_toArray, List.set_cons_zero, List.set_cons_succ, List.getElem_toArray, List.getElem_cons_zero, List.getElem_cons_succ]
            refine wpAnyH_take (i := 16) (v := .int .i64 (Z (k - 1) 0)) rfl (by kernel_rfl) (by kernel_rfl) (by kernel_rfl) (fun _ _ _ h => h) (Or.inl ⟨by rfl, ?_⟩) (by assumption) ?_
            · intro wx hSw; go_simp
            try simp only [Act.put, List.setIfInBounds_toArray, List.set_cons_zero, List.set_cons_succ, List.getElem_toArray, List.getElem_cons_zero, List.getElem_cons_succ]
            refine wpAnyH_take (i := 17) (v := .slice (some ⟨b, o, none⟩) n cap) rfl (by kernel_rfl) (by kernel_rfl) (by kernel_rfl) (fun _ _ _ h => h) (Or.inl ⟨by rfl, ?_⟩) (by assumption) ?_
            · intro wx hSw; go_simp
            try simp only [Act.put, List.setIfInBounds_toArray, List.set_cons_zero, List.set_cons_succ, List.getElem_toArray, List.getElem_cons_zero, List.getElem_cons_succ]
            refine wpAnyH_take (i := 18) (v := .int .i64 (k : Int)) rfl (by kernel_rfl) (by kernel_rfl) (by kernel_rfl) (fun _ _ _ h => h) (Or.inl ⟨by rfl, ?_⟩) (by assumption) ?_
            · intro wx hSw; go_simp
            try simp only [Act.put, List.setIfInBounds_toArray, List.set_cons_zero, List.set_cons_succ, List.getElem_toArray, List.getElem_cons_zero, List.getElem_cons_succ]
            refine wpAnyH_take (i := 19) (v := .pointer (some ⟨b, o + k * 5, none⟩)) rfl (by kernel_rfl) (by kernel_rfl) (by kernel_rfl) (fun _ _ _ h => h) (Or.inl ⟨by rfl, ?_⟩) (by assumption) ?_
            · intro wx hSw; go_simp
            try simp only [Act.put, List.setIfInBounds_toArray, List.set_cons_zero, List.set_cons_succ, List.getElem_toArray, List.getElem_cons_zero, List.getElem_cons_succ]
            refine wpAnyH_take (i := 20) (v := .pointer (some ⟨b, o + k * 5, none⟩)) rfl (by kernel_rfl) (by kernel_rfl) (by kernel_rfl) (fun _ _ _ h => h) (Or.inl ⟨by rfl, ?_⟩) (by assumption) ?_
            · intro wx hSw; go_simp
            try simp only [Act.put, List.setIfInBounds_toArray, List.set_cons_zero, List.set_cons_succ, List.getElem_toArray, List.getElem_cons_zero, List.getElem_cons_succ]
            refine wpAnyH_take (i := 21) (v := .int .i64 (Z k 0)) rfl (by kernel_rfl) (by kernel_rfl) (by kernel_rfl) (fun _ _ _ h => h) (Or.inl ⟨by rfl, ?_⟩) (by assumption) ?_
            · intro wx hSw; go_simp
            try simp only [Act.put, List.setIfInBounds_toArray, List.set_cons_zero, List.set_cons_succ, List.getElem_toArray, List.getElem_cons_zero, List.getElem_cons_succ]
            refine wpAnyH_take (i := 22) (v := .bool true) rfl (by kernel_rfl) (by kernel_rfl) (by kernel_rfl) (fun _ _ _ h => h) (Or.inl ⟨by rfl, ?_⟩) (by assumption) ?_
            · intro wx hSw; go_simp
            try simp only [Act.put, List.setIfInBounds_toArray, List.set_cons_zero, List.set_cons_succ, List.getElem_toArray, List.getElem_cons_zero, List.getElem_cons_succ]
            refine wpAnyH_take (i := 23) (v := .bool true) rfl (by kernel_rfl) (by kernel_rfl) (by kernel_rfl) (fun _ _ _ h => h) (Or.inl ⟨by rfl, ?_⟩) (by assumption) ?_
            · intro wx hSw; go_simp
            try simp only [Act.put, List.setIfInBounds_toArray, List.set_cons_zero, List.set_cons_succ, List.getElem_toArray, List.getElem_cons_zero, List.getElem_cons_succ]
            refine wpAnyH_take (i := 24) (v := .bool true) rfl (by kernel_rfl) (by kernel_rfl) (by kernel_rfl) (fun _ _ _ h => h) (Or.inl ⟨by rfl, ?_⟩) (by assumption) ?_
            · intro wx hSw; go_simp
            try simp only [Act.put, List.setIfInBounds_toArray, List.set_cons_zero, List.set_cons_succ, List.getElem_toArray, List.getElem_cons_zero, List.getElem_cons_succ]
            refine wpAnyH_done (by kernel_rfl) ?_ _
            go_wp2
            go_ret
            exact ⟨by rw [allB_stop HALL.out hkn EG.out]; rfl, by repeat (first | exact BR | refine bthen ?_ (by assumption) | apply Below.drew)⟩
    · have : k = n := by omega
      subst this
      go_wp2
      go_ret
      exact ⟨by rw [hall]; rfl, by repeat (first | exact BR | refine bthen ?_ (by assumption) | apply Below.drew)⟩
end Go.Proofs.Ytjllgmkficjiaaa
namespace Go.Proofs.Ytjllgmkficjiaaa
open Go.RowKit Go.Deep
set_option linter.unusedVariables false
theorem keep_down {W wr wf : World} {m : Nat} {ob : Obj} (h : (∀ b o, b < m → wr.cell? ⟨b, o, none⟩ = W.cell? ⟨b, o, none⟩) ∧ m ≤ wr.heap.size)
    (h2 : (∀ b o, b < wr.heap.size + 1 → wf.cell? ⟨b, o, none⟩ = (wr.alloc ob).cell? ⟨b, o, none⟩) ∧ wr.heap.size + 1 ≤ wf.heap.size) :
    (∀ b o, b < m → wf.cell? ⟨b, o, none⟩ = W.cell? ⟨b, o, none⟩) ∧ m ≤ wf.heap.size :=
  ⟨fun b o hb => by rw [h2.1 b o (by have := h.2; omega), World.cell?_alloc_lt _ _ _ (by have := h.2; simp; omega)]; exact h.1 b o hb, by have := h.2; have := h2.2; omega⟩
set_option maxHeartbeats 8000000 in
theorem listOk_impl (c d : Int) (b o n cap : Nat) (Z : Nat → Nat → Int) (hn : n ≤ 1048576) (w : World) (hb : b < w.heap.size)
    (hr : ∀ k j, k < n → j < 5 → w.cell? ⟨b, o + k * 5 + j, none⟩ = some (.int .i64 (Z k j))) :
    Calls Try.prog 17 #[.agg #[.int .i64 c, .int .i64 d], .slice (some ⟨b, o, none⟩) n cap] w fun e w' => e = .returned (.bool (allB c d Z n)) ∧ Below w.heap.size w w' := by
  have HR : Hid (∀ k j, k < n → j < 5 → w.cell? ⟨b, o + k * 5 + j, none⟩ = some (.int .i64 (Z k j))) := hr
  clear hr
  go_enter Try.func17, Try.ntmps17
  go_wp2
  go_loopw [9] (fun i wr => ∃ k : Nat, k ≤ n ∧ i = .int .i64 k ∧ allB c d Z k = true ∧ ((∀ b o, b < w.heap.size + 1 → wr.cell? ⟨b, o, none⟩ = (w.alloc (.cells #[.int .i64 c, .int .i64 d] 24)).cell? ⟨b, o, none⟩) ∧ w.heap.size + 1 ≤ wr.heap.size) ∧ Below w.heap.size w wr) (fun i _ => n - (intOf i).toNat)
  case atStart => exact ⟨0, Nat.zero_le _, rfl, rfl, ⟨fun _ _ _ => rfl, by simp⟩, (Below.refl _ _).alloc (by simp) _⟩
  case round =>
    obtain ⟨k, hk, rfl, hall, HS, BR⟩ := hrel
    by_cases hkn : k < n
    · have c0 : w.cell? ⟨b, o + k * 5, none⟩ = some (.int .i64 (Z k 0)) := HR.out k 0 hkn (by omega)
      have c1 : w.cell? ⟨b, o + k * 5 + 1, none⟩ = some (.int .i64 (Z k 1)) := HR.out k 1 hkn (by omega)
      have c2 : w.cell? ⟨b, o + k * 5 + 2, none⟩ = some (.int .i64 (Z k 2)) := HR.out k 2 hkn (by omega)
      have c3 : w.cell? ⟨b, o + k * 5 + 3, none⟩ = some (.int .i64 (Z k 3)) := HR.out k 3 hkn (by omega)
      have c4 : w.cell? ⟨b, o + k * 5 + 4, none⟩ = some (.int .i64 (Z k 4)) := HR.out k 4 hkn (by omega)
      have cp : w.cell? ⟨b, o + (k - 1) * 5, none⟩ = some (.int .i64 (Z (k - 1) 0)) := HR.out (k - 1) 0 (by omega) (by omega)
      have hb1 : b < w.heap.size + 1 := by omega
      have HALL : Hid (allB c d Z k = true) := hall
      clear hall
      have hmw : w.heap.size < wr.heap.size := HS.2
      have hbwr : b < wr.heap.size := by omega
      replace c0 := (BR.cell (p := ⟨b, o + k * 5, none⟩) hb).trans c0
      replace c1 := (BR.cell (p := ⟨b, o + k * 5 + 1, none⟩) hb).trans c1
      replace c2 := (BR.cell (p := ⟨b, o + k * 5 + 2, none⟩) hb).trans c2
      replace c3 := (BR.cell (p := ⟨b, o + k * 5 + 3, none⟩) hb).trans c3
      replace c4 := (BR.cell (p := ⟨b, o + k * 5 + 4, none⟩) hb).trans c4
      replace cp := (BR.cell (p := ⟨b, o + (k - 1) * 5, none⟩) hb).trans cp
      have m0 : wr.cell? ⟨w.heap.size, 0, none⟩ = some (.int .i64 c) := (HS.1 w.heap.size 0 (by omega)).trans (by simp)
      have m1 : wr.cell? ⟨w.heap.size, 1, none⟩ = some (.int .i64 d) := (HS.1 w.heap.size 1 (by omega)).trans (by simp)
      have BR1 : Below w.heap.size w (wr.alloc (.cells #[.int .i64 (Z k 0), .int .i64 (Z k 1), .int .i64 (Z k 2), .int .i64 (Z k 3), .int .i64 (Z k 4)] 46)) := BR.alloc (Nat.le_of_lt hmw) _
      have HSH : Hid (((∀ b o, b < w.heap.size + 1 → wr.cell? ⟨b, o, none⟩ = (w.alloc (.cells #[.int .i64 c, .int .i64 d] 24)).cell? ⟨b, o, none⟩) ∧ w.heap.size + 1 ≤ wr.heap.size)) := HS
      clear HS BR
      cases hok : wlkB c d (Z k 0) (Z k 1) (Z k 2) (Z k 3) (Z k 4)
      · have EG : Hid (goodB c d Z k = false) := by show goodB c d Z k = _; unfold goodB wkB; rw [hok]; rfl
        go_wp2
        refine wp_region_held_drew (S := fun w' => (∀ b o, b < wr.heap.size + 1 → w'.cell? ⟨b, o, none⟩ = (wr.alloc (.cells #[.int .i64 (Z k 0), .int .i64 (Z k 1), .int .i64 (Z k 2), .int .i64 (Z k 3), .int .i64 (Z k 4)] 46)).cell? ⟨b, o, none⟩) ∧ wr.heap.size + 1 ≤ w'.heap.size) (by kernel_rfl) ⟨fun _ _ _ => rfl, by simp⟩ ?_
        intro hHeld
        refine wpAnyH_take (i := 0) (v := .agg #[.int .i64 c, .int .i64 d]) rfl (by kernel_rfl) (by kernel_rfl) (by kernel_rfl) (fun _ _ _ h => h) (Or.inl ⟨by rfl, ?_⟩) (by assumption) ?_
        · intro wx hSw; go_simp
        try simp only [Act.put, List.setIfInBounds_toArray, List.set_cons_zero, List.set_cons_succ, List.getElem_toArray, List.getElem_cons_zero]
        refine wpAnyH_take (i := 1) (v := .agg #[.int .i64 (Z k 0), .int .i64 (Z k 1), .int .i64 (Z k 2), .int .i64 (Z k 3), .int .i64 (Z k 4)]) rfl (by kernel_rfl) (by kernel_rfl) (by kernel_rfl) (fun _ _ _ h => h) (Or.inl ⟨by rfl, ?_⟩) (by assumption) ?_
        · intro wx hSw; go_simp
        try simp only [Act.put, List.setIfInBounds_toArray, List.set_cons_zero, List.set_cons_succ, List.getElem_toArray, List.getElem_cons_zero, List.getElem_cons_succ]
        refine wpAnyH_ready (rs := [2]) (by kernel_rfl) (by simp) ?_
        refine AllReadyH.cons rfl (fun K hK => ?_) AllReadyH.nil
        go_simp
        go_wp2_with (go_at_call 32; refine (wlkOk_impl _ _ _ _ _ _ _ _).mono ?_; rintro e w2 ⟨rfl, hbw2⟩)
        refine hK.out _ _ (keepS (by assumption) hbw2) (fun hHeld => ?_)
        clear hK K
        try simp only [Act.put, List.setIfInBounds_toArray, List.set_cons_zero, List.set_cons_succ, List.getElem_toArray, List.getElem_cons_zero, List.getElem_cons_succ]
        refine wpAnyH_take (i := 3) (v := .bool true) rfl (by kernel_rfl) (by kernel_rfl) (by kernel_rfl) (fun _ _ _ h => h) (Or.inl ⟨by rfl, ?_⟩) (by assumption) ?_
        · intro wx hSw; go_simp
        try simp only [Act.put, List.setIfInBounds_toArray, List.set_cons_zero, List.set_cons_succ, List.getElem_toArray, List.getElem_cons_zero, List.getElem_cons_succ]
        refine wpAnyH_take (i := 4) (v := .bool true) rfl (by kernel_rfl) (by kernel_rfl) (by kernel_rfl) (fun _ _ _ h => h) (Or.inl ⟨by rfl, ?_⟩) (by assumption) ?_
        · intro wx hSw; go_simp
        try simp only [Act.put, List.setIfInBounds_toArray, List.set_cons_zero, List.set_cons_succ, List.getElem_toArray, List.getElem_cons_zero, List.getElem_cons_succ]
        refine wpAnyH_take (i := 5) (v := undef) rfl (by kernel_rfl) (by kernel_rfl) (by kernel_rfl) (fun _ _ _ h => h) (Or.inr ⟨by rfl, rfl⟩) (by assumption) ?_
        try simp only [Act.put, List.setIfInBounds_toArray, List.set_cons_zero, List.set_cons_succ, List.getElem_toArray, List.getElem_cons_zero, List.getElem_cons_succ]
        refine wpAnyH_take (i := 6) (v := undef) rfl (by kernel_rfl) (by kernel_rfl) (by kernel_rfl) (fun _ _ _ h => h) (Or.inr ⟨by rfl, rfl⟩) (by assumption) ?_
        try simp only [Act.put, List.setIfInBounds_toArray, List.set_cons_zero, List.set_cons_succ, List.getElem_toArray, List.getElem_cons_zero, List.getElem_cons_succ]
        refine wpAnyH_take (i := 7) (v := undef) rfl (by kernel_rfl) (by kernel_rfl) (by kernel_rfl) (fun _ _ _ h => h) (Or.inr ⟨by rfl, rfl⟩) (by assumption) ?_
        try simp only [Act.put, List.setIfInBounds_toArray, List.set_cons_zero, List.set_cons_succ, List.getElem_toArray, List.getElem_cons_zero, List.getElem_cons_succ]
        refine wpAnyH_take (i := 8) (v := undef) rfl (by kernel_rfl) (by kernel_rfl) (by kernel_rfl) (fun _ _ _ h => h) (Or.inr ⟨by rfl, rfl⟩) (by assumption) ?_
        try simp only [Act.put, List.setIfInBounds_toArray, List.set_cons_zero, List.set_cons_succ, List.getElem_toArray, List.getElem_cons_zero, List.getElem_cons_succ]
        refine wpAnyH_take (i := 9) (v := undef) rfl (by kernel_rfl) (by kernel_rfl) (by kernel_rfl) (fun _ _ _ h => h) (Or.inr ⟨by rfl, rfl⟩) (by assumption) ?_
        try simp only [Act.put, List.setIfInBounds_toArray, List.set_cons_zero, List.set_cons_succ, List.getElem_toArray, List.getElem_cons_zero, List.getElem_cons_succ]
        refine wpAnyH_take (i := 10) (v := undef) rfl (by kernel_rfl) (by kernel_rfl) (by kernel_rfl) (fun _ _ _ h => h) (Or.inr ⟨by rfl, rfl⟩) (by assumption) ?_
        try simp only [Act.put, List.setIfInBounds_toArray, List.set_cons_zero, List.set_cons_succ, List.getElem_toArray, List.getElem_cons_zero, List.getElem_cons_succ]
        refine wpAnyH_take (i := 11) (v := undef) rfl (by kernel_rfl) (by kernel_rfl) (by kernel_rfl) (fun _ _ _ h => h) (Or.inr ⟨by rfl, rfl⟩) (by assumption) ?_
        try simp only [Act.put, List.setIfInBounds_toArray, List.set_cons_zero, List.set_cons_succ, List.getElem_toArray, List.getElem_cons_zero, List.getElem_cons_succ]
        refine wpAnyH_take (i := 12) (v := undef) rfl (by kernel_rfl) (by kernel_rfl) (by kernel_rfl) (fun _ _ _ h => h) (Or.inr ⟨by rfl, rfl⟩) (by assumption) ?_
        try simp only [Act.put, List.setIfInBounds_toArray, List.set_cons_zero, List.set_cons_succ, List.getElem_toArray, List.getElem_cons_zero, List.getElem_cons_succ]
        refine wpAnyH_take (i := 13) (v := undef) rfl (by kernel_rfl) (by kernel_rfl) (by kernel_rfl) (fun _ _ _ h => h) (Or.inr ⟨by rfl, rfl⟩) (by assumption) ?_
        try simp only [Act.put, List.setIfInBounds_toArray, List.set_cons_zero, List.set_cons_succ, List.getElem_toArray, List.getElem_cons_zero, List.getElem_cons_succ]
        refine wpAnyH_take (i := 14) (v := undef) rfl (by kernel_rfl) (by kernel_rfl) (by kernel_rfl) (fun _ _ _ h => h) (Or.inr ⟨by rfl, rfl⟩) (by assumption) ?_
        try simp only [Act.put, List.setIfInBounds_toArray, List.set_cons_zero, List.set_cons_succ, List.getElem_toArray, List.getElem_cons_zero, List.getElem_cons_succ]
        refine wpAnyH_take (i := 15) (v := undef) rfl (by kernel_rfl) (by kernel_rfl) (by kernel_rfl) (fun _ _ _ h => h) (Or.inr ⟨by rfl, rfl⟩) (by assumption) ?_
        try simp only [Act.put, List.setIfInBounds_toArray, List.set_cons_zero, List.set_cons_succ, List.getElem_toArray, List.getElem_cons_zero, List.getElem_cons_succ]
        refine wpAnyH_take (i := 16) (v := undef) rfl (by kernel_rfl) (by kernel_rfl) (by kernel_rfl) (fun _ _ _ h => h) (Or.inr ⟨by rfl, rfl⟩) (by assumption) ?_
        try simp only [Act.put, List.setIfInBounds_toArray, List.set_cons_zero, List.set_cons_succ, List.getElem_toArray, List.getElem_cons_zero, List.getElem_cons_succ]
        refine wpAnyH_take (i := 17) (v := undef) rfl (by kernel_rfl) (by kernel_rfl) (by kernel_rfl) (fun _ _ _ h => h) (Or.inr ⟨by rfl, rfl⟩) (by assumption) ?_
        try simp only [Act.put, List.setIfInBounds_toArray, List.set_cons_zero, List.set_cons_succ, List.getElem_toArray, List.getElem_cons_zero, List.getElem_cons_succ]
        refine wpAnyH_take (i := 18) (v := .bool true) rfl (by kernel_rfl) (by kernel_rfl) (by kernel_rfl) (fun _ _ _ h => h) (Or.inl ⟨by rfl, ?_⟩) (by assumption) ?_
        · intro wx hSw; go_simp
        try simp only [Act.put, List.setIfInBounds_toArray, List.set_cons_zero, List.set_cons_succ, List.getElem_toArray, List.getElem_cons_zero, List.getElem_cons_succ]
        refine wpAnyH_done (by kernel_rfl) ?_ _
        go_wp2
        go_ret
        exact ⟨by rw [allB_stop HALL.out hkn EG.out]; rfl, by repeat (first | exact BR1 | refine bthen ?_ (by assumption) | apply Below.drew)⟩
      · by_cases hk0 : k = 0
        · have EG : Hid (goodB c d Z k = true) := by show goodB c d Z k = _; unfold goodB wkB; rw [hok]; simp [hk0]
          have hkf : ¬ 0 < k := by omega
          clear hk0
          go_wp2
          refine wp_region_held_drew (S := fun w' => (∀ b o, b < wr.heap.size + 1 → w'.cell? ⟨b, o, none⟩ = (wr.alloc (.cells #[.int .i64 (Z k 0), .int .i64 (Z k 1), .int .i64 (Z k 2), .int .i64 (Z k 3), .int .i64 (Z k 4)] 46)).cell? ⟨b, o, none⟩) ∧ wr.heap.size + 1 ≤ w'.heap.size) (by kernel_rfl) ⟨fun _ _ _ => rfl, by simp⟩ ?_
          intro hHeld
          refine wpAnyH_take (i := 0) (v := .agg #[.int .i64 c, .int .i64 d]) rfl (by kernel_rfl) (by kernel_rfl) (by kernel_rfl) (fun _ _ _ h => h) (Or.inl ⟨by rfl, ?_⟩) (by assumption) ?_
          · intro wx hSw; go_simp
          try simp only [Act.put, List.setIfInBounds_toArray, List.set_cons_zero, List.set_cons_succ, List.getElem_toArray, List.getElem_cons_zero]
          refine wpAnyH_take (i := 1) (v := .agg #[.int .i64 (Z k 0), .int .i64 (Z k 1), .int .i64 (Z k 2), .int .i64 (Z k 3), .int .i64 (Z k 4)]) rfl (by kernel_rfl) (by kernel_rfl) (by kernel_rfl) (fun _ _ _ h => h) (Or.inl ⟨by rfl, ?_⟩) (by assumption) ?_
          · intro wx hSw; go_simp
          try simp only [Act.put, List.setIfInBounds_toArray, List.set_cons_zero, List.set_cons_succ, List.getElem_toArray, List.getElem_cons_zero, List.getElem_cons_succ]
          refine wpAnyH_ready (rs := [2]) (by kernel_rfl) (by simp) ?_
          refine AllReadyH.cons rfl (fun K hK => ?_) AllReadyH.nil
          go_simp
          go_wp2_with (go_at_call 32; refine (wlkOk_impl _ _ _ _ _ _ _ _).mono ?_; rintro e w2 ⟨rfl, hbw2⟩)
          refine hK.out _ _ (keepS (by assumption) hbw2) (fun hHeld => ?_)
          clear hK K
          try simp only [Act.put, List.setIfInBounds_toArray, List.set_cons_zero, List.set_cons_succ, List.getElem_toArray, List.getElem_cons_zero, List.getElem_cons_succ]
          refine wpAnyH_take (i := 3) (v := .bool false) rfl (by kernel_rfl) (by kernel_rfl) (by kernel_rfl) (fun _ _ _ h => h) (Or.inl ⟨by rfl, ?_⟩) (by assumption) ?_
          · intro wx hSw; go_simp
          try simp only [Act.put, List.setIfInBounds_toArray, List.set_cons_zero, List.set_cons_succ, List.getElem_toArray, List.getElem_cons_zero, List.getElem_cons_succ]
          refine wpAnyH_take (i := 4) (v := .bool false) rfl (by kernel_rfl) (by kernel_rfl) (by kernel_rfl) (fun _ _ _ h => h) (Or.inl ⟨by rfl, ?_⟩) (by assumption) ?_
          · intro wx hSw; go_simp
          try simp only [Act.put, List.setIfInBounds_toArray, List.set_cons_zero, List.set_cons_succ, List.getElem_toArray, List.getElem_cons_zero, List.getElem_cons_succ]
          refine wpAnyH_take (i := 5) (v := .int .i64 (k : Int)) rfl (by kernel_rfl) (by kernel_rfl) (by kernel_rfl) (fun _ _ _ h => h) (Or.inl ⟨by rfl, ?_⟩) (by assumption) ?_
          · intro wx hSw; go_simp
          try simp only [Act.put, List.setIfInBounds_toArray, List.set_cons_zero, List.set_cons_succ, List.getElem_toArray, List.getElem_cons_zero, List.getElem_cons_succ]
          refine wpAnyH_take (i := 6) (v := .bool false) rfl (by kernel_rfl) (by kernel_rfl) (by kernel_rfl) (fun _ _ _ h => h) (Or.inl ⟨by rfl, ?_⟩) (by assumption) ?_
          · intro wx hSw; go_simp <;> omega
          try simp only [Act.put, List.setIfInBounds_toArray, List.set_cons_zero, List.set_cons_succ, List.getElem_toArray, List.getElem_cons_zero, List.getElem_cons_succ]
          refine wpAnyH_take (i := 7) (v := .bool false) rfl (by kernel_rfl) (by kernel_rfl) (by kernel_rfl) (fun _ _ _ h => h) (Or.inl ⟨by rfl, ?_⟩) (by assumption) ?_
          · intro wx hSw; go_simp
          try simp only [Act.put, List.setIfInBounds_toArray, List.set_cons_zero, List.set_cons_succ, List.getElem_toArray, List.getElem_cons_zero, List.getElem_cons_succ]
          refine wpAnyH_take (i := 8) (v := undef) rfl (by kernel_rfl) (by kernel_rfl) (by kernel_rfl) (fun _ _ _ h => h) (Or.inr ⟨by rfl, rfl⟩) (by assumption) ?_
          try simp only [Act.put, List.setIfInBounds_toArray, List.set_cons_zero, List.set_cons_succ, List.getElem_toArray, List.getElem_cons_zero, List.getElem_cons_succ]
          refine wpAnyH_take (i := 9) (v := undef) rfl (by kernel_rfl) (by kernel_rfl) (by kernel_rfl) (fun _ _ _ h => h) (Or.inr ⟨by rfl, rfl⟩) (by assumption) ?_
          try simp only [Act.put, List.setIfInBounds_toArray, List.set_cons_zero, List.set_cons_succ, List.getElem_toArray, List.getElem_cons_zero, List.getElem_cons_succ]
          refine wpAnyH_take (i := 10) (v := undef) rfl (by kernel_rfl) (by kernel_rfl) (by kernel_rfl) (fun _ _ _ h => h) (Or.inr ⟨by rfl, rfl⟩) (by assumption) ?_
          try simp only [Act.put, List.setIfInBounds_toArray, List.set_cons_zero, List.set_cons_succ, List.getElem_toArray, List.getElem_cons_zero, List.getElem_cons_succ]
          refine wpAnyH_take (i := 11) (v := undef) rfl (by kernel_rfl) (by kernel_rfl) (by kernel_rfl) (fun _ _ _ h => h) (Or.inr ⟨by rfl, rfl⟩) (by assumption) ?_
          try simp only [Act.put, List.setIfInBounds_toArray, List.set_cons_zero, List.set_cons_succ, List.getElem_toArray, List.getElem_cons_zero, List.getElem_cons_succ]
          refine wpAnyH_take (i := 12) (v := undef) rfl (by kernel_rfl) (by kernel_rfl) (by kernel_rfl) (fun _ _ _ h => h) (Or.inr ⟨by rfl, rfl⟩) (by assumption) ?_
          try simp only [Act.put, List.setIfInBounds_toArray, List.set_cons_zero, List.set_cons_succ, List.getElem_toArray, List.getElem_cons_zero, List.getElem_cons_succ]
          refine wpAnyH_take (i := 13) (v := undef) rfl (by kernel_rfl) (by kernel_rfl) (by kernel_rfl) (fun _ _ _ h => h) (Or.inr ⟨by rfl, rfl⟩) (by assumption) ?_
          try simp only [Act.put, List.setIfInBounds_toArray, List.set_cons_zero, List.set_cons_succ, List.getElem_toArray, List.getElem_cons_zero, List.getElem_cons_succ]
          refine wpAnyH_take (i := 14) (v := undef) rfl (by kernel_rfl) (by kernel_rfl) (by kernel_rfl) (fun _ _ _ h => h) (Or.inr ⟨by rfl, rfl⟩) (by assumption) ?_
          try simp only [Act.put, List.setIfInBounds_toArray, List.set_cons_zero, List.set_cons_succ, List.getElem_toArray, List.getElem_cons_zero, List.getElem_cons_succ]
          refine wpAnyH_take (i := 15) (v := undef) rfl (by kernel_rfl) (by kernel_rfl) (by kernel_rfl) (fun _ _ _ h => h) (Or.inr ⟨by rfl, rfl⟩) (by assumption) ?_
          try simp only [Act.put, List.setIfInBounds_toArray, List.set_cons_zero, List.set_cons_succ, List.getElem_toArray, List.getElem_cons_zero, List.getElem_cons_succ]
          refine wpAnyH_take (i := 16) (v := undef) rfl (by kernel_rfl) (by kernel_rfl) (by kernel_rfl) (fun _ _ _ h => h) (Or.inr ⟨by rfl, rfl⟩) (by assumption) ?_
          try simp only [Act.put, List.setIfInBounds_toArray, List.set_cons_zero, List.set_cons_succ, List.getElem_toArray, List.getElem_cons_zero, List.getElem_cons_succ]
          refine wpAnyH_take (i := 17) (v := .bool false) rfl (by kernel_rfl) (by kernel_rfl) (by kernel_rfl) (fun _ _ _ h => h) (Or.inl ⟨by rfl, ?_⟩) (by assumption) ?_
          · intro wx hSw; go_simp
          try simp only [Act.put, List.setIfInBounds_toArray, List.set_cons_zero, List.set_cons_succ, List.getElem_toArray, List.getElem_cons_zero, List.getElem_cons_succ]
          refine wpAnyH_take (i := 18) (v := .bool false) rfl (by kernel_rfl) (by kernel_rfl) (by kernel_rfl) (fun _ _ _ h => h) (Or.inl ⟨by rfl, ?_⟩) (by assumption) ?_
          · intro wx hSw; go_simp
          try simp only [Act.put, List.setIfInBounds_toArray, List.set_cons_zero, List.set_cons_succ, List.getElem_toArray, List.getElem_cons_zero, List.getElem_cons_succ]
          refine wpAnyH_done (by kernel_rfl) ?_ _
          go_wp2
          go_roundw
          case rel => exact ⟨k + 1, by omega, by go_num, allB_step HALL.out EG.out, keep_down HSH.out (by assumption), by repeat (first | exact BR1 | refine bthen ?_ (by assumption) | apply Below.drew)⟩
          case measure => simp [intOf]; omega
        · by_cases hlt : Z (k - 1) 0 < Z k 0
          · have EG : Hid (goodB c d Z k = true) := by show goodB c d Z k = _; unfold goodB wkB; rw [hok]; simp [hlt]
            go_wp2
            refine wp_region_held_drew (S := fun w' => (∀ b o, b < wr.heap.size + 1 → w'.cell? ⟨b, o, none⟩ = (wr.alloc (.cells #[.int .i64 (Z k 0), .int .i64 (Z k 1), .int .i64 (Z k 2), .int .i64 (Z k 3), .int .i64 (Z k 4)] 46)).cell? ⟨b, o, none⟩) ∧ wr.heap.size + 1 ≤ w'.heap.size) (by kernel_rfl) ⟨fun _ _ _ => rfl, by simp⟩ ?_
            intro hHeld
            refine wpAnyH_take (i := 0) (v := .agg #[.int .i64 c, .int .i64 d]) rfl (by kernel_rfl) (by kernel_rfl) (by kernel_rfl) (fun _ _ _ h => h) (Or.inl ⟨by rfl, ?_⟩) (by assumption) ?_
            · intro wx hSw; go_simp
            try simp only [Act.put, List.setIfInBounds_toArray, List.set_cons_zero, List.set_cons_succ, List.getElem_toArray, List.getElem_cons_zero]
            refine wpAnyH_take (i := 1) (v := .agg #[.int .i64 (Z k 0), .int .i64 (Z k 1), .int .i64 (Z k 2), .int .i64 (Z k 3), .int .i64 (Z k 4)]) rfl (by kernel_rfl) (by kernel_rfl) (by kernel_rfl) (fun _ _ _ h => h) (Or.inl ⟨by rfl, ?_⟩) (by assumption) ?_
            · intro wx hSw; go_simp
            try simp only [Act.put, List.setIfInBounds_toArray, List.set_cons_zero, List.set_cons_succ, List.getElem_toArray, List.getElem_cons_zero, List.getElem_cons_succ]
            refine wpAnyH_ready (rs := [2]) (by kernel_rfl) (by simp) ?_
            refine AllReadyH.cons rfl (fun K hK => ?_) AllReadyH.nil
            go_simp
            go_wp2_with (go_at_call 32; refine (wlkOk_impl _ _ _ _ _ _ _ _).mono ?_; rintro e w2 ⟨rfl, hbw2⟩)
            refine hK.out _ _ (keepS (by assumption) hbw2) (fun hHeld => ?_)
            clear hK K
            try simp only [Act.put, List.setIfInBounds_toArray, List.set_cons_zero, List.set_cons_succ, List.getElem_toArray, List.getElem_cons_zero, List.getElem_cons_succ]
            refine wpAnyH_take (i := 3) (v := .bool false) rfl (by kernel_rfl) (by kernel_rfl) (by kernel_rfl) (fun _ _ _ h => h) (Or.inl ⟨by rfl, ?_⟩) (by assumption) ?_
            · intro wx hSw; go_simp
            try simp only [Act.put, List.setIfInBounds_toArray, List.set_cons_zero, List.set_cons_succ, List.getElem_toArray, List.getElem_cons_zero, List.getElem_cons_succ]
            refine wpAnyH_take (i := 4) (v := .bool false) rfl (by kernel_rfl) (by kernel_rfl) (by kernel_rfl) (fun _ _ _ h => h) (Or.inl ⟨by rfl, ?_⟩) (by assumption) ?_
            · intro wx hSw; go_simp
            try simp only [Act.put, List.setIfInBounds_toArray, List.set_cons_zero, List.set_cons_succ, List.getElem_toArray, List.getElem_cons_zero, List.getElem_cons_succ]
            refine wpAnyH_take (i := 5) (v := .int .i64 (k : Int)) rfl (by kernel_rfl) (by kernel_rfl) (by kernel_rfl) (fun _ _ _ h => h) (Or.inl ⟨by rfl, ?_⟩) (by assumption) ?_
            · intro wx hSw; go_simp
            try simp only [Act.put, List.setIfInBounds_toArray, List.set_cons_zero, List.set_cons_succ, List.getElem_toArray, List.getElem_cons_zero, List.getElem_cons_succ]
            refine wpAnyH_take (i := 6) (v := .bool true) rfl (by kernel_rfl) (by kernel_rfl) (by kernel_rfl) (fun _ _ _ h => h) (Or.inl ⟨by rfl, ?_⟩) (by assumption) ?_
            · intro wx hSw; go_simp <;> omega
            try simp only [Act.put, List.setIfInBounds_toArray, List.set_cons_zero, List.set_cons_succ, List.getElem_toArray, List.getElem_cons_zero, List.getElem_cons_succ]
            refine wpAnyH_take (i := 7) (v := .bool true) rfl (by kernel_rfl) (by kernel_rfl) (by kernel_rfl) (fun _ _ _ h => h) (Or.inl ⟨by rfl, ?_⟩) (by assumption) ?_
            · intro wx hSw; go_simp
            try simp only [Act.put, List.setIfInBounds_toArray, List.set_cons_zero, List.set_cons_succ, List.getElem_toArray, List.getElem_cons_zero, List.getElem_cons_succ]
            refine wpAnyH_take (i := 8) (v := .slice (some ⟨b, o, none⟩) n cap) rfl (by kernel_rfl) (by kernel_rfl) (by kernel_rfl) (fun _ _ _ h => h) (Or.inl ⟨by rfl, ?_⟩) (by assumption) ?_
            · intro wx hSw; go_simp
            try simp only [Act.put, List.setIfInBounds_toArray, List.set_cons_zero, List.set_cons_succ, List.getElem_toArray, List.getElem_cons_zero, List.getElem_cons_succ]
            refine wpAnyH_take (i := 9) (v := .int .i64 (k : Int)) rfl (by kernel_rfl) (by kernel_rfl) (by kernel_rfl) (fun _ _ _ h => h) (Or.inl ⟨by rfl, ?_⟩) (by assumption) ?_
            · intro wx hSw; go_simp
            try simp only [Act.put, List.setIfInBounds_toArray, List.set_cons_zero, List.set_cons_succ, List.getElem_toArray, List.getElem_cons_zero, List.getElem_cons_succ]
            refine wpAnyH_take (i := 10) (v := .int .i64 ((k : Int) - 1)) rfl (by kernel_rfl) (by kernel_rfl) (by kernel_rfl) (fun _ _ _ h => h) (Or.inl ⟨by rfl, ?_⟩) (by assumption) ?_
            · intro wx hSw; go_simp; rw [IntKind.wrap_i64]; omega
            try simp only [Act.put, List.setIfInBounds_toArray, List.set_cons_zero, List.set_cons_succ, List.getElem_toArray, List.getElem_cons_zero, List.getElem_cons_succ]
            refine wpAnyH_take (i := 11) (v := .pointer (some ⟨b, o + (k - 1) * 5, none⟩)) rfl (by kernel_rfl) (by kernel_rfl) (by kernel_rfl) (fun _ _ _ h => h) (Or.inl ⟨by rfl, ?_⟩) (by assumption) ?_
            · intro wx hSw; go_simp; intro h; omega
            try simp only [Act.put, List.setIfInBounds_toArray, List.set_cons_zero, List.set_cons_succ, List.getElem_toArray, List.getElem_cons_zero, List.getElem_cons_succ]
            refine wpAnyH_take (i := 12) (v := .pointer (some ⟨b, o + (k - 1) * 5, none⟩)) rfl (by kernel_rfl) (by kernel_rfl) (by kernel_rfl) (fun _ _ _ h => h) (Or.inl ⟨by rfl, ?_⟩) (by assumption) ?_
            · intro wx hSw; go_simp
            try simp only [Act.put, List.setIfInBounds_toArray, List.set_cons_zero, List.set_cons_succ, List.getElem_toArray, List.getElem_cons_zero, List.getElem_cons_succ]
            refine wpAnyH_take (i := 13) (v := .int .i64 (Z (k - 1) 0)) rfl (by kernel_rfl) (by kernel_rfl) (by kernel_rfl) (fun _ _ _ h => h) (Or.inl ⟨by rfl, ?_⟩) (by assumption) ?_
            · intro wx hSw; go_simp
            try simp only [Act.put, List.setIfInBounds_toArray, List.set_cons_zero, List.set_cons_succ, List.getElem_toArray, List.getElem_cons_zero, List.getElem_cons_succ]
            refine wpAnyH_take (i := 14) (v := .pointer (some ⟨wr.heap.size, 0, none⟩)) rfl (by kernel_rfl) (by kernel_rfl) (by kernel_rfl) (fun _ _ _ h => h) (Or.inl ⟨by rfl, ?_⟩) (by assumption) ?_
            · intro wx hSw; go_simp
            try simp only [Act.put, List.setIfInBounds_toArray, List.set_cons_zero, List.set_cons_succ, List.getElem_toArray, List.getElem_cons_zero, List.getElem_cons_succ]
            refine wpAnyH_take (i := 15) (v := .int .i64 (Z k 0)) rfl (by kernel_rfl) (by kernel_rfl) (by kernel_rfl) (fun _ _ _ h => h) (Or.inl ⟨by rfl, ?_⟩) (by assumption) ?_
            · intro wx hSw; go_simp
            try simp only [Act.put, List.setIfInBounds_toArray, List.set_cons_zero, List.set_cons_succ, List.getElem_toArray, List.getElem_cons_zero, List.getElem_cons_succ]
            refine wpAnyH_take (i := 16) (v := .bool false) rfl (by kernel_rfl) (by kernel_rfl) (by kernel_rfl) (fun _ _ _ h => h) (Or.inl ⟨by rfl, ?_⟩) (by assumption) ?_
            · intro wx hSw; go_simp
            try simp only [Act.put, List.setIfInBounds_toArray, List.set_cons_zero, List.set_cons_succ, List.getElem_toArray, List.getElem_cons_zero, List.getElem_cons_succ]
            refine wpAnyH_take (i := 17) (v := .bool false) rfl (by kernel_rfl) (by kernel_rfl) (by kernel_rfl) (fun _ _ _ h => h) (Or.inl ⟨by rfl, ?_⟩) (by assumption) ?_
            · intro wx hSw; go_simp
            try simp only [Act.put, List.setIfInBounds_toArray, List.set_cons_zero, List.set_cons_succ, List.getElem_toArray, List.getElem_cons_zero, List.getElem_cons_succ]
            refine wpAnyH_take (i := 18) (v := .bool false) rfl (by kernel_rfl) (by kernel_rfl) (by kernel_rfl) (fun _ _ _ h => h) (Or.inl ⟨by rfl, ?_⟩) (by assumption) ?_
            · intro wx hSw; go_simp
            try simp only [Act.put, List.setIfInBounds_toArray, List.set_cons_zero, List.set_cons_succ, List.getElem_toArray, List.getElem_cons_zero, List.getElem_cons_succ]
            refine wpAnyH_done (by kernel_rfl) ?_ _
            go_wp2
            go_roundw
            case rel => exact ⟨k + 1, by omega, by go_num, allB_step HALL.out EG.out, keep_down HSH.out (by assumption), by repeat (first | exact BR1 | refine bthen ?_ (by assumption) | apply Below.drew)⟩
            case measure => simp [intOf]; omega
          · have EG : Hid (goodB c d Z k = false) := by show goodB c d Z k = _; unfold goodB wkB; rw [hok]; simp [hk0, hlt]
            go_wp2
            refine wp_region_held_drew (S := fun w' => (∀ b o, b < wr.heap.size + 1 → w'.cell? ⟨b, o, none⟩ = (wr.alloc (.cells #[.int .i64 (Z k 0), .int .i64 (Z k 1), .int .i64 (Z k 2), .int .i64 (Z k 3), .int .i64 (Z k 4)] 46)).cell? ⟨b, o, none⟩) ∧ wr.heap.size + 1 ≤ w'.heap.size) (by kernel_rfl) ⟨fun _ _ _ => rfl, by simp⟩ ?_
            intro hHeld
            refine wpAnyH_take (i := 0) (v := .agg #[.int .i64 c, .int .i64 d]) rfl (by kernel_rfl) (by kernel_rfl) (by kernel_rfl) (fun _ _ _ h => h) (Or.inl ⟨by rfl, ?_⟩) (by assumption) ?_
            · intro wx hSw; go_simp
            try simp only [Act.put, List.setIfInBounds_toArray, List.set_cons_zero, List.set_cons_succ, List.getElem_toArray, List.getElem_cons_zero]
            refine wpAnyH_take (i := 1) (v := .agg #[.int .i64 (Z k 0), .int .i64 (Z k 1), .int .i64 (Z k 2), .int .i64 (Z k 3), .int .i64 (Z k 4)]) rfl (by kernel_rfl) (by kernel_rfl) (by kernel_rfl) (fun _ _ _ h => h) (Or.inl ⟨by rfl, ?_⟩) (by assumption) ?_
            · intro wx hSw; go_simp
            try simp only [Act.put, List.setIfInBounds_toArray, List.set_cons_zero, List.set_cons_succ, List.getElem_toArray, List.getElem_cons_zero, List.getElem_cons_succ]
            refine wpAnyH_ready (rs := [2]) (by kernel_rfl) (by simp) ?_
            refine AllReadyH.cons rfl (fun K hK => ?_) AllReadyH.nil
            go_simp
            go_wp2_with (go_at_call 32; refine (wlkOk_impl _ _ _ _ _ _ _ _).mono ?_; rintro e w2 ⟨rfl, hbw2⟩)
            refine hK.out _ _ (keepS (by assumption) hbw2) (fun hHeld => ?_)
            clear hK K
            try simp only [Act.put, List.setIfInBounds_toArray, List.set_cons_zero, List.set_cons_succ, List.getElem_toArray, List.getElem_cons_zero, List.getElem_cons_succ]
            refine wpAnyH_take (i := 3) (v := .bool false) rfl (by kernel_rfl) (by kernel_rfl) (by kernel_rfl) (fun _ _ _ h => h) (Or.inl ⟨by rfl, ?_⟩) (by assumption) ?_
            · intro wx hSw; go_simp
            try simp only [Act.put, List.setIfInBounds_toArray, List.set_cons_zero, List.set_cons_succ, List.getElem_toArray, List.getElem_cons_zero, List.getElem_cons_succ]
            refine wpAnyH_take (i := 4) (v := .bool false) rfl (by kernel_rfl) (by kernel_rfl) (by kernel_rfl) (fun _ _ _ h => h) (Or.inl ⟨by rfl, ?_⟩) (by assumption) ?_
            · intro wx hSw; go_simp
            try simp only [Act.put, List.setIfInBounds_toArray, List.set_cons_zero, List.set_cons_succ, List.getElem_toArray, List.getElem_cons_zero, List.getElem_cons_succ]
            refine wpAnyH_take (i := 5) (v := .int .i64 (k : Int)) rfl (by kernel_rfl) (by kernel_rfl) (by kernel_rfl) (fun _ _ _ h => h) (Or.inl ⟨by rfl, ?_⟩) (by assumption) ?_
            · intro wx hSw; go_simp
            try simp only [Act.put, List.setIfInBounds_toArray, List.set_cons_zero, List.set_cons_succ, List.getElem_toArray, List.getElem_cons_zero, List.getElem_cons_succ]
            refine wpAnyH_take (i := 6) (v := .bool true) rfl (by kernel_rfl) (by kernel_rfl) (by kernel_rfl) (fun _ _ _ h => h) (Or.inl ⟨by rfl, ?_⟩) (by assumption) ?_
            · intro wx hSw; go_simp <;> omega
            try simp only [Act.put, List.setIfInBounds_toArray, List.set_cons_zero, List.set_cons_succ, List.getElem_toArray, List.getElem_cons_zero, List.getElem_cons_succ]
            refine wpAnyH_take (i := 7) (v := .bool true) rfl (by kernel_rfl) (by kernel_rfl) (by kernel_rfl) (fun _ _ _ h => h) (Or.inl ⟨by rfl, ?_⟩) (by assumption) ?_
            · intro wx hSw; go_simp
            try simp only [Act.put, List.setIfInBounds_toArray, List.set_cons_zero, List.set_cons_succ, List.getElem_toArray, List.getElem_cons_zero, List.getElem_cons_succ]
            refine wpAnyH_take (i := 8) (v := .slice (some ⟨b, o, none⟩) n cap) rfl (by kernel_rfl) (by kernel_rfl) (by kernel_rfl) (fun _ _ _ h => h) (Or.inl ⟨by rfl, ?_⟩) (by assumption) ?_
            · intro wx hSw; go_simp
            try simp only [Act.put, List.setIfInBounds_toArray, List.set_cons_zero, List.set_cons_succ, List.getElem_toArray, List.getElem_cons_zero, List.getElem_cons_succ]
            refine wpAnyH_take (i := 9) (v := .int .i64 (k : Int)) rfl (by kernel_rfl) (by kernel_rfl) (by kernel_rfl) (fun _ _ _ h => h) (Or.inl ⟨by rfl, ?_⟩) (by assumption) ?_
            · intro wx hSw; go_simp
            try simp only [Act.put, List.setIfInBounds_toArray, List.set_cons_zero, List.set_cons_succ, List.getElem_toArray, List.getElem_cons_zero, List.getElem_cons_succ]
            refine wpAnyH_take (i := 10) (v := .int .i64 ((k : Int) - 1)) rfl (by kernel_rfl) (by kernel_rfl) (by kernel_rfl) (fun _ _ _ h => h) (Or.inl ⟨by rfl, ?_⟩) (by assumption) ?_
            · intro wx hSw; go_simp; rw [IntKind.wrap_i64]; omega
            try simp only [Act.put, List.setIfInBounds_toArray, List.set_cons_zero, List.set_cons_succ, List.getElem_toArray, List.getElem_cons_zero, List.getElem_cons_succ]
            refine wpAnyH_take (i := 11) (v := .pointer (some ⟨b, o + (k - 1) * 5, none⟩)) rfl (by kernel_rfl) (by kernel_rfl) (by kernel_rfl) (fun _ _ _ h => h) (Or.inl ⟨by rfl, ?_⟩) (by assumption) ?_
            · intro wx hSw; go_simp; intro h; omega
            try simp only [Act.put, List.setIfInBounds_toArray, List.set_cons_zero, List.set_cons_succ, List.getElem_toArray, List.getElem_cons_zero, List.getElem_cons_succ]
            refine wpAnyH_take (i := 12) (v := .pointer (some ⟨b, o + (k - 1) * 5, none⟩)) rfl (by kernel_rfl) (by kernel_rfl) (by kernel_rfl) (fun _ _ _ h => h) (Or.inl ⟨by rfl, ?_⟩) (by assumption) ?_
            · intro wx hSw; go_simp
            try simp only [Act.put, List.setIfInBounds_toArray, List.set_cons_zero, List.set_cons_succ, List.getElem_toArray, List.getElem_cons_zero, List.getElem_cons_succ]
            refine wpAnyH_take (i := 13) (v := .int .i64 (Z (k - 1) 0)) rfl (by kernel_rfl) (by kernel_rfl) (by kernel_rfl) (fun _ _ _ h => h) (Or.inl ⟨by rfl, ?_⟩) (by assumption) ?_
            · intro wx hSw; go_simp
            try simp only [Act.put, List.setIfInBounds_toArray, List.set_cons_zero, List.set_cons_succ, List.getElem_toArray, List.getElem_cons_zero, List.getElem_cons_succ]
            refine wpAnyH_take (i := 14) (v := .pointer (some ⟨wr.heap.size, 0, none⟩)) rfl (by kernel_rfl) (by kernel_rfl) (by kernel_rfl) (fun _ _ _ h => h) (Or.inl ⟨by rfl, ?_⟩) (by assumption) ?_
            · intro wx hSw; go_simp
            try simp only [Act.put, List.setIfInBounds_toArray, List.set_cons_zero, List.set_cons_succ, List.getElem_toArray, List.getElem_cons_zero, List.getElem_cons_succ]
            refine wpAnyH_take (i := 15) (v := .int .i64 (Z k 0)) rfl (by kernel_rfl) (by kernel_rfl) (by kernel_rfl) (fun _ _ _ h => h) (Or.inl ⟨by rfl, ?_⟩) (by assumption) ?_
            · intro wx hSw; go_simp
            try simp only [Act.put, List.setIfInBounds_toArray, List.set_cons_zero, List.set_cons_succ, List.getElem_toArray, List.getElem_cons_zero, List.getElem_cons_succ]
            refine wpAnyH_take (i := 16) (v := .bool true) rfl (by kernel_rfl) (by kernel_rfl) (by kernel_rfl) (fun _ _ _ h => h) (Or.inl ⟨by rfl, ?_⟩) (by assumption) ?_
            · intro wx hSw; go_simp
            try simp only [Act.put, List.setIfInBounds_toArray, List.set_cons_zero, List.set_cons_succ, List.getElem_toArray, List.getElem_cons_zero, List.getElem_cons_succ]
            refine wpAnyH_take (i := 17) (v := .bool true) rfl (by kernel_rfl) (by kernel_rfl) (by kernel_rfl) (fun _ _ _ h => h) (Or.inl ⟨by rfl, ?_⟩) (by assumption) ?_
            · intro wx hSw; go_simp
            try simp only [Act.put, List.setIfInBounds_toArray, List.set_cons_zero, List.set_cons_succ, List.getElem_toArray, List.getElem_cons_zero, List.getElem_cons_succ]
            refine wpAnyH_take (i := 18) (v := .bool true) rfl (by kernel_rfl) (by kernel_rfl) (by kernel_rfl) (fun _ _ _ h => h) (Or.inl ⟨by rfl, ?_⟩) (by assumption) ?_
            · intro wx hSw; go_simp
            try simp only [Act.put, List.setIfInBounds_toArray, List.set_cons_zero, List.set_cons_succ, List.getElem_toArray, List.getElem_cons_zero, List.getElem_cons_succ]
            refine wpAnyH_done (by kernel_rfl) ?_ _
            go_wp2
            go_ret
            exact ⟨by rw [allB_stop HALL.out hkn EG.out]; rfl, by repeat (first | exact BR1 | refine bthen ?_ (by assumption) | apply Below.drew)⟩
    · have : k = n := by omega
      subst this
      go_wp2
      go_ret
      exact ⟨by rw [hall]; rfl, by repeat (first | exact BR | refine bthen ?_ (by assumption) | apply Below.drew)⟩
end Go.Proofs.Ytjllgmkficjiaaa
namespace Go.Proofs.Ytjllgmkficjiaaa.P8
open Go.RowKit Go.Deep
set_option linter.unusedVariables false
end Go.Proofs.Ytjllgmkficjiaaa.P8
namespace Go.Proofs.Ytjllgmkficjiaaa.P8
open Go.RowKit Go.Deep
set_option linter.unusedVariables false
end Go.Proofs.Ytjllgmkficjiaaa.P8
namespace Go.Proofs.Ytjllgmkficjiaaa
open Go.RowKit
set_option linter.unusedVariables false
def stepF (s : Int) : Int := if s = 0 then -1 else if s = 1 then 1 else 0
def hasB (c d k : Int) : Bool := okB c d && inB k 0 (c - 1)
def sideF (c d k s : Int) : Int := if hasB c d k = true ∧ ¬ stepF s = 0 ∧ hasB c d (k + stepF s) = true then k + stepF s else -1
theorem step_impl (s : Int) (w : World) :
    Calls Try.prog 39 #[.int .i64 s] w fun e w' => e = .returned (.int .i64 (stepF s)) ∧ w' = w := by
  by_cases h0 : s = 0
  · subst h0
    go_enter Try.func39, Try.ntmps39
    go_wp2
    go_ret
    exact ⟨rfl, rfl⟩
  · by_cases h1 : s = 1
    · subst h1
      go_enter Try.func39, Try.ntmps39
      go_wp2
      go_ret
      exact ⟨rfl, rfl⟩
    · have e0 : (s == 0) = false := by simpa using h0
      have e1 : (s == 1) = false := by simpa using h1
      go_enter Try.func39, Try.ntmps39
      go_wp2
      go_ret
      exact ⟨by simp [stepF, h0, h1], rfl⟩
theorem has_impl (c d k : Int) (w : World) :
    Calls Try.prog 16 #[.agg #[.int .i64 c, .int .i64 d], .int .i64 k] w fun e w' => e = .returned (.bool (hasB c d k)) ∧ Below w.heap.size w w' := by
  cases h : okB c d
  · go_enter Try.func16, Try.ntmps16
    go_wp2_with fail
    refine (ok_impl _ _ _).mono ?_
    rintro e w1 ⟨rfl, hb1⟩
    go_wp2
    go_ret
    exact ⟨by simp [hasB, h], bthen ((Below.refl _ _).alloc (by simp) _) hb1⟩
  · obtain ⟨a1, a2, a3, a4⟩ := okB_bounds h
    go_enter Try.func16, Try.ntmps16
    go_wp2_with fail
    refine (ok_impl _ _ _).mono ?_
    rintro e w1 ⟨rfl, hb1⟩
    obtain ⟨hc1, hf1⟩ := bcell hb1
    go_wp2_with (go_at_call 27; refine (in_impl _ _ _ _).mono ?_; rintro e w' ⟨rfl, rfl⟩)
    go_ret
    exact ⟨by simp [hasB, h], bthen ((Below.refl _ _).alloc (by simp) _) hb1⟩
theorem hasB_bounds {c d k : Int} (h : hasB c d k = true) : 2 ≤ c ∧ c ≤ 4 ∧ 2 ≤ d ∧ d ≤ 8 ∧ 0 ≤ k ∧ k ≤ c - 1 := by
  simp only [hasB, Bool.and_eq_true, inB_true] at h
  have := okB_bounds h.1; omega
theorem stepF_cases (s : Int) : stepF s = -1 ∨ stepF s = 1 ∨ stepF s = 0 := by
  unfold stepF; split
  · simp
  · split <;> simp
theorem beside_impl (c d k s : Int) (w : World) :
    Calls Try.prog 35 #[.int .i64 s, .agg #[.int .i64 c, .int .i64 d], .int .i64 k] w fun e w' => e = .returned (.int .i64 (sideF c d k s)) ∧ Below w.heap.size w w' := by
  by_cases hs : stepF s = 0
  · go_enter Try.func35, Try.ntmps35
    go_wp2_with fail
    refine (step_impl _ _).mono ?_
    rintro e w1 ⟨rfl, rfl⟩
    go_wp2
    go_ret
    exact ⟨by simp [sideF, hs], (Below.refl _ _).alloc (by simp) _⟩
  · have hs0 : (stepF s == 0) = false := by simpa using hs
    cases h : hasB c d k
    · go_enter Try.func35, Try.ntmps35
      go_wp2_with fail
      refine (step_impl _ _).mono ?_
      rintro e w1 ⟨rfl, rfl⟩
      go_wp2_with fail
      refine (has_impl _ _ _ _).mono ?_
      rintro e w2 ⟨rfl, hb2⟩
      go_wp2
      go_ret
      exact ⟨by simp [sideF, h], bthen ((Below.refl _ _).alloc (by simp) _) hb2⟩
    · obtain ⟨a1, a2, a3, a4, a5, a6⟩ := hasB_bounds h
      have s1 : -1 ≤ stepF s := by have := stepF_cases s; omega
      have s2 : stepF s ≤ 1 := by have := stepF_cases s; omega
      cases h2 : hasB c d (k + stepF s)
      all_goals
        go_enter Try.func35, Try.ntmps35
        go_wp2_with fail
        refine (step_impl _ _).mono ?_
        rintro e w1 ⟨rfl, rfl⟩
        go_wp2_with fail
        refine (has_impl _ _ _ _).mono ?_
        rintro e w2 ⟨rfl, hb2⟩
        obtain ⟨hc2, hf2⟩ := bcell hb2
        go_wp2_with fail
        refine (has_impl _ _ _ _).mono ?_
        rintro e w3 ⟨rfl, hb3⟩
        go_wp2
        go_ret
        exact ⟨by simp [sideF, h, h2, hs], bthen (bthen ((Below.refl _ _).alloc (by simp) _) hb2) hb3⟩
theorem hasB_false {c d k : Int} (h : okB c d = true) : hasB c d k = false ↔ (k < 0 ∨ c - 1 < k) := by
  simp [hasB, h, inB_false]
theorem hasB_true {c d k : Int} (h : okB c d = true) : hasB c d k = true ↔ (0 ≤ k ∧ k ≤ c - 1) := by
  simp [hasB, h, inB_true]
theorem side_left {c d k : Int} (h : hasB c d k = true) : sideF c d k 0 = if 0 < k then k - 1 else -1 := by
  obtain ⟨a1, a2, a3, a4, a5, a6⟩ := hasB_bounds h
  have ho : okB c d = true := by simp only [hasB, Bool.and_eq_true] at h; exact h.1
  have e : stepF 0 = -1 := rfl
  unfold sideF
  rw [e]
  by_cases g : 0 < k
  · rw [if_pos g, if_pos ⟨h, by decide, (hasB_true ho).2 (by omega)⟩]; omega
  · rw [if_neg g, if_neg]
    rintro ⟨_, _, h3⟩
    have := (hasB_true ho).1 h3; omega
theorem side_right {c d k : Int} (h : hasB c d k = true) : sideF c d k 1 = if k < c - 1 then k + 1 else -1 := by
  obtain ⟨a1, a2, a3, a4, a5, a6⟩ := hasB_bounds h
  have ho : okB c d = true := by simp only [hasB, Bool.and_eq_true] at h; exact h.1
  have e : stepF 1 = 1 := rfl
  unfold sideF
  rw [e]
  by_cases g : k < c - 1
  · rw [if_pos g, if_pos ⟨h, by decide, (hasB_true ho).2 (by omega)⟩]
  · rw [if_neg g, if_neg]
    rintro ⟨_, _, h3⟩
    have := (hasB_true ho).1 h3; omega
theorem side_else {c d k s : Int} (h0 : ¬ s = 0) (h1 : ¬ s = 1) : sideF c d k s = -1 := by
  have e : stepF s = 0 := by simp [stepF, h0, h1]
  simp [sideF, e]
end Go.Proofs.Ytjllgmkficjiaaa
namespace Go.Proofs.Ytjllgmkficjiaaa
open Go.RowKit Go.Deep
set_option linter.unusedVariables false
end Go.Proofs.Ytjllgmkficjiaaa
namespace Go.Proofs.Ytjllgmkficjiaaa
open Go.RowKit Go.Deep
set_option linter.unusedVariables false
end Go.Proofs.Ytjllgmkficjiaaa
namespace Go.Proofs.Ytjllgmkficjiaaa
open Go.RowKit Go.Deep
set_option linter.unusedVariables false
theorem six_box2 (w : World) (cs : Array Value) (t0 t : TypeId) (v0 v1 v2 v3 v4 v5 : Value) : Six ((w.alloc (.cells cs t0)).alloc (.cells #[v0, v1, v2, v3, v4, v5] t)) (w.heap.size + 1) [v0, v1, v2, v3, v4, v5] := by
  have h := six_new (w.alloc (.cells cs t0)) t v0 v1 v2 v3 v4 v5
  rw [show (w.alloc (.cells cs t0)).heap.size = w.heap.size + 1 by simp] at h
  exact h
theorem two_box (w : World) (c d : Int) (o : Obj) : ((w.alloc (.cells #[.int .i64 c, .int .i64 d] 24)).alloc o).cell? ⟨w.heap.size, 0, none⟩ = some (.int .i64 c) ∧ ((w.alloc (.cells #[.int .i64 c, .int .i64 d] 24)).alloc o).cell? ⟨w.heap.size, 1, none⟩ = some (.int .i64 d) := by
  have k : Below (w.heap.size + 1) (w.alloc (.cells #[.int .i64 c, .int .i64 d] 24)) ((w.alloc (.cells #[.int .i64 c, .int .i64 d] 24)).alloc o) := (Below.refl _ _).alloc (by simp) _
  exact ⟨(k.cell (p := ⟨w.heap.size, 0, none⟩) (Nat.lt_succ_self _)).trans (by simp), (k.cell (p := ⟨w.heap.size, 1, none⟩) (Nat.lt_succ_self _)).trans (by simp)⟩
end Go.Proofs.Ytjllgmkficjiaaa
namespace Go.Proofs.Ytjllgmkficjiaaa
open Go.RowKit Go.Deep
set_option linter.unusedVariables false
end Go.Proofs.Ytjllgmkficjiaaa
namespace Go.Proofs.Ytjllgmkficjiaaa
open Go.RowKit Go.Deep
set_option linter.unusedVariables false
end Go.Proofs.Ytjllgmkficjiaaa
namespace Go.Proofs.Ytjllgmkficjiaaa
open Go
set_option linter.unusedVariables false
section
variable {P : Program} {ops : Array Oper} {Q : Exit → Act → World → Prop}
/-- L with i come up. -/
def mark1 (L : Nat → Bool) (i : Nat) : Nat → Bool := fun j => if j = i then true else L j
theorem mark1_ne (L : Nat → Bool) {i j : Nat} (h : j ≠ i) : mark1 L i j = L j := by simp [mark1, h]
theorem mark1_true {L : Nat → Bool} {i j : Nat} (h : L j = true) : mark1 L i j = true := by unfold mark1; split <;> simp_all
theorem keepL {L : Nat → Bool} {i j : Nat} {p : Prop} (hne : j ≠ i) (h : L j = true → p) : mark1 L i j = true → p := fun e => h (by rwa [mark1_ne L hne] at e)
/-- All that o waits for has come up. -/
def Dep (o : Oper) (L : Nat → Bool) : Prop := ∀ e ∈ o.after, Region.binds .any e = true → L e.on = true
/-- Each operation, whenever it comes up, leads from the invariant to the invariant. -/
def StepAll (P : Program) (ops : Array Oper) (Q : Exit → Act → World → Prop) (Inv : (Nat → Bool) → Act → World → Prop) : List Oper → Nat → Prop
  | [], _ => True
  | o :: r, i => (∀ (L : Nat → Bool) (a : Act) (w : World) (K' : Act → World → Prop), Dep o L → L i = false → Inv L a w → Shut (∀ a' w', Inv (mark1 L i) a' w' → K' a' w') →
      if Region.wanted o (yielded ops a.tmps) = true then Oper.wp P o a w K' Q else K' (a.put o.dst undef) w) ∧ StepAll P ops Q Inv r (i + 1)
theorem StepAll.at {Inv : (Nat → Bool) → Act → World → Prop} : ∀ {l : List Oper} {k : Nat}, StepAll P ops Q Inv l k → ∀ {i : Nat} {o : Oper}, l[i]? = some o →
    ∀ (L : Nat → Bool) (a : Act) (w : World) (K' : Act → World → Prop), Dep o L → L (k + i) = false → Inv L a w → Shut (∀ a' w', Inv (mark1 L (k + i)) a' w' → K' a' w') →
      if Region.wanted o (yielded ops a.tmps) = true then Oper.wp P o a w K' Q else K' (a.put o.dst undef) w
  | [], _, _, i, o, h => by simp at h
  | x :: r, k, hs, 0, o, h => by
    simp at h
    subst h
    exact hs.1
  | x :: r, k, hs, i + 1, o, h => by
    have := StepAll.at hs.2 (i := i) (o := o) (by simpa using h)
    rw [show k + 1 + i = k + (i + 1) by omega] at this
    exact this
theorem set_getD (l : Array Bool) (i j : Nat) (hi : i < l.size) : (l.setIfInBounds i true).getD j false = mark1 (fun k => l.getD k false) i j := by
  unfold mark1
  by_cases h : j = i
  · subst h
    simp [Array.getD, hi]
  · rw [if_neg h]
    simp only [Array.getD_eq_getD_getElem?, Array.getElem?_setIfInBounds]
    rw [if_neg (fun e => h e.symm)]
theorem wpAny_inv (Inv : (Nat → Bool) → Act → World → Prop) (hord : ∀ (i : Nat) (o : Oper), ops[i]? = some o → ∀ e ∈ o.after, e.on < i) (hstep : StepAll P ops Q Inv ops.toList 0)
    (hdone : ∀ L a w, (∀ i, i < ops.size → L i = true) → Inv L a w → Q .normal a w) :
    ∀ (fuel : Nat) (listed : Array Bool) (a : Act) (w : World), listed.size = ops.size → (listed.toList.filter (fun b => !b)).length ≤ fuel → Inv (fun k => listed.getD k false) a w → wpAny P .any ops Q fuel listed a w := by
  have hall : ∀ listed : Array Bool, listed.size = ops.size → Region.ready .any ops listed = [] → ∀ i, i < ops.size → listed.getD i false = true := by
    intro listed hsz hr i
    induction i using Nat.strongRecOn with
    | ind i ih =>
      intro hi
      cases hc : listed.getD i false with
      | true => rfl
      | false =>
        exfalso
        have hmem : i ∈ Region.ready .any ops listed := by
          unfold Region.ready
          rw [List.mem_filter]
          refine ⟨List.mem_range.2 hi, ?_⟩
          have h1 : listed.getD i true = false := by
            have hl : i < listed.size := by omega
            simp [Array.getD, hl] at hc ⊢
            exact hc
          rw [h1, Array.getElem?_eq_getElem hi]
          simp only [Bool.not_false, Bool.true_and, Option.map_some, Option.getD_some]
          rw [Array.all_eq_true_iff_forall_mem]
          intro e he
          have hlt := hord i ops[i] (Array.getElem?_eq_getElem hi) e he
          rw [ih e.on hlt (by omega)]
          simp
        rw [hr] at hmem
        cases hmem
  intro fuel
  induction fuel with
  | zero =>
    intro listed a w hsz hf hI
    have hno : ∀ i, i < ops.size → listed.getD i false = true := by
      intro i hi
      have hl : i < listed.size := by omega
      cases hc : listed[i] with
      | true => simp [Array.getD, hl, hc]
      | false =>
        exfalso
        have : listed[i] ∈ listed.toList.filter (fun b => !b) := List.mem_filter.2 ⟨by simp, by rw [hc]; rfl⟩
        rw [List.eq_nil_of_length_eq_zero (by omega : (listed.toList.filter (fun b => !b)).length = 0)] at this
        cases this
    refine ⟨?_, hdone _ a w hno hI⟩
    unfold Region.ready
    rw [List.filter_eq_nil_iff]
    intro i hi
    have hi' := List.mem_range.1 hi
    have h1 : listed.getD i true = true := by
      have hl : i < listed.size := by omega
      have := hno i hi'
      simp [Array.getD, hl] at this ⊢
      exact this
    rw [h1]
    simp
  | succ fuel ih =>
    intro listed a w hsz hf hI
    refine ⟨fun hr => hdone _ a w (hall listed hsz hr) hI, fun i hi => ?_⟩
    unfold Region.ready at hi
    obtain ⟨h1, h2⟩ := List.mem_filter.1 hi
    have hi' := List.mem_range.1 h1
    have hl : i < listed.size := by omega
    rw [Array.getElem?_eq_getElem hi'] at h2
    simp only [Option.map_some, Option.getD_some, Bool.and_eq_true, Bool.not_eq_true'] at h2
    obtain ⟨hun, hdep⟩ := h2
    have hun' : listed[i] = false := by simpa [Array.getD, hl] using hun
    have hfalse : listed.getD i false = false := by simp [Array.getD, hl, hun']
    have hd : Dep ops[i] (fun k => listed.getD k false) := by
      intro e he hb
      rw [Array.all_eq_true_iff_forall_mem] at hdep
      have := hdep e he
      rw [hb] at this
      simpa using this
    have ho : ops[i]? = some ops[i] := Array.getElem?_eq_getElem hi'
    refine wpOp_step ho (fun K' hK => ?_)
    have hstp := hstep.at (i := i) (o := ops[i]) (by simp [hi']) (fun k => listed.getD k false) a w K' hd (by simpa using hfalse) hI
    refine hstp (fun a' w' hI' => hK a' w' (ih _ a' w' (by simpa using hsz) ?_ ?_))
    · have : (listed.toList.set i true).filter (fun b => !b) = (listed.toList.filter (fun b => !b)).eraseIdx ((listed.toList.take i).filter (fun b => !b)).length := by
        have hlt : i < listed.toList.length := by simpa using hl
        have e1 : listed.toList = listed.toList.take i ++ false :: listed.toList.drop (i + 1) := by
          have e2 := List.drop_eq_getElem_cons hlt
          rw [show listed.toList[i] = false by simpa using hun'] at e2
          rw [← e2, List.take_append_drop]
        have hlen : (listed.toList.take i).length = i := by simp; omega
        rw [e1]
        rw [List.set_append_right _ _ (by rw [hlen]; exact Nat.le_refl _), hlen, Nat.sub_self, List.set_cons_zero]
        simp only [List.filter_append, List.filter_cons]
        rw [show List.take i (List.take i listed.toList ++ false :: List.drop (i + 1) listed.toList) = List.take i listed.toList from List.take_left' hlen]
        simp [List.eraseIdx_append_of_length_le]
      have hle : ((listed.setIfInBounds i true).toList.filter (fun b => !b)).length + 1 ≤ (listed.toList.filter (fun b => !b)).length := by
        rw [Array.toList_setIfInBounds, this]
        have hpos : ((listed.toList.take i).filter (fun b => !b)).length < (listed.toList.filter (fun b => !b)).length := by
          have hlt : i < listed.toList.length := by simpa using hl
          have e2 := List.drop_eq_getElem_cons hlt
          rw [show listed.toList[i] = false by simpa using hun'] at e2
          have e1 : listed.toList = listed.toList.take i ++ false :: listed.toList.drop (i + 1) := by rw [← e2, List.take_append_drop]
          have e3 : listed.toList.filter (fun b => !b) = (listed.toList.take i).filter (fun b => !b) ++ (false :: listed.toList.drop (i + 1)).filter (fun b => !b) := by
            rw [← List.filter_append, ← e1]
          rw [e3, List.length_append]
          simp
        rw [List.length_eraseIdx_of_lt hpos]
        omega
      omega
    · have e : (fun k => (listed.setIfInBounds i true).getD k false) = mark1 (fun k => listed.getD k false) (0 + i) := by
        funext k
        rw [Nat.zero_add]
        exact set_getD listed i k hl
      rw [e]
      exact hI'
/-- A region that draws its order, by an invariant. -/
theorem wp_region_inv {id : Nat} {a : Act} {w : World} (hm : P.follows .mixedOrders = true) (hord : (ops.toList.zipIdx.all fun x => x.1.after.all fun e => decide (e.on < x.2)) = true)
    (Inv : (Nat → Bool) → Act → World → Prop) (h0 : Inv (fun _ => false) a w.drew) (hstep : StepAll P ops Q Inv ops.toList 0)
    (hdone : ∀ L a w, (∀ i, i < ops.size → L i = true) → Inv L a w → Q .normal a w) : (Code.region id ops true).wp P Q a w := by
  have hord' : ∀ (i : Nat) (o : Oper), ops[i]? = some o → ∀ e ∈ o.after, e.on < i := by
    intro i o ho e he
    have h1 := List.all_eq_true.1 hord (o, i) (by
      rw [List.mem_zipIdx_iff_getElem?]
      simpa using ho)
    have h2 := Array.all_eq_true_iff_forall_mem.1 h1 e he
    simpa using h2
  refine wp_region_any hm (wpAny_inv Inv hord' hstep hdone ops.size _ a _ (by simp) ?_ ?_)
  · simp
  · have : (fun k => (Array.replicate ops.size false).getD k false) = fun _ => false := by
      funext k
      simp only [Array.getD_eq_getD_getElem?, Array.getElem?_replicate]
      split <;> rfl
    rw [this]
    exact h0
end
end Go.Proofs.Ytjllgmkficjiaaa
namespace Go.Proofs.Ytjllgmkficjiaaa
open Go.RowKit Go.Deep
set_option linter.unusedVariables false
/-- The block that a value leads to. -/
def blk : Value → Option Nat
  | .slice (some a) _ _ => some a.block
  | .pointer (some a) => some a.block
  | _ => none
def In1 (lo : Nat) (w : World) (u : Value) : Prop := ∀ b, blk u = some b → lo ≤ b ∧ b < w.heap.size
def Ap (u v : Value) : Prop := ∀ b c, blk u = some b → blk v = some c → ¬ b = c
theorem in_undef {lo : Nat} {w : World} : In1 lo w undef := fun b h => by cases h
theorem ap_undef : Ap undef undef := fun b c h _ => by cases h
theorem In1.up {lo : Nat} {w w' : World} {u : Value} (h : In1 lo w u) (hs : w.heap.size ≤ w'.heap.size) : In1 lo w' u := fun b e => ⟨(h b e).1, Nat.lt_of_lt_of_le (h b e).2 hs⟩
theorem new_in {lo : Nat} {w : World} {u : Value} {o : Obj} (e : blk u = some w.heap.size) (h : lo ≤ w.heap.size) : In1 lo (w.alloc o) u := fun b hb => by
  rw [e] at hb; cases hb; exact ⟨h, by simp⟩
theorem ap_new_l {lo : Nat} {w : World} {u v : Value} (e : blk u = some w.heap.size) (h : In1 lo w v) : Ap u v := fun b c hb hc => by
  rw [e] at hb; cases hb; have := (h c hc).2; omega
theorem ap_new_r {lo : Nat} {w : World} {u v : Value} (e : blk v = some w.heap.size) (h : In1 lo w u) : Ap u v := fun b c hb hc => by
  rw [e] at hc; cases hc; have := (h b hb).2; omega
theorem own1_zero (w : World) : Own1 (w.alloc (.cells (madeCells #[.int .i64 0] (2 * 1)) 3)) w.heap.size 2 (fun _ => 0) 2 := by
  refine ⟨fun i hi => ?_, fun j hj => ?_⟩
  · have : i = 0 ∨ i = 1 := by omega
    rcases this with rfl | rfl <;> exact ⟨by simp [madeCells], by simp⟩
  · have : j = 0 ∨ j = 1 := by omega
    rcases this with rfl | rfl <;> simp [madeCells]
theorem nils_zero (w : World) : (w.alloc (.cells (madeCells #[.slice none 0 0] (2 * 1)) 51)).cell? ⟨w.heap.size, 0, none⟩ = some (.slice none 0 0) ∧ (w.alloc (.cells (madeCells #[.slice none 0 0] (2 * 1)) 51)).cell? ⟨w.heap.size, 1, none⟩ = some (.slice none 0 0) := ⟨by simp [madeCells], by simp [madeCells]⟩
/-- Six cells written. -/
def put6 (w : World) (g : Nat) (v0 v1 v2 v3 v4 v5 : Value) : World := (((((w.setCell ⟨g, 0, none⟩ v0).setCell ⟨g, 1, none⟩ v1).setCell ⟨g, 2, none⟩ v2).setCell ⟨g, 3, none⟩ v3).setCell ⟨g, 4, none⟩ v4).setCell ⟨g, 5, none⟩ v5
theorem six_put {w : World} {g : Nat} {l : List Value} (h : Six w g l) (v0 v1 v2 v3 v4 v5 : Value) : Six (put6 w g v0 v1 v2 v3 v4 v5) g [v0, v1, v2, v3, v4, v5] := by
  have e : put6 w g v0 v1 v2 v3 v4 v5 = w.setCells g 0 [v0, v1, v2, v3, v4, v5] := rfl
  have q := World.cell?_setCells_in g [v0, v1, v2, v3, v4, v5] 0 w (fun j hj => by
    have := (h j (by simpa using hj)).1
    rw [Nat.zero_add, this]; rfl)
  intro i hi
  rw [e, World.frozen?_setCells]
  refine ⟨?_, (h i hi).2⟩
  have := q i (by simpa using hi)
  rw [Nat.zero_add] at this
  rw [this]
  have : i = 0 ∨ i = 1 ∨ i = 2 ∨ i = 3 ∨ i = 4 ∨ i = 5 := by omega
  rcases this with rfl | rfl | rfl | rfl | rfl | rfl <;> rfl
theorem below_put6 {n : Nat} {a w : World} (h : Below n a w) {g : Nat} (hg : n ≤ g) (v0 v1 v2 v3 v4 v5 : Value) : Below n a (put6 w g v0 v1 v2 v3 v4 v5) :=
  (((((h.setCell (p := ⟨g, 0, none⟩) hg _).setCell (p := ⟨g, 1, none⟩) hg _).setCell (p := ⟨g, 2, none⟩) hg _).setCell (p := ⟨g, 3, none⟩) hg _).setCell (p := ⟨g, 4, none⟩) hg _).setCell (p := ⟨g, 5, none⟩) hg _
theorem size_put6 (w : World) (g : Nat) (v0 v1 v2 v3 v4 v5 : Value) : (put6 w g v0 v1 v2 v3 v4 v5).heap.size = w.heap.size := by simp [put6, World.setCell]
theorem sm_put6 {w : World} {g b : Nat} (h : ¬ g = b) (v0 v1 v2 v3 v4 v5 : Value) : Sm w (put6 w g v0 v1 v2 v3 v4 v5) b := by
  intro o
  unfold put6
  refine ⟨?_, ?_⟩
  · rw [set_out (fun e => h e.1), set_out (fun e => h e.1), set_out (fun e => h e.1), set_out (fun e => h e.1), set_out (fun e => h e.1), set_out (fun e => h e.1)]
  · rw [set_frozen, set_frozen, set_frozen, set_frozen, set_frozen, set_frozen]
/-- The places of those in a cell. -/
def inL (c d cell : Int) (Z : Nat → Nat → Int) (n : Nat) : List Nat := (List.range n).filter (fun k => cellF c d (Z k 1) == cell)
def newV (c d cell : Int) (Z : Nat → Nat → Int) (n : Nat) : CV :=
  if (hasB c d cell && allB c d Z n) = true then ⟨cell, (inL c d cell Z n).length, fun k j => Z (inL c d cell Z n)[k]! j, 0, 2, fun _ => 0, fun _ _ _ => 0, 2, fun _ => 0, 2, fun _ => 0⟩
  else ⟨0, 0, fun _ _ => 0, 0, 0, fun _ => 0, fun _ _ _ => 0, 0, fun _ => 0, 0, fun _ => 0⟩
theorem nothing_own (lo hi : Nat) (w : World) : OwnC lo hi w (.agg #[.int .i64 0, .slice none 0 0, .int .i64 0, .slice none 0 0, .slice none 0 0, .slice none 0 0]) ⟨0, 0, fun _ _ => 0, 0, 0, fun _ => 0, fun _ _ _ => 0, 0, fun _ => 0, 0, fun _ => 0⟩ :=
  ⟨_, _, _, _, 0, 1, 2, 3, fun _ => undef, fun _ => 0, rfl, .inl ⟨rfl, none, 0, rfl⟩, .inl ⟨rfl, none, 0, rfl⟩, .inl ⟨rfl, none, 0, rfl⟩, .inl ⟨rfl, none, 0, rfl⟩, ⟨by decide, by decide, by decide, by decide, by decide, by decide⟩, fun _ h => absurd h (Nat.not_lt_zero _), fun _ _ h => absurd h (Nat.not_lt_zero _)⟩
theorem own_shape {w : World} {base e m n : Nat} {v : Value} {xs : List Value} (h : w.ownsRow base e m v n xs) : ∃ a l c, v = .slice a l c := by
  rcases h.2 with ⟨e, _⟩ | ⟨g, cap, cur, hv, _⟩
  · exact ⟨_, _, _, e⟩
  · exact ⟨_, _, _, hv⟩
theorem inL_len (c d cell : Int) (Z : Nat → Nat → Int) (k : Nat) : (inL c d cell Z k).length ≤ k := by
  have := (List.filter_sublist (p := fun k => cellF c d (Z k 1) == cell) (l := List.range k)).length_le
  rw [List.length_range] at this
  exact this
theorem inL_no {c d cell : Int} {Z : Nat → Nat → Int} {k : Nat} (h : (cellF c d (Z k 1) == cell) = false) : inL c d cell Z (k + 1) = inL c d cell Z k := by
  unfold inL
  rw [List.range_succ, List.filter_append]
  simp [h]
theorem inL_yes {c d cell : Int} {Z : Nat → Nat → Int} {k : Nat} (h : (cellF c d (Z k 1) == cell) = true) : inL c d cell Z (k + 1) = inL c d cell Z k ++ [k] := by
  unfold inL
  rw [List.range_succ, List.filter_append]
  simp [h]
theorem rw_ofL {w : World} {base lo : Nat} {v : Value} {L : List Nat} {Z : Nat → Nat → Int} (h : w.ownsRow base 46 5 v L.length (L.flatMap (five5 Z))) (hlo : lo ≤ base) : ∃ g, base ≤ g ∧ RW lo w.heap.size w v L.length (fun k j => Z L[k]! j) g := by
  rcases h.2 with ⟨e, hl⟩ | ⟨g, cap, cur, hv, _⟩
  · exact ⟨base, Nat.le_refl _, .inl ⟨hl, none, 0, e⟩⟩
  · have ho : w.ownsRow base 46 5 (.slice (some ⟨g, 0, none⟩) L.length cap) L.length (L.flatMap (five5 Z)) := by rw [← hv]; exact h
    refine ⟨g, (ho.lt g rfl).1, .inr ⟨cap, hv, Nat.le_trans hlo (ho.lt g rfl).1, (ho.lt g rfl).2, Nat.le_refl _, fun i hi => ⟨?_, ho.frozenAt i⟩, fun k j hk hj => ?_⟩⟩
    · rw [ho.cellAt i hi]
      have : i < (L.flatMap (five5 Z)).length := by rw [ho.1]; exact hi
      rw [List.getElem?_eq_getElem this]
      rfl
    · rw [ho.cellAt (k * 5 + j) (by omega), P8.get_flat (m := 5) (five5 Z) (fun _ => rfl) L k j hk hj]
      match j, hj with
      | 0, _ => rfl
      | 1, _ => rfl
      | 2, _ => rfl
      | 3, _ => rfl
      | 4, _ => rfl
set_option maxRecDepth 20000 in
set_option maxHeartbeats 4000000 in
theorem new_impl (c d cell : Int) (b n cap : Nat) (Z : Nat → Nat → Int) (hn : n ≤ 1048576) (w : World) (hb : b < w.heap.size) (hr : ∀ k j, k < n → j < 5 → w.cell? ⟨b, 0 + k * 5 + j, none⟩ = some (.int .i64 (Z k j))) :
    Calls Try.prog 5 #[.agg #[.int .i64 c, .int .i64 d], .int .i64 cell, .slice (some ⟨b, 0, none⟩) n cap] w fun e w' => (∃ v, e = .returned v ∧ OwnC w.heap.size w'.heap.size w' v (newV c d cell Z n)) ∧ Below w.heap.size w w' := by
  have HR : Hid (∀ k j, k < n → j < 5 → w.cell? ⟨b, 0 + k * 5 + j, none⟩ = some (.int .i64 (Z k j))) := hr
  clear hr
  obtain ⟨i5, hi5, hzz⟩ := Option.map_eq_some_iff.1 Try.info46
  simp only [Prod.mk.injEq] at hzz
  obtain ⟨hz50, hz51, hz52⟩ := hzz
  cases h1 : hasB c d cell
  · skip
    have E : Hid (newV c d cell Z n = ⟨0, 0, fun _ _ => 0, 0, 0, fun _ => 0, fun _ _ _ => 0, 0, fun _ => 0, 0, fun _ => 0⟩) := by show newV c d cell Z n = _; unfold newV; rw [h1]; rfl
    go_enter Try.func5, Try.ntmps5
    go_wp2_with fail
    obtain ⟨w0, e0⟩ : ∃ w0, w0 = (w.alloc (.cells #[.int .i64 c, .int .i64 d] 24)).alloc (.cells #[.int .i64 0, .slice none 0 0, .int .i64 0, .slice none 0 0, .slice none 0 0, .slice none 0 0] 31) := ⟨_, rfl⟩
    have z0 : w.heap.size + 2 ≤ w0.heap.size := by rw [e0]; simp
    have B0 : Hid (Below w.heap.size w w0) := by rw [e0]; exact ((Below.refl _ _).alloc (by simp) _).alloc (by simp) _
    have M0 : Hid (w0.cell? ⟨w.heap.size, 0, none⟩ = some (.int .i64 c) ∧ w0.cell? ⟨w.heap.size, 1, none⟩ = some (.int .i64 d)) := by rw [e0]; exact two_box w c d _
    have R0 : Hid (Six w0 (w.heap.size + 1) [.int .i64 0, .slice none 0 0, .int .i64 0, .slice none 0 0, .slice none 0 0, .slice none 0 0]) := by rw [e0]; exact six_box2 w _ 24 31 _ _ _ _ _ _
    rw [← e0]
    clear e0
    refine (has_impl _ _ _ _).mono ?_
    rintro e w1 ⟨rfl, hb1⟩
    rw [h1]
    have B1 : Hid (Below w.heap.size w w1) := bthen B0.out hb1
    have M1' : Hid (w1.cell? ⟨w.heap.size, 0, none⟩ = some (.int .i64 c) ∧ w1.cell? ⟨w.heap.size, 1, none⟩ = some (.int .i64 d)) := ⟨(hb1.cell (p := ⟨w.heap.size, 0, none⟩) (by show w.heap.size < _; omega)).trans M0.out.1, (hb1.cell (p := ⟨w.heap.size, 1, none⟩) (by show w.heap.size < _; omega)).trans M0.out.2⟩
    have R1 : Hid (Six w1 (w.heap.size + 1) [.int .i64 0, .slice none 0 0, .int .i64 0, .slice none 0 0, .slice none 0 0, .slice none 0 0]) := R0.out.below (by omega) hb1
    have z1 : w.heap.size + 2 ≤ w1.heap.size := Nat.le_trans z0 hb1.size
    clear hb1 B0 M0 R0
    have r0 := (R1.out 0 (by decide)).1
    have q0 := (R1.out 0 (by decide)).2
    have r1 := (R1.out 1 (by decide)).1
    have q1 := (R1.out 1 (by decide)).2
    have r2 := (R1.out 2 (by decide)).1
    have q2 := (R1.out 2 (by decide)).2
    have r3 := (R1.out 3 (by decide)).1
    have q3 := (R1.out 3 (by decide)).2
    have r4 := (R1.out 4 (by decide)).1
    have q4 := (R1.out 4 (by decide)).2
    have r5 := (R1.out 5 (by decide)).1
    have q5 := (R1.out 5 (by decide)).2
    simp only [List.getD, List.getElem?_cons_zero, List.getElem?_cons_succ, Option.getD_some] at r0 r1 r2 r3 r4 r5
    have lr : w.heap.size + 1 < w1.heap.size := by omega
    go_wp2
    refine bodyPost_ret (v := .agg #[.int .i64 0, .slice none 0 0, .int .i64 0, .slice none 0 0, .slice none 0 0, .slice none 0 0]) (by simp [results, Try.results5, go_sem, r0, r1, r2, r3, r4, r5]) rfl ?_
    exact ⟨⟨_, rfl, by rw [E.out]; exact nothing_own _ _ _⟩, below_put6 B1.out (Nat.le_succ w.heap.size) _ _ _ _ _ _⟩
  cases h2 : allB c d Z n
  · skip
    have E : Hid (newV c d cell Z n = ⟨0, 0, fun _ _ => 0, 0, 0, fun _ => 0, fun _ _ _ => 0, 0, fun _ => 0, 0, fun _ => 0⟩) := by show newV c d cell Z n = _; unfold newV; rw [h1, h2]; rfl
    go_enter Try.func5, Try.ntmps5
    go_wp2_with fail
    obtain ⟨w0, e0⟩ : ∃ w0, w0 = (w.alloc (.cells #[.int .i64 c, .int .i64 d] 24)).alloc (.cells #[.int .i64 0, .slice none 0 0, .int .i64 0, .slice none 0 0, .slice none 0 0, .slice none 0 0] 31) := ⟨_, rfl⟩
    have z0 : w.heap.size + 2 ≤ w0.heap.size := by rw [e0]; simp
    have B0 : Hid (Below w.heap.size w w0) := by rw [e0]; exact ((Below.refl _ _).alloc (by simp) _).alloc (by simp) _
    have M0 : Hid (w0.cell? ⟨w.heap.size, 0, none⟩ = some (.int .i64 c) ∧ w0.cell? ⟨w.heap.size, 1, none⟩ = some (.int .i64 d)) := by rw [e0]; exact two_box w c d _
    have R0 : Hid (Six w0 (w.heap.size + 1) [.int .i64 0, .slice none 0 0, .int .i64 0, .slice none 0 0, .slice none 0 0, .slice none 0 0]) := by rw [e0]; exact six_box2 w _ 24 31 _ _ _ _ _ _
    rw [← e0]
    clear e0
    refine (has_impl _ _ _ _).mono ?_
    rintro e w1 ⟨rfl, hb1⟩
    rw [h1]
    have B1 : Hid (Below w.heap.size w w1) := bthen B0.out hb1
    have M1' : Hid (w1.cell? ⟨w.heap.size, 0, none⟩ = some (.int .i64 c) ∧ w1.cell? ⟨w.heap.size, 1, none⟩ = some (.int .i64 d)) := ⟨(hb1.cell (p := ⟨w.heap.size, 0, none⟩) (by show w.heap.size < _; omega)).trans M0.out.1, (hb1.cell (p := ⟨w.heap.size, 1, none⟩) (by show w.heap.size < _; omega)).trans M0.out.2⟩
    have R1 : Hid (Six w1 (w.heap.size + 1) [.int .i64 0, .slice none 0 0, .int .i64 0, .slice none 0 0, .slice none 0 0, .slice none 0 0]) := R0.out.below (by omega) hb1
    have z1 : w.heap.size + 2 ≤ w1.heap.size := Nat.le_trans z0 hb1.size
    clear hb1 B0 M0 R0
    have m0 : w1.cell? ⟨w.heap.size, 0, none⟩ = some (.int .i64 c) := M1'.out.1
    have m1 : w1.cell? ⟨w.heap.size, 1, none⟩ = some (.int .i64 d) := M1'.out.2
    have lM : w.heap.size < w1.heap.size := by omega
    go_wp2_with fail
    refine (listOk_impl c d b 0 n cap Z hn _ (by omega) (fun k j a1 a2 => (B1.out.cell (p := ⟨b, _, none⟩) hb).trans (HR.out k j a1 a2))).mono ?_
    rintro e w2 ⟨rfl, hb2⟩
    rw [h2]
    have B2 : Hid (Below w.heap.size w w2) := bthen B1.out hb2
    have M2 : Hid (w2.cell? ⟨w.heap.size, 0, none⟩ = some (.int .i64 c) ∧ w2.cell? ⟨w.heap.size, 1, none⟩ = some (.int .i64 d)) := ⟨(hb2.cell (p := ⟨w.heap.size, 0, none⟩) (by show w.heap.size < _; omega)).trans M1'.out.1, (hb2.cell (p := ⟨w.heap.size, 1, none⟩) (by show w.heap.size < _; omega)).trans M1'.out.2⟩
    have R2 : Hid (Six w2 (w.heap.size + 1) [.int .i64 0, .slice none 0 0, .int .i64 0, .slice none 0 0, .slice none 0 0, .slice none 0 0]) := R1.out.below (by omega) hb2
    have z2 : w.heap.size + 2 ≤ w2.heap.size := Nat.le_trans z1 hb2.size
    clear hb2 B1 M1' R1 m0 m1 lM
    have r0 := (R2.out 0 (by decide)).1
    have q0 := (R2.out 0 (by decide)).2
    have r1 := (R2.out 1 (by decide)).1
    have q1 := (R2.out 1 (by decide)).2
    have r2 := (R2.out 2 (by decide)).1
    have q2 := (R2.out 2 (by decide)).2
    have r3 := (R2.out 3 (by decide)).1
    have q3 := (R2.out 3 (by decide)).2
    have r4 := (R2.out 4 (by decide)).1
    have q4 := (R2.out 4 (by decide)).2
    have r5 := (R2.out 5 (by decide)).1
    have q5 := (R2.out 5 (by decide)).2
    simp only [List.getD, List.getElem?_cons_zero, List.getElem?_cons_succ, Option.getD_some] at r0 r1 r2 r3 r4 r5
    have lr : w.heap.size + 1 < w2.heap.size := by omega
    go_wp2
    refine bodyPost_ret (v := .agg #[.int .i64 0, .slice none 0 0, .int .i64 0, .slice none 0 0, .slice none 0 0, .slice none 0 0]) (by simp [results, Try.results5, go_sem, r0, r1, r2, r3, r4, r5]) rfl ?_
    exact ⟨⟨_, rfl, by rw [E.out]; exact nothing_own _ _ _⟩, below_put6 B2.out (Nat.le_succ w.heap.size) _ _ _ _ _ _⟩
  go_enter Try.func5, Try.ntmps5
  go_wp2_with fail
  obtain ⟨w0, e0⟩ : ∃ w0, w0 = (w.alloc (.cells #[.int .i64 c, .int .i64 d] 24)).alloc (.cells #[.int .i64 0, .slice none 0 0, .int .i64 0, .slice none 0 0, .slice none 0 0, .slice none 0 0] 31) := ⟨_, rfl⟩
  have z0 : w.heap.size + 2 ≤ w0.heap.size := by rw [e0]; simp
  have B0 : Hid (Below w.heap.size w w0) := by rw [e0]; exact ((Below.refl _ _).alloc (by simp) _).alloc (by simp) _
  have M0 : Hid (w0.cell? ⟨w.heap.size, 0, none⟩ = some (.int .i64 c) ∧ w0.cell? ⟨w.heap.size, 1, none⟩ = some (.int .i64 d)) := by rw [e0]; exact two_box w c d _
  have R0 : Hid (Six w0 (w.heap.size + 1) [.int .i64 0, .slice none 0 0, .int .i64 0, .slice none 0 0, .slice none 0 0, .slice none 0 0]) := by rw [e0]; exact six_box2 w _ 24 31 _ _ _ _ _ _
  rw [← e0]
  clear e0
  refine (has_impl _ _ _ _).mono ?_
  rintro e w1 ⟨rfl, hb1⟩
  rw [h1]
  have B1 : Hid (Below w.heap.size w w1) := bthen B0.out hb1
  have M1' : Hid (w1.cell? ⟨w.heap.size, 0, none⟩ = some (.int .i64 c) ∧ w1.cell? ⟨w.heap.size, 1, none⟩ = some (.int .i64 d)) := ⟨(hb1.cell (p := ⟨w.heap.size, 0, none⟩) (by show w.heap.size < _; omega)).trans M0.out.1, (hb1.cell (p := ⟨w.heap.size, 1, none⟩) (by show w.heap.size < _; omega)).trans M0.out.2⟩
  have R1 : Hid (Six w1 (w.heap.size + 1) [.int .i64 0, .slice none 0 0, .int .i64 0, .slice none 0 0, .slice none 0 0, .slice none 0 0]) := R0.out.below (by omega) hb1
  have z1 : w.heap.size + 2 ≤ w1.heap.size := Nat.le_trans z0 hb1.size
  clear hb1 B0 M0 R0
  have m0 : w1.cell? ⟨w.heap.size, 0, none⟩ = some (.int .i64 c) := M1'.out.1
  have m1 : w1.cell? ⟨w.heap.size, 1, none⟩ = some (.int .i64 d) := M1'.out.2
  have lM : w.heap.size < w1.heap.size := by omega
  go_wp2_with fail
  refine (listOk_impl c d b 0 n cap Z hn _ (by omega) (fun k j a1 a2 => (B1.out.cell (p := ⟨b, _, none⟩) hb).trans (HR.out k j a1 a2))).mono ?_
  rintro e w2 ⟨rfl, hb2⟩
  rw [h2]
  have B2 : Hid (Below w.heap.size w w2) := bthen B1.out hb2
  have M2 : Hid (w2.cell? ⟨w.heap.size, 0, none⟩ = some (.int .i64 c) ∧ w2.cell? ⟨w.heap.size, 1, none⟩ = some (.int .i64 d)) := ⟨(hb2.cell (p := ⟨w.heap.size, 0, none⟩) (by show w.heap.size < _; omega)).trans M1'.out.1, (hb2.cell (p := ⟨w.heap.size, 1, none⟩) (by show w.heap.size < _; omega)).trans M1'.out.2⟩
  have R2 : Hid (Six w2 (w.heap.size + 1) [.int .i64 0, .slice none 0 0, .int .i64 0, .slice none 0 0, .slice none 0 0, .slice none 0 0]) := R1.out.below (by omega) hb2
  have z2 : w.heap.size + 2 ≤ w2.heap.size := Nat.le_trans z1 hb2.size
  clear hb2 B1 M1' R1 m0 m1 lM
  go_upto_region 3 with fail
  refine wp_region_inv (by kernel_rfl) (by kernel_rfl) (fun L a w' => ∃ u7 u21 u22 u23 u24 u25 : Value, a = ⟨#[.agg #[.int .i64 c, .int .i64 d], .int .i64 cell, .slice (some ⟨b, 0, none⟩) n cap, .pointer (some ⟨w.heap.size, 0, none⟩), undef, undef, .pointer (some ⟨w.heap.size + 1, 0, none⟩), u7, undef, undef, .agg #[.int .i64 c, .int .i64 d], .int .i64 cell, .bool true, .bool false, .bool false, .agg #[.int .i64 c, .int .i64 d], .slice (some ⟨b, 0, none⟩) n cap, .bool true, .bool false, .bool false, undef, u21, u22, u23, u24, u25, undef, undef, undef, undef, undef, undef, undef, undef, undef, undef, undef, undef, undef, undef, undef, undef, undef, undef, undef, undef], []⟩ ∧ (Below w2.heap.size w2 w' ∧ In1 w2.heap.size w' u22 ∧ In1 w2.heap.size w' u23 ∧ In1 w2.heap.size w' u24 ∧ In1 w2.heap.size w' u7 ∧ Ap u22 u23 ∧ Ap u22 u24 ∧ Ap u22 u7 ∧ Ap u23 u24 ∧ Ap u23 u7 ∧ Ap u24 u7 ∧ (L 6 = true → L 1 = true ∧ L 2 = true ∧ L 3 = true ∧ L 5 = true ∧ L 4 = true) ∧ (L 4 = true → L 0 = true ∧ L 1 = true ∧ L 2 = true ∧ L 3 = true)) ∧ (L 0 = true → u21 = .int .i64 cell) ∧ (L 1 = true → ∃ g, u22 = .slice (some ⟨g, 0, none⟩) 2 2 ∧ w'.cell? ⟨g, 0, none⟩ = some (.slice none 0 0) ∧ w'.cell? ⟨g, 1, none⟩ = some (.slice none 0 0) ∧ g < w'.heap.size) ∧ (L 2 = true → ∃ g, u23 = .slice (some ⟨g, 0, none⟩) 2 2 ∧ Own1 w' g 2 (fun _ => 0) 2 ∧ g < w'.heap.size) ∧ (L 3 = true → ∃ g, u24 = .slice (some ⟨g, 0, none⟩) 2 2 ∧ Own1 w' g 2 (fun _ => 0) 2 ∧ g < w'.heap.size) ∧ (L 4 = true → u25 = .agg #[.int .i64 cell, .slice none 0 0, .int .i64 0, u22, u23, u24]) ∧ (L 5 = true → ∃ g, u7 = .pointer (some ⟨g, 0, none⟩) ∧ (∃ l, Six w' g l) ∧ g < w'.heap.size) ∧ (L 6 = true → ∃ g, u7 = .pointer (some ⟨g, 0, none⟩) ∧ Six w' g [.int .i64 cell, .slice none 0 0, .int .i64 0, u22, u23, u24] ∧ g < w'.heap.size)) ?h0 ?hstep ?hdone
  case h0 => exact ⟨undef, undef, undef, undef, undef, undef, rfl, ⟨(Below.refl _ _).drew, in_undef, in_undef, in_undef, in_undef, ap_undef, ap_undef, ap_undef, ap_undef, ap_undef, ap_undef, fun h => absurd h (by simp), fun h => absurd h (by simp)⟩, fun h => absurd h (by simp), fun h => absurd h (by simp), fun h => absurd h (by simp), fun h => absurd h (by simp), fun h => absurd h (by simp), fun h => absurd h (by simp), fun h => absurd h (by simp)⟩
  case hstep =>
    refine ⟨?_, ?_, ?_, ?_, ?_, ?_, ?_, trivial⟩
    · intro L a w' K' hd hL hI hK
      obtain ⟨u7, u21, u22, u23, u24, u25, rfl, ⟨hB, n22, n23, n24, n7, p22_23, p22_24, p22_7, p23_24, p23_7, p24_7, hP6, hP4⟩, h0, h1, h2, h3, h4, h5, h6⟩ := hI
      go_simp
      exact hK.out _ _ ⟨_, _, _, _, _, _, rfl, ⟨hB, n22, n23, n24, n7, p22_23, p22_24, p22_7, p23_24, p23_7, p24_7, keepL (by decide) (fun e => match hP6 e with | ⟨a1, a2, a3, a5, a4⟩ => ⟨mark1_true a1, mark1_true a2, mark1_true a3, mark1_true a5, mark1_true a4⟩), keepL (by decide) (fun e => match hP4 e with | ⟨a0, a1, a2, a3⟩ => ⟨mark1_true a0, mark1_true a1, mark1_true a2, mark1_true a3⟩)⟩, fun _ => rfl, keepL (by decide) h1, keepL (by decide) h2, keepL (by decide) h3, keepL (by decide) (fun e => absurd (hP4 e).1 (by simp [hL])), keepL (by decide) h5, keepL (by decide) h6⟩
    · intro L a w' K' hd hL hI hK
      obtain ⟨u7, u21, u22, u23, u24, u25, rfl, ⟨hB, n22, n23, n24, n7, p22_23, p22_24, p22_7, p23_24, p23_7, p24_7, hP6, hP4⟩, h0, h1, h2, h3, h4, h5, h6⟩ := hI
      have hmk : (Instr.makeSlice 28 (.int .i64 2) (.int .i64 2)).run Try.prog w' = .ok (.slice (some ⟨w'.heap.size, 0, none⟩) 2 2) (w'.alloc (.cells (madeCells #[.slice none 0 0] (2 * 1)) 51)) := makeO 2 (by decide) w'
      go_simp
      exact hK.out _ _ ⟨_, _, _, _, _, _, rfl, ⟨hB.alloc hB.size _, new_in rfl hB.size, n23.up (by simp), n24.up (by simp), n7.up (by simp), ap_new_l rfl n23, ap_new_l rfl n24, ap_new_l rfl n7, p23_24, p23_7, p24_7, keepL (by decide) (fun e => match hP6 e with | ⟨a1, a2, a3, a5, a4⟩ => ⟨mark1_true a1, mark1_true a2, mark1_true a3, mark1_true a5, mark1_true a4⟩), keepL (by decide) (fun e => match hP4 e with | ⟨a0, a1, a2, a3⟩ => ⟨mark1_true a0, mark1_true a1, mark1_true a2, mark1_true a3⟩)⟩, keepL (by decide) h0, fun _ => ⟨w'.heap.size, rfl, (nils_zero w').1, (nils_zero w').2, by simp⟩, keepL (by decide) (fun e => match (h2 e) with | ⟨g, e1, e2, e3⟩ => ⟨g, e1, own1_below e2 e3 ((Below.refl _ _).alloc (Nat.le_refl _) _), by simp; omega⟩), keepL (by decide) (fun e => match (h3 e) with | ⟨g, e1, e2, e3⟩ => ⟨g, e1, own1_below e2 e3 ((Below.refl _ _).alloc (Nat.le_refl _) _), by simp; omega⟩), keepL (by decide) (fun e => absurd (hP4 e).2.1 (by simp [hL])), keepL (by decide) (fun e => match (h5 e) with | ⟨g, e1, ⟨l, e2⟩, e3⟩ => ⟨g, e1, ⟨l, e2.below e3 ((Below.refl _ _).alloc (Nat.le_refl _) _)⟩, by simp; omega⟩), keepL (by decide) (fun e => absurd (hP6 e).1 (by simp [hL]))⟩
    · intro L a w' K' hd hL hI hK
      obtain ⟨u7, u21, u22, u23, u24, u25, rfl, ⟨hB, n22, n23, n24, n7, p22_23, p22_24, p22_7, p23_24, p23_7, p24_7, hP6, hP4⟩, h0, h1, h2, h3, h4, h5, h6⟩ := hI
      have hmk : (Instr.makeSlice 29 (.int .i64 2) (.int .i64 2)).run Try.prog w' = .ok (.slice (some ⟨w'.heap.size, 0, none⟩) 2 2) (w'.alloc (.cells (madeCells #[.int .i64 0] (2 * 1)) 3)) := make1 2 (by decide) w'
      go_simp
      exact hK.out _ _ ⟨_, _, _, _, _, _, rfl, ⟨hB.alloc hB.size _, n22.up (by simp), new_in rfl hB.size, n24.up (by simp), n7.up (by simp), ap_new_r rfl n22, p22_24, p22_7, ap_new_l rfl n24, ap_new_l rfl n7, p24_7, keepL (by decide) (fun e => match hP6 e with | ⟨a1, a2, a3, a5, a4⟩ => ⟨mark1_true a1, mark1_true a2, mark1_true a3, mark1_true a5, mark1_true a4⟩), keepL (by decide) (fun e => match hP4 e with | ⟨a0, a1, a2, a3⟩ => ⟨mark1_true a0, mark1_true a1, mark1_true a2, mark1_true a3⟩)⟩, keepL (by decide) h0, keepL (by decide) (fun e => match (h1 e) with | ⟨g, e1, e2, e3, e4⟩ => ⟨g, e1, (((Below.refl _ _).alloc (Nat.le_refl _) _).cell (p := ⟨g, 0, none⟩) e4).trans e2, (((Below.refl _ _).alloc (Nat.le_refl _) _).cell (p := ⟨g, 1, none⟩) e4).trans e3, by simp; omega⟩), fun _ => ⟨w'.heap.size, rfl, own1_zero w', by simp⟩, keepL (by decide) (fun e => match (h3 e) with | ⟨g, e1, e2, e3⟩ => ⟨g, e1, own1_below e2 e3 ((Below.refl _ _).alloc (Nat.le_refl _) _), by simp; omega⟩), keepL (by decide) (fun e => absurd (hP4 e).2.2.1 (by simp [hL])), keepL (by decide) (fun e => match (h5 e) with | ⟨g, e1, ⟨l, e2⟩, e3⟩ => ⟨g, e1, ⟨l, e2.below e3 ((Below.refl _ _).alloc (Nat.le_refl _) _)⟩, by simp; omega⟩), keepL (by decide) (fun e => absurd (hP6 e).2.1 (by simp [hL]))⟩
    · intro L a w' K' hd hL hI hK
      obtain ⟨u7, u21, u22, u23, u24, u25, rfl, ⟨hB, n22, n23, n24, n7, p22_23, p22_24, p22_7, p23_24, p23_7, p24_7, hP6, hP4⟩, h0, h1, h2, h3, h4, h5, h6⟩ := hI
      have hmk : (Instr.makeSlice 29 (.int .i64 2) (.int .i64 2)).run Try.prog w' = .ok (.slice (some ⟨w'.heap.size, 0, none⟩) 2 2) (w'.alloc (.cells (madeCells #[.int .i64 0] (2 * 1)) 3)) := make1 2 (by decide) w'
      go_simp
      exact hK.out _ _ ⟨_, _, _, _, _, _, rfl, ⟨hB.alloc hB.size _, n22.up (by simp), n23.up (by simp), new_in rfl hB.size, n7.up (by simp), p22_23, ap_new_r rfl n22, p22_7, ap_new_r rfl n23, p23_7, ap_new_l rfl n7, keepL (by decide) (fun e => match hP6 e with | ⟨a1, a2, a3, a5, a4⟩ => ⟨mark1_true a1, mark1_true a2, mark1_true a3, mark1_true a5, mark1_true a4⟩), keepL (by decide) (fun e => match hP4 e with | ⟨a0, a1, a2, a3⟩ => ⟨mark1_true a0, mark1_true a1, mark1_true a2, mark1_true a3⟩)⟩, keepL (by decide) h0, keepL (by decide) (fun e => match (h1 e) with | ⟨g, e1, e2, e3, e4⟩ => ⟨g, e1, (((Below.refl _ _).alloc (Nat.le_refl _) _).cell (p := ⟨g, 0, none⟩) e4).trans e2, (((Below.refl _ _).alloc (Nat.le_refl _) _).cell (p := ⟨g, 1, none⟩) e4).trans e3, by simp; omega⟩), keepL (by decide) (fun e => match (h2 e) with | ⟨g, e1, e2, e3⟩ => ⟨g, e1, own1_below e2 e3 ((Below.refl _ _).alloc (Nat.le_refl _) _), by simp; omega⟩), fun _ => ⟨w'.heap.size, rfl, own1_zero w', by simp⟩, keepL (by decide) (fun e => absurd (hP4 e).2.2.2 (by simp [hL])), keepL (by decide) (fun e => match (h5 e) with | ⟨g, e1, ⟨l, e2⟩, e3⟩ => ⟨g, e1, ⟨l, e2.below e3 ((Below.refl _ _).alloc (Nat.le_refl _) _)⟩, by simp; omega⟩), keepL (by decide) (fun e => absurd (hP6 e).2.2.1 (by simp [hL]))⟩
    · intro L a w' K' hd hL hI hK
      obtain ⟨u7, u21, u22, u23, u24, u25, rfl, ⟨hB, n22, n23, n24, n7, p22_23, p22_24, p22_7, p23_24, p23_7, p24_7, hP6, hP4⟩, h0, h1, h2, h3, h4, h5, h6⟩ := hI
      obtain rfl := h0 (hd ⟨0, .data⟩ (by simp) rfl)
      obtain ⟨g1, rfl, e1⟩ := h1 (hd ⟨1, .data⟩ (by simp) rfl)
      obtain ⟨g2, rfl, e2⟩ := h2 (hd ⟨2, .data⟩ (by simp) rfl)
      obtain ⟨g3, rfl, e3⟩ := h3 (hd ⟨3, .data⟩ (by simp) rfl)
      go_simp
      exact hK.out _ _ ⟨_, _, _, _, _, _, rfl, ⟨hB, n22, n23, n24, n7, p22_23, p22_24, p22_7, p23_24, p23_7, p24_7, keepL (by decide) (fun e => match hP6 e with | ⟨a1, a2, a3, a5, a4⟩ => ⟨mark1_true a1, mark1_true a2, mark1_true a3, mark1_true a5, mark1_true a4⟩), fun _ => ⟨mark1_true (hd ⟨0, .data⟩ (by simp) rfl), mark1_true (hd ⟨1, .data⟩ (by simp) rfl), mark1_true (hd ⟨2, .data⟩ (by simp) rfl), mark1_true (hd ⟨3, .data⟩ (by simp) rfl)⟩⟩, keepL (by decide) (fun _ => rfl), keepL (by decide) (fun _ => ⟨g1, rfl, e1⟩), keepL (by decide) (fun _ => ⟨g2, rfl, e2⟩), keepL (by decide) (fun _ => ⟨g3, rfl, e3⟩), fun _ => rfl, keepL (by decide) h5, keepL (by decide) h6⟩
    · intro L a w' K' hd hL hI hK
      obtain ⟨u7, u21, u22, u23, u24, u25, rfl, ⟨hB, n22, n23, n24, n7, p22_23, p22_24, p22_7, p23_24, p23_7, p24_7, hP6, hP4⟩, h0, h1, h2, h3, h4, h5, h6⟩ := hI
      go_simp
      exact hK.out _ _ ⟨_, _, _, _, _, _, rfl, ⟨hB.alloc hB.size _, n22.up (by simp), n23.up (by simp), n24.up (by simp), new_in rfl hB.size, p22_23, p22_24, ap_new_r rfl n22, p23_24, ap_new_r rfl n23, ap_new_r rfl n24, keepL (by decide) (fun e => match hP6 e with | ⟨a1, a2, a3, a5, a4⟩ => ⟨mark1_true a1, mark1_true a2, mark1_true a3, mark1_true a5, mark1_true a4⟩), keepL (by decide) (fun e => match hP4 e with | ⟨a0, a1, a2, a3⟩ => ⟨mark1_true a0, mark1_true a1, mark1_true a2, mark1_true a3⟩)⟩, keepL (by decide) h0, keepL (by decide) (fun e => match (h1 e) with | ⟨g, e1, e2, e3, e4⟩ => ⟨g, e1, (((Below.refl _ _).alloc (Nat.le_refl _) _).cell (p := ⟨g, 0, none⟩) e4).trans e2, (((Below.refl _ _).alloc (Nat.le_refl _) _).cell (p := ⟨g, 1, none⟩) e4).trans e3, by simp; omega⟩), keepL (by decide) (fun e => match (h2 e) with | ⟨g, e1, e2, e3⟩ => ⟨g, e1, own1_below e2 e3 ((Below.refl _ _).alloc (Nat.le_refl _) _), by simp; omega⟩), keepL (by decide) (fun e => match (h3 e) with | ⟨g, e1, e2, e3⟩ => ⟨g, e1, own1_below e2 e3 ((Below.refl _ _).alloc (Nat.le_refl _) _), by simp; omega⟩), keepL (by decide) h4, fun _ => ⟨w'.heap.size, rfl, ⟨_, six_new w' 31 _ _ _ _ _ _⟩, by simp⟩, keepL (by decide) (fun e => absurd (hP6 e).2.2.2.1 (by simp [hL]))⟩
    · intro L a w' K' hd hL hI hK
      obtain ⟨u7, u21, u22, u23, u24, u25, rfl, ⟨hB, n22, n23, n24, n7, p22_23, p22_24, p22_7, p23_24, p23_7, p24_7, hP6, hP4⟩, h0, h1, h2, h3, h4, h5, h6⟩ := hI
      obtain rfl := h4 (hd ⟨4, .data⟩ (by simp) rfl)
      obtain ⟨g7, rfl, ⟨l7, s7⟩, hg7⟩ := h5 (hd ⟨5, .data⟩ (by simp) rfl)
      obtain ⟨b0, b1, b2, b3⟩ := hP4 (hd ⟨4, .data⟩ (by simp) rfl)
      obtain rfl := h0 b0
      obtain ⟨g1, rfl, e1⟩ := h1 b1
      obtain ⟨g2, rfl, e2⟩ := h2 b2
      obtain ⟨g3, rfl, e3⟩ := h3 b3
      have c0 := (s7 0 (by decide)).1
      have f0 := (s7 0 (by decide)).2
      have c1 := (s7 1 (by decide)).1
      have f1 := (s7 1 (by decide)).2
      have c2 := (s7 2 (by decide)).1
      have f2 := (s7 2 (by decide)).2
      have c3 := (s7 3 (by decide)).1
      have f3 := (s7 3 (by decide)).2
      have c4 := (s7 4 (by decide)).1
      have f4 := (s7 4 (by decide)).2
      have c5 := (s7 5 (by decide)).1
      have f5 := (s7 5 (by decide)).2
      go_simp
      have hset := six_put s7 (.int .i64 cell) (.slice none 0 0) (.int .i64 0) (.slice (some ⟨g1, 0, none⟩) 2 2) (.slice (some ⟨g2, 0, none⟩) 2 2) (.slice (some ⟨g3, 0, none⟩) 2 2)
      have hle : w2.heap.size ≤ g7 := (n7 g7 rfl).1
      have x1 : ¬ g7 = g1 := fun e => p22_7 g1 g7 rfl rfl e.symm
      have x2 : ¬ g7 = g2 := fun e => p23_7 g2 g7 rfl rfl e.symm
      have x3 : ¬ g7 = g3 := fun e => p24_7 g3 g7 rfl rfl e.symm
      obtain ⟨y1, y2, y3⟩ := e1
      obtain ⟨o2, l2⟩ := e2
      obtain ⟨o3, l3⟩ := e3
      have hz6 := size_put6 w' g7 (.int .i64 cell) (.slice none 0 0) (.int .i64 0) (.slice (some ⟨g1, 0, none⟩) 2 2) (.slice (some ⟨g2, 0, none⟩) 2 2) (.slice (some ⟨g3, 0, none⟩) 2 2)
      exact hK.out _ _ ⟨_, _, _, _, _, _, rfl, ⟨below_put6 hB hle _ _ _ _ _ _, n22.up (Nat.le_of_eq hz6.symm), n23.up (Nat.le_of_eq hz6.symm), n24.up (Nat.le_of_eq hz6.symm), n7.up (Nat.le_of_eq hz6.symm), p22_23, p22_24, p22_7, p23_24, p23_7, p24_7, fun _ => match hP4 (hd ⟨4, .data⟩ (by simp) rfl) with | ⟨a0, a1, a2, a3⟩ => ⟨mark1_true a1, mark1_true a2, mark1_true a3, mark1_true (hd ⟨5, .data⟩ (by simp) rfl), mark1_true (hd ⟨4, .data⟩ (by simp) rfl)⟩, keepL (by decide) (fun e => match hP4 e with | ⟨a0, a1, a2, a3⟩ => ⟨mark1_true a0, mark1_true a1, mark1_true a2, mark1_true a3⟩)⟩, keepL (by decide) (fun _ => rfl), keepL (by decide) (fun _ => ⟨g1, rfl, ((sm_put6 x1 _ _ _ _ _ _ 0).1).trans y1, ((sm_put6 x1 _ _ _ _ _ _ 1).1).trans y2, Nat.lt_of_lt_of_eq y3 hz6.symm⟩), keepL (by decide) (fun _ => ⟨g2, rfl, own1_sm o2 (sm_put6 x2 _ _ _ _ _ _), Nat.lt_of_lt_of_eq l2 hz6.symm⟩), keepL (by decide) (fun _ => ⟨g3, rfl, own1_sm o3 (sm_put6 x3 _ _ _ _ _ _), Nat.lt_of_lt_of_eq l3 hz6.symm⟩), keepL (by decide) (fun _ => rfl), keepL (by decide) (fun _ => ⟨g7, rfl, ⟨_, hset⟩, Nat.lt_of_lt_of_eq hg7 hz6.symm⟩), fun _ => ⟨g7, rfl, hset, Nat.lt_of_lt_of_eq hg7 hz6.symm⟩⟩
  case hdone =>
    intro L a w' hL hI
    obtain ⟨u7, u21, u22, u23, u24, u25, rfl, ⟨hB, n22, n23, n24, n7, p22_23, p22_24, p22_7, p23_24, p23_7, p24_7, hP6, hP4⟩, h0, h1, h2, h3, h4, h5, h6⟩ := hI
    obtain ⟨g7, rfl, s7, hg7⟩ := h6 (hL 6 (by decide))
    obtain ⟨g1, rfl, y1, y2, y3⟩ := h1 (hL 1 (by decide))
    obtain ⟨g2, rfl, o2, l2⟩ := h2 (hL 2 (by decide))
    obtain ⟨g3, rfl, o3, l3⟩ := h3 (hL 3 (by decide))
    have X12 : ¬ g1 = g2 := p22_23 g1 g2 rfl rfl
    have X13 : ¬ g1 = g3 := p22_24 g1 g3 rfl rfl
    have X17 : ¬ g1 = g7 := p22_7 g1 g7 rfl rfl
    have X23 : ¬ g2 = g3 := p23_24 g2 g3 rfl rfl
    have X27 : ¬ g2 = g7 := p23_7 g2 g7 rfl rfl
    have X37 : ¬ g3 = g7 := p24_7 g3 g7 rfl rfl
    have L1 : w2.heap.size ≤ g1 := (n22 g1 rfl).1
    have L2 : w2.heap.size ≤ g2 := (n23 g2 rfl).1
    have L3 : w2.heap.size ≤ g3 := (n24 g3 rfl).1
    have L7 : w2.heap.size ≤ g7 := (n7 g7 rfl).1
    clear h0 h1 h2 h3 h4 h5 h6 hL n22 n23 n24 n7 p22_23 p22_24 p22_7 p23_24 p23_7 p24_7 hP6 hP4
    generalize w' = w3 at *
    have B3 : Hid (Below w.heap.size w w3) := bthen B2.out hB
    have z3 : w2.heap.size ≤ w3.heap.size := hB.size
    have M3 : Hid (w3.cell? ⟨w.heap.size, 0, none⟩ = some (.int .i64 c) ∧ w3.cell? ⟨w.heap.size, 1, none⟩ = some (.int .i64 d)) := ⟨(hB.cell (p := ⟨w.heap.size, 0, none⟩) (by show w.heap.size < _; omega)).trans M2.out.1, (hB.cell (p := ⟨w.heap.size, 1, none⟩) (by show w.heap.size < _; omega)).trans M2.out.2⟩
    have R3 : Hid (Six w3 (w.heap.size + 1) [.int .i64 0, .slice none 0 0, .int .i64 0, .slice none 0 0, .slice none 0 0, .slice none 0 0]) := R2.out.below (by omega) hB
    have S3 : Hid (Six w3 g7 [.int .i64 cell, .slice none 0 0, .int .i64 0, .slice (some ⟨g1, 0, none⟩) 2 2, .slice (some ⟨g2, 0, none⟩) 2 2, .slice (some ⟨g3, 0, none⟩) 2 2]) := s7
    have N1 : Hid (w3.cell? ⟨g1, 0, none⟩ = some (.slice none 0 0) ∧ w3.cell? ⟨g1, 1, none⟩ = some (.slice none 0 0)) := ⟨y1, y2⟩
    have O2 : Hid (Own1 w3 g2 2 (fun _ => 0) 2) := o2
    have O3 : Hid (Own1 w3 g3 2 (fun _ => 0) 2) := o3
    clear hB B2 M2 R2 s7 y1 y2 o2 o3
    go_wp2
    go_loopw [28] (fun i wr => ∃ (k : Nat) (v : Value), k ≤ n ∧ i = .int .i64 k ∧ Six wr g7 [.int .i64 cell, v, .int .i64 0, .slice (some ⟨g1, 0, none⟩) 2 2, .slice (some ⟨g2, 0, none⟩) 2 2, .slice (some ⟨g3, 0, none⟩) 2 2] ∧ wr.ownsRow w3.heap.size 46 5 v (inL c d cell Z k).length ((inL c d cell Z k).flatMap (five5 Z)) ∧ (∀ x, x < w3.heap.size → ¬ x = g7 → Sm w3 wr x) ∧ w3.heap.size ≤ wr.heap.size ∧ Below w.heap.size w wr) (fun i _ => n - (intOf i).toNat)
    case atStart => exact ⟨0, _, Nat.zero_le _, rfl, S3.out, ⟨rfl, .inl ⟨rfl, rfl⟩⟩, fun x _ _ => Sm.refl _ _, Nat.le_refl _, B3.out⟩
    case round =>
      obtain ⟨k, v, hk, rfl, hsix, hown, hsm, hsz, hbel⟩ := hrel
      obtain ⟨va, vl, vc, hvv⟩ := own_shape hown
      subst hvv
      have SX : Hid (Six wr g7 [.int .i64 cell, .slice va vl vc, .int .i64 0, .slice (some ⟨g1, 0, none⟩) 2 2, .slice (some ⟨g2, 0, none⟩) 2 2, .slice (some ⟨g3, 0, none⟩) 2 2]) := hsix
      have OW : Hid (wr.ownsRow w3.heap.size 46 5 (.slice va vl vc) (inL c d cell Z k).length ((inL c d cell Z k).flatMap (five5 Z))) := hown
      have SM : Hid (∀ x, x < w3.heap.size → ¬ x = g7 → Sm w3 wr x) := hsm
      have BL : Hid (Below w.heap.size w wr) := hbel
      have hlen : (inL c d cell Z k).length ≤ k := inL_len c d cell Z k
      have m0 : wr.cell? ⟨w.heap.size, 0, none⟩ = some (.int .i64 c) := ((hsm w.heap.size (by omega) (by omega)) 0).1.trans M3.out.1
      have m1 : wr.cell? ⟨w.heap.size, 1, none⟩ = some (.int .i64 d) := ((hsm w.heap.size (by omega) (by omega)) 1).1.trans M3.out.2
      have lM : w.heap.size < wr.heap.size := by omega
      clear hsix hown hsm hbel
      by_cases hkn : k < n
      · have hkn' : (k : Int) < n := by omega
        have c0 : wr.cell? ⟨b, k * 5, none⟩ = some (.int .i64 (Z k 0)) := by have := (BL.out.cell (p := ⟨b, 0 + k * 5 + 0, none⟩) hb).trans (HR.out k 0 hkn (by omega)); simpa using this
        have c1 : wr.cell? ⟨b, k * 5 + 1, none⟩ = some (.int .i64 (Z k 1)) := by have := (BL.out.cell (p := ⟨b, 0 + k * 5 + 1, none⟩) hb).trans (HR.out k 1 hkn (by omega)); simpa using this
        have c2 : wr.cell? ⟨b, k * 5 + 2, none⟩ = some (.int .i64 (Z k 2)) := by have := (BL.out.cell (p := ⟨b, 0 + k * 5 + 2, none⟩) hb).trans (HR.out k 2 hkn (by omega)); simpa using this
        have c3 : wr.cell? ⟨b, k * 5 + 3, none⟩ = some (.int .i64 (Z k 3)) := by have := (BL.out.cell (p := ⟨b, 0 + k * 5 + 3, none⟩) hb).trans (HR.out k 3 hkn (by omega)); simpa using this
        have c4 : wr.cell? ⟨b, k * 5 + 4, none⟩ = some (.int .i64 (Z k 4)) := by have := (BL.out.cell (p := ⟨b, 0 + k * 5 + 4, none⟩) hb).trans (HR.out k 4 hkn (by omega)); simpa using this
        have lb : b < wr.heap.size := by omega
        cases hp : (cellF c d (Z k 1) == cell)
        · go_wp2_with fail
          refine (plcCell_impl _ _ _ _).mono ?_
          rintro e w4 ⟨rfl, hb4⟩
          have hb5 : Below wr.heap.size wr w4 := bthen ((Below.refl _ _).alloc (Nat.le_refl _) _) hb4
          have SX4 : Hid (Six w4 g7 [.int .i64 cell, .slice va vl vc, .int .i64 0, .slice (some ⟨g1, 0, none⟩) 2 2, .slice (some ⟨g2, 0, none⟩) 2 2, .slice (some ⟨g3, 0, none⟩) 2 2]) := SX.out.below (by omega) hb5
          have OW4 : Hid (w4.ownsRow w3.heap.size 46 5 (.slice va vl vc) (inL c d cell Z (k + 1)).length ((inL c d cell Z (k + 1)).flatMap (five5 Z))) := by rw [show inL c d cell Z (k + 1) = inL c d cell Z k from inL_no hp]; exact World.ownsRow.kept OW.out (P8.grown_of_below hb5) (by cases e : (Value.slice va vl vc).ownBlock <;> simp)
          have SM4 : Hid (∀ x, x < w3.heap.size → ¬ x = g7 → Sm w3 w4 x) := fun x hx hne => (SM.out x hx hne).trans (sm_below hb5 (by omega))
          have BL4 : Hid (Below w.heap.size w w4) := bthen BL.out hb5
          have z4 : w3.heap.size ≤ w4.heap.size := Nat.le_trans hsz hb5.size
          clear hb4 hb5 SX OW SM BL
          go_wp2
          go_roundw
          case rel => exact ⟨k + 1, _, by omega, by go_num, SX4.out, OW4.out, SM4.out, z4, BL4.out⟩
          case measure => simp [intOf]; omega
        · go_wp2_with fail
          refine (plcCell_impl _ _ _ _).mono ?_
          rintro e w4 ⟨rfl, hb4⟩
          have hb5 : Below wr.heap.size wr w4 := bthen ((Below.refl _ _).alloc (Nat.le_refl _) _) hb4
          have SX4 : Hid (Six w4 g7 [.int .i64 cell, .slice va vl vc, .int .i64 0, .slice (some ⟨g1, 0, none⟩) 2 2, .slice (some ⟨g2, 0, none⟩) 2 2, .slice (some ⟨g3, 0, none⟩) 2 2]) := SX.out.below (by omega) hb5
          have OW4 : Hid (w4.ownsRow w3.heap.size 46 5 (.slice va vl vc) (inL c d cell Z k).length ((inL c d cell Z k).flatMap (five5 Z))) := World.ownsRow.kept OW.out (P8.grown_of_below hb5) (by cases e : (Value.slice va vl vc).ownBlock <;> simp)
          have SM4 : Hid (∀ x, x < w3.heap.size → ¬ x = g7 → Sm w3 w4 x) := fun x hx hne => (SM.out x hx hne).trans (sm_below hb5 (by omega))
          have BL4 : Hid (Below w.heap.size w w4) := bthen BL.out hb5
          have z4 : w3.heap.size ≤ w4.heap.size := Nat.le_trans hsz hb5.size
          have t0 : w4.cell? ⟨wr.heap.size, 0, none⟩ = some (.int .i64 (Z k 0)) := (hb4.cell (p := ⟨wr.heap.size, 0, none⟩) (by simp)).trans (by simp)
          have t1 : w4.cell? ⟨wr.heap.size, 1, none⟩ = some (.int .i64 (Z k 1)) := (hb4.cell (p := ⟨wr.heap.size, 1, none⟩) (by simp)).trans (by simp)
          have t2 : w4.cell? ⟨wr.heap.size, 2, none⟩ = some (.int .i64 (Z k 2)) := (hb4.cell (p := ⟨wr.heap.size, 2, none⟩) (by simp)).trans (by simp)
          have t3 : w4.cell? ⟨wr.heap.size, 3, none⟩ = some (.int .i64 (Z k 3)) := (hb4.cell (p := ⟨wr.heap.size, 3, none⟩) (by simp)).trans (by simp)
          have t4 : w4.cell? ⟨wr.heap.size, 4, none⟩ = some (.int .i64 (Z k 4)) := (hb4.cell (p := ⟨wr.heap.size, 4, none⟩) (by simp)).trans (by simp)
          have lt4 : wr.heap.size < w4.heap.size := by have := hb4.size; simp at this; omega
          have lg7 : g7 < w4.heap.size := by omega
          have f1 : w4.cell? ⟨g7, 1, none⟩ = some (.slice va vl vc) := (SX4.out 1 (by decide)).1
          have hW4 := OW4.out
          clear hb4 hb5 SX OW SM BL c0 c1 c2 c3 c4 m0 m1
          go_wp2_with (at_builtin; refine wpList_append_own _ rfl _ _ 25 rfl w3.heap.size 46 i5 (.agg #[.int .i64 0, .int .i64 0, .int .i64 0, .int .i64 0, .int .i64 0]) 5 40 Try.underlying25 hi5 hz50 hz51 hz52 rfl (by decide) _ _ _ rfl (hW4.alloc _) ⟨w4.heap.size, 0, none⟩ 1 1 (five5 Z k) rfl rfl ?d1 ?d2 ?d3 ?d4 ?d5 ?_)
          case d1 =>
            intro j u hj
            match j, hj with
            | 0, hj => simp [five5] at hj; subst hj; simp [Addr.add]
            | 1, hj => simp [five5] at hj; subst hj; simp [Addr.add]
            | 2, hj => simp [five5] at hj; subst hj; simp [Addr.add]
            | 3, hj => simp [five5] at hj; subst hj; simp [Addr.add]
            | 4, hj => simp [five5] at hj; subst hj; simp [Addr.add]
            | j + 5, hj => simp [five5] at hj
          case d2 => intro u hu; simp [five5] at hu; rcases hu with rfl | rfl | rfl | rfl | rfl <;> rfl
          case d3 => unfold maxLen; omega
          case d4 => omega
          case d5 => simp; omega
          · intro v' w5 hown' hg5 hnil
            obtain ⟨xa, xl, xc, hxx⟩ := own_shape hown'
            subst hxx
            have hall := (World.grownBy_alloc w4 _ _).trans hg5
            have hz5 : w4.heap.size ≤ w5.heap.size := hall.size
            have hlow : ∀ kk, (Value.slice va vl vc).ownBlock = some kk → w3.heap.size ≤ kk := fun kk e => (OW4.out.lt kk e).1
            have hfar : ∀ x, x < w3.heap.size → Sm w4 w5 x := fun x hx => sm_grown hall (by omega) (fun e => by have := hlow x e.symm; omega)
            have SX5 : Hid (Six w5 g7 [.int .i64 cell, .slice va vl vc, .int .i64 0, .slice (some ⟨g1, 0, none⟩) 2 2, .slice (some ⟨g2, 0, none⟩) 2 2, .slice (some ⟨g3, 0, none⟩) 2 2]) := fun i hi => by have h1 := hfar g7 (by omega) i; rw [h1.1, h1.2]; exact SX4.out i hi
            have SX6 : Hid (Six (w5.setCell ⟨g7, 1, none⟩ (.slice xa xl xc)) g7 [.int .i64 cell, .slice xa xl xc, .int .i64 0, .slice (some ⟨g1, 0, none⟩) 2 2, .slice (some ⟨g2, 0, none⟩) 2 2, .slice (some ⟨g3, 0, none⟩) 2 2]) := SX5.out.set (j := 1) (v := (.slice xa xl xc)) rfl (by decide)
            have OW6 : Hid ((w5.setCell ⟨g7, 1, none⟩ (.slice xa xl xc)).ownsRow w3.heap.size 46 5 (.slice xa xl xc) (inL c d cell Z (k + 1)).length ((inL c d cell Z (k + 1)).flatMap (five5 Z))) := by
              unfold Hid
              rw [inL_yes hp, List.length_append, List.flatMap_append]
              refine World.ownsRow.kept ?_ (P8.set_grown w5 g7 1 (.slice xa xl xc)).1 ?_
              · simpa using hown'
              · cases e : (Value.slice xa xl xc).ownBlock with
                | none => exact .inl rfl
                | some kk => exact .inr (fun e2 => by have := (hown'.lt kk e).1; injection e2 with e2; omega)
            have SM6 : Hid (∀ x, x < w3.heap.size → ¬ x = g7 → Sm w3 (w5.setCell ⟨g7, 1, none⟩ (.slice xa xl xc)) x) := fun x hx hne => ((SM4.out x hx hne).trans (hfar x hx)).trans (fun o => ⟨set_out (fun e => hne e.1.symm), set_frozen⟩)
            have BL6 : Hid (Below w.heap.size w (w5.setCell ⟨g7, 1, none⟩ (.slice xa xl xc))) := (BL4.out.grown hall (by omega) (fun kk e => by have := hlow kk e; omega)).setCell (by show w.heap.size ≤ g7; omega) _
            have e1 := (SX5.out 1 (by decide)).1
            have e1f := (SX5.out 1 (by decide)).2
            have lg8 : g7 < w5.heap.size := by omega
            have z6 : w3.heap.size ≤ (w5.setCell ⟨g7, 1, none⟩ (.slice xa xl xc)).heap.size := by rw [set_size]; omega
            clear hown' hg5 hnil hall hlow hfar hW4 OW4 SM4 BL4 SX4 SX5 t0 t1 t2 t3 t4 f1
            go_wp2
            go_roundw
            case rel => exact ⟨k + 1, _, by omega, by go_num, SX6.out, OW6.out, SM6.out, z6, BL6.out⟩
            case measure => simp [intOf]; omega
      · have hkk : k = n := by omega
        subst hkk
        have RR : Hid (Six wr (w.heap.size + 1) [.int .i64 0, .slice none 0 0, .int .i64 0, .slice none 0 0, .slice none 0 0, .slice none 0 0]) := fun i hi => by have h1 := SM.out (w.heap.size + 1) (by omega) (by omega) i; rw [h1.1, h1.2]; exact R3.out i hi
        have y0 : wr.cell? ⟨g7, 0, none⟩ = some (.int .i64 cell) := (SX.out 0 (by decide)).1
        have y1 : wr.cell? ⟨g7, 1, none⟩ = some (.slice va vl vc) := (SX.out 1 (by decide)).1
        have y2 : wr.cell? ⟨g7, 2, none⟩ = some (.int .i64 0) := (SX.out 2 (by decide)).1
        have y3 : wr.cell? ⟨g7, 3, none⟩ = some (.slice (some ⟨g1, 0, none⟩) 2 2) := (SX.out 3 (by decide)).1
        have y4 : wr.cell? ⟨g7, 4, none⟩ = some (.slice (some ⟨g2, 0, none⟩) 2 2) := (SX.out 4 (by decide)).1
        have y5 : wr.cell? ⟨g7, 5, none⟩ = some (.slice (some ⟨g3, 0, none⟩) 2 2) := (SX.out 5 (by decide)).1
        have r0 : wr.cell? ⟨w.heap.size + 1, 0, none⟩ = some (.int .i64 0) := (RR.out 0 (by decide)).1
        have q0 : wr.frozen? ⟨w.heap.size + 1, 0, none⟩ = false := (RR.out 0 (by decide)).2
        have r1 : wr.cell? ⟨w.heap.size + 1, 1, none⟩ = some (.slice none 0 0) := (RR.out 1 (by decide)).1
        have q1 : wr.frozen? ⟨w.heap.size + 1, 1, none⟩ = false := (RR.out 1 (by decide)).2
        have r2 : wr.cell? ⟨w.heap.size + 1, 2, none⟩ = some (.int .i64 0) := (RR.out 2 (by decide)).1
        have q2 : wr.frozen? ⟨w.heap.size + 1, 2, none⟩ = false := (RR.out 2 (by decide)).2
        have r3 : wr.cell? ⟨w.heap.size + 1, 3, none⟩ = some (.slice none 0 0) := (RR.out 3 (by decide)).1
        have q3 : wr.frozen? ⟨w.heap.size + 1, 3, none⟩ = false := (RR.out 3 (by decide)).2
        have r4 : wr.cell? ⟨w.heap.size + 1, 4, none⟩ = some (.slice none 0 0) := (RR.out 4 (by decide)).1
        have q4 : wr.frozen? ⟨w.heap.size + 1, 4, none⟩ = false := (RR.out 4 (by decide)).2
        have r5 : wr.cell? ⟨w.heap.size + 1, 5, none⟩ = some (.slice none 0 0) := (RR.out 5 (by decide)).1
        have q5 : wr.frozen? ⟨w.heap.size + 1, 5, none⟩ = false := (RR.out 5 (by decide)).2
        have lg9 : g7 < wr.heap.size := by omega
        have lr9 : w.heap.size + 1 < wr.heap.size := by omega
        have hne9 : ¬ w.heap.size + 1 = g7 := by omega
        go_wp2
        refine bodyPost_ret (v := .agg #[.int .i64 cell, .slice va vl vc, .int .i64 0, .slice (some ⟨g1, 0, none⟩) 2 2, .slice (some ⟨g2, 0, none⟩) 2 2, .slice (some ⟨g3, 0, none⟩) 2 2]) (by simp [results, Try.results5, go_sem, r0, r1, r2, r3, r4, r5]) rfl ?_
        have hzz := size_put6 wr (w.heap.size + 1) (.int .i64 cell) (.slice va vl vc) (.int .i64 0) (.slice (some ⟨g1, 0, none⟩) 2 2) (.slice (some ⟨g2, 0, none⟩) 2 2) (.slice (some ⟨g3, 0, none⟩) 2 2)
        have hbb := below_put6 BL.out (Nat.le_succ w.heap.size) (.int .i64 cell) (.slice va vl vc) (.int .i64 0) (.slice (some ⟨g1, 0, none⟩) 2 2) (.slice (some ⟨g2, 0, none⟩) 2 2) (.slice (some ⟨g3, 0, none⟩) 2 2)
        have hss : ∀ x, ¬ w.heap.size + 1 = x → Sm wr (put6 wr (w.heap.size + 1) (.int .i64 cell) (.slice va vl vc) (.int .i64 0) (.slice (some ⟨g1, 0, none⟩) 2 2) (.slice (some ⟨g2, 0, none⟩) 2 2) (.slice (some ⟨g3, 0, none⟩) 2 2)) x := fun x hx => sm_put6 hx _ _ _ _ _ _
        refine ⟨⟨_, rfl, ?_⟩, hbb⟩
        obtain ⟨gW, hgW, hRW⟩ := rw_ofL (lo := w.heap.size) OW.out (by omega)
        rw [show newV c d cell Z k = ⟨cell, (inL c d cell Z k).length, fun i j => Z (inL c d cell Z k)[i]! j, 0, 2, fun _ => 0, fun _ _ _ => 0, 2, fun _ => 0, 2, fun _ => 0⟩ by unfold newV; rw [h1, h2]; rfl]
        show OwnC w.heap.size (put6 wr (w.heap.size + 1) (.int .i64 cell) (.slice va vl vc) (.int .i64 0) (.slice (some ⟨g1, 0, none⟩) 2 2) (.slice (some ⟨g2, 0, none⟩) 2 2) (.slice (some ⟨g3, 0, none⟩) 2 2)).heap.size (put6 wr (w.heap.size + 1) (.int .i64 cell) (.slice va vl vc) (.int .i64 0) (.slice (some ⟨g1, 0, none⟩) 2 2) (.slice (some ⟨g2, 0, none⟩) 2 2) (.slice (some ⟨g3, 0, none⟩) 2 2)) _ _
        rw [hzz]
        have hx1 : Sm w3 (put6 wr (w.heap.size + 1) (.int .i64 cell) (.slice va vl vc) (.int .i64 0) (.slice (some ⟨g1, 0, none⟩) 2 2) (.slice (some ⟨g2, 0, none⟩) 2 2) (.slice (some ⟨g3, 0, none⟩) 2 2)) g1 := (SM.out g1 (by omega) X17).trans (hss g1 (by omega))
        have hx2 : Sm w3 (put6 wr (w.heap.size + 1) (.int .i64 cell) (.slice va vl vc) (.int .i64 0) (.slice (some ⟨g1, 0, none⟩) 2 2) (.slice (some ⟨g2, 0, none⟩) 2 2) (.slice (some ⟨g3, 0, none⟩) 2 2)) g2 := (SM.out g2 (by omega) X27).trans (hss g2 (by omega))
        have hx3 : Sm w3 (put6 wr (w.heap.size + 1) (.int .i64 cell) (.slice va vl vc) (.int .i64 0) (.slice (some ⟨g1, 0, none⟩) 2 2) (.slice (some ⟨g2, 0, none⟩) 2 2) (.slice (some ⟨g3, 0, none⟩) 2 2)) g3 := (SM.out g3 (by omega) X37).trans (hss g3 (by omega))
        refine ⟨_, _, _, _, gW, g1, g2, g3, fun _ => .slice none 0 0, fun i => gW + 1 + i, rfl, hRW.sm (Nat.le_of_eq hzz.symm) (fun _ _ => hss gW (by omega)), .inr ⟨2, rfl, by omega, by omega, Nat.le_of_eq hzz.symm, fun i hi => ⟨?_, .inl ⟨rfl, none, 0, rfl⟩⟩⟩, .inr ⟨2, rfl, by omega, by omega, Nat.le_of_eq hzz.symm, own1_sm O2.out hx2⟩, .inr ⟨2, rfl, by omega, by omega, Nat.le_of_eq hzz.symm, own1_sm O3.out hx3⟩, ⟨by omega, by omega, by omega, X12, X13, X23⟩, fun i hi => ⟨by show ¬ gW + 1 + i = gW; omega, by show ¬ gW + 1 + i = g1; omega, by show ¬ gW + 1 + i = g2; omega, by show ¬ gW + 1 + i = g3; omega⟩, fun i j _ _ hij => by show ¬ gW + 1 + i = gW + 1 + j; omega⟩
        have : i = 0 ∨ i = 1 := by have := hi; simp only at this; omega
        rcases this with rfl | rfl
        · exact (hx1 0).1.trans N1.out.1
        · exact (hx1 1).1.trans N1.out.2
end Go.Proofs.Ytjllgmkficjiaaa
namespace Go.Proofs.Ytjllgmkficjiaaa
open Go.RowKit Go.Deep
set_option linter.unusedVariables false
theorem keepG {W w1 w2 : World} {m k g : Nat} (h : (∀ b o, b < m → ¬ b = g → w1.cell? ⟨b, o, none⟩ = W.cell? ⟨b, o, none⟩) ∧ k ≤ w1.heap.size) (hmk : m ≤ k) (hs : ∀ b, b < m → ¬ b = g → Sm w1 w2 b) (hz : w1.heap.size ≤ w2.heap.size) :
    (∀ b o, b < m → ¬ b = g → w2.cell? ⟨b, o, none⟩ = W.cell? ⟨b, o, none⟩) ∧ k ≤ w2.heap.size :=
  ⟨fun b o hlt hne => (hs b hlt hne o).1.trans (h.1 b o hlt hne), Nat.le_trans h.2 hz⟩
theorem P8.grown_of_below2 {w w' : World} {r : Option Nat} (h : Below w.heap.size w w') : w.grownBy w' r := by
  have := P8.grown_of_below h
  exact ⟨this.os, this.tape, this.output, this.size, fun k hk _ => this.block k hk (by simp)⟩
theorem own1_lit (w : World) : Own1 (w.alloc (.cells #[.int .i64 0, .int .i64 0] 3)) w.heap.size 2 (fun _ => 0) 2 := by
  refine ⟨fun i hi => ?_, fun j hj => ?_⟩
  · have : i = 0 ∨ i = 1 := by omega
    rcases this with rfl | rfl <;> exact ⟨by simp, by simp⟩
  · have : j = 0 ∨ j = 1 := by omega
    rcases this with rfl | rfl <;> simp
theorem snew_facts (w2 : World) (cell : Int) : ((((((w2.alloc (.cells #[] 64)).alloc (.cells #[] 64)).alloc (.cells #[.slice (some ⟨w2.heap.size, 0, none⟩) 0 0, .slice (some ⟨w2.heap.size + 1, 0, none⟩) 0 0] 51)).alloc (.cells #[.int .i64 0, .int .i64 0] 3)).alloc (.cells #[.int .i64 0, .int .i64 0] 3)).alloc (.cells #[.int .i64 cell, .slice none 0 0, .int .i64 0, .slice (some ⟨w2.heap.size + 1 + 1, 0, none⟩) 2 2, .slice (some ⟨w2.heap.size + 1 + 1 + 1, 0, none⟩) 2 2, .slice (some ⟨w2.heap.size + 1 + 1 + 1 + 1, 0, none⟩) 2 2] 31)).cell? ⟨w2.heap.size + 1 + 1, 0, none⟩ = some (.slice (some ⟨w2.heap.size, 0, none⟩) 0 0) ∧ ((((((w2.alloc (.cells #[] 64)).alloc (.cells #[] 64)).alloc (.cells #[.slice (some ⟨w2.heap.size, 0, none⟩) 0 0, .slice (some ⟨w2.heap.size + 1, 0, none⟩) 0 0] 51)).alloc (.cells #[.int .i64 0, .int .i64 0] 3)).alloc (.cells #[.int .i64 0, .int .i64 0] 3)).alloc (.cells #[.int .i64 cell, .slice none 0 0, .int .i64 0, .slice (some ⟨w2.heap.size + 1 + 1, 0, none⟩) 2 2, .slice (some ⟨w2.heap.size + 1 + 1 + 1, 0, none⟩) 2 2, .slice (some ⟨w2.heap.size + 1 + 1 + 1 + 1, 0, none⟩) 2 2] 31)).cell? ⟨w2.heap.size + 1 + 1, 1, none⟩ = some (.slice (some ⟨w2.heap.size + 1, 0, none⟩) 0 0) ∧ Own1 ((((((w2.alloc (.cells #[] 64)).alloc (.cells #[] 64)).alloc (.cells #[.slice (some ⟨w2.heap.size, 0, none⟩) 0 0, .slice (some ⟨w2.heap.size + 1, 0, none⟩) 0 0] 51)).alloc (.cells #[.int .i64 0, .int .i64 0] 3)).alloc (.cells #[.int .i64 0, .int .i64 0] 3)).alloc (.cells #[.int .i64 cell, .slice none 0 0, .int .i64 0, .slice (some ⟨w2.heap.size + 1 + 1, 0, none⟩) 2 2, .slice (some ⟨w2.heap.size + 1 + 1 + 1, 0, none⟩) 2 2, .slice (some ⟨w2.heap.size + 1 + 1 + 1 + 1, 0, none⟩) 2 2] 31)) (w2.heap.size + 1 + 1 + 1) 2 (fun _ => 0) 2 ∧ Own1 ((((((w2.alloc (.cells #[] 64)).alloc (.cells #[] 64)).alloc (.cells #[.slice (some ⟨w2.heap.size, 0, none⟩) 0 0, .slice (some ⟨w2.heap.size + 1, 0, none⟩) 0 0] 51)).alloc (.cells #[.int .i64 0, .int .i64 0] 3)).alloc (.cells #[.int .i64 0, .int .i64 0] 3)).alloc (.cells #[.int .i64 cell, .slice none 0 0, .int .i64 0, .slice (some ⟨w2.heap.size + 1 + 1, 0, none⟩) 2 2, .slice (some ⟨w2.heap.size + 1 + 1 + 1, 0, none⟩) 2 2, .slice (some ⟨w2.heap.size + 1 + 1 + 1 + 1, 0, none⟩) 2 2] 31)) (w2.heap.size + 1 + 1 + 1 + 1) 2 (fun _ => 0) 2 ∧ Six ((((((w2.alloc (.cells #[] 64)).alloc (.cells #[] 64)).alloc (.cells #[.slice (some ⟨w2.heap.size, 0, none⟩) 0 0, .slice (some ⟨w2.heap.size + 1, 0, none⟩) 0 0] 51)).alloc (.cells #[.int .i64 0, .int .i64 0] 3)).alloc (.cells #[.int .i64 0, .int .i64 0] 3)).alloc (.cells #[.int .i64 cell, .slice none 0 0, .int .i64 0, .slice (some ⟨w2.heap.size + 1 + 1, 0, none⟩) 2 2, .slice (some ⟨w2.heap.size + 1 + 1 + 1, 0, none⟩) 2 2, .slice (some ⟨w2.heap.size + 1 + 1 + 1 + 1, 0, none⟩) 2 2] 31)) (w2.heap.size + 1 + 1 + 1 + 1 + 1) [.int .i64 cell, .slice none 0 0, .int .i64 0, .slice (some ⟨w2.heap.size + 1 + 1, 0, none⟩) 2 2, .slice (some ⟨w2.heap.size + 1 + 1 + 1, 0, none⟩) 2 2, .slice (some ⟨w2.heap.size + 1 + 1 + 1 + 1, 0, none⟩) 2 2] := by
  generalize ha : w2.alloc (.cells #[] 64) = wa
  have za : wa.heap.size = w2.heap.size + 1 := by rw [← ha]; simp
  generalize hb : wa.alloc (.cells #[] 64) = wb
  have zb : wb.heap.size = w2.heap.size + 1 + 1 := by rw [← hb]; simp [za]
  generalize hc : wb.alloc (.cells #[.slice (some ⟨w2.heap.size, 0, none⟩) 0 0, .slice (some ⟨w2.heap.size + 1, 0, none⟩) 0 0] 51) = wc
  have zc : wc.heap.size = w2.heap.size + 1 + 1 + 1 := by rw [← hc]; simp [zb]
  have c0 : wc.cell? ⟨w2.heap.size + 1 + 1, 0, none⟩ = some (.slice (some ⟨w2.heap.size, 0, none⟩) 0 0) := by rw [← hc, ← zb]; simp
  have c1 : wc.cell? ⟨w2.heap.size + 1 + 1, 1, none⟩ = some (.slice (some ⟨w2.heap.size + 1, 0, none⟩) 0 0) := by rw [← hc, ← zb]; simp
  generalize hd : wc.alloc (.cells #[.int .i64 0, .int .i64 0] 3) = wd
  have zd : wd.heap.size = w2.heap.size + 1 + 1 + 1 + 1 := by rw [← hd]; simp [zc]
  have kd : Below wc.heap.size wc wd := by rw [← hd]; exact (Below.refl _ _).alloc (Nat.le_refl _) _
  have o2 : Own1 wd (w2.heap.size + 1 + 1 + 1) 2 (fun _ => 0) 2 := by rw [← hd, ← zc]; exact own1_lit wc
  generalize he : wd.alloc (.cells #[.int .i64 0, .int .i64 0] 3) = we
  have ze : we.heap.size = w2.heap.size + 1 + 1 + 1 + 1 + 1 := by rw [← he]; simp [zd]
  have ke : Below wd.heap.size wd we := by rw [← he]; exact (Below.refl _ _).alloc (Nat.le_refl _) _
  have o3 : Own1 we (w2.heap.size + 1 + 1 + 1 + 1) 2 (fun _ => 0) 2 := by rw [← he, ← zd]; exact own1_lit wd
  have kf : Below we.heap.size we (we.alloc (.cells #[.int .i64 cell, .slice none 0 0, .int .i64 0, .slice (some ⟨w2.heap.size + 1 + 1, 0, none⟩) 2 2, .slice (some ⟨w2.heap.size + 1 + 1 + 1, 0, none⟩) 2 2, .slice (some ⟨w2.heap.size + 1 + 1 + 1 + 1, 0, none⟩) 2 2] 31)) := (Below.refl _ _).alloc (Nat.le_refl _) _
  have s7 := six_new we 31 (.int .i64 cell) (.slice none 0 0) (.int .i64 0) (.slice (some ⟨w2.heap.size + 1 + 1, 0, none⟩) 2 2) (.slice (some ⟨w2.heap.size + 1 + 1 + 1, 0, none⟩) 2 2) (.slice (some ⟨w2.heap.size + 1 + 1 + 1 + 1, 0, none⟩) 2 2)
  rw [ze] at s7
  have k1 := bthen (bthen kd ke) kf
  exact ⟨(k1.cell (p := ⟨w2.heap.size + 1 + 1, 0, none⟩) (by show w2.heap.size + 1 + 1 < _; omega)).trans c0, (k1.cell (p := ⟨w2.heap.size + 1 + 1, 1, none⟩) (by show w2.heap.size + 1 + 1 < _; omega)).trans c1, own1_below o2 (by omega) (bthen ke kf), own1_below o3 (by omega) kf, s7⟩
set_option maxRecDepth 20000 in
set_option maxHeartbeats 4000000 in
theorem new_spec (c d cell : Int) (b n cap : Nat) (Z : Nat → Nat → Int) (hn : n ≤ 1048576) (w : World) (hb : b < w.heap.size) (hr : ∀ k j, k < n → j < 5 → w.cell? ⟨b, 0 + k * 5 + j, none⟩ = some (.int .i64 (Z k j))) :
    Calls Try.prog 7 #[.agg #[.int .i64 c, .int .i64 d], .int .i64 cell, .slice (some ⟨b, 0, none⟩) n cap] w fun e w' => (∃ v, e = .returned v ∧ OwnC w.heap.size w'.heap.size w' v (newV c d cell Z n)) ∧ Below w.heap.size w w' := by
  have HR : Hid (∀ k j, k < n → j < 5 → w.cell? ⟨b, 0 + k * 5 + j, none⟩ = some (.int .i64 (Z k j))) := hr
  clear hr
  obtain ⟨i5, hi5, hzz⟩ := Option.map_eq_some_iff.1 Try.info46
  simp only [Prod.mk.injEq] at hzz
  obtain ⟨hz50, hz51, hz52⟩ := hzz
  cases h0 : okB c d
  · have h01 : hasB c d cell = false := by simp [hasB, h0]
    have E : Hid (newV c d cell Z n = ⟨0, 0, fun _ _ => 0, 0, 0, fun _ => 0, fun _ _ _ => 0, 0, fun _ => 0, 0, fun _ => 0⟩) := by show newV c d cell Z n = _; unfold newV; rw [h01]; rfl
    clear h01
    go_enter Try.func7, Try.ntmps7
    go_wp2_with fail
    obtain ⟨w0, e0⟩ : ∃ w0, w0 = (w.alloc (.cells #[.int .i64 c, .int .i64 d] 24)).alloc (.cells #[.int .i64 0, .slice none 0 0, .int .i64 0, .slice none 0 0, .slice none 0 0, .slice none 0 0] 31) := ⟨_, rfl⟩
    have z0 : w.heap.size + 2 ≤ w0.heap.size := by rw [e0]; simp
    have B0 : Hid (Below w.heap.size w w0) := by rw [e0]; exact ((Below.refl _ _).alloc (by simp) _).alloc (by simp) _
    have M0 : Hid (w0.cell? ⟨w.heap.size, 0, none⟩ = some (.int .i64 c) ∧ w0.cell? ⟨w.heap.size, 1, none⟩ = some (.int .i64 d)) := by rw [e0]; exact two_box w c d _
    have R0 : Hid (Six w0 (w.heap.size + 1) [.int .i64 0, .slice none 0 0, .int .i64 0, .slice none 0 0, .slice none 0 0, .slice none 0 0]) := by rw [e0]; exact six_box2 w _ 24 31 _ _ _ _ _ _
    rw [← e0]
    clear e0
    refine (ok_spec _ _ _).mono ?_
    rintro e w1 ⟨rfl, hb1⟩
    rw [h0]
    have B1 : Hid (Below w.heap.size w w1) := bthen B0.out hb1
    have M1 : Hid (w1.cell? ⟨w.heap.size, 0, none⟩ = some (.int .i64 c) ∧ w1.cell? ⟨w.heap.size, 1, none⟩ = some (.int .i64 d)) := ⟨(hb1.cell (p := ⟨w.heap.size, 0, none⟩) (by show w.heap.size < _; omega)).trans M0.out.1, (hb1.cell (p := ⟨w.heap.size, 1, none⟩) (by show w.heap.size < _; omega)).trans M0.out.2⟩
    have R1 : Hid (Six w1 (w.heap.size + 1) [.int .i64 0, .slice none 0 0, .int .i64 0, .slice none 0 0, .slice none 0 0, .slice none 0 0]) := R0.out.below (by omega) hb1
    have z1 : w.heap.size + 2 ≤ w1.heap.size := Nat.le_trans z0 hb1.size
    clear hb1 B0 M0 R0
    have m0 : w1.cell? ⟨w.heap.size, 0, none⟩ = some (.int .i64 c) := M1.out.1
    have m1 : w1.cell? ⟨w.heap.size, 1, none⟩ = some (.int .i64 d) := M1.out.2
    have lM : w.heap.size < w1.heap.size := by omega
    have r0 := (R1.out 0 (by decide)).1
    have q0 := (R1.out 0 (by decide)).2
    have r1 := (R1.out 1 (by decide)).1
    have q1 := (R1.out 1 (by decide)).2
    have r2 := (R1.out 2 (by decide)).1
    have q2 := (R1.out 2 (by decide)).2
    have r3 := (R1.out 3 (by decide)).1
    have q3 := (R1.out 3 (by decide)).2
    have r4 := (R1.out 4 (by decide)).1
    have q4 := (R1.out 4 (by decide)).2
    have r5 := (R1.out 5 (by decide)).1
    have q5 := (R1.out 5 (by decide)).2
    simp only [List.getD, List.getElem?_cons_zero, List.getElem?_cons_succ, Option.getD_some] at r0 r1 r2 r3 r4 r5
    have lr : w.heap.size + 1 < w1.heap.size := by omega
    go_wp2
    refine bodyPost_ret (v := .agg #[.int .i64 0, .slice none 0 0, .int .i64 0, .slice none 0 0, .slice none 0 0, .slice none 0 0]) (by simp [results, Try.results7, go_sem, r0, r1, r2, r3, r4, r5]) rfl ?_
    exact ⟨⟨_, rfl, by rw [E.out]; exact nothing_own _ _ _⟩, below_put6 B1.out (Nat.le_succ w.heap.size) _ _ _ _ _ _⟩
  obtain ⟨x1, x2, x3, x4⟩ := okB_bounds h0
  cases h1 : inB cell 0 (c - 1)
  · have h01 : hasB c d cell = false := by simp [hasB, h0, h1]
    have E : Hid (newV c d cell Z n = ⟨0, 0, fun _ _ => 0, 0, 0, fun _ => 0, fun _ _ _ => 0, 0, fun _ => 0, 0, fun _ => 0⟩) := by show newV c d cell Z n = _; unfold newV; rw [h01]; rfl
    clear h01
    go_enter Try.func7, Try.ntmps7
    go_wp2_with fail
    obtain ⟨w0, e0⟩ : ∃ w0, w0 = (w.alloc (.cells #[.int .i64 c, .int .i64 d] 24)).alloc (.cells #[.int .i64 0, .slice none 0 0, .int .i64 0, .slice none 0 0, .slice none 0 0, .slice none 0 0] 31) := ⟨_, rfl⟩
    have z0 : w.heap.size + 2 ≤ w0.heap.size := by rw [e0]; simp
    have B0 : Hid (Below w.heap.size w w0) := by rw [e0]; exact ((Below.refl _ _).alloc (by simp) _).alloc (by simp) _
    have M0 : Hid (w0.cell? ⟨w.heap.size, 0, none⟩ = some (.int .i64 c) ∧ w0.cell? ⟨w.heap.size, 1, none⟩ = some (.int .i64 d)) := by rw [e0]; exact two_box w c d _
    have R0 : Hid (Six w0 (w.heap.size + 1) [.int .i64 0, .slice none 0 0, .int .i64 0, .slice none 0 0, .slice none 0 0, .slice none 0 0]) := by rw [e0]; exact six_box2 w _ 24 31 _ _ _ _ _ _
    rw [← e0]
    clear e0
    refine (ok_spec _ _ _).mono ?_
    rintro e w1 ⟨rfl, hb1⟩
    rw [h0]
    have B1 : Hid (Below w.heap.size w w1) := bthen B0.out hb1
    have M1 : Hid (w1.cell? ⟨w.heap.size, 0, none⟩ = some (.int .i64 c) ∧ w1.cell? ⟨w.heap.size, 1, none⟩ = some (.int .i64 d)) := ⟨(hb1.cell (p := ⟨w.heap.size, 0, none⟩) (by show w.heap.size < _; omega)).trans M0.out.1, (hb1.cell (p := ⟨w.heap.size, 1, none⟩) (by show w.heap.size < _; omega)).trans M0.out.2⟩
    have R1 : Hid (Six w1 (w.heap.size + 1) [.int .i64 0, .slice none 0 0, .int .i64 0, .slice none 0 0, .slice none 0 0, .slice none 0 0]) := R0.out.below (by omega) hb1
    have z1 : w.heap.size + 2 ≤ w1.heap.size := Nat.le_trans z0 hb1.size
    clear hb1 B0 M0 R0
    have m0 : w1.cell? ⟨w.heap.size, 0, none⟩ = some (.int .i64 c) := M1.out.1
    have m1 : w1.cell? ⟨w.heap.size, 1, none⟩ = some (.int .i64 d) := M1.out.2
    have lM : w.heap.size < w1.heap.size := by omega
    go_wp2_with fail
    refine (in_spec _ _ _ _).mono ?_
    rintro e w2 ⟨rfl, e2⟩
    rw [e2, h1]
    clear e2 w2
    have r0 := (R1.out 0 (by decide)).1
    have q0 := (R1.out 0 (by decide)).2
    have r1 := (R1.out 1 (by decide)).1
    have q1 := (R1.out 1 (by decide)).2
    have r2 := (R1.out 2 (by decide)).1
    have q2 := (R1.out 2 (by decide)).2
    have r3 := (R1.out 3 (by decide)).1
    have q3 := (R1.out 3 (by decide)).2
    have r4 := (R1.out 4 (by decide)).1
    have q4 := (R1.out 4 (by decide)).2
    have r5 := (R1.out 5 (by decide)).1
    have q5 := (R1.out 5 (by decide)).2
    simp only [List.getD, List.getElem?_cons_zero, List.getElem?_cons_succ, Option.getD_some] at r0 r1 r2 r3 r4 r5
    have lr : w.heap.size + 1 < w1.heap.size := by omega
    go_wp2
    refine bodyPost_ret (v := .agg #[.int .i64 0, .slice none 0 0, .int .i64 0, .slice none 0 0, .slice none 0 0, .slice none 0 0]) (by simp [results, Try.results7, go_sem, r0, r1, r2, r3, r4, r5]) rfl ?_
    exact ⟨⟨_, rfl, by rw [E.out]; exact nothing_own _ _ _⟩, below_put6 B1.out (Nat.le_succ w.heap.size) _ _ _ _ _ _⟩
  have h01 : hasB c d cell = true := by simp [hasB, h0, h1]
  have H01 : Hid (hasB c d cell = true) := h01
  clear h01
  cases h2 : allB c d Z n
  · have E : Hid (newV c d cell Z n = ⟨0, 0, fun _ _ => 0, 0, 0, fun _ => 0, fun _ _ _ => 0, 0, fun _ => 0, 0, fun _ => 0⟩) := by show newV c d cell Z n = _; unfold newV; rw [H01.out, h2]; rfl
    go_enter Try.func7, Try.ntmps7
    go_wp2_with fail
    obtain ⟨w0, e0⟩ : ∃ w0, w0 = (w.alloc (.cells #[.int .i64 c, .int .i64 d] 24)).alloc (.cells #[.int .i64 0, .slice none 0 0, .int .i64 0, .slice none 0 0, .slice none 0 0, .slice none 0 0] 31) := ⟨_, rfl⟩
    have z0 : w.heap.size + 2 ≤ w0.heap.size := by rw [e0]; simp
    have B0 : Hid (Below w.heap.size w w0) := by rw [e0]; exact ((Below.refl _ _).alloc (by simp) _).alloc (by simp) _
    have M0 : Hid (w0.cell? ⟨w.heap.size, 0, none⟩ = some (.int .i64 c) ∧ w0.cell? ⟨w.heap.size, 1, none⟩ = some (.int .i64 d)) := by rw [e0]; exact two_box w c d _
    have R0 : Hid (Six w0 (w.heap.size + 1) [.int .i64 0, .slice none 0 0, .int .i64 0, .slice none 0 0, .slice none 0 0, .slice none 0 0]) := by rw [e0]; exact six_box2 w _ 24 31 _ _ _ _ _ _
    rw [← e0]
    clear e0
    refine (ok_spec _ _ _).mono ?_
    rintro e w1 ⟨rfl, hb1⟩
    rw [h0]
    have B1 : Hid (Below w.heap.size w w1) := bthen B0.out hb1
    have M1 : Hid (w1.cell? ⟨w.heap.size, 0, none⟩ = some (.int .i64 c) ∧ w1.cell? ⟨w.heap.size, 1, none⟩ = some (.int .i64 d)) := ⟨(hb1.cell (p := ⟨w.heap.size, 0, none⟩) (by show w.heap.size < _; omega)).trans M0.out.1, (hb1.cell (p := ⟨w.heap.size, 1, none⟩) (by show w.heap.size < _; omega)).trans M0.out.2⟩
    have R1 : Hid (Six w1 (w.heap.size + 1) [.int .i64 0, .slice none 0 0, .int .i64 0, .slice none 0 0, .slice none 0 0, .slice none 0 0]) := R0.out.below (by omega) hb1
    have z1 : w.heap.size + 2 ≤ w1.heap.size := Nat.le_trans z0 hb1.size
    clear hb1 B0 M0 R0
    have m0 : w1.cell? ⟨w.heap.size, 0, none⟩ = some (.int .i64 c) := M1.out.1
    have m1 : w1.cell? ⟨w.heap.size, 1, none⟩ = some (.int .i64 d) := M1.out.2
    have lM : w.heap.size < w1.heap.size := by omega
    go_wp2_with fail
    refine (in_spec _ _ _ _).mono ?_
    rintro e w2 ⟨rfl, e2⟩
    rw [e2, h1]
    clear e2 w2
    go_wp2_with fail
    refine (listOk_spec c d b 0 n cap Z hn _ (by omega) (fun k j a1 a2 => (B1.out.cell (p := ⟨b, _, none⟩) hb).trans (HR.out k j a1 a2))).mono ?_
    rintro e w2 ⟨rfl, hb2⟩
    rw [h2]
    clear m0 m1 lM
    have B2 : Hid (Below w.heap.size w w2) := bthen B1.out hb2
    have M2 : Hid (w2.cell? ⟨w.heap.size, 0, none⟩ = some (.int .i64 c) ∧ w2.cell? ⟨w.heap.size, 1, none⟩ = some (.int .i64 d)) := ⟨(hb2.cell (p := ⟨w.heap.size, 0, none⟩) (by show w.heap.size < _; omega)).trans M1.out.1, (hb2.cell (p := ⟨w.heap.size, 1, none⟩) (by show w.heap.size < _; omega)).trans M1.out.2⟩
    have R2 : Hid (Six w2 (w.heap.size + 1) [.int .i64 0, .slice none 0 0, .int .i64 0, .slice none 0 0, .slice none 0 0, .slice none 0 0]) := R1.out.below (by omega) hb2
    have z2 : w.heap.size + 2 ≤ w2.heap.size := Nat.le_trans z1 hb2.size
    clear hb2 B1 M1 R1
    have m0 : w2.cell? ⟨w.heap.size, 0, none⟩ = some (.int .i64 c) := M2.out.1
    have m1 : w2.cell? ⟨w.heap.size, 1, none⟩ = some (.int .i64 d) := M2.out.2
    have lM : w.heap.size < w2.heap.size := by omega
    have r0 := (R2.out 0 (by decide)).1
    have q0 := (R2.out 0 (by decide)).2
    have r1 := (R2.out 1 (by decide)).1
    have q1 := (R2.out 1 (by decide)).2
    have r2 := (R2.out 2 (by decide)).1
    have q2 := (R2.out 2 (by decide)).2
    have r3 := (R2.out 3 (by decide)).1
    have q3 := (R2.out 3 (by decide)).2
    have r4 := (R2.out 4 (by decide)).1
    have q4 := (R2.out 4 (by decide)).2
    have r5 := (R2.out 5 (by decide)).1
    have q5 := (R2.out 5 (by decide)).2
    simp only [List.getD, List.getElem?_cons_zero, List.getElem?_cons_succ, Option.getD_some] at r0 r1 r2 r3 r4 r5
    have lr : w.heap.size + 1 < w2.heap.size := by omega
    go_wp2
    refine bodyPost_ret (v := .agg #[.int .i64 0, .slice none 0 0, .int .i64 0, .slice none 0 0, .slice none 0 0, .slice none 0 0]) (by simp [results, Try.results7, go_sem, r0, r1, r2, r3, r4, r5]) rfl ?_
    exact ⟨⟨_, rfl, by rw [E.out]; exact nothing_own _ _ _⟩, below_put6 B2.out (Nat.le_succ w.heap.size) _ _ _ _ _ _⟩
  go_enter Try.func7, Try.ntmps7
  go_wp2_with fail
  obtain ⟨w0, e0⟩ : ∃ w0, w0 = (w.alloc (.cells #[.int .i64 c, .int .i64 d] 24)).alloc (.cells #[.int .i64 0, .slice none 0 0, .int .i64 0, .slice none 0 0, .slice none 0 0, .slice none 0 0] 31) := ⟨_, rfl⟩
  have z0 : w.heap.size + 2 ≤ w0.heap.size := by rw [e0]; simp
  have B0 : Hid (Below w.heap.size w w0) := by rw [e0]; exact ((Below.refl _ _).alloc (by simp) _).alloc (by simp) _
  have M0 : Hid (w0.cell? ⟨w.heap.size, 0, none⟩ = some (.int .i64 c) ∧ w0.cell? ⟨w.heap.size, 1, none⟩ = some (.int .i64 d)) := by rw [e0]; exact two_box w c d _
  have R0 : Hid (Six w0 (w.heap.size + 1) [.int .i64 0, .slice none 0 0, .int .i64 0, .slice none 0 0, .slice none 0 0, .slice none 0 0]) := by rw [e0]; exact six_box2 w _ 24 31 _ _ _ _ _ _
  rw [← e0]
  clear e0
  refine (ok_spec _ _ _).mono ?_
  rintro e w1 ⟨rfl, hb1⟩
  rw [h0]
  have B1 : Hid (Below w.heap.size w w1) := bthen B0.out hb1
  have M1 : Hid (w1.cell? ⟨w.heap.size, 0, none⟩ = some (.int .i64 c) ∧ w1.cell? ⟨w.heap.size, 1, none⟩ = some (.int .i64 d)) := ⟨(hb1.cell (p := ⟨w.heap.size, 0, none⟩) (by show w.heap.size < _; omega)).trans M0.out.1, (hb1.cell (p := ⟨w.heap.size, 1, none⟩) (by show w.heap.size < _; omega)).trans M0.out.2⟩
  have R1 : Hid (Six w1 (w.heap.size + 1) [.int .i64 0, .slice none 0 0, .int .i64 0, .slice none 0 0, .slice none 0 0, .slice none 0 0]) := R0.out.below (by omega) hb1
  have z1 : w.heap.size + 2 ≤ w1.heap.size := Nat.le_trans z0 hb1.size
  clear hb1 B0 M0 R0
  have m0 : w1.cell? ⟨w.heap.size, 0, none⟩ = some (.int .i64 c) := M1.out.1
  have m1 : w1.cell? ⟨w.heap.size, 1, none⟩ = some (.int .i64 d) := M1.out.2
  have lM : w.heap.size < w1.heap.size := by omega
  go_wp2_with fail
  refine (in_spec _ _ _ _).mono ?_
  rintro e w2 ⟨rfl, e2⟩
  rw [e2, h1]
  clear e2 w2
  go_wp2_with fail
  refine (listOk_spec c d b 0 n cap Z hn _ (by omega) (fun k j a1 a2 => (B1.out.cell (p := ⟨b, _, none⟩) hb).trans (HR.out k j a1 a2))).mono ?_
  rintro e w2 ⟨rfl, hb2⟩
  rw [h2]
  clear m0 m1 lM
  have B2 : Hid (Below w.heap.size w w2) := bthen B1.out hb2
  have M2 : Hid (w2.cell? ⟨w.heap.size, 0, none⟩ = some (.int .i64 c) ∧ w2.cell? ⟨w.heap.size, 1, none⟩ = some (.int .i64 d)) := ⟨(hb2.cell (p := ⟨w.heap.size, 0, none⟩) (by show w.heap.size < _; omega)).trans M1.out.1, (hb2.cell (p := ⟨w.heap.size, 1, none⟩) (by show w.heap.size < _; omega)).trans M1.out.2⟩
  have R2 : Hid (Six w2 (w.heap.size + 1) [.int .i64 0, .slice none 0 0, .int .i64 0, .slice none 0 0, .slice none 0 0, .slice none 0 0]) := R1.out.below (by omega) hb2
  have z2 : w.heap.size + 2 ≤ w2.heap.size := Nat.le_trans z1 hb2.size
  clear hb2 B1 M1 R1
  have m0 : w2.cell? ⟨w.heap.size, 0, none⟩ = some (.int .i64 c) := M2.out.1
  have m1 : w2.cell? ⟨w.heap.size, 1, none⟩ = some (.int .i64 d) := M2.out.2
  have lM : w.heap.size < w2.heap.size := by omega
  go_wp2
  clear m0 m1 lM
  obtain ⟨w3, e3⟩ : ∃ w3, w3 = ((((((w2.alloc (.cells #[] 64)).alloc (.cells #[] 64)).alloc (.cells #[.slice (some ⟨w2.heap.size, 0, none⟩) 0 0, .slice (some ⟨w2.heap.size + 1, 0, none⟩) 0 0] 51)).alloc (.cells #[.int .i64 0, .int .i64 0] 3)).alloc (.cells #[.int .i64 0, .int .i64 0] 3)).alloc (.cells #[.int .i64 cell, .slice none 0 0, .int .i64 0, .slice (some ⟨w2.heap.size + 1 + 1, 0, none⟩) 2 2, .slice (some ⟨w2.heap.size + 1 + 1 + 1, 0, none⟩) 2 2, .slice (some ⟨w2.heap.size + 1 + 1 + 1 + 1, 0, none⟩) 2 2] 31)) := ⟨_, rfl⟩
  have hB : Below w2.heap.size w2 w3 := by rw [e3]; exact (((((((Below.refl _ _).alloc (by simp) _).alloc (by simp) _).alloc (by simp; omega) _).alloc (by simp; omega) _).alloc (by simp; omega) _).alloc (by simp; omega) _)
  have zz3 : w3.heap.size = w2.heap.size + 6 := by rw [e3]; simp
  have FX := snew_facts w2 cell
  rw [← e3] at FX ⊢
  clear e3
  obtain ⟨n1, n2, o2, o3, s7⟩ := FX
  have L7b : w2.heap.size + 1 + 1 + 1 + 1 + 1 < w3.heap.size := by omega
  have L37 : w2.heap.size + 1 + 1 + 1 + 1 < w2.heap.size + 1 + 1 + 1 + 1 + 1 := by omega
  have L23 : w2.heap.size + 1 + 1 + 1 < w2.heap.size + 1 + 1 + 1 + 1 := by omega
  have L12 : w2.heap.size + 1 + 1 < w2.heap.size + 1 + 1 + 1 := by omega
  have L1a : w2.heap.size < w2.heap.size + 1 + 1 := by omega
  have z3 : w2.heap.size + 6 ≤ w3.heap.size := by omega
  clear zz3
  generalize w2.heap.size + 1 + 1 + 1 + 1 + 1 = g7 at *
  generalize w2.heap.size + 1 + 1 + 1 + 1 = g3 at *
  generalize w2.heap.size + 1 + 1 + 1 = g2 at *
  generalize w2.heap.size + 1 + 1 = g1 at *
  have B3 : Hid (Below w.heap.size w w3) := bthen B2.out hB
  have M3 : Hid (w3.cell? ⟨w.heap.size, 0, none⟩ = some (.int .i64 c) ∧ w3.cell? ⟨w.heap.size, 1, none⟩ = some (.int .i64 d)) := ⟨(hB.cell (p := ⟨w.heap.size, 0, none⟩) (by show w.heap.size < _; omega)).trans M2.out.1, (hB.cell (p := ⟨w.heap.size, 1, none⟩) (by show w.heap.size < _; omega)).trans M2.out.2⟩
  have R3 : Hid (Six w3 (w.heap.size + 1) [.int .i64 0, .slice none 0 0, .int .i64 0, .slice none 0 0, .slice none 0 0, .slice none 0 0]) := R2.out.below (by omega) hB
  have S3 : Hid (Six w3 g7 [.int .i64 cell, .slice none 0 0, .int .i64 0, .slice (some ⟨g1, 0, none⟩) 2 2, .slice (some ⟨g2, 0, none⟩) 2 2, .slice (some ⟨g3, 0, none⟩) 2 2]) := s7
  have N1 : Hid (w3.cell? ⟨g1, 0, none⟩ = some (.slice (some ⟨w2.heap.size, 0, none⟩) 0 0) ∧ w3.cell? ⟨g1, 1, none⟩ = some (.slice (some ⟨w2.heap.size + 1, 0, none⟩) 0 0)) := ⟨n1, n2⟩
  have O2 : Hid (Own1 w3 g2 2 (fun _ => 0) 2) := o2
  have O3 : Hid (Own1 w3 g3 2 (fun _ => 0) 2) := o3
  clear hB B2 M2 R2 s7 n1 n2 o2 o3
  go_loopw [8] (fun i wr => ∃ (k : Nat) (v : Value), k ≤ n ∧ i = .int .i64 k ∧ Six wr g7 [.int .i64 cell, v, .int .i64 0, .slice (some ⟨g1, 0, none⟩) 2 2, .slice (some ⟨g2, 0, none⟩) 2 2, .slice (some ⟨g3, 0, none⟩) 2 2] ∧ wr.ownsRow w3.heap.size 46 5 v (inL c d cell Z k).length ((inL c d cell Z k).flatMap (five5 Z)) ∧ (∀ x, x < w3.heap.size → ¬ x = g7 → Sm w3 wr x) ∧ w3.heap.size ≤ wr.heap.size ∧ Below w.heap.size w wr) (fun i _ => n - (intOf i).toNat)
  case atStart => exact ⟨0, _, Nat.zero_le _, rfl, S3.out, ⟨rfl, .inl ⟨rfl, rfl⟩⟩, fun x _ _ => Sm.refl _ _, Nat.le_refl _, B3.out⟩
  case round =>
    obtain ⟨k, v, hk, rfl, hsix, hown, hsm, hsz, hbel⟩ := hrel
    obtain ⟨va, vl, vc, hvv⟩ := own_shape hown
    subst hvv
    have SX : Hid (Six wr g7 [.int .i64 cell, .slice va vl vc, .int .i64 0, .slice (some ⟨g1, 0, none⟩) 2 2, .slice (some ⟨g2, 0, none⟩) 2 2, .slice (some ⟨g3, 0, none⟩) 2 2]) := hsix
    have OW : Hid (wr.ownsRow w3.heap.size 46 5 (.slice va vl vc) (inL c d cell Z k).length ((inL c d cell Z k).flatMap (five5 Z))) := hown
    have SM : Hid (∀ x, x < w3.heap.size → ¬ x = g7 → Sm w3 wr x) := hsm
    have BL : Hid (Below w.heap.size w wr) := hbel
    have hlen : (inL c d cell Z k).length ≤ k := inL_len c d cell Z k
    have m0 : wr.cell? ⟨w.heap.size, 0, none⟩ = some (.int .i64 c) := ((hsm w.heap.size (by omega) (by omega)) 0).1.trans M3.out.1
    have m1 : wr.cell? ⟨w.heap.size, 1, none⟩ = some (.int .i64 d) := ((hsm w.heap.size (by omega) (by omega)) 1).1.trans M3.out.2
    have lM : w.heap.size < wr.heap.size := by omega
    clear hsix hown hsm hbel
    by_cases hkn : k < n
    · have hkn' : (k : Int) < n := by omega
      have c0 : wr.cell? ⟨b, k * 5, none⟩ = some (.int .i64 (Z k 0)) := by have := (BL.out.cell (p := ⟨b, 0 + k * 5 + 0, none⟩) hb).trans (HR.out k 0 hkn (by omega)); simpa using this
      have c1 : wr.cell? ⟨b, k * 5 + 1, none⟩ = some (.int .i64 (Z k 1)) := by have := (BL.out.cell (p := ⟨b, 0 + k * 5 + 1, none⟩) hb).trans (HR.out k 1 hkn (by omega)); simpa using this
      have c2 : wr.cell? ⟨b, k * 5 + 2, none⟩ = some (.int .i64 (Z k 2)) := by have := (BL.out.cell (p := ⟨b, 0 + k * 5 + 2, none⟩) hb).trans (HR.out k 2 hkn (by omega)); simpa using this
      have c3 : wr.cell? ⟨b, k * 5 + 3, none⟩ = some (.int .i64 (Z k 3)) := by have := (BL.out.cell (p := ⟨b, 0 + k * 5 + 3, none⟩) hb).trans (HR.out k 3 hkn (by omega)); simpa using this
      have c4 : wr.cell? ⟨b, k * 5 + 4, none⟩ = some (.int .i64 (Z k 4)) := by have := (BL.out.cell (p := ⟨b, 0 + k * 5 + 4, none⟩) hb).trans (HR.out k 4 hkn (by omega)); simpa using this
      have lb : b < wr.heap.size := by omega
      cases hp : (cellF c d (Z k 1) == cell)
      · go_wp2
        refine wp_region_held_drew (S := fun w' => (∀ b o, b < wr.heap.size → w'.cell? ⟨b, o, none⟩ = wr.cell? ⟨b, o, none⟩) ∧ wr.heap.size ≤ w'.heap.size) (by kernel_rfl) ⟨fun _ _ _ => rfl, Nat.le_refl _⟩ ?_
        intro hHeld
        refine wpAnyH_take (i := 0) (v := .agg #[.int .i64 c, .int .i64 d]) rfl (by kernel_rfl) (by kernel_rfl) (by kernel_rfl) (fun _ _ _ h => h) (Or.inl ⟨by rfl, ?_⟩) (by assumption) ?_
        · intro wx hSw; go_simp
        try simp only [Act.put, List.setIfInBounds_toArray, List.set_cons_zero, List.set_cons_succ, List.getElem_toArray, List.getElem_cons_zero]
        refine wpAnyH_take (i := 1) (v := .slice (some ⟨b, 0, none⟩) n cap) rfl (by kernel_rfl) (by kernel_rfl) (by kernel_rfl) (fun _ _ _ h => h) (Or.inl ⟨by rfl, ?_⟩) (by assumption) ?_
        · intro wx hSw; go_simp
        try simp only [Act.put, List.setIfInBounds_toArray, List.set_cons_zero, List.set_cons_succ, List.getElem_toArray, List.getElem_cons_zero, List.getElem_cons_succ]
        refine wpAnyH_take (i := 2) (v := .int .i64 (k : Int)) rfl (by kernel_rfl) (by kernel_rfl) (by kernel_rfl) (fun _ _ _ h => h) (Or.inl ⟨by rfl, ?_⟩) (by assumption) ?_
        · intro wx hSw; go_simp
        try simp only [Act.put, List.setIfInBounds_toArray, List.set_cons_zero, List.set_cons_succ, List.getElem_toArray, List.getElem_cons_zero, List.getElem_cons_succ]
        refine wpAnyH_take (i := 3) (v := .pointer (some ⟨b, k * 5, none⟩)) rfl (by kernel_rfl) (by kernel_rfl) (by kernel_rfl) (fun _ _ _ h => h) (Or.inl ⟨by rfl, ?_⟩) (by assumption) ?_
        · intro wx hSw; go_simp
        try simp only [Act.put, List.setIfInBounds_toArray, List.set_cons_zero, List.set_cons_succ, List.getElem_toArray, List.getElem_cons_zero, List.getElem_cons_succ]
        refine wpAnyH_take (i := 4) (v := .pointer (some ⟨b, k * 5 + 1, none⟩)) rfl (by kernel_rfl) (by kernel_rfl) (by kernel_rfl) (fun _ _ _ h => h) (Or.inl ⟨by rfl, ?_⟩) (by assumption) ?_
        · intro wx hSw; go_simp
        try simp only [Act.put, List.setIfInBounds_toArray, List.set_cons_zero, List.set_cons_succ, List.getElem_toArray, List.getElem_cons_zero, List.getElem_cons_succ]
        refine wpAnyH_take (i := 5) (v := .int .i64 (Z k 1)) rfl (by kernel_rfl) (by kernel_rfl) (by kernel_rfl) (fun _ _ _ h => h) (Or.inl ⟨by rfl, ?_⟩) (by assumption) ?_
        · intro wx hSw; go_simp
        try simp only [Act.put, List.setIfInBounds_toArray, List.set_cons_zero, List.set_cons_succ, List.getElem_toArray, List.getElem_cons_zero, List.getElem_cons_succ]
        refine wpAnyH_take (i := 7) (v := .int .i64 cell) rfl (by kernel_rfl) (by kernel_rfl) (by kernel_rfl) (fun _ _ _ h => h) (Or.inl ⟨by rfl, ?_⟩) (by assumption) ?_
        · intro wx hSw; go_simp
        try simp only [Act.put, List.setIfInBounds_toArray, List.set_cons_zero, List.set_cons_succ, List.getElem_toArray, List.getElem_cons_zero, List.getElem_cons_succ]
        refine wpAnyH_ready (rs := [6]) (by kernel_rfl) (by simp) ?_
        refine AllReadyH.cons rfl (fun K hK => ?_) AllReadyH.nil
        go_simp
        go_wp2_with fail
        refine (cell_spec _ _ _ _).mono ?_
        rintro e w4 ⟨rfl, hb4⟩
        refine hK.out _ _ (keepS (by assumption) hb4) (fun hNew => ?_)
        clear hK K hHeld
        have hHeld := hNew
        clear hNew
        try simp only [Act.put, List.setIfInBounds_toArray, List.set_cons_zero, List.set_cons_succ, List.getElem_toArray, List.getElem_cons_zero, List.getElem_cons_succ]
        refine wpAnyH_take (i := 8) (v := .bool false) rfl (by kernel_rfl) (by kernel_rfl) (by kernel_rfl) (fun _ _ _ h => h) (Or.inl ⟨by rfl, ?_⟩) (by assumption) ?_
        · intro wx hSw; go_simp
        try simp only [Act.put, List.setIfInBounds_toArray, List.set_cons_zero, List.set_cons_succ, List.getElem_toArray, List.getElem_cons_zero, List.getElem_cons_succ]
        refine wpAnyH_done (by kernel_rfl) ?_ _
        clear hHeld
        have hb5 : Below wr.heap.size wr w4 := bthen ((Below.refl _ _).drew) hb4
        have SX4 : Hid (Six w4 g7 [.int .i64 cell, .slice va vl vc, .int .i64 0, .slice (some ⟨g1, 0, none⟩) 2 2, .slice (some ⟨g2, 0, none⟩) 2 2, .slice (some ⟨g3, 0, none⟩) 2 2]) := SX.out.below (by omega) hb5
        have OW4 : Hid (w4.ownsRow w3.heap.size 46 5 (.slice va vl vc) (inL c d cell Z k).length ((inL c d cell Z k).flatMap (five5 Z))) := World.ownsRow.kept OW.out (P8.grown_of_below hb5) (by cases e : (Value.slice va vl vc).ownBlock <;> simp)
        have SM4 : Hid (∀ x, x < w3.heap.size → ¬ x = g7 → Sm w3 w4 x) := fun x hx hne => (SM.out x hx hne).trans (sm_below hb5 (by omega))
        have BL4 : Hid (Below w.heap.size w w4) := bthen BL.out hb5
        have z4 : w3.heap.size ≤ w4.heap.size := Nat.le_trans hsz hb5.size
        clear hb4 hb5 SX OW SM BL
        go_wp2
        go_roundw
        case rel => exact ⟨k + 1, _, by omega, by go_num, SX4.out, by rw [inL_no hp]; exact OW4.out, SM4.out, z4, BL4.out⟩
        case measure => simp [intOf]; omega
      · go_wp2
        refine wp_region_held_drew (S := fun w' => (∀ b o, b < wr.heap.size → w'.cell? ⟨b, o, none⟩ = wr.cell? ⟨b, o, none⟩) ∧ wr.heap.size ≤ w'.heap.size) (by kernel_rfl) ⟨fun _ _ _ => rfl, Nat.le_refl _⟩ ?_
        intro hHeld
        refine wpAnyH_take (i := 0) (v := .agg #[.int .i64 c, .int .i64 d]) rfl (by kernel_rfl) (by kernel_rfl) (by kernel_rfl) (fun _ _ _ h => h) (Or.inl ⟨by rfl, ?_⟩) (by assumption) ?_
        · intro wx hSw; go_simp
        try simp only [Act.put, List.setIfInBounds_toArray, List.set_cons_zero, List.set_cons_succ, List.getElem_toArray, List.getElem_cons_zero]
        refine wpAnyH_take (i := 1) (v := .slice (some ⟨b, 0, none⟩) n cap) rfl (by kernel_rfl) (by kernel_rfl) (by kernel_rfl) (fun _ _ _ h => h) (Or.inl ⟨by rfl, ?_⟩) (by assumption) ?_
        · intro wx hSw; go_simp
        try simp only [Act.put, List.setIfInBounds_toArray, List.set_cons_zero, List.set_cons_succ, List.getElem_toArray, List.getElem_cons_zero, List.getElem_cons_succ]
        refine wpAnyH_take (i := 2) (v := .int .i64 (k : Int)) rfl (by kernel_rfl) (by kernel_rfl) (by kernel_rfl) (fun _ _ _ h => h) (Or.inl ⟨by rfl, ?_⟩) (by assumption) ?_
        · intro wx hSw; go_simp
        try simp only [Act.put, List.setIfInBounds_toArray, List.set_cons_zero, List.set_cons_succ, List.getElem_toArray, List.getElem_cons_zero, List.getElem_cons_succ]
        refine wpAnyH_take (i := 3) (v := .pointer (some ⟨b, k * 5, none⟩)) rfl (by kernel_rfl) (by kernel_rfl) (by kernel_rfl) (fun _ _ _ h => h) (Or.inl ⟨by rfl, ?_⟩) (by assumption) ?_
        · intro wx hSw; go_simp
        try simp only [Act.put, List.setIfInBounds_toArray, List.set_cons_zero, List.set_cons_succ, List.getElem_toArray, List.getElem_cons_zero, List.getElem_cons_succ]
        refine wpAnyH_take (i := 4) (v := .pointer (some ⟨b, k * 5 + 1, none⟩)) rfl (by kernel_rfl) (by kernel_rfl) (by kernel_rfl) (fun _ _ _ h => h) (Or.inl ⟨by rfl, ?_⟩) (by assumption) ?_
        · intro wx hSw; go_simp
        try simp only [Act.put, List.setIfInBounds_toArray, List.set_cons_zero, List.set_cons_succ, List.getElem_toArray, List.getElem_cons_zero, List.getElem_cons_succ]
        refine wpAnyH_take (i := 5) (v := .int .i64 (Z k 1)) rfl (by kernel_rfl) (by kernel_rfl) (by kernel_rfl) (fun _ _ _ h => h) (Or.inl ⟨by rfl, ?_⟩) (by assumption) ?_
        · intro wx hSw; go_simp
        try simp only [Act.put, List.setIfInBounds_toArray, List.set_cons_zero, List.set_cons_succ, List.getElem_toArray, List.getElem_cons_zero, List.getElem_cons_succ]
        refine wpAnyH_take (i := 7) (v := .int .i64 cell) rfl (by kernel_rfl) (by kernel_rfl) (by kernel_rfl) (fun _ _ _ h => h) (Or.inl ⟨by rfl, ?_⟩) (by assumption) ?_
        · intro wx hSw; go_simp
        try simp only [Act.put, List.setIfInBounds_toArray, List.set_cons_zero, List.set_cons_succ, List.getElem_toArray, List.getElem_cons_zero, List.getElem_cons_succ]
        refine wpAnyH_ready (rs := [6]) (by kernel_rfl) (by simp) ?_
        refine AllReadyH.cons rfl (fun K hK => ?_) AllReadyH.nil
        go_simp
        go_wp2_with fail
        refine (cell_spec _ _ _ _).mono ?_
        rintro e w4 ⟨rfl, hb4⟩
        refine hK.out _ _ (keepS (by assumption) hb4) (fun hNew => ?_)
        clear hK K hHeld
        have hHeld := hNew
        clear hNew
        try simp only [Act.put, List.setIfInBounds_toArray, List.set_cons_zero, List.set_cons_succ, List.getElem_toArray, List.getElem_cons_zero, List.getElem_cons_succ]
        refine wpAnyH_take (i := 8) (v := .bool true) rfl (by kernel_rfl) (by kernel_rfl) (by kernel_rfl) (fun _ _ _ h => h) (Or.inl ⟨by rfl, ?_⟩) (by assumption) ?_
        · intro wx hSw; go_simp
        try simp only [Act.put, List.setIfInBounds_toArray, List.set_cons_zero, List.set_cons_succ, List.getElem_toArray, List.getElem_cons_zero, List.getElem_cons_succ]
        refine wpAnyH_done (by kernel_rfl) ?_ _
        clear hHeld
        have hb5 : Below wr.heap.size wr w4 := bthen ((Below.refl _ _).drew) hb4
        have SX4 : Hid (Six w4 g7 [.int .i64 cell, .slice va vl vc, .int .i64 0, .slice (some ⟨g1, 0, none⟩) 2 2, .slice (some ⟨g2, 0, none⟩) 2 2, .slice (some ⟨g3, 0, none⟩) 2 2]) := SX.out.below (by omega) hb5
        have OW4 : Hid (w4.ownsRow w3.heap.size 46 5 (.slice va vl vc) (inL c d cell Z k).length ((inL c d cell Z k).flatMap (five5 Z))) := World.ownsRow.kept OW.out (P8.grown_of_below hb5) (by cases e : (Value.slice va vl vc).ownBlock <;> simp)
        have SM4 : Hid (∀ x, x < w3.heap.size → ¬ x = g7 → Sm w3 w4 x) := fun x hx hne => (SM.out x hx hne).trans (sm_below hb5 (by omega))
        have BL4 : Hid (Below w.heap.size w w4) := bthen BL.out hb5
        have z4 : w3.heap.size ≤ w4.heap.size := Nat.le_trans hsz hb5.size
        have d0 : w4.cell? ⟨b, k * 5, none⟩ = some (.int .i64 (Z k 0)) := (hb5.cell (p := ⟨b, _, none⟩) lb).trans c0
        have d1 : w4.cell? ⟨b, k * 5 + 1, none⟩ = some (.int .i64 (Z k 1)) := (hb5.cell (p := ⟨b, _, none⟩) lb).trans c1
        have d2 : w4.cell? ⟨b, k * 5 + 2, none⟩ = some (.int .i64 (Z k 2)) := (hb5.cell (p := ⟨b, _, none⟩) lb).trans c2
        have d3 : w4.cell? ⟨b, k * 5 + 3, none⟩ = some (.int .i64 (Z k 3)) := (hb5.cell (p := ⟨b, _, none⟩) lb).trans c3
        have d4 : w4.cell? ⟨b, k * 5 + 4, none⟩ = some (.int .i64 (Z k 4)) := (hb5.cell (p := ⟨b, _, none⟩) lb).trans c4
        have lb4 : b < w4.heap.size := by omega
        have lb3 : b < w3.heap.size := by omega
        have hbg : ¬ b = g7 := by omega
        have lg4 : g7 < w4.heap.size := by omega
        have f1 : w4.cell? ⟨g7, 1, none⟩ = some (.slice va vl vc) := (SX4.out 1 (by decide)).1
        clear hb4 hb5 SX OW SM BL c0 c1 c2 c3 c4 m0 m1
        go_wp2
        refine wp_region_held_drew (S := fun w' => (∀ b o, b < w3.heap.size → ¬ b = g7 → w'.cell? ⟨b, o, none⟩ = w4.cell? ⟨b, o, none⟩) ∧ w4.heap.size ≤ w'.heap.size) (by kernel_rfl) ⟨fun _ _ _ _ => rfl, Nat.le_refl _⟩ ?_
        intro hHeld
        refine wpAnyH_take (i := 0) (v := .pointer (some ⟨g7, 1, none⟩)) rfl (by kernel_rfl) (by kernel_rfl) (by kernel_rfl) (fun _ _ _ h => h) (Or.inl ⟨by rfl, ?_⟩) (by assumption) ?_
        · intro wx hSw; go_simp
        try simp only [Act.put, List.setIfInBounds_toArray, List.set_cons_zero, List.set_cons_succ, List.getElem_toArray, List.getElem_cons_zero]
        refine wpAnyH_take (i := 2) (v := .slice (some ⟨b, 0, none⟩) n cap) rfl (by kernel_rfl) (by kernel_rfl) (by kernel_rfl) (fun _ _ _ h => h) (Or.inl ⟨by rfl, ?_⟩) (by assumption) ?_
        · intro wx hSw; go_simp
        try simp only [Act.put, List.setIfInBounds_toArray, List.set_cons_zero, List.set_cons_succ, List.getElem_toArray, List.getElem_cons_zero, List.getElem_cons_succ]
        refine wpAnyH_take (i := 3) (v := .int .i64 (k : Int)) rfl (by kernel_rfl) (by kernel_rfl) (by kernel_rfl) (fun _ _ _ h => h) (Or.inl ⟨by rfl, ?_⟩) (by assumption) ?_
        · intro wx hSw; go_simp
        try simp only [Act.put, List.setIfInBounds_toArray, List.set_cons_zero, List.set_cons_succ, List.getElem_toArray, List.getElem_cons_zero, List.getElem_cons_succ]
        refine wpAnyH_take (i := 4) (v := .pointer (some ⟨b, k * 5, none⟩)) rfl (by kernel_rfl) (by kernel_rfl) (by kernel_rfl) (fun _ _ _ h => h) (Or.inl ⟨by rfl, ?_⟩) (by assumption) ?_
        · intro wx hSw; go_simp
        try simp only [Act.put, List.setIfInBounds_toArray, List.set_cons_zero, List.set_cons_succ, List.getElem_toArray, List.getElem_cons_zero, List.getElem_cons_succ]
        refine wpAnyH_take (i := 5) (v := .agg #[.int .i64 (Z k 0), .int .i64 (Z k 1), .int .i64 (Z k 2), .int .i64 (Z k 3), .int .i64 (Z k 4)]) rfl (by kernel_rfl) (by kernel_rfl) (by kernel_rfl) (fun _ _ _ h => h) (Or.inl ⟨by rfl, ?_⟩) (by assumption) ?_
        · intro wx hSw; go_simp
        try simp only [Act.put, List.setIfInBounds_toArray, List.set_cons_zero, List.set_cons_succ, List.getElem_toArray, List.getElem_cons_zero, List.getElem_cons_succ]
        refine wpAnyH_ready (rs := [1, 6]) (by kernel_rfl) (by simp) ?_
        refine AllReadyH.cons rfl (fun K hK => ?_) (AllReadyH.cons rfl (fun K hK => ?_) AllReadyH.nil)
        · go_simp
          refine hK.out _ _ (by assumption) (fun hNew => ?_)
          clear hK K hHeld
          have hHeld := hNew
          clear hNew
          try simp only [Act.put, List.setIfInBounds_toArray, List.set_cons_zero, List.set_cons_succ, List.getElem_toArray, List.getElem_cons_zero, List.getElem_cons_succ]
          refine wpAnyH_ready (rs := [6]) (by kernel_rfl) (by simp) ?_
          refine AllReadyH.cons rfl (fun K hK => ?_) AllReadyH.nil
          go_simp
          refine hK.out _ _ (keepG (by assumption) z4 (fun x hx _ => sm_below (n := w4.heap.size) ((Below.refl _ _).drew.alloc (Nat.le_refl _) _) (by omega)) (by simp)) (fun hNew => ?_)
          clear hK K hHeld
          have hHeld := hNew
          clear hNew
          try simp only [Act.put, List.setIfInBounds_toArray, List.set_cons_zero, List.set_cons_succ, List.getElem_toArray, List.getElem_cons_zero, List.getElem_cons_succ]
          refine wpAnyH_ready (rs := [7]) (by kernel_rfl) (by simp) ?_
          refine AllReadyH.cons rfl (fun K hK => ?_) AllReadyH.nil
          rw [if_pos (by rfl)]
          have hb6 : Below w4.heap.size w4 (w4.alloc (.cells #[.int .i64 (Z k 0), .int .i64 (Z k 1), .int .i64 (Z k 2), .int .i64 (Z k 3), .int .i64 (Z k 4)] 46)).drew := ((Below.refl _ _).alloc (Nat.le_refl _) _).drew
          have OW6 : (w4.alloc (.cells #[.int .i64 (Z k 0), .int .i64 (Z k 1), .int .i64 (Z k 2), .int .i64 (Z k 3), .int .i64 (Z k 4)] 46)).drew.ownsRow w3.heap.size 46 5 (.slice va vl vc) (inL c d cell Z k).length ((inL c d cell Z k).flatMap (five5 Z)) := World.ownsRow.kept OW4.out (P8.grown_of_below hb6) (by cases e : (Value.slice va vl vc).ownBlock <;> simp)
          have z6 : w3.heap.size ≤ (w4.alloc (.cells #[.int .i64 (Z k 0), .int .i64 (Z k 1), .int .i64 (Z k 2), .int .i64 (Z k 3), .int .i64 (Z k 4)] 46)).drew.heap.size := Nat.le_trans z4 hb6.size
          have hgr : w4.grownBy (w4.alloc (.cells #[.int .i64 (Z k 0), .int .i64 (Z k 1), .int .i64 (Z k 2), .int .i64 (Z k 3), .int .i64 (Z k 4)] 46)).drew (Value.slice va vl vc).ownBlock := P8.grown_of_below2 hb6
          refine wp_append_own _ _ _ 25 rfl w3.heap.size 46 i5 (.agg #[.int .i64 0, .int .i64 0, .int .i64 0, .int .i64 0, .int .i64 0]) 5 40 Try.underlying25 hi5 hz50 hz51 hz52 rfl (by decide) _ _ _ rfl OW6 ⟨w4.heap.size, 0, none⟩ 1 1 (five5 Z k) rfl rfl ?d1 ?d2 ?d3 ?d4 ?d5 ?_
          case d1 =>
            intro j u hj
            match j, hj with
            | 0, hj => simp [five5] at hj; subst hj; show (w4.alloc (.cells #[.int .i64 (Z k 0), .int .i64 (Z k 1), .int .i64 (Z k 2), .int .i64 (Z k 3), .int .i64 (Z k 4)] 46)).cell? _ = _; simp [Addr.add]
            | 1, hj => simp [five5] at hj; subst hj; show (w4.alloc (.cells #[.int .i64 (Z k 0), .int .i64 (Z k 1), .int .i64 (Z k 2), .int .i64 (Z k 3), .int .i64 (Z k 4)] 46)).cell? _ = _; simp [Addr.add]
            | 2, hj => simp [five5] at hj; subst hj; show (w4.alloc (.cells #[.int .i64 (Z k 0), .int .i64 (Z k 1), .int .i64 (Z k 2), .int .i64 (Z k 3), .int .i64 (Z k 4)] 46)).cell? _ = _; simp [Addr.add]
            | 3, hj => simp [five5] at hj; subst hj; show (w4.alloc (.cells #[.int .i64 (Z k 0), .int .i64 (Z k 1), .int .i64 (Z k 2), .int .i64 (Z k 3), .int .i64 (Z k 4)] 46)).cell? _ = _; simp [Addr.add]
            | 4, hj => simp [five5] at hj; subst hj; show (w4.alloc (.cells #[.int .i64 (Z k 0), .int .i64 (Z k 1), .int .i64 (Z k 2), .int .i64 (Z k 3), .int .i64 (Z k 4)] 46)).cell? _ = _; simp [Addr.add]
            | j + 5, hj => simp [five5] at hj
          case d2 => intro u hu; simp [five5] at hu; rcases hu with rfl | rfl | rfl | rfl | rfl <;> rfl
          case d3 => unfold maxLen; omega
          case d4 => omega
          case d5 => exact z6
          intro v' w5 hown' hg5 hnil
          obtain ⟨xa, xl, xc, hxx⟩ := own_shape hown'
          subst hxx
          have hall : w4.grownBy w5 (Value.slice va vl vc).ownBlock := hgr.trans hg5
          have hz5 : w4.heap.size ≤ w5.heap.size := hall.size
          have hlow : ∀ kk, (Value.slice va vl vc).ownBlock = some kk → w3.heap.size ≤ kk := fun kk e => (OW4.out.lt kk e).1
          have hfar : Hid (∀ x, x < w3.heap.size → Sm w4 w5 x) := fun x hx => sm_grown hall (by omega) (fun e => by have := hlow x e.symm; omega)
          have SX5 : Hid (Six w5 g7 [.int .i64 cell, .slice va vl vc, .int .i64 0, .slice (some ⟨g1, 0, none⟩) 2 2, .slice (some ⟨g2, 0, none⟩) 2 2, .slice (some ⟨g3, 0, none⟩) 2 2]) := fun i hi => by have h1 := hfar.out g7 (by omega) i; rw [h1.1, h1.2]; exact SX4.out i hi
          have SX6 : Hid (Six (w5.setCell ⟨g7, 1, none⟩ (.slice xa xl xc)) g7 [.int .i64 cell, .slice xa xl xc, .int .i64 0, .slice (some ⟨g1, 0, none⟩) 2 2, .slice (some ⟨g2, 0, none⟩) 2 2, .slice (some ⟨g3, 0, none⟩) 2 2]) := SX5.out.set (j := 1) (v := (.slice xa xl xc)) rfl (by decide)
          have OW6b : Hid ((w5.setCell ⟨g7, 1, none⟩ (.slice xa xl xc)).ownsRow w3.heap.size 46 5 (.slice xa xl xc) (inL c d cell Z (k + 1)).length ((inL c d cell Z (k + 1)).flatMap (five5 Z))) := by
            unfold Hid
            rw [inL_yes hp, List.length_append, List.flatMap_append]
            refine World.ownsRow.kept ?_ (P8.set_grown w5 g7 1 (.slice xa xl xc)).1 ?_
            · simpa using hown'
            · cases e : (Value.slice xa xl xc).ownBlock with
              | none => exact .inl rfl
              | some kk => exact .inr (fun e2 => by have := (hown'.lt kk e).1; injection e2 with e2; omega)
          have SM6 : Hid (∀ x, x < w3.heap.size → ¬ x = g7 → Sm w3 (w5.setCell ⟨g7, 1, none⟩ (.slice xa xl xc)) x) := fun x hx hne => ((SM4.out x hx hne).trans (hfar.out x hx)).trans (fun o => ⟨set_out (fun e => hne e.1.symm), set_frozen⟩)
          have BL6 : Hid (Below w.heap.size w (w5.setCell ⟨g7, 1, none⟩ (.slice xa xl xc))) := (BL4.out.grown hall (by omega) (fun kk e => by have := hlow kk e; omega)).setCell (by show w.heap.size ≤ g7; omega) _
          have e1 := (SX5.out 1 (by decide)).1
          have e1f := (SX5.out 1 (by decide)).2
          have lg8 : g7 < w5.heap.size := by omega
          have z7 : w3.heap.size ≤ (w5.setCell ⟨g7, 1, none⟩ (.slice xa xl xc)).heap.size := by rw [set_size]; omega
          refine hK.out _ _ ⟨fun x o hx _ => (hfar.out x hx o).1, hz5⟩ (fun hNew => ?_)
          clear hK K hHeld
          have hHeld := hNew
          clear hNew
          clear hown' hg5 hnil hall hlow hgr hb6 OW6 z6 d0 d1 d2 d3 d4 f1
          try simp only [Act.put, List.setIfInBounds_toArray, List.set_cons_zero, List.set_cons_succ, List.getElem_toArray, List.getElem_cons_zero, List.getElem_cons_succ]
          refine wpAnyH_take (i := 8) (v := .pointer (some ⟨g7, 1, none⟩)) rfl (by kernel_rfl) (by kernel_rfl) (by kernel_rfl) (fun _ _ _ h => h) (Or.inl ⟨by rfl, ?_⟩) (by assumption) ?_
          · intro wx hSw; go_simp
          try simp only [Act.put, List.setIfInBounds_toArray, List.set_cons_zero, List.set_cons_succ, List.getElem_toArray, List.getElem_cons_zero, List.getElem_cons_succ]
          refine wpAnyH_ready (rs := [9]) (by kernel_rfl) (by simp) ?_
          refine AllReadyH.cons rfl (fun K hK => ?_) AllReadyH.nil
          clear hHeld
          go_simp
          refine hK.out _ _ ⟨fun x o hx hne => (set_out (fun e => hne e.1.symm)).trans (hfar.out x hx o).1, by rw [set_size]; exact hz5⟩ (fun hNew => ?_)
          clear hK K hNew
          try simp only [Act.put, List.setIfInBounds_toArray, List.set_cons_zero, List.set_cons_succ, List.getElem_toArray, List.getElem_cons_zero, List.getElem_cons_succ]
          refine wpAnyH_done (by kernel_rfl) ?_ _
          clear OW4 SM4 BL4 SX4 SX5 hfar e1 e1f
          go_wp2
          go_roundw
          case rel => exact ⟨k + 1, _, by omega, by go_num, SX6.out, OW6b.out, SM6.out, z7, BL6.out⟩
          case measure => simp [intOf]; omega
        · go_simp
          refine hK.out _ _ (keepG (by assumption) z4 (fun x hx _ => sm_below (n := w4.heap.size) ((Below.refl _ _).drew.alloc (Nat.le_refl _) _) (by omega)) (by simp)) (fun hNew => ?_)
          clear hK K hHeld
          have hHeld := hNew
          clear hNew
          try simp only [Act.put, List.setIfInBounds_toArray, List.set_cons_zero, List.set_cons_succ, List.getElem_toArray, List.getElem_cons_zero, List.getElem_cons_succ]
          refine wpAnyH_ready (rs := [1]) (by kernel_rfl) (by simp) ?_
          refine AllReadyH.cons rfl (fun K hK => ?_) AllReadyH.nil
          go_simp
          refine hK.out _ _ (by assumption) (fun hNew => ?_)
          clear hK K hHeld
          have hHeld := hNew
          clear hNew
          try simp only [Act.put, List.setIfInBounds_toArray, List.set_cons_zero, List.set_cons_succ, List.getElem_toArray, List.getElem_cons_zero, List.getElem_cons_succ]
          refine wpAnyH_ready (rs := [7]) (by kernel_rfl) (by simp) ?_
          refine AllReadyH.cons rfl (fun K hK => ?_) AllReadyH.nil
          rw [if_pos (by rfl)]
          have hb6 : Below w4.heap.size w4 (w4.alloc (.cells #[.int .i64 (Z k 0), .int .i64 (Z k 1), .int .i64 (Z k 2), .int .i64 (Z k 3), .int .i64 (Z k 4)] 46)).drew := ((Below.refl _ _).alloc (Nat.le_refl _) _).drew
          have OW6 : (w4.alloc (.cells #[.int .i64 (Z k 0), .int .i64 (Z k 1), .int .i64 (Z k 2), .int .i64 (Z k 3), .int .i64 (Z k 4)] 46)).drew.ownsRow w3.heap.size 46 5 (.slice va vl vc) (inL c d cell Z k).length ((inL c d cell Z k).flatMap (five5 Z)) := World.ownsRow.kept OW4.out (P8.grown_of_below hb6) (by cases e : (Value.slice va vl vc).ownBlock <;> simp)
          have z6 : w3.heap.size ≤ (w4.alloc (.cells #[.int .i64 (Z k 0), .int .i64 (Z k 1), .int .i64 (Z k 2), .int .i64 (Z k 3), .int .i64 (Z k 4)] 46)).drew.heap.size := Nat.le_trans z4 hb6.size
          have hgr : w4.grownBy (w4.alloc (.cells #[.int .i64 (Z k 0), .int .i64 (Z k 1), .int .i64 (Z k 2), .int .i64 (Z k 3), .int .i64 (Z k 4)] 46)).drew (Value.slice va vl vc).ownBlock := P8.grown_of_below2 hb6
          refine wp_append_own _ _ _ 25 rfl w3.heap.size 46 i5 (.agg #[.int .i64 0, .int .i64 0, .int .i64 0, .int .i64 0, .int .i64 0]) 5 40 Try.underlying25 hi5 hz50 hz51 hz52 rfl (by decide) _ _ _ rfl OW6 ⟨w4.heap.size, 0, none⟩ 1 1 (five5 Z k) rfl rfl ?d1 ?d2 ?d3 ?d4 ?d5 ?_
          case d1 =>
            intro j u hj
            match j, hj with
            | 0, hj => simp [five5] at hj; subst hj; show (w4.alloc (.cells #[.int .i64 (Z k 0), .int .i64 (Z k 1), .int .i64 (Z k 2), .int .i64 (Z k 3), .int .i64 (Z k 4)] 46)).cell? _ = _; simp [Addr.add]
            | 1, hj => simp [five5] at hj; subst hj; show (w4.alloc (.cells #[.int .i64 (Z k 0), .int .i64 (Z k 1), .int .i64 (Z k 2), .int .i64 (Z k 3), .int .i64 (Z k 4)] 46)).cell? _ = _; simp [Addr.add]
            | 2, hj => simp [five5] at hj; subst hj; show (w4.alloc (.cells #[.int .i64 (Z k 0), .int .i64 (Z k 1), .int .i64 (Z k 2), .int .i64 (Z k 3), .int .i64 (Z k 4)] 46)).cell? _ = _; simp [Addr.add]
            | 3, hj => simp [five5] at hj; subst hj; show (w4.alloc (.cells #[.int .i64 (Z k 0), .int .i64 (Z k 1), .int .i64 (Z k 2), .int .i64 (Z k 3), .int .i64 (Z k 4)] 46)).cell? _ = _; simp [Addr.add]
            | 4, hj => simp [five5] at hj; subst hj; show (w4.alloc (.cells #[.int .i64 (Z k 0), .int .i64 (Z k 1), .int .i64 (Z k 2), .int .i64 (Z k 3), .int .i64 (Z k 4)] 46)).cell? _ = _; simp [Addr.add]
            | j + 5, hj => simp [five5] at hj
          case d2 => intro u hu; simp [five5] at hu; rcases hu with rfl | rfl | rfl | rfl | rfl <;> rfl
          case d3 => unfold maxLen; omega
          case d4 => omega
          case d5 => exact z6
          intro v' w5 hown' hg5 hnil
          obtain ⟨xa, xl, xc, hxx⟩ := own_shape hown'
          subst hxx
          have hall : w4.grownBy w5 (Value.slice va vl vc).ownBlock := hgr.trans hg5
          have hz5 : w4.heap.size ≤ w5.heap.size := hall.size
          have hlow : ∀ kk, (Value.slice va vl vc).ownBlock = some kk → w3.heap.size ≤ kk := fun kk e => (OW4.out.lt kk e).1
          have hfar : Hid (∀ x, x < w3.heap.size → Sm w4 w5 x) := fun x hx => sm_grown hall (by omega) (fun e => by have := hlow x e.symm; omega)
          have SX5 : Hid (Six w5 g7 [.int .i64 cell, .slice va vl vc, .int .i64 0, .slice (some ⟨g1, 0, none⟩) 2 2, .slice (some ⟨g2, 0, none⟩) 2 2, .slice (some ⟨g3, 0, none⟩) 2 2]) := fun i hi => by have h1 := hfar.out g7 (by omega) i; rw [h1.1, h1.2]; exact SX4.out i hi
          have SX6 : Hid (Six (w5.setCell ⟨g7, 1, none⟩ (.slice xa xl xc)) g7 [.int .i64 cell, .slice xa xl xc, .int .i64 0, .slice (some ⟨g1, 0, none⟩) 2 2, .slice (some ⟨g2, 0, none⟩) 2 2, .slice (some ⟨g3, 0, none⟩) 2 2]) := SX5.out.set (j := 1) (v := (.slice xa xl xc)) rfl (by decide)
          have OW6b : Hid ((w5.setCell ⟨g7, 1, none⟩ (.slice xa xl xc)).ownsRow w3.heap.size 46 5 (.slice xa xl xc) (inL c d cell Z (k + 1)).length ((inL c d cell Z (k + 1)).flatMap (five5 Z))) := by
            unfold Hid
            rw [inL_yes hp, List.length_append, List.flatMap_append]
            refine World.ownsRow.kept ?_ (P8.set_grown w5 g7 1 (.slice xa xl xc)).1 ?_
            · simpa using hown'
            · cases e : (Value.slice xa xl xc).ownBlock with
              | none => exact .inl rfl
              | some kk => exact .inr (fun e2 => by have := (hown'.lt kk e).1; injection e2 with e2; omega)
          have SM6 : Hid (∀ x, x < w3.heap.size → ¬ x = g7 → Sm w3 (w5.setCell ⟨g7, 1, none⟩ (.slice xa xl xc)) x) := fun x hx hne => ((SM4.out x hx hne).trans (hfar.out x hx)).trans (fun o => ⟨set_out (fun e => hne e.1.symm), set_frozen⟩)
          have BL6 : Hid (Below w.heap.size w (w5.setCell ⟨g7, 1, none⟩ (.slice xa xl xc))) := (BL4.out.grown hall (by omega) (fun kk e => by have := hlow kk e; omega)).setCell (by show w.heap.size ≤ g7; omega) _
          have e1 := (SX5.out 1 (by decide)).1
          have e1f := (SX5.out 1 (by decide)).2
          have lg8 : g7 < w5.heap.size := by omega
          have z7 : w3.heap.size ≤ (w5.setCell ⟨g7, 1, none⟩ (.slice xa xl xc)).heap.size := by rw [set_size]; omega
          refine hK.out _ _ ⟨fun x o hx _ => (hfar.out x hx o).1, hz5⟩ (fun hNew => ?_)
          clear hK K hHeld
          have hHeld := hNew
          clear hNew
          clear hown' hg5 hnil hall hlow hgr hb6 OW6 z6 d0 d1 d2 d3 d4 f1
          try simp only [Act.put, List.setIfInBounds_toArray, List.set_cons_zero, List.set_cons_succ, List.getElem_toArray, List.getElem_cons_zero, List.getElem_cons_succ]
          refine wpAnyH_take (i := 8) (v := .pointer (some ⟨g7, 1, none⟩)) rfl (by kernel_rfl) (by kernel_rfl) (by kernel_rfl) (fun _ _ _ h => h) (Or.inl ⟨by rfl, ?_⟩) (by assumption) ?_
          · intro wx hSw; go_simp
          try simp only [Act.put, List.setIfInBounds_toArray, List.set_cons_zero, List.set_cons_succ, List.getElem_toArray, List.getElem_cons_zero, List.getElem_cons_succ]
          refine wpAnyH_ready (rs := [9]) (by kernel_rfl) (by simp) ?_
          refine AllReadyH.cons rfl (fun K hK => ?_) AllReadyH.nil
          clear hHeld
          go_simp
          refine hK.out _ _ ⟨fun x o hx hne => (set_out (fun e => hne e.1.symm)).trans (hfar.out x hx o).1, by rw [set_size]; exact hz5⟩ (fun hNew => ?_)
          clear hK K hNew
          try simp only [Act.put, List.setIfInBounds_toArray, List.set_cons_zero, List.set_cons_succ, List.getElem_toArray, List.getElem_cons_zero, List.getElem_cons_succ]
          refine wpAnyH_done (by kernel_rfl) ?_ _
          clear OW4 SM4 BL4 SX4 SX5 hfar e1 e1f
          go_wp2
          go_roundw
          case rel => exact ⟨k + 1, _, by omega, by go_num, SX6.out, OW6b.out, SM6.out, z7, BL6.out⟩
          case measure => simp [intOf]; omega
    · have hkk : k = n := by omega
      subst hkk
      have RR : Hid (Six wr (w.heap.size + 1) [.int .i64 0, .slice none 0 0, .int .i64 0, .slice none 0 0, .slice none 0 0, .slice none 0 0]) := fun i hi => by have h1 := SM.out (w.heap.size + 1) (by omega) (by omega) i; rw [h1.1, h1.2]; exact R3.out i hi
      have y0 : wr.cell? ⟨g7, 0, none⟩ = some (.int .i64 cell) := (SX.out 0 (by decide)).1
      have y1 : wr.cell? ⟨g7, 1, none⟩ = some (.slice va vl vc) := (SX.out 1 (by decide)).1
      have y2 : wr.cell? ⟨g7, 2, none⟩ = some (.int .i64 0) := (SX.out 2 (by decide)).1
      have y3 : wr.cell? ⟨g7, 3, none⟩ = some (.slice (some ⟨g1, 0, none⟩) 2 2) := (SX.out 3 (by decide)).1
      have y4 : wr.cell? ⟨g7, 4, none⟩ = some (.slice (some ⟨g2, 0, none⟩) 2 2) := (SX.out 4 (by decide)).1
      have y5 : wr.cell? ⟨g7, 5, none⟩ = some (.slice (some ⟨g3, 0, none⟩) 2 2) := (SX.out 5 (by decide)).1
      have r0 : wr.cell? ⟨w.heap.size + 1, 0, none⟩ = some (.int .i64 0) := (RR.out 0 (by decide)).1
      have q0 : wr.frozen? ⟨w.heap.size + 1, 0, none⟩ = false := (RR.out 0 (by decide)).2
      have r1 : wr.cell? ⟨w.heap.size + 1, 1, none⟩ = some (.slice none 0 0) := (RR.out 1 (by decide)).1
      have q1 : wr.frozen? ⟨w.heap.size + 1, 1, none⟩ = false := (RR.out 1 (by decide)).2
      have r2 : wr.cell? ⟨w.heap.size + 1, 2, none⟩ = some (.int .i64 0) := (RR.out 2 (by decide)).1
      have q2 : wr.frozen? ⟨w.heap.size + 1, 2, none⟩ = false := (RR.out 2 (by decide)).2
      have r3 : wr.cell? ⟨w.heap.size + 1, 3, none⟩ = some (.slice none 0 0) := (RR.out 3 (by decide)).1
      have q3 : wr.frozen? ⟨w.heap.size + 1, 3, none⟩ = false := (RR.out 3 (by decide)).2
      have r4 : wr.cell? ⟨w.heap.size + 1, 4, none⟩ = some (.slice none 0 0) := (RR.out 4 (by decide)).1
      have q4 : wr.frozen? ⟨w.heap.size + 1, 4, none⟩ = false := (RR.out 4 (by decide)).2
      have r5 : wr.cell? ⟨w.heap.size + 1, 5, none⟩ = some (.slice none 0 0) := (RR.out 5 (by decide)).1
      have q5 : wr.frozen? ⟨w.heap.size + 1, 5, none⟩ = false := (RR.out 5 (by decide)).2
      have lg9 : g7 < wr.heap.size := by omega
      have lr9 : w.heap.size + 1 < wr.heap.size := by omega
      have hne9 : ¬ w.heap.size + 1 = g7 := by omega
      go_wp2
      refine bodyPost_ret (v := .agg #[.int .i64 cell, .slice va vl vc, .int .i64 0, .slice (some ⟨g1, 0, none⟩) 2 2, .slice (some ⟨g2, 0, none⟩) 2 2, .slice (some ⟨g3, 0, none⟩) 2 2]) (by simp [results, Try.results7, go_sem, r0, r1, r2, r3, r4, r5]) rfl ?_
      have hzz := size_put6 wr (w.heap.size + 1) (.int .i64 cell) (.slice va vl vc) (.int .i64 0) (.slice (some ⟨g1, 0, none⟩) 2 2) (.slice (some ⟨g2, 0, none⟩) 2 2) (.slice (some ⟨g3, 0, none⟩) 2 2)
      have hbb := below_put6 BL.out (Nat.le_succ w.heap.size) (.int .i64 cell) (.slice va vl vc) (.int .i64 0) (.slice (some ⟨g1, 0, none⟩) 2 2) (.slice (some ⟨g2, 0, none⟩) 2 2) (.slice (some ⟨g3, 0, none⟩) 2 2)
      have hss : ∀ x, ¬ w.heap.size + 1 = x → Sm wr (put6 wr (w.heap.size + 1) (.int .i64 cell) (.slice va vl vc) (.int .i64 0) (.slice (some ⟨g1, 0, none⟩) 2 2) (.slice (some ⟨g2, 0, none⟩) 2 2) (.slice (some ⟨g3, 0, none⟩) 2 2)) x := fun x hx => sm_put6 hx _ _ _ _ _ _
      refine ⟨⟨_, rfl, ?_⟩, hbb⟩
      obtain ⟨gW, hgW, hRW⟩ := rw_ofL (lo := w.heap.size) OW.out (by omega)
      rw [show newV c d cell Z k = ⟨cell, (inL c d cell Z k).length, fun i j => Z (inL c d cell Z k)[i]! j, 0, 2, fun _ => 0, fun _ _ _ => 0, 2, fun _ => 0, 2, fun _ => 0⟩ by unfold newV; rw [H01.out, h2]; rfl]
      show OwnC w.heap.size (put6 wr (w.heap.size + 1) (.int .i64 cell) (.slice va vl vc) (.int .i64 0) (.slice (some ⟨g1, 0, none⟩) 2 2) (.slice (some ⟨g2, 0, none⟩) 2 2) (.slice (some ⟨g3, 0, none⟩) 2 2)).heap.size (put6 wr (w.heap.size + 1) (.int .i64 cell) (.slice va vl vc) (.int .i64 0) (.slice (some ⟨g1, 0, none⟩) 2 2) (.slice (some ⟨g2, 0, none⟩) 2 2) (.slice (some ⟨g3, 0, none⟩) 2 2)) _ _
      rw [hzz]
      have hx1 : Sm w3 (put6 wr (w.heap.size + 1) (.int .i64 cell) (.slice va vl vc) (.int .i64 0) (.slice (some ⟨g1, 0, none⟩) 2 2) (.slice (some ⟨g2, 0, none⟩) 2 2) (.slice (some ⟨g3, 0, none⟩) 2 2)) g1 := (SM.out g1 (by omega) (by omega)).trans (hss g1 (by omega))
      have hx2 : Sm w3 (put6 wr (w.heap.size + 1) (.int .i64 cell) (.slice va vl vc) (.int .i64 0) (.slice (some ⟨g1, 0, none⟩) 2 2) (.slice (some ⟨g2, 0, none⟩) 2 2) (.slice (some ⟨g3, 0, none⟩) 2 2)) g2 := (SM.out g2 (by omega) (by omega)).trans (hss g2 (by omega))
      have hx3 : Sm w3 (put6 wr (w.heap.size + 1) (.int .i64 cell) (.slice va vl vc) (.int .i64 0) (.slice (some ⟨g1, 0, none⟩) 2 2) (.slice (some ⟨g2, 0, none⟩) 2 2) (.slice (some ⟨g3, 0, none⟩) 2 2)) g3 := (SM.out g3 (by omega) (by omega)).trans (hss g3 (by omega))
      refine ⟨_, _, _, _, gW, g1, g2, g3, fun i => .slice (some ⟨w2.heap.size + i, 0, none⟩) 0 0, fun i => gW + 1 + i, rfl, hRW.sm (Nat.le_of_eq hzz.symm) (fun _ _ => hss gW (by omega)), .inr ⟨2, rfl, by omega, by omega, Nat.le_of_eq hzz.symm, fun i hi => ⟨?_, .inl ⟨rfl, _, _, rfl⟩⟩⟩, .inr ⟨2, rfl, by omega, by omega, Nat.le_of_eq hzz.symm, own1_sm O2.out hx2⟩, .inr ⟨2, rfl, by omega, by omega, Nat.le_of_eq hzz.symm, own1_sm O3.out hx3⟩, ⟨by omega, by omega, by omega, by omega, by omega, by omega⟩, fun i hi => ⟨by show ¬ gW + 1 + i = gW; omega, by show ¬ gW + 1 + i = g1; omega, by show ¬ gW + 1 + i = g2; omega, by show ¬ gW + 1 + i = g3; omega⟩, fun i j _ _ hij => by show ¬ gW + 1 + i = gW + 1 + j; omega⟩
      have : i = 0 ∨ i = 1 := by have := hi; simp only at this; omega
      rcases this with rfl | rfl
      · exact (hx1 0).1.trans N1.out.1
      · exact (hx1 1).1.trans N1.out.2
end Go.Proofs.Ytjllgmkficjiaaa
