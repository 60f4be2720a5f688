/- The walk of the model's WlkRead: a text's walker and true, or nothing and false; conditions: none. -/
import Derived.Test.YtpfemjenhnnfmaaDoorRead2
import Derived.Laws.IdiomCopy
namespace Go.Proofs.YtpfemjenhnnfmaaDoor
open Go.RowKit
set_option linter.unusedVariables false
set_option maxRecDepth 20000

def uF (s : ByteArray) (k : Nat) : Int := if s.size ≤ 100 then atF (words s.data.toList) k else -1
def uText (s : ByteArray) : ByteArray := textOf (uF s 1) (uF s 3) (uF s 5) (uF s 7) (uF s 9)

theorem frozen_alloc {w : World} {b o : Nat} (h : b < w.heap.size) {ob : Obj} : (w.alloc ob).frozen? ⟨b, o, none⟩ = w.frozen? ⟨b, o, none⟩ := ((Below.refl _ _).alloc (Nat.le_refl _) _ : Below w.heap.size w (w.alloc ob)).frozen (p := ⟨b, o, none⟩) h

theorem text_inj {x y : ByteArray} (h : x.toList = y.toList) : x = y := by
  rw [ByteArray.toList_eq, ByteArray.toList_eq] at h
  exact Go.WideShapes.bytes_inj h

/-- Five cells of a block, written anew. -/
def put5 (W : World) (b : Nat) (x0 x1 x2 x3 x4 : Value) : World :=
  ((((W.setCell ⟨b, 0, none⟩ x0).setCell ⟨b, 1, none⟩ x1).setCell ⟨b, 2, none⟩ x2).setCell ⟨b, 3, none⟩ x3).setCell ⟨b, 4, none⟩ x4
theorem put5_cells {W : World} {b : Nat} {y0 y1 y2 y3 y4 : Value} (c0 : W.cell? ⟨b, 0, none⟩ = some y0) (c1 : W.cell? ⟨b, 1, none⟩ = some y1) (c2 : W.cell? ⟨b, 2, none⟩ = some y2) (c3 : W.cell? ⟨b, 3, none⟩ = some y3) (c4 : W.cell? ⟨b, 4, none⟩ = some y4) (x0 x1 x2 x3 x4 : Value) :
    (put5 W b x0 x1 x2 x3 x4).cell? ⟨b, 0, none⟩ = some x0 ∧ (put5 W b x0 x1 x2 x3 x4).cell? ⟨b, 1, none⟩ = some x1 ∧ (put5 W b x0 x1 x2 x3 x4).cell? ⟨b, 2, none⟩ = some x2 ∧ (put5 W b x0 x1 x2 x3 x4).cell? ⟨b, 3, none⟩ = some x3 ∧ (put5 W b x0 x1 x2 x3 x4).cell? ⟨b, 4, none⟩ = some x4 := by
  have h : ∀ j, j < 5 → (W.cell? ⟨b, 0 + j, none⟩).isSome = true := by
    intro j hj
    match j, hj with
    | 0, _ => simp [c0]
    | 1, _ => simp [c1]
    | 2, _ => simp [c2]
    | 3, _ => simp [c3]
    | 4, _ => simp [c4]
  have e : put5 W b x0 x1 x2 x3 x4 = W.setCells b 0 [x0, x1, x2, x3, x4] := rfl
  rw [e]
  have g := World.cell?_setCells_in b [x0, x1, x2, x3, x4] 0 W h
  exact ⟨g 0 (by simp), g 1 (by simp), g 2 (by simp), g 3 (by simp), g 4 (by simp)⟩
theorem put5_size (W : World) (b : Nat) (x0 x1 x2 x3 x4 : Value) : (put5 W b x0 x1 x2 x3 x4).heap.size = W.heap.size := by simp [put5, World.setCell]
theorem put5_below {B : Nat} {a W : World} (h : Below B a W) {b : Nat} (hb : B ≤ b) (x0 x1 x2 x3 x4 : Value) : Below B a (put5 W b x0 x1 x2 x3 x4) :=
  ((((h.setCell (p := ⟨b, 0, none⟩) hb _).setCell (p := ⟨b, 1, none⟩) hb _).setCell (p := ⟨b, 2, none⟩) hb _).setCell (p := ⟨b, 3, none⟩) hb _).setCell (p := ⟨b, 4, none⟩) hb _

/-- The walk behind the words, whatever they are: each of the five looks hands back its number. -/
def Looks (s : ByteArray) (v : Value) (w1 : World) : Prop := ∀ k : Nat, k ≤ 100 → Calls Tryd.prog 20 #[v, .int .i64 k] w1 fun e w' => e = .returned (.int .i64 (uF s k)) ∧ w' = w1

theorem wordsLook (s : ByteArray) (w : World) : Calls Tryd.prog 19 #[.string s] w fun e w' => ∃ v, e = .returned v ∧ Looks s v w' ∧ Below w.heap.size w w' := by
  by_cases hs : s.size ≤ 100
  · refine (words_spec s (by omega) w).mono ?_
    rintro e w' ⟨v, rfl, ho, hb⟩
    refine ⟨v, rfl, fun k hk => ?_, hb⟩
    have := at_any s (by omega) _ k hk v w' ho
    unfold uF
    rw [if_pos hs]
    exact this
  · refine (words_long s (by omega) w).mono ?_
    rintro e w' ⟨rfl, hb⟩
    refine ⟨_, rfl, fun k hk => ?_, hb⟩
    unfold uF
    rw [if_neg hs]
    exact at_none _ 0 0 k (by omega) hk w'

set_option maxHeartbeats 1000000 in
theorem read_spec (s : ByteArray) (w : World) :
    Calls Tryd.prog 21 #[.string s] w fun e w' => ((¬ s.size = 0 ∧ uText s = s ∧ e = .returned (.tuple #[.agg #[.int .i64 (uF s 1), .int .i64 (uF s 3), .int .i64 (uF s 5), .int .i64 (uF s 7), .int .i64 (uF s 9)], .bool true])) ∨ (¬ (¬ s.size = 0 ∧ uText s = s) ∧ e = .returned (.tuple #[.agg #[.int .i64 0, .int .i64 0, .int .i64 0, .int .i64 0, .int .i64 0], .bool false]))) ∧ Below w.heap.size w w' := by
  go_enter Tryd.func21, Tryd.ntmps21
  go_wp2_with fail
  refine (wordsLook s _).mono ?_
  rintro e w1 ⟨v, rfl, hL, hb1⟩
  obtain ⟨hc1, hf1⟩ := bcell hb1
  have hz1 : w.heap.size < w1.heap.size := by have := hb1.size; simp at this; omega
  have L1 : Hid (Calls Tryd.prog 20 #[v, .int .i64 1] w1 fun e w' => e = .returned (.int .i64 (uF s 1)) ∧ w' = w1) := hL 1 (by omega)
  have L3 : Hid (Calls Tryd.prog 20 #[v, .int .i64 3] w1 fun e w' => e = .returned (.int .i64 (uF s 3)) ∧ w' = w1) := hL 3 (by omega)
  have L5 : Hid (Calls Tryd.prog 20 #[v, .int .i64 5] w1 fun e w' => e = .returned (.int .i64 (uF s 5)) ∧ w' = w1) := hL 5 (by omega)
  have L7 : Hid (Calls Tryd.prog 20 #[v, .int .i64 7] w1 fun e w' => e = .returned (.int .i64 (uF s 7)) ∧ w' = w1) := hL 7 (by omega)
  have L9 : Hid (Calls Tryd.prog 20 #[v, .int .i64 9] w1 fun e w' => e = .returned (.int .i64 (uF s 9)) ∧ w' = w1) := hL 9 (by omega)
  have c0 : w1.cell? ⟨w.heap.size, 0, none⟩ = some (.int .i64 0) := (hc1 _ 0 (by simp)).trans (by simp)
  have c1 : w1.cell? ⟨w.heap.size, 1, none⟩ = some (.int .i64 0) := (hc1 _ 1 (by simp)).trans (by simp)
  have c2 : w1.cell? ⟨w.heap.size, 2, none⟩ = some (.int .i64 0) := (hc1 _ 2 (by simp)).trans (by simp)
  have c3 : w1.cell? ⟨w.heap.size, 3, none⟩ = some (.int .i64 0) := (hc1 _ 3 (by simp)).trans (by simp)
  have c4 : w1.cell? ⟨w.heap.size, 4, none⟩ = some (.int .i64 0) := (hc1 _ 4 (by simp)).trans (by simp)
  have f0 : w1.frozen? ⟨w.heap.size, 0, none⟩ = false := (hf1 _ 0 (by simp)).trans (by simp)
  have f1 : w1.frozen? ⟨w.heap.size, 1, none⟩ = false := (hf1 _ 1 (by simp)).trans (by simp)
  have f2 : w1.frozen? ⟨w.heap.size, 2, none⟩ = false := (hf1 _ 2 (by simp)).trans (by simp)
  have f3 : w1.frozen? ⟨w.heap.size, 3, none⟩ = false := (hf1 _ 3 (by simp)).trans (by simp)
  have f4 : w1.frozen? ⟨w.heap.size, 4, none⟩ = false := (hf1 _ 4 (by simp)).trans (by simp)
  clear hL hc1 hf1
  go_wp2_with fail
  refine (L1.out).mono ?_
  rintro e w' ⟨rfl, hw'⟩
  subst hw'
  go_wp2_with fail
  refine (L3.out).mono ?_
  rintro e w' ⟨rfl, hw'⟩
  subst hw'
  go_wp2_with fail
  refine (L5.out).mono ?_
  rintro e w' ⟨rfl, hw'⟩
  subst hw'
  go_wp2_with fail
  refine (L7.out).mono ?_
  rintro e w' ⟨rfl, hw'⟩
  subst hw'
  go_wp2_with fail
  refine (L9.out).mono ?_
  rintro e w' ⟨rfl, hw'⟩
  subst hw'
  clear L1 L3 L5 L7 L9
  go_wp2_with fail
  · obtain ⟨q0, q1, q2, q3, q4⟩ := put5_cells c0 c1 c2 c3 c4 (.int .i64 0) (.int .i64 0) (.int .i64 0) (.int .i64 0) (.int .i64 0)
    have e0 : ((((((w'.setCell ⟨w.heap.size, 0, none⟩ (.int .i64 0)).setCell ⟨w.heap.size, 1, none⟩ (.int .i64 0)).setCell ⟨w.heap.size, 2, none⟩ (.int .i64 0)).setCell ⟨w.heap.size, 3, none⟩ (.int .i64 0)).setCell ⟨w.heap.size, 4, none⟩ (.int .i64 0)).alloc (.cells #[.int .i64 (uF ByteArray.empty 1), .int .i64 (uF ByteArray.empty 3), .int .i64 (uF ByteArray.empty 5), .int .i64 (uF ByteArray.empty 7), .int .i64 (uF ByteArray.empty 9)] 24)).cell? ⟨w.heap.size, 0, none⟩ = some (.int .i64 0) := (World.cell?_alloc_past _ _ _ (by have := put5_size w' w.heap.size (.int .i64 0) (.int .i64 0) (.int .i64 0) (.int .i64 0) (.int .i64 0); unfold put5 at this; omega)).trans q0
    have e1 : ((((((w'.setCell ⟨w.heap.size, 0, none⟩ (.int .i64 0)).setCell ⟨w.heap.size, 1, none⟩ (.int .i64 0)).setCell ⟨w.heap.size, 2, none⟩ (.int .i64 0)).setCell ⟨w.heap.size, 3, none⟩ (.int .i64 0)).setCell ⟨w.heap.size, 4, none⟩ (.int .i64 0)).alloc (.cells #[.int .i64 (uF ByteArray.empty 1), .int .i64 (uF ByteArray.empty 3), .int .i64 (uF ByteArray.empty 5), .int .i64 (uF ByteArray.empty 7), .int .i64 (uF ByteArray.empty 9)] 24)).cell? ⟨w.heap.size, 1, none⟩ = some (.int .i64 0) := (World.cell?_alloc_past _ _ _ (by have := put5_size w' w.heap.size (.int .i64 0) (.int .i64 0) (.int .i64 0) (.int .i64 0) (.int .i64 0); unfold put5 at this; omega)).trans q1
    have e2 : ((((((w'.setCell ⟨w.heap.size, 0, none⟩ (.int .i64 0)).setCell ⟨w.heap.size, 1, none⟩ (.int .i64 0)).setCell ⟨w.heap.size, 2, none⟩ (.int .i64 0)).setCell ⟨w.heap.size, 3, none⟩ (.int .i64 0)).setCell ⟨w.heap.size, 4, none⟩ (.int .i64 0)).alloc (.cells #[.int .i64 (uF ByteArray.empty 1), .int .i64 (uF ByteArray.empty 3), .int .i64 (uF ByteArray.empty 5), .int .i64 (uF ByteArray.empty 7), .int .i64 (uF ByteArray.empty 9)] 24)).cell? ⟨w.heap.size, 2, none⟩ = some (.int .i64 0) := (World.cell?_alloc_past _ _ _ (by have := put5_size w' w.heap.size (.int .i64 0) (.int .i64 0) (.int .i64 0) (.int .i64 0) (.int .i64 0); unfold put5 at this; omega)).trans q2
    have e3 : ((((((w'.setCell ⟨w.heap.size, 0, none⟩ (.int .i64 0)).setCell ⟨w.heap.size, 1, none⟩ (.int .i64 0)).setCell ⟨w.heap.size, 2, none⟩ (.int .i64 0)).setCell ⟨w.heap.size, 3, none⟩ (.int .i64 0)).setCell ⟨w.heap.size, 4, none⟩ (.int .i64 0)).alloc (.cells #[.int .i64 (uF ByteArray.empty 1), .int .i64 (uF ByteArray.empty 3), .int .i64 (uF ByteArray.empty 5), .int .i64 (uF ByteArray.empty 7), .int .i64 (uF ByteArray.empty 9)] 24)).cell? ⟨w.heap.size, 3, none⟩ = some (.int .i64 0) := (World.cell?_alloc_past _ _ _ (by have := put5_size w' w.heap.size (.int .i64 0) (.int .i64 0) (.int .i64 0) (.int .i64 0) (.int .i64 0); unfold put5 at this; omega)).trans q3
    have e4 : ((((((w'.setCell ⟨w.heap.size, 0, none⟩ (.int .i64 0)).setCell ⟨w.heap.size, 1, none⟩ (.int .i64 0)).setCell ⟨w.heap.size, 2, none⟩ (.int .i64 0)).setCell ⟨w.heap.size, 3, none⟩ (.int .i64 0)).setCell ⟨w.heap.size, 4, none⟩ (.int .i64 0)).alloc (.cells #[.int .i64 (uF ByteArray.empty 1), .int .i64 (uF ByteArray.empty 3), .int .i64 (uF ByteArray.empty 5), .int .i64 (uF ByteArray.empty 7), .int .i64 (uF ByteArray.empty 9)] 24)).cell? ⟨w.heap.size, 4, none⟩ = some (.int .i64 0) := (World.cell?_alloc_past _ _ _ (by have := put5_size w' w.heap.size (.int .i64 0) (.int .i64 0) (.int .i64 0) (.int .i64 0) (.int .i64 0); unfold put5 at this; omega)).trans q4
    refine bodyPost_ret (v := .tuple #[.agg #[.int .i64 0, .int .i64 0, .int .i64 0, .int .i64 0, .int .i64 0], .bool false]) ?_ rfl ⟨.inr ⟨fun h => h.1 (by simp_all), rfl⟩, ?_⟩
    · simp [results, Tryd.results21, go_sem, e0, e1, e2, e3, e4]
    · exact (put5_below (bthen ((Below.refl _ _).alloc (by simp) _) hb1) (Nat.le_refl _) (.int .i64 0) (.int .i64 0) (.int .i64 0) (.int .i64 0) (.int .i64 0)).alloc (by rw [put5_size]; omega) _
  · refine (text_spec _ _ _ _ _ _).mono ?_
    rintro e w2 ⟨rfl, hb2⟩
    obtain ⟨hc2, hf2⟩ := bcell hb2
    have d0 : w2.cell? ⟨w.heap.size, 0, none⟩ = some (.int .i64 0) := (hc2 _ 0 (by simp; omega)).trans (by rw [World.cell?_alloc_past _ _ _ hz1]; exact c0)
    have g0 : w2.frozen? ⟨w.heap.size, 0, none⟩ = false := (hf2 _ 0 (by simp; omega)).trans (by rw [frozen_alloc hz1]; exact f0)
    have u0 : w2.cell? ⟨w'.heap.size, 0, none⟩ = some (.int .i64 (uF s 1)) := (hc2 _ 0 (by simp)).trans (by simp)
    have d1 : w2.cell? ⟨w.heap.size, 1, none⟩ = some (.int .i64 0) := (hc2 _ 1 (by simp; omega)).trans (by rw [World.cell?_alloc_past _ _ _ hz1]; exact c1)
    have g1 : w2.frozen? ⟨w.heap.size, 1, none⟩ = false := (hf2 _ 1 (by simp; omega)).trans (by rw [frozen_alloc hz1]; exact f1)
    have u1 : w2.cell? ⟨w'.heap.size, 1, none⟩ = some (.int .i64 (uF s 3)) := (hc2 _ 1 (by simp)).trans (by simp)
    have d2 : w2.cell? ⟨w.heap.size, 2, none⟩ = some (.int .i64 0) := (hc2 _ 2 (by simp; omega)).trans (by rw [World.cell?_alloc_past _ _ _ hz1]; exact c2)
    have g2 : w2.frozen? ⟨w.heap.size, 2, none⟩ = false := (hf2 _ 2 (by simp; omega)).trans (by rw [frozen_alloc hz1]; exact f2)
    have u2 : w2.cell? ⟨w'.heap.size, 2, none⟩ = some (.int .i64 (uF s 5)) := (hc2 _ 2 (by simp)).trans (by simp)
    have d3 : w2.cell? ⟨w.heap.size, 3, none⟩ = some (.int .i64 0) := (hc2 _ 3 (by simp; omega)).trans (by rw [World.cell?_alloc_past _ _ _ hz1]; exact c3)
    have g3 : w2.frozen? ⟨w.heap.size, 3, none⟩ = false := (hf2 _ 3 (by simp; omega)).trans (by rw [frozen_alloc hz1]; exact f3)
    have u3 : w2.cell? ⟨w'.heap.size, 3, none⟩ = some (.int .i64 (uF s 7)) := (hc2 _ 3 (by simp)).trans (by simp)
    have d4 : w2.cell? ⟨w.heap.size, 4, none⟩ = some (.int .i64 0) := (hc2 _ 4 (by simp; omega)).trans (by rw [World.cell?_alloc_past _ _ _ hz1]; exact c4)
    have g4 : w2.frozen? ⟨w.heap.size, 4, none⟩ = false := (hf2 _ 4 (by simp; omega)).trans (by rw [frozen_alloc hz1]; exact f4)
    have u4 : w2.cell? ⟨w'.heap.size, 4, none⟩ = some (.int .i64 (uF s 9)) := (hc2 _ 4 (by simp)).trans (by simp)
    clear hc2 hf2 c0 c1 c2 c3 c4 f0 f1 f2 f3 f4
    have B2 : Below w.heap.size w w2 := bthen ((bthen ((Below.refl _ _).alloc (by simp) _) hb1).alloc (Nat.le_of_lt hz1) _) hb2
    by_cases he : uText s = s
    · have he' : ((textOf (uF s 1) (uF s 3) (uF s 5) (uF s 7) (uF s 9)).toList == s.toList) = true := by
        rw [show textOf (uF s 1) (uF s 3) (uF s 5) (uF s 7) (uF s 9) = s from he]; simp
      have hn0 : ¬ s.size = 0 := by
        intro e
        have : (↑s.size == (0 : Int)) = true := by simp [e]
        simp_all
      have HE : Hid (uText s = s) := he
      clear he
      go_wp2
      obtain ⟨q0, q1, q2, q3, q4⟩ := put5_cells d0 d1 d2 d3 d4 (.int .i64 (uF s 1)) (.int .i64 (uF s 3)) (.int .i64 (uF s 5)) (.int .i64 (uF s 7)) (.int .i64 (uF s 9))
      unfold put5 at q0 q1 q2 q3 q4
      refine bodyPost_ret (v := .tuple #[.agg #[.int .i64 (uF s 1), .int .i64 (uF s 3), .int .i64 (uF s 5), .int .i64 (uF s 7), .int .i64 (uF s 9)], .bool true]) ?_ rfl ⟨.inl ⟨hn0, HE.out, rfl⟩, ?_⟩
      · simp [results, Tryd.results21, go_sem, q0, q1, q2, q3, q4]
      · exact put5_below B2 (Nat.le_refl _) (.int .i64 (uF s 1)) (.int .i64 (uF s 3)) (.int .i64 (uF s 5)) (.int .i64 (uF s 7)) (.int .i64 (uF s 9))
    · have he' : ((textOf (uF s 1) (uF s 3) (uF s 5) (uF s 7) (uF s 9)).toList == s.toList) = false := by
        apply beq_eq_false_iff_ne.2
        intro e
        exact he (text_inj e)
      have HE : Hid (¬ uText s = s) := he
      clear he
      go_wp2
      obtain ⟨q0, q1, q2, q3, q4⟩ := put5_cells d0 d1 d2 d3 d4 (.int .i64 0) (.int .i64 0) (.int .i64 0) (.int .i64 0) (.int .i64 0)
      unfold put5 at q0 q1 q2 q3 q4
      refine bodyPost_ret (v := .tuple #[.agg #[.int .i64 0, .int .i64 0, .int .i64 0, .int .i64 0, .int .i64 0], .bool false]) ?_ rfl ⟨.inr ⟨fun h => HE.out h.2, rfl⟩, ?_⟩
      · simp [results, Tryd.results21, go_sem, q0, q1, q2, q3, q4]
      · exact put5_below B2 (Nat.le_refl _) (.int .i64 0) (.int .i64 0) (.int .i64 0) (.int .i64 0) (.int .i64 0)
end Go.Proofs.YtpfemjenhnnfmaaDoor
