/- The walk of the model's PclRead at a text whose second word is that of a walker; conditions: none. -/
import Derived.Test.YtpfemjenhnnfmaaDoorPRead4
import Derived.Deep.RegionWith
namespace Go.Proofs.YtpfemjenhnnfmaaDoor
open Go.RowKit
set_option linter.unusedVariables false

theorem rest_len : ∀ l : List UInt8, (restF l).length ≤ l.length
  | [] => Nat.le_refl _
  | b :: r => by
    unfold restF
    split
    · simp
    · exact Nat.le_trans (rest_len r) (by simp)

set_option maxHeartbeats 2000000 in
theorem sread_bad (s : ByteArray) (h : (s.size : Int) ≤ 100) (h3 : 3 ≤ (words s.data.toList).length) (hnw : (words s.data.toList).getD 1 [] = WALKER) (hv : ¬ vOk ⟨(restF s.data.toList).toArray⟩) (w : World) :
    Calls Tryd.prog 8 #[.string s] w fun e w' => e = .returned (.tuple #[nullP.val, .bool false]) ∧ Below w.heap.size w w' := by
  have HV : Hid (¬ vOk ⟨(restF s.data.toList).toArray⟩) := hv
  clear hv
  have hle : s.size ≤ 100 := by omega
  have wl : (words s.data.toList).length ≤ 200 := by have := wlen s.data.toList; rw [size_len] at this; omega
  obtain ⟨x1, hx1⟩ : ∃ x, (words s.data.toList)[1]? = some x := ⟨_, List.getElem?_eq_getElem (by omega)⟩
  have hx1n : x1 = WALKER := by
    have : (words s.data.toList).getD 1 [] = x1 := by rw [List.getD_eq_getElem?_getD, hx1]; rfl
    rw [← this]; exact hnw
  clear hnw
  have hxx : (x1 == [119, 97, 108, 107, 101, 114]) = true := by simpa [WALKER] using hx1n
  clear hx1n
  go_enter Tryd.func8, Tryd.ntmps8
  go_wp2_with fail
  refine (words_spec s h _).mono ?_
  rintro e w1 ⟨v, rfl, ho, hb1⟩
  obtain ⟨hc, hf⟩ := bcell hb1
  have c0 : w1.cell? ⟨w.heap.size, 0, none⟩ = some (.int .i64 0) := (hc _ 0 (by simp)).trans (by simp)
  have f0 : w1.frozen? ⟨w.heap.size, 0, none⟩ = false := (hf _ 0 (by simp)).trans (by simp)
  have c1 : w1.cell? ⟨w.heap.size, 1, none⟩ = some (.int .i64 0) := (hc _ 1 (by simp)).trans (by simp)
  have f1 : w1.frozen? ⟨w.heap.size, 1, none⟩ = false := (hf _ 1 (by simp)).trans (by simp)
  have c2 : w1.cell? ⟨w.heap.size, 2, none⟩ = some (.int .i64 0) := (hc _ 2 (by simp)).trans (by simp)
  have f2 : w1.frozen? ⟨w.heap.size, 2, none⟩ = false := (hf _ 2 (by simp)).trans (by simp)
  have c3 : w1.cell? ⟨w.heap.size, 3, none⟩ = some (.int .i64 0) := (hc _ 3 (by simp)).trans (by simp)
  have f3 : w1.frozen? ⟨w.heap.size, 3, none⟩ = false := (hf _ 3 (by simp)).trans (by simp)
  have c4 : w1.cell? ⟨w.heap.size, 4, none⟩ = some (.int .i64 0) := (hc _ 4 (by simp)).trans (by simp)
  have f4 : w1.frozen? ⟨w.heap.size, 4, none⟩ = false := (hf _ 4 (by simp)).trans (by simp)
  have c5 : w1.cell? ⟨w.heap.size, 5, none⟩ = some (.int .i64 0) := (hc _ 5 (by simp)).trans (by simp)
  have f5 : w1.frozen? ⟨w.heap.size, 5, none⟩ = false := (hf _ 5 (by simp)).trans (by simp)
  have c6 : w1.cell? ⟨w.heap.size, 6, none⟩ = some (.int .i64 0) := (hc _ 6 (by simp)).trans (by simp)
  have f6 : w1.frozen? ⟨w.heap.size, 6, none⟩ = false := (hf _ 6 (by simp)).trans (by simp)
  have c7 : w1.cell? ⟨w.heap.size, 7, none⟩ = some (.int .i64 0) := (hc _ 7 (by simp)).trans (by simp)
  have f7 : w1.frozen? ⟨w.heap.size, 7, none⟩ = false := (hf _ 7 (by simp)).trans (by simp)
  have HB : Hid (Below w.heap.size w w1) := bthen ((Below.refl _ _).alloc (by simp) _) hb1
  have hz1 : w.heap.size < w1.heap.size := by have := hb1.size; simp at this; omega
  have L0 : Hid (Calls Tryd.prog 20 #[v, .int .i64 0] w1 fun e w' => e = .returned (.int .i64 (uF s 0)) ∧ w' = w1) := by
    have := at_any s h _ 0 (by omega) v w1 ho
    unfold Hid uF
    rw [if_pos hle]
    exact this
  have L2 : Hid (Calls Tryd.prog 20 #[v, .int .i64 2] w1 fun e w' => e = .returned (.int .i64 (uF s 2)) ∧ w' = w1) := by
    have := at_any s h _ 2 (by omega) v w1 ho
    unfold Hid uF
    rw [if_pos hle]
    exact this
  rcases ho.2 with ⟨rfl, h0⟩ | ⟨g, cap, cur, rfl, hg, _⟩
  · omega
  have x1c : w1.cell? ⟨g, 1, none⟩ = some (.string ⟨x1.toArray⟩) := by
    have := ho.cells (g := g) rfl 1 (.string ⟨x1.toArray⟩) (by simp [strs, hx1])
    rwa [show (⟨g, 0, none⟩ : Addr).add 1 = ⟨g, 1, none⟩ by unfold Addr.add; split <;> simp_all] at this
  have h3' : (3 : Int) ≤ ((words s.data.toList).length : Int) := by omega
  have wl' : ((words s.data.toList).length : Int) ≤ 200 := by omega
  have hglt : g < w1.heap.size := World.block_lt_of_cell? w1 _ x1c
  generalize hN : (words s.data.toList).length = N at *
  have HO : Hid (w1.ownsRow (w.alloc (.cells #[.int .i64 0, .int .i64 0, .int .i64 0, .int .i64 0, .int .i64 0, .int .i64 0, .int .i64 0, .int .i64 0] 26)).heap.size 9 1 (.slice (some ⟨g, 0, none⟩) N cap) N (strs (words s.data.toList))) := ho
  clear hc hf hb1 ho hx1
  go_wp2_with fail
  refine (L0.out).mono ?_
  rintro e w' ⟨rfl, hw'⟩
  subst hw'
  go_wp2_with fail
  refine (L2.out).mono ?_
  rintro e w' ⟨rfl, hw'⟩
  subst hw'
  clear L0 L2
  go_wp2_with fail
  refine (rest_spec s (by omega) _).mono ?_
  rintro e w2 ⟨rfl, rfl⟩
  go_wp2_with fail
  refine (spec_no _ _ HV.out).mono ?_
  rintro e w4 ⟨rfl, hb4⟩
  obtain ⟨hcp, hfp⟩ := bcell hb4
  have BA : Below w'.heap.size w' (w'.alloc (.cells #[.int .i64 (uF s 0), .int .i64 2, .int .i64 0, .int .i64 0, .int .i64 0, .int .i64 0, .int .i64 0, .int .i64 (uF s 2)] 26)) := (Below.refl _ _).alloc (Nat.le_refl _) _
  have BB : Below w'.heap.size w' w4 := bthen BA hb4
  obtain ⟨hcb, hfb⟩ := bcell BB
  have hz4 : w.heap.size < w4.heap.size := Nat.lt_of_lt_of_le hz1 BB.size
  have k0 : w4.cell? ⟨w.heap.size, 0, none⟩ = some (.int .i64 0) := (hcb _ 0 hz1).trans c0
  have q0 : w4.frozen? ⟨w.heap.size, 0, none⟩ = false := (hfb _ 0 hz1).trans f0
  have p0 : w4.cell? ⟨w'.heap.size, 0, none⟩ = some (.int .i64 (uF s 0)) := (hcp _ 0 (by simp)).trans (by simp)
  have k1 : w4.cell? ⟨w.heap.size, 1, none⟩ = some (.int .i64 0) := (hcb _ 1 hz1).trans c1
  have q1 : w4.frozen? ⟨w.heap.size, 1, none⟩ = false := (hfb _ 1 hz1).trans f1
  have p1 : w4.cell? ⟨w'.heap.size, 1, none⟩ = some (.int .i64 2) := (hcp _ 1 (by simp)).trans (by simp)
  have k2 : w4.cell? ⟨w.heap.size, 2, none⟩ = some (.int .i64 0) := (hcb _ 2 hz1).trans c2
  have q2 : w4.frozen? ⟨w.heap.size, 2, none⟩ = false := (hfb _ 2 hz1).trans f2
  have p2 : w4.cell? ⟨w'.heap.size, 2, none⟩ = some (.int .i64 0) := (hcp _ 2 (by simp)).trans (by simp)
  have k3 : w4.cell? ⟨w.heap.size, 3, none⟩ = some (.int .i64 0) := (hcb _ 3 hz1).trans c3
  have q3 : w4.frozen? ⟨w.heap.size, 3, none⟩ = false := (hfb _ 3 hz1).trans f3
  have p3 : w4.cell? ⟨w'.heap.size, 3, none⟩ = some (.int .i64 0) := (hcp _ 3 (by simp)).trans (by simp)
  have k4 : w4.cell? ⟨w.heap.size, 4, none⟩ = some (.int .i64 0) := (hcb _ 4 hz1).trans c4
  have q4 : w4.frozen? ⟨w.heap.size, 4, none⟩ = false := (hfb _ 4 hz1).trans f4
  have p4 : w4.cell? ⟨w'.heap.size, 4, none⟩ = some (.int .i64 0) := (hcp _ 4 (by simp)).trans (by simp)
  have k5 : w4.cell? ⟨w.heap.size, 5, none⟩ = some (.int .i64 0) := (hcb _ 5 hz1).trans c5
  have q5 : w4.frozen? ⟨w.heap.size, 5, none⟩ = false := (hfb _ 5 hz1).trans f5
  have p5 : w4.cell? ⟨w'.heap.size, 5, none⟩ = some (.int .i64 0) := (hcp _ 5 (by simp)).trans (by simp)
  have k6 : w4.cell? ⟨w.heap.size, 6, none⟩ = some (.int .i64 0) := (hcb _ 6 hz1).trans c6
  have q6 : w4.frozen? ⟨w.heap.size, 6, none⟩ = false := (hfb _ 6 hz1).trans f6
  have p6 : w4.cell? ⟨w'.heap.size, 6, none⟩ = some (.int .i64 0) := (hcp _ 6 (by simp)).trans (by simp)
  have k7 : w4.cell? ⟨w.heap.size, 7, none⟩ = some (.int .i64 0) := (hcb _ 7 hz1).trans c7
  have q7 : w4.frozen? ⟨w.heap.size, 7, none⟩ = false := (hfb _ 7 hz1).trans f7
  have p7 : w4.cell? ⟨w'.heap.size, 7, none⟩ = some (.int .i64 (uF s 2)) := (hcp _ 7 (by simp)).trans (by simp)
  have HB4 : Hid (Below w.heap.size w w4) := bthen HB.out BB
  clear hcp hfp hcb hfb BA BB hb4 c0 f0 c1 f1 c2 f2 c3 f3 c4 f4 c5 f5 c6 f6 c7 f7 HO
  have fz : ∀ (X : World) (ob : Obj) (o : Nat), X.heap.size = w4.heap.size → (X.alloc ob).frozen? ⟨w.heap.size, o, none⟩ = X.frozen? ⟨w.heap.size, o, none⟩ := fun X ob o hX => frozen_alloc (by rw [hX]; exact hz4)
  have cz : ∀ (X : World) (ob : Obj) (o : Nat), X.heap.size = w4.heap.size → (X.alloc ob).cell? ⟨w.heap.size, o, none⟩ = X.cell? ⟨w.heap.size, o, none⟩ := fun X ob o hX => ((Below.refl _ _).alloc (Nat.le_refl _) _ : Below X.heap.size X (X.alloc ob)).cell (p := ⟨w.heap.size, o, none⟩) (by rw [hX]; exact hz4)
  have hne : w.heap.size ≠ w4.heap.size := by omega
  have hne' : w4.heap.size ≠ w.heap.size := by omega
  go_wp2
  exact bodyPost_ret (v := .tuple #[nullP.val, .bool false]) (by simp [results, Tryd.results8, go_sem, k0, k1, k2, k3, k4, k5, k6, k7, cz, nullP, Pcl.val]) rfl ⟨rfl, by refine Below.alloc ?_ (by simp [World.setCell]; omega) _; (iterate 8 (refine Below.setCell ?_ (by simp) _)); exact HB4.out⟩

set_option maxHeartbeats 4000000 in
theorem sread_good (s : ByteArray) (h : (s.size : Int) ≤ 100) (h3 : 3 ≤ (words s.data.toList).length) (hnw : (words s.data.toList).getD 1 [] = WALKER) (R : ByteArray) (hR : R = ⟨(restF s.data.toList).toArray⟩) (hv : vOk R) (w : World) :
    Calls Tryd.prog 8 #[.string s] w fun e w' => (((Pcl.text ⟨uF s 0, 1, vF R 1, vF R 3, vF R 5, vF R 7, vF R 9, 0⟩).toList = s.toList ∧ e = .returned (.tuple #[Pcl.val ⟨uF s 0, 1, vF R 1, vF R 3, vF R 5, vF R 7, vF R 9, 0⟩, .bool true])) ∨ ((Pcl.text ⟨uF s 0, 1, vF R 1, vF R 3, vF R 5, vF R 7, vF R 9, 0⟩).toList ≠ s.toList ∧ e = .returned (.tuple #[nullP.val, .bool false]))) ∧ Below w.heap.size w w' := by
  have HV : Hid (vOk R) := hv
  have HRR : Hid (R = ⟨(restF s.data.toList).toArray⟩) := hR
  clear hv hR
  have hle : s.size ≤ 100 := by omega
  have wl : (words s.data.toList).length ≤ 200 := by have := wlen s.data.toList; rw [size_len] at this; omega
  obtain ⟨x1, hx1⟩ : ∃ x, (words s.data.toList)[1]? = some x := ⟨_, List.getElem?_eq_getElem (by omega)⟩
  have hx1n : x1 = WALKER := by
    have : (words s.data.toList).getD 1 [] = x1 := by rw [List.getD_eq_getElem?_getD, hx1]; rfl
    rw [← this]; exact hnw
  clear hnw
  have hxx : (x1 == [119, 97, 108, 107, 101, 114]) = true := by simpa [WALKER] using hx1n
  clear hx1n
  go_enter Tryd.func8, Tryd.ntmps8
  go_wp2_with fail
  refine (words_spec s h _).mono ?_
  rintro e w1 ⟨v, rfl, ho, hb1⟩
  obtain ⟨hc, hf⟩ := bcell hb1
  have c0 : w1.cell? ⟨w.heap.size, 0, none⟩ = some (.int .i64 0) := (hc _ 0 (by simp)).trans (by simp)
  have f0 : w1.frozen? ⟨w.heap.size, 0, none⟩ = false := (hf _ 0 (by simp)).trans (by simp)
  have c1 : w1.cell? ⟨w.heap.size, 1, none⟩ = some (.int .i64 0) := (hc _ 1 (by simp)).trans (by simp)
  have f1 : w1.frozen? ⟨w.heap.size, 1, none⟩ = false := (hf _ 1 (by simp)).trans (by simp)
  have c2 : w1.cell? ⟨w.heap.size, 2, none⟩ = some (.int .i64 0) := (hc _ 2 (by simp)).trans (by simp)
  have f2 : w1.frozen? ⟨w.heap.size, 2, none⟩ = false := (hf _ 2 (by simp)).trans (by simp)
  have c3 : w1.cell? ⟨w.heap.size, 3, none⟩ = some (.int .i64 0) := (hc _ 3 (by simp)).trans (by simp)
  have f3 : w1.frozen? ⟨w.heap.size, 3, none⟩ = false := (hf _ 3 (by simp)).trans (by simp)
  have c4 : w1.cell? ⟨w.heap.size, 4, none⟩ = some (.int .i64 0) := (hc _ 4 (by simp)).trans (by simp)
  have f4 : w1.frozen? ⟨w.heap.size, 4, none⟩ = false := (hf _ 4 (by simp)).trans (by simp)
  have c5 : w1.cell? ⟨w.heap.size, 5, none⟩ = some (.int .i64 0) := (hc _ 5 (by simp)).trans (by simp)
  have f5 : w1.frozen? ⟨w.heap.size, 5, none⟩ = false := (hf _ 5 (by simp)).trans (by simp)
  have c6 : w1.cell? ⟨w.heap.size, 6, none⟩ = some (.int .i64 0) := (hc _ 6 (by simp)).trans (by simp)
  have f6 : w1.frozen? ⟨w.heap.size, 6, none⟩ = false := (hf _ 6 (by simp)).trans (by simp)
  have c7 : w1.cell? ⟨w.heap.size, 7, none⟩ = some (.int .i64 0) := (hc _ 7 (by simp)).trans (by simp)
  have f7 : w1.frozen? ⟨w.heap.size, 7, none⟩ = false := (hf _ 7 (by simp)).trans (by simp)
  have HB : Hid (Below w.heap.size w w1) := bthen ((Below.refl _ _).alloc (by simp) _) hb1
  have hz1 : w.heap.size < w1.heap.size := by have := hb1.size; simp at this; omega
  have L0 : Hid (Calls Tryd.prog 20 #[v, .int .i64 0] w1 fun e w' => e = .returned (.int .i64 (uF s 0)) ∧ w' = w1) := by
    have := at_any s h _ 0 (by omega) v w1 ho
    unfold Hid uF
    rw [if_pos hle]
    exact this
  have L2 : Hid (Calls Tryd.prog 20 #[v, .int .i64 2] w1 fun e w' => e = .returned (.int .i64 (uF s 2)) ∧ w' = w1) := by
    have := at_any s h _ 2 (by omega) v w1 ho
    unfold Hid uF
    rw [if_pos hle]
    exact this
  rcases ho.2 with ⟨rfl, h0⟩ | ⟨g, cap, cur, rfl, hg, _⟩
  · omega
  have x1c : w1.cell? ⟨g, 1, none⟩ = some (.string ⟨x1.toArray⟩) := by
    have := ho.cells (g := g) rfl 1 (.string ⟨x1.toArray⟩) (by simp [strs, hx1])
    rwa [show (⟨g, 0, none⟩ : Addr).add 1 = ⟨g, 1, none⟩ by unfold Addr.add; split <;> simp_all] at this
  have h3' : (3 : Int) ≤ ((words s.data.toList).length : Int) := by omega
  have wl' : ((words s.data.toList).length : Int) ≤ 200 := by omega
  have hglt : g < w1.heap.size := World.block_lt_of_cell? w1 _ x1c
  generalize hN : (words s.data.toList).length = N at *
  have HO : Hid (w1.ownsRow (w.alloc (.cells #[.int .i64 0, .int .i64 0, .int .i64 0, .int .i64 0, .int .i64 0, .int .i64 0, .int .i64 0, .int .i64 0] 26)).heap.size 9 1 (.slice (some ⟨g, 0, none⟩) N cap) N (strs (words s.data.toList))) := ho
  clear hc hf hb1 ho hx1
  go_wp2_with fail
  refine (L0.out).mono ?_
  rintro e w' ⟨rfl, hw'⟩
  subst hw'
  go_wp2_with fail
  refine (L2.out).mono ?_
  rintro e w' ⟨rfl, hw'⟩
  subst hw'
  clear L0 L2
  go_wp2_with fail
  refine (rest_spec s (by omega) _).mono ?_
  rintro e w2 ⟨rfl, rfl⟩
  rw [← HRR.out]
  go_wp2_with fail
  refine (spec_yes R _ HV.out).mono ?_
  rintro e w4 ⟨rfl, hb4⟩
  obtain ⟨hcp, hfp⟩ := bcell hb4
  have BA : Below w'.heap.size w' (w'.alloc (.cells #[.int .i64 (uF s 0), .int .i64 2, .int .i64 0, .int .i64 0, .int .i64 0, .int .i64 0, .int .i64 0, .int .i64 (uF s 2)] 26)) := (Below.refl _ _).alloc (Nat.le_refl _) _
  have BB : Below w'.heap.size w' w4 := bthen BA hb4
  obtain ⟨hcb, hfb⟩ := bcell BB
  have hz4 : w.heap.size < w4.heap.size := Nat.lt_of_lt_of_le hz1 BB.size
  have hp4 : w'.heap.size < w4.heap.size := Nat.lt_of_lt_of_le (by simp) hb4.size
  have t0 : w4.frozen? ⟨w'.heap.size, 0, none⟩ = false := (hfp _ 0 (by simp)).trans (by simp)
  have t1 : w4.frozen? ⟨w'.heap.size, 1, none⟩ = false := (hfp _ 1 (by simp)).trans (by simp)
  have t2 : w4.frozen? ⟨w'.heap.size, 2, none⟩ = false := (hfp _ 2 (by simp)).trans (by simp)
  have t3 : w4.frozen? ⟨w'.heap.size, 3, none⟩ = false := (hfp _ 3 (by simp)).trans (by simp)
  have t4 : w4.frozen? ⟨w'.heap.size, 4, none⟩ = false := (hfp _ 4 (by simp)).trans (by simp)
  have t5 : w4.frozen? ⟨w'.heap.size, 5, none⟩ = false := (hfp _ 5 (by simp)).trans (by simp)
  have t6 : w4.frozen? ⟨w'.heap.size, 6, none⟩ = false := (hfp _ 6 (by simp)).trans (by simp)
  have t7 : w4.frozen? ⟨w'.heap.size, 7, none⟩ = false := (hfp _ 7 (by simp)).trans (by simp)
  have BW : Below w'.heap.size w' (w4.alloc (.cells #[.int .i64 (vF R 1), .int .i64 (vF R 3), .int .i64 (vF R 5), .int .i64 (vF R 7), .int .i64 (vF R 9)] 24)) := BB.alloc (by omega) _
  have LA : Hid (∀ w5 : World, Below (w4.alloc (.cells #[.int .i64 (vF R 1), .int .i64 (vF R 3), .int .i64 (vF R 5), .int .i64 (vF R 7), .int .i64 (vF R 9)] 24)).heap.size (w4.alloc (.cells #[.int .i64 (vF R 1), .int .i64 (vF R 3), .int .i64 (vF R 5), .int .i64 (vF R 7), .int .i64 (vF R 9)] 24)) w5 → Calls Tryd.prog 20 #[.slice (some ⟨g, 0, none⟩) N cap, .int .i64 0] w5 fun e w'' => e = .returned (.int .i64 (uF s 0)) ∧ w'' = w5) := by
    intro w5 h5
    have B5 := bthen BW h5
    have ho2 := HO.out.kept (w' := w5) (row := none) ⟨B5.os, B5.tape, B5.output, B5.size, fun k hk _ => B5.block k hk⟩ (.inr (by simp [Value.ownBlock]))
    rw [← hN] at ho2 ⊢
    have := at_any s h _ 0 (by omega) _ _ ho2
    unfold uF
    rw [if_pos hle]
    exact this
  clear BW
  have k0 : w4.cell? ⟨w.heap.size, 0, none⟩ = some (.int .i64 0) := (hcb _ 0 hz1).trans c0
  have q0 : w4.frozen? ⟨w.heap.size, 0, none⟩ = false := (hfb _ 0 hz1).trans f0
  have p0 : w4.cell? ⟨w'.heap.size, 0, none⟩ = some (.int .i64 (uF s 0)) := (hcp _ 0 (by simp)).trans (by simp)
  have k1 : w4.cell? ⟨w.heap.size, 1, none⟩ = some (.int .i64 0) := (hcb _ 1 hz1).trans c1
  have q1 : w4.frozen? ⟨w.heap.size, 1, none⟩ = false := (hfb _ 1 hz1).trans f1
  have p1 : w4.cell? ⟨w'.heap.size, 1, none⟩ = some (.int .i64 2) := (hcp _ 1 (by simp)).trans (by simp)
  have k2 : w4.cell? ⟨w.heap.size, 2, none⟩ = some (.int .i64 0) := (hcb _ 2 hz1).trans c2
  have q2 : w4.frozen? ⟨w.heap.size, 2, none⟩ = false := (hfb _ 2 hz1).trans f2
  have p2 : w4.cell? ⟨w'.heap.size, 2, none⟩ = some (.int .i64 0) := (hcp _ 2 (by simp)).trans (by simp)
  have k3 : w4.cell? ⟨w.heap.size, 3, none⟩ = some (.int .i64 0) := (hcb _ 3 hz1).trans c3
  have q3 : w4.frozen? ⟨w.heap.size, 3, none⟩ = false := (hfb _ 3 hz1).trans f3
  have p3 : w4.cell? ⟨w'.heap.size, 3, none⟩ = some (.int .i64 0) := (hcp _ 3 (by simp)).trans (by simp)
  have k4 : w4.cell? ⟨w.heap.size, 4, none⟩ = some (.int .i64 0) := (hcb _ 4 hz1).trans c4
  have q4 : w4.frozen? ⟨w.heap.size, 4, none⟩ = false := (hfb _ 4 hz1).trans f4
  have p4 : w4.cell? ⟨w'.heap.size, 4, none⟩ = some (.int .i64 0) := (hcp _ 4 (by simp)).trans (by simp)
  have k5 : w4.cell? ⟨w.heap.size, 5, none⟩ = some (.int .i64 0) := (hcb _ 5 hz1).trans c5
  have q5 : w4.frozen? ⟨w.heap.size, 5, none⟩ = false := (hfb _ 5 hz1).trans f5
  have p5 : w4.cell? ⟨w'.heap.size, 5, none⟩ = some (.int .i64 0) := (hcp _ 5 (by simp)).trans (by simp)
  have k6 : w4.cell? ⟨w.heap.size, 6, none⟩ = some (.int .i64 0) := (hcb _ 6 hz1).trans c6
  have q6 : w4.frozen? ⟨w.heap.size, 6, none⟩ = false := (hfb _ 6 hz1).trans f6
  have p6 : w4.cell? ⟨w'.heap.size, 6, none⟩ = some (.int .i64 0) := (hcp _ 6 (by simp)).trans (by simp)
  have k7 : w4.cell? ⟨w.heap.size, 7, none⟩ = some (.int .i64 0) := (hcb _ 7 hz1).trans c7
  have q7 : w4.frozen? ⟨w.heap.size, 7, none⟩ = false := (hfb _ 7 hz1).trans f7
  have p7 : w4.cell? ⟨w'.heap.size, 7, none⟩ = some (.int .i64 (uF s 2)) := (hcp _ 7 (by simp)).trans (by simp)
  have HB4 : Hid (Below w.heap.size w w4) := bthen HB.out BB
  clear hcp hfp hcb hfb BA BB hb4 c0 f0 c1 f1 c2 f2 c3 f3 c4 f4 c5 f5 c6 f6 c7 f7 HO
  have fz : ∀ (X : World) (ob : Obj) (o : Nat), X.heap.size = w4.heap.size → (X.alloc ob).frozen? ⟨w.heap.size, o, none⟩ = X.frozen? ⟨w.heap.size, o, none⟩ := fun X ob o hX => frozen_alloc (by rw [hX]; exact hz4)
  have cz : ∀ (X : World) (ob : Obj) (o : Nat), X.heap.size = w4.heap.size → (X.alloc ob).cell? ⟨w.heap.size, o, none⟩ = X.cell? ⟨w.heap.size, o, none⟩ := fun X ob o hX => ((Below.refl _ _).alloc (Nat.le_refl _) _ : Below X.heap.size X (X.alloc ob)).cell (p := ⟨w.heap.size, o, none⟩) (by rw [hX]; exact hz4)
  have fzp : ∀ (X : World) (ob : Obj) (o : Nat), X.heap.size = w4.heap.size → (X.alloc ob).frozen? ⟨w'.heap.size, o, none⟩ = X.frozen? ⟨w'.heap.size, o, none⟩ := fun X ob o hX => frozen_alloc (by rw [hX]; exact hp4)
  have czp : ∀ (X : World) (ob : Obj) (o : Nat), X.heap.size = w4.heap.size → (X.alloc ob).cell? ⟨w'.heap.size, o, none⟩ = X.cell? ⟨w'.heap.size, o, none⟩ := fun X ob o hX => ((Below.refl _ _).alloc (Nat.le_refl _) _ : Below X.heap.size X (X.alloc ob)).cell (p := ⟨w'.heap.size, o, none⟩) (by rw [hX]; exact hp4)
  have hne : w.heap.size ≠ w4.heap.size := by omega
  have hne' : w4.heap.size ≠ w.heap.size := by omega
  have hne2 : w.heap.size ≠ w'.heap.size := by omega
  have hne2' : w'.heap.size ≠ w.heap.size := by omega
  have hne3 : w'.heap.size ≠ w4.heap.size := by omega
  have hne3' : w4.heap.size ≠ w'.heap.size := by omega
  go_wp2
  go_region_with (go_at_call 20; refine (LA.out _ (by repeat (first | exact Below.refl _ _ | apply Below.drew | apply bdrewN))).mono ?_; rintro e w5 ⟨rfl, hw5⟩; subst hw5)
  all_goals
    go_wp2_with fail
    refine (pclText_spec _ _ _ _ _ _ _ _ _).mono ?_
    rintro e w5 ⟨rfl, hb5⟩
    obtain ⟨hc5, hf5⟩ := bcell hb5
    have hlw : w.heap.size < w'.heap.size := by omega
    have r0 : w5.cell? ⟨w.heap.size, 0, none⟩ = some (.int .i64 0) := (hc5 _ 0 (by simp [World.setCell]; omega)).trans (by simp [go_sem, cz, k0])
    have s0 : w5.frozen? ⟨w.heap.size, 0, none⟩ = false := (hf5 _ 0 (by simp [World.setCell]; omega)).trans (by simp [fz, q0])
    have u0 : w5.cell? ⟨w'.heap.size, 0, none⟩ = some (.int .i64 (uF s 0)) := (hc5 _ 0 (by simp [World.setCell]; omega)).trans (by simp [go_sem, czp, p0])
    have r1 : w5.cell? ⟨w.heap.size, 1, none⟩ = some (.int .i64 0) := (hc5 _ 1 (by simp [World.setCell]; omega)).trans (by simp [go_sem, cz, k1])
    have s1 : w5.frozen? ⟨w.heap.size, 1, none⟩ = false := (hf5 _ 1 (by simp [World.setCell]; omega)).trans (by simp [fz, q1])
    have u1 : w5.cell? ⟨w'.heap.size, 1, none⟩ = some (.int .i64 1) := (hc5 _ 1 (by simp [World.setCell]; omega)).trans (by simp [go_sem, czp, p1])
    have r2 : w5.cell? ⟨w.heap.size, 2, none⟩ = some (.int .i64 0) := (hc5 _ 2 (by simp [World.setCell]; omega)).trans (by simp [go_sem, cz, k2])
    have s2 : w5.frozen? ⟨w.heap.size, 2, none⟩ = false := (hf5 _ 2 (by simp [World.setCell]; omega)).trans (by simp [fz, q2])
    have u2 : w5.cell? ⟨w'.heap.size, 2, none⟩ = some (.int .i64 (vF R 1)) := (hc5 _ 2 (by simp [World.setCell]; omega)).trans (by simp [go_sem, czp, p2])
    have r3 : w5.cell? ⟨w.heap.size, 3, none⟩ = some (.int .i64 0) := (hc5 _ 3 (by simp [World.setCell]; omega)).trans (by simp [go_sem, cz, k3])
    have s3 : w5.frozen? ⟨w.heap.size, 3, none⟩ = false := (hf5 _ 3 (by simp [World.setCell]; omega)).trans (by simp [fz, q3])
    have u3 : w5.cell? ⟨w'.heap.size, 3, none⟩ = some (.int .i64 (vF R 3)) := (hc5 _ 3 (by simp [World.setCell]; omega)).trans (by simp [go_sem, czp, p3])
    have r4 : w5.cell? ⟨w.heap.size, 4, none⟩ = some (.int .i64 0) := (hc5 _ 4 (by simp [World.setCell]; omega)).trans (by simp [go_sem, cz, k4])
    have s4 : w5.frozen? ⟨w.heap.size, 4, none⟩ = false := (hf5 _ 4 (by simp [World.setCell]; omega)).trans (by simp [fz, q4])
    have u4 : w5.cell? ⟨w'.heap.size, 4, none⟩ = some (.int .i64 (vF R 5)) := (hc5 _ 4 (by simp [World.setCell]; omega)).trans (by simp [go_sem, czp, p4])
    have r5 : w5.cell? ⟨w.heap.size, 5, none⟩ = some (.int .i64 0) := (hc5 _ 5 (by simp [World.setCell]; omega)).trans (by simp [go_sem, cz, k5])
    have s5 : w5.frozen? ⟨w.heap.size, 5, none⟩ = false := (hf5 _ 5 (by simp [World.setCell]; omega)).trans (by simp [fz, q5])
    have u5 : w5.cell? ⟨w'.heap.size, 5, none⟩ = some (.int .i64 (vF R 7)) := (hc5 _ 5 (by simp [World.setCell]; omega)).trans (by simp [go_sem, czp, p5])
    have r6 : w5.cell? ⟨w.heap.size, 6, none⟩ = some (.int .i64 0) := (hc5 _ 6 (by simp [World.setCell]; omega)).trans (by simp [go_sem, cz, k6])
    have s6 : w5.frozen? ⟨w.heap.size, 6, none⟩ = false := (hf5 _ 6 (by simp [World.setCell]; omega)).trans (by simp [fz, q6])
    have u6 : w5.cell? ⟨w'.heap.size, 6, none⟩ = some (.int .i64 (vF R 9)) := (hc5 _ 6 (by simp [World.setCell]; omega)).trans (by simp [go_sem, czp, p6])
    have r7 : w5.cell? ⟨w.heap.size, 7, none⟩ = some (.int .i64 0) := (hc5 _ 7 (by simp [World.setCell]; omega)).trans (by simp [go_sem, cz, k7])
    have s7 : w5.frozen? ⟨w.heap.size, 7, none⟩ = false := (hf5 _ 7 (by simp [World.setCell]; omega)).trans (by simp [fz, q7])
    have u7 : w5.cell? ⟨w'.heap.size, 7, none⟩ = some (.int .i64 0) := (hc5 _ 7 (by simp [World.setCell]; omega)).trans (by simp [go_sem, czp, p7])
    have HB5 : Hid (Below w.heap.size w w5) := by
      refine bthen (Below.drew ?_) hb5
      refine Below.alloc ?_ (by simp [World.setCell]; omega) _
      iterate 8 (refine Below.setCell ?_ (Nat.le_of_lt hlw) _)
      exact HB4.out
    clear hc5 hf5 hb5 fz cz fzp czp k0 q0 p0 t0 k1 q1 p1 t1 k2 q2 p2 t2 k3 q3 p3 t3 k4 q4 p4 t4 k5 q5 p5 t5 k6 q6 p6 t6 k7 q7 p7 t7
    by_cases ht : (pclText (uF s 0) 1 (vF R 1) (vF R 3) (vF R 5) (vF R 7) (vF R 9) 0).toList = s.toList
    · have ht' : ((pclText (uF s 0) 1 (vF R 1) (vF R 3) (vF R 5) (vF R 7) (vF R 9) 0).toList == s.toList) = true := by simpa using ht
      have HT : Hid ((pclText (uF s 0) 1 (vF R 1) (vF R 3) (vF R 5) (vF R 7) (vF R 9) 0).toList = s.toList) := ht
      clear ht
      go_wp2
      exact bodyPost_ret (v := .tuple #[Pcl.val ⟨uF s 0, 1, vF R 1, vF R 3, vF R 5, vF R 7, vF R 9, 0⟩, .bool true]) (by simp [results, Tryd.results8, go_sem, r0, r1, r2, r3, r4, r5, r6, r7, Pcl.val]) rfl ⟨.inl ⟨HT.out, rfl⟩, by (iterate 8 (refine Below.setCell ?_ (by simp) _)); exact HB5.out⟩
    · have ht' : ((pclText (uF s 0) 1 (vF R 1) (vF R 3) (vF R 5) (vF R 7) (vF R 9) 0).toList == s.toList) = false := by simpa using ht
      have HT : Hid ((pclText (uF s 0) 1 (vF R 1) (vF R 3) (vF R 5) (vF R 7) (vF R 9) 0).toList ≠ s.toList) := ht
      clear ht
      go_wp2
      exact bodyPost_ret (v := .tuple #[nullP.val, .bool false]) (by simp [results, Tryd.results8, go_sem, r0, r1, r2, r3, r4, r5, r6, r7, nullP, Pcl.val]) rfl ⟨.inr ⟨HT.out, rfl⟩, by (iterate 8 (refine Below.setCell ?_ (by simp) _)); exact HB5.out⟩
end Go.Proofs.YtpfemjenhnnfmaaDoor
