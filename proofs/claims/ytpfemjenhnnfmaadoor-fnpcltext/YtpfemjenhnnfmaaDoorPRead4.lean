/- The walk of the model's PclRead; conditions: none. -/
import Derived.Test.YtpfemjenhnnfmaaDoorPRead2
import Derived.Test.YtpfemjenhnnfmaaDoorPRead3
namespace Go.Proofs.YtpfemjenhnnfmaaDoor
open Go.RowKit
set_option linter.unusedVariables false

def WALKER : List UInt8 := [119, 97, 108, 107, 101, 114]

theorem sread_long (s : ByteArray) (h : (100 : Int) < (s.size : Int)) (w : World) :
    Calls Tryd.prog 8 #[.string s] w fun e w' => e = .returned (.tuple #[nullP.val, .bool false]) ∧ Below w.heap.size w w' := by
  go_enter Tryd.func8, Tryd.ntmps8
  go_wp2_with fail
  refine (words_long s h _).mono ?_
  rintro e w1 ⟨rfl, hb1⟩
  obtain ⟨hc, hf⟩ := bcell hb1
  have c0 : w1.cell? ⟨w.heap.size, 0, none⟩ = some (.int .i64 0) := (hc _ 0 (by simp)).trans (by simp)
  have f0 : w1.frozen? ⟨w.heap.size, 0, none⟩ = false := (hf _ 0 (by simp)).trans (by simp)
  have c1 : w1.cell? ⟨w.heap.size, 1, none⟩ = some (.int .i64 0) := (hc _ 1 (by simp)).trans (by simp)
  have f1 : w1.frozen? ⟨w.heap.size, 1, none⟩ = false := (hf _ 1 (by simp)).trans (by simp)
  have c2 : w1.cell? ⟨w.heap.size, 2, none⟩ = some (.int .i64 0) := (hc _ 2 (by simp)).trans (by simp)
  have f2 : w1.frozen? ⟨w.heap.size, 2, none⟩ = false := (hf _ 2 (by simp)).trans (by simp)
  have c3 : w1.cell? ⟨w.heap.size, 3, none⟩ = some (.int .i64 0) := (hc _ 3 (by simp)).trans (by simp)
  have f3 : w1.frozen? ⟨w.heap.size, 3, none⟩ = false := (hf _ 3 (by simp)).trans (by simp)
  have c4 : w1.cell? ⟨w.heap.size, 4, none⟩ = some (.int .i64 0) := (hc _ 4 (by simp)).trans (by simp)
  have f4 : w1.frozen? ⟨w.heap.size, 4, none⟩ = false := (hf _ 4 (by simp)).trans (by simp)
  have c5 : w1.cell? ⟨w.heap.size, 5, none⟩ = some (.int .i64 0) := (hc _ 5 (by simp)).trans (by simp)
  have f5 : w1.frozen? ⟨w.heap.size, 5, none⟩ = false := (hf _ 5 (by simp)).trans (by simp)
  have c6 : w1.cell? ⟨w.heap.size, 6, none⟩ = some (.int .i64 0) := (hc _ 6 (by simp)).trans (by simp)
  have f6 : w1.frozen? ⟨w.heap.size, 6, none⟩ = false := (hf _ 6 (by simp)).trans (by simp)
  have c7 : w1.cell? ⟨w.heap.size, 7, none⟩ = some (.int .i64 0) := (hc _ 7 (by simp)).trans (by simp)
  have f7 : w1.frozen? ⟨w.heap.size, 7, none⟩ = false := (hf _ 7 (by simp)).trans (by simp)
  have HB : Hid (Below w.heap.size w w1) := bthen ((Below.refl _ _).alloc (by simp) _) hb1
  clear hc hf hb1
  go_wp2
  exact bodyPost_ret (v := .tuple #[nullP.val, .bool false]) (by simp [results, Tryd.results8, go_sem, c0, c1, c2, c3, c4, c5, c6, c7, nullP, Pcl.val]) rfl ⟨rfl, by (iterate 8 (refine Below.setCell ?_ (by simp) _)); exact HB.out⟩

theorem sread_few (s : ByteArray) (h : (s.size : Int) ≤ 100) (h3 : (words s.data.toList).length < 3) (w : World) :
    Calls Tryd.prog 8 #[.string s] w fun e w' => e = .returned (.tuple #[nullP.val, .bool false]) ∧ Below w.heap.size w w' := by
  go_enter Tryd.func8, Tryd.ntmps8
  go_wp2_with fail
  refine (words_spec s h _).mono ?_
  rintro e w1 ⟨v, rfl, ho, hb1⟩
  obtain ⟨hc, hf⟩ := bcell hb1
  have c0 : w1.cell? ⟨w.heap.size, 0, none⟩ = some (.int .i64 0) := (hc _ 0 (by simp)).trans (by simp)
  have f0 : w1.frozen? ⟨w.heap.size, 0, none⟩ = false := (hf _ 0 (by simp)).trans (by simp)
  have c1 : w1.cell? ⟨w.heap.size, 1, none⟩ = some (.int .i64 0) := (hc _ 1 (by simp)).trans (by simp)
  have f1 : w1.frozen? ⟨w.heap.size, 1, none⟩ = false := (hf _ 1 (by simp)).trans (by simp)
  have c2 : w1.cell? ⟨w.heap.size, 2, none⟩ = some (.int .i64 0) := (hc _ 2 (by simp)).trans (by simp)
  have f2 : w1.frozen? ⟨w.heap.size, 2, none⟩ = false := (hf _ 2 (by simp)).trans (by simp)
  have c3 : w1.cell? ⟨w.heap.size, 3, none⟩ = some (.int .i64 0) := (hc _ 3 (by simp)).trans (by simp)
  have f3 : w1.frozen? ⟨w.heap.size, 3, none⟩ = false := (hf _ 3 (by simp)).trans (by simp)
  have c4 : w1.cell? ⟨w.heap.size, 4, none⟩ = some (.int .i64 0) := (hc _ 4 (by simp)).trans (by simp)
  have f4 : w1.frozen? ⟨w.heap.size, 4, none⟩ = false := (hf _ 4 (by simp)).trans (by simp)
  have c5 : w1.cell? ⟨w.heap.size, 5, none⟩ = some (.int .i64 0) := (hc _ 5 (by simp)).trans (by simp)
  have f5 : w1.frozen? ⟨w.heap.size, 5, none⟩ = false := (hf _ 5 (by simp)).trans (by simp)
  have c6 : w1.cell? ⟨w.heap.size, 6, none⟩ = some (.int .i64 0) := (hc _ 6 (by simp)).trans (by simp)
  have f6 : w1.frozen? ⟨w.heap.size, 6, none⟩ = false := (hf _ 6 (by simp)).trans (by simp)
  have c7 : w1.cell? ⟨w.heap.size, 7, none⟩ = some (.int .i64 0) := (hc _ 7 (by simp)).trans (by simp)
  have f7 : w1.frozen? ⟨w.heap.size, 7, none⟩ = false := (hf _ 7 (by simp)).trans (by simp)
  have HB : Hid (Below w.heap.size w w1) := bthen ((Below.refl _ _).alloc (by simp) _) hb1
  have h3' : ((words s.data.toList).length : Int) < 3 := by omega
  rcases ho.2 with ⟨rfl, h0⟩ | ⟨g, cap, cur, rfl, _⟩
  · have : (words s.data.toList).length ≠ 0 := by obtain ⟨a, b, e⟩ := words_cons s.data.toList; rw [e]; simp
    exact absurd h0 this
  clear hc hf hb1 ho
  go_wp2
  exact bodyPost_ret (v := .tuple #[nullP.val, .bool false]) (by simp [results, Tryd.results8, go_sem, c0, c1, c2, c3, c4, c5, c6, c7, nullP, Pcl.val]) rfl ⟨rfl, by (iterate 8 (refine Below.setCell ?_ (by simp) _)); exact HB.out⟩

set_option maxHeartbeats 2000000 in
theorem sread_coins (s : ByteArray) (h : (s.size : Int) ≤ 100) (h3 : 3 ≤ (words s.data.toList).length) (hnw : (words s.data.toList).getD 1 [] ≠ WALKER) (w : World) :
    Calls Tryd.prog 8 #[.string s] w fun e w' => (((Pcl.text ⟨uF s 0, 2, 0, 0, 0, 0, 0, uF s 2⟩).toList = s.toList ∧ e = .returned (.tuple #[Pcl.val ⟨uF s 0, 2, 0, 0, 0, 0, 0, uF s 2⟩, .bool true])) ∨ ((Pcl.text ⟨uF s 0, 2, 0, 0, 0, 0, 0, uF s 2⟩).toList ≠ s.toList ∧ e = .returned (.tuple #[nullP.val, .bool false]))) ∧ Below w.heap.size w w' := by
  have hle : s.size ≤ 100 := by omega
  have wl : (words s.data.toList).length ≤ 200 := by have := wlen s.data.toList; rw [size_len] at this; omega
  obtain ⟨x1, hx1⟩ : ∃ x, (words s.data.toList)[1]? = some x := ⟨_, List.getElem?_eq_getElem (by omega)⟩
  have hx1n : x1 ≠ WALKER := by
    have : (words s.data.toList).getD 1 [] = x1 := by rw [List.getD_eq_getElem?_getD, hx1]; rfl
    rw [← this]; exact hnw
  clear hnw
  have hxx : (x1 == [119, 97, 108, 107, 101, 114]) = false := by simpa [WALKER] using hx1n
  clear hx1n
  go_enter Tryd.func8, Tryd.ntmps8
  go_wp2_with fail
  refine (words_spec s h _).mono ?_
  rintro e w1 ⟨v, rfl, ho, hb1⟩
  obtain ⟨hc, hf⟩ := bcell hb1
  have c0 : w1.cell? ⟨w.heap.size, 0, none⟩ = some (.int .i64 0) := (hc _ 0 (by simp)).trans (by simp)
  have f0 : w1.frozen? ⟨w.heap.size, 0, none⟩ = false := (hf _ 0 (by simp)).trans (by simp)
  have c1 : w1.cell? ⟨w.heap.size, 1, none⟩ = some (.int .i64 0) := (hc _ 1 (by simp)).trans (by simp)
  have f1 : w1.frozen? ⟨w.heap.size, 1, none⟩ = false := (hf _ 1 (by simp)).trans (by simp)
  have c2 : w1.cell? ⟨w.heap.size, 2, none⟩ = some (.int .i64 0) := (hc _ 2 (by simp)).trans (by simp)
  have f2 : w1.frozen? ⟨w.heap.size, 2, none⟩ = false := (hf _ 2 (by simp)).trans (by simp)
  have c3 : w1.cell? ⟨w.heap.size, 3, none⟩ = some (.int .i64 0) := (hc _ 3 (by simp)).trans (by simp)
  have f3 : w1.frozen? ⟨w.heap.size, 3, none⟩ = false := (hf _ 3 (by simp)).trans (by simp)
  have c4 : w1.cell? ⟨w.heap.size, 4, none⟩ = some (.int .i64 0) := (hc _ 4 (by simp)).trans (by simp)
  have f4 : w1.frozen? ⟨w.heap.size, 4, none⟩ = false := (hf _ 4 (by simp)).trans (by simp)
  have c5 : w1.cell? ⟨w.heap.size, 5, none⟩ = some (.int .i64 0) := (hc _ 5 (by simp)).trans (by simp)
  have f5 : w1.frozen? ⟨w.heap.size, 5, none⟩ = false := (hf _ 5 (by simp)).trans (by simp)
  have c6 : w1.cell? ⟨w.heap.size, 6, none⟩ = some (.int .i64 0) := (hc _ 6 (by simp)).trans (by simp)
  have f6 : w1.frozen? ⟨w.heap.size, 6, none⟩ = false := (hf _ 6 (by simp)).trans (by simp)
  have c7 : w1.cell? ⟨w.heap.size, 7, none⟩ = some (.int .i64 0) := (hc _ 7 (by simp)).trans (by simp)
  have f7 : w1.frozen? ⟨w.heap.size, 7, none⟩ = false := (hf _ 7 (by simp)).trans (by simp)
  have HB : Hid (Below w.heap.size w w1) := bthen ((Below.refl _ _).alloc (by simp) _) hb1
  have hz1 : w.heap.size < w1.heap.size := by have := hb1.size; simp at this; omega
  have L0 : Hid (Calls Tryd.prog 20 #[v, .int .i64 0] w1 fun e w' => e = .returned (.int .i64 (uF s 0)) ∧ w' = w1) := by
    have := at_any s h _ 0 (by omega) v w1 ho
    unfold Hid uF
    rw [if_pos hle]
    exact this
  have L2 : Hid (Calls Tryd.prog 20 #[v, .int .i64 2] w1 fun e w' => e = .returned (.int .i64 (uF s 2)) ∧ w' = w1) := by
    have := at_any s h _ 2 (by omega) v w1 ho
    unfold Hid uF
    rw [if_pos hle]
    exact this
  rcases ho.2 with ⟨rfl, h0⟩ | ⟨g, cap, cur, rfl, hg, _⟩
  · omega
  have x1c : w1.cell? ⟨g, 1, none⟩ = some (.string ⟨x1.toArray⟩) := by
    have := ho.cells (g := g) rfl 1 (.string ⟨x1.toArray⟩) (by simp [strs, hx1])
    rwa [show (⟨g, 0, none⟩ : Addr).add 1 = ⟨g, 1, none⟩ by unfold Addr.add; split <;> simp_all] at this
  have h3' : (3 : Int) ≤ ((words s.data.toList).length : Int) := by omega
  have wl' : ((words s.data.toList).length : Int) ≤ 200 := by omega
  have hglt : g < w1.heap.size := World.block_lt_of_cell? w1 _ x1c
  generalize (words s.data.toList).length = N at *
  clear hc hf hb1 ho hx1
  go_wp2_with fail
  refine (L0.out).mono ?_
  rintro e w' ⟨rfl, hw'⟩
  subst hw'
  go_wp2_with fail
  refine (L2.out).mono ?_
  rintro e w' ⟨rfl, hw'⟩
  subst hw'
  clear L0 L2
  go_wp2_with fail
  refine (pclText_spec _ _ _ _ _ _ _ _ _).mono ?_
  rintro e w4 ⟨rfl, hb4⟩
  obtain ⟨hcp, hfp⟩ := bcell hb4
  have BA : Below w'.heap.size w' (w'.alloc (.cells #[.int .i64 (uF s 0), .int .i64 2, .int .i64 0, .int .i64 0, .int .i64 0, .int .i64 0, .int .i64 0, .int .i64 (uF s 2)] 26)) := (Below.refl _ _).alloc (Nat.le_refl _) _
  have BB : Below w'.heap.size w' w4 := bthen BA hb4
  obtain ⟨hcb, hfb⟩ := bcell BB
  have k0 : w4.cell? ⟨w.heap.size, 0, none⟩ = some (.int .i64 0) := (hcb _ 0 hz1).trans c0
  have q0 : w4.frozen? ⟨w.heap.size, 0, none⟩ = false := (hfb _ 0 hz1).trans f0
  have p0 : w4.cell? ⟨w'.heap.size, 0, none⟩ = some (.int .i64 (uF s 0)) := (hcp _ 0 (by simp)).trans (by simp)
  have k1 : w4.cell? ⟨w.heap.size, 1, none⟩ = some (.int .i64 0) := (hcb _ 1 hz1).trans c1
  have q1 : w4.frozen? ⟨w.heap.size, 1, none⟩ = false := (hfb _ 1 hz1).trans f1
  have p1 : w4.cell? ⟨w'.heap.size, 1, none⟩ = some (.int .i64 2) := (hcp _ 1 (by simp)).trans (by simp)
  have k2 : w4.cell? ⟨w.heap.size, 2, none⟩ = some (.int .i64 0) := (hcb _ 2 hz1).trans c2
  have q2 : w4.frozen? ⟨w.heap.size, 2, none⟩ = false := (hfb _ 2 hz1).trans f2
  have p2 : w4.cell? ⟨w'.heap.size, 2, none⟩ = some (.int .i64 0) := (hcp _ 2 (by simp)).trans (by simp)
  have k3 : w4.cell? ⟨w.heap.size, 3, none⟩ = some (.int .i64 0) := (hcb _ 3 hz1).trans c3
  have q3 : w4.frozen? ⟨w.heap.size, 3, none⟩ = false := (hfb _ 3 hz1).trans f3
  have p3 : w4.cell? ⟨w'.heap.size, 3, none⟩ = some (.int .i64 0) := (hcp _ 3 (by simp)).trans (by simp)
  have k4 : w4.cell? ⟨w.heap.size, 4, none⟩ = some (.int .i64 0) := (hcb _ 4 hz1).trans c4
  have q4 : w4.frozen? ⟨w.heap.size, 4, none⟩ = false := (hfb _ 4 hz1).trans f4
  have p4 : w4.cell? ⟨w'.heap.size, 4, none⟩ = some (.int .i64 0) := (hcp _ 4 (by simp)).trans (by simp)
  have k5 : w4.cell? ⟨w.heap.size, 5, none⟩ = some (.int .i64 0) := (hcb _ 5 hz1).trans c5
  have q5 : w4.frozen? ⟨w.heap.size, 5, none⟩ = false := (hfb _ 5 hz1).trans f5
  have p5 : w4.cell? ⟨w'.heap.size, 5, none⟩ = some (.int .i64 0) := (hcp _ 5 (by simp)).trans (by simp)
  have k6 : w4.cell? ⟨w.heap.size, 6, none⟩ = some (.int .i64 0) := (hcb _ 6 hz1).trans c6
  have q6 : w4.frozen? ⟨w.heap.size, 6, none⟩ = false := (hfb _ 6 hz1).trans f6
  have p6 : w4.cell? ⟨w'.heap.size, 6, none⟩ = some (.int .i64 0) := (hcp _ 6 (by simp)).trans (by simp)
  have k7 : w4.cell? ⟨w.heap.size, 7, none⟩ = some (.int .i64 0) := (hcb _ 7 hz1).trans c7
  have q7 : w4.frozen? ⟨w.heap.size, 7, none⟩ = false := (hfb _ 7 hz1).trans f7
  have p7 : w4.cell? ⟨w'.heap.size, 7, none⟩ = some (.int .i64 (uF s 2)) := (hcp _ 7 (by simp)).trans (by simp)
  have HB4 : Hid (Below w.heap.size w w4) := bthen HB.out BB
  clear hcp hfp hcb hfb BA BB hb4 c0 f0 c1 f1 c2 f2 c3 f3 c4 f4 c5 f5 c6 f6 c7 f7
  by_cases ht : (pclText (uF s 0) 2 0 0 0 0 0 (uF s 2)).toList = s.toList
  · have ht' : ((pclText (uF s 0) 2 0 0 0 0 0 (uF s 2)).toList == s.toList) = true := by simpa using ht
    have HT : Hid ((pclText (uF s 0) 2 0 0 0 0 0 (uF s 2)).toList = s.toList) := ht
    clear ht
    go_wp2
    exact bodyPost_ret (v := .tuple #[Pcl.val ⟨uF s 0, 2, 0, 0, 0, 0, 0, uF s 2⟩, .bool true]) (by simp [results, Tryd.results8, go_sem, k0, k1, k2, k3, k4, k5, k6, k7, Pcl.val]) rfl ⟨.inl ⟨HT.out, rfl⟩, by (iterate 8 (refine Below.setCell ?_ (by simp) _)); exact HB4.out⟩
  · have ht' : ((pclText (uF s 0) 2 0 0 0 0 0 (uF s 2)).toList == s.toList) = false := by simpa using ht
    have HT : Hid ((pclText (uF s 0) 2 0 0 0 0 0 (uF s 2)).toList ≠ s.toList) := ht
    clear ht
    go_wp2
    exact bodyPost_ret (v := .tuple #[nullP.val, .bool false]) (by simp [results, Tryd.results8, go_sem, k0, k1, k2, k3, k4, k5, k6, k7, nullP, Pcl.val]) rfl ⟨.inr ⟨HT.out, rfl⟩, by (iterate 8 (refine Below.setCell ?_ (by simp) _)); exact HB4.out⟩
end Go.Proofs.YtpfemjenhnnfmaaDoor
