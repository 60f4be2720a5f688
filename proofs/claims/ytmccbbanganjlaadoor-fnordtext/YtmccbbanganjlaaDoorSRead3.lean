/- The walk of the model's OrdRead; conditions: none. -/
import Derived.Test.YtmccbbanganjlaaDoorSRead2
import Derived.Test.YtmccbbanganjlaaDoorOText3
namespace Go.Proofs.YtmccbbanganjlaaDoor
open Go.RowKit
set_option linter.unusedVariables false

theorem soread_long (s : ByteArray) (h : (100 : Int) < (s.size : Int)) (w : World) :
    Calls Tryd.prog 13 #[.string s] w fun e w' => e = .returned (.tuple #[.agg #[.int .i64 0, .int .i64 0, .int .i64 0, .int .i64 0, .int .i64 0], .bool false]) ∧ Below w.heap.size w w' := by
  go_enter Tryd.func13, Tryd.ntmps13
  go_wp2_with fail
  refine (words_long s h _).mono ?_
  rintro e w1 ⟨rfl, hb1⟩
  obtain ⟨hc, hf⟩ := bcell hb1
  have c0 : w1.cell? ⟨w.heap.size, 0, none⟩ = some (.int .i64 0) := (hc _ 0 (by simp)).trans (by simp)
  have f0 : w1.frozen? ⟨w.heap.size, 0, none⟩ = false := (hf _ 0 (by simp)).trans (by simp)
  have c1 : w1.cell? ⟨w.heap.size, 1, none⟩ = some (.int .i64 0) := (hc _ 1 (by simp)).trans (by simp)
  have f1 : w1.frozen? ⟨w.heap.size, 1, none⟩ = false := (hf _ 1 (by simp)).trans (by simp)
  have c2 : w1.cell? ⟨w.heap.size, 2, none⟩ = some (.int .i64 0) := (hc _ 2 (by simp)).trans (by simp)
  have f2 : w1.frozen? ⟨w.heap.size, 2, none⟩ = false := (hf _ 2 (by simp)).trans (by simp)
  have c3 : w1.cell? ⟨w.heap.size, 3, none⟩ = some (.int .i64 0) := (hc _ 3 (by simp)).trans (by simp)
  have f3 : w1.frozen? ⟨w.heap.size, 3, none⟩ = false := (hf _ 3 (by simp)).trans (by simp)
  have c4 : w1.cell? ⟨w.heap.size, 4, none⟩ = some (.int .i64 0) := (hc _ 4 (by simp)).trans (by simp)
  have f4 : w1.frozen? ⟨w.heap.size, 4, none⟩ = false := (hf _ 4 (by simp)).trans (by simp)
  have HB : Hid (Below w.heap.size w w1) := bthen ((Below.refl _ _).alloc (by simp) _) hb1
  clear hc hf hb1
  go_wp2
  exact bodyPost_ret (v := .tuple #[.agg #[.int .i64 0, .int .i64 0, .int .i64 0, .int .i64 0, .int .i64 0], .bool false]) (by simp [results, Tryd.results13, go_sem, c0, c1, c2, c3, c4]) rfl ⟨rfl, by (iterate 5 (refine Below.setCell ?_ (by simp) _)); exact HB.out⟩

theorem soread_few (s : ByteArray) (h : (s.size : Int) ≤ 100) (h3 : (words s.data.toList).length < 3) (w : World) :
    Calls Tryd.prog 13 #[.string s] w fun e w' => e = .returned (.tuple #[.agg #[.int .i64 0, .int .i64 0, .int .i64 0, .int .i64 0, .int .i64 0], .bool false]) ∧ Below w.heap.size w w' := by
  go_enter Tryd.func13, Tryd.ntmps13
  go_wp2_with fail
  refine (words_spec s h _).mono ?_
  rintro e w1 ⟨v, rfl, ho, hb1⟩
  obtain ⟨hc, hf⟩ := bcell hb1
  have c0 : w1.cell? ⟨w.heap.size, 0, none⟩ = some (.int .i64 0) := (hc _ 0 (by simp)).trans (by simp)
  have f0 : w1.frozen? ⟨w.heap.size, 0, none⟩ = false := (hf _ 0 (by simp)).trans (by simp)
  have c1 : w1.cell? ⟨w.heap.size, 1, none⟩ = some (.int .i64 0) := (hc _ 1 (by simp)).trans (by simp)
  have f1 : w1.frozen? ⟨w.heap.size, 1, none⟩ = false := (hf _ 1 (by simp)).trans (by simp)
  have c2 : w1.cell? ⟨w.heap.size, 2, none⟩ = some (.int .i64 0) := (hc _ 2 (by simp)).trans (by simp)
  have f2 : w1.frozen? ⟨w.heap.size, 2, none⟩ = false := (hf _ 2 (by simp)).trans (by simp)
  have c3 : w1.cell? ⟨w.heap.size, 3, none⟩ = some (.int .i64 0) := (hc _ 3 (by simp)).trans (by simp)
  have f3 : w1.frozen? ⟨w.heap.size, 3, none⟩ = false := (hf _ 3 (by simp)).trans (by simp)
  have c4 : w1.cell? ⟨w.heap.size, 4, none⟩ = some (.int .i64 0) := (hc _ 4 (by simp)).trans (by simp)
  have f4 : w1.frozen? ⟨w.heap.size, 4, none⟩ = false := (hf _ 4 (by simp)).trans (by simp)
  have HB : Hid (Below w.heap.size w w1) := bthen ((Below.refl _ _).alloc (by simp) _) hb1
  have h3' : ((words s.data.toList).length : Int) < 3 := by omega
  rcases ho.2 with ⟨rfl, h0⟩ | ⟨g, cap, cur, rfl, _⟩
  · have : (words s.data.toList).length ≠ 0 := by obtain ⟨a, b, e⟩ := words_cons s.data.toList; rw [e]; simp
    exact absurd h0 this
  clear hc hf hb1 ho
  go_wp2
  exact bodyPost_ret (v := .tuple #[.agg #[.int .i64 0, .int .i64 0, .int .i64 0, .int .i64 0, .int .i64 0], .bool false]) (by simp [results, Tryd.results13, go_sem, c0, c1, c2, c3, c4]) rfl ⟨rfl, by (iterate 5 (refine Below.setCell ?_ (by simp) _)); exact HB.out⟩

set_option maxHeartbeats 4000000 in
theorem soread_main (s : ByteArray) (h : (s.size : Int) ≤ 100) (h3 : 3 ≤ (words s.data.toList).length) (p0 p1 p2 p3 p4 : Int)
    (hW : ∀ (base g n cap : Nat) (w : World), n = (words s.data.toList).length → w.ownsRow base 9 1 (.slice (some ⟨g, 0, none⟩) n cap) n (strs (words s.data.toList)) →
      Calls Tryd.prog 37 #[.agg #[.int .i64 (uF s 0), .int .i64 (uF s 1), .int .i64 0, .int .i64 0, .int .i64 0], .slice (some ⟨g, 0, none⟩) n cap] w fun e w' => e = .returned (.agg #[.int .i64 p0, .int .i64 p1, .int .i64 p2, .int .i64 p3, .int .i64 p4]) ∧ Below w.heap.size w w') (w : World) :
    Calls Tryd.prog 13 #[.string s] w fun e w' => (((ordText p0 p1 p2 p3 p4).toList = s.toList ∧ e = .returned (.tuple #[.agg #[.int .i64 p0, .int .i64 p1, .int .i64 p2, .int .i64 p3, .int .i64 p4], .bool true])) ∨ ((ordText p0 p1 p2 p3 p4).toList ≠ s.toList ∧ e = .returned (.tuple #[.agg #[.int .i64 0, .int .i64 0, .int .i64 0, .int .i64 0, .int .i64 0], .bool false]))) ∧ Below w.heap.size w w' := by
  have hle : s.size ≤ 100 := by omega
  have hne0 : ¬ s = ⟨#[]⟩ := by intro e; subst e; simp [words] at h3
  have wl : (words s.data.toList).length ≤ 200 := by have := wlen s.data.toList; rw [size_len] at this; omega
  go_enter Tryd.func13, Tryd.ntmps13
  go_wp2_with fail
  refine (words_spec s h _).mono ?_
  rintro e w1 ⟨v, rfl, ho, hb1⟩
  obtain ⟨hc, hf⟩ := bcell hb1
  have c0 : w1.cell? ⟨w.heap.size, 0, none⟩ = some (.int .i64 0) := (hc _ 0 (by simp)).trans (by simp)
  have f0 : w1.frozen? ⟨w.heap.size, 0, none⟩ = false := (hf _ 0 (by simp)).trans (by simp)
  have c1 : w1.cell? ⟨w.heap.size, 1, none⟩ = some (.int .i64 0) := (hc _ 1 (by simp)).trans (by simp)
  have f1 : w1.frozen? ⟨w.heap.size, 1, none⟩ = false := (hf _ 1 (by simp)).trans (by simp)
  have c2 : w1.cell? ⟨w.heap.size, 2, none⟩ = some (.int .i64 0) := (hc _ 2 (by simp)).trans (by simp)
  have f2 : w1.frozen? ⟨w.heap.size, 2, none⟩ = false := (hf _ 2 (by simp)).trans (by simp)
  have c3 : w1.cell? ⟨w.heap.size, 3, none⟩ = some (.int .i64 0) := (hc _ 3 (by simp)).trans (by simp)
  have f3 : w1.frozen? ⟨w.heap.size, 3, none⟩ = false := (hf _ 3 (by simp)).trans (by simp)
  have c4 : w1.cell? ⟨w.heap.size, 4, none⟩ = some (.int .i64 0) := (hc _ 4 (by simp)).trans (by simp)
  have f4 : w1.frozen? ⟨w.heap.size, 4, none⟩ = false := (hf _ 4 (by simp)).trans (by simp)
  have HB : Hid (Below w.heap.size w w1) := bthen ((Below.refl _ _).alloc (by simp) _) hb1
  have hz1 : w.heap.size < w1.heap.size := by have := hb1.size; simp at this; omega
  rcases ho.2 with ⟨rfl, h0⟩ | ⟨g, cap, cur, rfl, hg, _⟩
  · omega
  have HL : Hid (∀ w' : World, Below w1.heap.size w1 w' → (Calls Tryd.prog 38 #[.slice (some ⟨g, 0, none⟩) (words s.data.toList).length cap, .int .i64 0] w' fun e w'' => e = .returned (.int .i64 (uF s 0)) ∧ w'' = w') ∧ (Calls Tryd.prog 38 #[.slice (some ⟨g, 0, none⟩) (words s.data.toList).length cap, .int .i64 1] w' fun e w'' => e = .returned (.int .i64 (uF s 1)) ∧ w'' = w') ∧
      (Calls Tryd.prog 37 #[.agg #[.int .i64 (uF s 0), .int .i64 (uF s 1), .int .i64 0, .int .i64 0, .int .i64 0], .slice (some ⟨g, 0, none⟩) (words s.data.toList).length cap] w' fun e w'' => e = .returned (.agg #[.int .i64 p0, .int .i64 p1, .int .i64 p2, .int .i64 p3, .int .i64 p4]) ∧ Below w'.heap.size w' w'')) := by
    intro w' hb
    have hL := looked s h _ g _ cap rfl w1 ho w' hb
    have ho2 := ho.kept (w' := w') (row := none) ⟨hb.os, hb.tape, hb.output, hb.size, fun k hk _ => hb.block k hk⟩ (.inr (by simp [Value.ownBlock]))
    exact ⟨hL.1 0 (by omega), hL.1 1 (by omega), hW _ g _ cap w' rfl ho2⟩
  have h3' : (3 : Int) ≤ ((words s.data.toList).length : Int) := by omega
  have wl' : ((words s.data.toList).length : Int) ≤ 200 := by omega
  clear hc hf hb1 ho hW
  generalize (words s.data.toList).length = NN at *
  go_wp2_with fail
  refine ((HL.out _ (Below.refl _ _)).1).mono ?_
  rintro e w' ⟨rfl, hw'⟩
  subst hw'
  go_wp2_with fail
  refine ((HL.out _ (Below.refl _ _)).2.1).mono ?_
  rintro e w' ⟨rfl, hw'⟩
  subst hw'
  go_wp2_with fail
  refine ((HL.out _ (Below.refl _ _)).2.2).mono ?_
  rintro e w2 ⟨rfl, hb2⟩
  clear HL
  have BO : Below w2.heap.size w2 (w2.alloc (.cells #[.int .i64 p0, .int .i64 p1, .int .i64 p2, .int .i64 p3, .int .i64 p4] 24)) := (Below.refl _ _).alloc (Nat.le_refl _) _
  cases hok : ordB p0 p1 p2 p3 p4
  · have HT : Hid ((ordText p0 p1 p2 p3 p4).toList ≠ s.toList) := by
      show _ ≠ _
      have : ordText p0 p1 p2 p3 p4 = ⟨#[]⟩ := by simp [ordText, hok]
      rw [this]
      intro e
      have e2 : s = ⟨#[]⟩ := (text_inj e).symm
      exact hne0 e2
    go_wp2_with fail
    refine (ordOk_spec _ _ _ _ _ _).mono ?_
    rintro e w3 ⟨rfl, hb3⟩
    rw [hok]
    obtain ⟨hcb, hfb⟩ := bcell (bthen (bthen hb2 BO) hb3)
    have hco := (bcell hb3).1
    have k0 : w3.cell? ⟨w.heap.size, 0, none⟩ = some (.int .i64 0) := (hcb _ 0 hz1).trans c0
    have q0 : w3.frozen? ⟨w.heap.size, 0, none⟩ = false := (hfb _ 0 hz1).trans f0
    have o0 : w3.cell? ⟨w2.heap.size, 0, none⟩ = some (.int .i64 p0) := (hco _ 0 (by simp)).trans (by simp)
    have k1 : w3.cell? ⟨w.heap.size, 1, none⟩ = some (.int .i64 0) := (hcb _ 1 hz1).trans c1
    have q1 : w3.frozen? ⟨w.heap.size, 1, none⟩ = false := (hfb _ 1 hz1).trans f1
    have o1 : w3.cell? ⟨w2.heap.size, 1, none⟩ = some (.int .i64 p1) := (hco _ 1 (by simp)).trans (by simp)
    have k2 : w3.cell? ⟨w.heap.size, 2, none⟩ = some (.int .i64 0) := (hcb _ 2 hz1).trans c2
    have q2 : w3.frozen? ⟨w.heap.size, 2, none⟩ = false := (hfb _ 2 hz1).trans f2
    have o2 : w3.cell? ⟨w2.heap.size, 2, none⟩ = some (.int .i64 p2) := (hco _ 2 (by simp)).trans (by simp)
    have k3 : w3.cell? ⟨w.heap.size, 3, none⟩ = some (.int .i64 0) := (hcb _ 3 hz1).trans c3
    have q3 : w3.frozen? ⟨w.heap.size, 3, none⟩ = false := (hfb _ 3 hz1).trans f3
    have o3 : w3.cell? ⟨w2.heap.size, 3, none⟩ = some (.int .i64 p3) := (hco _ 3 (by simp)).trans (by simp)
    have k4 : w3.cell? ⟨w.heap.size, 4, none⟩ = some (.int .i64 0) := (hcb _ 4 hz1).trans c4
    have q4 : w3.frozen? ⟨w.heap.size, 4, none⟩ = false := (hfb _ 4 hz1).trans f4
    have o4 : w3.cell? ⟨w2.heap.size, 4, none⟩ = some (.int .i64 p4) := (hco _ 4 (by simp)).trans (by simp)
    have HB3 : Hid (Below w.heap.size w w3) := bthen HB.out (bthen (bthen hb2 BO) hb3)
    clear hcb hfb hco hb3 BO hb2 c0 c1 c2 c3 c4 f0 f1 f2 f3 f4
    go_wp2
    exact bodyPost_ret (v := .tuple #[.agg #[.int .i64 0, .int .i64 0, .int .i64 0, .int .i64 0, .int .i64 0], .bool false]) (by simp [results, Tryd.results13, go_sem, k0, k1, k2, k3, k4]) rfl ⟨.inr ⟨HT.out, rfl⟩, by (iterate 5 (refine Below.setCell ?_ (by simp) _)); exact HB3.out⟩
  · go_wp2_with fail
    refine (ordOk_spec _ _ _ _ _ _).mono ?_
    rintro e w3 ⟨rfl, hb3⟩
    rw [hok]
    have o3' := (bcell hb3).1
    have i0 : w3.cell? ⟨w2.heap.size, 0, none⟩ = some (.int .i64 p0) := (o3' _ 0 (by simp)).trans (by simp)
    have i1 : w3.cell? ⟨w2.heap.size, 1, none⟩ = some (.int .i64 p1) := (o3' _ 1 (by simp)).trans (by simp)
    have i2 : w3.cell? ⟨w2.heap.size, 2, none⟩ = some (.int .i64 p2) := (o3' _ 2 (by simp)).trans (by simp)
    have i3 : w3.cell? ⟨w2.heap.size, 3, none⟩ = some (.int .i64 p3) := (o3' _ 3 (by simp)).trans (by simp)
    have i4 : w3.cell? ⟨w2.heap.size, 4, none⟩ = some (.int .i64 p4) := (o3' _ 4 (by simp)).trans (by simp)
    clear o3'
    go_wp2_with fail
    refine (ordText_spec _ _ _ _ _ _).mono ?_
    rintro e w4 ⟨rfl, hb4⟩
    have B34 := bthen hb3 hb4
    obtain ⟨hcb, hfb⟩ := bcell (bthen (bthen hb2 BO) B34)
    have hco := (bcell B34).1
    have k0 : w4.cell? ⟨w.heap.size, 0, none⟩ = some (.int .i64 0) := (hcb _ 0 hz1).trans c0
    have q0 : w4.frozen? ⟨w.heap.size, 0, none⟩ = false := (hfb _ 0 hz1).trans f0
    have o0 : w4.cell? ⟨w2.heap.size, 0, none⟩ = some (.int .i64 p0) := (hco _ 0 (by simp)).trans (by simp)
    have k1 : w4.cell? ⟨w.heap.size, 1, none⟩ = some (.int .i64 0) := (hcb _ 1 hz1).trans c1
    have q1 : w4.frozen? ⟨w.heap.size, 1, none⟩ = false := (hfb _ 1 hz1).trans f1
    have o1 : w4.cell? ⟨w2.heap.size, 1, none⟩ = some (.int .i64 p1) := (hco _ 1 (by simp)).trans (by simp)
    have k2 : w4.cell? ⟨w.heap.size, 2, none⟩ = some (.int .i64 0) := (hcb _ 2 hz1).trans c2
    have q2 : w4.frozen? ⟨w.heap.size, 2, none⟩ = false := (hfb _ 2 hz1).trans f2
    have o2 : w4.cell? ⟨w2.heap.size, 2, none⟩ = some (.int .i64 p2) := (hco _ 2 (by simp)).trans (by simp)
    have k3 : w4.cell? ⟨w.heap.size, 3, none⟩ = some (.int .i64 0) := (hcb _ 3 hz1).trans c3
    have q3 : w4.frozen? ⟨w.heap.size, 3, none⟩ = false := (hfb _ 3 hz1).trans f3
    have o3 : w4.cell? ⟨w2.heap.size, 3, none⟩ = some (.int .i64 p3) := (hco _ 3 (by simp)).trans (by simp)
    have k4 : w4.cell? ⟨w.heap.size, 4, none⟩ = some (.int .i64 0) := (hcb _ 4 hz1).trans c4
    have q4 : w4.frozen? ⟨w.heap.size, 4, none⟩ = false := (hfb _ 4 hz1).trans f4
    have o4 : w4.cell? ⟨w2.heap.size, 4, none⟩ = some (.int .i64 p4) := (hco _ 4 (by simp)).trans (by simp)
    have HB4 : Hid (Below w.heap.size w w4) := bthen HB.out (bthen (bthen hb2 BO) B34)
    clear hcb hfb hco hb3 hb4 B34 BO hb2 c0 c1 c2 c3 c4 f0 f1 f2 f3 f4 i0 i1 i2 i3 i4
    by_cases ht : (ordText p0 p1 p2 p3 p4).toList = s.toList
    · have ht' : ((ordText p0 p1 p2 p3 p4).toList == s.toList) = true := by simpa using ht
      have HT : Hid ((ordText p0 p1 p2 p3 p4).toList = s.toList) := ht
      clear ht
      go_wp2
      exact bodyPost_ret (v := .tuple #[.agg #[.int .i64 p0, .int .i64 p1, .int .i64 p2, .int .i64 p3, .int .i64 p4], .bool true]) (by simp [results, Tryd.results13, go_sem, k0, k1, k2, k3, k4]) rfl ⟨.inl ⟨HT.out, rfl⟩, by (iterate 5 (refine Below.setCell ?_ (by simp) _)); exact HB4.out⟩
    · have ht' : ((ordText p0 p1 p2 p3 p4).toList == s.toList) = false := by simpa using ht
      have HT : Hid ((ordText p0 p1 p2 p3 p4).toList ≠ s.toList) := ht
      clear ht
      go_wp2
      exact bodyPost_ret (v := .tuple #[.agg #[.int .i64 0, .int .i64 0, .int .i64 0, .int .i64 0, .int .i64 0], .bool false]) (by simp [results, Tryd.results13, go_sem, k0, k1, k2, k3, k4]) rfl ⟨.inr ⟨HT.out, rfl⟩, by (iterate 5 (refine Below.setCell ?_ (by simp) _)); exact HB4.out⟩
end Go.Proofs.YtmccbbanganjlaaDoor
