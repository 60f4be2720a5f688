/- DskEvent of the model, by its first word; conditions: those typed. -/
import Derived.Test.YtalmnogdplhflaaGreatDoorDB
import Derived.Deep.DeepCutAuto
namespace Go.Proofs.YtalmnogdplhflaaGreatDoor
open Go.RowKit Go.Deep
set_option linter.unusedVariables false
set_option maxRecDepth 20000
theorem at1 (s : ByteArray) (hs : (s.size : Int) ≤ 100) (base : Nat) (v : Value) (w : World) (ho : w.ownsRow base 9 1 v (words s.data.toList).length (strs (words s.data.toList))) :
    Calls Tryz.prog 15 #[v, .int .i64 1] w fun e w' => e = .returned (.int .i64 (atF (words s.data.toList) 1)) ∧ w' = w := at_any s hs base 1 (by omega) v w ho
theorem at2 (s : ByteArray) (hs : (s.size : Int) ≤ 100) (base : Nat) (v : Value) (w : World) (ho : w.ownsRow base 9 1 v (words s.data.toList).length (strs (words s.data.toList))) :
    Calls Tryz.prog 15 #[v, .int .i64 2] w fun e w' => e = .returned (.int .i64 (atF (words s.data.toList) 2)) ∧ w' = w := at_any s hs base 2 (by omega) v w ho
theorem two1 (ws : List (List UInt8)) (hws : ∀ l ∈ ws, l.length ≤ 1000) (g cap : Nat) (hlen : ws.length ≤ 1000) (k a q b m : Int) (w : World) (ho : Wd w g ws) :
    Calls Tryz.prog 17 #[.slice (some ⟨g, 0, none⟩) ws.length cap, .agg #[.int .i64 (k), .int .i64 (a), .int .i64 (q), .int .i64 (b), .int .i64 (m)], .int .i64 1] w fun e w' => ((twoB ws 1 ∧ e = .returned (.tuple #[.agg #[.int .i64 (k), .int .i64 (a), .int .i64 (q), .int .i64 (b), .int .i64 (m)], .bool true])) ∨ (¬ twoB ws 1 ∧ e = .returned (.tuple #[.agg #[.int .i64 0, .int .i64 0, .int .i64 0, .int .i64 0, .int .i64 0], .bool false]))) ∧ Below w.heap.size w w' := two_spec ws hws g cap 1 (by omega) hlen k a q b m w ho
theorem two2 (ws : List (List UInt8)) (hws : ∀ l ∈ ws, l.length ≤ 1000) (g cap : Nat) (hlen : ws.length ≤ 1000) (k a q b m : Int) (w : World) (ho : Wd w g ws) :
    Calls Tryz.prog 17 #[.slice (some ⟨g, 0, none⟩) ws.length cap, .agg #[.int .i64 (k), .int .i64 (a), .int .i64 (q), .int .i64 (b), .int .i64 (m)], .int .i64 2] w fun e w' => ((twoB ws 2 ∧ e = .returned (.tuple #[.agg #[.int .i64 (k), .int .i64 (a), .int .i64 (q), .int .i64 (b), .int .i64 (m)], .bool true])) ∨ (¬ twoB ws 2 ∧ e = .returned (.tuple #[.agg #[.int .i64 0, .int .i64 0, .int .i64 0, .int .i64 0, .int .i64 0], .bool false]))) ∧ Below w.heap.size w w' := two_spec ws hws g cap 2 (by omega) hlen k a q b m w ho
theorem lens {s : ByteArray} (hs : (s.size : Int) ≤ 100) : (words s.data.toList).length ≤ 101 ∧ ∀ l ∈ words s.data.toList, l.length ≤ 100 := by
  have h1 := wlen s.data.toList
  rw [size_len] at h1
  refine ⟨by omega, fun l hl => ?_⟩
  have h2 := word_len s.data.toList l hl
  rw [size_len] at h2
  omega
theorem sp_long (s : ByteArray) (hs : (100 : Int) < (s.size : Int)) (w : World) :
    Calls Tryz.prog 6 #[.string s] w fun e w' => e = .returned (.tuple #[.agg #[.int .i64 0, .int .i64 0, .int .i64 0, .int .i64 0, .int .i64 0], .bool false]) ∧ Below w.heap.size w w' := by
  go_enter Tryz.func6, Tryz.ntmps6
  go_wp2_with fail
  obtain ⟨w0, e0⟩ : ∃ w0, w0 = (w.alloc (.cells #[.int .i64 0, .int .i64 0, .int .i64 0, .int .i64 0, .int .i64 0] 25)) := ⟨_, rfl⟩
  have B1 : Hid (Below w.heap.size w w0) := by rw [e0]; exact (Below.refl _ _).alloc (by simp) _
  have R2 : Hid (Bk w0 w.heap.size [.int .i64 0, .int .i64 0, .int .i64 0, .int .i64 0, .int .i64 0]) := by rw [e0]; exact bk_new w 25 [.int .i64 0, .int .i64 0, .int .i64 0, .int .i64 0, .int .i64 0]
  rw [← e0]
  clear e0
  refine (words_long s hs _).mono ?_
  rintro e w1 ⟨rfl, hb1⟩
  have B3 : Hid (Below w.heap.size w w1) := bthen B1.out hb1
  have R3 : Hid (Bk w1 w.heap.size [.int .i64 0, .int .i64 0, .int .i64 0, .int .i64 0, .int .i64 0]) := R2.out.below hb1
  clear B1 R2
  clear hb1
  have yR0 : w1.cell? ⟨w.heap.size, 0, none⟩ = some (.int .i64 0) := (R3.out.2 0 (by simp)).1
  have zR0 : w1.frozen? ⟨w.heap.size, 0, none⟩ = false := (R3.out.2 0 (by simp)).2
  have yR1 : w1.cell? ⟨w.heap.size, 1, none⟩ = some (.int .i64 0) := (R3.out.2 1 (by simp)).1
  have zR1 : w1.frozen? ⟨w.heap.size, 1, none⟩ = false := (R3.out.2 1 (by simp)).2
  have yR2 : w1.cell? ⟨w.heap.size, 2, none⟩ = some (.int .i64 0) := (R3.out.2 2 (by simp)).1
  have zR2 : w1.frozen? ⟨w.heap.size, 2, none⟩ = false := (R3.out.2 2 (by simp)).2
  have yR3 : w1.cell? ⟨w.heap.size, 3, none⟩ = some (.int .i64 0) := (R3.out.2 3 (by simp)).1
  have zR3 : w1.frozen? ⟨w.heap.size, 3, none⟩ = false := (R3.out.2 3 (by simp)).2
  have yR4 : w1.cell? ⟨w.heap.size, 4, none⟩ = some (.int .i64 0) := (R3.out.2 4 (by simp)).1
  have zR4 : w1.frozen? ⟨w.heap.size, 4, none⟩ = false := (R3.out.2 4 (by simp)).2
  have hlR : w.heap.size < w1.heap.size := R3.out.1
  go_wp2
  exact bodyPost_ret (v := .tuple #[.agg #[.int .i64 0, .int .i64 0, .int .i64 0, .int .i64 0, .int .i64 0], .bool false]) (by simp [results, Tryz.results6, go_sem, yR0, yR1, yR2, yR3, yR4]) rfl ⟨rfl, by repeat (first | exact B3.out | refine Below.setCell ?_ (by first | simp | omega) _)⟩
theorem sp_few (s : ByteArray) (hs : (s.size : Int) ≤ 100) (h : (words s.data.toList).length < 2) (w : World) :
    Calls Tryz.prog 6 #[.string s] w fun e w' => e = .returned (.tuple #[.agg #[.int .i64 0, .int .i64 0, .int .i64 0, .int .i64 0, .int .i64 0], .bool false]) ∧ Below w.heap.size w w' := by
  go_enter Tryz.func6, Tryz.ntmps6
  go_wp2_with fail
  obtain ⟨w0, e0⟩ : ∃ w0, w0 = (w.alloc (.cells #[.int .i64 0, .int .i64 0, .int .i64 0, .int .i64 0, .int .i64 0] 25)) := ⟨_, rfl⟩
  have B1 : Hid (Below w.heap.size w w0) := by rw [e0]; exact (Below.refl _ _).alloc (by simp) _
  have R2 : Hid (Bk w0 w.heap.size [.int .i64 0, .int .i64 0, .int .i64 0, .int .i64 0, .int .i64 0]) := by rw [e0]; exact bk_new w 25 [.int .i64 0, .int .i64 0, .int .i64 0, .int .i64 0, .int .i64 0]
  rw [← e0]
  clear e0
  refine (words_spec s hs _).mono ?_
  rintro e w1 ⟨v, rfl, ho, hb1⟩
  have B3 : Hid (Below w.heap.size w w1) := bthen B1.out hb1
  have R3 : Hid (Bk w1 w.heap.size [.int .i64 0, .int .i64 0, .int .i64 0, .int .i64 0, .int .i64 0]) := R2.out.below hb1
  clear B1 R2
  clear hb1
  have hl : ((words s.data.toList).length : Int) < 2 := by omega
  rcases ho.2 with ⟨rfl, h0⟩ | ⟨g, cap, cur, rfl, _⟩
  · have : (words s.data.toList).length ≠ 0 := by obtain ⟨a, b, e⟩ := words_cons s.data.toList; rw [e]; simp
    exact absurd h0 this
  clear ho
  have yR0 : w1.cell? ⟨w.heap.size, 0, none⟩ = some (.int .i64 0) := (R3.out.2 0 (by simp)).1
  have zR0 : w1.frozen? ⟨w.heap.size, 0, none⟩ = false := (R3.out.2 0 (by simp)).2
  have yR1 : w1.cell? ⟨w.heap.size, 1, none⟩ = some (.int .i64 0) := (R3.out.2 1 (by simp)).1
  have zR1 : w1.frozen? ⟨w.heap.size, 1, none⟩ = false := (R3.out.2 1 (by simp)).2
  have yR2 : w1.cell? ⟨w.heap.size, 2, none⟩ = some (.int .i64 0) := (R3.out.2 2 (by simp)).1
  have zR2 : w1.frozen? ⟨w.heap.size, 2, none⟩ = false := (R3.out.2 2 (by simp)).2
  have yR3 : w1.cell? ⟨w.heap.size, 3, none⟩ = some (.int .i64 0) := (R3.out.2 3 (by simp)).1
  have zR3 : w1.frozen? ⟨w.heap.size, 3, none⟩ = false := (R3.out.2 3 (by simp)).2
  have yR4 : w1.cell? ⟨w.heap.size, 4, none⟩ = some (.int .i64 0) := (R3.out.2 4 (by simp)).1
  have zR4 : w1.frozen? ⟨w.heap.size, 4, none⟩ = false := (R3.out.2 4 (by simp)).2
  have hlR : w.heap.size < w1.heap.size := R3.out.1
  go_wp2
  exact bodyPost_ret (v := .tuple #[.agg #[.int .i64 0, .int .i64 0, .int .i64 0, .int .i64 0, .int .i64 0], .bool false]) (by simp [results, Tryz.results6, go_sem, yR0, yR1, yR2, yR3, yR4]) rfl ⟨rfl, by repeat (first | exact B3.out | refine Below.setCell ?_ (by first | simp | omega) _)⟩
set_option maxHeartbeats 2000000 in
theorem sp_grant (s : ByteArray) (hs : (s.size : Int) ≤ 100) (h2 : 2 ≤ (words s.data.toList).length) (h0 : (words s.data.toList)[0]? = some [103, 114, 97, 110, 116]) (w : World) :
    Calls Tryz.prog 6 #[.string s] w fun e w' => ((twoB (words s.data.toList) 2 ∧ e = .returned (.tuple #[.agg #[.int .i64 (1), .int .i64 (atF (words s.data.toList) 1), .int .i64 (0), .int .i64 (atF (words s.data.toList) 2), .int .i64 (0)], .bool true])) ∨ (¬ twoB (words s.data.toList) 2 ∧ e = .returned (.tuple #[.agg #[.int .i64 0, .int .i64 0, .int .i64 0, .int .i64 0, .int .i64 0], .bool false]))) ∧ Below w.heap.size w w' := by
  have hl : (2 : Int) ≤ ((words s.data.toList).length : Int) := by omega
  obtain ⟨l1, l2⟩ := lens hs
  have H0 := hid h0
  clear h0
  go_enter Tryz.func6, Tryz.ntmps6
  go_wp2_with fail
  obtain ⟨w0, e0⟩ : ∃ w0, w0 = (w.alloc (.cells #[.int .i64 0, .int .i64 0, .int .i64 0, .int .i64 0, .int .i64 0] 25)) := ⟨_, rfl⟩
  have B1 : Hid (Below w.heap.size w w0) := by rw [e0]; exact (Below.refl _ _).alloc (by simp) _
  have R2 : Hid (Bk w0 w.heap.size [.int .i64 0, .int .i64 0, .int .i64 0, .int .i64 0, .int .i64 0]) := by rw [e0]; exact bk_new w 25 [.int .i64 0, .int .i64 0, .int .i64 0, .int .i64 0, .int .i64 0]
  rw [← e0]
  clear e0
  refine (words_spec s hs _).mono ?_
  rintro e w1 ⟨v, rfl, ho, hb1⟩
  have B3 : Hid (Below w.heap.size w w1) := bthen B1.out hb1
  have R3 : Hid (Bk w1 w.heap.size [.int .i64 0, .int .i64 0, .int .i64 0, .int .i64 0, .int .i64 0]) := R2.out.below hb1
  clear B1 R2
  clear hb1
  rcases ho.2 with ⟨_, h⟩ | ⟨g, cap, cur, rfl, _⟩
  · omega
  have D4 : Hid (Wd w1 g (words s.data.toList)) := wd_of ho (by omega)
  have HO := hid ho
  clear ho
  have c0 := D4.out.2 0 _ H0.out
  have yR0 : w1.cell? ⟨w.heap.size, 0, none⟩ = some (.int .i64 0) := (R3.out.2 0 (by simp)).1
  have zR0 : w1.frozen? ⟨w.heap.size, 0, none⟩ = false := (R3.out.2 0 (by simp)).2
  have yR1 : w1.cell? ⟨w.heap.size, 1, none⟩ = some (.int .i64 0) := (R3.out.2 1 (by simp)).1
  have zR1 : w1.frozen? ⟨w.heap.size, 1, none⟩ = false := (R3.out.2 1 (by simp)).2
  have yR2 : w1.cell? ⟨w.heap.size, 2, none⟩ = some (.int .i64 0) := (R3.out.2 2 (by simp)).1
  have zR2 : w1.frozen? ⟨w.heap.size, 2, none⟩ = false := (R3.out.2 2 (by simp)).2
  have yR3 : w1.cell? ⟨w.heap.size, 3, none⟩ = some (.int .i64 0) := (R3.out.2 3 (by simp)).1
  have zR3 : w1.frozen? ⟨w.heap.size, 3, none⟩ = false := (R3.out.2 3 (by simp)).2
  have yR4 : w1.cell? ⟨w.heap.size, 4, none⟩ = some (.int .i64 0) := (R3.out.2 4 (by simp)).1
  have zR4 : w1.frozen? ⟨w.heap.size, 4, none⟩ = false := (R3.out.2 4 (by simp)).2
  have hlR : w.heap.size < w1.heap.size := R3.out.1
  go_wp2_with fail
  refine (at1 s hs _ _ _ HO.out).mono ?_
  rintro e w' ⟨rfl, e'⟩
  subst e'
  go_wp2_with fail
  refine (at2 s hs _ _ _ HO.out).mono ?_
  rintro e w' ⟨rfl, e'⟩
  subst e'
  go_wp2_with fail
  refine (two2 (words s.data.toList) (fun l hl => by have := l2 l hl; omega) g cap (by omega) _ _ _ _ _ _ D4.out).mono ?_
  rintro e w2 ⟨hh, hb2⟩
  clear yR0 zR0 yR1 zR1 yR2 zR2 yR3 zR3 yR4 zR4 hlR
  have B5 : Hid (Below w.heap.size w w2) := bthen B3.out hb2
  have R5 : Hid (Bk w2 w.heap.size [.int .i64 0, .int .i64 0, .int .i64 0, .int .i64 0, .int .i64 0]) := R3.out.below hb2
  have D5 : Hid (Wd w2 g (words s.data.toList)) := D4.out.below hb2
  clear B3 R3 D4
  clear hb2 c0
  have yR0 : w2.cell? ⟨w.heap.size, 0, none⟩ = some (.int .i64 0) := (R5.out.2 0 (by simp)).1
  have zR0 : w2.frozen? ⟨w.heap.size, 0, none⟩ = false := (R5.out.2 0 (by simp)).2
  have yR1 : w2.cell? ⟨w.heap.size, 1, none⟩ = some (.int .i64 0) := (R5.out.2 1 (by simp)).1
  have zR1 : w2.frozen? ⟨w.heap.size, 1, none⟩ = false := (R5.out.2 1 (by simp)).2
  have yR2 : w2.cell? ⟨w.heap.size, 2, none⟩ = some (.int .i64 0) := (R5.out.2 2 (by simp)).1
  have zR2 : w2.frozen? ⟨w.heap.size, 2, none⟩ = false := (R5.out.2 2 (by simp)).2
  have yR3 : w2.cell? ⟨w.heap.size, 3, none⟩ = some (.int .i64 0) := (R5.out.2 3 (by simp)).1
  have zR3 : w2.frozen? ⟨w.heap.size, 3, none⟩ = false := (R5.out.2 3 (by simp)).2
  have yR4 : w2.cell? ⟨w.heap.size, 4, none⟩ = some (.int .i64 0) := (R5.out.2 4 (by simp)).1
  have zR4 : w2.frozen? ⟨w.heap.size, 4, none⟩ = false := (R5.out.2 4 (by simp)).2
  have hlR : w.heap.size < w2.heap.size := R5.out.1
  rcases hh with ⟨ht, rfl⟩ | ⟨ht, rfl⟩
  · go_wp2
    exact bodyPost_ret (v := .tuple #[.agg #[.int .i64 (1), .int .i64 (atF (words s.data.toList) 1), .int .i64 (0), .int .i64 (atF (words s.data.toList) 2), .int .i64 (0)], .bool true]) (by simp [results, Tryz.results6, go_sem, yR0, yR1, yR2, yR3, yR4]) rfl ⟨.inl ⟨ht, rfl⟩, by repeat (first | exact B5.out | refine Below.setCell ?_ (by first | simp | omega) _)⟩
  · go_wp2
    exact bodyPost_ret (v := .tuple #[.agg #[.int .i64 0, .int .i64 0, .int .i64 0, .int .i64 0, .int .i64 0], .bool false]) (by simp [results, Tryz.results6, go_sem, yR0, yR1, yR2, yR3, yR4]) rfl ⟨.inr ⟨ht, rfl⟩, by repeat (first | exact B5.out | refine Below.setCell ?_ (by first | simp | omega) _)⟩
set_option maxHeartbeats 2000000 in
theorem sp_say (s : ByteArray) (hs : (s.size : Int) ≤ 100) (h2 : 2 ≤ (words s.data.toList).length) (h0 : (words s.data.toList)[0]? = some [115, 97, 121]) (w : World) :
    Calls Tryz.prog 6 #[.string s] w fun e w' => ((twoB (words s.data.toList) 1 ∧ e = .returned (.tuple #[.agg #[.int .i64 (3), .int .i64 (atF (words s.data.toList) 1), .int .i64 (0), .int .i64 (0), .int .i64 (0)], .bool true])) ∨ (¬ twoB (words s.data.toList) 1 ∧ e = .returned (.tuple #[.agg #[.int .i64 0, .int .i64 0, .int .i64 0, .int .i64 0, .int .i64 0], .bool false]))) ∧ Below w.heap.size w w' := by
  have hl : (2 : Int) ≤ ((words s.data.toList).length : Int) := by omega
  obtain ⟨l1, l2⟩ := lens hs
  have H0 := hid h0
  clear h0
  go_enter Tryz.func6, Tryz.ntmps6
  go_wp2_with fail
  obtain ⟨w0, e0⟩ : ∃ w0, w0 = (w.alloc (.cells #[.int .i64 0, .int .i64 0, .int .i64 0, .int .i64 0, .int .i64 0] 25)) := ⟨_, rfl⟩
  have B1 : Hid (Below w.heap.size w w0) := by rw [e0]; exact (Below.refl _ _).alloc (by simp) _
  have R2 : Hid (Bk w0 w.heap.size [.int .i64 0, .int .i64 0, .int .i64 0, .int .i64 0, .int .i64 0]) := by rw [e0]; exact bk_new w 25 [.int .i64 0, .int .i64 0, .int .i64 0, .int .i64 0, .int .i64 0]
  rw [← e0]
  clear e0
  refine (words_spec s hs _).mono ?_
  rintro e w1 ⟨v, rfl, ho, hb1⟩
  have B3 : Hid (Below w.heap.size w w1) := bthen B1.out hb1
  have R3 : Hid (Bk w1 w.heap.size [.int .i64 0, .int .i64 0, .int .i64 0, .int .i64 0, .int .i64 0]) := R2.out.below hb1
  clear B1 R2
  clear hb1
  rcases ho.2 with ⟨_, h⟩ | ⟨g, cap, cur, rfl, _⟩
  · omega
  have D4 : Hid (Wd w1 g (words s.data.toList)) := wd_of ho (by omega)
  have HO := hid ho
  clear ho
  have c0 := D4.out.2 0 _ H0.out
  have yR0 : w1.cell? ⟨w.heap.size, 0, none⟩ = some (.int .i64 0) := (R3.out.2 0 (by simp)).1
  have zR0 : w1.frozen? ⟨w.heap.size, 0, none⟩ = false := (R3.out.2 0 (by simp)).2
  have yR1 : w1.cell? ⟨w.heap.size, 1, none⟩ = some (.int .i64 0) := (R3.out.2 1 (by simp)).1
  have zR1 : w1.frozen? ⟨w.heap.size, 1, none⟩ = false := (R3.out.2 1 (by simp)).2
  have yR2 : w1.cell? ⟨w.heap.size, 2, none⟩ = some (.int .i64 0) := (R3.out.2 2 (by simp)).1
  have zR2 : w1.frozen? ⟨w.heap.size, 2, none⟩ = false := (R3.out.2 2 (by simp)).2
  have yR3 : w1.cell? ⟨w.heap.size, 3, none⟩ = some (.int .i64 0) := (R3.out.2 3 (by simp)).1
  have zR3 : w1.frozen? ⟨w.heap.size, 3, none⟩ = false := (R3.out.2 3 (by simp)).2
  have yR4 : w1.cell? ⟨w.heap.size, 4, none⟩ = some (.int .i64 0) := (R3.out.2 4 (by simp)).1
  have zR4 : w1.frozen? ⟨w.heap.size, 4, none⟩ = false := (R3.out.2 4 (by simp)).2
  have hlR : w.heap.size < w1.heap.size := R3.out.1
  go_wp2_with fail
  refine (at1 s hs _ _ _ HO.out).mono ?_
  rintro e w' ⟨rfl, e'⟩
  subst e'
  go_wp2_with fail
  refine (at2 s hs _ _ _ HO.out).mono ?_
  rintro e w' ⟨rfl, e'⟩
  subst e'
  go_wp2_with fail
  refine (two1 (words s.data.toList) (fun l hl => by have := l2 l hl; omega) g cap (by omega) _ _ _ _ _ _ D4.out).mono ?_
  rintro e w2 ⟨hh, hb2⟩
  clear yR0 zR0 yR1 zR1 yR2 zR2 yR3 zR3 yR4 zR4 hlR
  have B5 : Hid (Below w.heap.size w w2) := bthen B3.out hb2
  have R5 : Hid (Bk w2 w.heap.size [.int .i64 0, .int .i64 0, .int .i64 0, .int .i64 0, .int .i64 0]) := R3.out.below hb2
  have D5 : Hid (Wd w2 g (words s.data.toList)) := D4.out.below hb2
  clear B3 R3 D4
  clear hb2 c0
  have yR0 : w2.cell? ⟨w.heap.size, 0, none⟩ = some (.int .i64 0) := (R5.out.2 0 (by simp)).1
  have zR0 : w2.frozen? ⟨w.heap.size, 0, none⟩ = false := (R5.out.2 0 (by simp)).2
  have yR1 : w2.cell? ⟨w.heap.size, 1, none⟩ = some (.int .i64 0) := (R5.out.2 1 (by simp)).1
  have zR1 : w2.frozen? ⟨w.heap.size, 1, none⟩ = false := (R5.out.2 1 (by simp)).2
  have yR2 : w2.cell? ⟨w.heap.size, 2, none⟩ = some (.int .i64 0) := (R5.out.2 2 (by simp)).1
  have zR2 : w2.frozen? ⟨w.heap.size, 2, none⟩ = false := (R5.out.2 2 (by simp)).2
  have yR3 : w2.cell? ⟨w.heap.size, 3, none⟩ = some (.int .i64 0) := (R5.out.2 3 (by simp)).1
  have zR3 : w2.frozen? ⟨w.heap.size, 3, none⟩ = false := (R5.out.2 3 (by simp)).2
  have yR4 : w2.cell? ⟨w.heap.size, 4, none⟩ = some (.int .i64 0) := (R5.out.2 4 (by simp)).1
  have zR4 : w2.frozen? ⟨w.heap.size, 4, none⟩ = false := (R5.out.2 4 (by simp)).2
  have hlR : w.heap.size < w2.heap.size := R5.out.1
  rcases hh with ⟨ht, rfl⟩ | ⟨ht, rfl⟩
  · go_wp2
    exact bodyPost_ret (v := .tuple #[.agg #[.int .i64 (3), .int .i64 (atF (words s.data.toList) 1), .int .i64 (0), .int .i64 (0), .int .i64 (0)], .bool true]) (by simp [results, Tryz.results6, go_sem, yR0, yR1, yR2, yR3, yR4]) rfl ⟨.inl ⟨ht, rfl⟩, by repeat (first | exact B5.out | refine Below.setCell ?_ (by first | simp | omega) _)⟩
  · go_wp2
    exact bodyPost_ret (v := .tuple #[.agg #[.int .i64 0, .int .i64 0, .int .i64 0, .int .i64 0, .int .i64 0], .bool false]) (by simp [results, Tryz.results6, go_sem, yR0, yR1, yR2, yR3, yR4]) rfl ⟨.inr ⟨ht, rfl⟩, by repeat (first | exact B5.out | refine Below.setCell ?_ (by first | simp | omega) _)⟩
set_option maxHeartbeats 2000000 in
theorem sp_bring (s : ByteArray) (hs : (s.size : Int) ≤ 100) (h2 : 2 ≤ (words s.data.toList).length) (h0 : (words s.data.toList)[0]? = some [98, 114, 105, 110, 103]) (w : World) :
    Calls Tryz.prog 6 #[.string s] w fun e w' => ((twoB (words s.data.toList) 1 ∧ e = .returned (.tuple #[.agg #[.int .i64 (4), .int .i64 (atF (words s.data.toList) 1), .int .i64 (0), .int .i64 (0), .int .i64 (0)], .bool true])) ∨ (¬ twoB (words s.data.toList) 1 ∧ e = .returned (.tuple #[.agg #[.int .i64 0, .int .i64 0, .int .i64 0, .int .i64 0, .int .i64 0], .bool false]))) ∧ Below w.heap.size w w' := by
  have hl : (2 : Int) ≤ ((words s.data.toList).length : Int) := by omega
  obtain ⟨l1, l2⟩ := lens hs
  have H0 := hid h0
  clear h0
  go_enter Tryz.func6, Tryz.ntmps6
  go_wp2_with fail
  obtain ⟨w0, e0⟩ : ∃ w0, w0 = (w.alloc (.cells #[.int .i64 0, .int .i64 0, .int .i64 0, .int .i64 0, .int .i64 0] 25)) := ⟨_, rfl⟩
  have B1 : Hid (Below w.heap.size w w0) := by rw [e0]; exact (Below.refl _ _).alloc (by simp) _
  have R2 : Hid (Bk w0 w.heap.size [.int .i64 0, .int .i64 0, .int .i64 0, .int .i64 0, .int .i64 0]) := by rw [e0]; exact bk_new w 25 [.int .i64 0, .int .i64 0, .int .i64 0, .int .i64 0, .int .i64 0]
  rw [← e0]
  clear e0
  refine (words_spec s hs _).mono ?_
  rintro e w1 ⟨v, rfl, ho, hb1⟩
  have B3 : Hid (Below w.heap.size w w1) := bthen B1.out hb1
  have R3 : Hid (Bk w1 w.heap.size [.int .i64 0, .int .i64 0, .int .i64 0, .int .i64 0, .int .i64 0]) := R2.out.below hb1
  clear B1 R2
  clear hb1
  rcases ho.2 with ⟨_, h⟩ | ⟨g, cap, cur, rfl, _⟩
  · omega
  have D4 : Hid (Wd w1 g (words s.data.toList)) := wd_of ho (by omega)
  have HO := hid ho
  clear ho
  have c0 := D4.out.2 0 _ H0.out
  have yR0 : w1.cell? ⟨w.heap.size, 0, none⟩ = some (.int .i64 0) := (R3.out.2 0 (by simp)).1
  have zR0 : w1.frozen? ⟨w.heap.size, 0, none⟩ = false := (R3.out.2 0 (by simp)).2
  have yR1 : w1.cell? ⟨w.heap.size, 1, none⟩ = some (.int .i64 0) := (R3.out.2 1 (by simp)).1
  have zR1 : w1.frozen? ⟨w.heap.size, 1, none⟩ = false := (R3.out.2 1 (by simp)).2
  have yR2 : w1.cell? ⟨w.heap.size, 2, none⟩ = some (.int .i64 0) := (R3.out.2 2 (by simp)).1
  have zR2 : w1.frozen? ⟨w.heap.size, 2, none⟩ = false := (R3.out.2 2 (by simp)).2
  have yR3 : w1.cell? ⟨w.heap.size, 3, none⟩ = some (.int .i64 0) := (R3.out.2 3 (by simp)).1
  have zR3 : w1.frozen? ⟨w.heap.size, 3, none⟩ = false := (R3.out.2 3 (by simp)).2
  have yR4 : w1.cell? ⟨w.heap.size, 4, none⟩ = some (.int .i64 0) := (R3.out.2 4 (by simp)).1
  have zR4 : w1.frozen? ⟨w.heap.size, 4, none⟩ = false := (R3.out.2 4 (by simp)).2
  have hlR : w.heap.size < w1.heap.size := R3.out.1
  go_wp2_with fail
  refine (at1 s hs _ _ _ HO.out).mono ?_
  rintro e w' ⟨rfl, e'⟩
  subst e'
  go_wp2_with fail
  refine (at2 s hs _ _ _ HO.out).mono ?_
  rintro e w' ⟨rfl, e'⟩
  subst e'
  go_wp2_with fail
  refine (two1 (words s.data.toList) (fun l hl => by have := l2 l hl; omega) g cap (by omega) _ _ _ _ _ _ D4.out).mono ?_
  rintro e w2 ⟨hh, hb2⟩
  clear yR0 zR0 yR1 zR1 yR2 zR2 yR3 zR3 yR4 zR4 hlR
  have B5 : Hid (Below w.heap.size w w2) := bthen B3.out hb2
  have R5 : Hid (Bk w2 w.heap.size [.int .i64 0, .int .i64 0, .int .i64 0, .int .i64 0, .int .i64 0]) := R3.out.below hb2
  have D5 : Hid (Wd w2 g (words s.data.toList)) := D4.out.below hb2
  clear B3 R3 D4
  clear hb2 c0
  have yR0 : w2.cell? ⟨w.heap.size, 0, none⟩ = some (.int .i64 0) := (R5.out.2 0 (by simp)).1
  have zR0 : w2.frozen? ⟨w.heap.size, 0, none⟩ = false := (R5.out.2 0 (by simp)).2
  have yR1 : w2.cell? ⟨w.heap.size, 1, none⟩ = some (.int .i64 0) := (R5.out.2 1 (by simp)).1
  have zR1 : w2.frozen? ⟨w.heap.size, 1, none⟩ = false := (R5.out.2 1 (by simp)).2
  have yR2 : w2.cell? ⟨w.heap.size, 2, none⟩ = some (.int .i64 0) := (R5.out.2 2 (by simp)).1
  have zR2 : w2.frozen? ⟨w.heap.size, 2, none⟩ = false := (R5.out.2 2 (by simp)).2
  have yR3 : w2.cell? ⟨w.heap.size, 3, none⟩ = some (.int .i64 0) := (R5.out.2 3 (by simp)).1
  have zR3 : w2.frozen? ⟨w.heap.size, 3, none⟩ = false := (R5.out.2 3 (by simp)).2
  have yR4 : w2.cell? ⟨w.heap.size, 4, none⟩ = some (.int .i64 0) := (R5.out.2 4 (by simp)).1
  have zR4 : w2.frozen? ⟨w.heap.size, 4, none⟩ = false := (R5.out.2 4 (by simp)).2
  have hlR : w.heap.size < w2.heap.size := R5.out.1
  rcases hh with ⟨ht, rfl⟩ | ⟨ht, rfl⟩
  · go_wp2
    exact bodyPost_ret (v := .tuple #[.agg #[.int .i64 (4), .int .i64 (atF (words s.data.toList) 1), .int .i64 (0), .int .i64 (0), .int .i64 (0)], .bool true]) (by simp [results, Tryz.results6, go_sem, yR0, yR1, yR2, yR3, yR4]) rfl ⟨.inl ⟨ht, rfl⟩, by repeat (first | exact B5.out | refine Below.setCell ?_ (by first | simp | omega) _)⟩
  · go_wp2
    exact bodyPost_ret (v := .tuple #[.agg #[.int .i64 0, .int .i64 0, .int .i64 0, .int .i64 0, .int .i64 0], .bool false]) (by simp [results, Tryz.results6, go_sem, yR0, yR1, yR2, yR3, yR4]) rfl ⟨.inr ⟨ht, rfl⟩, by repeat (first | exact B5.out | refine Below.setCell ?_ (by first | simp | omega) _)⟩
set_option maxHeartbeats 2000000 in
theorem sp_lose (s : ByteArray) (hs : (s.size : Int) ≤ 100) (h2 : 2 ≤ (words s.data.toList).length) (h0 : (words s.data.toList)[0]? = some [108, 111, 115, 101]) (w : World) :
    Calls Tryz.prog 6 #[.string s] w fun e w' => ((twoB (words s.data.toList) 1 ∧ e = .returned (.tuple #[.agg #[.int .i64 (5), .int .i64 (atF (words s.data.toList) 1), .int .i64 (0), .int .i64 (0), .int .i64 (0)], .bool true])) ∨ (¬ twoB (words s.data.toList) 1 ∧ e = .returned (.tuple #[.agg #[.int .i64 0, .int .i64 0, .int .i64 0, .int .i64 0, .int .i64 0], .bool false]))) ∧ Below w.heap.size w w' := by
  have hl : (2 : Int) ≤ ((words s.data.toList).length : Int) := by omega
  obtain ⟨l1, l2⟩ := lens hs
  have H0 := hid h0
  clear h0
  go_enter Tryz.func6, Tryz.ntmps6
  go_wp2_with fail
  obtain ⟨w0, e0⟩ : ∃ w0, w0 = (w.alloc (.cells #[.int .i64 0, .int .i64 0, .int .i64 0, .int .i64 0, .int .i64 0] 25)) := ⟨_, rfl⟩
  have B1 : Hid (Below w.heap.size w w0) := by rw [e0]; exact (Below.refl _ _).alloc (by simp) _
  have R2 : Hid (Bk w0 w.heap.size [.int .i64 0, .int .i64 0, .int .i64 0, .int .i64 0, .int .i64 0]) := by rw [e0]; exact bk_new w 25 [.int .i64 0, .int .i64 0, .int .i64 0, .int .i64 0, .int .i64 0]
  rw [← e0]
  clear e0
  refine (words_spec s hs _).mono ?_
  rintro e w1 ⟨v, rfl, ho, hb1⟩
  have B3 : Hid (Below w.heap.size w w1) := bthen B1.out hb1
  have R3 : Hid (Bk w1 w.heap.size [.int .i64 0, .int .i64 0, .int .i64 0, .int .i64 0, .int .i64 0]) := R2.out.below hb1
  clear B1 R2
  clear hb1
  rcases ho.2 with ⟨_, h⟩ | ⟨g, cap, cur, rfl, _⟩
  · omega
  have D4 : Hid (Wd w1 g (words s.data.toList)) := wd_of ho (by omega)
  have HO := hid ho
  clear ho
  have c0 := D4.out.2 0 _ H0.out
  have yR0 : w1.cell? ⟨w.heap.size, 0, none⟩ = some (.int .i64 0) := (R3.out.2 0 (by simp)).1
  have zR0 : w1.frozen? ⟨w.heap.size, 0, none⟩ = false := (R3.out.2 0 (by simp)).2
  have yR1 : w1.cell? ⟨w.heap.size, 1, none⟩ = some (.int .i64 0) := (R3.out.2 1 (by simp)).1
  have zR1 : w1.frozen? ⟨w.heap.size, 1, none⟩ = false := (R3.out.2 1 (by simp)).2
  have yR2 : w1.cell? ⟨w.heap.size, 2, none⟩ = some (.int .i64 0) := (R3.out.2 2 (by simp)).1
  have zR2 : w1.frozen? ⟨w.heap.size, 2, none⟩ = false := (R3.out.2 2 (by simp)).2
  have yR3 : w1.cell? ⟨w.heap.size, 3, none⟩ = some (.int .i64 0) := (R3.out.2 3 (by simp)).1
  have zR3 : w1.frozen? ⟨w.heap.size, 3, none⟩ = false := (R3.out.2 3 (by simp)).2
  have yR4 : w1.cell? ⟨w.heap.size, 4, none⟩ = some (.int .i64 0) := (R3.out.2 4 (by simp)).1
  have zR4 : w1.frozen? ⟨w.heap.size, 4, none⟩ = false := (R3.out.2 4 (by simp)).2
  have hlR : w.heap.size < w1.heap.size := R3.out.1
  go_wp2_with fail
  refine (at1 s hs _ _ _ HO.out).mono ?_
  rintro e w' ⟨rfl, e'⟩
  subst e'
  go_wp2_with fail
  refine (at2 s hs _ _ _ HO.out).mono ?_
  rintro e w' ⟨rfl, e'⟩
  subst e'
  go_wp2_with fail
  refine (two1 (words s.data.toList) (fun l hl => by have := l2 l hl; omega) g cap (by omega) _ _ _ _ _ _ D4.out).mono ?_
  rintro e w2 ⟨hh, hb2⟩
  clear yR0 zR0 yR1 zR1 yR2 zR2 yR3 zR3 yR4 zR4 hlR
  have B5 : Hid (Below w.heap.size w w2) := bthen B3.out hb2
  have R5 : Hid (Bk w2 w.heap.size [.int .i64 0, .int .i64 0, .int .i64 0, .int .i64 0, .int .i64 0]) := R3.out.below hb2
  have D5 : Hid (Wd w2 g (words s.data.toList)) := D4.out.below hb2
  clear B3 R3 D4
  clear hb2 c0
  have yR0 : w2.cell? ⟨w.heap.size, 0, none⟩ = some (.int .i64 0) := (R5.out.2 0 (by simp)).1
  have zR0 : w2.frozen? ⟨w.heap.size, 0, none⟩ = false := (R5.out.2 0 (by simp)).2
  have yR1 : w2.cell? ⟨w.heap.size, 1, none⟩ = some (.int .i64 0) := (R5.out.2 1 (by simp)).1
  have zR1 : w2.frozen? ⟨w.heap.size, 1, none⟩ = false := (R5.out.2 1 (by simp)).2
  have yR2 : w2.cell? ⟨w.heap.size, 2, none⟩ = some (.int .i64 0) := (R5.out.2 2 (by simp)).1
  have zR2 : w2.frozen? ⟨w.heap.size, 2, none⟩ = false := (R5.out.2 2 (by simp)).2
  have yR3 : w2.cell? ⟨w.heap.size, 3, none⟩ = some (.int .i64 0) := (R5.out.2 3 (by simp)).1
  have zR3 : w2.frozen? ⟨w.heap.size, 3, none⟩ = false := (R5.out.2 3 (by simp)).2
  have yR4 : w2.cell? ⟨w.heap.size, 4, none⟩ = some (.int .i64 0) := (R5.out.2 4 (by simp)).1
  have zR4 : w2.frozen? ⟨w.heap.size, 4, none⟩ = false := (R5.out.2 4 (by simp)).2
  have hlR : w.heap.size < w2.heap.size := R5.out.1
  rcases hh with ⟨ht, rfl⟩ | ⟨ht, rfl⟩
  · go_wp2
    exact bodyPost_ret (v := .tuple #[.agg #[.int .i64 (5), .int .i64 (atF (words s.data.toList) 1), .int .i64 (0), .int .i64 (0), .int .i64 (0)], .bool true]) (by simp [results, Tryz.results6, go_sem, yR0, yR1, yR2, yR3, yR4]) rfl ⟨.inl ⟨ht, rfl⟩, by repeat (first | exact B5.out | refine Below.setCell ?_ (by first | simp | omega) _)⟩
  · go_wp2
    exact bodyPost_ret (v := .tuple #[.agg #[.int .i64 0, .int .i64 0, .int .i64 0, .int .i64 0, .int .i64 0], .bool false]) (by simp [results, Tryz.results6, go_sem, yR0, yR1, yR2, yR3, yR4]) rfl ⟨.inr ⟨ht, rfl⟩, by repeat (first | exact B5.out | refine Below.setCell ?_ (by first | simp | omega) _)⟩
set_option maxHeartbeats 2000000 in
theorem sp_twice (s : ByteArray) (hs : (s.size : Int) ≤ 100) (h2 : 2 ≤ (words s.data.toList).length) (h0 : (words s.data.toList)[0]? = some [116, 119, 105, 99, 101]) (w : World) :
    Calls Tryz.prog 6 #[.string s] w fun e w' => ((twoB (words s.data.toList) 1 ∧ e = .returned (.tuple #[.agg #[.int .i64 (6), .int .i64 (atF (words s.data.toList) 1), .int .i64 (0), .int .i64 (0), .int .i64 (0)], .bool true])) ∨ (¬ twoB (words s.data.toList) 1 ∧ e = .returned (.tuple #[.agg #[.int .i64 0, .int .i64 0, .int .i64 0, .int .i64 0, .int .i64 0], .bool false]))) ∧ Below w.heap.size w w' := by
  have hl : (2 : Int) ≤ ((words s.data.toList).length : Int) := by omega
  obtain ⟨l1, l2⟩ := lens hs
  have H0 := hid h0
  clear h0
  go_enter Tryz.func6, Tryz.ntmps6
  go_wp2_with fail
  obtain ⟨w0, e0⟩ : ∃ w0, w0 = (w.alloc (.cells #[.int .i64 0, .int .i64 0, .int .i64 0, .int .i64 0, .int .i64 0] 25)) := ⟨_, rfl⟩
  have B1 : Hid (Below w.heap.size w w0) := by rw [e0]; exact (Below.refl _ _).alloc (by simp) _
  have R2 : Hid (Bk w0 w.heap.size [.int .i64 0, .int .i64 0, .int .i64 0, .int .i64 0, .int .i64 0]) := by rw [e0]; exact bk_new w 25 [.int .i64 0, .int .i64 0, .int .i64 0, .int .i64 0, .int .i64 0]
  rw [← e0]
  clear e0
  refine (words_spec s hs _).mono ?_
  rintro e w1 ⟨v, rfl, ho, hb1⟩
  have B3 : Hid (Below w.heap.size w w1) := bthen B1.out hb1
  have R3 : Hid (Bk w1 w.heap.size [.int .i64 0, .int .i64 0, .int .i64 0, .int .i64 0, .int .i64 0]) := R2.out.below hb1
  clear B1 R2
  clear hb1
  rcases ho.2 with ⟨_, h⟩ | ⟨g, cap, cur, rfl, _⟩
  · omega
  have D4 : Hid (Wd w1 g (words s.data.toList)) := wd_of ho (by omega)
  have HO := hid ho
  clear ho
  have c0 := D4.out.2 0 _ H0.out
  have yR0 : w1.cell? ⟨w.heap.size, 0, none⟩ = some (.int .i64 0) := (R3.out.2 0 (by simp)).1
  have zR0 : w1.frozen? ⟨w.heap.size, 0, none⟩ = false := (R3.out.2 0 (by simp)).2
  have yR1 : w1.cell? ⟨w.heap.size, 1, none⟩ = some (.int .i64 0) := (R3.out.2 1 (by simp)).1
  have zR1 : w1.frozen? ⟨w.heap.size, 1, none⟩ = false := (R3.out.2 1 (by simp)).2
  have yR2 : w1.cell? ⟨w.heap.size, 2, none⟩ = some (.int .i64 0) := (R3.out.2 2 (by simp)).1
  have zR2 : w1.frozen? ⟨w.heap.size, 2, none⟩ = false := (R3.out.2 2 (by simp)).2
  have yR3 : w1.cell? ⟨w.heap.size, 3, none⟩ = some (.int .i64 0) := (R3.out.2 3 (by simp)).1
  have zR3 : w1.frozen? ⟨w.heap.size, 3, none⟩ = false := (R3.out.2 3 (by simp)).2
  have yR4 : w1.cell? ⟨w.heap.size, 4, none⟩ = some (.int .i64 0) := (R3.out.2 4 (by simp)).1
  have zR4 : w1.frozen? ⟨w.heap.size, 4, none⟩ = false := (R3.out.2 4 (by simp)).2
  have hlR : w.heap.size < w1.heap.size := R3.out.1
  go_wp2_with fail
  refine (at1 s hs _ _ _ HO.out).mono ?_
  rintro e w' ⟨rfl, e'⟩
  subst e'
  go_wp2_with fail
  refine (at2 s hs _ _ _ HO.out).mono ?_
  rintro e w' ⟨rfl, e'⟩
  subst e'
  go_wp2_with fail
  refine (two1 (words s.data.toList) (fun l hl => by have := l2 l hl; omega) g cap (by omega) _ _ _ _ _ _ D4.out).mono ?_
  rintro e w2 ⟨hh, hb2⟩
  clear yR0 zR0 yR1 zR1 yR2 zR2 yR3 zR3 yR4 zR4 hlR
  have B5 : Hid (Below w.heap.size w w2) := bthen B3.out hb2
  have R5 : Hid (Bk w2 w.heap.size [.int .i64 0, .int .i64 0, .int .i64 0, .int .i64 0, .int .i64 0]) := R3.out.below hb2
  have D5 : Hid (Wd w2 g (words s.data.toList)) := D4.out.below hb2
  clear B3 R3 D4
  clear hb2 c0
  have yR0 : w2.cell? ⟨w.heap.size, 0, none⟩ = some (.int .i64 0) := (R5.out.2 0 (by simp)).1
  have zR0 : w2.frozen? ⟨w.heap.size, 0, none⟩ = false := (R5.out.2 0 (by simp)).2
  have yR1 : w2.cell? ⟨w.heap.size, 1, none⟩ = some (.int .i64 0) := (R5.out.2 1 (by simp)).1
  have zR1 : w2.frozen? ⟨w.heap.size, 1, none⟩ = false := (R5.out.2 1 (by simp)).2
  have yR2 : w2.cell? ⟨w.heap.size, 2, none⟩ = some (.int .i64 0) := (R5.out.2 2 (by simp)).1
  have zR2 : w2.frozen? ⟨w.heap.size, 2, none⟩ = false := (R5.out.2 2 (by simp)).2
  have yR3 : w2.cell? ⟨w.heap.size, 3, none⟩ = some (.int .i64 0) := (R5.out.2 3 (by simp)).1
  have zR3 : w2.frozen? ⟨w.heap.size, 3, none⟩ = false := (R5.out.2 3 (by simp)).2
  have yR4 : w2.cell? ⟨w.heap.size, 4, none⟩ = some (.int .i64 0) := (R5.out.2 4 (by simp)).1
  have zR4 : w2.frozen? ⟨w.heap.size, 4, none⟩ = false := (R5.out.2 4 (by simp)).2
  have hlR : w.heap.size < w2.heap.size := R5.out.1
  rcases hh with ⟨ht, rfl⟩ | ⟨ht, rfl⟩
  · go_wp2
    exact bodyPost_ret (v := .tuple #[.agg #[.int .i64 (6), .int .i64 (atF (words s.data.toList) 1), .int .i64 (0), .int .i64 (0), .int .i64 (0)], .bool true]) (by simp [results, Tryz.results6, go_sem, yR0, yR1, yR2, yR3, yR4]) rfl ⟨.inl ⟨ht, rfl⟩, by repeat (first | exact B5.out | refine Below.setCell ?_ (by first | simp | omega) _)⟩
  · go_wp2
    exact bodyPost_ret (v := .tuple #[.agg #[.int .i64 0, .int .i64 0, .int .i64 0, .int .i64 0, .int .i64 0], .bool false]) (by simp [results, Tryz.results6, go_sem, yR0, yR1, yR2, yR3, yR4]) rfl ⟨.inr ⟨ht, rfl⟩, by repeat (first | exact B5.out | refine Below.setCell ?_ (by first | simp | omega) _)⟩
set_option maxHeartbeats 2000000 in
theorem sp_tick (s : ByteArray) (hs : (s.size : Int) ≤ 100) (h2 : 2 ≤ (words s.data.toList).length) (h0 : (words s.data.toList)[0]? = some [116, 105, 99, 107]) (w : World) :
    Calls Tryz.prog 6 #[.string s] w fun e w' => ((twoB (words s.data.toList) 2 ∧ e = .returned (.tuple #[.agg #[.int .i64 (7), .int .i64 (atF (words s.data.toList) 1), .int .i64 (0), .int .i64 (atF (words s.data.toList) 2), .int .i64 (0)], .bool true])) ∨ (¬ twoB (words s.data.toList) 2 ∧ e = .returned (.tuple #[.agg #[.int .i64 0, .int .i64 0, .int .i64 0, .int .i64 0, .int .i64 0], .bool false]))) ∧ Below w.heap.size w w' := by
  have hl : (2 : Int) ≤ ((words s.data.toList).length : Int) := by omega
  obtain ⟨l1, l2⟩ := lens hs
  have H0 := hid h0
  clear h0
  go_enter Tryz.func6, Tryz.ntmps6
  go_wp2_with fail
  obtain ⟨w0, e0⟩ : ∃ w0, w0 = (w.alloc (.cells #[.int .i64 0, .int .i64 0, .int .i64 0, .int .i64 0, .int .i64 0] 25)) := ⟨_, rfl⟩
  have B1 : Hid (Below w.heap.size w w0) := by rw [e0]; exact (Below.refl _ _).alloc (by simp) _
  have R2 : Hid (Bk w0 w.heap.size [.int .i64 0, .int .i64 0, .int .i64 0, .int .i64 0, .int .i64 0]) := by rw [e0]; exact bk_new w 25 [.int .i64 0, .int .i64 0, .int .i64 0, .int .i64 0, .int .i64 0]
  rw [← e0]
  clear e0
  refine (words_spec s hs _).mono ?_
  rintro e w1 ⟨v, rfl, ho, hb1⟩
  have B3 : Hid (Below w.heap.size w w1) := bthen B1.out hb1
  have R3 : Hid (Bk w1 w.heap.size [.int .i64 0, .int .i64 0, .int .i64 0, .int .i64 0, .int .i64 0]) := R2.out.below hb1
  clear B1 R2
  clear hb1
  rcases ho.2 with ⟨_, h⟩ | ⟨g, cap, cur, rfl, _⟩
  · omega
  have D4 : Hid (Wd w1 g (words s.data.toList)) := wd_of ho (by omega)
  have HO := hid ho
  clear ho
  have c0 := D4.out.2 0 _ H0.out
  have yR0 : w1.cell? ⟨w.heap.size, 0, none⟩ = some (.int .i64 0) := (R3.out.2 0 (by simp)).1
  have zR0 : w1.frozen? ⟨w.heap.size, 0, none⟩ = false := (R3.out.2 0 (by simp)).2
  have yR1 : w1.cell? ⟨w.heap.size, 1, none⟩ = some (.int .i64 0) := (R3.out.2 1 (by simp)).1
  have zR1 : w1.frozen? ⟨w.heap.size, 1, none⟩ = false := (R3.out.2 1 (by simp)).2
  have yR2 : w1.cell? ⟨w.heap.size, 2, none⟩ = some (.int .i64 0) := (R3.out.2 2 (by simp)).1
  have zR2 : w1.frozen? ⟨w.heap.size, 2, none⟩ = false := (R3.out.2 2 (by simp)).2
  have yR3 : w1.cell? ⟨w.heap.size, 3, none⟩ = some (.int .i64 0) := (R3.out.2 3 (by simp)).1
  have zR3 : w1.frozen? ⟨w.heap.size, 3, none⟩ = false := (R3.out.2 3 (by simp)).2
  have yR4 : w1.cell? ⟨w.heap.size, 4, none⟩ = some (.int .i64 0) := (R3.out.2 4 (by simp)).1
  have zR4 : w1.frozen? ⟨w.heap.size, 4, none⟩ = false := (R3.out.2 4 (by simp)).2
  have hlR : w.heap.size < w1.heap.size := R3.out.1
  go_wp2_with fail
  refine (at1 s hs _ _ _ HO.out).mono ?_
  rintro e w' ⟨rfl, e'⟩
  subst e'
  go_wp2_with fail
  refine (at2 s hs _ _ _ HO.out).mono ?_
  rintro e w' ⟨rfl, e'⟩
  subst e'
  go_wp2_with fail
  refine (two2 (words s.data.toList) (fun l hl => by have := l2 l hl; omega) g cap (by omega) _ _ _ _ _ _ D4.out).mono ?_
  rintro e w2 ⟨hh, hb2⟩
  clear yR0 zR0 yR1 zR1 yR2 zR2 yR3 zR3 yR4 zR4 hlR
  have B5 : Hid (Below w.heap.size w w2) := bthen B3.out hb2
  have R5 : Hid (Bk w2 w.heap.size [.int .i64 0, .int .i64 0, .int .i64 0, .int .i64 0, .int .i64 0]) := R3.out.below hb2
  have D5 : Hid (Wd w2 g (words s.data.toList)) := D4.out.below hb2
  clear B3 R3 D4
  clear hb2 c0
  have yR0 : w2.cell? ⟨w.heap.size, 0, none⟩ = some (.int .i64 0) := (R5.out.2 0 (by simp)).1
  have zR0 : w2.frozen? ⟨w.heap.size, 0, none⟩ = false := (R5.out.2 0 (by simp)).2
  have yR1 : w2.cell? ⟨w.heap.size, 1, none⟩ = some (.int .i64 0) := (R5.out.2 1 (by simp)).1
  have zR1 : w2.frozen? ⟨w.heap.size, 1, none⟩ = false := (R5.out.2 1 (by simp)).2
  have yR2 : w2.cell? ⟨w.heap.size, 2, none⟩ = some (.int .i64 0) := (R5.out.2 2 (by simp)).1
  have zR2 : w2.frozen? ⟨w.heap.size, 2, none⟩ = false := (R5.out.2 2 (by simp)).2
  have yR3 : w2.cell? ⟨w.heap.size, 3, none⟩ = some (.int .i64 0) := (R5.out.2 3 (by simp)).1
  have zR3 : w2.frozen? ⟨w.heap.size, 3, none⟩ = false := (R5.out.2 3 (by simp)).2
  have yR4 : w2.cell? ⟨w.heap.size, 4, none⟩ = some (.int .i64 0) := (R5.out.2 4 (by simp)).1
  have zR4 : w2.frozen? ⟨w.heap.size, 4, none⟩ = false := (R5.out.2 4 (by simp)).2
  have hlR : w.heap.size < w2.heap.size := R5.out.1
  rcases hh with ⟨ht, rfl⟩ | ⟨ht, rfl⟩
  · go_wp2
    exact bodyPost_ret (v := .tuple #[.agg #[.int .i64 (7), .int .i64 (atF (words s.data.toList) 1), .int .i64 (0), .int .i64 (atF (words s.data.toList) 2), .int .i64 (0)], .bool true]) (by simp [results, Tryz.results6, go_sem, yR0, yR1, yR2, yR3, yR4]) rfl ⟨.inl ⟨ht, rfl⟩, by repeat (first | exact B5.out | refine Below.setCell ?_ (by first | simp | omega) _)⟩
  · go_wp2
    exact bodyPost_ret (v := .tuple #[.agg #[.int .i64 0, .int .i64 0, .int .i64 0, .int .i64 0, .int .i64 0], .bool false]) (by simp [results, Tryz.results6, go_sem, yR0, yR1, yR2, yR3, yR4]) rfl ⟨.inr ⟨ht, rfl⟩, by repeat (first | exact B5.out | refine Below.setCell ?_ (by first | simp | omega) _)⟩
set_option maxHeartbeats 2000000 in
theorem sp_fall (s : ByteArray) (hs : (s.size : Int) ≤ 100) (h2 : 2 ≤ (words s.data.toList).length) (h0 : (words s.data.toList)[0]? = some [102, 97, 108, 108]) (w : World) :
    Calls Tryz.prog 6 #[.string s] w fun e w' => ((twoB (words s.data.toList) 1 ∧ e = .returned (.tuple #[.agg #[.int .i64 (8), .int .i64 (atF (words s.data.toList) 1), .int .i64 (0), .int .i64 (0), .int .i64 (0)], .bool true])) ∨ (¬ twoB (words s.data.toList) 1 ∧ e = .returned (.tuple #[.agg #[.int .i64 0, .int .i64 0, .int .i64 0, .int .i64 0, .int .i64 0], .bool false]))) ∧ Below w.heap.size w w' := by
  have hl : (2 : Int) ≤ ((words s.data.toList).length : Int) := by omega
  obtain ⟨l1, l2⟩ := lens hs
  have H0 := hid h0
  clear h0
  go_enter Tryz.func6, Tryz.ntmps6
  go_wp2_with fail
  obtain ⟨w0, e0⟩ : ∃ w0, w0 = (w.alloc (.cells #[.int .i64 0, .int .i64 0, .int .i64 0, .int .i64 0, .int .i64 0] 25)) := ⟨_, rfl⟩
  have B1 : Hid (Below w.heap.size w w0) := by rw [e0]; exact (Below.refl _ _).alloc (by simp) _
  have R2 : Hid (Bk w0 w.heap.size [.int .i64 0, .int .i64 0, .int .i64 0, .int .i64 0, .int .i64 0]) := by rw [e0]; exact bk_new w 25 [.int .i64 0, .int .i64 0, .int .i64 0, .int .i64 0, .int .i64 0]
  rw [← e0]
  clear e0
  refine (words_spec s hs _).mono ?_
  rintro e w1 ⟨v, rfl, ho, hb1⟩
  have B3 : Hid (Below w.heap.size w w1) := bthen B1.out hb1
  have R3 : Hid (Bk w1 w.heap.size [.int .i64 0, .int .i64 0, .int .i64 0, .int .i64 0, .int .i64 0]) := R2.out.below hb1
  clear B1 R2
  clear hb1
  rcases ho.2 with ⟨_, h⟩ | ⟨g, cap, cur, rfl, _⟩
  · omega
  have D4 : Hid (Wd w1 g (words s.data.toList)) := wd_of ho (by omega)
  have HO := hid ho
  clear ho
  have c0 := D4.out.2 0 _ H0.out
  have yR0 : w1.cell? ⟨w.heap.size, 0, none⟩ = some (.int .i64 0) := (R3.out.2 0 (by simp)).1
  have zR0 : w1.frozen? ⟨w.heap.size, 0, none⟩ = false := (R3.out.2 0 (by simp)).2
  have yR1 : w1.cell? ⟨w.heap.size, 1, none⟩ = some (.int .i64 0) := (R3.out.2 1 (by simp)).1
  have zR1 : w1.frozen? ⟨w.heap.size, 1, none⟩ = false := (R3.out.2 1 (by simp)).2
  have yR2 : w1.cell? ⟨w.heap.size, 2, none⟩ = some (.int .i64 0) := (R3.out.2 2 (by simp)).1
  have zR2 : w1.frozen? ⟨w.heap.size, 2, none⟩ = false := (R3.out.2 2 (by simp)).2
  have yR3 : w1.cell? ⟨w.heap.size, 3, none⟩ = some (.int .i64 0) := (R3.out.2 3 (by simp)).1
  have zR3 : w1.frozen? ⟨w.heap.size, 3, none⟩ = false := (R3.out.2 3 (by simp)).2
  have yR4 : w1.cell? ⟨w.heap.size, 4, none⟩ = some (.int .i64 0) := (R3.out.2 4 (by simp)).1
  have zR4 : w1.frozen? ⟨w.heap.size, 4, none⟩ = false := (R3.out.2 4 (by simp)).2
  have hlR : w.heap.size < w1.heap.size := R3.out.1
  go_wp2_with fail
  refine (at1 s hs _ _ _ HO.out).mono ?_
  rintro e w' ⟨rfl, e'⟩
  subst e'
  go_wp2_with fail
  refine (at2 s hs _ _ _ HO.out).mono ?_
  rintro e w' ⟨rfl, e'⟩
  subst e'
  go_wp2_with fail
  refine (two1 (words s.data.toList) (fun l hl => by have := l2 l hl; omega) g cap (by omega) _ _ _ _ _ _ D4.out).mono ?_
  rintro e w2 ⟨hh, hb2⟩
  clear yR0 zR0 yR1 zR1 yR2 zR2 yR3 zR3 yR4 zR4 hlR
  have B5 : Hid (Below w.heap.size w w2) := bthen B3.out hb2
  have R5 : Hid (Bk w2 w.heap.size [.int .i64 0, .int .i64 0, .int .i64 0, .int .i64 0, .int .i64 0]) := R3.out.below hb2
  have D5 : Hid (Wd w2 g (words s.data.toList)) := D4.out.below hb2
  clear B3 R3 D4
  clear hb2 c0
  have yR0 : w2.cell? ⟨w.heap.size, 0, none⟩ = some (.int .i64 0) := (R5.out.2 0 (by simp)).1
  have zR0 : w2.frozen? ⟨w.heap.size, 0, none⟩ = false := (R5.out.2 0 (by simp)).2
  have yR1 : w2.cell? ⟨w.heap.size, 1, none⟩ = some (.int .i64 0) := (R5.out.2 1 (by simp)).1
  have zR1 : w2.frozen? ⟨w.heap.size, 1, none⟩ = false := (R5.out.2 1 (by simp)).2
  have yR2 : w2.cell? ⟨w.heap.size, 2, none⟩ = some (.int .i64 0) := (R5.out.2 2 (by simp)).1
  have zR2 : w2.frozen? ⟨w.heap.size, 2, none⟩ = false := (R5.out.2 2 (by simp)).2
  have yR3 : w2.cell? ⟨w.heap.size, 3, none⟩ = some (.int .i64 0) := (R5.out.2 3 (by simp)).1
  have zR3 : w2.frozen? ⟨w.heap.size, 3, none⟩ = false := (R5.out.2 3 (by simp)).2
  have yR4 : w2.cell? ⟨w.heap.size, 4, none⟩ = some (.int .i64 0) := (R5.out.2 4 (by simp)).1
  have zR4 : w2.frozen? ⟨w.heap.size, 4, none⟩ = false := (R5.out.2 4 (by simp)).2
  have hlR : w.heap.size < w2.heap.size := R5.out.1
  rcases hh with ⟨ht, rfl⟩ | ⟨ht, rfl⟩
  · go_wp2
    exact bodyPost_ret (v := .tuple #[.agg #[.int .i64 (8), .int .i64 (atF (words s.data.toList) 1), .int .i64 (0), .int .i64 (0), .int .i64 (0)], .bool true]) (by simp [results, Tryz.results6, go_sem, yR0, yR1, yR2, yR3, yR4]) rfl ⟨.inl ⟨ht, rfl⟩, by repeat (first | exact B5.out | refine Below.setCell ?_ (by first | simp | omega) _)⟩
  · go_wp2
    exact bodyPost_ret (v := .tuple #[.agg #[.int .i64 0, .int .i64 0, .int .i64 0, .int .i64 0, .int .i64 0], .bool false]) (by simp [results, Tryz.results6, go_sem, yR0, yR1, yR2, yR3, yR4]) rfl ⟨.inr ⟨ht, rfl⟩, by repeat (first | exact B5.out | refine Below.setCell ?_ (by first | simp | omega) _)⟩
set_option maxHeartbeats 2000000 in
theorem sp_rise (s : ByteArray) (hs : (s.size : Int) ≤ 100) (h2 : 2 ≤ (words s.data.toList).length) (h0 : (words s.data.toList)[0]? = some [114, 105, 115, 101]) (w : World) :
    Calls Tryz.prog 6 #[.string s] w fun e w' => ((twoB (words s.data.toList) 1 ∧ e = .returned (.tuple #[.agg #[.int .i64 (9), .int .i64 (atF (words s.data.toList) 1), .int .i64 (0), .int .i64 (0), .int .i64 (0)], .bool true])) ∨ (¬ twoB (words s.data.toList) 1 ∧ e = .returned (.tuple #[.agg #[.int .i64 0, .int .i64 0, .int .i64 0, .int .i64 0, .int .i64 0], .bool false]))) ∧ Below w.heap.size w w' := by
  have hl : (2 : Int) ≤ ((words s.data.toList).length : Int) := by omega
  obtain ⟨l1, l2⟩ := lens hs
  have H0 := hid h0
  clear h0
  go_enter Tryz.func6, Tryz.ntmps6
  go_wp2_with fail
  obtain ⟨w0, e0⟩ : ∃ w0, w0 = (w.alloc (.cells #[.int .i64 0, .int .i64 0, .int .i64 0, .int .i64 0, .int .i64 0] 25)) := ⟨_, rfl⟩
  have B1 : Hid (Below w.heap.size w w0) := by rw [e0]; exact (Below.refl _ _).alloc (by simp) _
  have R2 : Hid (Bk w0 w.heap.size [.int .i64 0, .int .i64 0, .int .i64 0, .int .i64 0, .int .i64 0]) := by rw [e0]; exact bk_new w 25 [.int .i64 0, .int .i64 0, .int .i64 0, .int .i64 0, .int .i64 0]
  rw [← e0]
  clear e0
  refine (words_spec s hs _).mono ?_
  rintro e w1 ⟨v, rfl, ho, hb1⟩
  have B3 : Hid (Below w.heap.size w w1) := bthen B1.out hb1
  have R3 : Hid (Bk w1 w.heap.size [.int .i64 0, .int .i64 0, .int .i64 0, .int .i64 0, .int .i64 0]) := R2.out.below hb1
  clear B1 R2
  clear hb1
  rcases ho.2 with ⟨_, h⟩ | ⟨g, cap, cur, rfl, _⟩
  · omega
  have D4 : Hid (Wd w1 g (words s.data.toList)) := wd_of ho (by omega)
  have HO := hid ho
  clear ho
  have c0 := D4.out.2 0 _ H0.out
  have yR0 : w1.cell? ⟨w.heap.size, 0, none⟩ = some (.int .i64 0) := (R3.out.2 0 (by simp)).1
  have zR0 : w1.frozen? ⟨w.heap.size, 0, none⟩ = false := (R3.out.2 0 (by simp)).2
  have yR1 : w1.cell? ⟨w.heap.size, 1, none⟩ = some (.int .i64 0) := (R3.out.2 1 (by simp)).1
  have zR1 : w1.frozen? ⟨w.heap.size, 1, none⟩ = false := (R3.out.2 1 (by simp)).2
  have yR2 : w1.cell? ⟨w.heap.size, 2, none⟩ = some (.int .i64 0) := (R3.out.2 2 (by simp)).1
  have zR2 : w1.frozen? ⟨w.heap.size, 2, none⟩ = false := (R3.out.2 2 (by simp)).2
  have yR3 : w1.cell? ⟨w.heap.size, 3, none⟩ = some (.int .i64 0) := (R3.out.2 3 (by simp)).1
  have zR3 : w1.frozen? ⟨w.heap.size, 3, none⟩ = false := (R3.out.2 3 (by simp)).2
  have yR4 : w1.cell? ⟨w.heap.size, 4, none⟩ = some (.int .i64 0) := (R3.out.2 4 (by simp)).1
  have zR4 : w1.frozen? ⟨w.heap.size, 4, none⟩ = false := (R3.out.2 4 (by simp)).2
  have hlR : w.heap.size < w1.heap.size := R3.out.1
  go_wp2_with fail
  refine (at1 s hs _ _ _ HO.out).mono ?_
  rintro e w' ⟨rfl, e'⟩
  subst e'
  go_wp2_with fail
  refine (at2 s hs _ _ _ HO.out).mono ?_
  rintro e w' ⟨rfl, e'⟩
  subst e'
  go_wp2_with fail
  refine (two1 (words s.data.toList) (fun l hl => by have := l2 l hl; omega) g cap (by omega) _ _ _ _ _ _ D4.out).mono ?_
  rintro e w2 ⟨hh, hb2⟩
  clear yR0 zR0 yR1 zR1 yR2 zR2 yR3 zR3 yR4 zR4 hlR
  have B5 : Hid (Below w.heap.size w w2) := bthen B3.out hb2
  have R5 : Hid (Bk w2 w.heap.size [.int .i64 0, .int .i64 0, .int .i64 0, .int .i64 0, .int .i64 0]) := R3.out.below hb2
  have D5 : Hid (Wd w2 g (words s.data.toList)) := D4.out.below hb2
  clear B3 R3 D4
  clear hb2 c0
  have yR0 : w2.cell? ⟨w.heap.size, 0, none⟩ = some (.int .i64 0) := (R5.out.2 0 (by simp)).1
  have zR0 : w2.frozen? ⟨w.heap.size, 0, none⟩ = false := (R5.out.2 0 (by simp)).2
  have yR1 : w2.cell? ⟨w.heap.size, 1, none⟩ = some (.int .i64 0) := (R5.out.2 1 (by simp)).1
  have zR1 : w2.frozen? ⟨w.heap.size, 1, none⟩ = false := (R5.out.2 1 (by simp)).2
  have yR2 : w2.cell? ⟨w.heap.size, 2, none⟩ = some (.int .i64 0) := (R5.out.2 2 (by simp)).1
  have zR2 : w2.frozen? ⟨w.heap.size, 2, none⟩ = false := (R5.out.2 2 (by simp)).2
  have yR3 : w2.cell? ⟨w.heap.size, 3, none⟩ = some (.int .i64 0) := (R5.out.2 3 (by simp)).1
  have zR3 : w2.frozen? ⟨w.heap.size, 3, none⟩ = false := (R5.out.2 3 (by simp)).2
  have yR4 : w2.cell? ⟨w.heap.size, 4, none⟩ = some (.int .i64 0) := (R5.out.2 4 (by simp)).1
  have zR4 : w2.frozen? ⟨w.heap.size, 4, none⟩ = false := (R5.out.2 4 (by simp)).2
  have hlR : w.heap.size < w2.heap.size := R5.out.1
  rcases hh with ⟨ht, rfl⟩ | ⟨ht, rfl⟩
  · go_wp2
    exact bodyPost_ret (v := .tuple #[.agg #[.int .i64 (9), .int .i64 (atF (words s.data.toList) 1), .int .i64 (0), .int .i64 (0), .int .i64 (0)], .bool true]) (by simp [results, Tryz.results6, go_sem, yR0, yR1, yR2, yR3, yR4]) rfl ⟨.inl ⟨ht, rfl⟩, by repeat (first | exact B5.out | refine Below.setCell ?_ (by first | simp | omega) _)⟩
  · go_wp2
    exact bodyPost_ret (v := .tuple #[.agg #[.int .i64 0, .int .i64 0, .int .i64 0, .int .i64 0, .int .i64 0], .bool false]) (by simp [results, Tryz.results6, go_sem, yR0, yR1, yR2, yR3, yR4]) rfl ⟨.inr ⟨ht, rfl⟩, by repeat (first | exact B5.out | refine Below.setCell ?_ (by first | simp | omega) _)⟩
/-- Whether a word is one of the nine. -/
def known (x : List UInt8) : Bool := x == [103, 114, 97, 110, 116] || x == [97, 115, 107] || x == [115, 97, 121] || x == [98, 114, 105, 110, 103] || x == [108, 111, 115, 101] || x == [116, 119, 105, 99, 101] || x == [116, 105, 99, 107] || x == [102, 97, 108, 108] || x == [114, 105, 115, 101]
theorem not_lit {x y : List UInt8} (h : ¬ x = y) : ((⟨x.toArray⟩ : ByteArray).toList == y) = false := by
  rw [ByteArray.toList_eq, beq_eq_false_iff_ne]
  exact h
theorem not_lit2 {x y : List UInt8} (h : ¬ x = y) : (x == y) = false := by
  rw [beq_eq_false_iff_ne]
  exact h
set_option maxHeartbeats 2000000 in
theorem sp_else (s : ByteArray) (hs : (s.size : Int) ≤ 100) (h2 : 2 ≤ (words s.data.toList).length) (x : List UInt8) (hx : ¬ known x = true) (h0 : (words s.data.toList)[0]? = some x) (w : World) :
    Calls Tryz.prog 6 #[.string s] w fun e w' => e = .returned (.tuple #[.agg #[.int .i64 0, .int .i64 0, .int .i64 0, .int .i64 0, .int .i64 0], .bool false]) ∧ Below w.heap.size w w' := by
  have hl : (2 : Int) ≤ ((words s.data.toList).length : Int) := by omega
  obtain ⟨l1, l2⟩ := lens hs
  have H0 := hid h0
  clear h0
  go_enter Tryz.func6, Tryz.ntmps6
  go_wp2_with fail
  obtain ⟨w0, e0⟩ : ∃ w0, w0 = (w.alloc (.cells #[.int .i64 0, .int .i64 0, .int .i64 0, .int .i64 0, .int .i64 0] 25)) := ⟨_, rfl⟩
  have B1 : Hid (Below w.heap.size w w0) := by rw [e0]; exact (Below.refl _ _).alloc (by simp) _
  have R2 : Hid (Bk w0 w.heap.size [.int .i64 0, .int .i64 0, .int .i64 0, .int .i64 0, .int .i64 0]) := by rw [e0]; exact bk_new w 25 [.int .i64 0, .int .i64 0, .int .i64 0, .int .i64 0, .int .i64 0]
  rw [← e0]
  clear e0
  refine (words_spec s hs _).mono ?_
  rintro e w1 ⟨v, rfl, ho, hb1⟩
  have B3 : Hid (Below w.heap.size w w1) := bthen B1.out hb1
  have R3 : Hid (Bk w1 w.heap.size [.int .i64 0, .int .i64 0, .int .i64 0, .int .i64 0, .int .i64 0]) := R2.out.below hb1
  clear B1 R2
  clear hb1
  rcases ho.2 with ⟨_, h⟩ | ⟨g, cap, cur, rfl, _⟩
  · omega
  have D4 : Hid (Wd w1 g (words s.data.toList)) := wd_of ho (by omega)
  have HO := hid ho
  clear ho
  have c0 := D4.out.2 0 _ H0.out
  have m0 : (x == [103, 114, 97, 110, 116]) = false := not_lit2 (by intro e; exact hx (by rw [e]; decide))
  have m1 : (x == [97, 115, 107]) = false := not_lit2 (by intro e; exact hx (by rw [e]; decide))
  have m2 : (x == [115, 97, 121]) = false := not_lit2 (by intro e; exact hx (by rw [e]; decide))
  have m3 : (x == [98, 114, 105, 110, 103]) = false := not_lit2 (by intro e; exact hx (by rw [e]; decide))
  have m4 : (x == [108, 111, 115, 101]) = false := not_lit2 (by intro e; exact hx (by rw [e]; decide))
  have m5 : (x == [116, 119, 105, 99, 101]) = false := not_lit2 (by intro e; exact hx (by rw [e]; decide))
  have m6 : (x == [116, 105, 99, 107]) = false := not_lit2 (by intro e; exact hx (by rw [e]; decide))
  have m7 : (x == [102, 97, 108, 108]) = false := not_lit2 (by intro e; exact hx (by rw [e]; decide))
  have m8 : (x == [114, 105, 115, 101]) = false := not_lit2 (by intro e; exact hx (by rw [e]; decide))
  have yR0 : w1.cell? ⟨w.heap.size, 0, none⟩ = some (.int .i64 0) := (R3.out.2 0 (by simp)).1
  have zR0 : w1.frozen? ⟨w.heap.size, 0, none⟩ = false := (R3.out.2 0 (by simp)).2
  have yR1 : w1.cell? ⟨w.heap.size, 1, none⟩ = some (.int .i64 0) := (R3.out.2 1 (by simp)).1
  have zR1 : w1.frozen? ⟨w.heap.size, 1, none⟩ = false := (R3.out.2 1 (by simp)).2
  have yR2 : w1.cell? ⟨w.heap.size, 2, none⟩ = some (.int .i64 0) := (R3.out.2 2 (by simp)).1
  have zR2 : w1.frozen? ⟨w.heap.size, 2, none⟩ = false := (R3.out.2 2 (by simp)).2
  have yR3 : w1.cell? ⟨w.heap.size, 3, none⟩ = some (.int .i64 0) := (R3.out.2 3 (by simp)).1
  have zR3 : w1.frozen? ⟨w.heap.size, 3, none⟩ = false := (R3.out.2 3 (by simp)).2
  have yR4 : w1.cell? ⟨w.heap.size, 4, none⟩ = some (.int .i64 0) := (R3.out.2 4 (by simp)).1
  have zR4 : w1.frozen? ⟨w.heap.size, 4, none⟩ = false := (R3.out.2 4 (by simp)).2
  have hlR : w.heap.size < w1.heap.size := R3.out.1
  go_wp2_with fail
  refine (at1 s hs _ _ _ HO.out).mono ?_
  rintro e w' ⟨rfl, e'⟩
  subst e'
  go_wp2_with fail
  refine (at2 s hs _ _ _ HO.out).mono ?_
  rintro e w' ⟨rfl, e'⟩
  subst e'
  go_wp2
  exact bodyPost_ret (v := .tuple #[.agg #[.int .i64 0, .int .i64 0, .int .i64 0, .int .i64 0, .int .i64 0], .bool false]) (by simp [results, Tryz.results6, go_sem, yR0, yR1, yR2, yR3, yR4]) rfl ⟨rfl, by repeat (first | exact B3.out | refine Below.setCell ?_ (by first | simp | omega) _)⟩
set_option maxHeartbeats 2000000 in
theorem sp_ask_few (s : ByteArray) (hs : (s.size : Int) ≤ 100) (h2 : 2 ≤ (words s.data.toList).length) (h3 : (words s.data.toList).length < 3) (h0 : (words s.data.toList)[0]? = some [97, 115, 107]) (w : World) :
    Calls Tryz.prog 6 #[.string s] w fun e w' => e = .returned (.tuple #[.agg #[.int .i64 0, .int .i64 0, .int .i64 0, .int .i64 0, .int .i64 0], .bool false]) ∧ Below w.heap.size w w' := by
  have hl : (2 : Int) ≤ ((words s.data.toList).length : Int) := by omega
  obtain ⟨l1, l2⟩ := lens hs
  have H0 := hid h0
  clear h0
  go_enter Tryz.func6, Tryz.ntmps6
  go_wp2_with fail
  obtain ⟨w0, e0⟩ : ∃ w0, w0 = (w.alloc (.cells #[.int .i64 0, .int .i64 0, .int .i64 0, .int .i64 0, .int .i64 0] 25)) := ⟨_, rfl⟩
  have B1 : Hid (Below w.heap.size w w0) := by rw [e0]; exact (Below.refl _ _).alloc (by simp) _
  have R2 : Hid (Bk w0 w.heap.size [.int .i64 0, .int .i64 0, .int .i64 0, .int .i64 0, .int .i64 0]) := by rw [e0]; exact bk_new w 25 [.int .i64 0, .int .i64 0, .int .i64 0, .int .i64 0, .int .i64 0]
  rw [← e0]
  clear e0
  refine (words_spec s hs _).mono ?_
  rintro e w1 ⟨v, rfl, ho, hb1⟩
  have B3 : Hid (Below w.heap.size w w1) := bthen B1.out hb1
  have R3 : Hid (Bk w1 w.heap.size [.int .i64 0, .int .i64 0, .int .i64 0, .int .i64 0, .int .i64 0]) := R2.out.below hb1
  clear B1 R2
  clear hb1
  rcases ho.2 with ⟨_, h⟩ | ⟨g, cap, cur, rfl, _⟩
  · omega
  have D4 : Hid (Wd w1 g (words s.data.toList)) := wd_of ho (by omega)
  have HO := hid ho
  clear ho
  have c0 := D4.out.2 0 _ H0.out
  have yR0 : w1.cell? ⟨w.heap.size, 0, none⟩ = some (.int .i64 0) := (R3.out.2 0 (by simp)).1
  have zR0 : w1.frozen? ⟨w.heap.size, 0, none⟩ = false := (R3.out.2 0 (by simp)).2
  have yR1 : w1.cell? ⟨w.heap.size, 1, none⟩ = some (.int .i64 0) := (R3.out.2 1 (by simp)).1
  have zR1 : w1.frozen? ⟨w.heap.size, 1, none⟩ = false := (R3.out.2 1 (by simp)).2
  have yR2 : w1.cell? ⟨w.heap.size, 2, none⟩ = some (.int .i64 0) := (R3.out.2 2 (by simp)).1
  have zR2 : w1.frozen? ⟨w.heap.size, 2, none⟩ = false := (R3.out.2 2 (by simp)).2
  have yR3 : w1.cell? ⟨w.heap.size, 3, none⟩ = some (.int .i64 0) := (R3.out.2 3 (by simp)).1
  have zR3 : w1.frozen? ⟨w.heap.size, 3, none⟩ = false := (R3.out.2 3 (by simp)).2
  have yR4 : w1.cell? ⟨w.heap.size, 4, none⟩ = some (.int .i64 0) := (R3.out.2 4 (by simp)).1
  have zR4 : w1.frozen? ⟨w.heap.size, 4, none⟩ = false := (R3.out.2 4 (by simp)).2
  have hlR : w.heap.size < w1.heap.size := R3.out.1
  go_wp2_with fail
  refine (at1 s hs _ _ _ HO.out).mono ?_
  rintro e w' ⟨rfl, e'⟩
  subst e'
  go_wp2_with fail
  refine (at2 s hs _ _ _ HO.out).mono ?_
  rintro e w' ⟨rfl, e'⟩
  subst e'
  go_wp2_with fail
  refine (asks_few s _ _ _ (by omega) _).mono ?_
  rintro e w2 ⟨rfl, hb2⟩
  clear yR0 zR0 yR1 zR1 yR2 zR2 yR3 zR3 yR4 zR4 hlR
  have B5 : Hid (Below w.heap.size w w2) := bthen B3.out hb2
  have R5 : Hid (Bk w2 w.heap.size [.int .i64 0, .int .i64 0, .int .i64 0, .int .i64 0, .int .i64 0]) := R3.out.below hb2
  have D5 : Hid (Wd w2 g (words s.data.toList)) := D4.out.below hb2
  clear B3 R3 D4
  clear hb2 c0
  have yR0 : w2.cell? ⟨w.heap.size, 0, none⟩ = some (.int .i64 0) := (R5.out.2 0 (by simp)).1
  have zR0 : w2.frozen? ⟨w.heap.size, 0, none⟩ = false := (R5.out.2 0 (by simp)).2
  have yR1 : w2.cell? ⟨w.heap.size, 1, none⟩ = some (.int .i64 0) := (R5.out.2 1 (by simp)).1
  have zR1 : w2.frozen? ⟨w.heap.size, 1, none⟩ = false := (R5.out.2 1 (by simp)).2
  have yR2 : w2.cell? ⟨w.heap.size, 2, none⟩ = some (.int .i64 0) := (R5.out.2 2 (by simp)).1
  have zR2 : w2.frozen? ⟨w.heap.size, 2, none⟩ = false := (R5.out.2 2 (by simp)).2
  have yR3 : w2.cell? ⟨w.heap.size, 3, none⟩ = some (.int .i64 0) := (R5.out.2 3 (by simp)).1
  have zR3 : w2.frozen? ⟨w.heap.size, 3, none⟩ = false := (R5.out.2 3 (by simp)).2
  have yR4 : w2.cell? ⟨w.heap.size, 4, none⟩ = some (.int .i64 0) := (R5.out.2 4 (by simp)).1
  have zR4 : w2.frozen? ⟨w.heap.size, 4, none⟩ = false := (R5.out.2 4 (by simp)).2
  have hlR : w.heap.size < w2.heap.size := R5.out.1
  go_wp2
  exact bodyPost_ret (v := .tuple #[.agg #[.int .i64 0, .int .i64 0, .int .i64 0, .int .i64 0, .int .i64 0], .bool false]) (by simp [results, Tryz.results6, go_sem, yR0, yR1, yR2, yR3, yR4]) rfl ⟨rfl, by repeat (first | exact B5.out | refine Below.setCell ?_ (by first | simp | omega) _)⟩
set_option maxHeartbeats 2000000 in
theorem sp_ask (s : ByteArray) (hs : (s.size : Int) ≤ 100) (h2 : 2 ≤ (words s.data.toList).length) (h3 : 3 ≤ (words s.data.toList).length) (y q : List UInt8) (hy : (words s.data.toList)[1]? = some y) (hq : restF (restF s.data.toList) = q) (p0 p1 p2 p3 p4 : Int) (b : Bool) (X : ByteArray) (hX : (⟨y.toArray⟩ ++ MID) ++ ⟨q.toArray⟩ = X)
    (hsp : ∀ w, Calls Tryz.prog 31 #[.string X] w fun e w' => e = .returned (.tuple #[.agg #[.int .i64 p0, .int .i64 p1, .int .i64 p2, .int .i64 p3, .int .i64 p4], .bool b]) ∧ Below w.heap.size w w') (h0 : (words s.data.toList)[0]? = some [97, 115, 107]) (w : World) :
    Calls Tryz.prog 6 #[.string s] w fun e w' => e = .returned (if b then .tuple #[.agg #[.int .i64 (2), .int .i64 (p0), .int .i64 (p2), .int .i64 (p3), .int .i64 (p4)], .bool true] else .tuple #[.agg #[.int .i64 0, .int .i64 0, .int .i64 0, .int .i64 0, .int .i64 0], .bool false]) ∧ Below w.heap.size w w' := by
  have HS := hid hsp
  have HX := hid hX
  have HQ := hid hq
  have HY := hid hy
  have ly : y.length ≤ 100 := (lens hs).2 y (List.mem_of_getElem? hy)
  have lq : q.length ≤ 100 := by
    have h1 := rest_len s.data.toList
    have h2 := rest_len (restF s.data.toList)
    rw [size_len] at h1
    rw [hq] at h2
    omega
  clear hsp hX hq hy
  have hl : (2 : Int) ≤ ((words s.data.toList).length : Int) := by omega
  obtain ⟨l1, l2⟩ := lens hs
  have H0 := hid h0
  clear h0
  go_enter Tryz.func6, Tryz.ntmps6
  go_wp2_with fail
  obtain ⟨w0, e0⟩ : ∃ w0, w0 = (w.alloc (.cells #[.int .i64 0, .int .i64 0, .int .i64 0, .int .i64 0, .int .i64 0] 25)) := ⟨_, rfl⟩
  have B1 : Hid (Below w.heap.size w w0) := by rw [e0]; exact (Below.refl _ _).alloc (by simp) _
  have R2 : Hid (Bk w0 w.heap.size [.int .i64 0, .int .i64 0, .int .i64 0, .int .i64 0, .int .i64 0]) := by rw [e0]; exact bk_new w 25 [.int .i64 0, .int .i64 0, .int .i64 0, .int .i64 0, .int .i64 0]
  rw [← e0]
  clear e0
  refine (words_spec s hs _).mono ?_
  rintro e w1 ⟨v, rfl, ho, hb1⟩
  have B3 : Hid (Below w.heap.size w w1) := bthen B1.out hb1
  have R3 : Hid (Bk w1 w.heap.size [.int .i64 0, .int .i64 0, .int .i64 0, .int .i64 0, .int .i64 0]) := R2.out.below hb1
  clear B1 R2
  clear hb1
  rcases ho.2 with ⟨_, h⟩ | ⟨g, cap, cur, rfl, _⟩
  · omega
  have D4 : Hid (Wd w1 g (words s.data.toList)) := wd_of ho (by omega)
  have HO := hid ho
  clear ho
  have c0 := D4.out.2 0 _ H0.out
  have yR0 : w1.cell? ⟨w.heap.size, 0, none⟩ = some (.int .i64 0) := (R3.out.2 0 (by simp)).1
  have zR0 : w1.frozen? ⟨w.heap.size, 0, none⟩ = false := (R3.out.2 0 (by simp)).2
  have yR1 : w1.cell? ⟨w.heap.size, 1, none⟩ = some (.int .i64 0) := (R3.out.2 1 (by simp)).1
  have zR1 : w1.frozen? ⟨w.heap.size, 1, none⟩ = false := (R3.out.2 1 (by simp)).2
  have yR2 : w1.cell? ⟨w.heap.size, 2, none⟩ = some (.int .i64 0) := (R3.out.2 2 (by simp)).1
  have zR2 : w1.frozen? ⟨w.heap.size, 2, none⟩ = false := (R3.out.2 2 (by simp)).2
  have yR3 : w1.cell? ⟨w.heap.size, 3, none⟩ = some (.int .i64 0) := (R3.out.2 3 (by simp)).1
  have zR3 : w1.frozen? ⟨w.heap.size, 3, none⟩ = false := (R3.out.2 3 (by simp)).2
  have yR4 : w1.cell? ⟨w.heap.size, 4, none⟩ = some (.int .i64 0) := (R3.out.2 4 (by simp)).1
  have zR4 : w1.frozen? ⟨w.heap.size, 4, none⟩ = false := (R3.out.2 4 (by simp)).2
  have hlR : w.heap.size < w1.heap.size := R3.out.1
  go_wp2_with fail
  refine (at1 s hs _ _ _ HO.out).mono ?_
  rintro e w' ⟨rfl, e'⟩
  subst e'
  go_wp2_with fail
  refine (at2 s hs _ _ _ HO.out).mono ?_
  rintro e w' ⟨rfl, e'⟩
  subst e'
  go_wp2_with fail
  refine (asks_spec s hs y q ly lq g _ cap (by omega) (by omega) p0 p1 p2 p3 p4 b X HX.out HQ.out HS.out _ (D4.out.2 1 _ HY.out)).mono ?_
  rintro e w2 ⟨rfl, hb2⟩
  clear yR0 zR0 yR1 zR1 yR2 zR2 yR3 zR3 yR4 zR4 hlR
  have B5 : Hid (Below w.heap.size w w2) := bthen B3.out hb2
  have R5 : Hid (Bk w2 w.heap.size [.int .i64 0, .int .i64 0, .int .i64 0, .int .i64 0, .int .i64 0]) := R3.out.below hb2
  have D5 : Hid (Wd w2 g (words s.data.toList)) := D4.out.below hb2
  clear B3 R3 D4
  clear hb2 c0
  have yR0 : w2.cell? ⟨w.heap.size, 0, none⟩ = some (.int .i64 0) := (R5.out.2 0 (by simp)).1
  have zR0 : w2.frozen? ⟨w.heap.size, 0, none⟩ = false := (R5.out.2 0 (by simp)).2
  have yR1 : w2.cell? ⟨w.heap.size, 1, none⟩ = some (.int .i64 0) := (R5.out.2 1 (by simp)).1
  have zR1 : w2.frozen? ⟨w.heap.size, 1, none⟩ = false := (R5.out.2 1 (by simp)).2
  have yR2 : w2.cell? ⟨w.heap.size, 2, none⟩ = some (.int .i64 0) := (R5.out.2 2 (by simp)).1
  have zR2 : w2.frozen? ⟨w.heap.size, 2, none⟩ = false := (R5.out.2 2 (by simp)).2
  have yR3 : w2.cell? ⟨w.heap.size, 3, none⟩ = some (.int .i64 0) := (R5.out.2 3 (by simp)).1
  have zR3 : w2.frozen? ⟨w.heap.size, 3, none⟩ = false := (R5.out.2 3 (by simp)).2
  have yR4 : w2.cell? ⟨w.heap.size, 4, none⟩ = some (.int .i64 0) := (R5.out.2 4 (by simp)).1
  have zR4 : w2.frozen? ⟨w.heap.size, 4, none⟩ = false := (R5.out.2 4 (by simp)).2
  have hlR : w.heap.size < w2.heap.size := R5.out.1
  cases b
  · go_wp2
    exact bodyPost_ret (v := .tuple #[.agg #[.int .i64 0, .int .i64 0, .int .i64 0, .int .i64 0, .int .i64 0], .bool false]) (by simp [results, Tryz.results6, go_sem, yR0, yR1, yR2, yR3, yR4]) rfl ⟨rfl, by repeat (first | exact B5.out | refine Below.setCell ?_ (by first | simp | omega) _)⟩
  · go_wp2
    exact bodyPost_ret (v := .tuple #[.agg #[.int .i64 (2), .int .i64 (p0), .int .i64 (p2), .int .i64 (p3), .int .i64 (p4)], .bool true]) (by simp [results, Tryz.results6, go_sem, yR0, yR1, yR2, yR3, yR4]) rfl ⟨rfl, by repeat (first | exact B5.out | refine Below.setCell ?_ (by first | simp | omega) _)⟩
end Go.Proofs.YtalmnogdplhflaaGreatDoor
