/- DskEvent of the program; conditions: those typed. -/
import Derived.Test.YtalmnogdplhflaaGreatDoorDD
import Derived.Test.YtalmnogdplhflaaGreatDoorDN
import Derived.Deep.DeepCutAuto
namespace Go.Proofs.YtalmnogdplhflaaGreatDoor
open Go.RowKit Go.Deep
set_option linter.unusedVariables false
set_option maxRecDepth 20000
set_option maxHeartbeats 2000000 in
theorem ask_impl (t : ByteArray) (ht : t.size ≤ 100) (p0 p1 p2 p3 p4 : Int) (b : Bool) (X : ByteArray) (hX : (⟨(Lib.cut t.data.toList [32]).1.toArray⟩ ++ ⟨#[32, 49, 32]⟩) ++ ⟨(Lib.cut t.data.toList [32]).2.1.toArray⟩ = X)
    (him : ∀ w, Env w → Calls Tryz.prog 25 #[.string X] w fun e w' => e = .returned (.tuple #[.agg #[.int .i64 p0, .int .i64 p1, .int .i64 p2, .int .i64 p3, .int .i64 p4], .bool b]) ∧ Below w.heap.size w w') (w : World) (hE : Env w) :
    Calls Tryz.prog 11 #[.string t] w fun e w' => e = .returned (if b then .tuple #[.agg #[.int .i64 (2), .int .i64 (p0), .int .i64 (p2), .int .i64 (p3), .int .i64 (p4)], .bool true] else .tuple #[.agg #[.int .i64 0, .int .i64 0, .int .i64 0, .int .i64 0, .int .i64 0], .bool false]) ∧ Below w.heap.size w w' := by
  have HI := hid him
  have HE := hid hE
  obtain ⟨⟨m, hm⟩, _⟩ := HE.out _ (Below.refl _ _)
  have HM := hid hm
  clear him hE hm
  generalize hc : Lib.cut t.data.toList [32] = C at hX
  obtain ⟨Ca, Cb, Cf⟩ := C
  have HC := hid hc
  have HX := hid hX
  obtain ⟨l1, l2⟩ := cut_len t.data.toList
  rw [size_len, hc] at l1 l2
  simp only at l1 l2
  have c1 : ∀ w : World, (Op.stringOp .add (⟨Ca.toArray⟩ : ByteArray) ⟨#[32, 49, 32]⟩).run Tryz.prog w = .ok (.string (⟨Ca.toArray⟩ ++ ⟨#[32, 49, 32]⟩)) w := cat ⟨Ca.toArray⟩ ⟨#[32, 49, 32]⟩ (by simp [ByteArray.size]; omega) (by decide +kernel)
  have c2 : ∀ w : World, (Op.stringOp .add (⟨Ca.toArray⟩ ++ ⟨#[32, 49, 32]⟩ : ByteArray) ⟨Cb.toArray⟩).run Tryz.prog w = .ok (.string X) w := by rw [← hX]; exact cat (⟨Ca.toArray⟩ ++ ⟨#[32, 49, 32]⟩) ⟨Cb.toArray⟩ (by rw [ByteArray.size_append]; simp [ByteArray.size]; omega) (by simp [ByteArray.size]; omega)
  clear hc hX
  go_enter Tryz.func11, Tryz.ntmps11
  go_wp2_with fail
  obtain ⟨w0, e0⟩ : ∃ w0, w0 = (w.alloc (.cells #[.int .i64 0, .int .i64 0, .int .i64 0, .int .i64 0, .int .i64 0] 25)) := ⟨_, rfl⟩
  have B1 : Hid (Below w.heap.size w w0) := by rw [e0]; exact (Below.refl _ _).alloc (by simp) _
  have R2 : Hid (Bk w0 w.heap.size [.int .i64 0, .int .i64 0, .int .i64 0, .int .i64 0, .int .i64 0]) := by rw [e0]; exact bk_new w 25 [.int .i64 0, .int .i64 0, .int .i64 0, .int .i64 0, .int .i64 0]
  rw [← e0]
  clear e0
  have HM0 : Hid (w0.cell? ⟨0, 0, none⟩ = some (.int .i64 m)) := (B1.out.cell (p := ⟨0, 0, none⟩) (World.block_lt_of_cell? w _ HM.out)).trans HM.out
  refine (Tryz.strings_Cut t ⟨#[32]⟩ m _ (by omega) HM0.out).mono ?_
  rintro e w1 ⟨rfl, nd, e1⟩
  have hb1 : Below w0.heap.size w0 w1 := by rw [e1]; exact bdrewN (Below.refl _ _) nd
  clear e1
  rw [show (⟨#[32]⟩ : ByteArray).data.toList = [32] from rfl, HC.out]
  have B3 : Hid (Below w.heap.size w w1) := bthen B1.out hb1
  have R3 : Hid (Bk w1 w.heap.size [.int .i64 0, .int .i64 0, .int .i64 0, .int .i64 0, .int .i64 0]) := R2.out.below hb1
  clear B1 R2
  clear hb1
  go_wp2_with fail
  refine (HI.out _ (HE.out.on B3.out)).mono ?_
  rintro e w2 ⟨rfl, hb2⟩
  have B4 : Hid (Below w.heap.size w w2) := bthen B3.out hb2
  have R4 : Hid (Bk w2 w.heap.size [.int .i64 0, .int .i64 0, .int .i64 0, .int .i64 0, .int .i64 0]) := R3.out.below hb2
  clear B3 R3
  clear hb2 c1 c2
  go_upto_region 3 with fail
  obtain ⟨w3, e3⟩ : ∃ wq, wq = w2.alloc (.cells #[.int .i64 p0, .int .i64 p1, .int .i64 p2, .int .i64 p3, .int .i64 p4] 46) := ⟨_, rfl⟩
  have hb3 : Below w2.heap.size w2 w3 := by rw [e3]; exact (Below.refl _ _).alloc (Nat.le_refl _) _
  have hG : Bk w3 w2.heap.size [.int .i64 p0, .int .i64 p1, .int .i64 p2, .int .i64 p3, .int .i64 p4] := by rw [e3]; exact bk_new w2 46 [.int .i64 p0, .int .i64 p1, .int .i64 p2, .int .i64 p3, .int .i64 p4]
  rw [← e3]
  clear e3
  have hRw : w.heap.size < w2.heap.size := R4.out.1
  have B5 : Hid (Below w.heap.size w w3) := bthen B4.out hb3
  have R5 : Hid (Bk w3 w.heap.size [.int .i64 0, .int .i64 0, .int .i64 0, .int .i64 0, .int .i64 0]) := R4.out.below hb3
  clear B4 R4
  obtain ⟨o, eo⟩ : ∃ g, g = w2.heap.size := ⟨_, rfl⟩
  rw [← eo] at hG ⊢
  have eo1 : ¬ w.heap.size = o := by omega
  have eo2 : ¬ o = w.heap.size := by omega
  clear eo hb3
  have O6 : Hid (Bk w3 o [.int .i64 p0, .int .i64 p1, .int .i64 p2, .int .i64 p3, .int .i64 p4]) := hG
  clear hG
  have yR0 : w3.cell? ⟨w.heap.size, 0, none⟩ = some (.int .i64 0) := (R5.out.2 0 (by simp)).1
  have zR0 : w3.frozen? ⟨w.heap.size, 0, none⟩ = false := (R5.out.2 0 (by simp)).2
  have yR1 : w3.cell? ⟨w.heap.size, 1, none⟩ = some (.int .i64 0) := (R5.out.2 1 (by simp)).1
  have zR1 : w3.frozen? ⟨w.heap.size, 1, none⟩ = false := (R5.out.2 1 (by simp)).2
  have yR2 : w3.cell? ⟨w.heap.size, 2, none⟩ = some (.int .i64 0) := (R5.out.2 2 (by simp)).1
  have zR2 : w3.frozen? ⟨w.heap.size, 2, none⟩ = false := (R5.out.2 2 (by simp)).2
  have yR3 : w3.cell? ⟨w.heap.size, 3, none⟩ = some (.int .i64 0) := (R5.out.2 3 (by simp)).1
  have zR3 : w3.frozen? ⟨w.heap.size, 3, none⟩ = false := (R5.out.2 3 (by simp)).2
  have yR4 : w3.cell? ⟨w.heap.size, 4, none⟩ = some (.int .i64 0) := (R5.out.2 4 (by simp)).1
  have zR4 : w3.frozen? ⟨w.heap.size, 4, none⟩ = false := (R5.out.2 4 (by simp)).2
  have hlR : w.heap.size < w3.heap.size := R5.out.1
  have yO0 : w3.cell? ⟨o, 0, none⟩ = some (.int .i64 p0) := (O6.out.2 0 (by simp)).1
  have yO1 : w3.cell? ⟨o, 1, none⟩ = some (.int .i64 p1) := (O6.out.2 1 (by simp)).1
  have yO2 : w3.cell? ⟨o, 2, none⟩ = some (.int .i64 p2) := (O6.out.2 2 (by simp)).1
  have yO3 : w3.cell? ⟨o, 3, none⟩ = some (.int .i64 p3) := (O6.out.2 3 (by simp)).1
  have yO4 : w3.cell? ⟨o, 4, none⟩ = some (.int .i64 p4) := (O6.out.2 4 (by simp)).1
  have hlO : o < w3.heap.size := O6.out.1
  cases b
  · go_wp2
    exact bodyPost_ret (v := .tuple #[.agg #[.int .i64 0, .int .i64 0, .int .i64 0, .int .i64 0, .int .i64 0], .bool false]) (by simp [results, Tryz.results11, go_sem, yR0, yR1, yR2, yR3, yR4]) rfl ⟨rfl, by repeat (first | exact B5.out | refine Below.setCell ?_ (by first | simp | omega) _)⟩
  · go_wp2
    exact bodyPost_ret (v := .tuple #[.agg #[.int .i64 (2), .int .i64 (p0), .int .i64 (p2), .int .i64 (p3), .int .i64 (p4)], .bool true]) (by simp [results, Tryz.results11, go_sem, yR0, yR1, yR2, yR3, yR4]) rfl ⟨rfl, by repeat (first | exact B5.out | refine Below.setCell ?_ (by first | simp | omega) _)⟩
theorem im_long (s : ByteArray) (h : (100 : Int) < (s.size : Int)) (w : World) :
    Calls Tryz.prog 5 #[.string s] w fun e w' => e = .returned (.tuple #[.agg #[.int .i64 0, .int .i64 0, .int .i64 0, .int .i64 0, .int .i64 0], .bool false]) ∧ Below w.heap.size w w' := by
  go_enter Tryz.func5, Tryz.ntmps5
  go_wp2
  exact bodyPost_ret (v := .tuple #[.agg #[.int .i64 0, .int .i64 0, .int .i64 0, .int .i64 0, .int .i64 0], .bool false]) (by simp [results, Tryz.results5, go_sem]) rfl ⟨rfl, by repeat (first | exact Below.refl _ _ | refine Below.alloc ?_ (by simp) _ | refine Below.setCell ?_ (by simp) _)⟩
set_option maxHeartbeats 2000000 in
theorem im_ask (s : ByteArray) (hs : s.size ≤ 100) (Ca Cb : List UInt8) (Cf : Bool) (hc : Lib.cut s.data.toList [32] = (Ca, Cb, Cf)) (k : Int) (hk : kindOf ⟨Ca.toArray⟩ = k) (hk2 : k = 2) (p0 p1 p2 p3 p4 : Int) (b : Bool) (X : ByteArray) (hX : (⟨(Lib.cut Cb [32]).1.toArray⟩ ++ ⟨#[32, 49, 32]⟩) ++ ⟨(Lib.cut Cb [32]).2.1.toArray⟩ = X)
    (him : ∀ w, Env w → Calls Tryz.prog 25 #[.string X] w fun e w' => e = .returned (.tuple #[.agg #[.int .i64 p0, .int .i64 p1, .int .i64 p2, .int .i64 p3, .int .i64 p4], .bool b]) ∧ Below w.heap.size w w') (w : World) (hE : Env w) :
    Calls Tryz.prog 5 #[.string s] w fun e w' => e = .returned (if b then .tuple #[.agg #[.int .i64 (2), .int .i64 (p0), .int .i64 (p2), .int .i64 (p3), .int .i64 (p4)], .bool true] else .tuple #[.agg #[.int .i64 0, .int .i64 0, .int .i64 0, .int .i64 0, .int .i64 0], .bool false]) ∧ Below w.heap.size w w' := by
  have HE := hid hE
  obtain ⟨⟨m, hm⟩, _⟩ := HE.out _ (Below.refl _ _)
  have HM := hid hm
  clear hE hm
  have HC := hid hc
  obtain ⟨l1, l2⟩ := cut_len s.data.toList
  rw [size_len, hc] at l1 l2
  simp only at l1 l2
  clear hc
  have HK := hid hk
  clear hk
  go_enter Tryz.func5, Tryz.ntmps5
  go_wp2_with fail
  obtain ⟨w0, e0⟩ : ∃ w0, w0 = (w.alloc (.cells #[.int .i64 0, .int .i64 0, .int .i64 0, .int .i64 0, .int .i64 0] 25)) := ⟨_, rfl⟩
  have B1 : Hid (Below w.heap.size w w0) := by rw [e0]; exact (Below.refl _ _).alloc (by simp) _
  have R2 : Hid (Bk w0 w.heap.size [.int .i64 0, .int .i64 0, .int .i64 0, .int .i64 0, .int .i64 0]) := by rw [e0]; exact bk_new w 25 [.int .i64 0, .int .i64 0, .int .i64 0, .int .i64 0, .int .i64 0]
  rw [← e0]
  clear e0
  have HM0 : Hid (w0.cell? ⟨0, 0, none⟩ = some (.int .i64 m)) := (B1.out.cell (p := ⟨0, 0, none⟩) (World.block_lt_of_cell? w _ HM.out)).trans HM.out
  refine (Tryz.strings_Cut s ⟨#[32]⟩ m _ (by omega) HM0.out).mono ?_
  rintro e w1 ⟨rfl, nd, e1⟩
  have hb1 : Below w0.heap.size w0 w1 := by rw [e1]; exact bdrewN (Below.refl _ _) nd
  clear e1
  rw [show (⟨#[32]⟩ : ByteArray).data.toList = [32] from rfl, HC.out]
  have B3 : Hid (Below w.heap.size w w1) := bthen B1.out hb1
  have R3 : Hid (Bk w1 w.heap.size [.int .i64 0, .int .i64 0, .int .i64 0, .int .i64 0, .int .i64 0]) := R2.out.below hb1
  clear B1 R2
  clear hb1
  go_wp2_with fail
  refine (kinds _).mono ?_
  rintro e w2 ⟨rfl, e2⟩
  have hlk : (Instr.lookup 34 (.map (some w1.heap.size)) (.string ⟨Ca.toArray⟩) false).run Tryz.prog w2 = .ok (.int .i64 k) w2 := by rw [← HK.out]; exact look_kind w2 _ (by rw [e2]; exact (MapKept.heap_alloc w1 _).1) _
  have hb2 : Below w1.heap.size w1 w2 := by rw [e2]; exact (Below.refl _ _).alloc (Nat.le_refl _) _
  clear e2
  have B4 : Hid (Below w.heap.size w w2) := bthen B3.out hb2
  have R4 : Hid (Bk w2 w.heap.size [.int .i64 0, .int .i64 0, .int .i64 0, .int .i64 0, .int .i64 0]) := R3.out.below hb2
  clear B3 R3
  clear hb2
  subst hk2
  go_wp2_with fail
  refine (ask_impl ⟨Cb.toArray⟩ (by simp [ByteArray.size]; omega) p0 p1 p2 p3 p4 b X hX him _ (HE.out.on B4.out)).mono ?_
  rintro e w3 ⟨rfl, hb3⟩
  have B5 : Hid (Below w.heap.size w w3) := bthen B4.out hb3
  have R5 : Hid (Bk w3 w.heap.size [.int .i64 0, .int .i64 0, .int .i64 0, .int .i64 0, .int .i64 0]) := R4.out.below hb3
  clear B4 R4
  clear hb3
  have yR0 : w3.cell? ⟨w.heap.size, 0, none⟩ = some (.int .i64 0) := (R5.out.2 0 (by simp)).1
  have zR0 : w3.frozen? ⟨w.heap.size, 0, none⟩ = false := (R5.out.2 0 (by simp)).2
  have yR1 : w3.cell? ⟨w.heap.size, 1, none⟩ = some (.int .i64 0) := (R5.out.2 1 (by simp)).1
  have zR1 : w3.frozen? ⟨w.heap.size, 1, none⟩ = false := (R5.out.2 1 (by simp)).2
  have yR2 : w3.cell? ⟨w.heap.size, 2, none⟩ = some (.int .i64 0) := (R5.out.2 2 (by simp)).1
  have zR2 : w3.frozen? ⟨w.heap.size, 2, none⟩ = false := (R5.out.2 2 (by simp)).2
  have yR3 : w3.cell? ⟨w.heap.size, 3, none⟩ = some (.int .i64 0) := (R5.out.2 3 (by simp)).1
  have zR3 : w3.frozen? ⟨w.heap.size, 3, none⟩ = false := (R5.out.2 3 (by simp)).2
  have yR4 : w3.cell? ⟨w.heap.size, 4, none⟩ = some (.int .i64 0) := (R5.out.2 4 (by simp)).1
  have zR4 : w3.frozen? ⟨w.heap.size, 4, none⟩ = false := (R5.out.2 4 (by simp)).2
  have hlR : w.heap.size < w3.heap.size := R5.out.1
  cases b
  · go_wp2
    exact bodyPost_ret (v := .tuple #[.agg #[.int .i64 0, .int .i64 0, .int .i64 0, .int .i64 0, .int .i64 0], .bool false]) (by simp [results, Tryz.results5, go_sem, yR0, yR1, yR2, yR3, yR4]) rfl ⟨rfl, by repeat (first | exact B5.out | refine Below.setCell ?_ (by first | simp | omega) _)⟩
  · go_wp2
    exact bodyPost_ret (v := .tuple #[.agg #[.int .i64 (2), .int .i64 (p0), .int .i64 (p2), .int .i64 (p3), .int .i64 (p4)], .bool true]) (by simp [results, Tryz.results5, go_sem, yR0, yR1, yR2, yR3, yR4]) rfl ⟨rfl, by repeat (first | exact B5.out | refine Below.setCell ?_ (by first | simp | omega) _)⟩
set_option maxHeartbeats 2000000 in
theorem im_num (s : ByteArray) (hs : s.size ≤ 100) (Ca Cb : List UInt8) (Cf : Bool) (hc : Lib.cut s.data.toList [32] = (Ca, Cb, Cf)) (k : Int) (hk : kindOf ⟨Ca.toArray⟩ = k) (hk2 : ¬ k = 2) (v0 v1 v2 v3 v4 : Int) (b : Bool)
    (hV : ∀ (base : Nat) (v : Value) (w : World), w.ownsRow base 3 1 v (numsOf Cb).length (ints (numsOf Cb)) → Calls Tryz.prog 12 #[.int .i64 k, v] w fun e w' => e = .returned (.tuple #[.agg #[.int .i64 v0, .int .i64 v1, .int .i64 v2, .int .i64 v3, .int .i64 v4], .bool b]) ∧ Below w.heap.size w w') (w : World) (hE : Env w) :
    Calls Tryz.prog 5 #[.string s] w fun e w' => e = .returned (.tuple #[.agg #[.int .i64 v0, .int .i64 v1, .int .i64 v2, .int .i64 v3, .int .i64 v4], .bool b]) ∧ Below w.heap.size w w' := by
  have HE := hid hE
  obtain ⟨⟨m, hm⟩, _⟩ := HE.out _ (Below.refl _ _)
  have HM := hid hm
  clear hE hm
  have HC := hid hc
  obtain ⟨l1, l2⟩ := cut_len s.data.toList
  rw [size_len, hc] at l1 l2
  simp only at l1 l2
  clear hc
  have HK := hid hk
  clear hk
  go_enter Tryz.func5, Tryz.ntmps5
  go_wp2_with fail
  obtain ⟨w0, e0⟩ : ∃ w0, w0 = (w.alloc (.cells #[.int .i64 0, .int .i64 0, .int .i64 0, .int .i64 0, .int .i64 0] 25)) := ⟨_, rfl⟩
  have B1 : Hid (Below w.heap.size w w0) := by rw [e0]; exact (Below.refl _ _).alloc (by simp) _
  have R2 : Hid (Bk w0 w.heap.size [.int .i64 0, .int .i64 0, .int .i64 0, .int .i64 0, .int .i64 0]) := by rw [e0]; exact bk_new w 25 [.int .i64 0, .int .i64 0, .int .i64 0, .int .i64 0, .int .i64 0]
  rw [← e0]
  clear e0
  have HM0 : Hid (w0.cell? ⟨0, 0, none⟩ = some (.int .i64 m)) := (B1.out.cell (p := ⟨0, 0, none⟩) (World.block_lt_of_cell? w _ HM.out)).trans HM.out
  refine (Tryz.strings_Cut s ⟨#[32]⟩ m _ (by omega) HM0.out).mono ?_
  rintro e w1 ⟨rfl, nd, e1⟩
  have hb1 : Below w0.heap.size w0 w1 := by rw [e1]; exact bdrewN (Below.refl _ _) nd
  clear e1
  rw [show (⟨#[32]⟩ : ByteArray).data.toList = [32] from rfl, HC.out]
  have B3 : Hid (Below w.heap.size w w1) := bthen B1.out hb1
  have R3 : Hid (Bk w1 w.heap.size [.int .i64 0, .int .i64 0, .int .i64 0, .int .i64 0, .int .i64 0]) := R2.out.below hb1
  clear B1 R2
  clear hb1
  go_wp2_with fail
  refine (kinds _).mono ?_
  rintro e w2 ⟨rfl, e2⟩
  have hlk : (Instr.lookup 34 (.map (some w1.heap.size)) (.string ⟨Ca.toArray⟩) false).run Tryz.prog w2 = .ok (.int .i64 k) w2 := by rw [← HK.out]; exact look_kind w2 _ (by rw [e2]; exact (MapKept.heap_alloc w1 _).1) _
  have hb2 : Below w1.heap.size w1 w2 := by rw [e2]; exact (Below.refl _ _).alloc (Nat.le_refl _) _
  clear e2
  have B4 : Hid (Below w.heap.size w w2) := bthen B3.out hb2
  have R4 : Hid (Bk w2 w.heap.size [.int .i64 0, .int .i64 0, .int .i64 0, .int .i64 0, .int .i64 0]) := R3.out.below hb2
  clear B3 R3
  clear hb2
  have hk3 : (k == 2) = false := by rw [beq_eq_false_iff_ne]; exact hk2
  clear hk2
  go_wp2_with fail
  refine (line_numbers ⟨Cb.toArray⟩ (by simp [ByteArray.size]; omega) _ (HE.out.on B4.out)).mono ?_
  rintro e w3 ⟨v, rfl, ho, hb3⟩
  have B5 : Hid (Below w.heap.size w w3) := bthen B4.out hb3
  have R5 : Hid (Bk w3 w.heap.size [.int .i64 0, .int .i64 0, .int .i64 0, .int .i64 0, .int .i64 0]) := R4.out.below hb3
  clear B4 R4
  clear hb3
  go_wp2_with fail
  refine (hV _ v _ ho).mono ?_
  rintro e w4 ⟨rfl, hb4⟩
  have B6 : Hid (Below w.heap.size w w4) := bthen B5.out hb4
  have R6 : Hid (Bk w4 w.heap.size [.int .i64 0, .int .i64 0, .int .i64 0, .int .i64 0, .int .i64 0]) := R5.out.below hb4
  clear B5 R5
  clear hb4 ho hlk
  have yR0 : w4.cell? ⟨w.heap.size, 0, none⟩ = some (.int .i64 0) := (R6.out.2 0 (by simp)).1
  have zR0 : w4.frozen? ⟨w.heap.size, 0, none⟩ = false := (R6.out.2 0 (by simp)).2
  have yR1 : w4.cell? ⟨w.heap.size, 1, none⟩ = some (.int .i64 0) := (R6.out.2 1 (by simp)).1
  have zR1 : w4.frozen? ⟨w.heap.size, 1, none⟩ = false := (R6.out.2 1 (by simp)).2
  have yR2 : w4.cell? ⟨w.heap.size, 2, none⟩ = some (.int .i64 0) := (R6.out.2 2 (by simp)).1
  have zR2 : w4.frozen? ⟨w.heap.size, 2, none⟩ = false := (R6.out.2 2 (by simp)).2
  have yR3 : w4.cell? ⟨w.heap.size, 3, none⟩ = some (.int .i64 0) := (R6.out.2 3 (by simp)).1
  have zR3 : w4.frozen? ⟨w.heap.size, 3, none⟩ = false := (R6.out.2 3 (by simp)).2
  have yR4 : w4.cell? ⟨w.heap.size, 4, none⟩ = some (.int .i64 0) := (R6.out.2 4 (by simp)).1
  have zR4 : w4.frozen? ⟨w.heap.size, 4, none⟩ = false := (R6.out.2 4 (by simp)).2
  have hlR : w.heap.size < w4.heap.size := R6.out.1
  go_wp2
  exact bodyPost_ret (v := .tuple #[.agg #[.int .i64 v0, .int .i64 v1, .int .i64 v2, .int .i64 v3, .int .i64 v4], .bool b]) (by simp [results, Tryz.results5, go_sem, yR0, yR1, yR2, yR3, yR4]) rfl ⟨rfl, by repeat (first | exact B6.out | refine Below.setCell ?_ (by first | simp | omega) _)⟩
end Go.Proofs.YtalmnogdplhflaaGreatDoor
