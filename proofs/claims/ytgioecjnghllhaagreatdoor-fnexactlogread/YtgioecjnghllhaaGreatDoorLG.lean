/- looseRecord of the program; conditions: those typed. -/
import Derived.Test.YtgioecjnghllhaaGreatDoorLG0
import Derived.Deep.DeepCutAuto
import Derived.Deep.MidRow
namespace Go.Proofs.YtgioecjnghllhaaGreatDoor
open Go.RowKit Go.Deep
set_option linter.unusedVariables false
set_option maxRecDepth 100000
attribute [local go_sem ↓] load29_eq store29_eq
set_option maxHeartbeats 2000000 in
theorem rec_do (s : ByteArray) (h : s.size ≤ 100) (Ca Cb Da Db : List UInt8) (Cf Df : Bool) (hc : Lib.cut s.data.toList [32] = (Ca, Cb, Cf)) (hd : Lib.cut Cb [32] = (Da, Db, Df)) (hk : Ca = [100, 111]) (p0 p1 p2 p3 p4 : Int) (b : Bool)
    (hO : ∀ w, Env w → Calls Tryz.prog 28 #[.string ⟨Cb.toArray⟩] w fun e w' => e = .returned (.tuple #[.agg #[.int .i64 p0, .int .i64 p1, .int .i64 p2, .int .i64 p3, .int .i64 p4], .bool b]) ∧ Below w.heap.size w w') (w : World) (hE : Env w) :
    Calls Tryz.prog 14 #[.string s] w fun e w' => e = .returned (.agg #[.int .i64 1, .int .i64 p0, .int .i64 p1, .int .i64 p2, .int .i64 p3, .int .i64 p4, .int .i64 0, .int .i64 0, .int .i64 0, .int .i64 0, .int .i64 0, .int .i64 0, .int .i64 0, .int .i64 0, .int .i64 0, .int .i64 0]) ∧ Below w.heap.size w w' := by
  have HE := hid hE
  obtain ⟨⟨m, hm⟩, _⟩ := HE.out _ (Below.refl _ _)
  have HM := hid hm
  clear hE hm
  have hlen : s.data.toList.length ≤ 100 := by rw [size_len]; omega
  obtain ⟨l1, l2⟩ := cut_len s.data.toList
  obtain ⟨l3, l4⟩ := cut_len Cb
  rw [hc] at l1 l2
  rw [hd] at l3 l4
  simp only at l1 l2 l3 l4
  have HC := hid hc
  have HD := hid hd
  clear hc hd
  go_enter Tryz.func14, Tryz.ntmps14
  go_wp2_with fail
  obtain ⟨w0, e0⟩ : ∃ w0, w0 = w.alloc (.cells #[.int .i64 0, .int .i64 0, .int .i64 0, .int .i64 0, .int .i64 0, .int .i64 0, .int .i64 0, .int .i64 0, .int .i64 0, .int .i64 0, .int .i64 0, .int .i64 0, .int .i64 0, .int .i64 0, .int .i64 0, .int .i64 0] 29) := ⟨_, rfl⟩
  have B1 : Hid (Below w.heap.size w w0) := by rw [e0]; exact (Below.refl _ _).alloc (by simp) _
  have R2 : Hid (Bk w0 w.heap.size [.int .i64 0, .int .i64 0, .int .i64 0, .int .i64 0, .int .i64 0, .int .i64 0, .int .i64 0, .int .i64 0, .int .i64 0, .int .i64 0, .int .i64 0, .int .i64 0, .int .i64 0, .int .i64 0, .int .i64 0, .int .i64 0]) := by rw [e0]; exact bk_new w 29 [.int .i64 0, .int .i64 0, .int .i64 0, .int .i64 0, .int .i64 0, .int .i64 0, .int .i64 0, .int .i64 0, .int .i64 0, .int .i64 0, .int .i64 0, .int .i64 0, .int .i64 0, .int .i64 0, .int .i64 0, .int .i64 0]
  rw [← e0]
  clear e0
  have HM0 : Hid (w0.cell? ⟨0, 0, none⟩ = some (.int .i64 m)) := (B1.out.cell (p := ⟨0, 0, none⟩) (World.block_lt_of_cell? w _ HM.out)).trans HM.out
  refine (Tryz.strings_Cut s ⟨#[32]⟩ m _ (by omega) HM0.out).mono ?_
  rintro e w1 ⟨rfl, nd, e1⟩
  have hb1 : Below w0.heap.size w0 w1 := by rw [e1]; exact bdrewN (Below.refl _ _) nd
  clear e1
  rw [show (⟨#[32]⟩ : ByteArray).data.toList = [32] from rfl, HC.out]
  have B3 : Hid (Below w.heap.size w w1) := bthen B1.out hb1
  have R3 : Hid (Bk w1 w.heap.size [.int .i64 0, .int .i64 0, .int .i64 0, .int .i64 0, .int .i64 0, .int .i64 0, .int .i64 0, .int .i64 0, .int .i64 0, .int .i64 0, .int .i64 0, .int .i64 0, .int .i64 0, .int .i64 0, .int .i64 0, .int .i64 0]) := R2.out.below hb1
  clear B1 R2
  clear hb1
  have HM1 : Hid (w1.cell? ⟨0, 0, none⟩ = some (.int .i64 m)) := (B3.out.cell (p := ⟨0, 0, none⟩) (World.block_lt_of_cell? w _ HM.out)).trans HM.out
  go_wp2_with fail
  refine (Tryz.strings_Cut ⟨Cb.toArray⟩ ⟨#[32]⟩ m _ (by simp [ByteArray.size]; omega) HM1.out).mono ?_
  rintro e w2 ⟨rfl, nd, e2⟩
  have hb2 : Below w1.heap.size w1 w2 := by rw [e2]; exact bdrewN (Below.refl _ _) nd
  clear e2
  rw [show (⟨#[32]⟩ : ByteArray).data.toList = [32] from rfl, show (⟨Cb.toArray⟩ : ByteArray).data.toList = Cb from rfl, HD.out]
  have B4 : Hid (Below w.heap.size w w2) := bthen B3.out hb2
  have R4 : Hid (Bk w2 w.heap.size [.int .i64 0, .int .i64 0, .int .i64 0, .int .i64 0, .int .i64 0, .int .i64 0, .int .i64 0, .int .i64 0, .int .i64 0, .int .i64 0, .int .i64 0, .int .i64 0, .int .i64 0, .int .i64 0, .int .i64 0, .int .i64 0]) := R3.out.below hb2
  clear B3 R3
  clear hb2 HM0 HM1
  subst hk
  go_wp2_with fail
  refine (hO _ (HE.out.on B4.out)).mono ?_
  rintro e w3 ⟨rfl, hb⟩
  have B5 : Hid (Below w.heap.size w w3) := bthen B4.out hb
  have R5 : Hid (Bk w3 w.heap.size [.int .i64 0, .int .i64 0, .int .i64 0, .int .i64 0, .int .i64 0, .int .i64 0, .int .i64 0, .int .i64 0, .int .i64 0, .int .i64 0, .int .i64 0, .int .i64 0, .int .i64 0, .int .i64 0, .int .i64 0, .int .i64 0]) := R4.out.below hb
  clear B4 R4
  clear hb
  go_upto_region 6 with fail
  obtain ⟨w4, e3⟩ : ∃ wq, wq = w3.alloc (.cells #[.int .i64 p0, .int .i64 p1, .int .i64 p2, .int .i64 p3, .int .i64 p4] 23) := ⟨_, rfl⟩
  have hb3 : Below w3.heap.size w3 w4 := by rw [e3]; exact (Below.refl _ _).alloc (Nat.le_refl _) _
  have hG : Bk w4 w3.heap.size [.int .i64 p0, .int .i64 p1, .int .i64 p2, .int .i64 p3, .int .i64 p4] := by rw [e3]; exact bk_new w3 23 [.int .i64 p0, .int .i64 p1, .int .i64 p2, .int .i64 p3, .int .i64 p4]
  rw [← e3]
  clear e3
  have hRw : w.heap.size < w3.heap.size := R5.out.1
  have B6 : Hid (Below w.heap.size w w4) := bthen B5.out hb3
  have R6 : Hid (Bk w4 w.heap.size [.int .i64 0, .int .i64 0, .int .i64 0, .int .i64 0, .int .i64 0, .int .i64 0, .int .i64 0, .int .i64 0, .int .i64 0, .int .i64 0, .int .i64 0, .int .i64 0, .int .i64 0, .int .i64 0, .int .i64 0, .int .i64 0]) := R5.out.below hb3
  clear B5 R5
  obtain ⟨o, eo⟩ : ∃ g, g = w3.heap.size := ⟨_, rfl⟩
  rw [← eo] at hG ⊢
  have eo1 : ¬ w.heap.size = o := by omega
  have eo2 : ¬ o = w.heap.size := by omega
  clear eo hb3
  have O7 : Hid (Bk w4 o [.int .i64 p0, .int .i64 p1, .int .i64 p2, .int .i64 p3, .int .i64 p4]) := hG
  clear hG
  have yO0 : w4.cell? ⟨o, 0, none⟩ = some (.int .i64 p0) := (O7.out.2 0 (by simp)).1
  have yO1 : w4.cell? ⟨o, 1, none⟩ = some (.int .i64 p1) := (O7.out.2 1 (by simp)).1
  have yO2 : w4.cell? ⟨o, 2, none⟩ = some (.int .i64 p2) := (O7.out.2 2 (by simp)).1
  have yO3 : w4.cell? ⟨o, 3, none⟩ = some (.int .i64 p3) := (O7.out.2 3 (by simp)).1
  have yO4 : w4.cell? ⟨o, 4, none⟩ = some (.int .i64 p4) := (O7.out.2 4 (by simp)).1
  have hlO : o < w4.heap.size := O7.out.1
  go_wp2
  rw [store29_bk (R6.out) rfl _ rfl (by kernel_rfl)]
  obtain ⟨w9, e9⟩ : ∃ y, y = putL w.heap.size ((#[.int .i64 1, .int .i64 p0, .int .i64 p1, .int .i64 p2, .int .i64 p3, .int .i64 p4, .int .i64 0, .int .i64 0, .int .i64 0, .int .i64 0, .int .i64 0, .int .i64 0, .int .i64 0, .int .i64 0, .int .i64 0, .int .i64 0] : Array Value).toList) 0 w4 := ⟨_, rfl⟩
  have R9 : Hid (Bk w9 w.heap.size [.int .i64 1, .int .i64 p0, .int .i64 p1, .int .i64 p2, .int .i64 p3, .int .i64 p4, .int .i64 0, .int .i64 0, .int .i64 0, .int .i64 0, .int .i64 0, .int .i64 0, .int .i64 0, .int .i64 0, .int .i64 0, .int .i64 0]) := by unfold Hid; rw [e9]; exact bk_put (R6.out) rfl
  have B9 : Hid (Below w.heap.size w w9) := by unfold Hid; rw [e9]; exact below_put (by omega) _ _ (B6.out)
  rw [← e9]
  clear e9
  go_wp2
  have hr := fun tmps hp => results_mid (P := Tryz.prog) (fn := Tryz.f14) Tryz.results14 tmps w9 w.heap.size [.int .i64 1, .int .i64 p0, .int .i64 p1, .int .i64 p2, .int .i64 p3, .int .i64 p4, .int .i64 0, .int .i64 0, .int .i64 0, .int .i64 0, .int .i64 0, .int .i64 0, .int .i64 0, .int .i64 0, .int .i64 0, .int .i64 0] _ hp (Bk.range R9.out) Tryz.underlying29 rfl (by kernel_rfl)
  exact bodyPost_ret (v := .agg #[.int .i64 1, .int .i64 p0, .int .i64 p1, .int .i64 p2, .int .i64 p3, .int .i64 p4, .int .i64 0, .int .i64 0, .int .i64 0, .int .i64 0, .int .i64 0, .int .i64 0, .int .i64 0, .int .i64 0, .int .i64 0, .int .i64 0]) (hr _ rfl) rfl ⟨rfl, B9.out⟩
set_option maxHeartbeats 2000000 in
theorem rec_ack (s : ByteArray) (h : s.size ≤ 100) (Ca Cb Da Db : List UInt8) (Cf Df : Bool) (hc : Lib.cut s.data.toList [32] = (Ca, Cb, Cf)) (hd : Lib.cut Cb [32] = (Da, Db, Df)) (hk : Ca = [97, 99, 107]) (w : World) (hE : Env w) :
    Calls Tryz.prog 14 #[.string s] w fun e w' => e = .returned (.agg #[.int .i64 3, .int .i64 0, .int .i64 0, .int .i64 0, .int .i64 0, .int .i64 0, .int .i64 (sideF ⟨Da.toArray⟩), .int .i64 0, .int .i64 0, .int .i64 0, .int .i64 0, .int .i64 0, .int .i64 0, .int .i64 0, .int .i64 0, .int .i64 (atoiV Db)]) ∧ Below w.heap.size w w' := by
  have HE := hid hE
  obtain ⟨⟨m, hm⟩, _⟩ := HE.out _ (Below.refl _ _)
  have HM := hid hm
  clear hE hm
  have hlen : s.data.toList.length ≤ 100 := by rw [size_len]; omega
  obtain ⟨l1, l2⟩ := cut_len s.data.toList
  obtain ⟨l3, l4⟩ := cut_len Cb
  rw [hc] at l1 l2
  rw [hd] at l3 l4
  simp only at l1 l2 l3 l4
  have HC := hid hc
  have HD := hid hd
  clear hc hd
  go_enter Tryz.func14, Tryz.ntmps14
  go_wp2_with fail
  obtain ⟨w0, e0⟩ : ∃ w0, w0 = w.alloc (.cells #[.int .i64 0, .int .i64 0, .int .i64 0, .int .i64 0, .int .i64 0, .int .i64 0, .int .i64 0, .int .i64 0, .int .i64 0, .int .i64 0, .int .i64 0, .int .i64 0, .int .i64 0, .int .i64 0, .int .i64 0, .int .i64 0] 29) := ⟨_, rfl⟩
  have B1 : Hid (Below w.heap.size w w0) := by rw [e0]; exact (Below.refl _ _).alloc (by simp) _
  have R2 : Hid (Bk w0 w.heap.size [.int .i64 0, .int .i64 0, .int .i64 0, .int .i64 0, .int .i64 0, .int .i64 0, .int .i64 0, .int .i64 0, .int .i64 0, .int .i64 0, .int .i64 0, .int .i64 0, .int .i64 0, .int .i64 0, .int .i64 0, .int .i64 0]) := by rw [e0]; exact bk_new w 29 [.int .i64 0, .int .i64 0, .int .i64 0, .int .i64 0, .int .i64 0, .int .i64 0, .int .i64 0, .int .i64 0, .int .i64 0, .int .i64 0, .int .i64 0, .int .i64 0, .int .i64 0, .int .i64 0, .int .i64 0, .int .i64 0]
  rw [← e0]
  clear e0
  have HM0 : Hid (w0.cell? ⟨0, 0, none⟩ = some (.int .i64 m)) := (B1.out.cell (p := ⟨0, 0, none⟩) (World.block_lt_of_cell? w _ HM.out)).trans HM.out
  refine (Tryz.strings_Cut s ⟨#[32]⟩ m _ (by omega) HM0.out).mono ?_
  rintro e w1 ⟨rfl, nd, e1⟩
  have hb1 : Below w0.heap.size w0 w1 := by rw [e1]; exact bdrewN (Below.refl _ _) nd
  clear e1
  rw [show (⟨#[32]⟩ : ByteArray).data.toList = [32] from rfl, HC.out]
  have B3 : Hid (Below w.heap.size w w1) := bthen B1.out hb1
  have R3 : Hid (Bk w1 w.heap.size [.int .i64 0, .int .i64 0, .int .i64 0, .int .i64 0, .int .i64 0, .int .i64 0, .int .i64 0, .int .i64 0, .int .i64 0, .int .i64 0, .int .i64 0, .int .i64 0, .int .i64 0, .int .i64 0, .int .i64 0, .int .i64 0]) := R2.out.below hb1
  clear B1 R2
  clear hb1
  have HM1 : Hid (w1.cell? ⟨0, 0, none⟩ = some (.int .i64 m)) := (B3.out.cell (p := ⟨0, 0, none⟩) (World.block_lt_of_cell? w _ HM.out)).trans HM.out
  go_wp2_with fail
  refine (Tryz.strings_Cut ⟨Cb.toArray⟩ ⟨#[32]⟩ m _ (by simp [ByteArray.size]; omega) HM1.out).mono ?_
  rintro e w2 ⟨rfl, nd, e2⟩
  have hb2 : Below w1.heap.size w1 w2 := by rw [e2]; exact bdrewN (Below.refl _ _) nd
  clear e2
  rw [show (⟨#[32]⟩ : ByteArray).data.toList = [32] from rfl, show (⟨Cb.toArray⟩ : ByteArray).data.toList = Cb from rfl, HD.out]
  have B4 : Hid (Below w.heap.size w w2) := bthen B3.out hb2
  have R4 : Hid (Bk w2 w.heap.size [.int .i64 0, .int .i64 0, .int .i64 0, .int .i64 0, .int .i64 0, .int .i64 0, .int .i64 0, .int .i64 0, .int .i64 0, .int .i64 0, .int .i64 0, .int .i64 0, .int .i64 0, .int .i64 0, .int .i64 0, .int .i64 0]) := R3.out.below hb2
  clear B3 R3
  clear hb2 HM0 HM1
  subst hk
  go_wp2_with fail
  refine (looseSide ⟨Da.toArray⟩ _).mono ?_
  rintro e w3 ⟨rfl, e3⟩
  subst e3
  go_wp2_with fail
  skip
  refine (loose ⟨Db.toArray⟩ (by simp [ByteArray.size]; omega) _ (HE.out.on B4.out)).mono ?_
  rintro e w4 ⟨rfl, hb⟩
  have B5 : Hid (Below w.heap.size w w4) := bthen B4.out hb
  have R5 : Hid (Bk w4 w.heap.size [.int .i64 0, .int .i64 0, .int .i64 0, .int .i64 0, .int .i64 0, .int .i64 0, .int .i64 0, .int .i64 0, .int .i64 0, .int .i64 0, .int .i64 0, .int .i64 0, .int .i64 0, .int .i64 0, .int .i64 0, .int .i64 0]) := R4.out.below hb
  clear B4 R4
  clear hb
  go_wp2
  rw [store29_bk (R5.out) rfl _ rfl (by kernel_rfl)]
  obtain ⟨w9, e9⟩ : ∃ y, y = putL w.heap.size ((#[.int .i64 3, .int .i64 0, .int .i64 0, .int .i64 0, .int .i64 0, .int .i64 0, .int .i64 (sideF ⟨Da.toArray⟩), .int .i64 0, .int .i64 0, .int .i64 0, .int .i64 0, .int .i64 0, .int .i64 0, .int .i64 0, .int .i64 0, .int .i64 (atoiV Db)] : Array Value).toList) 0 w4 := ⟨_, rfl⟩
  have R9 : Hid (Bk w9 w.heap.size [.int .i64 3, .int .i64 0, .int .i64 0, .int .i64 0, .int .i64 0, .int .i64 0, .int .i64 (sideF ⟨Da.toArray⟩), .int .i64 0, .int .i64 0, .int .i64 0, .int .i64 0, .int .i64 0, .int .i64 0, .int .i64 0, .int .i64 0, .int .i64 (atoiV Db)]) := by unfold Hid; rw [e9]; exact bk_put (R5.out) rfl
  have B9 : Hid (Below w.heap.size w w9) := by unfold Hid; rw [e9]; exact below_put (by omega) _ _ (B5.out)
  rw [← e9]
  clear e9
  go_wp2
  have hr := fun tmps hp => results_mid (P := Tryz.prog) (fn := Tryz.f14) Tryz.results14 tmps w9 w.heap.size [.int .i64 3, .int .i64 0, .int .i64 0, .int .i64 0, .int .i64 0, .int .i64 0, .int .i64 (sideF ⟨Da.toArray⟩), .int .i64 0, .int .i64 0, .int .i64 0, .int .i64 0, .int .i64 0, .int .i64 0, .int .i64 0, .int .i64 0, .int .i64 (atoiV Db)] _ hp (Bk.range R9.out) Tryz.underlying29 rfl (by kernel_rfl)
  exact bodyPost_ret (v := .agg #[.int .i64 3, .int .i64 0, .int .i64 0, .int .i64 0, .int .i64 0, .int .i64 0, .int .i64 (sideF ⟨Da.toArray⟩), .int .i64 0, .int .i64 0, .int .i64 0, .int .i64 0, .int .i64 0, .int .i64 0, .int .i64 0, .int .i64 0, .int .i64 (atoiV Db)]) (hr _ rfl) rfl ⟨rfl, B9.out⟩
set_option maxHeartbeats 2000000 in
theorem rec_none (s : ByteArray) (h : s.size ≤ 100) (Ca Cb Da Db : List UInt8) (Cf Df : Bool) (hc : Lib.cut s.data.toList [32] = (Ca, Cb, Cf)) (hd : Lib.cut Cb [32] = (Da, Db, Df)) (h1 : ¬ Ca = [100, 111]) (h2 : ¬ Ca = [105, 110]) (h3 : ¬ Ca = [97, 99, 107]) (w : World) (hE : Env w) :
    Calls Tryz.prog 14 #[.string s] w fun e w' => e = .returned (.agg #[.int .i64 0, .int .i64 0, .int .i64 0, .int .i64 0, .int .i64 0, .int .i64 0, .int .i64 0, .int .i64 0, .int .i64 0, .int .i64 0, .int .i64 0, .int .i64 0, .int .i64 0, .int .i64 0, .int .i64 0, .int .i64 0]) ∧ Below w.heap.size w w' := by
  have HE := hid hE
  obtain ⟨⟨m, hm⟩, _⟩ := HE.out _ (Below.refl _ _)
  have HM := hid hm
  clear hE hm
  have hlen : s.data.toList.length ≤ 100 := by rw [size_len]; omega
  obtain ⟨l1, l2⟩ := cut_len s.data.toList
  obtain ⟨l3, l4⟩ := cut_len Cb
  rw [hc] at l1 l2
  rw [hd] at l3 l4
  simp only at l1 l2 l3 l4
  have HC := hid hc
  have HD := hid hd
  clear hc hd
  go_enter Tryz.func14, Tryz.ntmps14
  go_wp2_with fail
  obtain ⟨w0, e0⟩ : ∃ w0, w0 = w.alloc (.cells #[.int .i64 0, .int .i64 0, .int .i64 0, .int .i64 0, .int .i64 0, .int .i64 0, .int .i64 0, .int .i64 0, .int .i64 0, .int .i64 0, .int .i64 0, .int .i64 0, .int .i64 0, .int .i64 0, .int .i64 0, .int .i64 0] 29) := ⟨_, rfl⟩
  have B1 : Hid (Below w.heap.size w w0) := by rw [e0]; exact (Below.refl _ _).alloc (by simp) _
  have R2 : Hid (Bk w0 w.heap.size [.int .i64 0, .int .i64 0, .int .i64 0, .int .i64 0, .int .i64 0, .int .i64 0, .int .i64 0, .int .i64 0, .int .i64 0, .int .i64 0, .int .i64 0, .int .i64 0, .int .i64 0, .int .i64 0, .int .i64 0, .int .i64 0]) := by rw [e0]; exact bk_new w 29 [.int .i64 0, .int .i64 0, .int .i64 0, .int .i64 0, .int .i64 0, .int .i64 0, .int .i64 0, .int .i64 0, .int .i64 0, .int .i64 0, .int .i64 0, .int .i64 0, .int .i64 0, .int .i64 0, .int .i64 0, .int .i64 0]
  rw [← e0]
  clear e0
  have HM0 : Hid (w0.cell? ⟨0, 0, none⟩ = some (.int .i64 m)) := (B1.out.cell (p := ⟨0, 0, none⟩) (World.block_lt_of_cell? w _ HM.out)).trans HM.out
  refine (Tryz.strings_Cut s ⟨#[32]⟩ m _ (by omega) HM0.out).mono ?_
  rintro e w1 ⟨rfl, nd, e1⟩
  have hb1 : Below w0.heap.size w0 w1 := by rw [e1]; exact bdrewN (Below.refl _ _) nd
  clear e1
  rw [show (⟨#[32]⟩ : ByteArray).data.toList = [32] from rfl, HC.out]
  have B3 : Hid (Below w.heap.size w w1) := bthen B1.out hb1
  have R3 : Hid (Bk w1 w.heap.size [.int .i64 0, .int .i64 0, .int .i64 0, .int .i64 0, .int .i64 0, .int .i64 0, .int .i64 0, .int .i64 0, .int .i64 0, .int .i64 0, .int .i64 0, .int .i64 0, .int .i64 0, .int .i64 0, .int .i64 0, .int .i64 0]) := R2.out.below hb1
  clear B1 R2
  clear hb1
  have HM1 : Hid (w1.cell? ⟨0, 0, none⟩ = some (.int .i64 m)) := (B3.out.cell (p := ⟨0, 0, none⟩) (World.block_lt_of_cell? w _ HM.out)).trans HM.out
  go_wp2_with fail
  refine (Tryz.strings_Cut ⟨Cb.toArray⟩ ⟨#[32]⟩ m _ (by simp [ByteArray.size]; omega) HM1.out).mono ?_
  rintro e w2 ⟨rfl, nd, e2⟩
  have hb2 : Below w1.heap.size w1 w2 := by rw [e2]; exact bdrewN (Below.refl _ _) nd
  clear e2
  rw [show (⟨#[32]⟩ : ByteArray).data.toList = [32] from rfl, show (⟨Cb.toArray⟩ : ByteArray).data.toList = Cb from rfl, HD.out]
  have B4 : Hid (Below w.heap.size w w2) := bthen B3.out hb2
  have R4 : Hid (Bk w2 w.heap.size [.int .i64 0, .int .i64 0, .int .i64 0, .int .i64 0, .int .i64 0, .int .i64 0, .int .i64 0, .int .i64 0, .int .i64 0, .int .i64 0, .int .i64 0, .int .i64 0, .int .i64 0, .int .i64 0, .int .i64 0, .int .i64 0]) := R3.out.below hb2
  clear B3 R3
  clear hb2 HM0 HM1
  have m0 := hid h1
  have n0 : (Ca == [100, 111]) = false := by rw [beq_eq_false_iff_ne]; exact h1
  have n1 : (Ca == [105, 110]) = false := by rw [beq_eq_false_iff_ne]; exact h2
  have n2 : (Ca == [97, 99, 107]) = false := by rw [beq_eq_false_iff_ne]; exact h3
  go_wp2
  rw [store29_bk (R4.out) rfl _ rfl (by kernel_rfl)]
  obtain ⟨w9, e9⟩ : ∃ y, y = putL w.heap.size ((#[.int .i64 0, .int .i64 0, .int .i64 0, .int .i64 0, .int .i64 0, .int .i64 0, .int .i64 0, .int .i64 0, .int .i64 0, .int .i64 0, .int .i64 0, .int .i64 0, .int .i64 0, .int .i64 0, .int .i64 0, .int .i64 0] : Array Value).toList) 0 w2 := ⟨_, rfl⟩
  have R9 : Hid (Bk w9 w.heap.size [.int .i64 0, .int .i64 0, .int .i64 0, .int .i64 0, .int .i64 0, .int .i64 0, .int .i64 0, .int .i64 0, .int .i64 0, .int .i64 0, .int .i64 0, .int .i64 0, .int .i64 0, .int .i64 0, .int .i64 0, .int .i64 0]) := by unfold Hid; rw [e9]; exact bk_put (R4.out) rfl
  have B9 : Hid (Below w.heap.size w w9) := by unfold Hid; rw [e9]; exact below_put (by omega) _ _ (B4.out)
  rw [← e9]
  clear e9
  go_wp2
  have hr := fun tmps hp => results_mid (P := Tryz.prog) (fn := Tryz.f14) Tryz.results14 tmps w9 w.heap.size [.int .i64 0, .int .i64 0, .int .i64 0, .int .i64 0, .int .i64 0, .int .i64 0, .int .i64 0, .int .i64 0, .int .i64 0, .int .i64 0, .int .i64 0, .int .i64 0, .int .i64 0, .int .i64 0, .int .i64 0, .int .i64 0] _ hp (Bk.range R9.out) Tryz.underlying29 rfl (by kernel_rfl)
  exact bodyPost_ret (v := .agg #[.int .i64 0, .int .i64 0, .int .i64 0, .int .i64 0, .int .i64 0, .int .i64 0, .int .i64 0, .int .i64 0, .int .i64 0, .int .i64 0, .int .i64 0, .int .i64 0, .int .i64 0, .int .i64 0, .int .i64 0, .int .i64 0]) (hr _ rfl) rfl ⟨rfl, B9.out⟩
end Go.Proofs.YtgioecjnghllhaaGreatDoor
