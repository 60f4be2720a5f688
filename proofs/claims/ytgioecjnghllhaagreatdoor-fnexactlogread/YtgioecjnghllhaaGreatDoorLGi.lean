/- looseRecord of the program: a parcel that came in; conditions: those typed. -/
import Derived.Test.YtgioecjnghllhaaGreatDoorLG0
import Derived.Deep.DeepCutAuto
import Derived.Deep.MidRow
namespace Go.Proofs.YtgioecjnghllhaaGreatDoor
open Go.RowKit Go.Deep
set_option linter.unusedVariables false
set_option maxRecDepth 100000
attribute [local go_sem ↓] load29_eq store29_eq
set_option maxHeartbeats 2000000 in
theorem rec_in (s : ByteArray) (h : s.size ≤ 100) (Ca Cb Da Db : List UInt8) (Cf Df : Bool) (hc : Lib.cut s.data.toList [32] = (Ca, Cb, Cf)) (hd : Lib.cut Cb [32] = (Da, Db, Df)) (hk : Ca = [105, 110]) (P : Pcl) (b : Bool)
    (hO : ∀ w, Env w → Calls Tryz.prog 29 #[.string ⟨Db.toArray⟩] w fun e w' => e = .returned (.tuple #[P.val, .bool b]) ∧ Below w.heap.size w w') (w : World) (hE : Env w) :
    Calls Tryz.prog 14 #[.string s] w fun e w' => e = .returned (.agg #[.int .i64 2, .int .i64 0, .int .i64 0, .int .i64 0, .int .i64 0, .int .i64 0, .int .i64 (sideF ⟨Da.toArray⟩), .int .i64 P.pn, .int .i64 P.pk, .int .i64 P.i, .int .i64 P.a, .int .i64 P.n, .int .i64 P.s, .int .i64 P.l, .int .i64 P.pc, .int .i64 0]) ∧ Below w.heap.size w w' := by
  have HE := hid hE
  obtain ⟨⟨m, hm⟩, _⟩ := HE.out _ (Below.refl _ _)
  have HM := hid hm
  clear hE hm
  have hlen : s.data.toList.length ≤ 100 := by rw [size_len]; omega
  obtain ⟨l1, l2⟩ := cut_len s.data.toList
  obtain ⟨l3, l4⟩ := cut_len Cb
  rw [hc] at l1 l2
  rw [hd] at l3 l4
  simp only at l1 l2 l3 l4
  have HC := hid hc
  have HD := hid hd
  clear hc hd
  go_enter Tryz.func14, Tryz.ntmps14
  go_wp2_with fail
  obtain ⟨w0, e0⟩ : ∃ w0, w0 = w.alloc (.cells #[.int .i64 0, .int .i64 0, .int .i64 0, .int .i64 0, .int .i64 0, .int .i64 0, .int .i64 0, .int .i64 0, .int .i64 0, .int .i64 0, .int .i64 0, .int .i64 0, .int .i64 0, .int .i64 0, .int .i64 0, .int .i64 0] 29) := ⟨_, rfl⟩
  have B1 : Hid (Below w.heap.size w w0) := by rw [e0]; exact (Below.refl _ _).alloc (by simp) _
  have R2 : Hid (Bk w0 w.heap.size [.int .i64 0, .int .i64 0, .int .i64 0, .int .i64 0, .int .i64 0, .int .i64 0, .int .i64 0, .int .i64 0, .int .i64 0, .int .i64 0, .int .i64 0, .int .i64 0, .int .i64 0, .int .i64 0, .int .i64 0, .int .i64 0]) := by rw [e0]; exact bk_new w 29 [.int .i64 0, .int .i64 0, .int .i64 0, .int .i64 0, .int .i64 0, .int .i64 0, .int .i64 0, .int .i64 0, .int .i64 0, .int .i64 0, .int .i64 0, .int .i64 0, .int .i64 0, .int .i64 0, .int .i64 0, .int .i64 0]
  rw [← e0]
  clear e0
  have HM0 : Hid (w0.cell? ⟨0, 0, none⟩ = some (.int .i64 m)) := (B1.out.cell (p := ⟨0, 0, none⟩) (World.block_lt_of_cell? w _ HM.out)).trans HM.out
  refine (Tryz.strings_Cut s ⟨#[32]⟩ m _ (by omega) HM0.out).mono ?_
  rintro e w1 ⟨rfl, nd, e1⟩
  have hb1 : Below w0.heap.size w0 w1 := by rw [e1]; exact bdrewN (Below.refl _ _) nd
  clear e1
  rw [show (⟨#[32]⟩ : ByteArray).data.toList = [32] from rfl, HC.out]
  have B3 : Hid (Below w.heap.size w w1) := bthen B1.out hb1
  have R3 : Hid (Bk w1 w.heap.size [.int .i64 0, .int .i64 0, .int .i64 0, .int .i64 0, .int .i64 0, .int .i64 0, .int .i64 0, .int .i64 0, .int .i64 0, .int .i64 0, .int .i64 0, .int .i64 0, .int .i64 0, .int .i64 0, .int .i64 0, .int .i64 0]) := R2.out.below hb1
  clear B1 R2
  clear hb1
  have HM1 : Hid (w1.cell? ⟨0, 0, none⟩ = some (.int .i64 m)) := (B3.out.cell (p := ⟨0, 0, none⟩) (World.block_lt_of_cell? w _ HM.out)).trans HM.out
  go_wp2_with fail
  refine (Tryz.strings_Cut ⟨Cb.toArray⟩ ⟨#[32]⟩ m _ (by simp [ByteArray.size]; omega) HM1.out).mono ?_
  rintro e w2 ⟨rfl, nd, e2⟩
  have hb2 : Below w1.heap.size w1 w2 := by rw [e2]; exact bdrewN (Below.refl _ _) nd
  clear e2
  rw [show (⟨#[32]⟩ : ByteArray).data.toList = [32] from rfl, show (⟨Cb.toArray⟩ : ByteArray).data.toList = Cb from rfl, HD.out]
  have B4 : Hid (Below w.heap.size w w2) := bthen B3.out hb2
  have R4 : Hid (Bk w2 w.heap.size [.int .i64 0, .int .i64 0, .int .i64 0, .int .i64 0, .int .i64 0, .int .i64 0, .int .i64 0, .int .i64 0, .int .i64 0, .int .i64 0, .int .i64 0, .int .i64 0, .int .i64 0, .int .i64 0, .int .i64 0, .int .i64 0]) := R3.out.below hb2
  clear B3 R3
  clear hb2 HM0 HM1
  subst hk
  go_wp2_with fail
  refine (hO _ (HE.out.on B4.out)).mono ?_
  rintro e w3 ⟨rfl, hb⟩
  have B5 : Hid (Below w.heap.size w w3) := bthen B4.out hb
  have R5 : Hid (Bk w3 w.heap.size [.int .i64 0, .int .i64 0, .int .i64 0, .int .i64 0, .int .i64 0, .int .i64 0, .int .i64 0, .int .i64 0, .int .i64 0, .int .i64 0, .int .i64 0, .int .i64 0, .int .i64 0, .int .i64 0, .int .i64 0, .int .i64 0]) := R4.out.below hb
  clear B4 R4
  clear hb
  unfold Pcl.val
  go_upto_region 9 with fail
  obtain ⟨w4, e3⟩ : ∃ wq, wq = w3.alloc (.cells #[.int .i64 P.pn, .int .i64 P.pk, .int .i64 P.i, .int .i64 P.a, .int .i64 P.n, .int .i64 P.s, .int .i64 P.l, .int .i64 P.pc] 27) := ⟨_, rfl⟩
  have hb3 : Below w3.heap.size w3 w4 := by rw [e3]; exact (Below.refl _ _).alloc (Nat.le_refl _) _
  have hG : Bk w4 w3.heap.size [.int .i64 P.pn, .int .i64 P.pk, .int .i64 P.i, .int .i64 P.a, .int .i64 P.n, .int .i64 P.s, .int .i64 P.l, .int .i64 P.pc] := by rw [e3]; exact bk_new w3 27 [.int .i64 P.pn, .int .i64 P.pk, .int .i64 P.i, .int .i64 P.a, .int .i64 P.n, .int .i64 P.s, .int .i64 P.l, .int .i64 P.pc]
  rw [← e3]
  clear e3
  have hRw : w.heap.size < w3.heap.size := R5.out.1
  have B6 : Hid (Below w.heap.size w w4) := bthen B5.out hb3
  have R6 : Hid (Bk w4 w.heap.size [.int .i64 0, .int .i64 0, .int .i64 0, .int .i64 0, .int .i64 0, .int .i64 0, .int .i64 0, .int .i64 0, .int .i64 0, .int .i64 0, .int .i64 0, .int .i64 0, .int .i64 0, .int .i64 0, .int .i64 0, .int .i64 0]) := R5.out.below hb3
  clear B5 R5
  obtain ⟨o, eo⟩ : ∃ g, g = w3.heap.size := ⟨_, rfl⟩
  rw [← eo] at hG ⊢
  have eo1 : ¬ w.heap.size = o := by omega
  have eo2 : ¬ o = w.heap.size := by omega
  clear eo hb3
  have O7 : Hid (Bk w4 o [.int .i64 P.pn, .int .i64 P.pk, .int .i64 P.i, .int .i64 P.a, .int .i64 P.n, .int .i64 P.s, .int .i64 P.l, .int .i64 P.pc]) := hG
  clear hG
  have yO0 : w4.cell? ⟨o, 0, none⟩ = some (.int .i64 P.pn) := (O7.out.2 0 (by simp)).1
  have yO1 : w4.cell? ⟨o, 1, none⟩ = some (.int .i64 P.pk) := (O7.out.2 1 (by simp)).1
  have yO2 : w4.cell? ⟨o, 2, none⟩ = some (.int .i64 P.i) := (O7.out.2 2 (by simp)).1
  have yO3 : w4.cell? ⟨o, 3, none⟩ = some (.int .i64 P.a) := (O7.out.2 3 (by simp)).1
  have yO4 : w4.cell? ⟨o, 4, none⟩ = some (.int .i64 P.n) := (O7.out.2 4 (by simp)).1
  have yO5 : w4.cell? ⟨o, 5, none⟩ = some (.int .i64 P.s) := (O7.out.2 5 (by simp)).1
  have yO6 : w4.cell? ⟨o, 6, none⟩ = some (.int .i64 P.l) := (O7.out.2 6 (by simp)).1
  have yO7 : w4.cell? ⟨o, 7, none⟩ = some (.int .i64 P.pc) := (O7.out.2 7 (by simp)).1
  have hlO : o < w4.heap.size := O7.out.1
  have hRw4 : w.heap.size < w4.heap.size := R6.out.1
  have hR := R6.out
  have hBB := B6.out
  have hOO : o < w4.heap.size := hlO
  skip
  have hRo : Bk w4 o [.int .i64 P.pn, .int .i64 P.pk, .int .i64 P.i, .int .i64 P.a, .int .i64 P.n, .int .i64 P.s, .int .i64 P.l, .int .i64 P.pc] := O7.out
  refine wp_region_held_drew (S := fun w' => Below (w.heap.size) w4 w') (by kernel_rfl) ((Below.refl _ _).drew) ?_
  intro hHeld
  obtain ⟨X0, hX0⟩ : ∃ X, X = w4.drew := ⟨_, rfl⟩
  have hz0 : w4.heap.size ≤ X0.heap.size := by rw [hX0]; exact Nat.le_refl _
  rw [← hX0] at hHeld ⊢
  replace hR := hR.below (show Below w4.heap.size w4 X0 by rw [hX0]; exact (Below.refl _ _).drew)
  replace hRo := hRo.below (show Below w4.heap.size w4 X0 by rw [hX0]; exact (Below.refl _ _).drew)
  clear hX0
  refine wpAnyH_take (i := 0) (v := .string ⟨Da.toArray⟩) rfl (by kernel_rfl) (by kernel_rfl) (by kernel_rfl) (fun _ _ _ h => h) (Or.inl ⟨by rfl, ?_⟩) (by assumption) ?_
  · intro wx hSw; obtain ⟨hcS, hfS⟩ := bcellN hSw; go_simp
  try simp only [Act.put, List.setIfInBounds_toArray, List.set_cons_zero, List.set_cons_succ, List.getElem_toArray, List.getElem_cons_zero]
  refine wpAnyH_ready (rs := [1, 2]) (by kernel_rfl) (by simp) ?_
  refine (AllReadyH.cons rfl (fun K hK => ?_) (AllReadyH.cons rfl (fun K hK => ?_) AllReadyH.nil))
  · go_simp
    go_wp2_with fail
    refine (looseSide ⟨Da.toArray⟩ _).mono ?_
    rintro e x5 ⟨rfl, ex5⟩
    have hbx5 : Below X0.heap.size X0 x5 := by rw [ex5]; exact Below.refl _ _
    clear ex5
    replace hR := hR.below hbx5
    replace hRo := hRo.below hbx5
    have hsz_x5 := hbx5.size
    refine hK.out _ _ (bthenN hHeld (by omega) hbx5) (fun hNew => ?_)
    clear hK K hHeld
    have hHeld := hNew
    clear hNew
    try simp only [Act.put, List.setIfInBounds_toArray, List.set_cons_zero, List.set_cons_succ, List.getElem_toArray, List.getElem_cons_zero, List.getElem_cons_succ]
    refine wpAnyH_ready (rs := [2]) (by kernel_rfl) (by simp) ?_
    refine (AllReadyH.cons rfl (fun K hK => ?_) AllReadyH.nil)
    have yq0 : x5.cell? ⟨o, 0, none⟩ = some (.int .i64 P.pn) := (hRo.2 0 (by simp)).1
    have yq1 : x5.cell? ⟨o, 1, none⟩ = some (.int .i64 P.pk) := (hRo.2 1 (by simp)).1
    have yq2 : x5.cell? ⟨o, 2, none⟩ = some (.int .i64 P.i) := (hRo.2 2 (by simp)).1
    have yq3 : x5.cell? ⟨o, 3, none⟩ = some (.int .i64 P.a) := (hRo.2 3 (by simp)).1
    have yq4 : x5.cell? ⟨o, 4, none⟩ = some (.int .i64 P.n) := (hRo.2 4 (by simp)).1
    have yq5 : x5.cell? ⟨o, 5, none⟩ = some (.int .i64 P.s) := (hRo.2 5 (by simp)).1
    have yq6 : x5.cell? ⟨o, 6, none⟩ = some (.int .i64 P.l) := (hRo.2 6 (by simp)).1
    have yq7 : x5.cell? ⟨o, 7, none⟩ = some (.int .i64 P.pc) := (hRo.2 7 (by simp)).1
    go_simp
    clear yq0 yq1 yq2 yq3 yq4 yq5 yq6 yq7
    refine hK.out _ _ hHeld (fun hNew => ?_)
    clear hK K hHeld
    have hHeld := hNew
    clear hNew
    try simp only [Act.put, List.setIfInBounds_toArray, List.set_cons_zero, List.set_cons_succ, List.getElem_toArray, List.getElem_cons_zero, List.getElem_cons_succ]
    refine wpAnyH_take (i := 3) (v := .agg #[.int .i64 2, .int .i64 0, .int .i64 0, .int .i64 0, .int .i64 0, .int .i64 0, .int .i64 (sideF ⟨Da.toArray⟩), .int .i64 P.pn, .int .i64 P.pk, .int .i64 P.i, .int .i64 P.a, .int .i64 P.n, .int .i64 P.s, .int .i64 P.l, .int .i64 P.pc, .int .i64 0]) rfl (by kernel_rfl) (by kernel_rfl) (by kernel_rfl) (fun _ _ _ h => h) (Or.inl ⟨by rfl, ?_⟩) (by assumption) ?_
    · intro wx hSw; obtain ⟨hcS, hfS⟩ := bcellN hSw; go_simp
    try simp only [Act.put, List.setIfInBounds_toArray, List.set_cons_zero, List.set_cons_succ, List.getElem_toArray, List.getElem_cons_zero, List.getElem_cons_succ]
    refine wpAnyH_ready (rs := [4]) (by kernel_rfl) (by simp) ?_
    refine (AllReadyH.cons rfl (fun K hK => ?_) AllReadyH.nil)
    go_simp
    rw [store29_bk hR rfl _ rfl (by kernel_rfl)]
    obtain ⟨XS, eS⟩ : ∃ y, y = putL w.heap.size ((#[.int .i64 2, .int .i64 0, .int .i64 0, .int .i64 0, .int .i64 0, .int .i64 0, .int .i64 (sideF ⟨Da.toArray⟩), .int .i64 P.pn, .int .i64 P.pk, .int .i64 P.i, .int .i64 P.a, .int .i64 P.n, .int .i64 P.s, .int .i64 P.l, .int .i64 P.pc, .int .i64 0] : Array Value).toList) 0 x5 := ⟨_, rfl⟩
    have R9 : Hid (Bk XS w.heap.size [.int .i64 2, .int .i64 0, .int .i64 0, .int .i64 0, .int .i64 0, .int .i64 0, .int .i64 (sideF ⟨Da.toArray⟩), .int .i64 P.pn, .int .i64 P.pk, .int .i64 P.i, .int .i64 P.a, .int .i64 P.n, .int .i64 P.s, .int .i64 P.l, .int .i64 P.pc, .int .i64 0]) := by unfold Hid; rw [eS]; exact bk_put hR rfl
    have hB9 : Below w.heap.size w4 XS := by rw [eS]; exact below_put (by omega) _ _ hHeld
    rw [← eS]
    clear eS
    refine hK.out _ _ hB9 (fun hNew => ?_)
    clear hK K hHeld
    have hHeld := hNew
    clear hNew
    refine wpAnyH_done (by kernel_rfl) ?_ _
    have hr := fun tmps hp => results_mid (P := Tryz.prog) (fn := Tryz.f14) Tryz.results14 tmps XS w.heap.size [.int .i64 2, .int .i64 0, .int .i64 0, .int .i64 0, .int .i64 0, .int .i64 0, .int .i64 (sideF ⟨Da.toArray⟩), .int .i64 P.pn, .int .i64 P.pk, .int .i64 P.i, .int .i64 P.a, .int .i64 P.n, .int .i64 P.s, .int .i64 P.l, .int .i64 P.pc, .int .i64 0] _ hp (Bk.range R9.out) Tryz.underlying29 rfl (by kernel_rfl)
    have B9 := hBB.trans hHeld
    go_wp2
    exact bodyPost_ret (v := .agg #[.int .i64 2, .int .i64 0, .int .i64 0, .int .i64 0, .int .i64 0, .int .i64 0, .int .i64 (sideF ⟨Da.toArray⟩), .int .i64 P.pn, .int .i64 P.pk, .int .i64 P.i, .int .i64 P.a, .int .i64 P.n, .int .i64 P.s, .int .i64 P.l, .int .i64 P.pc, .int .i64 0]) (hr _ rfl) rfl ⟨rfl, B9⟩
  · have yq0 : X0.cell? ⟨o, 0, none⟩ = some (.int .i64 P.pn) := (hRo.2 0 (by simp)).1
    have yq1 : X0.cell? ⟨o, 1, none⟩ = some (.int .i64 P.pk) := (hRo.2 1 (by simp)).1
    have yq2 : X0.cell? ⟨o, 2, none⟩ = some (.int .i64 P.i) := (hRo.2 2 (by simp)).1
    have yq3 : X0.cell? ⟨o, 3, none⟩ = some (.int .i64 P.a) := (hRo.2 3 (by simp)).1
    have yq4 : X0.cell? ⟨o, 4, none⟩ = some (.int .i64 P.n) := (hRo.2 4 (by simp)).1
    have yq5 : X0.cell? ⟨o, 5, none⟩ = some (.int .i64 P.s) := (hRo.2 5 (by simp)).1
    have yq6 : X0.cell? ⟨o, 6, none⟩ = some (.int .i64 P.l) := (hRo.2 6 (by simp)).1
    have yq7 : X0.cell? ⟨o, 7, none⟩ = some (.int .i64 P.pc) := (hRo.2 7 (by simp)).1
    go_simp
    clear yq0 yq1 yq2 yq3 yq4 yq5 yq6 yq7
    refine hK.out _ _ hHeld (fun hNew => ?_)
    clear hK K hHeld
    have hHeld := hNew
    clear hNew
    try simp only [Act.put, List.setIfInBounds_toArray, List.set_cons_zero, List.set_cons_succ, List.getElem_toArray, List.getElem_cons_zero, List.getElem_cons_succ]
    refine wpAnyH_ready (rs := [1]) (by kernel_rfl) (by simp) ?_
    refine (AllReadyH.cons rfl (fun K hK => ?_) AllReadyH.nil)
    go_simp
    go_wp2_with fail
    refine (looseSide ⟨Da.toArray⟩ _).mono ?_
    rintro e x5 ⟨rfl, ex5⟩
    have hbx5 : Below X0.heap.size X0 x5 := by rw [ex5]; exact Below.refl _ _
    clear ex5
    replace hR := hR.below hbx5
    replace hRo := hRo.below hbx5
    have hsz_x5 := hbx5.size
    refine hK.out _ _ (bthenN hHeld (by omega) hbx5) (fun hNew => ?_)
    clear hK K hHeld
    have hHeld := hNew
    clear hNew
    try simp only [Act.put, List.setIfInBounds_toArray, List.set_cons_zero, List.set_cons_succ, List.getElem_toArray, List.getElem_cons_zero, List.getElem_cons_succ]
    refine wpAnyH_take (i := 3) (v := .agg #[.int .i64 2, .int .i64 0, .int .i64 0, .int .i64 0, .int .i64 0, .int .i64 0, .int .i64 (sideF ⟨Da.toArray⟩), .int .i64 P.pn, .int .i64 P.pk, .int .i64 P.i, .int .i64 P.a, .int .i64 P.n, .int .i64 P.s, .int .i64 P.l, .int .i64 P.pc, .int .i64 0]) rfl (by kernel_rfl) (by kernel_rfl) (by kernel_rfl) (fun _ _ _ h => h) (Or.inl ⟨by rfl, ?_⟩) (by assumption) ?_
    · intro wx hSw; obtain ⟨hcS, hfS⟩ := bcellN hSw; go_simp
    try simp only [Act.put, List.setIfInBounds_toArray, List.set_cons_zero, List.set_cons_succ, List.getElem_toArray, List.getElem_cons_zero, List.getElem_cons_succ]
    refine wpAnyH_ready (rs := [4]) (by kernel_rfl) (by simp) ?_
    refine (AllReadyH.cons rfl (fun K hK => ?_) AllReadyH.nil)
    go_simp
    rw [store29_bk hR rfl _ rfl (by kernel_rfl)]
    obtain ⟨XS, eS⟩ : ∃ y, y = putL w.heap.size ((#[.int .i64 2, .int .i64 0, .int .i64 0, .int .i64 0, .int .i64 0, .int .i64 0, .int .i64 (sideF ⟨Da.toArray⟩), .int .i64 P.pn, .int .i64 P.pk, .int .i64 P.i, .int .i64 P.a, .int .i64 P.n, .int .i64 P.s, .int .i64 P.l, .int .i64 P.pc, .int .i64 0] : Array Value).toList) 0 x5 := ⟨_, rfl⟩
    have R9 : Hid (Bk XS w.heap.size [.int .i64 2, .int .i64 0, .int .i64 0, .int .i64 0, .int .i64 0, .int .i64 0, .int .i64 (sideF ⟨Da.toArray⟩), .int .i64 P.pn, .int .i64 P.pk, .int .i64 P.i, .int .i64 P.a, .int .i64 P.n, .int .i64 P.s, .int .i64 P.l, .int .i64 P.pc, .int .i64 0]) := by unfold Hid; rw [eS]; exact bk_put hR rfl
    have hB9 : Below w.heap.size w4 XS := by rw [eS]; exact below_put (by omega) _ _ hHeld
    rw [← eS]
    clear eS
    refine hK.out _ _ hB9 (fun hNew => ?_)
    clear hK K hHeld
    have hHeld := hNew
    clear hNew
    refine wpAnyH_done (by kernel_rfl) ?_ _
    have hr := fun tmps hp => results_mid (P := Tryz.prog) (fn := Tryz.f14) Tryz.results14 tmps XS w.heap.size [.int .i64 2, .int .i64 0, .int .i64 0, .int .i64 0, .int .i64 0, .int .i64 0, .int .i64 (sideF ⟨Da.toArray⟩), .int .i64 P.pn, .int .i64 P.pk, .int .i64 P.i, .int .i64 P.a, .int .i64 P.n, .int .i64 P.s, .int .i64 P.l, .int .i64 P.pc, .int .i64 0] _ hp (Bk.range R9.out) Tryz.underlying29 rfl (by kernel_rfl)
    have B9 := hBB.trans hHeld
    go_wp2
    exact bodyPost_ret (v := .agg #[.int .i64 2, .int .i64 0, .int .i64 0, .int .i64 0, .int .i64 0, .int .i64 0, .int .i64 (sideF ⟨Da.toArray⟩), .int .i64 P.pn, .int .i64 P.pk, .int .i64 P.i, .int .i64 P.a, .int .i64 P.n, .int .i64 P.s, .int .i64 P.l, .int .i64 P.pc, .int .i64 0]) (hr _ rfl) rfl ⟨rfl, B9⟩
end Go.Proofs.YtgioecjnghllhaaGreatDoor
