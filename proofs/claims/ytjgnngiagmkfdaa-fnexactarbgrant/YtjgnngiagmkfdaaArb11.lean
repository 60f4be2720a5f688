/- The law FnExactArbGrant: it answers true; conditions: the table lies in memory. -/
import Derived.Test.YtjgnngiagmkfdaaArb10
import Derived.Test.YtjgnngiagmkfdaaArb7
namespace Go.Proofs.Ytjgnngiagmkfdaa
open Go.RowKit Go.Deep
set_option linter.unusedVariables false

theorem grantR_short {c d n cell server : Int} {T : TV} (h : T.short 1048576) : (grantR c d T n cell server).1.short 1048576 := by
  unfold grantR
  split
  · split
    · exact h
    · exact h
  · exact ⟨Nat.zero_le _, Nat.zero_le _⟩

set_option maxRecDepth 20000 in
set_option maxHeartbeats 16000000 in
theorem law_arbGrant (c d : Int) (v : Value) (T : TV) (n cell server : Int) (hs : T.short maxLen) (w : World) (h : TabAt w v T) :
    Calls Try.prog 5 #[.agg #[.int .i64 c, .int .i64 d], v, .int .i64 n, .int .i64 cell, .int .i64 server] w fun e w' => e = .returned (.bool true) ∧ Below w.heap.size w w' := by
  obtain ⟨aS, kS, aA, kA, rfl, rS, rA⟩ := h
  have H0 : Hid (TabAt w (.agg #[.slice aS T.nS kS, .slice aA T.nA kA]) T) := ⟨aS, kS, aA, kA, rfl, rS, rA⟩
  have HS0 : Hid (T.short maxLen) := hs
  clear rS rA hs
  obtain ⟨U, eU⟩ : ∃ U, (grantR c d T n cell server).1 = U := ⟨_, rfl⟩
  obtain ⟨TB, eT⟩ : ∃ t, (grantR c d T n cell server).2 = t := ⟨_, rfl⟩
  have EU : Hid ((grantR c d T n cell server).1 = U) := eU
  have ET : Hid ((grantR c d T n cell server).2 = TB) := eT
  clear eU eT
  go_enter Try.func5, Try.ntmps5
  go_wp2_with fail
  obtain ⟨w0, e0⟩ : ∃ w0, w0 = (w.alloc (.cells #[.int .i64 c, .int .i64 d] 23)).alloc (.cells #[.slice aS T.nS kS, .slice aA T.nA kA] 33) := ⟨_, rfl⟩
  have B1 : Hid (Below w.heap.size w w0) := by rw [e0]; exact ((Below.refl _ _).alloc (by simp) _).alloc (by simp) _
  have M2 : Hid (Bk w0 w.heap.size [.int .i64 c, .int .i64 d]) := by rw [e0]; exact (bk_new w 23 [.int .i64 c, .int .i64 d]).below ((Below.refl _ _).alloc (Nat.le_refl _) _)
  have A3 : Hid (Bk w0 (w.heap.size + 1) [.slice aS T.nS kS, .slice aA T.nA kA]) := by rw [e0]; have := bk_new (w.alloc (.cells #[.int .i64 c, .int .i64 d] 23)) 33 [.slice aS T.nS kS, .slice aA T.nA kA]; rwa [show (w.alloc (.cells #[.int .i64 c, .int .i64 d] 23)).heap.size = w.heap.size + 1 by simp] at this
  rw [← e0]
  clear e0
  have y0 : w.heap.size + 1 < w0.heap.size := A3.out.1
  refine (szTab _ T HS0.out _ (H0.out.below B1.out)).mono ?_
  rintro e w1 ⟨⟨r, rfl, hr⟩, hb1⟩
  have y_w1 : w0.heap.size ≤ w1.heap.size := hb1.size
  have B4 : Hid (Below w.heap.size w w1) := bthen B1.out hb1
  have M4 : Hid (Bk w1 w.heap.size [.int .i64 c, .int .i64 d]) := M2.out.below hb1
  have A4 : Hid (Bk w1 (w.heap.size + 1) [.slice aS T.nS kS, .slice aA T.nA kA]) := A3.out.below hb1
  clear B1 M2 A3
  clear hb1
  rcases hr with hr | ⟨hr, hV⟩
  · go_wp2
    go_ret
    exact ⟨rfl, B4.out⟩
  have hr2 : ¬ r < 0 := by omega
  have HV : Hid (T.short 1048576) := hV
  have HU : Hid (U.short 1048576) := by rw [← EU.out]; exact grantR_short hV
  clear hV
  go_upto_region 5 with fail
  go_cut [12, 13] (fun s t wx => ∃ g l h a1S k1S a1A k1A, .pointer (some ⟨g, 0, none⟩) = s ∧ .bool TB = t ∧ Bk wx g [.slice a1S U.nS k1S, .slice a1A U.nA k1A] ∧ OwnT l h wx (.agg #[.slice a1S U.nS k1S, .slice a1A U.nA k1A]) U ∧ (w1.heap.size ≤ g ∧ g < wx.heap.size ∧ w1.heap.size ≤ l ∧ l ≤ h ∧ h ≤ wx.heap.size ∧ (g < l ∨ h ≤ g)) ∧ Below w1.heap.size w1 wx)
  case first =>
    have yM0 : w1.cell? ⟨w.heap.size, 0, none⟩ = some (.int .i64 c) := (M4.out.2 0 (by simp)).1
    have yM1 : w1.cell? ⟨w.heap.size, 1, none⟩ = some (.int .i64 d) := (M4.out.2 1 (by simp)).1
    have hlM : w.heap.size < w1.heap.size := M4.out.1
    have yA0 : w1.cell? ⟨(w.heap.size + 1), 0, none⟩ = some (.slice aS T.nS kS) := (A4.out.2 0 (by simp)).1
    have yA1 : w1.cell? ⟨(w.heap.size + 1), 1, none⟩ = some (.slice aA T.nA kA) := (A4.out.2 1 (by simp)).1
    have hlA : (w.heap.size + 1) < w1.heap.size := A4.out.1
    refine wp_region_held_drew (S := fun w' => Below (w1.heap.size) w1 w') (by kernel_rfl) ((Below.refl _ _).drew) ?_
    intro hHeld
    obtain ⟨X0, hX0⟩ : ∃ X, X = w1.drew := ⟨_, rfl⟩
    have hz0 : w1.heap.size ≤ X0.heap.size := by rw [hX0]; exact Nat.le_refl _
    rw [← hX0] at hHeld ⊢
    clear hX0
    refine wpAnyH_take (i := 0) (v := .agg #[.int .i64 c, .int .i64 d]) rfl (by kernel_rfl) (by kernel_rfl) (by kernel_rfl) (fun _ _ _ h => h) (Or.inl ⟨by rfl, ?_⟩) (by assumption) ?_
    · intro wx hSw; obtain ⟨hcS, hfS⟩ := bcellN hSw; go_simp
    try simp only [Act.put, List.setIfInBounds_toArray, List.set_cons_zero, List.set_cons_succ, List.getElem_toArray, List.getElem_cons_zero]
    refine wpAnyH_take (i := 2) (v := .agg #[.slice aS T.nS kS, .slice aA T.nA kA]) rfl (by kernel_rfl) (by kernel_rfl) (by kernel_rfl) (fun _ _ _ h => h) (Or.inl ⟨by rfl, ?_⟩) (by assumption) ?_
    · intro wx hSw; obtain ⟨hcS, hfS⟩ := bcellN hSw; go_simp
    try simp only [Act.put, List.setIfInBounds_toArray, List.set_cons_zero, List.set_cons_succ, List.getElem_toArray, List.getElem_cons_zero, List.getElem_cons_succ]
    refine wpAnyH_take (i := 4) (v := .int .i64 n) rfl (by kernel_rfl) (by kernel_rfl) (by kernel_rfl) (fun _ _ _ h => h) (Or.inl ⟨by rfl, ?_⟩) (by assumption) ?_
    · intro wx hSw; obtain ⟨hcS, hfS⟩ := bcellN hSw; go_simp
    try simp only [Act.put, List.setIfInBounds_toArray, List.set_cons_zero, List.set_cons_succ, List.getElem_toArray, List.getElem_cons_zero, List.getElem_cons_succ]
    refine wpAnyH_take (i := 5) (v := .int .i64 cell) rfl (by kernel_rfl) (by kernel_rfl) (by kernel_rfl) (fun _ _ _ h => h) (Or.inl ⟨by rfl, ?_⟩) (by assumption) ?_
    · intro wx hSw; obtain ⟨hcS, hfS⟩ := bcellN hSw; go_simp
    try simp only [Act.put, List.setIfInBounds_toArray, List.set_cons_zero, List.set_cons_succ, List.getElem_toArray, List.getElem_cons_zero, List.getElem_cons_succ]
    refine wpAnyH_take (i := 6) (v := .int .i64 server) rfl (by kernel_rfl) (by kernel_rfl) (by kernel_rfl) (fun _ _ _ h => h) (Or.inl ⟨by rfl, ?_⟩) (by assumption) ?_
    · intro wx hSw; obtain ⟨hcS, hfS⟩ := bcellN hSw; go_simp
    try simp only [Act.put, List.setIfInBounds_toArray, List.set_cons_zero, List.set_cons_succ, List.getElem_toArray, List.getElem_cons_zero, List.getElem_cons_succ]
    refine wpAnyH_ready (rs := [1, 11]) (by kernel_rfl) (by simp) ?_
    refine (AllReadyH.cons rfl (fun K hK => ?_) (AllReadyH.cons rfl (fun K hK => ?_) AllReadyH.nil))
    · go_simp
      go_wp2_with fail
      refine (toMap _ _ _).mono ?_
      rintro e xm ⟨rfl, hxm⟩
      have hsz_xm := hxm.size
      refine hK.out _ _ (bthenN hHeld (by omega) hxm) (fun hNew => ?_)
      clear hK K hHeld
      have hHeld := hNew
      clear hNew
      try simp only [Act.put, List.setIfInBounds_toArray, List.set_cons_zero, List.set_cons_succ, List.getElem_toArray, List.getElem_cons_zero, List.getElem_cons_succ]
      refine wpAnyH_ready (rs := [3, 11]) (by kernel_rfl) (by simp) ?_
      refine (AllReadyH.cons rfl (fun K hK => ?_) (AllReadyH.cons rfl (fun K hK => ?_) AllReadyH.nil))
      · go_simp
        go_wp2_with fail
        refine (toTab _ T HV.out _ (H0.out.below (bthen B4.out hHeld))).mono ?_
        rintro e xt ⟨⟨vt, rfl, hC⟩, hxt⟩
        have hsz_xt := hxt.size
        refine hK.out _ _ (bthenN hHeld (by omega) hxt) (fun hNew => ?_)
        clear hK K hHeld
        have hHeld := hNew
        clear hNew
        try simp only [Act.put, List.setIfInBounds_toArray, List.set_cons_zero, List.set_cons_succ, List.getElem_toArray, List.getElem_cons_zero, List.getElem_cons_succ]
        refine wpAnyH_ready (rs := [7, 11]) (by kernel_rfl) (by simp) ?_
        refine (AllReadyH.cons rfl (fun K hK => ?_) (AllReadyH.cons rfl (fun K hK => ?_) AllReadyH.nil))
        · go_simp
          go_wp2_with fail
          refine (grant_spec c d _ T n cell server HV.out _ hC.at).mono ?_
          rintro e xg ⟨⟨u, tt, rfl, ht, hO⟩, hxg⟩
          subst ht
          rw [EU.out] at hO
          rw [ET.out]
          obtain ⟨a1S, k1S, a1A, k1A, rfl, _, _⟩ := hO.at
          obtain ⟨lg, elg⟩ : ∃ l, l = xt.heap.size := ⟨_, rfl⟩
          obtain ⟨hg, ehg⟩ : ∃ l, l = xg.heap.size := ⟨_, rfl⟩
          rw [← elg, ← ehg] at hO
          have elg1 : lg ≤ xt.heap.size := by omega
          have elg2 : xt.heap.size ≤ lg := by omega
          have ehg1 : hg ≤ xg.heap.size := by omega
          have ehg2 : xg.heap.size ≤ hg := by omega
          clear elg ehg
          replace hC := hC.below hxg
          have hsz_xg := hxg.size
          refine hK.out _ _ (bthenN hHeld (by omega) hxg) (fun hNew => ?_)
          clear hK K hHeld
          have hHeld := hNew
          clear hNew
          try simp only [Act.put, List.setIfInBounds_toArray, List.set_cons_zero, List.set_cons_succ, List.getElem_toArray, List.getElem_cons_zero, List.getElem_cons_succ]
          refine wpAnyH_take (i := 8) (v := .tuple #[.agg #[.slice a1S U.nS k1S, .slice a1A U.nA k1A], .bool TB]) rfl (by kernel_rfl) (by kernel_rfl) (by kernel_rfl) (fun _ _ _ h => h) (Or.inl ⟨by rfl, ?_⟩) (by assumption) ?_
          · intro wx hSw; obtain ⟨hcS, hfS⟩ := bcellN hSw; go_simp
          try simp only [Act.put, List.setIfInBounds_toArray, List.set_cons_zero, List.set_cons_succ, List.getElem_toArray, List.getElem_cons_zero, List.getElem_cons_succ]
          refine wpAnyH_take (i := 9) (v := .agg #[.slice a1S U.nS k1S, .slice a1A U.nA k1A]) rfl (by kernel_rfl) (by kernel_rfl) (by kernel_rfl) (fun _ _ _ h => h) (Or.inl ⟨by rfl, ?_⟩) (by assumption) ?_
          · intro wx hSw; obtain ⟨hcS, hfS⟩ := bcellN hSw; go_simp
          try simp only [Act.put, List.setIfInBounds_toArray, List.set_cons_zero, List.set_cons_succ, List.getElem_toArray, List.getElem_cons_zero, List.getElem_cons_succ]
          refine wpAnyH_take (i := 10) (v := .bool TB) rfl (by kernel_rfl) (by kernel_rfl) (by kernel_rfl) (fun _ _ _ h => h) (Or.inl ⟨by rfl, ?_⟩) (by assumption) ?_
          · intro wx hSw; obtain ⟨hcS, hfS⟩ := bcellN hSw; go_simp
          try simp only [Act.put, List.setIfInBounds_toArray, List.set_cons_zero, List.set_cons_succ, List.getElem_toArray, List.getElem_cons_zero, List.getElem_cons_succ]
          refine wpAnyH_ready (rs := [11]) (by kernel_rfl) (by simp) ?_
          refine (AllReadyH.cons rfl (fun K hK => ?_) AllReadyH.nil)
          go_simp
          obtain ⟨XC, eA⟩ : ∃ X, X = xg.alloc (.cells #[.slice none 0 0, .slice none 0 0] 26) := ⟨_, rfl⟩
          rw [← eA]
          have hbA : Below xg.heap.size xg XC := by rw [eA]; exact (Below.refl _ _).alloc (Nat.le_refl _) _
          have hZC : Bk XC xg.heap.size [.slice none 0 0, .slice none 0 0] := by rw [eA]; exact bk_new xg 26 [.slice none 0 0, .slice none 0 0]
          have hzAC1 : XC.heap.size ≤ xg.heap.size + 1 := by rw [eA]; simp
          have hzAC2 : xg.heap.size + 1 ≤ XC.heap.size := by rw [eA]; simp
          clear eA
          replace hO := hO.below hbA
          have hsz_XC := hbA.size
          refine hK.out _ _ (bthenN hHeld (by omega) hbA) (fun hNew => ?_)
          clear hK K hHeld
          have hHeld := hNew
          clear hNew
          try simp only [Act.put, List.setIfInBounds_toArray, List.set_cons_zero, List.set_cons_succ, List.getElem_toArray, List.getElem_cons_zero, List.getElem_cons_succ]
          clear hbA
          obtain ⟨C, eC⟩ : ∃ g, g = xg.heap.size := ⟨_, rfl⟩
          rw [← eC] at hZC ⊢
          have eC1 : C ≤ xg.heap.size := by omega
          have eC2 : xg.heap.size ≤ C := by omega
          clear eC
          refine wpAnyH_ready (rs := [12]) (by kernel_rfl) (by simp) ?_
          refine (AllReadyH.cons rfl (fun K hK => ?_) AllReadyH.nil)
          have r0 := (hZC.2 0 (by simp)).1
          have r1 := (hZC.2 1 (by simp)).1
          have f0 := (hZC.2 0 (by simp)).2
          have f1 := (hZC.2 1 (by simp)).2
          simp only [List.getD, List.getElem?_cons_zero, List.getElem?_cons_succ, Option.getD_some] at r0 r1
          have lZC := hZC.1
          have hkC : w1.heap.size ≤ C := by omega
          go_simp
          obtain ⟨XSC, eS⟩ : ∃ X, X = ((XC.setCell ⟨C, 0, none⟩ (.slice a1S U.nS k1S)).setCell ⟨C, 1, none⟩ (.slice a1A U.nA k1A)) := ⟨_, rfl⟩
          rw [← eS]
          have hPC : Bk XSC C [.slice a1S U.nS k1S, .slice a1A U.nA k1A] := by rw [eS]; exact bk_put (l := [.slice a1S U.nS k1S, .slice a1A U.nA k1A]) hZC rfl
          have hzC1 : XSC.heap.size ≤ XC.heap.size := by rw [eS]; exact Nat.le_of_eq (size_put C [.slice a1S U.nS k1S, .slice a1A U.nA k1A] 0 XC)
          have hzC2 : XC.heap.size ≤ XSC.heap.size := by rw [eS]; exact Nat.le_of_eq (size_put C [.slice a1S U.nS k1S, .slice a1A U.nA k1A] 0 XC).symm
          have hmC : ∀ b, ¬ b = C → Sm XC XSC b := by rw [eS]; exact fun b hb => sm_put hb [.slice a1S U.nS k1S, .slice a1A U.nA k1A] 0 XC
          have hBC : Below (w1.heap.size) w1 XSC := by rw [eS]; exact below_put hkC [.slice a1S U.nS k1S, .slice a1A U.nA k1A] 0 hHeld
          clear eS r0 f0 r1 f1
          replace hO := hO.sm hzC2 (fun b q1 q2 => hmC b (by omega))
          refine hK.out _ _ hBC (fun hNew => ?_)
          clear hK K hHeld
          have hHeld := hNew
          clear hNew
          try simp only [Act.put, List.setIfInBounds_toArray, List.set_cons_zero, List.set_cons_succ, List.getElem_toArray, List.getElem_cons_zero, List.getElem_cons_succ]
          refine wpAnyH_take (i := 13) (v := .bool TB) rfl (by kernel_rfl) (by kernel_rfl) (by kernel_rfl) (fun _ _ _ h => h) (Or.inl ⟨by rfl, ?_⟩) (by assumption) ?_
          · intro wx hSw; obtain ⟨hcS, hfS⟩ := bcellN hSw; go_simp
          try simp only [Act.put, List.setIfInBounds_toArray, List.set_cons_zero, List.set_cons_succ, List.getElem_toArray, List.getElem_cons_zero, List.getElem_cons_succ]
          refine wpAnyH_done (by kernel_rfl) ?_ _
          go_wp2
          go_meet
          case rel => exact ⟨C, lg, hg, a1S, k1S, a1A, k1A, rfl, rfl, hPC, hO, ⟨by omega, hPC.1, by omega, by omega, by omega, by omega⟩, hHeld⟩
        · go_simp
          obtain ⟨XC, eA⟩ : ∃ X, X = xt.alloc (.cells #[.slice none 0 0, .slice none 0 0] 26) := ⟨_, rfl⟩
          rw [← eA]
          have hbA : Below xt.heap.size xt XC := by rw [eA]; exact (Below.refl _ _).alloc (Nat.le_refl _) _
          have hZC : Bk XC xt.heap.size [.slice none 0 0, .slice none 0 0] := by rw [eA]; exact bk_new xt 26 [.slice none 0 0, .slice none 0 0]
          have hzAC1 : XC.heap.size ≤ xt.heap.size + 1 := by rw [eA]; simp
          have hzAC2 : xt.heap.size + 1 ≤ XC.heap.size := by rw [eA]; simp
          clear eA
          replace hC := hC.below hbA
          have hsz_XC := hbA.size
          refine hK.out _ _ (bthenN hHeld (by omega) hbA) (fun hNew => ?_)
          clear hK K hHeld
          have hHeld := hNew
          clear hNew
          try simp only [Act.put, List.setIfInBounds_toArray, List.set_cons_zero, List.set_cons_succ, List.getElem_toArray, List.getElem_cons_zero, List.getElem_cons_succ]
          clear hbA
          obtain ⟨C, eC⟩ : ∃ g, g = xt.heap.size := ⟨_, rfl⟩
          rw [← eC] at hZC ⊢
          have eC1 : C ≤ xt.heap.size := by omega
          have eC2 : xt.heap.size ≤ C := by omega
          clear eC
          refine wpAnyH_ready (rs := [7]) (by kernel_rfl) (by simp) ?_
          refine (AllReadyH.cons rfl (fun K hK => ?_) AllReadyH.nil)
          go_simp
          go_wp2_with fail
          refine (grant_spec c d _ T n cell server HV.out _ hC.at).mono ?_
          rintro e xg ⟨⟨u, tt, rfl, ht, hO⟩, hxg⟩
          subst ht
          rw [EU.out] at hO
          rw [ET.out]
          obtain ⟨a1S, k1S, a1A, k1A, rfl, _, _⟩ := hO.at
          obtain ⟨lg, elg⟩ : ∃ l, l = XC.heap.size := ⟨_, rfl⟩
          obtain ⟨hg, ehg⟩ : ∃ l, l = xg.heap.size := ⟨_, rfl⟩
          rw [← elg, ← ehg] at hO
          have elg1 : lg ≤ XC.heap.size := by omega
          have elg2 : XC.heap.size ≤ lg := by omega
          have ehg1 : hg ≤ xg.heap.size := by omega
          have ehg2 : xg.heap.size ≤ hg := by omega
          clear elg ehg
          replace hC := hC.below hxg
          replace hZC := hZC.below hxg
          have hsz_xg := hxg.size
          refine hK.out _ _ (bthenN hHeld (by omega) hxg) (fun hNew => ?_)
          clear hK K hHeld
          have hHeld := hNew
          clear hNew
          try simp only [Act.put, List.setIfInBounds_toArray, List.set_cons_zero, List.set_cons_succ, List.getElem_toArray, List.getElem_cons_zero, List.getElem_cons_succ]
          refine wpAnyH_take (i := 8) (v := .tuple #[.agg #[.slice a1S U.nS k1S, .slice a1A U.nA k1A], .bool TB]) rfl (by kernel_rfl) (by kernel_rfl) (by kernel_rfl) (fun _ _ _ h => h) (Or.inl ⟨by rfl, ?_⟩) (by assumption) ?_
          · intro wx hSw; obtain ⟨hcS, hfS⟩ := bcellN hSw; go_simp
          try simp only [Act.put, List.setIfInBounds_toArray, List.set_cons_zero, List.set_cons_succ, List.getElem_toArray, List.getElem_cons_zero, List.getElem_cons_succ]
          refine wpAnyH_take (i := 9) (v := .agg #[.slice a1S U.nS k1S, .slice a1A U.nA k1A]) rfl (by kernel_rfl) (by kernel_rfl) (by kernel_rfl) (fun _ _ _ h => h) (Or.inl ⟨by rfl, ?_⟩) (by assumption) ?_
          · intro wx hSw; obtain ⟨hcS, hfS⟩ := bcellN hSw; go_simp
          try simp only [Act.put, List.setIfInBounds_toArray, List.set_cons_zero, List.set_cons_succ, List.getElem_toArray, List.getElem_cons_zero, List.getElem_cons_succ]
          refine wpAnyH_take (i := 10) (v := .bool TB) rfl (by kernel_rfl) (by kernel_rfl) (by kernel_rfl) (fun _ _ _ h => h) (Or.inl ⟨by rfl, ?_⟩) (by assumption) ?_
          · intro wx hSw; obtain ⟨hcS, hfS⟩ := bcellN hSw; go_simp
          try simp only [Act.put, List.setIfInBounds_toArray, List.set_cons_zero, List.set_cons_succ, List.getElem_toArray, List.getElem_cons_zero, List.getElem_cons_succ]
          refine wpAnyH_ready (rs := [12]) (by kernel_rfl) (by simp) ?_
          refine (AllReadyH.cons rfl (fun K hK => ?_) AllReadyH.nil)
          have r0 := (hZC.2 0 (by simp)).1
          have r1 := (hZC.2 1 (by simp)).1
          have f0 := (hZC.2 0 (by simp)).2
          have f1 := (hZC.2 1 (by simp)).2
          simp only [List.getD, List.getElem?_cons_zero, List.getElem?_cons_succ, Option.getD_some] at r0 r1
          have lZC := hZC.1
          have hkC : w1.heap.size ≤ C := by omega
          go_simp
          obtain ⟨XSC, eS⟩ : ∃ X, X = ((xg.setCell ⟨C, 0, none⟩ (.slice a1S U.nS k1S)).setCell ⟨C, 1, none⟩ (.slice a1A U.nA k1A)) := ⟨_, rfl⟩
          rw [← eS]
          have hPC : Bk XSC C [.slice a1S U.nS k1S, .slice a1A U.nA k1A] := by rw [eS]; exact bk_put (l := [.slice a1S U.nS k1S, .slice a1A U.nA k1A]) hZC rfl
          have hzC1 : XSC.heap.size ≤ xg.heap.size := by rw [eS]; exact Nat.le_of_eq (size_put C [.slice a1S U.nS k1S, .slice a1A U.nA k1A] 0 xg)
          have hzC2 : xg.heap.size ≤ XSC.heap.size := by rw [eS]; exact Nat.le_of_eq (size_put C [.slice a1S U.nS k1S, .slice a1A U.nA k1A] 0 xg).symm
          have hmC : ∀ b, ¬ b = C → Sm xg XSC b := by rw [eS]; exact fun b hb => sm_put hb [.slice a1S U.nS k1S, .slice a1A U.nA k1A] 0 xg
          have hBC : Below (w1.heap.size) w1 XSC := by rw [eS]; exact below_put hkC [.slice a1S U.nS k1S, .slice a1A U.nA k1A] 0 hHeld
          clear eS r0 f0 r1 f1
          replace hO := hO.sm hzC2 (fun b q1 q2 => hmC b (by omega))
          refine hK.out _ _ hBC (fun hNew => ?_)
          clear hK K hHeld
          have hHeld := hNew
          clear hNew
          try simp only [Act.put, List.setIfInBounds_toArray, List.set_cons_zero, List.set_cons_succ, List.getElem_toArray, List.getElem_cons_zero, List.getElem_cons_succ]
          refine wpAnyH_take (i := 13) (v := .bool TB) rfl (by kernel_rfl) (by kernel_rfl) (by kernel_rfl) (fun _ _ _ h => h) (Or.inl ⟨by rfl, ?_⟩) (by assumption) ?_
          · intro wx hSw; obtain ⟨hcS, hfS⟩ := bcellN hSw; go_simp
          try simp only [Act.put, List.setIfInBounds_toArray, List.set_cons_zero, List.set_cons_succ, List.getElem_toArray, List.getElem_cons_zero, List.getElem_cons_succ]
          refine wpAnyH_done (by kernel_rfl) ?_ _
          go_wp2
          go_meet
          case rel => exact ⟨C, lg, hg, a1S, k1S, a1A, k1A, rfl, rfl, hPC, hO, ⟨by omega, hPC.1, by omega, by omega, by omega, by omega⟩, hHeld⟩
      · go_simp
        obtain ⟨XC, eA⟩ : ∃ X, X = xm.alloc (.cells #[.slice none 0 0, .slice none 0 0] 26) := ⟨_, rfl⟩
        rw [← eA]
        have hbA : Below xm.heap.size xm XC := by rw [eA]; exact (Below.refl _ _).alloc (Nat.le_refl _) _
        have hZC : Bk XC xm.heap.size [.slice none 0 0, .slice none 0 0] := by rw [eA]; exact bk_new xm 26 [.slice none 0 0, .slice none 0 0]
        have hzAC1 : XC.heap.size ≤ xm.heap.size + 1 := by rw [eA]; simp
        have hzAC2 : xm.heap.size + 1 ≤ XC.heap.size := by rw [eA]; simp
        clear eA
        have hsz_XC := hbA.size
        refine hK.out _ _ (bthenN hHeld (by omega) hbA) (fun hNew => ?_)
        clear hK K hHeld
        have hHeld := hNew
        clear hNew
        try simp only [Act.put, List.setIfInBounds_toArray, List.set_cons_zero, List.set_cons_succ, List.getElem_toArray, List.getElem_cons_zero, List.getElem_cons_succ]
        clear hbA
        obtain ⟨C, eC⟩ : ∃ g, g = xm.heap.size := ⟨_, rfl⟩
        rw [← eC] at hZC ⊢
        have eC1 : C ≤ xm.heap.size := by omega
        have eC2 : xm.heap.size ≤ C := by omega
        clear eC
        refine wpAnyH_ready (rs := [3]) (by kernel_rfl) (by simp) ?_
        refine (AllReadyH.cons rfl (fun K hK => ?_) AllReadyH.nil)
        go_simp
        go_wp2_with fail
        refine (toTab _ T HV.out _ (H0.out.below (bthen B4.out hHeld))).mono ?_
        rintro e xt ⟨⟨vt, rfl, hC⟩, hxt⟩
        replace hZC := hZC.below hxt
        have hsz_xt := hxt.size
        refine hK.out _ _ (bthenN hHeld (by omega) hxt) (fun hNew => ?_)
        clear hK K hHeld
        have hHeld := hNew
        clear hNew
        try simp only [Act.put, List.setIfInBounds_toArray, List.set_cons_zero, List.set_cons_succ, List.getElem_toArray, List.getElem_cons_zero, List.getElem_cons_succ]
        refine wpAnyH_ready (rs := [7]) (by kernel_rfl) (by simp) ?_
        refine (AllReadyH.cons rfl (fun K hK => ?_) AllReadyH.nil)
        go_simp
        go_wp2_with fail
        refine (grant_spec c d _ T n cell server HV.out _ hC.at).mono ?_
        rintro e xg ⟨⟨u, tt, rfl, ht, hO⟩, hxg⟩
        subst ht
        rw [EU.out] at hO
        rw [ET.out]
        obtain ⟨a1S, k1S, a1A, k1A, rfl, _, _⟩ := hO.at
        obtain ⟨lg, elg⟩ : ∃ l, l = xt.heap.size := ⟨_, rfl⟩
        obtain ⟨hg, ehg⟩ : ∃ l, l = xg.heap.size := ⟨_, rfl⟩
        rw [← elg, ← ehg] at hO
        have elg1 : lg ≤ xt.heap.size := by omega
        have elg2 : xt.heap.size ≤ lg := by omega
        have ehg1 : hg ≤ xg.heap.size := by omega
        have ehg2 : xg.heap.size ≤ hg := by omega
        clear elg ehg
        replace hZC := hZC.below hxg
        replace hC := hC.below hxg
        have hsz_xg := hxg.size
        refine hK.out _ _ (bthenN hHeld (by omega) hxg) (fun hNew => ?_)
        clear hK K hHeld
        have hHeld := hNew
        clear hNew
        try simp only [Act.put, List.setIfInBounds_toArray, List.set_cons_zero, List.set_cons_succ, List.getElem_toArray, List.getElem_cons_zero, List.getElem_cons_succ]
        refine wpAnyH_take (i := 8) (v := .tuple #[.agg #[.slice a1S U.nS k1S, .slice a1A U.nA k1A], .bool TB]) rfl (by kernel_rfl) (by kernel_rfl) (by kernel_rfl) (fun _ _ _ h => h) (Or.inl ⟨by rfl, ?_⟩) (by assumption) ?_
        · intro wx hSw; obtain ⟨hcS, hfS⟩ := bcellN hSw; go_simp
        try simp only [Act.put, List.setIfInBounds_toArray, List.set_cons_zero, List.set_cons_succ, List.getElem_toArray, List.getElem_cons_zero, List.getElem_cons_succ]
        refine wpAnyH_take (i := 9) (v := .agg #[.slice a1S U.nS k1S, .slice a1A U.nA k1A]) rfl (by kernel_rfl) (by kernel_rfl) (by kernel_rfl) (fun _ _ _ h => h) (Or.inl ⟨by rfl, ?_⟩) (by assumption) ?_
        · intro wx hSw; obtain ⟨hcS, hfS⟩ := bcellN hSw; go_simp
        try simp only [Act.put, List.setIfInBounds_toArray, List.set_cons_zero, List.set_cons_succ, List.getElem_toArray, List.getElem_cons_zero, List.getElem_cons_succ]
        refine wpAnyH_take (i := 10) (v := .bool TB) rfl (by kernel_rfl) (by kernel_rfl) (by kernel_rfl) (fun _ _ _ h => h) (Or.inl ⟨by rfl, ?_⟩) (by assumption) ?_
        · intro wx hSw; obtain ⟨hcS, hfS⟩ := bcellN hSw; go_simp
        try simp only [Act.put, List.setIfInBounds_toArray, List.set_cons_zero, List.set_cons_succ, List.getElem_toArray, List.getElem_cons_zero, List.getElem_cons_succ]
        refine wpAnyH_ready (rs := [12]) (by kernel_rfl) (by simp) ?_
        refine (AllReadyH.cons rfl (fun K hK => ?_) AllReadyH.nil)
        have r0 := (hZC.2 0 (by simp)).1
        have r1 := (hZC.2 1 (by simp)).1
        have f0 := (hZC.2 0 (by simp)).2
        have f1 := (hZC.2 1 (by simp)).2
        simp only [List.getD, List.getElem?_cons_zero, List.getElem?_cons_succ, Option.getD_some] at r0 r1
        have lZC := hZC.1
        have hkC : w1.heap.size ≤ C := by omega
        go_simp
        obtain ⟨XSC, eS⟩ : ∃ X, X = ((xg.setCell ⟨C, 0, none⟩ (.slice a1S U.nS k1S)).setCell ⟨C, 1, none⟩ (.slice a1A U.nA k1A)) := ⟨_, rfl⟩
        rw [← eS]
        have hPC : Bk XSC C [.slice a1S U.nS k1S, .slice a1A U.nA k1A] := by rw [eS]; exact bk_put (l := [.slice a1S U.nS k1S, .slice a1A U.nA k1A]) hZC rfl
        have hzC1 : XSC.heap.size ≤ xg.heap.size := by rw [eS]; exact Nat.le_of_eq (size_put C [.slice a1S U.nS k1S, .slice a1A U.nA k1A] 0 xg)
        have hzC2 : xg.heap.size ≤ XSC.heap.size := by rw [eS]; exact Nat.le_of_eq (size_put C [.slice a1S U.nS k1S, .slice a1A U.nA k1A] 0 xg).symm
        have hmC : ∀ b, ¬ b = C → Sm xg XSC b := by rw [eS]; exact fun b hb => sm_put hb [.slice a1S U.nS k1S, .slice a1A U.nA k1A] 0 xg
        have hBC : Below (w1.heap.size) w1 XSC := by rw [eS]; exact below_put hkC [.slice a1S U.nS k1S, .slice a1A U.nA k1A] 0 hHeld
        clear eS r0 f0 r1 f1
        replace hO := hO.sm hzC2 (fun b q1 q2 => hmC b (by omega))
        refine hK.out _ _ hBC (fun hNew => ?_)
        clear hK K hHeld
        have hHeld := hNew
        clear hNew
        try simp only [Act.put, List.setIfInBounds_toArray, List.set_cons_zero, List.set_cons_succ, List.getElem_toArray, List.getElem_cons_zero, List.getElem_cons_succ]
        refine wpAnyH_take (i := 13) (v := .bool TB) rfl (by kernel_rfl) (by kernel_rfl) (by kernel_rfl) (fun _ _ _ h => h) (Or.inl ⟨by rfl, ?_⟩) (by assumption) ?_
        · intro wx hSw; obtain ⟨hcS, hfS⟩ := bcellN hSw; go_simp
        try simp only [Act.put, List.setIfInBounds_toArray, List.set_cons_zero, List.set_cons_succ, List.getElem_toArray, List.getElem_cons_zero, List.getElem_cons_succ]
        refine wpAnyH_done (by kernel_rfl) ?_ _
        go_wp2
        go_meet
        case rel => exact ⟨C, lg, hg, a1S, k1S, a1A, k1A, rfl, rfl, hPC, hO, ⟨by omega, hPC.1, by omega, by omega, by omega, by omega⟩, hHeld⟩
    · go_simp
      obtain ⟨XC, eA⟩ : ∃ X, X = X0.alloc (.cells #[.slice none 0 0, .slice none 0 0] 26) := ⟨_, rfl⟩
      rw [← eA]
      have hbA : Below X0.heap.size X0 XC := by rw [eA]; exact (Below.refl _ _).alloc (Nat.le_refl _) _
      have hZC : Bk XC X0.heap.size [.slice none 0 0, .slice none 0 0] := by rw [eA]; exact bk_new X0 26 [.slice none 0 0, .slice none 0 0]
      have hzAC1 : XC.heap.size ≤ X0.heap.size + 1 := by rw [eA]; simp
      have hzAC2 : X0.heap.size + 1 ≤ XC.heap.size := by rw [eA]; simp
      clear eA
      have hsz_XC := hbA.size
      refine hK.out _ _ (bthenN hHeld (by omega) hbA) (fun hNew => ?_)
      clear hK K hHeld
      have hHeld := hNew
      clear hNew
      try simp only [Act.put, List.setIfInBounds_toArray, List.set_cons_zero, List.set_cons_succ, List.getElem_toArray, List.getElem_cons_zero, List.getElem_cons_succ]
      clear hbA
      obtain ⟨C, eC⟩ : ∃ g, g = X0.heap.size := ⟨_, rfl⟩
      rw [← eC] at hZC ⊢
      have eC1 : C ≤ X0.heap.size := by omega
      have eC2 : X0.heap.size ≤ C := by omega
      clear eC
      refine wpAnyH_ready (rs := [1]) (by kernel_rfl) (by simp) ?_
      refine (AllReadyH.cons rfl (fun K hK => ?_) AllReadyH.nil)
      go_simp
      go_wp2_with fail
      refine (toMap _ _ _).mono ?_
      rintro e xm ⟨rfl, hxm⟩
      replace hZC := hZC.below hxm
      have hsz_xm := hxm.size
      refine hK.out _ _ (bthenN hHeld (by omega) hxm) (fun hNew => ?_)
      clear hK K hHeld
      have hHeld := hNew
      clear hNew
      try simp only [Act.put, List.setIfInBounds_toArray, List.set_cons_zero, List.set_cons_succ, List.getElem_toArray, List.getElem_cons_zero, List.getElem_cons_succ]
      refine wpAnyH_ready (rs := [3]) (by kernel_rfl) (by simp) ?_
      refine (AllReadyH.cons rfl (fun K hK => ?_) AllReadyH.nil)
      go_simp
      go_wp2_with fail
      refine (toTab _ T HV.out _ (H0.out.below (bthen B4.out hHeld))).mono ?_
      rintro e xt ⟨⟨vt, rfl, hC⟩, hxt⟩
      replace hZC := hZC.below hxt
      have hsz_xt := hxt.size
      refine hK.out _ _ (bthenN hHeld (by omega) hxt) (fun hNew => ?_)
      clear hK K hHeld
      have hHeld := hNew
      clear hNew
      try simp only [Act.put, List.setIfInBounds_toArray, List.set_cons_zero, List.set_cons_succ, List.getElem_toArray, List.getElem_cons_zero, List.getElem_cons_succ]
      refine wpAnyH_ready (rs := [7]) (by kernel_rfl) (by simp) ?_
      refine (AllReadyH.cons rfl (fun K hK => ?_) AllReadyH.nil)
      go_simp
      go_wp2_with fail
      refine (grant_spec c d _ T n cell server HV.out _ hC.at).mono ?_
      rintro e xg ⟨⟨u, tt, rfl, ht, hO⟩, hxg⟩
      subst ht
      rw [EU.out] at hO
      rw [ET.out]
      obtain ⟨a1S, k1S, a1A, k1A, rfl, _, _⟩ := hO.at
      obtain ⟨lg, elg⟩ : ∃ l, l = xt.heap.size := ⟨_, rfl⟩
      obtain ⟨hg, ehg⟩ : ∃ l, l = xg.heap.size := ⟨_, rfl⟩
      rw [← elg, ← ehg] at hO
      have elg1 : lg ≤ xt.heap.size := by omega
      have elg2 : xt.heap.size ≤ lg := by omega
      have ehg1 : hg ≤ xg.heap.size := by omega
      have ehg2 : xg.heap.size ≤ hg := by omega
      clear elg ehg
      replace hZC := hZC.below hxg
      replace hC := hC.below hxg
      have hsz_xg := hxg.size
      refine hK.out _ _ (bthenN hHeld (by omega) hxg) (fun hNew => ?_)
      clear hK K hHeld
      have hHeld := hNew
      clear hNew
      try simp only [Act.put, List.setIfInBounds_toArray, List.set_cons_zero, List.set_cons_succ, List.getElem_toArray, List.getElem_cons_zero, List.getElem_cons_succ]
      refine wpAnyH_take (i := 8) (v := .tuple #[.agg #[.slice a1S U.nS k1S, .slice a1A U.nA k1A], .bool TB]) rfl (by kernel_rfl) (by kernel_rfl) (by kernel_rfl) (fun _ _ _ h => h) (Or.inl ⟨by rfl, ?_⟩) (by assumption) ?_
      · intro wx hSw; obtain ⟨hcS, hfS⟩ := bcellN hSw; go_simp
      try simp only [Act.put, List.setIfInBounds_toArray, List.set_cons_zero, List.set_cons_succ, List.getElem_toArray, List.getElem_cons_zero, List.getElem_cons_succ]
      refine wpAnyH_take (i := 9) (v := .agg #[.slice a1S U.nS k1S, .slice a1A U.nA k1A]) rfl (by kernel_rfl) (by kernel_rfl) (by kernel_rfl) (fun _ _ _ h => h) (Or.inl ⟨by rfl, ?_⟩) (by assumption) ?_
      · intro wx hSw; obtain ⟨hcS, hfS⟩ := bcellN hSw; go_simp
      try simp only [Act.put, List.setIfInBounds_toArray, List.set_cons_zero, List.set_cons_succ, List.getElem_toArray, List.getElem_cons_zero, List.getElem_cons_succ]
      refine wpAnyH_take (i := 10) (v := .bool TB) rfl (by kernel_rfl) (by kernel_rfl) (by kernel_rfl) (fun _ _ _ h => h) (Or.inl ⟨by rfl, ?_⟩) (by assumption) ?_
      · intro wx hSw; obtain ⟨hcS, hfS⟩ := bcellN hSw; go_simp
      try simp only [Act.put, List.setIfInBounds_toArray, List.set_cons_zero, List.set_cons_succ, List.getElem_toArray, List.getElem_cons_zero, List.getElem_cons_succ]
      refine wpAnyH_ready (rs := [12]) (by kernel_rfl) (by simp) ?_
      refine (AllReadyH.cons rfl (fun K hK => ?_) AllReadyH.nil)
      have r0 := (hZC.2 0 (by simp)).1
      have r1 := (hZC.2 1 (by simp)).1
      have f0 := (hZC.2 0 (by simp)).2
      have f1 := (hZC.2 1 (by simp)).2
      simp only [List.getD, List.getElem?_cons_zero, List.getElem?_cons_succ, Option.getD_some] at r0 r1
      have lZC := hZC.1
      have hkC : w1.heap.size ≤ C := by omega
      go_simp
      obtain ⟨XSC, eS⟩ : ∃ X, X = ((xg.setCell ⟨C, 0, none⟩ (.slice a1S U.nS k1S)).setCell ⟨C, 1, none⟩ (.slice a1A U.nA k1A)) := ⟨_, rfl⟩
      rw [← eS]
      have hPC : Bk XSC C [.slice a1S U.nS k1S, .slice a1A U.nA k1A] := by rw [eS]; exact bk_put (l := [.slice a1S U.nS k1S, .slice a1A U.nA k1A]) hZC rfl
      have hzC1 : XSC.heap.size ≤ xg.heap.size := by rw [eS]; exact Nat.le_of_eq (size_put C [.slice a1S U.nS k1S, .slice a1A U.nA k1A] 0 xg)
      have hzC2 : xg.heap.size ≤ XSC.heap.size := by rw [eS]; exact Nat.le_of_eq (size_put C [.slice a1S U.nS k1S, .slice a1A U.nA k1A] 0 xg).symm
      have hmC : ∀ b, ¬ b = C → Sm xg XSC b := by rw [eS]; exact fun b hb => sm_put hb [.slice a1S U.nS k1S, .slice a1A U.nA k1A] 0 xg
      have hBC : Below (w1.heap.size) w1 XSC := by rw [eS]; exact below_put hkC [.slice a1S U.nS k1S, .slice a1A U.nA k1A] 0 hHeld
      clear eS r0 f0 r1 f1
      replace hO := hO.sm hzC2 (fun b q1 q2 => hmC b (by omega))
      refine hK.out _ _ hBC (fun hNew => ?_)
      clear hK K hHeld
      have hHeld := hNew
      clear hNew
      try simp only [Act.put, List.setIfInBounds_toArray, List.set_cons_zero, List.set_cons_succ, List.getElem_toArray, List.getElem_cons_zero, List.getElem_cons_succ]
      refine wpAnyH_take (i := 13) (v := .bool TB) rfl (by kernel_rfl) (by kernel_rfl) (by kernel_rfl) (fun _ _ _ h => h) (Or.inl ⟨by rfl, ?_⟩) (by assumption) ?_
      · intro wx hSw; obtain ⟨hcS, hfS⟩ := bcellN hSw; go_simp
      try simp only [Act.put, List.setIfInBounds_toArray, List.set_cons_zero, List.set_cons_succ, List.getElem_toArray, List.getElem_cons_zero, List.getElem_cons_succ]
      refine wpAnyH_done (by kernel_rfl) ?_ _
      go_wp2
      go_meet
      case rel => exact ⟨C, lg, hg, a1S, k1S, a1A, k1A, rfl, rfl, hPC, hO, ⟨by omega, hPC.1, by omega, by omega, by omega, by omega⟩, hHeld⟩
  case rest =>
    obtain ⟨w2, hwn⟩ : ∃ wn, wn = wc := ⟨_, rfl⟩
    subst hwn
    obtain ⟨g1, l1, h1, a1S, k1S, a1A, k1A, rfl, rfl, hG, hO, ⟨c11, c12, c13, c14, c15, c16⟩, hb⟩ := hcut
    have y_w2 : w1.heap.size ≤ w2.heap.size := hb.size
    have B5 : Hid (Below w.heap.size w w2) := bthen B4.out hb
    have M5 : Hid (Bk w2 w.heap.size [.int .i64 c, .int .i64 d]) := M4.out.below hb
    have A5 : Hid (Bk w2 (w.heap.size + 1) [.slice aS T.nS kS, .slice aA T.nA kA]) := A4.out.below hb
    clear B4 M4 A4
    have O1_6 : Hid (OwnT l1 h1 w2 (.agg #[.slice a1S U.nS k1S, .slice a1A U.nA k1A]) U) := hO
    have G1_7 : Hid (Bk w2 g1 [.slice a1S U.nS k1S, .slice a1A U.nA k1A]) := hG
    clear hO hG hb
    have yA0 : w2.cell? ⟨(w.heap.size + 1), 0, none⟩ = some (.slice aS T.nS kS) := (A5.out.2 0 (by simp)).1
    have yA1 : w2.cell? ⟨(w.heap.size + 1), 1, none⟩ = some (.slice aA T.nA kA) := (A5.out.2 1 (by simp)).1
    have hlA : (w.heap.size + 1) < w2.heap.size := A5.out.1
    go_wp2_with fail
    refine (toTab _ T HV.out _ (H0.out.below B5.out)).mono ?_
    rintro e w3 ⟨⟨v3, rfl, hC⟩, hb3⟩
    clear yA0 yA1 hlA
    have y_w3 : w2.heap.size ≤ w3.heap.size := hb3.size
    have B8 : Hid (Below w.heap.size w w3) := bthen B5.out hb3
    have M8 : Hid (Bk w3 w.heap.size [.int .i64 c, .int .i64 d]) := M5.out.below hb3
    have A8 : Hid (Bk w3 (w.heap.size + 1) [.slice aS T.nS kS, .slice aA T.nA kA]) := A5.out.below hb3
    have O1_8 : Hid (OwnT l1 h1 w3 (.agg #[.slice a1S U.nS k1S, .slice a1A U.nA k1A]) U) := O1_6.out.below hb3
    have G1_8 : Hid (Bk w3 g1 [.slice a1S U.nS k1S, .slice a1A U.nA k1A]) := G1_7.out.below hb3
    clear B5 M5 A5 O1_6 G1_7
    clear hb3
    obtain ⟨bS, lS, bA, lA, rfl, _, _⟩ := hC.at
    obtain ⟨lx, elx⟩ : ∃ l, l = w2.heap.size := ⟨_, rfl⟩
    obtain ⟨hx, ehx⟩ : ∃ l, l = w3.heap.size := ⟨_, rfl⟩
    rw [← elx, ← ehx] at hC
    have elx1 : lx ≤ w2.heap.size := by omega
    have elx2 : w2.heap.size ≤ lx := by omega
    have ehx1 : hx ≤ w3.heap.size := by omega
    have ehx2 : w3.heap.size ≤ hx := by omega
    clear elx ehx
    go_upto_region 7 with fail
    obtain ⟨w4, e4⟩ : ∃ wq, wq = w3.alloc (.cells #[.slice bS T.nS lS, .slice bA T.nA lA] 26) := ⟨_, rfl⟩
    have hb4 : Below w3.heap.size w3 w4 := by rw [e4]; exact (Below.refl _ _).alloc (Nat.le_refl _) _
    have hG : Bk w4 w3.heap.size [.slice bS T.nS lS, .slice bA T.nA lA] := by rw [e4]; exact bk_new w3 26 [.slice bS T.nS lS, .slice bA T.nA lA]
    rw [← e4]
    clear e4
    have y_w4 : w3.heap.size ≤ w4.heap.size := hb4.size
    have B9 : Hid (Below w.heap.size w w4) := bthen B8.out hb4
    have M9 : Hid (Bk w4 w.heap.size [.int .i64 c, .int .i64 d]) := M8.out.below hb4
    have A9 : Hid (Bk w4 (w.heap.size + 1) [.slice aS T.nS kS, .slice aA T.nA kA]) := A8.out.below hb4
    have O1_9 : Hid (OwnT l1 h1 w4 (.agg #[.slice a1S U.nS k1S, .slice a1A U.nA k1A]) U) := O1_8.out.below hb4
    have G1_9 : Hid (Bk w4 g1 [.slice a1S U.nS k1S, .slice a1A U.nA k1A]) := G1_8.out.below hb4
    clear B8 M8 A8 O1_8 G1_8
    obtain ⟨gx, egx⟩ : ∃ g, g = w3.heap.size := ⟨_, rfl⟩
    rw [← egx] at hG ⊢
    have eg1 : gx ≤ w3.heap.size := by omega
    have eg2 : w3.heap.size ≤ gx := by omega
    clear egx
    have OX_10 : Hid (OwnT lx hx w4 (.agg #[.slice bS T.nS lS, .slice bA T.nA lA]) T) := hC.below hb4
    have C11 : Hid (TabAt w4 (.agg #[.slice bS T.nS lS, .slice bA T.nA lA]) T) := (hC.below hb4).at
    have X12 : Hid (Bk w4 gx [.slice bS T.nS lS, .slice bA T.nA lA]) := hG
    clear hG hC hb4
    have yx := X12.out.1
    go_cut [15, 16] (fun s t wx => ∃ g l h a2S k2S a2A k2A, .pointer (some ⟨g, 0, none⟩) = s ∧ .bool TB = t ∧ Bk wx g [.slice a2S U.nS k2S, .slice a2A U.nA k2A] ∧ OwnT l h wx (.agg #[.slice a2S U.nS k2S, .slice a2A U.nA k2A]) U ∧ (w4.heap.size ≤ g ∧ g < wx.heap.size ∧ w4.heap.size ≤ l ∧ l ≤ h ∧ h ≤ wx.heap.size ∧ (g < l ∨ h ≤ g)) ∧ Below w4.heap.size w4 wx)
    case first =>
      have yM0 : w4.cell? ⟨w.heap.size, 0, none⟩ = some (.int .i64 c) := (M9.out.2 0 (by simp)).1
      have yM1 : w4.cell? ⟨w.heap.size, 1, none⟩ = some (.int .i64 d) := (M9.out.2 1 (by simp)).1
      have hlM : w.heap.size < w4.heap.size := M9.out.1
      have yX0 : w4.cell? ⟨gx, 0, none⟩ = some (.slice bS T.nS lS) := (X12.out.2 0 (by simp)).1
      have yX1 : w4.cell? ⟨gx, 1, none⟩ = some (.slice bA T.nA lA) := (X12.out.2 1 (by simp)).1
      have hlX : gx < w4.heap.size := X12.out.1
      refine wp_region_held_drew (S := fun w' => Below (w4.heap.size) w4 w') (by kernel_rfl) ((Below.refl _ _).drew) ?_
      intro hHeld
      obtain ⟨X0, hX0⟩ : ∃ X, X = w4.drew := ⟨_, rfl⟩
      have hz0 : w4.heap.size ≤ X0.heap.size := by rw [hX0]; exact Nat.le_refl _
      rw [← hX0] at hHeld ⊢
      clear hX0
      refine wpAnyH_take (i := 0) (v := .agg #[.int .i64 c, .int .i64 d]) rfl (by kernel_rfl) (by kernel_rfl) (by kernel_rfl) (fun _ _ _ h => h) (Or.inl ⟨by rfl, ?_⟩) (by assumption) ?_
      · intro wx hSw; obtain ⟨hcS, hfS⟩ := bcellN hSw; go_simp
      try simp only [Act.put, List.setIfInBounds_toArray, List.set_cons_zero, List.set_cons_succ, List.getElem_toArray, List.getElem_cons_zero]
      refine wpAnyH_take (i := 2) (v := .agg #[.slice bS T.nS lS, .slice bA T.nA lA]) rfl (by kernel_rfl) (by kernel_rfl) (by kernel_rfl) (fun _ _ _ h => h) (Or.inl ⟨by rfl, ?_⟩) (by assumption) ?_
      · intro wx hSw; obtain ⟨hcS, hfS⟩ := bcellN hSw; go_simp
      try simp only [Act.put, List.setIfInBounds_toArray, List.set_cons_zero, List.set_cons_succ, List.getElem_toArray, List.getElem_cons_zero, List.getElem_cons_succ]
      refine wpAnyH_take (i := 3) (v := .int .i64 n) rfl (by kernel_rfl) (by kernel_rfl) (by kernel_rfl) (fun _ _ _ h => h) (Or.inl ⟨by rfl, ?_⟩) (by assumption) ?_
      · intro wx hSw; obtain ⟨hcS, hfS⟩ := bcellN hSw; go_simp
      try simp only [Act.put, List.setIfInBounds_toArray, List.set_cons_zero, List.set_cons_succ, List.getElem_toArray, List.getElem_cons_zero, List.getElem_cons_succ]
      refine wpAnyH_take (i := 4) (v := .int .i64 cell) rfl (by kernel_rfl) (by kernel_rfl) (by kernel_rfl) (fun _ _ _ h => h) (Or.inl ⟨by rfl, ?_⟩) (by assumption) ?_
      · intro wx hSw; obtain ⟨hcS, hfS⟩ := bcellN hSw; go_simp
      try simp only [Act.put, List.setIfInBounds_toArray, List.set_cons_zero, List.set_cons_succ, List.getElem_toArray, List.getElem_cons_zero, List.getElem_cons_succ]
      refine wpAnyH_take (i := 5) (v := .int .i64 server) rfl (by kernel_rfl) (by kernel_rfl) (by kernel_rfl) (fun _ _ _ h => h) (Or.inl ⟨by rfl, ?_⟩) (by assumption) ?_
      · intro wx hSw; obtain ⟨hcS, hfS⟩ := bcellN hSw; go_simp
      try simp only [Act.put, List.setIfInBounds_toArray, List.set_cons_zero, List.set_cons_succ, List.getElem_toArray, List.getElem_cons_zero, List.getElem_cons_succ]
      refine wpAnyH_ready (rs := [1, 10]) (by kernel_rfl) (by simp) ?_
      refine (AllReadyH.cons rfl (fun K hK => ?_) (AllReadyH.cons rfl (fun K hK => ?_) AllReadyH.nil))
      · go_simp
        go_wp2_with fail
        refine (toMap _ _ _).mono ?_
        rintro e xm ⟨rfl, hxm⟩
        have hsz_xm := hxm.size
        refine hK.out _ _ (bthenN hHeld (by omega) hxm) (fun hNew => ?_)
        clear hK K hHeld
        have hHeld := hNew
        clear hNew
        try simp only [Act.put, List.setIfInBounds_toArray, List.set_cons_zero, List.set_cons_succ, List.getElem_toArray, List.getElem_cons_zero, List.getElem_cons_succ]
        refine wpAnyH_ready (rs := [6, 10]) (by kernel_rfl) (by simp) ?_
        refine (AllReadyH.cons rfl (fun K hK => ?_) (AllReadyH.cons rfl (fun K hK => ?_) AllReadyH.nil))
        · go_simp
          go_wp2_with fail
          refine (grant_impl c d _ T n cell server HV.out _ (C11.out.below hHeld)).mono ?_
          rintro e xg ⟨⟨u, tt, rfl, ht, hO⟩, hxg⟩
          subst ht
          rw [EU.out] at hO
          rw [ET.out]
          obtain ⟨a2S, k2S, a2A, k2A, rfl, _, _⟩ := hO.at
          obtain ⟨lg, elg⟩ : ∃ l, l = xm.heap.size := ⟨_, rfl⟩
          obtain ⟨hg, ehg⟩ : ∃ l, l = xg.heap.size := ⟨_, rfl⟩
          rw [← elg, ← ehg] at hO
          have elg1 : lg ≤ xm.heap.size := by omega
          have elg2 : xm.heap.size ≤ lg := by omega
          have ehg1 : hg ≤ xg.heap.size := by omega
          have ehg2 : xg.heap.size ≤ hg := by omega
          clear elg ehg
          have hsz_xg := hxg.size
          refine hK.out _ _ (bthenN hHeld (by omega) hxg) (fun hNew => ?_)
          clear hK K hHeld
          have hHeld := hNew
          clear hNew
          try simp only [Act.put, List.setIfInBounds_toArray, List.set_cons_zero, List.set_cons_succ, List.getElem_toArray, List.getElem_cons_zero, List.getElem_cons_succ]
          refine wpAnyH_take (i := 7) (v := .tuple #[.agg #[.slice a2S U.nS k2S, .slice a2A U.nA k2A], .bool TB]) rfl (by kernel_rfl) (by kernel_rfl) (by kernel_rfl) (fun _ _ _ h => h) (Or.inl ⟨by rfl, ?_⟩) (by assumption) ?_
          · intro wx hSw; obtain ⟨hcS, hfS⟩ := bcellN hSw; go_simp
          try simp only [Act.put, List.setIfInBounds_toArray, List.set_cons_zero, List.set_cons_succ, List.getElem_toArray, List.getElem_cons_zero, List.getElem_cons_succ]
          refine wpAnyH_take (i := 8) (v := .agg #[.slice a2S U.nS k2S, .slice a2A U.nA k2A]) rfl (by kernel_rfl) (by kernel_rfl) (by kernel_rfl) (fun _ _ _ h => h) (Or.inl ⟨by rfl, ?_⟩) (by assumption) ?_
          · intro wx hSw; obtain ⟨hcS, hfS⟩ := bcellN hSw; go_simp
          try simp only [Act.put, List.setIfInBounds_toArray, List.set_cons_zero, List.set_cons_succ, List.getElem_toArray, List.getElem_cons_zero, List.getElem_cons_succ]
          refine wpAnyH_take (i := 9) (v := .bool TB) rfl (by kernel_rfl) (by kernel_rfl) (by kernel_rfl) (fun _ _ _ h => h) (Or.inl ⟨by rfl, ?_⟩) (by assumption) ?_
          · intro wx hSw; obtain ⟨hcS, hfS⟩ := bcellN hSw; go_simp
          try simp only [Act.put, List.setIfInBounds_toArray, List.set_cons_zero, List.set_cons_succ, List.getElem_toArray, List.getElem_cons_zero, List.getElem_cons_succ]
          refine wpAnyH_ready (rs := [10]) (by kernel_rfl) (by simp) ?_
          refine (AllReadyH.cons rfl (fun K hK => ?_) AllReadyH.nil)
          go_simp
          obtain ⟨XC, eA⟩ : ∃ X, X = xg.alloc (.cells #[.slice none 0 0, .slice none 0 0] 26) := ⟨_, rfl⟩
          rw [← eA]
          have hbA : Below xg.heap.size xg XC := by rw [eA]; exact (Below.refl _ _).alloc (Nat.le_refl _) _
          have hZC : Bk XC xg.heap.size [.slice none 0 0, .slice none 0 0] := by rw [eA]; exact bk_new xg 26 [.slice none 0 0, .slice none 0 0]
          have hzAC1 : XC.heap.size ≤ xg.heap.size + 1 := by rw [eA]; simp
          have hzAC2 : xg.heap.size + 1 ≤ XC.heap.size := by rw [eA]; simp
          clear eA
          replace hO := hO.below hbA
          have hsz_XC := hbA.size
          refine hK.out _ _ (bthenN hHeld (by omega) hbA) (fun hNew => ?_)
          clear hK K hHeld
          have hHeld := hNew
          clear hNew
          try simp only [Act.put, List.setIfInBounds_toArray, List.set_cons_zero, List.set_cons_succ, List.getElem_toArray, List.getElem_cons_zero, List.getElem_cons_succ]
          clear hbA
          obtain ⟨C, eC⟩ : ∃ g, g = xg.heap.size := ⟨_, rfl⟩
          rw [← eC] at hZC ⊢
          have eC1 : C ≤ xg.heap.size := by omega
          have eC2 : xg.heap.size ≤ C := by omega
          clear eC
          refine wpAnyH_ready (rs := [11]) (by kernel_rfl) (by simp) ?_
          refine (AllReadyH.cons rfl (fun K hK => ?_) AllReadyH.nil)
          have r0 := (hZC.2 0 (by simp)).1
          have r1 := (hZC.2 1 (by simp)).1
          have f0 := (hZC.2 0 (by simp)).2
          have f1 := (hZC.2 1 (by simp)).2
          simp only [List.getD, List.getElem?_cons_zero, List.getElem?_cons_succ, Option.getD_some] at r0 r1
          have lZC := hZC.1
          have hkC : w4.heap.size ≤ C := by omega
          go_simp
          obtain ⟨XSC, eS⟩ : ∃ X, X = ((XC.setCell ⟨C, 0, none⟩ (.slice a2S U.nS k2S)).setCell ⟨C, 1, none⟩ (.slice a2A U.nA k2A)) := ⟨_, rfl⟩
          rw [← eS]
          have hPC : Bk XSC C [.slice a2S U.nS k2S, .slice a2A U.nA k2A] := by rw [eS]; exact bk_put (l := [.slice a2S U.nS k2S, .slice a2A U.nA k2A]) hZC rfl
          have hzC1 : XSC.heap.size ≤ XC.heap.size := by rw [eS]; exact Nat.le_of_eq (size_put C [.slice a2S U.nS k2S, .slice a2A U.nA k2A] 0 XC)
          have hzC2 : XC.heap.size ≤ XSC.heap.size := by rw [eS]; exact Nat.le_of_eq (size_put C [.slice a2S U.nS k2S, .slice a2A U.nA k2A] 0 XC).symm
          have hmC : ∀ b, ¬ b = C → Sm XC XSC b := by rw [eS]; exact fun b hb => sm_put hb [.slice a2S U.nS k2S, .slice a2A U.nA k2A] 0 XC
          have hBC : Below (w4.heap.size) w4 XSC := by rw [eS]; exact below_put hkC [.slice a2S U.nS k2S, .slice a2A U.nA k2A] 0 hHeld
          clear eS r0 f0 r1 f1
          replace hO := hO.sm hzC2 (fun b q1 q2 => hmC b (by omega))
          refine hK.out _ _ hBC (fun hNew => ?_)
          clear hK K hHeld
          have hHeld := hNew
          clear hNew
          try simp only [Act.put, List.setIfInBounds_toArray, List.set_cons_zero, List.set_cons_succ, List.getElem_toArray, List.getElem_cons_zero, List.getElem_cons_succ]
          refine wpAnyH_take (i := 12) (v := .bool TB) rfl (by kernel_rfl) (by kernel_rfl) (by kernel_rfl) (fun _ _ _ h => h) (Or.inl ⟨by rfl, ?_⟩) (by assumption) ?_
          · intro wx hSw; obtain ⟨hcS, hfS⟩ := bcellN hSw; go_simp
          try simp only [Act.put, List.setIfInBounds_toArray, List.set_cons_zero, List.set_cons_succ, List.getElem_toArray, List.getElem_cons_zero, List.getElem_cons_succ]
          refine wpAnyH_done (by kernel_rfl) ?_ _
          go_wp2
          go_meet
          case rel => exact ⟨C, lg, hg, a2S, k2S, a2A, k2A, rfl, rfl, hPC, hO, ⟨by omega, hPC.1, by omega, by omega, by omega, by omega⟩, hHeld⟩
        · go_simp
          obtain ⟨XC, eA⟩ : ∃ X, X = xm.alloc (.cells #[.slice none 0 0, .slice none 0 0] 26) := ⟨_, rfl⟩
          rw [← eA]
          have hbA : Below xm.heap.size xm XC := by rw [eA]; exact (Below.refl _ _).alloc (Nat.le_refl _) _
          have hZC : Bk XC xm.heap.size [.slice none 0 0, .slice none 0 0] := by rw [eA]; exact bk_new xm 26 [.slice none 0 0, .slice none 0 0]
          have hzAC1 : XC.heap.size ≤ xm.heap.size + 1 := by rw [eA]; simp
          have hzAC2 : xm.heap.size + 1 ≤ XC.heap.size := by rw [eA]; simp
          clear eA
          have hsz_XC := hbA.size
          refine hK.out _ _ (bthenN hHeld (by omega) hbA) (fun hNew => ?_)
          clear hK K hHeld
          have hHeld := hNew
          clear hNew
          try simp only [Act.put, List.setIfInBounds_toArray, List.set_cons_zero, List.set_cons_succ, List.getElem_toArray, List.getElem_cons_zero, List.getElem_cons_succ]
          clear hbA
          obtain ⟨C, eC⟩ : ∃ g, g = xm.heap.size := ⟨_, rfl⟩
          rw [← eC] at hZC ⊢
          have eC1 : C ≤ xm.heap.size := by omega
          have eC2 : xm.heap.size ≤ C := by omega
          clear eC
          refine wpAnyH_ready (rs := [6]) (by kernel_rfl) (by simp) ?_
          refine (AllReadyH.cons rfl (fun K hK => ?_) AllReadyH.nil)
          go_simp
          go_wp2_with fail
          refine (grant_impl c d _ T n cell server HV.out _ (C11.out.below hHeld)).mono ?_
          rintro e xg ⟨⟨u, tt, rfl, ht, hO⟩, hxg⟩
          subst ht
          rw [EU.out] at hO
          rw [ET.out]
          obtain ⟨a2S, k2S, a2A, k2A, rfl, _, _⟩ := hO.at
          obtain ⟨lg, elg⟩ : ∃ l, l = XC.heap.size := ⟨_, rfl⟩
          obtain ⟨hg, ehg⟩ : ∃ l, l = xg.heap.size := ⟨_, rfl⟩
          rw [← elg, ← ehg] at hO
          have elg1 : lg ≤ XC.heap.size := by omega
          have elg2 : XC.heap.size ≤ lg := by omega
          have ehg1 : hg ≤ xg.heap.size := by omega
          have ehg2 : xg.heap.size ≤ hg := by omega
          clear elg ehg
          replace hZC := hZC.below hxg
          have hsz_xg := hxg.size
          refine hK.out _ _ (bthenN hHeld (by omega) hxg) (fun hNew => ?_)
          clear hK K hHeld
          have hHeld := hNew
          clear hNew
          try simp only [Act.put, List.setIfInBounds_toArray, List.set_cons_zero, List.set_cons_succ, List.getElem_toArray, List.getElem_cons_zero, List.getElem_cons_succ]
          refine wpAnyH_take (i := 7) (v := .tuple #[.agg #[.slice a2S U.nS k2S, .slice a2A U.nA k2A], .bool TB]) rfl (by kernel_rfl) (by kernel_rfl) (by kernel_rfl) (fun _ _ _ h => h) (Or.inl ⟨by rfl, ?_⟩) (by assumption) ?_
          · intro wx hSw; obtain ⟨hcS, hfS⟩ := bcellN hSw; go_simp
          try simp only [Act.put, List.setIfInBounds_toArray, List.set_cons_zero, List.set_cons_succ, List.getElem_toArray, List.getElem_cons_zero, List.getElem_cons_succ]
          refine wpAnyH_take (i := 8) (v := .agg #[.slice a2S U.nS k2S, .slice a2A U.nA k2A]) rfl (by kernel_rfl) (by kernel_rfl) (by kernel_rfl) (fun _ _ _ h => h) (Or.inl ⟨by rfl, ?_⟩) (by assumption) ?_
          · intro wx hSw; obtain ⟨hcS, hfS⟩ := bcellN hSw; go_simp
          try simp only [Act.put, List.setIfInBounds_toArray, List.set_cons_zero, List.set_cons_succ, List.getElem_toArray, List.getElem_cons_zero, List.getElem_cons_succ]
          refine wpAnyH_take (i := 9) (v := .bool TB) rfl (by kernel_rfl) (by kernel_rfl) (by kernel_rfl) (fun _ _ _ h => h) (Or.inl ⟨by rfl, ?_⟩) (by assumption) ?_
          · intro wx hSw; obtain ⟨hcS, hfS⟩ := bcellN hSw; go_simp
          try simp only [Act.put, List.setIfInBounds_toArray, List.set_cons_zero, List.set_cons_succ, List.getElem_toArray, List.getElem_cons_zero, List.getElem_cons_succ]
          refine wpAnyH_ready (rs := [11]) (by kernel_rfl) (by simp) ?_
          refine (AllReadyH.cons rfl (fun K hK => ?_) AllReadyH.nil)
          have r0 := (hZC.2 0 (by simp)).1
          have r1 := (hZC.2 1 (by simp)).1
          have f0 := (hZC.2 0 (by simp)).2
          have f1 := (hZC.2 1 (by simp)).2
          simp only [List.getD, List.getElem?_cons_zero, List.getElem?_cons_succ, Option.getD_some] at r0 r1
          have lZC := hZC.1
          have hkC : w4.heap.size ≤ C := by omega
          go_simp
          obtain ⟨XSC, eS⟩ : ∃ X, X = ((xg.setCell ⟨C, 0, none⟩ (.slice a2S U.nS k2S)).setCell ⟨C, 1, none⟩ (.slice a2A U.nA k2A)) := ⟨_, rfl⟩
          rw [← eS]
          have hPC : Bk XSC C [.slice a2S U.nS k2S, .slice a2A U.nA k2A] := by rw [eS]; exact bk_put (l := [.slice a2S U.nS k2S, .slice a2A U.nA k2A]) hZC rfl
          have hzC1 : XSC.heap.size ≤ xg.heap.size := by rw [eS]; exact Nat.le_of_eq (size_put C [.slice a2S U.nS k2S, .slice a2A U.nA k2A] 0 xg)
          have hzC2 : xg.heap.size ≤ XSC.heap.size := by rw [eS]; exact Nat.le_of_eq (size_put C [.slice a2S U.nS k2S, .slice a2A U.nA k2A] 0 xg).symm
          have hmC : ∀ b, ¬ b = C → Sm xg XSC b := by rw [eS]; exact fun b hb => sm_put hb [.slice a2S U.nS k2S, .slice a2A U.nA k2A] 0 xg
          have hBC : Below (w4.heap.size) w4 XSC := by rw [eS]; exact below_put hkC [.slice a2S U.nS k2S, .slice a2A U.nA k2A] 0 hHeld
          clear eS r0 f0 r1 f1
          replace hO := hO.sm hzC2 (fun b q1 q2 => hmC b (by omega))
          refine hK.out _ _ hBC (fun hNew => ?_)
          clear hK K hHeld
          have hHeld := hNew
          clear hNew
          try simp only [Act.put, List.setIfInBounds_toArray, List.set_cons_zero, List.set_cons_succ, List.getElem_toArray, List.getElem_cons_zero, List.getElem_cons_succ]
          refine wpAnyH_take (i := 12) (v := .bool TB) rfl (by kernel_rfl) (by kernel_rfl) (by kernel_rfl) (fun _ _ _ h => h) (Or.inl ⟨by rfl, ?_⟩) (by assumption) ?_
          · intro wx hSw; obtain ⟨hcS, hfS⟩ := bcellN hSw; go_simp
          try simp only [Act.put, List.setIfInBounds_toArray, List.set_cons_zero, List.set_cons_succ, List.getElem_toArray, List.getElem_cons_zero, List.getElem_cons_succ]
          refine wpAnyH_done (by kernel_rfl) ?_ _
          go_wp2
          go_meet
          case rel => exact ⟨C, lg, hg, a2S, k2S, a2A, k2A, rfl, rfl, hPC, hO, ⟨by omega, hPC.1, by omega, by omega, by omega, by omega⟩, hHeld⟩
      · go_simp
        obtain ⟨XC, eA⟩ : ∃ X, X = X0.alloc (.cells #[.slice none 0 0, .slice none 0 0] 26) := ⟨_, rfl⟩
        rw [← eA]
        have hbA : Below X0.heap.size X0 XC := by rw [eA]; exact (Below.refl _ _).alloc (Nat.le_refl _) _
        have hZC : Bk XC X0.heap.size [.slice none 0 0, .slice none 0 0] := by rw [eA]; exact bk_new X0 26 [.slice none 0 0, .slice none 0 0]
        have hzAC1 : XC.heap.size ≤ X0.heap.size + 1 := by rw [eA]; simp
        have hzAC2 : X0.heap.size + 1 ≤ XC.heap.size := by rw [eA]; simp
        clear eA
        have hsz_XC := hbA.size
        refine hK.out _ _ (bthenN hHeld (by omega) hbA) (fun hNew => ?_)
        clear hK K hHeld
        have hHeld := hNew
        clear hNew
        try simp only [Act.put, List.setIfInBounds_toArray, List.set_cons_zero, List.set_cons_succ, List.getElem_toArray, List.getElem_cons_zero, List.getElem_cons_succ]
        clear hbA
        obtain ⟨C, eC⟩ : ∃ g, g = X0.heap.size := ⟨_, rfl⟩
        rw [← eC] at hZC ⊢
        have eC1 : C ≤ X0.heap.size := by omega
        have eC2 : X0.heap.size ≤ C := by omega
        clear eC
        refine wpAnyH_ready (rs := [1]) (by kernel_rfl) (by simp) ?_
        refine (AllReadyH.cons rfl (fun K hK => ?_) AllReadyH.nil)
        go_simp
        go_wp2_with fail
        refine (toMap _ _ _).mono ?_
        rintro e xm ⟨rfl, hxm⟩
        replace hZC := hZC.below hxm
        have hsz_xm := hxm.size
        refine hK.out _ _ (bthenN hHeld (by omega) hxm) (fun hNew => ?_)
        clear hK K hHeld
        have hHeld := hNew
        clear hNew
        try simp only [Act.put, List.setIfInBounds_toArray, List.set_cons_zero, List.set_cons_succ, List.getElem_toArray, List.getElem_cons_zero, List.getElem_cons_succ]
        refine wpAnyH_ready (rs := [6]) (by kernel_rfl) (by simp) ?_
        refine (AllReadyH.cons rfl (fun K hK => ?_) AllReadyH.nil)
        go_simp
        go_wp2_with fail
        refine (grant_impl c d _ T n cell server HV.out _ (C11.out.below hHeld)).mono ?_
        rintro e xg ⟨⟨u, tt, rfl, ht, hO⟩, hxg⟩
        subst ht
        rw [EU.out] at hO
        rw [ET.out]
        obtain ⟨a2S, k2S, a2A, k2A, rfl, _, _⟩ := hO.at
        obtain ⟨lg, elg⟩ : ∃ l, l = xm.heap.size := ⟨_, rfl⟩
        obtain ⟨hg, ehg⟩ : ∃ l, l = xg.heap.size := ⟨_, rfl⟩
        rw [← elg, ← ehg] at hO
        have elg1 : lg ≤ xm.heap.size := by omega
        have elg2 : xm.heap.size ≤ lg := by omega
        have ehg1 : hg ≤ xg.heap.size := by omega
        have ehg2 : xg.heap.size ≤ hg := by omega
        clear elg ehg
        replace hZC := hZC.below hxg
        have hsz_xg := hxg.size
        refine hK.out _ _ (bthenN hHeld (by omega) hxg) (fun hNew => ?_)
        clear hK K hHeld
        have hHeld := hNew
        clear hNew
        try simp only [Act.put, List.setIfInBounds_toArray, List.set_cons_zero, List.set_cons_succ, List.getElem_toArray, List.getElem_cons_zero, List.getElem_cons_succ]
        refine wpAnyH_take (i := 7) (v := .tuple #[.agg #[.slice a2S U.nS k2S, .slice a2A U.nA k2A], .bool TB]) rfl (by kernel_rfl) (by kernel_rfl) (by kernel_rfl) (fun _ _ _ h => h) (Or.inl ⟨by rfl, ?_⟩) (by assumption) ?_
        · intro wx hSw; obtain ⟨hcS, hfS⟩ := bcellN hSw; go_simp
        try simp only [Act.put, List.setIfInBounds_toArray, List.set_cons_zero, List.set_cons_succ, List.getElem_toArray, List.getElem_cons_zero, List.getElem_cons_succ]
        refine wpAnyH_take (i := 8) (v := .agg #[.slice a2S U.nS k2S, .slice a2A U.nA k2A]) rfl (by kernel_rfl) (by kernel_rfl) (by kernel_rfl) (fun _ _ _ h => h) (Or.inl ⟨by rfl, ?_⟩) (by assumption) ?_
        · intro wx hSw; obtain ⟨hcS, hfS⟩ := bcellN hSw; go_simp
        try simp only [Act.put, List.setIfInBounds_toArray, List.set_cons_zero, List.set_cons_succ, List.getElem_toArray, List.getElem_cons_zero, List.getElem_cons_succ]
        refine wpAnyH_take (i := 9) (v := .bool TB) rfl (by kernel_rfl) (by kernel_rfl) (by kernel_rfl) (fun _ _ _ h => h) (Or.inl ⟨by rfl, ?_⟩) (by assumption) ?_
        · intro wx hSw; obtain ⟨hcS, hfS⟩ := bcellN hSw; go_simp
        try simp only [Act.put, List.setIfInBounds_toArray, List.set_cons_zero, List.set_cons_succ, List.getElem_toArray, List.getElem_cons_zero, List.getElem_cons_succ]
        refine wpAnyH_ready (rs := [11]) (by kernel_rfl) (by simp) ?_
        refine (AllReadyH.cons rfl (fun K hK => ?_) AllReadyH.nil)
        have r0 := (hZC.2 0 (by simp)).1
        have r1 := (hZC.2 1 (by simp)).1
        have f0 := (hZC.2 0 (by simp)).2
        have f1 := (hZC.2 1 (by simp)).2
        simp only [List.getD, List.getElem?_cons_zero, List.getElem?_cons_succ, Option.getD_some] at r0 r1
        have lZC := hZC.1
        have hkC : w4.heap.size ≤ C := by omega
        go_simp
        obtain ⟨XSC, eS⟩ : ∃ X, X = ((xg.setCell ⟨C, 0, none⟩ (.slice a2S U.nS k2S)).setCell ⟨C, 1, none⟩ (.slice a2A U.nA k2A)) := ⟨_, rfl⟩
        rw [← eS]
        have hPC : Bk XSC C [.slice a2S U.nS k2S, .slice a2A U.nA k2A] := by rw [eS]; exact bk_put (l := [.slice a2S U.nS k2S, .slice a2A U.nA k2A]) hZC rfl
        have hzC1 : XSC.heap.size ≤ xg.heap.size := by rw [eS]; exact Nat.le_of_eq (size_put C [.slice a2S U.nS k2S, .slice a2A U.nA k2A] 0 xg)
        have hzC2 : xg.heap.size ≤ XSC.heap.size := by rw [eS]; exact Nat.le_of_eq (size_put C [.slice a2S U.nS k2S, .slice a2A U.nA k2A] 0 xg).symm
        have hmC : ∀ b, ¬ b = C → Sm xg XSC b := by rw [eS]; exact fun b hb => sm_put hb [.slice a2S U.nS k2S, .slice a2A U.nA k2A] 0 xg
        have hBC : Below (w4.heap.size) w4 XSC := by rw [eS]; exact below_put hkC [.slice a2S U.nS k2S, .slice a2A U.nA k2A] 0 hHeld
        clear eS r0 f0 r1 f1
        replace hO := hO.sm hzC2 (fun b q1 q2 => hmC b (by omega))
        refine hK.out _ _ hBC (fun hNew => ?_)
        clear hK K hHeld
        have hHeld := hNew
        clear hNew
        try simp only [Act.put, List.setIfInBounds_toArray, List.set_cons_zero, List.set_cons_succ, List.getElem_toArray, List.getElem_cons_zero, List.getElem_cons_succ]
        refine wpAnyH_take (i := 12) (v := .bool TB) rfl (by kernel_rfl) (by kernel_rfl) (by kernel_rfl) (fun _ _ _ h => h) (Or.inl ⟨by rfl, ?_⟩) (by assumption) ?_
        · intro wx hSw; obtain ⟨hcS, hfS⟩ := bcellN hSw; go_simp
        try simp only [Act.put, List.setIfInBounds_toArray, List.set_cons_zero, List.set_cons_succ, List.getElem_toArray, List.getElem_cons_zero, List.getElem_cons_succ]
        refine wpAnyH_done (by kernel_rfl) ?_ _
        go_wp2
        go_meet
        case rel => exact ⟨C, lg, hg, a2S, k2S, a2A, k2A, rfl, rfl, hPC, hO, ⟨by omega, hPC.1, by omega, by omega, by omega, by omega⟩, hHeld⟩
    case rest =>
      obtain ⟨w5, hwn⟩ : ∃ wn, wn = wc := ⟨_, rfl⟩
      subst hwn
      obtain ⟨g2, l2, h2, a2S, k2S, a2A, k2A, rfl, rfl, hG, hO, ⟨c21, c22, c23, c24, c25, c26⟩, hb⟩ := hcut
      have y_w5 : w4.heap.size ≤ w5.heap.size := hb.size
      have B13 : Hid (Below w.heap.size w w5) := bthen B9.out hb
      have M13 : Hid (Bk w5 w.heap.size [.int .i64 c, .int .i64 d]) := M9.out.below hb
      have A13 : Hid (Bk w5 (w.heap.size + 1) [.slice aS T.nS kS, .slice aA T.nA kA]) := A9.out.below hb
      have O1_13 : Hid (OwnT l1 h1 w5 (.agg #[.slice a1S U.nS k1S, .slice a1A U.nA k1A]) U) := O1_9.out.below hb
      have G1_13 : Hid (Bk w5 g1 [.slice a1S U.nS k1S, .slice a1A U.nA k1A]) := G1_9.out.below hb
      have OX_13 : Hid (OwnT lx hx w5 (.agg #[.slice bS T.nS lS, .slice bA T.nA lA]) T) := OX_10.out.below hb
      have C13 : Hid (TabAt w5 (.agg #[.slice bS T.nS lS, .slice bA T.nA lA]) T) := C11.out.below hb
      have X13 : Hid (Bk w5 gx [.slice bS T.nS lS, .slice bA T.nA lA]) := X12.out.below hb
      clear B9 M9 A9 O1_9 G1_9 OX_10 C11 X12
      have O2_14 : Hid (OwnT l2 h2 w5 (.agg #[.slice a2S U.nS k2S, .slice a2A U.nA k2A]) U) := hO
      have G2_15 : Hid (Bk w5 g2 [.slice a2S U.nS k2S, .slice a2A U.nA k2A]) := hG
      clear hO hG hb
      clear C13
      have yG1_0 : w5.cell? ⟨g1, 0, none⟩ = some (.slice a1S U.nS k1S) := (G1_13.out.2 0 (by simp)).1
      have yG1_1 : w5.cell? ⟨g1, 1, none⟩ = some (.slice a1A U.nA k1A) := (G1_13.out.2 1 (by simp)).1
      have hlG1_ : g1 < w5.heap.size := G1_13.out.1
      have yG2_0 : w5.cell? ⟨g2, 0, none⟩ = some (.slice a2S U.nS k2S) := (G2_15.out.2 0 (by simp)).1
      have yG2_1 : w5.cell? ⟨g2, 1, none⟩ = some (.slice a2A U.nA k2A) := (G2_15.out.2 1 (by simp)).1
      have hlG2_ : g2 < w5.heap.size := G2_15.out.1
      go_wp2_with fail
      refine (eqTab _ _ U (HU.out.more (by decide)) _ (O2_14.out.at) (O1_13.out.at)).mono ?_
      rintro e w6 ⟨rfl, hb⟩
      clear yG1_0 yG1_1 hlG1_ yG2_0 yG2_1 hlG2_
      have y_w6 : w5.heap.size ≤ w6.heap.size := hb.size
      have B16 : Hid (Below w.heap.size w w6) := bthen B13.out hb
      have M16 : Hid (Bk w6 w.heap.size [.int .i64 c, .int .i64 d]) := M13.out.below hb
      have A16 : Hid (Bk w6 (w.heap.size + 1) [.slice aS T.nS kS, .slice aA T.nA kA]) := A13.out.below hb
      have O1_16 : Hid (OwnT l1 h1 w6 (.agg #[.slice a1S U.nS k1S, .slice a1A U.nA k1A]) U) := O1_13.out.below hb
      have G1_16 : Hid (Bk w6 g1 [.slice a1S U.nS k1S, .slice a1A U.nA k1A]) := G1_13.out.below hb
      have OX_16 : Hid (OwnT lx hx w6 (.agg #[.slice bS T.nS lS, .slice bA T.nA lA]) T) := OX_13.out.below hb
      have X16 : Hid (Bk w6 gx [.slice bS T.nS lS, .slice bA T.nA lA]) := X13.out.below hb
      have O2_16 : Hid (OwnT l2 h2 w6 (.agg #[.slice a2S U.nS k2S, .slice a2A U.nA k2A]) U) := O2_14.out.below hb
      have G2_16 : Hid (Bk w6 g2 [.slice a2S U.nS k2S, .slice a2A U.nA k2A]) := G2_15.out.below hb
      clear B13 M13 A13 O1_13 G1_13 OX_13 X13 O2_14 G2_15
      clear hb
      go_upto_region 10 with fail
      have yX0 : w6.cell? ⟨gx, 0, none⟩ = some (.slice bS T.nS lS) := (X16.out.2 0 (by simp)).1
      have yX1 : w6.cell? ⟨gx, 1, none⟩ = some (.slice bA T.nA lA) := (X16.out.2 1 (by simp)).1
      have hlX : gx < w6.heap.size := X16.out.1
      have yA0 : w6.cell? ⟨(w.heap.size + 1), 0, none⟩ = some (.slice aS T.nS kS) := (A16.out.2 0 (by simp)).1
      have yA1 : w6.cell? ⟨(w.heap.size + 1), 1, none⟩ = some (.slice aA T.nA kA) := (A16.out.2 1 (by simp)).1
      have hlA : (w.heap.size + 1) < w6.heap.size := A16.out.1
      refine wp_region_held_drew (S := fun w' => (∀ b o, b < w6.heap.size → w'.cell? ⟨b, o, none⟩ = w6.cell? ⟨b, o, none⟩) ∧ w6.heap.size ≤ w'.heap.size) (by kernel_rfl) ⟨fun _ _ _ => rfl, Nat.le_refl _⟩ ?_
      intro hHeld
      refine wpAnyH_take (i := 0) (v := .agg #[.slice bS T.nS lS, .slice bA T.nA lA]) rfl (by kernel_rfl) (by kernel_rfl) (by kernel_rfl) (fun _ _ _ h => h) (Or.inl ⟨by rfl, ?_⟩) (by assumption) ?_
      · intro wx hSw; go_simp
      try simp only [Act.put, List.setIfInBounds_toArray, List.set_cons_zero, List.set_cons_succ, List.getElem_toArray, List.getElem_cons_zero]
      refine wpAnyH_take (i := 1) (v := .agg #[.slice aS T.nS kS, .slice aA T.nA kA]) rfl (by kernel_rfl) (by kernel_rfl) (by kernel_rfl) (fun _ _ _ h => h) (Or.inl ⟨by rfl, ?_⟩) (by assumption) ?_
      · intro wx hSw; go_simp
      try simp only [Act.put, List.setIfInBounds_toArray, List.set_cons_zero, List.set_cons_succ, List.getElem_toArray, List.getElem_cons_zero, List.getElem_cons_succ]
      refine wpAnyH_ready (rs := [2]) (by kernel_rfl) (by simp) ?_
      refine AllReadyH.cons rfl (fun K hK => ?_) AllReadyH.nil
      go_simp
      go_wp2_with fail
      refine (toTab _ T HV.out _ (H0.out.below (bthen B16.out (by repeat (first | exact Below.refl _ _ | refine bthen ?_ (by assumption) | apply Below.drew))))).mono ?_
      rintro e t1 ⟨⟨v4, rfl, hC3⟩, ht1⟩
      refine hK.out _ _ (keepS (by assumption) ht1) (fun hNew => ?_)
      clear hK K hHeld
      have hHeld := hNew
      clear hNew
      try simp only [Act.put, List.setIfInBounds_toArray, List.set_cons_zero, List.set_cons_succ, List.getElem_toArray, List.getElem_cons_zero, List.getElem_cons_succ]
      refine wpAnyH_ready (rs := [3]) (by kernel_rfl) (by simp) ?_
      refine AllReadyH.cons rfl (fun K hK => ?_) AllReadyH.nil
      go_simp
      go_wp2_with fail
      refine (eqTab _ _ T (HV.out.more (by decide)) _ ((OX_16.out.at).below (by repeat (first | exact Below.refl _ _ | refine bthen ?_ (by assumption) | apply Below.drew))) hC3.at).mono ?_
      rintro e t2 ⟨rfl, ht2⟩
      refine hK.out _ _ (keepS (by assumption) ht2) (fun hNew => ?_)
      clear hK K hHeld
      have hHeld := hNew
      clear hNew
      try simp only [Act.put, List.setIfInBounds_toArray, List.set_cons_zero, List.set_cons_succ, List.getElem_toArray, List.getElem_cons_zero, List.getElem_cons_succ]
      refine wpAnyH_take (i := 4) (v := .bool false) rfl (by kernel_rfl) (by kernel_rfl) (by kernel_rfl) (fun _ _ _ h => h) (Or.inl ⟨by rfl, ?_⟩) (by assumption) ?_
      · intro wx hSw; go_simp
      try simp only [Act.put, List.setIfInBounds_toArray, List.set_cons_zero, List.set_cons_succ, List.getElem_toArray, List.getElem_cons_zero, List.getElem_cons_succ]
      refine wpAnyH_done (by kernel_rfl) ?_ _
      clear hHeld
      have hb7 : Below w6.heap.size w6 t2 := by repeat (first | exact Below.refl _ _ | refine bthen ?_ (by assumption) | apply Below.drew)
      generalize t2 = w7 at *
      clear yX0 yX1 hlX yA0 yA1 hlA
      have y_w7 : w6.heap.size ≤ w7.heap.size := hb7.size
      have B17 : Hid (Below w.heap.size w w7) := bthen B16.out hb7
      have M17 : Hid (Bk w7 w.heap.size [.int .i64 c, .int .i64 d]) := M16.out.below hb7
      have A17 : Hid (Bk w7 (w.heap.size + 1) [.slice aS T.nS kS, .slice aA T.nA kA]) := A16.out.below hb7
      have O1_17 : Hid (OwnT l1 h1 w7 (.agg #[.slice a1S U.nS k1S, .slice a1A U.nA k1A]) U) := O1_16.out.below hb7
      have G1_17 : Hid (Bk w7 g1 [.slice a1S U.nS k1S, .slice a1A U.nA k1A]) := G1_16.out.below hb7
      have OX_17 : Hid (OwnT lx hx w7 (.agg #[.slice bS T.nS lS, .slice bA T.nA lA]) T) := OX_16.out.below hb7
      have X17 : Hid (Bk w7 gx [.slice bS T.nS lS, .slice bA T.nA lA]) := X16.out.below hb7
      have O2_17 : Hid (OwnT l2 h2 w7 (.agg #[.slice a2S U.nS k2S, .slice a2A U.nA k2A]) U) := O2_16.out.below hb7
      have G2_17 : Hid (Bk w7 g2 [.slice a2S U.nS k2S, .slice a2A U.nA k2A]) := G2_16.out.below hb7
      clear B16 M16 A16 O1_16 G1_16 OX_16 X16 O2_16 G2_16
      clear hb7 ht1 ht2 hC3
      have yX0 : w7.cell? ⟨gx, 0, none⟩ = some (.slice bS T.nS lS) := (X17.out.2 0 (by simp)).1
      have yX1 : w7.cell? ⟨gx, 1, none⟩ = some (.slice bA T.nA lA) := (X17.out.2 1 (by simp)).1
      have hlX : gx < w7.heap.size := X17.out.1
      go_wp2_with fail
      clear yX0 yX1 hlX
      refine (markT lx hx _ T HV.out _ (by omega) (by omega) OX_17.out).mono ?_
      rintro e w8 ⟨rfl, hO, hz, hsm, hbl⟩
      have y_w8 : w7.heap.size ≤ w8.heap.size := hz
      have B18 : Hid (Below w.heap.size w w8) := B17.out.trans (hbl.mono (by omega))
      have M18 : Hid (Bk w8 w.heap.size [.int .i64 c, .int .i64 d]) := M17.out.sm hz (hsm (w.heap.size) (by omega) (by omega))
      have A18 : Hid (Bk w8 (w.heap.size + 1) [.slice aS T.nS kS, .slice aA T.nA kA]) := A17.out.sm hz (hsm ((w.heap.size + 1)) (by omega) (by omega))
      have O1_18 : Hid (OwnT l1 h1 w8 (.agg #[.slice a1S U.nS k1S, .slice a1A U.nA k1A]) U) := O1_17.out.sm hz (fun b q1 q2 => hsm b (by omega) (by omega))
      have G1_18 : Hid (Bk w8 g1 [.slice a1S U.nS k1S, .slice a1A U.nA k1A]) := G1_17.out.sm hz (hsm (g1) (by omega) (by omega))
      have X18 : Hid (Bk w8 gx [.slice bS T.nS lS, .slice bA T.nA lA]) := X17.out.sm hz (hsm (gx) (by omega) (by omega))
      have O2_18 : Hid (OwnT l2 h2 w8 (.agg #[.slice a2S U.nS k2S, .slice a2A U.nA k2A]) U) := O2_17.out.sm hz (fun b q1 q2 => hsm b (by omega) (by omega))
      have G2_18 : Hid (Bk w8 g2 [.slice a2S U.nS k2S, .slice a2A U.nA k2A]) := G2_17.out.sm hz (hsm (g2) (by omega) (by omega))
      clear B17 M17 A17 O1_17 G1_17 X17 O2_17 G2_17
      clear hO hz hsm hbl OX_17
      have nn8 : ¬ ((1 + T.nS + T.nA : Nat) : Int) < 0 := by omega
      have yG1_0 : w8.cell? ⟨g1, 0, none⟩ = some (.slice a1S U.nS k1S) := (G1_18.out.2 0 (by simp)).1
      have yG1_1 : w8.cell? ⟨g1, 1, none⟩ = some (.slice a1A U.nA k1A) := (G1_18.out.2 1 (by simp)).1
      have hlG1_ : g1 < w8.heap.size := G1_18.out.1
      have yG2_0 : w8.cell? ⟨g2, 0, none⟩ = some (.slice a2S U.nS k2S) := (G2_18.out.2 0 (by simp)).1
      have yG2_1 : w8.cell? ⟨g2, 1, none⟩ = some (.slice a2A U.nA k2A) := (G2_18.out.2 1 (by simp)).1
      have hlG2_ : g2 < w8.heap.size := G2_18.out.1
      go_wp2_with fail
      refine (eqTab _ _ U (HU.out.more (by decide)) _ (O2_18.out.at) (O1_18.out.at)).mono ?_
      rintro e w9 ⟨rfl, hb⟩
      clear yG1_0 yG1_1 hlG1_ yG2_0 yG2_1 hlG2_
      have y_w9 : w8.heap.size ≤ w9.heap.size := hb.size
      have B19 : Hid (Below w.heap.size w w9) := bthen B18.out hb
      have M19 : Hid (Bk w9 w.heap.size [.int .i64 c, .int .i64 d]) := M18.out.below hb
      have A19 : Hid (Bk w9 (w.heap.size + 1) [.slice aS T.nS kS, .slice aA T.nA kA]) := A18.out.below hb
      have O1_19 : Hid (OwnT l1 h1 w9 (.agg #[.slice a1S U.nS k1S, .slice a1A U.nA k1A]) U) := O1_18.out.below hb
      have G1_19 : Hid (Bk w9 g1 [.slice a1S U.nS k1S, .slice a1A U.nA k1A]) := G1_18.out.below hb
      have X19 : Hid (Bk w9 gx [.slice bS T.nS lS, .slice bA T.nA lA]) := X18.out.below hb
      have O2_19 : Hid (OwnT l2 h2 w9 (.agg #[.slice a2S U.nS k2S, .slice a2A U.nA k2A]) U) := O2_18.out.below hb
      have G2_19 : Hid (Bk w9 g2 [.slice a2S U.nS k2S, .slice a2A U.nA k2A]) := G2_18.out.below hb
      clear B18 M18 A18 O1_18 G1_18 X18 O2_18 G2_18
      clear hb
      have yG2_0 : w9.cell? ⟨g2, 0, none⟩ = some (.slice a2S U.nS k2S) := (G2_19.out.2 0 (by simp)).1
      have yG2_1 : w9.cell? ⟨g2, 1, none⟩ = some (.slice a2A U.nA k2A) := (G2_19.out.2 1 (by simp)).1
      have hlG2_ : g2 < w9.heap.size := G2_19.out.1
      go_wp2_with fail
      clear yG2_0 yG2_1 hlG2_
      refine (markT l2 h2 _ U HU.out _ (by omega) (by omega) O2_19.out).mono ?_
      rintro e w10 ⟨rfl, hO, hz, hsm, hbl⟩
      have y_w10 : w9.heap.size ≤ w10.heap.size := hz
      have B20 : Hid (Below w.heap.size w w10) := B19.out.trans (hbl.mono (by omega))
      have M20 : Hid (Bk w10 w.heap.size [.int .i64 c, .int .i64 d]) := M19.out.sm hz (hsm (w.heap.size) (by omega) (by omega))
      have A20 : Hid (Bk w10 (w.heap.size + 1) [.slice aS T.nS kS, .slice aA T.nA kA]) := A19.out.sm hz (hsm ((w.heap.size + 1)) (by omega) (by omega))
      have O1_20 : Hid (OwnT l1 h1 w10 (.agg #[.slice a1S U.nS k1S, .slice a1A U.nA k1A]) U) := O1_19.out.sm hz (fun b q1 q2 => hsm b (by omega) (by omega))
      have G1_20 : Hid (Bk w10 g1 [.slice a1S U.nS k1S, .slice a1A U.nA k1A]) := G1_19.out.sm hz (hsm (g1) (by omega) (by omega))
      have X20 : Hid (Bk w10 gx [.slice bS T.nS lS, .slice bA T.nA lA]) := X19.out.sm hz (hsm (gx) (by omega) (by omega))
      have G2_20 : Hid (Bk w10 g2 [.slice a2S U.nS k2S, .slice a2A U.nA k2A]) := G2_19.out.sm hz (hsm (g2) (by omega) (by omega))
      clear B19 M19 A19 O1_19 G1_19 X19 G2_19
      have O2_21 : Hid (OwnT l2 h2 w10 (.agg #[.slice a2S U.nS k2S, .slice a2A U.nA k2A]) U.marked) := hO
      clear hO hz hsm hbl O2_19
      have nn10 : ¬ ((1 + U.nS + U.nA : Nat) : Int) < 0 := by omega
      have yG2_0 : w10.cell? ⟨g2, 0, none⟩ = some (.slice a2S U.nS k2S) := (G2_20.out.2 0 (by simp)).1
      have yG2_1 : w10.cell? ⟨g2, 1, none⟩ = some (.slice a2A U.nA k2A) := (G2_20.out.2 1 (by simp)).1
      have hlG2_ : g2 < w10.heap.size := G2_20.out.1
      go_wp2_with fail
      refine (heldT l2 h2 _ U HU.out _ (by omega) O2_21.out).mono ?_
      rintro e w11 ⟨rfl, hb⟩
      clear yG2_0 yG2_1 hlG2_
      have y_w11 : w10.heap.size ≤ w11.heap.size := hb.size
      have B22 : Hid (Below w.heap.size w w11) := bthen B20.out hb
      have M22 : Hid (Bk w11 w.heap.size [.int .i64 c, .int .i64 d]) := M20.out.below hb
      have A22 : Hid (Bk w11 (w.heap.size + 1) [.slice aS T.nS kS, .slice aA T.nA kA]) := A20.out.below hb
      have O1_22 : Hid (OwnT l1 h1 w11 (.agg #[.slice a1S U.nS k1S, .slice a1A U.nA k1A]) U) := O1_20.out.below hb
      have G1_22 : Hid (Bk w11 g1 [.slice a1S U.nS k1S, .slice a1A U.nA k1A]) := G1_20.out.below hb
      have X22 : Hid (Bk w11 gx [.slice bS T.nS lS, .slice bA T.nA lA]) := X20.out.below hb
      have G2_22 : Hid (Bk w11 g2 [.slice a2S U.nS k2S, .slice a2A U.nA k2A]) := G2_20.out.below hb
      have O2_22 : Hid (OwnT l2 h2 w11 (.agg #[.slice a2S U.nS k2S, .slice a2A U.nA k2A]) U.marked) := O2_21.out.below hb
      clear B20 M20 A20 O1_20 G1_20 X20 G2_20 O2_21
      clear hb
      go_upto_region 24 with fail
      go_cut [20, 21] (fun s t wx => ∃ g l h a3S k3S a3A k3A, .pointer (some ⟨g, 0, none⟩) = s ∧ .bool TB = t ∧ Bk wx g [.slice a3S U.nS k3S, .slice a3A U.nA k3A] ∧ OwnT l h wx (.agg #[.slice a3S U.nS k3S, .slice a3A U.nA k3A]) U ∧ (w11.heap.size ≤ g ∧ g < wx.heap.size ∧ w11.heap.size ≤ l ∧ l ≤ h ∧ h ≤ wx.heap.size ∧ (g < l ∨ h ≤ g)) ∧ Below w11.heap.size w11 wx)
      case first =>
        have yM0 : w11.cell? ⟨w.heap.size, 0, none⟩ = some (.int .i64 c) := (M22.out.2 0 (by simp)).1
        have yM1 : w11.cell? ⟨w.heap.size, 1, none⟩ = some (.int .i64 d) := (M22.out.2 1 (by simp)).1
        have hlM : w.heap.size < w11.heap.size := M22.out.1
        have yA0 : w11.cell? ⟨(w.heap.size + 1), 0, none⟩ = some (.slice aS T.nS kS) := (A22.out.2 0 (by simp)).1
        have yA1 : w11.cell? ⟨(w.heap.size + 1), 1, none⟩ = some (.slice aA T.nA kA) := (A22.out.2 1 (by simp)).1
        have hlA : (w.heap.size + 1) < w11.heap.size := A22.out.1
        refine wp_region_held_drew (S := fun w' => Below (w11.heap.size) w11 w') (by kernel_rfl) ((Below.refl _ _).drew) ?_
        intro hHeld
        obtain ⟨X0, hX0⟩ : ∃ X, X = w11.drew := ⟨_, rfl⟩
        have hz0 : w11.heap.size ≤ X0.heap.size := by rw [hX0]; exact Nat.le_refl _
        rw [← hX0] at hHeld ⊢
        clear hX0
        refine wpAnyH_take (i := 0) (v := .agg #[.int .i64 c, .int .i64 d]) rfl (by kernel_rfl) (by kernel_rfl) (by kernel_rfl) (fun _ _ _ h => h) (Or.inl ⟨by rfl, ?_⟩) (by assumption) ?_
        · intro wx hSw; obtain ⟨hcS, hfS⟩ := bcellN hSw; go_simp
        try simp only [Act.put, List.setIfInBounds_toArray, List.set_cons_zero, List.set_cons_succ, List.getElem_toArray, List.getElem_cons_zero]
        refine wpAnyH_take (i := 2) (v := .agg #[.slice aS T.nS kS, .slice aA T.nA kA]) rfl (by kernel_rfl) (by kernel_rfl) (by kernel_rfl) (fun _ _ _ h => h) (Or.inl ⟨by rfl, ?_⟩) (by assumption) ?_
        · intro wx hSw; obtain ⟨hcS, hfS⟩ := bcellN hSw; go_simp
        try simp only [Act.put, List.setIfInBounds_toArray, List.set_cons_zero, List.set_cons_succ, List.getElem_toArray, List.getElem_cons_zero, List.getElem_cons_succ]
        refine wpAnyH_take (i := 4) (v := .int .i64 n) rfl (by kernel_rfl) (by kernel_rfl) (by kernel_rfl) (fun _ _ _ h => h) (Or.inl ⟨by rfl, ?_⟩) (by assumption) ?_
        · intro wx hSw; obtain ⟨hcS, hfS⟩ := bcellN hSw; go_simp
        try simp only [Act.put, List.setIfInBounds_toArray, List.set_cons_zero, List.set_cons_succ, List.getElem_toArray, List.getElem_cons_zero, List.getElem_cons_succ]
        refine wpAnyH_take (i := 5) (v := .int .i64 cell) rfl (by kernel_rfl) (by kernel_rfl) (by kernel_rfl) (fun _ _ _ h => h) (Or.inl ⟨by rfl, ?_⟩) (by assumption) ?_
        · intro wx hSw; obtain ⟨hcS, hfS⟩ := bcellN hSw; go_simp
        try simp only [Act.put, List.setIfInBounds_toArray, List.set_cons_zero, List.set_cons_succ, List.getElem_toArray, List.getElem_cons_zero, List.getElem_cons_succ]
        refine wpAnyH_take (i := 6) (v := .int .i64 server) rfl (by kernel_rfl) (by kernel_rfl) (by kernel_rfl) (fun _ _ _ h => h) (Or.inl ⟨by rfl, ?_⟩) (by assumption) ?_
        · intro wx hSw; obtain ⟨hcS, hfS⟩ := bcellN hSw; go_simp
        try simp only [Act.put, List.setIfInBounds_toArray, List.set_cons_zero, List.set_cons_succ, List.getElem_toArray, List.getElem_cons_zero, List.getElem_cons_succ]
        refine wpAnyH_ready (rs := [1, 11]) (by kernel_rfl) (by simp) ?_
        refine (AllReadyH.cons rfl (fun K hK => ?_) (AllReadyH.cons rfl (fun K hK => ?_) AllReadyH.nil))
        · go_simp
          go_wp2_with fail
          refine (toMap _ _ _).mono ?_
          rintro e xm ⟨rfl, hxm⟩
          have hsz_xm := hxm.size
          refine hK.out _ _ (bthenN hHeld (by omega) hxm) (fun hNew => ?_)
          clear hK K hHeld
          have hHeld := hNew
          clear hNew
          try simp only [Act.put, List.setIfInBounds_toArray, List.set_cons_zero, List.set_cons_succ, List.getElem_toArray, List.getElem_cons_zero, List.getElem_cons_succ]
          refine wpAnyH_ready (rs := [3, 11]) (by kernel_rfl) (by simp) ?_
          refine (AllReadyH.cons rfl (fun K hK => ?_) (AllReadyH.cons rfl (fun K hK => ?_) AllReadyH.nil))
          · go_simp
            go_wp2_with fail
            refine (toTab _ T HV.out _ (H0.out.below (bthen B22.out hHeld))).mono ?_
            rintro e xt ⟨⟨vt, rfl, hC⟩, hxt⟩
            have hsz_xt := hxt.size
            refine hK.out _ _ (bthenN hHeld (by omega) hxt) (fun hNew => ?_)
            clear hK K hHeld
            have hHeld := hNew
            clear hNew
            try simp only [Act.put, List.setIfInBounds_toArray, List.set_cons_zero, List.set_cons_succ, List.getElem_toArray, List.getElem_cons_zero, List.getElem_cons_succ]
            refine wpAnyH_ready (rs := [7, 11]) (by kernel_rfl) (by simp) ?_
            refine (AllReadyH.cons rfl (fun K hK => ?_) (AllReadyH.cons rfl (fun K hK => ?_) AllReadyH.nil))
            · go_simp
              go_wp2_with fail
              refine (grant_impl c d _ T n cell server HV.out _ hC.at).mono ?_
              rintro e xg ⟨⟨u, tt, rfl, ht, hO⟩, hxg⟩
              subst ht
              rw [EU.out] at hO
              rw [ET.out]
              obtain ⟨a3S, k3S, a3A, k3A, rfl, _, _⟩ := hO.at
              obtain ⟨lg, elg⟩ : ∃ l, l = xt.heap.size := ⟨_, rfl⟩
              obtain ⟨hg, ehg⟩ : ∃ l, l = xg.heap.size := ⟨_, rfl⟩
              rw [← elg, ← ehg] at hO
              have elg1 : lg ≤ xt.heap.size := by omega
              have elg2 : xt.heap.size ≤ lg := by omega
              have ehg1 : hg ≤ xg.heap.size := by omega
              have ehg2 : xg.heap.size ≤ hg := by omega
              clear elg ehg
              replace hC := hC.below hxg
              have hsz_xg := hxg.size
              refine hK.out _ _ (bthenN hHeld (by omega) hxg) (fun hNew => ?_)
              clear hK K hHeld
              have hHeld := hNew
              clear hNew
              try simp only [Act.put, List.setIfInBounds_toArray, List.set_cons_zero, List.set_cons_succ, List.getElem_toArray, List.getElem_cons_zero, List.getElem_cons_succ]
              refine wpAnyH_take (i := 8) (v := .tuple #[.agg #[.slice a3S U.nS k3S, .slice a3A U.nA k3A], .bool TB]) rfl (by kernel_rfl) (by kernel_rfl) (by kernel_rfl) (fun _ _ _ h => h) (Or.inl ⟨by rfl, ?_⟩) (by assumption) ?_
              · intro wx hSw; obtain ⟨hcS, hfS⟩ := bcellN hSw; go_simp
              try simp only [Act.put, List.setIfInBounds_toArray, List.set_cons_zero, List.set_cons_succ, List.getElem_toArray, List.getElem_cons_zero, List.getElem_cons_succ]
              refine wpAnyH_take (i := 9) (v := .agg #[.slice a3S U.nS k3S, .slice a3A U.nA k3A]) rfl (by kernel_rfl) (by kernel_rfl) (by kernel_rfl) (fun _ _ _ h => h) (Or.inl ⟨by rfl, ?_⟩) (by assumption) ?_
              · intro wx hSw; obtain ⟨hcS, hfS⟩ := bcellN hSw; go_simp
              try simp only [Act.put, List.setIfInBounds_toArray, List.set_cons_zero, List.set_cons_succ, List.getElem_toArray, List.getElem_cons_zero, List.getElem_cons_succ]
              refine wpAnyH_take (i := 10) (v := .bool TB) rfl (by kernel_rfl) (by kernel_rfl) (by kernel_rfl) (fun _ _ _ h => h) (Or.inl ⟨by rfl, ?_⟩) (by assumption) ?_
              · intro wx hSw; obtain ⟨hcS, hfS⟩ := bcellN hSw; go_simp
              try simp only [Act.put, List.setIfInBounds_toArray, List.set_cons_zero, List.set_cons_succ, List.getElem_toArray, List.getElem_cons_zero, List.getElem_cons_succ]
              refine wpAnyH_ready (rs := [11]) (by kernel_rfl) (by simp) ?_
              refine (AllReadyH.cons rfl (fun K hK => ?_) AllReadyH.nil)
              go_simp
              obtain ⟨XC, eA⟩ : ∃ X, X = xg.alloc (.cells #[.slice none 0 0, .slice none 0 0] 26) := ⟨_, rfl⟩
              rw [← eA]
              have hbA : Below xg.heap.size xg XC := by rw [eA]; exact (Below.refl _ _).alloc (Nat.le_refl _) _
              have hZC : Bk XC xg.heap.size [.slice none 0 0, .slice none 0 0] := by rw [eA]; exact bk_new xg 26 [.slice none 0 0, .slice none 0 0]
              have hzAC1 : XC.heap.size ≤ xg.heap.size + 1 := by rw [eA]; simp
              have hzAC2 : xg.heap.size + 1 ≤ XC.heap.size := by rw [eA]; simp
              clear eA
              replace hO := hO.below hbA
              have hsz_XC := hbA.size
              refine hK.out _ _ (bthenN hHeld (by omega) hbA) (fun hNew => ?_)
              clear hK K hHeld
              have hHeld := hNew
              clear hNew
              try simp only [Act.put, List.setIfInBounds_toArray, List.set_cons_zero, List.set_cons_succ, List.getElem_toArray, List.getElem_cons_zero, List.getElem_cons_succ]
              clear hbA
              obtain ⟨C, eC⟩ : ∃ g, g = xg.heap.size := ⟨_, rfl⟩
              rw [← eC] at hZC ⊢
              have eC1 : C ≤ xg.heap.size := by omega
              have eC2 : xg.heap.size ≤ C := by omega
              clear eC
              refine wpAnyH_ready (rs := [12]) (by kernel_rfl) (by simp) ?_
              refine (AllReadyH.cons rfl (fun K hK => ?_) AllReadyH.nil)
              have r0 := (hZC.2 0 (by simp)).1
              have r1 := (hZC.2 1 (by simp)).1
              have f0 := (hZC.2 0 (by simp)).2
              have f1 := (hZC.2 1 (by simp)).2
              simp only [List.getD, List.getElem?_cons_zero, List.getElem?_cons_succ, Option.getD_some] at r0 r1
              have lZC := hZC.1
              have hkC : w11.heap.size ≤ C := by omega
              go_simp
              obtain ⟨XSC, eS⟩ : ∃ X, X = ((XC.setCell ⟨C, 0, none⟩ (.slice a3S U.nS k3S)).setCell ⟨C, 1, none⟩ (.slice a3A U.nA k3A)) := ⟨_, rfl⟩
              rw [← eS]
              have hPC : Bk XSC C [.slice a3S U.nS k3S, .slice a3A U.nA k3A] := by rw [eS]; exact bk_put (l := [.slice a3S U.nS k3S, .slice a3A U.nA k3A]) hZC rfl
              have hzC1 : XSC.heap.size ≤ XC.heap.size := by rw [eS]; exact Nat.le_of_eq (size_put C [.slice a3S U.nS k3S, .slice a3A U.nA k3A] 0 XC)
              have hzC2 : XC.heap.size ≤ XSC.heap.size := by rw [eS]; exact Nat.le_of_eq (size_put C [.slice a3S U.nS k3S, .slice a3A U.nA k3A] 0 XC).symm
              have hmC : ∀ b, ¬ b = C → Sm XC XSC b := by rw [eS]; exact fun b hb => sm_put hb [.slice a3S U.nS k3S, .slice a3A U.nA k3A] 0 XC
              have hBC : Below (w11.heap.size) w11 XSC := by rw [eS]; exact below_put hkC [.slice a3S U.nS k3S, .slice a3A U.nA k3A] 0 hHeld
              clear eS r0 f0 r1 f1
              replace hO := hO.sm hzC2 (fun b q1 q2 => hmC b (by omega))
              refine hK.out _ _ hBC (fun hNew => ?_)
              clear hK K hHeld
              have hHeld := hNew
              clear hNew
              try simp only [Act.put, List.setIfInBounds_toArray, List.set_cons_zero, List.set_cons_succ, List.getElem_toArray, List.getElem_cons_zero, List.getElem_cons_succ]
              refine wpAnyH_take (i := 13) (v := .bool TB) rfl (by kernel_rfl) (by kernel_rfl) (by kernel_rfl) (fun _ _ _ h => h) (Or.inl ⟨by rfl, ?_⟩) (by assumption) ?_
              · intro wx hSw; obtain ⟨hcS, hfS⟩ := bcellN hSw; go_simp
              try simp only [Act.put, List.setIfInBounds_toArray, List.set_cons_zero, List.set_cons_succ, List.getElem_toArray, List.getElem_cons_zero, List.getElem_cons_succ]
              refine wpAnyH_done (by kernel_rfl) ?_ _
              go_wp2
              go_meet
              case rel => exact ⟨C, lg, hg, a3S, k3S, a3A, k3A, rfl, rfl, hPC, hO, ⟨by omega, hPC.1, by omega, by omega, by omega, by omega⟩, hHeld⟩
            · go_simp
              obtain ⟨XC, eA⟩ : ∃ X, X = xt.alloc (.cells #[.slice none 0 0, .slice none 0 0] 26) := ⟨_, rfl⟩
              rw [← eA]
              have hbA : Below xt.heap.size xt XC := by rw [eA]; exact (Below.refl _ _).alloc (Nat.le_refl _) _
              have hZC : Bk XC xt.heap.size [.slice none 0 0, .slice none 0 0] := by rw [eA]; exact bk_new xt 26 [.slice none 0 0, .slice none 0 0]
              have hzAC1 : XC.heap.size ≤ xt.heap.size + 1 := by rw [eA]; simp
              have hzAC2 : xt.heap.size + 1 ≤ XC.heap.size := by rw [eA]; simp
              clear eA
              replace hC := hC.below hbA
              have hsz_XC := hbA.size
              refine hK.out _ _ (bthenN hHeld (by omega) hbA) (fun hNew => ?_)
              clear hK K hHeld
              have hHeld := hNew
              clear hNew
              try simp only [Act.put, List.setIfInBounds_toArray, List.set_cons_zero, List.set_cons_succ, List.getElem_toArray, List.getElem_cons_zero, List.getElem_cons_succ]
              clear hbA
              obtain ⟨C, eC⟩ : ∃ g, g = xt.heap.size := ⟨_, rfl⟩
              rw [← eC] at hZC ⊢
              have eC1 : C ≤ xt.heap.size := by omega
              have eC2 : xt.heap.size ≤ C := by omega
              clear eC
              refine wpAnyH_ready (rs := [7]) (by kernel_rfl) (by simp) ?_
              refine (AllReadyH.cons rfl (fun K hK => ?_) AllReadyH.nil)
              go_simp
              go_wp2_with fail
              refine (grant_impl c d _ T n cell server HV.out _ hC.at).mono ?_
              rintro e xg ⟨⟨u, tt, rfl, ht, hO⟩, hxg⟩
              subst ht
              rw [EU.out] at hO
              rw [ET.out]
              obtain ⟨a3S, k3S, a3A, k3A, rfl, _, _⟩ := hO.at
              obtain ⟨lg, elg⟩ : ∃ l, l = XC.heap.size := ⟨_, rfl⟩
              obtain ⟨hg, ehg⟩ : ∃ l, l = xg.heap.size := ⟨_, rfl⟩
              rw [← elg, ← ehg] at hO
              have elg1 : lg ≤ XC.heap.size := by omega
              have elg2 : XC.heap.size ≤ lg := by omega
              have ehg1 : hg ≤ xg.heap.size := by omega
              have ehg2 : xg.heap.size ≤ hg := by omega
              clear elg ehg
              replace hC := hC.below hxg
              replace hZC := hZC.below hxg
              have hsz_xg := hxg.size
              refine hK.out _ _ (bthenN hHeld (by omega) hxg) (fun hNew => ?_)
              clear hK K hHeld
              have hHeld := hNew
              clear hNew
              try simp only [Act.put, List.setIfInBounds_toArray, List.set_cons_zero, List.set_cons_succ, List.getElem_toArray, List.getElem_cons_zero, List.getElem_cons_succ]
              refine wpAnyH_take (i := 8) (v := .tuple #[.agg #[.slice a3S U.nS k3S, .slice a3A U.nA k3A], .bool TB]) rfl (by kernel_rfl) (by kernel_rfl) (by kernel_rfl) (fun _ _ _ h => h) (Or.inl ⟨by rfl, ?_⟩) (by assumption) ?_
              · intro wx hSw; obtain ⟨hcS, hfS⟩ := bcellN hSw; go_simp
              try simp only [Act.put, List.setIfInBounds_toArray, List.set_cons_zero, List.set_cons_succ, List.getElem_toArray, List.getElem_cons_zero, List.getElem_cons_succ]
              refine wpAnyH_take (i := 9) (v := .agg #[.slice a3S U.nS k3S, .slice a3A U.nA k3A]) rfl (by kernel_rfl) (by kernel_rfl) (by kernel_rfl) (fun _ _ _ h => h) (Or.inl ⟨by rfl, ?_⟩) (by assumption) ?_
              · intro wx hSw; obtain ⟨hcS, hfS⟩ := bcellN hSw; go_simp
              try simp only [Act.put, List.setIfInBounds_toArray, List.set_cons_zero, List.set_cons_succ, List.getElem_toArray, List.getElem_cons_zero, List.getElem_cons_succ]
              refine wpAnyH_take (i := 10) (v := .bool TB) rfl (by kernel_rfl) (by kernel_rfl) (by kernel_rfl) (fun _ _ _ h => h) (Or.inl ⟨by rfl, ?_⟩) (by assumption) ?_
              · intro wx hSw; obtain ⟨hcS, hfS⟩ := bcellN hSw; go_simp
              try simp only [Act.put, List.setIfInBounds_toArray, List.set_cons_zero, List.set_cons_succ, List.getElem_toArray, List.getElem_cons_zero, List.getElem_cons_succ]
              refine wpAnyH_ready (rs := [12]) (by kernel_rfl) (by simp) ?_
              refine (AllReadyH.cons rfl (fun K hK => ?_) AllReadyH.nil)
              have r0 := (hZC.2 0 (by simp)).1
              have r1 := (hZC.2 1 (by simp)).1
              have f0 := (hZC.2 0 (by simp)).2
              have f1 := (hZC.2 1 (by simp)).2
              simp only [List.getD, List.getElem?_cons_zero, List.getElem?_cons_succ, Option.getD_some] at r0 r1
              have lZC := hZC.1
              have hkC : w11.heap.size ≤ C := by omega
              go_simp
              obtain ⟨XSC, eS⟩ : ∃ X, X = ((xg.setCell ⟨C, 0, none⟩ (.slice a3S U.nS k3S)).setCell ⟨C, 1, none⟩ (.slice a3A U.nA k3A)) := ⟨_, rfl⟩
              rw [← eS]
              have hPC : Bk XSC C [.slice a3S U.nS k3S, .slice a3A U.nA k3A] := by rw [eS]; exact bk_put (l := [.slice a3S U.nS k3S, .slice a3A U.nA k3A]) hZC rfl
              have hzC1 : XSC.heap.size ≤ xg.heap.size := by rw [eS]; exact Nat.le_of_eq (size_put C [.slice a3S U.nS k3S, .slice a3A U.nA k3A] 0 xg)
              have hzC2 : xg.heap.size ≤ XSC.heap.size := by rw [eS]; exact Nat.le_of_eq (size_put C [.slice a3S U.nS k3S, .slice a3A U.nA k3A] 0 xg).symm
              have hmC : ∀ b, ¬ b = C → Sm xg XSC b := by rw [eS]; exact fun b hb => sm_put hb [.slice a3S U.nS k3S, .slice a3A U.nA k3A] 0 xg
              have hBC : Below (w11.heap.size) w11 XSC := by rw [eS]; exact below_put hkC [.slice a3S U.nS k3S, .slice a3A U.nA k3A] 0 hHeld
              clear eS r0 f0 r1 f1
              replace hO := hO.sm hzC2 (fun b q1 q2 => hmC b (by omega))
              refine hK.out _ _ hBC (fun hNew => ?_)
              clear hK K hHeld
              have hHeld := hNew
              clear hNew
              try simp only [Act.put, List.setIfInBounds_toArray, List.set_cons_zero, List.set_cons_succ, List.getElem_toArray, List.getElem_cons_zero, List.getElem_cons_succ]
              refine wpAnyH_take (i := 13) (v := .bool TB) rfl (by kernel_rfl) (by kernel_rfl) (by kernel_rfl) (fun _ _ _ h => h) (Or.inl ⟨by rfl, ?_⟩) (by assumption) ?_
              · intro wx hSw; obtain ⟨hcS, hfS⟩ := bcellN hSw; go_simp
              try simp only [Act.put, List.setIfInBounds_toArray, List.set_cons_zero, List.set_cons_succ, List.getElem_toArray, List.getElem_cons_zero, List.getElem_cons_succ]
              refine wpAnyH_done (by kernel_rfl) ?_ _
              go_wp2
              go_meet
              case rel => exact ⟨C, lg, hg, a3S, k3S, a3A, k3A, rfl, rfl, hPC, hO, ⟨by omega, hPC.1, by omega, by omega, by omega, by omega⟩, hHeld⟩
          · go_simp
            obtain ⟨XC, eA⟩ : ∃ X, X = xm.alloc (.cells #[.slice none 0 0, .slice none 0 0] 26) := ⟨_, rfl⟩
            rw [← eA]
            have hbA : Below xm.heap.size xm XC := by rw [eA]; exact (Below.refl _ _).alloc (Nat.le_refl _) _
            have hZC : Bk XC xm.heap.size [.slice none 0 0, .slice none 0 0] := by rw [eA]; exact bk_new xm 26 [.slice none 0 0, .slice none 0 0]
            have hzAC1 : XC.heap.size ≤ xm.heap.size + 1 := by rw [eA]; simp
            have hzAC2 : xm.heap.size + 1 ≤ XC.heap.size := by rw [eA]; simp
            clear eA
            have hsz_XC := hbA.size
            refine hK.out _ _ (bthenN hHeld (by omega) hbA) (fun hNew => ?_)
            clear hK K hHeld
            have hHeld := hNew
            clear hNew
            try simp only [Act.put, List.setIfInBounds_toArray, List.set_cons_zero, List.set_cons_succ, List.getElem_toArray, List.getElem_cons_zero, List.getElem_cons_succ]
            clear hbA
            obtain ⟨C, eC⟩ : ∃ g, g = xm.heap.size := ⟨_, rfl⟩
            rw [← eC] at hZC ⊢
            have eC1 : C ≤ xm.heap.size := by omega
            have eC2 : xm.heap.size ≤ C := by omega
            clear eC
            refine wpAnyH_ready (rs := [3]) (by kernel_rfl) (by simp) ?_
            refine (AllReadyH.cons rfl (fun K hK => ?_) AllReadyH.nil)
            go_simp
            go_wp2_with fail
            refine (toTab _ T HV.out _ (H0.out.below (bthen B22.out hHeld))).mono ?_
            rintro e xt ⟨⟨vt, rfl, hC⟩, hxt⟩
            replace hZC := hZC.below hxt
            have hsz_xt := hxt.size
            refine hK.out _ _ (bthenN hHeld (by omega) hxt) (fun hNew => ?_)
            clear hK K hHeld
            have hHeld := hNew
            clear hNew
            try simp only [Act.put, List.setIfInBounds_toArray, List.set_cons_zero, List.set_cons_succ, List.getElem_toArray, List.getElem_cons_zero, List.getElem_cons_succ]
            refine wpAnyH_ready (rs := [7]) (by kernel_rfl) (by simp) ?_
            refine (AllReadyH.cons rfl (fun K hK => ?_) AllReadyH.nil)
            go_simp
            go_wp2_with fail
            refine (grant_impl c d _ T n cell server HV.out _ hC.at).mono ?_
            rintro e xg ⟨⟨u, tt, rfl, ht, hO⟩, hxg⟩
            subst ht
            rw [EU.out] at hO
            rw [ET.out]
            obtain ⟨a3S, k3S, a3A, k3A, rfl, _, _⟩ := hO.at
            obtain ⟨lg, elg⟩ : ∃ l, l = xt.heap.size := ⟨_, rfl⟩
            obtain ⟨hg, ehg⟩ : ∃ l, l = xg.heap.size := ⟨_, rfl⟩
            rw [← elg, ← ehg] at hO
            have elg1 : lg ≤ xt.heap.size := by omega
            have elg2 : xt.heap.size ≤ lg := by omega
            have ehg1 : hg ≤ xg.heap.size := by omega
            have ehg2 : xg.heap.size ≤ hg := by omega
            clear elg ehg
            replace hZC := hZC.below hxg
            replace hC := hC.below hxg
            have hsz_xg := hxg.size
            refine hK.out _ _ (bthenN hHeld (by omega) hxg) (fun hNew => ?_)
            clear hK K hHeld
            have hHeld := hNew
            clear hNew
            try simp only [Act.put, List.setIfInBounds_toArray, List.set_cons_zero, List.set_cons_succ, List.getElem_toArray, List.getElem_cons_zero, List.getElem_cons_succ]
            refine wpAnyH_take (i := 8) (v := .tuple #[.agg #[.slice a3S U.nS k3S, .slice a3A U.nA k3A], .bool TB]) rfl (by kernel_rfl) (by kernel_rfl) (by kernel_rfl) (fun _ _ _ h => h) (Or.inl ⟨by rfl, ?_⟩) (by assumption) ?_
            · intro wx hSw; obtain ⟨hcS, hfS⟩ := bcellN hSw; go_simp
            try simp only [Act.put, List.setIfInBounds_toArray, List.set_cons_zero, List.set_cons_succ, List.getElem_toArray, List.getElem_cons_zero, List.getElem_cons_succ]
            refine wpAnyH_take (i := 9) (v := .agg #[.slice a3S U.nS k3S, .slice a3A U.nA k3A]) rfl (by kernel_rfl) (by kernel_rfl) (by kernel_rfl) (fun _ _ _ h => h) (Or.inl ⟨by rfl, ?_⟩) (by assumption) ?_
            · intro wx hSw; obtain ⟨hcS, hfS⟩ := bcellN hSw; go_simp
            try simp only [Act.put, List.setIfInBounds_toArray, List.set_cons_zero, List.set_cons_succ, List.getElem_toArray, List.getElem_cons_zero, List.getElem_cons_succ]
            refine wpAnyH_take (i := 10) (v := .bool TB) rfl (by kernel_rfl) (by kernel_rfl) (by kernel_rfl) (fun _ _ _ h => h) (Or.inl ⟨by rfl, ?_⟩) (by assumption) ?_
            · intro wx hSw; obtain ⟨hcS, hfS⟩ := bcellN hSw; go_simp
            try simp only [Act.put, List.setIfInBounds_toArray, List.set_cons_zero, List.set_cons_succ, List.getElem_toArray, List.getElem_cons_zero, List.getElem_cons_succ]
            refine wpAnyH_ready (rs := [12]) (by kernel_rfl) (by simp) ?_
            refine (AllReadyH.cons rfl (fun K hK => ?_) AllReadyH.nil)
            have r0 := (hZC.2 0 (by simp)).1
            have r1 := (hZC.2 1 (by simp)).1
            have f0 := (hZC.2 0 (by simp)).2
            have f1 := (hZC.2 1 (by simp)).2
            simp only [List.getD, List.getElem?_cons_zero, List.getElem?_cons_succ, Option.getD_some] at r0 r1
            have lZC := hZC.1
            have hkC : w11.heap.size ≤ C := by omega
            go_simp
            obtain ⟨XSC, eS⟩ : ∃ X, X = ((xg.setCell ⟨C, 0, none⟩ (.slice a3S U.nS k3S)).setCell ⟨C, 1, none⟩ (.slice a3A U.nA k3A)) := ⟨_, rfl⟩
            rw [← eS]
            have hPC : Bk XSC C [.slice a3S U.nS k3S, .slice a3A U.nA k3A] := by rw [eS]; exact bk_put (l := [.slice a3S U.nS k3S, .slice a3A U.nA k3A]) hZC rfl
            have hzC1 : XSC.heap.size ≤ xg.heap.size := by rw [eS]; exact Nat.le_of_eq (size_put C [.slice a3S U.nS k3S, .slice a3A U.nA k3A] 0 xg)
            have hzC2 : xg.heap.size ≤ XSC.heap.size := by rw [eS]; exact Nat.le_of_eq (size_put C [.slice a3S U.nS k3S, .slice a3A U.nA k3A] 0 xg).symm
            have hmC : ∀ b, ¬ b = C → Sm xg XSC b := by rw [eS]; exact fun b hb => sm_put hb [.slice a3S U.nS k3S, .slice a3A U.nA k3A] 0 xg
            have hBC : Below (w11.heap.size) w11 XSC := by rw [eS]; exact below_put hkC [.slice a3S U.nS k3S, .slice a3A U.nA k3A] 0 hHeld
            clear eS r0 f0 r1 f1
            replace hO := hO.sm hzC2 (fun b q1 q2 => hmC b (by omega))
            refine hK.out _ _ hBC (fun hNew => ?_)
            clear hK K hHeld
            have hHeld := hNew
            clear hNew
            try simp only [Act.put, List.setIfInBounds_toArray, List.set_cons_zero, List.set_cons_succ, List.getElem_toArray, List.getElem_cons_zero, List.getElem_cons_succ]
            refine wpAnyH_take (i := 13) (v := .bool TB) rfl (by kernel_rfl) (by kernel_rfl) (by kernel_rfl) (fun _ _ _ h => h) (Or.inl ⟨by rfl, ?_⟩) (by assumption) ?_
            · intro wx hSw; obtain ⟨hcS, hfS⟩ := bcellN hSw; go_simp
            try simp only [Act.put, List.setIfInBounds_toArray, List.set_cons_zero, List.set_cons_succ, List.getElem_toArray, List.getElem_cons_zero, List.getElem_cons_succ]
            refine wpAnyH_done (by kernel_rfl) ?_ _
            go_wp2
            go_meet
            case rel => exact ⟨C, lg, hg, a3S, k3S, a3A, k3A, rfl, rfl, hPC, hO, ⟨by omega, hPC.1, by omega, by omega, by omega, by omega⟩, hHeld⟩
        · go_simp
          obtain ⟨XC, eA⟩ : ∃ X, X = X0.alloc (.cells #[.slice none 0 0, .slice none 0 0] 26) := ⟨_, rfl⟩
          rw [← eA]
          have hbA : Below X0.heap.size X0 XC := by rw [eA]; exact (Below.refl _ _).alloc (Nat.le_refl _) _
          have hZC : Bk XC X0.heap.size [.slice none 0 0, .slice none 0 0] := by rw [eA]; exact bk_new X0 26 [.slice none 0 0, .slice none 0 0]
          have hzAC1 : XC.heap.size ≤ X0.heap.size + 1 := by rw [eA]; simp
          have hzAC2 : X0.heap.size + 1 ≤ XC.heap.size := by rw [eA]; simp
          clear eA
          have hsz_XC := hbA.size
          refine hK.out _ _ (bthenN hHeld (by omega) hbA) (fun hNew => ?_)
          clear hK K hHeld
          have hHeld := hNew
          clear hNew
          try simp only [Act.put, List.setIfInBounds_toArray, List.set_cons_zero, List.set_cons_succ, List.getElem_toArray, List.getElem_cons_zero, List.getElem_cons_succ]
          clear hbA
          obtain ⟨C, eC⟩ : ∃ g, g = X0.heap.size := ⟨_, rfl⟩
          rw [← eC] at hZC ⊢
          have eC1 : C ≤ X0.heap.size := by omega
          have eC2 : X0.heap.size ≤ C := by omega
          clear eC
          refine wpAnyH_ready (rs := [1]) (by kernel_rfl) (by simp) ?_
          refine (AllReadyH.cons rfl (fun K hK => ?_) AllReadyH.nil)
          go_simp
          go_wp2_with fail
          refine (toMap _ _ _).mono ?_
          rintro e xm ⟨rfl, hxm⟩
          replace hZC := hZC.below hxm
          have hsz_xm := hxm.size
          refine hK.out _ _ (bthenN hHeld (by omega) hxm) (fun hNew => ?_)
          clear hK K hHeld
          have hHeld := hNew
          clear hNew
          try simp only [Act.put, List.setIfInBounds_toArray, List.set_cons_zero, List.set_cons_succ, List.getElem_toArray, List.getElem_cons_zero, List.getElem_cons_succ]
          refine wpAnyH_ready (rs := [3]) (by kernel_rfl) (by simp) ?_
          refine (AllReadyH.cons rfl (fun K hK => ?_) AllReadyH.nil)
          go_simp
          go_wp2_with fail
          refine (toTab _ T HV.out _ (H0.out.below (bthen B22.out hHeld))).mono ?_
          rintro e xt ⟨⟨vt, rfl, hC⟩, hxt⟩
          replace hZC := hZC.below hxt
          have hsz_xt := hxt.size
          refine hK.out _ _ (bthenN hHeld (by omega) hxt) (fun hNew => ?_)
          clear hK K hHeld
          have hHeld := hNew
          clear hNew
          try simp only [Act.put, List.setIfInBounds_toArray, List.set_cons_zero, List.set_cons_succ, List.getElem_toArray, List.getElem_cons_zero, List.getElem_cons_succ]
          refine wpAnyH_ready (rs := [7]) (by kernel_rfl) (by simp) ?_
          refine (AllReadyH.cons rfl (fun K hK => ?_) AllReadyH.nil)
          go_simp
          go_wp2_with fail
          refine (grant_impl c d _ T n cell server HV.out _ hC.at).mono ?_
          rintro e xg ⟨⟨u, tt, rfl, ht, hO⟩, hxg⟩
          subst ht
          rw [EU.out] at hO
          rw [ET.out]
          obtain ⟨a3S, k3S, a3A, k3A, rfl, _, _⟩ := hO.at
          obtain ⟨lg, elg⟩ : ∃ l, l = xt.heap.size := ⟨_, rfl⟩
          obtain ⟨hg, ehg⟩ : ∃ l, l = xg.heap.size := ⟨_, rfl⟩
          rw [← elg, ← ehg] at hO
          have elg1 : lg ≤ xt.heap.size := by omega
          have elg2 : xt.heap.size ≤ lg := by omega
          have ehg1 : hg ≤ xg.heap.size := by omega
          have ehg2 : xg.heap.size ≤ hg := by omega
          clear elg ehg
          replace hZC := hZC.below hxg
          replace hC := hC.below hxg
          have hsz_xg := hxg.size
          refine hK.out _ _ (bthenN hHeld (by omega) hxg) (fun hNew => ?_)
          clear hK K hHeld
          have hHeld := hNew
          clear hNew
          try simp only [Act.put, List.setIfInBounds_toArray, List.set_cons_zero, List.set_cons_succ, List.getElem_toArray, List.getElem_cons_zero, List.getElem_cons_succ]
          refine wpAnyH_take (i := 8) (v := .tuple #[.agg #[.slice a3S U.nS k3S, .slice a3A U.nA k3A], .bool TB]) rfl (by kernel_rfl) (by kernel_rfl) (by kernel_rfl) (fun _ _ _ h => h) (Or.inl ⟨by rfl, ?_⟩) (by assumption) ?_
          · intro wx hSw; obtain ⟨hcS, hfS⟩ := bcellN hSw; go_simp
          try simp only [Act.put, List.setIfInBounds_toArray, List.set_cons_zero, List.set_cons_succ, List.getElem_toArray, List.getElem_cons_zero, List.getElem_cons_succ]
          refine wpAnyH_take (i := 9) (v := .agg #[.slice a3S U.nS k3S, .slice a3A U.nA k3A]) rfl (by kernel_rfl) (by kernel_rfl) (by kernel_rfl) (fun _ _ _ h => h) (Or.inl ⟨by rfl, ?_⟩) (by assumption) ?_
          · intro wx hSw; obtain ⟨hcS, hfS⟩ := bcellN hSw; go_simp
          try simp only [Act.put, List.setIfInBounds_toArray, List.set_cons_zero, List.set_cons_succ, List.getElem_toArray, List.getElem_cons_zero, List.getElem_cons_succ]
          refine wpAnyH_take (i := 10) (v := .bool TB) rfl (by kernel_rfl) (by kernel_rfl) (by kernel_rfl) (fun _ _ _ h => h) (Or.inl ⟨by rfl, ?_⟩) (by assumption) ?_
          · intro wx hSw; obtain ⟨hcS, hfS⟩ := bcellN hSw; go_simp
          try simp only [Act.put, List.setIfInBounds_toArray, List.set_cons_zero, List.set_cons_succ, List.getElem_toArray, List.getElem_cons_zero, List.getElem_cons_succ]
          refine wpAnyH_ready (rs := [12]) (by kernel_rfl) (by simp) ?_
          refine (AllReadyH.cons rfl (fun K hK => ?_) AllReadyH.nil)
          have r0 := (hZC.2 0 (by simp)).1
          have r1 := (hZC.2 1 (by simp)).1
          have f0 := (hZC.2 0 (by simp)).2
          have f1 := (hZC.2 1 (by simp)).2
          simp only [List.getD, List.getElem?_cons_zero, List.getElem?_cons_succ, Option.getD_some] at r0 r1
          have lZC := hZC.1
          have hkC : w11.heap.size ≤ C := by omega
          go_simp
          obtain ⟨XSC, eS⟩ : ∃ X, X = ((xg.setCell ⟨C, 0, none⟩ (.slice a3S U.nS k3S)).setCell ⟨C, 1, none⟩ (.slice a3A U.nA k3A)) := ⟨_, rfl⟩
          rw [← eS]
          have hPC : Bk XSC C [.slice a3S U.nS k3S, .slice a3A U.nA k3A] := by rw [eS]; exact bk_put (l := [.slice a3S U.nS k3S, .slice a3A U.nA k3A]) hZC rfl
          have hzC1 : XSC.heap.size ≤ xg.heap.size := by rw [eS]; exact Nat.le_of_eq (size_put C [.slice a3S U.nS k3S, .slice a3A U.nA k3A] 0 xg)
          have hzC2 : xg.heap.size ≤ XSC.heap.size := by rw [eS]; exact Nat.le_of_eq (size_put C [.slice a3S U.nS k3S, .slice a3A U.nA k3A] 0 xg).symm
          have hmC : ∀ b, ¬ b = C → Sm xg XSC b := by rw [eS]; exact fun b hb => sm_put hb [.slice a3S U.nS k3S, .slice a3A U.nA k3A] 0 xg
          have hBC : Below (w11.heap.size) w11 XSC := by rw [eS]; exact below_put hkC [.slice a3S U.nS k3S, .slice a3A U.nA k3A] 0 hHeld
          clear eS r0 f0 r1 f1
          replace hO := hO.sm hzC2 (fun b q1 q2 => hmC b (by omega))
          refine hK.out _ _ hBC (fun hNew => ?_)
          clear hK K hHeld
          have hHeld := hNew
          clear hNew
          try simp only [Act.put, List.setIfInBounds_toArray, List.set_cons_zero, List.set_cons_succ, List.getElem_toArray, List.getElem_cons_zero, List.getElem_cons_succ]
          refine wpAnyH_take (i := 13) (v := .bool TB) rfl (by kernel_rfl) (by kernel_rfl) (by kernel_rfl) (fun _ _ _ h => h) (Or.inl ⟨by rfl, ?_⟩) (by assumption) ?_
          · intro wx hSw; obtain ⟨hcS, hfS⟩ := bcellN hSw; go_simp
          try simp only [Act.put, List.setIfInBounds_toArray, List.set_cons_zero, List.set_cons_succ, List.getElem_toArray, List.getElem_cons_zero, List.getElem_cons_succ]
          refine wpAnyH_done (by kernel_rfl) ?_ _
          go_wp2
          go_meet
          case rel => exact ⟨C, lg, hg, a3S, k3S, a3A, k3A, rfl, rfl, hPC, hO, ⟨by omega, hPC.1, by omega, by omega, by omega, by omega⟩, hHeld⟩
      case rest =>
        obtain ⟨w12, hwn⟩ : ∃ wn, wn = wc := ⟨_, rfl⟩
        subst hwn
        obtain ⟨g3, l3, h3, a3S, k3S, a3A, k3A, rfl, rfl, hG, hO, ⟨c31, c32, c33, c34, c35, c36⟩, hb⟩ := hcut
        have y_w12 : w11.heap.size ≤ w12.heap.size := hb.size
        have B23 : Hid (Below w.heap.size w w12) := bthen B22.out hb
        have M23 : Hid (Bk w12 w.heap.size [.int .i64 c, .int .i64 d]) := M22.out.below hb
        have A23 : Hid (Bk w12 (w.heap.size + 1) [.slice aS T.nS kS, .slice aA T.nA kA]) := A22.out.below hb
        have O1_23 : Hid (OwnT l1 h1 w12 (.agg #[.slice a1S U.nS k1S, .slice a1A U.nA k1A]) U) := O1_22.out.below hb
        have G1_23 : Hid (Bk w12 g1 [.slice a1S U.nS k1S, .slice a1A U.nA k1A]) := G1_22.out.below hb
        have X23 : Hid (Bk w12 gx [.slice bS T.nS lS, .slice bA T.nA lA]) := X22.out.below hb
        have G2_23 : Hid (Bk w12 g2 [.slice a2S U.nS k2S, .slice a2A U.nA k2A]) := G2_22.out.below hb
        have O2_23 : Hid (OwnT l2 h2 w12 (.agg #[.slice a2S U.nS k2S, .slice a2A U.nA k2A]) U.marked) := O2_22.out.below hb
        clear B22 M22 A22 O1_22 G1_22 X22 G2_22 O2_22
        have O3_24 : Hid (OwnT l3 h3 w12 (.agg #[.slice a3S U.nS k3S, .slice a3A U.nA k3A]) U) := hO
        have G3_25 : Hid (Bk w12 g3 [.slice a3S U.nS k3S, .slice a3A U.nA k3A]) := hG
        clear hO hG hb
        have yG1_0 : w12.cell? ⟨g1, 0, none⟩ = some (.slice a1S U.nS k1S) := (G1_23.out.2 0 (by simp)).1
        have yG1_1 : w12.cell? ⟨g1, 1, none⟩ = some (.slice a1A U.nA k1A) := (G1_23.out.2 1 (by simp)).1
        have hlG1_ : g1 < w12.heap.size := G1_23.out.1
        have yG3_0 : w12.cell? ⟨g3, 0, none⟩ = some (.slice a3S U.nS k3S) := (G3_25.out.2 0 (by simp)).1
        have yG3_1 : w12.cell? ⟨g3, 1, none⟩ = some (.slice a3A U.nA k3A) := (G3_25.out.2 1 (by simp)).1
        have hlG3_ : g3 < w12.heap.size := G3_25.out.1
        go_wp2_with fail
        refine (eqTab _ _ U (HU.out.more (by decide)) _ (O3_24.out.at) (O1_23.out.at)).mono ?_
        rintro e w13 ⟨rfl, hb⟩
        clear yG1_0 yG1_1 hlG1_ yG3_0 yG3_1 hlG3_
        have y_w13 : w12.heap.size ≤ w13.heap.size := hb.size
        have B26 : Hid (Below w.heap.size w w13) := bthen B23.out hb
        have M26 : Hid (Bk w13 w.heap.size [.int .i64 c, .int .i64 d]) := M23.out.below hb
        have A26 : Hid (Bk w13 (w.heap.size + 1) [.slice aS T.nS kS, .slice aA T.nA kA]) := A23.out.below hb
        have O1_26 : Hid (OwnT l1 h1 w13 (.agg #[.slice a1S U.nS k1S, .slice a1A U.nA k1A]) U) := O1_23.out.below hb
        have G1_26 : Hid (Bk w13 g1 [.slice a1S U.nS k1S, .slice a1A U.nA k1A]) := G1_23.out.below hb
        have X26 : Hid (Bk w13 gx [.slice bS T.nS lS, .slice bA T.nA lA]) := X23.out.below hb
        have G2_26 : Hid (Bk w13 g2 [.slice a2S U.nS k2S, .slice a2A U.nA k2A]) := G2_23.out.below hb
        have O2_26 : Hid (OwnT l2 h2 w13 (.agg #[.slice a2S U.nS k2S, .slice a2A U.nA k2A]) U.marked) := O2_23.out.below hb
        have O3_26 : Hid (OwnT l3 h3 w13 (.agg #[.slice a3S U.nS k3S, .slice a3A U.nA k3A]) U) := O3_24.out.below hb
        have G3_26 : Hid (Bk w13 g3 [.slice a3S U.nS k3S, .slice a3A U.nA k3A]) := G3_25.out.below hb
        clear B23 M23 A23 O1_23 G1_23 X23 G2_23 O2_23 O3_24 G3_25
        clear hb
        have yG2_0 : w13.cell? ⟨g2, 0, none⟩ = some (.slice a2S U.nS k2S) := (G2_26.out.2 0 (by simp)).1
        have yG2_1 : w13.cell? ⟨g2, 1, none⟩ = some (.slice a2A U.nA k2A) := (G2_26.out.2 1 (by simp)).1
        have hlG2_ : g2 < w13.heap.size := G2_26.out.1
        go_wp2_with fail
        refine (heldT l2 h2 _ U HU.out _ (by omega) O2_26.out).mono ?_
        rintro e w14 ⟨rfl, hb⟩
        clear yG2_0 yG2_1 hlG2_
        have y_w14 : w13.heap.size ≤ w14.heap.size := hb.size
        have B27 : Hid (Below w.heap.size w w14) := bthen B26.out hb
        have M27 : Hid (Bk w14 w.heap.size [.int .i64 c, .int .i64 d]) := M26.out.below hb
        have A27 : Hid (Bk w14 (w.heap.size + 1) [.slice aS T.nS kS, .slice aA T.nA kA]) := A26.out.below hb
        have O1_27 : Hid (OwnT l1 h1 w14 (.agg #[.slice a1S U.nS k1S, .slice a1A U.nA k1A]) U) := O1_26.out.below hb
        have G1_27 : Hid (Bk w14 g1 [.slice a1S U.nS k1S, .slice a1A U.nA k1A]) := G1_26.out.below hb
        have X27 : Hid (Bk w14 gx [.slice bS T.nS lS, .slice bA T.nA lA]) := X26.out.below hb
        have G2_27 : Hid (Bk w14 g2 [.slice a2S U.nS k2S, .slice a2A U.nA k2A]) := G2_26.out.below hb
        have O2_27 : Hid (OwnT l2 h2 w14 (.agg #[.slice a2S U.nS k2S, .slice a2A U.nA k2A]) U.marked) := O2_26.out.below hb
        have O3_27 : Hid (OwnT l3 h3 w14 (.agg #[.slice a3S U.nS k3S, .slice a3A U.nA k3A]) U) := O3_26.out.below hb
        have G3_27 : Hid (Bk w14 g3 [.slice a3S U.nS k3S, .slice a3A U.nA k3A]) := G3_26.out.below hb
        clear B26 M26 A26 O1_26 G1_26 X26 G2_26 O2_26 O3_26 G3_26
        clear hb
        go_wp2
        go_ret
        exact ⟨rfl, B27.out⟩
end Go.Proofs.Ytjgnngiagmkfdaa
