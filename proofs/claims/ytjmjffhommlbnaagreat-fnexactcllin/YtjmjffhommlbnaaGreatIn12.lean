/- The law FnExactCllIn: it answers true; conditions: the cell lies in memory. -/
import Derived.Test.YtjmjffhommlbnaaGreatIn11
import Derived.Test.YtjmjffhommlbnaaGreatLawNew
import Derived.Test.YtjmjffhommlbnaaGreatCSz2
import Derived.Test.YtjmjffhommlbnaaGreatCToB
namespace Go.Proofs.YtjmjffhommlbnaaGreat
open Go.RowKit Go.Deep
set_option linter.unusedVariables false

theorem st_sum (s : Nat) (N : Nat → Nat) : ∀ k, st s N k = s + sumN N k * 8
  | 0 => by simp [st, sumN]
  | k + 1 => by simp only [st, sumN, st_sum s N k]; omega
theorem sum_le (N : Nat → Nat) : ∀ n k, k ≤ n → sumN N k ≤ sumN N n
  | 0, k, h => by obtain rfl : k = 0 := by omega
                  exact Nat.le_refl _
  | n + 1, k, h => by
    by_cases e : k = n + 1
    · subst e; exact Nat.le_refl _
    · have := sum_le N n k (by omega); simp only [sumN]; omega
theorem few_sum {V : CV} (h : V.short 1048576) (hs : sumN V.N V.nO ≤ 1048576) : V.few := by
  refine ⟨h, fun k hk => ?_⟩
  rw [st_sum]
  have := sum_le V.N V.nO k hk
  have := h.1
  unfold CV.s1
  omega
theorem inR_few {c d side pn pk pi pa pm ps pl pc : Int} {V : CV} (h : V.short 1048576) : (inR c d V side pn pk pi pa pm ps pl pc).1.short 1048576 ∧ (inR c d V side pn pk pi pa pm ps pl pc).1.few := by
  unfold inR
  split
  · have h0 : CV.zero.short 1048576 := ⟨by show 0 ≤ 1048576; omega, by show 0 ≤ 1048576; omega, fun _ h => absurd h (by show ¬ _ < 0; omega), by show 0 ≤ 1048576; omega, by show 0 ≤ 1048576; omega⟩
    exact ⟨h0, CV.few_of h0 (by show 0 ≤ 2; omega)⟩
  · rename_i hn
    have h1 : cllB c d V = true := by cases e : cllB c d V; exact absurd (.inl e) hn; rfl
    obtain ⟨e1, e2, e3⟩ := cllB_two h1
    have h9 := cllB_nine h1
    have h3 : (CV.inn c d V side.toNat pn pk pi pa pm ps pl pc).short 1048576 := by
      unfold CV.inn
      split
      · split
        · exact ⟨by show V.nW + 1 ≤ 1048576; omega, h.2⟩
        · exact h
      · exact h
    have h4 : (CV.inn c d V side.toNat pn pk pi pa pm ps pl pc).nO = V.nO := by
      unfold CV.inn
      split
      · split
        · rfl
        · rfl
      · rfl
    exact ⟨h3, CV.few_of h3 (by show (CV.inn c d V side.toNat pn pk pi pa pm ps pl pc).nO ≤ 2; rw [h4, e1]; omega)⟩

set_option maxRecDepth 20000 in
set_option maxHeartbeats 16000000 in
theorem law_cllIn (c d : Int) (v : Value) (V : CV) (side pn pk pi pa pm ps pl pc : Int) (hs : V.short maxLen) (hwf0 : ∀ k, k < V.nW → (Lit.int .i64 (V.W k 0)).wf = true) (hwp0 : (Lit.int .i64 pi).wf = true) (w : World) (h : CellAt w v V) :
    Calls Tryz.prog 3 #[.agg #[.int .i64 c, .int .i64 d], v, .int .i64 side, .agg #[.int .i64 pn, .int .i64 pk, .int .i64 pi, .int .i64 pa, .int .i64 pm, .int .i64 ps, .int .i64 pl, .int .i64 pc]] w fun e w' => e = .returned (.bool true) ∧ Below w.heap.size w w' := by
  obtain ⟨aW, kW, aO, kO, aX, kX, aI, kI, rfl, rW, rO, rX, rI⟩ := h
  have H0 : Hid (CellAt w (.agg #[.int .i64 V.c, .slice aW V.nW kW, .int .i64 V.g, .slice aO V.nO kO, .slice aX V.nX kX, .slice aI V.nI kI]) V) := ⟨aW, kW, aO, kO, aX, kX, aI, kI, rfl, rW, rO, rX, rI⟩
  have HS0 : Hid (V.short maxLen) := hs
  have hwf : Hid (∀ k, k < V.nW → (Lit.int .i64 (V.W k 0)).wf = true) := hwf0
  have hwp : Hid ((Lit.int .i64 pi).wf = true) := hwp0
  clear rW rO rX rI hs hwf0 hwp0
  obtain ⟨U, eU⟩ : ∃ U, (inR c d V side pn pk pi pa pm ps pl pc).1 = U := ⟨_, rfl⟩
  obtain ⟨TB, eT⟩ : ∃ t, (inR c d V side pn pk pi pa pm ps pl pc).2 = t := ⟨_, rfl⟩
  have EU : Hid ((inR c d V side pn pk pi pa pm ps pl pc).1 = U) := eU
  have ET : Hid ((inR c d V side pn pk pi pa pm ps pl pc).2 = TB) := eT
  clear eU eT
  go_enter Tryz.func3, Tryz.ntmps3
  go_wp2_with fail
  obtain ⟨w0, e0⟩ : ∃ w0, w0 = (((w.alloc (.cells #[.int .i64 c, .int .i64 d] 23)).alloc (.cells #[.int .i64 V.c, .slice aW V.nW kW, .int .i64 V.g, .slice aO V.nO kO, .slice aX V.nX kX, .slice aI V.nI kI] 28)).alloc (.cells #[.int .i64 pn, .int .i64 pk, .int .i64 pi, .int .i64 pa, .int .i64 pm, .int .i64 ps, .int .i64 pl, .int .i64 pc] 32)) := ⟨_, rfl⟩
  have B1 : Hid (Below w.heap.size w w0) := by rw [e0]; exact (((Below.refl _ _).alloc (by simp) _).alloc (by simp) _).alloc (by simp; omega) _
  have M2 : Hid (Bk w0 w.heap.size [.int .i64 c, .int .i64 d]) := by rw [e0]; exact (bk_new w 23 [.int .i64 c, .int .i64 d]).below (((Below.refl _ _).alloc (Nat.le_refl _) _).alloc (by simp) _)
  have A3 : Hid (Bk w0 (w.heap.size + 1) [.int .i64 V.c, .slice aW V.nW kW, .int .i64 V.g, .slice aO V.nO kO, .slice aX V.nX kX, .slice aI V.nI kI]) := by rw [e0]; have h := bk_new (w.alloc (.cells #[.int .i64 c, .int .i64 d] 23)) 28 [.int .i64 V.c, .slice aW V.nW kW, .int .i64 V.g, .slice aO V.nO kO, .slice aX V.nX kX, .slice aI V.nI kI]; rw [World.size_alloc] at h; exact h.below ((Below.refl _ _).alloc (Nat.le_refl _) _)
  have Q4 : Hid (Bk w0 (w.heap.size + 1 + 1) [.int .i64 pn, .int .i64 pk, .int .i64 pi, .int .i64 pa, .int .i64 pm, .int .i64 ps, .int .i64 pl, .int .i64 pc]) := by rw [e0]; have h := bk_new ((w.alloc (.cells #[.int .i64 c, .int .i64 d] 23)).alloc (.cells #[.int .i64 V.c, .slice aW V.nW kW, .int .i64 V.g, .slice aO V.nO kO, .slice aX V.nX kX, .slice aI V.nI kI] 28)) 32 [.int .i64 pn, .int .i64 pk, .int .i64 pi, .int .i64 pa, .int .i64 pm, .int .i64 ps, .int .i64 pl, .int .i64 pc]; rw [World.size_alloc, World.size_alloc] at h; exact h
  rw [← e0]
  clear e0
  have y0 : w.heap.size + 2 < w0.heap.size := Q4.out.1
  refine (szCell2 _ V HS0.out _ (cellAt_below H0.out B1.out)).mono ?_
  rintro e w1 ⟨⟨r, rfl, hr⟩, hb1⟩
  have y_w1 : w0.heap.size ≤ w1.heap.size := hb1.size
  have B5 : Hid (Below w.heap.size w w1) := bthen B1.out hb1
  have M5 : Hid (Bk w1 w.heap.size [.int .i64 c, .int .i64 d]) := M2.out.below hb1
  have A5 : Hid (Bk w1 (w.heap.size + 1) [.int .i64 V.c, .slice aW V.nW kW, .int .i64 V.g, .slice aO V.nO kO, .slice aX V.nX kX, .slice aI V.nI kI]) := A3.out.below hb1
  have Q5 : Hid (Bk w1 (w.heap.size + 1 + 1) [.int .i64 pn, .int .i64 pk, .int .i64 pi, .int .i64 pa, .int .i64 pm, .int .i64 ps, .int .i64 pl, .int .i64 pc]) := Q4.out.below hb1
  clear B1 M2 A3 Q4
  clear hb1
  rcases hr with hr | ⟨hr, hV, hSm⟩
  · go_wp2
    go_ret
    exact ⟨rfl, B5.out⟩
  have hr2 : ¬ r < 0 := by omega
  have HV : Hid (V.short 1048576) := hV
  have HF : Hid V.few := few_sum hV hSm
  have HU : Hid (U.short 1048576 ∧ U.few) := by rw [← EU.out]; exact inR_few hV
  clear hV hSm
  go_upto_region 5 with fail
  go_cut [10, 11] (fun s t wx => ∃ g l h a1W k1W a1O k1O a1X k1X a1I k1I, .pointer (some ⟨g, 0, none⟩) = s ∧ .bool TB = t ∧ Bk wx g [.int .i64 U.c, .slice a1W U.nW k1W, .int .i64 U.g, .slice a1O U.nO k1O, .slice a1X U.nX k1X, .slice a1I U.nI k1I] ∧ OwnC l h wx (.agg #[.int .i64 U.c, .slice a1W U.nW k1W, .int .i64 U.g, .slice a1O U.nO k1O, .slice a1X U.nX k1X, .slice a1I U.nI k1I]) U ∧ (w1.heap.size ≤ g ∧ g < wx.heap.size ∧ w1.heap.size ≤ l ∧ l ≤ h ∧ h ≤ wx.heap.size ∧ (g < l ∨ h ≤ g)) ∧ Below w1.heap.size w1 wx)
  case first =>
    have yM0 : w1.cell? ⟨w.heap.size, 0, none⟩ = some (.int .i64 c) := (M5.out.2 0 (by simp)).1
    have yM1 : w1.cell? ⟨w.heap.size, 1, none⟩ = some (.int .i64 d) := (M5.out.2 1 (by simp)).1
    have hlM : w.heap.size < w1.heap.size := M5.out.1
    have yA0 : w1.cell? ⟨(w.heap.size + 1), 0, none⟩ = some (.int .i64 V.c) := (A5.out.2 0 (by simp)).1
    have yA1 : w1.cell? ⟨(w.heap.size + 1), 1, none⟩ = some (.slice aW V.nW kW) := (A5.out.2 1 (by simp)).1
    have yA2 : w1.cell? ⟨(w.heap.size + 1), 2, none⟩ = some (.int .i64 V.g) := (A5.out.2 2 (by simp)).1
    have yA3 : w1.cell? ⟨(w.heap.size + 1), 3, none⟩ = some (.slice aO V.nO kO) := (A5.out.2 3 (by simp)).1
    have yA4 : w1.cell? ⟨(w.heap.size + 1), 4, none⟩ = some (.slice aX V.nX kX) := (A5.out.2 4 (by simp)).1
    have yA5 : w1.cell? ⟨(w.heap.size + 1), 5, none⟩ = some (.slice aI V.nI kI) := (A5.out.2 5 (by simp)).1
    have hlA : (w.heap.size + 1) < w1.heap.size := A5.out.1
    have yQ0 : w1.cell? ⟨(w.heap.size + 1 + 1), 0, none⟩ = some (.int .i64 pn) := (Q5.out.2 0 (by simp)).1
    have yQ1 : w1.cell? ⟨(w.heap.size + 1 + 1), 1, none⟩ = some (.int .i64 pk) := (Q5.out.2 1 (by simp)).1
    have yQ2 : w1.cell? ⟨(w.heap.size + 1 + 1), 2, none⟩ = some (.int .i64 pi) := (Q5.out.2 2 (by simp)).1
    have yQ3 : w1.cell? ⟨(w.heap.size + 1 + 1), 3, none⟩ = some (.int .i64 pa) := (Q5.out.2 3 (by simp)).1
    have yQ4 : w1.cell? ⟨(w.heap.size + 1 + 1), 4, none⟩ = some (.int .i64 pm) := (Q5.out.2 4 (by simp)).1
    have yQ5 : w1.cell? ⟨(w.heap.size + 1 + 1), 5, none⟩ = some (.int .i64 ps) := (Q5.out.2 5 (by simp)).1
    have yQ6 : w1.cell? ⟨(w.heap.size + 1 + 1), 6, none⟩ = some (.int .i64 pl) := (Q5.out.2 6 (by simp)).1
    have yQ7 : w1.cell? ⟨(w.heap.size + 1 + 1), 7, none⟩ = some (.int .i64 pc) := (Q5.out.2 7 (by simp)).1
    have hlQ : (w.heap.size + 1 + 1) < w1.heap.size := Q5.out.1
    refine wp_region_held_drew (S := fun w' => Below (w1.heap.size) w1 w') (by kernel_rfl) ((Below.refl _ _).drew) ?_
    intro hHeld
    obtain ⟨X0, hX0⟩ : ∃ X, X = w1.drew := ⟨_, rfl⟩
    have hz0 : w1.heap.size ≤ X0.heap.size := by rw [hX0]; exact Nat.le_refl _
    rw [← hX0] at hHeld ⊢
    clear hX0
    refine wpAnyH_take (i := 0) (v := .agg #[.int .i64 c, .int .i64 d]) rfl (by kernel_rfl) (by kernel_rfl) (by kernel_rfl) (fun _ _ _ h => h) (Or.inl ⟨by rfl, ?_⟩) (by assumption) ?_
    · intro wx hSw; obtain ⟨hcS, hfS⟩ := bcellN hSw; go_simp
    try simp only [Act.put, List.setIfInBounds_toArray, List.set_cons_zero, List.set_cons_succ, List.getElem_toArray, List.getElem_cons_zero]
    refine wpAnyH_take (i := 2) (v := .agg #[.int .i64 V.c, .slice aW V.nW kW, .int .i64 V.g, .slice aO V.nO kO, .slice aX V.nX kX, .slice aI V.nI kI]) rfl (by kernel_rfl) (by kernel_rfl) (by kernel_rfl) (fun _ _ _ h => h) (Or.inl ⟨by rfl, ?_⟩) (by assumption) ?_
    · intro wx hSw; obtain ⟨hcS, hfS⟩ := bcellN hSw; go_simp
    try simp only [Act.put, List.setIfInBounds_toArray, List.set_cons_zero, List.set_cons_succ, List.getElem_toArray, List.getElem_cons_zero, List.getElem_cons_succ]
    refine wpAnyH_take (i := 4) (v := .int .i64 side) rfl (by kernel_rfl) (by kernel_rfl) (by kernel_rfl) (fun _ _ _ h => h) (Or.inl ⟨by rfl, ?_⟩) (by assumption) ?_
    · intro wx hSw; obtain ⟨hcS, hfS⟩ := bcellN hSw; go_simp
    try simp only [Act.put, List.setIfInBounds_toArray, List.set_cons_zero, List.set_cons_succ, List.getElem_toArray, List.getElem_cons_zero, List.getElem_cons_succ]
    refine wpAnyH_take (i := 5) (v := .agg #[.int .i64 pn, .int .i64 pk, .int .i64 pi, .int .i64 pa, .int .i64 pm, .int .i64 ps, .int .i64 pl, .int .i64 pc]) rfl (by kernel_rfl) (by kernel_rfl) (by kernel_rfl) (fun _ _ _ h => h) (Or.inl ⟨by rfl, ?_⟩) (by assumption) ?_
    · intro wx hSw; obtain ⟨hcS, hfS⟩ := bcellN hSw; go_simp
    try simp only [Act.put, List.setIfInBounds_toArray, List.set_cons_zero, List.set_cons_succ, List.getElem_toArray, List.getElem_cons_zero, List.getElem_cons_succ]
    refine wpAnyH_ready (rs := [1, 11]) (by kernel_rfl) (by simp) ?_
    refine (AllReadyH.cons rfl (fun K hK => ?_) (AllReadyH.cons rfl (fun K hK => ?_) AllReadyH.nil))
    · go_simp
      go_wp2_with fail
      refine (toMap _ _ _).mono ?_
      rintro e xm ⟨rfl, hxm⟩
      have hsz_xm := hxm.size
      refine hK.out _ _ (bthenN hHeld (by omega) hxm) (fun hNew => ?_)
      clear hK K hHeld
      have hHeld := hNew
      clear hNew
      try simp only [Act.put, List.setIfInBounds_toArray, List.set_cons_zero, List.set_cons_succ, List.getElem_toArray, List.getElem_cons_zero, List.getElem_cons_succ]
      refine wpAnyH_ready (rs := [3, 11]) (by kernel_rfl) (by simp) ?_
      refine (AllReadyH.cons rfl (fun K hK => ?_) (AllReadyH.cons rfl (fun K hK => ?_) AllReadyH.nil))
      · go_simp
        go_wp2_with fail
        refine (toCell _ V HV.out _ (cellAt_below H0.out (bthen B5.out hHeld))).mono ?_
        rintro e xt ⟨⟨vt, rfl, hC⟩, hxt⟩
        have hsz_xt := hxt.size
        refine hK.out _ _ (bthenN hHeld (by omega) hxt) (fun hNew => ?_)
        clear hK K hHeld
        have hHeld := hNew
        clear hNew
        try simp only [Act.put, List.setIfInBounds_toArray, List.set_cons_zero, List.set_cons_succ, List.getElem_toArray, List.getElem_cons_zero, List.getElem_cons_succ]
        refine wpAnyH_ready (rs := [6, 11]) (by kernel_rfl) (by simp) ?_
        refine (AllReadyH.cons rfl (fun K hK => ?_) (AllReadyH.cons rfl (fun K hK => ?_) AllReadyH.nil))
        · go_simp
          go_wp2_with fail
          refine (toParcel _ _ _ _ _ _ _ _ _).mono ?_
          rintro e xp ⟨rfl, hxp⟩
          replace hC := hC.below hxp
          have hsz_xp := hxp.size
          refine hK.out _ _ (bthenN hHeld (by omega) hxp) (fun hNew => ?_)
          clear hK K hHeld
          have hHeld := hNew
          clear hNew
          try simp only [Act.put, List.setIfInBounds_toArray, List.set_cons_zero, List.set_cons_succ, List.getElem_toArray, List.getElem_cons_zero, List.getElem_cons_succ]
          refine wpAnyH_ready (rs := [7, 11]) (by kernel_rfl) (by simp) ?_
          refine (AllReadyH.cons rfl (fun K hK => ?_) (AllReadyH.cons rfl (fun K hK => ?_) AllReadyH.nil))
          · go_simp
            go_wp2_with fail
            refine (cllIn_spec c d _ V _ side pn pk pi pa pm ps pl pc HV.out _ hC).mono ?_
            rintro e xg ⟨⟨u, tt, rfl, ht, hO⟩, hxg⟩
            subst ht
            rw [EU.out] at hO
            rw [ET.out]
            obtain ⟨a1W, k1W, a1O, k1O, a1X, k1X, a1I, k1I, rfl, _, _, _, _⟩ := hO.at
            obtain ⟨lg, elg⟩ : ∃ l, l = xp.heap.size := ⟨_, rfl⟩
            obtain ⟨hg, ehg⟩ : ∃ l, l = xg.heap.size := ⟨_, rfl⟩
            rw [← elg, ← ehg] at hO
            have elg1 : lg ≤ xp.heap.size := by omega
            have elg2 : xp.heap.size ≤ lg := by omega
            have ehg1 : hg ≤ xg.heap.size := by omega
            have ehg2 : xg.heap.size ≤ hg := by omega
            clear elg ehg
            have hsz_xg := hxg.size
            refine hK.out _ _ (bthenN hHeld (by omega) hxg) (fun hNew => ?_)
            clear hK K hHeld
            have hHeld := hNew
            clear hNew
            try simp only [Act.put, List.setIfInBounds_toArray, List.set_cons_zero, List.set_cons_succ, List.getElem_toArray, List.getElem_cons_zero, List.getElem_cons_succ]
            refine wpAnyH_take (i := 8) (v := .tuple #[.agg #[.int .i64 U.c, .slice a1W U.nW k1W, .int .i64 U.g, .slice a1O U.nO k1O, .slice a1X U.nX k1X, .slice a1I U.nI k1I], .bool TB]) rfl (by kernel_rfl) (by kernel_rfl) (by kernel_rfl) (fun _ _ _ h => h) (Or.inl ⟨by rfl, ?_⟩) (by assumption) ?_
            · intro wx hSw; obtain ⟨hcS, hfS⟩ := bcellN hSw; go_simp
            try simp only [Act.put, List.setIfInBounds_toArray, List.set_cons_zero, List.set_cons_succ, List.getElem_toArray, List.getElem_cons_zero, List.getElem_cons_succ]
            refine wpAnyH_take (i := 9) (v := .agg #[.int .i64 U.c, .slice a1W U.nW k1W, .int .i64 U.g, .slice a1O U.nO k1O, .slice a1X U.nX k1X, .slice a1I U.nI k1I]) rfl (by kernel_rfl) (by kernel_rfl) (by kernel_rfl) (fun _ _ _ h => h) (Or.inl ⟨by rfl, ?_⟩) (by assumption) ?_
            · intro wx hSw; obtain ⟨hcS, hfS⟩ := bcellN hSw; go_simp
            try simp only [Act.put, List.setIfInBounds_toArray, List.set_cons_zero, List.set_cons_succ, List.getElem_toArray, List.getElem_cons_zero, List.getElem_cons_succ]
            refine wpAnyH_take (i := 10) (v := .bool TB) rfl (by kernel_rfl) (by kernel_rfl) (by kernel_rfl) (fun _ _ _ h => h) (Or.inl ⟨by rfl, ?_⟩) (by assumption) ?_
            · intro wx hSw; obtain ⟨hcS, hfS⟩ := bcellN hSw; go_simp
            try simp only [Act.put, List.setIfInBounds_toArray, List.set_cons_zero, List.set_cons_succ, List.getElem_toArray, List.getElem_cons_zero, List.getElem_cons_succ]
            refine wpAnyH_ready (rs := [11]) (by kernel_rfl) (by simp) ?_
            refine (AllReadyH.cons rfl (fun K hK => ?_) AllReadyH.nil)
            go_simp
            obtain ⟨XC, eA⟩ : ∃ X, X = xg.alloc (.cells #[.int .i64 0, .slice none 0 0, .int .i64 0, .slice none 0 0, .slice none 0 0, .slice none 0 0] 37) := ⟨_, rfl⟩
            rw [← eA]
            have hbA : Below xg.heap.size xg XC := by rw [eA]; exact (Below.refl _ _).alloc (Nat.le_refl _) _
            have hZC : Bk XC xg.heap.size [.int .i64 0, .slice none 0 0, .int .i64 0, .slice none 0 0, .slice none 0 0, .slice none 0 0] := by rw [eA]; exact bk_new xg 37 [.int .i64 0, .slice none 0 0, .int .i64 0, .slice none 0 0, .slice none 0 0, .slice none 0 0]
            have hzAC1 : XC.heap.size ≤ xg.heap.size + 1 := by rw [eA]; simp
            have hzAC2 : xg.heap.size + 1 ≤ XC.heap.size := by rw [eA]; simp
            clear eA
            replace hO := hO.below (by omega) hbA
            have hsz_XC := hbA.size
            refine hK.out _ _ (bthenN hHeld (by omega) hbA) (fun hNew => ?_)
            clear hK K hHeld
            have hHeld := hNew
            clear hNew
            try simp only [Act.put, List.setIfInBounds_toArray, List.set_cons_zero, List.set_cons_succ, List.getElem_toArray, List.getElem_cons_zero, List.getElem_cons_succ]
            clear hbA
            obtain ⟨C, eC⟩ : ∃ g, g = xg.heap.size := ⟨_, rfl⟩
            rw [← eC] at hZC ⊢
            have eC1 : C ≤ xg.heap.size := by omega
            have eC2 : xg.heap.size ≤ C := by omega
            clear eC
            refine wpAnyH_ready (rs := [12]) (by kernel_rfl) (by simp) ?_
            refine (AllReadyH.cons rfl (fun K hK => ?_) AllReadyH.nil)
            have r0 := (hZC.2 0 (by simp)).1
            have r1 := (hZC.2 1 (by simp)).1
            have r2 := (hZC.2 2 (by simp)).1
            have r3 := (hZC.2 3 (by simp)).1
            have r4 := (hZC.2 4 (by simp)).1
            have r5 := (hZC.2 5 (by simp)).1
            have f0 := (hZC.2 0 (by simp)).2
            have f1 := (hZC.2 1 (by simp)).2
            have f2 := (hZC.2 2 (by simp)).2
            have f3 := (hZC.2 3 (by simp)).2
            have f4 := (hZC.2 4 (by simp)).2
            have f5 := (hZC.2 5 (by simp)).2
            simp only [List.getD, List.getElem?_cons_zero, List.getElem?_cons_succ, Option.getD_some] at r0 r1 r2 r3 r4 r5
            have lZC := hZC.1
            have hkC : w1.heap.size ≤ C := by omega
            go_simp
            obtain ⟨XSC, eS⟩ : ∃ X, X = ((((((XC.setCell ⟨C, 0, none⟩ (.int .i64 U.c)).setCell ⟨C, 1, none⟩ (.slice a1W U.nW k1W)).setCell ⟨C, 2, none⟩ (.int .i64 U.g)).setCell ⟨C, 3, none⟩ (.slice a1O U.nO k1O)).setCell ⟨C, 4, none⟩ (.slice a1X U.nX k1X)).setCell ⟨C, 5, none⟩ (.slice a1I U.nI k1I)) := ⟨_, rfl⟩
            rw [← eS]
            have hPC : Bk XSC C [.int .i64 U.c, .slice a1W U.nW k1W, .int .i64 U.g, .slice a1O U.nO k1O, .slice a1X U.nX k1X, .slice a1I U.nI k1I] := by rw [eS]; exact bk_put (l := [.int .i64 U.c, .slice a1W U.nW k1W, .int .i64 U.g, .slice a1O U.nO k1O, .slice a1X U.nX k1X, .slice a1I U.nI k1I]) hZC rfl
            have hzC1 : XSC.heap.size ≤ XC.heap.size := by rw [eS]; exact Nat.le_of_eq (size_put C [.int .i64 U.c, .slice a1W U.nW k1W, .int .i64 U.g, .slice a1O U.nO k1O, .slice a1X U.nX k1X, .slice a1I U.nI k1I] 0 XC)
            have hzC2 : XC.heap.size ≤ XSC.heap.size := by rw [eS]; exact Nat.le_of_eq (size_put C [.int .i64 U.c, .slice a1W U.nW k1W, .int .i64 U.g, .slice a1O U.nO k1O, .slice a1X U.nX k1X, .slice a1I U.nI k1I] 0 XC).symm
            have hmC : ∀ b, ¬ b = C → Sm XC XSC b := by rw [eS]; exact fun b hb => sm_put hb [.int .i64 U.c, .slice a1W U.nW k1W, .int .i64 U.g, .slice a1O U.nO k1O, .slice a1X U.nX k1X, .slice a1I U.nI k1I] 0 XC
            have hBC : Below (w1.heap.size) w1 XSC := by rw [eS]; exact below_put hkC [.int .i64 U.c, .slice a1W U.nW k1W, .int .i64 U.g, .slice a1O U.nO k1O, .slice a1X U.nX k1X, .slice a1I U.nI k1I] 0 hHeld
            clear eS r0 f0 r1 f1 r2 f2 r3 f3 r4 f4 r5 f5
            replace hO := hO.sm hzC2 (fun b q1 q2 => hmC b (by omega))
            refine hK.out _ _ hBC (fun hNew => ?_)
            clear hK K hHeld
            have hHeld := hNew
            clear hNew
            try simp only [Act.put, List.setIfInBounds_toArray, List.set_cons_zero, List.set_cons_succ, List.getElem_toArray, List.getElem_cons_zero, List.getElem_cons_succ]
            refine wpAnyH_take (i := 13) (v := .bool TB) rfl (by kernel_rfl) (by kernel_rfl) (by kernel_rfl) (fun _ _ _ h => h) (Or.inl ⟨by rfl, ?_⟩) (by assumption) ?_
            · intro wx hSw; obtain ⟨hcS, hfS⟩ := bcellN hSw; go_simp
            try simp only [Act.put, List.setIfInBounds_toArray, List.set_cons_zero, List.set_cons_succ, List.getElem_toArray, List.getElem_cons_zero, List.getElem_cons_succ]
            refine wpAnyH_done (by kernel_rfl) ?_ _
            go_wp2
            go_meet
            case rel => exact ⟨C, lg, hg, a1W, k1W, a1O, k1O, a1X, k1X, a1I, k1I, rfl, rfl, hPC, hO, ⟨by omega, hPC.1, by omega, by omega, by omega, by omega⟩, hHeld⟩
          · go_simp
            obtain ⟨XC, eA⟩ : ∃ X, X = xp.alloc (.cells #[.int .i64 0, .slice none 0 0, .int .i64 0, .slice none 0 0, .slice none 0 0, .slice none 0 0] 37) := ⟨_, rfl⟩
            rw [← eA]
            have hbA : Below xp.heap.size xp XC := by rw [eA]; exact (Below.refl _ _).alloc (Nat.le_refl _) _
            have hZC : Bk XC xp.heap.size [.int .i64 0, .slice none 0 0, .int .i64 0, .slice none 0 0, .slice none 0 0, .slice none 0 0] := by rw [eA]; exact bk_new xp 37 [.int .i64 0, .slice none 0 0, .int .i64 0, .slice none 0 0, .slice none 0 0, .slice none 0 0]
            have hzAC1 : XC.heap.size ≤ xp.heap.size + 1 := by rw [eA]; simp
            have hzAC2 : xp.heap.size + 1 ≤ XC.heap.size := by rw [eA]; simp
            clear eA
            replace hC := hC.below hbA
            have hsz_XC := hbA.size
            refine hK.out _ _ (bthenN hHeld (by omega) hbA) (fun hNew => ?_)
            clear hK K hHeld
            have hHeld := hNew
            clear hNew
            try simp only [Act.put, List.setIfInBounds_toArray, List.set_cons_zero, List.set_cons_succ, List.getElem_toArray, List.getElem_cons_zero, List.getElem_cons_succ]
            clear hbA
            obtain ⟨C, eC⟩ : ∃ g, g = xp.heap.size := ⟨_, rfl⟩
            rw [← eC] at hZC ⊢
            have eC1 : C ≤ xp.heap.size := by omega
            have eC2 : xp.heap.size ≤ C := by omega
            clear eC
            refine wpAnyH_ready (rs := [7]) (by kernel_rfl) (by simp) ?_
            refine (AllReadyH.cons rfl (fun K hK => ?_) AllReadyH.nil)
            go_simp
            go_wp2_with fail
            refine (cllIn_spec c d _ V _ side pn pk pi pa pm ps pl pc HV.out _ hC).mono ?_
            rintro e xg ⟨⟨u, tt, rfl, ht, hO⟩, hxg⟩
            subst ht
            rw [EU.out] at hO
            rw [ET.out]
            obtain ⟨a1W, k1W, a1O, k1O, a1X, k1X, a1I, k1I, rfl, _, _, _, _⟩ := hO.at
            obtain ⟨lg, elg⟩ : ∃ l, l = XC.heap.size := ⟨_, rfl⟩
            obtain ⟨hg, ehg⟩ : ∃ l, l = xg.heap.size := ⟨_, rfl⟩
            rw [← elg, ← ehg] at hO
            have elg1 : lg ≤ XC.heap.size := by omega
            have elg2 : XC.heap.size ≤ lg := by omega
            have ehg1 : hg ≤ xg.heap.size := by omega
            have ehg2 : xg.heap.size ≤ hg := by omega
            clear elg ehg
            replace hZC := hZC.below hxg
            have hsz_xg := hxg.size
            refine hK.out _ _ (bthenN hHeld (by omega) hxg) (fun hNew => ?_)
            clear hK K hHeld
            have hHeld := hNew
            clear hNew
            try simp only [Act.put, List.setIfInBounds_toArray, List.set_cons_zero, List.set_cons_succ, List.getElem_toArray, List.getElem_cons_zero, List.getElem_cons_succ]
            refine wpAnyH_take (i := 8) (v := .tuple #[.agg #[.int .i64 U.c, .slice a1W U.nW k1W, .int .i64 U.g, .slice a1O U.nO k1O, .slice a1X U.nX k1X, .slice a1I U.nI k1I], .bool TB]) rfl (by kernel_rfl) (by kernel_rfl) (by kernel_rfl) (fun _ _ _ h => h) (Or.inl ⟨by rfl, ?_⟩) (by assumption) ?_
            · intro wx hSw; obtain ⟨hcS, hfS⟩ := bcellN hSw; go_simp
            try simp only [Act.put, List.setIfInBounds_toArray, List.set_cons_zero, List.set_cons_succ, List.getElem_toArray, List.getElem_cons_zero, List.getElem_cons_succ]
            refine wpAnyH_take (i := 9) (v := .agg #[.int .i64 U.c, .slice a1W U.nW k1W, .int .i64 U.g, .slice a1O U.nO k1O, .slice a1X U.nX k1X, .slice a1I U.nI k1I]) rfl (by kernel_rfl) (by kernel_rfl) (by kernel_rfl) (fun _ _ _ h => h) (Or.inl ⟨by rfl, ?_⟩) (by assumption) ?_
            · intro wx hSw; obtain ⟨hcS, hfS⟩ := bcellN hSw; go_simp
            try simp only [Act.put, List.setIfInBounds_toArray, List.set_cons_zero, List.set_cons_succ, List.getElem_toArray, List.getElem_cons_zero, List.getElem_cons_succ]
            refine wpAnyH_take (i := 10) (v := .bool TB) rfl (by kernel_rfl) (by kernel_rfl) (by kernel_rfl) (fun _ _ _ h => h) (Or.inl ⟨by rfl, ?_⟩) (by assumption) ?_
            · intro wx hSw; obtain ⟨hcS, hfS⟩ := bcellN hSw; go_simp
            try simp only [Act.put, List.setIfInBounds_toArray, List.set_cons_zero, List.set_cons_succ, List.getElem_toArray, List.getElem_cons_zero, List.getElem_cons_succ]
            refine wpAnyH_ready (rs := [12]) (by kernel_rfl) (by simp) ?_
            refine (AllReadyH.cons rfl (fun K hK => ?_) AllReadyH.nil)
            have r0 := (hZC.2 0 (by simp)).1
            have r1 := (hZC.2 1 (by simp)).1
            have r2 := (hZC.2 2 (by simp)).1
            have r3 := (hZC.2 3 (by simp)).1
            have r4 := (hZC.2 4 (by simp)).1
            have r5 := (hZC.2 5 (by simp)).1
            have f0 := (hZC.2 0 (by simp)).2
            have f1 := (hZC.2 1 (by simp)).2
            have f2 := (hZC.2 2 (by simp)).2
            have f3 := (hZC.2 3 (by simp)).2
            have f4 := (hZC.2 4 (by simp)).2
            have f5 := (hZC.2 5 (by simp)).2
            simp only [List.getD, List.getElem?_cons_zero, List.getElem?_cons_succ, Option.getD_some] at r0 r1 r2 r3 r4 r5
            have lZC := hZC.1
            have hkC : w1.heap.size ≤ C := by omega
            go_simp
            obtain ⟨XSC, eS⟩ : ∃ X, X = ((((((xg.setCell ⟨C, 0, none⟩ (.int .i64 U.c)).setCell ⟨C, 1, none⟩ (.slice a1W U.nW k1W)).setCell ⟨C, 2, none⟩ (.int .i64 U.g)).setCell ⟨C, 3, none⟩ (.slice a1O U.nO k1O)).setCell ⟨C, 4, none⟩ (.slice a1X U.nX k1X)).setCell ⟨C, 5, none⟩ (.slice a1I U.nI k1I)) := ⟨_, rfl⟩
            rw [← eS]
            have hPC : Bk XSC C [.int .i64 U.c, .slice a1W U.nW k1W, .int .i64 U.g, .slice a1O U.nO k1O, .slice a1X U.nX k1X, .slice a1I U.nI k1I] := by rw [eS]; exact bk_put (l := [.int .i64 U.c, .slice a1W U.nW k1W, .int .i64 U.g, .slice a1O U.nO k1O, .slice a1X U.nX k1X, .slice a1I U.nI k1I]) hZC rfl
            have hzC1 : XSC.heap.size ≤ xg.heap.size := by rw [eS]; exact Nat.le_of_eq (size_put C [.int .i64 U.c, .slice a1W U.nW k1W, .int .i64 U.g, .slice a1O U.nO k1O, .slice a1X U.nX k1X, .slice a1I U.nI k1I] 0 xg)
            have hzC2 : xg.heap.size ≤ XSC.heap.size := by rw [eS]; exact Nat.le_of_eq (size_put C [.int .i64 U.c, .slice a1W U.nW k1W, .int .i64 U.g, .slice a1O U.nO k1O, .slice a1X U.nX k1X, .slice a1I U.nI k1I] 0 xg).symm
            have hmC : ∀ b, ¬ b = C → Sm xg XSC b := by rw [eS]; exact fun b hb => sm_put hb [.int .i64 U.c, .slice a1W U.nW k1W, .int .i64 U.g, .slice a1O U.nO k1O, .slice a1X U.nX k1X, .slice a1I U.nI k1I] 0 xg
            have hBC : Below (w1.heap.size) w1 XSC := by rw [eS]; exact below_put hkC [.int .i64 U.c, .slice a1W U.nW k1W, .int .i64 U.g, .slice a1O U.nO k1O, .slice a1X U.nX k1X, .slice a1I U.nI k1I] 0 hHeld
            clear eS r0 f0 r1 f1 r2 f2 r3 f3 r4 f4 r5 f5
            replace hO := hO.sm hzC2 (fun b q1 q2 => hmC b (by omega))
            refine hK.out _ _ hBC (fun hNew => ?_)
            clear hK K hHeld
            have hHeld := hNew
            clear hNew
            try simp only [Act.put, List.setIfInBounds_toArray, List.set_cons_zero, List.set_cons_succ, List.getElem_toArray, List.getElem_cons_zero, List.getElem_cons_succ]
            refine wpAnyH_take (i := 13) (v := .bool TB) rfl (by kernel_rfl) (by kernel_rfl) (by kernel_rfl) (fun _ _ _ h => h) (Or.inl ⟨by rfl, ?_⟩) (by assumption) ?_
            · intro wx hSw; obtain ⟨hcS, hfS⟩ := bcellN hSw; go_simp
            try simp only [Act.put, List.setIfInBounds_toArray, List.set_cons_zero, List.set_cons_succ, List.getElem_toArray, List.getElem_cons_zero, List.getElem_cons_succ]
            refine wpAnyH_done (by kernel_rfl) ?_ _
            go_wp2
            go_meet
            case rel => exact ⟨C, lg, hg, a1W, k1W, a1O, k1O, a1X, k1X, a1I, k1I, rfl, rfl, hPC, hO, ⟨by omega, hPC.1, by omega, by omega, by omega, by omega⟩, hHeld⟩
        · go_simp
          obtain ⟨XC, eA⟩ : ∃ X, X = xt.alloc (.cells #[.int .i64 0, .slice none 0 0, .int .i64 0, .slice none 0 0, .slice none 0 0, .slice none 0 0] 37) := ⟨_, rfl⟩
          rw [← eA]
          have hbA : Below xt.heap.size xt XC := by rw [eA]; exact (Below.refl _ _).alloc (Nat.le_refl _) _
          have hZC : Bk XC xt.heap.size [.int .i64 0, .slice none 0 0, .int .i64 0, .slice none 0 0, .slice none 0 0, .slice none 0 0] := by rw [eA]; exact bk_new xt 37 [.int .i64 0, .slice none 0 0, .int .i64 0, .slice none 0 0, .slice none 0 0, .slice none 0 0]
          have hzAC1 : XC.heap.size ≤ xt.heap.size + 1 := by rw [eA]; simp
          have hzAC2 : xt.heap.size + 1 ≤ XC.heap.size := by rw [eA]; simp
          clear eA
          replace hC := hC.below hbA
          have hsz_XC := hbA.size
          refine hK.out _ _ (bthenN hHeld (by omega) hbA) (fun hNew => ?_)
          clear hK K hHeld
          have hHeld := hNew
          clear hNew
          try simp only [Act.put, List.setIfInBounds_toArray, List.set_cons_zero, List.set_cons_succ, List.getElem_toArray, List.getElem_cons_zero, List.getElem_cons_succ]
          clear hbA
          obtain ⟨C, eC⟩ : ∃ g, g = xt.heap.size := ⟨_, rfl⟩
          rw [← eC] at hZC ⊢
          have eC1 : C ≤ xt.heap.size := by omega
          have eC2 : xt.heap.size ≤ C := by omega
          clear eC
          refine wpAnyH_ready (rs := [6]) (by kernel_rfl) (by simp) ?_
          refine (AllReadyH.cons rfl (fun K hK => ?_) AllReadyH.nil)
          go_simp
          go_wp2_with fail
          refine (toParcel _ _ _ _ _ _ _ _ _).mono ?_
          rintro e xp ⟨rfl, hxp⟩
          replace hC := hC.below hxp
          replace hZC := hZC.below hxp
          have hsz_xp := hxp.size
          refine hK.out _ _ (bthenN hHeld (by omega) hxp) (fun hNew => ?_)
          clear hK K hHeld
          have hHeld := hNew
          clear hNew
          try simp only [Act.put, List.setIfInBounds_toArray, List.set_cons_zero, List.set_cons_succ, List.getElem_toArray, List.getElem_cons_zero, List.getElem_cons_succ]
          refine wpAnyH_ready (rs := [7]) (by kernel_rfl) (by simp) ?_
          refine (AllReadyH.cons rfl (fun K hK => ?_) AllReadyH.nil)
          go_simp
          go_wp2_with fail
          refine (cllIn_spec c d _ V _ side pn pk pi pa pm ps pl pc HV.out _ hC).mono ?_
          rintro e xg ⟨⟨u, tt, rfl, ht, hO⟩, hxg⟩
          subst ht
          rw [EU.out] at hO
          rw [ET.out]
          obtain ⟨a1W, k1W, a1O, k1O, a1X, k1X, a1I, k1I, rfl, _, _, _, _⟩ := hO.at
          obtain ⟨lg, elg⟩ : ∃ l, l = xp.heap.size := ⟨_, rfl⟩
          obtain ⟨hg, ehg⟩ : ∃ l, l = xg.heap.size := ⟨_, rfl⟩
          rw [← elg, ← ehg] at hO
          have elg1 : lg ≤ xp.heap.size := by omega
          have elg2 : xp.heap.size ≤ lg := by omega
          have ehg1 : hg ≤ xg.heap.size := by omega
          have ehg2 : xg.heap.size ≤ hg := by omega
          clear elg ehg
          replace hZC := hZC.below hxg
          have hsz_xg := hxg.size
          refine hK.out _ _ (bthenN hHeld (by omega) hxg) (fun hNew => ?_)
          clear hK K hHeld
          have hHeld := hNew
          clear hNew
          try simp only [Act.put, List.setIfInBounds_toArray, List.set_cons_zero, List.set_cons_succ, List.getElem_toArray, List.getElem_cons_zero, List.getElem_cons_succ]
          refine wpAnyH_take (i := 8) (v := .tuple #[.agg #[.int .i64 U.c, .slice a1W U.nW k1W, .int .i64 U.g, .slice a1O U.nO k1O, .slice a1X U.nX k1X, .slice a1I U.nI k1I], .bool TB]) rfl (by kernel_rfl) (by kernel_rfl) (by kernel_rfl) (fun _ _ _ h => h) (Or.inl ⟨by rfl, ?_⟩) (by assumption) ?_
          · intro wx hSw; obtain ⟨hcS, hfS⟩ := bcellN hSw; go_simp
          try simp only [Act.put, List.setIfInBounds_toArray, List.set_cons_zero, List.set_cons_succ, List.getElem_toArray, List.getElem_cons_zero, List.getElem_cons_succ]
          refine wpAnyH_take (i := 9) (v := .agg #[.int .i64 U.c, .slice a1W U.nW k1W, .int .i64 U.g, .slice a1O U.nO k1O, .slice a1X U.nX k1X, .slice a1I U.nI k1I]) rfl (by kernel_rfl) (by kernel_rfl) (by kernel_rfl) (fun _ _ _ h => h) (Or.inl ⟨by rfl, ?_⟩) (by assumption) ?_
          · intro wx hSw; obtain ⟨hcS, hfS⟩ := bcellN hSw; go_simp
          try simp only [Act.put, List.setIfInBounds_toArray, List.set_cons_zero, List.set_cons_succ, List.getElem_toArray, List.getElem_cons_zero, List.getElem_cons_succ]
          refine wpAnyH_take (i := 10) (v := .bool TB) rfl (by kernel_rfl) (by kernel_rfl) (by kernel_rfl) (fun _ _ _ h => h) (Or.inl ⟨by rfl, ?_⟩) (by assumption) ?_
          · intro wx hSw; obtain ⟨hcS, hfS⟩ := bcellN hSw; go_simp
          try simp only [Act.put, List.setIfInBounds_toArray, List.set_cons_zero, List.set_cons_succ, List.getElem_toArray, List.getElem_cons_zero, List.getElem_cons_succ]
          refine wpAnyH_ready (rs := [12]) (by kernel_rfl) (by simp) ?_
          refine (AllReadyH.cons rfl (fun K hK => ?_) AllReadyH.nil)
          have r0 := (hZC.2 0 (by simp)).1
          have r1 := (hZC.2 1 (by simp)).1
          have r2 := (hZC.2 2 (by simp)).1
          have r3 := (hZC.2 3 (by simp)).1
          have r4 := (hZC.2 4 (by simp)).1
          have r5 := (hZC.2 5 (by simp)).1
          have f0 := (hZC.2 0 (by simp)).2
          have f1 := (hZC.2 1 (by simp)).2
          have f2 := (hZC.2 2 (by simp)).2
          have f3 := (hZC.2 3 (by simp)).2
          have f4 := (hZC.2 4 (by simp)).2
          have f5 := (hZC.2 5 (by simp)).2
          simp only [List.getD, List.getElem?_cons_zero, List.getElem?_cons_succ, Option.getD_some] at r0 r1 r2 r3 r4 r5
          have lZC := hZC.1
          have hkC : w1.heap.size ≤ C := by omega
          go_simp
          obtain ⟨XSC, eS⟩ : ∃ X, X = ((((((xg.setCell ⟨C, 0, none⟩ (.int .i64 U.c)).setCell ⟨C, 1, none⟩ (.slice a1W U.nW k1W)).setCell ⟨C, 2, none⟩ (.int .i64 U.g)).setCell ⟨C, 3, none⟩ (.slice a1O U.nO k1O)).setCell ⟨C, 4, none⟩ (.slice a1X U.nX k1X)).setCell ⟨C, 5, none⟩ (.slice a1I U.nI k1I)) := ⟨_, rfl⟩
          rw [← eS]
          have hPC : Bk XSC C [.int .i64 U.c, .slice a1W U.nW k1W, .int .i64 U.g, .slice a1O U.nO k1O, .slice a1X U.nX k1X, .slice a1I U.nI k1I] := by rw [eS]; exact bk_put (l := [.int .i64 U.c, .slice a1W U.nW k1W, .int .i64 U.g, .slice a1O U.nO k1O, .slice a1X U.nX k1X, .slice a1I U.nI k1I]) hZC rfl
          have hzC1 : XSC.heap.size ≤ xg.heap.size := by rw [eS]; exact Nat.le_of_eq (size_put C [.int .i64 U.c, .slice a1W U.nW k1W, .int .i64 U.g, .slice a1O U.nO k1O, .slice a1X U.nX k1X, .slice a1I U.nI k1I] 0 xg)
          have hzC2 : xg.heap.size ≤ XSC.heap.size := by rw [eS]; exact Nat.le_of_eq (size_put C [.int .i64 U.c, .slice a1W U.nW k1W, .int .i64 U.g, .slice a1O U.nO k1O, .slice a1X U.nX k1X, .slice a1I U.nI k1I] 0 xg).symm
          have hmC : ∀ b, ¬ b = C → Sm xg XSC b := by rw [eS]; exact fun b hb => sm_put hb [.int .i64 U.c, .slice a1W U.nW k1W, .int .i64 U.g, .slice a1O U.nO k1O, .slice a1X U.nX k1X, .slice a1I U.nI k1I] 0 xg
          have hBC : Below (w1.heap.size) w1 XSC := by rw [eS]; exact below_put hkC [.int .i64 U.c, .slice a1W U.nW k1W, .int .i64 U.g, .slice a1O U.nO k1O, .slice a1X U.nX k1X, .slice a1I U.nI k1I] 0 hHeld
          clear eS r0 f0 r1 f1 r2 f2 r3 f3 r4 f4 r5 f5
          replace hO := hO.sm hzC2 (fun b q1 q2 => hmC b (by omega))
          refine hK.out _ _ hBC (fun hNew => ?_)
          clear hK K hHeld
          have hHeld := hNew
          clear hNew
          try simp only [Act.put, List.setIfInBounds_toArray, List.set_cons_zero, List.set_cons_succ, List.getElem_toArray, List.getElem_cons_zero, List.getElem_cons_succ]
          refine wpAnyH_take (i := 13) (v := .bool TB) rfl (by kernel_rfl) (by kernel_rfl) (by kernel_rfl) (fun _ _ _ h => h) (Or.inl ⟨by rfl, ?_⟩) (by assumption) ?_
          · intro wx hSw; obtain ⟨hcS, hfS⟩ := bcellN hSw; go_simp
          try simp only [Act.put, List.setIfInBounds_toArray, List.set_cons_zero, List.set_cons_succ, List.getElem_toArray, List.getElem_cons_zero, List.getElem_cons_succ]
          refine wpAnyH_done (by kernel_rfl) ?_ _
          go_wp2
          go_meet
          case rel => exact ⟨C, lg, hg, a1W, k1W, a1O, k1O, a1X, k1X, a1I, k1I, rfl, rfl, hPC, hO, ⟨by omega, hPC.1, by omega, by omega, by omega, by omega⟩, hHeld⟩
      · go_simp
        obtain ⟨XC, eA⟩ : ∃ X, X = xm.alloc (.cells #[.int .i64 0, .slice none 0 0, .int .i64 0, .slice none 0 0, .slice none 0 0, .slice none 0 0] 37) := ⟨_, rfl⟩
        rw [← eA]
        have hbA : Below xm.heap.size xm XC := by rw [eA]; exact (Below.refl _ _).alloc (Nat.le_refl _) _
        have hZC : Bk XC xm.heap.size [.int .i64 0, .slice none 0 0, .int .i64 0, .slice none 0 0, .slice none 0 0, .slice none 0 0] := by rw [eA]; exact bk_new xm 37 [.int .i64 0, .slice none 0 0, .int .i64 0, .slice none 0 0, .slice none 0 0, .slice none 0 0]
        have hzAC1 : XC.heap.size ≤ xm.heap.size + 1 := by rw [eA]; simp
        have hzAC2 : xm.heap.size + 1 ≤ XC.heap.size := by rw [eA]; simp
        clear eA
        have hsz_XC := hbA.size
        refine hK.out _ _ (bthenN hHeld (by omega) hbA) (fun hNew => ?_)
        clear hK K hHeld
        have hHeld := hNew
        clear hNew
        try simp only [Act.put, List.setIfInBounds_toArray, List.set_cons_zero, List.set_cons_succ, List.getElem_toArray, List.getElem_cons_zero, List.getElem_cons_succ]
        clear hbA
        obtain ⟨C, eC⟩ : ∃ g, g = xm.heap.size := ⟨_, rfl⟩
        rw [← eC] at hZC ⊢
        have eC1 : C ≤ xm.heap.size := by omega
        have eC2 : xm.heap.size ≤ C := by omega
        clear eC
        refine wpAnyH_ready (rs := [3]) (by kernel_rfl) (by simp) ?_
        refine (AllReadyH.cons rfl (fun K hK => ?_) AllReadyH.nil)
        go_simp
        go_wp2_with fail
        refine (toCell _ V HV.out _ (cellAt_below H0.out (bthen B5.out hHeld))).mono ?_
        rintro e xt ⟨⟨vt, rfl, hC⟩, hxt⟩
        replace hZC := hZC.below hxt
        have hsz_xt := hxt.size
        refine hK.out _ _ (bthenN hHeld (by omega) hxt) (fun hNew => ?_)
        clear hK K hHeld
        have hHeld := hNew
        clear hNew
        try simp only [Act.put, List.setIfInBounds_toArray, List.set_cons_zero, List.set_cons_succ, List.getElem_toArray, List.getElem_cons_zero, List.getElem_cons_succ]
        refine wpAnyH_ready (rs := [6]) (by kernel_rfl) (by simp) ?_
        refine (AllReadyH.cons rfl (fun K hK => ?_) AllReadyH.nil)
        go_simp
        go_wp2_with fail
        refine (toParcel _ _ _ _ _ _ _ _ _).mono ?_
        rintro e xp ⟨rfl, hxp⟩
        replace hZC := hZC.below hxp
        replace hC := hC.below hxp
        have hsz_xp := hxp.size
        refine hK.out _ _ (bthenN hHeld (by omega) hxp) (fun hNew => ?_)
        clear hK K hHeld
        have hHeld := hNew
        clear hNew
        try simp only [Act.put, List.setIfInBounds_toArray, List.set_cons_zero, List.set_cons_succ, List.getElem_toArray, List.getElem_cons_zero, List.getElem_cons_succ]
        refine wpAnyH_ready (rs := [7]) (by kernel_rfl) (by simp) ?_
        refine (AllReadyH.cons rfl (fun K hK => ?_) AllReadyH.nil)
        go_simp
        go_wp2_with fail
        refine (cllIn_spec c d _ V _ side pn pk pi pa pm ps pl pc HV.out _ hC).mono ?_
        rintro e xg ⟨⟨u, tt, rfl, ht, hO⟩, hxg⟩
        subst ht
        rw [EU.out] at hO
        rw [ET.out]
        obtain ⟨a1W, k1W, a1O, k1O, a1X, k1X, a1I, k1I, rfl, _, _, _, _⟩ := hO.at
        obtain ⟨lg, elg⟩ : ∃ l, l = xp.heap.size := ⟨_, rfl⟩
        obtain ⟨hg, ehg⟩ : ∃ l, l = xg.heap.size := ⟨_, rfl⟩
        rw [← elg, ← ehg] at hO
        have elg1 : lg ≤ xp.heap.size := by omega
        have elg2 : xp.heap.size ≤ lg := by omega
        have ehg1 : hg ≤ xg.heap.size := by omega
        have ehg2 : xg.heap.size ≤ hg := by omega
        clear elg ehg
        replace hZC := hZC.below hxg
        have hsz_xg := hxg.size
        refine hK.out _ _ (bthenN hHeld (by omega) hxg) (fun hNew => ?_)
        clear hK K hHeld
        have hHeld := hNew
        clear hNew
        try simp only [Act.put, List.setIfInBounds_toArray, List.set_cons_zero, List.set_cons_succ, List.getElem_toArray, List.getElem_cons_zero, List.getElem_cons_succ]
        refine wpAnyH_take (i := 8) (v := .tuple #[.agg #[.int .i64 U.c, .slice a1W U.nW k1W, .int .i64 U.g, .slice a1O U.nO k1O, .slice a1X U.nX k1X, .slice a1I U.nI k1I], .bool TB]) rfl (by kernel_rfl) (by kernel_rfl) (by kernel_rfl) (fun _ _ _ h => h) (Or.inl ⟨by rfl, ?_⟩) (by assumption) ?_
        · intro wx hSw; obtain ⟨hcS, hfS⟩ := bcellN hSw; go_simp
        try simp only [Act.put, List.setIfInBounds_toArray, List.set_cons_zero, List.set_cons_succ, List.getElem_toArray, List.getElem_cons_zero, List.getElem_cons_succ]
        refine wpAnyH_take (i := 9) (v := .agg #[.int .i64 U.c, .slice a1W U.nW k1W, .int .i64 U.g, .slice a1O U.nO k1O, .slice a1X U.nX k1X, .slice a1I U.nI k1I]) rfl (by kernel_rfl) (by kernel_rfl) (by kernel_rfl) (fun _ _ _ h => h) (Or.inl ⟨by rfl, ?_⟩) (by assumption) ?_
        · intro wx hSw; obtain ⟨hcS, hfS⟩ := bcellN hSw; go_simp
        try simp only [Act.put, List.setIfInBounds_toArray, List.set_cons_zero, List.set_cons_succ, List.getElem_toArray, List.getElem_cons_zero, List.getElem_cons_succ]
        refine wpAnyH_take (i := 10) (v := .bool TB) rfl (by kernel_rfl) (by kernel_rfl) (by kernel_rfl) (fun _ _ _ h => h) (Or.inl ⟨by rfl, ?_⟩) (by assumption) ?_
        · intro wx hSw; obtain ⟨hcS, hfS⟩ := bcellN hSw; go_simp
        try simp only [Act.put, List.setIfInBounds_toArray, List.set_cons_zero, List.set_cons_succ, List.getElem_toArray, List.getElem_cons_zero, List.getElem_cons_succ]
        refine wpAnyH_ready (rs := [12]) (by kernel_rfl) (by simp) ?_
        refine (AllReadyH.cons rfl (fun K hK => ?_) AllReadyH.nil)
        have r0 := (hZC.2 0 (by simp)).1
        have r1 := (hZC.2 1 (by simp)).1
        have r2 := (hZC.2 2 (by simp)).1
        have r3 := (hZC.2 3 (by simp)).1
        have r4 := (hZC.2 4 (by simp)).1
        have r5 := (hZC.2 5 (by simp)).1
        have f0 := (hZC.2 0 (by simp)).2
        have f1 := (hZC.2 1 (by simp)).2
        have f2 := (hZC.2 2 (by simp)).2
        have f3 := (hZC.2 3 (by simp)).2
        have f4 := (hZC.2 4 (by simp)).2
        have f5 := (hZC.2 5 (by simp)).2
        simp only [List.getD, List.getElem?_cons_zero, List.getElem?_cons_succ, Option.getD_some] at r0 r1 r2 r3 r4 r5
        have lZC := hZC.1
        have hkC : w1.heap.size ≤ C := by omega
        go_simp
        obtain ⟨XSC, eS⟩ : ∃ X, X = ((((((xg.setCell ⟨C, 0, none⟩ (.int .i64 U.c)).setCell ⟨C, 1, none⟩ (.slice a1W U.nW k1W)).setCell ⟨C, 2, none⟩ (.int .i64 U.g)).setCell ⟨C, 3, none⟩ (.slice a1O U.nO k1O)).setCell ⟨C, 4, none⟩ (.slice a1X U.nX k1X)).setCell ⟨C, 5, none⟩ (.slice a1I U.nI k1I)) := ⟨_, rfl⟩
        rw [← eS]
        have hPC : Bk XSC C [.int .i64 U.c, .slice a1W U.nW k1W, .int .i64 U.g, .slice a1O U.nO k1O, .slice a1X U.nX k1X, .slice a1I U.nI k1I] := by rw [eS]; exact bk_put (l := [.int .i64 U.c, .slice a1W U.nW k1W, .int .i64 U.g, .slice a1O U.nO k1O, .slice a1X U.nX k1X, .slice a1I U.nI k1I]) hZC rfl
        have hzC1 : XSC.heap.size ≤ xg.heap.size := by rw [eS]; exact Nat.le_of_eq (size_put C [.int .i64 U.c, .slice a1W U.nW k1W, .int .i64 U.g, .slice a1O U.nO k1O, .slice a1X U.nX k1X, .slice a1I U.nI k1I] 0 xg)
        have hzC2 : xg.heap.size ≤ XSC.heap.size := by rw [eS]; exact Nat.le_of_eq (size_put C [.int .i64 U.c, .slice a1W U.nW k1W, .int .i64 U.g, .slice a1O U.nO k1O, .slice a1X U.nX k1X, .slice a1I U.nI k1I] 0 xg).symm
        have hmC : ∀ b, ¬ b = C → Sm xg XSC b := by rw [eS]; exact fun b hb => sm_put hb [.int .i64 U.c, .slice a1W U.nW k1W, .int .i64 U.g, .slice a1O U.nO k1O, .slice a1X U.nX k1X, .slice a1I U.nI k1I] 0 xg
        have hBC : Below (w1.heap.size) w1 XSC := by rw [eS]; exact below_put hkC [.int .i64 U.c, .slice a1W U.nW k1W, .int .i64 U.g, .slice a1O U.nO k1O, .slice a1X U.nX k1X, .slice a1I U.nI k1I] 0 hHeld
        clear eS r0 f0 r1 f1 r2 f2 r3 f3 r4 f4 r5 f5
        replace hO := hO.sm hzC2 (fun b q1 q2 => hmC b (by omega))
        refine hK.out _ _ hBC (fun hNew => ?_)
        clear hK K hHeld
        have hHeld := hNew
        clear hNew
        try simp only [Act.put, List.setIfInBounds_toArray, List.set_cons_zero, List.set_cons_succ, List.getElem_toArray, List.getElem_cons_zero, List.getElem_cons_succ]
        refine wpAnyH_take (i := 13) (v := .bool TB) rfl (by kernel_rfl) (by kernel_rfl) (by kernel_rfl) (fun _ _ _ h => h) (Or.inl ⟨by rfl, ?_⟩) (by assumption) ?_
        · intro wx hSw; obtain ⟨hcS, hfS⟩ := bcellN hSw; go_simp
        try simp only [Act.put, List.setIfInBounds_toArray, List.set_cons_zero, List.set_cons_succ, List.getElem_toArray, List.getElem_cons_zero, List.getElem_cons_succ]
        refine wpAnyH_done (by kernel_rfl) ?_ _
        go_wp2
        go_meet
        case rel => exact ⟨C, lg, hg, a1W, k1W, a1O, k1O, a1X, k1X, a1I, k1I, rfl, rfl, hPC, hO, ⟨by omega, hPC.1, by omega, by omega, by omega, by omega⟩, hHeld⟩
    · go_simp
      obtain ⟨XC, eA⟩ : ∃ X, X = X0.alloc (.cells #[.int .i64 0, .slice none 0 0, .int .i64 0, .slice none 0 0, .slice none 0 0, .slice none 0 0] 37) := ⟨_, rfl⟩
      rw [← eA]
      have hbA : Below X0.heap.size X0 XC := by rw [eA]; exact (Below.refl _ _).alloc (Nat.le_refl _) _
      have hZC : Bk XC X0.heap.size [.int .i64 0, .slice none 0 0, .int .i64 0, .slice none 0 0, .slice none 0 0, .slice none 0 0] := by rw [eA]; exact bk_new X0 37 [.int .i64 0, .slice none 0 0, .int .i64 0, .slice none 0 0, .slice none 0 0, .slice none 0 0]
      have hzAC1 : XC.heap.size ≤ X0.heap.size + 1 := by rw [eA]; simp
      have hzAC2 : X0.heap.size + 1 ≤ XC.heap.size := by rw [eA]; simp
      clear eA
      have hsz_XC := hbA.size
      refine hK.out _ _ (bthenN hHeld (by omega) hbA) (fun hNew => ?_)
      clear hK K hHeld
      have hHeld := hNew
      clear hNew
      try simp only [Act.put, List.setIfInBounds_toArray, List.set_cons_zero, List.set_cons_succ, List.getElem_toArray, List.getElem_cons_zero, List.getElem_cons_succ]
      clear hbA
      obtain ⟨C, eC⟩ : ∃ g, g = X0.heap.size := ⟨_, rfl⟩
      rw [← eC] at hZC ⊢
      have eC1 : C ≤ X0.heap.size := by omega
      have eC2 : X0.heap.size ≤ C := by omega
      clear eC
      refine wpAnyH_ready (rs := [1]) (by kernel_rfl) (by simp) ?_
      refine (AllReadyH.cons rfl (fun K hK => ?_) AllReadyH.nil)
      go_simp
      go_wp2_with fail
      refine (toMap _ _ _).mono ?_
      rintro e xm ⟨rfl, hxm⟩
      replace hZC := hZC.below hxm
      have hsz_xm := hxm.size
      refine hK.out _ _ (bthenN hHeld (by omega) hxm) (fun hNew => ?_)
      clear hK K hHeld
      have hHeld := hNew
      clear hNew
      try simp only [Act.put, List.setIfInBounds_toArray, List.set_cons_zero, List.set_cons_succ, List.getElem_toArray, List.getElem_cons_zero, List.getElem_cons_succ]
      refine wpAnyH_ready (rs := [3]) (by kernel_rfl) (by simp) ?_
      refine (AllReadyH.cons rfl (fun K hK => ?_) AllReadyH.nil)
      go_simp
      go_wp2_with fail
      refine (toCell _ V HV.out _ (cellAt_below H0.out (bthen B5.out hHeld))).mono ?_
      rintro e xt ⟨⟨vt, rfl, hC⟩, hxt⟩
      replace hZC := hZC.below hxt
      have hsz_xt := hxt.size
      refine hK.out _ _ (bthenN hHeld (by omega) hxt) (fun hNew => ?_)
      clear hK K hHeld
      have hHeld := hNew
      clear hNew
      try simp only [Act.put, List.setIfInBounds_toArray, List.set_cons_zero, List.set_cons_succ, List.getElem_toArray, List.getElem_cons_zero, List.getElem_cons_succ]
      refine wpAnyH_ready (rs := [6]) (by kernel_rfl) (by simp) ?_
      refine (AllReadyH.cons rfl (fun K hK => ?_) AllReadyH.nil)
      go_simp
      go_wp2_with fail
      refine (toParcel _ _ _ _ _ _ _ _ _).mono ?_
      rintro e xp ⟨rfl, hxp⟩
      replace hZC := hZC.below hxp
      replace hC := hC.below hxp
      have hsz_xp := hxp.size
      refine hK.out _ _ (bthenN hHeld (by omega) hxp) (fun hNew => ?_)
      clear hK K hHeld
      have hHeld := hNew
      clear hNew
      try simp only [Act.put, List.setIfInBounds_toArray, List.set_cons_zero, List.set_cons_succ, List.getElem_toArray, List.getElem_cons_zero, List.getElem_cons_succ]
      refine wpAnyH_ready (rs := [7]) (by kernel_rfl) (by simp) ?_
      refine (AllReadyH.cons rfl (fun K hK => ?_) AllReadyH.nil)
      go_simp
      go_wp2_with fail
      refine (cllIn_spec c d _ V _ side pn pk pi pa pm ps pl pc HV.out _ hC).mono ?_
      rintro e xg ⟨⟨u, tt, rfl, ht, hO⟩, hxg⟩
      subst ht
      rw [EU.out] at hO
      rw [ET.out]
      obtain ⟨a1W, k1W, a1O, k1O, a1X, k1X, a1I, k1I, rfl, _, _, _, _⟩ := hO.at
      obtain ⟨lg, elg⟩ : ∃ l, l = xp.heap.size := ⟨_, rfl⟩
      obtain ⟨hg, ehg⟩ : ∃ l, l = xg.heap.size := ⟨_, rfl⟩
      rw [← elg, ← ehg] at hO
      have elg1 : lg ≤ xp.heap.size := by omega
      have elg2 : xp.heap.size ≤ lg := by omega
      have ehg1 : hg ≤ xg.heap.size := by omega
      have ehg2 : xg.heap.size ≤ hg := by omega
      clear elg ehg
      replace hZC := hZC.below hxg
      have hsz_xg := hxg.size
      refine hK.out _ _ (bthenN hHeld (by omega) hxg) (fun hNew => ?_)
      clear hK K hHeld
      have hHeld := hNew
      clear hNew
      try simp only [Act.put, List.setIfInBounds_toArray, List.set_cons_zero, List.set_cons_succ, List.getElem_toArray, List.getElem_cons_zero, List.getElem_cons_succ]
      refine wpAnyH_take (i := 8) (v := .tuple #[.agg #[.int .i64 U.c, .slice a1W U.nW k1W, .int .i64 U.g, .slice a1O U.nO k1O, .slice a1X U.nX k1X, .slice a1I U.nI k1I], .bool TB]) rfl (by kernel_rfl) (by kernel_rfl) (by kernel_rfl) (fun _ _ _ h => h) (Or.inl ⟨by rfl, ?_⟩) (by assumption) ?_
      · intro wx hSw; obtain ⟨hcS, hfS⟩ := bcellN hSw; go_simp
      try simp only [Act.put, List.setIfInBounds_toArray, List.set_cons_zero, List.set_cons_succ, List.getElem_toArray, List.getElem_cons_zero, List.getElem_cons_succ]
      refine wpAnyH_take (i := 9) (v := .agg #[.int .i64 U.c, .slice a1W U.nW k1W, .int .i64 U.g, .slice a1O U.nO k1O, .slice a1X U.nX k1X, .slice a1I U.nI k1I]) rfl (by kernel_rfl) (by kernel_rfl) (by kernel_rfl) (fun _ _ _ h => h) (Or.inl ⟨by rfl, ?_⟩) (by assumption) ?_
      · intro wx hSw; obtain ⟨hcS, hfS⟩ := bcellN hSw; go_simp
      try simp only [Act.put, List.setIfInBounds_toArray, List.set_cons_zero, List.set_cons_succ, List.getElem_toArray, List.getElem_cons_zero, List.getElem_cons_succ]
      refine wpAnyH_take (i := 10) (v := .bool TB) rfl (by kernel_rfl) (by kernel_rfl) (by kernel_rfl) (fun _ _ _ h => h) (Or.inl ⟨by rfl, ?_⟩) (by assumption) ?_
      · intro wx hSw; obtain ⟨hcS, hfS⟩ := bcellN hSw; go_simp
      try simp only [Act.put, List.setIfInBounds_toArray, List.set_cons_zero, List.set_cons_succ, List.getElem_toArray, List.getElem_cons_zero, List.getElem_cons_succ]
      refine wpAnyH_ready (rs := [12]) (by kernel_rfl) (by simp) ?_
      refine (AllReadyH.cons rfl (fun K hK => ?_) AllReadyH.nil)
      have r0 := (hZC.2 0 (by simp)).1
      have r1 := (hZC.2 1 (by simp)).1
      have r2 := (hZC.2 2 (by simp)).1
      have r3 := (hZC.2 3 (by simp)).1
      have r4 := (hZC.2 4 (by simp)).1
      have r5 := (hZC.2 5 (by simp)).1
      have f0 := (hZC.2 0 (by simp)).2
      have f1 := (hZC.2 1 (by simp)).2
      have f2 := (hZC.2 2 (by simp)).2
      have f3 := (hZC.2 3 (by simp)).2
      have f4 := (hZC.2 4 (by simp)).2
      have f5 := (hZC.2 5 (by simp)).2
      simp only [List.getD, List.getElem?_cons_zero, List.getElem?_cons_succ, Option.getD_some] at r0 r1 r2 r3 r4 r5
      have lZC := hZC.1
      have hkC : w1.heap.size ≤ C := by omega
      go_simp
      obtain ⟨XSC, eS⟩ : ∃ X, X = ((((((xg.setCell ⟨C, 0, none⟩ (.int .i64 U.c)).setCell ⟨C, 1, none⟩ (.slice a1W U.nW k1W)).setCell ⟨C, 2, none⟩ (.int .i64 U.g)).setCell ⟨C, 3, none⟩ (.slice a1O U.nO k1O)).setCell ⟨C, 4, none⟩ (.slice a1X U.nX k1X)).setCell ⟨C, 5, none⟩ (.slice a1I U.nI k1I)) := ⟨_, rfl⟩
      rw [← eS]
      have hPC : Bk XSC C [.int .i64 U.c, .slice a1W U.nW k1W, .int .i64 U.g, .slice a1O U.nO k1O, .slice a1X U.nX k1X, .slice a1I U.nI k1I] := by rw [eS]; exact bk_put (l := [.int .i64 U.c, .slice a1W U.nW k1W, .int .i64 U.g, .slice a1O U.nO k1O, .slice a1X U.nX k1X, .slice a1I U.nI k1I]) hZC rfl
      have hzC1 : XSC.heap.size ≤ xg.heap.size := by rw [eS]; exact Nat.le_of_eq (size_put C [.int .i64 U.c, .slice a1W U.nW k1W, .int .i64 U.g, .slice a1O U.nO k1O, .slice a1X U.nX k1X, .slice a1I U.nI k1I] 0 xg)
      have hzC2 : xg.heap.size ≤ XSC.heap.size := by rw [eS]; exact Nat.le_of_eq (size_put C [.int .i64 U.c, .slice a1W U.nW k1W, .int .i64 U.g, .slice a1O U.nO k1O, .slice a1X U.nX k1X, .slice a1I U.nI k1I] 0 xg).symm
      have hmC : ∀ b, ¬ b = C → Sm xg XSC b := by rw [eS]; exact fun b hb => sm_put hb [.int .i64 U.c, .slice a1W U.nW k1W, .int .i64 U.g, .slice a1O U.nO k1O, .slice a1X U.nX k1X, .slice a1I U.nI k1I] 0 xg
      have hBC : Below (w1.heap.size) w1 XSC := by rw [eS]; exact below_put hkC [.int .i64 U.c, .slice a1W U.nW k1W, .int .i64 U.g, .slice a1O U.nO k1O, .slice a1X U.nX k1X, .slice a1I U.nI k1I] 0 hHeld
      clear eS r0 f0 r1 f1 r2 f2 r3 f3 r4 f4 r5 f5
      replace hO := hO.sm hzC2 (fun b q1 q2 => hmC b (by omega))
      refine hK.out _ _ hBC (fun hNew => ?_)
      clear hK K hHeld
      have hHeld := hNew
      clear hNew
      try simp only [Act.put, List.setIfInBounds_toArray, List.set_cons_zero, List.set_cons_succ, List.getElem_toArray, List.getElem_cons_zero, List.getElem_cons_succ]
      refine wpAnyH_take (i := 13) (v := .bool TB) rfl (by kernel_rfl) (by kernel_rfl) (by kernel_rfl) (fun _ _ _ h => h) (Or.inl ⟨by rfl, ?_⟩) (by assumption) ?_
      · intro wx hSw; obtain ⟨hcS, hfS⟩ := bcellN hSw; go_simp
      try simp only [Act.put, List.setIfInBounds_toArray, List.set_cons_zero, List.set_cons_succ, List.getElem_toArray, List.getElem_cons_zero, List.getElem_cons_succ]
      refine wpAnyH_done (by kernel_rfl) ?_ _
      go_wp2
      go_meet
      case rel => exact ⟨C, lg, hg, a1W, k1W, a1O, k1O, a1X, k1X, a1I, k1I, rfl, rfl, hPC, hO, ⟨by omega, hPC.1, by omega, by omega, by omega, by omega⟩, hHeld⟩
  case rest =>
    obtain ⟨w2, hwn⟩ : ∃ wn, wn = wc := ⟨_, rfl⟩
    subst hwn
    obtain ⟨g1, l1, h1, a1W, k1W, a1O, k1O, a1X, k1X, a1I, k1I, rfl, rfl, hG, hO, ⟨c11, c12, c13, c14, c15, c16⟩, hb⟩ := hcut
    have y_w2 : w1.heap.size ≤ w2.heap.size := hb.size
    have B6 : Hid (Below w.heap.size w w2) := bthen B5.out hb
    have M6 : Hid (Bk w2 w.heap.size [.int .i64 c, .int .i64 d]) := M5.out.below hb
    have A6 : Hid (Bk w2 (w.heap.size + 1) [.int .i64 V.c, .slice aW V.nW kW, .int .i64 V.g, .slice aO V.nO kO, .slice aX V.nX kX, .slice aI V.nI kI]) := A5.out.below hb
    have Q6 : Hid (Bk w2 (w.heap.size + 1 + 1) [.int .i64 pn, .int .i64 pk, .int .i64 pi, .int .i64 pa, .int .i64 pm, .int .i64 ps, .int .i64 pl, .int .i64 pc]) := Q5.out.below hb
    clear B5 M5 A5 Q5
    have O1_7 : Hid (OwnC l1 h1 w2 (.agg #[.int .i64 U.c, .slice a1W U.nW k1W, .int .i64 U.g, .slice a1O U.nO k1O, .slice a1X U.nX k1X, .slice a1I U.nI k1I]) U) := hO
    have G1_8 : Hid (Bk w2 g1 [.int .i64 U.c, .slice a1W U.nW k1W, .int .i64 U.g, .slice a1O U.nO k1O, .slice a1X U.nX k1X, .slice a1I U.nI k1I]) := hG
    clear hO hG hb
    have yA0 : w2.cell? ⟨(w.heap.size + 1), 0, none⟩ = some (.int .i64 V.c) := (A6.out.2 0 (by simp)).1
    have yA1 : w2.cell? ⟨(w.heap.size + 1), 1, none⟩ = some (.slice aW V.nW kW) := (A6.out.2 1 (by simp)).1
    have yA2 : w2.cell? ⟨(w.heap.size + 1), 2, none⟩ = some (.int .i64 V.g) := (A6.out.2 2 (by simp)).1
    have yA3 : w2.cell? ⟨(w.heap.size + 1), 3, none⟩ = some (.slice aO V.nO kO) := (A6.out.2 3 (by simp)).1
    have yA4 : w2.cell? ⟨(w.heap.size + 1), 4, none⟩ = some (.slice aX V.nX kX) := (A6.out.2 4 (by simp)).1
    have yA5 : w2.cell? ⟨(w.heap.size + 1), 5, none⟩ = some (.slice aI V.nI kI) := (A6.out.2 5 (by simp)).1
    have hlA : (w.heap.size + 1) < w2.heap.size := A6.out.1
    go_wp2_with fail
    refine (toCellB _ V HV.out _ (cellAt_below H0.out B6.out)).mono ?_
    rintro e w3 ⟨⟨v3, rfl, hC⟩, hb3⟩
    clear yA0 yA1 yA2 yA3 yA4 yA5 hlA
    have y_w3 : w2.heap.size ≤ w3.heap.size := hb3.size
    have B9 : Hid (Below w.heap.size w w3) := bthen B6.out hb3
    have M9 : Hid (Bk w3 w.heap.size [.int .i64 c, .int .i64 d]) := M6.out.below hb3
    have A9 : Hid (Bk w3 (w.heap.size + 1) [.int .i64 V.c, .slice aW V.nW kW, .int .i64 V.g, .slice aO V.nO kO, .slice aX V.nX kX, .slice aI V.nI kI]) := A6.out.below hb3
    have Q9 : Hid (Bk w3 (w.heap.size + 1 + 1) [.int .i64 pn, .int .i64 pk, .int .i64 pi, .int .i64 pa, .int .i64 pm, .int .i64 ps, .int .i64 pl, .int .i64 pc]) := Q6.out.below hb3
    have O1_9 : Hid (OwnC l1 h1 w3 (.agg #[.int .i64 U.c, .slice a1W U.nW k1W, .int .i64 U.g, .slice a1O U.nO k1O, .slice a1X U.nX k1X, .slice a1I U.nI k1I]) U) := O1_7.out.below (by omega) hb3
    have G1_9 : Hid (Bk w3 g1 [.int .i64 U.c, .slice a1W U.nW k1W, .int .i64 U.g, .slice a1O U.nO k1O, .slice a1X U.nX k1X, .slice a1I U.nI k1I]) := G1_8.out.below hb3
    clear B6 M6 A6 Q6 O1_7 G1_8
    clear hb3
    have hOX := hC.own
    have hCX := hC.copy
    obtain ⟨bW, bO, bX, bI, hi9, _, _, _, _, _, _, rfl, _, _, _, _⟩ := hC
    obtain ⟨lx, elx⟩ : ∃ l, l = w2.heap.size := ⟨_, rfl⟩
    obtain ⟨hx, ehx⟩ : ∃ l, l = w3.heap.size := ⟨_, rfl⟩
    rw [← elx, ← ehx] at hOX
    rw [← elx] at hCX
    have elx1 : lx ≤ w2.heap.size := by omega
    have elx2 : w2.heap.size ≤ lx := by omega
    have ehx1 : hx ≤ w3.heap.size := by omega
    have ehx2 : w3.heap.size ≤ hx := by omega
    clear elx ehx
    have HOX : Hid (OwnC lx hx w3 (.agg #[.int .i64 V.c, .slice (some ⟨bW, 0, none⟩) V.nW V.nW, .int .i64 V.g, .slice (some ⟨bO, 0, none⟩) V.nO V.nO, .slice (some ⟨bX, 0, none⟩) V.nX V.nX, .slice (some ⟨bI, 0, none⟩) V.nI V.nI]) V) := hOX
    have HCX : Hid (CopyAt lx w3 (.agg #[.int .i64 V.c, .slice (some ⟨bW, 0, none⟩) V.nW V.nW, .int .i64 V.g, .slice (some ⟨bO, 0, none⟩) V.nO V.nO, .slice (some ⟨bX, 0, none⟩) V.nX V.nX, .slice (some ⟨bI, 0, none⟩) V.nI V.nI]) V) := hCX
    clear hOX hCX
    go_upto_region 7 with fail
    obtain ⟨w4, e4⟩ : ∃ wq, wq = w3.alloc (.cells #[.int .i64 V.c, .slice (some ⟨bW, 0, none⟩) V.nW V.nW, .int .i64 V.g, .slice (some ⟨bO, 0, none⟩) V.nO V.nO, .slice (some ⟨bX, 0, none⟩) V.nX V.nX, .slice (some ⟨bI, 0, none⟩) V.nI V.nI] 37) := ⟨_, rfl⟩
    have hb4 : Below w3.heap.size w3 w4 := by rw [e4]; exact (Below.refl _ _).alloc (Nat.le_refl _) _
    have hG : Bk w4 w3.heap.size [.int .i64 V.c, .slice (some ⟨bW, 0, none⟩) V.nW V.nW, .int .i64 V.g, .slice (some ⟨bO, 0, none⟩) V.nO V.nO, .slice (some ⟨bX, 0, none⟩) V.nX V.nX, .slice (some ⟨bI, 0, none⟩) V.nI V.nI] := by rw [e4]; exact bk_new w3 37 [.int .i64 V.c, .slice (some ⟨bW, 0, none⟩) V.nW V.nW, .int .i64 V.g, .slice (some ⟨bO, 0, none⟩) V.nO V.nO, .slice (some ⟨bX, 0, none⟩) V.nX V.nX, .slice (some ⟨bI, 0, none⟩) V.nI V.nI]
    rw [← e4]
    clear e4
    have y_w4 : w3.heap.size ≤ w4.heap.size := hb4.size
    have B10 : Hid (Below w.heap.size w w4) := bthen B9.out hb4
    have M10 : Hid (Bk w4 w.heap.size [.int .i64 c, .int .i64 d]) := M9.out.below hb4
    have A10 : Hid (Bk w4 (w.heap.size + 1) [.int .i64 V.c, .slice aW V.nW kW, .int .i64 V.g, .slice aO V.nO kO, .slice aX V.nX kX, .slice aI V.nI kI]) := A9.out.below hb4
    have Q10 : Hid (Bk w4 (w.heap.size + 1 + 1) [.int .i64 pn, .int .i64 pk, .int .i64 pi, .int .i64 pa, .int .i64 pm, .int .i64 ps, .int .i64 pl, .int .i64 pc]) := Q9.out.below hb4
    have O1_10 : Hid (OwnC l1 h1 w4 (.agg #[.int .i64 U.c, .slice a1W U.nW k1W, .int .i64 U.g, .slice a1O U.nO k1O, .slice a1X U.nX k1X, .slice a1I U.nI k1I]) U) := O1_9.out.below (by omega) hb4
    have G1_10 : Hid (Bk w4 g1 [.int .i64 U.c, .slice a1W U.nW k1W, .int .i64 U.g, .slice a1O U.nO k1O, .slice a1X U.nX k1X, .slice a1I U.nI k1I]) := G1_9.out.below hb4
    clear B9 M9 A9 Q9 O1_9 G1_9
    obtain ⟨gx, egx⟩ : ∃ g, g = w3.heap.size := ⟨_, rfl⟩
    rw [← egx] at hG ⊢
    have eg1 : gx ≤ w3.heap.size := by omega
    have eg2 : w3.heap.size ≤ gx := by omega
    clear egx
    have OX_11 : Hid (OwnC lx hx w4 (.agg #[.int .i64 V.c, .slice (some ⟨bW, 0, none⟩) V.nW V.nW, .int .i64 V.g, .slice (some ⟨bO, 0, none⟩) V.nO V.nO, .slice (some ⟨bX, 0, none⟩) V.nX V.nX, .slice (some ⟨bI, 0, none⟩) V.nI V.nI]) V) := HOX.out.below (by omega) hb4
    have C12 : Hid (CopyAt lx w4 (.agg #[.int .i64 V.c, .slice (some ⟨bW, 0, none⟩) V.nW V.nW, .int .i64 V.g, .slice (some ⟨bO, 0, none⟩) V.nO V.nO, .slice (some ⟨bX, 0, none⟩) V.nX V.nX, .slice (some ⟨bI, 0, none⟩) V.nI V.nI]) V) := HCX.out.below hb4
    have X13 : Hid (Bk w4 gx [.int .i64 V.c, .slice (some ⟨bW, 0, none⟩) V.nW V.nW, .int .i64 V.g, .slice (some ⟨bO, 0, none⟩) V.nO V.nO, .slice (some ⟨bX, 0, none⟩) V.nX V.nX, .slice (some ⟨bI, 0, none⟩) V.nI V.nI]) := hG
    clear hG HOX HCX hb4
    have yx := X13.out.1
    go_cut [13, 14] (fun s t wx => ∃ g l h a2W k2W a2O k2O a2X k2X a2I k2I, .pointer (some ⟨g, 0, none⟩) = s ∧ .bool TB = t ∧ Bk wx g [.int .i64 U.c, .slice a2W U.nW k2W, .int .i64 U.g, .slice a2O U.nO k2O, .slice a2X U.nX k2X, .slice a2I U.nI k2I] ∧ OwnC l h wx (.agg #[.int .i64 U.c, .slice a2W U.nW k2W, .int .i64 U.g, .slice a2O U.nO k2O, .slice a2X U.nX k2X, .slice a2I U.nI k2I]) U ∧ (w4.heap.size ≤ g ∧ g < wx.heap.size ∧ w4.heap.size ≤ l ∧ l ≤ h ∧ h ≤ wx.heap.size ∧ (g < l ∨ h ≤ g)) ∧ Below w4.heap.size w4 wx)
    case first =>
      have yM0 : w4.cell? ⟨w.heap.size, 0, none⟩ = some (.int .i64 c) := (M10.out.2 0 (by simp)).1
      have yM1 : w4.cell? ⟨w.heap.size, 1, none⟩ = some (.int .i64 d) := (M10.out.2 1 (by simp)).1
      have hlM : w.heap.size < w4.heap.size := M10.out.1
      have yX0 : w4.cell? ⟨gx, 0, none⟩ = some (.int .i64 V.c) := (X13.out.2 0 (by simp)).1
      have yX1 : w4.cell? ⟨gx, 1, none⟩ = some (.slice (some ⟨bW, 0, none⟩) V.nW V.nW) := (X13.out.2 1 (by simp)).1
      have yX2 : w4.cell? ⟨gx, 2, none⟩ = some (.int .i64 V.g) := (X13.out.2 2 (by simp)).1
      have yX3 : w4.cell? ⟨gx, 3, none⟩ = some (.slice (some ⟨bO, 0, none⟩) V.nO V.nO) := (X13.out.2 3 (by simp)).1
      have yX4 : w4.cell? ⟨gx, 4, none⟩ = some (.slice (some ⟨bX, 0, none⟩) V.nX V.nX) := (X13.out.2 4 (by simp)).1
      have yX5 : w4.cell? ⟨gx, 5, none⟩ = some (.slice (some ⟨bI, 0, none⟩) V.nI V.nI) := (X13.out.2 5 (by simp)).1
      have hlX : gx < w4.heap.size := X13.out.1
      have yQ0 : w4.cell? ⟨(w.heap.size + 1 + 1), 0, none⟩ = some (.int .i64 pn) := (Q10.out.2 0 (by simp)).1
      have yQ1 : w4.cell? ⟨(w.heap.size + 1 + 1), 1, none⟩ = some (.int .i64 pk) := (Q10.out.2 1 (by simp)).1
      have yQ2 : w4.cell? ⟨(w.heap.size + 1 + 1), 2, none⟩ = some (.int .i64 pi) := (Q10.out.2 2 (by simp)).1
      have yQ3 : w4.cell? ⟨(w.heap.size + 1 + 1), 3, none⟩ = some (.int .i64 pa) := (Q10.out.2 3 (by simp)).1
      have yQ4 : w4.cell? ⟨(w.heap.size + 1 + 1), 4, none⟩ = some (.int .i64 pm) := (Q10.out.2 4 (by simp)).1
      have yQ5 : w4.cell? ⟨(w.heap.size + 1 + 1), 5, none⟩ = some (.int .i64 ps) := (Q10.out.2 5 (by simp)).1
      have yQ6 : w4.cell? ⟨(w.heap.size + 1 + 1), 6, none⟩ = some (.int .i64 pl) := (Q10.out.2 6 (by simp)).1
      have yQ7 : w4.cell? ⟨(w.heap.size + 1 + 1), 7, none⟩ = some (.int .i64 pc) := (Q10.out.2 7 (by simp)).1
      have hlQ : (w.heap.size + 1 + 1) < w4.heap.size := Q10.out.1
      refine wp_region_held_drew (S := fun w' => Below (w4.heap.size) w4 w') (by kernel_rfl) ((Below.refl _ _).drew) ?_
      intro hHeld
      obtain ⟨X0, hX0⟩ : ∃ X, X = w4.drew := ⟨_, rfl⟩
      have hz0 : w4.heap.size ≤ X0.heap.size := by rw [hX0]; exact Nat.le_refl _
      rw [← hX0] at hHeld ⊢
      clear hX0
      refine wpAnyH_take (i := 0) (v := .agg #[.int .i64 c, .int .i64 d]) rfl (by kernel_rfl) (by kernel_rfl) (by kernel_rfl) (fun _ _ _ h => h) (Or.inl ⟨by rfl, ?_⟩) (by assumption) ?_
      · intro wx hSw; obtain ⟨hcS, hfS⟩ := bcellN hSw; go_simp
      try simp only [Act.put, List.setIfInBounds_toArray, List.set_cons_zero, List.set_cons_succ, List.getElem_toArray, List.getElem_cons_zero]
      refine wpAnyH_take (i := 2) (v := .agg #[.int .i64 V.c, .slice (some ⟨bW, 0, none⟩) V.nW V.nW, .int .i64 V.g, .slice (some ⟨bO, 0, none⟩) V.nO V.nO, .slice (some ⟨bX, 0, none⟩) V.nX V.nX, .slice (some ⟨bI, 0, none⟩) V.nI V.nI]) rfl (by kernel_rfl) (by kernel_rfl) (by kernel_rfl) (fun _ _ _ h => h) (Or.inl ⟨by rfl, ?_⟩) (by assumption) ?_
      · intro wx hSw; obtain ⟨hcS, hfS⟩ := bcellN hSw; go_simp
      try simp only [Act.put, List.setIfInBounds_toArray, List.set_cons_zero, List.set_cons_succ, List.getElem_toArray, List.getElem_cons_zero, List.getElem_cons_succ]
      refine wpAnyH_take (i := 3) (v := .int .i64 side) rfl (by kernel_rfl) (by kernel_rfl) (by kernel_rfl) (fun _ _ _ h => h) (Or.inl ⟨by rfl, ?_⟩) (by assumption) ?_
      · intro wx hSw; obtain ⟨hcS, hfS⟩ := bcellN hSw; go_simp
      try simp only [Act.put, List.setIfInBounds_toArray, List.set_cons_zero, List.set_cons_succ, List.getElem_toArray, List.getElem_cons_zero, List.getElem_cons_succ]
      refine wpAnyH_take (i := 4) (v := .agg #[.int .i64 pn, .int .i64 pk, .int .i64 pi, .int .i64 pa, .int .i64 pm, .int .i64 ps, .int .i64 pl, .int .i64 pc]) rfl (by kernel_rfl) (by kernel_rfl) (by kernel_rfl) (fun _ _ _ h => h) (Or.inl ⟨by rfl, ?_⟩) (by assumption) ?_
      · intro wx hSw; obtain ⟨hcS, hfS⟩ := bcellN hSw; go_simp
      try simp only [Act.put, List.setIfInBounds_toArray, List.set_cons_zero, List.set_cons_succ, List.getElem_toArray, List.getElem_cons_zero, List.getElem_cons_succ]
      refine wpAnyH_ready (rs := [1, 10]) (by kernel_rfl) (by simp) ?_
      refine (AllReadyH.cons rfl (fun K hK => ?_) (AllReadyH.cons rfl (fun K hK => ?_) AllReadyH.nil))
      · go_simp
        go_wp2_with fail
        refine (toMap _ _ _).mono ?_
        rintro e xm ⟨rfl, hxm⟩
        have hsz_xm := hxm.size
        refine hK.out _ _ (bthenN hHeld (by omega) hxm) (fun hNew => ?_)
        clear hK K hHeld
        have hHeld := hNew
        clear hNew
        try simp only [Act.put, List.setIfInBounds_toArray, List.set_cons_zero, List.set_cons_succ, List.getElem_toArray, List.getElem_cons_zero, List.getElem_cons_succ]
        refine wpAnyH_ready (rs := [5, 10]) (by kernel_rfl) (by simp) ?_
        refine (AllReadyH.cons rfl (fun K hK => ?_) (AllReadyH.cons rfl (fun K hK => ?_) AllReadyH.nil))
        · go_simp
          go_wp2_with fail
          refine (toParcel _ _ _ _ _ _ _ _ _).mono ?_
          rintro e xp ⟨rfl, hxp⟩
          have hsz_xp := hxp.size
          refine hK.out _ _ (bthenN hHeld (by omega) hxp) (fun hNew => ?_)
          clear hK K hHeld
          have hHeld := hNew
          clear hNew
          try simp only [Act.put, List.setIfInBounds_toArray, List.set_cons_zero, List.set_cons_succ, List.getElem_toArray, List.getElem_cons_zero, List.getElem_cons_succ]
          refine wpAnyH_ready (rs := [6, 10]) (by kernel_rfl) (by simp) ?_
          refine (AllReadyH.cons rfl (fun K hK => ?_) (AllReadyH.cons rfl (fun K hK => ?_) AllReadyH.nil))
          · go_simp
            go_wp2_with fail
            refine (cllIn_impl c d _ V _ side pn pk pi pa pm ps pl pc HV.out hwf.out hwp.out _ (C12.out.below hHeld)).mono ?_
            rintro e xg ⟨⟨u, tt, rfl, ht, hO⟩, hxg⟩
            subst ht
            rw [EU.out] at hO
            rw [ET.out]
            obtain ⟨a2W, k2W, a2O, k2O, a2X, k2X, a2I, k2I, rfl, _, _, _, _⟩ := hO.at
            obtain ⟨lg, elg⟩ : ∃ l, l = xp.heap.size := ⟨_, rfl⟩
            obtain ⟨hg, ehg⟩ : ∃ l, l = xg.heap.size := ⟨_, rfl⟩
            rw [← elg, ← ehg] at hO
            have elg1 : lg ≤ xp.heap.size := by omega
            have elg2 : xp.heap.size ≤ lg := by omega
            have ehg1 : hg ≤ xg.heap.size := by omega
            have ehg2 : xg.heap.size ≤ hg := by omega
            clear elg ehg
            have hsz_xg := hxg.size
            refine hK.out _ _ (bthenN hHeld (by omega) hxg) (fun hNew => ?_)
            clear hK K hHeld
            have hHeld := hNew
            clear hNew
            try simp only [Act.put, List.setIfInBounds_toArray, List.set_cons_zero, List.set_cons_succ, List.getElem_toArray, List.getElem_cons_zero, List.getElem_cons_succ]
            refine wpAnyH_take (i := 7) (v := .tuple #[.agg #[.int .i64 U.c, .slice a2W U.nW k2W, .int .i64 U.g, .slice a2O U.nO k2O, .slice a2X U.nX k2X, .slice a2I U.nI k2I], .bool TB]) rfl (by kernel_rfl) (by kernel_rfl) (by kernel_rfl) (fun _ _ _ h => h) (Or.inl ⟨by rfl, ?_⟩) (by assumption) ?_
            · intro wx hSw; obtain ⟨hcS, hfS⟩ := bcellN hSw; go_simp
            try simp only [Act.put, List.setIfInBounds_toArray, List.set_cons_zero, List.set_cons_succ, List.getElem_toArray, List.getElem_cons_zero, List.getElem_cons_succ]
            refine wpAnyH_take (i := 8) (v := .agg #[.int .i64 U.c, .slice a2W U.nW k2W, .int .i64 U.g, .slice a2O U.nO k2O, .slice a2X U.nX k2X, .slice a2I U.nI k2I]) rfl (by kernel_rfl) (by kernel_rfl) (by kernel_rfl) (fun _ _ _ h => h) (Or.inl ⟨by rfl, ?_⟩) (by assumption) ?_
            · intro wx hSw; obtain ⟨hcS, hfS⟩ := bcellN hSw; go_simp
            try simp only [Act.put, List.setIfInBounds_toArray, List.set_cons_zero, List.set_cons_succ, List.getElem_toArray, List.getElem_cons_zero, List.getElem_cons_succ]
            refine wpAnyH_take (i := 9) (v := .bool TB) rfl (by kernel_rfl) (by kernel_rfl) (by kernel_rfl) (fun _ _ _ h => h) (Or.inl ⟨by rfl, ?_⟩) (by assumption) ?_
            · intro wx hSw; obtain ⟨hcS, hfS⟩ := bcellN hSw; go_simp
            try simp only [Act.put, List.setIfInBounds_toArray, List.set_cons_zero, List.set_cons_succ, List.getElem_toArray, List.getElem_cons_zero, List.getElem_cons_succ]
            refine wpAnyH_ready (rs := [10]) (by kernel_rfl) (by simp) ?_
            refine (AllReadyH.cons rfl (fun K hK => ?_) AllReadyH.nil)
            go_simp
            obtain ⟨XC, eA⟩ : ∃ X, X = xg.alloc (.cells #[.int .i64 0, .slice none 0 0, .int .i64 0, .slice none 0 0, .slice none 0 0, .slice none 0 0] 37) := ⟨_, rfl⟩
            rw [← eA]
            have hbA : Below xg.heap.size xg XC := by rw [eA]; exact (Below.refl _ _).alloc (Nat.le_refl _) _
            have hZC : Bk XC xg.heap.size [.int .i64 0, .slice none 0 0, .int .i64 0, .slice none 0 0, .slice none 0 0, .slice none 0 0] := by rw [eA]; exact bk_new xg 37 [.int .i64 0, .slice none 0 0, .int .i64 0, .slice none 0 0, .slice none 0 0, .slice none 0 0]
            have hzAC1 : XC.heap.size ≤ xg.heap.size + 1 := by rw [eA]; simp
            have hzAC2 : xg.heap.size + 1 ≤ XC.heap.size := by rw [eA]; simp
            clear eA
            replace hO := hO.below (by omega) hbA
            have hsz_XC := hbA.size
            refine hK.out _ _ (bthenN hHeld (by omega) hbA) (fun hNew => ?_)
            clear hK K hHeld
            have hHeld := hNew
            clear hNew
            try simp only [Act.put, List.setIfInBounds_toArray, List.set_cons_zero, List.set_cons_succ, List.getElem_toArray, List.getElem_cons_zero, List.getElem_cons_succ]
            clear hbA
            obtain ⟨C, eC⟩ : ∃ g, g = xg.heap.size := ⟨_, rfl⟩
            rw [← eC] at hZC ⊢
            have eC1 : C ≤ xg.heap.size := by omega
            have eC2 : xg.heap.size ≤ C := by omega
            clear eC
            refine wpAnyH_ready (rs := [11]) (by kernel_rfl) (by simp) ?_
            refine (AllReadyH.cons rfl (fun K hK => ?_) AllReadyH.nil)
            have r0 := (hZC.2 0 (by simp)).1
            have r1 := (hZC.2 1 (by simp)).1
            have r2 := (hZC.2 2 (by simp)).1
            have r3 := (hZC.2 3 (by simp)).1
            have r4 := (hZC.2 4 (by simp)).1
            have r5 := (hZC.2 5 (by simp)).1
            have f0 := (hZC.2 0 (by simp)).2
            have f1 := (hZC.2 1 (by simp)).2
            have f2 := (hZC.2 2 (by simp)).2
            have f3 := (hZC.2 3 (by simp)).2
            have f4 := (hZC.2 4 (by simp)).2
            have f5 := (hZC.2 5 (by simp)).2
            simp only [List.getD, List.getElem?_cons_zero, List.getElem?_cons_succ, Option.getD_some] at r0 r1 r2 r3 r4 r5
            have lZC := hZC.1
            have hkC : w4.heap.size ≤ C := by omega
            go_simp
            obtain ⟨XSC, eS⟩ : ∃ X, X = ((((((XC.setCell ⟨C, 0, none⟩ (.int .i64 U.c)).setCell ⟨C, 1, none⟩ (.slice a2W U.nW k2W)).setCell ⟨C, 2, none⟩ (.int .i64 U.g)).setCell ⟨C, 3, none⟩ (.slice a2O U.nO k2O)).setCell ⟨C, 4, none⟩ (.slice a2X U.nX k2X)).setCell ⟨C, 5, none⟩ (.slice a2I U.nI k2I)) := ⟨_, rfl⟩
            rw [← eS]
            have hPC : Bk XSC C [.int .i64 U.c, .slice a2W U.nW k2W, .int .i64 U.g, .slice a2O U.nO k2O, .slice a2X U.nX k2X, .slice a2I U.nI k2I] := by rw [eS]; exact bk_put (l := [.int .i64 U.c, .slice a2W U.nW k2W, .int .i64 U.g, .slice a2O U.nO k2O, .slice a2X U.nX k2X, .slice a2I U.nI k2I]) hZC rfl
            have hzC1 : XSC.heap.size ≤ XC.heap.size := by rw [eS]; exact Nat.le_of_eq (size_put C [.int .i64 U.c, .slice a2W U.nW k2W, .int .i64 U.g, .slice a2O U.nO k2O, .slice a2X U.nX k2X, .slice a2I U.nI k2I] 0 XC)
            have hzC2 : XC.heap.size ≤ XSC.heap.size := by rw [eS]; exact Nat.le_of_eq (size_put C [.int .i64 U.c, .slice a2W U.nW k2W, .int .i64 U.g, .slice a2O U.nO k2O, .slice a2X U.nX k2X, .slice a2I U.nI k2I] 0 XC).symm
            have hmC : ∀ b, ¬ b = C → Sm XC XSC b := by rw [eS]; exact fun b hb => sm_put hb [.int .i64 U.c, .slice a2W U.nW k2W, .int .i64 U.g, .slice a2O U.nO k2O, .slice a2X U.nX k2X, .slice a2I U.nI k2I] 0 XC
            have hBC : Below (w4.heap.size) w4 XSC := by rw [eS]; exact below_put hkC [.int .i64 U.c, .slice a2W U.nW k2W, .int .i64 U.g, .slice a2O U.nO k2O, .slice a2X U.nX k2X, .slice a2I U.nI k2I] 0 hHeld
            clear eS r0 f0 r1 f1 r2 f2 r3 f3 r4 f4 r5 f5
            replace hO := hO.sm hzC2 (fun b q1 q2 => hmC b (by omega))
            refine hK.out _ _ hBC (fun hNew => ?_)
            clear hK K hHeld
            have hHeld := hNew
            clear hNew
            try simp only [Act.put, List.setIfInBounds_toArray, List.set_cons_zero, List.set_cons_succ, List.getElem_toArray, List.getElem_cons_zero, List.getElem_cons_succ]
            refine wpAnyH_take (i := 12) (v := .bool TB) rfl (by kernel_rfl) (by kernel_rfl) (by kernel_rfl) (fun _ _ _ h => h) (Or.inl ⟨by rfl, ?_⟩) (by assumption) ?_
            · intro wx hSw; obtain ⟨hcS, hfS⟩ := bcellN hSw; go_simp
            try simp only [Act.put, List.setIfInBounds_toArray, List.set_cons_zero, List.set_cons_succ, List.getElem_toArray, List.getElem_cons_zero, List.getElem_cons_succ]
            refine wpAnyH_done (by kernel_rfl) ?_ _
            go_wp2
            go_meet
            case rel => exact ⟨C, lg, hg, a2W, k2W, a2O, k2O, a2X, k2X, a2I, k2I, rfl, rfl, hPC, hO, ⟨by omega, hPC.1, by omega, by omega, by omega, by omega⟩, hHeld⟩
          · go_simp
            obtain ⟨XC, eA⟩ : ∃ X, X = xp.alloc (.cells #[.int .i64 0, .slice none 0 0, .int .i64 0, .slice none 0 0, .slice none 0 0, .slice none 0 0] 37) := ⟨_, rfl⟩
            rw [← eA]
            have hbA : Below xp.heap.size xp XC := by rw [eA]; exact (Below.refl _ _).alloc (Nat.le_refl _) _
            have hZC : Bk XC xp.heap.size [.int .i64 0, .slice none 0 0, .int .i64 0, .slice none 0 0, .slice none 0 0, .slice none 0 0] := by rw [eA]; exact bk_new xp 37 [.int .i64 0, .slice none 0 0, .int .i64 0, .slice none 0 0, .slice none 0 0, .slice none 0 0]
            have hzAC1 : XC.heap.size ≤ xp.heap.size + 1 := by rw [eA]; simp
            have hzAC2 : xp.heap.size + 1 ≤ XC.heap.size := by rw [eA]; simp
            clear eA
            have hsz_XC := hbA.size
            refine hK.out _ _ (bthenN hHeld (by omega) hbA) (fun hNew => ?_)
            clear hK K hHeld
            have hHeld := hNew
            clear hNew
            try simp only [Act.put, List.setIfInBounds_toArray, List.set_cons_zero, List.set_cons_succ, List.getElem_toArray, List.getElem_cons_zero, List.getElem_cons_succ]
            clear hbA
            obtain ⟨C, eC⟩ : ∃ g, g = xp.heap.size := ⟨_, rfl⟩
            rw [← eC] at hZC ⊢
            have eC1 : C ≤ xp.heap.size := by omega
            have eC2 : xp.heap.size ≤ C := by omega
            clear eC
            refine wpAnyH_ready (rs := [6]) (by kernel_rfl) (by simp) ?_
            refine (AllReadyH.cons rfl (fun K hK => ?_) AllReadyH.nil)
            go_simp
            go_wp2_with fail
            refine (cllIn_impl c d _ V _ side pn pk pi pa pm ps pl pc HV.out hwf.out hwp.out _ (C12.out.below hHeld)).mono ?_
            rintro e xg ⟨⟨u, tt, rfl, ht, hO⟩, hxg⟩
            subst ht
            rw [EU.out] at hO
            rw [ET.out]
            obtain ⟨a2W, k2W, a2O, k2O, a2X, k2X, a2I, k2I, rfl, _, _, _, _⟩ := hO.at
            obtain ⟨lg, elg⟩ : ∃ l, l = XC.heap.size := ⟨_, rfl⟩
            obtain ⟨hg, ehg⟩ : ∃ l, l = xg.heap.size := ⟨_, rfl⟩
            rw [← elg, ← ehg] at hO
            have elg1 : lg ≤ XC.heap.size := by omega
            have elg2 : XC.heap.size ≤ lg := by omega
            have ehg1 : hg ≤ xg.heap.size := by omega
            have ehg2 : xg.heap.size ≤ hg := by omega
            clear elg ehg
            replace hZC := hZC.below hxg
            have hsz_xg := hxg.size
            refine hK.out _ _ (bthenN hHeld (by omega) hxg) (fun hNew => ?_)
            clear hK K hHeld
            have hHeld := hNew
            clear hNew
            try simp only [Act.put, List.setIfInBounds_toArray, List.set_cons_zero, List.set_cons_succ, List.getElem_toArray, List.getElem_cons_zero, List.getElem_cons_succ]
            refine wpAnyH_take (i := 7) (v := .tuple #[.agg #[.int .i64 U.c, .slice a2W U.nW k2W, .int .i64 U.g, .slice a2O U.nO k2O, .slice a2X U.nX k2X, .slice a2I U.nI k2I], .bool TB]) rfl (by kernel_rfl) (by kernel_rfl) (by kernel_rfl) (fun _ _ _ h => h) (Or.inl ⟨by rfl, ?_⟩) (by assumption) ?_
            · intro wx hSw; obtain ⟨hcS, hfS⟩ := bcellN hSw; go_simp
            try simp only [Act.put, List.setIfInBounds_toArray, List.set_cons_zero, List.set_cons_succ, List.getElem_toArray, List.getElem_cons_zero, List.getElem_cons_succ]
            refine wpAnyH_take (i := 8) (v := .agg #[.int .i64 U.c, .slice a2W U.nW k2W, .int .i64 U.g, .slice a2O U.nO k2O, .slice a2X U.nX k2X, .slice a2I U.nI k2I]) rfl (by kernel_rfl) (by kernel_rfl) (by kernel_rfl) (fun _ _ _ h => h) (Or.inl ⟨by rfl, ?_⟩) (by assumption) ?_
            · intro wx hSw; obtain ⟨hcS, hfS⟩ := bcellN hSw; go_simp
            try simp only [Act.put, List.setIfInBounds_toArray, List.set_cons_zero, List.set_cons_succ, List.getElem_toArray, List.getElem_cons_zero, List.getElem_cons_succ]
            refine wpAnyH_take (i := 9) (v := .bool TB) rfl (by kernel_rfl) (by kernel_rfl) (by kernel_rfl) (fun _ _ _ h => h) (Or.inl ⟨by rfl, ?_⟩) (by assumption) ?_
            · intro wx hSw; obtain ⟨hcS, hfS⟩ := bcellN hSw; go_simp
            try simp only [Act.put, List.setIfInBounds_toArray, List.set_cons_zero, List.set_cons_succ, List.getElem_toArray, List.getElem_cons_zero, List.getElem_cons_succ]
            refine wpAnyH_ready (rs := [11]) (by kernel_rfl) (by simp) ?_
            refine (AllReadyH.cons rfl (fun K hK => ?_) AllReadyH.nil)
            have r0 := (hZC.2 0 (by simp)).1
            have r1 := (hZC.2 1 (by simp)).1
            have r2 := (hZC.2 2 (by simp)).1
            have r3 := (hZC.2 3 (by simp)).1
            have r4 := (hZC.2 4 (by simp)).1
            have r5 := (hZC.2 5 (by simp)).1
            have f0 := (hZC.2 0 (by simp)).2
            have f1 := (hZC.2 1 (by simp)).2
            have f2 := (hZC.2 2 (by simp)).2
            have f3 := (hZC.2 3 (by simp)).2
            have f4 := (hZC.2 4 (by simp)).2
            have f5 := (hZC.2 5 (by simp)).2
            simp only [List.getD, List.getElem?_cons_zero, List.getElem?_cons_succ, Option.getD_some] at r0 r1 r2 r3 r4 r5
            have lZC := hZC.1
            have hkC : w4.heap.size ≤ C := by omega
            go_simp
            obtain ⟨XSC, eS⟩ : ∃ X, X = ((((((xg.setCell ⟨C, 0, none⟩ (.int .i64 U.c)).setCell ⟨C, 1, none⟩ (.slice a2W U.nW k2W)).setCell ⟨C, 2, none⟩ (.int .i64 U.g)).setCell ⟨C, 3, none⟩ (.slice a2O U.nO k2O)).setCell ⟨C, 4, none⟩ (.slice a2X U.nX k2X)).setCell ⟨C, 5, none⟩ (.slice a2I U.nI k2I)) := ⟨_, rfl⟩
            rw [← eS]
            have hPC : Bk XSC C [.int .i64 U.c, .slice a2W U.nW k2W, .int .i64 U.g, .slice a2O U.nO k2O, .slice a2X U.nX k2X, .slice a2I U.nI k2I] := by rw [eS]; exact bk_put (l := [.int .i64 U.c, .slice a2W U.nW k2W, .int .i64 U.g, .slice a2O U.nO k2O, .slice a2X U.nX k2X, .slice a2I U.nI k2I]) hZC rfl
            have hzC1 : XSC.heap.size ≤ xg.heap.size := by rw [eS]; exact Nat.le_of_eq (size_put C [.int .i64 U.c, .slice a2W U.nW k2W, .int .i64 U.g, .slice a2O U.nO k2O, .slice a2X U.nX k2X, .slice a2I U.nI k2I] 0 xg)
            have hzC2 : xg.heap.size ≤ XSC.heap.size := by rw [eS]; exact Nat.le_of_eq (size_put C [.int .i64 U.c, .slice a2W U.nW k2W, .int .i64 U.g, .slice a2O U.nO k2O, .slice a2X U.nX k2X, .slice a2I U.nI k2I] 0 xg).symm
            have hmC : ∀ b, ¬ b = C → Sm xg XSC b := by rw [eS]; exact fun b hb => sm_put hb [.int .i64 U.c, .slice a2W U.nW k2W, .int .i64 U.g, .slice a2O U.nO k2O, .slice a2X U.nX k2X, .slice a2I U.nI k2I] 0 xg
            have hBC : Below (w4.heap.size) w4 XSC := by rw [eS]; exact below_put hkC [.int .i64 U.c, .slice a2W U.nW k2W, .int .i64 U.g, .slice a2O U.nO k2O, .slice a2X U.nX k2X, .slice a2I U.nI k2I] 0 hHeld
            clear eS r0 f0 r1 f1 r2 f2 r3 f3 r4 f4 r5 f5
            replace hO := hO.sm hzC2 (fun b q1 q2 => hmC b (by omega))
            refine hK.out _ _ hBC (fun hNew => ?_)
            clear hK K hHeld
            have hHeld := hNew
            clear hNew
            try simp only [Act.put, List.setIfInBounds_toArray, List.set_cons_zero, List.set_cons_succ, List.getElem_toArray, List.getElem_cons_zero, List.getElem_cons_succ]
            refine wpAnyH_take (i := 12) (v := .bool TB) rfl (by kernel_rfl) (by kernel_rfl) (by kernel_rfl) (fun _ _ _ h => h) (Or.inl ⟨by rfl, ?_⟩) (by assumption) ?_
            · intro wx hSw; obtain ⟨hcS, hfS⟩ := bcellN hSw; go_simp
            try simp only [Act.put, List.setIfInBounds_toArray, List.set_cons_zero, List.set_cons_succ, List.getElem_toArray, List.getElem_cons_zero, List.getElem_cons_succ]
            refine wpAnyH_done (by kernel_rfl) ?_ _
            go_wp2
            go_meet
            case rel => exact ⟨C, lg, hg, a2W, k2W, a2O, k2O, a2X, k2X, a2I, k2I, rfl, rfl, hPC, hO, ⟨by omega, hPC.1, by omega, by omega, by omega, by omega⟩, hHeld⟩
        · go_simp
          obtain ⟨XC, eA⟩ : ∃ X, X = xm.alloc (.cells #[.int .i64 0, .slice none 0 0, .int .i64 0, .slice none 0 0, .slice none 0 0, .slice none 0 0] 37) := ⟨_, rfl⟩
          rw [← eA]
          have hbA : Below xm.heap.size xm XC := by rw [eA]; exact (Below.refl _ _).alloc (Nat.le_refl _) _
          have hZC : Bk XC xm.heap.size [.int .i64 0, .slice none 0 0, .int .i64 0, .slice none 0 0, .slice none 0 0, .slice none 0 0] := by rw [eA]; exact bk_new xm 37 [.int .i64 0, .slice none 0 0, .int .i64 0, .slice none 0 0, .slice none 0 0, .slice none 0 0]
          have hzAC1 : XC.heap.size ≤ xm.heap.size + 1 := by rw [eA]; simp
          have hzAC2 : xm.heap.size + 1 ≤ XC.heap.size := by rw [eA]; simp
          clear eA
          have hsz_XC := hbA.size
          refine hK.out _ _ (bthenN hHeld (by omega) hbA) (fun hNew => ?_)
          clear hK K hHeld
          have hHeld := hNew
          clear hNew
          try simp only [Act.put, List.setIfInBounds_toArray, List.set_cons_zero, List.set_cons_succ, List.getElem_toArray, List.getElem_cons_zero, List.getElem_cons_succ]
          clear hbA
          obtain ⟨C, eC⟩ : ∃ g, g = xm.heap.size := ⟨_, rfl⟩
          rw [← eC] at hZC ⊢
          have eC1 : C ≤ xm.heap.size := by omega
          have eC2 : xm.heap.size ≤ C := by omega
          clear eC
          refine wpAnyH_ready (rs := [5]) (by kernel_rfl) (by simp) ?_
          refine (AllReadyH.cons rfl (fun K hK => ?_) AllReadyH.nil)
          go_simp
          go_wp2_with fail
          refine (toParcel _ _ _ _ _ _ _ _ _).mono ?_
          rintro e xp ⟨rfl, hxp⟩
          replace hZC := hZC.below hxp
          have hsz_xp := hxp.size
          refine hK.out _ _ (bthenN hHeld (by omega) hxp) (fun hNew => ?_)
          clear hK K hHeld
          have hHeld := hNew
          clear hNew
          try simp only [Act.put, List.setIfInBounds_toArray, List.set_cons_zero, List.set_cons_succ, List.getElem_toArray, List.getElem_cons_zero, List.getElem_cons_succ]
          refine wpAnyH_ready (rs := [6]) (by kernel_rfl) (by simp) ?_
          refine (AllReadyH.cons rfl (fun K hK => ?_) AllReadyH.nil)
          go_simp
          go_wp2_with fail
          refine (cllIn_impl c d _ V _ side pn pk pi pa pm ps pl pc HV.out hwf.out hwp.out _ (C12.out.below hHeld)).mono ?_
          rintro e xg ⟨⟨u, tt, rfl, ht, hO⟩, hxg⟩
          subst ht
          rw [EU.out] at hO
          rw [ET.out]
          obtain ⟨a2W, k2W, a2O, k2O, a2X, k2X, a2I, k2I, rfl, _, _, _, _⟩ := hO.at
          obtain ⟨lg, elg⟩ : ∃ l, l = xp.heap.size := ⟨_, rfl⟩
          obtain ⟨hg, ehg⟩ : ∃ l, l = xg.heap.size := ⟨_, rfl⟩
          rw [← elg, ← ehg] at hO
          have elg1 : lg ≤ xp.heap.size := by omega
          have elg2 : xp.heap.size ≤ lg := by omega
          have ehg1 : hg ≤ xg.heap.size := by omega
          have ehg2 : xg.heap.size ≤ hg := by omega
          clear elg ehg
          replace hZC := hZC.below hxg
          have hsz_xg := hxg.size
          refine hK.out _ _ (bthenN hHeld (by omega) hxg) (fun hNew => ?_)
          clear hK K hHeld
          have hHeld := hNew
          clear hNew
          try simp only [Act.put, List.setIfInBounds_toArray, List.set_cons_zero, List.set_cons_succ, List.getElem_toArray, List.getElem_cons_zero, List.getElem_cons_succ]
          refine wpAnyH_take (i := 7) (v := .tuple #[.agg #[.int .i64 U.c, .slice a2W U.nW k2W, .int .i64 U.g, .slice a2O U.nO k2O, .slice a2X U.nX k2X, .slice a2I U.nI k2I], .bool TB]) rfl (by kernel_rfl) (by kernel_rfl) (by kernel_rfl) (fun _ _ _ h => h) (Or.inl ⟨by rfl, ?_⟩) (by assumption) ?_
          · intro wx hSw; obtain ⟨hcS, hfS⟩ := bcellN hSw; go_simp
          try simp only [Act.put, List.setIfInBounds_toArray, List.set_cons_zero, List.set_cons_succ, List.getElem_toArray, List.getElem_cons_zero, List.getElem_cons_succ]
          refine wpAnyH_take (i := 8) (v := .agg #[.int .i64 U.c, .slice a2W U.nW k2W, .int .i64 U.g, .slice a2O U.nO k2O, .slice a2X U.nX k2X, .slice a2I U.nI k2I]) rfl (by kernel_rfl) (by kernel_rfl) (by kernel_rfl) (fun _ _ _ h => h) (Or.inl ⟨by rfl, ?_⟩) (by assumption) ?_
          · intro wx hSw; obtain ⟨hcS, hfS⟩ := bcellN hSw; go_simp
          try simp only [Act.put, List.setIfInBounds_toArray, List.set_cons_zero, List.set_cons_succ, List.getElem_toArray, List.getElem_cons_zero, List.getElem_cons_succ]
          refine wpAnyH_take (i := 9) (v := .bool TB) rfl (by kernel_rfl) (by kernel_rfl) (by kernel_rfl) (fun _ _ _ h => h) (Or.inl ⟨by rfl, ?_⟩) (by assumption) ?_
          · intro wx hSw; obtain ⟨hcS, hfS⟩ := bcellN hSw; go_simp
          try simp only [Act.put, List.setIfInBounds_toArray, List.set_cons_zero, List.set_cons_succ, List.getElem_toArray, List.getElem_cons_zero, List.getElem_cons_succ]
          refine wpAnyH_ready (rs := [11]) (by kernel_rfl) (by simp) ?_
          refine (AllReadyH.cons rfl (fun K hK => ?_) AllReadyH.nil)
          have r0 := (hZC.2 0 (by simp)).1
          have r1 := (hZC.2 1 (by simp)).1
          have r2 := (hZC.2 2 (by simp)).1
          have r3 := (hZC.2 3 (by simp)).1
          have r4 := (hZC.2 4 (by simp)).1
          have r5 := (hZC.2 5 (by simp)).1
          have f0 := (hZC.2 0 (by simp)).2
          have f1 := (hZC.2 1 (by simp)).2
          have f2 := (hZC.2 2 (by simp)).2
          have f3 := (hZC.2 3 (by simp)).2
          have f4 := (hZC.2 4 (by simp)).2
          have f5 := (hZC.2 5 (by simp)).2
          simp only [List.getD, List.getElem?_cons_zero, List.getElem?_cons_succ, Option.getD_some] at r0 r1 r2 r3 r4 r5
          have lZC := hZC.1
          have hkC : w4.heap.size ≤ C := by omega
          go_simp
          obtain ⟨XSC, eS⟩ : ∃ X, X = ((((((xg.setCell ⟨C, 0, none⟩ (.int .i64 U.c)).setCell ⟨C, 1, none⟩ (.slice a2W U.nW k2W)).setCell ⟨C, 2, none⟩ (.int .i64 U.g)).setCell ⟨C, 3, none⟩ (.slice a2O U.nO k2O)).setCell ⟨C, 4, none⟩ (.slice a2X U.nX k2X)).setCell ⟨C, 5, none⟩ (.slice a2I U.nI k2I)) := ⟨_, rfl⟩
          rw [← eS]
          have hPC : Bk XSC C [.int .i64 U.c, .slice a2W U.nW k2W, .int .i64 U.g, .slice a2O U.nO k2O, .slice a2X U.nX k2X, .slice a2I U.nI k2I] := by rw [eS]; exact bk_put (l := [.int .i64 U.c, .slice a2W U.nW k2W, .int .i64 U.g, .slice a2O U.nO k2O, .slice a2X U.nX k2X, .slice a2I U.nI k2I]) hZC rfl
          have hzC1 : XSC.heap.size ≤ xg.heap.size := by rw [eS]; exact Nat.le_of_eq (size_put C [.int .i64 U.c, .slice a2W U.nW k2W, .int .i64 U.g, .slice a2O U.nO k2O, .slice a2X U.nX k2X, .slice a2I U.nI k2I] 0 xg)
          have hzC2 : xg.heap.size ≤ XSC.heap.size := by rw [eS]; exact Nat.le_of_eq (size_put C [.int .i64 U.c, .slice a2W U.nW k2W, .int .i64 U.g, .slice a2O U.nO k2O, .slice a2X U.nX k2X, .slice a2I U.nI k2I] 0 xg).symm
          have hmC : ∀ b, ¬ b = C → Sm xg XSC b := by rw [eS]; exact fun b hb => sm_put hb [.int .i64 U.c, .slice a2W U.nW k2W, .int .i64 U.g, .slice a2O U.nO k2O, .slice a2X U.nX k2X, .slice a2I U.nI k2I] 0 xg
          have hBC : Below (w4.heap.size) w4 XSC := by rw [eS]; exact below_put hkC [.int .i64 U.c, .slice a2W U.nW k2W, .int .i64 U.g, .slice a2O U.nO k2O, .slice a2X U.nX k2X, .slice a2I U.nI k2I] 0 hHeld
          clear eS r0 f0 r1 f1 r2 f2 r3 f3 r4 f4 r5 f5
          replace hO := hO.sm hzC2 (fun b q1 q2 => hmC b (by omega))
          refine hK.out _ _ hBC (fun hNew => ?_)
          clear hK K hHeld
          have hHeld := hNew
          clear hNew
          try simp only [Act.put, List.setIfInBounds_toArray, List.set_cons_zero, List.set_cons_succ, List.getElem_toArray, List.getElem_cons_zero, List.getElem_cons_succ]
          refine wpAnyH_take (i := 12) (v := .bool TB) rfl (by kernel_rfl) (by kernel_rfl) (by kernel_rfl) (fun _ _ _ h => h) (Or.inl ⟨by rfl, ?_⟩) (by assumption) ?_
          · intro wx hSw; obtain ⟨hcS, hfS⟩ := bcellN hSw; go_simp
          try simp only [Act.put, List.setIfInBounds_toArray, List.set_cons_zero, List.set_cons_succ, List.getElem_toArray, List.getElem_cons_zero, List.getElem_cons_succ]
          refine wpAnyH_done (by kernel_rfl) ?_ _
          go_wp2
          go_meet
          case rel => exact ⟨C, lg, hg, a2W, k2W, a2O, k2O, a2X, k2X, a2I, k2I, rfl, rfl, hPC, hO, ⟨by omega, hPC.1, by omega, by omega, by omega, by omega⟩, hHeld⟩
      · go_simp
        obtain ⟨XC, eA⟩ : ∃ X, X = X0.alloc (.cells #[.int .i64 0, .slice none 0 0, .int .i64 0, .slice none 0 0, .slice none 0 0, .slice none 0 0] 37) := ⟨_, rfl⟩
        rw [← eA]
        have hbA : Below X0.heap.size X0 XC := by rw [eA]; exact (Below.refl _ _).alloc (Nat.le_refl _) _
        have hZC : Bk XC X0.heap.size [.int .i64 0, .slice none 0 0, .int .i64 0, .slice none 0 0, .slice none 0 0, .slice none 0 0] := by rw [eA]; exact bk_new X0 37 [.int .i64 0, .slice none 0 0, .int .i64 0, .slice none 0 0, .slice none 0 0, .slice none 0 0]
        have hzAC1 : XC.heap.size ≤ X0.heap.size + 1 := by rw [eA]; simp
        have hzAC2 : X0.heap.size + 1 ≤ XC.heap.size := by rw [eA]; simp
        clear eA
        have hsz_XC := hbA.size
        refine hK.out _ _ (bthenN hHeld (by omega) hbA) (fun hNew => ?_)
        clear hK K hHeld
        have hHeld := hNew
        clear hNew
        try simp only [Act.put, List.setIfInBounds_toArray, List.set_cons_zero, List.set_cons_succ, List.getElem_toArray, List.getElem_cons_zero, List.getElem_cons_succ]
        clear hbA
        obtain ⟨C, eC⟩ : ∃ g, g = X0.heap.size := ⟨_, rfl⟩
        rw [← eC] at hZC ⊢
        have eC1 : C ≤ X0.heap.size := by omega
        have eC2 : X0.heap.size ≤ C := by omega
        clear eC
        refine wpAnyH_ready (rs := [1]) (by kernel_rfl) (by simp) ?_
        refine (AllReadyH.cons rfl (fun K hK => ?_) AllReadyH.nil)
        go_simp
        go_wp2_with fail
        refine (toMap _ _ _).mono ?_
        rintro e xm ⟨rfl, hxm⟩
        replace hZC := hZC.below hxm
        have hsz_xm := hxm.size
        refine hK.out _ _ (bthenN hHeld (by omega) hxm) (fun hNew => ?_)
        clear hK K hHeld
        have hHeld := hNew
        clear hNew
        try simp only [Act.put, List.setIfInBounds_toArray, List.set_cons_zero, List.set_cons_succ, List.getElem_toArray, List.getElem_cons_zero, List.getElem_cons_succ]
        refine wpAnyH_ready (rs := [5]) (by kernel_rfl) (by simp) ?_
        refine (AllReadyH.cons rfl (fun K hK => ?_) AllReadyH.nil)
        go_simp
        go_wp2_with fail
        refine (toParcel _ _ _ _ _ _ _ _ _).mono ?_
        rintro e xp ⟨rfl, hxp⟩
        replace hZC := hZC.below hxp
        have hsz_xp := hxp.size
        refine hK.out _ _ (bthenN hHeld (by omega) hxp) (fun hNew => ?_)
        clear hK K hHeld
        have hHeld := hNew
        clear hNew
        try simp only [Act.put, List.setIfInBounds_toArray, List.set_cons_zero, List.set_cons_succ, List.getElem_toArray, List.getElem_cons_zero, List.getElem_cons_succ]
        refine wpAnyH_ready (rs := [6]) (by kernel_rfl) (by simp) ?_
        refine (AllReadyH.cons rfl (fun K hK => ?_) AllReadyH.nil)
        go_simp
        go_wp2_with fail
        refine (cllIn_impl c d _ V _ side pn pk pi pa pm ps pl pc HV.out hwf.out hwp.out _ (C12.out.below hHeld)).mono ?_
        rintro e xg ⟨⟨u, tt, rfl, ht, hO⟩, hxg⟩
        subst ht
        rw [EU.out] at hO
        rw [ET.out]
        obtain ⟨a2W, k2W, a2O, k2O, a2X, k2X, a2I, k2I, rfl, _, _, _, _⟩ := hO.at
        obtain ⟨lg, elg⟩ : ∃ l, l = xp.heap.size := ⟨_, rfl⟩
        obtain ⟨hg, ehg⟩ : ∃ l, l = xg.heap.size := ⟨_, rfl⟩
        rw [← elg, ← ehg] at hO
        have elg1 : lg ≤ xp.heap.size := by omega
        have elg2 : xp.heap.size ≤ lg := by omega
        have ehg1 : hg ≤ xg.heap.size := by omega
        have ehg2 : xg.heap.size ≤ hg := by omega
        clear elg ehg
        replace hZC := hZC.below hxg
        have hsz_xg := hxg.size
        refine hK.out _ _ (bthenN hHeld (by omega) hxg) (fun hNew => ?_)
        clear hK K hHeld
        have hHeld := hNew
        clear hNew
        try simp only [Act.put, List.setIfInBounds_toArray, List.set_cons_zero, List.set_cons_succ, List.getElem_toArray, List.getElem_cons_zero, List.getElem_cons_succ]
        refine wpAnyH_take (i := 7) (v := .tuple #[.agg #[.int .i64 U.c, .slice a2W U.nW k2W, .int .i64 U.g, .slice a2O U.nO k2O, .slice a2X U.nX k2X, .slice a2I U.nI k2I], .bool TB]) rfl (by kernel_rfl) (by kernel_rfl) (by kernel_rfl) (fun _ _ _ h => h) (Or.inl ⟨by rfl, ?_⟩) (by assumption) ?_
        · intro wx hSw; obtain ⟨hcS, hfS⟩ := bcellN hSw; go_simp
        try simp only [Act.put, List.setIfInBounds_toArray, List.set_cons_zero, List.set_cons_succ, List.getElem_toArray, List.getElem_cons_zero, List.getElem_cons_succ]
        refine wpAnyH_take (i := 8) (v := .agg #[.int .i64 U.c, .slice a2W U.nW k2W, .int .i64 U.g, .slice a2O U.nO k2O, .slice a2X U.nX k2X, .slice a2I U.nI k2I]) rfl (by kernel_rfl) (by kernel_rfl) (by kernel_rfl) (fun _ _ _ h => h) (Or.inl ⟨by rfl, ?_⟩) (by assumption) ?_
        · intro wx hSw; obtain ⟨hcS, hfS⟩ := bcellN hSw; go_simp
        try simp only [Act.put, List.setIfInBounds_toArray, List.set_cons_zero, List.set_cons_succ, List.getElem_toArray, List.getElem_cons_zero, List.getElem_cons_succ]
        refine wpAnyH_take (i := 9) (v := .bool TB) rfl (by kernel_rfl) (by kernel_rfl) (by kernel_rfl) (fun _ _ _ h => h) (Or.inl ⟨by rfl, ?_⟩) (by assumption) ?_
        · intro wx hSw; obtain ⟨hcS, hfS⟩ := bcellN hSw; go_simp
        try simp only [Act.put, List.setIfInBounds_toArray, List.set_cons_zero, List.set_cons_succ, List.getElem_toArray, List.getElem_cons_zero, List.getElem_cons_succ]
        refine wpAnyH_ready (rs := [11]) (by kernel_rfl) (by simp) ?_
        refine (AllReadyH.cons rfl (fun K hK => ?_) AllReadyH.nil)
        have r0 := (hZC.2 0 (by simp)).1
        have r1 := (hZC.2 1 (by simp)).1
        have r2 := (hZC.2 2 (by simp)).1
        have r3 := (hZC.2 3 (by simp)).1
        have r4 := (hZC.2 4 (by simp)).1
        have r5 := (hZC.2 5 (by simp)).1
        have f0 := (hZC.2 0 (by simp)).2
        have f1 := (hZC.2 1 (by simp)).2
        have f2 := (hZC.2 2 (by simp)).2
        have f3 := (hZC.2 3 (by simp)).2
        have f4 := (hZC.2 4 (by simp)).2
        have f5 := (hZC.2 5 (by simp)).2
        simp only [List.getD, List.getElem?_cons_zero, List.getElem?_cons_succ, Option.getD_some] at r0 r1 r2 r3 r4 r5
        have lZC := hZC.1
        have hkC : w4.heap.size ≤ C := by omega
        go_simp
        obtain ⟨XSC, eS⟩ : ∃ X, X = ((((((xg.setCell ⟨C, 0, none⟩ (.int .i64 U.c)).setCell ⟨C, 1, none⟩ (.slice a2W U.nW k2W)).setCell ⟨C, 2, none⟩ (.int .i64 U.g)).setCell ⟨C, 3, none⟩ (.slice a2O U.nO k2O)).setCell ⟨C, 4, none⟩ (.slice a2X U.nX k2X)).setCell ⟨C, 5, none⟩ (.slice a2I U.nI k2I)) := ⟨_, rfl⟩
        rw [← eS]
        have hPC : Bk XSC C [.int .i64 U.c, .slice a2W U.nW k2W, .int .i64 U.g, .slice a2O U.nO k2O, .slice a2X U.nX k2X, .slice a2I U.nI k2I] := by rw [eS]; exact bk_put (l := [.int .i64 U.c, .slice a2W U.nW k2W, .int .i64 U.g, .slice a2O U.nO k2O, .slice a2X U.nX k2X, .slice a2I U.nI k2I]) hZC rfl
        have hzC1 : XSC.heap.size ≤ xg.heap.size := by rw [eS]; exact Nat.le_of_eq (size_put C [.int .i64 U.c, .slice a2W U.nW k2W, .int .i64 U.g, .slice a2O U.nO k2O, .slice a2X U.nX k2X, .slice a2I U.nI k2I] 0 xg)
        have hzC2 : xg.heap.size ≤ XSC.heap.size := by rw [eS]; exact Nat.le_of_eq (size_put C [.int .i64 U.c, .slice a2W U.nW k2W, .int .i64 U.g, .slice a2O U.nO k2O, .slice a2X U.nX k2X, .slice a2I U.nI k2I] 0 xg).symm
        have hmC : ∀ b, ¬ b = C → Sm xg XSC b := by rw [eS]; exact fun b hb => sm_put hb [.int .i64 U.c, .slice a2W U.nW k2W, .int .i64 U.g, .slice a2O U.nO k2O, .slice a2X U.nX k2X, .slice a2I U.nI k2I] 0 xg
        have hBC : Below (w4.heap.size) w4 XSC := by rw [eS]; exact below_put hkC [.int .i64 U.c, .slice a2W U.nW k2W, .int .i64 U.g, .slice a2O U.nO k2O, .slice a2X U.nX k2X, .slice a2I U.nI k2I] 0 hHeld
        clear eS r0 f0 r1 f1 r2 f2 r3 f3 r4 f4 r5 f5
        replace hO := hO.sm hzC2 (fun b q1 q2 => hmC b (by omega))
        refine hK.out _ _ hBC (fun hNew => ?_)
        clear hK K hHeld
        have hHeld := hNew
        clear hNew
        try simp only [Act.put, List.setIfInBounds_toArray, List.set_cons_zero, List.set_cons_succ, List.getElem_toArray, List.getElem_cons_zero, List.getElem_cons_succ]
        refine wpAnyH_take (i := 12) (v := .bool TB) rfl (by kernel_rfl) (by kernel_rfl) (by kernel_rfl) (fun _ _ _ h => h) (Or.inl ⟨by rfl, ?_⟩) (by assumption) ?_
        · intro wx hSw; obtain ⟨hcS, hfS⟩ := bcellN hSw; go_simp
        try simp only [Act.put, List.setIfInBounds_toArray, List.set_cons_zero, List.set_cons_succ, List.getElem_toArray, List.getElem_cons_zero, List.getElem_cons_succ]
        refine wpAnyH_done (by kernel_rfl) ?_ _
        go_wp2
        go_meet
        case rel => exact ⟨C, lg, hg, a2W, k2W, a2O, k2O, a2X, k2X, a2I, k2I, rfl, rfl, hPC, hO, ⟨by omega, hPC.1, by omega, by omega, by omega, by omega⟩, hHeld⟩
    case rest =>
      obtain ⟨w5, hwn⟩ : ∃ wn, wn = wc := ⟨_, rfl⟩
      subst hwn
      obtain ⟨g2, l2, h2, a2W, k2W, a2O, k2O, a2X, k2X, a2I, k2I, rfl, rfl, hG, hO, ⟨c21, c22, c23, c24, c25, c26⟩, hb⟩ := hcut
      have y_w5 : w4.heap.size ≤ w5.heap.size := hb.size
      have B14 : Hid (Below w.heap.size w w5) := bthen B10.out hb
      have M14 : Hid (Bk w5 w.heap.size [.int .i64 c, .int .i64 d]) := M10.out.below hb
      have A14 : Hid (Bk w5 (w.heap.size + 1) [.int .i64 V.c, .slice aW V.nW kW, .int .i64 V.g, .slice aO V.nO kO, .slice aX V.nX kX, .slice aI V.nI kI]) := A10.out.below hb
      have Q14 : Hid (Bk w5 (w.heap.size + 1 + 1) [.int .i64 pn, .int .i64 pk, .int .i64 pi, .int .i64 pa, .int .i64 pm, .int .i64 ps, .int .i64 pl, .int .i64 pc]) := Q10.out.below hb
      have O1_14 : Hid (OwnC l1 h1 w5 (.agg #[.int .i64 U.c, .slice a1W U.nW k1W, .int .i64 U.g, .slice a1O U.nO k1O, .slice a1X U.nX k1X, .slice a1I U.nI k1I]) U) := O1_10.out.below (by omega) hb
      have G1_14 : Hid (Bk w5 g1 [.int .i64 U.c, .slice a1W U.nW k1W, .int .i64 U.g, .slice a1O U.nO k1O, .slice a1X U.nX k1X, .slice a1I U.nI k1I]) := G1_10.out.below hb
      have OX_14 : Hid (OwnC lx hx w5 (.agg #[.int .i64 V.c, .slice (some ⟨bW, 0, none⟩) V.nW V.nW, .int .i64 V.g, .slice (some ⟨bO, 0, none⟩) V.nO V.nO, .slice (some ⟨bX, 0, none⟩) V.nX V.nX, .slice (some ⟨bI, 0, none⟩) V.nI V.nI]) V) := OX_11.out.below (by omega) hb
      have C14 : Hid (CopyAt lx w5 (.agg #[.int .i64 V.c, .slice (some ⟨bW, 0, none⟩) V.nW V.nW, .int .i64 V.g, .slice (some ⟨bO, 0, none⟩) V.nO V.nO, .slice (some ⟨bX, 0, none⟩) V.nX V.nX, .slice (some ⟨bI, 0, none⟩) V.nI V.nI]) V) := C12.out.below hb
      have X14 : Hid (Bk w5 gx [.int .i64 V.c, .slice (some ⟨bW, 0, none⟩) V.nW V.nW, .int .i64 V.g, .slice (some ⟨bO, 0, none⟩) V.nO V.nO, .slice (some ⟨bX, 0, none⟩) V.nX V.nX, .slice (some ⟨bI, 0, none⟩) V.nI V.nI]) := X13.out.below hb
      clear B10 M10 A10 Q10 O1_10 G1_10 OX_11 C12 X13
      have O2_15 : Hid (OwnC l2 h2 w5 (.agg #[.int .i64 U.c, .slice a2W U.nW k2W, .int .i64 U.g, .slice a2O U.nO k2O, .slice a2X U.nX k2X, .slice a2I U.nI k2I]) U) := hO
      have G2_16 : Hid (Bk w5 g2 [.int .i64 U.c, .slice a2W U.nW k2W, .int .i64 U.g, .slice a2O U.nO k2O, .slice a2X U.nX k2X, .slice a2I U.nI k2I]) := hG
      clear hO hG hb
      clear C14
      have yG1_0 : w5.cell? ⟨g1, 0, none⟩ = some (.int .i64 U.c) := (G1_14.out.2 0 (by simp)).1
      have yG1_1 : w5.cell? ⟨g1, 1, none⟩ = some (.slice a1W U.nW k1W) := (G1_14.out.2 1 (by simp)).1
      have yG1_2 : w5.cell? ⟨g1, 2, none⟩ = some (.int .i64 U.g) := (G1_14.out.2 2 (by simp)).1
      have yG1_3 : w5.cell? ⟨g1, 3, none⟩ = some (.slice a1O U.nO k1O) := (G1_14.out.2 3 (by simp)).1
      have yG1_4 : w5.cell? ⟨g1, 4, none⟩ = some (.slice a1X U.nX k1X) := (G1_14.out.2 4 (by simp)).1
      have yG1_5 : w5.cell? ⟨g1, 5, none⟩ = some (.slice a1I U.nI k1I) := (G1_14.out.2 5 (by simp)).1
      have hlG1_ : g1 < w5.heap.size := G1_14.out.1
      have yG2_0 : w5.cell? ⟨g2, 0, none⟩ = some (.int .i64 U.c) := (G2_16.out.2 0 (by simp)).1
      have yG2_1 : w5.cell? ⟨g2, 1, none⟩ = some (.slice a2W U.nW k2W) := (G2_16.out.2 1 (by simp)).1
      have yG2_2 : w5.cell? ⟨g2, 2, none⟩ = some (.int .i64 U.g) := (G2_16.out.2 2 (by simp)).1
      have yG2_3 : w5.cell? ⟨g2, 3, none⟩ = some (.slice a2O U.nO k2O) := (G2_16.out.2 3 (by simp)).1
      have yG2_4 : w5.cell? ⟨g2, 4, none⟩ = some (.slice a2X U.nX k2X) := (G2_16.out.2 4 (by simp)).1
      have yG2_5 : w5.cell? ⟨g2, 5, none⟩ = some (.slice a2I U.nI k2I) := (G2_16.out.2 5 (by simp)).1
      have hlG2_ : g2 < w5.heap.size := G2_16.out.1
      go_wp2_with fail
      refine (eqCell _ _ U (HU.out.1.more (by decide)) _ (O2_15.out.at) (O1_14.out.at)).mono ?_
      rintro e w6 ⟨rfl, hb⟩
      clear yG1_0 yG1_1 yG1_2 yG1_3 yG1_4 yG1_5 hlG1_ yG2_0 yG2_1 yG2_2 yG2_3 yG2_4 yG2_5 hlG2_
      have y_w6 : w5.heap.size ≤ w6.heap.size := hb.size
      have B17 : Hid (Below w.heap.size w w6) := bthen B14.out hb
      have M17 : Hid (Bk w6 w.heap.size [.int .i64 c, .int .i64 d]) := M14.out.below hb
      have A17 : Hid (Bk w6 (w.heap.size + 1) [.int .i64 V.c, .slice aW V.nW kW, .int .i64 V.g, .slice aO V.nO kO, .slice aX V.nX kX, .slice aI V.nI kI]) := A14.out.below hb
      have Q17 : Hid (Bk w6 (w.heap.size + 1 + 1) [.int .i64 pn, .int .i64 pk, .int .i64 pi, .int .i64 pa, .int .i64 pm, .int .i64 ps, .int .i64 pl, .int .i64 pc]) := Q14.out.below hb
      have O1_17 : Hid (OwnC l1 h1 w6 (.agg #[.int .i64 U.c, .slice a1W U.nW k1W, .int .i64 U.g, .slice a1O U.nO k1O, .slice a1X U.nX k1X, .slice a1I U.nI k1I]) U) := O1_14.out.below (by omega) hb
      have G1_17 : Hid (Bk w6 g1 [.int .i64 U.c, .slice a1W U.nW k1W, .int .i64 U.g, .slice a1O U.nO k1O, .slice a1X U.nX k1X, .slice a1I U.nI k1I]) := G1_14.out.below hb
      have OX_17 : Hid (OwnC lx hx w6 (.agg #[.int .i64 V.c, .slice (some ⟨bW, 0, none⟩) V.nW V.nW, .int .i64 V.g, .slice (some ⟨bO, 0, none⟩) V.nO V.nO, .slice (some ⟨bX, 0, none⟩) V.nX V.nX, .slice (some ⟨bI, 0, none⟩) V.nI V.nI]) V) := OX_14.out.below (by omega) hb
      have X17 : Hid (Bk w6 gx [.int .i64 V.c, .slice (some ⟨bW, 0, none⟩) V.nW V.nW, .int .i64 V.g, .slice (some ⟨bO, 0, none⟩) V.nO V.nO, .slice (some ⟨bX, 0, none⟩) V.nX V.nX, .slice (some ⟨bI, 0, none⟩) V.nI V.nI]) := X14.out.below hb
      have O2_17 : Hid (OwnC l2 h2 w6 (.agg #[.int .i64 U.c, .slice a2W U.nW k2W, .int .i64 U.g, .slice a2O U.nO k2O, .slice a2X U.nX k2X, .slice a2I U.nI k2I]) U) := O2_15.out.below (by omega) hb
      have G2_17 : Hid (Bk w6 g2 [.int .i64 U.c, .slice a2W U.nW k2W, .int .i64 U.g, .slice a2O U.nO k2O, .slice a2X U.nX k2X, .slice a2I U.nI k2I]) := G2_16.out.below hb
      clear B14 M14 A14 Q14 O1_14 G1_14 OX_14 X14 O2_15 G2_16
      clear hb
      go_upto_region 10 with fail
      have yX0 : w6.cell? ⟨gx, 0, none⟩ = some (.int .i64 V.c) := (X17.out.2 0 (by simp)).1
      have yX1 : w6.cell? ⟨gx, 1, none⟩ = some (.slice (some ⟨bW, 0, none⟩) V.nW V.nW) := (X17.out.2 1 (by simp)).1
      have yX2 : w6.cell? ⟨gx, 2, none⟩ = some (.int .i64 V.g) := (X17.out.2 2 (by simp)).1
      have yX3 : w6.cell? ⟨gx, 3, none⟩ = some (.slice (some ⟨bO, 0, none⟩) V.nO V.nO) := (X17.out.2 3 (by simp)).1
      have yX4 : w6.cell? ⟨gx, 4, none⟩ = some (.slice (some ⟨bX, 0, none⟩) V.nX V.nX) := (X17.out.2 4 (by simp)).1
      have yX5 : w6.cell? ⟨gx, 5, none⟩ = some (.slice (some ⟨bI, 0, none⟩) V.nI V.nI) := (X17.out.2 5 (by simp)).1
      have hlX : gx < w6.heap.size := X17.out.1
      have yA0 : w6.cell? ⟨(w.heap.size + 1), 0, none⟩ = some (.int .i64 V.c) := (A17.out.2 0 (by simp)).1
      have yA1 : w6.cell? ⟨(w.heap.size + 1), 1, none⟩ = some (.slice aW V.nW kW) := (A17.out.2 1 (by simp)).1
      have yA2 : w6.cell? ⟨(w.heap.size + 1), 2, none⟩ = some (.int .i64 V.g) := (A17.out.2 2 (by simp)).1
      have yA3 : w6.cell? ⟨(w.heap.size + 1), 3, none⟩ = some (.slice aO V.nO kO) := (A17.out.2 3 (by simp)).1
      have yA4 : w6.cell? ⟨(w.heap.size + 1), 4, none⟩ = some (.slice aX V.nX kX) := (A17.out.2 4 (by simp)).1
      have yA5 : w6.cell? ⟨(w.heap.size + 1), 5, none⟩ = some (.slice aI V.nI kI) := (A17.out.2 5 (by simp)).1
      have hlA : (w.heap.size + 1) < w6.heap.size := A17.out.1
      refine wp_region_held_drew (S := fun w' => (∀ b o, b < w6.heap.size → w'.cell? ⟨b, o, none⟩ = w6.cell? ⟨b, o, none⟩) ∧ w6.heap.size ≤ w'.heap.size) (by kernel_rfl) ⟨fun _ _ _ => rfl, Nat.le_refl _⟩ ?_
      intro hHeld
      refine wpAnyH_take (i := 0) (v := .agg #[.int .i64 V.c, .slice (some ⟨bW, 0, none⟩) V.nW V.nW, .int .i64 V.g, .slice (some ⟨bO, 0, none⟩) V.nO V.nO, .slice (some ⟨bX, 0, none⟩) V.nX V.nX, .slice (some ⟨bI, 0, none⟩) V.nI V.nI]) rfl (by kernel_rfl) (by kernel_rfl) (by kernel_rfl) (fun _ _ _ h => h) (Or.inl ⟨by rfl, ?_⟩) (by assumption) ?_
      · intro wx hSw; go_simp
      try simp only [Act.put, List.setIfInBounds_toArray, List.set_cons_zero, List.set_cons_succ, List.getElem_toArray, List.getElem_cons_zero]
      refine wpAnyH_take (i := 1) (v := .agg #[.int .i64 V.c, .slice aW V.nW kW, .int .i64 V.g, .slice aO V.nO kO, .slice aX V.nX kX, .slice aI V.nI kI]) rfl (by kernel_rfl) (by kernel_rfl) (by kernel_rfl) (fun _ _ _ h => h) (Or.inl ⟨by rfl, ?_⟩) (by assumption) ?_
      · intro wx hSw; go_simp
      try simp only [Act.put, List.setIfInBounds_toArray, List.set_cons_zero, List.set_cons_succ, List.getElem_toArray, List.getElem_cons_zero, List.getElem_cons_succ]
      refine wpAnyH_ready (rs := [2]) (by kernel_rfl) (by simp) ?_
      refine AllReadyH.cons rfl (fun K hK => ?_) AllReadyH.nil
      go_simp
      go_wp2_with fail
      refine (toCell _ V HV.out _ (cellAt_below H0.out (bthen B17.out (by repeat (first | exact Below.refl _ _ | refine bthen ?_ (by assumption) | apply Below.drew))))).mono ?_
      rintro e t1 ⟨⟨v4, rfl, hC3⟩, ht1⟩
      refine hK.out _ _ (keepS (by assumption) ht1) (fun hNew => ?_)
      clear hK K hHeld
      have hHeld := hNew
      clear hNew
      try simp only [Act.put, List.setIfInBounds_toArray, List.set_cons_zero, List.set_cons_succ, List.getElem_toArray, List.getElem_cons_zero, List.getElem_cons_succ]
      refine wpAnyH_ready (rs := [3]) (by kernel_rfl) (by simp) ?_
      refine AllReadyH.cons rfl (fun K hK => ?_) AllReadyH.nil
      go_simp
      go_wp2_with fail
      refine (eqCell _ _ V (HV.out.more (by decide)) _ (cellAt_below OX_17.out.at (by repeat (first | exact Below.refl _ _ | refine bthen ?_ (by assumption) | apply Below.drew))) hC3.at).mono ?_
      rintro e t2 ⟨rfl, ht2⟩
      refine hK.out _ _ (keepS (by assumption) ht2) (fun hNew => ?_)
      clear hK K hHeld
      have hHeld := hNew
      clear hNew
      try simp only [Act.put, List.setIfInBounds_toArray, List.set_cons_zero, List.set_cons_succ, List.getElem_toArray, List.getElem_cons_zero, List.getElem_cons_succ]
      refine wpAnyH_take (i := 4) (v := .bool false) rfl (by kernel_rfl) (by kernel_rfl) (by kernel_rfl) (fun _ _ _ h => h) (Or.inl ⟨by rfl, ?_⟩) (by assumption) ?_
      · intro wx hSw; go_simp
      try simp only [Act.put, List.setIfInBounds_toArray, List.set_cons_zero, List.set_cons_succ, List.getElem_toArray, List.getElem_cons_zero, List.getElem_cons_succ]
      refine wpAnyH_done (by kernel_rfl) ?_ _
      clear hHeld
      have hb7 : Below w6.heap.size w6 t2 := by repeat (first | exact Below.refl _ _ | refine bthen ?_ (by assumption) | apply Below.drew)
      generalize t2 = w7 at *
      clear yX0 yX1 yX2 yX3 yX4 yX5 hlX yA0 yA1 yA2 yA3 yA4 yA5 hlA
      have y_w7 : w6.heap.size ≤ w7.heap.size := hb7.size
      have B18 : Hid (Below w.heap.size w w7) := bthen B17.out hb7
      have M18 : Hid (Bk w7 w.heap.size [.int .i64 c, .int .i64 d]) := M17.out.below hb7
      have A18 : Hid (Bk w7 (w.heap.size + 1) [.int .i64 V.c, .slice aW V.nW kW, .int .i64 V.g, .slice aO V.nO kO, .slice aX V.nX kX, .slice aI V.nI kI]) := A17.out.below hb7
      have Q18 : Hid (Bk w7 (w.heap.size + 1 + 1) [.int .i64 pn, .int .i64 pk, .int .i64 pi, .int .i64 pa, .int .i64 pm, .int .i64 ps, .int .i64 pl, .int .i64 pc]) := Q17.out.below hb7
      have O1_18 : Hid (OwnC l1 h1 w7 (.agg #[.int .i64 U.c, .slice a1W U.nW k1W, .int .i64 U.g, .slice a1O U.nO k1O, .slice a1X U.nX k1X, .slice a1I U.nI k1I]) U) := O1_17.out.below (by omega) hb7
      have G1_18 : Hid (Bk w7 g1 [.int .i64 U.c, .slice a1W U.nW k1W, .int .i64 U.g, .slice a1O U.nO k1O, .slice a1X U.nX k1X, .slice a1I U.nI k1I]) := G1_17.out.below hb7
      have OX_18 : Hid (OwnC lx hx w7 (.agg #[.int .i64 V.c, .slice (some ⟨bW, 0, none⟩) V.nW V.nW, .int .i64 V.g, .slice (some ⟨bO, 0, none⟩) V.nO V.nO, .slice (some ⟨bX, 0, none⟩) V.nX V.nX, .slice (some ⟨bI, 0, none⟩) V.nI V.nI]) V) := OX_17.out.below (by omega) hb7
      have X18 : Hid (Bk w7 gx [.int .i64 V.c, .slice (some ⟨bW, 0, none⟩) V.nW V.nW, .int .i64 V.g, .slice (some ⟨bO, 0, none⟩) V.nO V.nO, .slice (some ⟨bX, 0, none⟩) V.nX V.nX, .slice (some ⟨bI, 0, none⟩) V.nI V.nI]) := X17.out.below hb7
      have O2_18 : Hid (OwnC l2 h2 w7 (.agg #[.int .i64 U.c, .slice a2W U.nW k2W, .int .i64 U.g, .slice a2O U.nO k2O, .slice a2X U.nX k2X, .slice a2I U.nI k2I]) U) := O2_17.out.below (by omega) hb7
      have G2_18 : Hid (Bk w7 g2 [.int .i64 U.c, .slice a2W U.nW k2W, .int .i64 U.g, .slice a2O U.nO k2O, .slice a2X U.nX k2X, .slice a2I U.nI k2I]) := G2_17.out.below hb7
      clear B17 M17 A17 Q17 O1_17 G1_17 OX_17 X17 O2_17 G2_17
      clear hb7 ht1 ht2 hC3
      have yX0 : w7.cell? ⟨gx, 0, none⟩ = some (.int .i64 V.c) := (X18.out.2 0 (by simp)).1
      have yX1 : w7.cell? ⟨gx, 1, none⟩ = some (.slice (some ⟨bW, 0, none⟩) V.nW V.nW) := (X18.out.2 1 (by simp)).1
      have yX2 : w7.cell? ⟨gx, 2, none⟩ = some (.int .i64 V.g) := (X18.out.2 2 (by simp)).1
      have yX3 : w7.cell? ⟨gx, 3, none⟩ = some (.slice (some ⟨bO, 0, none⟩) V.nO V.nO) := (X18.out.2 3 (by simp)).1
      have yX4 : w7.cell? ⟨gx, 4, none⟩ = some (.slice (some ⟨bX, 0, none⟩) V.nX V.nX) := (X18.out.2 4 (by simp)).1
      have yX5 : w7.cell? ⟨gx, 5, none⟩ = some (.slice (some ⟨bI, 0, none⟩) V.nI V.nI) := (X18.out.2 5 (by simp)).1
      have hlX : gx < w7.heap.size := X18.out.1
      go_wp2_with fail
      clear yX0 yX1 yX2 yX3 yX4 yX5 hlX
      refine (markC lx hx _ V HF.out _ (by omega) (by omega) OX_18.out).mono ?_
      rintro e w8 ⟨rfl, hO, hz, hsm, hbl⟩
      have y_w8 : w7.heap.size ≤ w8.heap.size := hz
      have B19 : Hid (Below w.heap.size w w8) := B18.out.trans (hbl.mono (by omega))
      have M19 : Hid (Bk w8 w.heap.size [.int .i64 c, .int .i64 d]) := M18.out.sm hz (hsm (w.heap.size) (by omega) (by omega))
      have A19 : Hid (Bk w8 (w.heap.size + 1) [.int .i64 V.c, .slice aW V.nW kW, .int .i64 V.g, .slice aO V.nO kO, .slice aX V.nX kX, .slice aI V.nI kI]) := A18.out.sm hz (hsm ((w.heap.size + 1)) (by omega) (by omega))
      have Q19 : Hid (Bk w8 (w.heap.size + 1 + 1) [.int .i64 pn, .int .i64 pk, .int .i64 pi, .int .i64 pa, .int .i64 pm, .int .i64 ps, .int .i64 pl, .int .i64 pc]) := Q18.out.sm hz (hsm ((w.heap.size + 1 + 1)) (by omega) (by omega))
      have O1_19 : Hid (OwnC l1 h1 w8 (.agg #[.int .i64 U.c, .slice a1W U.nW k1W, .int .i64 U.g, .slice a1O U.nO k1O, .slice a1X U.nX k1X, .slice a1I U.nI k1I]) U) := O1_18.out.sm hz (fun b q1 q2 => hsm b (by omega) (by omega))
      have G1_19 : Hid (Bk w8 g1 [.int .i64 U.c, .slice a1W U.nW k1W, .int .i64 U.g, .slice a1O U.nO k1O, .slice a1X U.nX k1X, .slice a1I U.nI k1I]) := G1_18.out.sm hz (hsm (g1) (by omega) (by omega))
      have X19 : Hid (Bk w8 gx [.int .i64 V.c, .slice (some ⟨bW, 0, none⟩) V.nW V.nW, .int .i64 V.g, .slice (some ⟨bO, 0, none⟩) V.nO V.nO, .slice (some ⟨bX, 0, none⟩) V.nX V.nX, .slice (some ⟨bI, 0, none⟩) V.nI V.nI]) := X18.out.sm hz (hsm (gx) (by omega) (by omega))
      have O2_19 : Hid (OwnC l2 h2 w8 (.agg #[.int .i64 U.c, .slice a2W U.nW k2W, .int .i64 U.g, .slice a2O U.nO k2O, .slice a2X U.nX k2X, .slice a2I U.nI k2I]) U) := O2_18.out.sm hz (fun b q1 q2 => hsm b (by omega) (by omega))
      have G2_19 : Hid (Bk w8 g2 [.int .i64 U.c, .slice a2W U.nW k2W, .int .i64 U.g, .slice a2O U.nO k2O, .slice a2X U.nX k2X, .slice a2I U.nI k2I]) := G2_18.out.sm hz (hsm (g2) (by omega) (by omega))
      clear B18 M18 A18 Q18 O1_18 G1_18 X18 O2_18 G2_18
      clear hO hz hsm hbl OX_18
      have nn8 : ¬ ((V.s4 : Nat) : Int) < 0 := by omega
      have yG1_0 : w8.cell? ⟨g1, 0, none⟩ = some (.int .i64 U.c) := (G1_19.out.2 0 (by simp)).1
      have yG1_1 : w8.cell? ⟨g1, 1, none⟩ = some (.slice a1W U.nW k1W) := (G1_19.out.2 1 (by simp)).1
      have yG1_2 : w8.cell? ⟨g1, 2, none⟩ = some (.int .i64 U.g) := (G1_19.out.2 2 (by simp)).1
      have yG1_3 : w8.cell? ⟨g1, 3, none⟩ = some (.slice a1O U.nO k1O) := (G1_19.out.2 3 (by simp)).1
      have yG1_4 : w8.cell? ⟨g1, 4, none⟩ = some (.slice a1X U.nX k1X) := (G1_19.out.2 4 (by simp)).1
      have yG1_5 : w8.cell? ⟨g1, 5, none⟩ = some (.slice a1I U.nI k1I) := (G1_19.out.2 5 (by simp)).1
      have hlG1_ : g1 < w8.heap.size := G1_19.out.1
      have yG2_0 : w8.cell? ⟨g2, 0, none⟩ = some (.int .i64 U.c) := (G2_19.out.2 0 (by simp)).1
      have yG2_1 : w8.cell? ⟨g2, 1, none⟩ = some (.slice a2W U.nW k2W) := (G2_19.out.2 1 (by simp)).1
      have yG2_2 : w8.cell? ⟨g2, 2, none⟩ = some (.int .i64 U.g) := (G2_19.out.2 2 (by simp)).1
      have yG2_3 : w8.cell? ⟨g2, 3, none⟩ = some (.slice a2O U.nO k2O) := (G2_19.out.2 3 (by simp)).1
      have yG2_4 : w8.cell? ⟨g2, 4, none⟩ = some (.slice a2X U.nX k2X) := (G2_19.out.2 4 (by simp)).1
      have yG2_5 : w8.cell? ⟨g2, 5, none⟩ = some (.slice a2I U.nI k2I) := (G2_19.out.2 5 (by simp)).1
      have hlG2_ : g2 < w8.heap.size := G2_19.out.1
      go_wp2_with fail
      refine (eqCell _ _ U (HU.out.1.more (by decide)) _ (O2_19.out.at) (O1_19.out.at)).mono ?_
      rintro e w9 ⟨rfl, hb⟩
      clear yG1_0 yG1_1 yG1_2 yG1_3 yG1_4 yG1_5 hlG1_ yG2_0 yG2_1 yG2_2 yG2_3 yG2_4 yG2_5 hlG2_
      have y_w9 : w8.heap.size ≤ w9.heap.size := hb.size
      have B20 : Hid (Below w.heap.size w w9) := bthen B19.out hb
      have M20 : Hid (Bk w9 w.heap.size [.int .i64 c, .int .i64 d]) := M19.out.below hb
      have A20 : Hid (Bk w9 (w.heap.size + 1) [.int .i64 V.c, .slice aW V.nW kW, .int .i64 V.g, .slice aO V.nO kO, .slice aX V.nX kX, .slice aI V.nI kI]) := A19.out.below hb
      have Q20 : Hid (Bk w9 (w.heap.size + 1 + 1) [.int .i64 pn, .int .i64 pk, .int .i64 pi, .int .i64 pa, .int .i64 pm, .int .i64 ps, .int .i64 pl, .int .i64 pc]) := Q19.out.below hb
      have O1_20 : Hid (OwnC l1 h1 w9 (.agg #[.int .i64 U.c, .slice a1W U.nW k1W, .int .i64 U.g, .slice a1O U.nO k1O, .slice a1X U.nX k1X, .slice a1I U.nI k1I]) U) := O1_19.out.below (by omega) hb
      have G1_20 : Hid (Bk w9 g1 [.int .i64 U.c, .slice a1W U.nW k1W, .int .i64 U.g, .slice a1O U.nO k1O, .slice a1X U.nX k1X, .slice a1I U.nI k1I]) := G1_19.out.below hb
      have X20 : Hid (Bk w9 gx [.int .i64 V.c, .slice (some ⟨bW, 0, none⟩) V.nW V.nW, .int .i64 V.g, .slice (some ⟨bO, 0, none⟩) V.nO V.nO, .slice (some ⟨bX, 0, none⟩) V.nX V.nX, .slice (some ⟨bI, 0, none⟩) V.nI V.nI]) := X19.out.below hb
      have O2_20 : Hid (OwnC l2 h2 w9 (.agg #[.int .i64 U.c, .slice a2W U.nW k2W, .int .i64 U.g, .slice a2O U.nO k2O, .slice a2X U.nX k2X, .slice a2I U.nI k2I]) U) := O2_19.out.below (by omega) hb
      have G2_20 : Hid (Bk w9 g2 [.int .i64 U.c, .slice a2W U.nW k2W, .int .i64 U.g, .slice a2O U.nO k2O, .slice a2X U.nX k2X, .slice a2I U.nI k2I]) := G2_19.out.below hb
      clear B19 M19 A19 Q19 O1_19 G1_19 X19 O2_19 G2_19
      clear hb
      have yG2_0 : w9.cell? ⟨g2, 0, none⟩ = some (.int .i64 U.c) := (G2_20.out.2 0 (by simp)).1
      have yG2_1 : w9.cell? ⟨g2, 1, none⟩ = some (.slice a2W U.nW k2W) := (G2_20.out.2 1 (by simp)).1
      have yG2_2 : w9.cell? ⟨g2, 2, none⟩ = some (.int .i64 U.g) := (G2_20.out.2 2 (by simp)).1
      have yG2_3 : w9.cell? ⟨g2, 3, none⟩ = some (.slice a2O U.nO k2O) := (G2_20.out.2 3 (by simp)).1
      have yG2_4 : w9.cell? ⟨g2, 4, none⟩ = some (.slice a2X U.nX k2X) := (G2_20.out.2 4 (by simp)).1
      have yG2_5 : w9.cell? ⟨g2, 5, none⟩ = some (.slice a2I U.nI k2I) := (G2_20.out.2 5 (by simp)).1
      have hlG2_ : g2 < w9.heap.size := G2_20.out.1
      go_wp2_with fail
      clear yG2_0 yG2_1 yG2_2 yG2_3 yG2_4 yG2_5 hlG2_
      refine (markC l2 h2 _ U HU.out.2 _ (by omega) (by omega) O2_20.out).mono ?_
      rintro e w10 ⟨rfl, hO, hz, hsm, hbl⟩
      have y_w10 : w9.heap.size ≤ w10.heap.size := hz
      have B21 : Hid (Below w.heap.size w w10) := B20.out.trans (hbl.mono (by omega))
      have M21 : Hid (Bk w10 w.heap.size [.int .i64 c, .int .i64 d]) := M20.out.sm hz (hsm (w.heap.size) (by omega) (by omega))
      have A21 : Hid (Bk w10 (w.heap.size + 1) [.int .i64 V.c, .slice aW V.nW kW, .int .i64 V.g, .slice aO V.nO kO, .slice aX V.nX kX, .slice aI V.nI kI]) := A20.out.sm hz (hsm ((w.heap.size + 1)) (by omega) (by omega))
      have Q21 : Hid (Bk w10 (w.heap.size + 1 + 1) [.int .i64 pn, .int .i64 pk, .int .i64 pi, .int .i64 pa, .int .i64 pm, .int .i64 ps, .int .i64 pl, .int .i64 pc]) := Q20.out.sm hz (hsm ((w.heap.size + 1 + 1)) (by omega) (by omega))
      have O1_21 : Hid (OwnC l1 h1 w10 (.agg #[.int .i64 U.c, .slice a1W U.nW k1W, .int .i64 U.g, .slice a1O U.nO k1O, .slice a1X U.nX k1X, .slice a1I U.nI k1I]) U) := O1_20.out.sm hz (fun b q1 q2 => hsm b (by omega) (by omega))
      have G1_21 : Hid (Bk w10 g1 [.int .i64 U.c, .slice a1W U.nW k1W, .int .i64 U.g, .slice a1O U.nO k1O, .slice a1X U.nX k1X, .slice a1I U.nI k1I]) := G1_20.out.sm hz (hsm (g1) (by omega) (by omega))
      have X21 : Hid (Bk w10 gx [.int .i64 V.c, .slice (some ⟨bW, 0, none⟩) V.nW V.nW, .int .i64 V.g, .slice (some ⟨bO, 0, none⟩) V.nO V.nO, .slice (some ⟨bX, 0, none⟩) V.nX V.nX, .slice (some ⟨bI, 0, none⟩) V.nI V.nI]) := X20.out.sm hz (hsm (gx) (by omega) (by omega))
      have G2_21 : Hid (Bk w10 g2 [.int .i64 U.c, .slice a2W U.nW k2W, .int .i64 U.g, .slice a2O U.nO k2O, .slice a2X U.nX k2X, .slice a2I U.nI k2I]) := G2_20.out.sm hz (hsm (g2) (by omega) (by omega))
      clear B20 M20 A20 Q20 O1_20 G1_20 X20 G2_20
      have O2_22 : Hid (OwnC l2 h2 w10 (.agg #[.int .i64 U.c, .slice a2W U.nW k2W, .int .i64 U.g, .slice a2O U.nO k2O, .slice a2X U.nX k2X, .slice a2I U.nI k2I]) U.marked) := hO
      clear hO hz hsm hbl O2_20
      have nn10 : ¬ ((U.s4 : Nat) : Int) < 0 := by omega
      have yG2_0 : w10.cell? ⟨g2, 0, none⟩ = some (.int .i64 U.c) := (G2_21.out.2 0 (by simp)).1
      have yG2_1 : w10.cell? ⟨g2, 1, none⟩ = some (.slice a2W U.nW k2W) := (G2_21.out.2 1 (by simp)).1
      have yG2_2 : w10.cell? ⟨g2, 2, none⟩ = some (.int .i64 U.g) := (G2_21.out.2 2 (by simp)).1
      have yG2_3 : w10.cell? ⟨g2, 3, none⟩ = some (.slice a2O U.nO k2O) := (G2_21.out.2 3 (by simp)).1
      have yG2_4 : w10.cell? ⟨g2, 4, none⟩ = some (.slice a2X U.nX k2X) := (G2_21.out.2 4 (by simp)).1
      have yG2_5 : w10.cell? ⟨g2, 5, none⟩ = some (.slice a2I U.nI k2I) := (G2_21.out.2 5 (by simp)).1
      have hlG2_ : g2 < w10.heap.size := G2_21.out.1
      go_wp2_with fail
      refine (heldC l2 h2 _ U HU.out.2 _ (by omega) O2_22.out).mono ?_
      rintro e w11 ⟨rfl, hb⟩
      clear yG2_0 yG2_1 yG2_2 yG2_3 yG2_4 yG2_5 hlG2_
      have y_w11 : w10.heap.size ≤ w11.heap.size := hb.size
      have B23 : Hid (Below w.heap.size w w11) := bthen B21.out hb
      have M23 : Hid (Bk w11 w.heap.size [.int .i64 c, .int .i64 d]) := M21.out.below hb
      have A23 : Hid (Bk w11 (w.heap.size + 1) [.int .i64 V.c, .slice aW V.nW kW, .int .i64 V.g, .slice aO V.nO kO, .slice aX V.nX kX, .slice aI V.nI kI]) := A21.out.below hb
      have Q23 : Hid (Bk w11 (w.heap.size + 1 + 1) [.int .i64 pn, .int .i64 pk, .int .i64 pi, .int .i64 pa, .int .i64 pm, .int .i64 ps, .int .i64 pl, .int .i64 pc]) := Q21.out.below hb
      have O1_23 : Hid (OwnC l1 h1 w11 (.agg #[.int .i64 U.c, .slice a1W U.nW k1W, .int .i64 U.g, .slice a1O U.nO k1O, .slice a1X U.nX k1X, .slice a1I U.nI k1I]) U) := O1_21.out.below (by omega) hb
      have G1_23 : Hid (Bk w11 g1 [.int .i64 U.c, .slice a1W U.nW k1W, .int .i64 U.g, .slice a1O U.nO k1O, .slice a1X U.nX k1X, .slice a1I U.nI k1I]) := G1_21.out.below hb
      have X23 : Hid (Bk w11 gx [.int .i64 V.c, .slice (some ⟨bW, 0, none⟩) V.nW V.nW, .int .i64 V.g, .slice (some ⟨bO, 0, none⟩) V.nO V.nO, .slice (some ⟨bX, 0, none⟩) V.nX V.nX, .slice (some ⟨bI, 0, none⟩) V.nI V.nI]) := X21.out.below hb
      have G2_23 : Hid (Bk w11 g2 [.int .i64 U.c, .slice a2W U.nW k2W, .int .i64 U.g, .slice a2O U.nO k2O, .slice a2X U.nX k2X, .slice a2I U.nI k2I]) := G2_21.out.below hb
      have O2_23 : Hid (OwnC l2 h2 w11 (.agg #[.int .i64 U.c, .slice a2W U.nW k2W, .int .i64 U.g, .slice a2O U.nO k2O, .slice a2X U.nX k2X, .slice a2I U.nI k2I]) U.marked) := O2_22.out.below (by omega) hb
      clear B21 M21 A21 Q21 O1_21 G1_21 X21 G2_21 O2_22
      clear hb
      go_upto_region 24 with fail
      go_cut [18, 19] (fun s t wx => ∃ g l h a3W k3W a3O k3O a3X k3X a3I k3I, .pointer (some ⟨g, 0, none⟩) = s ∧ .bool TB = t ∧ Bk wx g [.int .i64 U.c, .slice a3W U.nW k3W, .int .i64 U.g, .slice a3O U.nO k3O, .slice a3X U.nX k3X, .slice a3I U.nI k3I] ∧ OwnC l h wx (.agg #[.int .i64 U.c, .slice a3W U.nW k3W, .int .i64 U.g, .slice a3O U.nO k3O, .slice a3X U.nX k3X, .slice a3I U.nI k3I]) U ∧ (w11.heap.size ≤ g ∧ g < wx.heap.size ∧ w11.heap.size ≤ l ∧ l ≤ h ∧ h ≤ wx.heap.size ∧ (g < l ∨ h ≤ g)) ∧ Below w11.heap.size w11 wx)
      case first =>
        have yM0 : w11.cell? ⟨w.heap.size, 0, none⟩ = some (.int .i64 c) := (M23.out.2 0 (by simp)).1
        have yM1 : w11.cell? ⟨w.heap.size, 1, none⟩ = some (.int .i64 d) := (M23.out.2 1 (by simp)).1
        have hlM : w.heap.size < w11.heap.size := M23.out.1
        have yA0 : w11.cell? ⟨(w.heap.size + 1), 0, none⟩ = some (.int .i64 V.c) := (A23.out.2 0 (by simp)).1
        have yA1 : w11.cell? ⟨(w.heap.size + 1), 1, none⟩ = some (.slice aW V.nW kW) := (A23.out.2 1 (by simp)).1
        have yA2 : w11.cell? ⟨(w.heap.size + 1), 2, none⟩ = some (.int .i64 V.g) := (A23.out.2 2 (by simp)).1
        have yA3 : w11.cell? ⟨(w.heap.size + 1), 3, none⟩ = some (.slice aO V.nO kO) := (A23.out.2 3 (by simp)).1
        have yA4 : w11.cell? ⟨(w.heap.size + 1), 4, none⟩ = some (.slice aX V.nX kX) := (A23.out.2 4 (by simp)).1
        have yA5 : w11.cell? ⟨(w.heap.size + 1), 5, none⟩ = some (.slice aI V.nI kI) := (A23.out.2 5 (by simp)).1
        have hlA : (w.heap.size + 1) < w11.heap.size := A23.out.1
        have yQ0 : w11.cell? ⟨(w.heap.size + 1 + 1), 0, none⟩ = some (.int .i64 pn) := (Q23.out.2 0 (by simp)).1
        have yQ1 : w11.cell? ⟨(w.heap.size + 1 + 1), 1, none⟩ = some (.int .i64 pk) := (Q23.out.2 1 (by simp)).1
        have yQ2 : w11.cell? ⟨(w.heap.size + 1 + 1), 2, none⟩ = some (.int .i64 pi) := (Q23.out.2 2 (by simp)).1
        have yQ3 : w11.cell? ⟨(w.heap.size + 1 + 1), 3, none⟩ = some (.int .i64 pa) := (Q23.out.2 3 (by simp)).1
        have yQ4 : w11.cell? ⟨(w.heap.size + 1 + 1), 4, none⟩ = some (.int .i64 pm) := (Q23.out.2 4 (by simp)).1
        have yQ5 : w11.cell? ⟨(w.heap.size + 1 + 1), 5, none⟩ = some (.int .i64 ps) := (Q23.out.2 5 (by simp)).1
        have yQ6 : w11.cell? ⟨(w.heap.size + 1 + 1), 6, none⟩ = some (.int .i64 pl) := (Q23.out.2 6 (by simp)).1
        have yQ7 : w11.cell? ⟨(w.heap.size + 1 + 1), 7, none⟩ = some (.int .i64 pc) := (Q23.out.2 7 (by simp)).1
        have hlQ : (w.heap.size + 1 + 1) < w11.heap.size := Q23.out.1
        refine wp_region_held_drew (S := fun w' => Below (w11.heap.size) w11 w') (by kernel_rfl) ((Below.refl _ _).drew) ?_
        intro hHeld
        obtain ⟨X0, hX0⟩ : ∃ X, X = w11.drew := ⟨_, rfl⟩
        have hz0 : w11.heap.size ≤ X0.heap.size := by rw [hX0]; exact Nat.le_refl _
        rw [← hX0] at hHeld ⊢
        clear hX0
        refine wpAnyH_take (i := 0) (v := .agg #[.int .i64 c, .int .i64 d]) rfl (by kernel_rfl) (by kernel_rfl) (by kernel_rfl) (fun _ _ _ h => h) (Or.inl ⟨by rfl, ?_⟩) (by assumption) ?_
        · intro wx hSw; obtain ⟨hcS, hfS⟩ := bcellN hSw; go_simp
        try simp only [Act.put, List.setIfInBounds_toArray, List.set_cons_zero, List.set_cons_succ, List.getElem_toArray, List.getElem_cons_zero]
        refine wpAnyH_take (i := 2) (v := .agg #[.int .i64 V.c, .slice aW V.nW kW, .int .i64 V.g, .slice aO V.nO kO, .slice aX V.nX kX, .slice aI V.nI kI]) rfl (by kernel_rfl) (by kernel_rfl) (by kernel_rfl) (fun _ _ _ h => h) (Or.inl ⟨by rfl, ?_⟩) (by assumption) ?_
        · intro wx hSw; obtain ⟨hcS, hfS⟩ := bcellN hSw; go_simp
        try simp only [Act.put, List.setIfInBounds_toArray, List.set_cons_zero, List.set_cons_succ, List.getElem_toArray, List.getElem_cons_zero, List.getElem_cons_succ]
        refine wpAnyH_take (i := 4) (v := .int .i64 side) rfl (by kernel_rfl) (by kernel_rfl) (by kernel_rfl) (fun _ _ _ h => h) (Or.inl ⟨by rfl, ?_⟩) (by assumption) ?_
        · intro wx hSw; obtain ⟨hcS, hfS⟩ := bcellN hSw; go_simp
        try simp only [Act.put, List.setIfInBounds_toArray, List.set_cons_zero, List.set_cons_succ, List.getElem_toArray, List.getElem_cons_zero, List.getElem_cons_succ]
        refine wpAnyH_take (i := 5) (v := .agg #[.int .i64 pn, .int .i64 pk, .int .i64 pi, .int .i64 pa, .int .i64 pm, .int .i64 ps, .int .i64 pl, .int .i64 pc]) rfl (by kernel_rfl) (by kernel_rfl) (by kernel_rfl) (fun _ _ _ h => h) (Or.inl ⟨by rfl, ?_⟩) (by assumption) ?_
        · intro wx hSw; obtain ⟨hcS, hfS⟩ := bcellN hSw; go_simp
        try simp only [Act.put, List.setIfInBounds_toArray, List.set_cons_zero, List.set_cons_succ, List.getElem_toArray, List.getElem_cons_zero, List.getElem_cons_succ]
        refine wpAnyH_ready (rs := [1, 11]) (by kernel_rfl) (by simp) ?_
        refine (AllReadyH.cons rfl (fun K hK => ?_) (AllReadyH.cons rfl (fun K hK => ?_) AllReadyH.nil))
        · go_simp
          go_wp2_with fail
          refine (toMap _ _ _).mono ?_
          rintro e xm ⟨rfl, hxm⟩
          have hsz_xm := hxm.size
          refine hK.out _ _ (bthenN hHeld (by omega) hxm) (fun hNew => ?_)
          clear hK K hHeld
          have hHeld := hNew
          clear hNew
          try simp only [Act.put, List.setIfInBounds_toArray, List.set_cons_zero, List.set_cons_succ, List.getElem_toArray, List.getElem_cons_zero, List.getElem_cons_succ]
          refine wpAnyH_ready (rs := [3, 11]) (by kernel_rfl) (by simp) ?_
          refine (AllReadyH.cons rfl (fun K hK => ?_) (AllReadyH.cons rfl (fun K hK => ?_) AllReadyH.nil))
          · go_simp
            go_wp2_with fail
            refine (toCell _ V HV.out _ (cellAt_below H0.out (bthen B23.out hHeld))).mono ?_
            rintro e xt ⟨⟨vt, rfl, hC⟩, hxt⟩
            have hsz_xt := hxt.size
            refine hK.out _ _ (bthenN hHeld (by omega) hxt) (fun hNew => ?_)
            clear hK K hHeld
            have hHeld := hNew
            clear hNew
            try simp only [Act.put, List.setIfInBounds_toArray, List.set_cons_zero, List.set_cons_succ, List.getElem_toArray, List.getElem_cons_zero, List.getElem_cons_succ]
            refine wpAnyH_ready (rs := [6, 11]) (by kernel_rfl) (by simp) ?_
            refine (AllReadyH.cons rfl (fun K hK => ?_) (AllReadyH.cons rfl (fun K hK => ?_) AllReadyH.nil))
            · go_simp
              go_wp2_with fail
              refine (toParcel _ _ _ _ _ _ _ _ _).mono ?_
              rintro e xp ⟨rfl, hxp⟩
              replace hC := hC.below hxp
              have hsz_xp := hxp.size
              refine hK.out _ _ (bthenN hHeld (by omega) hxp) (fun hNew => ?_)
              clear hK K hHeld
              have hHeld := hNew
              clear hNew
              try simp only [Act.put, List.setIfInBounds_toArray, List.set_cons_zero, List.set_cons_succ, List.getElem_toArray, List.getElem_cons_zero, List.getElem_cons_succ]
              refine wpAnyH_ready (rs := [7, 11]) (by kernel_rfl) (by simp) ?_
              refine (AllReadyH.cons rfl (fun K hK => ?_) (AllReadyH.cons rfl (fun K hK => ?_) AllReadyH.nil))
              · go_simp
                go_wp2_with fail
                refine (cllIn_impl c d _ V _ side pn pk pi pa pm ps pl pc HV.out hwf.out hwp.out _ hC).mono ?_
                rintro e xg ⟨⟨u, tt, rfl, ht, hO⟩, hxg⟩
                subst ht
                rw [EU.out] at hO
                rw [ET.out]
                obtain ⟨a3W, k3W, a3O, k3O, a3X, k3X, a3I, k3I, rfl, _, _, _, _⟩ := hO.at
                obtain ⟨lg, elg⟩ : ∃ l, l = xp.heap.size := ⟨_, rfl⟩
                obtain ⟨hg, ehg⟩ : ∃ l, l = xg.heap.size := ⟨_, rfl⟩
                rw [← elg, ← ehg] at hO
                have elg1 : lg ≤ xp.heap.size := by omega
                have elg2 : xp.heap.size ≤ lg := by omega
                have ehg1 : hg ≤ xg.heap.size := by omega
                have ehg2 : xg.heap.size ≤ hg := by omega
                clear elg ehg
                have hsz_xg := hxg.size
                refine hK.out _ _ (bthenN hHeld (by omega) hxg) (fun hNew => ?_)
                clear hK K hHeld
                have hHeld := hNew
                clear hNew
                try simp only [Act.put, List.setIfInBounds_toArray, List.set_cons_zero, List.set_cons_succ, List.getElem_toArray, List.getElem_cons_zero, List.getElem_cons_succ]
                refine wpAnyH_take (i := 8) (v := .tuple #[.agg #[.int .i64 U.c, .slice a3W U.nW k3W, .int .i64 U.g, .slice a3O U.nO k3O, .slice a3X U.nX k3X, .slice a3I U.nI k3I], .bool TB]) rfl (by kernel_rfl) (by kernel_rfl) (by kernel_rfl) (fun _ _ _ h => h) (Or.inl ⟨by rfl, ?_⟩) (by assumption) ?_
                · intro wx hSw; obtain ⟨hcS, hfS⟩ := bcellN hSw; go_simp
                try simp only [Act.put, List.setIfInBounds_toArray, List.set_cons_zero, List.set_cons_succ, List.getElem_toArray, List.getElem_cons_zero, List.getElem_cons_succ]
                refine wpAnyH_take (i := 9) (v := .agg #[.int .i64 U.c, .slice a3W U.nW k3W, .int .i64 U.g, .slice a3O U.nO k3O, .slice a3X U.nX k3X, .slice a3I U.nI k3I]) rfl (by kernel_rfl) (by kernel_rfl) (by kernel_rfl) (fun _ _ _ h => h) (Or.inl ⟨by rfl, ?_⟩) (by assumption) ?_
                · intro wx hSw; obtain ⟨hcS, hfS⟩ := bcellN hSw; go_simp
                try simp only [Act.put, List.setIfInBounds_toArray, List.set_cons_zero, List.set_cons_succ, List.getElem_toArray, List.getElem_cons_zero, List.getElem_cons_succ]
                refine wpAnyH_take (i := 10) (v := .bool TB) rfl (by kernel_rfl) (by kernel_rfl) (by kernel_rfl) (fun _ _ _ h => h) (Or.inl ⟨by rfl, ?_⟩) (by assumption) ?_
                · intro wx hSw; obtain ⟨hcS, hfS⟩ := bcellN hSw; go_simp
                try simp only [Act.put, List.setIfInBounds_toArray, List.set_cons_zero, List.set_cons_succ, List.getElem_toArray, List.getElem_cons_zero, List.getElem_cons_succ]
                refine wpAnyH_ready (rs := [11]) (by kernel_rfl) (by simp) ?_
                refine (AllReadyH.cons rfl (fun K hK => ?_) AllReadyH.nil)
                go_simp
                obtain ⟨XC, eA⟩ : ∃ X, X = xg.alloc (.cells #[.int .i64 0, .slice none 0 0, .int .i64 0, .slice none 0 0, .slice none 0 0, .slice none 0 0] 37) := ⟨_, rfl⟩
                rw [← eA]
                have hbA : Below xg.heap.size xg XC := by rw [eA]; exact (Below.refl _ _).alloc (Nat.le_refl _) _
                have hZC : Bk XC xg.heap.size [.int .i64 0, .slice none 0 0, .int .i64 0, .slice none 0 0, .slice none 0 0, .slice none 0 0] := by rw [eA]; exact bk_new xg 37 [.int .i64 0, .slice none 0 0, .int .i64 0, .slice none 0 0, .slice none 0 0, .slice none 0 0]
                have hzAC1 : XC.heap.size ≤ xg.heap.size + 1 := by rw [eA]; simp
                have hzAC2 : xg.heap.size + 1 ≤ XC.heap.size := by rw [eA]; simp
                clear eA
                replace hO := hO.below (by omega) hbA
                have hsz_XC := hbA.size
                refine hK.out _ _ (bthenN hHeld (by omega) hbA) (fun hNew => ?_)
                clear hK K hHeld
                have hHeld := hNew
                clear hNew
                try simp only [Act.put, List.setIfInBounds_toArray, List.set_cons_zero, List.set_cons_succ, List.getElem_toArray, List.getElem_cons_zero, List.getElem_cons_succ]
                clear hbA
                obtain ⟨C, eC⟩ : ∃ g, g = xg.heap.size := ⟨_, rfl⟩
                rw [← eC] at hZC ⊢
                have eC1 : C ≤ xg.heap.size := by omega
                have eC2 : xg.heap.size ≤ C := by omega
                clear eC
                refine wpAnyH_ready (rs := [12]) (by kernel_rfl) (by simp) ?_
                refine (AllReadyH.cons rfl (fun K hK => ?_) AllReadyH.nil)
                have r0 := (hZC.2 0 (by simp)).1
                have r1 := (hZC.2 1 (by simp)).1
                have r2 := (hZC.2 2 (by simp)).1
                have r3 := (hZC.2 3 (by simp)).1
                have r4 := (hZC.2 4 (by simp)).1
                have r5 := (hZC.2 5 (by simp)).1
                have f0 := (hZC.2 0 (by simp)).2
                have f1 := (hZC.2 1 (by simp)).2
                have f2 := (hZC.2 2 (by simp)).2
                have f3 := (hZC.2 3 (by simp)).2
                have f4 := (hZC.2 4 (by simp)).2
                have f5 := (hZC.2 5 (by simp)).2
                simp only [List.getD, List.getElem?_cons_zero, List.getElem?_cons_succ, Option.getD_some] at r0 r1 r2 r3 r4 r5
                have lZC := hZC.1
                have hkC : w11.heap.size ≤ C := by omega
                go_simp
                obtain ⟨XSC, eS⟩ : ∃ X, X = ((((((XC.setCell ⟨C, 0, none⟩ (.int .i64 U.c)).setCell ⟨C, 1, none⟩ (.slice a3W U.nW k3W)).setCell ⟨C, 2, none⟩ (.int .i64 U.g)).setCell ⟨C, 3, none⟩ (.slice a3O U.nO k3O)).setCell ⟨C, 4, none⟩ (.slice a3X U.nX k3X)).setCell ⟨C, 5, none⟩ (.slice a3I U.nI k3I)) := ⟨_, rfl⟩
                rw [← eS]
                have hPC : Bk XSC C [.int .i64 U.c, .slice a3W U.nW k3W, .int .i64 U.g, .slice a3O U.nO k3O, .slice a3X U.nX k3X, .slice a3I U.nI k3I] := by rw [eS]; exact bk_put (l := [.int .i64 U.c, .slice a3W U.nW k3W, .int .i64 U.g, .slice a3O U.nO k3O, .slice a3X U.nX k3X, .slice a3I U.nI k3I]) hZC rfl
                have hzC1 : XSC.heap.size ≤ XC.heap.size := by rw [eS]; exact Nat.le_of_eq (size_put C [.int .i64 U.c, .slice a3W U.nW k3W, .int .i64 U.g, .slice a3O U.nO k3O, .slice a3X U.nX k3X, .slice a3I U.nI k3I] 0 XC)
                have hzC2 : XC.heap.size ≤ XSC.heap.size := by rw [eS]; exact Nat.le_of_eq (size_put C [.int .i64 U.c, .slice a3W U.nW k3W, .int .i64 U.g, .slice a3O U.nO k3O, .slice a3X U.nX k3X, .slice a3I U.nI k3I] 0 XC).symm
                have hmC : ∀ b, ¬ b = C → Sm XC XSC b := by rw [eS]; exact fun b hb => sm_put hb [.int .i64 U.c, .slice a3W U.nW k3W, .int .i64 U.g, .slice a3O U.nO k3O, .slice a3X U.nX k3X, .slice a3I U.nI k3I] 0 XC
                have hBC : Below (w11.heap.size) w11 XSC := by rw [eS]; exact below_put hkC [.int .i64 U.c, .slice a3W U.nW k3W, .int .i64 U.g, .slice a3O U.nO k3O, .slice a3X U.nX k3X, .slice a3I U.nI k3I] 0 hHeld
                clear eS r0 f0 r1 f1 r2 f2 r3 f3 r4 f4 r5 f5
                replace hO := hO.sm hzC2 (fun b q1 q2 => hmC b (by omega))
                refine hK.out _ _ hBC (fun hNew => ?_)
                clear hK K hHeld
                have hHeld := hNew
                clear hNew
                try simp only [Act.put, List.setIfInBounds_toArray, List.set_cons_zero, List.set_cons_succ, List.getElem_toArray, List.getElem_cons_zero, List.getElem_cons_succ]
                refine wpAnyH_take (i := 13) (v := .bool TB) rfl (by kernel_rfl) (by kernel_rfl) (by kernel_rfl) (fun _ _ _ h => h) (Or.inl ⟨by rfl, ?_⟩) (by assumption) ?_
                · intro wx hSw; obtain ⟨hcS, hfS⟩ := bcellN hSw; go_simp
                try simp only [Act.put, List.setIfInBounds_toArray, List.set_cons_zero, List.set_cons_succ, List.getElem_toArray, List.getElem_cons_zero, List.getElem_cons_succ]
                refine wpAnyH_done (by kernel_rfl) ?_ _
                go_wp2
                go_meet
                case rel => exact ⟨C, lg, hg, a3W, k3W, a3O, k3O, a3X, k3X, a3I, k3I, rfl, rfl, hPC, hO, ⟨by omega, hPC.1, by omega, by omega, by omega, by omega⟩, hHeld⟩
              · go_simp
                obtain ⟨XC, eA⟩ : ∃ X, X = xp.alloc (.cells #[.int .i64 0, .slice none 0 0, .int .i64 0, .slice none 0 0, .slice none 0 0, .slice none 0 0] 37) := ⟨_, rfl⟩
                rw [← eA]
                have hbA : Below xp.heap.size xp XC := by rw [eA]; exact (Below.refl _ _).alloc (Nat.le_refl _) _
                have hZC : Bk XC xp.heap.size [.int .i64 0, .slice none 0 0, .int .i64 0, .slice none 0 0, .slice none 0 0, .slice none 0 0] := by rw [eA]; exact bk_new xp 37 [.int .i64 0, .slice none 0 0, .int .i64 0, .slice none 0 0, .slice none 0 0, .slice none 0 0]
                have hzAC1 : XC.heap.size ≤ xp.heap.size + 1 := by rw [eA]; simp
                have hzAC2 : xp.heap.size + 1 ≤ XC.heap.size := by rw [eA]; simp
                clear eA
                replace hC := hC.below hbA
                have hsz_XC := hbA.size
                refine hK.out _ _ (bthenN hHeld (by omega) hbA) (fun hNew => ?_)
                clear hK K hHeld
                have hHeld := hNew
                clear hNew
                try simp only [Act.put, List.setIfInBounds_toArray, List.set_cons_zero, List.set_cons_succ, List.getElem_toArray, List.getElem_cons_zero, List.getElem_cons_succ]
                clear hbA
                obtain ⟨C, eC⟩ : ∃ g, g = xp.heap.size := ⟨_, rfl⟩
                rw [← eC] at hZC ⊢
                have eC1 : C ≤ xp.heap.size := by omega
                have eC2 : xp.heap.size ≤ C := by omega
                clear eC
                refine wpAnyH_ready (rs := [7]) (by kernel_rfl) (by simp) ?_
                refine (AllReadyH.cons rfl (fun K hK => ?_) AllReadyH.nil)
                go_simp
                go_wp2_with fail
                refine (cllIn_impl c d _ V _ side pn pk pi pa pm ps pl pc HV.out hwf.out hwp.out _ hC).mono ?_
                rintro e xg ⟨⟨u, tt, rfl, ht, hO⟩, hxg⟩
                subst ht
                rw [EU.out] at hO
                rw [ET.out]
                obtain ⟨a3W, k3W, a3O, k3O, a3X, k3X, a3I, k3I, rfl, _, _, _, _⟩ := hO.at
                obtain ⟨lg, elg⟩ : ∃ l, l = XC.heap.size := ⟨_, rfl⟩
                obtain ⟨hg, ehg⟩ : ∃ l, l = xg.heap.size := ⟨_, rfl⟩
                rw [← elg, ← ehg] at hO
                have elg1 : lg ≤ XC.heap.size := by omega
                have elg2 : XC.heap.size ≤ lg := by omega
                have ehg1 : hg ≤ xg.heap.size := by omega
                have ehg2 : xg.heap.size ≤ hg := by omega
                clear elg ehg
                replace hZC := hZC.below hxg
                have hsz_xg := hxg.size
                refine hK.out _ _ (bthenN hHeld (by omega) hxg) (fun hNew => ?_)
                clear hK K hHeld
                have hHeld := hNew
                clear hNew
                try simp only [Act.put, List.setIfInBounds_toArray, List.set_cons_zero, List.set_cons_succ, List.getElem_toArray, List.getElem_cons_zero, List.getElem_cons_succ]
                refine wpAnyH_take (i := 8) (v := .tuple #[.agg #[.int .i64 U.c, .slice a3W U.nW k3W, .int .i64 U.g, .slice a3O U.nO k3O, .slice a3X U.nX k3X, .slice a3I U.nI k3I], .bool TB]) rfl (by kernel_rfl) (by kernel_rfl) (by kernel_rfl) (fun _ _ _ h => h) (Or.inl ⟨by rfl, ?_⟩) (by assumption) ?_
                · intro wx hSw; obtain ⟨hcS, hfS⟩ := bcellN hSw; go_simp
                try simp only [Act.put, List.setIfInBounds_toArray, List.set_cons_zero, List.set_cons_succ, List.getElem_toArray, List.getElem_cons_zero, List.getElem_cons_succ]
                refine wpAnyH_take (i := 9) (v := .agg #[.int .i64 U.c, .slice a3W U.nW k3W, .int .i64 U.g, .slice a3O U.nO k3O, .slice a3X U.nX k3X, .slice a3I U.nI k3I]) rfl (by kernel_rfl) (by kernel_rfl) (by kernel_rfl) (fun _ _ _ h => h) (Or.inl ⟨by rfl, ?_⟩) (by assumption) ?_
                · intro wx hSw; obtain ⟨hcS, hfS⟩ := bcellN hSw; go_simp
                try simp only [Act.put, List.setIfInBounds_toArray, List.set_cons_zero, List.set_cons_succ, List.getElem_toArray, List.getElem_cons_zero, List.getElem_cons_succ]
                refine wpAnyH_take (i := 10) (v := .bool TB) rfl (by kernel_rfl) (by kernel_rfl) (by kernel_rfl) (fun _ _ _ h => h) (Or.inl ⟨by rfl, ?_⟩) (by assumption) ?_
                · intro wx hSw; obtain ⟨hcS, hfS⟩ := bcellN hSw; go_simp
                try simp only [Act.put, List.setIfInBounds_toArray, List.set_cons_zero, List.set_cons_succ, List.getElem_toArray, List.getElem_cons_zero, List.getElem_cons_succ]
                refine wpAnyH_ready (rs := [12]) (by kernel_rfl) (by simp) ?_
                refine (AllReadyH.cons rfl (fun K hK => ?_) AllReadyH.nil)
                have r0 := (hZC.2 0 (by simp)).1
                have r1 := (hZC.2 1 (by simp)).1
                have r2 := (hZC.2 2 (by simp)).1
                have r3 := (hZC.2 3 (by simp)).1
                have r4 := (hZC.2 4 (by simp)).1
                have r5 := (hZC.2 5 (by simp)).1
                have f0 := (hZC.2 0 (by simp)).2
                have f1 := (hZC.2 1 (by simp)).2
                have f2 := (hZC.2 2 (by simp)).2
                have f3 := (hZC.2 3 (by simp)).2
                have f4 := (hZC.2 4 (by simp)).2
                have f5 := (hZC.2 5 (by simp)).2
                simp only [List.getD, List.getElem?_cons_zero, List.getElem?_cons_succ, Option.getD_some] at r0 r1 r2 r3 r4 r5
                have lZC := hZC.1
                have hkC : w11.heap.size ≤ C := by omega
                go_simp
                obtain ⟨XSC, eS⟩ : ∃ X, X = ((((((xg.setCell ⟨C, 0, none⟩ (.int .i64 U.c)).setCell ⟨C, 1, none⟩ (.slice a3W U.nW k3W)).setCell ⟨C, 2, none⟩ (.int .i64 U.g)).setCell ⟨C, 3, none⟩ (.slice a3O U.nO k3O)).setCell ⟨C, 4, none⟩ (.slice a3X U.nX k3X)).setCell ⟨C, 5, none⟩ (.slice a3I U.nI k3I)) := ⟨_, rfl⟩
                rw [← eS]
                have hPC : Bk XSC C [.int .i64 U.c, .slice a3W U.nW k3W, .int .i64 U.g, .slice a3O U.nO k3O, .slice a3X U.nX k3X, .slice a3I U.nI k3I] := by rw [eS]; exact bk_put (l := [.int .i64 U.c, .slice a3W U.nW k3W, .int .i64 U.g, .slice a3O U.nO k3O, .slice a3X U.nX k3X, .slice a3I U.nI k3I]) hZC rfl
                have hzC1 : XSC.heap.size ≤ xg.heap.size := by rw [eS]; exact Nat.le_of_eq (size_put C [.int .i64 U.c, .slice a3W U.nW k3W, .int .i64 U.g, .slice a3O U.nO k3O, .slice a3X U.nX k3X, .slice a3I U.nI k3I] 0 xg)
                have hzC2 : xg.heap.size ≤ XSC.heap.size := by rw [eS]; exact Nat.le_of_eq (size_put C [.int .i64 U.c, .slice a3W U.nW k3W, .int .i64 U.g, .slice a3O U.nO k3O, .slice a3X U.nX k3X, .slice a3I U.nI k3I] 0 xg).symm
                have hmC : ∀ b, ¬ b = C → Sm xg XSC b := by rw [eS]; exact fun b hb => sm_put hb [.int .i64 U.c, .slice a3W U.nW k3W, .int .i64 U.g, .slice a3O U.nO k3O, .slice a3X U.nX k3X, .slice a3I U.nI k3I] 0 xg
                have hBC : Below (w11.heap.size) w11 XSC := by rw [eS]; exact below_put hkC [.int .i64 U.c, .slice a3W U.nW k3W, .int .i64 U.g, .slice a3O U.nO k3O, .slice a3X U.nX k3X, .slice a3I U.nI k3I] 0 hHeld
                clear eS r0 f0 r1 f1 r2 f2 r3 f3 r4 f4 r5 f5
                replace hO := hO.sm hzC2 (fun b q1 q2 => hmC b (by omega))
                refine hK.out _ _ hBC (fun hNew => ?_)
                clear hK K hHeld
                have hHeld := hNew
                clear hNew
                try simp only [Act.put, List.setIfInBounds_toArray, List.set_cons_zero, List.set_cons_succ, List.getElem_toArray, List.getElem_cons_zero, List.getElem_cons_succ]
                refine wpAnyH_take (i := 13) (v := .bool TB) rfl (by kernel_rfl) (by kernel_rfl) (by kernel_rfl) (fun _ _ _ h => h) (Or.inl ⟨by rfl, ?_⟩) (by assumption) ?_
                · intro wx hSw; obtain ⟨hcS, hfS⟩ := bcellN hSw; go_simp
                try simp only [Act.put, List.setIfInBounds_toArray, List.set_cons_zero, List.set_cons_succ, List.getElem_toArray, List.getElem_cons_zero, List.getElem_cons_succ]
                refine wpAnyH_done (by kernel_rfl) ?_ _
                go_wp2
                go_meet
                case rel => exact ⟨C, lg, hg, a3W, k3W, a3O, k3O, a3X, k3X, a3I, k3I, rfl, rfl, hPC, hO, ⟨by omega, hPC.1, by omega, by omega, by omega, by omega⟩, hHeld⟩
            · go_simp
              obtain ⟨XC, eA⟩ : ∃ X, X = xt.alloc (.cells #[.int .i64 0, .slice none 0 0, .int .i64 0, .slice none 0 0, .slice none 0 0, .slice none 0 0] 37) := ⟨_, rfl⟩
              rw [← eA]
              have hbA : Below xt.heap.size xt XC := by rw [eA]; exact (Below.refl _ _).alloc (Nat.le_refl _) _
              have hZC : Bk XC xt.heap.size [.int .i64 0, .slice none 0 0, .int .i64 0, .slice none 0 0, .slice none 0 0, .slice none 0 0] := by rw [eA]; exact bk_new xt 37 [.int .i64 0, .slice none 0 0, .int .i64 0, .slice none 0 0, .slice none 0 0, .slice none 0 0]
              have hzAC1 : XC.heap.size ≤ xt.heap.size + 1 := by rw [eA]; simp
              have hzAC2 : xt.heap.size + 1 ≤ XC.heap.size := by rw [eA]; simp
              clear eA
              replace hC := hC.below hbA
              have hsz_XC := hbA.size
              refine hK.out _ _ (bthenN hHeld (by omega) hbA) (fun hNew => ?_)
              clear hK K hHeld
              have hHeld := hNew
              clear hNew
              try simp only [Act.put, List.setIfInBounds_toArray, List.set_cons_zero, List.set_cons_succ, List.getElem_toArray, List.getElem_cons_zero, List.getElem_cons_succ]
              clear hbA
              obtain ⟨C, eC⟩ : ∃ g, g = xt.heap.size := ⟨_, rfl⟩
              rw [← eC] at hZC ⊢
              have eC1 : C ≤ xt.heap.size := by omega
              have eC2 : xt.heap.size ≤ C := by omega
              clear eC
              refine wpAnyH_ready (rs := [6]) (by kernel_rfl) (by simp) ?_
              refine (AllReadyH.cons rfl (fun K hK => ?_) AllReadyH.nil)
              go_simp
              go_wp2_with fail
              refine (toParcel _ _ _ _ _ _ _ _ _).mono ?_
              rintro e xp ⟨rfl, hxp⟩
              replace hC := hC.below hxp
              replace hZC := hZC.below hxp
              have hsz_xp := hxp.size
              refine hK.out _ _ (bthenN hHeld (by omega) hxp) (fun hNew => ?_)
              clear hK K hHeld
              have hHeld := hNew
              clear hNew
              try simp only [Act.put, List.setIfInBounds_toArray, List.set_cons_zero, List.set_cons_succ, List.getElem_toArray, List.getElem_cons_zero, List.getElem_cons_succ]
              refine wpAnyH_ready (rs := [7]) (by kernel_rfl) (by simp) ?_
              refine (AllReadyH.cons rfl (fun K hK => ?_) AllReadyH.nil)
              go_simp
              go_wp2_with fail
              refine (cllIn_impl c d _ V _ side pn pk pi pa pm ps pl pc HV.out hwf.out hwp.out _ hC).mono ?_
              rintro e xg ⟨⟨u, tt, rfl, ht, hO⟩, hxg⟩
              subst ht
              rw [EU.out] at hO
              rw [ET.out]
              obtain ⟨a3W, k3W, a3O, k3O, a3X, k3X, a3I, k3I, rfl, _, _, _, _⟩ := hO.at
              obtain ⟨lg, elg⟩ : ∃ l, l = xp.heap.size := ⟨_, rfl⟩
              obtain ⟨hg, ehg⟩ : ∃ l, l = xg.heap.size := ⟨_, rfl⟩
              rw [← elg, ← ehg] at hO
              have elg1 : lg ≤ xp.heap.size := by omega
              have elg2 : xp.heap.size ≤ lg := by omega
              have ehg1 : hg ≤ xg.heap.size := by omega
              have ehg2 : xg.heap.size ≤ hg := by omega
              clear elg ehg
              replace hZC := hZC.below hxg
              have hsz_xg := hxg.size
              refine hK.out _ _ (bthenN hHeld (by omega) hxg) (fun hNew => ?_)
              clear hK K hHeld
              have hHeld := hNew
              clear hNew
              try simp only [Act.put, List.setIfInBounds_toArray, List.set_cons_zero, List.set_cons_succ, List.getElem_toArray, List.getElem_cons_zero, List.getElem_cons_succ]
              refine wpAnyH_take (i := 8) (v := .tuple #[.agg #[.int .i64 U.c, .slice a3W U.nW k3W, .int .i64 U.g, .slice a3O U.nO k3O, .slice a3X U.nX k3X, .slice a3I U.nI k3I], .bool TB]) rfl (by kernel_rfl) (by kernel_rfl) (by kernel_rfl) (fun _ _ _ h => h) (Or.inl ⟨by rfl, ?_⟩) (by assumption) ?_
              · intro wx hSw; obtain ⟨hcS, hfS⟩ := bcellN hSw; go_simp
              try simp only [Act.put, List.setIfInBounds_toArray, List.set_cons_zero, List.set_cons_succ, List.getElem_toArray, List.getElem_cons_zero, List.getElem_cons_succ]
              refine wpAnyH_take (i := 9) (v := .agg #[.int .i64 U.c, .slice a3W U.nW k3W, .int .i64 U.g, .slice a3O U.nO k3O, .slice a3X U.nX k3X, .slice a3I U.nI k3I]) rfl (by kernel_rfl) (by kernel_rfl) (by kernel_rfl) (fun _ _ _ h => h) (Or.inl ⟨by rfl, ?_⟩) (by assumption) ?_
              · intro wx hSw; obtain ⟨hcS, hfS⟩ := bcellN hSw; go_simp
              try simp only [Act.put, List.setIfInBounds_toArray, List.set_cons_zero, List.set_cons_succ, List.getElem_toArray, List.getElem_cons_zero, List.getElem_cons_succ]
              refine wpAnyH_take (i := 10) (v := .bool TB) rfl (by kernel_rfl) (by kernel_rfl) (by kernel_rfl) (fun _ _ _ h => h) (Or.inl ⟨by rfl, ?_⟩) (by assumption) ?_
              · intro wx hSw; obtain ⟨hcS, hfS⟩ := bcellN hSw; go_simp
              try simp only [Act.put, List.setIfInBounds_toArray, List.set_cons_zero, List.set_cons_succ, List.getElem_toArray, List.getElem_cons_zero, List.getElem_cons_succ]
              refine wpAnyH_ready (rs := [12]) (by kernel_rfl) (by simp) ?_
              refine (AllReadyH.cons rfl (fun K hK => ?_) AllReadyH.nil)
              have r0 := (hZC.2 0 (by simp)).1
              have r1 := (hZC.2 1 (by simp)).1
              have r2 := (hZC.2 2 (by simp)).1
              have r3 := (hZC.2 3 (by simp)).1
              have r4 := (hZC.2 4 (by simp)).1
              have r5 := (hZC.2 5 (by simp)).1
              have f0 := (hZC.2 0 (by simp)).2
              have f1 := (hZC.2 1 (by simp)).2
              have f2 := (hZC.2 2 (by simp)).2
              have f3 := (hZC.2 3 (by simp)).2
              have f4 := (hZC.2 4 (by simp)).2
              have f5 := (hZC.2 5 (by simp)).2
              simp only [List.getD, List.getElem?_cons_zero, List.getElem?_cons_succ, Option.getD_some] at r0 r1 r2 r3 r4 r5
              have lZC := hZC.1
              have hkC : w11.heap.size ≤ C := by omega
              go_simp
              obtain ⟨XSC, eS⟩ : ∃ X, X = ((((((xg.setCell ⟨C, 0, none⟩ (.int .i64 U.c)).setCell ⟨C, 1, none⟩ (.slice a3W U.nW k3W)).setCell ⟨C, 2, none⟩ (.int .i64 U.g)).setCell ⟨C, 3, none⟩ (.slice a3O U.nO k3O)).setCell ⟨C, 4, none⟩ (.slice a3X U.nX k3X)).setCell ⟨C, 5, none⟩ (.slice a3I U.nI k3I)) := ⟨_, rfl⟩
              rw [← eS]
              have hPC : Bk XSC C [.int .i64 U.c, .slice a3W U.nW k3W, .int .i64 U.g, .slice a3O U.nO k3O, .slice a3X U.nX k3X, .slice a3I U.nI k3I] := by rw [eS]; exact bk_put (l := [.int .i64 U.c, .slice a3W U.nW k3W, .int .i64 U.g, .slice a3O U.nO k3O, .slice a3X U.nX k3X, .slice a3I U.nI k3I]) hZC rfl
              have hzC1 : XSC.heap.size ≤ xg.heap.size := by rw [eS]; exact Nat.le_of_eq (size_put C [.int .i64 U.c, .slice a3W U.nW k3W, .int .i64 U.g, .slice a3O U.nO k3O, .slice a3X U.nX k3X, .slice a3I U.nI k3I] 0 xg)
              have hzC2 : xg.heap.size ≤ XSC.heap.size := by rw [eS]; exact Nat.le_of_eq (size_put C [.int .i64 U.c, .slice a3W U.nW k3W, .int .i64 U.g, .slice a3O U.nO k3O, .slice a3X U.nX k3X, .slice a3I U.nI k3I] 0 xg).symm
              have hmC : ∀ b, ¬ b = C → Sm xg XSC b := by rw [eS]; exact fun b hb => sm_put hb [.int .i64 U.c, .slice a3W U.nW k3W, .int .i64 U.g, .slice a3O U.nO k3O, .slice a3X U.nX k3X, .slice a3I U.nI k3I] 0 xg
              have hBC : Below (w11.heap.size) w11 XSC := by rw [eS]; exact below_put hkC [.int .i64 U.c, .slice a3W U.nW k3W, .int .i64 U.g, .slice a3O U.nO k3O, .slice a3X U.nX k3X, .slice a3I U.nI k3I] 0 hHeld
              clear eS r0 f0 r1 f1 r2 f2 r3 f3 r4 f4 r5 f5
              replace hO := hO.sm hzC2 (fun b q1 q2 => hmC b (by omega))
              refine hK.out _ _ hBC (fun hNew => ?_)
              clear hK K hHeld
              have hHeld := hNew
              clear hNew
              try simp only [Act.put, List.setIfInBounds_toArray, List.set_cons_zero, List.set_cons_succ, List.getElem_toArray, List.getElem_cons_zero, List.getElem_cons_succ]
              refine wpAnyH_take (i := 13) (v := .bool TB) rfl (by kernel_rfl) (by kernel_rfl) (by kernel_rfl) (fun _ _ _ h => h) (Or.inl ⟨by rfl, ?_⟩) (by assumption) ?_
              · intro wx hSw; obtain ⟨hcS, hfS⟩ := bcellN hSw; go_simp
              try simp only [Act.put, List.setIfInBounds_toArray, List.set_cons_zero, List.set_cons_succ, List.getElem_toArray, List.getElem_cons_zero, List.getElem_cons_succ]
              refine wpAnyH_done (by kernel_rfl) ?_ _
              go_wp2
              go_meet
              case rel => exact ⟨C, lg, hg, a3W, k3W, a3O, k3O, a3X, k3X, a3I, k3I, rfl, rfl, hPC, hO, ⟨by omega, hPC.1, by omega, by omega, by omega, by omega⟩, hHeld⟩
          · go_simp
            obtain ⟨XC, eA⟩ : ∃ X, X = xm.alloc (.cells #[.int .i64 0, .slice none 0 0, .int .i64 0, .slice none 0 0, .slice none 0 0, .slice none 0 0] 37) := ⟨_, rfl⟩
            rw [← eA]
            have hbA : Below xm.heap.size xm XC := by rw [eA]; exact (Below.refl _ _).alloc (Nat.le_refl _) _
            have hZC : Bk XC xm.heap.size [.int .i64 0, .slice none 0 0, .int .i64 0, .slice none 0 0, .slice none 0 0, .slice none 0 0] := by rw [eA]; exact bk_new xm 37 [.int .i64 0, .slice none 0 0, .int .i64 0, .slice none 0 0, .slice none 0 0, .slice none 0 0]
            have hzAC1 : XC.heap.size ≤ xm.heap.size + 1 := by rw [eA]; simp
            have hzAC2 : xm.heap.size + 1 ≤ XC.heap.size := by rw [eA]; simp
            clear eA
            have hsz_XC := hbA.size
            refine hK.out _ _ (bthenN hHeld (by omega) hbA) (fun hNew => ?_)
            clear hK K hHeld
            have hHeld := hNew
            clear hNew
            try simp only [Act.put, List.setIfInBounds_toArray, List.set_cons_zero, List.set_cons_succ, List.getElem_toArray, List.getElem_cons_zero, List.getElem_cons_succ]
            clear hbA
            obtain ⟨C, eC⟩ : ∃ g, g = xm.heap.size := ⟨_, rfl⟩
            rw [← eC] at hZC ⊢
            have eC1 : C ≤ xm.heap.size := by omega
            have eC2 : xm.heap.size ≤ C := by omega
            clear eC
            refine wpAnyH_ready (rs := [3]) (by kernel_rfl) (by simp) ?_
            refine (AllReadyH.cons rfl (fun K hK => ?_) AllReadyH.nil)
            go_simp
            go_wp2_with fail
            refine (toCell _ V HV.out _ (cellAt_below H0.out (bthen B23.out hHeld))).mono ?_
            rintro e xt ⟨⟨vt, rfl, hC⟩, hxt⟩
            replace hZC := hZC.below hxt
            have hsz_xt := hxt.size
            refine hK.out _ _ (bthenN hHeld (by omega) hxt) (fun hNew => ?_)
            clear hK K hHeld
            have hHeld := hNew
            clear hNew
            try simp only [Act.put, List.setIfInBounds_toArray, List.set_cons_zero, List.set_cons_succ, List.getElem_toArray, List.getElem_cons_zero, List.getElem_cons_succ]
            refine wpAnyH_ready (rs := [6]) (by kernel_rfl) (by simp) ?_
            refine (AllReadyH.cons rfl (fun K hK => ?_) AllReadyH.nil)
            go_simp
            go_wp2_with fail
            refine (toParcel _ _ _ _ _ _ _ _ _).mono ?_
            rintro e xp ⟨rfl, hxp⟩
            replace hZC := hZC.below hxp
            replace hC := hC.below hxp
            have hsz_xp := hxp.size
            refine hK.out _ _ (bthenN hHeld (by omega) hxp) (fun hNew => ?_)
            clear hK K hHeld
            have hHeld := hNew
            clear hNew
            try simp only [Act.put, List.setIfInBounds_toArray, List.set_cons_zero, List.set_cons_succ, List.getElem_toArray, List.getElem_cons_zero, List.getElem_cons_succ]
            refine wpAnyH_ready (rs := [7]) (by kernel_rfl) (by simp) ?_
            refine (AllReadyH.cons rfl (fun K hK => ?_) AllReadyH.nil)
            go_simp
            go_wp2_with fail
            refine (cllIn_impl c d _ V _ side pn pk pi pa pm ps pl pc HV.out hwf.out hwp.out _ hC).mono ?_
            rintro e xg ⟨⟨u, tt, rfl, ht, hO⟩, hxg⟩
            subst ht
            rw [EU.out] at hO
            rw [ET.out]
            obtain ⟨a3W, k3W, a3O, k3O, a3X, k3X, a3I, k3I, rfl, _, _, _, _⟩ := hO.at
            obtain ⟨lg, elg⟩ : ∃ l, l = xp.heap.size := ⟨_, rfl⟩
            obtain ⟨hg, ehg⟩ : ∃ l, l = xg.heap.size := ⟨_, rfl⟩
            rw [← elg, ← ehg] at hO
            have elg1 : lg ≤ xp.heap.size := by omega
            have elg2 : xp.heap.size ≤ lg := by omega
            have ehg1 : hg ≤ xg.heap.size := by omega
            have ehg2 : xg.heap.size ≤ hg := by omega
            clear elg ehg
            replace hZC := hZC.below hxg
            have hsz_xg := hxg.size
            refine hK.out _ _ (bthenN hHeld (by omega) hxg) (fun hNew => ?_)
            clear hK K hHeld
            have hHeld := hNew
            clear hNew
            try simp only [Act.put, List.setIfInBounds_toArray, List.set_cons_zero, List.set_cons_succ, List.getElem_toArray, List.getElem_cons_zero, List.getElem_cons_succ]
            refine wpAnyH_take (i := 8) (v := .tuple #[.agg #[.int .i64 U.c, .slice a3W U.nW k3W, .int .i64 U.g, .slice a3O U.nO k3O, .slice a3X U.nX k3X, .slice a3I U.nI k3I], .bool TB]) rfl (by kernel_rfl) (by kernel_rfl) (by kernel_rfl) (fun _ _ _ h => h) (Or.inl ⟨by rfl, ?_⟩) (by assumption) ?_
            · intro wx hSw; obtain ⟨hcS, hfS⟩ := bcellN hSw; go_simp
            try simp only [Act.put, List.setIfInBounds_toArray, List.set_cons_zero, List.set_cons_succ, List.getElem_toArray, List.getElem_cons_zero, List.getElem_cons_succ]
            refine wpAnyH_take (i := 9) (v := .agg #[.int .i64 U.c, .slice a3W U.nW k3W, .int .i64 U.g, .slice a3O U.nO k3O, .slice a3X U.nX k3X, .slice a3I U.nI k3I]) rfl (by kernel_rfl) (by kernel_rfl) (by kernel_rfl) (fun _ _ _ h => h) (Or.inl ⟨by rfl, ?_⟩) (by assumption) ?_
            · intro wx hSw; obtain ⟨hcS, hfS⟩ := bcellN hSw; go_simp
            try simp only [Act.put, List.setIfInBounds_toArray, List.set_cons_zero, List.set_cons_succ, List.getElem_toArray, List.getElem_cons_zero, List.getElem_cons_succ]
            refine wpAnyH_take (i := 10) (v := .bool TB) rfl (by kernel_rfl) (by kernel_rfl) (by kernel_rfl) (fun _ _ _ h => h) (Or.inl ⟨by rfl, ?_⟩) (by assumption) ?_
            · intro wx hSw; obtain ⟨hcS, hfS⟩ := bcellN hSw; go_simp
            try simp only [Act.put, List.setIfInBounds_toArray, List.set_cons_zero, List.set_cons_succ, List.getElem_toArray, List.getElem_cons_zero, List.getElem_cons_succ]
            refine wpAnyH_ready (rs := [12]) (by kernel_rfl) (by simp) ?_
            refine (AllReadyH.cons rfl (fun K hK => ?_) AllReadyH.nil)
            have r0 := (hZC.2 0 (by simp)).1
            have r1 := (hZC.2 1 (by simp)).1
            have r2 := (hZC.2 2 (by simp)).1
            have r3 := (hZC.2 3 (by simp)).1
            have r4 := (hZC.2 4 (by simp)).1
            have r5 := (hZC.2 5 (by simp)).1
            have f0 := (hZC.2 0 (by simp)).2
            have f1 := (hZC.2 1 (by simp)).2
            have f2 := (hZC.2 2 (by simp)).2
            have f3 := (hZC.2 3 (by simp)).2
            have f4 := (hZC.2 4 (by simp)).2
            have f5 := (hZC.2 5 (by simp)).2
            simp only [List.getD, List.getElem?_cons_zero, List.getElem?_cons_succ, Option.getD_some] at r0 r1 r2 r3 r4 r5
            have lZC := hZC.1
            have hkC : w11.heap.size ≤ C := by omega
            go_simp
            obtain ⟨XSC, eS⟩ : ∃ X, X = ((((((xg.setCell ⟨C, 0, none⟩ (.int .i64 U.c)).setCell ⟨C, 1, none⟩ (.slice a3W U.nW k3W)).setCell ⟨C, 2, none⟩ (.int .i64 U.g)).setCell ⟨C, 3, none⟩ (.slice a3O U.nO k3O)).setCell ⟨C, 4, none⟩ (.slice a3X U.nX k3X)).setCell ⟨C, 5, none⟩ (.slice a3I U.nI k3I)) := ⟨_, rfl⟩
            rw [← eS]
            have hPC : Bk XSC C [.int .i64 U.c, .slice a3W U.nW k3W, .int .i64 U.g, .slice a3O U.nO k3O, .slice a3X U.nX k3X, .slice a3I U.nI k3I] := by rw [eS]; exact bk_put (l := [.int .i64 U.c, .slice a3W U.nW k3W, .int .i64 U.g, .slice a3O U.nO k3O, .slice a3X U.nX k3X, .slice a3I U.nI k3I]) hZC rfl
            have hzC1 : XSC.heap.size ≤ xg.heap.size := by rw [eS]; exact Nat.le_of_eq (size_put C [.int .i64 U.c, .slice a3W U.nW k3W, .int .i64 U.g, .slice a3O U.nO k3O, .slice a3X U.nX k3X, .slice a3I U.nI k3I] 0 xg)
            have hzC2 : xg.heap.size ≤ XSC.heap.size := by rw [eS]; exact Nat.le_of_eq (size_put C [.int .i64 U.c, .slice a3W U.nW k3W, .int .i64 U.g, .slice a3O U.nO k3O, .slice a3X U.nX k3X, .slice a3I U.nI k3I] 0 xg).symm
            have hmC : ∀ b, ¬ b = C → Sm xg XSC b := by rw [eS]; exact fun b hb => sm_put hb [.int .i64 U.c, .slice a3W U.nW k3W, .int .i64 U.g, .slice a3O U.nO k3O, .slice a3X U.nX k3X, .slice a3I U.nI k3I] 0 xg
            have hBC : Below (w11.heap.size) w11 XSC := by rw [eS]; exact below_put hkC [.int .i64 U.c, .slice a3W U.nW k3W, .int .i64 U.g, .slice a3O U.nO k3O, .slice a3X U.nX k3X, .slice a3I U.nI k3I] 0 hHeld
            clear eS r0 f0 r1 f1 r2 f2 r3 f3 r4 f4 r5 f5
            replace hO := hO.sm hzC2 (fun b q1 q2 => hmC b (by omega))
            refine hK.out _ _ hBC (fun hNew => ?_)
            clear hK K hHeld
            have hHeld := hNew
            clear hNew
            try simp only [Act.put, List.setIfInBounds_toArray, List.set_cons_zero, List.set_cons_succ, List.getElem_toArray, List.getElem_cons_zero, List.getElem_cons_succ]
            refine wpAnyH_take (i := 13) (v := .bool TB) rfl (by kernel_rfl) (by kernel_rfl) (by kernel_rfl) (fun _ _ _ h => h) (Or.inl ⟨by rfl, ?_⟩) (by assumption) ?_
            · intro wx hSw; obtain ⟨hcS, hfS⟩ := bcellN hSw; go_simp
            try simp only [Act.put, List.setIfInBounds_toArray, List.set_cons_zero, List.set_cons_succ, List.getElem_toArray, List.getElem_cons_zero, List.getElem_cons_succ]
            refine wpAnyH_done (by kernel_rfl) ?_ _
            go_wp2
            go_meet
            case rel => exact ⟨C, lg, hg, a3W, k3W, a3O, k3O, a3X, k3X, a3I, k3I, rfl, rfl, hPC, hO, ⟨by omega, hPC.1, by omega, by omega, by omega, by omega⟩, hHeld⟩
        · go_simp
          obtain ⟨XC, eA⟩ : ∃ X, X = X0.alloc (.cells #[.int .i64 0, .slice none 0 0, .int .i64 0, .slice none 0 0, .slice none 0 0, .slice none 0 0] 37) := ⟨_, rfl⟩
          rw [← eA]
          have hbA : Below X0.heap.size X0 XC := by rw [eA]; exact (Below.refl _ _).alloc (Nat.le_refl _) _
          have hZC : Bk XC X0.heap.size [.int .i64 0, .slice none 0 0, .int .i64 0, .slice none 0 0, .slice none 0 0, .slice none 0 0] := by rw [eA]; exact bk_new X0 37 [.int .i64 0, .slice none 0 0, .int .i64 0, .slice none 0 0, .slice none 0 0, .slice none 0 0]
          have hzAC1 : XC.heap.size ≤ X0.heap.size + 1 := by rw [eA]; simp
          have hzAC2 : X0.heap.size + 1 ≤ XC.heap.size := by rw [eA]; simp
          clear eA
          have hsz_XC := hbA.size
          refine hK.out _ _ (bthenN hHeld (by omega) hbA) (fun hNew => ?_)
          clear hK K hHeld
          have hHeld := hNew
          clear hNew
          try simp only [Act.put, List.setIfInBounds_toArray, List.set_cons_zero, List.set_cons_succ, List.getElem_toArray, List.getElem_cons_zero, List.getElem_cons_succ]
          clear hbA
          obtain ⟨C, eC⟩ : ∃ g, g = X0.heap.size := ⟨_, rfl⟩
          rw [← eC] at hZC ⊢
          have eC1 : C ≤ X0.heap.size := by omega
          have eC2 : X0.heap.size ≤ C := by omega
          clear eC
          refine wpAnyH_ready (rs := [1]) (by kernel_rfl) (by simp) ?_
          refine (AllReadyH.cons rfl (fun K hK => ?_) AllReadyH.nil)
          go_simp
          go_wp2_with fail
          refine (toMap _ _ _).mono ?_
          rintro e xm ⟨rfl, hxm⟩
          replace hZC := hZC.below hxm
          have hsz_xm := hxm.size
          refine hK.out _ _ (bthenN hHeld (by omega) hxm) (fun hNew => ?_)
          clear hK K hHeld
          have hHeld := hNew
          clear hNew
          try simp only [Act.put, List.setIfInBounds_toArray, List.set_cons_zero, List.set_cons_succ, List.getElem_toArray, List.getElem_cons_zero, List.getElem_cons_succ]
          refine wpAnyH_ready (rs := [3]) (by kernel_rfl) (by simp) ?_
          refine (AllReadyH.cons rfl (fun K hK => ?_) AllReadyH.nil)
          go_simp
          go_wp2_with fail
          refine (toCell _ V HV.out _ (cellAt_below H0.out (bthen B23.out hHeld))).mono ?_
          rintro e xt ⟨⟨vt, rfl, hC⟩, hxt⟩
          replace hZC := hZC.below hxt
          have hsz_xt := hxt.size
          refine hK.out _ _ (bthenN hHeld (by omega) hxt) (fun hNew => ?_)
          clear hK K hHeld
          have hHeld := hNew
          clear hNew
          try simp only [Act.put, List.setIfInBounds_toArray, List.set_cons_zero, List.set_cons_succ, List.getElem_toArray, List.getElem_cons_zero, List.getElem_cons_succ]
          refine wpAnyH_ready (rs := [6]) (by kernel_rfl) (by simp) ?_
          refine (AllReadyH.cons rfl (fun K hK => ?_) AllReadyH.nil)
          go_simp
          go_wp2_with fail
          refine (toParcel _ _ _ _ _ _ _ _ _).mono ?_
          rintro e xp ⟨rfl, hxp⟩
          replace hZC := hZC.below hxp
          replace hC := hC.below hxp
          have hsz_xp := hxp.size
          refine hK.out _ _ (bthenN hHeld (by omega) hxp) (fun hNew => ?_)
          clear hK K hHeld
          have hHeld := hNew
          clear hNew
          try simp only [Act.put, List.setIfInBounds_toArray, List.set_cons_zero, List.set_cons_succ, List.getElem_toArray, List.getElem_cons_zero, List.getElem_cons_succ]
          refine wpAnyH_ready (rs := [7]) (by kernel_rfl) (by simp) ?_
          refine (AllReadyH.cons rfl (fun K hK => ?_) AllReadyH.nil)
          go_simp
          go_wp2_with fail
          refine (cllIn_impl c d _ V _ side pn pk pi pa pm ps pl pc HV.out hwf.out hwp.out _ hC).mono ?_
          rintro e xg ⟨⟨u, tt, rfl, ht, hO⟩, hxg⟩
          subst ht
          rw [EU.out] at hO
          rw [ET.out]
          obtain ⟨a3W, k3W, a3O, k3O, a3X, k3X, a3I, k3I, rfl, _, _, _, _⟩ := hO.at
          obtain ⟨lg, elg⟩ : ∃ l, l = xp.heap.size := ⟨_, rfl⟩
          obtain ⟨hg, ehg⟩ : ∃ l, l = xg.heap.size := ⟨_, rfl⟩
          rw [← elg, ← ehg] at hO
          have elg1 : lg ≤ xp.heap.size := by omega
          have elg2 : xp.heap.size ≤ lg := by omega
          have ehg1 : hg ≤ xg.heap.size := by omega
          have ehg2 : xg.heap.size ≤ hg := by omega
          clear elg ehg
          replace hZC := hZC.below hxg
          have hsz_xg := hxg.size
          refine hK.out _ _ (bthenN hHeld (by omega) hxg) (fun hNew => ?_)
          clear hK K hHeld
          have hHeld := hNew
          clear hNew
          try simp only [Act.put, List.setIfInBounds_toArray, List.set_cons_zero, List.set_cons_succ, List.getElem_toArray, List.getElem_cons_zero, List.getElem_cons_succ]
          refine wpAnyH_take (i := 8) (v := .tuple #[.agg #[.int .i64 U.c, .slice a3W U.nW k3W, .int .i64 U.g, .slice a3O U.nO k3O, .slice a3X U.nX k3X, .slice a3I U.nI k3I], .bool TB]) rfl (by kernel_rfl) (by kernel_rfl) (by kernel_rfl) (fun _ _ _ h => h) (Or.inl ⟨by rfl, ?_⟩) (by assumption) ?_
          · intro wx hSw; obtain ⟨hcS, hfS⟩ := bcellN hSw; go_simp
          try simp only [Act.put, List.setIfInBounds_toArray, List.set_cons_zero, List.set_cons_succ, List.getElem_toArray, List.getElem_cons_zero, List.getElem_cons_succ]
          refine wpAnyH_take (i := 9) (v := .agg #[.int .i64 U.c, .slice a3W U.nW k3W, .int .i64 U.g, .slice a3O U.nO k3O, .slice a3X U.nX k3X, .slice a3I U.nI k3I]) rfl (by kernel_rfl) (by kernel_rfl) (by kernel_rfl) (fun _ _ _ h => h) (Or.inl ⟨by rfl, ?_⟩) (by assumption) ?_
          · intro wx hSw; obtain ⟨hcS, hfS⟩ := bcellN hSw; go_simp
          try simp only [Act.put, List.setIfInBounds_toArray, List.set_cons_zero, List.set_cons_succ, List.getElem_toArray, List.getElem_cons_zero, List.getElem_cons_succ]
          refine wpAnyH_take (i := 10) (v := .bool TB) rfl (by kernel_rfl) (by kernel_rfl) (by kernel_rfl) (fun _ _ _ h => h) (Or.inl ⟨by rfl, ?_⟩) (by assumption) ?_
          · intro wx hSw; obtain ⟨hcS, hfS⟩ := bcellN hSw; go_simp
          try simp only [Act.put, List.setIfInBounds_toArray, List.set_cons_zero, List.set_cons_succ, List.getElem_toArray, List.getElem_cons_zero, List.getElem_cons_succ]
          refine wpAnyH_ready (rs := [12]) (by kernel_rfl) (by simp) ?_
          refine (AllReadyH.cons rfl (fun K hK => ?_) AllReadyH.nil)
          have r0 := (hZC.2 0 (by simp)).1
          have r1 := (hZC.2 1 (by simp)).1
          have r2 := (hZC.2 2 (by simp)).1
          have r3 := (hZC.2 3 (by simp)).1
          have r4 := (hZC.2 4 (by simp)).1
          have r5 := (hZC.2 5 (by simp)).1
          have f0 := (hZC.2 0 (by simp)).2
          have f1 := (hZC.2 1 (by simp)).2
          have f2 := (hZC.2 2 (by simp)).2
          have f3 := (hZC.2 3 (by simp)).2
          have f4 := (hZC.2 4 (by simp)).2
          have f5 := (hZC.2 5 (by simp)).2
          simp only [List.getD, List.getElem?_cons_zero, List.getElem?_cons_succ, Option.getD_some] at r0 r1 r2 r3 r4 r5
          have lZC := hZC.1
          have hkC : w11.heap.size ≤ C := by omega
          go_simp
          obtain ⟨XSC, eS⟩ : ∃ X, X = ((((((xg.setCell ⟨C, 0, none⟩ (.int .i64 U.c)).setCell ⟨C, 1, none⟩ (.slice a3W U.nW k3W)).setCell ⟨C, 2, none⟩ (.int .i64 U.g)).setCell ⟨C, 3, none⟩ (.slice a3O U.nO k3O)).setCell ⟨C, 4, none⟩ (.slice a3X U.nX k3X)).setCell ⟨C, 5, none⟩ (.slice a3I U.nI k3I)) := ⟨_, rfl⟩
          rw [← eS]
          have hPC : Bk XSC C [.int .i64 U.c, .slice a3W U.nW k3W, .int .i64 U.g, .slice a3O U.nO k3O, .slice a3X U.nX k3X, .slice a3I U.nI k3I] := by rw [eS]; exact bk_put (l := [.int .i64 U.c, .slice a3W U.nW k3W, .int .i64 U.g, .slice a3O U.nO k3O, .slice a3X U.nX k3X, .slice a3I U.nI k3I]) hZC rfl
          have hzC1 : XSC.heap.size ≤ xg.heap.size := by rw [eS]; exact Nat.le_of_eq (size_put C [.int .i64 U.c, .slice a3W U.nW k3W, .int .i64 U.g, .slice a3O U.nO k3O, .slice a3X U.nX k3X, .slice a3I U.nI k3I] 0 xg)
          have hzC2 : xg.heap.size ≤ XSC.heap.size := by rw [eS]; exact Nat.le_of_eq (size_put C [.int .i64 U.c, .slice a3W U.nW k3W, .int .i64 U.g, .slice a3O U.nO k3O, .slice a3X U.nX k3X, .slice a3I U.nI k3I] 0 xg).symm
          have hmC : ∀ b, ¬ b = C → Sm xg XSC b := by rw [eS]; exact fun b hb => sm_put hb [.int .i64 U.c, .slice a3W U.nW k3W, .int .i64 U.g, .slice a3O U.nO k3O, .slice a3X U.nX k3X, .slice a3I U.nI k3I] 0 xg
          have hBC : Below (w11.heap.size) w11 XSC := by rw [eS]; exact below_put hkC [.int .i64 U.c, .slice a3W U.nW k3W, .int .i64 U.g, .slice a3O U.nO k3O, .slice a3X U.nX k3X, .slice a3I U.nI k3I] 0 hHeld
          clear eS r0 f0 r1 f1 r2 f2 r3 f3 r4 f4 r5 f5
          replace hO := hO.sm hzC2 (fun b q1 q2 => hmC b (by omega))
          refine hK.out _ _ hBC (fun hNew => ?_)
          clear hK K hHeld
          have hHeld := hNew
          clear hNew
          try simp only [Act.put, List.setIfInBounds_toArray, List.set_cons_zero, List.set_cons_succ, List.getElem_toArray, List.getElem_cons_zero, List.getElem_cons_succ]
          refine wpAnyH_take (i := 13) (v := .bool TB) rfl (by kernel_rfl) (by kernel_rfl) (by kernel_rfl) (fun _ _ _ h => h) (Or.inl ⟨by rfl, ?_⟩) (by assumption) ?_
          · intro wx hSw; obtain ⟨hcS, hfS⟩ := bcellN hSw; go_simp
          try simp only [Act.put, List.setIfInBounds_toArray, List.set_cons_zero, List.set_cons_succ, List.getElem_toArray, List.getElem_cons_zero, List.getElem_cons_succ]
          refine wpAnyH_done (by kernel_rfl) ?_ _
          go_wp2
          go_meet
          case rel => exact ⟨C, lg, hg, a3W, k3W, a3O, k3O, a3X, k3X, a3I, k3I, rfl, rfl, hPC, hO, ⟨by omega, hPC.1, by omega, by omega, by omega, by omega⟩, hHeld⟩
      case rest =>
        obtain ⟨w12, hwn⟩ : ∃ wn, wn = wc := ⟨_, rfl⟩
        subst hwn
        obtain ⟨g3, l3, h3, a3W, k3W, a3O, k3O, a3X, k3X, a3I, k3I, rfl, rfl, hG, hO, ⟨c31, c32, c33, c34, c35, c36⟩, hb⟩ := hcut
        have y_w12 : w11.heap.size ≤ w12.heap.size := hb.size
        have B24 : Hid (Below w.heap.size w w12) := bthen B23.out hb
        have M24 : Hid (Bk w12 w.heap.size [.int .i64 c, .int .i64 d]) := M23.out.below hb
        have A24 : Hid (Bk w12 (w.heap.size + 1) [.int .i64 V.c, .slice aW V.nW kW, .int .i64 V.g, .slice aO V.nO kO, .slice aX V.nX kX, .slice aI V.nI kI]) := A23.out.below hb
        have Q24 : Hid (Bk w12 (w.heap.size + 1 + 1) [.int .i64 pn, .int .i64 pk, .int .i64 pi, .int .i64 pa, .int .i64 pm, .int .i64 ps, .int .i64 pl, .int .i64 pc]) := Q23.out.below hb
        have O1_24 : Hid (OwnC l1 h1 w12 (.agg #[.int .i64 U.c, .slice a1W U.nW k1W, .int .i64 U.g, .slice a1O U.nO k1O, .slice a1X U.nX k1X, .slice a1I U.nI k1I]) U) := O1_23.out.below (by omega) hb
        have G1_24 : Hid (Bk w12 g1 [.int .i64 U.c, .slice a1W U.nW k1W, .int .i64 U.g, .slice a1O U.nO k1O, .slice a1X U.nX k1X, .slice a1I U.nI k1I]) := G1_23.out.below hb
        have X24 : Hid (Bk w12 gx [.int .i64 V.c, .slice (some ⟨bW, 0, none⟩) V.nW V.nW, .int .i64 V.g, .slice (some ⟨bO, 0, none⟩) V.nO V.nO, .slice (some ⟨bX, 0, none⟩) V.nX V.nX, .slice (some ⟨bI, 0, none⟩) V.nI V.nI]) := X23.out.below hb
        have G2_24 : Hid (Bk w12 g2 [.int .i64 U.c, .slice a2W U.nW k2W, .int .i64 U.g, .slice a2O U.nO k2O, .slice a2X U.nX k2X, .slice a2I U.nI k2I]) := G2_23.out.below hb
        have O2_24 : Hid (OwnC l2 h2 w12 (.agg #[.int .i64 U.c, .slice a2W U.nW k2W, .int .i64 U.g, .slice a2O U.nO k2O, .slice a2X U.nX k2X, .slice a2I U.nI k2I]) U.marked) := O2_23.out.below (by omega) hb
        clear B23 M23 A23 Q23 O1_23 G1_23 X23 G2_23 O2_23
        have O3_25 : Hid (OwnC l3 h3 w12 (.agg #[.int .i64 U.c, .slice a3W U.nW k3W, .int .i64 U.g, .slice a3O U.nO k3O, .slice a3X U.nX k3X, .slice a3I U.nI k3I]) U) := hO
        have G3_26 : Hid (Bk w12 g3 [.int .i64 U.c, .slice a3W U.nW k3W, .int .i64 U.g, .slice a3O U.nO k3O, .slice a3X U.nX k3X, .slice a3I U.nI k3I]) := hG
        clear hO hG hb
        have yG1_0 : w12.cell? ⟨g1, 0, none⟩ = some (.int .i64 U.c) := (G1_24.out.2 0 (by simp)).1
        have yG1_1 : w12.cell? ⟨g1, 1, none⟩ = some (.slice a1W U.nW k1W) := (G1_24.out.2 1 (by simp)).1
        have yG1_2 : w12.cell? ⟨g1, 2, none⟩ = some (.int .i64 U.g) := (G1_24.out.2 2 (by simp)).1
        have yG1_3 : w12.cell? ⟨g1, 3, none⟩ = some (.slice a1O U.nO k1O) := (G1_24.out.2 3 (by simp)).1
        have yG1_4 : w12.cell? ⟨g1, 4, none⟩ = some (.slice a1X U.nX k1X) := (G1_24.out.2 4 (by simp)).1
        have yG1_5 : w12.cell? ⟨g1, 5, none⟩ = some (.slice a1I U.nI k1I) := (G1_24.out.2 5 (by simp)).1
        have hlG1_ : g1 < w12.heap.size := G1_24.out.1
        have yG3_0 : w12.cell? ⟨g3, 0, none⟩ = some (.int .i64 U.c) := (G3_26.out.2 0 (by simp)).1
        have yG3_1 : w12.cell? ⟨g3, 1, none⟩ = some (.slice a3W U.nW k3W) := (G3_26.out.2 1 (by simp)).1
        have yG3_2 : w12.cell? ⟨g3, 2, none⟩ = some (.int .i64 U.g) := (G3_26.out.2 2 (by simp)).1
        have yG3_3 : w12.cell? ⟨g3, 3, none⟩ = some (.slice a3O U.nO k3O) := (G3_26.out.2 3 (by simp)).1
        have yG3_4 : w12.cell? ⟨g3, 4, none⟩ = some (.slice a3X U.nX k3X) := (G3_26.out.2 4 (by simp)).1
        have yG3_5 : w12.cell? ⟨g3, 5, none⟩ = some (.slice a3I U.nI k3I) := (G3_26.out.2 5 (by simp)).1
        have hlG3_ : g3 < w12.heap.size := G3_26.out.1
        go_wp2_with fail
        refine (eqCell _ _ U (HU.out.1.more (by decide)) _ (O3_25.out.at) (O1_24.out.at)).mono ?_
        rintro e w13 ⟨rfl, hb⟩
        clear yG1_0 yG1_1 yG1_2 yG1_3 yG1_4 yG1_5 hlG1_ yG3_0 yG3_1 yG3_2 yG3_3 yG3_4 yG3_5 hlG3_
        have y_w13 : w12.heap.size ≤ w13.heap.size := hb.size
        have B27 : Hid (Below w.heap.size w w13) := bthen B24.out hb
        have M27 : Hid (Bk w13 w.heap.size [.int .i64 c, .int .i64 d]) := M24.out.below hb
        have A27 : Hid (Bk w13 (w.heap.size + 1) [.int .i64 V.c, .slice aW V.nW kW, .int .i64 V.g, .slice aO V.nO kO, .slice aX V.nX kX, .slice aI V.nI kI]) := A24.out.below hb
        have Q27 : Hid (Bk w13 (w.heap.size + 1 + 1) [.int .i64 pn, .int .i64 pk, .int .i64 pi, .int .i64 pa, .int .i64 pm, .int .i64 ps, .int .i64 pl, .int .i64 pc]) := Q24.out.below hb
        have O1_27 : Hid (OwnC l1 h1 w13 (.agg #[.int .i64 U.c, .slice a1W U.nW k1W, .int .i64 U.g, .slice a1O U.nO k1O, .slice a1X U.nX k1X, .slice a1I U.nI k1I]) U) := O1_24.out.below (by omega) hb
        have G1_27 : Hid (Bk w13 g1 [.int .i64 U.c, .slice a1W U.nW k1W, .int .i64 U.g, .slice a1O U.nO k1O, .slice a1X U.nX k1X, .slice a1I U.nI k1I]) := G1_24.out.below hb
        have X27 : Hid (Bk w13 gx [.int .i64 V.c, .slice (some ⟨bW, 0, none⟩) V.nW V.nW, .int .i64 V.g, .slice (some ⟨bO, 0, none⟩) V.nO V.nO, .slice (some ⟨bX, 0, none⟩) V.nX V.nX, .slice (some ⟨bI, 0, none⟩) V.nI V.nI]) := X24.out.below hb
        have G2_27 : Hid (Bk w13 g2 [.int .i64 U.c, .slice a2W U.nW k2W, .int .i64 U.g, .slice a2O U.nO k2O, .slice a2X U.nX k2X, .slice a2I U.nI k2I]) := G2_24.out.below hb
        have O2_27 : Hid (OwnC l2 h2 w13 (.agg #[.int .i64 U.c, .slice a2W U.nW k2W, .int .i64 U.g, .slice a2O U.nO k2O, .slice a2X U.nX k2X, .slice a2I U.nI k2I]) U.marked) := O2_24.out.below (by omega) hb
        have O3_27 : Hid (OwnC l3 h3 w13 (.agg #[.int .i64 U.c, .slice a3W U.nW k3W, .int .i64 U.g, .slice a3O U.nO k3O, .slice a3X U.nX k3X, .slice a3I U.nI k3I]) U) := O3_25.out.below (by omega) hb
        have G3_27 : Hid (Bk w13 g3 [.int .i64 U.c, .slice a3W U.nW k3W, .int .i64 U.g, .slice a3O U.nO k3O, .slice a3X U.nX k3X, .slice a3I U.nI k3I]) := G3_26.out.below hb
        clear B24 M24 A24 Q24 O1_24 G1_24 X24 G2_24 O2_24 O3_25 G3_26
        clear hb
        have yG2_0 : w13.cell? ⟨g2, 0, none⟩ = some (.int .i64 U.c) := (G2_27.out.2 0 (by simp)).1
        have yG2_1 : w13.cell? ⟨g2, 1, none⟩ = some (.slice a2W U.nW k2W) := (G2_27.out.2 1 (by simp)).1
        have yG2_2 : w13.cell? ⟨g2, 2, none⟩ = some (.int .i64 U.g) := (G2_27.out.2 2 (by simp)).1
        have yG2_3 : w13.cell? ⟨g2, 3, none⟩ = some (.slice a2O U.nO k2O) := (G2_27.out.2 3 (by simp)).1
        have yG2_4 : w13.cell? ⟨g2, 4, none⟩ = some (.slice a2X U.nX k2X) := (G2_27.out.2 4 (by simp)).1
        have yG2_5 : w13.cell? ⟨g2, 5, none⟩ = some (.slice a2I U.nI k2I) := (G2_27.out.2 5 (by simp)).1
        have hlG2_ : g2 < w13.heap.size := G2_27.out.1
        go_wp2_with fail
        refine (heldC l2 h2 _ U HU.out.2 _ (by omega) O2_27.out).mono ?_
        rintro e w14 ⟨rfl, hb⟩
        clear yG2_0 yG2_1 yG2_2 yG2_3 yG2_4 yG2_5 hlG2_
        have y_w14 : w13.heap.size ≤ w14.heap.size := hb.size
        have B28 : Hid (Below w.heap.size w w14) := bthen B27.out hb
        have M28 : Hid (Bk w14 w.heap.size [.int .i64 c, .int .i64 d]) := M27.out.below hb
        have A28 : Hid (Bk w14 (w.heap.size + 1) [.int .i64 V.c, .slice aW V.nW kW, .int .i64 V.g, .slice aO V.nO kO, .slice aX V.nX kX, .slice aI V.nI kI]) := A27.out.below hb
        have Q28 : Hid (Bk w14 (w.heap.size + 1 + 1) [.int .i64 pn, .int .i64 pk, .int .i64 pi, .int .i64 pa, .int .i64 pm, .int .i64 ps, .int .i64 pl, .int .i64 pc]) := Q27.out.below hb
        have O1_28 : Hid (OwnC l1 h1 w14 (.agg #[.int .i64 U.c, .slice a1W U.nW k1W, .int .i64 U.g, .slice a1O U.nO k1O, .slice a1X U.nX k1X, .slice a1I U.nI k1I]) U) := O1_27.out.below (by omega) hb
        have G1_28 : Hid (Bk w14 g1 [.int .i64 U.c, .slice a1W U.nW k1W, .int .i64 U.g, .slice a1O U.nO k1O, .slice a1X U.nX k1X, .slice a1I U.nI k1I]) := G1_27.out.below hb
        have X28 : Hid (Bk w14 gx [.int .i64 V.c, .slice (some ⟨bW, 0, none⟩) V.nW V.nW, .int .i64 V.g, .slice (some ⟨bO, 0, none⟩) V.nO V.nO, .slice (some ⟨bX, 0, none⟩) V.nX V.nX, .slice (some ⟨bI, 0, none⟩) V.nI V.nI]) := X27.out.below hb
        have G2_28 : Hid (Bk w14 g2 [.int .i64 U.c, .slice a2W U.nW k2W, .int .i64 U.g, .slice a2O U.nO k2O, .slice a2X U.nX k2X, .slice a2I U.nI k2I]) := G2_27.out.below hb
        have O2_28 : Hid (OwnC l2 h2 w14 (.agg #[.int .i64 U.c, .slice a2W U.nW k2W, .int .i64 U.g, .slice a2O U.nO k2O, .slice a2X U.nX k2X, .slice a2I U.nI k2I]) U.marked) := O2_27.out.below (by omega) hb
        have O3_28 : Hid (OwnC l3 h3 w14 (.agg #[.int .i64 U.c, .slice a3W U.nW k3W, .int .i64 U.g, .slice a3O U.nO k3O, .slice a3X U.nX k3X, .slice a3I U.nI k3I]) U) := O3_27.out.below (by omega) hb
        have G3_28 : Hid (Bk w14 g3 [.int .i64 U.c, .slice a3W U.nW k3W, .int .i64 U.g, .slice a3O U.nO k3O, .slice a3X U.nX k3X, .slice a3I U.nI k3I]) := G3_27.out.below hb
        clear B27 M27 A27 Q27 O1_27 G1_27 X27 G2_27 O2_27 O3_27 G3_27
        clear hb
        go_wp2
        go_ret
        exact ⟨rfl, B28.out⟩
end Go.Proofs.YtjmjffhommlbnaaGreat
