/- The walk of the law FnExactCllAck: it answers true; conditions: the cell lies in memory. -/
import Derived.Test.YtoiehmnhfjmfeaaGreatAck4
import Derived.Test.YtoiehmnhfjmfeaaGreatLawOk
import Derived.Test.YtoiehmnhfjmfeaaGreatCSz2
import Derived.Test.YtoiehmnhfjmfeaaGreatCToB
namespace Go.Proofs.YtoiehmnhfjmfeaaGreat
open Go.RowKit Go.Deep
set_option linter.unusedVariables false

theorem st_sum (s : Nat) (N : Nat → Nat) : ∀ k, st s N k = s + sumN N k * 8
  | 0 => by simp [st, sumN]
  | k + 1 => by simp only [st, sumN, st_sum s N k]; omega
theorem sum_le (N : Nat → Nat) : ∀ n k, k ≤ n → sumN N k ≤ sumN N n
  | 0, k, h => by obtain rfl : k = 0 := by omega
                  exact Nat.le_refl _
  | n + 1, k, h => by
    by_cases e : k = n + 1
    · subst e; exact Nat.le_refl _
    · have := sum_le N n k (by omega); simp only [sumN]; omega
theorem few_sum {V : CV} (h : V.short 1048576) (hs : sumN V.N V.nO ≤ 1048576) : V.few := by
  refine ⟨h, fun k hk => ?_⟩
  rw [st_sum]
  have := sum_le V.N V.nO k hk
  have := h.1
  unfold CV.s1
  omega
theorem ackR_few {c d side z : Int} {V : CV} (h : V.short 1048576) : (ackR c d V side z).1.short 1048576 ∧ (ackR c d V side z).1.few := by
  unfold ackR
  split
  · have h0 : CV.zero.short 1048576 := ⟨by show 0 ≤ 1048576; omega, by show 0 ≤ 1048576; omega, fun _ h => absurd h (by show ¬ _ < 0; omega), by show 0 ≤ 1048576; omega, by show 0 ≤ 1048576; omega⟩
    exact ⟨h0, CV.few_of h0 (by show 0 ≤ 2; omega)⟩
  · rename_i hn
    have h1 : cllB c d V = true := by cases e : cllB c d V; exact absurd (.inl e) hn; rfl
    have h2 : ¬ sideF c d V.c side = -1 := fun e => hn (.inr e)
    obtain ⟨e1, e2, e3⟩ := cllB_two h1
    have hq : side.toNat < V.nO := by
      by_cases s0 : side = 0
      · subst s0; simp; omega
      · by_cases s1 : side = 1
        · subst s1; simp; omega
        · exact absurd (side_else s0 s1) h2
    have h3 : (V.after side.toNat z).short 1048576 := by
      unfold CV.after
      split
      · exact CV.ack_short h hq
      · exact h
    have h4 : (V.after side.toNat z).nO = V.nO := by unfold CV.after; split <;> rfl
    exact ⟨h3, CV.few_of h3 (by rw [h4, e1]; omega)⟩

set_option maxRecDepth 20000 in
set_option maxHeartbeats 16000000 in
theorem law_cllAck (c d side z : Int) (v : Value) (V : CV) (hs : V.short maxLen) (hwf0 : ∀ k, k < V.nW → (Lit.int .i64 (V.W k 0)).wf = true) (w : World) (h : CellAt w v V) :
    Calls Tryz.prog 4 #[.agg #[.int .i64 c, .int .i64 d], v, .int .i64 side, .int .i64 z] w fun e w' => e = .returned (.bool true) ∧ Below w.heap.size w w' := by
  obtain ⟨aW, kW, aO, kO, aX, kX, aI, kI, rfl, rW, rO, rX, rI⟩ := h
  have H0 : Hid (CellAt w (.agg #[.int .i64 V.c, .slice aW V.nW kW, .int .i64 V.g, .slice aO V.nO kO, .slice aX V.nX kX, .slice aI V.nI kI]) V) := ⟨aW, kW, aO, kO, aX, kX, aI, kI, rfl, rW, rO, rX, rI⟩
  have HS0 : Hid (V.short maxLen) := hs
  have hwf : Hid (∀ k, k < V.nW → (Lit.int .i64 (V.W k 0)).wf = true) := hwf0
  clear rW rO rX rI hs hwf0
  obtain ⟨U, eU⟩ : ∃ U, (ackR c d V side z).1 = U := ⟨_, rfl⟩
  obtain ⟨T, eT⟩ : ∃ T, (ackR c d V side z).2 = T := ⟨_, rfl⟩
  have EU : Hid ((ackR c d V side z).1 = U) := eU
  have ET : Hid ((ackR c d V side z).2 = T) := eT
  clear eU eT
  go_enter Tryz.func4, Tryz.ntmps4
  go_wp2_with fail
  obtain ⟨w0, e0⟩ : ∃ w0, w0 = ((w.alloc (.cells #[.int .i64 c, .int .i64 d] 23)).alloc (.cells #[.int .i64 V.c, .slice aW V.nW kW, .int .i64 V.g, .slice aO V.nO kO, .slice aX V.nX kX, .slice aI V.nI kI] 28)) := ⟨_, rfl⟩
  have y0 : w.heap.size + 2 ≤ w0.heap.size := by rw [e0]; simp
  have B0 : Hid (Below w.heap.size w w0) := by rw [e0]; exact ((Below.refl _ _).alloc (by simp) _).alloc (by simp) _
  have A0 : Hid (Six w0 (w.heap.size + 1) [.int .i64 V.c, .slice aW V.nW kW, .int .i64 V.g, .slice aO V.nO kO, .slice aX V.nX kX, .slice aI V.nI kI]) := by rw [e0]; exact six_box2 w #[.int .i64 c, .int .i64 d] 23 28 (.int .i64 V.c) (.slice aW V.nW kW) (.int .i64 V.g) (.slice aO V.nO kO) (.slice aX V.nX kX) (.slice aI V.nI kI)
  have M0 : Hid (w0.cell? ⟨w.heap.size, 0, none⟩ = some (.int .i64 c) ∧ w0.cell? ⟨w.heap.size, 1, none⟩ = some (.int .i64 d)) := by rw [e0]; exact ⟨by simp, by simp⟩
  rw [← e0]
  clear e0
  refine (szCell2 _ V HS0.out _ (cellAt_below H0.out B0.out)).mono ?_
  rintro e w1 ⟨⟨r, rfl, hr⟩, hb1⟩
  have y1 : w0.heap.size ≤ w1.heap.size := hb1.size
  have B1 : Hid (Below w.heap.size w w1) := bthen B0.out hb1
  have M1 : Hid (w1.cell? ⟨w.heap.size, 0, none⟩ = some (.int .i64 c) ∧ w1.cell? ⟨w.heap.size, 1, none⟩ = some (.int .i64 d)) := ⟨(hb1.cell (p := ⟨w.heap.size, 0, none⟩) (by show w.heap.size < _; omega)).trans M0.out.1, (hb1.cell (p := ⟨w.heap.size, 1, none⟩) (by show w.heap.size < _; omega)).trans M0.out.2⟩
  have A1 : Hid (Six w1 (w.heap.size + 1) [.int .i64 V.c, .slice aW V.nW kW, .int .i64 V.g, .slice aO V.nO kO, .slice aX V.nX kX, .slice aI V.nI kI]) := A0.out.below (by omega) hb1
  clear B0 M0 A0
  clear hb1
  rcases hr with hr | ⟨hr, hV, hSm⟩
  · go_wp2
    go_ret
    exact ⟨rfl, B1.out⟩
  have hr2 : ¬ r < 0 := by omega
  have HV : Hid (V.short 1048576) := hV
  have HF : Hid V.few := few_sum hV hSm
  have HU : Hid (U.short 1048576 ∧ U.few) := by rw [← EU.out]; exact ackR_few hV
  clear hV hSm
  go_upto_region 5 with fail
  go_cut [10, 11] (fun s t wx => ∃ g l h a1W k1W a1O k1O a1X k1X a1I k1I, .pointer (some ⟨g, 0, none⟩) = s ∧ .bool T = t ∧ Six wx g [.int .i64 U.c, .slice a1W U.nW k1W, .int .i64 U.g, .slice a1O U.nO k1O, .slice a1X U.nX k1X, .slice a1I U.nI k1I] ∧ OwnC l h wx (.agg #[.int .i64 U.c, .slice a1W U.nW k1W, .int .i64 U.g, .slice a1O U.nO k1O, .slice a1X U.nX k1X, .slice a1I U.nI k1I]) U ∧ (w1.heap.size ≤ g ∧ g < wx.heap.size ∧ w1.heap.size ≤ l ∧ l ≤ h ∧ h ≤ wx.heap.size ∧ (g < l ∨ h ≤ g)) ∧ Below w1.heap.size w1 wx)
  case first =>
    have m0 : w1.cell? ⟨w.heap.size, 0, none⟩ = some (.int .i64 c) := M1.out.1
    have m1 : w1.cell? ⟨w.heap.size, 1, none⟩ = some (.int .i64 d) := M1.out.2
    have lM : w.heap.size < w1.heap.size := by omega
    have a0 : w1.cell? ⟨w.heap.size + 1, 0, none⟩ = some (.int .i64 V.c) := (A1.out 0 (by decide)).1
    have a1 : w1.cell? ⟨w.heap.size + 1, 1, none⟩ = some (.slice aW V.nW kW) := (A1.out 1 (by decide)).1
    have a2 : w1.cell? ⟨w.heap.size + 1, 2, none⟩ = some (.int .i64 V.g) := (A1.out 2 (by decide)).1
    have a3 : w1.cell? ⟨w.heap.size + 1, 3, none⟩ = some (.slice aO V.nO kO) := (A1.out 3 (by decide)).1
    have a4 : w1.cell? ⟨w.heap.size + 1, 4, none⟩ = some (.slice aX V.nX kX) := (A1.out 4 (by decide)).1
    have a5 : w1.cell? ⟨w.heap.size + 1, 5, none⟩ = some (.slice aI V.nI kI) := (A1.out 5 (by decide)).1
    have la_ : w.heap.size + 1 < w1.heap.size := by omega
    refine wp_region_held_drew (S := fun w' => Below w1.heap.size w1 w') (by kernel_rfl) ((Below.refl _ _).drew) ?_
    intro hHeld
    refine wpAnyH_take (i := 0) (v := .agg #[.int .i64 c, .int .i64 d]) rfl (by kernel_rfl) (by kernel_rfl) (by kernel_rfl) (fun _ _ _ h => h) (Or.inl ⟨by rfl, ?_⟩) (by assumption) ?_
    · intro wx hSw; have xm0 := (hSw.cell (p := ⟨w.heap.size, 0, none⟩) (by show w.heap.size < _; omega)).trans m0; have xm1 := (hSw.cell (p := ⟨w.heap.size, 1, none⟩) (by show w.heap.size < _; omega)).trans m1; clear hSw; go_simp
    try simp only [Act.put, List.setIfInBounds_toArray, List.set_cons_zero, List.set_cons_succ, List.getElem_toArray, List.getElem_cons_zero]
    refine wpAnyH_take (i := 2) (v := .agg #[.int .i64 V.c, .slice aW V.nW kW, .int .i64 V.g, .slice aO V.nO kO, .slice aX V.nX kX, .slice aI V.nI kI]) rfl (by kernel_rfl) (by kernel_rfl) (by kernel_rfl) (fun _ _ _ h => h) (Or.inl ⟨by rfl, ?_⟩) (by assumption) ?_
    · intro wx hSw; have xa0 := (hSw.cell (p := ⟨w.heap.size + 1, 0, none⟩) (by show w.heap.size + 1 < _; omega)).trans a0; have xa1 := (hSw.cell (p := ⟨w.heap.size + 1, 1, none⟩) (by show w.heap.size + 1 < _; omega)).trans a1; have xa2 := (hSw.cell (p := ⟨w.heap.size + 1, 2, none⟩) (by show w.heap.size + 1 < _; omega)).trans a2; have xa3 := (hSw.cell (p := ⟨w.heap.size + 1, 3, none⟩) (by show w.heap.size + 1 < _; omega)).trans a3; have xa4 := (hSw.cell (p := ⟨w.heap.size + 1, 4, none⟩) (by show w.heap.size + 1 < _; omega)).trans a4; have xa5 := (hSw.cell (p := ⟨w.heap.size + 1, 5, none⟩) (by show w.heap.size + 1 < _; omega)).trans a5; clear hSw; go_simp
    try simp only [Act.put, List.setIfInBounds_toArray, List.set_cons_zero, List.set_cons_succ, List.getElem_toArray, List.getElem_cons_zero, List.getElem_cons_succ]
    refine wpAnyH_take (i := 4) (v := .int .i64 side) rfl (by kernel_rfl) (by kernel_rfl) (by kernel_rfl) (fun _ _ _ h => h) (Or.inl ⟨by rfl, ?_⟩) (by assumption) ?_
    · intro wx hSw; go_simp
    try simp only [Act.put, List.setIfInBounds_toArray, List.set_cons_zero, List.set_cons_succ, List.getElem_toArray, List.getElem_cons_zero, List.getElem_cons_succ]
    refine wpAnyH_take (i := 5) (v := .int .i64 z) rfl (by kernel_rfl) (by kernel_rfl) (by kernel_rfl) (fun _ _ _ h => h) (Or.inl ⟨by rfl, ?_⟩) (by assumption) ?_
    · intro wx hSw; go_simp
    try simp only [Act.put, List.setIfInBounds_toArray, List.set_cons_zero, List.set_cons_succ, List.getElem_toArray, List.getElem_cons_zero, List.getElem_cons_succ]
    refine wpAnyH_ready (rs := [1, 10]) (by kernel_rfl) (by simp) ?_
    refine AllReadyH.cons rfl (fun K hK => ?_) (AllReadyH.cons rfl (fun K hK => ?_) AllReadyH.nil)
    · go_simp
      go_wp2_with fail
      refine (toMap _ _ _).mono ?_
      rintro e x1 ⟨rfl, hx1⟩
      have hs1 := hx1.size
      have hl1 := hHeld.size
      refine hK.out _ _ (bthen hHeld hx1) (fun hNew => ?_)
      clear hK K hHeld
      have hHeld := hNew
      clear hNew
      try simp only [Act.put, List.setIfInBounds_toArray, List.set_cons_zero, List.set_cons_succ, List.getElem_toArray, List.getElem_cons_zero, List.getElem_cons_succ]
      refine wpAnyH_ready (rs := [3, 10]) (by kernel_rfl) (by simp) ?_
      refine AllReadyH.cons rfl (fun K hK => ?_) (AllReadyH.cons rfl (fun K hK => ?_) AllReadyH.nil)
      · go_simp
        go_wp2_with fail
        refine (toCell _ V HV.out _ (cellAt_below H0.out (bthen B1.out hHeld))).mono ?_
        rintro e x3 ⟨⟨v3, rfl, hC⟩, hx3⟩
        have hs3 := hx3.size
        have hl3 := hHeld.size
        refine hK.out _ _ (bthen hHeld hx3) (fun hNew => ?_)
        clear hK K hHeld
        have hHeld := hNew
        clear hNew
        try simp only [Act.put, List.setIfInBounds_toArray, List.set_cons_zero, List.set_cons_succ, List.getElem_toArray, List.getElem_cons_zero, List.getElem_cons_succ]
        refine wpAnyH_ready (rs := [6, 10]) (by kernel_rfl) (by simp) ?_
        refine AllReadyH.cons rfl (fun K hK => ?_) (AllReadyH.cons rfl (fun K hK => ?_) AllReadyH.nil)
        · go_simp
          go_wp2_with fail
          refine (ack_spec c d _ V _ side z HV.out _ hC).mono ?_
          rintro e x6 ⟨⟨u, tt, rfl, ht, hO⟩, hx6⟩
          subst ht
          rw [EU.out] at hO
          rw [ET.out]
          obtain ⟨a1W, k1W, a1O, k1O, a1X, k1X, a1I, k1I, rfl, _, _, _, _⟩ := hO.at
          have hs6 := hx6.size
          have hl6 := hHeld.size
          refine hK.out _ _ (bthen hHeld hx6) (fun hNew => ?_)
          clear hK K hHeld
          have hHeld := hNew
          clear hNew
          try simp only [Act.put, List.setIfInBounds_toArray, List.set_cons_zero, List.set_cons_succ, List.getElem_toArray, List.getElem_cons_zero, List.getElem_cons_succ]
          refine wpAnyH_take (i := 7) (v := .tuple #[.agg #[.int .i64 U.c, .slice a1W U.nW k1W, .int .i64 U.g, .slice a1O U.nO k1O, .slice a1X U.nX k1X, .slice a1I U.nI k1I], .bool T]) rfl (by kernel_rfl) (by kernel_rfl) (by kernel_rfl) (fun _ _ _ h => h) (Or.inl ⟨by rfl, ?_⟩) (by assumption) ?_
          · intro wx hSw; go_simp
          try simp only [Act.put, List.setIfInBounds_toArray, List.set_cons_zero, List.set_cons_succ, List.getElem_toArray, List.getElem_cons_zero, List.getElem_cons_succ]
          refine wpAnyH_take (i := 8) (v := .agg #[.int .i64 U.c, .slice a1W U.nW k1W, .int .i64 U.g, .slice a1O U.nO k1O, .slice a1X U.nX k1X, .slice a1I U.nI k1I]) rfl (by kernel_rfl) (by kernel_rfl) (by kernel_rfl) (fun _ _ _ h => h) (Or.inl ⟨by rfl, ?_⟩) (by assumption) ?_
          · intro wx hSw; go_simp
          try simp only [Act.put, List.setIfInBounds_toArray, List.set_cons_zero, List.set_cons_succ, List.getElem_toArray, List.getElem_cons_zero, List.getElem_cons_succ]
          refine wpAnyH_take (i := 9) (v := .bool T) rfl (by kernel_rfl) (by kernel_rfl) (by kernel_rfl) (fun _ _ _ h => h) (Or.inl ⟨by rfl, ?_⟩) (by assumption) ?_
          · intro wx hSw; go_simp
          try simp only [Act.put, List.setIfInBounds_toArray, List.set_cons_zero, List.set_cons_succ, List.getElem_toArray, List.getElem_cons_zero, List.getElem_cons_succ]
          have hP := hHeld
          have hPs := hHeld.size
          refine wpAnyH_ready (rs := [10]) (by kernel_rfl) (by simp) ?_
          refine AllReadyH.cons rfl (fun K hK => ?_) AllReadyH.nil
          go_simp
          have hZ : Six (x6.alloc (.cells #[.int .i64 0, .slice none 0 0, .int .i64 0, .slice none 0 0, .slice none 0 0, .slice none 0 0] 37)) x6.heap.size [.int .i64 0, .slice none 0 0, .int .i64 0, .slice none 0 0, .slice none 0 0, .slice none 0 0] := six_new x6 37 (.int .i64 0) (.slice none 0 0) (.int .i64 0) (.slice none 0 0) (.slice none 0 0) (.slice none 0 0)
          have hzA : (x6.alloc (.cells #[.int .i64 0, .slice none 0 0, .int .i64 0, .slice none 0 0, .slice none 0 0, .slice none 0 0] 37)).heap.size = x6.heap.size + 1 := World.size_alloc x6 _
          have hl0 := hHeld.size
          refine hK.out _ _ (hHeld.alloc (by first | exact hHeld.size | omega) _) (fun hNew => ?_)
          clear hK K hHeld
          have hHeld := hNew
          clear hNew
          try simp only [Act.put, List.setIfInBounds_toArray, List.set_cons_zero, List.set_cons_succ, List.getElem_toArray, List.getElem_cons_zero, List.getElem_cons_succ]
          refine wpAnyH_ready (rs := [11]) (by kernel_rfl) (by simp) ?_
          refine AllReadyH.cons rfl (fun K hK => ?_) AllReadyH.nil
          go_simp
          refine hK.out _ _ (hP.alloc hPs _) (fun hNew => ?_)
          clear hK K hHeld
          have hHeld := hNew
          clear hNew
          try simp only [Act.put, List.setIfInBounds_toArray, List.set_cons_zero, List.set_cons_succ, List.getElem_toArray, List.getElem_cons_zero, List.getElem_cons_succ]
          refine wpAnyH_take (i := 12) (v := .bool T) rfl (by kernel_rfl) (by kernel_rfl) (by kernel_rfl) (fun _ _ _ h => h) (Or.inl ⟨by rfl, ?_⟩) (by assumption) ?_
          · intro wx hSw; go_simp
          try simp only [Act.put, List.setIfInBounds_toArray, List.set_cons_zero, List.set_cons_succ, List.getElem_toArray, List.getElem_cons_zero, List.getElem_cons_succ]
          refine wpAnyH_done (by kernel_rfl) ?_ _
          have hz : (x6.alloc (.cells #[.int .i64 U.c, .slice a1W U.nW k1W, .int .i64 U.g, .slice a1O U.nO k1O, .slice a1X U.nX k1X, .slice a1I U.nI k1I] 37)).heap.size = x6.heap.size + 1 := World.size_alloc x6 _
          go_wp2
          go_meet
          case rel => exact ⟨x6.heap.size, _, _, a1W, k1W, a1O, k1O, a1X, k1X, a1I, k1I, rfl, rfl, six_new x6 37 (.int .i64 U.c) (.slice a1W U.nW k1W) (.int .i64 U.g) (.slice a1O U.nO k1O) (.slice a1X U.nX k1X) (.slice a1I U.nI k1I), hO.below (Nat.le_refl _) ((Below.refl _ _).alloc (Nat.le_refl _) _), ⟨by omega, by omega, by omega, by omega, by omega, by omega⟩, hHeld⟩
        · go_simp
          have hZ : Six (x3.alloc (.cells #[.int .i64 0, .slice none 0 0, .int .i64 0, .slice none 0 0, .slice none 0 0, .slice none 0 0] 37)) x3.heap.size [.int .i64 0, .slice none 0 0, .int .i64 0, .slice none 0 0, .slice none 0 0, .slice none 0 0] := six_new x3 37 (.int .i64 0) (.slice none 0 0) (.int .i64 0) (.slice none 0 0) (.slice none 0 0) (.slice none 0 0)
          have hD := hC.below (w' := (x3.alloc (.cells #[.int .i64 0, .slice none 0 0, .int .i64 0, .slice none 0 0, .slice none 0 0, .slice none 0 0] 37))) ((Below.refl _ _).alloc (Nat.le_refl _) _)
          have hzA : (x3.alloc (.cells #[.int .i64 0, .slice none 0 0, .int .i64 0, .slice none 0 0, .slice none 0 0, .slice none 0 0] 37)).heap.size = x3.heap.size + 1 := World.size_alloc x3 _
          have hl0 := hHeld.size
          refine hK.out _ _ (hHeld.alloc (by first | exact hHeld.size | omega) _) (fun hNew => ?_)
          clear hK K hHeld
          have hHeld := hNew
          clear hNew
          try simp only [Act.put, List.setIfInBounds_toArray, List.set_cons_zero, List.set_cons_succ, List.getElem_toArray, List.getElem_cons_zero, List.getElem_cons_succ]
          refine wpAnyH_ready (rs := [6]) (by kernel_rfl) (by simp) ?_
          refine AllReadyH.cons rfl (fun K hK => ?_) AllReadyH.nil
          go_simp
          go_wp2_with fail
          refine (ack_spec c d _ V _ side z HV.out _ hD).mono ?_
          rintro e x6 ⟨⟨u, tt, rfl, ht, hO⟩, hx6⟩
          subst ht
          rw [EU.out] at hO
          rw [ET.out]
          obtain ⟨a1W, k1W, a1O, k1O, a1X, k1X, a1I, k1I, rfl, _, _, _, _⟩ := hO.at
          have hs6 := hx6.size
          have hl6 := hHeld.size
          have hZ6 := hZ.below (by first | (simp; done) | (simp; omega) | omega) hx6
          clear hZ
          have hZ := hZ6
          clear hZ6
          refine hK.out _ _ (bthen hHeld hx6) (fun hNew => ?_)
          clear hK K hHeld
          have hHeld := hNew
          clear hNew
          try simp only [Act.put, List.setIfInBounds_toArray, List.set_cons_zero, List.set_cons_succ, List.getElem_toArray, List.getElem_cons_zero, List.getElem_cons_succ]
          refine wpAnyH_take (i := 7) (v := .tuple #[.agg #[.int .i64 U.c, .slice a1W U.nW k1W, .int .i64 U.g, .slice a1O U.nO k1O, .slice a1X U.nX k1X, .slice a1I U.nI k1I], .bool T]) rfl (by kernel_rfl) (by kernel_rfl) (by kernel_rfl) (fun _ _ _ h => h) (Or.inl ⟨by rfl, ?_⟩) (by assumption) ?_
          · intro wx hSw; go_simp
          try simp only [Act.put, List.setIfInBounds_toArray, List.set_cons_zero, List.set_cons_succ, List.getElem_toArray, List.getElem_cons_zero, List.getElem_cons_succ]
          refine wpAnyH_take (i := 8) (v := .agg #[.int .i64 U.c, .slice a1W U.nW k1W, .int .i64 U.g, .slice a1O U.nO k1O, .slice a1X U.nX k1X, .slice a1I U.nI k1I]) rfl (by kernel_rfl) (by kernel_rfl) (by kernel_rfl) (fun _ _ _ h => h) (Or.inl ⟨by rfl, ?_⟩) (by assumption) ?_
          · intro wx hSw; go_simp
          try simp only [Act.put, List.setIfInBounds_toArray, List.set_cons_zero, List.set_cons_succ, List.getElem_toArray, List.getElem_cons_zero, List.getElem_cons_succ]
          refine wpAnyH_take (i := 9) (v := .bool T) rfl (by kernel_rfl) (by kernel_rfl) (by kernel_rfl) (fun _ _ _ h => h) (Or.inl ⟨by rfl, ?_⟩) (by assumption) ?_
          · intro wx hSw; go_simp
          try simp only [Act.put, List.setIfInBounds_toArray, List.set_cons_zero, List.set_cons_succ, List.getElem_toArray, List.getElem_cons_zero, List.getElem_cons_succ]
          refine wpAnyH_ready (rs := [11]) (by kernel_rfl) (by simp) ?_
          refine AllReadyH.cons rfl (fun K hK => ?_) AllReadyH.nil
          have hZK : Hid (Six x6 (x3.heap.size) [.int .i64 0, .slice none 0 0, .int .i64 0, .slice none 0 0, .slice none 0 0, .slice none 0 0]) := hZ
          have r0 := (hZ 0 (by decide)).1
          have r1 := (hZ 1 (by decide)).1
          have r2 := (hZ 2 (by decide)).1
          have r3 := (hZ 3 (by decide)).1
          have r4 := (hZ 4 (by decide)).1
          have r5 := (hZ 5 (by decide)).1
          have f0 := (hZ 0 (by decide)).2
          have f1 := (hZ 1 (by decide)).2
          have f2 := (hZ 2 (by decide)).2
          have f3 := (hZ 3 (by decide)).2
          have f4 := (hZ 4 (by decide)).2
          have f5 := (hZ 5 (by decide)).2
          clear hZ
          have hgk : w1.heap.size ≤ x3.heap.size := by first | exact Nat.le_refl _ | omega
          go_simp
          refine hK.out _ _ (below_put6 hHeld hgk (.int .i64 U.c) (.slice a1W U.nW k1W) (.int .i64 U.g) (.slice a1O U.nO k1O) (.slice a1X U.nX k1X) (.slice a1I U.nI k1I)) (fun hNew => ?_)
          clear hK K hHeld
          have hHeld := hNew
          clear hNew
          try simp only [Act.put, List.setIfInBounds_toArray, List.set_cons_zero, List.set_cons_succ, List.getElem_toArray, List.getElem_cons_zero, List.getElem_cons_succ]
          clear r0 f0 r1 f1 r2 f2 r3 f3 r4 f4 r5 f5
          refine wpAnyH_take (i := 12) (v := .bool T) rfl (by kernel_rfl) (by kernel_rfl) (by kernel_rfl) (fun _ _ _ h => h) (Or.inl ⟨by rfl, ?_⟩) (by assumption) ?_
          · intro wx hSw; go_simp
          try simp only [Act.put, List.setIfInBounds_toArray, List.set_cons_zero, List.set_cons_succ, List.getElem_toArray, List.getElem_cons_zero, List.getElem_cons_succ]
          refine wpAnyH_done (by kernel_rfl) ?_ _
          have hz := size_put6 x6 (x3.heap.size) (.int .i64 U.c) (.slice a1W U.nW k1W) (.int .i64 U.g) (.slice a1O U.nO k1O) (.slice a1X U.nX k1X) (.slice a1I U.nI k1I)
          go_wp2
          go_meet
          case rel => exact ⟨x3.heap.size, _, _, a1W, k1W, a1O, k1O, a1X, k1X, a1I, k1I, rfl, rfl, six_put hZK.out (.int .i64 U.c) (.slice a1W U.nW k1W) (.int .i64 U.g) (.slice a1O U.nO k1O) (.slice a1X U.nX k1X) (.slice a1I U.nI k1I), OwnC.sm hO (Nat.le_of_eq hz.symm) (fun b q1 q2 => sm_put6 (by omega) (.int .i64 U.c) (.slice a1W U.nW k1W) (.int .i64 U.g) (.slice a1O U.nO k1O) (.slice a1X U.nX k1X) (.slice a1I U.nI k1I)), ⟨by omega, by show x3.heap.size < (put6 x6 (x3.heap.size) (.int .i64 U.c) (.slice a1W U.nW k1W) (.int .i64 U.g) (.slice a1O U.nO k1O) (.slice a1X U.nX k1X) (.slice a1I U.nI k1I)).heap.size; rw [hz]; omega, by omega, by omega, by show _ ≤ (put6 x6 (x3.heap.size) (.int .i64 U.c) (.slice a1W U.nW k1W) (.int .i64 U.g) (.slice a1O U.nO k1O) (.slice a1X U.nX k1X) (.slice a1I U.nI k1I)).heap.size; rw [hz]; omega, by omega⟩, hHeld⟩
      · go_simp
        have hZ : Six (x1.alloc (.cells #[.int .i64 0, .slice none 0 0, .int .i64 0, .slice none 0 0, .slice none 0 0, .slice none 0 0] 37)) x1.heap.size [.int .i64 0, .slice none 0 0, .int .i64 0, .slice none 0 0, .slice none 0 0, .slice none 0 0] := six_new x1 37 (.int .i64 0) (.slice none 0 0) (.int .i64 0) (.slice none 0 0) (.slice none 0 0) (.slice none 0 0)
        have hzA : (x1.alloc (.cells #[.int .i64 0, .slice none 0 0, .int .i64 0, .slice none 0 0, .slice none 0 0, .slice none 0 0] 37)).heap.size = x1.heap.size + 1 := World.size_alloc x1 _
        have hl0 := hHeld.size
        refine hK.out _ _ (hHeld.alloc (by first | exact hHeld.size | omega) _) (fun hNew => ?_)
        clear hK K hHeld
        have hHeld := hNew
        clear hNew
        try simp only [Act.put, List.setIfInBounds_toArray, List.set_cons_zero, List.set_cons_succ, List.getElem_toArray, List.getElem_cons_zero, List.getElem_cons_succ]
        refine wpAnyH_ready (rs := [3]) (by kernel_rfl) (by simp) ?_
        refine AllReadyH.cons rfl (fun K hK => ?_) AllReadyH.nil
        go_simp
        go_wp2_with fail
        refine (toCell _ V HV.out _ (cellAt_below H0.out (bthen B1.out hHeld))).mono ?_
        rintro e x3 ⟨⟨v3, rfl, hC⟩, hx3⟩
        have hs3 := hx3.size
        have hl3 := hHeld.size
        have hZ3 := hZ.below (by first | (simp; done) | (simp; omega) | omega) hx3
        clear hZ
        have hZ := hZ3
        clear hZ3
        refine hK.out _ _ (bthen hHeld hx3) (fun hNew => ?_)
        clear hK K hHeld
        have hHeld := hNew
        clear hNew
        try simp only [Act.put, List.setIfInBounds_toArray, List.set_cons_zero, List.set_cons_succ, List.getElem_toArray, List.getElem_cons_zero, List.getElem_cons_succ]
        refine wpAnyH_ready (rs := [6]) (by kernel_rfl) (by simp) ?_
        refine AllReadyH.cons rfl (fun K hK => ?_) AllReadyH.nil
        go_simp
        go_wp2_with fail
        refine (ack_spec c d _ V _ side z HV.out _ hC).mono ?_
        rintro e x6 ⟨⟨u, tt, rfl, ht, hO⟩, hx6⟩
        subst ht
        rw [EU.out] at hO
        rw [ET.out]
        obtain ⟨a1W, k1W, a1O, k1O, a1X, k1X, a1I, k1I, rfl, _, _, _, _⟩ := hO.at
        have hs6 := hx6.size
        have hl6 := hHeld.size
        have hZ6 := hZ.below (by first | (simp; done) | (simp; omega) | omega) hx6
        clear hZ
        have hZ := hZ6
        clear hZ6
        refine hK.out _ _ (bthen hHeld hx6) (fun hNew => ?_)
        clear hK K hHeld
        have hHeld := hNew
        clear hNew
        try simp only [Act.put, List.setIfInBounds_toArray, List.set_cons_zero, List.set_cons_succ, List.getElem_toArray, List.getElem_cons_zero, List.getElem_cons_succ]
        refine wpAnyH_take (i := 7) (v := .tuple #[.agg #[.int .i64 U.c, .slice a1W U.nW k1W, .int .i64 U.g, .slice a1O U.nO k1O, .slice a1X U.nX k1X, .slice a1I U.nI k1I], .bool T]) rfl (by kernel_rfl) (by kernel_rfl) (by kernel_rfl) (fun _ _ _ h => h) (Or.inl ⟨by rfl, ?_⟩) (by assumption) ?_
        · intro wx hSw; go_simp
        try simp only [Act.put, List.setIfInBounds_toArray, List.set_cons_zero, List.set_cons_succ, List.getElem_toArray, List.getElem_cons_zero, List.getElem_cons_succ]
        refine wpAnyH_take (i := 8) (v := .agg #[.int .i64 U.c, .slice a1W U.nW k1W, .int .i64 U.g, .slice a1O U.nO k1O, .slice a1X U.nX k1X, .slice a1I U.nI k1I]) rfl (by kernel_rfl) (by kernel_rfl) (by kernel_rfl) (fun _ _ _ h => h) (Or.inl ⟨by rfl, ?_⟩) (by assumption) ?_
        · intro wx hSw; go_simp
        try simp only [Act.put, List.setIfInBounds_toArray, List.set_cons_zero, List.set_cons_succ, List.getElem_toArray, List.getElem_cons_zero, List.getElem_cons_succ]
        refine wpAnyH_take (i := 9) (v := .bool T) rfl (by kernel_rfl) (by kernel_rfl) (by kernel_rfl) (fun _ _ _ h => h) (Or.inl ⟨by rfl, ?_⟩) (by assumption) ?_
        · intro wx hSw; go_simp
        try simp only [Act.put, List.setIfInBounds_toArray, List.set_cons_zero, List.set_cons_succ, List.getElem_toArray, List.getElem_cons_zero, List.getElem_cons_succ]
        refine wpAnyH_ready (rs := [11]) (by kernel_rfl) (by simp) ?_
        refine AllReadyH.cons rfl (fun K hK => ?_) AllReadyH.nil
        have hZK : Hid (Six x6 (x1.heap.size) [.int .i64 0, .slice none 0 0, .int .i64 0, .slice none 0 0, .slice none 0 0, .slice none 0 0]) := hZ
        have r0 := (hZ 0 (by decide)).1
        have r1 := (hZ 1 (by decide)).1
        have r2 := (hZ 2 (by decide)).1
        have r3 := (hZ 3 (by decide)).1
        have r4 := (hZ 4 (by decide)).1
        have r5 := (hZ 5 (by decide)).1
        have f0 := (hZ 0 (by decide)).2
        have f1 := (hZ 1 (by decide)).2
        have f2 := (hZ 2 (by decide)).2
        have f3 := (hZ 3 (by decide)).2
        have f4 := (hZ 4 (by decide)).2
        have f5 := (hZ 5 (by decide)).2
        clear hZ
        have hgk : w1.heap.size ≤ x1.heap.size := by first | exact Nat.le_refl _ | omega
        go_simp
        refine hK.out _ _ (below_put6 hHeld hgk (.int .i64 U.c) (.slice a1W U.nW k1W) (.int .i64 U.g) (.slice a1O U.nO k1O) (.slice a1X U.nX k1X) (.slice a1I U.nI k1I)) (fun hNew => ?_)
        clear hK K hHeld
        have hHeld := hNew
        clear hNew
        try simp only [Act.put, List.setIfInBounds_toArray, List.set_cons_zero, List.set_cons_succ, List.getElem_toArray, List.getElem_cons_zero, List.getElem_cons_succ]
        clear r0 f0 r1 f1 r2 f2 r3 f3 r4 f4 r5 f5
        refine wpAnyH_take (i := 12) (v := .bool T) rfl (by kernel_rfl) (by kernel_rfl) (by kernel_rfl) (fun _ _ _ h => h) (Or.inl ⟨by rfl, ?_⟩) (by assumption) ?_
        · intro wx hSw; go_simp
        try simp only [Act.put, List.setIfInBounds_toArray, List.set_cons_zero, List.set_cons_succ, List.getElem_toArray, List.getElem_cons_zero, List.getElem_cons_succ]
        refine wpAnyH_done (by kernel_rfl) ?_ _
        have hz := size_put6 x6 (x1.heap.size) (.int .i64 U.c) (.slice a1W U.nW k1W) (.int .i64 U.g) (.slice a1O U.nO k1O) (.slice a1X U.nX k1X) (.slice a1I U.nI k1I)
        go_wp2
        go_meet
        case rel => exact ⟨x1.heap.size, _, _, a1W, k1W, a1O, k1O, a1X, k1X, a1I, k1I, rfl, rfl, six_put hZK.out (.int .i64 U.c) (.slice a1W U.nW k1W) (.int .i64 U.g) (.slice a1O U.nO k1O) (.slice a1X U.nX k1X) (.slice a1I U.nI k1I), OwnC.sm hO (Nat.le_of_eq hz.symm) (fun b q1 q2 => sm_put6 (by omega) (.int .i64 U.c) (.slice a1W U.nW k1W) (.int .i64 U.g) (.slice a1O U.nO k1O) (.slice a1X U.nX k1X) (.slice a1I U.nI k1I)), ⟨by omega, by show x1.heap.size < (put6 x6 (x1.heap.size) (.int .i64 U.c) (.slice a1W U.nW k1W) (.int .i64 U.g) (.slice a1O U.nO k1O) (.slice a1X U.nX k1X) (.slice a1I U.nI k1I)).heap.size; rw [hz]; omega, by omega, by omega, by show _ ≤ (put6 x6 (x1.heap.size) (.int .i64 U.c) (.slice a1W U.nW k1W) (.int .i64 U.g) (.slice a1O U.nO k1O) (.slice a1X U.nX k1X) (.slice a1I U.nI k1I)).heap.size; rw [hz]; omega, by omega⟩, hHeld⟩
    · go_simp
      have hZ : Six (w1.alloc (.cells #[.int .i64 0, .slice none 0 0, .int .i64 0, .slice none 0 0, .slice none 0 0, .slice none 0 0] 37)).drew w1.heap.size [.int .i64 0, .slice none 0 0, .int .i64 0, .slice none 0 0, .slice none 0 0, .slice none 0 0] := six_new w1 37 (.int .i64 0) (.slice none 0 0) (.int .i64 0) (.slice none 0 0) (.slice none 0 0) (.slice none 0 0)
      have hzA : (w1.alloc (.cells #[.int .i64 0, .slice none 0 0, .int .i64 0, .slice none 0 0, .slice none 0 0, .slice none 0 0] 37)).drew.heap.size = w1.heap.size + 1 := World.size_alloc w1 _
      have hl0 := hHeld.size
      refine hK.out _ _ (hHeld.alloc (by first | exact hHeld.size | omega) _) (fun hNew => ?_)
      clear hK K hHeld
      have hHeld := hNew
      clear hNew
      try simp only [Act.put, List.setIfInBounds_toArray, List.set_cons_zero, List.set_cons_succ, List.getElem_toArray, List.getElem_cons_zero, List.getElem_cons_succ]
      refine wpAnyH_ready (rs := [1]) (by kernel_rfl) (by simp) ?_
      refine AllReadyH.cons rfl (fun K hK => ?_) AllReadyH.nil
      go_simp
      go_wp2_with fail
      refine (toMap _ _ _).mono ?_
      rintro e x1 ⟨rfl, hx1⟩
      have hs1 := hx1.size
      have hl1 := hHeld.size
      have hZ1 := hZ.below (by first | (simp; done) | (simp; omega) | omega) hx1
      clear hZ
      have hZ := hZ1
      clear hZ1
      refine hK.out _ _ (bthen hHeld hx1) (fun hNew => ?_)
      clear hK K hHeld
      have hHeld := hNew
      clear hNew
      try simp only [Act.put, List.setIfInBounds_toArray, List.set_cons_zero, List.set_cons_succ, List.getElem_toArray, List.getElem_cons_zero, List.getElem_cons_succ]
      refine wpAnyH_ready (rs := [3]) (by kernel_rfl) (by simp) ?_
      refine AllReadyH.cons rfl (fun K hK => ?_) AllReadyH.nil
      go_simp
      go_wp2_with fail
      refine (toCell _ V HV.out _ (cellAt_below H0.out (bthen B1.out hHeld))).mono ?_
      rintro e x3 ⟨⟨v3, rfl, hC⟩, hx3⟩
      have hs3 := hx3.size
      have hl3 := hHeld.size
      have hZ3 := hZ.below (by first | (simp; done) | (simp; omega) | omega) hx3
      clear hZ
      have hZ := hZ3
      clear hZ3
      refine hK.out _ _ (bthen hHeld hx3) (fun hNew => ?_)
      clear hK K hHeld
      have hHeld := hNew
      clear hNew
      try simp only [Act.put, List.setIfInBounds_toArray, List.set_cons_zero, List.set_cons_succ, List.getElem_toArray, List.getElem_cons_zero, List.getElem_cons_succ]
      refine wpAnyH_ready (rs := [6]) (by kernel_rfl) (by simp) ?_
      refine AllReadyH.cons rfl (fun K hK => ?_) AllReadyH.nil
      go_simp
      go_wp2_with fail
      refine (ack_spec c d _ V _ side z HV.out _ hC).mono ?_
      rintro e x6 ⟨⟨u, tt, rfl, ht, hO⟩, hx6⟩
      subst ht
      rw [EU.out] at hO
      rw [ET.out]
      obtain ⟨a1W, k1W, a1O, k1O, a1X, k1X, a1I, k1I, rfl, _, _, _, _⟩ := hO.at
      have hs6 := hx6.size
      have hl6 := hHeld.size
      have hZ6 := hZ.below (by first | (simp; done) | (simp; omega) | omega) hx6
      clear hZ
      have hZ := hZ6
      clear hZ6
      refine hK.out _ _ (bthen hHeld hx6) (fun hNew => ?_)
      clear hK K hHeld
      have hHeld := hNew
      clear hNew
      try simp only [Act.put, List.setIfInBounds_toArray, List.set_cons_zero, List.set_cons_succ, List.getElem_toArray, List.getElem_cons_zero, List.getElem_cons_succ]
      refine wpAnyH_take (i := 7) (v := .tuple #[.agg #[.int .i64 U.c, .slice a1W U.nW k1W, .int .i64 U.g, .slice a1O U.nO k1O, .slice a1X U.nX k1X, .slice a1I U.nI k1I], .bool T]) rfl (by kernel_rfl) (by kernel_rfl) (by kernel_rfl) (fun _ _ _ h => h) (Or.inl ⟨by rfl, ?_⟩) (by assumption) ?_
      · intro wx hSw; go_simp
      try simp only [Act.put, List.setIfInBounds_toArray, List.set_cons_zero, List.set_cons_succ, List.getElem_toArray, List.getElem_cons_zero, List.getElem_cons_succ]
      refine wpAnyH_take (i := 8) (v := .agg #[.int .i64 U.c, .slice a1W U.nW k1W, .int .i64 U.g, .slice a1O U.nO k1O, .slice a1X U.nX k1X, .slice a1I U.nI k1I]) rfl (by kernel_rfl) (by kernel_rfl) (by kernel_rfl) (fun _ _ _ h => h) (Or.inl ⟨by rfl, ?_⟩) (by assumption) ?_
      · intro wx hSw; go_simp
      try simp only [Act.put, List.setIfInBounds_toArray, List.set_cons_zero, List.set_cons_succ, List.getElem_toArray, List.getElem_cons_zero, List.getElem_cons_succ]
      refine wpAnyH_take (i := 9) (v := .bool T) rfl (by kernel_rfl) (by kernel_rfl) (by kernel_rfl) (fun _ _ _ h => h) (Or.inl ⟨by rfl, ?_⟩) (by assumption) ?_
      · intro wx hSw; go_simp
      try simp only [Act.put, List.setIfInBounds_toArray, List.set_cons_zero, List.set_cons_succ, List.getElem_toArray, List.getElem_cons_zero, List.getElem_cons_succ]
      refine wpAnyH_ready (rs := [11]) (by kernel_rfl) (by simp) ?_
      refine AllReadyH.cons rfl (fun K hK => ?_) AllReadyH.nil
      have hZK : Hid (Six x6 (w1.heap.size) [.int .i64 0, .slice none 0 0, .int .i64 0, .slice none 0 0, .slice none 0 0, .slice none 0 0]) := hZ
      have r0 := (hZ 0 (by decide)).1
      have r1 := (hZ 1 (by decide)).1
      have r2 := (hZ 2 (by decide)).1
      have r3 := (hZ 3 (by decide)).1
      have r4 := (hZ 4 (by decide)).1
      have r5 := (hZ 5 (by decide)).1
      have f0 := (hZ 0 (by decide)).2
      have f1 := (hZ 1 (by decide)).2
      have f2 := (hZ 2 (by decide)).2
      have f3 := (hZ 3 (by decide)).2
      have f4 := (hZ 4 (by decide)).2
      have f5 := (hZ 5 (by decide)).2
      clear hZ
      have hgk : w1.heap.size ≤ w1.heap.size := by first | exact Nat.le_refl _ | omega
      go_simp
      refine hK.out _ _ (below_put6 hHeld hgk (.int .i64 U.c) (.slice a1W U.nW k1W) (.int .i64 U.g) (.slice a1O U.nO k1O) (.slice a1X U.nX k1X) (.slice a1I U.nI k1I)) (fun hNew => ?_)
      clear hK K hHeld
      have hHeld := hNew
      clear hNew
      try simp only [Act.put, List.setIfInBounds_toArray, List.set_cons_zero, List.set_cons_succ, List.getElem_toArray, List.getElem_cons_zero, List.getElem_cons_succ]
      clear r0 f0 r1 f1 r2 f2 r3 f3 r4 f4 r5 f5
      refine wpAnyH_take (i := 12) (v := .bool T) rfl (by kernel_rfl) (by kernel_rfl) (by kernel_rfl) (fun _ _ _ h => h) (Or.inl ⟨by rfl, ?_⟩) (by assumption) ?_
      · intro wx hSw; go_simp
      try simp only [Act.put, List.setIfInBounds_toArray, List.set_cons_zero, List.set_cons_succ, List.getElem_toArray, List.getElem_cons_zero, List.getElem_cons_succ]
      refine wpAnyH_done (by kernel_rfl) ?_ _
      have hz := size_put6 x6 (w1.heap.size) (.int .i64 U.c) (.slice a1W U.nW k1W) (.int .i64 U.g) (.slice a1O U.nO k1O) (.slice a1X U.nX k1X) (.slice a1I U.nI k1I)
      go_wp2
      go_meet
      case rel => exact ⟨w1.heap.size, _, _, a1W, k1W, a1O, k1O, a1X, k1X, a1I, k1I, rfl, rfl, six_put hZK.out (.int .i64 U.c) (.slice a1W U.nW k1W) (.int .i64 U.g) (.slice a1O U.nO k1O) (.slice a1X U.nX k1X) (.slice a1I U.nI k1I), OwnC.sm hO (Nat.le_of_eq hz.symm) (fun b q1 q2 => sm_put6 (by omega) (.int .i64 U.c) (.slice a1W U.nW k1W) (.int .i64 U.g) (.slice a1O U.nO k1O) (.slice a1X U.nX k1X) (.slice a1I U.nI k1I)), ⟨by omega, by show w1.heap.size < (put6 x6 (w1.heap.size) (.int .i64 U.c) (.slice a1W U.nW k1W) (.int .i64 U.g) (.slice a1O U.nO k1O) (.slice a1X U.nX k1X) (.slice a1I U.nI k1I)).heap.size; rw [hz]; omega, by omega, by omega, by show _ ≤ (put6 x6 (w1.heap.size) (.int .i64 U.c) (.slice a1W U.nW k1W) (.int .i64 U.g) (.slice a1O U.nO k1O) (.slice a1X U.nX k1X) (.slice a1I U.nI k1I)).heap.size; rw [hz]; omega, by omega⟩, hHeld⟩
  case rest =>
    obtain ⟨w2, hw2⟩ : ∃ w2, w2 = wc := ⟨_, rfl⟩
    subst hw2
    obtain ⟨g1, l1, h1, a1W, k1W, a1O, k1O, a1X, k1X, a1I, k1I, rfl, rfl, hG, hO, ⟨c11, c12, c13, c14, c15, c16⟩, hb⟩ := hcut
    have y2 : w1.heap.size ≤ w2.heap.size := hb.size
    have B2 : Hid (Below w.heap.size w w2) := bthen B1.out hb
    have M2 : Hid (w2.cell? ⟨w.heap.size, 0, none⟩ = some (.int .i64 c) ∧ w2.cell? ⟨w.heap.size, 1, none⟩ = some (.int .i64 d)) := ⟨(hb.cell (p := ⟨w.heap.size, 0, none⟩) (by show w.heap.size < _; omega)).trans M1.out.1, (hb.cell (p := ⟨w.heap.size, 1, none⟩) (by show w.heap.size < _; omega)).trans M1.out.2⟩
    have A2 : Hid (Six w2 (w.heap.size + 1) [.int .i64 V.c, .slice aW V.nW kW, .int .i64 V.g, .slice aO V.nO kO, .slice aX V.nX kX, .slice aI V.nI kI]) := A1.out.below (by omega) hb
    clear B1 M1 A1
    have G12 : Hid (Six w2 g1 [.int .i64 U.c, .slice a1W U.nW k1W, .int .i64 U.g, .slice a1O U.nO k1O, .slice a1X U.nX k1X, .slice a1I U.nI k1I]) := hG
    have O12 : Hid (OwnC l1 h1 w2 (.agg #[.int .i64 U.c, .slice a1W U.nW k1W, .int .i64 U.g, .slice a1O U.nO k1O, .slice a1X U.nX k1X, .slice a1I U.nI k1I]) U) := hO
    clear hG hO hb
    have a0 : w2.cell? ⟨w.heap.size + 1, 0, none⟩ = some (.int .i64 V.c) := (A2.out 0 (by decide)).1
    have a1 : w2.cell? ⟨w.heap.size + 1, 1, none⟩ = some (.slice aW V.nW kW) := (A2.out 1 (by decide)).1
    have a2 : w2.cell? ⟨w.heap.size + 1, 2, none⟩ = some (.int .i64 V.g) := (A2.out 2 (by decide)).1
    have a3 : w2.cell? ⟨w.heap.size + 1, 3, none⟩ = some (.slice aO V.nO kO) := (A2.out 3 (by decide)).1
    have a4 : w2.cell? ⟨w.heap.size + 1, 4, none⟩ = some (.slice aX V.nX kX) := (A2.out 4 (by decide)).1
    have a5 : w2.cell? ⟨w.heap.size + 1, 5, none⟩ = some (.slice aI V.nI kI) := (A2.out 5 (by decide)).1
    have la_ : w.heap.size + 1 < w2.heap.size := by omega
    go_wp2_with fail
    clear a0 a1 a2 a3 a4 a5 la_
    refine (toCellB _ V HV.out _ (cellAt_below H0.out B2.out)).mono ?_
    rintro e w3 ⟨⟨v3, rfl, hC⟩, hb3⟩
    have y3 : w2.heap.size ≤ w3.heap.size := hb3.size
    have B3 : Hid (Below w.heap.size w w3) := bthen B2.out hb3
    have M3 : Hid (w3.cell? ⟨w.heap.size, 0, none⟩ = some (.int .i64 c) ∧ w3.cell? ⟨w.heap.size, 1, none⟩ = some (.int .i64 d)) := ⟨(hb3.cell (p := ⟨w.heap.size, 0, none⟩) (by show w.heap.size < _; omega)).trans M2.out.1, (hb3.cell (p := ⟨w.heap.size, 1, none⟩) (by show w.heap.size < _; omega)).trans M2.out.2⟩
    have A3 : Hid (Six w3 (w.heap.size + 1) [.int .i64 V.c, .slice aW V.nW kW, .int .i64 V.g, .slice aO V.nO kO, .slice aX V.nX kX, .slice aI V.nI kI]) := A2.out.below (by omega) hb3
    have G13 : Hid (Six w3 g1 [.int .i64 U.c, .slice a1W U.nW k1W, .int .i64 U.g, .slice a1O U.nO k1O, .slice a1X U.nX k1X, .slice a1I U.nI k1I]) := G12.out.below (by omega) hb3
    have O13 : Hid (OwnC l1 h1 w3 (.agg #[.int .i64 U.c, .slice a1W U.nW k1W, .int .i64 U.g, .slice a1O U.nO k1O, .slice a1X U.nX k1X, .slice a1I U.nI k1I]) U) := O12.out.below (by omega) hb3
    clear B2 M2 A2 G12 O12
    clear hb3
    have hOX := hC.own
    have hCX := hC.copy
    obtain ⟨bW, bO, bX, bI, hi9, _, _, _, _, _, _, rfl, _, _, _, _⟩ := hC
    obtain ⟨lx, elx⟩ : ∃ lx, lx = w2.heap.size := ⟨_, rfl⟩
    obtain ⟨hx, ehx⟩ : ∃ hx, hx = w3.heap.size := ⟨_, rfl⟩
    rw [← elx, ← ehx] at hOX
    rw [← elx] at hCX
    have ex1 : lx ≤ w2.heap.size := by omega
    have ex2 : w2.heap.size ≤ lx := by omega
    have ex3 : hx ≤ w3.heap.size := by omega
    have ex4 : w3.heap.size ≤ hx := by omega
    clear elx ehx
    have CX3 : Hid (CopyAt lx w3 (.agg #[.int .i64 V.c, .slice (some ⟨bW, 0, none⟩) V.nW V.nW, .int .i64 V.g, .slice (some ⟨bO, 0, none⟩) V.nO V.nO, .slice (some ⟨bX, 0, none⟩) V.nX V.nX, .slice (some ⟨bI, 0, none⟩) V.nI V.nI]) V) := hCX
    have OX3 : Hid (OwnC lx hx w3 (.agg #[.int .i64 V.c, .slice (some ⟨bW, 0, none⟩) V.nW V.nW, .int .i64 V.g, .slice (some ⟨bO, 0, none⟩) V.nO V.nO, .slice (some ⟨bX, 0, none⟩) V.nX V.nX, .slice (some ⟨bI, 0, none⟩) V.nI V.nI]) V) := hOX
    clear hOX hCX
    go_upto_region 7 with fail
    obtain ⟨w4, e4⟩ : ∃ w4, w4 = w3.alloc (.cells #[.int .i64 V.c, .slice (some ⟨bW, 0, none⟩) V.nW V.nW, .int .i64 V.g, .slice (some ⟨bO, 0, none⟩) V.nO V.nO, .slice (some ⟨bX, 0, none⟩) V.nX V.nX, .slice (some ⟨bI, 0, none⟩) V.nI V.nI] 37) := ⟨_, rfl⟩
    have hb4 : Below w3.heap.size w3 w4 := by rw [e4]; exact (Below.refl _ _).alloc (Nat.le_refl _) _
    have hG : Six w4 w3.heap.size [.int .i64 V.c, .slice (some ⟨bW, 0, none⟩) V.nW V.nW, .int .i64 V.g, .slice (some ⟨bO, 0, none⟩) V.nO V.nO, .slice (some ⟨bX, 0, none⟩) V.nX V.nX, .slice (some ⟨bI, 0, none⟩) V.nI V.nI] := by rw [e4]; exact six_new w3 37 (.int .i64 V.c) (.slice (some ⟨bW, 0, none⟩) V.nW V.nW) (.int .i64 V.g) (.slice (some ⟨bO, 0, none⟩) V.nO V.nO) (.slice (some ⟨bX, 0, none⟩) V.nX V.nX) (.slice (some ⟨bI, 0, none⟩) V.nI V.nI)
    have y4a : w3.heap.size < w4.heap.size := by rw [e4]; simp
    rw [← e4]
    clear e4
    have y4 : w3.heap.size ≤ w4.heap.size := hb4.size
    have B4 : Hid (Below w.heap.size w w4) := bthen B3.out hb4
    have M4 : Hid (w4.cell? ⟨w.heap.size, 0, none⟩ = some (.int .i64 c) ∧ w4.cell? ⟨w.heap.size, 1, none⟩ = some (.int .i64 d)) := ⟨(hb4.cell (p := ⟨w.heap.size, 0, none⟩) (by show w.heap.size < _; omega)).trans M3.out.1, (hb4.cell (p := ⟨w.heap.size, 1, none⟩) (by show w.heap.size < _; omega)).trans M3.out.2⟩
    have A4 : Hid (Six w4 (w.heap.size + 1) [.int .i64 V.c, .slice aW V.nW kW, .int .i64 V.g, .slice aO V.nO kO, .slice aX V.nX kX, .slice aI V.nI kI]) := A3.out.below (by omega) hb4
    have G14 : Hid (Six w4 g1 [.int .i64 U.c, .slice a1W U.nW k1W, .int .i64 U.g, .slice a1O U.nO k1O, .slice a1X U.nX k1X, .slice a1I U.nI k1I]) := G13.out.below (by omega) hb4
    have O14 : Hid (OwnC l1 h1 w4 (.agg #[.int .i64 U.c, .slice a1W U.nW k1W, .int .i64 U.g, .slice a1O U.nO k1O, .slice a1X U.nX k1X, .slice a1I U.nI k1I]) U) := O13.out.below (by omega) hb4
    have CX4 : Hid (CopyAt lx w4 (.agg #[.int .i64 V.c, .slice (some ⟨bW, 0, none⟩) V.nW V.nW, .int .i64 V.g, .slice (some ⟨bO, 0, none⟩) V.nO V.nO, .slice (some ⟨bX, 0, none⟩) V.nX V.nX, .slice (some ⟨bI, 0, none⟩) V.nI V.nI]) V) := CX3.out.below hb4
    have OX4 : Hid (OwnC lx hx w4 (.agg #[.int .i64 V.c, .slice (some ⟨bW, 0, none⟩) V.nW V.nW, .int .i64 V.g, .slice (some ⟨bO, 0, none⟩) V.nO V.nO, .slice (some ⟨bX, 0, none⟩) V.nX V.nX, .slice (some ⟨bI, 0, none⟩) V.nI V.nI]) V) := OX3.out.below (by omega) hb4
    clear B3 M3 A3 G13 O13 CX3 OX3
    clear hb4
    obtain ⟨gx, egx⟩ : ∃ gx, gx = w3.heap.size := ⟨_, rfl⟩
    rw [← egx] at hG ⊢
    have eg1 : gx ≤ w3.heap.size := by omega
    have eg2 : w3.heap.size ≤ gx := by omega
    clear egx
    have GX4 : Hid (Six w4 gx [.int .i64 V.c, .slice (some ⟨bW, 0, none⟩) V.nW V.nW, .int .i64 V.g, .slice (some ⟨bO, 0, none⟩) V.nO V.nO, .slice (some ⟨bX, 0, none⟩) V.nX V.nX, .slice (some ⟨bI, 0, none⟩) V.nI V.nI]) := hG
    clear hG
    go_cut [13, 14] (fun s t wx => ∃ g l h a2W k2W a2O k2O a2X k2X a2I k2I, .pointer (some ⟨g, 0, none⟩) = s ∧ .bool T = t ∧ Six wx g [.int .i64 U.c, .slice a2W U.nW k2W, .int .i64 U.g, .slice a2O U.nO k2O, .slice a2X U.nX k2X, .slice a2I U.nI k2I] ∧ OwnC l h wx (.agg #[.int .i64 U.c, .slice a2W U.nW k2W, .int .i64 U.g, .slice a2O U.nO k2O, .slice a2X U.nX k2X, .slice a2I U.nI k2I]) U ∧ (w4.heap.size ≤ g ∧ g < wx.heap.size ∧ w4.heap.size ≤ l ∧ l ≤ h ∧ h ≤ wx.heap.size ∧ (g < l ∨ h ≤ g)) ∧ Below w4.heap.size w4 wx)
    case first =>
      have m0 : w4.cell? ⟨w.heap.size, 0, none⟩ = some (.int .i64 c) := M4.out.1
      have m1 : w4.cell? ⟨w.heap.size, 1, none⟩ = some (.int .i64 d) := M4.out.2
      have lM : w.heap.size < w4.heap.size := by omega
      have p0 : w4.cell? ⟨gx, 0, none⟩ = some (.int .i64 V.c) := (GX4.out 0 (by decide)).1
      have p1 : w4.cell? ⟨gx, 1, none⟩ = some (.slice (some ⟨bW, 0, none⟩) V.nW V.nW) := (GX4.out 1 (by decide)).1
      have p2 : w4.cell? ⟨gx, 2, none⟩ = some (.int .i64 V.g) := (GX4.out 2 (by decide)).1
      have p3 : w4.cell? ⟨gx, 3, none⟩ = some (.slice (some ⟨bO, 0, none⟩) V.nO V.nO) := (GX4.out 3 (by decide)).1
      have p4 : w4.cell? ⟨gx, 4, none⟩ = some (.slice (some ⟨bX, 0, none⟩) V.nX V.nX) := (GX4.out 4 (by decide)).1
      have p5 : w4.cell? ⟨gx, 5, none⟩ = some (.slice (some ⟨bI, 0, none⟩) V.nI V.nI) := (GX4.out 5 (by decide)).1
      have lp_ : gx < w4.heap.size := by omega
      refine wp_region_held_drew (S := fun w' => Below w4.heap.size w4 w') (by kernel_rfl) ((Below.refl _ _).drew) ?_
      intro hHeld
      refine wpAnyH_take (i := 0) (v := .agg #[.int .i64 c, .int .i64 d]) rfl (by kernel_rfl) (by kernel_rfl) (by kernel_rfl) (fun _ _ _ h => h) (Or.inl ⟨by rfl, ?_⟩) (by assumption) ?_
      · intro wx hSw; have xm0 := (hSw.cell (p := ⟨w.heap.size, 0, none⟩) (by show w.heap.size < _; omega)).trans m0; have xm1 := (hSw.cell (p := ⟨w.heap.size, 1, none⟩) (by show w.heap.size < _; omega)).trans m1; clear hSw; go_simp
      try simp only [Act.put, List.setIfInBounds_toArray, List.set_cons_zero, List.set_cons_succ, List.getElem_toArray, List.getElem_cons_zero]
      refine wpAnyH_take (i := 2) (v := .agg #[.int .i64 V.c, .slice (some ⟨bW, 0, none⟩) V.nW V.nW, .int .i64 V.g, .slice (some ⟨bO, 0, none⟩) V.nO V.nO, .slice (some ⟨bX, 0, none⟩) V.nX V.nX, .slice (some ⟨bI, 0, none⟩) V.nI V.nI]) rfl (by kernel_rfl) (by kernel_rfl) (by kernel_rfl) (fun _ _ _ h => h) (Or.inl ⟨by rfl, ?_⟩) (by assumption) ?_
      · intro wx hSw; have xp0 := (hSw.cell (p := ⟨gx, 0, none⟩) (by show gx < _; omega)).trans p0; have xp1 := (hSw.cell (p := ⟨gx, 1, none⟩) (by show gx < _; omega)).trans p1; have xp2 := (hSw.cell (p := ⟨gx, 2, none⟩) (by show gx < _; omega)).trans p2; have xp3 := (hSw.cell (p := ⟨gx, 3, none⟩) (by show gx < _; omega)).trans p3; have xp4 := (hSw.cell (p := ⟨gx, 4, none⟩) (by show gx < _; omega)).trans p4; have xp5 := (hSw.cell (p := ⟨gx, 5, none⟩) (by show gx < _; omega)).trans p5; clear hSw; go_simp
      try simp only [Act.put, List.setIfInBounds_toArray, List.set_cons_zero, List.set_cons_succ, List.getElem_toArray, List.getElem_cons_zero, List.getElem_cons_succ]
      refine wpAnyH_take (i := 3) (v := .int .i64 side) rfl (by kernel_rfl) (by kernel_rfl) (by kernel_rfl) (fun _ _ _ h => h) (Or.inl ⟨by rfl, ?_⟩) (by assumption) ?_
      · intro wx hSw; go_simp
      try simp only [Act.put, List.setIfInBounds_toArray, List.set_cons_zero, List.set_cons_succ, List.getElem_toArray, List.getElem_cons_zero, List.getElem_cons_succ]
      refine wpAnyH_take (i := 4) (v := .int .i64 z) rfl (by kernel_rfl) (by kernel_rfl) (by kernel_rfl) (fun _ _ _ h => h) (Or.inl ⟨by rfl, ?_⟩) (by assumption) ?_
      · intro wx hSw; go_simp
      try simp only [Act.put, List.setIfInBounds_toArray, List.set_cons_zero, List.set_cons_succ, List.getElem_toArray, List.getElem_cons_zero, List.getElem_cons_succ]
      refine wpAnyH_ready (rs := [1, 9]) (by kernel_rfl) (by simp) ?_
      refine AllReadyH.cons rfl (fun K hK => ?_) (AllReadyH.cons rfl (fun K hK => ?_) AllReadyH.nil)
      · go_simp
        go_wp2_with fail
        refine (toMap _ _ _).mono ?_
        rintro e x1 ⟨rfl, hx1⟩
        have hs1 := hx1.size
        have hl1 := hHeld.size
        refine hK.out _ _ (bthen hHeld hx1) (fun hNew => ?_)
        clear hK K hHeld
        have hHeld := hNew
        clear hNew
        try simp only [Act.put, List.setIfInBounds_toArray, List.set_cons_zero, List.set_cons_succ, List.getElem_toArray, List.getElem_cons_zero, List.getElem_cons_succ]
        refine wpAnyH_ready (rs := [5, 9]) (by kernel_rfl) (by simp) ?_
        refine AllReadyH.cons rfl (fun K hK => ?_) (AllReadyH.cons rfl (fun K hK => ?_) AllReadyH.nil)
        · go_simp
          go_wp2_with fail
          refine (ack_impl c d _ V _ side z HV.out hwf.out _ (CX4.out.below hHeld)).mono ?_
          rintro e x5 ⟨⟨u, tt, rfl, ht, hO⟩, hx5⟩
          subst ht
          rw [EU.out] at hO
          rw [ET.out]
          obtain ⟨a2W, k2W, a2O, k2O, a2X, k2X, a2I, k2I, rfl, _, _, _, _⟩ := hO.at
          have hs5 := hx5.size
          have hl5 := hHeld.size
          refine hK.out _ _ (bthen hHeld hx5) (fun hNew => ?_)
          clear hK K hHeld
          have hHeld := hNew
          clear hNew
          try simp only [Act.put, List.setIfInBounds_toArray, List.set_cons_zero, List.set_cons_succ, List.getElem_toArray, List.getElem_cons_zero, List.getElem_cons_succ]
          refine wpAnyH_take (i := 6) (v := .tuple #[.agg #[.int .i64 U.c, .slice a2W U.nW k2W, .int .i64 U.g, .slice a2O U.nO k2O, .slice a2X U.nX k2X, .slice a2I U.nI k2I], .bool T]) rfl (by kernel_rfl) (by kernel_rfl) (by kernel_rfl) (fun _ _ _ h => h) (Or.inl ⟨by rfl, ?_⟩) (by assumption) ?_
          · intro wx hSw; go_simp
          try simp only [Act.put, List.setIfInBounds_toArray, List.set_cons_zero, List.set_cons_succ, List.getElem_toArray, List.getElem_cons_zero, List.getElem_cons_succ]
          refine wpAnyH_take (i := 7) (v := .agg #[.int .i64 U.c, .slice a2W U.nW k2W, .int .i64 U.g, .slice a2O U.nO k2O, .slice a2X U.nX k2X, .slice a2I U.nI k2I]) rfl (by kernel_rfl) (by kernel_rfl) (by kernel_rfl) (fun _ _ _ h => h) (Or.inl ⟨by rfl, ?_⟩) (by assumption) ?_
          · intro wx hSw; go_simp
          try simp only [Act.put, List.setIfInBounds_toArray, List.set_cons_zero, List.set_cons_succ, List.getElem_toArray, List.getElem_cons_zero, List.getElem_cons_succ]
          refine wpAnyH_take (i := 8) (v := .bool T) rfl (by kernel_rfl) (by kernel_rfl) (by kernel_rfl) (fun _ _ _ h => h) (Or.inl ⟨by rfl, ?_⟩) (by assumption) ?_
          · intro wx hSw; go_simp
          try simp only [Act.put, List.setIfInBounds_toArray, List.set_cons_zero, List.set_cons_succ, List.getElem_toArray, List.getElem_cons_zero, List.getElem_cons_succ]
          have hP := hHeld
          have hPs := hHeld.size
          refine wpAnyH_ready (rs := [9]) (by kernel_rfl) (by simp) ?_
          refine AllReadyH.cons rfl (fun K hK => ?_) AllReadyH.nil
          go_simp
          have hZ : Six (x5.alloc (.cells #[.int .i64 0, .slice none 0 0, .int .i64 0, .slice none 0 0, .slice none 0 0, .slice none 0 0] 37)) x5.heap.size [.int .i64 0, .slice none 0 0, .int .i64 0, .slice none 0 0, .slice none 0 0, .slice none 0 0] := six_new x5 37 (.int .i64 0) (.slice none 0 0) (.int .i64 0) (.slice none 0 0) (.slice none 0 0) (.slice none 0 0)
          have hzA : (x5.alloc (.cells #[.int .i64 0, .slice none 0 0, .int .i64 0, .slice none 0 0, .slice none 0 0, .slice none 0 0] 37)).heap.size = x5.heap.size + 1 := World.size_alloc x5 _
          have hl0 := hHeld.size
          refine hK.out _ _ (hHeld.alloc (by first | exact hHeld.size | omega) _) (fun hNew => ?_)
          clear hK K hHeld
          have hHeld := hNew
          clear hNew
          try simp only [Act.put, List.setIfInBounds_toArray, List.set_cons_zero, List.set_cons_succ, List.getElem_toArray, List.getElem_cons_zero, List.getElem_cons_succ]
          refine wpAnyH_ready (rs := [10]) (by kernel_rfl) (by simp) ?_
          refine AllReadyH.cons rfl (fun K hK => ?_) AllReadyH.nil
          go_simp
          refine hK.out _ _ (hP.alloc hPs _) (fun hNew => ?_)
          clear hK K hHeld
          have hHeld := hNew
          clear hNew
          try simp only [Act.put, List.setIfInBounds_toArray, List.set_cons_zero, List.set_cons_succ, List.getElem_toArray, List.getElem_cons_zero, List.getElem_cons_succ]
          refine wpAnyH_take (i := 11) (v := .bool T) rfl (by kernel_rfl) (by kernel_rfl) (by kernel_rfl) (fun _ _ _ h => h) (Or.inl ⟨by rfl, ?_⟩) (by assumption) ?_
          · intro wx hSw; go_simp
          try simp only [Act.put, List.setIfInBounds_toArray, List.set_cons_zero, List.set_cons_succ, List.getElem_toArray, List.getElem_cons_zero, List.getElem_cons_succ]
          refine wpAnyH_done (by kernel_rfl) ?_ _
          have hz : (x5.alloc (.cells #[.int .i64 U.c, .slice a2W U.nW k2W, .int .i64 U.g, .slice a2O U.nO k2O, .slice a2X U.nX k2X, .slice a2I U.nI k2I] 37)).heap.size = x5.heap.size + 1 := World.size_alloc x5 _
          go_wp2
          go_meet
          case rel => exact ⟨x5.heap.size, _, _, a2W, k2W, a2O, k2O, a2X, k2X, a2I, k2I, rfl, rfl, six_new x5 37 (.int .i64 U.c) (.slice a2W U.nW k2W) (.int .i64 U.g) (.slice a2O U.nO k2O) (.slice a2X U.nX k2X) (.slice a2I U.nI k2I), hO.below (Nat.le_refl _) ((Below.refl _ _).alloc (Nat.le_refl _) _), ⟨by omega, by omega, by omega, by omega, by omega, by omega⟩, hHeld⟩
        · go_simp
          have hZ : Six (x1.alloc (.cells #[.int .i64 0, .slice none 0 0, .int .i64 0, .slice none 0 0, .slice none 0 0, .slice none 0 0] 37)) x1.heap.size [.int .i64 0, .slice none 0 0, .int .i64 0, .slice none 0 0, .slice none 0 0, .slice none 0 0] := six_new x1 37 (.int .i64 0) (.slice none 0 0) (.int .i64 0) (.slice none 0 0) (.slice none 0 0) (.slice none 0 0)
          have hzA : (x1.alloc (.cells #[.int .i64 0, .slice none 0 0, .int .i64 0, .slice none 0 0, .slice none 0 0, .slice none 0 0] 37)).heap.size = x1.heap.size + 1 := World.size_alloc x1 _
          have hl0 := hHeld.size
          refine hK.out _ _ (hHeld.alloc (by first | exact hHeld.size | omega) _) (fun hNew => ?_)
          clear hK K hHeld
          have hHeld := hNew
          clear hNew
          try simp only [Act.put, List.setIfInBounds_toArray, List.set_cons_zero, List.set_cons_succ, List.getElem_toArray, List.getElem_cons_zero, List.getElem_cons_succ]
          refine wpAnyH_ready (rs := [5]) (by kernel_rfl) (by simp) ?_
          refine AllReadyH.cons rfl (fun K hK => ?_) AllReadyH.nil
          go_simp
          go_wp2_with fail
          refine (ack_impl c d _ V _ side z HV.out hwf.out _ (CX4.out.below hHeld)).mono ?_
          rintro e x5 ⟨⟨u, tt, rfl, ht, hO⟩, hx5⟩
          subst ht
          rw [EU.out] at hO
          rw [ET.out]
          obtain ⟨a2W, k2W, a2O, k2O, a2X, k2X, a2I, k2I, rfl, _, _, _, _⟩ := hO.at
          have hs5 := hx5.size
          have hl5 := hHeld.size
          have hZ5 := hZ.below (by first | (simp; done) | (simp; omega) | omega) hx5
          clear hZ
          have hZ := hZ5
          clear hZ5
          refine hK.out _ _ (bthen hHeld hx5) (fun hNew => ?_)
          clear hK K hHeld
          have hHeld := hNew
          clear hNew
          try simp only [Act.put, List.setIfInBounds_toArray, List.set_cons_zero, List.set_cons_succ, List.getElem_toArray, List.getElem_cons_zero, List.getElem_cons_succ]
          refine wpAnyH_take (i := 6) (v := .tuple #[.agg #[.int .i64 U.c, .slice a2W U.nW k2W, .int .i64 U.g, .slice a2O U.nO k2O, .slice a2X U.nX k2X, .slice a2I U.nI k2I], .bool T]) rfl (by kernel_rfl) (by kernel_rfl) (by kernel_rfl) (fun _ _ _ h => h) (Or.inl ⟨by rfl, ?_⟩) (by assumption) ?_
          · intro wx hSw; go_simp
          try simp only [Act.put, List.setIfInBounds_toArray, List.set_cons_zero, List.set_cons_succ, List.getElem_toArray, List.getElem_cons_zero, List.getElem_cons_succ]
          refine wpAnyH_take (i := 7) (v := .agg #[.int .i64 U.c, .slice a2W U.nW k2W, .int .i64 U.g, .slice a2O U.nO k2O, .slice a2X U.nX k2X, .slice a2I U.nI k2I]) rfl (by kernel_rfl) (by kernel_rfl) (by kernel_rfl) (fun _ _ _ h => h) (Or.inl ⟨by rfl, ?_⟩) (by assumption) ?_
          · intro wx hSw; go_simp
          try simp only [Act.put, List.setIfInBounds_toArray, List.set_cons_zero, List.set_cons_succ, List.getElem_toArray, List.getElem_cons_zero, List.getElem_cons_succ]
          refine wpAnyH_take (i := 8) (v := .bool T) rfl (by kernel_rfl) (by kernel_rfl) (by kernel_rfl) (fun _ _ _ h => h) (Or.inl ⟨by rfl, ?_⟩) (by assumption) ?_
          · intro wx hSw; go_simp
          try simp only [Act.put, List.setIfInBounds_toArray, List.set_cons_zero, List.set_cons_succ, List.getElem_toArray, List.getElem_cons_zero, List.getElem_cons_succ]
          refine wpAnyH_ready (rs := [10]) (by kernel_rfl) (by simp) ?_
          refine AllReadyH.cons rfl (fun K hK => ?_) AllReadyH.nil
          have hZK : Hid (Six x5 (x1.heap.size) [.int .i64 0, .slice none 0 0, .int .i64 0, .slice none 0 0, .slice none 0 0, .slice none 0 0]) := hZ
          have r0 := (hZ 0 (by decide)).1
          have r1 := (hZ 1 (by decide)).1
          have r2 := (hZ 2 (by decide)).1
          have r3 := (hZ 3 (by decide)).1
          have r4 := (hZ 4 (by decide)).1
          have r5 := (hZ 5 (by decide)).1
          have f0 := (hZ 0 (by decide)).2
          have f1 := (hZ 1 (by decide)).2
          have f2 := (hZ 2 (by decide)).2
          have f3 := (hZ 3 (by decide)).2
          have f4 := (hZ 4 (by decide)).2
          have f5 := (hZ 5 (by decide)).2
          clear hZ
          have hgk : w4.heap.size ≤ x1.heap.size := by first | exact Nat.le_refl _ | omega
          go_simp
          refine hK.out _ _ (below_put6 hHeld hgk (.int .i64 U.c) (.slice a2W U.nW k2W) (.int .i64 U.g) (.slice a2O U.nO k2O) (.slice a2X U.nX k2X) (.slice a2I U.nI k2I)) (fun hNew => ?_)
          clear hK K hHeld
          have hHeld := hNew
          clear hNew
          try simp only [Act.put, List.setIfInBounds_toArray, List.set_cons_zero, List.set_cons_succ, List.getElem_toArray, List.getElem_cons_zero, List.getElem_cons_succ]
          clear r0 f0 r1 f1 r2 f2 r3 f3 r4 f4 r5 f5
          refine wpAnyH_take (i := 11) (v := .bool T) rfl (by kernel_rfl) (by kernel_rfl) (by kernel_rfl) (fun _ _ _ h => h) (Or.inl ⟨by rfl, ?_⟩) (by assumption) ?_
          · intro wx hSw; go_simp
          try simp only [Act.put, List.setIfInBounds_toArray, List.set_cons_zero, List.set_cons_succ, List.getElem_toArray, List.getElem_cons_zero, List.getElem_cons_succ]
          refine wpAnyH_done (by kernel_rfl) ?_ _
          have hz := size_put6 x5 (x1.heap.size) (.int .i64 U.c) (.slice a2W U.nW k2W) (.int .i64 U.g) (.slice a2O U.nO k2O) (.slice a2X U.nX k2X) (.slice a2I U.nI k2I)
          go_wp2
          go_meet
          case rel => exact ⟨x1.heap.size, _, _, a2W, k2W, a2O, k2O, a2X, k2X, a2I, k2I, rfl, rfl, six_put hZK.out (.int .i64 U.c) (.slice a2W U.nW k2W) (.int .i64 U.g) (.slice a2O U.nO k2O) (.slice a2X U.nX k2X) (.slice a2I U.nI k2I), OwnC.sm hO (Nat.le_of_eq hz.symm) (fun b q1 q2 => sm_put6 (by omega) (.int .i64 U.c) (.slice a2W U.nW k2W) (.int .i64 U.g) (.slice a2O U.nO k2O) (.slice a2X U.nX k2X) (.slice a2I U.nI k2I)), ⟨by omega, by show x1.heap.size < (put6 x5 (x1.heap.size) (.int .i64 U.c) (.slice a2W U.nW k2W) (.int .i64 U.g) (.slice a2O U.nO k2O) (.slice a2X U.nX k2X) (.slice a2I U.nI k2I)).heap.size; rw [hz]; omega, by omega, by omega, by show _ ≤ (put6 x5 (x1.heap.size) (.int .i64 U.c) (.slice a2W U.nW k2W) (.int .i64 U.g) (.slice a2O U.nO k2O) (.slice a2X U.nX k2X) (.slice a2I U.nI k2I)).heap.size; rw [hz]; omega, by omega⟩, hHeld⟩
      · go_simp
        have hZ : Six (w4.alloc (.cells #[.int .i64 0, .slice none 0 0, .int .i64 0, .slice none 0 0, .slice none 0 0, .slice none 0 0] 37)).drew w4.heap.size [.int .i64 0, .slice none 0 0, .int .i64 0, .slice none 0 0, .slice none 0 0, .slice none 0 0] := six_new w4 37 (.int .i64 0) (.slice none 0 0) (.int .i64 0) (.slice none 0 0) (.slice none 0 0) (.slice none 0 0)
        have hzA : (w4.alloc (.cells #[.int .i64 0, .slice none 0 0, .int .i64 0, .slice none 0 0, .slice none 0 0, .slice none 0 0] 37)).drew.heap.size = w4.heap.size + 1 := World.size_alloc w4 _
        have hl0 := hHeld.size
        refine hK.out _ _ (hHeld.alloc (by first | exact hHeld.size | omega) _) (fun hNew => ?_)
        clear hK K hHeld
        have hHeld := hNew
        clear hNew
        try simp only [Act.put, List.setIfInBounds_toArray, List.set_cons_zero, List.set_cons_succ, List.getElem_toArray, List.getElem_cons_zero, List.getElem_cons_succ]
        refine wpAnyH_ready (rs := [1]) (by kernel_rfl) (by simp) ?_
        refine AllReadyH.cons rfl (fun K hK => ?_) AllReadyH.nil
        go_simp
        go_wp2_with fail
        refine (toMap _ _ _).mono ?_
        rintro e x1 ⟨rfl, hx1⟩
        have hs1 := hx1.size
        have hl1 := hHeld.size
        have hZ1 := hZ.below (by first | (simp; done) | (simp; omega) | omega) hx1
        clear hZ
        have hZ := hZ1
        clear hZ1
        refine hK.out _ _ (bthen hHeld hx1) (fun hNew => ?_)
        clear hK K hHeld
        have hHeld := hNew
        clear hNew
        try simp only [Act.put, List.setIfInBounds_toArray, List.set_cons_zero, List.set_cons_succ, List.getElem_toArray, List.getElem_cons_zero, List.getElem_cons_succ]
        refine wpAnyH_ready (rs := [5]) (by kernel_rfl) (by simp) ?_
        refine AllReadyH.cons rfl (fun K hK => ?_) AllReadyH.nil
        go_simp
        go_wp2_with fail
        refine (ack_impl c d _ V _ side z HV.out hwf.out _ (CX4.out.below hHeld)).mono ?_
        rintro e x5 ⟨⟨u, tt, rfl, ht, hO⟩, hx5⟩
        subst ht
        rw [EU.out] at hO
        rw [ET.out]
        obtain ⟨a2W, k2W, a2O, k2O, a2X, k2X, a2I, k2I, rfl, _, _, _, _⟩ := hO.at
        have hs5 := hx5.size
        have hl5 := hHeld.size
        have hZ5 := hZ.below (by first | (simp; done) | (simp; omega) | omega) hx5
        clear hZ
        have hZ := hZ5
        clear hZ5
        refine hK.out _ _ (bthen hHeld hx5) (fun hNew => ?_)
        clear hK K hHeld
        have hHeld := hNew
        clear hNew
        try simp only [Act.put, List.setIfInBounds_toArray, List.set_cons_zero, List.set_cons_succ, List.getElem_toArray, List.getElem_cons_zero, List.getElem_cons_succ]
        refine wpAnyH_take (i := 6) (v := .tuple #[.agg #[.int .i64 U.c, .slice a2W U.nW k2W, .int .i64 U.g, .slice a2O U.nO k2O, .slice a2X U.nX k2X, .slice a2I U.nI k2I], .bool T]) rfl (by kernel_rfl) (by kernel_rfl) (by kernel_rfl) (fun _ _ _ h => h) (Or.inl ⟨by rfl, ?_⟩) (by assumption) ?_
        · intro wx hSw; go_simp
        try simp only [Act.put, List.setIfInBounds_toArray, List.set_cons_zero, List.set_cons_succ, List.getElem_toArray, List.getElem_cons_zero, List.getElem_cons_succ]
        refine wpAnyH_take (i := 7) (v := .agg #[.int .i64 U.c, .slice a2W U.nW k2W, .int .i64 U.g, .slice a2O U.nO k2O, .slice a2X U.nX k2X, .slice a2I U.nI k2I]) rfl (by kernel_rfl) (by kernel_rfl) (by kernel_rfl) (fun _ _ _ h => h) (Or.inl ⟨by rfl, ?_⟩) (by assumption) ?_
        · intro wx hSw; go_simp
        try simp only [Act.put, List.setIfInBounds_toArray, List.set_cons_zero, List.set_cons_succ, List.getElem_toArray, List.getElem_cons_zero, List.getElem_cons_succ]
        refine wpAnyH_take (i := 8) (v := .bool T) rfl (by kernel_rfl) (by kernel_rfl) (by kernel_rfl) (fun _ _ _ h => h) (Or.inl ⟨by rfl, ?_⟩) (by assumption) ?_
        · intro wx hSw; go_simp
        try simp only [Act.put, List.setIfInBounds_toArray, List.set_cons_zero, List.set_cons_succ, List.getElem_toArray, List.getElem_cons_zero, List.getElem_cons_succ]
        refine wpAnyH_ready (rs := [10]) (by kernel_rfl) (by simp) ?_
        refine AllReadyH.cons rfl (fun K hK => ?_) AllReadyH.nil
        have hZK : Hid (Six x5 (w4.heap.size) [.int .i64 0, .slice none 0 0, .int .i64 0, .slice none 0 0, .slice none 0 0, .slice none 0 0]) := hZ
        have r0 := (hZ 0 (by decide)).1
        have r1 := (hZ 1 (by decide)).1
        have r2 := (hZ 2 (by decide)).1
        have r3 := (hZ 3 (by decide)).1
        have r4 := (hZ 4 (by decide)).1
        have r5 := (hZ 5 (by decide)).1
        have f0 := (hZ 0 (by decide)).2
        have f1 := (hZ 1 (by decide)).2
        have f2 := (hZ 2 (by decide)).2
        have f3 := (hZ 3 (by decide)).2
        have f4 := (hZ 4 (by decide)).2
        have f5 := (hZ 5 (by decide)).2
        clear hZ
        have hgk : w4.heap.size ≤ w4.heap.size := by first | exact Nat.le_refl _ | omega
        go_simp
        refine hK.out _ _ (below_put6 hHeld hgk (.int .i64 U.c) (.slice a2W U.nW k2W) (.int .i64 U.g) (.slice a2O U.nO k2O) (.slice a2X U.nX k2X) (.slice a2I U.nI k2I)) (fun hNew => ?_)
        clear hK K hHeld
        have hHeld := hNew
        clear hNew
        try simp only [Act.put, List.setIfInBounds_toArray, List.set_cons_zero, List.set_cons_succ, List.getElem_toArray, List.getElem_cons_zero, List.getElem_cons_succ]
        clear r0 f0 r1 f1 r2 f2 r3 f3 r4 f4 r5 f5
        refine wpAnyH_take (i := 11) (v := .bool T) rfl (by kernel_rfl) (by kernel_rfl) (by kernel_rfl) (fun _ _ _ h => h) (Or.inl ⟨by rfl, ?_⟩) (by assumption) ?_
        · intro wx hSw; go_simp
        try simp only [Act.put, List.setIfInBounds_toArray, List.set_cons_zero, List.set_cons_succ, List.getElem_toArray, List.getElem_cons_zero, List.getElem_cons_succ]
        refine wpAnyH_done (by kernel_rfl) ?_ _
        have hz := size_put6 x5 (w4.heap.size) (.int .i64 U.c) (.slice a2W U.nW k2W) (.int .i64 U.g) (.slice a2O U.nO k2O) (.slice a2X U.nX k2X) (.slice a2I U.nI k2I)
        go_wp2
        go_meet
        case rel => exact ⟨w4.heap.size, _, _, a2W, k2W, a2O, k2O, a2X, k2X, a2I, k2I, rfl, rfl, six_put hZK.out (.int .i64 U.c) (.slice a2W U.nW k2W) (.int .i64 U.g) (.slice a2O U.nO k2O) (.slice a2X U.nX k2X) (.slice a2I U.nI k2I), OwnC.sm hO (Nat.le_of_eq hz.symm) (fun b q1 q2 => sm_put6 (by omega) (.int .i64 U.c) (.slice a2W U.nW k2W) (.int .i64 U.g) (.slice a2O U.nO k2O) (.slice a2X U.nX k2X) (.slice a2I U.nI k2I)), ⟨by omega, by show w4.heap.size < (put6 x5 (w4.heap.size) (.int .i64 U.c) (.slice a2W U.nW k2W) (.int .i64 U.g) (.slice a2O U.nO k2O) (.slice a2X U.nX k2X) (.slice a2I U.nI k2I)).heap.size; rw [hz]; omega, by omega, by omega, by show _ ≤ (put6 x5 (w4.heap.size) (.int .i64 U.c) (.slice a2W U.nW k2W) (.int .i64 U.g) (.slice a2O U.nO k2O) (.slice a2X U.nX k2X) (.slice a2I U.nI k2I)).heap.size; rw [hz]; omega, by omega⟩, hHeld⟩
    case rest =>
      obtain ⟨w5, hw5⟩ : ∃ w5, w5 = wc := ⟨_, rfl⟩
      subst hw5
      obtain ⟨g2, l2, h2, a2W, k2W, a2O, k2O, a2X, k2X, a2I, k2I, rfl, rfl, hG, hO, ⟨c21, c22, c23, c24, c25, c26⟩, hb⟩ := hcut
      have y5 : w4.heap.size ≤ w5.heap.size := hb.size
      have B5 : Hid (Below w.heap.size w w5) := bthen B4.out hb
      have M5 : Hid (w5.cell? ⟨w.heap.size, 0, none⟩ = some (.int .i64 c) ∧ w5.cell? ⟨w.heap.size, 1, none⟩ = some (.int .i64 d)) := ⟨(hb.cell (p := ⟨w.heap.size, 0, none⟩) (by show w.heap.size < _; omega)).trans M4.out.1, (hb.cell (p := ⟨w.heap.size, 1, none⟩) (by show w.heap.size < _; omega)).trans M4.out.2⟩
      have A5 : Hid (Six w5 (w.heap.size + 1) [.int .i64 V.c, .slice aW V.nW kW, .int .i64 V.g, .slice aO V.nO kO, .slice aX V.nX kX, .slice aI V.nI kI]) := A4.out.below (by omega) hb
      have G15 : Hid (Six w5 g1 [.int .i64 U.c, .slice a1W U.nW k1W, .int .i64 U.g, .slice a1O U.nO k1O, .slice a1X U.nX k1X, .slice a1I U.nI k1I]) := G14.out.below (by omega) hb
      have O15 : Hid (OwnC l1 h1 w5 (.agg #[.int .i64 U.c, .slice a1W U.nW k1W, .int .i64 U.g, .slice a1O U.nO k1O, .slice a1X U.nX k1X, .slice a1I U.nI k1I]) U) := O14.out.below (by omega) hb
      have CX5 : Hid (CopyAt lx w5 (.agg #[.int .i64 V.c, .slice (some ⟨bW, 0, none⟩) V.nW V.nW, .int .i64 V.g, .slice (some ⟨bO, 0, none⟩) V.nO V.nO, .slice (some ⟨bX, 0, none⟩) V.nX V.nX, .slice (some ⟨bI, 0, none⟩) V.nI V.nI]) V) := CX4.out.below hb
      have OX5 : Hid (OwnC lx hx w5 (.agg #[.int .i64 V.c, .slice (some ⟨bW, 0, none⟩) V.nW V.nW, .int .i64 V.g, .slice (some ⟨bO, 0, none⟩) V.nO V.nO, .slice (some ⟨bX, 0, none⟩) V.nX V.nX, .slice (some ⟨bI, 0, none⟩) V.nI V.nI]) V) := OX4.out.below (by omega) hb
      have GX5 : Hid (Six w5 gx [.int .i64 V.c, .slice (some ⟨bW, 0, none⟩) V.nW V.nW, .int .i64 V.g, .slice (some ⟨bO, 0, none⟩) V.nO V.nO, .slice (some ⟨bX, 0, none⟩) V.nX V.nX, .slice (some ⟨bI, 0, none⟩) V.nI V.nI]) := GX4.out.below (by omega) hb
      clear B4 M4 A4 G14 O14 CX4 OX4 GX4
      have G25 : Hid (Six w5 g2 [.int .i64 U.c, .slice a2W U.nW k2W, .int .i64 U.g, .slice a2O U.nO k2O, .slice a2X U.nX k2X, .slice a2I U.nI k2I]) := hG
      have O25 : Hid (OwnC l2 h2 w5 (.agg #[.int .i64 U.c, .slice a2W U.nW k2W, .int .i64 U.g, .slice a2O U.nO k2O, .slice a2X U.nX k2X, .slice a2I U.nI k2I]) U) := hO
      clear hG hO hb
      clear CX5
      have b0 : w5.cell? ⟨g1, 0, none⟩ = some (.int .i64 U.c) := (G15.out 0 (by decide)).1
      have b1 : w5.cell? ⟨g1, 1, none⟩ = some (.slice a1W U.nW k1W) := (G15.out 1 (by decide)).1
      have b2 : w5.cell? ⟨g1, 2, none⟩ = some (.int .i64 U.g) := (G15.out 2 (by decide)).1
      have b3 : w5.cell? ⟨g1, 3, none⟩ = some (.slice a1O U.nO k1O) := (G15.out 3 (by decide)).1
      have b4 : w5.cell? ⟨g1, 4, none⟩ = some (.slice a1X U.nX k1X) := (G15.out 4 (by decide)).1
      have b5 : w5.cell? ⟨g1, 5, none⟩ = some (.slice a1I U.nI k1I) := (G15.out 5 (by decide)).1
      have lb_ : g1 < w5.heap.size := by omega
      have d0 : w5.cell? ⟨g2, 0, none⟩ = some (.int .i64 U.c) := (G25.out 0 (by decide)).1
      have d1 : w5.cell? ⟨g2, 1, none⟩ = some (.slice a2W U.nW k2W) := (G25.out 1 (by decide)).1
      have d2 : w5.cell? ⟨g2, 2, none⟩ = some (.int .i64 U.g) := (G25.out 2 (by decide)).1
      have d3 : w5.cell? ⟨g2, 3, none⟩ = some (.slice a2O U.nO k2O) := (G25.out 3 (by decide)).1
      have d4 : w5.cell? ⟨g2, 4, none⟩ = some (.slice a2X U.nX k2X) := (G25.out 4 (by decide)).1
      have d5 : w5.cell? ⟨g2, 5, none⟩ = some (.slice a2I U.nI k2I) := (G25.out 5 (by decide)).1
      have ld_ : g2 < w5.heap.size := by omega
      go_wp2_with fail
      clear b0 b1 b2 b3 b4 b5 lb_ d0 d1 d2 d3 d4 d5 ld_
      refine (eqCell _ _ U (HU.out.1.more (by decide)) _ O25.out.at O15.out.at).mono ?_
      rintro e w6 ⟨rfl, hb6⟩
      have y6 : w5.heap.size ≤ w6.heap.size := hb6.size
      have B6 : Hid (Below w.heap.size w w6) := bthen B5.out hb6
      have M6 : Hid (w6.cell? ⟨w.heap.size, 0, none⟩ = some (.int .i64 c) ∧ w6.cell? ⟨w.heap.size, 1, none⟩ = some (.int .i64 d)) := ⟨(hb6.cell (p := ⟨w.heap.size, 0, none⟩) (by show w.heap.size < _; omega)).trans M5.out.1, (hb6.cell (p := ⟨w.heap.size, 1, none⟩) (by show w.heap.size < _; omega)).trans M5.out.2⟩
      have A6 : Hid (Six w6 (w.heap.size + 1) [.int .i64 V.c, .slice aW V.nW kW, .int .i64 V.g, .slice aO V.nO kO, .slice aX V.nX kX, .slice aI V.nI kI]) := A5.out.below (by omega) hb6
      have G16 : Hid (Six w6 g1 [.int .i64 U.c, .slice a1W U.nW k1W, .int .i64 U.g, .slice a1O U.nO k1O, .slice a1X U.nX k1X, .slice a1I U.nI k1I]) := G15.out.below (by omega) hb6
      have O16 : Hid (OwnC l1 h1 w6 (.agg #[.int .i64 U.c, .slice a1W U.nW k1W, .int .i64 U.g, .slice a1O U.nO k1O, .slice a1X U.nX k1X, .slice a1I U.nI k1I]) U) := O15.out.below (by omega) hb6
      have OX6 : Hid (OwnC lx hx w6 (.agg #[.int .i64 V.c, .slice (some ⟨bW, 0, none⟩) V.nW V.nW, .int .i64 V.g, .slice (some ⟨bO, 0, none⟩) V.nO V.nO, .slice (some ⟨bX, 0, none⟩) V.nX V.nX, .slice (some ⟨bI, 0, none⟩) V.nI V.nI]) V) := OX5.out.below (by omega) hb6
      have GX6 : Hid (Six w6 gx [.int .i64 V.c, .slice (some ⟨bW, 0, none⟩) V.nW V.nW, .int .i64 V.g, .slice (some ⟨bO, 0, none⟩) V.nO V.nO, .slice (some ⟨bX, 0, none⟩) V.nX V.nX, .slice (some ⟨bI, 0, none⟩) V.nI V.nI]) := GX5.out.below (by omega) hb6
      have G26 : Hid (Six w6 g2 [.int .i64 U.c, .slice a2W U.nW k2W, .int .i64 U.g, .slice a2O U.nO k2O, .slice a2X U.nX k2X, .slice a2I U.nI k2I]) := G25.out.below (by omega) hb6
      have O26 : Hid (OwnC l2 h2 w6 (.agg #[.int .i64 U.c, .slice a2W U.nW k2W, .int .i64 U.g, .slice a2O U.nO k2O, .slice a2X U.nX k2X, .slice a2I U.nI k2I]) U) := O25.out.below (by omega) hb6
      clear B5 M5 A5 G15 O15 OX5 GX5 G25 O25
      clear hb6
      go_upto_region 10 with fail
      have p0 : w6.cell? ⟨gx, 0, none⟩ = some (.int .i64 V.c) := (GX6.out 0 (by decide)).1
      have p1 : w6.cell? ⟨gx, 1, none⟩ = some (.slice (some ⟨bW, 0, none⟩) V.nW V.nW) := (GX6.out 1 (by decide)).1
      have p2 : w6.cell? ⟨gx, 2, none⟩ = some (.int .i64 V.g) := (GX6.out 2 (by decide)).1
      have p3 : w6.cell? ⟨gx, 3, none⟩ = some (.slice (some ⟨bO, 0, none⟩) V.nO V.nO) := (GX6.out 3 (by decide)).1
      have p4 : w6.cell? ⟨gx, 4, none⟩ = some (.slice (some ⟨bX, 0, none⟩) V.nX V.nX) := (GX6.out 4 (by decide)).1
      have p5 : w6.cell? ⟨gx, 5, none⟩ = some (.slice (some ⟨bI, 0, none⟩) V.nI V.nI) := (GX6.out 5 (by decide)).1
      have lp_ : gx < w6.heap.size := by omega
      have a0 : w6.cell? ⟨w.heap.size + 1, 0, none⟩ = some (.int .i64 V.c) := (A6.out 0 (by decide)).1
      have a1 : w6.cell? ⟨w.heap.size + 1, 1, none⟩ = some (.slice aW V.nW kW) := (A6.out 1 (by decide)).1
      have a2 : w6.cell? ⟨w.heap.size + 1, 2, none⟩ = some (.int .i64 V.g) := (A6.out 2 (by decide)).1
      have a3 : w6.cell? ⟨w.heap.size + 1, 3, none⟩ = some (.slice aO V.nO kO) := (A6.out 3 (by decide)).1
      have a4 : w6.cell? ⟨w.heap.size + 1, 4, none⟩ = some (.slice aX V.nX kX) := (A6.out 4 (by decide)).1
      have a5 : w6.cell? ⟨w.heap.size + 1, 5, none⟩ = some (.slice aI V.nI kI) := (A6.out 5 (by decide)).1
      have la_ : w.heap.size + 1 < w6.heap.size := by omega
      refine wp_region_held_drew (S := fun w' => Below w6.heap.size w6 w') (by kernel_rfl) ((Below.refl _ _).drew) ?_
      intro hHeld
      refine wpAnyH_take (i := 0) (v := .agg #[.int .i64 V.c, .slice (some ⟨bW, 0, none⟩) V.nW V.nW, .int .i64 V.g, .slice (some ⟨bO, 0, none⟩) V.nO V.nO, .slice (some ⟨bX, 0, none⟩) V.nX V.nX, .slice (some ⟨bI, 0, none⟩) V.nI V.nI]) rfl (by kernel_rfl) (by kernel_rfl) (by kernel_rfl) (fun _ _ _ h => h) (Or.inl ⟨by rfl, ?_⟩) (by assumption) ?_
      · intro wx hSw; have xp0 := (hSw.cell (p := ⟨gx, 0, none⟩) (by show gx < _; omega)).trans p0; have xp1 := (hSw.cell (p := ⟨gx, 1, none⟩) (by show gx < _; omega)).trans p1; have xp2 := (hSw.cell (p := ⟨gx, 2, none⟩) (by show gx < _; omega)).trans p2; have xp3 := (hSw.cell (p := ⟨gx, 3, none⟩) (by show gx < _; omega)).trans p3; have xp4 := (hSw.cell (p := ⟨gx, 4, none⟩) (by show gx < _; omega)).trans p4; have xp5 := (hSw.cell (p := ⟨gx, 5, none⟩) (by show gx < _; omega)).trans p5; clear hSw; go_simp
      try simp only [Act.put, List.setIfInBounds_toArray, List.set_cons_zero, List.set_cons_succ, List.getElem_toArray, List.getElem_cons_zero]
      refine wpAnyH_take (i := 1) (v := .agg #[.int .i64 V.c, .slice aW V.nW kW, .int .i64 V.g, .slice aO V.nO kO, .slice aX V.nX kX, .slice aI V.nI kI]) rfl (by kernel_rfl) (by kernel_rfl) (by kernel_rfl) (fun _ _ _ h => h) (Or.inl ⟨by rfl, ?_⟩) (by assumption) ?_
      · intro wx hSw; have xa0 := (hSw.cell (p := ⟨w.heap.size + 1, 0, none⟩) (by show w.heap.size + 1 < _; omega)).trans a0; have xa1 := (hSw.cell (p := ⟨w.heap.size + 1, 1, none⟩) (by show w.heap.size + 1 < _; omega)).trans a1; have xa2 := (hSw.cell (p := ⟨w.heap.size + 1, 2, none⟩) (by show w.heap.size + 1 < _; omega)).trans a2; have xa3 := (hSw.cell (p := ⟨w.heap.size + 1, 3, none⟩) (by show w.heap.size + 1 < _; omega)).trans a3; have xa4 := (hSw.cell (p := ⟨w.heap.size + 1, 4, none⟩) (by show w.heap.size + 1 < _; omega)).trans a4; have xa5 := (hSw.cell (p := ⟨w.heap.size + 1, 5, none⟩) (by show w.heap.size + 1 < _; omega)).trans a5; clear hSw; go_simp
      try simp only [Act.put, List.setIfInBounds_toArray, List.set_cons_zero, List.set_cons_succ, List.getElem_toArray, List.getElem_cons_zero, List.getElem_cons_succ]
      refine wpAnyH_ready (rs := [2]) (by kernel_rfl) (by simp) ?_
      refine AllReadyH.cons rfl (fun K hK => ?_) AllReadyH.nil
      go_simp
      go_wp2_with fail
      refine (toCell _ V HV.out _ (cellAt_below H0.out (bthen B6.out hHeld))).mono ?_
      rintro e x2 ⟨⟨v2, rfl, hC2⟩, hx2⟩
      refine hK.out _ _ (bthen hHeld hx2) (fun hNew => ?_)
      clear hK K hHeld
      have hHeld := hNew
      clear hNew
      try simp only [Act.put, List.setIfInBounds_toArray, List.set_cons_zero, List.set_cons_succ, List.getElem_toArray, List.getElem_cons_zero, List.getElem_cons_succ]
      refine wpAnyH_ready (rs := [3]) (by kernel_rfl) (by simp) ?_
      refine AllReadyH.cons rfl (fun K hK => ?_) AllReadyH.nil
      go_simp
      go_wp2_with fail
      refine (eqCell _ _ V (HV.out.more (by decide)) _ (cellAt_below OX6.out.at hHeld) hC2.at).mono ?_
      rintro e w7 ⟨rfl, hx3⟩
      refine hK.out _ _ (bthen hHeld hx3) (fun hNew => ?_)
      clear hK K hHeld
      have hHeld := hNew
      clear hNew
      try simp only [Act.put, List.setIfInBounds_toArray, List.set_cons_zero, List.set_cons_succ, List.getElem_toArray, List.getElem_cons_zero, List.getElem_cons_succ]
      refine wpAnyH_take (i := 4) (v := .bool false) rfl (by kernel_rfl) (by kernel_rfl) (by kernel_rfl) (fun _ _ _ h => h) (Or.inl ⟨by rfl, ?_⟩) (by assumption) ?_
      · intro wx hSw; go_simp
      try simp only [Act.put, List.setIfInBounds_toArray, List.set_cons_zero, List.set_cons_succ, List.getElem_toArray, List.getElem_cons_zero, List.getElem_cons_succ]
      refine wpAnyH_done (by kernel_rfl) ?_ _
      clear p0 p1 p2 p3 p4 p5 lp_ a0 a1 a2 a3 a4 a5 la_
      clear hC2 hx2 hx3
      have y7 : w6.heap.size ≤ w7.heap.size := hHeld.size
      have B7 : Hid (Below w.heap.size w w7) := bthen B6.out hHeld
      have M7 : Hid (w7.cell? ⟨w.heap.size, 0, none⟩ = some (.int .i64 c) ∧ w7.cell? ⟨w.heap.size, 1, none⟩ = some (.int .i64 d)) := ⟨(hHeld.cell (p := ⟨w.heap.size, 0, none⟩) (by show w.heap.size < _; omega)).trans M6.out.1, (hHeld.cell (p := ⟨w.heap.size, 1, none⟩) (by show w.heap.size < _; omega)).trans M6.out.2⟩
      have A7 : Hid (Six w7 (w.heap.size + 1) [.int .i64 V.c, .slice aW V.nW kW, .int .i64 V.g, .slice aO V.nO kO, .slice aX V.nX kX, .slice aI V.nI kI]) := A6.out.below (by omega) hHeld
      have G17 : Hid (Six w7 g1 [.int .i64 U.c, .slice a1W U.nW k1W, .int .i64 U.g, .slice a1O U.nO k1O, .slice a1X U.nX k1X, .slice a1I U.nI k1I]) := G16.out.below (by omega) hHeld
      have O17 : Hid (OwnC l1 h1 w7 (.agg #[.int .i64 U.c, .slice a1W U.nW k1W, .int .i64 U.g, .slice a1O U.nO k1O, .slice a1X U.nX k1X, .slice a1I U.nI k1I]) U) := O16.out.below (by omega) hHeld
      have OX7 : Hid (OwnC lx hx w7 (.agg #[.int .i64 V.c, .slice (some ⟨bW, 0, none⟩) V.nW V.nW, .int .i64 V.g, .slice (some ⟨bO, 0, none⟩) V.nO V.nO, .slice (some ⟨bX, 0, none⟩) V.nX V.nX, .slice (some ⟨bI, 0, none⟩) V.nI V.nI]) V) := OX6.out.below (by omega) hHeld
      have GX7 : Hid (Six w7 gx [.int .i64 V.c, .slice (some ⟨bW, 0, none⟩) V.nW V.nW, .int .i64 V.g, .slice (some ⟨bO, 0, none⟩) V.nO V.nO, .slice (some ⟨bX, 0, none⟩) V.nX V.nX, .slice (some ⟨bI, 0, none⟩) V.nI V.nI]) := GX6.out.below (by omega) hHeld
      have G27 : Hid (Six w7 g2 [.int .i64 U.c, .slice a2W U.nW k2W, .int .i64 U.g, .slice a2O U.nO k2O, .slice a2X U.nX k2X, .slice a2I U.nI k2I]) := G26.out.below (by omega) hHeld
      have O27 : Hid (OwnC l2 h2 w7 (.agg #[.int .i64 U.c, .slice a2W U.nW k2W, .int .i64 U.g, .slice a2O U.nO k2O, .slice a2X U.nX k2X, .slice a2I U.nI k2I]) U) := O26.out.below (by omega) hHeld
      clear B6 M6 A6 G16 O16 OX6 GX6 G26 O26
      clear hHeld
      have p0 : w7.cell? ⟨gx, 0, none⟩ = some (.int .i64 V.c) := (GX7.out 0 (by decide)).1
      have p1 : w7.cell? ⟨gx, 1, none⟩ = some (.slice (some ⟨bW, 0, none⟩) V.nW V.nW) := (GX7.out 1 (by decide)).1
      have p2 : w7.cell? ⟨gx, 2, none⟩ = some (.int .i64 V.g) := (GX7.out 2 (by decide)).1
      have p3 : w7.cell? ⟨gx, 3, none⟩ = some (.slice (some ⟨bO, 0, none⟩) V.nO V.nO) := (GX7.out 3 (by decide)).1
      have p4 : w7.cell? ⟨gx, 4, none⟩ = some (.slice (some ⟨bX, 0, none⟩) V.nX V.nX) := (GX7.out 4 (by decide)).1
      have p5 : w7.cell? ⟨gx, 5, none⟩ = some (.slice (some ⟨bI, 0, none⟩) V.nI V.nI) := (GX7.out 5 (by decide)).1
      have lp_ : gx < w7.heap.size := by omega
      go_wp2_with fail
      clear p0 p1 p2 p3 p4 p5 lp_
      refine (markC lx hx _ V HF.out _ (by omega) (by omega) OX7.out).mono ?_
      rintro e w8 ⟨rfl, hO, hz, hsm, hbl⟩
      have y8 : w7.heap.size ≤ w8.heap.size := hz
      have B8 : Hid (Below w.heap.size w w8) := B7.out.trans (hbl.mono (by omega))
      have M8 : Hid (w8.cell? ⟨w.heap.size, 0, none⟩ = some (.int .i64 c) ∧ w8.cell? ⟨w.heap.size, 1, none⟩ = some (.int .i64 d)) := ⟨(hsm (w.heap.size) (by omega) (by omega) 0).1.trans M7.out.1, (hsm (w.heap.size) (by omega) (by omega) 1).1.trans M7.out.2⟩
      have A8 : Hid (Six w8 (w.heap.size + 1) [.int .i64 V.c, .slice aW V.nW kW, .int .i64 V.g, .slice aO V.nO kO, .slice aX V.nX kX, .slice aI V.nI kI]) := fun i hi => by have h := hsm (w.heap.size + 1) (by omega) (by omega) i; rw [h.1, h.2]; exact A7.out i hi
      have G18 : Hid (Six w8 g1 [.int .i64 U.c, .slice a1W U.nW k1W, .int .i64 U.g, .slice a1O U.nO k1O, .slice a1X U.nX k1X, .slice a1I U.nI k1I]) := fun i hi => by have h := hsm (g1) (by omega) (by omega) i; rw [h.1, h.2]; exact G17.out i hi
      have O18 : Hid (OwnC l1 h1 w8 (.agg #[.int .i64 U.c, .slice a1W U.nW k1W, .int .i64 U.g, .slice a1O U.nO k1O, .slice a1X U.nX k1X, .slice a1I U.nI k1I]) U) := O17.out.sm hz (fun b q1 q2 => hsm b (by omega) (by omega))
      have GX8 : Hid (Six w8 gx [.int .i64 V.c, .slice (some ⟨bW, 0, none⟩) V.nW V.nW, .int .i64 V.g, .slice (some ⟨bO, 0, none⟩) V.nO V.nO, .slice (some ⟨bX, 0, none⟩) V.nX V.nX, .slice (some ⟨bI, 0, none⟩) V.nI V.nI]) := fun i hi => by have h := hsm (gx) (by omega) (by omega) i; rw [h.1, h.2]; exact GX7.out i hi
      have G28 : Hid (Six w8 g2 [.int .i64 U.c, .slice a2W U.nW k2W, .int .i64 U.g, .slice a2O U.nO k2O, .slice a2X U.nX k2X, .slice a2I U.nI k2I]) := fun i hi => by have h := hsm (g2) (by omega) (by omega) i; rw [h.1, h.2]; exact G27.out i hi
      have O28 : Hid (OwnC l2 h2 w8 (.agg #[.int .i64 U.c, .slice a2W U.nW k2W, .int .i64 U.g, .slice a2O U.nO k2O, .slice a2X U.nX k2X, .slice a2I U.nI k2I]) U) := O27.out.sm hz (fun b q1 q2 => hsm b (by omega) (by omega))
      clear B7 M7 A7 G17 O17 GX7 G27 O27
      clear hO hz hsm hbl OX7
      have nn8 : ¬ ((V.s4 : Nat) : Int) < 0 := by omega
      have b0 : w8.cell? ⟨g1, 0, none⟩ = some (.int .i64 U.c) := (G18.out 0 (by decide)).1
      have b1 : w8.cell? ⟨g1, 1, none⟩ = some (.slice a1W U.nW k1W) := (G18.out 1 (by decide)).1
      have b2 : w8.cell? ⟨g1, 2, none⟩ = some (.int .i64 U.g) := (G18.out 2 (by decide)).1
      have b3 : w8.cell? ⟨g1, 3, none⟩ = some (.slice a1O U.nO k1O) := (G18.out 3 (by decide)).1
      have b4 : w8.cell? ⟨g1, 4, none⟩ = some (.slice a1X U.nX k1X) := (G18.out 4 (by decide)).1
      have b5 : w8.cell? ⟨g1, 5, none⟩ = some (.slice a1I U.nI k1I) := (G18.out 5 (by decide)).1
      have lb_ : g1 < w8.heap.size := by omega
      have d0 : w8.cell? ⟨g2, 0, none⟩ = some (.int .i64 U.c) := (G28.out 0 (by decide)).1
      have d1 : w8.cell? ⟨g2, 1, none⟩ = some (.slice a2W U.nW k2W) := (G28.out 1 (by decide)).1
      have d2 : w8.cell? ⟨g2, 2, none⟩ = some (.int .i64 U.g) := (G28.out 2 (by decide)).1
      have d3 : w8.cell? ⟨g2, 3, none⟩ = some (.slice a2O U.nO k2O) := (G28.out 3 (by decide)).1
      have d4 : w8.cell? ⟨g2, 4, none⟩ = some (.slice a2X U.nX k2X) := (G28.out 4 (by decide)).1
      have d5 : w8.cell? ⟨g2, 5, none⟩ = some (.slice a2I U.nI k2I) := (G28.out 5 (by decide)).1
      have ld_ : g2 < w8.heap.size := by omega
      go_wp2_with fail
      clear b0 b1 b2 b3 b4 b5 lb_ d0 d1 d2 d3 d4 d5 ld_
      refine (eqCell _ _ U (HU.out.1.more (by decide)) _ O28.out.at O18.out.at).mono ?_
      rintro e w9 ⟨rfl, hb9⟩
      have y9 : w8.heap.size ≤ w9.heap.size := hb9.size
      have B9 : Hid (Below w.heap.size w w9) := bthen B8.out hb9
      have M9 : Hid (w9.cell? ⟨w.heap.size, 0, none⟩ = some (.int .i64 c) ∧ w9.cell? ⟨w.heap.size, 1, none⟩ = some (.int .i64 d)) := ⟨(hb9.cell (p := ⟨w.heap.size, 0, none⟩) (by show w.heap.size < _; omega)).trans M8.out.1, (hb9.cell (p := ⟨w.heap.size, 1, none⟩) (by show w.heap.size < _; omega)).trans M8.out.2⟩
      have A9 : Hid (Six w9 (w.heap.size + 1) [.int .i64 V.c, .slice aW V.nW kW, .int .i64 V.g, .slice aO V.nO kO, .slice aX V.nX kX, .slice aI V.nI kI]) := A8.out.below (by omega) hb9
      have G19 : Hid (Six w9 g1 [.int .i64 U.c, .slice a1W U.nW k1W, .int .i64 U.g, .slice a1O U.nO k1O, .slice a1X U.nX k1X, .slice a1I U.nI k1I]) := G18.out.below (by omega) hb9
      have O19 : Hid (OwnC l1 h1 w9 (.agg #[.int .i64 U.c, .slice a1W U.nW k1W, .int .i64 U.g, .slice a1O U.nO k1O, .slice a1X U.nX k1X, .slice a1I U.nI k1I]) U) := O18.out.below (by omega) hb9
      have GX9 : Hid (Six w9 gx [.int .i64 V.c, .slice (some ⟨bW, 0, none⟩) V.nW V.nW, .int .i64 V.g, .slice (some ⟨bO, 0, none⟩) V.nO V.nO, .slice (some ⟨bX, 0, none⟩) V.nX V.nX, .slice (some ⟨bI, 0, none⟩) V.nI V.nI]) := GX8.out.below (by omega) hb9
      have G29 : Hid (Six w9 g2 [.int .i64 U.c, .slice a2W U.nW k2W, .int .i64 U.g, .slice a2O U.nO k2O, .slice a2X U.nX k2X, .slice a2I U.nI k2I]) := G28.out.below (by omega) hb9
      have O29 : Hid (OwnC l2 h2 w9 (.agg #[.int .i64 U.c, .slice a2W U.nW k2W, .int .i64 U.g, .slice a2O U.nO k2O, .slice a2X U.nX k2X, .slice a2I U.nI k2I]) U) := O28.out.below (by omega) hb9
      clear B8 M8 A8 G18 O18 GX8 G28 O28
      clear hb9
      have d0 : w9.cell? ⟨g2, 0, none⟩ = some (.int .i64 U.c) := (G29.out 0 (by decide)).1
      have d1 : w9.cell? ⟨g2, 1, none⟩ = some (.slice a2W U.nW k2W) := (G29.out 1 (by decide)).1
      have d2 : w9.cell? ⟨g2, 2, none⟩ = some (.int .i64 U.g) := (G29.out 2 (by decide)).1
      have d3 : w9.cell? ⟨g2, 3, none⟩ = some (.slice a2O U.nO k2O) := (G29.out 3 (by decide)).1
      have d4 : w9.cell? ⟨g2, 4, none⟩ = some (.slice a2X U.nX k2X) := (G29.out 4 (by decide)).1
      have d5 : w9.cell? ⟨g2, 5, none⟩ = some (.slice a2I U.nI k2I) := (G29.out 5 (by decide)).1
      have ld_ : g2 < w9.heap.size := by omega
      go_wp2_with fail
      clear d0 d1 d2 d3 d4 d5 ld_
      refine (markC l2 h2 _ U HU.out.2 _ (by omega) (by omega) O29.out).mono ?_
      rintro e w10 ⟨rfl, hO, hz, hsm, hbl⟩
      have y10 : w9.heap.size ≤ w10.heap.size := hz
      have B10 : Hid (Below w.heap.size w w10) := B9.out.trans (hbl.mono (by omega))
      have M10 : Hid (w10.cell? ⟨w.heap.size, 0, none⟩ = some (.int .i64 c) ∧ w10.cell? ⟨w.heap.size, 1, none⟩ = some (.int .i64 d)) := ⟨(hsm (w.heap.size) (by omega) (by omega) 0).1.trans M9.out.1, (hsm (w.heap.size) (by omega) (by omega) 1).1.trans M9.out.2⟩
      have A10 : Hid (Six w10 (w.heap.size + 1) [.int .i64 V.c, .slice aW V.nW kW, .int .i64 V.g, .slice aO V.nO kO, .slice aX V.nX kX, .slice aI V.nI kI]) := fun i hi => by have h := hsm (w.heap.size + 1) (by omega) (by omega) i; rw [h.1, h.2]; exact A9.out i hi
      have G110 : Hid (Six w10 g1 [.int .i64 U.c, .slice a1W U.nW k1W, .int .i64 U.g, .slice a1O U.nO k1O, .slice a1X U.nX k1X, .slice a1I U.nI k1I]) := fun i hi => by have h := hsm (g1) (by omega) (by omega) i; rw [h.1, h.2]; exact G19.out i hi
      have O110 : Hid (OwnC l1 h1 w10 (.agg #[.int .i64 U.c, .slice a1W U.nW k1W, .int .i64 U.g, .slice a1O U.nO k1O, .slice a1X U.nX k1X, .slice a1I U.nI k1I]) U) := O19.out.sm hz (fun b q1 q2 => hsm b (by omega) (by omega))
      have GX10 : Hid (Six w10 gx [.int .i64 V.c, .slice (some ⟨bW, 0, none⟩) V.nW V.nW, .int .i64 V.g, .slice (some ⟨bO, 0, none⟩) V.nO V.nO, .slice (some ⟨bX, 0, none⟩) V.nX V.nX, .slice (some ⟨bI, 0, none⟩) V.nI V.nI]) := fun i hi => by have h := hsm (gx) (by omega) (by omega) i; rw [h.1, h.2]; exact GX9.out i hi
      have G210 : Hid (Six w10 g2 [.int .i64 U.c, .slice a2W U.nW k2W, .int .i64 U.g, .slice a2O U.nO k2O, .slice a2X U.nX k2X, .slice a2I U.nI k2I]) := fun i hi => by have h := hsm (g2) (by omega) (by omega) i; rw [h.1, h.2]; exact G29.out i hi
      clear B9 M9 A9 G19 O19 GX9 G29
      have O210 : Hid (OwnC l2 h2 w10 (.agg #[.int .i64 U.c, .slice a2W U.nW k2W, .int .i64 U.g, .slice a2O U.nO k2O, .slice a2X U.nX k2X, .slice a2I U.nI k2I]) U.marked) := hO
      clear hO hz hsm hbl O29
      have nn10 : ¬ ((U.s4 : Nat) : Int) < 0 := by omega
      have d0 : w10.cell? ⟨g2, 0, none⟩ = some (.int .i64 U.c) := (G210.out 0 (by decide)).1
      have d1 : w10.cell? ⟨g2, 1, none⟩ = some (.slice a2W U.nW k2W) := (G210.out 1 (by decide)).1
      have d2 : w10.cell? ⟨g2, 2, none⟩ = some (.int .i64 U.g) := (G210.out 2 (by decide)).1
      have d3 : w10.cell? ⟨g2, 3, none⟩ = some (.slice a2O U.nO k2O) := (G210.out 3 (by decide)).1
      have d4 : w10.cell? ⟨g2, 4, none⟩ = some (.slice a2X U.nX k2X) := (G210.out 4 (by decide)).1
      have d5 : w10.cell? ⟨g2, 5, none⟩ = some (.slice a2I U.nI k2I) := (G210.out 5 (by decide)).1
      have ld_ : g2 < w10.heap.size := by omega
      go_wp2_with fail
      clear d0 d1 d2 d3 d4 d5 ld_
      refine (heldC l2 h2 _ U HU.out.2 _ (by omega) O210.out).mono ?_
      rintro e w11 ⟨rfl, hb11⟩
      have y11 : w10.heap.size ≤ w11.heap.size := hb11.size
      have B11 : Hid (Below w.heap.size w w11) := bthen B10.out hb11
      have M11 : Hid (w11.cell? ⟨w.heap.size, 0, none⟩ = some (.int .i64 c) ∧ w11.cell? ⟨w.heap.size, 1, none⟩ = some (.int .i64 d)) := ⟨(hb11.cell (p := ⟨w.heap.size, 0, none⟩) (by show w.heap.size < _; omega)).trans M10.out.1, (hb11.cell (p := ⟨w.heap.size, 1, none⟩) (by show w.heap.size < _; omega)).trans M10.out.2⟩
      have A11 : Hid (Six w11 (w.heap.size + 1) [.int .i64 V.c, .slice aW V.nW kW, .int .i64 V.g, .slice aO V.nO kO, .slice aX V.nX kX, .slice aI V.nI kI]) := A10.out.below (by omega) hb11
      have G111 : Hid (Six w11 g1 [.int .i64 U.c, .slice a1W U.nW k1W, .int .i64 U.g, .slice a1O U.nO k1O, .slice a1X U.nX k1X, .slice a1I U.nI k1I]) := G110.out.below (by omega) hb11
      have O111 : Hid (OwnC l1 h1 w11 (.agg #[.int .i64 U.c, .slice a1W U.nW k1W, .int .i64 U.g, .slice a1O U.nO k1O, .slice a1X U.nX k1X, .slice a1I U.nI k1I]) U) := O110.out.below (by omega) hb11
      have GX11 : Hid (Six w11 gx [.int .i64 V.c, .slice (some ⟨bW, 0, none⟩) V.nW V.nW, .int .i64 V.g, .slice (some ⟨bO, 0, none⟩) V.nO V.nO, .slice (some ⟨bX, 0, none⟩) V.nX V.nX, .slice (some ⟨bI, 0, none⟩) V.nI V.nI]) := GX10.out.below (by omega) hb11
      have G211 : Hid (Six w11 g2 [.int .i64 U.c, .slice a2W U.nW k2W, .int .i64 U.g, .slice a2O U.nO k2O, .slice a2X U.nX k2X, .slice a2I U.nI k2I]) := G210.out.below (by omega) hb11
      have O211 : Hid (OwnC l2 h2 w11 (.agg #[.int .i64 U.c, .slice a2W U.nW k2W, .int .i64 U.g, .slice a2O U.nO k2O, .slice a2X U.nX k2X, .slice a2I U.nI k2I]) U.marked) := O210.out.below (by omega) hb11
      clear B10 M10 A10 G110 O110 GX10 G210 O210
      clear hb11
      go_upto_region 24 with fail
      go_cut [18, 19] (fun s t wx => ∃ g l h a3W k3W a3O k3O a3X k3X a3I k3I, .pointer (some ⟨g, 0, none⟩) = s ∧ .bool T = t ∧ Six wx g [.int .i64 U.c, .slice a3W U.nW k3W, .int .i64 U.g, .slice a3O U.nO k3O, .slice a3X U.nX k3X, .slice a3I U.nI k3I] ∧ OwnC l h wx (.agg #[.int .i64 U.c, .slice a3W U.nW k3W, .int .i64 U.g, .slice a3O U.nO k3O, .slice a3X U.nX k3X, .slice a3I U.nI k3I]) U ∧ (w11.heap.size ≤ g ∧ g < wx.heap.size ∧ w11.heap.size ≤ l ∧ l ≤ h ∧ h ≤ wx.heap.size ∧ (g < l ∨ h ≤ g)) ∧ Below w11.heap.size w11 wx)
      case first =>
        have m0 : w11.cell? ⟨w.heap.size, 0, none⟩ = some (.int .i64 c) := M11.out.1
        have m1 : w11.cell? ⟨w.heap.size, 1, none⟩ = some (.int .i64 d) := M11.out.2
        have lM : w.heap.size < w11.heap.size := by omega
        have a0 : w11.cell? ⟨w.heap.size + 1, 0, none⟩ = some (.int .i64 V.c) := (A11.out 0 (by decide)).1
        have a1 : w11.cell? ⟨w.heap.size + 1, 1, none⟩ = some (.slice aW V.nW kW) := (A11.out 1 (by decide)).1
        have a2 : w11.cell? ⟨w.heap.size + 1, 2, none⟩ = some (.int .i64 V.g) := (A11.out 2 (by decide)).1
        have a3 : w11.cell? ⟨w.heap.size + 1, 3, none⟩ = some (.slice aO V.nO kO) := (A11.out 3 (by decide)).1
        have a4 : w11.cell? ⟨w.heap.size + 1, 4, none⟩ = some (.slice aX V.nX kX) := (A11.out 4 (by decide)).1
        have a5 : w11.cell? ⟨w.heap.size + 1, 5, none⟩ = some (.slice aI V.nI kI) := (A11.out 5 (by decide)).1
        have la_ : w.heap.size + 1 < w11.heap.size := by omega
        refine wp_region_held_drew (S := fun w' => Below w11.heap.size w11 w') (by kernel_rfl) ((Below.refl _ _).drew) ?_
        intro hHeld
        refine wpAnyH_take (i := 0) (v := .agg #[.int .i64 c, .int .i64 d]) rfl (by kernel_rfl) (by kernel_rfl) (by kernel_rfl) (fun _ _ _ h => h) (Or.inl ⟨by rfl, ?_⟩) (by assumption) ?_
        · intro wx hSw; have xm0 := (hSw.cell (p := ⟨w.heap.size, 0, none⟩) (by show w.heap.size < _; omega)).trans m0; have xm1 := (hSw.cell (p := ⟨w.heap.size, 1, none⟩) (by show w.heap.size < _; omega)).trans m1; clear hSw; go_simp
        try simp only [Act.put, List.setIfInBounds_toArray, List.set_cons_zero, List.set_cons_succ, List.getElem_toArray, List.getElem_cons_zero]
        refine wpAnyH_take (i := 2) (v := .agg #[.int .i64 V.c, .slice aW V.nW kW, .int .i64 V.g, .slice aO V.nO kO, .slice aX V.nX kX, .slice aI V.nI kI]) rfl (by kernel_rfl) (by kernel_rfl) (by kernel_rfl) (fun _ _ _ h => h) (Or.inl ⟨by rfl, ?_⟩) (by assumption) ?_
        · intro wx hSw; have xa0 := (hSw.cell (p := ⟨w.heap.size + 1, 0, none⟩) (by show w.heap.size + 1 < _; omega)).trans a0; have xa1 := (hSw.cell (p := ⟨w.heap.size + 1, 1, none⟩) (by show w.heap.size + 1 < _; omega)).trans a1; have xa2 := (hSw.cell (p := ⟨w.heap.size + 1, 2, none⟩) (by show w.heap.size + 1 < _; omega)).trans a2; have xa3 := (hSw.cell (p := ⟨w.heap.size + 1, 3, none⟩) (by show w.heap.size + 1 < _; omega)).trans a3; have xa4 := (hSw.cell (p := ⟨w.heap.size + 1, 4, none⟩) (by show w.heap.size + 1 < _; omega)).trans a4; have xa5 := (hSw.cell (p := ⟨w.heap.size + 1, 5, none⟩) (by show w.heap.size + 1 < _; omega)).trans a5; clear hSw; go_simp
        try simp only [Act.put, List.setIfInBounds_toArray, List.set_cons_zero, List.set_cons_succ, List.getElem_toArray, List.getElem_cons_zero, List.getElem_cons_succ]
        refine wpAnyH_take (i := 4) (v := .int .i64 side) rfl (by kernel_rfl) (by kernel_rfl) (by kernel_rfl) (fun _ _ _ h => h) (Or.inl ⟨by rfl, ?_⟩) (by assumption) ?_
        · intro wx hSw; go_simp
        try simp only [Act.put, List.setIfInBounds_toArray, List.set_cons_zero, List.set_cons_succ, List.getElem_toArray, List.getElem_cons_zero, List.getElem_cons_succ]
        refine wpAnyH_take (i := 5) (v := .int .i64 z) rfl (by kernel_rfl) (by kernel_rfl) (by kernel_rfl) (fun _ _ _ h => h) (Or.inl ⟨by rfl, ?_⟩) (by assumption) ?_
        · intro wx hSw; go_simp
        try simp only [Act.put, List.setIfInBounds_toArray, List.set_cons_zero, List.set_cons_succ, List.getElem_toArray, List.getElem_cons_zero, List.getElem_cons_succ]
        refine wpAnyH_ready (rs := [1, 10]) (by kernel_rfl) (by simp) ?_
        refine AllReadyH.cons rfl (fun K hK => ?_) (AllReadyH.cons rfl (fun K hK => ?_) AllReadyH.nil)
        · go_simp
          go_wp2_with fail
          refine (toMap _ _ _).mono ?_
          rintro e x1 ⟨rfl, hx1⟩
          have hs1 := hx1.size
          have hl1 := hHeld.size
          refine hK.out _ _ (bthen hHeld hx1) (fun hNew => ?_)
          clear hK K hHeld
          have hHeld := hNew
          clear hNew
          try simp only [Act.put, List.setIfInBounds_toArray, List.set_cons_zero, List.set_cons_succ, List.getElem_toArray, List.getElem_cons_zero, List.getElem_cons_succ]
          refine wpAnyH_ready (rs := [3, 10]) (by kernel_rfl) (by simp) ?_
          refine AllReadyH.cons rfl (fun K hK => ?_) (AllReadyH.cons rfl (fun K hK => ?_) AllReadyH.nil)
          · go_simp
            go_wp2_with fail
            refine (toCell _ V HV.out _ (cellAt_below H0.out (bthen B11.out hHeld))).mono ?_
            rintro e x3 ⟨⟨v3, rfl, hC⟩, hx3⟩
            have hs3 := hx3.size
            have hl3 := hHeld.size
            refine hK.out _ _ (bthen hHeld hx3) (fun hNew => ?_)
            clear hK K hHeld
            have hHeld := hNew
            clear hNew
            try simp only [Act.put, List.setIfInBounds_toArray, List.set_cons_zero, List.set_cons_succ, List.getElem_toArray, List.getElem_cons_zero, List.getElem_cons_succ]
            refine wpAnyH_ready (rs := [6, 10]) (by kernel_rfl) (by simp) ?_
            refine AllReadyH.cons rfl (fun K hK => ?_) (AllReadyH.cons rfl (fun K hK => ?_) AllReadyH.nil)
            · go_simp
              go_wp2_with fail
              refine (ack_impl c d _ V _ side z HV.out hwf.out _ hC).mono ?_
              rintro e x6 ⟨⟨u, tt, rfl, ht, hO⟩, hx6⟩
              subst ht
              rw [EU.out] at hO
              rw [ET.out]
              obtain ⟨a3W, k3W, a3O, k3O, a3X, k3X, a3I, k3I, rfl, _, _, _, _⟩ := hO.at
              have hs6 := hx6.size
              have hl6 := hHeld.size
              refine hK.out _ _ (bthen hHeld hx6) (fun hNew => ?_)
              clear hK K hHeld
              have hHeld := hNew
              clear hNew
              try simp only [Act.put, List.setIfInBounds_toArray, List.set_cons_zero, List.set_cons_succ, List.getElem_toArray, List.getElem_cons_zero, List.getElem_cons_succ]
              refine wpAnyH_take (i := 7) (v := .tuple #[.agg #[.int .i64 U.c, .slice a3W U.nW k3W, .int .i64 U.g, .slice a3O U.nO k3O, .slice a3X U.nX k3X, .slice a3I U.nI k3I], .bool T]) rfl (by kernel_rfl) (by kernel_rfl) (by kernel_rfl) (fun _ _ _ h => h) (Or.inl ⟨by rfl, ?_⟩) (by assumption) ?_
              · intro wx hSw; go_simp
              try simp only [Act.put, List.setIfInBounds_toArray, List.set_cons_zero, List.set_cons_succ, List.getElem_toArray, List.getElem_cons_zero, List.getElem_cons_succ]
              refine wpAnyH_take (i := 8) (v := .agg #[.int .i64 U.c, .slice a3W U.nW k3W, .int .i64 U.g, .slice a3O U.nO k3O, .slice a3X U.nX k3X, .slice a3I U.nI k3I]) rfl (by kernel_rfl) (by kernel_rfl) (by kernel_rfl) (fun _ _ _ h => h) (Or.inl ⟨by rfl, ?_⟩) (by assumption) ?_
              · intro wx hSw; go_simp
              try simp only [Act.put, List.setIfInBounds_toArray, List.set_cons_zero, List.set_cons_succ, List.getElem_toArray, List.getElem_cons_zero, List.getElem_cons_succ]
              refine wpAnyH_take (i := 9) (v := .bool T) rfl (by kernel_rfl) (by kernel_rfl) (by kernel_rfl) (fun _ _ _ h => h) (Or.inl ⟨by rfl, ?_⟩) (by assumption) ?_
              · intro wx hSw; go_simp
              try simp only [Act.put, List.setIfInBounds_toArray, List.set_cons_zero, List.set_cons_succ, List.getElem_toArray, List.getElem_cons_zero, List.getElem_cons_succ]
              have hP := hHeld
              have hPs := hHeld.size
              refine wpAnyH_ready (rs := [10]) (by kernel_rfl) (by simp) ?_
              refine AllReadyH.cons rfl (fun K hK => ?_) AllReadyH.nil
              go_simp
              have hZ : Six (x6.alloc (.cells #[.int .i64 0, .slice none 0 0, .int .i64 0, .slice none 0 0, .slice none 0 0, .slice none 0 0] 37)) x6.heap.size [.int .i64 0, .slice none 0 0, .int .i64 0, .slice none 0 0, .slice none 0 0, .slice none 0 0] := six_new x6 37 (.int .i64 0) (.slice none 0 0) (.int .i64 0) (.slice none 0 0) (.slice none 0 0) (.slice none 0 0)
              have hzA : (x6.alloc (.cells #[.int .i64 0, .slice none 0 0, .int .i64 0, .slice none 0 0, .slice none 0 0, .slice none 0 0] 37)).heap.size = x6.heap.size + 1 := World.size_alloc x6 _
              have hl0 := hHeld.size
              refine hK.out _ _ (hHeld.alloc (by first | exact hHeld.size | omega) _) (fun hNew => ?_)
              clear hK K hHeld
              have hHeld := hNew
              clear hNew
              try simp only [Act.put, List.setIfInBounds_toArray, List.set_cons_zero, List.set_cons_succ, List.getElem_toArray, List.getElem_cons_zero, List.getElem_cons_succ]
              refine wpAnyH_ready (rs := [11]) (by kernel_rfl) (by simp) ?_
              refine AllReadyH.cons rfl (fun K hK => ?_) AllReadyH.nil
              go_simp
              refine hK.out _ _ (hP.alloc hPs _) (fun hNew => ?_)
              clear hK K hHeld
              have hHeld := hNew
              clear hNew
              try simp only [Act.put, List.setIfInBounds_toArray, List.set_cons_zero, List.set_cons_succ, List.getElem_toArray, List.getElem_cons_zero, List.getElem_cons_succ]
              refine wpAnyH_take (i := 12) (v := .bool T) rfl (by kernel_rfl) (by kernel_rfl) (by kernel_rfl) (fun _ _ _ h => h) (Or.inl ⟨by rfl, ?_⟩) (by assumption) ?_
              · intro wx hSw; go_simp
              try simp only [Act.put, List.setIfInBounds_toArray, List.set_cons_zero, List.set_cons_succ, List.getElem_toArray, List.getElem_cons_zero, List.getElem_cons_succ]
              refine wpAnyH_done (by kernel_rfl) ?_ _
              have hz : (x6.alloc (.cells #[.int .i64 U.c, .slice a3W U.nW k3W, .int .i64 U.g, .slice a3O U.nO k3O, .slice a3X U.nX k3X, .slice a3I U.nI k3I] 37)).heap.size = x6.heap.size + 1 := World.size_alloc x6 _
              go_wp2
              go_meet
              case rel => exact ⟨x6.heap.size, _, _, a3W, k3W, a3O, k3O, a3X, k3X, a3I, k3I, rfl, rfl, six_new x6 37 (.int .i64 U.c) (.slice a3W U.nW k3W) (.int .i64 U.g) (.slice a3O U.nO k3O) (.slice a3X U.nX k3X) (.slice a3I U.nI k3I), hO.below (Nat.le_refl _) ((Below.refl _ _).alloc (Nat.le_refl _) _), ⟨by omega, by omega, by omega, by omega, by omega, by omega⟩, hHeld⟩
            · go_simp
              have hZ : Six (x3.alloc (.cells #[.int .i64 0, .slice none 0 0, .int .i64 0, .slice none 0 0, .slice none 0 0, .slice none 0 0] 37)) x3.heap.size [.int .i64 0, .slice none 0 0, .int .i64 0, .slice none 0 0, .slice none 0 0, .slice none 0 0] := six_new x3 37 (.int .i64 0) (.slice none 0 0) (.int .i64 0) (.slice none 0 0) (.slice none 0 0) (.slice none 0 0)
              have hD := hC.below (w' := (x3.alloc (.cells #[.int .i64 0, .slice none 0 0, .int .i64 0, .slice none 0 0, .slice none 0 0, .slice none 0 0] 37))) ((Below.refl _ _).alloc (Nat.le_refl _) _)
              have hzA : (x3.alloc (.cells #[.int .i64 0, .slice none 0 0, .int .i64 0, .slice none 0 0, .slice none 0 0, .slice none 0 0] 37)).heap.size = x3.heap.size + 1 := World.size_alloc x3 _
              have hl0 := hHeld.size
              refine hK.out _ _ (hHeld.alloc (by first | exact hHeld.size | omega) _) (fun hNew => ?_)
              clear hK K hHeld
              have hHeld := hNew
              clear hNew
              try simp only [Act.put, List.setIfInBounds_toArray, List.set_cons_zero, List.set_cons_succ, List.getElem_toArray, List.getElem_cons_zero, List.getElem_cons_succ]
              refine wpAnyH_ready (rs := [6]) (by kernel_rfl) (by simp) ?_
              refine AllReadyH.cons rfl (fun K hK => ?_) AllReadyH.nil
              go_simp
              go_wp2_with fail
              refine (ack_impl c d _ V _ side z HV.out hwf.out _ hD).mono ?_
              rintro e x6 ⟨⟨u, tt, rfl, ht, hO⟩, hx6⟩
              subst ht
              rw [EU.out] at hO
              rw [ET.out]
              obtain ⟨a3W, k3W, a3O, k3O, a3X, k3X, a3I, k3I, rfl, _, _, _, _⟩ := hO.at
              have hs6 := hx6.size
              have hl6 := hHeld.size
              have hZ6 := hZ.below (by first | (simp; done) | (simp; omega) | omega) hx6
              clear hZ
              have hZ := hZ6
              clear hZ6
              refine hK.out _ _ (bthen hHeld hx6) (fun hNew => ?_)
              clear hK K hHeld
              have hHeld := hNew
              clear hNew
              try simp only [Act.put, List.setIfInBounds_toArray, List.set_cons_zero, List.set_cons_succ, List.getElem_toArray, List.getElem_cons_zero, List.getElem_cons_succ]
              refine wpAnyH_take (i := 7) (v := .tuple #[.agg #[.int .i64 U.c, .slice a3W U.nW k3W, .int .i64 U.g, .slice a3O U.nO k3O, .slice a3X U.nX k3X, .slice a3I U.nI k3I], .bool T]) rfl (by kernel_rfl) (by kernel_rfl) (by kernel_rfl) (fun _ _ _ h => h) (Or.inl ⟨by rfl, ?_⟩) (by assumption) ?_
              · intro wx hSw; go_simp
              try simp only [Act.put, List.setIfInBounds_toArray, List.set_cons_zero, List.set_cons_succ, List.getElem_toArray, List.getElem_cons_zero, List.getElem_cons_succ]
              refine wpAnyH_take (i := 8) (v := .agg #[.int .i64 U.c, .slice a3W U.nW k3W, .int .i64 U.g, .slice a3O U.nO k3O, .slice a3X U.nX k3X, .slice a3I U.nI k3I]) rfl (by kernel_rfl) (by kernel_rfl) (by kernel_rfl) (fun _ _ _ h => h) (Or.inl ⟨by rfl, ?_⟩) (by assumption) ?_
              · intro wx hSw; go_simp
              try simp only [Act.put, List.setIfInBounds_toArray, List.set_cons_zero, List.set_cons_succ, List.getElem_toArray, List.getElem_cons_zero, List.getElem_cons_succ]
              refine wpAnyH_take (i := 9) (v := .bool T) rfl (by kernel_rfl) (by kernel_rfl) (by kernel_rfl) (fun _ _ _ h => h) (Or.inl ⟨by rfl, ?_⟩) (by assumption) ?_
              · intro wx hSw; go_simp
              try simp only [Act.put, List.setIfInBounds_toArray, List.set_cons_zero, List.set_cons_succ, List.getElem_toArray, List.getElem_cons_zero, List.getElem_cons_succ]
              refine wpAnyH_ready (rs := [11]) (by kernel_rfl) (by simp) ?_
              refine AllReadyH.cons rfl (fun K hK => ?_) AllReadyH.nil
              have hZK : Hid (Six x6 (x3.heap.size) [.int .i64 0, .slice none 0 0, .int .i64 0, .slice none 0 0, .slice none 0 0, .slice none 0 0]) := hZ
              have r0 := (hZ 0 (by decide)).1
              have r1 := (hZ 1 (by decide)).1
              have r2 := (hZ 2 (by decide)).1
              have r3 := (hZ 3 (by decide)).1
              have r4 := (hZ 4 (by decide)).1
              have r5 := (hZ 5 (by decide)).1
              have f0 := (hZ 0 (by decide)).2
              have f1 := (hZ 1 (by decide)).2
              have f2 := (hZ 2 (by decide)).2
              have f3 := (hZ 3 (by decide)).2
              have f4 := (hZ 4 (by decide)).2
              have f5 := (hZ 5 (by decide)).2
              clear hZ
              have hgk : w11.heap.size ≤ x3.heap.size := by first | exact Nat.le_refl _ | omega
              go_simp
              refine hK.out _ _ (below_put6 hHeld hgk (.int .i64 U.c) (.slice a3W U.nW k3W) (.int .i64 U.g) (.slice a3O U.nO k3O) (.slice a3X U.nX k3X) (.slice a3I U.nI k3I)) (fun hNew => ?_)
              clear hK K hHeld
              have hHeld := hNew
              clear hNew
              try simp only [Act.put, List.setIfInBounds_toArray, List.set_cons_zero, List.set_cons_succ, List.getElem_toArray, List.getElem_cons_zero, List.getElem_cons_succ]
              clear r0 f0 r1 f1 r2 f2 r3 f3 r4 f4 r5 f5
              refine wpAnyH_take (i := 12) (v := .bool T) rfl (by kernel_rfl) (by kernel_rfl) (by kernel_rfl) (fun _ _ _ h => h) (Or.inl ⟨by rfl, ?_⟩) (by assumption) ?_
              · intro wx hSw; go_simp
              try simp only [Act.put, List.setIfInBounds_toArray, List.set_cons_zero, List.set_cons_succ, List.getElem_toArray, List.getElem_cons_zero, List.getElem_cons_succ]
              refine wpAnyH_done (by kernel_rfl) ?_ _
              have hz := size_put6 x6 (x3.heap.size) (.int .i64 U.c) (.slice a3W U.nW k3W) (.int .i64 U.g) (.slice a3O U.nO k3O) (.slice a3X U.nX k3X) (.slice a3I U.nI k3I)
              go_wp2
              go_meet
              case rel => exact ⟨x3.heap.size, _, _, a3W, k3W, a3O, k3O, a3X, k3X, a3I, k3I, rfl, rfl, six_put hZK.out (.int .i64 U.c) (.slice a3W U.nW k3W) (.int .i64 U.g) (.slice a3O U.nO k3O) (.slice a3X U.nX k3X) (.slice a3I U.nI k3I), OwnC.sm hO (Nat.le_of_eq hz.symm) (fun b q1 q2 => sm_put6 (by omega) (.int .i64 U.c) (.slice a3W U.nW k3W) (.int .i64 U.g) (.slice a3O U.nO k3O) (.slice a3X U.nX k3X) (.slice a3I U.nI k3I)), ⟨by omega, by show x3.heap.size < (put6 x6 (x3.heap.size) (.int .i64 U.c) (.slice a3W U.nW k3W) (.int .i64 U.g) (.slice a3O U.nO k3O) (.slice a3X U.nX k3X) (.slice a3I U.nI k3I)).heap.size; rw [hz]; omega, by omega, by omega, by show _ ≤ (put6 x6 (x3.heap.size) (.int .i64 U.c) (.slice a3W U.nW k3W) (.int .i64 U.g) (.slice a3O U.nO k3O) (.slice a3X U.nX k3X) (.slice a3I U.nI k3I)).heap.size; rw [hz]; omega, by omega⟩, hHeld⟩
          · go_simp
            have hZ : Six (x1.alloc (.cells #[.int .i64 0, .slice none 0 0, .int .i64 0, .slice none 0 0, .slice none 0 0, .slice none 0 0] 37)) x1.heap.size [.int .i64 0, .slice none 0 0, .int .i64 0, .slice none 0 0, .slice none 0 0, .slice none 0 0] := six_new x1 37 (.int .i64 0) (.slice none 0 0) (.int .i64 0) (.slice none 0 0) (.slice none 0 0) (.slice none 0 0)
            have hzA : (x1.alloc (.cells #[.int .i64 0, .slice none 0 0, .int .i64 0, .slice none 0 0, .slice none 0 0, .slice none 0 0] 37)).heap.size = x1.heap.size + 1 := World.size_alloc x1 _
            have hl0 := hHeld.size
            refine hK.out _ _ (hHeld.alloc (by first | exact hHeld.size | omega) _) (fun hNew => ?_)
            clear hK K hHeld
            have hHeld := hNew
            clear hNew
            try simp only [Act.put, List.setIfInBounds_toArray, List.set_cons_zero, List.set_cons_succ, List.getElem_toArray, List.getElem_cons_zero, List.getElem_cons_succ]
            refine wpAnyH_ready (rs := [3]) (by kernel_rfl) (by simp) ?_
            refine AllReadyH.cons rfl (fun K hK => ?_) AllReadyH.nil
            go_simp
            go_wp2_with fail
            refine (toCell _ V HV.out _ (cellAt_below H0.out (bthen B11.out hHeld))).mono ?_
            rintro e x3 ⟨⟨v3, rfl, hC⟩, hx3⟩
            have hs3 := hx3.size
            have hl3 := hHeld.size
            have hZ3 := hZ.below (by first | (simp; done) | (simp; omega) | omega) hx3
            clear hZ
            have hZ := hZ3
            clear hZ3
            refine hK.out _ _ (bthen hHeld hx3) (fun hNew => ?_)
            clear hK K hHeld
            have hHeld := hNew
            clear hNew
            try simp only [Act.put, List.setIfInBounds_toArray, List.set_cons_zero, List.set_cons_succ, List.getElem_toArray, List.getElem_cons_zero, List.getElem_cons_succ]
            refine wpAnyH_ready (rs := [6]) (by kernel_rfl) (by simp) ?_
            refine AllReadyH.cons rfl (fun K hK => ?_) AllReadyH.nil
            go_simp
            go_wp2_with fail
            refine (ack_impl c d _ V _ side z HV.out hwf.out _ hC).mono ?_
            rintro e x6 ⟨⟨u, tt, rfl, ht, hO⟩, hx6⟩
            subst ht
            rw [EU.out] at hO
            rw [ET.out]
            obtain ⟨a3W, k3W, a3O, k3O, a3X, k3X, a3I, k3I, rfl, _, _, _, _⟩ := hO.at
            have hs6 := hx6.size
            have hl6 := hHeld.size
            have hZ6 := hZ.below (by first | (simp; done) | (simp; omega) | omega) hx6
            clear hZ
            have hZ := hZ6
            clear hZ6
            refine hK.out _ _ (bthen hHeld hx6) (fun hNew => ?_)
            clear hK K hHeld
            have hHeld := hNew
            clear hNew
            try simp only [Act.put, List.setIfInBounds_toArray, List.set_cons_zero, List.set_cons_succ, List.getElem_toArray, List.getElem_cons_zero, List.getElem_cons_succ]
            refine wpAnyH_take (i := 7) (v := .tuple #[.agg #[.int .i64 U.c, .slice a3W U.nW k3W, .int .i64 U.g, .slice a3O U.nO k3O, .slice a3X U.nX k3X, .slice a3I U.nI k3I], .bool T]) rfl (by kernel_rfl) (by kernel_rfl) (by kernel_rfl) (fun _ _ _ h => h) (Or.inl ⟨by rfl, ?_⟩) (by assumption) ?_
            · intro wx hSw; go_simp
            try simp only [Act.put, List.setIfInBounds_toArray, List.set_cons_zero, List.set_cons_succ, List.getElem_toArray, List.getElem_cons_zero, List.getElem_cons_succ]
            refine wpAnyH_take (i := 8) (v := .agg #[.int .i64 U.c, .slice a3W U.nW k3W, .int .i64 U.g, .slice a3O U.nO k3O, .slice a3X U.nX k3X, .slice a3I U.nI k3I]) rfl (by kernel_rfl) (by kernel_rfl) (by kernel_rfl) (fun _ _ _ h => h) (Or.inl ⟨by rfl, ?_⟩) (by assumption) ?_
            · intro wx hSw; go_simp
            try simp only [Act.put, List.setIfInBounds_toArray, List.set_cons_zero, List.set_cons_succ, List.getElem_toArray, List.getElem_cons_zero, List.getElem_cons_succ]
            refine wpAnyH_take (i := 9) (v := .bool T) rfl (by kernel_rfl) (by kernel_rfl) (by kernel_rfl) (fun _ _ _ h => h) (Or.inl ⟨by rfl, ?_⟩) (by assumption) ?_
            · intro wx hSw; go_simp
            try simp only [Act.put, List.setIfInBounds_toArray, List.set_cons_zero, List.set_cons_succ, List.getElem_toArray, List.getElem_cons_zero, List.getElem_cons_succ]
            refine wpAnyH_ready (rs := [11]) (by kernel_rfl) (by simp) ?_
            refine AllReadyH.cons rfl (fun K hK => ?_) AllReadyH.nil
            have hZK : Hid (Six x6 (x1.heap.size) [.int .i64 0, .slice none 0 0, .int .i64 0, .slice none 0 0, .slice none 0 0, .slice none 0 0]) := hZ
            have r0 := (hZ 0 (by decide)).1
            have r1 := (hZ 1 (by decide)).1
            have r2 := (hZ 2 (by decide)).1
            have r3 := (hZ 3 (by decide)).1
            have r4 := (hZ 4 (by decide)).1
            have r5 := (hZ 5 (by decide)).1
            have f0 := (hZ 0 (by decide)).2
            have f1 := (hZ 1 (by decide)).2
            have f2 := (hZ 2 (by decide)).2
            have f3 := (hZ 3 (by decide)).2
            have f4 := (hZ 4 (by decide)).2
            have f5 := (hZ 5 (by decide)).2
            clear hZ
            have hgk : w11.heap.size ≤ x1.heap.size := by first | exact Nat.le_refl _ | omega
            go_simp
            refine hK.out _ _ (below_put6 hHeld hgk (.int .i64 U.c) (.slice a3W U.nW k3W) (.int .i64 U.g) (.slice a3O U.nO k3O) (.slice a3X U.nX k3X) (.slice a3I U.nI k3I)) (fun hNew => ?_)
            clear hK K hHeld
            have hHeld := hNew
            clear hNew
            try simp only [Act.put, List.setIfInBounds_toArray, List.set_cons_zero, List.set_cons_succ, List.getElem_toArray, List.getElem_cons_zero, List.getElem_cons_succ]
            clear r0 f0 r1 f1 r2 f2 r3 f3 r4 f4 r5 f5
            refine wpAnyH_take (i := 12) (v := .bool T) rfl (by kernel_rfl) (by kernel_rfl) (by kernel_rfl) (fun _ _ _ h => h) (Or.inl ⟨by rfl, ?_⟩) (by assumption) ?_
            · intro wx hSw; go_simp
            try simp only [Act.put, List.setIfInBounds_toArray, List.set_cons_zero, List.set_cons_succ, List.getElem_toArray, List.getElem_cons_zero, List.getElem_cons_succ]
            refine wpAnyH_done (by kernel_rfl) ?_ _
            have hz := size_put6 x6 (x1.heap.size) (.int .i64 U.c) (.slice a3W U.nW k3W) (.int .i64 U.g) (.slice a3O U.nO k3O) (.slice a3X U.nX k3X) (.slice a3I U.nI k3I)
            go_wp2
            go_meet
            case rel => exact ⟨x1.heap.size, _, _, a3W, k3W, a3O, k3O, a3X, k3X, a3I, k3I, rfl, rfl, six_put hZK.out (.int .i64 U.c) (.slice a3W U.nW k3W) (.int .i64 U.g) (.slice a3O U.nO k3O) (.slice a3X U.nX k3X) (.slice a3I U.nI k3I), OwnC.sm hO (Nat.le_of_eq hz.symm) (fun b q1 q2 => sm_put6 (by omega) (.int .i64 U.c) (.slice a3W U.nW k3W) (.int .i64 U.g) (.slice a3O U.nO k3O) (.slice a3X U.nX k3X) (.slice a3I U.nI k3I)), ⟨by omega, by show x1.heap.size < (put6 x6 (x1.heap.size) (.int .i64 U.c) (.slice a3W U.nW k3W) (.int .i64 U.g) (.slice a3O U.nO k3O) (.slice a3X U.nX k3X) (.slice a3I U.nI k3I)).heap.size; rw [hz]; omega, by omega, by omega, by show _ ≤ (put6 x6 (x1.heap.size) (.int .i64 U.c) (.slice a3W U.nW k3W) (.int .i64 U.g) (.slice a3O U.nO k3O) (.slice a3X U.nX k3X) (.slice a3I U.nI k3I)).heap.size; rw [hz]; omega, by omega⟩, hHeld⟩
        · go_simp
          have hZ : Six (w11.alloc (.cells #[.int .i64 0, .slice none 0 0, .int .i64 0, .slice none 0 0, .slice none 0 0, .slice none 0 0] 37)).drew w11.heap.size [.int .i64 0, .slice none 0 0, .int .i64 0, .slice none 0 0, .slice none 0 0, .slice none 0 0] := six_new w11 37 (.int .i64 0) (.slice none 0 0) (.int .i64 0) (.slice none 0 0) (.slice none 0 0) (.slice none 0 0)
          have hzA : (w11.alloc (.cells #[.int .i64 0, .slice none 0 0, .int .i64 0, .slice none 0 0, .slice none 0 0, .slice none 0 0] 37)).drew.heap.size = w11.heap.size + 1 := World.size_alloc w11 _
          have hl0 := hHeld.size
          refine hK.out _ _ (hHeld.alloc (by first | exact hHeld.size | omega) _) (fun hNew => ?_)
          clear hK K hHeld
          have hHeld := hNew
          clear hNew
          try simp only [Act.put, List.setIfInBounds_toArray, List.set_cons_zero, List.set_cons_succ, List.getElem_toArray, List.getElem_cons_zero, List.getElem_cons_succ]
          refine wpAnyH_ready (rs := [1]) (by kernel_rfl) (by simp) ?_
          refine AllReadyH.cons rfl (fun K hK => ?_) AllReadyH.nil
          go_simp
          go_wp2_with fail
          refine (toMap _ _ _).mono ?_
          rintro e x1 ⟨rfl, hx1⟩
          have hs1 := hx1.size
          have hl1 := hHeld.size
          have hZ1 := hZ.below (by first | (simp; done) | (simp; omega) | omega) hx1
          clear hZ
          have hZ := hZ1
          clear hZ1
          refine hK.out _ _ (bthen hHeld hx1) (fun hNew => ?_)
          clear hK K hHeld
          have hHeld := hNew
          clear hNew
          try simp only [Act.put, List.setIfInBounds_toArray, List.set_cons_zero, List.set_cons_succ, List.getElem_toArray, List.getElem_cons_zero, List.getElem_cons_succ]
          refine wpAnyH_ready (rs := [3]) (by kernel_rfl) (by simp) ?_
          refine AllReadyH.cons rfl (fun K hK => ?_) AllReadyH.nil
          go_simp
          go_wp2_with fail
          refine (toCell _ V HV.out _ (cellAt_below H0.out (bthen B11.out hHeld))).mono ?_
          rintro e x3 ⟨⟨v3, rfl, hC⟩, hx3⟩
          have hs3 := hx3.size
          have hl3 := hHeld.size
          have hZ3 := hZ.below (by first | (simp; done) | (simp; omega) | omega) hx3
          clear hZ
          have hZ := hZ3
          clear hZ3
          refine hK.out _ _ (bthen hHeld hx3) (fun hNew => ?_)
          clear hK K hHeld
          have hHeld := hNew
          clear hNew
          try simp only [Act.put, List.setIfInBounds_toArray, List.set_cons_zero, List.set_cons_succ, List.getElem_toArray, List.getElem_cons_zero, List.getElem_cons_succ]
          refine wpAnyH_ready (rs := [6]) (by kernel_rfl) (by simp) ?_
          refine AllReadyH.cons rfl (fun K hK => ?_) AllReadyH.nil
          go_simp
          go_wp2_with fail
          refine (ack_impl c d _ V _ side z HV.out hwf.out _ hC).mono ?_
          rintro e x6 ⟨⟨u, tt, rfl, ht, hO⟩, hx6⟩
          subst ht
          rw [EU.out] at hO
          rw [ET.out]
          obtain ⟨a3W, k3W, a3O, k3O, a3X, k3X, a3I, k3I, rfl, _, _, _, _⟩ := hO.at
          have hs6 := hx6.size
          have hl6 := hHeld.size
          have hZ6 := hZ.below (by first | (simp; done) | (simp; omega) | omega) hx6
          clear hZ
          have hZ := hZ6
          clear hZ6
          refine hK.out _ _ (bthen hHeld hx6) (fun hNew => ?_)
          clear hK K hHeld
          have hHeld := hNew
          clear hNew
          try simp only [Act.put, List.setIfInBounds_toArray, List.set_cons_zero, List.set_cons_succ, List.getElem_toArray, List.getElem_cons_zero, List.getElem_cons_succ]
          refine wpAnyH_take (i := 7) (v := .tuple #[.agg #[.int .i64 U.c, .slice a3W U.nW k3W, .int .i64 U.g, .slice a3O U.nO k3O, .slice a3X U.nX k3X, .slice a3I U.nI k3I], .bool T]) rfl (by kernel_rfl) (by kernel_rfl) (by kernel_rfl) (fun _ _ _ h => h) (Or.inl ⟨by rfl, ?_⟩) (by assumption) ?_
          · intro wx hSw; go_simp
          try simp only [Act.put, List.setIfInBounds_toArray, List.set_cons_zero, List.set_cons_succ, List.getElem_toArray, List.getElem_cons_zero, List.getElem_cons_succ]
          refine wpAnyH_take (i := 8) (v := .agg #[.int .i64 U.c, .slice a3W U.nW k3W, .int .i64 U.g, .slice a3O U.nO k3O, .slice a3X U.nX k3X, .slice a3I U.nI k3I]) rfl (by kernel_rfl) (by kernel_rfl) (by kernel_rfl) (fun _ _ _ h => h) (Or.inl ⟨by rfl, ?_⟩) (by assumption) ?_
          · intro wx hSw; go_simp
          try simp only [Act.put, List.setIfInBounds_toArray, List.set_cons_zero, List.set_cons_succ, List.getElem_toArray, List.getElem_cons_zero, List.getElem_cons_succ]
          refine wpAnyH_take (i := 9) (v := .bool T) rfl (by kernel_rfl) (by kernel_rfl) (by kernel_rfl) (fun _ _ _ h => h) (Or.inl ⟨by rfl, ?_⟩) (by assumption) ?_
          · intro wx hSw; go_simp
          try simp only [Act.put, List.setIfInBounds_toArray, List.set_cons_zero, List.set_cons_succ, List.getElem_toArray, List.getElem_cons_zero, List.getElem_cons_succ]
          refine wpAnyH_ready (rs := [11]) (by kernel_rfl) (by simp) ?_
          refine AllReadyH.cons rfl (fun K hK => ?_) AllReadyH.nil
          have hZK : Hid (Six x6 (w11.heap.size) [.int .i64 0, .slice none 0 0, .int .i64 0, .slice none 0 0, .slice none 0 0, .slice none 0 0]) := hZ
          have r0 := (hZ 0 (by decide)).1
          have r1 := (hZ 1 (by decide)).1
          have r2 := (hZ 2 (by decide)).1
          have r3 := (hZ 3 (by decide)).1
          have r4 := (hZ 4 (by decide)).1
          have r5 := (hZ 5 (by decide)).1
          have f0 := (hZ 0 (by decide)).2
          have f1 := (hZ 1 (by decide)).2
          have f2 := (hZ 2 (by decide)).2
          have f3 := (hZ 3 (by decide)).2
          have f4 := (hZ 4 (by decide)).2
          have f5 := (hZ 5 (by decide)).2
          clear hZ
          have hgk : w11.heap.size ≤ w11.heap.size := by first | exact Nat.le_refl _ | omega
          go_simp
          refine hK.out _ _ (below_put6 hHeld hgk (.int .i64 U.c) (.slice a3W U.nW k3W) (.int .i64 U.g) (.slice a3O U.nO k3O) (.slice a3X U.nX k3X) (.slice a3I U.nI k3I)) (fun hNew => ?_)
          clear hK K hHeld
          have hHeld := hNew
          clear hNew
          try simp only [Act.put, List.setIfInBounds_toArray, List.set_cons_zero, List.set_cons_succ, List.getElem_toArray, List.getElem_cons_zero, List.getElem_cons_succ]
          clear r0 f0 r1 f1 r2 f2 r3 f3 r4 f4 r5 f5
          refine wpAnyH_take (i := 12) (v := .bool T) rfl (by kernel_rfl) (by kernel_rfl) (by kernel_rfl) (fun _ _ _ h => h) (Or.inl ⟨by rfl, ?_⟩) (by assumption) ?_
          · intro wx hSw; go_simp
          try simp only [Act.put, List.setIfInBounds_toArray, List.set_cons_zero, List.set_cons_succ, List.getElem_toArray, List.getElem_cons_zero, List.getElem_cons_succ]
          refine wpAnyH_done (by kernel_rfl) ?_ _
          have hz := size_put6 x6 (w11.heap.size) (.int .i64 U.c) (.slice a3W U.nW k3W) (.int .i64 U.g) (.slice a3O U.nO k3O) (.slice a3X U.nX k3X) (.slice a3I U.nI k3I)
          go_wp2
          go_meet
          case rel => exact ⟨w11.heap.size, _, _, a3W, k3W, a3O, k3O, a3X, k3X, a3I, k3I, rfl, rfl, six_put hZK.out (.int .i64 U.c) (.slice a3W U.nW k3W) (.int .i64 U.g) (.slice a3O U.nO k3O) (.slice a3X U.nX k3X) (.slice a3I U.nI k3I), OwnC.sm hO (Nat.le_of_eq hz.symm) (fun b q1 q2 => sm_put6 (by omega) (.int .i64 U.c) (.slice a3W U.nW k3W) (.int .i64 U.g) (.slice a3O U.nO k3O) (.slice a3X U.nX k3X) (.slice a3I U.nI k3I)), ⟨by omega, by show w11.heap.size < (put6 x6 (w11.heap.size) (.int .i64 U.c) (.slice a3W U.nW k3W) (.int .i64 U.g) (.slice a3O U.nO k3O) (.slice a3X U.nX k3X) (.slice a3I U.nI k3I)).heap.size; rw [hz]; omega, by omega, by omega, by show _ ≤ (put6 x6 (w11.heap.size) (.int .i64 U.c) (.slice a3W U.nW k3W) (.int .i64 U.g) (.slice a3O U.nO k3O) (.slice a3X U.nX k3X) (.slice a3I U.nI k3I)).heap.size; rw [hz]; omega, by omega⟩, hHeld⟩
      case rest =>
        obtain ⟨w12, hw12⟩ : ∃ w12, w12 = wc := ⟨_, rfl⟩
        subst hw12
        obtain ⟨g3, l3, h3, a3W, k3W, a3O, k3O, a3X, k3X, a3I, k3I, rfl, rfl, hG, hO, ⟨c31, c32, c33, c34, c35, c36⟩, hb⟩ := hcut
        have y12 : w11.heap.size ≤ w12.heap.size := hb.size
        have B12 : Hid (Below w.heap.size w w12) := bthen B11.out hb
        have M12 : Hid (w12.cell? ⟨w.heap.size, 0, none⟩ = some (.int .i64 c) ∧ w12.cell? ⟨w.heap.size, 1, none⟩ = some (.int .i64 d)) := ⟨(hb.cell (p := ⟨w.heap.size, 0, none⟩) (by show w.heap.size < _; omega)).trans M11.out.1, (hb.cell (p := ⟨w.heap.size, 1, none⟩) (by show w.heap.size < _; omega)).trans M11.out.2⟩
        have A12 : Hid (Six w12 (w.heap.size + 1) [.int .i64 V.c, .slice aW V.nW kW, .int .i64 V.g, .slice aO V.nO kO, .slice aX V.nX kX, .slice aI V.nI kI]) := A11.out.below (by omega) hb
        have G112 : Hid (Six w12 g1 [.int .i64 U.c, .slice a1W U.nW k1W, .int .i64 U.g, .slice a1O U.nO k1O, .slice a1X U.nX k1X, .slice a1I U.nI k1I]) := G111.out.below (by omega) hb
        have O112 : Hid (OwnC l1 h1 w12 (.agg #[.int .i64 U.c, .slice a1W U.nW k1W, .int .i64 U.g, .slice a1O U.nO k1O, .slice a1X U.nX k1X, .slice a1I U.nI k1I]) U) := O111.out.below (by omega) hb
        have GX12 : Hid (Six w12 gx [.int .i64 V.c, .slice (some ⟨bW, 0, none⟩) V.nW V.nW, .int .i64 V.g, .slice (some ⟨bO, 0, none⟩) V.nO V.nO, .slice (some ⟨bX, 0, none⟩) V.nX V.nX, .slice (some ⟨bI, 0, none⟩) V.nI V.nI]) := GX11.out.below (by omega) hb
        have G212 : Hid (Six w12 g2 [.int .i64 U.c, .slice a2W U.nW k2W, .int .i64 U.g, .slice a2O U.nO k2O, .slice a2X U.nX k2X, .slice a2I U.nI k2I]) := G211.out.below (by omega) hb
        have O212 : Hid (OwnC l2 h2 w12 (.agg #[.int .i64 U.c, .slice a2W U.nW k2W, .int .i64 U.g, .slice a2O U.nO k2O, .slice a2X U.nX k2X, .slice a2I U.nI k2I]) U.marked) := O211.out.below (by omega) hb
        clear B11 M11 A11 G111 O111 GX11 G211 O211
        have G312 : Hid (Six w12 g3 [.int .i64 U.c, .slice a3W U.nW k3W, .int .i64 U.g, .slice a3O U.nO k3O, .slice a3X U.nX k3X, .slice a3I U.nI k3I]) := hG
        have O312 : Hid (OwnC l3 h3 w12 (.agg #[.int .i64 U.c, .slice a3W U.nW k3W, .int .i64 U.g, .slice a3O U.nO k3O, .slice a3X U.nX k3X, .slice a3I U.nI k3I]) U) := hO
        clear hG hO hb
        have b0 : w12.cell? ⟨g1, 0, none⟩ = some (.int .i64 U.c) := (G112.out 0 (by decide)).1
        have b1 : w12.cell? ⟨g1, 1, none⟩ = some (.slice a1W U.nW k1W) := (G112.out 1 (by decide)).1
        have b2 : w12.cell? ⟨g1, 2, none⟩ = some (.int .i64 U.g) := (G112.out 2 (by decide)).1
        have b3 : w12.cell? ⟨g1, 3, none⟩ = some (.slice a1O U.nO k1O) := (G112.out 3 (by decide)).1
        have b4 : w12.cell? ⟨g1, 4, none⟩ = some (.slice a1X U.nX k1X) := (G112.out 4 (by decide)).1
        have b5 : w12.cell? ⟨g1, 5, none⟩ = some (.slice a1I U.nI k1I) := (G112.out 5 (by decide)).1
        have lb_ : g1 < w12.heap.size := by omega
        have e0 : w12.cell? ⟨g3, 0, none⟩ = some (.int .i64 U.c) := (G312.out 0 (by decide)).1
        have e1 : w12.cell? ⟨g3, 1, none⟩ = some (.slice a3W U.nW k3W) := (G312.out 1 (by decide)).1
        have e2 : w12.cell? ⟨g3, 2, none⟩ = some (.int .i64 U.g) := (G312.out 2 (by decide)).1
        have e3 : w12.cell? ⟨g3, 3, none⟩ = some (.slice a3O U.nO k3O) := (G312.out 3 (by decide)).1
        have e4 : w12.cell? ⟨g3, 4, none⟩ = some (.slice a3X U.nX k3X) := (G312.out 4 (by decide)).1
        have e5 : w12.cell? ⟨g3, 5, none⟩ = some (.slice a3I U.nI k3I) := (G312.out 5 (by decide)).1
        have le_ : g3 < w12.heap.size := by omega
        go_wp2_with fail
        clear b0 b1 b2 b3 b4 b5 lb_ e0 e1 e2 e3 e4 e5 le_
        refine (eqCell _ _ U (HU.out.1.more (by decide)) _ O312.out.at O112.out.at).mono ?_
        rintro e w13 ⟨rfl, hb13⟩
        have y13 : w12.heap.size ≤ w13.heap.size := hb13.size
        have B13 : Hid (Below w.heap.size w w13) := bthen B12.out hb13
        have M13 : Hid (w13.cell? ⟨w.heap.size, 0, none⟩ = some (.int .i64 c) ∧ w13.cell? ⟨w.heap.size, 1, none⟩ = some (.int .i64 d)) := ⟨(hb13.cell (p := ⟨w.heap.size, 0, none⟩) (by show w.heap.size < _; omega)).trans M12.out.1, (hb13.cell (p := ⟨w.heap.size, 1, none⟩) (by show w.heap.size < _; omega)).trans M12.out.2⟩
        have A13 : Hid (Six w13 (w.heap.size + 1) [.int .i64 V.c, .slice aW V.nW kW, .int .i64 V.g, .slice aO V.nO kO, .slice aX V.nX kX, .slice aI V.nI kI]) := A12.out.below (by omega) hb13
        have G113 : Hid (Six w13 g1 [.int .i64 U.c, .slice a1W U.nW k1W, .int .i64 U.g, .slice a1O U.nO k1O, .slice a1X U.nX k1X, .slice a1I U.nI k1I]) := G112.out.below (by omega) hb13
        have O113 : Hid (OwnC l1 h1 w13 (.agg #[.int .i64 U.c, .slice a1W U.nW k1W, .int .i64 U.g, .slice a1O U.nO k1O, .slice a1X U.nX k1X, .slice a1I U.nI k1I]) U) := O112.out.below (by omega) hb13
        have GX13 : Hid (Six w13 gx [.int .i64 V.c, .slice (some ⟨bW, 0, none⟩) V.nW V.nW, .int .i64 V.g, .slice (some ⟨bO, 0, none⟩) V.nO V.nO, .slice (some ⟨bX, 0, none⟩) V.nX V.nX, .slice (some ⟨bI, 0, none⟩) V.nI V.nI]) := GX12.out.below (by omega) hb13
        have G213 : Hid (Six w13 g2 [.int .i64 U.c, .slice a2W U.nW k2W, .int .i64 U.g, .slice a2O U.nO k2O, .slice a2X U.nX k2X, .slice a2I U.nI k2I]) := G212.out.below (by omega) hb13
        have O213 : Hid (OwnC l2 h2 w13 (.agg #[.int .i64 U.c, .slice a2W U.nW k2W, .int .i64 U.g, .slice a2O U.nO k2O, .slice a2X U.nX k2X, .slice a2I U.nI k2I]) U.marked) := O212.out.below (by omega) hb13
        have G313 : Hid (Six w13 g3 [.int .i64 U.c, .slice a3W U.nW k3W, .int .i64 U.g, .slice a3O U.nO k3O, .slice a3X U.nX k3X, .slice a3I U.nI k3I]) := G312.out.below (by omega) hb13
        have O313 : Hid (OwnC l3 h3 w13 (.agg #[.int .i64 U.c, .slice a3W U.nW k3W, .int .i64 U.g, .slice a3O U.nO k3O, .slice a3X U.nX k3X, .slice a3I U.nI k3I]) U) := O312.out.below (by omega) hb13
        clear B12 M12 A12 G112 O112 GX12 G212 O212 G312 O312
        clear hb13
        have d0 : w13.cell? ⟨g2, 0, none⟩ = some (.int .i64 U.c) := (G213.out 0 (by decide)).1
        have d1 : w13.cell? ⟨g2, 1, none⟩ = some (.slice a2W U.nW k2W) := (G213.out 1 (by decide)).1
        have d2 : w13.cell? ⟨g2, 2, none⟩ = some (.int .i64 U.g) := (G213.out 2 (by decide)).1
        have d3 : w13.cell? ⟨g2, 3, none⟩ = some (.slice a2O U.nO k2O) := (G213.out 3 (by decide)).1
        have d4 : w13.cell? ⟨g2, 4, none⟩ = some (.slice a2X U.nX k2X) := (G213.out 4 (by decide)).1
        have d5 : w13.cell? ⟨g2, 5, none⟩ = some (.slice a2I U.nI k2I) := (G213.out 5 (by decide)).1
        have ld_ : g2 < w13.heap.size := by omega
        go_wp2_with fail
        clear d0 d1 d2 d3 d4 d5 ld_
        refine (heldC l2 h2 _ U HU.out.2 _ (by omega) O213.out).mono ?_
        rintro e w14 ⟨rfl, hb14⟩
        have y14 : w13.heap.size ≤ w14.heap.size := hb14.size
        have B14 : Hid (Below w.heap.size w w14) := bthen B13.out hb14
        have M14 : Hid (w14.cell? ⟨w.heap.size, 0, none⟩ = some (.int .i64 c) ∧ w14.cell? ⟨w.heap.size, 1, none⟩ = some (.int .i64 d)) := ⟨(hb14.cell (p := ⟨w.heap.size, 0, none⟩) (by show w.heap.size < _; omega)).trans M13.out.1, (hb14.cell (p := ⟨w.heap.size, 1, none⟩) (by show w.heap.size < _; omega)).trans M13.out.2⟩
        have A14 : Hid (Six w14 (w.heap.size + 1) [.int .i64 V.c, .slice aW V.nW kW, .int .i64 V.g, .slice aO V.nO kO, .slice aX V.nX kX, .slice aI V.nI kI]) := A13.out.below (by omega) hb14
        have G114 : Hid (Six w14 g1 [.int .i64 U.c, .slice a1W U.nW k1W, .int .i64 U.g, .slice a1O U.nO k1O, .slice a1X U.nX k1X, .slice a1I U.nI k1I]) := G113.out.below (by omega) hb14
        have O114 : Hid (OwnC l1 h1 w14 (.agg #[.int .i64 U.c, .slice a1W U.nW k1W, .int .i64 U.g, .slice a1O U.nO k1O, .slice a1X U.nX k1X, .slice a1I U.nI k1I]) U) := O113.out.below (by omega) hb14
        have GX14 : Hid (Six w14 gx [.int .i64 V.c, .slice (some ⟨bW, 0, none⟩) V.nW V.nW, .int .i64 V.g, .slice (some ⟨bO, 0, none⟩) V.nO V.nO, .slice (some ⟨bX, 0, none⟩) V.nX V.nX, .slice (some ⟨bI, 0, none⟩) V.nI V.nI]) := GX13.out.below (by omega) hb14
        have G214 : Hid (Six w14 g2 [.int .i64 U.c, .slice a2W U.nW k2W, .int .i64 U.g, .slice a2O U.nO k2O, .slice a2X U.nX k2X, .slice a2I U.nI k2I]) := G213.out.below (by omega) hb14
        have O214 : Hid (OwnC l2 h2 w14 (.agg #[.int .i64 U.c, .slice a2W U.nW k2W, .int .i64 U.g, .slice a2O U.nO k2O, .slice a2X U.nX k2X, .slice a2I U.nI k2I]) U.marked) := O213.out.below (by omega) hb14
        have G314 : Hid (Six w14 g3 [.int .i64 U.c, .slice a3W U.nW k3W, .int .i64 U.g, .slice a3O U.nO k3O, .slice a3X U.nX k3X, .slice a3I U.nI k3I]) := G313.out.below (by omega) hb14
        have O314 : Hid (OwnC l3 h3 w14 (.agg #[.int .i64 U.c, .slice a3W U.nW k3W, .int .i64 U.g, .slice a3O U.nO k3O, .slice a3X U.nX k3X, .slice a3I U.nI k3I]) U) := O313.out.below (by omega) hb14
        clear B13 M13 A13 G113 O113 GX13 G213 O213 G313 O313
        go_wp2
        go_ret
        exact ⟨rfl, B14.out⟩

end Go.Proofs.YtoiehmnhfjmfeaaGreat
