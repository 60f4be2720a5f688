/- ArbGrant of the model; conditions: the table lies in memory. -/
import Derived.Test.YtodmfbbicdbjdaaArb9
namespace Go.Proofs.Ytodmfbbicdbjdaa
open Go.RowKit Go.Deep
set_option linter.unusedVariables false

/-- An append of numbers to a list that the call owns, within a region that draws; where the new list lies is told. -/
theorem app_at {w : World} {o : Oper} {a : Act} {K : Act → World → Prop} {Q : Exit → Act → World → Prop} (s x : Operand) (ho : o.op = .call { callee := .builtin .append, args := #[s, x], argTypes := #[25, 25] })
    (base n : Nat) (v : Value) (xs : List Value) (hs : a.eval s = v) (hown : w.ownsRow base 3 1 v n xs) (ad : Addr) (m c : Nat) (news : List Value) (hx : a.eval x = .slice (some ad) m c) (hl : news.length = m * 1)
    (hnews : ∀ j u, news[j]? = some u → w.cell? (ad.add j) = some u) (h1 : ∀ u ∈ news, u.oneCell' = true) (hm : n + m ≤ 2000000) (hb : base ≤ w.heap.size)
    (h : ∀ v' w', w'.ownsRow base 3 1 v' (n + m) (xs ++ news) → w.grownBy w' v.ownBlock → (v'.ownBlock = v.ownBlock ∨ v'.ownBlock = some w.heap.size) → K (a.put o.dst v') w') : o.wp Try.prog a w K Q := by
  obtain ⟨i5, hi5, hzz⟩ := Option.map_eq_some_iff.1 Try.info3
  simp only [Prod.mk.injEq] at hzz
  obtain ⟨hz50, hz51, hz52⟩ := hzz
  obtain ⟨v', w', hr, h2, h3, _, h5⟩ := run_append_own_at (P := Try.prog) w base 25 o.type 3 i5 (.int .i64 0) 1 8 Try.underlying25 hi5 hz50 hz51 hz52 rfl (by decide) v n xs hown ad m c news hl hnews h1 (by unfold maxLen; omega) (by omega) hb
  unfold Oper.wp execOp
  simp only [ho, resolve, invoke, builtin, Sem.run_bind, Sem.run_pure, Result.andThen_ok, List.map_toArray, List.map_cons, List.map_nil, hs, hx, hr]
  exact h v' w' h2 h3 h5

set_option maxHeartbeats 8000000 in
theorem grant_spec (c d : Int) (v : Value) (T : TV) (n cell server : Int) (hs : T.short 1048576) (w : World) (h : TabAt w v T) :
    Calls Try.prog 6 #[.agg #[.int .i64 c, .int .i64 d], v, .int .i64 n, .int .i64 cell, .int .i64 server] w fun e w' => (∃ u t, e = .returned (.tuple #[u, .bool t]) ∧ t = (grantR c d T n cell server).2 ∧ OwnT w.heap.size w'.heap.size w' u (grantR c d T n cell server).1) ∧ Below w.heap.size w w' := by
  obtain ⟨aS, kS, aA, kA, rfl, rS, rA⟩ := h
  have H0 : Hid (TabAt w (.agg #[.slice aS T.nS kS, .slice aA T.nA kA]) T) := ⟨aS, kS, aA, kA, rfl, rS, rA⟩
  have HS : Hid (T.short 1048576) := hs
  have HR : Hid (Row1 w aS T.nS T.S ∧ Row1 w aA T.nA T.A) := ⟨rS, rA⟩
  clear rS rA hs
  go_enter Try.func6, Try.ntmps6
  go_wp2_with fail
  obtain ⟨w0, e0⟩ : ∃ w0, w0 = ((w.alloc (.cells #[.int .i64 c, .int .i64 d] 24)).alloc (.cells #[.slice aS T.nS kS, .slice aA T.nA kA] 27)).alloc (.cells #[.slice none 0 0, .slice none 0 0] 27) := ⟨_, rfl⟩
  have B1 : Hid (Below w.heap.size w w0) := by rw [e0]; exact (((Below.refl _ _).alloc (by simp) _).alloc (by simp) _).alloc (by simp; omega) _
  have M2 : Hid (Bk w0 w.heap.size [.int .i64 c, .int .i64 d]) := by rw [e0]; exact ((bk_new w 24 [.int .i64 c, .int .i64 d]).below ((Below.refl _ _).alloc (Nat.le_refl _) _)).below ((Below.refl _ _).alloc (Nat.le_refl _) _)
  have A3 : Hid (Bk w0 (w.heap.size + 1) [.slice aS T.nS kS, .slice aA T.nA kA]) := by rw [e0]; have := (bk_new (w.alloc (.cells #[.int .i64 c, .int .i64 d] 24)) 27 [.slice aS T.nS kS, .slice aA T.nA kA]).below ((Below.refl _ _).alloc (Nat.le_refl _) (.cells #[.slice none 0 0, .slice none 0 0] 27)); rwa [show (w.alloc (.cells #[.int .i64 c, .int .i64 d] 24)).heap.size = w.heap.size + 1 by simp] at this
  have R4 : Hid (Bk w0 (w.heap.size + 1 + 1) [.slice none 0 0, .slice none 0 0]) := by rw [e0]; have := bk_new ((w.alloc (.cells #[.int .i64 c, .int .i64 d] 24)).alloc (.cells #[.slice aS T.nS kS, .slice aA T.nA kA] 27)) 27 [.slice none 0 0, .slice none 0 0]; rwa [show ((w.alloc (.cells #[.int .i64 c, .int .i64 d] 24)).alloc (.cells #[.slice aS T.nS kS, .slice aA T.nA kA] 27)).heap.size = w.heap.size + 1 + 1 by simp] at this
  rw [← e0]
  clear e0
  refine (arbOk_spec c d _ T n HS.out _ (H0.out.below B1.out)).mono ?_
  rintro e w1 ⟨rfl, hb1⟩
  have y_w1 : w0.heap.size ≤ w1.heap.size := hb1.size
  have B5 : Hid (Below w.heap.size w w1) := bthen B1.out hb1
  have M5 : Hid (Bk w1 w.heap.size [.int .i64 c, .int .i64 d]) := M2.out.below hb1
  have A5 : Hid (Bk w1 (w.heap.size + 1) [.slice aS T.nS kS, .slice aA T.nA kA]) := A3.out.below hb1
  have R5 : Hid (Bk w1 (w.heap.size + 1 + 1) [.slice none 0 0, .slice none 0 0]) := R4.out.below hb1
  clear B1 M2 A3 R4
  clear hb1
  have zR : w.heap.size + 1 + 1 < w1.heap.size := R5.out.1
  have yM0 : w1.cell? ⟨w.heap.size, 0, none⟩ = some (.int .i64 c) := (M5.out.2 0 (by simp)).1
  have zM0 : w1.frozen? ⟨w.heap.size, 0, none⟩ = false := (M5.out.2 0 (by simp)).2
  have yM1 : w1.cell? ⟨w.heap.size, 1, none⟩ = some (.int .i64 d) := (M5.out.2 1 (by simp)).1
  have zM1 : w1.frozen? ⟨w.heap.size, 1, none⟩ = false := (M5.out.2 1 (by simp)).2
  have hlM : w.heap.size < w1.heap.size := M5.out.1
  have yA0 : w1.cell? ⟨(w.heap.size + 1), 0, none⟩ = some (.slice aS T.nS kS) := (A5.out.2 0 (by simp)).1
  have zA0 : w1.frozen? ⟨(w.heap.size + 1), 0, none⟩ = false := (A5.out.2 0 (by simp)).2
  have yA1 : w1.cell? ⟨(w.heap.size + 1), 1, none⟩ = some (.slice aA T.nA kA) := (A5.out.2 1 (by simp)).1
  have zA1 : w1.frozen? ⟨(w.heap.size + 1), 1, none⟩ = false := (A5.out.2 1 (by simp)).2
  have hlA : (w.heap.size + 1) < w1.heap.size := A5.out.1
  have yR0 : w1.cell? ⟨(w.heap.size + 1 + 1), 0, none⟩ = some (.slice none 0 0) := (R5.out.2 0 (by simp)).1
  have zR0 : w1.frozen? ⟨(w.heap.size + 1 + 1), 0, none⟩ = false := (R5.out.2 0 (by simp)).2
  have yR1 : w1.cell? ⟨(w.heap.size + 1 + 1), 1, none⟩ = some (.slice none 0 0) := (R5.out.2 1 (by simp)).1
  have zR1 : w1.frozen? ⟨(w.heap.size + 1 + 1), 1, none⟩ = false := (R5.out.2 1 (by simp)).2
  have hlR : (w.heap.size + 1 + 1) < w1.heap.size := R5.out.1
  cases hok : tabB c d T n
  · go_wp2
    refine bodyPost_ret (v := .tuple #[.agg #[.slice none 0 0, .slice none 0 0], .bool false]) (by simp [results, Try.results6, go_sem, *]) rfl ?_
    exact ⟨⟨_, _, rfl, by rw [grantR_bad hok], by rw [grantR_bad hok]; exact ownT_zero _ _ _⟩, (B5.out.setCell (by simp; try omega) _).setCell (by simp; try omega) _⟩
  obtain ⟨k1, ⟨k2, k3⟩, ⟨k4, k5⟩, ⟨k6, k7⟩, ⟨k8, k9⟩, kA⟩ := tab_facts hok
  have KA : Hid (∀ i, i < T.nS → 0 ≤ T.A i ∧ T.A i ≤ 900) := kA
  have HOK : Hid (tabB c d T n = true) := hok
  clear kA hok
  obtain ⟨b1, o1, rfl, hb1, hr1⟩ : ∃ b o, aS = some ⟨b, o, none⟩ ∧ b < w.heap.size ∧ ∀ k, k < T.nS → w.cell? ⟨b, o + k, none⟩ = some (.int .i64 (T.S k)) := by
    rcases HR.out.1 with h | h
    · omega
    · exact h
  obtain ⟨b2, o2, rfl, hb2, hr2⟩ : ∃ b o, aA = some ⟨b, o, none⟩ ∧ b < w.heap.size ∧ ∀ k, k < T.nA → w.cell? ⟨b, o + k, none⟩ = some (.int .i64 (T.A k)) := by
    rcases HR.out.2 with h | h
    · omega
    · exact h
  have R1 : Hid (∀ k, k < T.nS → w1.cell? ⟨b1, o1 + k, none⟩ = some (.int .i64 (T.S k))) := fun k hk => (B5.out.cell (p := ⟨b1, o1 + k, none⟩) hb1).trans (hr1 k hk)
  have R2 : Hid (∀ k, k < T.nA → w1.cell? ⟨b2, o2 + k, none⟩ = some (.int .i64 (T.A k))) := fun k hk => (B5.out.cell (p := ⟨b2, o2 + k, none⟩) hb2).trans (hr2 k hk)
  clear hr1 hr2
  obtain ⟨i5, hi5, hzz⟩ := Option.map_eq_some_iff.1 Try.info3
  simp only [Prod.mk.injEq] at hzz
  obtain ⟨hz50, hz51, hz52⟩ := hzz
  have hS1 : T.nS ≤ 1048576 := HS.out.1
  have hS2 : T.nA ≤ 1048576 := HS.out.2
  go_upto_region 3 with fail
  go_cut [12] (fun p wx => ∃ C g1 g2 d1 d2, .pointer (some ⟨C, 0, none⟩) = p ∧ Bk wx C [.slice (some ⟨g1, 0, none⟩) T.nS d1, .slice (some ⟨g2, 0, none⟩) T.nA d2] ∧ Own1 wx g1 T.nS T.S T.nS ∧ Own1 wx g2 T.nA T.A T.nA ∧ (w1.heap.size ≤ C ∧ w1.heap.size ≤ g1 ∧ w1.heap.size ≤ g2 ∧ g1 < wx.heap.size ∧ g2 < wx.heap.size ∧ ¬ C = g1 ∧ ¬ C = g2 ∧ ¬ g1 = g2) ∧ Below w1.heap.size w1 wx)
  case first =>
    refine wp_region_held_drew (S := fun w' => Below (w1.heap.size) w1 w') (by kernel_rfl) ((Below.refl _ _).drew) ?_
    intro hHeld
    obtain ⟨X0, hX0⟩ : ∃ X, X = w1.drew := ⟨_, rfl⟩
    have hz0 : w1.heap.size ≤ X0.heap.size := by rw [hX0]; exact Nat.le_refl _
    rw [← hX0] at hHeld ⊢
    clear hX0
    refine wpAnyH_take (i := 1) (v := .pointer (some ⟨w.heap.size + 1, 0, none⟩)) rfl (by kernel_rfl) (by kernel_rfl) (by kernel_rfl) (fun _ _ _ h => h) (Or.inl ⟨by rfl, ?_⟩) (by assumption) ?_
    · intro wx hSw; obtain ⟨hcS, hfS⟩ := bcellN hSw; go_simp
    try simp only [Act.put, List.setIfInBounds_toArray, List.getElem_toArray]
    refine wpAnyH_take (i := 5) (v := .pointer (some ⟨w.heap.size + 1, 1, none⟩)) rfl (by kernel_rfl) (by kernel_rfl) (by kernel_rfl) (fun _ _ _ h => h) (Or.inl ⟨by rfl, ?_⟩) (by assumption) ?_
    · intro wx hSw; obtain ⟨hcS, hfS⟩ := bcellN hSw; go_simp
    try simp only [Act.put, List.setIfInBounds_toArray, List.set_cons_zero, List.set_cons_succ, List.getElem_toArray, List.getElem_cons_zero, List.getElem_cons_succ]
    refine wpAnyH_take (i := 2) (v := .slice (some ⟨b1, o1, none⟩) T.nS kS) rfl (by kernel_rfl) (by kernel_rfl) (by kernel_rfl) (fun _ _ _ h => h) (Or.inl ⟨by rfl, ?_⟩) (by assumption) ?_
    · intro wx hSw; obtain ⟨hcS, hfS⟩ := bcellN hSw; go_simp
    try simp only [Act.put, List.setIfInBounds_toArray, List.set_cons_zero, List.set_cons_succ, List.getElem_toArray, List.getElem_cons_zero, List.getElem_cons_succ]
    refine wpAnyH_take (i := 6) (v := .slice (some ⟨b2, o2, none⟩) T.nA kA) rfl (by kernel_rfl) (by kernel_rfl) (by kernel_rfl) (fun _ _ _ h => h) (Or.inl ⟨by rfl, ?_⟩) (by assumption) ?_
    · intro wx hSw; obtain ⟨hcS, hfS⟩ := bcellN hSw; go_simp
    try simp only [Act.put, List.setIfInBounds_toArray, List.set_cons_zero, List.set_cons_succ, List.getElem_toArray, List.getElem_cons_zero, List.getElem_cons_succ]
    refine wpAnyH_ready (rs := [0, 4, 9]) (by kernel_rfl) (by simp) ?_
    refine (AllReadyH.cons rfl (fun K hK => ?_) (AllReadyH.cons rfl (fun K hK => ?_) (AllReadyH.cons rfl (fun K hK => ?_) AllReadyH.nil)))
    · go_simp
      obtain ⟨XL1, eA⟩ : ∃ X, X = X0.alloc (.cells #[] 3) := ⟨_, rfl⟩
      rw [← eA]
      have hbA : Below X0.heap.size X0 XL1 := by rw [eA]; exact (Below.refl _ _).alloc (Nat.le_refl _) _
      have hL1 : XL1.ownsRow w1.heap.size 3 1 (.slice (some ⟨X0.heap.size, 0, none⟩) 0 0) 0 [] := by rw [eA]; exact World.ownsRow_lit X0 #[] 0 (by omega) (by simp) (by simp)
      have hzA11 : XL1.heap.size ≤ X0.heap.size + 1 := by rw [eA]; simp
      have hzA12 : X0.heap.size + 1 ≤ XL1.heap.size := by rw [eA]; simp
      clear eA
      have hsz_XL1 := hbA.size
      refine hK.out _ _ (bthenN hHeld (by omega) hbA) (fun hNew => ?_)
      clear hK K hHeld
      have hHeld := hNew
      clear hNew
      try simp only [Act.put, List.setIfInBounds_toArray, List.set_cons_zero, List.set_cons_succ, List.getElem_toArray, List.getElem_cons_zero, List.getElem_cons_succ]
      clear hbA
      obtain ⟨q1, eq1⟩ : ∃ g, g = X0.heap.size := ⟨_, rfl⟩
      rw [← eq1] at hL1 ⊢
      have eq11 : q1 ≤ X0.heap.size := by omega
      have eq12 : X0.heap.size ≤ q1 := by omega
      clear eq1
      refine wpAnyH_ready (rs := [3, 4, 9]) (by kernel_rfl) (by simp) ?_
      refine (AllReadyH.cons rfl (fun K hK => ?_) (AllReadyH.cons rfl (fun K hK => ?_) (AllReadyH.cons rfl (fun K hK => ?_) AllReadyH.nil)))
      · rw [if_pos (by rfl)]
        have hnn : Hid (∀ j u, ((List.range T.nS).flatMap (one1 T.S))[j]? = some u → XL1.cell? ((⟨b1, o1, none⟩ : Addr).add j) = some u) := one11_cells (fun k hk => ((bcellN (n := w1.heap.size) hHeld).1 b1 _ (by omega)).trans (R1.out k hk))
        refine app_at _ _ rfl w1.heap.size 0 _ [] rfl hL1 ⟨b1, o1, none⟩ T.nS kS ((List.range T.nS).flatMap (one1 T.S)) rfl (one11_len _ _) hnn.out (one11_one _ _) (by omega) (by omega) ?_
        intro v1 XP1 hown1 hg1 hat1
        have hsz1 := hg1.size
        clear hnn
        rw [Nat.zero_add, List.nil_append] at hown1
        obtain ⟨g1, d1, rfl, j11, j12, hO1⟩ := own1_of_row (by omega) hown1
        have hgq1 : g1 = q1 ∨ g1 = XL1.heap.size := by
          rcases hat1 with h | h
          · exact .inl (Option.some.inj h)
          · exact .inr (Option.some.inj h)
        have hbX : Below (w1.heap.size) XL1 XP1 := (Below.refl _ _).grown hg1 (by omega) (fun kk e => by have e2 : q1 = kk := Option.some.inj e; omega)
        have hsmX : ∀ b, b < XL1.heap.size → ¬ b = q1 → Sm XL1 XP1 b := fun b hb hne => sm_grown hg1 hb (fun e => hne (Option.some.inj e))
        refine hK.out _ _ (hHeld.trans hbX) (fun hNew => ?_)
        clear hK K hHeld
        have hHeld := hNew
        clear hNew
        try simp only [Act.put, List.setIfInBounds_toArray, List.set_cons_zero, List.set_cons_succ, List.getElem_toArray, List.getElem_cons_zero, List.getElem_cons_succ]
        clear hbX hsmX hown1 hg1 hat1
        refine wpAnyH_ready (rs := [4, 9]) (by kernel_rfl) (by simp) ?_
        refine (AllReadyH.cons rfl (fun K hK => ?_) (AllReadyH.cons rfl (fun K hK => ?_) AllReadyH.nil))
        · go_simp
          obtain ⟨XL2, eA⟩ : ∃ X, X = XP1.alloc (.cells #[] 3) := ⟨_, rfl⟩
          rw [← eA]
          have hbA : Below XP1.heap.size XP1 XL2 := by rw [eA]; exact (Below.refl _ _).alloc (Nat.le_refl _) _
          have hL2 : XL2.ownsRow w1.heap.size 3 1 (.slice (some ⟨XP1.heap.size, 0, none⟩) 0 0) 0 [] := by rw [eA]; exact World.ownsRow_lit XP1 #[] 0 (by omega) (by simp) (by simp)
          have hzA21 : XL2.heap.size ≤ XP1.heap.size + 1 := by rw [eA]; simp
          have hzA22 : XP1.heap.size + 1 ≤ XL2.heap.size := by rw [eA]; simp
          clear eA
          replace hO1 := own1_below hO1 (by omega) hbA
          have hsz_XL2 := hbA.size
          refine hK.out _ _ (bthenN hHeld (by omega) hbA) (fun hNew => ?_)
          clear hK K hHeld
          have hHeld := hNew
          clear hNew
          try simp only [Act.put, List.setIfInBounds_toArray, List.set_cons_zero, List.set_cons_succ, List.getElem_toArray, List.getElem_cons_zero, List.getElem_cons_succ]
          clear hbA
          obtain ⟨q2, eq2⟩ : ∃ g, g = XP1.heap.size := ⟨_, rfl⟩
          rw [← eq2] at hL2 ⊢
          have eq21 : q2 ≤ XP1.heap.size := by omega
          have eq22 : XP1.heap.size ≤ q2 := by omega
          clear eq2
          refine wpAnyH_ready (rs := [7, 9]) (by kernel_rfl) (by simp) ?_
          refine (AllReadyH.cons rfl (fun K hK => ?_) (AllReadyH.cons rfl (fun K hK => ?_) AllReadyH.nil))
          · rw [if_pos (by rfl)]
            have hnn : Hid (∀ j u, ((List.range T.nA).flatMap (one1 T.A))[j]? = some u → XL2.cell? ((⟨b2, o2, none⟩ : Addr).add j) = some u) := one11_cells (fun k hk => ((bcellN (n := w1.heap.size) hHeld).1 b2 _ (by omega)).trans (R2.out k hk))
            refine app_at _ _ rfl w1.heap.size 0 _ [] rfl hL2 ⟨b2, o2, none⟩ T.nA kA ((List.range T.nA).flatMap (one1 T.A)) rfl (one11_len _ _) hnn.out (one11_one _ _) (by omega) (by omega) ?_
            intro v2 XP2 hown2 hg2 hat2
            have hsz2 := hg2.size
            clear hnn
            rw [Nat.zero_add, List.nil_append] at hown2
            obtain ⟨g2, d2, rfl, j21, j22, hO2⟩ := own1_of_row (by omega) hown2
            have hgq2 : g2 = q2 ∨ g2 = XL2.heap.size := by
              rcases hat2 with h | h
              · exact .inl (Option.some.inj h)
              · exact .inr (Option.some.inj h)
            have hbX : Below (w1.heap.size) XL2 XP2 := (Below.refl _ _).grown hg2 (by omega) (fun kk e => by have e2 : q2 = kk := Option.some.inj e; omega)
            have hsmX : ∀ b, b < XL2.heap.size → ¬ b = q2 → Sm XL2 XP2 b := fun b hb hne => sm_grown hg2 hb (fun e => hne (Option.some.inj e))
            replace hO1 := own1_sm hO1 (hsmX g1 (by omega) (by omega))
            refine hK.out _ _ (hHeld.trans hbX) (fun hNew => ?_)
            clear hK K hHeld
            have hHeld := hNew
            clear hNew
            try simp only [Act.put, List.setIfInBounds_toArray, List.set_cons_zero, List.set_cons_succ, List.getElem_toArray, List.getElem_cons_zero, List.getElem_cons_succ]
            clear hbX hsmX hown2 hg2 hat2
            refine wpAnyH_take (i := 8) (v := .agg #[.slice (some ⟨g1, 0, none⟩) T.nS d1, .slice (some ⟨g2, 0, none⟩) T.nA d2]) rfl (by kernel_rfl) (by kernel_rfl) (by kernel_rfl) (fun _ _ _ h => h) (Or.inl ⟨by rfl, ?_⟩) (by assumption) ?_
            · intro wx hSw; obtain ⟨hcS, hfS⟩ := bcellN hSw; go_simp
            try simp only [Act.put, List.setIfInBounds_toArray, List.set_cons_zero, List.set_cons_succ, List.getElem_toArray, List.getElem_cons_zero, List.getElem_cons_succ]
            refine wpAnyH_ready (rs := [9]) (by kernel_rfl) (by simp) ?_
            refine (AllReadyH.cons rfl (fun K hK => ?_) AllReadyH.nil)
            go_simp
            obtain ⟨XC, eA⟩ : ∃ X, X = XP2.alloc (.cells #[.slice none 0 0, .slice none 0 0] 27) := ⟨_, rfl⟩
            rw [← eA]
            have hbA : Below XP2.heap.size XP2 XC := by rw [eA]; exact (Below.refl _ _).alloc (Nat.le_refl _) _
            have hZC : Bk XC XP2.heap.size [.slice none 0 0, .slice none 0 0] := by rw [eA]; exact bk_new XP2 27 [.slice none 0 0, .slice none 0 0]
            have hzAC1 : XC.heap.size ≤ XP2.heap.size + 1 := by rw [eA]; simp
            have hzAC2 : XP2.heap.size + 1 ≤ XC.heap.size := by rw [eA]; simp
            clear eA
            replace hO1 := own1_below hO1 (by omega) hbA
            replace hO2 := own1_below hO2 (by omega) hbA
            have hsz_XC := hbA.size
            refine hK.out _ _ (bthenN hHeld (by omega) hbA) (fun hNew => ?_)
            clear hK K hHeld
            have hHeld := hNew
            clear hNew
            try simp only [Act.put, List.setIfInBounds_toArray, List.set_cons_zero, List.set_cons_succ, List.getElem_toArray, List.getElem_cons_zero, List.getElem_cons_succ]
            clear hbA
            obtain ⟨C, eC⟩ : ∃ g, g = XP2.heap.size := ⟨_, rfl⟩
            rw [← eC] at hZC ⊢
            have eC1 : C ≤ XP2.heap.size := by omega
            have eC2 : XP2.heap.size ≤ C := by omega
            clear eC
            refine wpAnyH_ready (rs := [10]) (by kernel_rfl) (by simp) ?_
            refine (AllReadyH.cons rfl (fun K hK => ?_) AllReadyH.nil)
            have r0 := (hZC.2 0 (by simp)).1
            have r1 := (hZC.2 1 (by simp)).1
            have f0 := (hZC.2 0 (by simp)).2
            have f1 := (hZC.2 1 (by simp)).2
            simp only [List.getD, List.getElem?_cons_zero, List.getElem?_cons_succ, Option.getD_some] at r0 r1
            have lZC := hZC.1
            have hkC : w1.heap.size ≤ C := by omega
            go_simp
            obtain ⟨XSC, eS⟩ : ∃ X, X = ((XC.setCell ⟨C, 0, none⟩ (.slice (some ⟨g1, 0, none⟩) T.nS d1)).setCell ⟨C, 1, none⟩ (.slice (some ⟨g2, 0, none⟩) T.nA d2)) := ⟨_, rfl⟩
            rw [← eS]
            have hPC : Bk XSC C [.slice (some ⟨g1, 0, none⟩) T.nS d1, .slice (some ⟨g2, 0, none⟩) T.nA d2] := by rw [eS]; exact bk_put (l := [.slice (some ⟨g1, 0, none⟩) T.nS d1, .slice (some ⟨g2, 0, none⟩) T.nA d2]) hZC rfl
            have hzC1 : XSC.heap.size ≤ XC.heap.size := by rw [eS]; exact Nat.le_of_eq (size_put C [.slice (some ⟨g1, 0, none⟩) T.nS d1, .slice (some ⟨g2, 0, none⟩) T.nA d2] 0 XC)
            have hzC2 : XC.heap.size ≤ XSC.heap.size := by rw [eS]; exact Nat.le_of_eq (size_put C [.slice (some ⟨g1, 0, none⟩) T.nS d1, .slice (some ⟨g2, 0, none⟩) T.nA d2] 0 XC).symm
            have hmC : ∀ b, ¬ b = C → Sm XC XSC b := by rw [eS]; exact fun b hb => sm_put hb [.slice (some ⟨g1, 0, none⟩) T.nS d1, .slice (some ⟨g2, 0, none⟩) T.nA d2] 0 XC
            have hBC : Below (w1.heap.size) w1 XSC := by rw [eS]; exact below_put hkC [.slice (some ⟨g1, 0, none⟩) T.nS d1, .slice (some ⟨g2, 0, none⟩) T.nA d2] 0 hHeld
            clear eS r0 f0 r1 f1
            replace hO1 := own1_sm hO1 (hmC g1 (by omega))
            replace hO2 := own1_sm hO2 (hmC g2 (by omega))
            refine hK.out _ _ hBC (fun hNew => ?_)
            clear hK K hHeld
            have hHeld := hNew
            clear hNew
            try simp only [Act.put, List.setIfInBounds_toArray, List.set_cons_zero, List.set_cons_succ, List.getElem_toArray, List.getElem_cons_zero, List.getElem_cons_succ]
            refine wpAnyH_done (by kernel_rfl) ?_ _
            go_wp2
            go_meet
            case rel => exact ⟨C, g1, g2, d1, d2, rfl, hPC, hO1, hO2, ⟨by omega, by omega, by omega, by omega, by omega, by omega, by omega, by omega⟩, hHeld⟩
          · go_simp
            obtain ⟨XC, eA⟩ : ∃ X, X = XL2.alloc (.cells #[.slice none 0 0, .slice none 0 0] 27) := ⟨_, rfl⟩
            rw [← eA]
            have hbA : Below XL2.heap.size XL2 XC := by rw [eA]; exact (Below.refl _ _).alloc (Nat.le_refl _) _
            have hZC : Bk XC XL2.heap.size [.slice none 0 0, .slice none 0 0] := by rw [eA]; exact bk_new XL2 27 [.slice none 0 0, .slice none 0 0]
            have hzAC1 : XC.heap.size ≤ XL2.heap.size + 1 := by rw [eA]; simp
            have hzAC2 : XL2.heap.size + 1 ≤ XC.heap.size := by rw [eA]; simp
            clear eA
            replace hO1 := own1_below hO1 (by omega) hbA
            replace hL2 := own_keep hL2 hbA
            have hsz_XC := hbA.size
            refine hK.out _ _ (bthenN hHeld (by omega) hbA) (fun hNew => ?_)
            clear hK K hHeld
            have hHeld := hNew
            clear hNew
            try simp only [Act.put, List.setIfInBounds_toArray, List.set_cons_zero, List.set_cons_succ, List.getElem_toArray, List.getElem_cons_zero, List.getElem_cons_succ]
            clear hbA
            obtain ⟨C, eC⟩ : ∃ g, g = XL2.heap.size := ⟨_, rfl⟩
            rw [← eC] at hZC ⊢
            have eC1 : C ≤ XL2.heap.size := by omega
            have eC2 : XL2.heap.size ≤ C := by omega
            clear eC
            refine wpAnyH_ready (rs := [7]) (by kernel_rfl) (by simp) ?_
            refine (AllReadyH.cons rfl (fun K hK => ?_) AllReadyH.nil)
            rw [if_pos (by rfl)]
            have hnn : Hid (∀ j u, ((List.range T.nA).flatMap (one1 T.A))[j]? = some u → XC.cell? ((⟨b2, o2, none⟩ : Addr).add j) = some u) := one11_cells (fun k hk => ((bcellN (n := w1.heap.size) hHeld).1 b2 _ (by omega)).trans (R2.out k hk))
            refine app_at _ _ rfl w1.heap.size 0 _ [] rfl hL2 ⟨b2, o2, none⟩ T.nA kA ((List.range T.nA).flatMap (one1 T.A)) rfl (one11_len _ _) hnn.out (one11_one _ _) (by omega) (by omega) ?_
            intro v2 XP2 hown2 hg2 hat2
            have hsz2 := hg2.size
            clear hnn
            rw [Nat.zero_add, List.nil_append] at hown2
            obtain ⟨g2, d2, rfl, j21, j22, hO2⟩ := own1_of_row (by omega) hown2
            have hgq2 : g2 = q2 ∨ g2 = XC.heap.size := by
              rcases hat2 with h | h
              · exact .inl (Option.some.inj h)
              · exact .inr (Option.some.inj h)
            have hbX : Below (w1.heap.size) XC XP2 := (Below.refl _ _).grown hg2 (by omega) (fun kk e => by have e2 : q2 = kk := Option.some.inj e; omega)
            have hsmX : ∀ b, b < XC.heap.size → ¬ b = q2 → Sm XC XP2 b := fun b hb hne => sm_grown hg2 hb (fun e => hne (Option.some.inj e))
            replace hO1 := own1_sm hO1 (hsmX g1 (by omega) (by omega))
            replace hZC := hZC.sm hsz2 (hsmX C (by omega) (by omega))
            refine hK.out _ _ (hHeld.trans hbX) (fun hNew => ?_)
            clear hK K hHeld
            have hHeld := hNew
            clear hNew
            try simp only [Act.put, List.setIfInBounds_toArray, List.set_cons_zero, List.set_cons_succ, List.getElem_toArray, List.getElem_cons_zero, List.getElem_cons_succ]
            clear hbX hsmX hown2 hg2 hat2
            refine wpAnyH_take (i := 8) (v := .agg #[.slice (some ⟨g1, 0, none⟩) T.nS d1, .slice (some ⟨g2, 0, none⟩) T.nA d2]) rfl (by kernel_rfl) (by kernel_rfl) (by kernel_rfl) (fun _ _ _ h => h) (Or.inl ⟨by rfl, ?_⟩) (by assumption) ?_
            · intro wx hSw; obtain ⟨hcS, hfS⟩ := bcellN hSw; go_simp
            try simp only [Act.put, List.setIfInBounds_toArray, List.set_cons_zero, List.set_cons_succ, List.getElem_toArray, List.getElem_cons_zero, List.getElem_cons_succ]
            refine wpAnyH_ready (rs := [10]) (by kernel_rfl) (by simp) ?_
            refine (AllReadyH.cons rfl (fun K hK => ?_) AllReadyH.nil)
            have r0 := (hZC.2 0 (by simp)).1
            have r1 := (hZC.2 1 (by simp)).1
            have f0 := (hZC.2 0 (by simp)).2
            have f1 := (hZC.2 1 (by simp)).2
            simp only [List.getD, List.getElem?_cons_zero, List.getElem?_cons_succ, Option.getD_some] at r0 r1
            have lZC := hZC.1
            have hkC : w1.heap.size ≤ C := by omega
            go_simp
            obtain ⟨XSC, eS⟩ : ∃ X, X = ((XP2.setCell ⟨C, 0, none⟩ (.slice (some ⟨g1, 0, none⟩) T.nS d1)).setCell ⟨C, 1, none⟩ (.slice (some ⟨g2, 0, none⟩) T.nA d2)) := ⟨_, rfl⟩
            rw [← eS]
            have hPC : Bk XSC C [.slice (some ⟨g1, 0, none⟩) T.nS d1, .slice (some ⟨g2, 0, none⟩) T.nA d2] := by rw [eS]; exact bk_put (l := [.slice (some ⟨g1, 0, none⟩) T.nS d1, .slice (some ⟨g2, 0, none⟩) T.nA d2]) hZC rfl
            have hzC1 : XSC.heap.size ≤ XP2.heap.size := by rw [eS]; exact Nat.le_of_eq (size_put C [.slice (some ⟨g1, 0, none⟩) T.nS d1, .slice (some ⟨g2, 0, none⟩) T.nA d2] 0 XP2)
            have hzC2 : XP2.heap.size ≤ XSC.heap.size := by rw [eS]; exact Nat.le_of_eq (size_put C [.slice (some ⟨g1, 0, none⟩) T.nS d1, .slice (some ⟨g2, 0, none⟩) T.nA d2] 0 XP2).symm
            have hmC : ∀ b, ¬ b = C → Sm XP2 XSC b := by rw [eS]; exact fun b hb => sm_put hb [.slice (some ⟨g1, 0, none⟩) T.nS d1, .slice (some ⟨g2, 0, none⟩) T.nA d2] 0 XP2
            have hBC : Below (w1.heap.size) w1 XSC := by rw [eS]; exact below_put hkC [.slice (some ⟨g1, 0, none⟩) T.nS d1, .slice (some ⟨g2, 0, none⟩) T.nA d2] 0 hHeld
            clear eS r0 f0 r1 f1
            replace hO1 := own1_sm hO1 (hmC g1 (by omega))
            replace hO2 := own1_sm hO2 (hmC g2 (by omega))
            refine hK.out _ _ hBC (fun hNew => ?_)
            clear hK K hHeld
            have hHeld := hNew
            clear hNew
            try simp only [Act.put, List.setIfInBounds_toArray, List.set_cons_zero, List.set_cons_succ, List.getElem_toArray, List.getElem_cons_zero, List.getElem_cons_succ]
            refine wpAnyH_done (by kernel_rfl) ?_ _
            go_wp2
            go_meet
            case rel => exact ⟨C, g1, g2, d1, d2, rfl, hPC, hO1, hO2, ⟨by omega, by omega, by omega, by omega, by omega, by omega, by omega, by omega⟩, hHeld⟩
        · go_simp
          obtain ⟨XC, eA⟩ : ∃ X, X = XP1.alloc (.cells #[.slice none 0 0, .slice none 0 0] 27) := ⟨_, rfl⟩
          rw [← eA]
          have hbA : Below XP1.heap.size XP1 XC := by rw [eA]; exact (Below.refl _ _).alloc (Nat.le_refl _) _
          have hZC : Bk XC XP1.heap.size [.slice none 0 0, .slice none 0 0] := by rw [eA]; exact bk_new XP1 27 [.slice none 0 0, .slice none 0 0]
          have hzAC1 : XC.heap.size ≤ XP1.heap.size + 1 := by rw [eA]; simp
          have hzAC2 : XP1.heap.size + 1 ≤ XC.heap.size := by rw [eA]; simp
          clear eA
          replace hO1 := own1_below hO1 (by omega) hbA
          have hsz_XC := hbA.size
          refine hK.out _ _ (bthenN hHeld (by omega) hbA) (fun hNew => ?_)
          clear hK K hHeld
          have hHeld := hNew
          clear hNew
          try simp only [Act.put, List.setIfInBounds_toArray, List.set_cons_zero, List.set_cons_succ, List.getElem_toArray, List.getElem_cons_zero, List.getElem_cons_succ]
          clear hbA
          obtain ⟨C, eC⟩ : ∃ g, g = XP1.heap.size := ⟨_, rfl⟩
          rw [← eC] at hZC ⊢
          have eC1 : C ≤ XP1.heap.size := by omega
          have eC2 : XP1.heap.size ≤ C := by omega
          clear eC
          refine wpAnyH_ready (rs := [4]) (by kernel_rfl) (by simp) ?_
          refine (AllReadyH.cons rfl (fun K hK => ?_) AllReadyH.nil)
          go_simp
          obtain ⟨XL2, eA⟩ : ∃ X, X = XC.alloc (.cells #[] 3) := ⟨_, rfl⟩
          rw [← eA]
          have hbA : Below XC.heap.size XC XL2 := by rw [eA]; exact (Below.refl _ _).alloc (Nat.le_refl _) _
          have hL2 : XL2.ownsRow w1.heap.size 3 1 (.slice (some ⟨XC.heap.size, 0, none⟩) 0 0) 0 [] := by rw [eA]; exact World.ownsRow_lit XC #[] 0 (by omega) (by simp) (by simp)
          have hzA21 : XL2.heap.size ≤ XC.heap.size + 1 := by rw [eA]; simp
          have hzA22 : XC.heap.size + 1 ≤ XL2.heap.size := by rw [eA]; simp
          clear eA
          replace hO1 := own1_below hO1 (by omega) hbA
          replace hZC := hZC.below hbA
          have hsz_XL2 := hbA.size
          refine hK.out _ _ (bthenN hHeld (by omega) hbA) (fun hNew => ?_)
          clear hK K hHeld
          have hHeld := hNew
          clear hNew
          try simp only [Act.put, List.setIfInBounds_toArray, List.set_cons_zero, List.set_cons_succ, List.getElem_toArray, List.getElem_cons_zero, List.getElem_cons_succ]
          clear hbA
          obtain ⟨q2, eq2⟩ : ∃ g, g = XC.heap.size := ⟨_, rfl⟩
          rw [← eq2] at hL2 ⊢
          have eq21 : q2 ≤ XC.heap.size := by omega
          have eq22 : XC.heap.size ≤ q2 := by omega
          clear eq2
          refine wpAnyH_ready (rs := [7]) (by kernel_rfl) (by simp) ?_
          refine (AllReadyH.cons rfl (fun K hK => ?_) AllReadyH.nil)
          rw [if_pos (by rfl)]
          have hnn : Hid (∀ j u, ((List.range T.nA).flatMap (one1 T.A))[j]? = some u → XL2.cell? ((⟨b2, o2, none⟩ : Addr).add j) = some u) := one11_cells (fun k hk => ((bcellN (n := w1.heap.size) hHeld).1 b2 _ (by omega)).trans (R2.out k hk))
          refine app_at _ _ rfl w1.heap.size 0 _ [] rfl hL2 ⟨b2, o2, none⟩ T.nA kA ((List.range T.nA).flatMap (one1 T.A)) rfl (one11_len _ _) hnn.out (one11_one _ _) (by omega) (by omega) ?_
          intro v2 XP2 hown2 hg2 hat2
          have hsz2 := hg2.size
          clear hnn
          rw [Nat.zero_add, List.nil_append] at hown2
          obtain ⟨g2, d2, rfl, j21, j22, hO2⟩ := own1_of_row (by omega) hown2
          have hgq2 : g2 = q2 ∨ g2 = XL2.heap.size := by
            rcases hat2 with h | h
            · exact .inl (Option.some.inj h)
            · exact .inr (Option.some.inj h)
          have hbX : Below (w1.heap.size) XL2 XP2 := (Below.refl _ _).grown hg2 (by omega) (fun kk e => by have e2 : q2 = kk := Option.some.inj e; omega)
          have hsmX : ∀ b, b < XL2.heap.size → ¬ b = q2 → Sm XL2 XP2 b := fun b hb hne => sm_grown hg2 hb (fun e => hne (Option.some.inj e))
          replace hO1 := own1_sm hO1 (hsmX g1 (by omega) (by omega))
          replace hZC := hZC.sm hsz2 (hsmX C (by omega) (by omega))
          refine hK.out _ _ (hHeld.trans hbX) (fun hNew => ?_)
          clear hK K hHeld
          have hHeld := hNew
          clear hNew
          try simp only [Act.put, List.setIfInBounds_toArray, List.set_cons_zero, List.set_cons_succ, List.getElem_toArray, List.getElem_cons_zero, List.getElem_cons_succ]
          clear hbX hsmX hown2 hg2 hat2
          refine wpAnyH_take (i := 8) (v := .agg #[.slice (some ⟨g1, 0, none⟩) T.nS d1, .slice (some ⟨g2, 0, none⟩) T.nA d2]) rfl (by kernel_rfl) (by kernel_rfl) (by kernel_rfl) (fun _ _ _ h => h) (Or.inl ⟨by rfl, ?_⟩) (by assumption) ?_
          · intro wx hSw; obtain ⟨hcS, hfS⟩ := bcellN hSw; go_simp
          try simp only [Act.put, List.setIfInBounds_toArray, List.set_cons_zero, List.set_cons_succ, List.getElem_toArray, List.getElem_cons_zero, List.getElem_cons_succ]
          refine wpAnyH_ready (rs := [10]) (by kernel_rfl) (by simp) ?_
          refine (AllReadyH.cons rfl (fun K hK => ?_) AllReadyH.nil)
          have r0 := (hZC.2 0 (by simp)).1
          have r1 := (hZC.2 1 (by simp)).1
          have f0 := (hZC.2 0 (by simp)).2
          have f1 := (hZC.2 1 (by simp)).2
          simp only [List.getD, List.getElem?_cons_zero, List.getElem?_cons_succ, Option.getD_some] at r0 r1
          have lZC := hZC.1
          have hkC : w1.heap.size ≤ C := by omega
          go_simp
          obtain ⟨XSC, eS⟩ : ∃ X, X = ((XP2.setCell ⟨C, 0, none⟩ (.slice (some ⟨g1, 0, none⟩) T.nS d1)).setCell ⟨C, 1, none⟩ (.slice (some ⟨g2, 0, none⟩) T.nA d2)) := ⟨_, rfl⟩
          rw [← eS]
          have hPC : Bk XSC C [.slice (some ⟨g1, 0, none⟩) T.nS d1, .slice (some ⟨g2, 0, none⟩) T.nA d2] := by rw [eS]; exact bk_put (l := [.slice (some ⟨g1, 0, none⟩) T.nS d1, .slice (some ⟨g2, 0, none⟩) T.nA d2]) hZC rfl
          have hzC1 : XSC.heap.size ≤ XP2.heap.size := by rw [eS]; exact Nat.le_of_eq (size_put C [.slice (some ⟨g1, 0, none⟩) T.nS d1, .slice (some ⟨g2, 0, none⟩) T.nA d2] 0 XP2)
          have hzC2 : XP2.heap.size ≤ XSC.heap.size := by rw [eS]; exact Nat.le_of_eq (size_put C [.slice (some ⟨g1, 0, none⟩) T.nS d1, .slice (some ⟨g2, 0, none⟩) T.nA d2] 0 XP2).symm
          have hmC : ∀ b, ¬ b = C → Sm XP2 XSC b := by rw [eS]; exact fun b hb => sm_put hb [.slice (some ⟨g1, 0, none⟩) T.nS d1, .slice (some ⟨g2, 0, none⟩) T.nA d2] 0 XP2
          have hBC : Below (w1.heap.size) w1 XSC := by rw [eS]; exact below_put hkC [.slice (some ⟨g1, 0, none⟩) T.nS d1, .slice (some ⟨g2, 0, none⟩) T.nA d2] 0 hHeld
          clear eS r0 f0 r1 f1
          replace hO1 := own1_sm hO1 (hmC g1 (by omega))
          replace hO2 := own1_sm hO2 (hmC g2 (by omega))
          refine hK.out _ _ hBC (fun hNew => ?_)
          clear hK K hHeld
          have hHeld := hNew
          clear hNew
          try simp only [Act.put, List.setIfInBounds_toArray, List.set_cons_zero, List.set_cons_succ, List.getElem_toArray, List.getElem_cons_zero, List.getElem_cons_succ]
          refine wpAnyH_done (by kernel_rfl) ?_ _
          go_wp2
          go_meet
          case rel => exact ⟨C, g1, g2, d1, d2, rfl, hPC, hO1, hO2, ⟨by omega, by omega, by omega, by omega, by omega, by omega, by omega, by omega⟩, hHeld⟩
      · go_simp
        obtain ⟨XL2, eA⟩ : ∃ X, X = XL1.alloc (.cells #[] 3) := ⟨_, rfl⟩
        rw [← eA]
        have hbA : Below XL1.heap.size XL1 XL2 := by rw [eA]; exact (Below.refl _ _).alloc (Nat.le_refl _) _
        have hL2 : XL2.ownsRow w1.heap.size 3 1 (.slice (some ⟨XL1.heap.size, 0, none⟩) 0 0) 0 [] := by rw [eA]; exact World.ownsRow_lit XL1 #[] 0 (by omega) (by simp) (by simp)
        have hzA21 : XL2.heap.size ≤ XL1.heap.size + 1 := by rw [eA]; simp
        have hzA22 : XL1.heap.size + 1 ≤ XL2.heap.size := by rw [eA]; simp
        clear eA
        replace hL1 := own_keep hL1 hbA
        have hsz_XL2 := hbA.size
        refine hK.out _ _ (bthenN hHeld (by omega) hbA) (fun hNew => ?_)
        clear hK K hHeld
        have hHeld := hNew
        clear hNew
        try simp only [Act.put, List.setIfInBounds_toArray, List.set_cons_zero, List.set_cons_succ, List.getElem_toArray, List.getElem_cons_zero, List.getElem_cons_succ]
        clear hbA
        obtain ⟨q2, eq2⟩ : ∃ g, g = XL1.heap.size := ⟨_, rfl⟩
        rw [← eq2] at hL2 ⊢
        have eq21 : q2 ≤ XL1.heap.size := by omega
        have eq22 : XL1.heap.size ≤ q2 := by omega
        clear eq2
        refine wpAnyH_ready (rs := [3, 9]) (by kernel_rfl) (by simp) ?_
        refine (AllReadyH.cons rfl (fun K hK => ?_) (AllReadyH.cons rfl (fun K hK => ?_) AllReadyH.nil))
        · rw [if_pos (by rfl)]
          have hnn : Hid (∀ j u, ((List.range T.nS).flatMap (one1 T.S))[j]? = some u → XL2.cell? ((⟨b1, o1, none⟩ : Addr).add j) = some u) := one11_cells (fun k hk => ((bcellN (n := w1.heap.size) hHeld).1 b1 _ (by omega)).trans (R1.out k hk))
          refine app_at _ _ rfl w1.heap.size 0 _ [] rfl hL1 ⟨b1, o1, none⟩ T.nS kS ((List.range T.nS).flatMap (one1 T.S)) rfl (one11_len _ _) hnn.out (one11_one _ _) (by omega) (by omega) ?_
          intro v1 XP1 hown1 hg1 hat1
          have hsz1 := hg1.size
          clear hnn
          rw [Nat.zero_add, List.nil_append] at hown1
          obtain ⟨g1, d1, rfl, j11, j12, hO1⟩ := own1_of_row (by omega) hown1
          have hgq1 : g1 = q1 ∨ g1 = XL2.heap.size := by
            rcases hat1 with h | h
            · exact .inl (Option.some.inj h)
            · exact .inr (Option.some.inj h)
          have hbX : Below (w1.heap.size) XL2 XP1 := (Below.refl _ _).grown hg1 (by omega) (fun kk e => by have e2 : q1 = kk := Option.some.inj e; omega)
          have hsmX : ∀ b, b < XL2.heap.size → ¬ b = q1 → Sm XL2 XP1 b := fun b hb hne => sm_grown hg1 hb (fun e => hne (Option.some.inj e))
          replace hL2 := World.ownsRow.kept hL2 hg1 (.inr (fun e => by have e2 : q2 = q1 := Option.some.inj e; omega))
          refine hK.out _ _ (hHeld.trans hbX) (fun hNew => ?_)
          clear hK K hHeld
          have hHeld := hNew
          clear hNew
          try simp only [Act.put, List.setIfInBounds_toArray, List.set_cons_zero, List.set_cons_succ, List.getElem_toArray, List.getElem_cons_zero, List.getElem_cons_succ]
          clear hbX hsmX hown1 hg1 hat1
          refine wpAnyH_ready (rs := [7, 9]) (by kernel_rfl) (by simp) ?_
          refine (AllReadyH.cons rfl (fun K hK => ?_) (AllReadyH.cons rfl (fun K hK => ?_) AllReadyH.nil))
          · rw [if_pos (by rfl)]
            have hnn : Hid (∀ j u, ((List.range T.nA).flatMap (one1 T.A))[j]? = some u → XP1.cell? ((⟨b2, o2, none⟩ : Addr).add j) = some u) := one11_cells (fun k hk => ((bcellN (n := w1.heap.size) hHeld).1 b2 _ (by omega)).trans (R2.out k hk))
            refine app_at _ _ rfl w1.heap.size 0 _ [] rfl hL2 ⟨b2, o2, none⟩ T.nA kA ((List.range T.nA).flatMap (one1 T.A)) rfl (one11_len _ _) hnn.out (one11_one _ _) (by omega) (by omega) ?_
            intro v2 XP2 hown2 hg2 hat2
            have hsz2 := hg2.size
            clear hnn
            rw [Nat.zero_add, List.nil_append] at hown2
            obtain ⟨g2, d2, rfl, j21, j22, hO2⟩ := own1_of_row (by omega) hown2
            have hgq2 : g2 = q2 ∨ g2 = XP1.heap.size := by
              rcases hat2 with h | h
              · exact .inl (Option.some.inj h)
              · exact .inr (Option.some.inj h)
            have hbX : Below (w1.heap.size) XP1 XP2 := (Below.refl _ _).grown hg2 (by omega) (fun kk e => by have e2 : q2 = kk := Option.some.inj e; omega)
            have hsmX : ∀ b, b < XP1.heap.size → ¬ b = q2 → Sm XP1 XP2 b := fun b hb hne => sm_grown hg2 hb (fun e => hne (Option.some.inj e))
            replace hO1 := own1_sm hO1 (hsmX g1 (by omega) (by omega))
            refine hK.out _ _ (hHeld.trans hbX) (fun hNew => ?_)
            clear hK K hHeld
            have hHeld := hNew
            clear hNew
            try simp only [Act.put, List.setIfInBounds_toArray, List.set_cons_zero, List.set_cons_succ, List.getElem_toArray, List.getElem_cons_zero, List.getElem_cons_succ]
            clear hbX hsmX hown2 hg2 hat2
            refine wpAnyH_take (i := 8) (v := .agg #[.slice (some ⟨g1, 0, none⟩) T.nS d1, .slice (some ⟨g2, 0, none⟩) T.nA d2]) rfl (by kernel_rfl) (by kernel_rfl) (by kernel_rfl) (fun _ _ _ h => h) (Or.inl ⟨by rfl, ?_⟩) (by assumption) ?_
            · intro wx hSw; obtain ⟨hcS, hfS⟩ := bcellN hSw; go_simp
            try simp only [Act.put, List.setIfInBounds_toArray, List.set_cons_zero, List.set_cons_succ, List.getElem_toArray, List.getElem_cons_zero, List.getElem_cons_succ]
            refine wpAnyH_ready (rs := [9]) (by kernel_rfl) (by simp) ?_
            refine (AllReadyH.cons rfl (fun K hK => ?_) AllReadyH.nil)
            go_simp
            obtain ⟨XC, eA⟩ : ∃ X, X = XP2.alloc (.cells #[.slice none 0 0, .slice none 0 0] 27) := ⟨_, rfl⟩
            rw [← eA]
            have hbA : Below XP2.heap.size XP2 XC := by rw [eA]; exact (Below.refl _ _).alloc (Nat.le_refl _) _
            have hZC : Bk XC XP2.heap.size [.slice none 0 0, .slice none 0 0] := by rw [eA]; exact bk_new XP2 27 [.slice none 0 0, .slice none 0 0]
            have hzAC1 : XC.heap.size ≤ XP2.heap.size + 1 := by rw [eA]; simp
            have hzAC2 : XP2.heap.size + 1 ≤ XC.heap.size := by rw [eA]; simp
            clear eA
            replace hO1 := own1_below hO1 (by omega) hbA
            replace hO2 := own1_below hO2 (by omega) hbA
            have hsz_XC := hbA.size
            refine hK.out _ _ (bthenN hHeld (by omega) hbA) (fun hNew => ?_)
            clear hK K hHeld
            have hHeld := hNew
            clear hNew
            try simp only [Act.put, List.setIfInBounds_toArray, List.set_cons_zero, List.set_cons_succ, List.getElem_toArray, List.getElem_cons_zero, List.getElem_cons_succ]
            clear hbA
            obtain ⟨C, eC⟩ : ∃ g, g = XP2.heap.size := ⟨_, rfl⟩
            rw [← eC] at hZC ⊢
            have eC1 : C ≤ XP2.heap.size := by omega
            have eC2 : XP2.heap.size ≤ C := by omega
            clear eC
            refine wpAnyH_ready (rs := [10]) (by kernel_rfl) (by simp) ?_
            refine (AllReadyH.cons rfl (fun K hK => ?_) AllReadyH.nil)
            have r0 := (hZC.2 0 (by simp)).1
            have r1 := (hZC.2 1 (by simp)).1
            have f0 := (hZC.2 0 (by simp)).2
            have f1 := (hZC.2 1 (by simp)).2
            simp only [List.getD, List.getElem?_cons_zero, List.getElem?_cons_succ, Option.getD_some] at r0 r1
            have lZC := hZC.1
            have hkC : w1.heap.size ≤ C := by omega
            go_simp
            obtain ⟨XSC, eS⟩ : ∃ X, X = ((XC.setCell ⟨C, 0, none⟩ (.slice (some ⟨g1, 0, none⟩) T.nS d1)).setCell ⟨C, 1, none⟩ (.slice (some ⟨g2, 0, none⟩) T.nA d2)) := ⟨_, rfl⟩
            rw [← eS]
            have hPC : Bk XSC C [.slice (some ⟨g1, 0, none⟩) T.nS d1, .slice (some ⟨g2, 0, none⟩) T.nA d2] := by rw [eS]; exact bk_put (l := [.slice (some ⟨g1, 0, none⟩) T.nS d1, .slice (some ⟨g2, 0, none⟩) T.nA d2]) hZC rfl
            have hzC1 : XSC.heap.size ≤ XC.heap.size := by rw [eS]; exact Nat.le_of_eq (size_put C [.slice (some ⟨g1, 0, none⟩) T.nS d1, .slice (some ⟨g2, 0, none⟩) T.nA d2] 0 XC)
            have hzC2 : XC.heap.size ≤ XSC.heap.size := by rw [eS]; exact Nat.le_of_eq (size_put C [.slice (some ⟨g1, 0, none⟩) T.nS d1, .slice (some ⟨g2, 0, none⟩) T.nA d2] 0 XC).symm
            have hmC : ∀ b, ¬ b = C → Sm XC XSC b := by rw [eS]; exact fun b hb => sm_put hb [.slice (some ⟨g1, 0, none⟩) T.nS d1, .slice (some ⟨g2, 0, none⟩) T.nA d2] 0 XC
            have hBC : Below (w1.heap.size) w1 XSC := by rw [eS]; exact below_put hkC [.slice (some ⟨g1, 0, none⟩) T.nS d1, .slice (some ⟨g2, 0, none⟩) T.nA d2] 0 hHeld
            clear eS r0 f0 r1 f1
            replace hO1 := own1_sm hO1 (hmC g1 (by omega))
            replace hO2 := own1_sm hO2 (hmC g2 (by omega))
            refine hK.out _ _ hBC (fun hNew => ?_)
            clear hK K hHeld
            have hHeld := hNew
            clear hNew
            try simp only [Act.put, List.setIfInBounds_toArray, List.set_cons_zero, List.set_cons_succ, List.getElem_toArray, List.getElem_cons_zero, List.getElem_cons_succ]
            refine wpAnyH_done (by kernel_rfl) ?_ _
            go_wp2
            go_meet
            case rel => exact ⟨C, g1, g2, d1, d2, rfl, hPC, hO1, hO2, ⟨by omega, by omega, by omega, by omega, by omega, by omega, by omega, by omega⟩, hHeld⟩
          · go_simp
            obtain ⟨XC, eA⟩ : ∃ X, X = XP1.alloc (.cells #[.slice none 0 0, .slice none 0 0] 27) := ⟨_, rfl⟩
            rw [← eA]
            have hbA : Below XP1.heap.size XP1 XC := by rw [eA]; exact (Below.refl _ _).alloc (Nat.le_refl _) _
            have hZC : Bk XC XP1.heap.size [.slice none 0 0, .slice none 0 0] := by rw [eA]; exact bk_new XP1 27 [.slice none 0 0, .slice none 0 0]
            have hzAC1 : XC.heap.size ≤ XP1.heap.size + 1 := by rw [eA]; simp
            have hzAC2 : XP1.heap.size + 1 ≤ XC.heap.size := by rw [eA]; simp
            clear eA
            replace hL2 := own_keep hL2 hbA
            replace hO1 := own1_below hO1 (by omega) hbA
            have hsz_XC := hbA.size
            refine hK.out _ _ (bthenN hHeld (by omega) hbA) (fun hNew => ?_)
            clear hK K hHeld
            have hHeld := hNew
            clear hNew
            try simp only [Act.put, List.setIfInBounds_toArray, List.set_cons_zero, List.set_cons_succ, List.getElem_toArray, List.getElem_cons_zero, List.getElem_cons_succ]
            clear hbA
            obtain ⟨C, eC⟩ : ∃ g, g = XP1.heap.size := ⟨_, rfl⟩
            rw [← eC] at hZC ⊢
            have eC1 : C ≤ XP1.heap.size := by omega
            have eC2 : XP1.heap.size ≤ C := by omega
            clear eC
            refine wpAnyH_ready (rs := [7]) (by kernel_rfl) (by simp) ?_
            refine (AllReadyH.cons rfl (fun K hK => ?_) AllReadyH.nil)
            rw [if_pos (by rfl)]
            have hnn : Hid (∀ j u, ((List.range T.nA).flatMap (one1 T.A))[j]? = some u → XC.cell? ((⟨b2, o2, none⟩ : Addr).add j) = some u) := one11_cells (fun k hk => ((bcellN (n := w1.heap.size) hHeld).1 b2 _ (by omega)).trans (R2.out k hk))
            refine app_at _ _ rfl w1.heap.size 0 _ [] rfl hL2 ⟨b2, o2, none⟩ T.nA kA ((List.range T.nA).flatMap (one1 T.A)) rfl (one11_len _ _) hnn.out (one11_one _ _) (by omega) (by omega) ?_
            intro v2 XP2 hown2 hg2 hat2
            have hsz2 := hg2.size
            clear hnn
            rw [Nat.zero_add, List.nil_append] at hown2
            obtain ⟨g2, d2, rfl, j21, j22, hO2⟩ := own1_of_row (by omega) hown2
            have hgq2 : g2 = q2 ∨ g2 = XC.heap.size := by
              rcases hat2 with h | h
              · exact .inl (Option.some.inj h)
              · exact .inr (Option.some.inj h)
            have hbX : Below (w1.heap.size) XC XP2 := (Below.refl _ _).grown hg2 (by omega) (fun kk e => by have e2 : q2 = kk := Option.some.inj e; omega)
            have hsmX : ∀ b, b < XC.heap.size → ¬ b = q2 → Sm XC XP2 b := fun b hb hne => sm_grown hg2 hb (fun e => hne (Option.some.inj e))
            replace hO1 := own1_sm hO1 (hsmX g1 (by omega) (by omega))
            replace hZC := hZC.sm hsz2 (hsmX C (by omega) (by omega))
            refine hK.out _ _ (hHeld.trans hbX) (fun hNew => ?_)
            clear hK K hHeld
            have hHeld := hNew
            clear hNew
            try simp only [Act.put, List.setIfInBounds_toArray, List.set_cons_zero, List.set_cons_succ, List.getElem_toArray, List.getElem_cons_zero, List.getElem_cons_succ]
            clear hbX hsmX hown2 hg2 hat2
            refine wpAnyH_take (i := 8) (v := .agg #[.slice (some ⟨g1, 0, none⟩) T.nS d1, .slice (some ⟨g2, 0, none⟩) T.nA d2]) rfl (by kernel_rfl) (by kernel_rfl) (by kernel_rfl) (fun _ _ _ h => h) (Or.inl ⟨by rfl, ?_⟩) (by assumption) ?_
            · intro wx hSw; obtain ⟨hcS, hfS⟩ := bcellN hSw; go_simp
            try simp only [Act.put, List.setIfInBounds_toArray, List.set_cons_zero, List.set_cons_succ, List.getElem_toArray, List.getElem_cons_zero, List.getElem_cons_succ]
            refine wpAnyH_ready (rs := [10]) (by kernel_rfl) (by simp) ?_
            refine (AllReadyH.cons rfl (fun K hK => ?_) AllReadyH.nil)
            have r0 := (hZC.2 0 (by simp)).1
            have r1 := (hZC.2 1 (by simp)).1
            have f0 := (hZC.2 0 (by simp)).2
            have f1 := (hZC.2 1 (by simp)).2
            simp only [List.getD, List.getElem?_cons_zero, List.getElem?_cons_succ, Option.getD_some] at r0 r1
            have lZC := hZC.1
            have hkC : w1.heap.size ≤ C := by omega
            go_simp
            obtain ⟨XSC, eS⟩ : ∃ X, X = ((XP2.setCell ⟨C, 0, none⟩ (.slice (some ⟨g1, 0, none⟩) T.nS d1)).setCell ⟨C, 1, none⟩ (.slice (some ⟨g2, 0, none⟩) T.nA d2)) := ⟨_, rfl⟩
            rw [← eS]
            have hPC : Bk XSC C [.slice (some ⟨g1, 0, none⟩) T.nS d1, .slice (some ⟨g2, 0, none⟩) T.nA d2] := by rw [eS]; exact bk_put (l := [.slice (some ⟨g1, 0, none⟩) T.nS d1, .slice (some ⟨g2, 0, none⟩) T.nA d2]) hZC rfl
            have hzC1 : XSC.heap.size ≤ XP2.heap.size := by rw [eS]; exact Nat.le_of_eq (size_put C [.slice (some ⟨g1, 0, none⟩) T.nS d1, .slice (some ⟨g2, 0, none⟩) T.nA d2] 0 XP2)
            have hzC2 : XP2.heap.size ≤ XSC.heap.size := by rw [eS]; exact Nat.le_of_eq (size_put C [.slice (some ⟨g1, 0, none⟩) T.nS d1, .slice (some ⟨g2, 0, none⟩) T.nA d2] 0 XP2).symm
            have hmC : ∀ b, ¬ b = C → Sm XP2 XSC b := by rw [eS]; exact fun b hb => sm_put hb [.slice (some ⟨g1, 0, none⟩) T.nS d1, .slice (some ⟨g2, 0, none⟩) T.nA d2] 0 XP2
            have hBC : Below (w1.heap.size) w1 XSC := by rw [eS]; exact below_put hkC [.slice (some ⟨g1, 0, none⟩) T.nS d1, .slice (some ⟨g2, 0, none⟩) T.nA d2] 0 hHeld
            clear eS r0 f0 r1 f1
            replace hO1 := own1_sm hO1 (hmC g1 (by omega))
            replace hO2 := own1_sm hO2 (hmC g2 (by omega))
            refine hK.out _ _ hBC (fun hNew => ?_)
            clear hK K hHeld
            have hHeld := hNew
            clear hNew
            try simp only [Act.put, List.setIfInBounds_toArray, List.set_cons_zero, List.set_cons_succ, List.getElem_toArray, List.getElem_cons_zero, List.getElem_cons_succ]
            refine wpAnyH_done (by kernel_rfl) ?_ _
            go_wp2
            go_meet
            case rel => exact ⟨C, g1, g2, d1, d2, rfl, hPC, hO1, hO2, ⟨by omega, by omega, by omega, by omega, by omega, by omega, by omega, by omega⟩, hHeld⟩
        · go_simp
          obtain ⟨XC, eA⟩ : ∃ X, X = XL2.alloc (.cells #[.slice none 0 0, .slice none 0 0] 27) := ⟨_, rfl⟩
          rw [← eA]
          have hbA : Below XL2.heap.size XL2 XC := by rw [eA]; exact (Below.refl _ _).alloc (Nat.le_refl _) _
          have hZC : Bk XC XL2.heap.size [.slice none 0 0, .slice none 0 0] := by rw [eA]; exact bk_new XL2 27 [.slice none 0 0, .slice none 0 0]
          have hzAC1 : XC.heap.size ≤ XL2.heap.size + 1 := by rw [eA]; simp
          have hzAC2 : XL2.heap.size + 1 ≤ XC.heap.size := by rw [eA]; simp
          clear eA
          replace hL1 := own_keep hL1 hbA
          replace hL2 := own_keep hL2 hbA
          have hsz_XC := hbA.size
          refine hK.out _ _ (bthenN hHeld (by omega) hbA) (fun hNew => ?_)
          clear hK K hHeld
          have hHeld := hNew
          clear hNew
          try simp only [Act.put, List.setIfInBounds_toArray, List.set_cons_zero, List.set_cons_succ, List.getElem_toArray, List.getElem_cons_zero, List.getElem_cons_succ]
          clear hbA
          obtain ⟨C, eC⟩ : ∃ g, g = XL2.heap.size := ⟨_, rfl⟩
          rw [← eC] at hZC ⊢
          have eC1 : C ≤ XL2.heap.size := by omega
          have eC2 : XL2.heap.size ≤ C := by omega
          clear eC
          refine wpAnyH_ready (rs := [3]) (by kernel_rfl) (by simp) ?_
          refine (AllReadyH.cons rfl (fun K hK => ?_) AllReadyH.nil)
          rw [if_pos (by rfl)]
          have hnn : Hid (∀ j u, ((List.range T.nS).flatMap (one1 T.S))[j]? = some u → XC.cell? ((⟨b1, o1, none⟩ : Addr).add j) = some u) := one11_cells (fun k hk => ((bcellN (n := w1.heap.size) hHeld).1 b1 _ (by omega)).trans (R1.out k hk))
          refine app_at _ _ rfl w1.heap.size 0 _ [] rfl hL1 ⟨b1, o1, none⟩ T.nS kS ((List.range T.nS).flatMap (one1 T.S)) rfl (one11_len _ _) hnn.out (one11_one _ _) (by omega) (by omega) ?_
          intro v1 XP1 hown1 hg1 hat1
          have hsz1 := hg1.size
          clear hnn
          rw [Nat.zero_add, List.nil_append] at hown1
          obtain ⟨g1, d1, rfl, j11, j12, hO1⟩ := own1_of_row (by omega) hown1
          have hgq1 : g1 = q1 ∨ g1 = XC.heap.size := by
            rcases hat1 with h | h
            · exact .inl (Option.some.inj h)
            · exact .inr (Option.some.inj h)
          have hbX : Below (w1.heap.size) XC XP1 := (Below.refl _ _).grown hg1 (by omega) (fun kk e => by have e2 : q1 = kk := Option.some.inj e; omega)
          have hsmX : ∀ b, b < XC.heap.size → ¬ b = q1 → Sm XC XP1 b := fun b hb hne => sm_grown hg1 hb (fun e => hne (Option.some.inj e))
          replace hL2 := World.ownsRow.kept hL2 hg1 (.inr (fun e => by have e2 : q2 = q1 := Option.some.inj e; omega))
          replace hZC := hZC.sm hsz1 (hsmX C (by omega) (by omega))
          refine hK.out _ _ (hHeld.trans hbX) (fun hNew => ?_)
          clear hK K hHeld
          have hHeld := hNew
          clear hNew
          try simp only [Act.put, List.setIfInBounds_toArray, List.set_cons_zero, List.set_cons_succ, List.getElem_toArray, List.getElem_cons_zero, List.getElem_cons_succ]
          clear hbX hsmX hown1 hg1 hat1
          refine wpAnyH_ready (rs := [7]) (by kernel_rfl) (by simp) ?_
          refine (AllReadyH.cons rfl (fun K hK => ?_) AllReadyH.nil)
          rw [if_pos (by rfl)]
          have hnn : Hid (∀ j u, ((List.range T.nA).flatMap (one1 T.A))[j]? = some u → XP1.cell? ((⟨b2, o2, none⟩ : Addr).add j) = some u) := one11_cells (fun k hk => ((bcellN (n := w1.heap.size) hHeld).1 b2 _ (by omega)).trans (R2.out k hk))
          refine app_at _ _ rfl w1.heap.size 0 _ [] rfl hL2 ⟨b2, o2, none⟩ T.nA kA ((List.range T.nA).flatMap (one1 T.A)) rfl (one11_len _ _) hnn.out (one11_one _ _) (by omega) (by omega) ?_
          intro v2 XP2 hown2 hg2 hat2
          have hsz2 := hg2.size
          clear hnn
          rw [Nat.zero_add, List.nil_append] at hown2
          obtain ⟨g2, d2, rfl, j21, j22, hO2⟩ := own1_of_row (by omega) hown2
          have hgq2 : g2 = q2 ∨ g2 = XP1.heap.size := by
            rcases hat2 with h | h
            · exact .inl (Option.some.inj h)
            · exact .inr (Option.some.inj h)
          have hbX : Below (w1.heap.size) XP1 XP2 := (Below.refl _ _).grown hg2 (by omega) (fun kk e => by have e2 : q2 = kk := Option.some.inj e; omega)
          have hsmX : ∀ b, b < XP1.heap.size → ¬ b = q2 → Sm XP1 XP2 b := fun b hb hne => sm_grown hg2 hb (fun e => hne (Option.some.inj e))
          replace hZC := hZC.sm hsz2 (hsmX C (by omega) (by omega))
          replace hO1 := own1_sm hO1 (hsmX g1 (by omega) (by omega))
          refine hK.out _ _ (hHeld.trans hbX) (fun hNew => ?_)
          clear hK K hHeld
          have hHeld := hNew
          clear hNew
          try simp only [Act.put, List.setIfInBounds_toArray, List.set_cons_zero, List.set_cons_succ, List.getElem_toArray, List.getElem_cons_zero, List.getElem_cons_succ]
          clear hbX hsmX hown2 hg2 hat2
          refine wpAnyH_take (i := 8) (v := .agg #[.slice (some ⟨g1, 0, none⟩) T.nS d1, .slice (some ⟨g2, 0, none⟩) T.nA d2]) rfl (by kernel_rfl) (by kernel_rfl) (by kernel_rfl) (fun _ _ _ h => h) (Or.inl ⟨by rfl, ?_⟩) (by assumption) ?_
          · intro wx hSw; obtain ⟨hcS, hfS⟩ := bcellN hSw; go_simp
          try simp only [Act.put, List.setIfInBounds_toArray, List.set_cons_zero, List.set_cons_succ, List.getElem_toArray, List.getElem_cons_zero, List.getElem_cons_succ]
          refine wpAnyH_ready (rs := [10]) (by kernel_rfl) (by simp) ?_
          refine (AllReadyH.cons rfl (fun K hK => ?_) AllReadyH.nil)
          have r0 := (hZC.2 0 (by simp)).1
          have r1 := (hZC.2 1 (by simp)).1
          have f0 := (hZC.2 0 (by simp)).2
          have f1 := (hZC.2 1 (by simp)).2
          simp only [List.getD, List.getElem?_cons_zero, List.getElem?_cons_succ, Option.getD_some] at r0 r1
          have lZC := hZC.1
          have hkC : w1.heap.size ≤ C := by omega
          go_simp
          obtain ⟨XSC, eS⟩ : ∃ X, X = ((XP2.setCell ⟨C, 0, none⟩ (.slice (some ⟨g1, 0, none⟩) T.nS d1)).setCell ⟨C, 1, none⟩ (.slice (some ⟨g2, 0, none⟩) T.nA d2)) := ⟨_, rfl⟩
          rw [← eS]
          have hPC : Bk XSC C [.slice (some ⟨g1, 0, none⟩) T.nS d1, .slice (some ⟨g2, 0, none⟩) T.nA d2] := by rw [eS]; exact bk_put (l := [.slice (some ⟨g1, 0, none⟩) T.nS d1, .slice (some ⟨g2, 0, none⟩) T.nA d2]) hZC rfl
          have hzC1 : XSC.heap.size ≤ XP2.heap.size := by rw [eS]; exact Nat.le_of_eq (size_put C [.slice (some ⟨g1, 0, none⟩) T.nS d1, .slice (some ⟨g2, 0, none⟩) T.nA d2] 0 XP2)
          have hzC2 : XP2.heap.size ≤ XSC.heap.size := by rw [eS]; exact Nat.le_of_eq (size_put C [.slice (some ⟨g1, 0, none⟩) T.nS d1, .slice (some ⟨g2, 0, none⟩) T.nA d2] 0 XP2).symm
          have hmC : ∀ b, ¬ b = C → Sm XP2 XSC b := by rw [eS]; exact fun b hb => sm_put hb [.slice (some ⟨g1, 0, none⟩) T.nS d1, .slice (some ⟨g2, 0, none⟩) T.nA d2] 0 XP2
          have hBC : Below (w1.heap.size) w1 XSC := by rw [eS]; exact below_put hkC [.slice (some ⟨g1, 0, none⟩) T.nS d1, .slice (some ⟨g2, 0, none⟩) T.nA d2] 0 hHeld
          clear eS r0 f0 r1 f1
          replace hO1 := own1_sm hO1 (hmC g1 (by omega))
          replace hO2 := own1_sm hO2 (hmC g2 (by omega))
          refine hK.out _ _ hBC (fun hNew => ?_)
          clear hK K hHeld
          have hHeld := hNew
          clear hNew
          try simp only [Act.put, List.setIfInBounds_toArray, List.set_cons_zero, List.set_cons_succ, List.getElem_toArray, List.getElem_cons_zero, List.getElem_cons_succ]
          refine wpAnyH_done (by kernel_rfl) ?_ _
          go_wp2
          go_meet
          case rel => exact ⟨C, g1, g2, d1, d2, rfl, hPC, hO1, hO2, ⟨by omega, by omega, by omega, by omega, by omega, by omega, by omega, by omega⟩, hHeld⟩
      · go_simp
        obtain ⟨XC, eA⟩ : ∃ X, X = XL1.alloc (.cells #[.slice none 0 0, .slice none 0 0] 27) := ⟨_, rfl⟩
        rw [← eA]
        have hbA : Below XL1.heap.size XL1 XC := by rw [eA]; exact (Below.refl _ _).alloc (Nat.le_refl _) _
        have hZC : Bk XC XL1.heap.size [.slice none 0 0, .slice none 0 0] := by rw [eA]; exact bk_new XL1 27 [.slice none 0 0, .slice none 0 0]
        have hzAC1 : XC.heap.size ≤ XL1.heap.size + 1 := by rw [eA]; simp
        have hzAC2 : XL1.heap.size + 1 ≤ XC.heap.size := by rw [eA]; simp
        clear eA
        replace hL1 := own_keep hL1 hbA
        have hsz_XC := hbA.size
        refine hK.out _ _ (bthenN hHeld (by omega) hbA) (fun hNew => ?_)
        clear hK K hHeld
        have hHeld := hNew
        clear hNew
        try simp only [Act.put, List.setIfInBounds_toArray, List.set_cons_zero, List.set_cons_succ, List.getElem_toArray, List.getElem_cons_zero, List.getElem_cons_succ]
        clear hbA
        obtain ⟨C, eC⟩ : ∃ g, g = XL1.heap.size := ⟨_, rfl⟩
        rw [← eC] at hZC ⊢
        have eC1 : C ≤ XL1.heap.size := by omega
        have eC2 : XL1.heap.size ≤ C := by omega
        clear eC
        refine wpAnyH_ready (rs := [3, 4]) (by kernel_rfl) (by simp) ?_
        refine (AllReadyH.cons rfl (fun K hK => ?_) (AllReadyH.cons rfl (fun K hK => ?_) AllReadyH.nil))
        · rw [if_pos (by rfl)]
          have hnn : Hid (∀ j u, ((List.range T.nS).flatMap (one1 T.S))[j]? = some u → XC.cell? ((⟨b1, o1, none⟩ : Addr).add j) = some u) := one11_cells (fun k hk => ((bcellN (n := w1.heap.size) hHeld).1 b1 _ (by omega)).trans (R1.out k hk))
          refine app_at _ _ rfl w1.heap.size 0 _ [] rfl hL1 ⟨b1, o1, none⟩ T.nS kS ((List.range T.nS).flatMap (one1 T.S)) rfl (one11_len _ _) hnn.out (one11_one _ _) (by omega) (by omega) ?_
          intro v1 XP1 hown1 hg1 hat1
          have hsz1 := hg1.size
          clear hnn
          rw [Nat.zero_add, List.nil_append] at hown1
          obtain ⟨g1, d1, rfl, j11, j12, hO1⟩ := own1_of_row (by omega) hown1
          have hgq1 : g1 = q1 ∨ g1 = XC.heap.size := by
            rcases hat1 with h | h
            · exact .inl (Option.some.inj h)
            · exact .inr (Option.some.inj h)
          have hbX : Below (w1.heap.size) XC XP1 := (Below.refl _ _).grown hg1 (by omega) (fun kk e => by have e2 : q1 = kk := Option.some.inj e; omega)
          have hsmX : ∀ b, b < XC.heap.size → ¬ b = q1 → Sm XC XP1 b := fun b hb hne => sm_grown hg1 hb (fun e => hne (Option.some.inj e))
          replace hZC := hZC.sm hsz1 (hsmX C (by omega) (by omega))
          refine hK.out _ _ (hHeld.trans hbX) (fun hNew => ?_)
          clear hK K hHeld
          have hHeld := hNew
          clear hNew
          try simp only [Act.put, List.setIfInBounds_toArray, List.set_cons_zero, List.set_cons_succ, List.getElem_toArray, List.getElem_cons_zero, List.getElem_cons_succ]
          clear hbX hsmX hown1 hg1 hat1
          refine wpAnyH_ready (rs := [4]) (by kernel_rfl) (by simp) ?_
          refine (AllReadyH.cons rfl (fun K hK => ?_) AllReadyH.nil)
          go_simp
          obtain ⟨XL2, eA⟩ : ∃ X, X = XP1.alloc (.cells #[] 3) := ⟨_, rfl⟩
          rw [← eA]
          have hbA : Below XP1.heap.size XP1 XL2 := by rw [eA]; exact (Below.refl _ _).alloc (Nat.le_refl _) _
          have hL2 : XL2.ownsRow w1.heap.size 3 1 (.slice (some ⟨XP1.heap.size, 0, none⟩) 0 0) 0 [] := by rw [eA]; exact World.ownsRow_lit XP1 #[] 0 (by omega) (by simp) (by simp)
          have hzA21 : XL2.heap.size ≤ XP1.heap.size + 1 := by rw [eA]; simp
          have hzA22 : XP1.heap.size + 1 ≤ XL2.heap.size := by rw [eA]; simp
          clear eA
          replace hZC := hZC.below hbA
          replace hO1 := own1_below hO1 (by omega) hbA
          have hsz_XL2 := hbA.size
          refine hK.out _ _ (bthenN hHeld (by omega) hbA) (fun hNew => ?_)
          clear hK K hHeld
          have hHeld := hNew
          clear hNew
          try simp only [Act.put, List.setIfInBounds_toArray, List.set_cons_zero, List.set_cons_succ, List.getElem_toArray, List.getElem_cons_zero, List.getElem_cons_succ]
          clear hbA
          obtain ⟨q2, eq2⟩ : ∃ g, g = XP1.heap.size := ⟨_, rfl⟩
          rw [← eq2] at hL2 ⊢
          have eq21 : q2 ≤ XP1.heap.size := by omega
          have eq22 : XP1.heap.size ≤ q2 := by omega
          clear eq2
          refine wpAnyH_ready (rs := [7]) (by kernel_rfl) (by simp) ?_
          refine (AllReadyH.cons rfl (fun K hK => ?_) AllReadyH.nil)
          rw [if_pos (by rfl)]
          have hnn : Hid (∀ j u, ((List.range T.nA).flatMap (one1 T.A))[j]? = some u → XL2.cell? ((⟨b2, o2, none⟩ : Addr).add j) = some u) := one11_cells (fun k hk => ((bcellN (n := w1.heap.size) hHeld).1 b2 _ (by omega)).trans (R2.out k hk))
          refine app_at _ _ rfl w1.heap.size 0 _ [] rfl hL2 ⟨b2, o2, none⟩ T.nA kA ((List.range T.nA).flatMap (one1 T.A)) rfl (one11_len _ _) hnn.out (one11_one _ _) (by omega) (by omega) ?_
          intro v2 XP2 hown2 hg2 hat2
          have hsz2 := hg2.size
          clear hnn
          rw [Nat.zero_add, List.nil_append] at hown2
          obtain ⟨g2, d2, rfl, j21, j22, hO2⟩ := own1_of_row (by omega) hown2
          have hgq2 : g2 = q2 ∨ g2 = XL2.heap.size := by
            rcases hat2 with h | h
            · exact .inl (Option.some.inj h)
            · exact .inr (Option.some.inj h)
          have hbX : Below (w1.heap.size) XL2 XP2 := (Below.refl _ _).grown hg2 (by omega) (fun kk e => by have e2 : q2 = kk := Option.some.inj e; omega)
          have hsmX : ∀ b, b < XL2.heap.size → ¬ b = q2 → Sm XL2 XP2 b := fun b hb hne => sm_grown hg2 hb (fun e => hne (Option.some.inj e))
          replace hZC := hZC.sm hsz2 (hsmX C (by omega) (by omega))
          replace hO1 := own1_sm hO1 (hsmX g1 (by omega) (by omega))
          refine hK.out _ _ (hHeld.trans hbX) (fun hNew => ?_)
          clear hK K hHeld
          have hHeld := hNew
          clear hNew
          try simp only [Act.put, List.setIfInBounds_toArray, List.set_cons_zero, List.set_cons_succ, List.getElem_toArray, List.getElem_cons_zero, List.getElem_cons_succ]
          clear hbX hsmX hown2 hg2 hat2
          refine wpAnyH_take (i := 8) (v := .agg #[.slice (some ⟨g1, 0, none⟩) T.nS d1, .slice (some ⟨g2, 0, none⟩) T.nA d2]) rfl (by kernel_rfl) (by kernel_rfl) (by kernel_rfl) (fun _ _ _ h => h) (Or.inl ⟨by rfl, ?_⟩) (by assumption) ?_
          · intro wx hSw; obtain ⟨hcS, hfS⟩ := bcellN hSw; go_simp
          try simp only [Act.put, List.setIfInBounds_toArray, List.set_cons_zero, List.set_cons_succ, List.getElem_toArray, List.getElem_cons_zero, List.getElem_cons_succ]
          refine wpAnyH_ready (rs := [10]) (by kernel_rfl) (by simp) ?_
          refine (AllReadyH.cons rfl (fun K hK => ?_) AllReadyH.nil)
          have r0 := (hZC.2 0 (by simp)).1
          have r1 := (hZC.2 1 (by simp)).1
          have f0 := (hZC.2 0 (by simp)).2
          have f1 := (hZC.2 1 (by simp)).2
          simp only [List.getD, List.getElem?_cons_zero, List.getElem?_cons_succ, Option.getD_some] at r0 r1
          have lZC := hZC.1
          have hkC : w1.heap.size ≤ C := by omega
          go_simp
          obtain ⟨XSC, eS⟩ : ∃ X, X = ((XP2.setCell ⟨C, 0, none⟩ (.slice (some ⟨g1, 0, none⟩) T.nS d1)).setCell ⟨C, 1, none⟩ (.slice (some ⟨g2, 0, none⟩) T.nA d2)) := ⟨_, rfl⟩
          rw [← eS]
          have hPC : Bk XSC C [.slice (some ⟨g1, 0, none⟩) T.nS d1, .slice (some ⟨g2, 0, none⟩) T.nA d2] := by rw [eS]; exact bk_put (l := [.slice (some ⟨g1, 0, none⟩) T.nS d1, .slice (some ⟨g2, 0, none⟩) T.nA d2]) hZC rfl
          have hzC1 : XSC.heap.size ≤ XP2.heap.size := by rw [eS]; exact Nat.le_of_eq (size_put C [.slice (some ⟨g1, 0, none⟩) T.nS d1, .slice (some ⟨g2, 0, none⟩) T.nA d2] 0 XP2)
          have hzC2 : XP2.heap.size ≤ XSC.heap.size := by rw [eS]; exact Nat.le_of_eq (size_put C [.slice (some ⟨g1, 0, none⟩) T.nS d1, .slice (some ⟨g2, 0, none⟩) T.nA d2] 0 XP2).symm
          have hmC : ∀ b, ¬ b = C → Sm XP2 XSC b := by rw [eS]; exact fun b hb => sm_put hb [.slice (some ⟨g1, 0, none⟩) T.nS d1, .slice (some ⟨g2, 0, none⟩) T.nA d2] 0 XP2
          have hBC : Below (w1.heap.size) w1 XSC := by rw [eS]; exact below_put hkC [.slice (some ⟨g1, 0, none⟩) T.nS d1, .slice (some ⟨g2, 0, none⟩) T.nA d2] 0 hHeld
          clear eS r0 f0 r1 f1
          replace hO1 := own1_sm hO1 (hmC g1 (by omega))
          replace hO2 := own1_sm hO2 (hmC g2 (by omega))
          refine hK.out _ _ hBC (fun hNew => ?_)
          clear hK K hHeld
          have hHeld := hNew
          clear hNew
          try simp only [Act.put, List.setIfInBounds_toArray, List.set_cons_zero, List.set_cons_succ, List.getElem_toArray, List.getElem_cons_zero, List.getElem_cons_succ]
          refine wpAnyH_done (by kernel_rfl) ?_ _
          go_wp2
          go_meet
          case rel => exact ⟨C, g1, g2, d1, d2, rfl, hPC, hO1, hO2, ⟨by omega, by omega, by omega, by omega, by omega, by omega, by omega, by omega⟩, hHeld⟩
        · go_simp
          obtain ⟨XL2, eA⟩ : ∃ X, X = XC.alloc (.cells #[] 3) := ⟨_, rfl⟩
          rw [← eA]
          have hbA : Below XC.heap.size XC XL2 := by rw [eA]; exact (Below.refl _ _).alloc (Nat.le_refl _) _
          have hL2 : XL2.ownsRow w1.heap.size 3 1 (.slice (some ⟨XC.heap.size, 0, none⟩) 0 0) 0 [] := by rw [eA]; exact World.ownsRow_lit XC #[] 0 (by omega) (by simp) (by simp)
          have hzA21 : XL2.heap.size ≤ XC.heap.size + 1 := by rw [eA]; simp
          have hzA22 : XC.heap.size + 1 ≤ XL2.heap.size := by rw [eA]; simp
          clear eA
          replace hL1 := own_keep hL1 hbA
          replace hZC := hZC.below hbA
          have hsz_XL2 := hbA.size
          refine hK.out _ _ (bthenN hHeld (by omega) hbA) (fun hNew => ?_)
          clear hK K hHeld
          have hHeld := hNew
          clear hNew
          try simp only [Act.put, List.setIfInBounds_toArray, List.set_cons_zero, List.set_cons_succ, List.getElem_toArray, List.getElem_cons_zero, List.getElem_cons_succ]
          clear hbA
          obtain ⟨q2, eq2⟩ : ∃ g, g = XC.heap.size := ⟨_, rfl⟩
          rw [← eq2] at hL2 ⊢
          have eq21 : q2 ≤ XC.heap.size := by omega
          have eq22 : XC.heap.size ≤ q2 := by omega
          clear eq2
          refine wpAnyH_ready (rs := [3]) (by kernel_rfl) (by simp) ?_
          refine (AllReadyH.cons rfl (fun K hK => ?_) AllReadyH.nil)
          rw [if_pos (by rfl)]
          have hnn : Hid (∀ j u, ((List.range T.nS).flatMap (one1 T.S))[j]? = some u → XL2.cell? ((⟨b1, o1, none⟩ : Addr).add j) = some u) := one11_cells (fun k hk => ((bcellN (n := w1.heap.size) hHeld).1 b1 _ (by omega)).trans (R1.out k hk))
          refine app_at _ _ rfl w1.heap.size 0 _ [] rfl hL1 ⟨b1, o1, none⟩ T.nS kS ((List.range T.nS).flatMap (one1 T.S)) rfl (one11_len _ _) hnn.out (one11_one _ _) (by omega) (by omega) ?_
          intro v1 XP1 hown1 hg1 hat1
          have hsz1 := hg1.size
          clear hnn
          rw [Nat.zero_add, List.nil_append] at hown1
          obtain ⟨g1, d1, rfl, j11, j12, hO1⟩ := own1_of_row (by omega) hown1
          have hgq1 : g1 = q1 ∨ g1 = XL2.heap.size := by
            rcases hat1 with h | h
            · exact .inl (Option.some.inj h)
            · exact .inr (Option.some.inj h)
          have hbX : Below (w1.heap.size) XL2 XP1 := (Below.refl _ _).grown hg1 (by omega) (fun kk e => by have e2 : q1 = kk := Option.some.inj e; omega)
          have hsmX : ∀ b, b < XL2.heap.size → ¬ b = q1 → Sm XL2 XP1 b := fun b hb hne => sm_grown hg1 hb (fun e => hne (Option.some.inj e))
          replace hZC := hZC.sm hsz1 (hsmX C (by omega) (by omega))
          replace hL2 := World.ownsRow.kept hL2 hg1 (.inr (fun e => by have e2 : q2 = q1 := Option.some.inj e; omega))
          refine hK.out _ _ (hHeld.trans hbX) (fun hNew => ?_)
          clear hK K hHeld
          have hHeld := hNew
          clear hNew
          try simp only [Act.put, List.setIfInBounds_toArray, List.set_cons_zero, List.set_cons_succ, List.getElem_toArray, List.getElem_cons_zero, List.getElem_cons_succ]
          clear hbX hsmX hown1 hg1 hat1
          refine wpAnyH_ready (rs := [7]) (by kernel_rfl) (by simp) ?_
          refine (AllReadyH.cons rfl (fun K hK => ?_) AllReadyH.nil)
          rw [if_pos (by rfl)]
          have hnn : Hid (∀ j u, ((List.range T.nA).flatMap (one1 T.A))[j]? = some u → XP1.cell? ((⟨b2, o2, none⟩ : Addr).add j) = some u) := one11_cells (fun k hk => ((bcellN (n := w1.heap.size) hHeld).1 b2 _ (by omega)).trans (R2.out k hk))
          refine app_at _ _ rfl w1.heap.size 0 _ [] rfl hL2 ⟨b2, o2, none⟩ T.nA kA ((List.range T.nA).flatMap (one1 T.A)) rfl (one11_len _ _) hnn.out (one11_one _ _) (by omega) (by omega) ?_
          intro v2 XP2 hown2 hg2 hat2
          have hsz2 := hg2.size
          clear hnn
          rw [Nat.zero_add, List.nil_append] at hown2
          obtain ⟨g2, d2, rfl, j21, j22, hO2⟩ := own1_of_row (by omega) hown2
          have hgq2 : g2 = q2 ∨ g2 = XP1.heap.size := by
            rcases hat2 with h | h
            · exact .inl (Option.some.inj h)
            · exact .inr (Option.some.inj h)
          have hbX : Below (w1.heap.size) XP1 XP2 := (Below.refl _ _).grown hg2 (by omega) (fun kk e => by have e2 : q2 = kk := Option.some.inj e; omega)
          have hsmX : ∀ b, b < XP1.heap.size → ¬ b = q2 → Sm XP1 XP2 b := fun b hb hne => sm_grown hg2 hb (fun e => hne (Option.some.inj e))
          replace hZC := hZC.sm hsz2 (hsmX C (by omega) (by omega))
          replace hO1 := own1_sm hO1 (hsmX g1 (by omega) (by omega))
          refine hK.out _ _ (hHeld.trans hbX) (fun hNew => ?_)
          clear hK K hHeld
          have hHeld := hNew
          clear hNew
          try simp only [Act.put, List.setIfInBounds_toArray, List.set_cons_zero, List.set_cons_succ, List.getElem_toArray, List.getElem_cons_zero, List.getElem_cons_succ]
          clear hbX hsmX hown2 hg2 hat2
          refine wpAnyH_take (i := 8) (v := .agg #[.slice (some ⟨g1, 0, none⟩) T.nS d1, .slice (some ⟨g2, 0, none⟩) T.nA d2]) rfl (by kernel_rfl) (by kernel_rfl) (by kernel_rfl) (fun _ _ _ h => h) (Or.inl ⟨by rfl, ?_⟩) (by assumption) ?_
          · intro wx hSw; obtain ⟨hcS, hfS⟩ := bcellN hSw; go_simp
          try simp only [Act.put, List.setIfInBounds_toArray, List.set_cons_zero, List.set_cons_succ, List.getElem_toArray, List.getElem_cons_zero, List.getElem_cons_succ]
          refine wpAnyH_ready (rs := [10]) (by kernel_rfl) (by simp) ?_
          refine (AllReadyH.cons rfl (fun K hK => ?_) AllReadyH.nil)
          have r0 := (hZC.2 0 (by simp)).1
          have r1 := (hZC.2 1 (by simp)).1
          have f0 := (hZC.2 0 (by simp)).2
          have f1 := (hZC.2 1 (by simp)).2
          simp only [List.getD, List.getElem?_cons_zero, List.getElem?_cons_succ, Option.getD_some] at r0 r1
          have lZC := hZC.1
          have hkC : w1.heap.size ≤ C := by omega
          go_simp
          obtain ⟨XSC, eS⟩ : ∃ X, X = ((XP2.setCell ⟨C, 0, none⟩ (.slice (some ⟨g1, 0, none⟩) T.nS d1)).setCell ⟨C, 1, none⟩ (.slice (some ⟨g2, 0, none⟩) T.nA d2)) := ⟨_, rfl⟩
          rw [← eS]
          have hPC : Bk XSC C [.slice (some ⟨g1, 0, none⟩) T.nS d1, .slice (some ⟨g2, 0, none⟩) T.nA d2] := by rw [eS]; exact bk_put (l := [.slice (some ⟨g1, 0, none⟩) T.nS d1, .slice (some ⟨g2, 0, none⟩) T.nA d2]) hZC rfl
          have hzC1 : XSC.heap.size ≤ XP2.heap.size := by rw [eS]; exact Nat.le_of_eq (size_put C [.slice (some ⟨g1, 0, none⟩) T.nS d1, .slice (some ⟨g2, 0, none⟩) T.nA d2] 0 XP2)
          have hzC2 : XP2.heap.size ≤ XSC.heap.size := by rw [eS]; exact Nat.le_of_eq (size_put C [.slice (some ⟨g1, 0, none⟩) T.nS d1, .slice (some ⟨g2, 0, none⟩) T.nA d2] 0 XP2).symm
          have hmC : ∀ b, ¬ b = C → Sm XP2 XSC b := by rw [eS]; exact fun b hb => sm_put hb [.slice (some ⟨g1, 0, none⟩) T.nS d1, .slice (some ⟨g2, 0, none⟩) T.nA d2] 0 XP2
          have hBC : Below (w1.heap.size) w1 XSC := by rw [eS]; exact below_put hkC [.slice (some ⟨g1, 0, none⟩) T.nS d1, .slice (some ⟨g2, 0, none⟩) T.nA d2] 0 hHeld
          clear eS r0 f0 r1 f1
          replace hO1 := own1_sm hO1 (hmC g1 (by omega))
          replace hO2 := own1_sm hO2 (hmC g2 (by omega))
          refine hK.out _ _ hBC (fun hNew => ?_)
          clear hK K hHeld
          have hHeld := hNew
          clear hNew
          try simp only [Act.put, List.setIfInBounds_toArray, List.set_cons_zero, List.set_cons_succ, List.getElem_toArray, List.getElem_cons_zero, List.getElem_cons_succ]
          refine wpAnyH_done (by kernel_rfl) ?_ _
          go_wp2
          go_meet
          case rel => exact ⟨C, g1, g2, d1, d2, rfl, hPC, hO1, hO2, ⟨by omega, by omega, by omega, by omega, by omega, by omega, by omega, by omega⟩, hHeld⟩
    · go_simp
      obtain ⟨XL2, eA⟩ : ∃ X, X = X0.alloc (.cells #[] 3) := ⟨_, rfl⟩
      rw [← eA]
      have hbA : Below X0.heap.size X0 XL2 := by rw [eA]; exact (Below.refl _ _).alloc (Nat.le_refl _) _
      have hL2 : XL2.ownsRow w1.heap.size 3 1 (.slice (some ⟨X0.heap.size, 0, none⟩) 0 0) 0 [] := by rw [eA]; exact World.ownsRow_lit X0 #[] 0 (by omega) (by simp) (by simp)
      have hzA21 : XL2.heap.size ≤ X0.heap.size + 1 := by rw [eA]; simp
      have hzA22 : X0.heap.size + 1 ≤ XL2.heap.size := by rw [eA]; simp
      clear eA
      have hsz_XL2 := hbA.size
      refine hK.out _ _ (bthenN hHeld (by omega) hbA) (fun hNew => ?_)
      clear hK K hHeld
      have hHeld := hNew
      clear hNew
      try simp only [Act.put, List.setIfInBounds_toArray, List.set_cons_zero, List.set_cons_succ, List.getElem_toArray, List.getElem_cons_zero, List.getElem_cons_succ]
      clear hbA
      obtain ⟨q2, eq2⟩ : ∃ g, g = X0.heap.size := ⟨_, rfl⟩
      rw [← eq2] at hL2 ⊢
      have eq21 : q2 ≤ X0.heap.size := by omega
      have eq22 : X0.heap.size ≤ q2 := by omega
      clear eq2
      refine wpAnyH_ready (rs := [0, 9]) (by kernel_rfl) (by simp) ?_
      refine (AllReadyH.cons rfl (fun K hK => ?_) (AllReadyH.cons rfl (fun K hK => ?_) AllReadyH.nil))
      · go_simp
        obtain ⟨XL1, eA⟩ : ∃ X, X = XL2.alloc (.cells #[] 3) := ⟨_, rfl⟩
        rw [← eA]
        have hbA : Below XL2.heap.size XL2 XL1 := by rw [eA]; exact (Below.refl _ _).alloc (Nat.le_refl _) _
        have hL1 : XL1.ownsRow w1.heap.size 3 1 (.slice (some ⟨XL2.heap.size, 0, none⟩) 0 0) 0 [] := by rw [eA]; exact World.ownsRow_lit XL2 #[] 0 (by omega) (by simp) (by simp)
        have hzA11 : XL1.heap.size ≤ XL2.heap.size + 1 := by rw [eA]; simp
        have hzA12 : XL2.heap.size + 1 ≤ XL1.heap.size := by rw [eA]; simp
        clear eA
        replace hL2 := own_keep hL2 hbA
        have hsz_XL1 := hbA.size
        refine hK.out _ _ (bthenN hHeld (by omega) hbA) (fun hNew => ?_)
        clear hK K hHeld
        have hHeld := hNew
        clear hNew
        try simp only [Act.put, List.setIfInBounds_toArray, List.set_cons_zero, List.set_cons_succ, List.getElem_toArray, List.getElem_cons_zero, List.getElem_cons_succ]
        clear hbA
        obtain ⟨q1, eq1⟩ : ∃ g, g = XL2.heap.size := ⟨_, rfl⟩
        rw [← eq1] at hL1 ⊢
        have eq11 : q1 ≤ XL2.heap.size := by omega
        have eq12 : XL2.heap.size ≤ q1 := by omega
        clear eq1
        refine wpAnyH_ready (rs := [3, 9]) (by kernel_rfl) (by simp) ?_
        refine (AllReadyH.cons rfl (fun K hK => ?_) (AllReadyH.cons rfl (fun K hK => ?_) AllReadyH.nil))
        · rw [if_pos (by rfl)]
          have hnn : Hid (∀ j u, ((List.range T.nS).flatMap (one1 T.S))[j]? = some u → XL1.cell? ((⟨b1, o1, none⟩ : Addr).add j) = some u) := one11_cells (fun k hk => ((bcellN (n := w1.heap.size) hHeld).1 b1 _ (by omega)).trans (R1.out k hk))
          refine app_at _ _ rfl w1.heap.size 0 _ [] rfl hL1 ⟨b1, o1, none⟩ T.nS kS ((List.range T.nS).flatMap (one1 T.S)) rfl (one11_len _ _) hnn.out (one11_one _ _) (by omega) (by omega) ?_
          intro v1 XP1 hown1 hg1 hat1
          have hsz1 := hg1.size
          clear hnn
          rw [Nat.zero_add, List.nil_append] at hown1
          obtain ⟨g1, d1, rfl, j11, j12, hO1⟩ := own1_of_row (by omega) hown1
          have hgq1 : g1 = q1 ∨ g1 = XL1.heap.size := by
            rcases hat1 with h | h
            · exact .inl (Option.some.inj h)
            · exact .inr (Option.some.inj h)
          have hbX : Below (w1.heap.size) XL1 XP1 := (Below.refl _ _).grown hg1 (by omega) (fun kk e => by have e2 : q1 = kk := Option.some.inj e; omega)
          have hsmX : ∀ b, b < XL1.heap.size → ¬ b = q1 → Sm XL1 XP1 b := fun b hb hne => sm_grown hg1 hb (fun e => hne (Option.some.inj e))
          replace hL2 := World.ownsRow.kept hL2 hg1 (.inr (fun e => by have e2 : q2 = q1 := Option.some.inj e; omega))
          refine hK.out _ _ (hHeld.trans hbX) (fun hNew => ?_)
          clear hK K hHeld
          have hHeld := hNew
          clear hNew
          try simp only [Act.put, List.setIfInBounds_toArray, List.set_cons_zero, List.set_cons_succ, List.getElem_toArray, List.getElem_cons_zero, List.getElem_cons_succ]
          clear hbX hsmX hown1 hg1 hat1
          refine wpAnyH_ready (rs := [7, 9]) (by kernel_rfl) (by simp) ?_
          refine (AllReadyH.cons rfl (fun K hK => ?_) (AllReadyH.cons rfl (fun K hK => ?_) AllReadyH.nil))
          · rw [if_pos (by rfl)]
            have hnn : Hid (∀ j u, ((List.range T.nA).flatMap (one1 T.A))[j]? = some u → XP1.cell? ((⟨b2, o2, none⟩ : Addr).add j) = some u) := one11_cells (fun k hk => ((bcellN (n := w1.heap.size) hHeld).1 b2 _ (by omega)).trans (R2.out k hk))
            refine app_at _ _ rfl w1.heap.size 0 _ [] rfl hL2 ⟨b2, o2, none⟩ T.nA kA ((List.range T.nA).flatMap (one1 T.A)) rfl (one11_len _ _) hnn.out (one11_one _ _) (by omega) (by omega) ?_
            intro v2 XP2 hown2 hg2 hat2
            have hsz2 := hg2.size
            clear hnn
            rw [Nat.zero_add, List.nil_append] at hown2
            obtain ⟨g2, d2, rfl, j21, j22, hO2⟩ := own1_of_row (by omega) hown2
            have hgq2 : g2 = q2 ∨ g2 = XP1.heap.size := by
              rcases hat2 with h | h
              · exact .inl (Option.some.inj h)
              · exact .inr (Option.some.inj h)
            have hbX : Below (w1.heap.size) XP1 XP2 := (Below.refl _ _).grown hg2 (by omega) (fun kk e => by have e2 : q2 = kk := Option.some.inj e; omega)
            have hsmX : ∀ b, b < XP1.heap.size → ¬ b = q2 → Sm XP1 XP2 b := fun b hb hne => sm_grown hg2 hb (fun e => hne (Option.some.inj e))
            replace hO1 := own1_sm hO1 (hsmX g1 (by omega) (by omega))
            refine hK.out _ _ (hHeld.trans hbX) (fun hNew => ?_)
            clear hK K hHeld
            have hHeld := hNew
            clear hNew
            try simp only [Act.put, List.setIfInBounds_toArray, List.set_cons_zero, List.set_cons_succ, List.getElem_toArray, List.getElem_cons_zero, List.getElem_cons_succ]
            clear hbX hsmX hown2 hg2 hat2
            refine wpAnyH_take (i := 8) (v := .agg #[.slice (some ⟨g1, 0, none⟩) T.nS d1, .slice (some ⟨g2, 0, none⟩) T.nA d2]) rfl (by kernel_rfl) (by kernel_rfl) (by kernel_rfl) (fun _ _ _ h => h) (Or.inl ⟨by rfl, ?_⟩) (by assumption) ?_
            · intro wx hSw; obtain ⟨hcS, hfS⟩ := bcellN hSw; go_simp
            try simp only [Act.put, List.setIfInBounds_toArray, List.set_cons_zero, List.set_cons_succ, List.getElem_toArray, List.getElem_cons_zero, List.getElem_cons_succ]
            refine wpAnyH_ready (rs := [9]) (by kernel_rfl) (by simp) ?_
            refine (AllReadyH.cons rfl (fun K hK => ?_) AllReadyH.nil)
            go_simp
            obtain ⟨XC, eA⟩ : ∃ X, X = XP2.alloc (.cells #[.slice none 0 0, .slice none 0 0] 27) := ⟨_, rfl⟩
            rw [← eA]
            have hbA : Below XP2.heap.size XP2 XC := by rw [eA]; exact (Below.refl _ _).alloc (Nat.le_refl _) _
            have hZC : Bk XC XP2.heap.size [.slice none 0 0, .slice none 0 0] := by rw [eA]; exact bk_new XP2 27 [.slice none 0 0, .slice none 0 0]
            have hzAC1 : XC.heap.size ≤ XP2.heap.size + 1 := by rw [eA]; simp
            have hzAC2 : XP2.heap.size + 1 ≤ XC.heap.size := by rw [eA]; simp
            clear eA
            replace hO1 := own1_below hO1 (by omega) hbA
            replace hO2 := own1_below hO2 (by omega) hbA
            have hsz_XC := hbA.size
            refine hK.out _ _ (bthenN hHeld (by omega) hbA) (fun hNew => ?_)
            clear hK K hHeld
            have hHeld := hNew
            clear hNew
            try simp only [Act.put, List.setIfInBounds_toArray, List.set_cons_zero, List.set_cons_succ, List.getElem_toArray, List.getElem_cons_zero, List.getElem_cons_succ]
            clear hbA
            obtain ⟨C, eC⟩ : ∃ g, g = XP2.heap.size := ⟨_, rfl⟩
            rw [← eC] at hZC ⊢
            have eC1 : C ≤ XP2.heap.size := by omega
            have eC2 : XP2.heap.size ≤ C := by omega
            clear eC
            refine wpAnyH_ready (rs := [10]) (by kernel_rfl) (by simp) ?_
            refine (AllReadyH.cons rfl (fun K hK => ?_) AllReadyH.nil)
            have r0 := (hZC.2 0 (by simp)).1
            have r1 := (hZC.2 1 (by simp)).1
            have f0 := (hZC.2 0 (by simp)).2
            have f1 := (hZC.2 1 (by simp)).2
            simp only [List.getD, List.getElem?_cons_zero, List.getElem?_cons_succ, Option.getD_some] at r0 r1
            have lZC := hZC.1
            have hkC : w1.heap.size ≤ C := by omega
            go_simp
            obtain ⟨XSC, eS⟩ : ∃ X, X = ((XC.setCell ⟨C, 0, none⟩ (.slice (some ⟨g1, 0, none⟩) T.nS d1)).setCell ⟨C, 1, none⟩ (.slice (some ⟨g2, 0, none⟩) T.nA d2)) := ⟨_, rfl⟩
            rw [← eS]
            have hPC : Bk XSC C [.slice (some ⟨g1, 0, none⟩) T.nS d1, .slice (some ⟨g2, 0, none⟩) T.nA d2] := by rw [eS]; exact bk_put (l := [.slice (some ⟨g1, 0, none⟩) T.nS d1, .slice (some ⟨g2, 0, none⟩) T.nA d2]) hZC rfl
            have hzC1 : XSC.heap.size ≤ XC.heap.size := by rw [eS]; exact Nat.le_of_eq (size_put C [.slice (some ⟨g1, 0, none⟩) T.nS d1, .slice (some ⟨g2, 0, none⟩) T.nA d2] 0 XC)
            have hzC2 : XC.heap.size ≤ XSC.heap.size := by rw [eS]; exact Nat.le_of_eq (size_put C [.slice (some ⟨g1, 0, none⟩) T.nS d1, .slice (some ⟨g2, 0, none⟩) T.nA d2] 0 XC).symm
            have hmC : ∀ b, ¬ b = C → Sm XC XSC b := by rw [eS]; exact fun b hb => sm_put hb [.slice (some ⟨g1, 0, none⟩) T.nS d1, .slice (some ⟨g2, 0, none⟩) T.nA d2] 0 XC
            have hBC : Below (w1.heap.size) w1 XSC := by rw [eS]; exact below_put hkC [.slice (some ⟨g1, 0, none⟩) T.nS d1, .slice (some ⟨g2, 0, none⟩) T.nA d2] 0 hHeld
            clear eS r0 f0 r1 f1
            replace hO1 := own1_sm hO1 (hmC g1 (by omega))
            replace hO2 := own1_sm hO2 (hmC g2 (by omega))
            refine hK.out _ _ hBC (fun hNew => ?_)
            clear hK K hHeld
            have hHeld := hNew
            clear hNew
            try simp only [Act.put, List.setIfInBounds_toArray, List.set_cons_zero, List.set_cons_succ, List.getElem_toArray, List.getElem_cons_zero, List.getElem_cons_succ]
            refine wpAnyH_done (by kernel_rfl) ?_ _
            go_wp2
            go_meet
            case rel => exact ⟨C, g1, g2, d1, d2, rfl, hPC, hO1, hO2, ⟨by omega, by omega, by omega, by omega, by omega, by omega, by omega, by omega⟩, hHeld⟩
          · go_simp
            obtain ⟨XC, eA⟩ : ∃ X, X = XP1.alloc (.cells #[.slice none 0 0, .slice none 0 0] 27) := ⟨_, rfl⟩
            rw [← eA]
            have hbA : Below XP1.heap.size XP1 XC := by rw [eA]; exact (Below.refl _ _).alloc (Nat.le_refl _) _
            have hZC : Bk XC XP1.heap.size [.slice none 0 0, .slice none 0 0] := by rw [eA]; exact bk_new XP1 27 [.slice none 0 0, .slice none 0 0]
            have hzAC1 : XC.heap.size ≤ XP1.heap.size + 1 := by rw [eA]; simp
            have hzAC2 : XP1.heap.size + 1 ≤ XC.heap.size := by rw [eA]; simp
            clear eA
            replace hL2 := own_keep hL2 hbA
            replace hO1 := own1_below hO1 (by omega) hbA
            have hsz_XC := hbA.size
            refine hK.out _ _ (bthenN hHeld (by omega) hbA) (fun hNew => ?_)
            clear hK K hHeld
            have hHeld := hNew
            clear hNew
            try simp only [Act.put, List.setIfInBounds_toArray, List.set_cons_zero, List.set_cons_succ, List.getElem_toArray, List.getElem_cons_zero, List.getElem_cons_succ]
            clear hbA
            obtain ⟨C, eC⟩ : ∃ g, g = XP1.heap.size := ⟨_, rfl⟩
            rw [← eC] at hZC ⊢
            have eC1 : C ≤ XP1.heap.size := by omega
            have eC2 : XP1.heap.size ≤ C := by omega
            clear eC
            refine wpAnyH_ready (rs := [7]) (by kernel_rfl) (by simp) ?_
            refine (AllReadyH.cons rfl (fun K hK => ?_) AllReadyH.nil)
            rw [if_pos (by rfl)]
            have hnn : Hid (∀ j u, ((List.range T.nA).flatMap (one1 T.A))[j]? = some u → XC.cell? ((⟨b2, o2, none⟩ : Addr).add j) = some u) := one11_cells (fun k hk => ((bcellN (n := w1.heap.size) hHeld).1 b2 _ (by omega)).trans (R2.out k hk))
            refine app_at _ _ rfl w1.heap.size 0 _ [] rfl hL2 ⟨b2, o2, none⟩ T.nA kA ((List.range T.nA).flatMap (one1 T.A)) rfl (one11_len _ _) hnn.out (one11_one _ _) (by omega) (by omega) ?_
            intro v2 XP2 hown2 hg2 hat2
            have hsz2 := hg2.size
            clear hnn
            rw [Nat.zero_add, List.nil_append] at hown2
            obtain ⟨g2, d2, rfl, j21, j22, hO2⟩ := own1_of_row (by omega) hown2
            have hgq2 : g2 = q2 ∨ g2 = XC.heap.size := by
              rcases hat2 with h | h
              · exact .inl (Option.some.inj h)
              · exact .inr (Option.some.inj h)
            have hbX : Below (w1.heap.size) XC XP2 := (Below.refl _ _).grown hg2 (by omega) (fun kk e => by have e2 : q2 = kk := Option.some.inj e; omega)
            have hsmX : ∀ b, b < XC.heap.size → ¬ b = q2 → Sm XC XP2 b := fun b hb hne => sm_grown hg2 hb (fun e => hne (Option.some.inj e))
            replace hO1 := own1_sm hO1 (hsmX g1 (by omega) (by omega))
            replace hZC := hZC.sm hsz2 (hsmX C (by omega) (by omega))
            refine hK.out _ _ (hHeld.trans hbX) (fun hNew => ?_)
            clear hK K hHeld
            have hHeld := hNew
            clear hNew
            try simp only [Act.put, List.setIfInBounds_toArray, List.set_cons_zero, List.set_cons_succ, List.getElem_toArray, List.getElem_cons_zero, List.getElem_cons_succ]
            clear hbX hsmX hown2 hg2 hat2
            refine wpAnyH_take (i := 8) (v := .agg #[.slice (some ⟨g1, 0, none⟩) T.nS d1, .slice (some ⟨g2, 0, none⟩) T.nA d2]) rfl (by kernel_rfl) (by kernel_rfl) (by kernel_rfl) (fun _ _ _ h => h) (Or.inl ⟨by rfl, ?_⟩) (by assumption) ?_
            · intro wx hSw; obtain ⟨hcS, hfS⟩ := bcellN hSw; go_simp
            try simp only [Act.put, List.setIfInBounds_toArray, List.set_cons_zero, List.set_cons_succ, List.getElem_toArray, List.getElem_cons_zero, List.getElem_cons_succ]
            refine wpAnyH_ready (rs := [10]) (by kernel_rfl) (by simp) ?_
            refine (AllReadyH.cons rfl (fun K hK => ?_) AllReadyH.nil)
            have r0 := (hZC.2 0 (by simp)).1
            have r1 := (hZC.2 1 (by simp)).1
            have f0 := (hZC.2 0 (by simp)).2
            have f1 := (hZC.2 1 (by simp)).2
            simp only [List.getD, List.getElem?_cons_zero, List.getElem?_cons_succ, Option.getD_some] at r0 r1
            have lZC := hZC.1
            have hkC : w1.heap.size ≤ C := by omega
            go_simp
            obtain ⟨XSC, eS⟩ : ∃ X, X = ((XP2.setCell ⟨C, 0, none⟩ (.slice (some ⟨g1, 0, none⟩) T.nS d1)).setCell ⟨C, 1, none⟩ (.slice (some ⟨g2, 0, none⟩) T.nA d2)) := ⟨_, rfl⟩
            rw [← eS]
            have hPC : Bk XSC C [.slice (some ⟨g1, 0, none⟩) T.nS d1, .slice (some ⟨g2, 0, none⟩) T.nA d2] := by rw [eS]; exact bk_put (l := [.slice (some ⟨g1, 0, none⟩) T.nS d1, .slice (some ⟨g2, 0, none⟩) T.nA d2]) hZC rfl
            have hzC1 : XSC.heap.size ≤ XP2.heap.size := by rw [eS]; exact Nat.le_of_eq (size_put C [.slice (some ⟨g1, 0, none⟩) T.nS d1, .slice (some ⟨g2, 0, none⟩) T.nA d2] 0 XP2)
            have hzC2 : XP2.heap.size ≤ XSC.heap.size := by rw [eS]; exact Nat.le_of_eq (size_put C [.slice (some ⟨g1, 0, none⟩) T.nS d1, .slice (some ⟨g2, 0, none⟩) T.nA d2] 0 XP2).symm
            have hmC : ∀ b, ¬ b = C → Sm XP2 XSC b := by rw [eS]; exact fun b hb => sm_put hb [.slice (some ⟨g1, 0, none⟩) T.nS d1, .slice (some ⟨g2, 0, none⟩) T.nA d2] 0 XP2
            have hBC : Below (w1.heap.size) w1 XSC := by rw [eS]; exact below_put hkC [.slice (some ⟨g1, 0, none⟩) T.nS d1, .slice (some ⟨g2, 0, none⟩) T.nA d2] 0 hHeld
            clear eS r0 f0 r1 f1
            replace hO1 := own1_sm hO1 (hmC g1 (by omega))
            replace hO2 := own1_sm hO2 (hmC g2 (by omega))
            refine hK.out _ _ hBC (fun hNew => ?_)
            clear hK K hHeld
            have hHeld := hNew
            clear hNew
            try simp only [Act.put, List.setIfInBounds_toArray, List.set_cons_zero, List.set_cons_succ, List.getElem_toArray, List.getElem_cons_zero, List.getElem_cons_succ]
            refine wpAnyH_done (by kernel_rfl) ?_ _
            go_wp2
            go_meet
            case rel => exact ⟨C, g1, g2, d1, d2, rfl, hPC, hO1, hO2, ⟨by omega, by omega, by omega, by omega, by omega, by omega, by omega, by omega⟩, hHeld⟩
        · go_simp
          obtain ⟨XC, eA⟩ : ∃ X, X = XL1.alloc (.cells #[.slice none 0 0, .slice none 0 0] 27) := ⟨_, rfl⟩
          rw [← eA]
          have hbA : Below XL1.heap.size XL1 XC := by rw [eA]; exact (Below.refl _ _).alloc (Nat.le_refl _) _
          have hZC : Bk XC XL1.heap.size [.slice none 0 0, .slice none 0 0] := by rw [eA]; exact bk_new XL1 27 [.slice none 0 0, .slice none 0 0]
          have hzAC1 : XC.heap.size ≤ XL1.heap.size + 1 := by rw [eA]; simp
          have hzAC2 : XL1.heap.size + 1 ≤ XC.heap.size := by rw [eA]; simp
          clear eA
          replace hL2 := own_keep hL2 hbA
          replace hL1 := own_keep hL1 hbA
          have hsz_XC := hbA.size
          refine hK.out _ _ (bthenN hHeld (by omega) hbA) (fun hNew => ?_)
          clear hK K hHeld
          have hHeld := hNew
          clear hNew
          try simp only [Act.put, List.setIfInBounds_toArray, List.set_cons_zero, List.set_cons_succ, List.getElem_toArray, List.getElem_cons_zero, List.getElem_cons_succ]
          clear hbA
          obtain ⟨C, eC⟩ : ∃ g, g = XL1.heap.size := ⟨_, rfl⟩
          rw [← eC] at hZC ⊢
          have eC1 : C ≤ XL1.heap.size := by omega
          have eC2 : XL1.heap.size ≤ C := by omega
          clear eC
          refine wpAnyH_ready (rs := [3]) (by kernel_rfl) (by simp) ?_
          refine (AllReadyH.cons rfl (fun K hK => ?_) AllReadyH.nil)
          rw [if_pos (by rfl)]
          have hnn : Hid (∀ j u, ((List.range T.nS).flatMap (one1 T.S))[j]? = some u → XC.cell? ((⟨b1, o1, none⟩ : Addr).add j) = some u) := one11_cells (fun k hk => ((bcellN (n := w1.heap.size) hHeld).1 b1 _ (by omega)).trans (R1.out k hk))
          refine app_at _ _ rfl w1.heap.size 0 _ [] rfl hL1 ⟨b1, o1, none⟩ T.nS kS ((List.range T.nS).flatMap (one1 T.S)) rfl (one11_len _ _) hnn.out (one11_one _ _) (by omega) (by omega) ?_
          intro v1 XP1 hown1 hg1 hat1
          have hsz1 := hg1.size
          clear hnn
          rw [Nat.zero_add, List.nil_append] at hown1
          obtain ⟨g1, d1, rfl, j11, j12, hO1⟩ := own1_of_row (by omega) hown1
          have hgq1 : g1 = q1 ∨ g1 = XC.heap.size := by
            rcases hat1 with h | h
            · exact .inl (Option.some.inj h)
            · exact .inr (Option.some.inj h)
          have hbX : Below (w1.heap.size) XC XP1 := (Below.refl _ _).grown hg1 (by omega) (fun kk e => by have e2 : q1 = kk := Option.some.inj e; omega)
          have hsmX : ∀ b, b < XC.heap.size → ¬ b = q1 → Sm XC XP1 b := fun b hb hne => sm_grown hg1 hb (fun e => hne (Option.some.inj e))
          replace hL2 := World.ownsRow.kept hL2 hg1 (.inr (fun e => by have e2 : q2 = q1 := Option.some.inj e; omega))
          replace hZC := hZC.sm hsz1 (hsmX C (by omega) (by omega))
          refine hK.out _ _ (hHeld.trans hbX) (fun hNew => ?_)
          clear hK K hHeld
          have hHeld := hNew
          clear hNew
          try simp only [Act.put, List.setIfInBounds_toArray, List.set_cons_zero, List.set_cons_succ, List.getElem_toArray, List.getElem_cons_zero, List.getElem_cons_succ]
          clear hbX hsmX hown1 hg1 hat1
          refine wpAnyH_ready (rs := [7]) (by kernel_rfl) (by simp) ?_
          refine (AllReadyH.cons rfl (fun K hK => ?_) AllReadyH.nil)
          rw [if_pos (by rfl)]
          have hnn : Hid (∀ j u, ((List.range T.nA).flatMap (one1 T.A))[j]? = some u → XP1.cell? ((⟨b2, o2, none⟩ : Addr).add j) = some u) := one11_cells (fun k hk => ((bcellN (n := w1.heap.size) hHeld).1 b2 _ (by omega)).trans (R2.out k hk))
          refine app_at _ _ rfl w1.heap.size 0 _ [] rfl hL2 ⟨b2, o2, none⟩ T.nA kA ((List.range T.nA).flatMap (one1 T.A)) rfl (one11_len _ _) hnn.out (one11_one _ _) (by omega) (by omega) ?_
          intro v2 XP2 hown2 hg2 hat2
          have hsz2 := hg2.size
          clear hnn
          rw [Nat.zero_add, List.nil_append] at hown2
          obtain ⟨g2, d2, rfl, j21, j22, hO2⟩ := own1_of_row (by omega) hown2
          have hgq2 : g2 = q2 ∨ g2 = XP1.heap.size := by
            rcases hat2 with h | h
            · exact .inl (Option.some.inj h)
            · exact .inr (Option.some.inj h)
          have hbX : Below (w1.heap.size) XP1 XP2 := (Below.refl _ _).grown hg2 (by omega) (fun kk e => by have e2 : q2 = kk := Option.some.inj e; omega)
          have hsmX : ∀ b, b < XP1.heap.size → ¬ b = q2 → Sm XP1 XP2 b := fun b hb hne => sm_grown hg2 hb (fun e => hne (Option.some.inj e))
          replace hZC := hZC.sm hsz2 (hsmX C (by omega) (by omega))
          replace hO1 := own1_sm hO1 (hsmX g1 (by omega) (by omega))
          refine hK.out _ _ (hHeld.trans hbX) (fun hNew => ?_)
          clear hK K hHeld
          have hHeld := hNew
          clear hNew
          try simp only [Act.put, List.setIfInBounds_toArray, List.set_cons_zero, List.set_cons_succ, List.getElem_toArray, List.getElem_cons_zero, List.getElem_cons_succ]
          clear hbX hsmX hown2 hg2 hat2
          refine wpAnyH_take (i := 8) (v := .agg #[.slice (some ⟨g1, 0, none⟩) T.nS d1, .slice (some ⟨g2, 0, none⟩) T.nA d2]) rfl (by kernel_rfl) (by kernel_rfl) (by kernel_rfl) (fun _ _ _ h => h) (Or.inl ⟨by rfl, ?_⟩) (by assumption) ?_
          · intro wx hSw; obtain ⟨hcS, hfS⟩ := bcellN hSw; go_simp
          try simp only [Act.put, List.setIfInBounds_toArray, List.set_cons_zero, List.set_cons_succ, List.getElem_toArray, List.getElem_cons_zero, List.getElem_cons_succ]
          refine wpAnyH_ready (rs := [10]) (by kernel_rfl) (by simp) ?_
          refine (AllReadyH.cons rfl (fun K hK => ?_) AllReadyH.nil)
          have r0 := (hZC.2 0 (by simp)).1
          have r1 := (hZC.2 1 (by simp)).1
          have f0 := (hZC.2 0 (by simp)).2
          have f1 := (hZC.2 1 (by simp)).2
          simp only [List.getD, List.getElem?_cons_zero, List.getElem?_cons_succ, Option.getD_some] at r0 r1
          have lZC := hZC.1
          have hkC : w1.heap.size ≤ C := by omega
          go_simp
          obtain ⟨XSC, eS⟩ : ∃ X, X = ((XP2.setCell ⟨C, 0, none⟩ (.slice (some ⟨g1, 0, none⟩) T.nS d1)).setCell ⟨C, 1, none⟩ (.slice (some ⟨g2, 0, none⟩) T.nA d2)) := ⟨_, rfl⟩
          rw [← eS]
          have hPC : Bk XSC C [.slice (some ⟨g1, 0, none⟩) T.nS d1, .slice (some ⟨g2, 0, none⟩) T.nA d2] := by rw [eS]; exact bk_put (l := [.slice (some ⟨g1, 0, none⟩) T.nS d1, .slice (some ⟨g2, 0, none⟩) T.nA d2]) hZC rfl
          have hzC1 : XSC.heap.size ≤ XP2.heap.size := by rw [eS]; exact Nat.le_of_eq (size_put C [.slice (some ⟨g1, 0, none⟩) T.nS d1, .slice (some ⟨g2, 0, none⟩) T.nA d2] 0 XP2)
          have hzC2 : XP2.heap.size ≤ XSC.heap.size := by rw [eS]; exact Nat.le_of_eq (size_put C [.slice (some ⟨g1, 0, none⟩) T.nS d1, .slice (some ⟨g2, 0, none⟩) T.nA d2] 0 XP2).symm
          have hmC : ∀ b, ¬ b = C → Sm XP2 XSC b := by rw [eS]; exact fun b hb => sm_put hb [.slice (some ⟨g1, 0, none⟩) T.nS d1, .slice (some ⟨g2, 0, none⟩) T.nA d2] 0 XP2
          have hBC : Below (w1.heap.size) w1 XSC := by rw [eS]; exact below_put hkC [.slice (some ⟨g1, 0, none⟩) T.nS d1, .slice (some ⟨g2, 0, none⟩) T.nA d2] 0 hHeld
          clear eS r0 f0 r1 f1
          replace hO1 := own1_sm hO1 (hmC g1 (by omega))
          replace hO2 := own1_sm hO2 (hmC g2 (by omega))
          refine hK.out _ _ hBC (fun hNew => ?_)
          clear hK K hHeld
          have hHeld := hNew
          clear hNew
          try simp only [Act.put, List.setIfInBounds_toArray, List.set_cons_zero, List.set_cons_succ, List.getElem_toArray, List.getElem_cons_zero, List.getElem_cons_succ]
          refine wpAnyH_done (by kernel_rfl) ?_ _
          go_wp2
          go_meet
          case rel => exact ⟨C, g1, g2, d1, d2, rfl, hPC, hO1, hO2, ⟨by omega, by omega, by omega, by omega, by omega, by omega, by omega, by omega⟩, hHeld⟩
      · go_simp
        obtain ⟨XC, eA⟩ : ∃ X, X = XL2.alloc (.cells #[.slice none 0 0, .slice none 0 0] 27) := ⟨_, rfl⟩
        rw [← eA]
        have hbA : Below XL2.heap.size XL2 XC := by rw [eA]; exact (Below.refl _ _).alloc (Nat.le_refl _) _
        have hZC : Bk XC XL2.heap.size [.slice none 0 0, .slice none 0 0] := by rw [eA]; exact bk_new XL2 27 [.slice none 0 0, .slice none 0 0]
        have hzAC1 : XC.heap.size ≤ XL2.heap.size + 1 := by rw [eA]; simp
        have hzAC2 : XL2.heap.size + 1 ≤ XC.heap.size := by rw [eA]; simp
        clear eA
        replace hL2 := own_keep hL2 hbA
        have hsz_XC := hbA.size
        refine hK.out _ _ (bthenN hHeld (by omega) hbA) (fun hNew => ?_)
        clear hK K hHeld
        have hHeld := hNew
        clear hNew
        try simp only [Act.put, List.setIfInBounds_toArray, List.set_cons_zero, List.set_cons_succ, List.getElem_toArray, List.getElem_cons_zero, List.getElem_cons_succ]
        clear hbA
        obtain ⟨C, eC⟩ : ∃ g, g = XL2.heap.size := ⟨_, rfl⟩
        rw [← eC] at hZC ⊢
        have eC1 : C ≤ XL2.heap.size := by omega
        have eC2 : XL2.heap.size ≤ C := by omega
        clear eC
        refine wpAnyH_ready (rs := [0]) (by kernel_rfl) (by simp) ?_
        refine (AllReadyH.cons rfl (fun K hK => ?_) AllReadyH.nil)
        go_simp
        obtain ⟨XL1, eA⟩ : ∃ X, X = XC.alloc (.cells #[] 3) := ⟨_, rfl⟩
        rw [← eA]
        have hbA : Below XC.heap.size XC XL1 := by rw [eA]; exact (Below.refl _ _).alloc (Nat.le_refl _) _
        have hL1 : XL1.ownsRow w1.heap.size 3 1 (.slice (some ⟨XC.heap.size, 0, none⟩) 0 0) 0 [] := by rw [eA]; exact World.ownsRow_lit XC #[] 0 (by omega) (by simp) (by simp)
        have hzA11 : XL1.heap.size ≤ XC.heap.size + 1 := by rw [eA]; simp
        have hzA12 : XC.heap.size + 1 ≤ XL1.heap.size := by rw [eA]; simp
        clear eA
        replace hL2 := own_keep hL2 hbA
        replace hZC := hZC.below hbA
        have hsz_XL1 := hbA.size
        refine hK.out _ _ (bthenN hHeld (by omega) hbA) (fun hNew => ?_)
        clear hK K hHeld
        have hHeld := hNew
        clear hNew
        try simp only [Act.put, List.setIfInBounds_toArray, List.set_cons_zero, List.set_cons_succ, List.getElem_toArray, List.getElem_cons_zero, List.getElem_cons_succ]
        clear hbA
        obtain ⟨q1, eq1⟩ : ∃ g, g = XC.heap.size := ⟨_, rfl⟩
        rw [← eq1] at hL1 ⊢
        have eq11 : q1 ≤ XC.heap.size := by omega
        have eq12 : XC.heap.size ≤ q1 := by omega
        clear eq1
        refine wpAnyH_ready (rs := [3]) (by kernel_rfl) (by simp) ?_
        refine (AllReadyH.cons rfl (fun K hK => ?_) AllReadyH.nil)
        rw [if_pos (by rfl)]
        have hnn : Hid (∀ j u, ((List.range T.nS).flatMap (one1 T.S))[j]? = some u → XL1.cell? ((⟨b1, o1, none⟩ : Addr).add j) = some u) := one11_cells (fun k hk => ((bcellN (n := w1.heap.size) hHeld).1 b1 _ (by omega)).trans (R1.out k hk))
        refine app_at _ _ rfl w1.heap.size 0 _ [] rfl hL1 ⟨b1, o1, none⟩ T.nS kS ((List.range T.nS).flatMap (one1 T.S)) rfl (one11_len _ _) hnn.out (one11_one _ _) (by omega) (by omega) ?_
        intro v1 XP1 hown1 hg1 hat1
        have hsz1 := hg1.size
        clear hnn
        rw [Nat.zero_add, List.nil_append] at hown1
        obtain ⟨g1, d1, rfl, j11, j12, hO1⟩ := own1_of_row (by omega) hown1
        have hgq1 : g1 = q1 ∨ g1 = XL1.heap.size := by
          rcases hat1 with h | h
          · exact .inl (Option.some.inj h)
          · exact .inr (Option.some.inj h)
        have hbX : Below (w1.heap.size) XL1 XP1 := (Below.refl _ _).grown hg1 (by omega) (fun kk e => by have e2 : q1 = kk := Option.some.inj e; omega)
        have hsmX : ∀ b, b < XL1.heap.size → ¬ b = q1 → Sm XL1 XP1 b := fun b hb hne => sm_grown hg1 hb (fun e => hne (Option.some.inj e))
        replace hL2 := World.ownsRow.kept hL2 hg1 (.inr (fun e => by have e2 : q2 = q1 := Option.some.inj e; omega))
        replace hZC := hZC.sm hsz1 (hsmX C (by omega) (by omega))
        refine hK.out _ _ (hHeld.trans hbX) (fun hNew => ?_)
        clear hK K hHeld
        have hHeld := hNew
        clear hNew
        try simp only [Act.put, List.setIfInBounds_toArray, List.set_cons_zero, List.set_cons_succ, List.getElem_toArray, List.getElem_cons_zero, List.getElem_cons_succ]
        clear hbX hsmX hown1 hg1 hat1
        refine wpAnyH_ready (rs := [7]) (by kernel_rfl) (by simp) ?_
        refine (AllReadyH.cons rfl (fun K hK => ?_) AllReadyH.nil)
        rw [if_pos (by rfl)]
        have hnn : Hid (∀ j u, ((List.range T.nA).flatMap (one1 T.A))[j]? = some u → XP1.cell? ((⟨b2, o2, none⟩ : Addr).add j) = some u) := one11_cells (fun k hk => ((bcellN (n := w1.heap.size) hHeld).1 b2 _ (by omega)).trans (R2.out k hk))
        refine app_at _ _ rfl w1.heap.size 0 _ [] rfl hL2 ⟨b2, o2, none⟩ T.nA kA ((List.range T.nA).flatMap (one1 T.A)) rfl (one11_len _ _) hnn.out (one11_one _ _) (by omega) (by omega) ?_
        intro v2 XP2 hown2 hg2 hat2
        have hsz2 := hg2.size
        clear hnn
        rw [Nat.zero_add, List.nil_append] at hown2
        obtain ⟨g2, d2, rfl, j21, j22, hO2⟩ := own1_of_row (by omega) hown2
        have hgq2 : g2 = q2 ∨ g2 = XP1.heap.size := by
          rcases hat2 with h | h
          · exact .inl (Option.some.inj h)
          · exact .inr (Option.some.inj h)
        have hbX : Below (w1.heap.size) XP1 XP2 := (Below.refl _ _).grown hg2 (by omega) (fun kk e => by have e2 : q2 = kk := Option.some.inj e; omega)
        have hsmX : ∀ b, b < XP1.heap.size → ¬ b = q2 → Sm XP1 XP2 b := fun b hb hne => sm_grown hg2 hb (fun e => hne (Option.some.inj e))
        replace hZC := hZC.sm hsz2 (hsmX C (by omega) (by omega))
        replace hO1 := own1_sm hO1 (hsmX g1 (by omega) (by omega))
        refine hK.out _ _ (hHeld.trans hbX) (fun hNew => ?_)
        clear hK K hHeld
        have hHeld := hNew
        clear hNew
        try simp only [Act.put, List.setIfInBounds_toArray, List.set_cons_zero, List.set_cons_succ, List.getElem_toArray, List.getElem_cons_zero, List.getElem_cons_succ]
        clear hbX hsmX hown2 hg2 hat2
        refine wpAnyH_take (i := 8) (v := .agg #[.slice (some ⟨g1, 0, none⟩) T.nS d1, .slice (some ⟨g2, 0, none⟩) T.nA d2]) rfl (by kernel_rfl) (by kernel_rfl) (by kernel_rfl) (fun _ _ _ h => h) (Or.inl ⟨by rfl, ?_⟩) (by assumption) ?_
        · intro wx hSw; obtain ⟨hcS, hfS⟩ := bcellN hSw; go_simp
        try simp only [Act.put, List.setIfInBounds_toArray, List.set_cons_zero, List.set_cons_succ, List.getElem_toArray, List.getElem_cons_zero, List.getElem_cons_succ]
        refine wpAnyH_ready (rs := [10]) (by kernel_rfl) (by simp) ?_
        refine (AllReadyH.cons rfl (fun K hK => ?_) AllReadyH.nil)
        have r0 := (hZC.2 0 (by simp)).1
        have r1 := (hZC.2 1 (by simp)).1
        have f0 := (hZC.2 0 (by simp)).2
        have f1 := (hZC.2 1 (by simp)).2
        simp only [List.getD, List.getElem?_cons_zero, List.getElem?_cons_succ, Option.getD_some] at r0 r1
        have lZC := hZC.1
        have hkC : w1.heap.size ≤ C := by omega
        go_simp
        obtain ⟨XSC, eS⟩ : ∃ X, X = ((XP2.setCell ⟨C, 0, none⟩ (.slice (some ⟨g1, 0, none⟩) T.nS d1)).setCell ⟨C, 1, none⟩ (.slice (some ⟨g2, 0, none⟩) T.nA d2)) := ⟨_, rfl⟩
        rw [← eS]
        have hPC : Bk XSC C [.slice (some ⟨g1, 0, none⟩) T.nS d1, .slice (some ⟨g2, 0, none⟩) T.nA d2] := by rw [eS]; exact bk_put (l := [.slice (some ⟨g1, 0, none⟩) T.nS d1, .slice (some ⟨g2, 0, none⟩) T.nA d2]) hZC rfl
        have hzC1 : XSC.heap.size ≤ XP2.heap.size := by rw [eS]; exact Nat.le_of_eq (size_put C [.slice (some ⟨g1, 0, none⟩) T.nS d1, .slice (some ⟨g2, 0, none⟩) T.nA d2] 0 XP2)
        have hzC2 : XP2.heap.size ≤ XSC.heap.size := by rw [eS]; exact Nat.le_of_eq (size_put C [.slice (some ⟨g1, 0, none⟩) T.nS d1, .slice (some ⟨g2, 0, none⟩) T.nA d2] 0 XP2).symm
        have hmC : ∀ b, ¬ b = C → Sm XP2 XSC b := by rw [eS]; exact fun b hb => sm_put hb [.slice (some ⟨g1, 0, none⟩) T.nS d1, .slice (some ⟨g2, 0, none⟩) T.nA d2] 0 XP2
        have hBC : Below (w1.heap.size) w1 XSC := by rw [eS]; exact below_put hkC [.slice (some ⟨g1, 0, none⟩) T.nS d1, .slice (some ⟨g2, 0, none⟩) T.nA d2] 0 hHeld
        clear eS r0 f0 r1 f1
        replace hO1 := own1_sm hO1 (hmC g1 (by omega))
        replace hO2 := own1_sm hO2 (hmC g2 (by omega))
        refine hK.out _ _ hBC (fun hNew => ?_)
        clear hK K hHeld
        have hHeld := hNew
        clear hNew
        try simp only [Act.put, List.setIfInBounds_toArray, List.set_cons_zero, List.set_cons_succ, List.getElem_toArray, List.getElem_cons_zero, List.getElem_cons_succ]
        refine wpAnyH_done (by kernel_rfl) ?_ _
        go_wp2
        go_meet
        case rel => exact ⟨C, g1, g2, d1, d2, rfl, hPC, hO1, hO2, ⟨by omega, by omega, by omega, by omega, by omega, by omega, by omega, by omega⟩, hHeld⟩
    · go_simp
      obtain ⟨XC, eA⟩ : ∃ X, X = X0.alloc (.cells #[.slice none 0 0, .slice none 0 0] 27) := ⟨_, rfl⟩
      rw [← eA]
      have hbA : Below X0.heap.size X0 XC := by rw [eA]; exact (Below.refl _ _).alloc (Nat.le_refl _) _
      have hZC : Bk XC X0.heap.size [.slice none 0 0, .slice none 0 0] := by rw [eA]; exact bk_new X0 27 [.slice none 0 0, .slice none 0 0]
      have hzAC1 : XC.heap.size ≤ X0.heap.size + 1 := by rw [eA]; simp
      have hzAC2 : X0.heap.size + 1 ≤ XC.heap.size := by rw [eA]; simp
      clear eA
      have hsz_XC := hbA.size
      refine hK.out _ _ (bthenN hHeld (by omega) hbA) (fun hNew => ?_)
      clear hK K hHeld
      have hHeld := hNew
      clear hNew
      try simp only [Act.put, List.setIfInBounds_toArray, List.set_cons_zero, List.set_cons_succ, List.getElem_toArray, List.getElem_cons_zero, List.getElem_cons_succ]
      clear hbA
      obtain ⟨C, eC⟩ : ∃ g, g = X0.heap.size := ⟨_, rfl⟩
      rw [← eC] at hZC ⊢
      have eC1 : C ≤ X0.heap.size := by omega
      have eC2 : X0.heap.size ≤ C := by omega
      clear eC
      refine wpAnyH_ready (rs := [0, 4]) (by kernel_rfl) (by simp) ?_
      refine (AllReadyH.cons rfl (fun K hK => ?_) (AllReadyH.cons rfl (fun K hK => ?_) AllReadyH.nil))
      · go_simp
        obtain ⟨XL1, eA⟩ : ∃ X, X = XC.alloc (.cells #[] 3) := ⟨_, rfl⟩
        rw [← eA]
        have hbA : Below XC.heap.size XC XL1 := by rw [eA]; exact (Below.refl _ _).alloc (Nat.le_refl _) _
        have hL1 : XL1.ownsRow w1.heap.size 3 1 (.slice (some ⟨XC.heap.size, 0, none⟩) 0 0) 0 [] := by rw [eA]; exact World.ownsRow_lit XC #[] 0 (by omega) (by simp) (by simp)
        have hzA11 : XL1.heap.size ≤ XC.heap.size + 1 := by rw [eA]; simp
        have hzA12 : XC.heap.size + 1 ≤ XL1.heap.size := by rw [eA]; simp
        clear eA
        replace hZC := hZC.below hbA
        have hsz_XL1 := hbA.size
        refine hK.out _ _ (bthenN hHeld (by omega) hbA) (fun hNew => ?_)
        clear hK K hHeld
        have hHeld := hNew
        clear hNew
        try simp only [Act.put, List.setIfInBounds_toArray, List.set_cons_zero, List.set_cons_succ, List.getElem_toArray, List.getElem_cons_zero, List.getElem_cons_succ]
        clear hbA
        obtain ⟨q1, eq1⟩ : ∃ g, g = XC.heap.size := ⟨_, rfl⟩
        rw [← eq1] at hL1 ⊢
        have eq11 : q1 ≤ XC.heap.size := by omega
        have eq12 : XC.heap.size ≤ q1 := by omega
        clear eq1
        refine wpAnyH_ready (rs := [3, 4]) (by kernel_rfl) (by simp) ?_
        refine (AllReadyH.cons rfl (fun K hK => ?_) (AllReadyH.cons rfl (fun K hK => ?_) AllReadyH.nil))
        · rw [if_pos (by rfl)]
          have hnn : Hid (∀ j u, ((List.range T.nS).flatMap (one1 T.S))[j]? = some u → XL1.cell? ((⟨b1, o1, none⟩ : Addr).add j) = some u) := one11_cells (fun k hk => ((bcellN (n := w1.heap.size) hHeld).1 b1 _ (by omega)).trans (R1.out k hk))
          refine app_at _ _ rfl w1.heap.size 0 _ [] rfl hL1 ⟨b1, o1, none⟩ T.nS kS ((List.range T.nS).flatMap (one1 T.S)) rfl (one11_len _ _) hnn.out (one11_one _ _) (by omega) (by omega) ?_
          intro v1 XP1 hown1 hg1 hat1
          have hsz1 := hg1.size
          clear hnn
          rw [Nat.zero_add, List.nil_append] at hown1
          obtain ⟨g1, d1, rfl, j11, j12, hO1⟩ := own1_of_row (by omega) hown1
          have hgq1 : g1 = q1 ∨ g1 = XL1.heap.size := by
            rcases hat1 with h | h
            · exact .inl (Option.some.inj h)
            · exact .inr (Option.some.inj h)
          have hbX : Below (w1.heap.size) XL1 XP1 := (Below.refl _ _).grown hg1 (by omega) (fun kk e => by have e2 : q1 = kk := Option.some.inj e; omega)
          have hsmX : ∀ b, b < XL1.heap.size → ¬ b = q1 → Sm XL1 XP1 b := fun b hb hne => sm_grown hg1 hb (fun e => hne (Option.some.inj e))
          replace hZC := hZC.sm hsz1 (hsmX C (by omega) (by omega))
          refine hK.out _ _ (hHeld.trans hbX) (fun hNew => ?_)
          clear hK K hHeld
          have hHeld := hNew
          clear hNew
          try simp only [Act.put, List.setIfInBounds_toArray, List.set_cons_zero, List.set_cons_succ, List.getElem_toArray, List.getElem_cons_zero, List.getElem_cons_succ]
          clear hbX hsmX hown1 hg1 hat1
          refine wpAnyH_ready (rs := [4]) (by kernel_rfl) (by simp) ?_
          refine (AllReadyH.cons rfl (fun K hK => ?_) AllReadyH.nil)
          go_simp
          obtain ⟨XL2, eA⟩ : ∃ X, X = XP1.alloc (.cells #[] 3) := ⟨_, rfl⟩
          rw [← eA]
          have hbA : Below XP1.heap.size XP1 XL2 := by rw [eA]; exact (Below.refl _ _).alloc (Nat.le_refl _) _
          have hL2 : XL2.ownsRow w1.heap.size 3 1 (.slice (some ⟨XP1.heap.size, 0, none⟩) 0 0) 0 [] := by rw [eA]; exact World.ownsRow_lit XP1 #[] 0 (by omega) (by simp) (by simp)
          have hzA21 : XL2.heap.size ≤ XP1.heap.size + 1 := by rw [eA]; simp
          have hzA22 : XP1.heap.size + 1 ≤ XL2.heap.size := by rw [eA]; simp
          clear eA
          replace hZC := hZC.below hbA
          replace hO1 := own1_below hO1 (by omega) hbA
          have hsz_XL2 := hbA.size
          refine hK.out _ _ (bthenN hHeld (by omega) hbA) (fun hNew => ?_)
          clear hK K hHeld
          have hHeld := hNew
          clear hNew
          try simp only [Act.put, List.setIfInBounds_toArray, List.set_cons_zero, List.set_cons_succ, List.getElem_toArray, List.getElem_cons_zero, List.getElem_cons_succ]
          clear hbA
          obtain ⟨q2, eq2⟩ : ∃ g, g = XP1.heap.size := ⟨_, rfl⟩
          rw [← eq2] at hL2 ⊢
          have eq21 : q2 ≤ XP1.heap.size := by omega
          have eq22 : XP1.heap.size ≤ q2 := by omega
          clear eq2
          refine wpAnyH_ready (rs := [7]) (by kernel_rfl) (by simp) ?_
          refine (AllReadyH.cons rfl (fun K hK => ?_) AllReadyH.nil)
          rw [if_pos (by rfl)]
          have hnn : Hid (∀ j u, ((List.range T.nA).flatMap (one1 T.A))[j]? = some u → XL2.cell? ((⟨b2, o2, none⟩ : Addr).add j) = some u) := one11_cells (fun k hk => ((bcellN (n := w1.heap.size) hHeld).1 b2 _ (by omega)).trans (R2.out k hk))
          refine app_at _ _ rfl w1.heap.size 0 _ [] rfl hL2 ⟨b2, o2, none⟩ T.nA kA ((List.range T.nA).flatMap (one1 T.A)) rfl (one11_len _ _) hnn.out (one11_one _ _) (by omega) (by omega) ?_
          intro v2 XP2 hown2 hg2 hat2
          have hsz2 := hg2.size
          clear hnn
          rw [Nat.zero_add, List.nil_append] at hown2
          obtain ⟨g2, d2, rfl, j21, j22, hO2⟩ := own1_of_row (by omega) hown2
          have hgq2 : g2 = q2 ∨ g2 = XL2.heap.size := by
            rcases hat2 with h | h
            · exact .inl (Option.some.inj h)
            · exact .inr (Option.some.inj h)
          have hbX : Below (w1.heap.size) XL2 XP2 := (Below.refl _ _).grown hg2 (by omega) (fun kk e => by have e2 : q2 = kk := Option.some.inj e; omega)
          have hsmX : ∀ b, b < XL2.heap.size → ¬ b = q2 → Sm XL2 XP2 b := fun b hb hne => sm_grown hg2 hb (fun e => hne (Option.some.inj e))
          replace hZC := hZC.sm hsz2 (hsmX C (by omega) (by omega))
          replace hO1 := own1_sm hO1 (hsmX g1 (by omega) (by omega))
          refine hK.out _ _ (hHeld.trans hbX) (fun hNew => ?_)
          clear hK K hHeld
          have hHeld := hNew
          clear hNew
          try simp only [Act.put, List.setIfInBounds_toArray, List.set_cons_zero, List.set_cons_succ, List.getElem_toArray, List.getElem_cons_zero, List.getElem_cons_succ]
          clear hbX hsmX hown2 hg2 hat2
          refine wpAnyH_take (i := 8) (v := .agg #[.slice (some ⟨g1, 0, none⟩) T.nS d1, .slice (some ⟨g2, 0, none⟩) T.nA d2]) rfl (by kernel_rfl) (by kernel_rfl) (by kernel_rfl) (fun _ _ _ h => h) (Or.inl ⟨by rfl, ?_⟩) (by assumption) ?_
          · intro wx hSw; obtain ⟨hcS, hfS⟩ := bcellN hSw; go_simp
          try simp only [Act.put, List.setIfInBounds_toArray, List.set_cons_zero, List.set_cons_succ, List.getElem_toArray, List.getElem_cons_zero, List.getElem_cons_succ]
          refine wpAnyH_ready (rs := [10]) (by kernel_rfl) (by simp) ?_
          refine (AllReadyH.cons rfl (fun K hK => ?_) AllReadyH.nil)
          have r0 := (hZC.2 0 (by simp)).1
          have r1 := (hZC.2 1 (by simp)).1
          have f0 := (hZC.2 0 (by simp)).2
          have f1 := (hZC.2 1 (by simp)).2
          simp only [List.getD, List.getElem?_cons_zero, List.getElem?_cons_succ, Option.getD_some] at r0 r1
          have lZC := hZC.1
          have hkC : w1.heap.size ≤ C := by omega
          go_simp
          obtain ⟨XSC, eS⟩ : ∃ X, X = ((XP2.setCell ⟨C, 0, none⟩ (.slice (some ⟨g1, 0, none⟩) T.nS d1)).setCell ⟨C, 1, none⟩ (.slice (some ⟨g2, 0, none⟩) T.nA d2)) := ⟨_, rfl⟩
          rw [← eS]
          have hPC : Bk XSC C [.slice (some ⟨g1, 0, none⟩) T.nS d1, .slice (some ⟨g2, 0, none⟩) T.nA d2] := by rw [eS]; exact bk_put (l := [.slice (some ⟨g1, 0, none⟩) T.nS d1, .slice (some ⟨g2, 0, none⟩) T.nA d2]) hZC rfl
          have hzC1 : XSC.heap.size ≤ XP2.heap.size := by rw [eS]; exact Nat.le_of_eq (size_put C [.slice (some ⟨g1, 0, none⟩) T.nS d1, .slice (some ⟨g2, 0, none⟩) T.nA d2] 0 XP2)
          have hzC2 : XP2.heap.size ≤ XSC.heap.size := by rw [eS]; exact Nat.le_of_eq (size_put C [.slice (some ⟨g1, 0, none⟩) T.nS d1, .slice (some ⟨g2, 0, none⟩) T.nA d2] 0 XP2).symm
          have hmC : ∀ b, ¬ b = C → Sm XP2 XSC b := by rw [eS]; exact fun b hb => sm_put hb [.slice (some ⟨g1, 0, none⟩) T.nS d1, .slice (some ⟨g2, 0, none⟩) T.nA d2] 0 XP2
          have hBC : Below (w1.heap.size) w1 XSC := by rw [eS]; exact below_put hkC [.slice (some ⟨g1, 0, none⟩) T.nS d1, .slice (some ⟨g2, 0, none⟩) T.nA d2] 0 hHeld
          clear eS r0 f0 r1 f1
          replace hO1 := own1_sm hO1 (hmC g1 (by omega))
          replace hO2 := own1_sm hO2 (hmC g2 (by omega))
          refine hK.out _ _ hBC (fun hNew => ?_)
          clear hK K hHeld
          have hHeld := hNew
          clear hNew
          try simp only [Act.put, List.setIfInBounds_toArray, List.set_cons_zero, List.set_cons_succ, List.getElem_toArray, List.getElem_cons_zero, List.getElem_cons_succ]
          refine wpAnyH_done (by kernel_rfl) ?_ _
          go_wp2
          go_meet
          case rel => exact ⟨C, g1, g2, d1, d2, rfl, hPC, hO1, hO2, ⟨by omega, by omega, by omega, by omega, by omega, by omega, by omega, by omega⟩, hHeld⟩
        · go_simp
          obtain ⟨XL2, eA⟩ : ∃ X, X = XL1.alloc (.cells #[] 3) := ⟨_, rfl⟩
          rw [← eA]
          have hbA : Below XL1.heap.size XL1 XL2 := by rw [eA]; exact (Below.refl _ _).alloc (Nat.le_refl _) _
          have hL2 : XL2.ownsRow w1.heap.size 3 1 (.slice (some ⟨XL1.heap.size, 0, none⟩) 0 0) 0 [] := by rw [eA]; exact World.ownsRow_lit XL1 #[] 0 (by omega) (by simp) (by simp)
          have hzA21 : XL2.heap.size ≤ XL1.heap.size + 1 := by rw [eA]; simp
          have hzA22 : XL1.heap.size + 1 ≤ XL2.heap.size := by rw [eA]; simp
          clear eA
          replace hZC := hZC.below hbA
          replace hL1 := own_keep hL1 hbA
          have hsz_XL2 := hbA.size
          refine hK.out _ _ (bthenN hHeld (by omega) hbA) (fun hNew => ?_)
          clear hK K hHeld
          have hHeld := hNew
          clear hNew
          try simp only [Act.put, List.setIfInBounds_toArray, List.set_cons_zero, List.set_cons_succ, List.getElem_toArray, List.getElem_cons_zero, List.getElem_cons_succ]
          clear hbA
          obtain ⟨q2, eq2⟩ : ∃ g, g = XL1.heap.size := ⟨_, rfl⟩
          rw [← eq2] at hL2 ⊢
          have eq21 : q2 ≤ XL1.heap.size := by omega
          have eq22 : XL1.heap.size ≤ q2 := by omega
          clear eq2
          refine wpAnyH_ready (rs := [3]) (by kernel_rfl) (by simp) ?_
          refine (AllReadyH.cons rfl (fun K hK => ?_) AllReadyH.nil)
          rw [if_pos (by rfl)]
          have hnn : Hid (∀ j u, ((List.range T.nS).flatMap (one1 T.S))[j]? = some u → XL2.cell? ((⟨b1, o1, none⟩ : Addr).add j) = some u) := one11_cells (fun k hk => ((bcellN (n := w1.heap.size) hHeld).1 b1 _ (by omega)).trans (R1.out k hk))
          refine app_at _ _ rfl w1.heap.size 0 _ [] rfl hL1 ⟨b1, o1, none⟩ T.nS kS ((List.range T.nS).flatMap (one1 T.S)) rfl (one11_len _ _) hnn.out (one11_one _ _) (by omega) (by omega) ?_
          intro v1 XP1 hown1 hg1 hat1
          have hsz1 := hg1.size
          clear hnn
          rw [Nat.zero_add, List.nil_append] at hown1
          obtain ⟨g1, d1, rfl, j11, j12, hO1⟩ := own1_of_row (by omega) hown1
          have hgq1 : g1 = q1 ∨ g1 = XL2.heap.size := by
            rcases hat1 with h | h
            · exact .inl (Option.some.inj h)
            · exact .inr (Option.some.inj h)
          have hbX : Below (w1.heap.size) XL2 XP1 := (Below.refl _ _).grown hg1 (by omega) (fun kk e => by have e2 : q1 = kk := Option.some.inj e; omega)
          have hsmX : ∀ b, b < XL2.heap.size → ¬ b = q1 → Sm XL2 XP1 b := fun b hb hne => sm_grown hg1 hb (fun e => hne (Option.some.inj e))
          replace hZC := hZC.sm hsz1 (hsmX C (by omega) (by omega))
          replace hL2 := World.ownsRow.kept hL2 hg1 (.inr (fun e => by have e2 : q2 = q1 := Option.some.inj e; omega))
          refine hK.out _ _ (hHeld.trans hbX) (fun hNew => ?_)
          clear hK K hHeld
          have hHeld := hNew
          clear hNew
          try simp only [Act.put, List.setIfInBounds_toArray, List.set_cons_zero, List.set_cons_succ, List.getElem_toArray, List.getElem_cons_zero, List.getElem_cons_succ]
          clear hbX hsmX hown1 hg1 hat1
          refine wpAnyH_ready (rs := [7]) (by kernel_rfl) (by simp) ?_
          refine (AllReadyH.cons rfl (fun K hK => ?_) AllReadyH.nil)
          rw [if_pos (by rfl)]
          have hnn : Hid (∀ j u, ((List.range T.nA).flatMap (one1 T.A))[j]? = some u → XP1.cell? ((⟨b2, o2, none⟩ : Addr).add j) = some u) := one11_cells (fun k hk => ((bcellN (n := w1.heap.size) hHeld).1 b2 _ (by omega)).trans (R2.out k hk))
          refine app_at _ _ rfl w1.heap.size 0 _ [] rfl hL2 ⟨b2, o2, none⟩ T.nA kA ((List.range T.nA).flatMap (one1 T.A)) rfl (one11_len _ _) hnn.out (one11_one _ _) (by omega) (by omega) ?_
          intro v2 XP2 hown2 hg2 hat2
          have hsz2 := hg2.size
          clear hnn
          rw [Nat.zero_add, List.nil_append] at hown2
          obtain ⟨g2, d2, rfl, j21, j22, hO2⟩ := own1_of_row (by omega) hown2
          have hgq2 : g2 = q2 ∨ g2 = XP1.heap.size := by
            rcases hat2 with h | h
            · exact .inl (Option.some.inj h)
            · exact .inr (Option.some.inj h)
          have hbX : Below (w1.heap.size) XP1 XP2 := (Below.refl _ _).grown hg2 (by omega) (fun kk e => by have e2 : q2 = kk := Option.some.inj e; omega)
          have hsmX : ∀ b, b < XP1.heap.size → ¬ b = q2 → Sm XP1 XP2 b := fun b hb hne => sm_grown hg2 hb (fun e => hne (Option.some.inj e))
          replace hZC := hZC.sm hsz2 (hsmX C (by omega) (by omega))
          replace hO1 := own1_sm hO1 (hsmX g1 (by omega) (by omega))
          refine hK.out _ _ (hHeld.trans hbX) (fun hNew => ?_)
          clear hK K hHeld
          have hHeld := hNew
          clear hNew
          try simp only [Act.put, List.setIfInBounds_toArray, List.set_cons_zero, List.set_cons_succ, List.getElem_toArray, List.getElem_cons_zero, List.getElem_cons_succ]
          clear hbX hsmX hown2 hg2 hat2
          refine wpAnyH_take (i := 8) (v := .agg #[.slice (some ⟨g1, 0, none⟩) T.nS d1, .slice (some ⟨g2, 0, none⟩) T.nA d2]) rfl (by kernel_rfl) (by kernel_rfl) (by kernel_rfl) (fun _ _ _ h => h) (Or.inl ⟨by rfl, ?_⟩) (by assumption) ?_
          · intro wx hSw; obtain ⟨hcS, hfS⟩ := bcellN hSw; go_simp
          try simp only [Act.put, List.setIfInBounds_toArray, List.set_cons_zero, List.set_cons_succ, List.getElem_toArray, List.getElem_cons_zero, List.getElem_cons_succ]
          refine wpAnyH_ready (rs := [10]) (by kernel_rfl) (by simp) ?_
          refine (AllReadyH.cons rfl (fun K hK => ?_) AllReadyH.nil)
          have r0 := (hZC.2 0 (by simp)).1
          have r1 := (hZC.2 1 (by simp)).1
          have f0 := (hZC.2 0 (by simp)).2
          have f1 := (hZC.2 1 (by simp)).2
          simp only [List.getD, List.getElem?_cons_zero, List.getElem?_cons_succ, Option.getD_some] at r0 r1
          have lZC := hZC.1
          have hkC : w1.heap.size ≤ C := by omega
          go_simp
          obtain ⟨XSC, eS⟩ : ∃ X, X = ((XP2.setCell ⟨C, 0, none⟩ (.slice (some ⟨g1, 0, none⟩) T.nS d1)).setCell ⟨C, 1, none⟩ (.slice (some ⟨g2, 0, none⟩) T.nA d2)) := ⟨_, rfl⟩
          rw [← eS]
          have hPC : Bk XSC C [.slice (some ⟨g1, 0, none⟩) T.nS d1, .slice (some ⟨g2, 0, none⟩) T.nA d2] := by rw [eS]; exact bk_put (l := [.slice (some ⟨g1, 0, none⟩) T.nS d1, .slice (some ⟨g2, 0, none⟩) T.nA d2]) hZC rfl
          have hzC1 : XSC.heap.size ≤ XP2.heap.size := by rw [eS]; exact Nat.le_of_eq (size_put C [.slice (some ⟨g1, 0, none⟩) T.nS d1, .slice (some ⟨g2, 0, none⟩) T.nA d2] 0 XP2)
          have hzC2 : XP2.heap.size ≤ XSC.heap.size := by rw [eS]; exact Nat.le_of_eq (size_put C [.slice (some ⟨g1, 0, none⟩) T.nS d1, .slice (some ⟨g2, 0, none⟩) T.nA d2] 0 XP2).symm
          have hmC : ∀ b, ¬ b = C → Sm XP2 XSC b := by rw [eS]; exact fun b hb => sm_put hb [.slice (some ⟨g1, 0, none⟩) T.nS d1, .slice (some ⟨g2, 0, none⟩) T.nA d2] 0 XP2
          have hBC : Below (w1.heap.size) w1 XSC := by rw [eS]; exact below_put hkC [.slice (some ⟨g1, 0, none⟩) T.nS d1, .slice (some ⟨g2, 0, none⟩) T.nA d2] 0 hHeld
          clear eS r0 f0 r1 f1
          replace hO1 := own1_sm hO1 (hmC g1 (by omega))
          replace hO2 := own1_sm hO2 (hmC g2 (by omega))
          refine hK.out _ _ hBC (fun hNew => ?_)
          clear hK K hHeld
          have hHeld := hNew
          clear hNew
          try simp only [Act.put, List.setIfInBounds_toArray, List.set_cons_zero, List.set_cons_succ, List.getElem_toArray, List.getElem_cons_zero, List.getElem_cons_succ]
          refine wpAnyH_done (by kernel_rfl) ?_ _
          go_wp2
          go_meet
          case rel => exact ⟨C, g1, g2, d1, d2, rfl, hPC, hO1, hO2, ⟨by omega, by omega, by omega, by omega, by omega, by omega, by omega, by omega⟩, hHeld⟩
      · go_simp
        obtain ⟨XL2, eA⟩ : ∃ X, X = XC.alloc (.cells #[] 3) := ⟨_, rfl⟩
        rw [← eA]
        have hbA : Below XC.heap.size XC XL2 := by rw [eA]; exact (Below.refl _ _).alloc (Nat.le_refl _) _
        have hL2 : XL2.ownsRow w1.heap.size 3 1 (.slice (some ⟨XC.heap.size, 0, none⟩) 0 0) 0 [] := by rw [eA]; exact World.ownsRow_lit XC #[] 0 (by omega) (by simp) (by simp)
        have hzA21 : XL2.heap.size ≤ XC.heap.size + 1 := by rw [eA]; simp
        have hzA22 : XC.heap.size + 1 ≤ XL2.heap.size := by rw [eA]; simp
        clear eA
        replace hZC := hZC.below hbA
        have hsz_XL2 := hbA.size
        refine hK.out _ _ (bthenN hHeld (by omega) hbA) (fun hNew => ?_)
        clear hK K hHeld
        have hHeld := hNew
        clear hNew
        try simp only [Act.put, List.setIfInBounds_toArray, List.set_cons_zero, List.set_cons_succ, List.getElem_toArray, List.getElem_cons_zero, List.getElem_cons_succ]
        clear hbA
        obtain ⟨q2, eq2⟩ : ∃ g, g = XC.heap.size := ⟨_, rfl⟩
        rw [← eq2] at hL2 ⊢
        have eq21 : q2 ≤ XC.heap.size := by omega
        have eq22 : XC.heap.size ≤ q2 := by omega
        clear eq2
        refine wpAnyH_ready (rs := [0]) (by kernel_rfl) (by simp) ?_
        refine (AllReadyH.cons rfl (fun K hK => ?_) AllReadyH.nil)
        go_simp
        obtain ⟨XL1, eA⟩ : ∃ X, X = XL2.alloc (.cells #[] 3) := ⟨_, rfl⟩
        rw [← eA]
        have hbA : Below XL2.heap.size XL2 XL1 := by rw [eA]; exact (Below.refl _ _).alloc (Nat.le_refl _) _
        have hL1 : XL1.ownsRow w1.heap.size 3 1 (.slice (some ⟨XL2.heap.size, 0, none⟩) 0 0) 0 [] := by rw [eA]; exact World.ownsRow_lit XL2 #[] 0 (by omega) (by simp) (by simp)
        have hzA11 : XL1.heap.size ≤ XL2.heap.size + 1 := by rw [eA]; simp
        have hzA12 : XL2.heap.size + 1 ≤ XL1.heap.size := by rw [eA]; simp
        clear eA
        replace hZC := hZC.below hbA
        replace hL2 := own_keep hL2 hbA
        have hsz_XL1 := hbA.size
        refine hK.out _ _ (bthenN hHeld (by omega) hbA) (fun hNew => ?_)
        clear hK K hHeld
        have hHeld := hNew
        clear hNew
        try simp only [Act.put, List.setIfInBounds_toArray, List.set_cons_zero, List.set_cons_succ, List.getElem_toArray, List.getElem_cons_zero, List.getElem_cons_succ]
        clear hbA
        obtain ⟨q1, eq1⟩ : ∃ g, g = XL2.heap.size := ⟨_, rfl⟩
        rw [← eq1] at hL1 ⊢
        have eq11 : q1 ≤ XL2.heap.size := by omega
        have eq12 : XL2.heap.size ≤ q1 := by omega
        clear eq1
        refine wpAnyH_ready (rs := [3]) (by kernel_rfl) (by simp) ?_
        refine (AllReadyH.cons rfl (fun K hK => ?_) AllReadyH.nil)
        rw [if_pos (by rfl)]
        have hnn : Hid (∀ j u, ((List.range T.nS).flatMap (one1 T.S))[j]? = some u → XL1.cell? ((⟨b1, o1, none⟩ : Addr).add j) = some u) := one11_cells (fun k hk => ((bcellN (n := w1.heap.size) hHeld).1 b1 _ (by omega)).trans (R1.out k hk))
        refine app_at _ _ rfl w1.heap.size 0 _ [] rfl hL1 ⟨b1, o1, none⟩ T.nS kS ((List.range T.nS).flatMap (one1 T.S)) rfl (one11_len _ _) hnn.out (one11_one _ _) (by omega) (by omega) ?_
        intro v1 XP1 hown1 hg1 hat1
        have hsz1 := hg1.size
        clear hnn
        rw [Nat.zero_add, List.nil_append] at hown1
        obtain ⟨g1, d1, rfl, j11, j12, hO1⟩ := own1_of_row (by omega) hown1
        have hgq1 : g1 = q1 ∨ g1 = XL1.heap.size := by
          rcases hat1 with h | h
          · exact .inl (Option.some.inj h)
          · exact .inr (Option.some.inj h)
        have hbX : Below (w1.heap.size) XL1 XP1 := (Below.refl _ _).grown hg1 (by omega) (fun kk e => by have e2 : q1 = kk := Option.some.inj e; omega)
        have hsmX : ∀ b, b < XL1.heap.size → ¬ b = q1 → Sm XL1 XP1 b := fun b hb hne => sm_grown hg1 hb (fun e => hne (Option.some.inj e))
        replace hZC := hZC.sm hsz1 (hsmX C (by omega) (by omega))
        replace hL2 := World.ownsRow.kept hL2 hg1 (.inr (fun e => by have e2 : q2 = q1 := Option.some.inj e; omega))
        refine hK.out _ _ (hHeld.trans hbX) (fun hNew => ?_)
        clear hK K hHeld
        have hHeld := hNew
        clear hNew
        try simp only [Act.put, List.setIfInBounds_toArray, List.set_cons_zero, List.set_cons_succ, List.getElem_toArray, List.getElem_cons_zero, List.getElem_cons_succ]
        clear hbX hsmX hown1 hg1 hat1
        refine wpAnyH_ready (rs := [7]) (by kernel_rfl) (by simp) ?_
        refine (AllReadyH.cons rfl (fun K hK => ?_) AllReadyH.nil)
        rw [if_pos (by rfl)]
        have hnn : Hid (∀ j u, ((List.range T.nA).flatMap (one1 T.A))[j]? = some u → XP1.cell? ((⟨b2, o2, none⟩ : Addr).add j) = some u) := one11_cells (fun k hk => ((bcellN (n := w1.heap.size) hHeld).1 b2 _ (by omega)).trans (R2.out k hk))
        refine app_at _ _ rfl w1.heap.size 0 _ [] rfl hL2 ⟨b2, o2, none⟩ T.nA kA ((List.range T.nA).flatMap (one1 T.A)) rfl (one11_len _ _) hnn.out (one11_one _ _) (by omega) (by omega) ?_
        intro v2 XP2 hown2 hg2 hat2
        have hsz2 := hg2.size
        clear hnn
        rw [Nat.zero_add, List.nil_append] at hown2
        obtain ⟨g2, d2, rfl, j21, j22, hO2⟩ := own1_of_row (by omega) hown2
        have hgq2 : g2 = q2 ∨ g2 = XP1.heap.size := by
          rcases hat2 with h | h
          · exact .inl (Option.some.inj h)
          · exact .inr (Option.some.inj h)
        have hbX : Below (w1.heap.size) XP1 XP2 := (Below.refl _ _).grown hg2 (by omega) (fun kk e => by have e2 : q2 = kk := Option.some.inj e; omega)
        have hsmX : ∀ b, b < XP1.heap.size → ¬ b = q2 → Sm XP1 XP2 b := fun b hb hne => sm_grown hg2 hb (fun e => hne (Option.some.inj e))
        replace hZC := hZC.sm hsz2 (hsmX C (by omega) (by omega))
        replace hO1 := own1_sm hO1 (hsmX g1 (by omega) (by omega))
        refine hK.out _ _ (hHeld.trans hbX) (fun hNew => ?_)
        clear hK K hHeld
        have hHeld := hNew
        clear hNew
        try simp only [Act.put, List.setIfInBounds_toArray, List.set_cons_zero, List.set_cons_succ, List.getElem_toArray, List.getElem_cons_zero, List.getElem_cons_succ]
        clear hbX hsmX hown2 hg2 hat2
        refine wpAnyH_take (i := 8) (v := .agg #[.slice (some ⟨g1, 0, none⟩) T.nS d1, .slice (some ⟨g2, 0, none⟩) T.nA d2]) rfl (by kernel_rfl) (by kernel_rfl) (by kernel_rfl) (fun _ _ _ h => h) (Or.inl ⟨by rfl, ?_⟩) (by assumption) ?_
        · intro wx hSw; obtain ⟨hcS, hfS⟩ := bcellN hSw; go_simp
        try simp only [Act.put, List.setIfInBounds_toArray, List.set_cons_zero, List.set_cons_succ, List.getElem_toArray, List.getElem_cons_zero, List.getElem_cons_succ]
        refine wpAnyH_ready (rs := [10]) (by kernel_rfl) (by simp) ?_
        refine (AllReadyH.cons rfl (fun K hK => ?_) AllReadyH.nil)
        have r0 := (hZC.2 0 (by simp)).1
        have r1 := (hZC.2 1 (by simp)).1
        have f0 := (hZC.2 0 (by simp)).2
        have f1 := (hZC.2 1 (by simp)).2
        simp only [List.getD, List.getElem?_cons_zero, List.getElem?_cons_succ, Option.getD_some] at r0 r1
        have lZC := hZC.1
        have hkC : w1.heap.size ≤ C := by omega
        go_simp
        obtain ⟨XSC, eS⟩ : ∃ X, X = ((XP2.setCell ⟨C, 0, none⟩ (.slice (some ⟨g1, 0, none⟩) T.nS d1)).setCell ⟨C, 1, none⟩ (.slice (some ⟨g2, 0, none⟩) T.nA d2)) := ⟨_, rfl⟩
        rw [← eS]
        have hPC : Bk XSC C [.slice (some ⟨g1, 0, none⟩) T.nS d1, .slice (some ⟨g2, 0, none⟩) T.nA d2] := by rw [eS]; exact bk_put (l := [.slice (some ⟨g1, 0, none⟩) T.nS d1, .slice (some ⟨g2, 0, none⟩) T.nA d2]) hZC rfl
        have hzC1 : XSC.heap.size ≤ XP2.heap.size := by rw [eS]; exact Nat.le_of_eq (size_put C [.slice (some ⟨g1, 0, none⟩) T.nS d1, .slice (some ⟨g2, 0, none⟩) T.nA d2] 0 XP2)
        have hzC2 : XP2.heap.size ≤ XSC.heap.size := by rw [eS]; exact Nat.le_of_eq (size_put C [.slice (some ⟨g1, 0, none⟩) T.nS d1, .slice (some ⟨g2, 0, none⟩) T.nA d2] 0 XP2).symm
        have hmC : ∀ b, ¬ b = C → Sm XP2 XSC b := by rw [eS]; exact fun b hb => sm_put hb [.slice (some ⟨g1, 0, none⟩) T.nS d1, .slice (some ⟨g2, 0, none⟩) T.nA d2] 0 XP2
        have hBC : Below (w1.heap.size) w1 XSC := by rw [eS]; exact below_put hkC [.slice (some ⟨g1, 0, none⟩) T.nS d1, .slice (some ⟨g2, 0, none⟩) T.nA d2] 0 hHeld
        clear eS r0 f0 r1 f1
        replace hO1 := own1_sm hO1 (hmC g1 (by omega))
        replace hO2 := own1_sm hO2 (hmC g2 (by omega))
        refine hK.out _ _ hBC (fun hNew => ?_)
        clear hK K hHeld
        have hHeld := hNew
        clear hNew
        try simp only [Act.put, List.setIfInBounds_toArray, List.set_cons_zero, List.set_cons_succ, List.getElem_toArray, List.getElem_cons_zero, List.getElem_cons_succ]
        refine wpAnyH_done (by kernel_rfl) ?_ _
        go_wp2
        go_meet
        case rel => exact ⟨C, g1, g2, d1, d2, rfl, hPC, hO1, hO2, ⟨by omega, by omega, by omega, by omega, by omega, by omega, by omega, by omega⟩, hHeld⟩
  case rest =>
    obtain ⟨w4, hw4⟩ : ∃ w4, w4 = wc := ⟨_, rfl⟩
    subst hw4
    obtain ⟨gC, g1, g2, d1, d2, rfl, hG, hP, hQ, ⟨j1, j2, j3, j4, j5, j6, j7, j8⟩, hb4⟩ := hcut
    clear yM0 zM0 yM1 zM1 hlM yA0 zA0 yA1 zA1 hlA yR0 zR0 yR1 zR1 hlR
    have y_w4 : w1.heap.size ≤ w4.heap.size := hb4.size
    have B6 : Hid (Below w.heap.size w w4) := bthen B5.out hb4
    have M6 : Hid (Bk w4 w.heap.size [.int .i64 c, .int .i64 d]) := M5.out.below hb4
    have A6 : Hid (Bk w4 (w.heap.size + 1) [.slice (some ⟨b1, o1, none⟩) T.nS kS, .slice (some ⟨b2, o2, none⟩) T.nA kA]) := A5.out.below hb4
    have R6 : Hid (Bk w4 (w.heap.size + 1 + 1) [.slice none 0 0, .slice none 0 0]) := R5.out.below hb4
    clear B5 M5 A5 R5
    clear hb4
    have P7 : Hid (Own1 w4 g1 T.nS T.S T.nS) := hP
    have Q8 : Hid (Own1 w4 g2 T.nA T.A T.nA) := hQ
    have C9 : Hid (Bk w4 gC [.slice (some ⟨g1, 0, none⟩) T.nS d1, .slice (some ⟨g2, 0, none⟩) T.nA d2]) := hG
    clear hP hQ hG
    have yM0 : w4.cell? ⟨w.heap.size, 0, none⟩ = some (.int .i64 c) := (M6.out.2 0 (by simp)).1
    have zM0 : w4.frozen? ⟨w.heap.size, 0, none⟩ = false := (M6.out.2 0 (by simp)).2
    have yM1 : w4.cell? ⟨w.heap.size, 1, none⟩ = some (.int .i64 d) := (M6.out.2 1 (by simp)).1
    have zM1 : w4.frozen? ⟨w.heap.size, 1, none⟩ = false := (M6.out.2 1 (by simp)).2
    have hlM : w.heap.size < w4.heap.size := M6.out.1
    have yA0 : w4.cell? ⟨(w.heap.size + 1), 0, none⟩ = some (.slice (some ⟨b1, o1, none⟩) T.nS kS) := (A6.out.2 0 (by simp)).1
    have zA0 : w4.frozen? ⟨(w.heap.size + 1), 0, none⟩ = false := (A6.out.2 0 (by simp)).2
    have yA1 : w4.cell? ⟨(w.heap.size + 1), 1, none⟩ = some (.slice (some ⟨b2, o2, none⟩) T.nA kA) := (A6.out.2 1 (by simp)).1
    have zA1 : w4.frozen? ⟨(w.heap.size + 1), 1, none⟩ = false := (A6.out.2 1 (by simp)).2
    have hlA : (w.heap.size + 1) < w4.heap.size := A6.out.1
    have yR0 : w4.cell? ⟨(w.heap.size + 1 + 1), 0, none⟩ = some (.slice none 0 0) := (R6.out.2 0 (by simp)).1
    have zR0 : w4.frozen? ⟨(w.heap.size + 1 + 1), 0, none⟩ = false := (R6.out.2 0 (by simp)).2
    have yR1 : w4.cell? ⟨(w.heap.size + 1 + 1), 1, none⟩ = some (.slice none 0 0) := (R6.out.2 1 (by simp)).1
    have zR1 : w4.frozen? ⟨(w.heap.size + 1 + 1), 1, none⟩ = false := (R6.out.2 1 (by simp)).2
    have hlR : (w.heap.size + 1 + 1) < w4.heap.size := R6.out.1
    have yC0 : w4.cell? ⟨gC, 0, none⟩ = some (.slice (some ⟨g1, 0, none⟩) T.nS d1) := (C9.out.2 0 (by simp)).1
    have zC0 : w4.frozen? ⟨gC, 0, none⟩ = false := (C9.out.2 0 (by simp)).2
    have yC1 : w4.cell? ⟨gC, 1, none⟩ = some (.slice (some ⟨g2, 0, none⟩) T.nA d2) := (C9.out.2 1 (by simp)).1
    have zC1 : w4.frozen? ⟨gC, 1, none⟩ = false := (C9.out.2 1 (by simp)).2
    have hlC : gC < w4.heap.size := C9.out.1
    have zC : gC < w4.heap.size := hlC
    cases m1 : inB cell 0 (c - 1)
    · have hno : mayB c T n cell server = false := by simp [mayB, m1]
      go_wp2_with (go_at_call 20; refine (in_spec _ _ _ _).mono ?_; rintro e w4 ⟨rfl, rfl⟩; rw [m1])
      refine bodyPost_ret (v := .tuple #[.agg #[.slice (some ⟨g1, 0, none⟩) T.nS d1, .slice (some ⟨g2, 0, none⟩) T.nA d2], .bool false]) (by simp [results, Try.results6, go_sem, *]) rfl ?_
      refine ⟨⟨_, _, rfl, by rw [grantR_no HOK.out hno], ?_⟩, (B6.out.setCell (by simp; try omega) _).setCell (by simp; try omega) _⟩
      rw [grantR_no HOK.out hno]
      exact ⟨_, _, g1, g2, rfl, .inr ⟨_, rfl, by omega, by simp [World.setCell]; omega, Nat.le_refl _, own1_set (own1_set P7.out (by omega)) (by omega)⟩, .inr ⟨_, rfl, by omega, by simp [World.setCell]; omega, Nat.le_refl _, own1_set (own1_set Q8.out (by omega)) (by omega)⟩, by omega⟩
    have hcell : 0 ≤ cell ∧ cell ≤ c - 1 := by simpa [inB] using m1
    cases m2 : inB server 0 (n - 1)
    · have hno : mayB c T n cell server = false := by simp [mayB, m2]
      go_wp2_with (first | (go_at_call 20; refine (in_spec _ _ _ _).mono ?_; rintro e w4 ⟨rfl, rfl⟩; rw [m1]) | (go_at_call 20; refine (in_spec _ _ _ _).mono ?_; rintro e w4 ⟨rfl, rfl⟩; rw [m2]))
      refine bodyPost_ret (v := .tuple #[.agg #[.slice (some ⟨g1, 0, none⟩) T.nS d1, .slice (some ⟨g2, 0, none⟩) T.nA d2], .bool false]) (by simp [results, Try.results6, go_sem, *]) rfl ?_
      refine ⟨⟨_, _, rfl, by rw [grantR_no HOK.out hno], ?_⟩, (B6.out.setCell (by simp; try omega) _).setCell (by simp; try omega) _⟩
      rw [grantR_no HOK.out hno]
      exact ⟨_, _, g1, g2, rfl, .inr ⟨_, rfl, by omega, by simp [World.setCell]; omega, Nat.le_refl _, own1_set (own1_set P7.out (by omega)) (by omega)⟩, .inr ⟨_, rfl, by omega, by simp [World.setCell]; omega, Nat.le_refl _, own1_set (own1_set Q8.out (by omega)) (by omega)⟩, by omega⟩
    obtain ⟨k, hck⟩ : ∃ k : Nat, cell = k := ⟨cell.toNat, by omega⟩
    subst hck
    have hk : k < T.nS := by omega
    have hk2 : k < T.nA := by omega
    have hkS : (k : Int) < T.nS := by omega
    have hkA : (k : Int) < T.nA := by omega
    have hc2 : w4.cell? ⟨g2, k, none⟩ = some (.int .i64 (T.A k)) := Q8.out.2 k hk2
    obtain ⟨q1, q2⟩ := KA.out k hk
    cases m3 : (T.A k == 900)
    · have hyes : mayB c T n k server = true := by simp [mayB, m1, m2, m3]
      obtain ⟨p0, pf⟩ := P7.out.1 k hk
      obtain ⟨pv, p0⟩ := Option.isSome_iff_exists.1 p0
      have tf := (Q8.out.1 k hk2).2
      have n12 : ¬ g1 = g2 := by omega
      have n21 : ¬ g2 = g1 := by omega
      have n1C : ¬ g1 = gC := by omega
      have n2C : ¬ g2 = gC := by omega
      go_wp2_with (first | (go_at_call 20; refine (in_spec _ _ _ _).mono ?_; rintro e w4 ⟨rfl, rfl⟩; rw [m1]) | (go_at_call 20; refine (in_spec _ _ _ _).mono ?_; rintro e w4 ⟨rfl, rfl⟩; rw [m2]))
      go_region
      obtain ⟨w5, e5⟩ : ∃ wq, wq = ((w4.setCell ⟨g1, k, none⟩ (.int .i64 server)).setCell ⟨g2, k, none⟩ (.int .i64 (T.A k + 1))).drew := ⟨_, rfl⟩
      rw [← e5]
      have hd5 : Below ((w4.setCell ⟨g1, k, none⟩ (.int .i64 server)).setCell ⟨g2, k, none⟩ (.int .i64 (T.A k + 1))).heap.size ((w4.setCell ⟨g1, k, none⟩ (.int .i64 server)).setCell ⟨g2, k, none⟩ (.int .i64 (T.A k + 1))) w5 := by rw [e5]; exact (Below.refl _ _).drew
      have z5 : w5.heap.size = w4.heap.size := by rw [e5]; show ((w4.setCell ⟨g1, k, none⟩ (.int .i64 server)).setCell ⟨g2, k, none⟩ (.int .i64 (T.A k + 1))).heap.size = _; rw [set_size, set_size]
      have P5 : Hid (Own1 w5 g1 T.nS (givenT T k server).S T.nS) := own1_below (own1_set (own1_congr (own1_upd (z := server) P7.out hk) (fun j _ => by simp [givenT])) n21) (by rw [set_size, set_size]; omega) hd5
      have Q5 : Hid (Own1 w5 g2 T.nA (givenT T k server).A T.nA) := own1_below (own1_congr (own1_upd (z := T.A k + 1) (own1_set Q8.out n12) hk2) (fun j _ => by simp [givenT])) (by rw [set_size, set_size]; omega) hd5
      have C5 : Hid (Bk w5 gC [.slice (some ⟨g1, 0, none⟩) T.nS d1, .slice (some ⟨g2, 0, none⟩) T.nA d2]) := ((C9.out.far (by omega)).far (by omega)).below hd5
      have R5 : Hid (Bk w5 (w.heap.size + 1 + 1) [.slice none 0 0, .slice none 0 0]) := ((R6.out.far (by omega)).far (by omega)).below hd5
      have B5 : Hid (Below w.heap.size w w5) := ((B6.out.setCell (by show w.heap.size ≤ g1; omega) _).setCell (by show w.heap.size ≤ g2; omega) _).trans (hd5.mono (by have := B6.out.size; rw [set_size, set_size]; omega))
      clear hd5 e5
      clear yM0 zM0 yM1 zM1 hlM yA0 zA0 yA1 zA1 hlA yR0 zR0 yR1 zR1 hlR yC0 zC0 yC1 zC1 hlC
      clear p0 pf tf hc2
      have c0 : w5.cell? ⟨gC, 0, none⟩ = some (.slice (some ⟨g1, 0, none⟩) T.nS d1) := (C5.out.2 0 (by simp)).1
      have c1 : w5.cell? ⟨gC, 1, none⟩ = some (.slice (some ⟨g2, 0, none⟩) T.nA d2) := (C5.out.2 1 (by simp)).1
      have r0 : w5.cell? ⟨w.heap.size + 1 + 1, 0, none⟩ = some (.slice none 0 0) := (R5.out.2 0 (by simp)).1
      have r1 : w5.cell? ⟨w.heap.size + 1 + 1, 1, none⟩ = some (.slice none 0 0) := (R5.out.2 1 (by simp)).1
      have rf0 := (R5.out.2 0 (by simp)).2
      have rf1 := (R5.out.2 1 (by simp)).2
      have lC5 := C5.out.1
      have lR5 := R5.out.1
      have z51 : w5.heap.size ≤ w4.heap.size := by omega
      have z52 : w4.heap.size ≤ w5.heap.size := by omega
      clear z5
      go_wp2
      refine bodyPost_ret (v := .tuple #[.agg #[.slice (some ⟨g1, 0, none⟩) T.nS d1, .slice (some ⟨g2, 0, none⟩) T.nA d2], .bool true]) (by simp [results, Try.results6, go_sem, *]) rfl ?_
      refine ⟨⟨_, _, rfl, by rw [grantR_yes HOK.out hyes], ?_⟩, (B5.out.setCell (by show w.heap.size ≤ w.heap.size + 1 + 1; omega) _).setCell (by show w.heap.size ≤ w.heap.size + 1 + 1; omega) _⟩
      rw [grantR_yes HOK.out hyes]
      exact ⟨_, _, g1, g2, rfl, .inr ⟨_, rfl, by omega, by simp [World.setCell]; omega, Nat.le_refl _, own1_set (own1_set P5.out (by omega)) (by omega)⟩, .inr ⟨_, rfl, by omega, by simp [World.setCell]; omega, Nat.le_refl _, own1_set (own1_set Q5.out (by omega)) (by omega)⟩, by omega⟩
    · have hno : mayB c T n k server = false := by simp [mayB, m3]
      go_wp2_with (first | (go_at_call 20; refine (in_spec _ _ _ _).mono ?_; rintro e w4 ⟨rfl, rfl⟩; rw [m1]) | (go_at_call 20; refine (in_spec _ _ _ _).mono ?_; rintro e w4 ⟨rfl, rfl⟩; rw [m2]))
      refine bodyPost_ret (v := .tuple #[.agg #[.slice (some ⟨g1, 0, none⟩) T.nS d1, .slice (some ⟨g2, 0, none⟩) T.nA d2], .bool false]) (by simp [results, Try.results6, go_sem, *]) rfl ?_
      refine ⟨⟨_, _, rfl, by rw [grantR_no HOK.out hno], ?_⟩, (B6.out.setCell (by simp; try omega) _).setCell (by simp; try omega) _⟩
      rw [grantR_no HOK.out hno]
      exact ⟨_, _, g1, g2, rfl, .inr ⟨_, rfl, by omega, by simp [World.setCell]; omega, Nat.le_refl _, own1_set (own1_set P7.out (by omega)) (by omega)⟩, .inr ⟨_, rfl, by omega, by simp [World.setCell]; omega, Nat.le_refl _, own1_set (own1_set Q8.out (by omega)) (by omega)⟩, by omega⟩
end Go.Proofs.Ytodmfbbicdbjdaa
