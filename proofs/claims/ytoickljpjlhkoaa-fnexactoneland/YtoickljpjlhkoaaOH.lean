/- l15Copy of the model; conditions: those typed. -/
import Derived.Test.YtoickljpjlhkoaaOG
import Derived.Maps.AppendAt
namespace Go.Proofs.Ytoickljpjlhkoaa
open Go.RowKit Go.Deep
set_option linter.unusedVariables false


theorem own_shape {w : World} {base e m n : Nat} {v : Value} {xs : List Value} (h : w.ownsRow base e m v n xs) : ∃ a l c, v = .slice a l c := by
  rcases h.2 with ⟨e, _⟩ | ⟨g, cap, cur, hv, _⟩
  · exact ⟨_, _, _, e⟩
  · exact ⟨_, _, _, hv⟩
theorem own_keep {w w' : World} {base e m n : Nat} {v : Value} {xs : List Value} (h : w.ownsRow base e m v n xs) (hb : Below w.heap.size w w') : w'.ownsRow base e m v n xs :=
  World.ownsRow.kept h (row := none) ⟨hb.os, hb.tape, hb.output, hb.size, fun k hk _ => hb.block k hk⟩ (by cases e : v.ownBlock <;> simp)
theorem own_far {w : World} {base e m n g j : Nat} {v u : Value} {xs : List Value} (h : w.ownsRow base e m v n xs) (hg : g < base) : (w.setCell ⟨g, j, none⟩ u).ownsRow base e m v n xs :=
  World.ownsRow.kept h (set_grown w g j u).1 (.inr (fun e => by have := (h.lt g e).1; omega))
theorem Cps.sm {lo : Nat} {w w' : World} {sl : Nat → Value} {xs N : Nat → Nat} {A : Nat → Nat → Int} {g : Option Nat} {k : Nat} (h : Cps lo w sl xs N A g k) (hz : w.heap.size ≤ w'.heap.size) (hs : ∀ j, j < k → lo ≤ xs j → xs j < w.heap.size → ¬ g = some (xs j) → Sm w w' (xs j)) : Cps lo w' sl xs N A g k := by
  refine ⟨fun j hj => ?_, h.2⟩
  obtain ⟨c, q1, q2, q3, q4, q5⟩ := h.1 j hj
  exact ⟨c, q1, q2, Nat.lt_of_lt_of_le q3 hz, own1_sm q4 (hs j hj q2 q3 q5), q5⟩
theorem app_at {w : World} {o : Oper} {a : Act} {K : Act → World → Prop} {Q : Exit → Act → World → Prop} {t e size bytes : Nat} {z : Value} (s x : Operand) (ho : o.op = .call { callee := .builtin .append, args := #[s, x], argTypes := #[t, t] }) (ht : Try.prog.underlying t = some (.slice e)) (hi : (Try.prog.info? e).map (fun i => (i.zero, i.size, i.bytes)) = some (some z, size, bytes)) (hzs : z.cells.size = size) (hsz : 0 < size) (hby : bytes ≤ 48)
    (base n : Nat) (v : Value) (xs : List Value) (hs : a.eval s = v) (hown : w.ownsRow base e size v n xs) (ad : Addr) (m c : Nat) (news : List Value) (hx : a.eval x = .slice (some ad) m c) (hl : news.length = m * size)
    (hnews : ∀ j u, news[j]? = some u → w.cell? (ad.add j) = some u) (h1 : ∀ u ∈ news, u.oneCell' = true) (hm : n + m ≤ 2000000) (hb : base ≤ w.heap.size)
    (h : ∀ v' w', w'.ownsRow base e size v' (n + m) (xs ++ news) → w.grownBy w' v.ownBlock → (v'.ownBlock = v.ownBlock ∨ v'.ownBlock = some w.heap.size) → K (a.put o.dst v') w') : o.wp Try.prog a w K Q := by
  obtain ⟨i5, hi5, hz50, hz51, hz52⟩ := info_parts hi
  obtain ⟨v', w', hr, h2, h3, _, h5⟩ := run_append_own_at (P := Try.prog) w base t o.type e i5 z size bytes ht hi5 hz50 hz51 hz52 hzs hsz v n xs hown ad m c news hl hnews h1 (by unfold maxLen; omega) (by have : (n + m) * bytes ≤ 2000000 * 48 := Nat.mul_le_mul hm hby; omega) hb
  unfold Oper.wp execOp
  simp only [ho, resolve, invoke, builtin, Sem.run_bind, Sem.run_pure, Result.andThen_ok, List.map_toArray, List.map_cons, List.map_nil, hs, hx, hr]
  exact h v' w' h2 h3 h5

theorem cps_next {bs k g4 c4 : Nat} {X X5 : World} {sl sl2 : Nat → Value} {xs xs2 N : Nat → Nat} {O : Nat → Nat → Int} {v v' : Value} (hO : X.ownsRow bs 25 1 v k ((List.range k).flatMap (oneS sl))) (h : Cps bs X sl xs N O v.ownBlock k)
    (esl : sl2 = fun j => if j = k then .slice (some ⟨g4, 0, none⟩) 2 c4 else sl j) (exs : xs2 = fun j => if j = k then g4 else xs j) (hN : N k = 2) (h4 : Own1 X g4 2 (O k) 2) (hg1 : bs ≤ g4) (hg2 : g4 < X.heap.size) (hne : ∀ j, j < k → ¬ xs j = g4) (hv : ¬ v.ownBlock = some g4) (hg : X.grownBy X5 v.ownBlock) (hat : v'.ownBlock = v.ownBlock ∨ v'.ownBlock = some X.heap.size) : Cps bs X5 sl2 xs2 N O v'.ownBlock (k + 1) := by
  have hz := hg.size
  have nb : ∀ b, b < X.heap.size → ¬ v.ownBlock = some b → ¬ v'.ownBlock = some b := fun b hb hn => by
    rcases hat with h | h
    · rw [h]; exact hn
    · rw [h]; intro e; have := Option.some.inj e; omega
  refine ⟨fun j hj => ?_, fun i j hi hj hij => ?_⟩
  · by_cases e : j = k
    · subst e
      rw [esl, exs, hN]
      simp only [if_true]
      exact ⟨c4, rfl, hg1, by omega, own1_sm h4 (sm_grown hg hg2 (fun e => hv e.symm)), nb _ hg2 hv⟩
    · obtain ⟨c, q1, q2, q3, q4, q5⟩ := h.1 j (by omega)
      rw [esl, exs]
      simp only [if_neg e]
      exact ⟨c, q1, q2, by omega, own1_sm q4 (sm_grown hg q3 (fun e => q5 e.symm)), nb _ q3 q5⟩
  · rw [exs]
    dsimp only
    by_cases e1 : i = k
    · subst e1
      rw [if_pos rfl, if_neg (by omega)]
      exact fun e => hne j (by omega) e.symm
    · rw [if_neg e1]
      by_cases e2 : j = k
      · rw [if_pos e2]; exact hne i (by omega)
      · rw [if_neg e2]; exact h.2 i j (by omega) (by omega) hij

set_option maxRecDepth 20000 in
set_option maxHeartbeats 8000000 in
theorem copyS (lo : Nat) (v : Value) (V : OV) (hs : V.short 1048576) (p1 : 0 < V.nG) (p2 : 0 < V.nA) (p3 : ∀ k, k < V.nA → V.N k = 2) (w : World) (h : CopyO lo w v V) :
    Calls Try.prog 39 #[v] w fun e w' => (∃ v', e = .returned v' ∧ OwnW w.heap.size w'.heap.size w' v' V) ∧ Below w.heap.size w w' := by
  obtain ⟨b1, b2, b3, l1, l2, l3, l4, rfl, o1, o2, o3⟩ := h
  obtain ⟨c, d, nW, Z, nG, G, nA, N, O⟩ := V
  simp only at o1 o2 o3 l4 p1 p2 p3
  obtain ⟨s1, s2, s3, s4⟩ := hs
  simp only at s1 s2 s3
  have H1 : Hid (P6.OwnK w b1 nW Z nW) := o1
  have H2 : Hid (Own1 w b2 nG G nG) := o2
  have H3 : Hid (RowO w (some ⟨b3, 0, none⟩) nA N O) := rowO_of_own o3 l4
  have P3 : Hid (∀ k, k < nA → N k = 2) := p3
  clear o1 o2 o3 s4 p3
  go_enter Try.func39, Try.ntmps39
  go_wp2
  obtain ⟨w1, e0⟩ : ∃ w0, w0 = (w.alloc (.cells #[.int .i64 c, .int .i64 d, .slice (some ⟨b1, 0, none⟩) nW nW, .slice (some ⟨b2, 0, none⟩) nG nG, .slice (some ⟨b3, 0, none⟩) nA nA] 34)).alloc (.cells #[.int .i64 0, .int .i64 0, .slice none 0 0, .slice none 0 0, .slice none 0 0] 34) := ⟨_, rfl⟩
  have B1 : Hid (Below w.heap.size w w1) := by rw [e0]; exact ((Below.refl _ _).alloc (by simp) _).alloc (by simp) _
  have A2 : Hid (Bk w1 w.heap.size [.int .i64 c, .int .i64 d, .slice (some ⟨b1, 0, none⟩) nW nW, .slice (some ⟨b2, 0, none⟩) nG nG, .slice (some ⟨b3, 0, none⟩) nA nA]) := by rw [e0]; exact (bk_new w 34 [.int .i64 c, .int .i64 d, .slice (some ⟨b1, 0, none⟩) nW nW, .slice (some ⟨b2, 0, none⟩) nG nG, .slice (some ⟨b3, 0, none⟩) nA nA]).below ((Below.refl _ _).alloc (Nat.le_refl _) _)
  have R3 : Hid (Bk w1 (w.heap.size + 1) [.int .i64 0, .int .i64 0, .slice none 0 0, .slice none 0 0, .slice none 0 0]) := by rw [e0]; have := bk_new (w.alloc (.cells #[.int .i64 c, .int .i64 d, .slice (some ⟨b1, 0, none⟩) nW nW, .slice (some ⟨b2, 0, none⟩) nG nG, .slice (some ⟨b3, 0, none⟩) nA nA] 34)) 34 [.int .i64 0, .int .i64 0, .slice none 0 0, .slice none 0 0, .slice none 0 0]; rwa [show (w.alloc (.cells #[.int .i64 c, .int .i64 d, .slice (some ⟨b1, 0, none⟩) nW nW, .slice (some ⟨b2, 0, none⟩) nG nG, .slice (some ⟨b3, 0, none⟩) nA nA] 34)).heap.size = w.heap.size + 1 by simp] at this
  rw [← e0]
  have zw1 : w1.heap.size = w.heap.size + 1 + 1 := by rw [e0]; simp
  clear e0
  have zw1a : w1.heap.size ≤ w.heap.size + 1 + 1 := by omega
  have zw1b : w.heap.size + 1 + 1 ≤ w1.heap.size := by omega
  clear zw1
  have R1 : Hid (∀ k j, k < nW → j < 6 → w1.cell? ⟨b1, 0 + k * 6 + j, none⟩ = some (P6.cv j (Z k j))) := fun k j hk hj => (B1.out.cell (p := ⟨b1, _, none⟩) (by show b1 < _; omega)).trans (P6.own_row H1.out k j hk hj)
  have R2 : Hid (∀ k, k < nG → w1.cell? ⟨b2, 0 + k, none⟩ = some (.int .i64 (G k))) := fun k hk => by rw [Nat.zero_add]; exact (B1.out.cell (p := ⟨b2, k, none⟩) (by show b2 < _; omega)).trans (H2.out.2 k hk)
  have yA0 : w1.cell? ⟨w.heap.size, 0, none⟩ = some (.int .i64 c) := (A2.out.2 0 (by simp)).1
  have yA1 : w1.cell? ⟨w.heap.size, 1, none⟩ = some (.int .i64 d) := (A2.out.2 1 (by simp)).1
  have yA2 : w1.cell? ⟨w.heap.size, 2, none⟩ = some (.slice (some ⟨b1, 0, none⟩) nW nW) := (A2.out.2 2 (by simp)).1
  have yA3 : w1.cell? ⟨w.heap.size, 3, none⟩ = some (.slice (some ⟨b2, 0, none⟩) nG nG) := (A2.out.2 3 (by simp)).1
  have yA4 : w1.cell? ⟨w.heap.size, 4, none⟩ = some (.slice (some ⟨b3, 0, none⟩) nA nA) := (A2.out.2 4 (by simp)).1
  have hlA : w.heap.size < w1.heap.size := A2.out.1
  go_cut [3] (fun p wx => ∃ C gW gG aW cW cG t, .pointer (some ⟨C, 0, none⟩) = p ∧ Bk wx C [.int .i64 c, .int .i64 d, .slice aW nW cW, .slice (some ⟨gG, 0, none⟩) nG cG, .slice none 0 0] ∧ RW w1.heap.size t wx (.slice aW nW cW) nW Z gW ∧ Own1 wx gG nG G nG ∧ (w1.heap.size ≤ C ∧ w1.heap.size ≤ gG ∧ gG < wx.heap.size ∧ (gW = 0 ∨ w1.heap.size ≤ gW) ∧ gW < wx.heap.size ∧ t ≤ wx.heap.size ∧ ¬ C = gG ∧ ¬ C = gW ∧ ¬ gG = gW) ∧ Below w1.heap.size w1 wx)
  case first =>
    refine wp_region_held_drew (S := fun w' => Below (w1.heap.size) w1 w') (by kernel_rfl) ((Below.refl _ _).drew) ?_
    intro hHeld
    obtain ⟨X0, hX0⟩ : ∃ X, X = w1.drew := ⟨_, rfl⟩
    have hz0 : w1.heap.size ≤ X0.heap.size := by rw [hX0]; exact Nat.le_refl _
    rw [← hX0] at hHeld ⊢
    clear hX0
    refine wpAnyH_take (i := 0) (v := .pointer (some ⟨w.heap.size, 0, none⟩)) rfl (by kernel_rfl) (by kernel_rfl) (by kernel_rfl) (fun _ _ _ h => h) (Or.inl ⟨by rfl, ?_⟩) (by assumption) ?_
    · intro wx hSw; obtain ⟨hcS, hfS⟩ := bcellN hSw; go_simp
    try simp only [Act.put, List.setIfInBounds_toArray, List.set_cons_zero, List.set_cons_succ, List.getElem_toArray, List.getElem_cons_zero]
    refine wpAnyH_take (i := 3) (v := .pointer (some ⟨w.heap.size, 2, none⟩)) rfl (by kernel_rfl) (by kernel_rfl) (by kernel_rfl) (fun _ _ _ h => h) (Or.inl ⟨by rfl, ?_⟩) (by assumption) ?_
    · intro wx hSw; obtain ⟨hcS, hfS⟩ := bcellN hSw; go_simp
    try simp only [Act.put, List.setIfInBounds_toArray, List.set_cons_zero, List.set_cons_succ, List.getElem_toArray, List.getElem_cons_zero, List.getElem_cons_succ]
    refine wpAnyH_take (i := 7) (v := .pointer (some ⟨w.heap.size, 3, none⟩)) rfl (by kernel_rfl) (by kernel_rfl) (by kernel_rfl) (fun _ _ _ h => h) (Or.inl ⟨by rfl, ?_⟩) (by assumption) ?_
    · intro wx hSw; obtain ⟨hcS, hfS⟩ := bcellN hSw; go_simp
    try simp only [Act.put, List.setIfInBounds_toArray, List.set_cons_zero, List.set_cons_succ, List.getElem_toArray, List.getElem_cons_zero, List.getElem_cons_succ]
    refine wpAnyH_take (i := 1) (v := .agg #[.int .i64 c, .int .i64 d]) rfl (by kernel_rfl) (by kernel_rfl) (by kernel_rfl) (fun _ _ _ h => h) (Or.inl ⟨by rfl, ?_⟩) (by assumption) ?_
    · intro wx hSw; obtain ⟨hcS, hfS⟩ := bcellN hSw; go_simp
    try simp only [Act.put, List.setIfInBounds_toArray, List.set_cons_zero, List.set_cons_succ, List.getElem_toArray, List.getElem_cons_zero, List.getElem_cons_succ]
    refine wpAnyH_take (i := 4) (v := .slice (some ⟨b1, 0, none⟩) nW nW) rfl (by kernel_rfl) (by kernel_rfl) (by kernel_rfl) (fun _ _ _ h => h) (Or.inl ⟨by rfl, ?_⟩) (by assumption) ?_
    · intro wx hSw; obtain ⟨hcS, hfS⟩ := bcellN hSw; go_simp
    try simp only [Act.put, List.setIfInBounds_toArray, List.set_cons_zero, List.set_cons_succ, List.getElem_toArray, List.getElem_cons_zero, List.getElem_cons_succ]
    refine wpAnyH_take (i := 8) (v := .slice (some ⟨b2, 0, none⟩) nG nG) rfl (by kernel_rfl) (by kernel_rfl) (by kernel_rfl) (fun _ _ _ h => h) (Or.inl ⟨by rfl, ?_⟩) (by assumption) ?_
    · intro wx hSw; obtain ⟨hcS, hfS⟩ := bcellN hSw; go_simp
    try simp only [Act.put, List.setIfInBounds_toArray, List.set_cons_zero, List.set_cons_succ, List.getElem_toArray, List.getElem_cons_zero, List.getElem_cons_succ]
    refine wpAnyH_ready (rs := [2, 6, 11]) (by kernel_rfl) (by simp) ?_
    refine (AllReadyH.cons rfl (fun K hK => ?_) (AllReadyH.cons rfl (fun K hK => ?_) (AllReadyH.cons rfl (fun K hK => ?_) AllReadyH.nil)))
    · go_simp
      obtain ⟨XL1, eA⟩ : ∃ X, X = X0.alloc (.cells #[] 52) := ⟨_, rfl⟩
      rw [← eA]
      have hbA : Below X0.heap.size X0 XL1 := by rw [eA]; exact (Below.refl _ _).alloc (Nat.le_refl _) _
      have hL1 : XL1.ownsRow w1.heap.size 52 6 (.slice (some ⟨X0.heap.size, 0, none⟩) 0 0) 0 [] := by rw [eA]; exact World.ownsRow_lit X0 #[] 0 (by omega) (by simp) (by simp)
      have hzA11 : XL1.heap.size ≤ X0.heap.size + 1 := by rw [eA]; simp
      have hzA12 : X0.heap.size + 1 ≤ XL1.heap.size := by rw [eA]; simp
      clear eA
      have hsz_XL1 := hbA.size
      refine hK.out _ _ (bthenN hHeld (by omega) hbA) (fun hNew => ?_)
      clear hK K hHeld
      have hHeld := hNew
      clear hNew
      try simp only [Act.put, List.setIfInBounds_toArray, List.set_cons_zero, List.set_cons_succ, List.getElem_toArray, List.getElem_cons_zero, List.getElem_cons_succ]
      clear hbA
      obtain ⟨q1, eq1⟩ : ∃ g, g = X0.heap.size := ⟨_, rfl⟩
      rw [← eq1] at hL1 ⊢
      have eq11 : q1 ≤ X0.heap.size := by omega
      have eq12 : X0.heap.size ≤ q1 := by omega
      clear eq1
      refine wpAnyH_ready (rs := [5, 6, 11]) (by kernel_rfl) (by simp) ?_
      refine (AllReadyH.cons rfl (fun K hK => ?_) (AllReadyH.cons rfl (fun K hK => ?_) (AllReadyH.cons rfl (fun K hK => ?_) AllReadyH.nil)))
      · rw [if_pos (by rfl)]
        have hnn : Hid (∀ j u, ((List.range nW).flatMap (P6.rowK Z))[j]? = some u → XL1.cell? ((⟨b1, 0, none⟩ : Addr).add j) = some u) := rowK_cells (fun k j hk hj => ((bcellN (n := w1.heap.size) hHeld).1 b1 _ (by omega)).trans (R1.out k j hk hj))
        refine app_at (z := .agg #[.int .i64 0, .int .i64 0, .int .i64 0, .int .i64 0, .int .i64 0, .bool false]) _ _ rfl Try.underlying32 Try.info52 rfl (by decide) (by decide) w1.heap.size 0 _ [] rfl hL1 ⟨b1, 0, none⟩ nW nW ((List.range nW).flatMap (P6.rowK Z)) rfl (rowK_len _ _) hnn.out (rowK_one _ _) (by omega) (by omega) ?_
        intro v1 XP1 hown1 hg1 hat1
        have hsz1 := hg1.size
        clear hnn
        rw [Nat.zero_add, List.nil_append] at hown1
        obtain ⟨gW, hO1, hgw⟩ := rw_of_own hown1 0
        obtain ⟨aW, cW, ev1, _⟩ := row_of_rw hO1
        have hgq1 : (gW = 0 ∨ gW = q1 ∨ gW = XL1.heap.size) ∧ (gW = 0 ∨ gW < XP1.heap.size) := by
          rcases hgw with ⟨_, h⟩ | ⟨h, h2⟩
          · exact ⟨.inl h, .inl h⟩
          · rw [h] at hat1
            rcases hat1 with h3 | h3
            · exact ⟨.inr (.inl (Option.some.inj h3)), .inr h2⟩
            · exact ⟨.inr (.inr (Option.some.inj h3)), .inr h2⟩
        subst ev1
        obtain ⟨t1, et1⟩ : ∃ t, t = XP1.heap.size := ⟨_, rfl⟩
        rw [← et1] at hO1
        have t1a : t1 ≤ XP1.heap.size := by omega
        clear et1 hgw
        have hbX : Below (w1.heap.size) XL1 XP1 := (Below.refl _ _).grown hg1 (by omega) (fun kk e => by have e2 : q1 = kk := Option.some.inj e; omega)
        have hsmX : ∀ b, b < XL1.heap.size → ¬ b = q1 → Sm XL1 XP1 b := fun b hb hne => sm_grown hg1 hb (fun e => hne (Option.some.inj e))
        refine hK.out _ _ (hHeld.trans hbX) (fun hNew => ?_)
        clear hK K hHeld
        have hHeld := hNew
        clear hNew
        try simp only [Act.put, List.setIfInBounds_toArray, List.set_cons_zero, List.set_cons_succ, List.getElem_toArray, List.getElem_cons_zero, List.getElem_cons_succ]
        clear hbX hsmX hown1 hg1 hat1
        refine wpAnyH_ready (rs := [6, 11]) (by kernel_rfl) (by simp) ?_
        refine (AllReadyH.cons rfl (fun K hK => ?_) (AllReadyH.cons rfl (fun K hK => ?_) AllReadyH.nil))
        · go_simp
          obtain ⟨XL2, eA⟩ : ∃ X, X = XP1.alloc (.cells #[] 3) := ⟨_, rfl⟩
          rw [← eA]
          have hbA : Below XP1.heap.size XP1 XL2 := by rw [eA]; exact (Below.refl _ _).alloc (Nat.le_refl _) _
          have hL2 : XL2.ownsRow w1.heap.size 3 1 (.slice (some ⟨XP1.heap.size, 0, none⟩) 0 0) 0 [] := by rw [eA]; exact World.ownsRow_lit XP1 #[] 0 (by omega) (by simp) (by simp)
          have hzA21 : XL2.heap.size ≤ XP1.heap.size + 1 := by rw [eA]; simp
          have hzA22 : XP1.heap.size + 1 ≤ XL2.heap.size := by rw [eA]; simp
          clear eA
          replace hO1 := hO1.below hbA
          have hsz_XL2 := hbA.size
          refine hK.out _ _ (bthenN hHeld (by omega) hbA) (fun hNew => ?_)
          clear hK K hHeld
          have hHeld := hNew
          clear hNew
          try simp only [Act.put, List.setIfInBounds_toArray, List.set_cons_zero, List.set_cons_succ, List.getElem_toArray, List.getElem_cons_zero, List.getElem_cons_succ]
          clear hbA
          obtain ⟨q2, eq2⟩ : ∃ g, g = XP1.heap.size := ⟨_, rfl⟩
          rw [← eq2] at hL2 ⊢
          have eq21 : q2 ≤ XP1.heap.size := by omega
          have eq22 : XP1.heap.size ≤ q2 := by omega
          clear eq2
          refine wpAnyH_ready (rs := [9, 11]) (by kernel_rfl) (by simp) ?_
          refine (AllReadyH.cons rfl (fun K hK => ?_) (AllReadyH.cons rfl (fun K hK => ?_) AllReadyH.nil))
          · rw [if_pos (by rfl)]
            have hnn : Hid (∀ j u, ((List.range nG).flatMap (one1 G))[j]? = some u → XL2.cell? ((⟨b2, 0, none⟩ : Addr).add j) = some u) := one11_cells (fun k hk => ((bcellN (n := w1.heap.size) hHeld).1 b2 _ (by omega)).trans (R2.out k hk))
            refine app_at (z := .int .i64 0) _ _ rfl Try.underlying25 Try.info3 rfl (by decide) (by decide) w1.heap.size 0 _ [] rfl hL2 ⟨b2, 0, none⟩ nG nG ((List.range nG).flatMap (one1 G)) rfl (one11_len _ _) hnn.out (one11_one _ _) (by omega) (by omega) ?_
            intro v2 XP2 hown2 hg2 hat2
            have hsz2 := hg2.size
            clear hnn
            rw [Nat.zero_add, List.nil_append] at hown2
            obtain ⟨gG, cG, rfl, j21, j22, hO2⟩ := own1_of_row p1 hown2
            have hgq2 : gG = q2 ∨ gG = XL2.heap.size := by
              rcases hat2 with h | h
              · exact .inl (Option.some.inj h)
              · exact .inr (Option.some.inj h)
            have hbX : Below (w1.heap.size) XL2 XP2 := (Below.refl _ _).grown hg2 (by omega) (fun kk e => by have e2 : q2 = kk := Option.some.inj e; omega)
            have hsmX : ∀ b, b < XL2.heap.size → ¬ b = q2 → Sm XL2 XP2 b := fun b hb hne => sm_grown hg2 hb (fun e => hne (Option.some.inj e))
            replace hO1 := hO1.sm hsz2 (fun q1' q2' => hsmX gW (by omega) (by omega))
            refine hK.out _ _ (hHeld.trans hbX) (fun hNew => ?_)
            clear hK K hHeld
            have hHeld := hNew
            clear hNew
            try simp only [Act.put, List.setIfInBounds_toArray, List.set_cons_zero, List.set_cons_succ, List.getElem_toArray, List.getElem_cons_zero, List.getElem_cons_succ]
            clear hbX hsmX hown2 hg2 hat2
            refine wpAnyH_take (i := 10) (v := .agg #[.int .i64 c, .int .i64 d, .slice aW nW cW, .slice (some ⟨gG, 0, none⟩) nG cG, .slice none 0 0]) rfl (by kernel_rfl) (by kernel_rfl) (by kernel_rfl) (fun _ _ _ h => h) (Or.inl ⟨by rfl, ?_⟩) (by assumption) ?_
            · intro wx hSw; obtain ⟨hcS, hfS⟩ := bcellN hSw; go_simp
            try simp only [Act.put, List.setIfInBounds_toArray, List.set_cons_zero, List.set_cons_succ, List.getElem_toArray, List.getElem_cons_zero, List.getElem_cons_succ]
            refine wpAnyH_ready (rs := [11]) (by kernel_rfl) (by simp) ?_
            refine (AllReadyH.cons rfl (fun K hK => ?_) AllReadyH.nil)
            go_simp
            obtain ⟨XC, eA⟩ : ∃ X, X = XP2.alloc (.cells #[.int .i64 0, .int .i64 0, .slice none 0 0, .slice none 0 0, .slice none 0 0] 34) := ⟨_, rfl⟩
            rw [← eA]
            have hbA : Below XP2.heap.size XP2 XC := by rw [eA]; exact (Below.refl _ _).alloc (Nat.le_refl _) _
            have hZC : Bk XC XP2.heap.size [.int .i64 0, .int .i64 0, .slice none 0 0, .slice none 0 0, .slice none 0 0] := by rw [eA]; exact bk_new XP2 34 [.int .i64 0, .int .i64 0, .slice none 0 0, .slice none 0 0, .slice none 0 0]
            have hzAC1 : XC.heap.size ≤ XP2.heap.size + 1 := by rw [eA]; simp
            have hzAC2 : XP2.heap.size + 1 ≤ XC.heap.size := by rw [eA]; simp
            clear eA
            replace hO1 := hO1.below hbA
            replace hO2 := own1_below hO2 (by omega) hbA
            have hsz_XC := hbA.size
            refine hK.out _ _ (bthenN hHeld (by omega) hbA) (fun hNew => ?_)
            clear hK K hHeld
            have hHeld := hNew
            clear hNew
            try simp only [Act.put, List.setIfInBounds_toArray, List.set_cons_zero, List.set_cons_succ, List.getElem_toArray, List.getElem_cons_zero, List.getElem_cons_succ]
            clear hbA
            obtain ⟨C, eC⟩ : ∃ g, g = XP2.heap.size := ⟨_, rfl⟩
            rw [← eC] at hZC ⊢
            have eC1 : C ≤ XP2.heap.size := by omega
            have eC2 : XP2.heap.size ≤ C := by omega
            clear eC
            refine wpAnyH_ready (rs := [12]) (by kernel_rfl) (by simp) ?_
            refine (AllReadyH.cons rfl (fun K hK => ?_) AllReadyH.nil)
            have r0 := (hZC.2 0 (by simp)).1
            have r1 := (hZC.2 1 (by simp)).1
            have r2 := (hZC.2 2 (by simp)).1
            have r3 := (hZC.2 3 (by simp)).1
            have r4 := (hZC.2 4 (by simp)).1
            have f0 := (hZC.2 0 (by simp)).2
            have f1 := (hZC.2 1 (by simp)).2
            have f2 := (hZC.2 2 (by simp)).2
            have f3 := (hZC.2 3 (by simp)).2
            have f4 := (hZC.2 4 (by simp)).2
            simp only [List.getD, List.getElem?_cons_zero, List.getElem?_cons_succ, Option.getD_some] at r0 r1 r2 r3 r4
            have lZC := hZC.1
            have hkC : w1.heap.size ≤ C := by omega
            go_simp
            obtain ⟨XSC, eS⟩ : ∃ X, X = (((((XC.setCell ⟨C, 0, none⟩ (.int .i64 c)).setCell ⟨C, 1, none⟩ (.int .i64 d)).setCell ⟨C, 2, none⟩ (.slice aW nW cW)).setCell ⟨C, 3, none⟩ (.slice (some ⟨gG, 0, none⟩) nG cG)).setCell ⟨C, 4, none⟩ (.slice none 0 0)) := ⟨_, rfl⟩
            rw [← eS]
            have hPC : Bk XSC C [.int .i64 c, .int .i64 d, .slice aW nW cW, .slice (some ⟨gG, 0, none⟩) nG cG, .slice none 0 0] := by rw [eS]; exact bk_put (l := [.int .i64 c, .int .i64 d, .slice aW nW cW, .slice (some ⟨gG, 0, none⟩) nG cG, .slice none 0 0]) hZC rfl
            have hzC1 : XSC.heap.size ≤ XC.heap.size := by rw [eS]; exact Nat.le_of_eq (size_put C [.int .i64 c, .int .i64 d, .slice aW nW cW, .slice (some ⟨gG, 0, none⟩) nG cG, .slice none 0 0] 0 XC)
            have hzC2 : XC.heap.size ≤ XSC.heap.size := by rw [eS]; exact Nat.le_of_eq (size_put C [.int .i64 c, .int .i64 d, .slice aW nW cW, .slice (some ⟨gG, 0, none⟩) nG cG, .slice none 0 0] 0 XC).symm
            have hmC : ∀ b, ¬ b = C → Sm XC XSC b := by rw [eS]; exact fun b hb => sm_put hb [.int .i64 c, .int .i64 d, .slice aW nW cW, .slice (some ⟨gG, 0, none⟩) nG cG, .slice none 0 0] 0 XC
            have hBC : Below (w1.heap.size) w1 XSC := by rw [eS]; exact below_put hkC [.int .i64 c, .int .i64 d, .slice aW nW cW, .slice (some ⟨gG, 0, none⟩) nG cG, .slice none 0 0] 0 hHeld
            clear eS r0 f0 r1 f1 r2 f2 r3 f3 r4 f4
            replace hO1 := hO1.sm hzC2 (fun q1' q2' => hmC gW (by omega))
            replace hO2 := own1_sm hO2 (hmC gG (by omega))
            refine hK.out _ _ hBC (fun hNew => ?_)
            clear hK K hHeld
            have hHeld := hNew
            clear hNew
            try simp only [Act.put, List.setIfInBounds_toArray, List.set_cons_zero, List.set_cons_succ, List.getElem_toArray, List.getElem_cons_zero, List.getElem_cons_succ]
            refine wpAnyH_done (by kernel_rfl) ?_ _
            go_wp2
            go_meet
            case rel => exact ⟨C, gW, gG, aW, cW, cG, t1, rfl, hPC, hO1, hO2, ⟨by omega, by omega, by omega, by omega, by omega, by omega, by omega, by omega, by omega⟩, hHeld⟩
          · go_simp
            obtain ⟨XC, eA⟩ : ∃ X, X = XL2.alloc (.cells #[.int .i64 0, .int .i64 0, .slice none 0 0, .slice none 0 0, .slice none 0 0] 34) := ⟨_, rfl⟩
            rw [← eA]
            have hbA : Below XL2.heap.size XL2 XC := by rw [eA]; exact (Below.refl _ _).alloc (Nat.le_refl _) _
            have hZC : Bk XC XL2.heap.size [.int .i64 0, .int .i64 0, .slice none 0 0, .slice none 0 0, .slice none 0 0] := by rw [eA]; exact bk_new XL2 34 [.int .i64 0, .int .i64 0, .slice none 0 0, .slice none 0 0, .slice none 0 0]
            have hzAC1 : XC.heap.size ≤ XL2.heap.size + 1 := by rw [eA]; simp
            have hzAC2 : XL2.heap.size + 1 ≤ XC.heap.size := by rw [eA]; simp
            clear eA
            replace hO1 := hO1.below hbA
            replace hL2 := own_keep hL2 hbA
            have hsz_XC := hbA.size
            refine hK.out _ _ (bthenN hHeld (by omega) hbA) (fun hNew => ?_)
            clear hK K hHeld
            have hHeld := hNew
            clear hNew
            try simp only [Act.put, List.setIfInBounds_toArray, List.set_cons_zero, List.set_cons_succ, List.getElem_toArray, List.getElem_cons_zero, List.getElem_cons_succ]
            clear hbA
            obtain ⟨C, eC⟩ : ∃ g, g = XL2.heap.size := ⟨_, rfl⟩
            rw [← eC] at hZC ⊢
            have eC1 : C ≤ XL2.heap.size := by omega
            have eC2 : XL2.heap.size ≤ C := by omega
            clear eC
            refine wpAnyH_ready (rs := [9]) (by kernel_rfl) (by simp) ?_
            refine (AllReadyH.cons rfl (fun K hK => ?_) AllReadyH.nil)
            rw [if_pos (by rfl)]
            have hnn : Hid (∀ j u, ((List.range nG).flatMap (one1 G))[j]? = some u → XC.cell? ((⟨b2, 0, none⟩ : Addr).add j) = some u) := one11_cells (fun k hk => ((bcellN (n := w1.heap.size) hHeld).1 b2 _ (by omega)).trans (R2.out k hk))
            refine app_at (z := .int .i64 0) _ _ rfl Try.underlying25 Try.info3 rfl (by decide) (by decide) w1.heap.size 0 _ [] rfl hL2 ⟨b2, 0, none⟩ nG nG ((List.range nG).flatMap (one1 G)) rfl (one11_len _ _) hnn.out (one11_one _ _) (by omega) (by omega) ?_
            intro v2 XP2 hown2 hg2 hat2
            have hsz2 := hg2.size
            clear hnn
            rw [Nat.zero_add, List.nil_append] at hown2
            obtain ⟨gG, cG, rfl, j21, j22, hO2⟩ := own1_of_row p1 hown2
            have hgq2 : gG = q2 ∨ gG = XC.heap.size := by
              rcases hat2 with h | h
              · exact .inl (Option.some.inj h)
              · exact .inr (Option.some.inj h)
            have hbX : Below (w1.heap.size) XC XP2 := (Below.refl _ _).grown hg2 (by omega) (fun kk e => by have e2 : q2 = kk := Option.some.inj e; omega)
            have hsmX : ∀ b, b < XC.heap.size → ¬ b = q2 → Sm XC XP2 b := fun b hb hne => sm_grown hg2 hb (fun e => hne (Option.some.inj e))
            replace hO1 := hO1.sm hsz2 (fun q1' q2' => hsmX gW (by omega) (by omega))
            replace hZC := hZC.sm hsz2 (hsmX C (by omega) (by omega))
            refine hK.out _ _ (hHeld.trans hbX) (fun hNew => ?_)
            clear hK K hHeld
            have hHeld := hNew
            clear hNew
            try simp only [Act.put, List.setIfInBounds_toArray, List.set_cons_zero, List.set_cons_succ, List.getElem_toArray, List.getElem_cons_zero, List.getElem_cons_succ]
            clear hbX hsmX hown2 hg2 hat2
            refine wpAnyH_take (i := 10) (v := .agg #[.int .i64 c, .int .i64 d, .slice aW nW cW, .slice (some ⟨gG, 0, none⟩) nG cG, .slice none 0 0]) rfl (by kernel_rfl) (by kernel_rfl) (by kernel_rfl) (fun _ _ _ h => h) (Or.inl ⟨by rfl, ?_⟩) (by assumption) ?_
            · intro wx hSw; obtain ⟨hcS, hfS⟩ := bcellN hSw; go_simp
            try simp only [Act.put, List.setIfInBounds_toArray, List.set_cons_zero, List.set_cons_succ, List.getElem_toArray, List.getElem_cons_zero, List.getElem_cons_succ]
            refine wpAnyH_ready (rs := [12]) (by kernel_rfl) (by simp) ?_
            refine (AllReadyH.cons rfl (fun K hK => ?_) AllReadyH.nil)
            have r0 := (hZC.2 0 (by simp)).1
            have r1 := (hZC.2 1 (by simp)).1
            have r2 := (hZC.2 2 (by simp)).1
            have r3 := (hZC.2 3 (by simp)).1
            have r4 := (hZC.2 4 (by simp)).1
            have f0 := (hZC.2 0 (by simp)).2
            have f1 := (hZC.2 1 (by simp)).2
            have f2 := (hZC.2 2 (by simp)).2
            have f3 := (hZC.2 3 (by simp)).2
            have f4 := (hZC.2 4 (by simp)).2
            simp only [List.getD, List.getElem?_cons_zero, List.getElem?_cons_succ, Option.getD_some] at r0 r1 r2 r3 r4
            have lZC := hZC.1
            have hkC : w1.heap.size ≤ C := by omega
            go_simp
            obtain ⟨XSC, eS⟩ : ∃ X, X = (((((XP2.setCell ⟨C, 0, none⟩ (.int .i64 c)).setCell ⟨C, 1, none⟩ (.int .i64 d)).setCell ⟨C, 2, none⟩ (.slice aW nW cW)).setCell ⟨C, 3, none⟩ (.slice (some ⟨gG, 0, none⟩) nG cG)).setCell ⟨C, 4, none⟩ (.slice none 0 0)) := ⟨_, rfl⟩
            rw [← eS]
            have hPC : Bk XSC C [.int .i64 c, .int .i64 d, .slice aW nW cW, .slice (some ⟨gG, 0, none⟩) nG cG, .slice none 0 0] := by rw [eS]; exact bk_put (l := [.int .i64 c, .int .i64 d, .slice aW nW cW, .slice (some ⟨gG, 0, none⟩) nG cG, .slice none 0 0]) hZC rfl
            have hzC1 : XSC.heap.size ≤ XP2.heap.size := by rw [eS]; exact Nat.le_of_eq (size_put C [.int .i64 c, .int .i64 d, .slice aW nW cW, .slice (some ⟨gG, 0, none⟩) nG cG, .slice none 0 0] 0 XP2)
            have hzC2 : XP2.heap.size ≤ XSC.heap.size := by rw [eS]; exact Nat.le_of_eq (size_put C [.int .i64 c, .int .i64 d, .slice aW nW cW, .slice (some ⟨gG, 0, none⟩) nG cG, .slice none 0 0] 0 XP2).symm
            have hmC : ∀ b, ¬ b = C → Sm XP2 XSC b := by rw [eS]; exact fun b hb => sm_put hb [.int .i64 c, .int .i64 d, .slice aW nW cW, .slice (some ⟨gG, 0, none⟩) nG cG, .slice none 0 0] 0 XP2
            have hBC : Below (w1.heap.size) w1 XSC := by rw [eS]; exact below_put hkC [.int .i64 c, .int .i64 d, .slice aW nW cW, .slice (some ⟨gG, 0, none⟩) nG cG, .slice none 0 0] 0 hHeld
            clear eS r0 f0 r1 f1 r2 f2 r3 f3 r4 f4
            replace hO1 := hO1.sm hzC2 (fun q1' q2' => hmC gW (by omega))
            replace hO2 := own1_sm hO2 (hmC gG (by omega))
            refine hK.out _ _ hBC (fun hNew => ?_)
            clear hK K hHeld
            have hHeld := hNew
            clear hNew
            try simp only [Act.put, List.setIfInBounds_toArray, List.set_cons_zero, List.set_cons_succ, List.getElem_toArray, List.getElem_cons_zero, List.getElem_cons_succ]
            refine wpAnyH_done (by kernel_rfl) ?_ _
            go_wp2
            go_meet
            case rel => exact ⟨C, gW, gG, aW, cW, cG, t1, rfl, hPC, hO1, hO2, ⟨by omega, by omega, by omega, by omega, by omega, by omega, by omega, by omega, by omega⟩, hHeld⟩
        · go_simp
          obtain ⟨XC, eA⟩ : ∃ X, X = XP1.alloc (.cells #[.int .i64 0, .int .i64 0, .slice none 0 0, .slice none 0 0, .slice none 0 0] 34) := ⟨_, rfl⟩
          rw [← eA]
          have hbA : Below XP1.heap.size XP1 XC := by rw [eA]; exact (Below.refl _ _).alloc (Nat.le_refl _) _
          have hZC : Bk XC XP1.heap.size [.int .i64 0, .int .i64 0, .slice none 0 0, .slice none 0 0, .slice none 0 0] := by rw [eA]; exact bk_new XP1 34 [.int .i64 0, .int .i64 0, .slice none 0 0, .slice none 0 0, .slice none 0 0]
          have hzAC1 : XC.heap.size ≤ XP1.heap.size + 1 := by rw [eA]; simp
          have hzAC2 : XP1.heap.size + 1 ≤ XC.heap.size := by rw [eA]; simp
          clear eA
          replace hO1 := hO1.below hbA
          have hsz_XC := hbA.size
          refine hK.out _ _ (bthenN hHeld (by omega) hbA) (fun hNew => ?_)
          clear hK K hHeld
          have hHeld := hNew
          clear hNew
          try simp only [Act.put, List.setIfInBounds_toArray, List.set_cons_zero, List.set_cons_succ, List.getElem_toArray, List.getElem_cons_zero, List.getElem_cons_succ]
          clear hbA
          obtain ⟨C, eC⟩ : ∃ g, g = XP1.heap.size := ⟨_, rfl⟩
          rw [← eC] at hZC ⊢
          have eC1 : C ≤ XP1.heap.size := by omega
          have eC2 : XP1.heap.size ≤ C := by omega
          clear eC
          refine wpAnyH_ready (rs := [6]) (by kernel_rfl) (by simp) ?_
          refine (AllReadyH.cons rfl (fun K hK => ?_) AllReadyH.nil)
          go_simp
          obtain ⟨XL2, eA⟩ : ∃ X, X = XC.alloc (.cells #[] 3) := ⟨_, rfl⟩
          rw [← eA]
          have hbA : Below XC.heap.size XC XL2 := by rw [eA]; exact (Below.refl _ _).alloc (Nat.le_refl _) _
          have hL2 : XL2.ownsRow w1.heap.size 3 1 (.slice (some ⟨XC.heap.size, 0, none⟩) 0 0) 0 [] := by rw [eA]; exact World.ownsRow_lit XC #[] 0 (by omega) (by simp) (by simp)
          have hzA21 : XL2.heap.size ≤ XC.heap.size + 1 := by rw [eA]; simp
          have hzA22 : XC.heap.size + 1 ≤ XL2.heap.size := by rw [eA]; simp
          clear eA
          replace hO1 := hO1.below hbA
          replace hZC := hZC.below hbA
          have hsz_XL2 := hbA.size
          refine hK.out _ _ (bthenN hHeld (by omega) hbA) (fun hNew => ?_)
          clear hK K hHeld
          have hHeld := hNew
          clear hNew
          try simp only [Act.put, List.setIfInBounds_toArray, List.set_cons_zero, List.set_cons_succ, List.getElem_toArray, List.getElem_cons_zero, List.getElem_cons_succ]
          clear hbA
          obtain ⟨q2, eq2⟩ : ∃ g, g = XC.heap.size := ⟨_, rfl⟩
          rw [← eq2] at hL2 ⊢
          have eq21 : q2 ≤ XC.heap.size := by omega
          have eq22 : XC.heap.size ≤ q2 := by omega
          clear eq2
          refine wpAnyH_ready (rs := [9]) (by kernel_rfl) (by simp) ?_
          refine (AllReadyH.cons rfl (fun K hK => ?_) AllReadyH.nil)
          rw [if_pos (by rfl)]
          have hnn : Hid (∀ j u, ((List.range nG).flatMap (one1 G))[j]? = some u → XL2.cell? ((⟨b2, 0, none⟩ : Addr).add j) = some u) := one11_cells (fun k hk => ((bcellN (n := w1.heap.size) hHeld).1 b2 _ (by omega)).trans (R2.out k hk))
          refine app_at (z := .int .i64 0) _ _ rfl Try.underlying25 Try.info3 rfl (by decide) (by decide) w1.heap.size 0 _ [] rfl hL2 ⟨b2, 0, none⟩ nG nG ((List.range nG).flatMap (one1 G)) rfl (one11_len _ _) hnn.out (one11_one _ _) (by omega) (by omega) ?_
          intro v2 XP2 hown2 hg2 hat2
          have hsz2 := hg2.size
          clear hnn
          rw [Nat.zero_add, List.nil_append] at hown2
          obtain ⟨gG, cG, rfl, j21, j22, hO2⟩ := own1_of_row p1 hown2
          have hgq2 : gG = q2 ∨ gG = XL2.heap.size := by
            rcases hat2 with h | h
            · exact .inl (Option.some.inj h)
            · exact .inr (Option.some.inj h)
          have hbX : Below (w1.heap.size) XL2 XP2 := (Below.refl _ _).grown hg2 (by omega) (fun kk e => by have e2 : q2 = kk := Option.some.inj e; omega)
          have hsmX : ∀ b, b < XL2.heap.size → ¬ b = q2 → Sm XL2 XP2 b := fun b hb hne => sm_grown hg2 hb (fun e => hne (Option.some.inj e))
          replace hO1 := hO1.sm hsz2 (fun q1' q2' => hsmX gW (by omega) (by omega))
          replace hZC := hZC.sm hsz2 (hsmX C (by omega) (by omega))
          refine hK.out _ _ (hHeld.trans hbX) (fun hNew => ?_)
          clear hK K hHeld
          have hHeld := hNew
          clear hNew
          try simp only [Act.put, List.setIfInBounds_toArray, List.set_cons_zero, List.set_cons_succ, List.getElem_toArray, List.getElem_cons_zero, List.getElem_cons_succ]
          clear hbX hsmX hown2 hg2 hat2
          refine wpAnyH_take (i := 10) (v := .agg #[.int .i64 c, .int .i64 d, .slice aW nW cW, .slice (some ⟨gG, 0, none⟩) nG cG, .slice none 0 0]) rfl (by kernel_rfl) (by kernel_rfl) (by kernel_rfl) (fun _ _ _ h => h) (Or.inl ⟨by rfl, ?_⟩) (by assumption) ?_
          · intro wx hSw; obtain ⟨hcS, hfS⟩ := bcellN hSw; go_simp
          try simp only [Act.put, List.setIfInBounds_toArray, List.set_cons_zero, List.set_cons_succ, List.getElem_toArray, List.getElem_cons_zero, List.getElem_cons_succ]
          refine wpAnyH_ready (rs := [12]) (by kernel_rfl) (by simp) ?_
          refine (AllReadyH.cons rfl (fun K hK => ?_) AllReadyH.nil)
          have r0 := (hZC.2 0 (by simp)).1
          have r1 := (hZC.2 1 (by simp)).1
          have r2 := (hZC.2 2 (by simp)).1
          have r3 := (hZC.2 3 (by simp)).1
          have r4 := (hZC.2 4 (by simp)).1
          have f0 := (hZC.2 0 (by simp)).2
          have f1 := (hZC.2 1 (by simp)).2
          have f2 := (hZC.2 2 (by simp)).2
          have f3 := (hZC.2 3 (by simp)).2
          have f4 := (hZC.2 4 (by simp)).2
          simp only [List.getD, List.getElem?_cons_zero, List.getElem?_cons_succ, Option.getD_some] at r0 r1 r2 r3 r4
          have lZC := hZC.1
          have hkC : w1.heap.size ≤ C := by omega
          go_simp
          obtain ⟨XSC, eS⟩ : ∃ X, X = (((((XP2.setCell ⟨C, 0, none⟩ (.int .i64 c)).setCell ⟨C, 1, none⟩ (.int .i64 d)).setCell ⟨C, 2, none⟩ (.slice aW nW cW)).setCell ⟨C, 3, none⟩ (.slice (some ⟨gG, 0, none⟩) nG cG)).setCell ⟨C, 4, none⟩ (.slice none 0 0)) := ⟨_, rfl⟩
          rw [← eS]
          have hPC : Bk XSC C [.int .i64 c, .int .i64 d, .slice aW nW cW, .slice (some ⟨gG, 0, none⟩) nG cG, .slice none 0 0] := by rw [eS]; exact bk_put (l := [.int .i64 c, .int .i64 d, .slice aW nW cW, .slice (some ⟨gG, 0, none⟩) nG cG, .slice none 0 0]) hZC rfl
          have hzC1 : XSC.heap.size ≤ XP2.heap.size := by rw [eS]; exact Nat.le_of_eq (size_put C [.int .i64 c, .int .i64 d, .slice aW nW cW, .slice (some ⟨gG, 0, none⟩) nG cG, .slice none 0 0] 0 XP2)
          have hzC2 : XP2.heap.size ≤ XSC.heap.size := by rw [eS]; exact Nat.le_of_eq (size_put C [.int .i64 c, .int .i64 d, .slice aW nW cW, .slice (some ⟨gG, 0, none⟩) nG cG, .slice none 0 0] 0 XP2).symm
          have hmC : ∀ b, ¬ b = C → Sm XP2 XSC b := by rw [eS]; exact fun b hb => sm_put hb [.int .i64 c, .int .i64 d, .slice aW nW cW, .slice (some ⟨gG, 0, none⟩) nG cG, .slice none 0 0] 0 XP2
          have hBC : Below (w1.heap.size) w1 XSC := by rw [eS]; exact below_put hkC [.int .i64 c, .int .i64 d, .slice aW nW cW, .slice (some ⟨gG, 0, none⟩) nG cG, .slice none 0 0] 0 hHeld
          clear eS r0 f0 r1 f1 r2 f2 r3 f3 r4 f4
          replace hO1 := hO1.sm hzC2 (fun q1' q2' => hmC gW (by omega))
          replace hO2 := own1_sm hO2 (hmC gG (by omega))
          refine hK.out _ _ hBC (fun hNew => ?_)
          clear hK K hHeld
          have hHeld := hNew
          clear hNew
          try simp only [Act.put, List.setIfInBounds_toArray, List.set_cons_zero, List.set_cons_succ, List.getElem_toArray, List.getElem_cons_zero, List.getElem_cons_succ]
          refine wpAnyH_done (by kernel_rfl) ?_ _
          go_wp2
          go_meet
          case rel => exact ⟨C, gW, gG, aW, cW, cG, t1, rfl, hPC, hO1, hO2, ⟨by omega, by omega, by omega, by omega, by omega, by omega, by omega, by omega, by omega⟩, hHeld⟩
      · go_simp
        obtain ⟨XL2, eA⟩ : ∃ X, X = XL1.alloc (.cells #[] 3) := ⟨_, rfl⟩
        rw [← eA]
        have hbA : Below XL1.heap.size XL1 XL2 := by rw [eA]; exact (Below.refl _ _).alloc (Nat.le_refl _) _
        have hL2 : XL2.ownsRow w1.heap.size 3 1 (.slice (some ⟨XL1.heap.size, 0, none⟩) 0 0) 0 [] := by rw [eA]; exact World.ownsRow_lit XL1 #[] 0 (by omega) (by simp) (by simp)
        have hzA21 : XL2.heap.size ≤ XL1.heap.size + 1 := by rw [eA]; simp
        have hzA22 : XL1.heap.size + 1 ≤ XL2.heap.size := by rw [eA]; simp
        clear eA
        replace hL1 := own_keep hL1 hbA
        have hsz_XL2 := hbA.size
        refine hK.out _ _ (bthenN hHeld (by omega) hbA) (fun hNew => ?_)
        clear hK K hHeld
        have hHeld := hNew
        clear hNew
        try simp only [Act.put, List.setIfInBounds_toArray, List.set_cons_zero, List.set_cons_succ, List.getElem_toArray, List.getElem_cons_zero, List.getElem_cons_succ]
        clear hbA
        obtain ⟨q2, eq2⟩ : ∃ g, g = XL1.heap.size := ⟨_, rfl⟩
        rw [← eq2] at hL2 ⊢
        have eq21 : q2 ≤ XL1.heap.size := by omega
        have eq22 : XL1.heap.size ≤ q2 := by omega
        clear eq2
        refine wpAnyH_ready (rs := [5, 11]) (by kernel_rfl) (by simp) ?_
        refine (AllReadyH.cons rfl (fun K hK => ?_) (AllReadyH.cons rfl (fun K hK => ?_) AllReadyH.nil))
        · rw [if_pos (by rfl)]
          have hnn : Hid (∀ j u, ((List.range nW).flatMap (P6.rowK Z))[j]? = some u → XL2.cell? ((⟨b1, 0, none⟩ : Addr).add j) = some u) := rowK_cells (fun k j hk hj => ((bcellN (n := w1.heap.size) hHeld).1 b1 _ (by omega)).trans (R1.out k j hk hj))
          refine app_at (z := .agg #[.int .i64 0, .int .i64 0, .int .i64 0, .int .i64 0, .int .i64 0, .bool false]) _ _ rfl Try.underlying32 Try.info52 rfl (by decide) (by decide) w1.heap.size 0 _ [] rfl hL1 ⟨b1, 0, none⟩ nW nW ((List.range nW).flatMap (P6.rowK Z)) rfl (rowK_len _ _) hnn.out (rowK_one _ _) (by omega) (by omega) ?_
          intro v1 XP1 hown1 hg1 hat1
          have hsz1 := hg1.size
          clear hnn
          rw [Nat.zero_add, List.nil_append] at hown1
          obtain ⟨gW, hO1, hgw⟩ := rw_of_own hown1 0
          obtain ⟨aW, cW, ev1, _⟩ := row_of_rw hO1
          have hgq1 : (gW = 0 ∨ gW = q1 ∨ gW = XL2.heap.size) ∧ (gW = 0 ∨ gW < XP1.heap.size) := by
            rcases hgw with ⟨_, h⟩ | ⟨h, h2⟩
            · exact ⟨.inl h, .inl h⟩
            · rw [h] at hat1
              rcases hat1 with h3 | h3
              · exact ⟨.inr (.inl (Option.some.inj h3)), .inr h2⟩
              · exact ⟨.inr (.inr (Option.some.inj h3)), .inr h2⟩
          subst ev1
          obtain ⟨t1, et1⟩ : ∃ t, t = XP1.heap.size := ⟨_, rfl⟩
          rw [← et1] at hO1
          have t1a : t1 ≤ XP1.heap.size := by omega
          clear et1 hgw
          have hbX : Below (w1.heap.size) XL2 XP1 := (Below.refl _ _).grown hg1 (by omega) (fun kk e => by have e2 : q1 = kk := Option.some.inj e; omega)
          have hsmX : ∀ b, b < XL2.heap.size → ¬ b = q1 → Sm XL2 XP1 b := fun b hb hne => sm_grown hg1 hb (fun e => hne (Option.some.inj e))
          replace hL2 := World.ownsRow.kept hL2 hg1 (.inr (fun e => by have e2 : q2 = q1 := Option.some.inj e; omega))
          refine hK.out _ _ (hHeld.trans hbX) (fun hNew => ?_)
          clear hK K hHeld
          have hHeld := hNew
          clear hNew
          try simp only [Act.put, List.setIfInBounds_toArray, List.set_cons_zero, List.set_cons_succ, List.getElem_toArray, List.getElem_cons_zero, List.getElem_cons_succ]
          clear hbX hsmX hown1 hg1 hat1
          refine wpAnyH_ready (rs := [9, 11]) (by kernel_rfl) (by simp) ?_
          refine (AllReadyH.cons rfl (fun K hK => ?_) (AllReadyH.cons rfl (fun K hK => ?_) AllReadyH.nil))
          · rw [if_pos (by rfl)]
            have hnn : Hid (∀ j u, ((List.range nG).flatMap (one1 G))[j]? = some u → XP1.cell? ((⟨b2, 0, none⟩ : Addr).add j) = some u) := one11_cells (fun k hk => ((bcellN (n := w1.heap.size) hHeld).1 b2 _ (by omega)).trans (R2.out k hk))
            refine app_at (z := .int .i64 0) _ _ rfl Try.underlying25 Try.info3 rfl (by decide) (by decide) w1.heap.size 0 _ [] rfl hL2 ⟨b2, 0, none⟩ nG nG ((List.range nG).flatMap (one1 G)) rfl (one11_len _ _) hnn.out (one11_one _ _) (by omega) (by omega) ?_
            intro v2 XP2 hown2 hg2 hat2
            have hsz2 := hg2.size
            clear hnn
            rw [Nat.zero_add, List.nil_append] at hown2
            obtain ⟨gG, cG, rfl, j21, j22, hO2⟩ := own1_of_row p1 hown2
            have hgq2 : gG = q2 ∨ gG = XP1.heap.size := by
              rcases hat2 with h | h
              · exact .inl (Option.some.inj h)
              · exact .inr (Option.some.inj h)
            have hbX : Below (w1.heap.size) XP1 XP2 := (Below.refl _ _).grown hg2 (by omega) (fun kk e => by have e2 : q2 = kk := Option.some.inj e; omega)
            have hsmX : ∀ b, b < XP1.heap.size → ¬ b = q2 → Sm XP1 XP2 b := fun b hb hne => sm_grown hg2 hb (fun e => hne (Option.some.inj e))
            replace hO1 := hO1.sm hsz2 (fun q1' q2' => hsmX gW (by omega) (by omega))
            refine hK.out _ _ (hHeld.trans hbX) (fun hNew => ?_)
            clear hK K hHeld
            have hHeld := hNew
            clear hNew
            try simp only [Act.put, List.setIfInBounds_toArray, List.set_cons_zero, List.set_cons_succ, List.getElem_toArray, List.getElem_cons_zero, List.getElem_cons_succ]
            clear hbX hsmX hown2 hg2 hat2
            refine wpAnyH_take (i := 10) (v := .agg #[.int .i64 c, .int .i64 d, .slice aW nW cW, .slice (some ⟨gG, 0, none⟩) nG cG, .slice none 0 0]) rfl (by kernel_rfl) (by kernel_rfl) (by kernel_rfl) (fun _ _ _ h => h) (Or.inl ⟨by rfl, ?_⟩) (by assumption) ?_
            · intro wx hSw; obtain ⟨hcS, hfS⟩ := bcellN hSw; go_simp
            try simp only [Act.put, List.setIfInBounds_toArray, List.set_cons_zero, List.set_cons_succ, List.getElem_toArray, List.getElem_cons_zero, List.getElem_cons_succ]
            refine wpAnyH_ready (rs := [11]) (by kernel_rfl) (by simp) ?_
            refine (AllReadyH.cons rfl (fun K hK => ?_) AllReadyH.nil)
            go_simp
            obtain ⟨XC, eA⟩ : ∃ X, X = XP2.alloc (.cells #[.int .i64 0, .int .i64 0, .slice none 0 0, .slice none 0 0, .slice none 0 0] 34) := ⟨_, rfl⟩
            rw [← eA]
            have hbA : Below XP2.heap.size XP2 XC := by rw [eA]; exact (Below.refl _ _).alloc (Nat.le_refl _) _
            have hZC : Bk XC XP2.heap.size [.int .i64 0, .int .i64 0, .slice none 0 0, .slice none 0 0, .slice none 0 0] := by rw [eA]; exact bk_new XP2 34 [.int .i64 0, .int .i64 0, .slice none 0 0, .slice none 0 0, .slice none 0 0]
            have hzAC1 : XC.heap.size ≤ XP2.heap.size + 1 := by rw [eA]; simp
            have hzAC2 : XP2.heap.size + 1 ≤ XC.heap.size := by rw [eA]; simp
            clear eA
            replace hO1 := hO1.below hbA
            replace hO2 := own1_below hO2 (by omega) hbA
            have hsz_XC := hbA.size
            refine hK.out _ _ (bthenN hHeld (by omega) hbA) (fun hNew => ?_)
            clear hK K hHeld
            have hHeld := hNew
            clear hNew
            try simp only [Act.put, List.setIfInBounds_toArray, List.set_cons_zero, List.set_cons_succ, List.getElem_toArray, List.getElem_cons_zero, List.getElem_cons_succ]
            clear hbA
            obtain ⟨C, eC⟩ : ∃ g, g = XP2.heap.size := ⟨_, rfl⟩
            rw [← eC] at hZC ⊢
            have eC1 : C ≤ XP2.heap.size := by omega
            have eC2 : XP2.heap.size ≤ C := by omega
            clear eC
            refine wpAnyH_ready (rs := [12]) (by kernel_rfl) (by simp) ?_
            refine (AllReadyH.cons rfl (fun K hK => ?_) AllReadyH.nil)
            have r0 := (hZC.2 0 (by simp)).1
            have r1 := (hZC.2 1 (by simp)).1
            have r2 := (hZC.2 2 (by simp)).1
            have r3 := (hZC.2 3 (by simp)).1
            have r4 := (hZC.2 4 (by simp)).1
            have f0 := (hZC.2 0 (by simp)).2
            have f1 := (hZC.2 1 (by simp)).2
            have f2 := (hZC.2 2 (by simp)).2
            have f3 := (hZC.2 3 (by simp)).2
            have f4 := (hZC.2 4 (by simp)).2
            simp only [List.getD, List.getElem?_cons_zero, List.getElem?_cons_succ, Option.getD_some] at r0 r1 r2 r3 r4
            have lZC := hZC.1
            have hkC : w1.heap.size ≤ C := by omega
            go_simp
            obtain ⟨XSC, eS⟩ : ∃ X, X = (((((XC.setCell ⟨C, 0, none⟩ (.int .i64 c)).setCell ⟨C, 1, none⟩ (.int .i64 d)).setCell ⟨C, 2, none⟩ (.slice aW nW cW)).setCell ⟨C, 3, none⟩ (.slice (some ⟨gG, 0, none⟩) nG cG)).setCell ⟨C, 4, none⟩ (.slice none 0 0)) := ⟨_, rfl⟩
            rw [← eS]
            have hPC : Bk XSC C [.int .i64 c, .int .i64 d, .slice aW nW cW, .slice (some ⟨gG, 0, none⟩) nG cG, .slice none 0 0] := by rw [eS]; exact bk_put (l := [.int .i64 c, .int .i64 d, .slice aW nW cW, .slice (some ⟨gG, 0, none⟩) nG cG, .slice none 0 0]) hZC rfl
            have hzC1 : XSC.heap.size ≤ XC.heap.size := by rw [eS]; exact Nat.le_of_eq (size_put C [.int .i64 c, .int .i64 d, .slice aW nW cW, .slice (some ⟨gG, 0, none⟩) nG cG, .slice none 0 0] 0 XC)
            have hzC2 : XC.heap.size ≤ XSC.heap.size := by rw [eS]; exact Nat.le_of_eq (size_put C [.int .i64 c, .int .i64 d, .slice aW nW cW, .slice (some ⟨gG, 0, none⟩) nG cG, .slice none 0 0] 0 XC).symm
            have hmC : ∀ b, ¬ b = C → Sm XC XSC b := by rw [eS]; exact fun b hb => sm_put hb [.int .i64 c, .int .i64 d, .slice aW nW cW, .slice (some ⟨gG, 0, none⟩) nG cG, .slice none 0 0] 0 XC
            have hBC : Below (w1.heap.size) w1 XSC := by rw [eS]; exact below_put hkC [.int .i64 c, .int .i64 d, .slice aW nW cW, .slice (some ⟨gG, 0, none⟩) nG cG, .slice none 0 0] 0 hHeld
            clear eS r0 f0 r1 f1 r2 f2 r3 f3 r4 f4
            replace hO1 := hO1.sm hzC2 (fun q1' q2' => hmC gW (by omega))
            replace hO2 := own1_sm hO2 (hmC gG (by omega))
            refine hK.out _ _ hBC (fun hNew => ?_)
            clear hK K hHeld
            have hHeld := hNew
            clear hNew
            try simp only [Act.put, List.setIfInBounds_toArray, List.set_cons_zero, List.set_cons_succ, List.getElem_toArray, List.getElem_cons_zero, List.getElem_cons_succ]
            refine wpAnyH_done (by kernel_rfl) ?_ _
            go_wp2
            go_meet
            case rel => exact ⟨C, gW, gG, aW, cW, cG, t1, rfl, hPC, hO1, hO2, ⟨by omega, by omega, by omega, by omega, by omega, by omega, by omega, by omega, by omega⟩, hHeld⟩
          · go_simp
            obtain ⟨XC, eA⟩ : ∃ X, X = XP1.alloc (.cells #[.int .i64 0, .int .i64 0, .slice none 0 0, .slice none 0 0, .slice none 0 0] 34) := ⟨_, rfl⟩
            rw [← eA]
            have hbA : Below XP1.heap.size XP1 XC := by rw [eA]; exact (Below.refl _ _).alloc (Nat.le_refl _) _
            have hZC : Bk XC XP1.heap.size [.int .i64 0, .int .i64 0, .slice none 0 0, .slice none 0 0, .slice none 0 0] := by rw [eA]; exact bk_new XP1 34 [.int .i64 0, .int .i64 0, .slice none 0 0, .slice none 0 0, .slice none 0 0]
            have hzAC1 : XC.heap.size ≤ XP1.heap.size + 1 := by rw [eA]; simp
            have hzAC2 : XP1.heap.size + 1 ≤ XC.heap.size := by rw [eA]; simp
            clear eA
            replace hL2 := own_keep hL2 hbA
            replace hO1 := hO1.below hbA
            have hsz_XC := hbA.size
            refine hK.out _ _ (bthenN hHeld (by omega) hbA) (fun hNew => ?_)
            clear hK K hHeld
            have hHeld := hNew
            clear hNew
            try simp only [Act.put, List.setIfInBounds_toArray, List.set_cons_zero, List.set_cons_succ, List.getElem_toArray, List.getElem_cons_zero, List.getElem_cons_succ]
            clear hbA
            obtain ⟨C, eC⟩ : ∃ g, g = XP1.heap.size := ⟨_, rfl⟩
            rw [← eC] at hZC ⊢
            have eC1 : C ≤ XP1.heap.size := by omega
            have eC2 : XP1.heap.size ≤ C := by omega
            clear eC
            refine wpAnyH_ready (rs := [9]) (by kernel_rfl) (by simp) ?_
            refine (AllReadyH.cons rfl (fun K hK => ?_) AllReadyH.nil)
            rw [if_pos (by rfl)]
            have hnn : Hid (∀ j u, ((List.range nG).flatMap (one1 G))[j]? = some u → XC.cell? ((⟨b2, 0, none⟩ : Addr).add j) = some u) := one11_cells (fun k hk => ((bcellN (n := w1.heap.size) hHeld).1 b2 _ (by omega)).trans (R2.out k hk))
            refine app_at (z := .int .i64 0) _ _ rfl Try.underlying25 Try.info3 rfl (by decide) (by decide) w1.heap.size 0 _ [] rfl hL2 ⟨b2, 0, none⟩ nG nG ((List.range nG).flatMap (one1 G)) rfl (one11_len _ _) hnn.out (one11_one _ _) (by omega) (by omega) ?_
            intro v2 XP2 hown2 hg2 hat2
            have hsz2 := hg2.size
            clear hnn
            rw [Nat.zero_add, List.nil_append] at hown2
            obtain ⟨gG, cG, rfl, j21, j22, hO2⟩ := own1_of_row p1 hown2
            have hgq2 : gG = q2 ∨ gG = XC.heap.size := by
              rcases hat2 with h | h
              · exact .inl (Option.some.inj h)
              · exact .inr (Option.some.inj h)
            have hbX : Below (w1.heap.size) XC XP2 := (Below.refl _ _).grown hg2 (by omega) (fun kk e => by have e2 : q2 = kk := Option.some.inj e; omega)
            have hsmX : ∀ b, b < XC.heap.size → ¬ b = q2 → Sm XC XP2 b := fun b hb hne => sm_grown hg2 hb (fun e => hne (Option.some.inj e))
            replace hO1 := hO1.sm hsz2 (fun q1' q2' => hsmX gW (by omega) (by omega))
            replace hZC := hZC.sm hsz2 (hsmX C (by omega) (by omega))
            refine hK.out _ _ (hHeld.trans hbX) (fun hNew => ?_)
            clear hK K hHeld
            have hHeld := hNew
            clear hNew
            try simp only [Act.put, List.setIfInBounds_toArray, List.set_cons_zero, List.set_cons_succ, List.getElem_toArray, List.getElem_cons_zero, List.getElem_cons_succ]
            clear hbX hsmX hown2 hg2 hat2
            refine wpAnyH_take (i := 10) (v := .agg #[.int .i64 c, .int .i64 d, .slice aW nW cW, .slice (some ⟨gG, 0, none⟩) nG cG, .slice none 0 0]) rfl (by kernel_rfl) (by kernel_rfl) (by kernel_rfl) (fun _ _ _ h => h) (Or.inl ⟨by rfl, ?_⟩) (by assumption) ?_
            · intro wx hSw; obtain ⟨hcS, hfS⟩ := bcellN hSw; go_simp
            try simp only [Act.put, List.setIfInBounds_toArray, List.set_cons_zero, List.set_cons_succ, List.getElem_toArray, List.getElem_cons_zero, List.getElem_cons_succ]
            refine wpAnyH_ready (rs := [12]) (by kernel_rfl) (by simp) ?_
            refine (AllReadyH.cons rfl (fun K hK => ?_) AllReadyH.nil)
            have r0 := (hZC.2 0 (by simp)).1
            have r1 := (hZC.2 1 (by simp)).1
            have r2 := (hZC.2 2 (by simp)).1
            have r3 := (hZC.2 3 (by simp)).1
            have r4 := (hZC.2 4 (by simp)).1
            have f0 := (hZC.2 0 (by simp)).2
            have f1 := (hZC.2 1 (by simp)).2
            have f2 := (hZC.2 2 (by simp)).2
            have f3 := (hZC.2 3 (by simp)).2
            have f4 := (hZC.2 4 (by simp)).2
            simp only [List.getD, List.getElem?_cons_zero, List.getElem?_cons_succ, Option.getD_some] at r0 r1 r2 r3 r4
            have lZC := hZC.1
            have hkC : w1.heap.size ≤ C := by omega
            go_simp
            obtain ⟨XSC, eS⟩ : ∃ X, X = (((((XP2.setCell ⟨C, 0, none⟩ (.int .i64 c)).setCell ⟨C, 1, none⟩ (.int .i64 d)).setCell ⟨C, 2, none⟩ (.slice aW nW cW)).setCell ⟨C, 3, none⟩ (.slice (some ⟨gG, 0, none⟩) nG cG)).setCell ⟨C, 4, none⟩ (.slice none 0 0)) := ⟨_, rfl⟩
            rw [← eS]
            have hPC : Bk XSC C [.int .i64 c, .int .i64 d, .slice aW nW cW, .slice (some ⟨gG, 0, none⟩) nG cG, .slice none 0 0] := by rw [eS]; exact bk_put (l := [.int .i64 c, .int .i64 d, .slice aW nW cW, .slice (some ⟨gG, 0, none⟩) nG cG, .slice none 0 0]) hZC rfl
            have hzC1 : XSC.heap.size ≤ XP2.heap.size := by rw [eS]; exact Nat.le_of_eq (size_put C [.int .i64 c, .int .i64 d, .slice aW nW cW, .slice (some ⟨gG, 0, none⟩) nG cG, .slice none 0 0] 0 XP2)
            have hzC2 : XP2.heap.size ≤ XSC.heap.size := by rw [eS]; exact Nat.le_of_eq (size_put C [.int .i64 c, .int .i64 d, .slice aW nW cW, .slice (some ⟨gG, 0, none⟩) nG cG, .slice none 0 0] 0 XP2).symm
            have hmC : ∀ b, ¬ b = C → Sm XP2 XSC b := by rw [eS]; exact fun b hb => sm_put hb [.int .i64 c, .int .i64 d, .slice aW nW cW, .slice (some ⟨gG, 0, none⟩) nG cG, .slice none 0 0] 0 XP2
            have hBC : Below (w1.heap.size) w1 XSC := by rw [eS]; exact below_put hkC [.int .i64 c, .int .i64 d, .slice aW nW cW, .slice (some ⟨gG, 0, none⟩) nG cG, .slice none 0 0] 0 hHeld
            clear eS r0 f0 r1 f1 r2 f2 r3 f3 r4 f4
            replace hO1 := hO1.sm hzC2 (fun q1' q2' => hmC gW (by omega))
            replace hO2 := own1_sm hO2 (hmC gG (by omega))
            refine hK.out _ _ hBC (fun hNew => ?_)
            clear hK K hHeld
            have hHeld := hNew
            clear hNew
            try simp only [Act.put, List.setIfInBounds_toArray, List.set_cons_zero, List.set_cons_succ, List.getElem_toArray, List.getElem_cons_zero, List.getElem_cons_succ]
            refine wpAnyH_done (by kernel_rfl) ?_ _
            go_wp2
            go_meet
            case rel => exact ⟨C, gW, gG, aW, cW, cG, t1, rfl, hPC, hO1, hO2, ⟨by omega, by omega, by omega, by omega, by omega, by omega, by omega, by omega, by omega⟩, hHeld⟩
        · go_simp
          obtain ⟨XC, eA⟩ : ∃ X, X = XL2.alloc (.cells #[.int .i64 0, .int .i64 0, .slice none 0 0, .slice none 0 0, .slice none 0 0] 34) := ⟨_, rfl⟩
          rw [← eA]
          have hbA : Below XL2.heap.size XL2 XC := by rw [eA]; exact (Below.refl _ _).alloc (Nat.le_refl _) _
          have hZC : Bk XC XL2.heap.size [.int .i64 0, .int .i64 0, .slice none 0 0, .slice none 0 0, .slice none 0 0] := by rw [eA]; exact bk_new XL2 34 [.int .i64 0, .int .i64 0, .slice none 0 0, .slice none 0 0, .slice none 0 0]
          have hzAC1 : XC.heap.size ≤ XL2.heap.size + 1 := by rw [eA]; simp
          have hzAC2 : XL2.heap.size + 1 ≤ XC.heap.size := by rw [eA]; simp
          clear eA
          replace hL1 := own_keep hL1 hbA
          replace hL2 := own_keep hL2 hbA
          have hsz_XC := hbA.size
          refine hK.out _ _ (bthenN hHeld (by omega) hbA) (fun hNew => ?_)
          clear hK K hHeld
          have hHeld := hNew
          clear hNew
          try simp only [Act.put, List.setIfInBounds_toArray, List.set_cons_zero, List.set_cons_succ, List.getElem_toArray, List.getElem_cons_zero, List.getElem_cons_succ]
          clear hbA
          obtain ⟨C, eC⟩ : ∃ g, g = XL2.heap.size := ⟨_, rfl⟩
          rw [← eC] at hZC ⊢
          have eC1 : C ≤ XL2.heap.size := by omega
          have eC2 : XL2.heap.size ≤ C := by omega
          clear eC
          refine wpAnyH_ready (rs := [5]) (by kernel_rfl) (by simp) ?_
          refine (AllReadyH.cons rfl (fun K hK => ?_) AllReadyH.nil)
          rw [if_pos (by rfl)]
          have hnn : Hid (∀ j u, ((List.range nW).flatMap (P6.rowK Z))[j]? = some u → XC.cell? ((⟨b1, 0, none⟩ : Addr).add j) = some u) := rowK_cells (fun k j hk hj => ((bcellN (n := w1.heap.size) hHeld).1 b1 _ (by omega)).trans (R1.out k j hk hj))
          refine app_at (z := .agg #[.int .i64 0, .int .i64 0, .int .i64 0, .int .i64 0, .int .i64 0, .bool false]) _ _ rfl Try.underlying32 Try.info52 rfl (by decide) (by decide) w1.heap.size 0 _ [] rfl hL1 ⟨b1, 0, none⟩ nW nW ((List.range nW).flatMap (P6.rowK Z)) rfl (rowK_len _ _) hnn.out (rowK_one _ _) (by omega) (by omega) ?_
          intro v1 XP1 hown1 hg1 hat1
          have hsz1 := hg1.size
          clear hnn
          rw [Nat.zero_add, List.nil_append] at hown1
          obtain ⟨gW, hO1, hgw⟩ := rw_of_own hown1 0
          obtain ⟨aW, cW, ev1, _⟩ := row_of_rw hO1
          have hgq1 : (gW = 0 ∨ gW = q1 ∨ gW = XC.heap.size) ∧ (gW = 0 ∨ gW < XP1.heap.size) := by
            rcases hgw with ⟨_, h⟩ | ⟨h, h2⟩
            · exact ⟨.inl h, .inl h⟩
            · rw [h] at hat1
              rcases hat1 with h3 | h3
              · exact ⟨.inr (.inl (Option.some.inj h3)), .inr h2⟩
              · exact ⟨.inr (.inr (Option.some.inj h3)), .inr h2⟩
          subst ev1
          obtain ⟨t1, et1⟩ : ∃ t, t = XP1.heap.size := ⟨_, rfl⟩
          rw [← et1] at hO1
          have t1a : t1 ≤ XP1.heap.size := by omega
          clear et1 hgw
          have hbX : Below (w1.heap.size) XC XP1 := (Below.refl _ _).grown hg1 (by omega) (fun kk e => by have e2 : q1 = kk := Option.some.inj e; omega)
          have hsmX : ∀ b, b < XC.heap.size → ¬ b = q1 → Sm XC XP1 b := fun b hb hne => sm_grown hg1 hb (fun e => hne (Option.some.inj e))
          replace hL2 := World.ownsRow.kept hL2 hg1 (.inr (fun e => by have e2 : q2 = q1 := Option.some.inj e; omega))
          replace hZC := hZC.sm hsz1 (hsmX C (by omega) (by omega))
          refine hK.out _ _ (hHeld.trans hbX) (fun hNew => ?_)
          clear hK K hHeld
          have hHeld := hNew
          clear hNew
          try simp only [Act.put, List.setIfInBounds_toArray, List.set_cons_zero, List.set_cons_succ, List.getElem_toArray, List.getElem_cons_zero, List.getElem_cons_succ]
          clear hbX hsmX hown1 hg1 hat1
          refine wpAnyH_ready (rs := [9]) (by kernel_rfl) (by simp) ?_
          refine (AllReadyH.cons rfl (fun K hK => ?_) AllReadyH.nil)
          rw [if_pos (by rfl)]
          have hnn : Hid (∀ j u, ((List.range nG).flatMap (one1 G))[j]? = some u → XP1.cell? ((⟨b2, 0, none⟩ : Addr).add j) = some u) := one11_cells (fun k hk => ((bcellN (n := w1.heap.size) hHeld).1 b2 _ (by omega)).trans (R2.out k hk))
          refine app_at (z := .int .i64 0) _ _ rfl Try.underlying25 Try.info3 rfl (by decide) (by decide) w1.heap.size 0 _ [] rfl hL2 ⟨b2, 0, none⟩ nG nG ((List.range nG).flatMap (one1 G)) rfl (one11_len _ _) hnn.out (one11_one _ _) (by omega) (by omega) ?_
          intro v2 XP2 hown2 hg2 hat2
          have hsz2 := hg2.size
          clear hnn
          rw [Nat.zero_add, List.nil_append] at hown2
          obtain ⟨gG, cG, rfl, j21, j22, hO2⟩ := own1_of_row p1 hown2
          have hgq2 : gG = q2 ∨ gG = XP1.heap.size := by
            rcases hat2 with h | h
            · exact .inl (Option.some.inj h)
            · exact .inr (Option.some.inj h)
          have hbX : Below (w1.heap.size) XP1 XP2 := (Below.refl _ _).grown hg2 (by omega) (fun kk e => by have e2 : q2 = kk := Option.some.inj e; omega)
          have hsmX : ∀ b, b < XP1.heap.size → ¬ b = q2 → Sm XP1 XP2 b := fun b hb hne => sm_grown hg2 hb (fun e => hne (Option.some.inj e))
          replace hZC := hZC.sm hsz2 (hsmX C (by omega) (by omega))
          replace hO1 := hO1.sm hsz2 (fun q1' q2' => hsmX gW (by omega) (by omega))
          refine hK.out _ _ (hHeld.trans hbX) (fun hNew => ?_)
          clear hK K hHeld
          have hHeld := hNew
          clear hNew
          try simp only [Act.put, List.setIfInBounds_toArray, List.set_cons_zero, List.set_cons_succ, List.getElem_toArray, List.getElem_cons_zero, List.getElem_cons_succ]
          clear hbX hsmX hown2 hg2 hat2
          refine wpAnyH_take (i := 10) (v := .agg #[.int .i64 c, .int .i64 d, .slice aW nW cW, .slice (some ⟨gG, 0, none⟩) nG cG, .slice none 0 0]) rfl (by kernel_rfl) (by kernel_rfl) (by kernel_rfl) (fun _ _ _ h => h) (Or.inl ⟨by rfl, ?_⟩) (by assumption) ?_
          · intro wx hSw; obtain ⟨hcS, hfS⟩ := bcellN hSw; go_simp
          try simp only [Act.put, List.setIfInBounds_toArray, List.set_cons_zero, List.set_cons_succ, List.getElem_toArray, List.getElem_cons_zero, List.getElem_cons_succ]
          refine wpAnyH_ready (rs := [12]) (by kernel_rfl) (by simp) ?_
          refine (AllReadyH.cons rfl (fun K hK => ?_) AllReadyH.nil)
          have r0 := (hZC.2 0 (by simp)).1
          have r1 := (hZC.2 1 (by simp)).1
          have r2 := (hZC.2 2 (by simp)).1
          have r3 := (hZC.2 3 (by simp)).1
          have r4 := (hZC.2 4 (by simp)).1
          have f0 := (hZC.2 0 (by simp)).2
          have f1 := (hZC.2 1 (by simp)).2
          have f2 := (hZC.2 2 (by simp)).2
          have f3 := (hZC.2 3 (by simp)).2
          have f4 := (hZC.2 4 (by simp)).2
          simp only [List.getD, List.getElem?_cons_zero, List.getElem?_cons_succ, Option.getD_some] at r0 r1 r2 r3 r4
          have lZC := hZC.1
          have hkC : w1.heap.size ≤ C := by omega
          go_simp
          obtain ⟨XSC, eS⟩ : ∃ X, X = (((((XP2.setCell ⟨C, 0, none⟩ (.int .i64 c)).setCell ⟨C, 1, none⟩ (.int .i64 d)).setCell ⟨C, 2, none⟩ (.slice aW nW cW)).setCell ⟨C, 3, none⟩ (.slice (some ⟨gG, 0, none⟩) nG cG)).setCell ⟨C, 4, none⟩ (.slice none 0 0)) := ⟨_, rfl⟩
          rw [← eS]
          have hPC : Bk XSC C [.int .i64 c, .int .i64 d, .slice aW nW cW, .slice (some ⟨gG, 0, none⟩) nG cG, .slice none 0 0] := by rw [eS]; exact bk_put (l := [.int .i64 c, .int .i64 d, .slice aW nW cW, .slice (some ⟨gG, 0, none⟩) nG cG, .slice none 0 0]) hZC rfl
          have hzC1 : XSC.heap.size ≤ XP2.heap.size := by rw [eS]; exact Nat.le_of_eq (size_put C [.int .i64 c, .int .i64 d, .slice aW nW cW, .slice (some ⟨gG, 0, none⟩) nG cG, .slice none 0 0] 0 XP2)
          have hzC2 : XP2.heap.size ≤ XSC.heap.size := by rw [eS]; exact Nat.le_of_eq (size_put C [.int .i64 c, .int .i64 d, .slice aW nW cW, .slice (some ⟨gG, 0, none⟩) nG cG, .slice none 0 0] 0 XP2).symm
          have hmC : ∀ b, ¬ b = C → Sm XP2 XSC b := by rw [eS]; exact fun b hb => sm_put hb [.int .i64 c, .int .i64 d, .slice aW nW cW, .slice (some ⟨gG, 0, none⟩) nG cG, .slice none 0 0] 0 XP2
          have hBC : Below (w1.heap.size) w1 XSC := by rw [eS]; exact below_put hkC [.int .i64 c, .int .i64 d, .slice aW nW cW, .slice (some ⟨gG, 0, none⟩) nG cG, .slice none 0 0] 0 hHeld
          clear eS r0 f0 r1 f1 r2 f2 r3 f3 r4 f4
          replace hO1 := hO1.sm hzC2 (fun q1' q2' => hmC gW (by omega))
          replace hO2 := own1_sm hO2 (hmC gG (by omega))
          refine hK.out _ _ hBC (fun hNew => ?_)
          clear hK K hHeld
          have hHeld := hNew
          clear hNew
          try simp only [Act.put, List.setIfInBounds_toArray, List.set_cons_zero, List.set_cons_succ, List.getElem_toArray, List.getElem_cons_zero, List.getElem_cons_succ]
          refine wpAnyH_done (by kernel_rfl) ?_ _
          go_wp2
          go_meet
          case rel => exact ⟨C, gW, gG, aW, cW, cG, t1, rfl, hPC, hO1, hO2, ⟨by omega, by omega, by omega, by omega, by omega, by omega, by omega, by omega, by omega⟩, hHeld⟩
      · go_simp
        obtain ⟨XC, eA⟩ : ∃ X, X = XL1.alloc (.cells #[.int .i64 0, .int .i64 0, .slice none 0 0, .slice none 0 0, .slice none 0 0] 34) := ⟨_, rfl⟩
        rw [← eA]
        have hbA : Below XL1.heap.size XL1 XC := by rw [eA]; exact (Below.refl _ _).alloc (Nat.le_refl _) _
        have hZC : Bk XC XL1.heap.size [.int .i64 0, .int .i64 0, .slice none 0 0, .slice none 0 0, .slice none 0 0] := by rw [eA]; exact bk_new XL1 34 [.int .i64 0, .int .i64 0, .slice none 0 0, .slice none 0 0, .slice none 0 0]
        have hzAC1 : XC.heap.size ≤ XL1.heap.size + 1 := by rw [eA]; simp
        have hzAC2 : XL1.heap.size + 1 ≤ XC.heap.size := by rw [eA]; simp
        clear eA
        replace hL1 := own_keep hL1 hbA
        have hsz_XC := hbA.size
        refine hK.out _ _ (bthenN hHeld (by omega) hbA) (fun hNew => ?_)
        clear hK K hHeld
        have hHeld := hNew
        clear hNew
        try simp only [Act.put, List.setIfInBounds_toArray, List.set_cons_zero, List.set_cons_succ, List.getElem_toArray, List.getElem_cons_zero, List.getElem_cons_succ]
        clear hbA
        obtain ⟨C, eC⟩ : ∃ g, g = XL1.heap.size := ⟨_, rfl⟩
        rw [← eC] at hZC ⊢
        have eC1 : C ≤ XL1.heap.size := by omega
        have eC2 : XL1.heap.size ≤ C := by omega
        clear eC
        refine wpAnyH_ready (rs := [5, 6]) (by kernel_rfl) (by simp) ?_
        refine (AllReadyH.cons rfl (fun K hK => ?_) (AllReadyH.cons rfl (fun K hK => ?_) AllReadyH.nil))
        · rw [if_pos (by rfl)]
          have hnn : Hid (∀ j u, ((List.range nW).flatMap (P6.rowK Z))[j]? = some u → XC.cell? ((⟨b1, 0, none⟩ : Addr).add j) = some u) := rowK_cells (fun k j hk hj => ((bcellN (n := w1.heap.size) hHeld).1 b1 _ (by omega)).trans (R1.out k j hk hj))
          refine app_at (z := .agg #[.int .i64 0, .int .i64 0, .int .i64 0, .int .i64 0, .int .i64 0, .bool false]) _ _ rfl Try.underlying32 Try.info52 rfl (by decide) (by decide) w1.heap.size 0 _ [] rfl hL1 ⟨b1, 0, none⟩ nW nW ((List.range nW).flatMap (P6.rowK Z)) rfl (rowK_len _ _) hnn.out (rowK_one _ _) (by omega) (by omega) ?_
          intro v1 XP1 hown1 hg1 hat1
          have hsz1 := hg1.size
          clear hnn
          rw [Nat.zero_add, List.nil_append] at hown1
          obtain ⟨gW, hO1, hgw⟩ := rw_of_own hown1 0
          obtain ⟨aW, cW, ev1, _⟩ := row_of_rw hO1
          have hgq1 : (gW = 0 ∨ gW = q1 ∨ gW = XC.heap.size) ∧ (gW = 0 ∨ gW < XP1.heap.size) := by
            rcases hgw with ⟨_, h⟩ | ⟨h, h2⟩
            · exact ⟨.inl h, .inl h⟩
            · rw [h] at hat1
              rcases hat1 with h3 | h3
              · exact ⟨.inr (.inl (Option.some.inj h3)), .inr h2⟩
              · exact ⟨.inr (.inr (Option.some.inj h3)), .inr h2⟩
          subst ev1
          obtain ⟨t1, et1⟩ : ∃ t, t = XP1.heap.size := ⟨_, rfl⟩
          rw [← et1] at hO1
          have t1a : t1 ≤ XP1.heap.size := by omega
          clear et1 hgw
          have hbX : Below (w1.heap.size) XC XP1 := (Below.refl _ _).grown hg1 (by omega) (fun kk e => by have e2 : q1 = kk := Option.some.inj e; omega)
          have hsmX : ∀ b, b < XC.heap.size → ¬ b = q1 → Sm XC XP1 b := fun b hb hne => sm_grown hg1 hb (fun e => hne (Option.some.inj e))
          replace hZC := hZC.sm hsz1 (hsmX C (by omega) (by omega))
          refine hK.out _ _ (hHeld.trans hbX) (fun hNew => ?_)
          clear hK K hHeld
          have hHeld := hNew
          clear hNew
          try simp only [Act.put, List.setIfInBounds_toArray, List.set_cons_zero, List.set_cons_succ, List.getElem_toArray, List.getElem_cons_zero, List.getElem_cons_succ]
          clear hbX hsmX hown1 hg1 hat1
          refine wpAnyH_ready (rs := [6]) (by kernel_rfl) (by simp) ?_
          refine (AllReadyH.cons rfl (fun K hK => ?_) AllReadyH.nil)
          go_simp
          obtain ⟨XL2, eA⟩ : ∃ X, X = XP1.alloc (.cells #[] 3) := ⟨_, rfl⟩
          rw [← eA]
          have hbA : Below XP1.heap.size XP1 XL2 := by rw [eA]; exact (Below.refl _ _).alloc (Nat.le_refl _) _
          have hL2 : XL2.ownsRow w1.heap.size 3 1 (.slice (some ⟨XP1.heap.size, 0, none⟩) 0 0) 0 [] := by rw [eA]; exact World.ownsRow_lit XP1 #[] 0 (by omega) (by simp) (by simp)
          have hzA21 : XL2.heap.size ≤ XP1.heap.size + 1 := by rw [eA]; simp
          have hzA22 : XP1.heap.size + 1 ≤ XL2.heap.size := by rw [eA]; simp
          clear eA
          replace hZC := hZC.below hbA
          replace hO1 := hO1.below hbA
          have hsz_XL2 := hbA.size
          refine hK.out _ _ (bthenN hHeld (by omega) hbA) (fun hNew => ?_)
          clear hK K hHeld
          have hHeld := hNew
          clear hNew
          try simp only [Act.put, List.setIfInBounds_toArray, List.set_cons_zero, List.set_cons_succ, List.getElem_toArray, List.getElem_cons_zero, List.getElem_cons_succ]
          clear hbA
          obtain ⟨q2, eq2⟩ : ∃ g, g = XP1.heap.size := ⟨_, rfl⟩
          rw [← eq2] at hL2 ⊢
          have eq21 : q2 ≤ XP1.heap.size := by omega
          have eq22 : XP1.heap.size ≤ q2 := by omega
          clear eq2
          refine wpAnyH_ready (rs := [9]) (by kernel_rfl) (by simp) ?_
          refine (AllReadyH.cons rfl (fun K hK => ?_) AllReadyH.nil)
          rw [if_pos (by rfl)]
          have hnn : Hid (∀ j u, ((List.range nG).flatMap (one1 G))[j]? = some u → XL2.cell? ((⟨b2, 0, none⟩ : Addr).add j) = some u) := one11_cells (fun k hk => ((bcellN (n := w1.heap.size) hHeld).1 b2 _ (by omega)).trans (R2.out k hk))
          refine app_at (z := .int .i64 0) _ _ rfl Try.underlying25 Try.info3 rfl (by decide) (by decide) w1.heap.size 0 _ [] rfl hL2 ⟨b2, 0, none⟩ nG nG ((List.range nG).flatMap (one1 G)) rfl (one11_len _ _) hnn.out (one11_one _ _) (by omega) (by omega) ?_
          intro v2 XP2 hown2 hg2 hat2
          have hsz2 := hg2.size
          clear hnn
          rw [Nat.zero_add, List.nil_append] at hown2
          obtain ⟨gG, cG, rfl, j21, j22, hO2⟩ := own1_of_row p1 hown2
          have hgq2 : gG = q2 ∨ gG = XL2.heap.size := by
            rcases hat2 with h | h
            · exact .inl (Option.some.inj h)
            · exact .inr (Option.some.inj h)
          have hbX : Below (w1.heap.size) XL2 XP2 := (Below.refl _ _).grown hg2 (by omega) (fun kk e => by have e2 : q2 = kk := Option.some.inj e; omega)
          have hsmX : ∀ b, b < XL2.heap.size → ¬ b = q2 → Sm XL2 XP2 b := fun b hb hne => sm_grown hg2 hb (fun e => hne (Option.some.inj e))
          replace hZC := hZC.sm hsz2 (hsmX C (by omega) (by omega))
          replace hO1 := hO1.sm hsz2 (fun q1' q2' => hsmX gW (by omega) (by omega))
          refine hK.out _ _ (hHeld.trans hbX) (fun hNew => ?_)
          clear hK K hHeld
          have hHeld := hNew
          clear hNew
          try simp only [Act.put, List.setIfInBounds_toArray, List.set_cons_zero, List.set_cons_succ, List.getElem_toArray, List.getElem_cons_zero, List.getElem_cons_succ]
          clear hbX hsmX hown2 hg2 hat2
          refine wpAnyH_take (i := 10) (v := .agg #[.int .i64 c, .int .i64 d, .slice aW nW cW, .slice (some ⟨gG, 0, none⟩) nG cG, .slice none 0 0]) rfl (by kernel_rfl) (by kernel_rfl) (by kernel_rfl) (fun _ _ _ h => h) (Or.inl ⟨by rfl, ?_⟩) (by assumption) ?_
          · intro wx hSw; obtain ⟨hcS, hfS⟩ := bcellN hSw; go_simp
          try simp only [Act.put, List.setIfInBounds_toArray, List.set_cons_zero, List.set_cons_succ, List.getElem_toArray, List.getElem_cons_zero, List.getElem_cons_succ]
          refine wpAnyH_ready (rs := [12]) (by kernel_rfl) (by simp) ?_
          refine (AllReadyH.cons rfl (fun K hK => ?_) AllReadyH.nil)
          have r0 := (hZC.2 0 (by simp)).1
          have r1 := (hZC.2 1 (by simp)).1
          have r2 := (hZC.2 2 (by simp)).1
          have r3 := (hZC.2 3 (by simp)).1
          have r4 := (hZC.2 4 (by simp)).1
          have f0 := (hZC.2 0 (by simp)).2
          have f1 := (hZC.2 1 (by simp)).2
          have f2 := (hZC.2 2 (by simp)).2
          have f3 := (hZC.2 3 (by simp)).2
          have f4 := (hZC.2 4 (by simp)).2
          simp only [List.getD, List.getElem?_cons_zero, List.getElem?_cons_succ, Option.getD_some] at r0 r1 r2 r3 r4
          have lZC := hZC.1
          have hkC : w1.heap.size ≤ C := by omega
          go_simp
          obtain ⟨XSC, eS⟩ : ∃ X, X = (((((XP2.setCell ⟨C, 0, none⟩ (.int .i64 c)).setCell ⟨C, 1, none⟩ (.int .i64 d)).setCell ⟨C, 2, none⟩ (.slice aW nW cW)).setCell ⟨C, 3, none⟩ (.slice (some ⟨gG, 0, none⟩) nG cG)).setCell ⟨C, 4, none⟩ (.slice none 0 0)) := ⟨_, rfl⟩
          rw [← eS]
          have hPC : Bk XSC C [.int .i64 c, .int .i64 d, .slice aW nW cW, .slice (some ⟨gG, 0, none⟩) nG cG, .slice none 0 0] := by rw [eS]; exact bk_put (l := [.int .i64 c, .int .i64 d, .slice aW nW cW, .slice (some ⟨gG, 0, none⟩) nG cG, .slice none 0 0]) hZC rfl
          have hzC1 : XSC.heap.size ≤ XP2.heap.size := by rw [eS]; exact Nat.le_of_eq (size_put C [.int .i64 c, .int .i64 d, .slice aW nW cW, .slice (some ⟨gG, 0, none⟩) nG cG, .slice none 0 0] 0 XP2)
          have hzC2 : XP2.heap.size ≤ XSC.heap.size := by rw [eS]; exact Nat.le_of_eq (size_put C [.int .i64 c, .int .i64 d, .slice aW nW cW, .slice (some ⟨gG, 0, none⟩) nG cG, .slice none 0 0] 0 XP2).symm
          have hmC : ∀ b, ¬ b = C → Sm XP2 XSC b := by rw [eS]; exact fun b hb => sm_put hb [.int .i64 c, .int .i64 d, .slice aW nW cW, .slice (some ⟨gG, 0, none⟩) nG cG, .slice none 0 0] 0 XP2
          have hBC : Below (w1.heap.size) w1 XSC := by rw [eS]; exact below_put hkC [.int .i64 c, .int .i64 d, .slice aW nW cW, .slice (some ⟨gG, 0, none⟩) nG cG, .slice none 0 0] 0 hHeld
          clear eS r0 f0 r1 f1 r2 f2 r3 f3 r4 f4
          replace hO1 := hO1.sm hzC2 (fun q1' q2' => hmC gW (by omega))
          replace hO2 := own1_sm hO2 (hmC gG (by omega))
          refine hK.out _ _ hBC (fun hNew => ?_)
          clear hK K hHeld
          have hHeld := hNew
          clear hNew
          try simp only [Act.put, List.setIfInBounds_toArray, List.set_cons_zero, List.set_cons_succ, List.getElem_toArray, List.getElem_cons_zero, List.getElem_cons_succ]
          refine wpAnyH_done (by kernel_rfl) ?_ _
          go_wp2
          go_meet
          case rel => exact ⟨C, gW, gG, aW, cW, cG, t1, rfl, hPC, hO1, hO2, ⟨by omega, by omega, by omega, by omega, by omega, by omega, by omega, by omega, by omega⟩, hHeld⟩
        · go_simp
          obtain ⟨XL2, eA⟩ : ∃ X, X = XC.alloc (.cells #[] 3) := ⟨_, rfl⟩
          rw [← eA]
          have hbA : Below XC.heap.size XC XL2 := by rw [eA]; exact (Below.refl _ _).alloc (Nat.le_refl _) _
          have hL2 : XL2.ownsRow w1.heap.size 3 1 (.slice (some ⟨XC.heap.size, 0, none⟩) 0 0) 0 [] := by rw [eA]; exact World.ownsRow_lit XC #[] 0 (by omega) (by simp) (by simp)
          have hzA21 : XL2.heap.size ≤ XC.heap.size + 1 := by rw [eA]; simp
          have hzA22 : XC.heap.size + 1 ≤ XL2.heap.size := by rw [eA]; simp
          clear eA
          replace hL1 := own_keep hL1 hbA
          replace hZC := hZC.below hbA
          have hsz_XL2 := hbA.size
          refine hK.out _ _ (bthenN hHeld (by omega) hbA) (fun hNew => ?_)
          clear hK K hHeld
          have hHeld := hNew
          clear hNew
          try simp only [Act.put, List.setIfInBounds_toArray, List.set_cons_zero, List.set_cons_succ, List.getElem_toArray, List.getElem_cons_zero, List.getElem_cons_succ]
          clear hbA
          obtain ⟨q2, eq2⟩ : ∃ g, g = XC.heap.size := ⟨_, rfl⟩
          rw [← eq2] at hL2 ⊢
          have eq21 : q2 ≤ XC.heap.size := by omega
          have eq22 : XC.heap.size ≤ q2 := by omega
          clear eq2
          refine wpAnyH_ready (rs := [5]) (by kernel_rfl) (by simp) ?_
          refine (AllReadyH.cons rfl (fun K hK => ?_) AllReadyH.nil)
          rw [if_pos (by rfl)]
          have hnn : Hid (∀ j u, ((List.range nW).flatMap (P6.rowK Z))[j]? = some u → XL2.cell? ((⟨b1, 0, none⟩ : Addr).add j) = some u) := rowK_cells (fun k j hk hj => ((bcellN (n := w1.heap.size) hHeld).1 b1 _ (by omega)).trans (R1.out k j hk hj))
          refine app_at (z := .agg #[.int .i64 0, .int .i64 0, .int .i64 0, .int .i64 0, .int .i64 0, .bool false]) _ _ rfl Try.underlying32 Try.info52 rfl (by decide) (by decide) w1.heap.size 0 _ [] rfl hL1 ⟨b1, 0, none⟩ nW nW ((List.range nW).flatMap (P6.rowK Z)) rfl (rowK_len _ _) hnn.out (rowK_one _ _) (by omega) (by omega) ?_
          intro v1 XP1 hown1 hg1 hat1
          have hsz1 := hg1.size
          clear hnn
          rw [Nat.zero_add, List.nil_append] at hown1
          obtain ⟨gW, hO1, hgw⟩ := rw_of_own hown1 0
          obtain ⟨aW, cW, ev1, _⟩ := row_of_rw hO1
          have hgq1 : (gW = 0 ∨ gW = q1 ∨ gW = XL2.heap.size) ∧ (gW = 0 ∨ gW < XP1.heap.size) := by
            rcases hgw with ⟨_, h⟩ | ⟨h, h2⟩
            · exact ⟨.inl h, .inl h⟩
            · rw [h] at hat1
              rcases hat1 with h3 | h3
              · exact ⟨.inr (.inl (Option.some.inj h3)), .inr h2⟩
              · exact ⟨.inr (.inr (Option.some.inj h3)), .inr h2⟩
          subst ev1
          obtain ⟨t1, et1⟩ : ∃ t, t = XP1.heap.size := ⟨_, rfl⟩
          rw [← et1] at hO1
          have t1a : t1 ≤ XP1.heap.size := by omega
          clear et1 hgw
          have hbX : Below (w1.heap.size) XL2 XP1 := (Below.refl _ _).grown hg1 (by omega) (fun kk e => by have e2 : q1 = kk := Option.some.inj e; omega)
          have hsmX : ∀ b, b < XL2.heap.size → ¬ b = q1 → Sm XL2 XP1 b := fun b hb hne => sm_grown hg1 hb (fun e => hne (Option.some.inj e))
          replace hZC := hZC.sm hsz1 (hsmX C (by omega) (by omega))
          replace hL2 := World.ownsRow.kept hL2 hg1 (.inr (fun e => by have e2 : q2 = q1 := Option.some.inj e; omega))
          refine hK.out _ _ (hHeld.trans hbX) (fun hNew => ?_)
          clear hK K hHeld
          have hHeld := hNew
          clear hNew
          try simp only [Act.put, List.setIfInBounds_toArray, List.set_cons_zero, List.set_cons_succ, List.getElem_toArray, List.getElem_cons_zero, List.getElem_cons_succ]
          clear hbX hsmX hown1 hg1 hat1
          refine wpAnyH_ready (rs := [9]) (by kernel_rfl) (by simp) ?_
          refine (AllReadyH.cons rfl (fun K hK => ?_) AllReadyH.nil)
          rw [if_pos (by rfl)]
          have hnn : Hid (∀ j u, ((List.range nG).flatMap (one1 G))[j]? = some u → XP1.cell? ((⟨b2, 0, none⟩ : Addr).add j) = some u) := one11_cells (fun k hk => ((bcellN (n := w1.heap.size) hHeld).1 b2 _ (by omega)).trans (R2.out k hk))
          refine app_at (z := .int .i64 0) _ _ rfl Try.underlying25 Try.info3 rfl (by decide) (by decide) w1.heap.size 0 _ [] rfl hL2 ⟨b2, 0, none⟩ nG nG ((List.range nG).flatMap (one1 G)) rfl (one11_len _ _) hnn.out (one11_one _ _) (by omega) (by omega) ?_
          intro v2 XP2 hown2 hg2 hat2
          have hsz2 := hg2.size
          clear hnn
          rw [Nat.zero_add, List.nil_append] at hown2
          obtain ⟨gG, cG, rfl, j21, j22, hO2⟩ := own1_of_row p1 hown2
          have hgq2 : gG = q2 ∨ gG = XP1.heap.size := by
            rcases hat2 with h | h
            · exact .inl (Option.some.inj h)
            · exact .inr (Option.some.inj h)
          have hbX : Below (w1.heap.size) XP1 XP2 := (Below.refl _ _).grown hg2 (by omega) (fun kk e => by have e2 : q2 = kk := Option.some.inj e; omega)
          have hsmX : ∀ b, b < XP1.heap.size → ¬ b = q2 → Sm XP1 XP2 b := fun b hb hne => sm_grown hg2 hb (fun e => hne (Option.some.inj e))
          replace hZC := hZC.sm hsz2 (hsmX C (by omega) (by omega))
          replace hO1 := hO1.sm hsz2 (fun q1' q2' => hsmX gW (by omega) (by omega))
          refine hK.out _ _ (hHeld.trans hbX) (fun hNew => ?_)
          clear hK K hHeld
          have hHeld := hNew
          clear hNew
          try simp only [Act.put, List.setIfInBounds_toArray, List.set_cons_zero, List.set_cons_succ, List.getElem_toArray, List.getElem_cons_zero, List.getElem_cons_succ]
          clear hbX hsmX hown2 hg2 hat2
          refine wpAnyH_take (i := 10) (v := .agg #[.int .i64 c, .int .i64 d, .slice aW nW cW, .slice (some ⟨gG, 0, none⟩) nG cG, .slice none 0 0]) rfl (by kernel_rfl) (by kernel_rfl) (by kernel_rfl) (fun _ _ _ h => h) (Or.inl ⟨by rfl, ?_⟩) (by assumption) ?_
          · intro wx hSw; obtain ⟨hcS, hfS⟩ := bcellN hSw; go_simp
          try simp only [Act.put, List.setIfInBounds_toArray, List.set_cons_zero, List.set_cons_succ, List.getElem_toArray, List.getElem_cons_zero, List.getElem_cons_succ]
          refine wpAnyH_ready (rs := [12]) (by kernel_rfl) (by simp) ?_
          refine (AllReadyH.cons rfl (fun K hK => ?_) AllReadyH.nil)
          have r0 := (hZC.2 0 (by simp)).1
          have r1 := (hZC.2 1 (by simp)).1
          have r2 := (hZC.2 2 (by simp)).1
          have r3 := (hZC.2 3 (by simp)).1
          have r4 := (hZC.2 4 (by simp)).1
          have f0 := (hZC.2 0 (by simp)).2
          have f1 := (hZC.2 1 (by simp)).2
          have f2 := (hZC.2 2 (by simp)).2
          have f3 := (hZC.2 3 (by simp)).2
          have f4 := (hZC.2 4 (by simp)).2
          simp only [List.getD, List.getElem?_cons_zero, List.getElem?_cons_succ, Option.getD_some] at r0 r1 r2 r3 r4
          have lZC := hZC.1
          have hkC : w1.heap.size ≤ C := by omega
          go_simp
          obtain ⟨XSC, eS⟩ : ∃ X, X = (((((XP2.setCell ⟨C, 0, none⟩ (.int .i64 c)).setCell ⟨C, 1, none⟩ (.int .i64 d)).setCell ⟨C, 2, none⟩ (.slice aW nW cW)).setCell ⟨C, 3, none⟩ (.slice (some ⟨gG, 0, none⟩) nG cG)).setCell ⟨C, 4, none⟩ (.slice none 0 0)) := ⟨_, rfl⟩
          rw [← eS]
          have hPC : Bk XSC C [.int .i64 c, .int .i64 d, .slice aW nW cW, .slice (some ⟨gG, 0, none⟩) nG cG, .slice none 0 0] := by rw [eS]; exact bk_put (l := [.int .i64 c, .int .i64 d, .slice aW nW cW, .slice (some ⟨gG, 0, none⟩) nG cG, .slice none 0 0]) hZC rfl
          have hzC1 : XSC.heap.size ≤ XP2.heap.size := by rw [eS]; exact Nat.le_of_eq (size_put C [.int .i64 c, .int .i64 d, .slice aW nW cW, .slice (some ⟨gG, 0, none⟩) nG cG, .slice none 0 0] 0 XP2)
          have hzC2 : XP2.heap.size ≤ XSC.heap.size := by rw [eS]; exact Nat.le_of_eq (size_put C [.int .i64 c, .int .i64 d, .slice aW nW cW, .slice (some ⟨gG, 0, none⟩) nG cG, .slice none 0 0] 0 XP2).symm
          have hmC : ∀ b, ¬ b = C → Sm XP2 XSC b := by rw [eS]; exact fun b hb => sm_put hb [.int .i64 c, .int .i64 d, .slice aW nW cW, .slice (some ⟨gG, 0, none⟩) nG cG, .slice none 0 0] 0 XP2
          have hBC : Below (w1.heap.size) w1 XSC := by rw [eS]; exact below_put hkC [.int .i64 c, .int .i64 d, .slice aW nW cW, .slice (some ⟨gG, 0, none⟩) nG cG, .slice none 0 0] 0 hHeld
          clear eS r0 f0 r1 f1 r2 f2 r3 f3 r4 f4
          replace hO1 := hO1.sm hzC2 (fun q1' q2' => hmC gW (by omega))
          replace hO2 := own1_sm hO2 (hmC gG (by omega))
          refine hK.out _ _ hBC (fun hNew => ?_)
          clear hK K hHeld
          have hHeld := hNew
          clear hNew
          try simp only [Act.put, List.setIfInBounds_toArray, List.set_cons_zero, List.set_cons_succ, List.getElem_toArray, List.getElem_cons_zero, List.getElem_cons_succ]
          refine wpAnyH_done (by kernel_rfl) ?_ _
          go_wp2
          go_meet
          case rel => exact ⟨C, gW, gG, aW, cW, cG, t1, rfl, hPC, hO1, hO2, ⟨by omega, by omega, by omega, by omega, by omega, by omega, by omega, by omega, by omega⟩, hHeld⟩
    · go_simp
      obtain ⟨XL2, eA⟩ : ∃ X, X = X0.alloc (.cells #[] 3) := ⟨_, rfl⟩
      rw [← eA]
      have hbA : Below X0.heap.size X0 XL2 := by rw [eA]; exact (Below.refl _ _).alloc (Nat.le_refl _) _
      have hL2 : XL2.ownsRow w1.heap.size 3 1 (.slice (some ⟨X0.heap.size, 0, none⟩) 0 0) 0 [] := by rw [eA]; exact World.ownsRow_lit X0 #[] 0 (by omega) (by simp) (by simp)
      have hzA21 : XL2.heap.size ≤ X0.heap.size + 1 := by rw [eA]; simp
      have hzA22 : X0.heap.size + 1 ≤ XL2.heap.size := by rw [eA]; simp
      clear eA
      have hsz_XL2 := hbA.size
      refine hK.out _ _ (bthenN hHeld (by omega) hbA) (fun hNew => ?_)
      clear hK K hHeld
      have hHeld := hNew
      clear hNew
      try simp only [Act.put, List.setIfInBounds_toArray, List.set_cons_zero, List.set_cons_succ, List.getElem_toArray, List.getElem_cons_zero, List.getElem_cons_succ]
      clear hbA
      obtain ⟨q2, eq2⟩ : ∃ g, g = X0.heap.size := ⟨_, rfl⟩
      rw [← eq2] at hL2 ⊢
      have eq21 : q2 ≤ X0.heap.size := by omega
      have eq22 : X0.heap.size ≤ q2 := by omega
      clear eq2
      refine wpAnyH_ready (rs := [2, 11]) (by kernel_rfl) (by simp) ?_
      refine (AllReadyH.cons rfl (fun K hK => ?_) (AllReadyH.cons rfl (fun K hK => ?_) AllReadyH.nil))
      · go_simp
        obtain ⟨XL1, eA⟩ : ∃ X, X = XL2.alloc (.cells #[] 52) := ⟨_, rfl⟩
        rw [← eA]
        have hbA : Below XL2.heap.size XL2 XL1 := by rw [eA]; exact (Below.refl _ _).alloc (Nat.le_refl _) _
        have hL1 : XL1.ownsRow w1.heap.size 52 6 (.slice (some ⟨XL2.heap.size, 0, none⟩) 0 0) 0 [] := by rw [eA]; exact World.ownsRow_lit XL2 #[] 0 (by omega) (by simp) (by simp)
        have hzA11 : XL1.heap.size ≤ XL2.heap.size + 1 := by rw [eA]; simp
        have hzA12 : XL2.heap.size + 1 ≤ XL1.heap.size := by rw [eA]; simp
        clear eA
        replace hL2 := own_keep hL2 hbA
        have hsz_XL1 := hbA.size
        refine hK.out _ _ (bthenN hHeld (by omega) hbA) (fun hNew => ?_)
        clear hK K hHeld
        have hHeld := hNew
        clear hNew
        try simp only [Act.put, List.setIfInBounds_toArray, List.set_cons_zero, List.set_cons_succ, List.getElem_toArray, List.getElem_cons_zero, List.getElem_cons_succ]
        clear hbA
        obtain ⟨q1, eq1⟩ : ∃ g, g = XL2.heap.size := ⟨_, rfl⟩
        rw [← eq1] at hL1 ⊢
        have eq11 : q1 ≤ XL2.heap.size := by omega
        have eq12 : XL2.heap.size ≤ q1 := by omega
        clear eq1
        refine wpAnyH_ready (rs := [5, 11]) (by kernel_rfl) (by simp) ?_
        refine (AllReadyH.cons rfl (fun K hK => ?_) (AllReadyH.cons rfl (fun K hK => ?_) AllReadyH.nil))
        · rw [if_pos (by rfl)]
          have hnn : Hid (∀ j u, ((List.range nW).flatMap (P6.rowK Z))[j]? = some u → XL1.cell? ((⟨b1, 0, none⟩ : Addr).add j) = some u) := rowK_cells (fun k j hk hj => ((bcellN (n := w1.heap.size) hHeld).1 b1 _ (by omega)).trans (R1.out k j hk hj))
          refine app_at (z := .agg #[.int .i64 0, .int .i64 0, .int .i64 0, .int .i64 0, .int .i64 0, .bool false]) _ _ rfl Try.underlying32 Try.info52 rfl (by decide) (by decide) w1.heap.size 0 _ [] rfl hL1 ⟨b1, 0, none⟩ nW nW ((List.range nW).flatMap (P6.rowK Z)) rfl (rowK_len _ _) hnn.out (rowK_one _ _) (by omega) (by omega) ?_
          intro v1 XP1 hown1 hg1 hat1
          have hsz1 := hg1.size
          clear hnn
          rw [Nat.zero_add, List.nil_append] at hown1
          obtain ⟨gW, hO1, hgw⟩ := rw_of_own hown1 0
          obtain ⟨aW, cW, ev1, _⟩ := row_of_rw hO1
          have hgq1 : (gW = 0 ∨ gW = q1 ∨ gW = XL1.heap.size) ∧ (gW = 0 ∨ gW < XP1.heap.size) := by
            rcases hgw with ⟨_, h⟩ | ⟨h, h2⟩
            · exact ⟨.inl h, .inl h⟩
            · rw [h] at hat1
              rcases hat1 with h3 | h3
              · exact ⟨.inr (.inl (Option.some.inj h3)), .inr h2⟩
              · exact ⟨.inr (.inr (Option.some.inj h3)), .inr h2⟩
          subst ev1
          obtain ⟨t1, et1⟩ : ∃ t, t = XP1.heap.size := ⟨_, rfl⟩
          rw [← et1] at hO1
          have t1a : t1 ≤ XP1.heap.size := by omega
          clear et1 hgw
          have hbX : Below (w1.heap.size) XL1 XP1 := (Below.refl _ _).grown hg1 (by omega) (fun kk e => by have e2 : q1 = kk := Option.some.inj e; omega)
          have hsmX : ∀ b, b < XL1.heap.size → ¬ b = q1 → Sm XL1 XP1 b := fun b hb hne => sm_grown hg1 hb (fun e => hne (Option.some.inj e))
          replace hL2 := World.ownsRow.kept hL2 hg1 (.inr (fun e => by have e2 : q2 = q1 := Option.some.inj e; omega))
          refine hK.out _ _ (hHeld.trans hbX) (fun hNew => ?_)
          clear hK K hHeld
          have hHeld := hNew
          clear hNew
          try simp only [Act.put, List.setIfInBounds_toArray, List.set_cons_zero, List.set_cons_succ, List.getElem_toArray, List.getElem_cons_zero, List.getElem_cons_succ]
          clear hbX hsmX hown1 hg1 hat1
          refine wpAnyH_ready (rs := [9, 11]) (by kernel_rfl) (by simp) ?_
          refine (AllReadyH.cons rfl (fun K hK => ?_) (AllReadyH.cons rfl (fun K hK => ?_) AllReadyH.nil))
          · rw [if_pos (by rfl)]
            have hnn : Hid (∀ j u, ((List.range nG).flatMap (one1 G))[j]? = some u → XP1.cell? ((⟨b2, 0, none⟩ : Addr).add j) = some u) := one11_cells (fun k hk => ((bcellN (n := w1.heap.size) hHeld).1 b2 _ (by omega)).trans (R2.out k hk))
            refine app_at (z := .int .i64 0) _ _ rfl Try.underlying25 Try.info3 rfl (by decide) (by decide) w1.heap.size 0 _ [] rfl hL2 ⟨b2, 0, none⟩ nG nG ((List.range nG).flatMap (one1 G)) rfl (one11_len _ _) hnn.out (one11_one _ _) (by omega) (by omega) ?_
            intro v2 XP2 hown2 hg2 hat2
            have hsz2 := hg2.size
            clear hnn
            rw [Nat.zero_add, List.nil_append] at hown2
            obtain ⟨gG, cG, rfl, j21, j22, hO2⟩ := own1_of_row p1 hown2
            have hgq2 : gG = q2 ∨ gG = XP1.heap.size := by
              rcases hat2 with h | h
              · exact .inl (Option.some.inj h)
              · exact .inr (Option.some.inj h)
            have hbX : Below (w1.heap.size) XP1 XP2 := (Below.refl _ _).grown hg2 (by omega) (fun kk e => by have e2 : q2 = kk := Option.some.inj e; omega)
            have hsmX : ∀ b, b < XP1.heap.size → ¬ b = q2 → Sm XP1 XP2 b := fun b hb hne => sm_grown hg2 hb (fun e => hne (Option.some.inj e))
            replace hO1 := hO1.sm hsz2 (fun q1' q2' => hsmX gW (by omega) (by omega))
            refine hK.out _ _ (hHeld.trans hbX) (fun hNew => ?_)
            clear hK K hHeld
            have hHeld := hNew
            clear hNew
            try simp only [Act.put, List.setIfInBounds_toArray, List.set_cons_zero, List.set_cons_succ, List.getElem_toArray, List.getElem_cons_zero, List.getElem_cons_succ]
            clear hbX hsmX hown2 hg2 hat2
            refine wpAnyH_take (i := 10) (v := .agg #[.int .i64 c, .int .i64 d, .slice aW nW cW, .slice (some ⟨gG, 0, none⟩) nG cG, .slice none 0 0]) rfl (by kernel_rfl) (by kernel_rfl) (by kernel_rfl) (fun _ _ _ h => h) (Or.inl ⟨by rfl, ?_⟩) (by assumption) ?_
            · intro wx hSw; obtain ⟨hcS, hfS⟩ := bcellN hSw; go_simp
            try simp only [Act.put, List.setIfInBounds_toArray, List.set_cons_zero, List.set_cons_succ, List.getElem_toArray, List.getElem_cons_zero, List.getElem_cons_succ]
            refine wpAnyH_ready (rs := [11]) (by kernel_rfl) (by simp) ?_
            refine (AllReadyH.cons rfl (fun K hK => ?_) AllReadyH.nil)
            go_simp
            obtain ⟨XC, eA⟩ : ∃ X, X = XP2.alloc (.cells #[.int .i64 0, .int .i64 0, .slice none 0 0, .slice none 0 0, .slice none 0 0] 34) := ⟨_, rfl⟩
            rw [← eA]
            have hbA : Below XP2.heap.size XP2 XC := by rw [eA]; exact (Below.refl _ _).alloc (Nat.le_refl _) _
            have hZC : Bk XC XP2.heap.size [.int .i64 0, .int .i64 0, .slice none 0 0, .slice none 0 0, .slice none 0 0] := by rw [eA]; exact bk_new XP2 34 [.int .i64 0, .int .i64 0, .slice none 0 0, .slice none 0 0, .slice none 0 0]
            have hzAC1 : XC.heap.size ≤ XP2.heap.size + 1 := by rw [eA]; simp
            have hzAC2 : XP2.heap.size + 1 ≤ XC.heap.size := by rw [eA]; simp
            clear eA
            replace hO1 := hO1.below hbA
            replace hO2 := own1_below hO2 (by omega) hbA
            have hsz_XC := hbA.size
            refine hK.out _ _ (bthenN hHeld (by omega) hbA) (fun hNew => ?_)
            clear hK K hHeld
            have hHeld := hNew
            clear hNew
            try simp only [Act.put, List.setIfInBounds_toArray, List.set_cons_zero, List.set_cons_succ, List.getElem_toArray, List.getElem_cons_zero, List.getElem_cons_succ]
            clear hbA
            obtain ⟨C, eC⟩ : ∃ g, g = XP2.heap.size := ⟨_, rfl⟩
            rw [← eC] at hZC ⊢
            have eC1 : C ≤ XP2.heap.size := by omega
            have eC2 : XP2.heap.size ≤ C := by omega
            clear eC
            refine wpAnyH_ready (rs := [12]) (by kernel_rfl) (by simp) ?_
            refine (AllReadyH.cons rfl (fun K hK => ?_) AllReadyH.nil)
            have r0 := (hZC.2 0 (by simp)).1
            have r1 := (hZC.2 1 (by simp)).1
            have r2 := (hZC.2 2 (by simp)).1
            have r3 := (hZC.2 3 (by simp)).1
            have r4 := (hZC.2 4 (by simp)).1
            have f0 := (hZC.2 0 (by simp)).2
            have f1 := (hZC.2 1 (by simp)).2
            have f2 := (hZC.2 2 (by simp)).2
            have f3 := (hZC.2 3 (by simp)).2
            have f4 := (hZC.2 4 (by simp)).2
            simp only [List.getD, List.getElem?_cons_zero, List.getElem?_cons_succ, Option.getD_some] at r0 r1 r2 r3 r4
            have lZC := hZC.1
            have hkC : w1.heap.size ≤ C := by omega
            go_simp
            obtain ⟨XSC, eS⟩ : ∃ X, X = (((((XC.setCell ⟨C, 0, none⟩ (.int .i64 c)).setCell ⟨C, 1, none⟩ (.int .i64 d)).setCell ⟨C, 2, none⟩ (.slice aW nW cW)).setCell ⟨C, 3, none⟩ (.slice (some ⟨gG, 0, none⟩) nG cG)).setCell ⟨C, 4, none⟩ (.slice none 0 0)) := ⟨_, rfl⟩
            rw [← eS]
            have hPC : Bk XSC C [.int .i64 c, .int .i64 d, .slice aW nW cW, .slice (some ⟨gG, 0, none⟩) nG cG, .slice none 0 0] := by rw [eS]; exact bk_put (l := [.int .i64 c, .int .i64 d, .slice aW nW cW, .slice (some ⟨gG, 0, none⟩) nG cG, .slice none 0 0]) hZC rfl
            have hzC1 : XSC.heap.size ≤ XC.heap.size := by rw [eS]; exact Nat.le_of_eq (size_put C [.int .i64 c, .int .i64 d, .slice aW nW cW, .slice (some ⟨gG, 0, none⟩) nG cG, .slice none 0 0] 0 XC)
            have hzC2 : XC.heap.size ≤ XSC.heap.size := by rw [eS]; exact Nat.le_of_eq (size_put C [.int .i64 c, .int .i64 d, .slice aW nW cW, .slice (some ⟨gG, 0, none⟩) nG cG, .slice none 0 0] 0 XC).symm
            have hmC : ∀ b, ¬ b = C → Sm XC XSC b := by rw [eS]; exact fun b hb => sm_put hb [.int .i64 c, .int .i64 d, .slice aW nW cW, .slice (some ⟨gG, 0, none⟩) nG cG, .slice none 0 0] 0 XC
            have hBC : Below (w1.heap.size) w1 XSC := by rw [eS]; exact below_put hkC [.int .i64 c, .int .i64 d, .slice aW nW cW, .slice (some ⟨gG, 0, none⟩) nG cG, .slice none 0 0] 0 hHeld
            clear eS r0 f0 r1 f1 r2 f2 r3 f3 r4 f4
            replace hO1 := hO1.sm hzC2 (fun q1' q2' => hmC gW (by omega))
            replace hO2 := own1_sm hO2 (hmC gG (by omega))
            refine hK.out _ _ hBC (fun hNew => ?_)
            clear hK K hHeld
            have hHeld := hNew
            clear hNew
            try simp only [Act.put, List.setIfInBounds_toArray, List.set_cons_zero, List.set_cons_succ, List.getElem_toArray, List.getElem_cons_zero, List.getElem_cons_succ]
            refine wpAnyH_done (by kernel_rfl) ?_ _
            go_wp2
            go_meet
            case rel => exact ⟨C, gW, gG, aW, cW, cG, t1, rfl, hPC, hO1, hO2, ⟨by omega, by omega, by omega, by omega, by omega, by omega, by omega, by omega, by omega⟩, hHeld⟩
          · go_simp
            obtain ⟨XC, eA⟩ : ∃ X, X = XP1.alloc (.cells #[.int .i64 0, .int .i64 0, .slice none 0 0, .slice none 0 0, .slice none 0 0] 34) := ⟨_, rfl⟩
            rw [← eA]
            have hbA : Below XP1.heap.size XP1 XC := by rw [eA]; exact (Below.refl _ _).alloc (Nat.le_refl _) _
            have hZC : Bk XC XP1.heap.size [.int .i64 0, .int .i64 0, .slice none 0 0, .slice none 0 0, .slice none 0 0] := by rw [eA]; exact bk_new XP1 34 [.int .i64 0, .int .i64 0, .slice none 0 0, .slice none 0 0, .slice none 0 0]
            have hzAC1 : XC.heap.size ≤ XP1.heap.size + 1 := by rw [eA]; simp
            have hzAC2 : XP1.heap.size + 1 ≤ XC.heap.size := by rw [eA]; simp
            clear eA
            replace hL2 := own_keep hL2 hbA
            replace hO1 := hO1.below hbA
            have hsz_XC := hbA.size
            refine hK.out _ _ (bthenN hHeld (by omega) hbA) (fun hNew => ?_)
            clear hK K hHeld
            have hHeld := hNew
            clear hNew
            try simp only [Act.put, List.setIfInBounds_toArray, List.set_cons_zero, List.set_cons_succ, List.getElem_toArray, List.getElem_cons_zero, List.getElem_cons_succ]
            clear hbA
            obtain ⟨C, eC⟩ : ∃ g, g = XP1.heap.size := ⟨_, rfl⟩
            rw [← eC] at hZC ⊢
            have eC1 : C ≤ XP1.heap.size := by omega
            have eC2 : XP1.heap.size ≤ C := by omega
            clear eC
            refine wpAnyH_ready (rs := [9]) (by kernel_rfl) (by simp) ?_
            refine (AllReadyH.cons rfl (fun K hK => ?_) AllReadyH.nil)
            rw [if_pos (by rfl)]
            have hnn : Hid (∀ j u, ((List.range nG).flatMap (one1 G))[j]? = some u → XC.cell? ((⟨b2, 0, none⟩ : Addr).add j) = some u) := one11_cells (fun k hk => ((bcellN (n := w1.heap.size) hHeld).1 b2 _ (by omega)).trans (R2.out k hk))
            refine app_at (z := .int .i64 0) _ _ rfl Try.underlying25 Try.info3 rfl (by decide) (by decide) w1.heap.size 0 _ [] rfl hL2 ⟨b2, 0, none⟩ nG nG ((List.range nG).flatMap (one1 G)) rfl (one11_len _ _) hnn.out (one11_one _ _) (by omega) (by omega) ?_
            intro v2 XP2 hown2 hg2 hat2
            have hsz2 := hg2.size
            clear hnn
            rw [Nat.zero_add, List.nil_append] at hown2
            obtain ⟨gG, cG, rfl, j21, j22, hO2⟩ := own1_of_row p1 hown2
            have hgq2 : gG = q2 ∨ gG = XC.heap.size := by
              rcases hat2 with h | h
              · exact .inl (Option.some.inj h)
              · exact .inr (Option.some.inj h)
            have hbX : Below (w1.heap.size) XC XP2 := (Below.refl _ _).grown hg2 (by omega) (fun kk e => by have e2 : q2 = kk := Option.some.inj e; omega)
            have hsmX : ∀ b, b < XC.heap.size → ¬ b = q2 → Sm XC XP2 b := fun b hb hne => sm_grown hg2 hb (fun e => hne (Option.some.inj e))
            replace hO1 := hO1.sm hsz2 (fun q1' q2' => hsmX gW (by omega) (by omega))
            replace hZC := hZC.sm hsz2 (hsmX C (by omega) (by omega))
            refine hK.out _ _ (hHeld.trans hbX) (fun hNew => ?_)
            clear hK K hHeld
            have hHeld := hNew
            clear hNew
            try simp only [Act.put, List.setIfInBounds_toArray, List.set_cons_zero, List.set_cons_succ, List.getElem_toArray, List.getElem_cons_zero, List.getElem_cons_succ]
            clear hbX hsmX hown2 hg2 hat2
            refine wpAnyH_take (i := 10) (v := .agg #[.int .i64 c, .int .i64 d, .slice aW nW cW, .slice (some ⟨gG, 0, none⟩) nG cG, .slice none 0 0]) rfl (by kernel_rfl) (by kernel_rfl) (by kernel_rfl) (fun _ _ _ h => h) (Or.inl ⟨by rfl, ?_⟩) (by assumption) ?_
            · intro wx hSw; obtain ⟨hcS, hfS⟩ := bcellN hSw; go_simp
            try simp only [Act.put, List.setIfInBounds_toArray, List.set_cons_zero, List.set_cons_succ, List.getElem_toArray, List.getElem_cons_zero, List.getElem_cons_succ]
            refine wpAnyH_ready (rs := [12]) (by kernel_rfl) (by simp) ?_
            refine (AllReadyH.cons rfl (fun K hK => ?_) AllReadyH.nil)
            have r0 := (hZC.2 0 (by simp)).1
            have r1 := (hZC.2 1 (by simp)).1
            have r2 := (hZC.2 2 (by simp)).1
            have r3 := (hZC.2 3 (by simp)).1
            have r4 := (hZC.2 4 (by simp)).1
            have f0 := (hZC.2 0 (by simp)).2
            have f1 := (hZC.2 1 (by simp)).2
            have f2 := (hZC.2 2 (by simp)).2
            have f3 := (hZC.2 3 (by simp)).2
            have f4 := (hZC.2 4 (by simp)).2
            simp only [List.getD, List.getElem?_cons_zero, List.getElem?_cons_succ, Option.getD_some] at r0 r1 r2 r3 r4
            have lZC := hZC.1
            have hkC : w1.heap.size ≤ C := by omega
            go_simp
            obtain ⟨XSC, eS⟩ : ∃ X, X = (((((XP2.setCell ⟨C, 0, none⟩ (.int .i64 c)).setCell ⟨C, 1, none⟩ (.int .i64 d)).setCell ⟨C, 2, none⟩ (.slice aW nW cW)).setCell ⟨C, 3, none⟩ (.slice (some ⟨gG, 0, none⟩) nG cG)).setCell ⟨C, 4, none⟩ (.slice none 0 0)) := ⟨_, rfl⟩
            rw [← eS]
            have hPC : Bk XSC C [.int .i64 c, .int .i64 d, .slice aW nW cW, .slice (some ⟨gG, 0, none⟩) nG cG, .slice none 0 0] := by rw [eS]; exact bk_put (l := [.int .i64 c, .int .i64 d, .slice aW nW cW, .slice (some ⟨gG, 0, none⟩) nG cG, .slice none 0 0]) hZC rfl
            have hzC1 : XSC.heap.size ≤ XP2.heap.size := by rw [eS]; exact Nat.le_of_eq (size_put C [.int .i64 c, .int .i64 d, .slice aW nW cW, .slice (some ⟨gG, 0, none⟩) nG cG, .slice none 0 0] 0 XP2)
            have hzC2 : XP2.heap.size ≤ XSC.heap.size := by rw [eS]; exact Nat.le_of_eq (size_put C [.int .i64 c, .int .i64 d, .slice aW nW cW, .slice (some ⟨gG, 0, none⟩) nG cG, .slice none 0 0] 0 XP2).symm
            have hmC : ∀ b, ¬ b = C → Sm XP2 XSC b := by rw [eS]; exact fun b hb => sm_put hb [.int .i64 c, .int .i64 d, .slice aW nW cW, .slice (some ⟨gG, 0, none⟩) nG cG, .slice none 0 0] 0 XP2
            have hBC : Below (w1.heap.size) w1 XSC := by rw [eS]; exact below_put hkC [.int .i64 c, .int .i64 d, .slice aW nW cW, .slice (some ⟨gG, 0, none⟩) nG cG, .slice none 0 0] 0 hHeld
            clear eS r0 f0 r1 f1 r2 f2 r3 f3 r4 f4
            replace hO1 := hO1.sm hzC2 (fun q1' q2' => hmC gW (by omega))
            replace hO2 := own1_sm hO2 (hmC gG (by omega))
            refine hK.out _ _ hBC (fun hNew => ?_)
            clear hK K hHeld
            have hHeld := hNew
            clear hNew
            try simp only [Act.put, List.setIfInBounds_toArray, List.set_cons_zero, List.set_cons_succ, List.getElem_toArray, List.getElem_cons_zero, List.getElem_cons_succ]
            refine wpAnyH_done (by kernel_rfl) ?_ _
            go_wp2
            go_meet
            case rel => exact ⟨C, gW, gG, aW, cW, cG, t1, rfl, hPC, hO1, hO2, ⟨by omega, by omega, by omega, by omega, by omega, by omega, by omega, by omega, by omega⟩, hHeld⟩
        · go_simp
          obtain ⟨XC, eA⟩ : ∃ X, X = XL1.alloc (.cells #[.int .i64 0, .int .i64 0, .slice none 0 0, .slice none 0 0, .slice none 0 0] 34) := ⟨_, rfl⟩
          rw [← eA]
          have hbA : Below XL1.heap.size XL1 XC := by rw [eA]; exact (Below.refl _ _).alloc (Nat.le_refl _) _
          have hZC : Bk XC XL1.heap.size [.int .i64 0, .int .i64 0, .slice none 0 0, .slice none 0 0, .slice none 0 0] := by rw [eA]; exact bk_new XL1 34 [.int .i64 0, .int .i64 0, .slice none 0 0, .slice none 0 0, .slice none 0 0]
          have hzAC1 : XC.heap.size ≤ XL1.heap.size + 1 := by rw [eA]; simp
          have hzAC2 : XL1.heap.size + 1 ≤ XC.heap.size := by rw [eA]; simp
          clear eA
          replace hL2 := own_keep hL2 hbA
          replace hL1 := own_keep hL1 hbA
          have hsz_XC := hbA.size
          refine hK.out _ _ (bthenN hHeld (by omega) hbA) (fun hNew => ?_)
          clear hK K hHeld
          have hHeld := hNew
          clear hNew
          try simp only [Act.put, List.setIfInBounds_toArray, List.set_cons_zero, List.set_cons_succ, List.getElem_toArray, List.getElem_cons_zero, List.getElem_cons_succ]
          clear hbA
          obtain ⟨C, eC⟩ : ∃ g, g = XL1.heap.size := ⟨_, rfl⟩
          rw [← eC] at hZC ⊢
          have eC1 : C ≤ XL1.heap.size := by omega
          have eC2 : XL1.heap.size ≤ C := by omega
          clear eC
          refine wpAnyH_ready (rs := [5]) (by kernel_rfl) (by simp) ?_
          refine (AllReadyH.cons rfl (fun K hK => ?_) AllReadyH.nil)
          rw [if_pos (by rfl)]
          have hnn : Hid (∀ j u, ((List.range nW).flatMap (P6.rowK Z))[j]? = some u → XC.cell? ((⟨b1, 0, none⟩ : Addr).add j) = some u) := rowK_cells (fun k j hk hj => ((bcellN (n := w1.heap.size) hHeld).1 b1 _ (by omega)).trans (R1.out k j hk hj))
          refine app_at (z := .agg #[.int .i64 0, .int .i64 0, .int .i64 0, .int .i64 0, .int .i64 0, .bool false]) _ _ rfl Try.underlying32 Try.info52 rfl (by decide) (by decide) w1.heap.size 0 _ [] rfl hL1 ⟨b1, 0, none⟩ nW nW ((List.range nW).flatMap (P6.rowK Z)) rfl (rowK_len _ _) hnn.out (rowK_one _ _) (by omega) (by omega) ?_
          intro v1 XP1 hown1 hg1 hat1
          have hsz1 := hg1.size
          clear hnn
          rw [Nat.zero_add, List.nil_append] at hown1
          obtain ⟨gW, hO1, hgw⟩ := rw_of_own hown1 0
          obtain ⟨aW, cW, ev1, _⟩ := row_of_rw hO1
          have hgq1 : (gW = 0 ∨ gW = q1 ∨ gW = XC.heap.size) ∧ (gW = 0 ∨ gW < XP1.heap.size) := by
            rcases hgw with ⟨_, h⟩ | ⟨h, h2⟩
            · exact ⟨.inl h, .inl h⟩
            · rw [h] at hat1
              rcases hat1 with h3 | h3
              · exact ⟨.inr (.inl (Option.some.inj h3)), .inr h2⟩
              · exact ⟨.inr (.inr (Option.some.inj h3)), .inr h2⟩
          subst ev1
          obtain ⟨t1, et1⟩ : ∃ t, t = XP1.heap.size := ⟨_, rfl⟩
          rw [← et1] at hO1
          have t1a : t1 ≤ XP1.heap.size := by omega
          clear et1 hgw
          have hbX : Below (w1.heap.size) XC XP1 := (Below.refl _ _).grown hg1 (by omega) (fun kk e => by have e2 : q1 = kk := Option.some.inj e; omega)
          have hsmX : ∀ b, b < XC.heap.size → ¬ b = q1 → Sm XC XP1 b := fun b hb hne => sm_grown hg1 hb (fun e => hne (Option.some.inj e))
          replace hL2 := World.ownsRow.kept hL2 hg1 (.inr (fun e => by have e2 : q2 = q1 := Option.some.inj e; omega))
          replace hZC := hZC.sm hsz1 (hsmX C (by omega) (by omega))
          refine hK.out _ _ (hHeld.trans hbX) (fun hNew => ?_)
          clear hK K hHeld
          have hHeld := hNew
          clear hNew
          try simp only [Act.put, List.setIfInBounds_toArray, List.set_cons_zero, List.set_cons_succ, List.getElem_toArray, List.getElem_cons_zero, List.getElem_cons_succ]
          clear hbX hsmX hown1 hg1 hat1
          refine wpAnyH_ready (rs := [9]) (by kernel_rfl) (by simp) ?_
          refine (AllReadyH.cons rfl (fun K hK => ?_) AllReadyH.nil)
          rw [if_pos (by rfl)]
          have hnn : Hid (∀ j u, ((List.range nG).flatMap (one1 G))[j]? = some u → XP1.cell? ((⟨b2, 0, none⟩ : Addr).add j) = some u) := one11_cells (fun k hk => ((bcellN (n := w1.heap.size) hHeld).1 b2 _ (by omega)).trans (R2.out k hk))
          refine app_at (z := .int .i64 0) _ _ rfl Try.underlying25 Try.info3 rfl (by decide) (by decide) w1.heap.size 0 _ [] rfl hL2 ⟨b2, 0, none⟩ nG nG ((List.range nG).flatMap (one1 G)) rfl (one11_len _ _) hnn.out (one11_one _ _) (by omega) (by omega) ?_
          intro v2 XP2 hown2 hg2 hat2
          have hsz2 := hg2.size
          clear hnn
          rw [Nat.zero_add, List.nil_append] at hown2
          obtain ⟨gG, cG, rfl, j21, j22, hO2⟩ := own1_of_row p1 hown2
          have hgq2 : gG = q2 ∨ gG = XP1.heap.size := by
            rcases hat2 with h | h
            · exact .inl (Option.some.inj h)
            · exact .inr (Option.some.inj h)
          have hbX : Below (w1.heap.size) XP1 XP2 := (Below.refl _ _).grown hg2 (by omega) (fun kk e => by have e2 : q2 = kk := Option.some.inj e; omega)
          have hsmX : ∀ b, b < XP1.heap.size → ¬ b = q2 → Sm XP1 XP2 b := fun b hb hne => sm_grown hg2 hb (fun e => hne (Option.some.inj e))
          replace hZC := hZC.sm hsz2 (hsmX C (by omega) (by omega))
          replace hO1 := hO1.sm hsz2 (fun q1' q2' => hsmX gW (by omega) (by omega))
          refine hK.out _ _ (hHeld.trans hbX) (fun hNew => ?_)
          clear hK K hHeld
          have hHeld := hNew
          clear hNew
          try simp only [Act.put, List.setIfInBounds_toArray, List.set_cons_zero, List.set_cons_succ, List.getElem_toArray, List.getElem_cons_zero, List.getElem_cons_succ]
          clear hbX hsmX hown2 hg2 hat2
          refine wpAnyH_take (i := 10) (v := .agg #[.int .i64 c, .int .i64 d, .slice aW nW cW, .slice (some ⟨gG, 0, none⟩) nG cG, .slice none 0 0]) rfl (by kernel_rfl) (by kernel_rfl) (by kernel_rfl) (fun _ _ _ h => h) (Or.inl ⟨by rfl, ?_⟩) (by assumption) ?_
          · intro wx hSw; obtain ⟨hcS, hfS⟩ := bcellN hSw; go_simp
          try simp only [Act.put, List.setIfInBounds_toArray, List.set_cons_zero, List.set_cons_succ, List.getElem_toArray, List.getElem_cons_zero, List.getElem_cons_succ]
          refine wpAnyH_ready (rs := [12]) (by kernel_rfl) (by simp) ?_
          refine (AllReadyH.cons rfl (fun K hK => ?_) AllReadyH.nil)
          have r0 := (hZC.2 0 (by simp)).1
          have r1 := (hZC.2 1 (by simp)).1
          have r2 := (hZC.2 2 (by simp)).1
          have r3 := (hZC.2 3 (by simp)).1
          have r4 := (hZC.2 4 (by simp)).1
          have f0 := (hZC.2 0 (by simp)).2
          have f1 := (hZC.2 1 (by simp)).2
          have f2 := (hZC.2 2 (by simp)).2
          have f3 := (hZC.2 3 (by simp)).2
          have f4 := (hZC.2 4 (by simp)).2
          simp only [List.getD, List.getElem?_cons_zero, List.getElem?_cons_succ, Option.getD_some] at r0 r1 r2 r3 r4
          have lZC := hZC.1
          have hkC : w1.heap.size ≤ C := by omega
          go_simp
          obtain ⟨XSC, eS⟩ : ∃ X, X = (((((XP2.setCell ⟨C, 0, none⟩ (.int .i64 c)).setCell ⟨C, 1, none⟩ (.int .i64 d)).setCell ⟨C, 2, none⟩ (.slice aW nW cW)).setCell ⟨C, 3, none⟩ (.slice (some ⟨gG, 0, none⟩) nG cG)).setCell ⟨C, 4, none⟩ (.slice none 0 0)) := ⟨_, rfl⟩
          rw [← eS]
          have hPC : Bk XSC C [.int .i64 c, .int .i64 d, .slice aW nW cW, .slice (some ⟨gG, 0, none⟩) nG cG, .slice none 0 0] := by rw [eS]; exact bk_put (l := [.int .i64 c, .int .i64 d, .slice aW nW cW, .slice (some ⟨gG, 0, none⟩) nG cG, .slice none 0 0]) hZC rfl
          have hzC1 : XSC.heap.size ≤ XP2.heap.size := by rw [eS]; exact Nat.le_of_eq (size_put C [.int .i64 c, .int .i64 d, .slice aW nW cW, .slice (some ⟨gG, 0, none⟩) nG cG, .slice none 0 0] 0 XP2)
          have hzC2 : XP2.heap.size ≤ XSC.heap.size := by rw [eS]; exact Nat.le_of_eq (size_put C [.int .i64 c, .int .i64 d, .slice aW nW cW, .slice (some ⟨gG, 0, none⟩) nG cG, .slice none 0 0] 0 XP2).symm
          have hmC : ∀ b, ¬ b = C → Sm XP2 XSC b := by rw [eS]; exact fun b hb => sm_put hb [.int .i64 c, .int .i64 d, .slice aW nW cW, .slice (some ⟨gG, 0, none⟩) nG cG, .slice none 0 0] 0 XP2
          have hBC : Below (w1.heap.size) w1 XSC := by rw [eS]; exact below_put hkC [.int .i64 c, .int .i64 d, .slice aW nW cW, .slice (some ⟨gG, 0, none⟩) nG cG, .slice none 0 0] 0 hHeld
          clear eS r0 f0 r1 f1 r2 f2 r3 f3 r4 f4
          replace hO1 := hO1.sm hzC2 (fun q1' q2' => hmC gW (by omega))
          replace hO2 := own1_sm hO2 (hmC gG (by omega))
          refine hK.out _ _ hBC (fun hNew => ?_)
          clear hK K hHeld
          have hHeld := hNew
          clear hNew
          try simp only [Act.put, List.setIfInBounds_toArray, List.set_cons_zero, List.set_cons_succ, List.getElem_toArray, List.getElem_cons_zero, List.getElem_cons_succ]
          refine wpAnyH_done (by kernel_rfl) ?_ _
          go_wp2
          go_meet
          case rel => exact ⟨C, gW, gG, aW, cW, cG, t1, rfl, hPC, hO1, hO2, ⟨by omega, by omega, by omega, by omega, by omega, by omega, by omega, by omega, by omega⟩, hHeld⟩
      · go_simp
        obtain ⟨XC, eA⟩ : ∃ X, X = XL2.alloc (.cells #[.int .i64 0, .int .i64 0, .slice none 0 0, .slice none 0 0, .slice none 0 0] 34) := ⟨_, rfl⟩
        rw [← eA]
        have hbA : Below XL2.heap.size XL2 XC := by rw [eA]; exact (Below.refl _ _).alloc (Nat.le_refl _) _
        have hZC : Bk XC XL2.heap.size [.int .i64 0, .int .i64 0, .slice none 0 0, .slice none 0 0, .slice none 0 0] := by rw [eA]; exact bk_new XL2 34 [.int .i64 0, .int .i64 0, .slice none 0 0, .slice none 0 0, .slice none 0 0]
        have hzAC1 : XC.heap.size ≤ XL2.heap.size + 1 := by rw [eA]; simp
        have hzAC2 : XL2.heap.size + 1 ≤ XC.heap.size := by rw [eA]; simp
        clear eA
        replace hL2 := own_keep hL2 hbA
        have hsz_XC := hbA.size
        refine hK.out _ _ (bthenN hHeld (by omega) hbA) (fun hNew => ?_)
        clear hK K hHeld
        have hHeld := hNew
        clear hNew
        try simp only [Act.put, List.setIfInBounds_toArray, List.set_cons_zero, List.set_cons_succ, List.getElem_toArray, List.getElem_cons_zero, List.getElem_cons_succ]
        clear hbA
        obtain ⟨C, eC⟩ : ∃ g, g = XL2.heap.size := ⟨_, rfl⟩
        rw [← eC] at hZC ⊢
        have eC1 : C ≤ XL2.heap.size := by omega
        have eC2 : XL2.heap.size ≤ C := by omega
        clear eC
        refine wpAnyH_ready (rs := [2]) (by kernel_rfl) (by simp) ?_
        refine (AllReadyH.cons rfl (fun K hK => ?_) AllReadyH.nil)
        go_simp
        obtain ⟨XL1, eA⟩ : ∃ X, X = XC.alloc (.cells #[] 52) := ⟨_, rfl⟩
        rw [← eA]
        have hbA : Below XC.heap.size XC XL1 := by rw [eA]; exact (Below.refl _ _).alloc (Nat.le_refl _) _
        have hL1 : XL1.ownsRow w1.heap.size 52 6 (.slice (some ⟨XC.heap.size, 0, none⟩) 0 0) 0 [] := by rw [eA]; exact World.ownsRow_lit XC #[] 0 (by omega) (by simp) (by simp)
        have hzA11 : XL1.heap.size ≤ XC.heap.size + 1 := by rw [eA]; simp
        have hzA12 : XC.heap.size + 1 ≤ XL1.heap.size := by rw [eA]; simp
        clear eA
        replace hL2 := own_keep hL2 hbA
        replace hZC := hZC.below hbA
        have hsz_XL1 := hbA.size
        refine hK.out _ _ (bthenN hHeld (by omega) hbA) (fun hNew => ?_)
        clear hK K hHeld
        have hHeld := hNew
        clear hNew
        try simp only [Act.put, List.setIfInBounds_toArray, List.set_cons_zero, List.set_cons_succ, List.getElem_toArray, List.getElem_cons_zero, List.getElem_cons_succ]
        clear hbA
        obtain ⟨q1, eq1⟩ : ∃ g, g = XC.heap.size := ⟨_, rfl⟩
        rw [← eq1] at hL1 ⊢
        have eq11 : q1 ≤ XC.heap.size := by omega
        have eq12 : XC.heap.size ≤ q1 := by omega
        clear eq1
        refine wpAnyH_ready (rs := [5]) (by kernel_rfl) (by simp) ?_
        refine (AllReadyH.cons rfl (fun K hK => ?_) AllReadyH.nil)
        rw [if_pos (by rfl)]
        have hnn : Hid (∀ j u, ((List.range nW).flatMap (P6.rowK Z))[j]? = some u → XL1.cell? ((⟨b1, 0, none⟩ : Addr).add j) = some u) := rowK_cells (fun k j hk hj => ((bcellN (n := w1.heap.size) hHeld).1 b1 _ (by omega)).trans (R1.out k j hk hj))
        refine app_at (z := .agg #[.int .i64 0, .int .i64 0, .int .i64 0, .int .i64 0, .int .i64 0, .bool false]) _ _ rfl Try.underlying32 Try.info52 rfl (by decide) (by decide) w1.heap.size 0 _ [] rfl hL1 ⟨b1, 0, none⟩ nW nW ((List.range nW).flatMap (P6.rowK Z)) rfl (rowK_len _ _) hnn.out (rowK_one _ _) (by omega) (by omega) ?_
        intro v1 XP1 hown1 hg1 hat1
        have hsz1 := hg1.size
        clear hnn
        rw [Nat.zero_add, List.nil_append] at hown1
        obtain ⟨gW, hO1, hgw⟩ := rw_of_own hown1 0
        obtain ⟨aW, cW, ev1, _⟩ := row_of_rw hO1
        have hgq1 : (gW = 0 ∨ gW = q1 ∨ gW = XL1.heap.size) ∧ (gW = 0 ∨ gW < XP1.heap.size) := by
          rcases hgw with ⟨_, h⟩ | ⟨h, h2⟩
          · exact ⟨.inl h, .inl h⟩
          · rw [h] at hat1
            rcases hat1 with h3 | h3
            · exact ⟨.inr (.inl (Option.some.inj h3)), .inr h2⟩
            · exact ⟨.inr (.inr (Option.some.inj h3)), .inr h2⟩
        subst ev1
        obtain ⟨t1, et1⟩ : ∃ t, t = XP1.heap.size := ⟨_, rfl⟩
        rw [← et1] at hO1
        have t1a : t1 ≤ XP1.heap.size := by omega
        clear et1 hgw
        have hbX : Below (w1.heap.size) XL1 XP1 := (Below.refl _ _).grown hg1 (by omega) (fun kk e => by have e2 : q1 = kk := Option.some.inj e; omega)
        have hsmX : ∀ b, b < XL1.heap.size → ¬ b = q1 → Sm XL1 XP1 b := fun b hb hne => sm_grown hg1 hb (fun e => hne (Option.some.inj e))
        replace hL2 := World.ownsRow.kept hL2 hg1 (.inr (fun e => by have e2 : q2 = q1 := Option.some.inj e; omega))
        replace hZC := hZC.sm hsz1 (hsmX C (by omega) (by omega))
        refine hK.out _ _ (hHeld.trans hbX) (fun hNew => ?_)
        clear hK K hHeld
        have hHeld := hNew
        clear hNew
        try simp only [Act.put, List.setIfInBounds_toArray, List.set_cons_zero, List.set_cons_succ, List.getElem_toArray, List.getElem_cons_zero, List.getElem_cons_succ]
        clear hbX hsmX hown1 hg1 hat1
        refine wpAnyH_ready (rs := [9]) (by kernel_rfl) (by simp) ?_
        refine (AllReadyH.cons rfl (fun K hK => ?_) AllReadyH.nil)
        rw [if_pos (by rfl)]
        have hnn : Hid (∀ j u, ((List.range nG).flatMap (one1 G))[j]? = some u → XP1.cell? ((⟨b2, 0, none⟩ : Addr).add j) = some u) := one11_cells (fun k hk => ((bcellN (n := w1.heap.size) hHeld).1 b2 _ (by omega)).trans (R2.out k hk))
        refine app_at (z := .int .i64 0) _ _ rfl Try.underlying25 Try.info3 rfl (by decide) (by decide) w1.heap.size 0 _ [] rfl hL2 ⟨b2, 0, none⟩ nG nG ((List.range nG).flatMap (one1 G)) rfl (one11_len _ _) hnn.out (one11_one _ _) (by omega) (by omega) ?_
        intro v2 XP2 hown2 hg2 hat2
        have hsz2 := hg2.size
        clear hnn
        rw [Nat.zero_add, List.nil_append] at hown2
        obtain ⟨gG, cG, rfl, j21, j22, hO2⟩ := own1_of_row p1 hown2
        have hgq2 : gG = q2 ∨ gG = XP1.heap.size := by
          rcases hat2 with h | h
          · exact .inl (Option.some.inj h)
          · exact .inr (Option.some.inj h)
        have hbX : Below (w1.heap.size) XP1 XP2 := (Below.refl _ _).grown hg2 (by omega) (fun kk e => by have e2 : q2 = kk := Option.some.inj e; omega)
        have hsmX : ∀ b, b < XP1.heap.size → ¬ b = q2 → Sm XP1 XP2 b := fun b hb hne => sm_grown hg2 hb (fun e => hne (Option.some.inj e))
        replace hZC := hZC.sm hsz2 (hsmX C (by omega) (by omega))
        replace hO1 := hO1.sm hsz2 (fun q1' q2' => hsmX gW (by omega) (by omega))
        refine hK.out _ _ (hHeld.trans hbX) (fun hNew => ?_)
        clear hK K hHeld
        have hHeld := hNew
        clear hNew
        try simp only [Act.put, List.setIfInBounds_toArray, List.set_cons_zero, List.set_cons_succ, List.getElem_toArray, List.getElem_cons_zero, List.getElem_cons_succ]
        clear hbX hsmX hown2 hg2 hat2
        refine wpAnyH_take (i := 10) (v := .agg #[.int .i64 c, .int .i64 d, .slice aW nW cW, .slice (some ⟨gG, 0, none⟩) nG cG, .slice none 0 0]) rfl (by kernel_rfl) (by kernel_rfl) (by kernel_rfl) (fun _ _ _ h => h) (Or.inl ⟨by rfl, ?_⟩) (by assumption) ?_
        · intro wx hSw; obtain ⟨hcS, hfS⟩ := bcellN hSw; go_simp
        try simp only [Act.put, List.setIfInBounds_toArray, List.set_cons_zero, List.set_cons_succ, List.getElem_toArray, List.getElem_cons_zero, List.getElem_cons_succ]
        refine wpAnyH_ready (rs := [12]) (by kernel_rfl) (by simp) ?_
        refine (AllReadyH.cons rfl (fun K hK => ?_) AllReadyH.nil)
        have r0 := (hZC.2 0 (by simp)).1
        have r1 := (hZC.2 1 (by simp)).1
        have r2 := (hZC.2 2 (by simp)).1
        have r3 := (hZC.2 3 (by simp)).1
        have r4 := (hZC.2 4 (by simp)).1
        have f0 := (hZC.2 0 (by simp)).2
        have f1 := (hZC.2 1 (by simp)).2
        have f2 := (hZC.2 2 (by simp)).2
        have f3 := (hZC.2 3 (by simp)).2
        have f4 := (hZC.2 4 (by simp)).2
        simp only [List.getD, List.getElem?_cons_zero, List.getElem?_cons_succ, Option.getD_some] at r0 r1 r2 r3 r4
        have lZC := hZC.1
        have hkC : w1.heap.size ≤ C := by omega
        go_simp
        obtain ⟨XSC, eS⟩ : ∃ X, X = (((((XP2.setCell ⟨C, 0, none⟩ (.int .i64 c)).setCell ⟨C, 1, none⟩ (.int .i64 d)).setCell ⟨C, 2, none⟩ (.slice aW nW cW)).setCell ⟨C, 3, none⟩ (.slice (some ⟨gG, 0, none⟩) nG cG)).setCell ⟨C, 4, none⟩ (.slice none 0 0)) := ⟨_, rfl⟩
        rw [← eS]
        have hPC : Bk XSC C [.int .i64 c, .int .i64 d, .slice aW nW cW, .slice (some ⟨gG, 0, none⟩) nG cG, .slice none 0 0] := by rw [eS]; exact bk_put (l := [.int .i64 c, .int .i64 d, .slice aW nW cW, .slice (some ⟨gG, 0, none⟩) nG cG, .slice none 0 0]) hZC rfl
        have hzC1 : XSC.heap.size ≤ XP2.heap.size := by rw [eS]; exact Nat.le_of_eq (size_put C [.int .i64 c, .int .i64 d, .slice aW nW cW, .slice (some ⟨gG, 0, none⟩) nG cG, .slice none 0 0] 0 XP2)
        have hzC2 : XP2.heap.size ≤ XSC.heap.size := by rw [eS]; exact Nat.le_of_eq (size_put C [.int .i64 c, .int .i64 d, .slice aW nW cW, .slice (some ⟨gG, 0, none⟩) nG cG, .slice none 0 0] 0 XP2).symm
        have hmC : ∀ b, ¬ b = C → Sm XP2 XSC b := by rw [eS]; exact fun b hb => sm_put hb [.int .i64 c, .int .i64 d, .slice aW nW cW, .slice (some ⟨gG, 0, none⟩) nG cG, .slice none 0 0] 0 XP2
        have hBC : Below (w1.heap.size) w1 XSC := by rw [eS]; exact below_put hkC [.int .i64 c, .int .i64 d, .slice aW nW cW, .slice (some ⟨gG, 0, none⟩) nG cG, .slice none 0 0] 0 hHeld
        clear eS r0 f0 r1 f1 r2 f2 r3 f3 r4 f4
        replace hO1 := hO1.sm hzC2 (fun q1' q2' => hmC gW (by omega))
        replace hO2 := own1_sm hO2 (hmC gG (by omega))
        refine hK.out _ _ hBC (fun hNew => ?_)
        clear hK K hHeld
        have hHeld := hNew
        clear hNew
        try simp only [Act.put, List.setIfInBounds_toArray, List.set_cons_zero, List.set_cons_succ, List.getElem_toArray, List.getElem_cons_zero, List.getElem_cons_succ]
        refine wpAnyH_done (by kernel_rfl) ?_ _
        go_wp2
        go_meet
        case rel => exact ⟨C, gW, gG, aW, cW, cG, t1, rfl, hPC, hO1, hO2, ⟨by omega, by omega, by omega, by omega, by omega, by omega, by omega, by omega, by omega⟩, hHeld⟩
    · go_simp
      obtain ⟨XC, eA⟩ : ∃ X, X = X0.alloc (.cells #[.int .i64 0, .int .i64 0, .slice none 0 0, .slice none 0 0, .slice none 0 0] 34) := ⟨_, rfl⟩
      rw [← eA]
      have hbA : Below X0.heap.size X0 XC := by rw [eA]; exact (Below.refl _ _).alloc (Nat.le_refl _) _
      have hZC : Bk XC X0.heap.size [.int .i64 0, .int .i64 0, .slice none 0 0, .slice none 0 0, .slice none 0 0] := by rw [eA]; exact bk_new X0 34 [.int .i64 0, .int .i64 0, .slice none 0 0, .slice none 0 0, .slice none 0 0]
      have hzAC1 : XC.heap.size ≤ X0.heap.size + 1 := by rw [eA]; simp
      have hzAC2 : X0.heap.size + 1 ≤ XC.heap.size := by rw [eA]; simp
      clear eA
      have hsz_XC := hbA.size
      refine hK.out _ _ (bthenN hHeld (by omega) hbA) (fun hNew => ?_)
      clear hK K hHeld
      have hHeld := hNew
      clear hNew
      try simp only [Act.put, List.setIfInBounds_toArray, List.set_cons_zero, List.set_cons_succ, List.getElem_toArray, List.getElem_cons_zero, List.getElem_cons_succ]
      clear hbA
      obtain ⟨C, eC⟩ : ∃ g, g = X0.heap.size := ⟨_, rfl⟩
      rw [← eC] at hZC ⊢
      have eC1 : C ≤ X0.heap.size := by omega
      have eC2 : X0.heap.size ≤ C := by omega
      clear eC
      refine wpAnyH_ready (rs := [2, 6]) (by kernel_rfl) (by simp) ?_
      refine (AllReadyH.cons rfl (fun K hK => ?_) (AllReadyH.cons rfl (fun K hK => ?_) AllReadyH.nil))
      · go_simp
        obtain ⟨XL1, eA⟩ : ∃ X, X = XC.alloc (.cells #[] 52) := ⟨_, rfl⟩
        rw [← eA]
        have hbA : Below XC.heap.size XC XL1 := by rw [eA]; exact (Below.refl _ _).alloc (Nat.le_refl _) _
        have hL1 : XL1.ownsRow w1.heap.size 52 6 (.slice (some ⟨XC.heap.size, 0, none⟩) 0 0) 0 [] := by rw [eA]; exact World.ownsRow_lit XC #[] 0 (by omega) (by simp) (by simp)
        have hzA11 : XL1.heap.size ≤ XC.heap.size + 1 := by rw [eA]; simp
        have hzA12 : XC.heap.size + 1 ≤ XL1.heap.size := by rw [eA]; simp
        clear eA
        replace hZC := hZC.below hbA
        have hsz_XL1 := hbA.size
        refine hK.out _ _ (bthenN hHeld (by omega) hbA) (fun hNew => ?_)
        clear hK K hHeld
        have hHeld := hNew
        clear hNew
        try simp only [Act.put, List.setIfInBounds_toArray, List.set_cons_zero, List.set_cons_succ, List.getElem_toArray, List.getElem_cons_zero, List.getElem_cons_succ]
        clear hbA
        obtain ⟨q1, eq1⟩ : ∃ g, g = XC.heap.size := ⟨_, rfl⟩
        rw [← eq1] at hL1 ⊢
        have eq11 : q1 ≤ XC.heap.size := by omega
        have eq12 : XC.heap.size ≤ q1 := by omega
        clear eq1
        refine wpAnyH_ready (rs := [5, 6]) (by kernel_rfl) (by simp) ?_
        refine (AllReadyH.cons rfl (fun K hK => ?_) (AllReadyH.cons rfl (fun K hK => ?_) AllReadyH.nil))
        · rw [if_pos (by rfl)]
          have hnn : Hid (∀ j u, ((List.range nW).flatMap (P6.rowK Z))[j]? = some u → XL1.cell? ((⟨b1, 0, none⟩ : Addr).add j) = some u) := rowK_cells (fun k j hk hj => ((bcellN (n := w1.heap.size) hHeld).1 b1 _ (by omega)).trans (R1.out k j hk hj))
          refine app_at (z := .agg #[.int .i64 0, .int .i64 0, .int .i64 0, .int .i64 0, .int .i64 0, .bool false]) _ _ rfl Try.underlying32 Try.info52 rfl (by decide) (by decide) w1.heap.size 0 _ [] rfl hL1 ⟨b1, 0, none⟩ nW nW ((List.range nW).flatMap (P6.rowK Z)) rfl (rowK_len _ _) hnn.out (rowK_one _ _) (by omega) (by omega) ?_
          intro v1 XP1 hown1 hg1 hat1
          have hsz1 := hg1.size
          clear hnn
          rw [Nat.zero_add, List.nil_append] at hown1
          obtain ⟨gW, hO1, hgw⟩ := rw_of_own hown1 0
          obtain ⟨aW, cW, ev1, _⟩ := row_of_rw hO1
          have hgq1 : (gW = 0 ∨ gW = q1 ∨ gW = XL1.heap.size) ∧ (gW = 0 ∨ gW < XP1.heap.size) := by
            rcases hgw with ⟨_, h⟩ | ⟨h, h2⟩
            · exact ⟨.inl h, .inl h⟩
            · rw [h] at hat1
              rcases hat1 with h3 | h3
              · exact ⟨.inr (.inl (Option.some.inj h3)), .inr h2⟩
              · exact ⟨.inr (.inr (Option.some.inj h3)), .inr h2⟩
          subst ev1
          obtain ⟨t1, et1⟩ : ∃ t, t = XP1.heap.size := ⟨_, rfl⟩
          rw [← et1] at hO1
          have t1a : t1 ≤ XP1.heap.size := by omega
          clear et1 hgw
          have hbX : Below (w1.heap.size) XL1 XP1 := (Below.refl _ _).grown hg1 (by omega) (fun kk e => by have e2 : q1 = kk := Option.some.inj e; omega)
          have hsmX : ∀ b, b < XL1.heap.size → ¬ b = q1 → Sm XL1 XP1 b := fun b hb hne => sm_grown hg1 hb (fun e => hne (Option.some.inj e))
          replace hZC := hZC.sm hsz1 (hsmX C (by omega) (by omega))
          refine hK.out _ _ (hHeld.trans hbX) (fun hNew => ?_)
          clear hK K hHeld
          have hHeld := hNew
          clear hNew
          try simp only [Act.put, List.setIfInBounds_toArray, List.set_cons_zero, List.set_cons_succ, List.getElem_toArray, List.getElem_cons_zero, List.getElem_cons_succ]
          clear hbX hsmX hown1 hg1 hat1
          refine wpAnyH_ready (rs := [6]) (by kernel_rfl) (by simp) ?_
          refine (AllReadyH.cons rfl (fun K hK => ?_) AllReadyH.nil)
          go_simp
          obtain ⟨XL2, eA⟩ : ∃ X, X = XP1.alloc (.cells #[] 3) := ⟨_, rfl⟩
          rw [← eA]
          have hbA : Below XP1.heap.size XP1 XL2 := by rw [eA]; exact (Below.refl _ _).alloc (Nat.le_refl _) _
          have hL2 : XL2.ownsRow w1.heap.size 3 1 (.slice (some ⟨XP1.heap.size, 0, none⟩) 0 0) 0 [] := by rw [eA]; exact World.ownsRow_lit XP1 #[] 0 (by omega) (by simp) (by simp)
          have hzA21 : XL2.heap.size ≤ XP1.heap.size + 1 := by rw [eA]; simp
          have hzA22 : XP1.heap.size + 1 ≤ XL2.heap.size := by rw [eA]; simp
          clear eA
          replace hZC := hZC.below hbA
          replace hO1 := hO1.below hbA
          have hsz_XL2 := hbA.size
          refine hK.out _ _ (bthenN hHeld (by omega) hbA) (fun hNew => ?_)
          clear hK K hHeld
          have hHeld := hNew
          clear hNew
          try simp only [Act.put, List.setIfInBounds_toArray, List.set_cons_zero, List.set_cons_succ, List.getElem_toArray, List.getElem_cons_zero, List.getElem_cons_succ]
          clear hbA
          obtain ⟨q2, eq2⟩ : ∃ g, g = XP1.heap.size := ⟨_, rfl⟩
          rw [← eq2] at hL2 ⊢
          have eq21 : q2 ≤ XP1.heap.size := by omega
          have eq22 : XP1.heap.size ≤ q2 := by omega
          clear eq2
          refine wpAnyH_ready (rs := [9]) (by kernel_rfl) (by simp) ?_
          refine (AllReadyH.cons rfl (fun K hK => ?_) AllReadyH.nil)
          rw [if_pos (by rfl)]
          have hnn : Hid (∀ j u, ((List.range nG).flatMap (one1 G))[j]? = some u → XL2.cell? ((⟨b2, 0, none⟩ : Addr).add j) = some u) := one11_cells (fun k hk => ((bcellN (n := w1.heap.size) hHeld).1 b2 _ (by omega)).trans (R2.out k hk))
          refine app_at (z := .int .i64 0) _ _ rfl Try.underlying25 Try.info3 rfl (by decide) (by decide) w1.heap.size 0 _ [] rfl hL2 ⟨b2, 0, none⟩ nG nG ((List.range nG).flatMap (one1 G)) rfl (one11_len _ _) hnn.out (one11_one _ _) (by omega) (by omega) ?_
          intro v2 XP2 hown2 hg2 hat2
          have hsz2 := hg2.size
          clear hnn
          rw [Nat.zero_add, List.nil_append] at hown2
          obtain ⟨gG, cG, rfl, j21, j22, hO2⟩ := own1_of_row p1 hown2
          have hgq2 : gG = q2 ∨ gG = XL2.heap.size := by
            rcases hat2 with h | h
            · exact .inl (Option.some.inj h)
            · exact .inr (Option.some.inj h)
          have hbX : Below (w1.heap.size) XL2 XP2 := (Below.refl _ _).grown hg2 (by omega) (fun kk e => by have e2 : q2 = kk := Option.some.inj e; omega)
          have hsmX : ∀ b, b < XL2.heap.size → ¬ b = q2 → Sm XL2 XP2 b := fun b hb hne => sm_grown hg2 hb (fun e => hne (Option.some.inj e))
          replace hZC := hZC.sm hsz2 (hsmX C (by omega) (by omega))
          replace hO1 := hO1.sm hsz2 (fun q1' q2' => hsmX gW (by omega) (by omega))
          refine hK.out _ _ (hHeld.trans hbX) (fun hNew => ?_)
          clear hK K hHeld
          have hHeld := hNew
          clear hNew
          try simp only [Act.put, List.setIfInBounds_toArray, List.set_cons_zero, List.set_cons_succ, List.getElem_toArray, List.getElem_cons_zero, List.getElem_cons_succ]
          clear hbX hsmX hown2 hg2 hat2
          refine wpAnyH_take (i := 10) (v := .agg #[.int .i64 c, .int .i64 d, .slice aW nW cW, .slice (some ⟨gG, 0, none⟩) nG cG, .slice none 0 0]) rfl (by kernel_rfl) (by kernel_rfl) (by kernel_rfl) (fun _ _ _ h => h) (Or.inl ⟨by rfl, ?_⟩) (by assumption) ?_
          · intro wx hSw; obtain ⟨hcS, hfS⟩ := bcellN hSw; go_simp
          try simp only [Act.put, List.setIfInBounds_toArray, List.set_cons_zero, List.set_cons_succ, List.getElem_toArray, List.getElem_cons_zero, List.getElem_cons_succ]
          refine wpAnyH_ready (rs := [12]) (by kernel_rfl) (by simp) ?_
          refine (AllReadyH.cons rfl (fun K hK => ?_) AllReadyH.nil)
          have r0 := (hZC.2 0 (by simp)).1
          have r1 := (hZC.2 1 (by simp)).1
          have r2 := (hZC.2 2 (by simp)).1
          have r3 := (hZC.2 3 (by simp)).1
          have r4 := (hZC.2 4 (by simp)).1
          have f0 := (hZC.2 0 (by simp)).2
          have f1 := (hZC.2 1 (by simp)).2
          have f2 := (hZC.2 2 (by simp)).2
          have f3 := (hZC.2 3 (by simp)).2
          have f4 := (hZC.2 4 (by simp)).2
          simp only [List.getD, List.getElem?_cons_zero, List.getElem?_cons_succ, Option.getD_some] at r0 r1 r2 r3 r4
          have lZC := hZC.1
          have hkC : w1.heap.size ≤ C := by omega
          go_simp
          obtain ⟨XSC, eS⟩ : ∃ X, X = (((((XP2.setCell ⟨C, 0, none⟩ (.int .i64 c)).setCell ⟨C, 1, none⟩ (.int .i64 d)).setCell ⟨C, 2, none⟩ (.slice aW nW cW)).setCell ⟨C, 3, none⟩ (.slice (some ⟨gG, 0, none⟩) nG cG)).setCell ⟨C, 4, none⟩ (.slice none 0 0)) := ⟨_, rfl⟩
          rw [← eS]
          have hPC : Bk XSC C [.int .i64 c, .int .i64 d, .slice aW nW cW, .slice (some ⟨gG, 0, none⟩) nG cG, .slice none 0 0] := by rw [eS]; exact bk_put (l := [.int .i64 c, .int .i64 d, .slice aW nW cW, .slice (some ⟨gG, 0, none⟩) nG cG, .slice none 0 0]) hZC rfl
          have hzC1 : XSC.heap.size ≤ XP2.heap.size := by rw [eS]; exact Nat.le_of_eq (size_put C [.int .i64 c, .int .i64 d, .slice aW nW cW, .slice (some ⟨gG, 0, none⟩) nG cG, .slice none 0 0] 0 XP2)
          have hzC2 : XP2.heap.size ≤ XSC.heap.size := by rw [eS]; exact Nat.le_of_eq (size_put C [.int .i64 c, .int .i64 d, .slice aW nW cW, .slice (some ⟨gG, 0, none⟩) nG cG, .slice none 0 0] 0 XP2).symm
          have hmC : ∀ b, ¬ b = C → Sm XP2 XSC b := by rw [eS]; exact fun b hb => sm_put hb [.int .i64 c, .int .i64 d, .slice aW nW cW, .slice (some ⟨gG, 0, none⟩) nG cG, .slice none 0 0] 0 XP2
          have hBC : Below (w1.heap.size) w1 XSC := by rw [eS]; exact below_put hkC [.int .i64 c, .int .i64 d, .slice aW nW cW, .slice (some ⟨gG, 0, none⟩) nG cG, .slice none 0 0] 0 hHeld
          clear eS r0 f0 r1 f1 r2 f2 r3 f3 r4 f4
          replace hO1 := hO1.sm hzC2 (fun q1' q2' => hmC gW (by omega))
          replace hO2 := own1_sm hO2 (hmC gG (by omega))
          refine hK.out _ _ hBC (fun hNew => ?_)
          clear hK K hHeld
          have hHeld := hNew
          clear hNew
          try simp only [Act.put, List.setIfInBounds_toArray, List.set_cons_zero, List.set_cons_succ, List.getElem_toArray, List.getElem_cons_zero, List.getElem_cons_succ]
          refine wpAnyH_done (by kernel_rfl) ?_ _
          go_wp2
          go_meet
          case rel => exact ⟨C, gW, gG, aW, cW, cG, t1, rfl, hPC, hO1, hO2, ⟨by omega, by omega, by omega, by omega, by omega, by omega, by omega, by omega, by omega⟩, hHeld⟩
        · go_simp
          obtain ⟨XL2, eA⟩ : ∃ X, X = XL1.alloc (.cells #[] 3) := ⟨_, rfl⟩
          rw [← eA]
          have hbA : Below XL1.heap.size XL1 XL2 := by rw [eA]; exact (Below.refl _ _).alloc (Nat.le_refl _) _
          have hL2 : XL2.ownsRow w1.heap.size 3 1 (.slice (some ⟨XL1.heap.size, 0, none⟩) 0 0) 0 [] := by rw [eA]; exact World.ownsRow_lit XL1 #[] 0 (by omega) (by simp) (by simp)
          have hzA21 : XL2.heap.size ≤ XL1.heap.size + 1 := by rw [eA]; simp
          have hzA22 : XL1.heap.size + 1 ≤ XL2.heap.size := by rw [eA]; simp
          clear eA
          replace hZC := hZC.below hbA
          replace hL1 := own_keep hL1 hbA
          have hsz_XL2 := hbA.size
          refine hK.out _ _ (bthenN hHeld (by omega) hbA) (fun hNew => ?_)
          clear hK K hHeld
          have hHeld := hNew
          clear hNew
          try simp only [Act.put, List.setIfInBounds_toArray, List.set_cons_zero, List.set_cons_succ, List.getElem_toArray, List.getElem_cons_zero, List.getElem_cons_succ]
          clear hbA
          obtain ⟨q2, eq2⟩ : ∃ g, g = XL1.heap.size := ⟨_, rfl⟩
          rw [← eq2] at hL2 ⊢
          have eq21 : q2 ≤ XL1.heap.size := by omega
          have eq22 : XL1.heap.size ≤ q2 := by omega
          clear eq2
          refine wpAnyH_ready (rs := [5]) (by kernel_rfl) (by simp) ?_
          refine (AllReadyH.cons rfl (fun K hK => ?_) AllReadyH.nil)
          rw [if_pos (by rfl)]
          have hnn : Hid (∀ j u, ((List.range nW).flatMap (P6.rowK Z))[j]? = some u → XL2.cell? ((⟨b1, 0, none⟩ : Addr).add j) = some u) := rowK_cells (fun k j hk hj => ((bcellN (n := w1.heap.size) hHeld).1 b1 _ (by omega)).trans (R1.out k j hk hj))
          refine app_at (z := .agg #[.int .i64 0, .int .i64 0, .int .i64 0, .int .i64 0, .int .i64 0, .bool false]) _ _ rfl Try.underlying32 Try.info52 rfl (by decide) (by decide) w1.heap.size 0 _ [] rfl hL1 ⟨b1, 0, none⟩ nW nW ((List.range nW).flatMap (P6.rowK Z)) rfl (rowK_len _ _) hnn.out (rowK_one _ _) (by omega) (by omega) ?_
          intro v1 XP1 hown1 hg1 hat1
          have hsz1 := hg1.size
          clear hnn
          rw [Nat.zero_add, List.nil_append] at hown1
          obtain ⟨gW, hO1, hgw⟩ := rw_of_own hown1 0
          obtain ⟨aW, cW, ev1, _⟩ := row_of_rw hO1
          have hgq1 : (gW = 0 ∨ gW = q1 ∨ gW = XL2.heap.size) ∧ (gW = 0 ∨ gW < XP1.heap.size) := by
            rcases hgw with ⟨_, h⟩ | ⟨h, h2⟩
            · exact ⟨.inl h, .inl h⟩
            · rw [h] at hat1
              rcases hat1 with h3 | h3
              · exact ⟨.inr (.inl (Option.some.inj h3)), .inr h2⟩
              · exact ⟨.inr (.inr (Option.some.inj h3)), .inr h2⟩
          subst ev1
          obtain ⟨t1, et1⟩ : ∃ t, t = XP1.heap.size := ⟨_, rfl⟩
          rw [← et1] at hO1
          have t1a : t1 ≤ XP1.heap.size := by omega
          clear et1 hgw
          have hbX : Below (w1.heap.size) XL2 XP1 := (Below.refl _ _).grown hg1 (by omega) (fun kk e => by have e2 : q1 = kk := Option.some.inj e; omega)
          have hsmX : ∀ b, b < XL2.heap.size → ¬ b = q1 → Sm XL2 XP1 b := fun b hb hne => sm_grown hg1 hb (fun e => hne (Option.some.inj e))
          replace hZC := hZC.sm hsz1 (hsmX C (by omega) (by omega))
          replace hL2 := World.ownsRow.kept hL2 hg1 (.inr (fun e => by have e2 : q2 = q1 := Option.some.inj e; omega))
          refine hK.out _ _ (hHeld.trans hbX) (fun hNew => ?_)
          clear hK K hHeld
          have hHeld := hNew
          clear hNew
          try simp only [Act.put, List.setIfInBounds_toArray, List.set_cons_zero, List.set_cons_succ, List.getElem_toArray, List.getElem_cons_zero, List.getElem_cons_succ]
          clear hbX hsmX hown1 hg1 hat1
          refine wpAnyH_ready (rs := [9]) (by kernel_rfl) (by simp) ?_
          refine (AllReadyH.cons rfl (fun K hK => ?_) AllReadyH.nil)
          rw [if_pos (by rfl)]
          have hnn : Hid (∀ j u, ((List.range nG).flatMap (one1 G))[j]? = some u → XP1.cell? ((⟨b2, 0, none⟩ : Addr).add j) = some u) := one11_cells (fun k hk => ((bcellN (n := w1.heap.size) hHeld).1 b2 _ (by omega)).trans (R2.out k hk))
          refine app_at (z := .int .i64 0) _ _ rfl Try.underlying25 Try.info3 rfl (by decide) (by decide) w1.heap.size 0 _ [] rfl hL2 ⟨b2, 0, none⟩ nG nG ((List.range nG).flatMap (one1 G)) rfl (one11_len _ _) hnn.out (one11_one _ _) (by omega) (by omega) ?_
          intro v2 XP2 hown2 hg2 hat2
          have hsz2 := hg2.size
          clear hnn
          rw [Nat.zero_add, List.nil_append] at hown2
          obtain ⟨gG, cG, rfl, j21, j22, hO2⟩ := own1_of_row p1 hown2
          have hgq2 : gG = q2 ∨ gG = XP1.heap.size := by
            rcases hat2 with h | h
            · exact .inl (Option.some.inj h)
            · exact .inr (Option.some.inj h)
          have hbX : Below (w1.heap.size) XP1 XP2 := (Below.refl _ _).grown hg2 (by omega) (fun kk e => by have e2 : q2 = kk := Option.some.inj e; omega)
          have hsmX : ∀ b, b < XP1.heap.size → ¬ b = q2 → Sm XP1 XP2 b := fun b hb hne => sm_grown hg2 hb (fun e => hne (Option.some.inj e))
          replace hZC := hZC.sm hsz2 (hsmX C (by omega) (by omega))
          replace hO1 := hO1.sm hsz2 (fun q1' q2' => hsmX gW (by omega) (by omega))
          refine hK.out _ _ (hHeld.trans hbX) (fun hNew => ?_)
          clear hK K hHeld
          have hHeld := hNew
          clear hNew
          try simp only [Act.put, List.setIfInBounds_toArray, List.set_cons_zero, List.set_cons_succ, List.getElem_toArray, List.getElem_cons_zero, List.getElem_cons_succ]
          clear hbX hsmX hown2 hg2 hat2
          refine wpAnyH_take (i := 10) (v := .agg #[.int .i64 c, .int .i64 d, .slice aW nW cW, .slice (some ⟨gG, 0, none⟩) nG cG, .slice none 0 0]) rfl (by kernel_rfl) (by kernel_rfl) (by kernel_rfl) (fun _ _ _ h => h) (Or.inl ⟨by rfl, ?_⟩) (by assumption) ?_
          · intro wx hSw; obtain ⟨hcS, hfS⟩ := bcellN hSw; go_simp
          try simp only [Act.put, List.setIfInBounds_toArray, List.set_cons_zero, List.set_cons_succ, List.getElem_toArray, List.getElem_cons_zero, List.getElem_cons_succ]
          refine wpAnyH_ready (rs := [12]) (by kernel_rfl) (by simp) ?_
          refine (AllReadyH.cons rfl (fun K hK => ?_) AllReadyH.nil)
          have r0 := (hZC.2 0 (by simp)).1
          have r1 := (hZC.2 1 (by simp)).1
          have r2 := (hZC.2 2 (by simp)).1
          have r3 := (hZC.2 3 (by simp)).1
          have r4 := (hZC.2 4 (by simp)).1
          have f0 := (hZC.2 0 (by simp)).2
          have f1 := (hZC.2 1 (by simp)).2
          have f2 := (hZC.2 2 (by simp)).2
          have f3 := (hZC.2 3 (by simp)).2
          have f4 := (hZC.2 4 (by simp)).2
          simp only [List.getD, List.getElem?_cons_zero, List.getElem?_cons_succ, Option.getD_some] at r0 r1 r2 r3 r4
          have lZC := hZC.1
          have hkC : w1.heap.size ≤ C := by omega
          go_simp
          obtain ⟨XSC, eS⟩ : ∃ X, X = (((((XP2.setCell ⟨C, 0, none⟩ (.int .i64 c)).setCell ⟨C, 1, none⟩ (.int .i64 d)).setCell ⟨C, 2, none⟩ (.slice aW nW cW)).setCell ⟨C, 3, none⟩ (.slice (some ⟨gG, 0, none⟩) nG cG)).setCell ⟨C, 4, none⟩ (.slice none 0 0)) := ⟨_, rfl⟩
          rw [← eS]
          have hPC : Bk XSC C [.int .i64 c, .int .i64 d, .slice aW nW cW, .slice (some ⟨gG, 0, none⟩) nG cG, .slice none 0 0] := by rw [eS]; exact bk_put (l := [.int .i64 c, .int .i64 d, .slice aW nW cW, .slice (some ⟨gG, 0, none⟩) nG cG, .slice none 0 0]) hZC rfl
          have hzC1 : XSC.heap.size ≤ XP2.heap.size := by rw [eS]; exact Nat.le_of_eq (size_put C [.int .i64 c, .int .i64 d, .slice aW nW cW, .slice (some ⟨gG, 0, none⟩) nG cG, .slice none 0 0] 0 XP2)
          have hzC2 : XP2.heap.size ≤ XSC.heap.size := by rw [eS]; exact Nat.le_of_eq (size_put C [.int .i64 c, .int .i64 d, .slice aW nW cW, .slice (some ⟨gG, 0, none⟩) nG cG, .slice none 0 0] 0 XP2).symm
          have hmC : ∀ b, ¬ b = C → Sm XP2 XSC b := by rw [eS]; exact fun b hb => sm_put hb [.int .i64 c, .int .i64 d, .slice aW nW cW, .slice (some ⟨gG, 0, none⟩) nG cG, .slice none 0 0] 0 XP2
          have hBC : Below (w1.heap.size) w1 XSC := by rw [eS]; exact below_put hkC [.int .i64 c, .int .i64 d, .slice aW nW cW, .slice (some ⟨gG, 0, none⟩) nG cG, .slice none 0 0] 0 hHeld
          clear eS r0 f0 r1 f1 r2 f2 r3 f3 r4 f4
          replace hO1 := hO1.sm hzC2 (fun q1' q2' => hmC gW (by omega))
          replace hO2 := own1_sm hO2 (hmC gG (by omega))
          refine hK.out _ _ hBC (fun hNew => ?_)
          clear hK K hHeld
          have hHeld := hNew
          clear hNew
          try simp only [Act.put, List.setIfInBounds_toArray, List.set_cons_zero, List.set_cons_succ, List.getElem_toArray, List.getElem_cons_zero, List.getElem_cons_succ]
          refine wpAnyH_done (by kernel_rfl) ?_ _
          go_wp2
          go_meet
          case rel => exact ⟨C, gW, gG, aW, cW, cG, t1, rfl, hPC, hO1, hO2, ⟨by omega, by omega, by omega, by omega, by omega, by omega, by omega, by omega, by omega⟩, hHeld⟩
      · go_simp
        obtain ⟨XL2, eA⟩ : ∃ X, X = XC.alloc (.cells #[] 3) := ⟨_, rfl⟩
        rw [← eA]
        have hbA : Below XC.heap.size XC XL2 := by rw [eA]; exact (Below.refl _ _).alloc (Nat.le_refl _) _
        have hL2 : XL2.ownsRow w1.heap.size 3 1 (.slice (some ⟨XC.heap.size, 0, none⟩) 0 0) 0 [] := by rw [eA]; exact World.ownsRow_lit XC #[] 0 (by omega) (by simp) (by simp)
        have hzA21 : XL2.heap.size ≤ XC.heap.size + 1 := by rw [eA]; simp
        have hzA22 : XC.heap.size + 1 ≤ XL2.heap.size := by rw [eA]; simp
        clear eA
        replace hZC := hZC.below hbA
        have hsz_XL2 := hbA.size
        refine hK.out _ _ (bthenN hHeld (by omega) hbA) (fun hNew => ?_)
        clear hK K hHeld
        have hHeld := hNew
        clear hNew
        try simp only [Act.put, List.setIfInBounds_toArray, List.set_cons_zero, List.set_cons_succ, List.getElem_toArray, List.getElem_cons_zero, List.getElem_cons_succ]
        clear hbA
        obtain ⟨q2, eq2⟩ : ∃ g, g = XC.heap.size := ⟨_, rfl⟩
        rw [← eq2] at hL2 ⊢
        have eq21 : q2 ≤ XC.heap.size := by omega
        have eq22 : XC.heap.size ≤ q2 := by omega
        clear eq2
        refine wpAnyH_ready (rs := [2]) (by kernel_rfl) (by simp) ?_
        refine (AllReadyH.cons rfl (fun K hK => ?_) AllReadyH.nil)
        go_simp
        obtain ⟨XL1, eA⟩ : ∃ X, X = XL2.alloc (.cells #[] 52) := ⟨_, rfl⟩
        rw [← eA]
        have hbA : Below XL2.heap.size XL2 XL1 := by rw [eA]; exact (Below.refl _ _).alloc (Nat.le_refl _) _
        have hL1 : XL1.ownsRow w1.heap.size 52 6 (.slice (some ⟨XL2.heap.size, 0, none⟩) 0 0) 0 [] := by rw [eA]; exact World.ownsRow_lit XL2 #[] 0 (by omega) (by simp) (by simp)
        have hzA11 : XL1.heap.size ≤ XL2.heap.size + 1 := by rw [eA]; simp
        have hzA12 : XL2.heap.size + 1 ≤ XL1.heap.size := by rw [eA]; simp
        clear eA
        replace hZC := hZC.below hbA
        replace hL2 := own_keep hL2 hbA
        have hsz_XL1 := hbA.size
        refine hK.out _ _ (bthenN hHeld (by omega) hbA) (fun hNew => ?_)
        clear hK K hHeld
        have hHeld := hNew
        clear hNew
        try simp only [Act.put, List.setIfInBounds_toArray, List.set_cons_zero, List.set_cons_succ, List.getElem_toArray, List.getElem_cons_zero, List.getElem_cons_succ]
        clear hbA
        obtain ⟨q1, eq1⟩ : ∃ g, g = XL2.heap.size := ⟨_, rfl⟩
        rw [← eq1] at hL1 ⊢
        have eq11 : q1 ≤ XL2.heap.size := by omega
        have eq12 : XL2.heap.size ≤ q1 := by omega
        clear eq1
        refine wpAnyH_ready (rs := [5]) (by kernel_rfl) (by simp) ?_
        refine (AllReadyH.cons rfl (fun K hK => ?_) AllReadyH.nil)
        rw [if_pos (by rfl)]
        have hnn : Hid (∀ j u, ((List.range nW).flatMap (P6.rowK Z))[j]? = some u → XL1.cell? ((⟨b1, 0, none⟩ : Addr).add j) = some u) := rowK_cells (fun k j hk hj => ((bcellN (n := w1.heap.size) hHeld).1 b1 _ (by omega)).trans (R1.out k j hk hj))
        refine app_at (z := .agg #[.int .i64 0, .int .i64 0, .int .i64 0, .int .i64 0, .int .i64 0, .bool false]) _ _ rfl Try.underlying32 Try.info52 rfl (by decide) (by decide) w1.heap.size 0 _ [] rfl hL1 ⟨b1, 0, none⟩ nW nW ((List.range nW).flatMap (P6.rowK Z)) rfl (rowK_len _ _) hnn.out (rowK_one _ _) (by omega) (by omega) ?_
        intro v1 XP1 hown1 hg1 hat1
        have hsz1 := hg1.size
        clear hnn
        rw [Nat.zero_add, List.nil_append] at hown1
        obtain ⟨gW, hO1, hgw⟩ := rw_of_own hown1 0
        obtain ⟨aW, cW, ev1, _⟩ := row_of_rw hO1
        have hgq1 : (gW = 0 ∨ gW = q1 ∨ gW = XL1.heap.size) ∧ (gW = 0 ∨ gW < XP1.heap.size) := by
          rcases hgw with ⟨_, h⟩ | ⟨h, h2⟩
          · exact ⟨.inl h, .inl h⟩
          · rw [h] at hat1
            rcases hat1 with h3 | h3
            · exact ⟨.inr (.inl (Option.some.inj h3)), .inr h2⟩
            · exact ⟨.inr (.inr (Option.some.inj h3)), .inr h2⟩
        subst ev1
        obtain ⟨t1, et1⟩ : ∃ t, t = XP1.heap.size := ⟨_, rfl⟩
        rw [← et1] at hO1
        have t1a : t1 ≤ XP1.heap.size := by omega
        clear et1 hgw
        have hbX : Below (w1.heap.size) XL1 XP1 := (Below.refl _ _).grown hg1 (by omega) (fun kk e => by have e2 : q1 = kk := Option.some.inj e; omega)
        have hsmX : ∀ b, b < XL1.heap.size → ¬ b = q1 → Sm XL1 XP1 b := fun b hb hne => sm_grown hg1 hb (fun e => hne (Option.some.inj e))
        replace hZC := hZC.sm hsz1 (hsmX C (by omega) (by omega))
        replace hL2 := World.ownsRow.kept hL2 hg1 (.inr (fun e => by have e2 : q2 = q1 := Option.some.inj e; omega))
        refine hK.out _ _ (hHeld.trans hbX) (fun hNew => ?_)
        clear hK K hHeld
        have hHeld := hNew
        clear hNew
        try simp only [Act.put, List.setIfInBounds_toArray, List.set_cons_zero, List.set_cons_succ, List.getElem_toArray, List.getElem_cons_zero, List.getElem_cons_succ]
        clear hbX hsmX hown1 hg1 hat1
        refine wpAnyH_ready (rs := [9]) (by kernel_rfl) (by simp) ?_
        refine (AllReadyH.cons rfl (fun K hK => ?_) AllReadyH.nil)
        rw [if_pos (by rfl)]
        have hnn : Hid (∀ j u, ((List.range nG).flatMap (one1 G))[j]? = some u → XP1.cell? ((⟨b2, 0, none⟩ : Addr).add j) = some u) := one11_cells (fun k hk => ((bcellN (n := w1.heap.size) hHeld).1 b2 _ (by omega)).trans (R2.out k hk))
        refine app_at (z := .int .i64 0) _ _ rfl Try.underlying25 Try.info3 rfl (by decide) (by decide) w1.heap.size 0 _ [] rfl hL2 ⟨b2, 0, none⟩ nG nG ((List.range nG).flatMap (one1 G)) rfl (one11_len _ _) hnn.out (one11_one _ _) (by omega) (by omega) ?_
        intro v2 XP2 hown2 hg2 hat2
        have hsz2 := hg2.size
        clear hnn
        rw [Nat.zero_add, List.nil_append] at hown2
        obtain ⟨gG, cG, rfl, j21, j22, hO2⟩ := own1_of_row p1 hown2
        have hgq2 : gG = q2 ∨ gG = XP1.heap.size := by
          rcases hat2 with h | h
          · exact .inl (Option.some.inj h)
          · exact .inr (Option.some.inj h)
        have hbX : Below (w1.heap.size) XP1 XP2 := (Below.refl _ _).grown hg2 (by omega) (fun kk e => by have e2 : q2 = kk := Option.some.inj e; omega)
        have hsmX : ∀ b, b < XP1.heap.size → ¬ b = q2 → Sm XP1 XP2 b := fun b hb hne => sm_grown hg2 hb (fun e => hne (Option.some.inj e))
        replace hZC := hZC.sm hsz2 (hsmX C (by omega) (by omega))
        replace hO1 := hO1.sm hsz2 (fun q1' q2' => hsmX gW (by omega) (by omega))
        refine hK.out _ _ (hHeld.trans hbX) (fun hNew => ?_)
        clear hK K hHeld
        have hHeld := hNew
        clear hNew
        try simp only [Act.put, List.setIfInBounds_toArray, List.set_cons_zero, List.set_cons_succ, List.getElem_toArray, List.getElem_cons_zero, List.getElem_cons_succ]
        clear hbX hsmX hown2 hg2 hat2
        refine wpAnyH_take (i := 10) (v := .agg #[.int .i64 c, .int .i64 d, .slice aW nW cW, .slice (some ⟨gG, 0, none⟩) nG cG, .slice none 0 0]) rfl (by kernel_rfl) (by kernel_rfl) (by kernel_rfl) (fun _ _ _ h => h) (Or.inl ⟨by rfl, ?_⟩) (by assumption) ?_
        · intro wx hSw; obtain ⟨hcS, hfS⟩ := bcellN hSw; go_simp
        try simp only [Act.put, List.setIfInBounds_toArray, List.set_cons_zero, List.set_cons_succ, List.getElem_toArray, List.getElem_cons_zero, List.getElem_cons_succ]
        refine wpAnyH_ready (rs := [12]) (by kernel_rfl) (by simp) ?_
        refine (AllReadyH.cons rfl (fun K hK => ?_) AllReadyH.nil)
        have r0 := (hZC.2 0 (by simp)).1
        have r1 := (hZC.2 1 (by simp)).1
        have r2 := (hZC.2 2 (by simp)).1
        have r3 := (hZC.2 3 (by simp)).1
        have r4 := (hZC.2 4 (by simp)).1
        have f0 := (hZC.2 0 (by simp)).2
        have f1 := (hZC.2 1 (by simp)).2
        have f2 := (hZC.2 2 (by simp)).2
        have f3 := (hZC.2 3 (by simp)).2
        have f4 := (hZC.2 4 (by simp)).2
        simp only [List.getD, List.getElem?_cons_zero, List.getElem?_cons_succ, Option.getD_some] at r0 r1 r2 r3 r4
        have lZC := hZC.1
        have hkC : w1.heap.size ≤ C := by omega
        go_simp
        obtain ⟨XSC, eS⟩ : ∃ X, X = (((((XP2.setCell ⟨C, 0, none⟩ (.int .i64 c)).setCell ⟨C, 1, none⟩ (.int .i64 d)).setCell ⟨C, 2, none⟩ (.slice aW nW cW)).setCell ⟨C, 3, none⟩ (.slice (some ⟨gG, 0, none⟩) nG cG)).setCell ⟨C, 4, none⟩ (.slice none 0 0)) := ⟨_, rfl⟩
        rw [← eS]
        have hPC : Bk XSC C [.int .i64 c, .int .i64 d, .slice aW nW cW, .slice (some ⟨gG, 0, none⟩) nG cG, .slice none 0 0] := by rw [eS]; exact bk_put (l := [.int .i64 c, .int .i64 d, .slice aW nW cW, .slice (some ⟨gG, 0, none⟩) nG cG, .slice none 0 0]) hZC rfl
        have hzC1 : XSC.heap.size ≤ XP2.heap.size := by rw [eS]; exact Nat.le_of_eq (size_put C [.int .i64 c, .int .i64 d, .slice aW nW cW, .slice (some ⟨gG, 0, none⟩) nG cG, .slice none 0 0] 0 XP2)
        have hzC2 : XP2.heap.size ≤ XSC.heap.size := by rw [eS]; exact Nat.le_of_eq (size_put C [.int .i64 c, .int .i64 d, .slice aW nW cW, .slice (some ⟨gG, 0, none⟩) nG cG, .slice none 0 0] 0 XP2).symm
        have hmC : ∀ b, ¬ b = C → Sm XP2 XSC b := by rw [eS]; exact fun b hb => sm_put hb [.int .i64 c, .int .i64 d, .slice aW nW cW, .slice (some ⟨gG, 0, none⟩) nG cG, .slice none 0 0] 0 XP2
        have hBC : Below (w1.heap.size) w1 XSC := by rw [eS]; exact below_put hkC [.int .i64 c, .int .i64 d, .slice aW nW cW, .slice (some ⟨gG, 0, none⟩) nG cG, .slice none 0 0] 0 hHeld
        clear eS r0 f0 r1 f1 r2 f2 r3 f3 r4 f4
        replace hO1 := hO1.sm hzC2 (fun q1' q2' => hmC gW (by omega))
        replace hO2 := own1_sm hO2 (hmC gG (by omega))
        refine hK.out _ _ hBC (fun hNew => ?_)
        clear hK K hHeld
        have hHeld := hNew
        clear hNew
        try simp only [Act.put, List.setIfInBounds_toArray, List.set_cons_zero, List.set_cons_succ, List.getElem_toArray, List.getElem_cons_zero, List.getElem_cons_succ]
        refine wpAnyH_done (by kernel_rfl) ?_ _
        go_wp2
        go_meet
        case rel => exact ⟨C, gW, gG, aW, cW, cG, t1, rfl, hPC, hO1, hO2, ⟨by omega, by omega, by omega, by omega, by omega, by omega, by omega, by omega, by omega⟩, hHeld⟩
  case rest =>
    obtain ⟨w2, hw2⟩ : ∃ w4, w4 = wc := ⟨_, rfl⟩
    subst hw2
    obtain ⟨C, gW, gG, aW, cW, cG, t, rfl, hC, hW, hG, ⟨j1, j2, j3, j4, j5, j6, j7, j8, j9⟩, hb2⟩ := hcut
    clear yA0 yA1 yA2 yA3 yA4 hlA
    have y_w2 : w1.heap.size ≤ w2.heap.size := hb2.size
    have B4 : Hid (Below w.heap.size w w2) := bthen B1.out hb2
    have A4 : Hid (Bk w2 w.heap.size [.int .i64 c, .int .i64 d, .slice (some ⟨b1, 0, none⟩) nW nW, .slice (some ⟨b2, 0, none⟩) nG nG, .slice (some ⟨b3, 0, none⟩) nA nA]) := A2.out.below hb2
    have R4 : Hid (Bk w2 (w.heap.size + 1) [.int .i64 0, .int .i64 0, .slice none 0 0, .slice none 0 0, .slice none 0 0]) := R3.out.below hb2
    clear B1 A2 R3
    clear hb2
    have lC := hC.1
    obtain ⟨bs, ebs⟩ : ∃ b, b = w2.heap.size := ⟨_, rfl⟩
    have bs1 : bs ≤ w2.heap.size := by omega
    have bs2 : w2.heap.size ≤ bs := by omega
    clear ebs
    go_wp2_with fail
    go_loopw [4] (fun i wr => ∃ (k : Nat) (a : Option Addr) (l cp : Nat) (sl : Nat → Value) (xs : Nat → Nat), k ≤ nA ∧ i = .int .i64 k ∧ Bk wr C [.int .i64 c, .int .i64 d, .slice aW nW cW, .slice (some ⟨gG, 0, none⟩) nG cG, .slice a l cp] ∧ RW w1.heap.size t wr (.slice aW nW cW) nW Z gW ∧ Own1 wr gG nG G nG ∧ wr.ownsRow bs 25 1 (.slice a l cp) k ((List.range k).flatMap (oneS sl)) ∧ Cps bs wr sl xs N O (Value.ownBlock (.slice a l cp)) k ∧ Bk wr w.heap.size [.int .i64 c, .int .i64 d, .slice (some ⟨b1, 0, none⟩) nW nW, .slice (some ⟨b2, 0, none⟩) nG nG, .slice (some ⟨b3, 0, none⟩) nA nA] ∧ Bk wr (w.heap.size + 1) [.int .i64 0, .int .i64 0, .slice none 0 0, .slice none 0 0, .slice none 0 0] ∧ Below w.heap.size w wr ∧ bs ≤ wr.heap.size) (fun i _ => nA - (intOf i).toNat)
    case atStart => exact ⟨0, none, 0, 0, fun _ => undef, fun _ => 0, Nat.zero_le _, rfl, hC, hW, hG, ⟨rfl, .inl ⟨rfl, rfl⟩⟩, ⟨fun j hj => absurd hj (by omega), fun i j hi => absurd hi (by omega)⟩, A4.out, R4.out, B4.out, bs1⟩
    case round =>
      clear A4 R4 B4 hC hW hG
      obtain ⟨k, a, l, cp, sl, xs, hk, rfl, hKb, hW, hG, hO, hCp, hA, hR, hB, hz⟩ := hrel
      by_cases hkn : k < nA
      · have hkn' : (k : Int) < nA := by omega
        obtain ⟨hr1⟩ : Nonempty (∀ k, k < nA → ∃ x c, w.cell? ⟨b3, 0 + k, none⟩ = some (.slice x (N k) c) ∧ Row1 w x (N k) (O k)) := by
          rcases H3.out with h | ⟨b', o', e, _, h⟩
          · omega
          · simp at e
            obtain ⟨rfl, rfl⟩ := e
            exact ⟨h⟩
        obtain ⟨xa, xc, hc, hx⟩ := hr1 k hkn
        have hn2 := P3.out k hkn
        rw [hn2] at hc hx
        rw [Nat.zero_add] at hc
        obtain ⟨bx, ox, rfl, hbx, hrx⟩ : ∃ b o, xa = some ⟨b, o, none⟩ ∧ b < w.heap.size ∧ ∀ j, j < 2 → w.cell? ⟨b, o + j, none⟩ = some (.int .i64 (O k j)) := by
          rcases hx with h | h
          · omega
          · exact h
        have HRX : Hid (∀ j, j < 2 → w.cell? ⟨bx, ox + j, none⟩ = some (.int .i64 (O k j))) := hrx
        have HN2 : Hid (N k = 2) := hn2
        clear hr1 hx hrx hn2
        have d1 : wr.cell? ⟨b3, k, none⟩ = some (.slice (some ⟨bx, ox, none⟩) 2 xc) := (hB.cell (p := ⟨b3, k, none⟩) (by show b3 < _; omega)).trans hc
        clear hc
        have yA0 : wr.cell? ⟨w.heap.size, 0, none⟩ = some (.int .i64 c) := (hA.2 0 (by simp)).1
        have yA1 : wr.cell? ⟨w.heap.size, 1, none⟩ = some (.int .i64 d) := (hA.2 1 (by simp)).1
        have yA2 : wr.cell? ⟨w.heap.size, 2, none⟩ = some (.slice (some ⟨b1, 0, none⟩) nW nW) := (hA.2 2 (by simp)).1
        have yA3 : wr.cell? ⟨w.heap.size, 3, none⟩ = some (.slice (some ⟨b2, 0, none⟩) nG nG) := (hA.2 3 (by simp)).1
        have yA4 : wr.cell? ⟨w.heap.size, 4, none⟩ = some (.slice (some ⟨b3, 0, none⟩) nA nA) := (hA.2 4 (by simp)).1
        have ylA := hA.1
        have ylC := hKb.1
        have f1 : w.heap.size < w1.heap.size := by omega
        have f2 : b3 < w1.heap.size := by omega
        have QhKb : Hid (Bk wr C [.int .i64 c, .int .i64 d, .slice aW nW cW, .slice (some ⟨gG, 0, none⟩) nG cG, .slice a l cp]) := hKb
        have QhW : Hid (RW w1.heap.size t wr (.slice aW nW cW) nW Z gW) := hW
        have QhG : Hid (Own1 wr gG nG G nG) := hG
        have QhO : Hid (wr.ownsRow bs 25 1 (.slice a l cp) k ((List.range k).flatMap (oneS sl))) := hO
        have QhCp : Hid (Cps bs wr sl xs N O (Value.ownBlock (.slice a l cp)) k) := hCp
        have QhA : Hid (Bk wr w.heap.size [.int .i64 c, .int .i64 d, .slice (some ⟨b1, 0, none⟩) nW nW, .slice (some ⟨b2, 0, none⟩) nG nG, .slice (some ⟨b3, 0, none⟩) nA nA]) := hA
        have QhR : Hid (Bk wr (w.heap.size + 1) [.int .i64 0, .int .i64 0, .slice none 0 0, .slice none 0 0, .slice none 0 0]) := hR
        have QhB : Hid (Below w.heap.size w wr) := hB
        clear hKb hW hG hO hCp hA hR hB
        go_wp2
        have hKb := QhKb.out
        have hW := QhW.out
        have hG := QhG.out
        have hO := QhO.out
        have hCp := QhCp.out
        have hA := QhA.out
        have hR := QhR.out
        have hB := QhB.out
        clear QhKb QhW QhG QhO QhCp QhA QhR QhB
        refine wp_region_held_drew (S := fun w' => Below (w1.heap.size) wr w') (by kernel_rfl) ((Below.refl _ _).drew) ?_
        intro hHeld
        obtain ⟨X0, hX0⟩ : ∃ X, X = wr.drew := ⟨_, rfl⟩
        have hb0 : Below wr.heap.size wr X0 := by rw [hX0]; exact (Below.refl _ _).drew
        rw [← hX0] at hHeld ⊢
        clear hX0
        have j3r : gG < wr.heap.size := by omega
        have j5r : gW < wr.heap.size := by omega
        replace hKb := hKb.below hb0
        replace hW := hW.below hb0
        replace hG := own1_below hG (by omega) hb0
        replace hO := own_keep hO hb0
        replace hCp := hCp.sm hb0.size (fun j hj q1 q2 q3 => sm_below hb0 q2)
        replace hA := hA.below hb0
        replace hR := hR.below hb0
        replace hB := bthen hB hb0
        have hz_X0 := hb0.size
        clear hb0
        refine wpAnyH_take (i := 0) (v := .pointer (some ⟨C, 4, none⟩)) rfl (by kernel_rfl) (by kernel_rfl) (by kernel_rfl) (fun _ _ _ h => h) (Or.inl ⟨by rfl, ?_⟩) (by assumption) ?_
        · intro wx hSw; obtain ⟨hcS, hfS⟩ := bcellN hSw; go_simp
        try simp only [Act.put, List.setIfInBounds_toArray, List.set_cons_zero, List.set_cons_succ, List.getElem_toArray, List.getElem_cons_zero]
        refine wpAnyH_take (i := 3) (v := .pointer (some ⟨w.heap.size, 4, none⟩)) rfl (by kernel_rfl) (by kernel_rfl) (by kernel_rfl) (fun _ _ _ h => h) (Or.inl ⟨by rfl, ?_⟩) (by assumption) ?_
        · intro wx hSw; obtain ⟨hcS, hfS⟩ := bcellN hSw; go_simp
        try simp only [Act.put, List.setIfInBounds_toArray, List.set_cons_zero, List.set_cons_succ, List.getElem_toArray, List.getElem_cons_zero, List.getElem_cons_succ]
        refine wpAnyH_take (i := 4) (v := .slice (some ⟨b3, 0, none⟩) nA nA) rfl (by kernel_rfl) (by kernel_rfl) (by kernel_rfl) (fun _ _ _ h => h) (Or.inl ⟨by rfl, ?_⟩) (by assumption) ?_
        · intro wx hSw; obtain ⟨hcS, hfS⟩ := bcellN hSw; go_simp
        try simp only [Act.put, List.setIfInBounds_toArray, List.set_cons_zero, List.set_cons_succ, List.getElem_toArray, List.getElem_cons_zero, List.getElem_cons_succ]
        refine wpAnyH_take (i := 5) (v := .int .i64 (k : Int)) rfl (by kernel_rfl) (by kernel_rfl) (by kernel_rfl) (fun _ _ _ h => h) (Or.inl ⟨by rfl, ?_⟩) (by assumption) ?_
        · intro wx hSw; obtain ⟨hcS, hfS⟩ := bcellN hSw; go_simp
        try simp only [Act.put, List.setIfInBounds_toArray, List.set_cons_zero, List.set_cons_succ, List.getElem_toArray, List.getElem_cons_zero, List.getElem_cons_succ]
        refine wpAnyH_take (i := 6) (v := .pointer (some ⟨b3, k, none⟩)) rfl (by kernel_rfl) (by kernel_rfl) (by kernel_rfl) (fun _ _ _ h => h) (Or.inl ⟨by rfl, ?_⟩) (by assumption) ?_
        · intro wx hSw; obtain ⟨hcS, hfS⟩ := bcellN hSw; go_simp
        try simp only [Act.put, List.setIfInBounds_toArray, List.set_cons_zero, List.set_cons_succ, List.getElem_toArray, List.getElem_cons_zero, List.getElem_cons_succ]
        refine wpAnyH_take (i := 7) (v := .slice (some ⟨bx, ox, none⟩) 2 xc) rfl (by kernel_rfl) (by kernel_rfl) (by kernel_rfl) (fun _ _ _ h => h) (Or.inl ⟨by rfl, ?_⟩) (by assumption) ?_
        · intro wx hSw; obtain ⟨hcS, hfS⟩ := bcellN hSw; go_simp
        try simp only [Act.put, List.setIfInBounds_toArray, List.set_cons_zero, List.set_cons_succ, List.getElem_toArray, List.getElem_cons_zero, List.getElem_cons_succ]
        refine wpAnyH_ready (rs := [1, 2]) (by kernel_rfl) (by simp) ?_
        refine (AllReadyH.cons rfl (fun K hK => ?_) (AllReadyH.cons rfl (fun K hK => ?_) AllReadyH.nil))
        · have kc := (hKb.2 4 (by simp)).1
          have kl := hKb.1
          simp only [List.getD, List.getElem?_cons_zero, List.getElem?_cons_succ, Option.getD_some] at kc
          go_simp
          clear kc kl
          refine hK.out _ _ hHeld (fun hNew => ?_)
          clear hK K hHeld
          have hHeld := hNew
          clear hNew
          try simp only [Act.put, List.setIfInBounds_toArray, List.set_cons_zero, List.set_cons_succ, List.getElem_toArray, List.getElem_cons_zero, List.getElem_cons_succ]
          refine wpAnyH_ready (rs := [2]) (by kernel_rfl) (by simp) ?_
          refine (AllReadyH.cons rfl (fun K hK => ?_) AllReadyH.nil)
          go_simp
          obtain ⟨X1, eA⟩ : ∃ X, X = X0.alloc (.cells #[] 3) := ⟨_, rfl⟩
          rw [← eA]
          have hbA : Below X0.heap.size X0 X1 := by rw [eA]; exact (Below.refl _ _).alloc (Nat.le_refl _) _
          have hL : X1.ownsRow bs 3 1 (.slice (some ⟨X0.heap.size, 0, none⟩) 0 0) 0 [] := by rw [eA]; exact World.ownsRow_lit X0 #[] 0 (by omega) (by simp) (by simp)
          have hzA2 : X0.heap.size + 1 ≤ X1.heap.size := by rw [eA]; simp
          clear eA
          have hvb : ∀ q, (Value.slice a l cp).ownBlock = some q → q < X0.heap.size := fun q e => (hO.lt q e).2
          have hxb : ∀ j, j < k → xs j < X0.heap.size := fun j hj => by obtain ⟨_, _, _, q, _⟩ := hCp.1 j hj; exact q
          replace hKb := hKb.below hbA
          replace hW := hW.below hbA
          replace hG := own1_below hG (by omega) hbA
          replace hO := own_keep hO hbA
          replace hCp := hCp.sm hbA.size (fun j hj q1 q2 q3 => sm_below hbA q2)
          replace hA := hA.below hbA
          replace hR := hR.below hbA
          replace hB := bthen hB hbA
          have hz_X1 := hbA.size
          refine hK.out _ _ (bthenN hHeld (by omega) hbA) (fun hNew => ?_)
          clear hK K hHeld
          have hHeld := hNew
          clear hNew
          try simp only [Act.put, List.setIfInBounds_toArray, List.set_cons_zero, List.set_cons_succ, List.getElem_toArray, List.getElem_cons_zero, List.getElem_cons_succ]
          clear hbA
          obtain ⟨q, eq⟩ : ∃ g, g = X0.heap.size := ⟨_, rfl⟩
          rw [← eq] at hL hvb hxb ⊢
          have eq1 : q ≤ X0.heap.size := by omega
          have eq2 : X0.heap.size ≤ q := by omega
          clear eq
          have HVB : Hid (∀ q', (Value.slice a l cp).ownBlock = some q' → q' < q) := hvb
          have HXB : Hid (∀ j, j < k → xs j < q) := hxb
          clear hvb hxb
          refine wpAnyH_ready (rs := [8]) (by kernel_rfl) (by simp) ?_
          refine (AllReadyH.cons rfl (fun K hK => ?_) AllReadyH.nil)
          rw [if_pos (by rfl)]
          have hnn : Hid (∀ j u, ((List.range 2).flatMap (one1 (O k)))[j]? = some u → X1.cell? ((⟨bx, ox, none⟩ : Addr).add j) = some u) := one11_cells (fun j hj => (hB.cell (p := ⟨bx, _, none⟩) hbx).trans (HRX.out j hj))
          refine app_at (z := .int .i64 0) _ _ rfl Try.underlying25 Try.info3 rfl (by decide) (by decide) bs 0 _ [] rfl hL ⟨bx, ox, none⟩ 2 xc ((List.range 2).flatMap (one1 (O k))) rfl (one11_len _ _) hnn.out (one11_one _ _) (by omega) (by omega) ?_
          intro v2 X2 hown2 hg2 hat2
          have hsz2 := hg2.size
          clear hnn
          rw [Nat.zero_add, List.nil_append] at hown2
          obtain ⟨g4, c4, rfl, j41, j42, hO4⟩ := own1_of_row (by omega) hown2
          have hgq4 : g4 = q ∨ g4 = X1.heap.size := by
            rcases hat2 with h | h
            · exact .inl (Option.some.inj h)
            · exact .inr (Option.some.inj h)
          have hbX : Below (w1.heap.size) X1 X2 := (Below.refl _ _).grown hg2 (by omega) (fun kk e => by have e2 : q = kk := Option.some.inj e; omega)
          have hsmX : ∀ b, b < X1.heap.size → ¬ b = q → Sm X1 X2 b := fun b hb hne => sm_grown hg2 hb (fun e => hne (Option.some.inj e))
          replace hKb := hKb.sm hsz2 (hsmX C (by omega) (by omega))
          replace hW := hW.sm hsz2 (fun q1' q2' => hsmX gW (by omega) (by omega))
          replace hG := own1_sm hG (hsmX gG (by omega) (by omega))
          replace hO := World.ownsRow.kept hO hg2 (.inr (fun e => by have := HVB.out q e; omega))
          replace hCp := hCp.sm hsz2 (fun j hj q1 q2 q3 => hsmX (xs j) q2 (by have := HXB.out j hj; omega))
          replace hA := hA.sm hsz2 (hsmX w.heap.size (by omega) (by omega))
          replace hR := hR.sm hsz2 (hsmX (w.heap.size + 1) (by omega) (by omega))
          replace hB := hB.trans (hbX.mono (by omega))
          refine hK.out _ _ (hHeld.trans hbX) (fun hNew => ?_)
          clear hK K hHeld
          have hHeld := hNew
          clear hNew
          try simp only [Act.put, List.setIfInBounds_toArray, List.set_cons_zero, List.set_cons_succ, List.getElem_toArray, List.getElem_cons_zero, List.getElem_cons_succ]
          clear hbX hsmX hown2 hg2 hat2 hL
          refine wpAnyH_ready (rs := [9]) (by kernel_rfl) (by simp) ?_
          refine (AllReadyH.cons rfl (fun K hK => ?_) AllReadyH.nil)
          go_simp
          obtain ⟨X3, e3⟩ : ∃ X, X = X2.alloc (.cells #[.slice (some ⟨g4, 0, none⟩) 2 c4] 25) := ⟨_, rfl⟩
          rw [← e3]
          have hb3 : Below X2.heap.size X2 X3 := by rw [e3]; exact (Below.refl _ _).alloc (Nat.le_refl _) _
          have hnn : Hid (∀ j u, [.slice (some ⟨g4, 0, none⟩) 2 c4][j]? = some u → X3.cell? ((⟨X2.heap.size, 0, none⟩ : Addr).add j) = some u) := by
            intro j u hj
            match j, hj with
            | 0, hj =>
              simp at hj
              subst hj
              rw [add_none, Nat.zero_add, e3]
              exact ((bk_new X2 25 [.slice (some ⟨g4, 0, none⟩) 2 c4]).2 0 (by simp)).1
            | j + 1, hj => simp at hj
          clear e3
          replace hKb := hKb.below hb3
          replace hW := hW.below hb3
          replace hG := own1_below hG (by omega) hb3
          replace hO := own_keep hO hb3
          replace hCp := hCp.sm hb3.size (fun j hj q1 q2 q3 => sm_below hb3 q2)
          replace hA := hA.below hb3
          replace hR := hR.below hb3
          replace hB := bthen hB hb3
          have hz_X3 := hb3.size
          replace hO4 := own1_below hO4 (by omega) hb3
          refine hK.out _ _ (bthenN hHeld (by omega) hb3) (fun hNew => ?_)
          clear hK K hHeld
          have hHeld := hNew
          clear hNew
          try simp only [Act.put, List.setIfInBounds_toArray, List.set_cons_zero, List.set_cons_succ, List.getElem_toArray, List.getElem_cons_zero, List.getElem_cons_succ]
          clear hb3
          refine wpAnyH_ready (rs := [10]) (by kernel_rfl) (by simp) ?_
          refine (AllReadyH.cons rfl (fun K hK => ?_) AllReadyH.nil)
          rw [if_pos (by rfl)]
          refine app_at (z := .slice none 0 0) _ _ rfl Try.underlying26 Try.info25 rfl (by decide) (by decide) bs k _ _ rfl hO ⟨X2.heap.size, 0, none⟩ 1 1 [.slice (some ⟨g4, 0, none⟩) 2 c4] rfl rfl hnn.out (by intro u hu; simp at hu; subst hu; rfl) (by omega) (by omega) ?_
          intro v5 X5 hown5 hg5 hat5
          have hsz5 := hg5.size
          obtain ⟨a5, l5, c5, ev5⟩ := own_shape hown5
          subst ev5
          obtain ⟨sl2, esl⟩ : ∃ s : Nat → Value, s = fun j => if j = k then .slice (some ⟨g4, 0, none⟩) 2 c4 else sl j := ⟨_, rfl⟩
          obtain ⟨xs2, exs⟩ : ∃ s : Nat → Nat, s = fun j => if j = k then g4 else xs j := ⟨_, rfl⟩
          have hbX : Below (w1.heap.size) X3 X5 := (Below.refl _ _).grown hg5 (by omega) (fun kk e => by have := (hO.lt kk e).1; omega)
          have hsmX : ∀ b, b < X3.heap.size → b < bs → Sm X3 X5 b := fun b hb hne => sm_grown hg5 hb (fun e => by have := (hO.lt b e.symm).1; omega)
          have hCp5 : Cps bs X5 sl2 xs2 N O (Value.ownBlock (.slice a5 l5 c5)) (k + 1) := cps_next hO hCp esl exs HN2.out hO4 (by omega) (by omega) (fun j hj => by have := HXB.out j hj; omega) (fun e => by have := HVB.out g4 e; omega) hg5 hat5
          have hO5 : X5.ownsRow bs 25 1 (.slice a5 l5 c5) (k + 1) ((List.range (k + 1)).flatMap (oneS sl2)) := by
            rw [List.range_succ, List.flatMap_append, ← oneS_eq (sl := sl) (fun j hj => by rw [esl]; simp [show ¬ j = k by omega])]
            have : (List.flatMap (oneS sl2) [k]) = [.slice (some ⟨g4, 0, none⟩) 2 c4] := by simp [oneS, esl]
            rw [this]
            exact hown5
          replace hKb := hKb.sm hsz5 (hsmX C (by omega) (by omega))
          replace hW := hW.sm hsz5 (fun q1' q2' => hsmX gW (by omega) (by omega))
          replace hG := own1_sm hG (hsmX gG (by omega) (by omega))
          replace hA := hA.sm hsz5 (hsmX w.heap.size (by omega) (by omega))
          replace hR := hR.sm hsz5 (hsmX (w.heap.size + 1) (by omega) (by omega))
          replace hB := hB.trans (hbX.mono (by omega))
          clear hO hCp hO4 esl exs hown5 hat5 hnn
          refine hK.out _ _ (hHeld.trans hbX) (fun hNew => ?_)
          clear hK K hHeld
          have hHeld := hNew
          clear hNew
          try simp only [Act.put, List.setIfInBounds_toArray, List.set_cons_zero, List.set_cons_succ, List.getElem_toArray, List.getElem_cons_zero, List.getElem_cons_succ]
          clear hbX hsmX hg5
          refine wpAnyH_take (i := 11) (v := .pointer (some ⟨C, 4, none⟩)) rfl (by kernel_rfl) (by kernel_rfl) (by kernel_rfl) (fun _ _ _ h => h) (Or.inl ⟨by rfl, ?_⟩) (by assumption) ?_
          · intro wx hSw; obtain ⟨hcS, hfS⟩ := bcellN hSw; go_simp
          try simp only [Act.put, List.setIfInBounds_toArray, List.set_cons_zero, List.set_cons_succ, List.getElem_toArray, List.getElem_cons_zero, List.getElem_cons_succ]
          refine wpAnyH_ready (rs := [12]) (by kernel_rfl) (by simp) ?_
          refine (AllReadyH.cons rfl (fun K hK => ?_) AllReadyH.nil)
          have kc := (hKb.2 4 (by simp)).1
          have kf := (hKb.2 4 (by simp)).2
          have kl := hKb.1
          simp only [List.getD, List.getElem?_cons_zero, List.getElem?_cons_succ, Option.getD_some] at kc
          go_simp
          clear kc kf
          obtain ⟨X6, e6⟩ : ∃ X, X = X5.setCell ⟨C, 4, none⟩ (.slice a5 l5 c5) := ⟨_, rfl⟩
          rw [← e6]
          replace hKb : Bk X6 C [.int .i64 c, .int .i64 d, .slice aW nW cW, .slice (some ⟨gG, 0, none⟩) nG cG, .slice a5 l5 c5] := by rw [e6]; exact Bk.set (j := 4) (v := .slice a5 l5 c5) hKb (by simp)
          replace hW := hW.sm (w' := X6) (by rw [e6, set_size]; exact Nat.le_refl _) (fun q1' q2' => by rw [e6]; exact smf (by omega))
          replace hG := own1_sm (w' := X6) hG (by rw [e6]; exact smf (by omega))
          replace hO5 : X6.ownsRow bs 25 1 (.slice a5 l5 c5) (k + 1) ((List.range (k + 1)).flatMap (oneS sl2)) := by rw [e6]; exact own_far hO5 (by omega)
          replace hCp5 := hCp5.sm (w' := X6) (by rw [e6, set_size]; exact Nat.le_refl _) (fun j hj q1 q2 q3 => by rw [e6]; exact smf (by omega))
          replace hA : Bk X6 w.heap.size [.int .i64 c, .int .i64 d, .slice (some ⟨b1, 0, none⟩) nW nW, .slice (some ⟨b2, 0, none⟩) nG nG, .slice (some ⟨b3, 0, none⟩) nA nA] := by rw [e6]; exact hA.far (by omega)
          replace hR : Bk X6 (w.heap.size + 1) [.int .i64 0, .int .i64 0, .slice none 0 0, .slice none 0 0, .slice none 0 0] := by rw [e6]; exact hR.far (by omega)
          replace hB : Below w.heap.size w X6 := by rw [e6]; exact hB.setCell (by show w.heap.size ≤ C; omega) _
          have hz6 : X5.heap.size ≤ X6.heap.size := by rw [e6, set_size]; exact Nat.le_refl _
          refine hK.out _ _ (by rw [e6]; exact hHeld.setCell (by show w1.heap.size ≤ C; omega) _) (fun hNew => ?_)
          clear hK K hHeld
          have hHeld := hNew
          clear hNew
          try simp only [Act.put, List.setIfInBounds_toArray, List.set_cons_zero, List.set_cons_succ, List.getElem_toArray, List.getElem_cons_zero, List.getElem_cons_succ]
          clear e6
          refine wpAnyH_done (by kernel_rfl) ?_ _
          clear hHeld d1 yA0 yA1 yA2 yA3 yA4 ylA ylC
          have QhKb : Hid (Bk X6 C [.int .i64 c, .int .i64 d, .slice aW nW cW, .slice (some ⟨gG, 0, none⟩) nG cG, .slice a5 l5 c5]) := hKb
          have QhW : Hid (RW w1.heap.size t X6 (.slice aW nW cW) nW Z gW) := hW
          have QhG : Hid (Own1 X6 gG nG G nG) := hG
          have QhO5 : Hid (X6.ownsRow bs 25 1 (.slice a5 l5 c5) (k + 1) ((List.range (k + 1)).flatMap (oneS sl2))) := hO5
          have QhCp5 : Hid (Cps bs X6 sl2 xs2 N O (Value.ownBlock (.slice a5 l5 c5)) (k + 1)) := hCp5
          have QhA : Hid (Bk X6 w.heap.size [.int .i64 c, .int .i64 d, .slice (some ⟨b1, 0, none⟩) nW nW, .slice (some ⟨b2, 0, none⟩) nG nG, .slice (some ⟨b3, 0, none⟩) nA nA]) := hA
          have QhR : Hid (Bk X6 (w.heap.size + 1) [.int .i64 0, .int .i64 0, .slice none 0 0, .slice none 0 0, .slice none 0 0]) := hR
          have QhB : Hid (Below w.heap.size w X6) := hB
          clear hKb hW hG hO5 hCp5 hA hR hB
          go_wp2
          go_roundw
          case rel => exact ⟨k + 1, a5, l5, c5, sl2, xs2, by omega, by go_num, QhKb.out, QhW.out, QhG.out, QhO5.out, QhCp5.out, QhA.out, QhR.out, QhB.out, by omega⟩
          case measure => simp [intOf]; omega
        · go_simp
          obtain ⟨X1, eA⟩ : ∃ X, X = X0.alloc (.cells #[] 3) := ⟨_, rfl⟩
          rw [← eA]
          have hbA : Below X0.heap.size X0 X1 := by rw [eA]; exact (Below.refl _ _).alloc (Nat.le_refl _) _
          have hL : X1.ownsRow bs 3 1 (.slice (some ⟨X0.heap.size, 0, none⟩) 0 0) 0 [] := by rw [eA]; exact World.ownsRow_lit X0 #[] 0 (by omega) (by simp) (by simp)
          have hzA2 : X0.heap.size + 1 ≤ X1.heap.size := by rw [eA]; simp
          clear eA
          have hvb : ∀ q, (Value.slice a l cp).ownBlock = some q → q < X0.heap.size := fun q e => (hO.lt q e).2
          have hxb : ∀ j, j < k → xs j < X0.heap.size := fun j hj => by obtain ⟨_, _, _, q, _⟩ := hCp.1 j hj; exact q
          replace hKb := hKb.below hbA
          replace hW := hW.below hbA
          replace hG := own1_below hG (by omega) hbA
          replace hO := own_keep hO hbA
          replace hCp := hCp.sm hbA.size (fun j hj q1 q2 q3 => sm_below hbA q2)
          replace hA := hA.below hbA
          replace hR := hR.below hbA
          replace hB := bthen hB hbA
          have hz_X1 := hbA.size
          refine hK.out _ _ (bthenN hHeld (by omega) hbA) (fun hNew => ?_)
          clear hK K hHeld
          have hHeld := hNew
          clear hNew
          try simp only [Act.put, List.setIfInBounds_toArray, List.set_cons_zero, List.set_cons_succ, List.getElem_toArray, List.getElem_cons_zero, List.getElem_cons_succ]
          clear hbA
          obtain ⟨q, eq⟩ : ∃ g, g = X0.heap.size := ⟨_, rfl⟩
          rw [← eq] at hL hvb hxb ⊢
          have eq1 : q ≤ X0.heap.size := by omega
          have eq2 : X0.heap.size ≤ q := by omega
          clear eq
          have HVB : Hid (∀ q', (Value.slice a l cp).ownBlock = some q' → q' < q) := hvb
          have HXB : Hid (∀ j, j < k → xs j < q) := hxb
          clear hvb hxb
          refine wpAnyH_ready (rs := [1, 8]) (by kernel_rfl) (by simp) ?_
          refine (AllReadyH.cons rfl (fun K hK => ?_) (AllReadyH.cons rfl (fun K hK => ?_) AllReadyH.nil))
          · have kc := (hKb.2 4 (by simp)).1
            have kl := hKb.1
            simp only [List.getD, List.getElem?_cons_zero, List.getElem?_cons_succ, Option.getD_some] at kc
            go_simp
            clear kc kl
            refine hK.out _ _ hHeld (fun hNew => ?_)
            clear hK K hHeld
            have hHeld := hNew
            clear hNew
            try simp only [Act.put, List.setIfInBounds_toArray, List.set_cons_zero, List.set_cons_succ, List.getElem_toArray, List.getElem_cons_zero, List.getElem_cons_succ]
            refine wpAnyH_ready (rs := [8]) (by kernel_rfl) (by simp) ?_
            refine (AllReadyH.cons rfl (fun K hK => ?_) AllReadyH.nil)
            rw [if_pos (by rfl)]
            have hnn : Hid (∀ j u, ((List.range 2).flatMap (one1 (O k)))[j]? = some u → X1.cell? ((⟨bx, ox, none⟩ : Addr).add j) = some u) := one11_cells (fun j hj => (hB.cell (p := ⟨bx, _, none⟩) hbx).trans (HRX.out j hj))
            refine app_at (z := .int .i64 0) _ _ rfl Try.underlying25 Try.info3 rfl (by decide) (by decide) bs 0 _ [] rfl hL ⟨bx, ox, none⟩ 2 xc ((List.range 2).flatMap (one1 (O k))) rfl (one11_len _ _) hnn.out (one11_one _ _) (by omega) (by omega) ?_
            intro v2 X2 hown2 hg2 hat2
            have hsz2 := hg2.size
            clear hnn
            rw [Nat.zero_add, List.nil_append] at hown2
            obtain ⟨g4, c4, rfl, j41, j42, hO4⟩ := own1_of_row (by omega) hown2
            have hgq4 : g4 = q ∨ g4 = X1.heap.size := by
              rcases hat2 with h | h
              · exact .inl (Option.some.inj h)
              · exact .inr (Option.some.inj h)
            have hbX : Below (w1.heap.size) X1 X2 := (Below.refl _ _).grown hg2 (by omega) (fun kk e => by have e2 : q = kk := Option.some.inj e; omega)
            have hsmX : ∀ b, b < X1.heap.size → ¬ b = q → Sm X1 X2 b := fun b hb hne => sm_grown hg2 hb (fun e => hne (Option.some.inj e))
            replace hKb := hKb.sm hsz2 (hsmX C (by omega) (by omega))
            replace hW := hW.sm hsz2 (fun q1' q2' => hsmX gW (by omega) (by omega))
            replace hG := own1_sm hG (hsmX gG (by omega) (by omega))
            replace hO := World.ownsRow.kept hO hg2 (.inr (fun e => by have := HVB.out q e; omega))
            replace hCp := hCp.sm hsz2 (fun j hj q1 q2 q3 => hsmX (xs j) q2 (by have := HXB.out j hj; omega))
            replace hA := hA.sm hsz2 (hsmX w.heap.size (by omega) (by omega))
            replace hR := hR.sm hsz2 (hsmX (w.heap.size + 1) (by omega) (by omega))
            replace hB := hB.trans (hbX.mono (by omega))
            refine hK.out _ _ (hHeld.trans hbX) (fun hNew => ?_)
            clear hK K hHeld
            have hHeld := hNew
            clear hNew
            try simp only [Act.put, List.setIfInBounds_toArray, List.set_cons_zero, List.set_cons_succ, List.getElem_toArray, List.getElem_cons_zero, List.getElem_cons_succ]
            clear hbX hsmX hown2 hg2 hat2 hL
            refine wpAnyH_ready (rs := [9]) (by kernel_rfl) (by simp) ?_
            refine (AllReadyH.cons rfl (fun K hK => ?_) AllReadyH.nil)
            go_simp
            obtain ⟨X3, e3⟩ : ∃ X, X = X2.alloc (.cells #[.slice (some ⟨g4, 0, none⟩) 2 c4] 25) := ⟨_, rfl⟩
            rw [← e3]
            have hb3 : Below X2.heap.size X2 X3 := by rw [e3]; exact (Below.refl _ _).alloc (Nat.le_refl _) _
            have hnn : Hid (∀ j u, [.slice (some ⟨g4, 0, none⟩) 2 c4][j]? = some u → X3.cell? ((⟨X2.heap.size, 0, none⟩ : Addr).add j) = some u) := by
              intro j u hj
              match j, hj with
              | 0, hj =>
                simp at hj
                subst hj
                rw [add_none, Nat.zero_add, e3]
                exact ((bk_new X2 25 [.slice (some ⟨g4, 0, none⟩) 2 c4]).2 0 (by simp)).1
              | j + 1, hj => simp at hj
            clear e3
            replace hKb := hKb.below hb3
            replace hW := hW.below hb3
            replace hG := own1_below hG (by omega) hb3
            replace hO := own_keep hO hb3
            replace hCp := hCp.sm hb3.size (fun j hj q1 q2 q3 => sm_below hb3 q2)
            replace hA := hA.below hb3
            replace hR := hR.below hb3
            replace hB := bthen hB hb3
            have hz_X3 := hb3.size
            replace hO4 := own1_below hO4 (by omega) hb3
            refine hK.out _ _ (bthenN hHeld (by omega) hb3) (fun hNew => ?_)
            clear hK K hHeld
            have hHeld := hNew
            clear hNew
            try simp only [Act.put, List.setIfInBounds_toArray, List.set_cons_zero, List.set_cons_succ, List.getElem_toArray, List.getElem_cons_zero, List.getElem_cons_succ]
            clear hb3
            refine wpAnyH_ready (rs := [10]) (by kernel_rfl) (by simp) ?_
            refine (AllReadyH.cons rfl (fun K hK => ?_) AllReadyH.nil)
            rw [if_pos (by rfl)]
            refine app_at (z := .slice none 0 0) _ _ rfl Try.underlying26 Try.info25 rfl (by decide) (by decide) bs k _ _ rfl hO ⟨X2.heap.size, 0, none⟩ 1 1 [.slice (some ⟨g4, 0, none⟩) 2 c4] rfl rfl hnn.out (by intro u hu; simp at hu; subst hu; rfl) (by omega) (by omega) ?_
            intro v5 X5 hown5 hg5 hat5
            have hsz5 := hg5.size
            obtain ⟨a5, l5, c5, ev5⟩ := own_shape hown5
            subst ev5
            obtain ⟨sl2, esl⟩ : ∃ s : Nat → Value, s = fun j => if j = k then .slice (some ⟨g4, 0, none⟩) 2 c4 else sl j := ⟨_, rfl⟩
            obtain ⟨xs2, exs⟩ : ∃ s : Nat → Nat, s = fun j => if j = k then g4 else xs j := ⟨_, rfl⟩
            have hbX : Below (w1.heap.size) X3 X5 := (Below.refl _ _).grown hg5 (by omega) (fun kk e => by have := (hO.lt kk e).1; omega)
            have hsmX : ∀ b, b < X3.heap.size → b < bs → Sm X3 X5 b := fun b hb hne => sm_grown hg5 hb (fun e => by have := (hO.lt b e.symm).1; omega)
            have hCp5 : Cps bs X5 sl2 xs2 N O (Value.ownBlock (.slice a5 l5 c5)) (k + 1) := cps_next hO hCp esl exs HN2.out hO4 (by omega) (by omega) (fun j hj => by have := HXB.out j hj; omega) (fun e => by have := HVB.out g4 e; omega) hg5 hat5
            have hO5 : X5.ownsRow bs 25 1 (.slice a5 l5 c5) (k + 1) ((List.range (k + 1)).flatMap (oneS sl2)) := by
              rw [List.range_succ, List.flatMap_append, ← oneS_eq (sl := sl) (fun j hj => by rw [esl]; simp [show ¬ j = k by omega])]
              have : (List.flatMap (oneS sl2) [k]) = [.slice (some ⟨g4, 0, none⟩) 2 c4] := by simp [oneS, esl]
              rw [this]
              exact hown5
            replace hKb := hKb.sm hsz5 (hsmX C (by omega) (by omega))
            replace hW := hW.sm hsz5 (fun q1' q2' => hsmX gW (by omega) (by omega))
            replace hG := own1_sm hG (hsmX gG (by omega) (by omega))
            replace hA := hA.sm hsz5 (hsmX w.heap.size (by omega) (by omega))
            replace hR := hR.sm hsz5 (hsmX (w.heap.size + 1) (by omega) (by omega))
            replace hB := hB.trans (hbX.mono (by omega))
            clear hO hCp hO4 esl exs hown5 hat5 hnn
            refine hK.out _ _ (hHeld.trans hbX) (fun hNew => ?_)
            clear hK K hHeld
            have hHeld := hNew
            clear hNew
            try simp only [Act.put, List.setIfInBounds_toArray, List.set_cons_zero, List.set_cons_succ, List.getElem_toArray, List.getElem_cons_zero, List.getElem_cons_succ]
            clear hbX hsmX hg5
            refine wpAnyH_take (i := 11) (v := .pointer (some ⟨C, 4, none⟩)) rfl (by kernel_rfl) (by kernel_rfl) (by kernel_rfl) (fun _ _ _ h => h) (Or.inl ⟨by rfl, ?_⟩) (by assumption) ?_
            · intro wx hSw; obtain ⟨hcS, hfS⟩ := bcellN hSw; go_simp
            try simp only [Act.put, List.setIfInBounds_toArray, List.set_cons_zero, List.set_cons_succ, List.getElem_toArray, List.getElem_cons_zero, List.getElem_cons_succ]
            refine wpAnyH_ready (rs := [12]) (by kernel_rfl) (by simp) ?_
            refine (AllReadyH.cons rfl (fun K hK => ?_) AllReadyH.nil)
            have kc := (hKb.2 4 (by simp)).1
            have kf := (hKb.2 4 (by simp)).2
            have kl := hKb.1
            simp only [List.getD, List.getElem?_cons_zero, List.getElem?_cons_succ, Option.getD_some] at kc
            go_simp
            clear kc kf
            obtain ⟨X6, e6⟩ : ∃ X, X = X5.setCell ⟨C, 4, none⟩ (.slice a5 l5 c5) := ⟨_, rfl⟩
            rw [← e6]
            replace hKb : Bk X6 C [.int .i64 c, .int .i64 d, .slice aW nW cW, .slice (some ⟨gG, 0, none⟩) nG cG, .slice a5 l5 c5] := by rw [e6]; exact Bk.set (j := 4) (v := .slice a5 l5 c5) hKb (by simp)
            replace hW := hW.sm (w' := X6) (by rw [e6, set_size]; exact Nat.le_refl _) (fun q1' q2' => by rw [e6]; exact smf (by omega))
            replace hG := own1_sm (w' := X6) hG (by rw [e6]; exact smf (by omega))
            replace hO5 : X6.ownsRow bs 25 1 (.slice a5 l5 c5) (k + 1) ((List.range (k + 1)).flatMap (oneS sl2)) := by rw [e6]; exact own_far hO5 (by omega)
            replace hCp5 := hCp5.sm (w' := X6) (by rw [e6, set_size]; exact Nat.le_refl _) (fun j hj q1 q2 q3 => by rw [e6]; exact smf (by omega))
            replace hA : Bk X6 w.heap.size [.int .i64 c, .int .i64 d, .slice (some ⟨b1, 0, none⟩) nW nW, .slice (some ⟨b2, 0, none⟩) nG nG, .slice (some ⟨b3, 0, none⟩) nA nA] := by rw [e6]; exact hA.far (by omega)
            replace hR : Bk X6 (w.heap.size + 1) [.int .i64 0, .int .i64 0, .slice none 0 0, .slice none 0 0, .slice none 0 0] := by rw [e6]; exact hR.far (by omega)
            replace hB : Below w.heap.size w X6 := by rw [e6]; exact hB.setCell (by show w.heap.size ≤ C; omega) _
            have hz6 : X5.heap.size ≤ X6.heap.size := by rw [e6, set_size]; exact Nat.le_refl _
            refine hK.out _ _ (by rw [e6]; exact hHeld.setCell (by show w1.heap.size ≤ C; omega) _) (fun hNew => ?_)
            clear hK K hHeld
            have hHeld := hNew
            clear hNew
            try simp only [Act.put, List.setIfInBounds_toArray, List.set_cons_zero, List.set_cons_succ, List.getElem_toArray, List.getElem_cons_zero, List.getElem_cons_succ]
            clear e6
            refine wpAnyH_done (by kernel_rfl) ?_ _
            clear hHeld d1 yA0 yA1 yA2 yA3 yA4 ylA ylC
            have QhKb : Hid (Bk X6 C [.int .i64 c, .int .i64 d, .slice aW nW cW, .slice (some ⟨gG, 0, none⟩) nG cG, .slice a5 l5 c5]) := hKb
            have QhW : Hid (RW w1.heap.size t X6 (.slice aW nW cW) nW Z gW) := hW
            have QhG : Hid (Own1 X6 gG nG G nG) := hG
            have QhO5 : Hid (X6.ownsRow bs 25 1 (.slice a5 l5 c5) (k + 1) ((List.range (k + 1)).flatMap (oneS sl2))) := hO5
            have QhCp5 : Hid (Cps bs X6 sl2 xs2 N O (Value.ownBlock (.slice a5 l5 c5)) (k + 1)) := hCp5
            have QhA : Hid (Bk X6 w.heap.size [.int .i64 c, .int .i64 d, .slice (some ⟨b1, 0, none⟩) nW nW, .slice (some ⟨b2, 0, none⟩) nG nG, .slice (some ⟨b3, 0, none⟩) nA nA]) := hA
            have QhR : Hid (Bk X6 (w.heap.size + 1) [.int .i64 0, .int .i64 0, .slice none 0 0, .slice none 0 0, .slice none 0 0]) := hR
            have QhB : Hid (Below w.heap.size w X6) := hB
            clear hKb hW hG hO5 hCp5 hA hR hB
            go_wp2
            go_roundw
            case rel => exact ⟨k + 1, a5, l5, c5, sl2, xs2, by omega, by go_num, QhKb.out, QhW.out, QhG.out, QhO5.out, QhCp5.out, QhA.out, QhR.out, QhB.out, by omega⟩
            case measure => simp [intOf]; omega
          · rw [if_pos (by rfl)]
            have hnn : Hid (∀ j u, ((List.range 2).flatMap (one1 (O k)))[j]? = some u → X1.cell? ((⟨bx, ox, none⟩ : Addr).add j) = some u) := one11_cells (fun j hj => (hB.cell (p := ⟨bx, _, none⟩) hbx).trans (HRX.out j hj))
            refine app_at (z := .int .i64 0) _ _ rfl Try.underlying25 Try.info3 rfl (by decide) (by decide) bs 0 _ [] rfl hL ⟨bx, ox, none⟩ 2 xc ((List.range 2).flatMap (one1 (O k))) rfl (one11_len _ _) hnn.out (one11_one _ _) (by omega) (by omega) ?_
            intro v2 X2 hown2 hg2 hat2
            have hsz2 := hg2.size
            clear hnn
            rw [Nat.zero_add, List.nil_append] at hown2
            obtain ⟨g4, c4, rfl, j41, j42, hO4⟩ := own1_of_row (by omega) hown2
            have hgq4 : g4 = q ∨ g4 = X1.heap.size := by
              rcases hat2 with h | h
              · exact .inl (Option.some.inj h)
              · exact .inr (Option.some.inj h)
            have hbX : Below (w1.heap.size) X1 X2 := (Below.refl _ _).grown hg2 (by omega) (fun kk e => by have e2 : q = kk := Option.some.inj e; omega)
            have hsmX : ∀ b, b < X1.heap.size → ¬ b = q → Sm X1 X2 b := fun b hb hne => sm_grown hg2 hb (fun e => hne (Option.some.inj e))
            replace hKb := hKb.sm hsz2 (hsmX C (by omega) (by omega))
            replace hW := hW.sm hsz2 (fun q1' q2' => hsmX gW (by omega) (by omega))
            replace hG := own1_sm hG (hsmX gG (by omega) (by omega))
            replace hO := World.ownsRow.kept hO hg2 (.inr (fun e => by have := HVB.out q e; omega))
            replace hCp := hCp.sm hsz2 (fun j hj q1 q2 q3 => hsmX (xs j) q2 (by have := HXB.out j hj; omega))
            replace hA := hA.sm hsz2 (hsmX w.heap.size (by omega) (by omega))
            replace hR := hR.sm hsz2 (hsmX (w.heap.size + 1) (by omega) (by omega))
            replace hB := hB.trans (hbX.mono (by omega))
            refine hK.out _ _ (hHeld.trans hbX) (fun hNew => ?_)
            clear hK K hHeld
            have hHeld := hNew
            clear hNew
            try simp only [Act.put, List.setIfInBounds_toArray, List.set_cons_zero, List.set_cons_succ, List.getElem_toArray, List.getElem_cons_zero, List.getElem_cons_succ]
            clear hbX hsmX hown2 hg2 hat2 hL
            refine wpAnyH_ready (rs := [1, 9]) (by kernel_rfl) (by simp) ?_
            refine (AllReadyH.cons rfl (fun K hK => ?_) (AllReadyH.cons rfl (fun K hK => ?_) AllReadyH.nil))
            · have kc := (hKb.2 4 (by simp)).1
              have kl := hKb.1
              simp only [List.getD, List.getElem?_cons_zero, List.getElem?_cons_succ, Option.getD_some] at kc
              go_simp
              clear kc kl
              refine hK.out _ _ hHeld (fun hNew => ?_)
              clear hK K hHeld
              have hHeld := hNew
              clear hNew
              try simp only [Act.put, List.setIfInBounds_toArray, List.set_cons_zero, List.set_cons_succ, List.getElem_toArray, List.getElem_cons_zero, List.getElem_cons_succ]
              refine wpAnyH_ready (rs := [9]) (by kernel_rfl) (by simp) ?_
              refine (AllReadyH.cons rfl (fun K hK => ?_) AllReadyH.nil)
              go_simp
              obtain ⟨X3, e3⟩ : ∃ X, X = X2.alloc (.cells #[.slice (some ⟨g4, 0, none⟩) 2 c4] 25) := ⟨_, rfl⟩
              rw [← e3]
              have hb3 : Below X2.heap.size X2 X3 := by rw [e3]; exact (Below.refl _ _).alloc (Nat.le_refl _) _
              have hnn : Hid (∀ j u, [.slice (some ⟨g4, 0, none⟩) 2 c4][j]? = some u → X3.cell? ((⟨X2.heap.size, 0, none⟩ : Addr).add j) = some u) := by
                intro j u hj
                match j, hj with
                | 0, hj =>
                  simp at hj
                  subst hj
                  rw [add_none, Nat.zero_add, e3]
                  exact ((bk_new X2 25 [.slice (some ⟨g4, 0, none⟩) 2 c4]).2 0 (by simp)).1
                | j + 1, hj => simp at hj
              clear e3
              replace hKb := hKb.below hb3
              replace hW := hW.below hb3
              replace hG := own1_below hG (by omega) hb3
              replace hO := own_keep hO hb3
              replace hCp := hCp.sm hb3.size (fun j hj q1 q2 q3 => sm_below hb3 q2)
              replace hA := hA.below hb3
              replace hR := hR.below hb3
              replace hB := bthen hB hb3
              have hz_X3 := hb3.size
              replace hO4 := own1_below hO4 (by omega) hb3
              refine hK.out _ _ (bthenN hHeld (by omega) hb3) (fun hNew => ?_)
              clear hK K hHeld
              have hHeld := hNew
              clear hNew
              try simp only [Act.put, List.setIfInBounds_toArray, List.set_cons_zero, List.set_cons_succ, List.getElem_toArray, List.getElem_cons_zero, List.getElem_cons_succ]
              clear hb3
              refine wpAnyH_ready (rs := [10]) (by kernel_rfl) (by simp) ?_
              refine (AllReadyH.cons rfl (fun K hK => ?_) AllReadyH.nil)
              rw [if_pos (by rfl)]
              refine app_at (z := .slice none 0 0) _ _ rfl Try.underlying26 Try.info25 rfl (by decide) (by decide) bs k _ _ rfl hO ⟨X2.heap.size, 0, none⟩ 1 1 [.slice (some ⟨g4, 0, none⟩) 2 c4] rfl rfl hnn.out (by intro u hu; simp at hu; subst hu; rfl) (by omega) (by omega) ?_
              intro v5 X5 hown5 hg5 hat5
              have hsz5 := hg5.size
              obtain ⟨a5, l5, c5, ev5⟩ := own_shape hown5
              subst ev5
              obtain ⟨sl2, esl⟩ : ∃ s : Nat → Value, s = fun j => if j = k then .slice (some ⟨g4, 0, none⟩) 2 c4 else sl j := ⟨_, rfl⟩
              obtain ⟨xs2, exs⟩ : ∃ s : Nat → Nat, s = fun j => if j = k then g4 else xs j := ⟨_, rfl⟩
              have hbX : Below (w1.heap.size) X3 X5 := (Below.refl _ _).grown hg5 (by omega) (fun kk e => by have := (hO.lt kk e).1; omega)
              have hsmX : ∀ b, b < X3.heap.size → b < bs → Sm X3 X5 b := fun b hb hne => sm_grown hg5 hb (fun e => by have := (hO.lt b e.symm).1; omega)
              have hCp5 : Cps bs X5 sl2 xs2 N O (Value.ownBlock (.slice a5 l5 c5)) (k + 1) := cps_next hO hCp esl exs HN2.out hO4 (by omega) (by omega) (fun j hj => by have := HXB.out j hj; omega) (fun e => by have := HVB.out g4 e; omega) hg5 hat5
              have hO5 : X5.ownsRow bs 25 1 (.slice a5 l5 c5) (k + 1) ((List.range (k + 1)).flatMap (oneS sl2)) := by
                rw [List.range_succ, List.flatMap_append, ← oneS_eq (sl := sl) (fun j hj => by rw [esl]; simp [show ¬ j = k by omega])]
                have : (List.flatMap (oneS sl2) [k]) = [.slice (some ⟨g4, 0, none⟩) 2 c4] := by simp [oneS, esl]
                rw [this]
                exact hown5
              replace hKb := hKb.sm hsz5 (hsmX C (by omega) (by omega))
              replace hW := hW.sm hsz5 (fun q1' q2' => hsmX gW (by omega) (by omega))
              replace hG := own1_sm hG (hsmX gG (by omega) (by omega))
              replace hA := hA.sm hsz5 (hsmX w.heap.size (by omega) (by omega))
              replace hR := hR.sm hsz5 (hsmX (w.heap.size + 1) (by omega) (by omega))
              replace hB := hB.trans (hbX.mono (by omega))
              clear hO hCp hO4 esl exs hown5 hat5 hnn
              refine hK.out _ _ (hHeld.trans hbX) (fun hNew => ?_)
              clear hK K hHeld
              have hHeld := hNew
              clear hNew
              try simp only [Act.put, List.setIfInBounds_toArray, List.set_cons_zero, List.set_cons_succ, List.getElem_toArray, List.getElem_cons_zero, List.getElem_cons_succ]
              clear hbX hsmX hg5
              refine wpAnyH_take (i := 11) (v := .pointer (some ⟨C, 4, none⟩)) rfl (by kernel_rfl) (by kernel_rfl) (by kernel_rfl) (fun _ _ _ h => h) (Or.inl ⟨by rfl, ?_⟩) (by assumption) ?_
              · intro wx hSw; obtain ⟨hcS, hfS⟩ := bcellN hSw; go_simp
              try simp only [Act.put, List.setIfInBounds_toArray, List.set_cons_zero, List.set_cons_succ, List.getElem_toArray, List.getElem_cons_zero, List.getElem_cons_succ]
              refine wpAnyH_ready (rs := [12]) (by kernel_rfl) (by simp) ?_
              refine (AllReadyH.cons rfl (fun K hK => ?_) AllReadyH.nil)
              have kc := (hKb.2 4 (by simp)).1
              have kf := (hKb.2 4 (by simp)).2
              have kl := hKb.1
              simp only [List.getD, List.getElem?_cons_zero, List.getElem?_cons_succ, Option.getD_some] at kc
              go_simp
              clear kc kf
              obtain ⟨X6, e6⟩ : ∃ X, X = X5.setCell ⟨C, 4, none⟩ (.slice a5 l5 c5) := ⟨_, rfl⟩
              rw [← e6]
              replace hKb : Bk X6 C [.int .i64 c, .int .i64 d, .slice aW nW cW, .slice (some ⟨gG, 0, none⟩) nG cG, .slice a5 l5 c5] := by rw [e6]; exact Bk.set (j := 4) (v := .slice a5 l5 c5) hKb (by simp)
              replace hW := hW.sm (w' := X6) (by rw [e6, set_size]; exact Nat.le_refl _) (fun q1' q2' => by rw [e6]; exact smf (by omega))
              replace hG := own1_sm (w' := X6) hG (by rw [e6]; exact smf (by omega))
              replace hO5 : X6.ownsRow bs 25 1 (.slice a5 l5 c5) (k + 1) ((List.range (k + 1)).flatMap (oneS sl2)) := by rw [e6]; exact own_far hO5 (by omega)
              replace hCp5 := hCp5.sm (w' := X6) (by rw [e6, set_size]; exact Nat.le_refl _) (fun j hj q1 q2 q3 => by rw [e6]; exact smf (by omega))
              replace hA : Bk X6 w.heap.size [.int .i64 c, .int .i64 d, .slice (some ⟨b1, 0, none⟩) nW nW, .slice (some ⟨b2, 0, none⟩) nG nG, .slice (some ⟨b3, 0, none⟩) nA nA] := by rw [e6]; exact hA.far (by omega)
              replace hR : Bk X6 (w.heap.size + 1) [.int .i64 0, .int .i64 0, .slice none 0 0, .slice none 0 0, .slice none 0 0] := by rw [e6]; exact hR.far (by omega)
              replace hB : Below w.heap.size w X6 := by rw [e6]; exact hB.setCell (by show w.heap.size ≤ C; omega) _
              have hz6 : X5.heap.size ≤ X6.heap.size := by rw [e6, set_size]; exact Nat.le_refl _
              refine hK.out _ _ (by rw [e6]; exact hHeld.setCell (by show w1.heap.size ≤ C; omega) _) (fun hNew => ?_)
              clear hK K hHeld
              have hHeld := hNew
              clear hNew
              try simp only [Act.put, List.setIfInBounds_toArray, List.set_cons_zero, List.set_cons_succ, List.getElem_toArray, List.getElem_cons_zero, List.getElem_cons_succ]
              clear e6
              refine wpAnyH_done (by kernel_rfl) ?_ _
              clear hHeld d1 yA0 yA1 yA2 yA3 yA4 ylA ylC
              have QhKb : Hid (Bk X6 C [.int .i64 c, .int .i64 d, .slice aW nW cW, .slice (some ⟨gG, 0, none⟩) nG cG, .slice a5 l5 c5]) := hKb
              have QhW : Hid (RW w1.heap.size t X6 (.slice aW nW cW) nW Z gW) := hW
              have QhG : Hid (Own1 X6 gG nG G nG) := hG
              have QhO5 : Hid (X6.ownsRow bs 25 1 (.slice a5 l5 c5) (k + 1) ((List.range (k + 1)).flatMap (oneS sl2))) := hO5
              have QhCp5 : Hid (Cps bs X6 sl2 xs2 N O (Value.ownBlock (.slice a5 l5 c5)) (k + 1)) := hCp5
              have QhA : Hid (Bk X6 w.heap.size [.int .i64 c, .int .i64 d, .slice (some ⟨b1, 0, none⟩) nW nW, .slice (some ⟨b2, 0, none⟩) nG nG, .slice (some ⟨b3, 0, none⟩) nA nA]) := hA
              have QhR : Hid (Bk X6 (w.heap.size + 1) [.int .i64 0, .int .i64 0, .slice none 0 0, .slice none 0 0, .slice none 0 0]) := hR
              have QhB : Hid (Below w.heap.size w X6) := hB
              clear hKb hW hG hO5 hCp5 hA hR hB
              go_wp2
              go_roundw
              case rel => exact ⟨k + 1, a5, l5, c5, sl2, xs2, by omega, by go_num, QhKb.out, QhW.out, QhG.out, QhO5.out, QhCp5.out, QhA.out, QhR.out, QhB.out, by omega⟩
              case measure => simp [intOf]; omega
            · go_simp
              obtain ⟨X3, e3⟩ : ∃ X, X = X2.alloc (.cells #[.slice (some ⟨g4, 0, none⟩) 2 c4] 25) := ⟨_, rfl⟩
              rw [← e3]
              have hb3 : Below X2.heap.size X2 X3 := by rw [e3]; exact (Below.refl _ _).alloc (Nat.le_refl _) _
              have hnn : Hid (∀ j u, [.slice (some ⟨g4, 0, none⟩) 2 c4][j]? = some u → X3.cell? ((⟨X2.heap.size, 0, none⟩ : Addr).add j) = some u) := by
                intro j u hj
                match j, hj with
                | 0, hj =>
                  simp at hj
                  subst hj
                  rw [add_none, Nat.zero_add, e3]
                  exact ((bk_new X2 25 [.slice (some ⟨g4, 0, none⟩) 2 c4]).2 0 (by simp)).1
                | j + 1, hj => simp at hj
              clear e3
              replace hKb := hKb.below hb3
              replace hW := hW.below hb3
              replace hG := own1_below hG (by omega) hb3
              replace hO := own_keep hO hb3
              replace hCp := hCp.sm hb3.size (fun j hj q1 q2 q3 => sm_below hb3 q2)
              replace hA := hA.below hb3
              replace hR := hR.below hb3
              replace hB := bthen hB hb3
              have hz_X3 := hb3.size
              replace hO4 := own1_below hO4 (by omega) hb3
              refine hK.out _ _ (bthenN hHeld (by omega) hb3) (fun hNew => ?_)
              clear hK K hHeld
              have hHeld := hNew
              clear hNew
              try simp only [Act.put, List.setIfInBounds_toArray, List.set_cons_zero, List.set_cons_succ, List.getElem_toArray, List.getElem_cons_zero, List.getElem_cons_succ]
              clear hb3
              refine wpAnyH_ready (rs := [1]) (by kernel_rfl) (by simp) ?_
              refine (AllReadyH.cons rfl (fun K hK => ?_) AllReadyH.nil)
              have kc := (hKb.2 4 (by simp)).1
              have kl := hKb.1
              simp only [List.getD, List.getElem?_cons_zero, List.getElem?_cons_succ, Option.getD_some] at kc
              go_simp
              clear kc kl
              refine hK.out _ _ hHeld (fun hNew => ?_)
              clear hK K hHeld
              have hHeld := hNew
              clear hNew
              try simp only [Act.put, List.setIfInBounds_toArray, List.set_cons_zero, List.set_cons_succ, List.getElem_toArray, List.getElem_cons_zero, List.getElem_cons_succ]
              refine wpAnyH_ready (rs := [10]) (by kernel_rfl) (by simp) ?_
              refine (AllReadyH.cons rfl (fun K hK => ?_) AllReadyH.nil)
              rw [if_pos (by rfl)]
              refine app_at (z := .slice none 0 0) _ _ rfl Try.underlying26 Try.info25 rfl (by decide) (by decide) bs k _ _ rfl hO ⟨X2.heap.size, 0, none⟩ 1 1 [.slice (some ⟨g4, 0, none⟩) 2 c4] rfl rfl hnn.out (by intro u hu; simp at hu; subst hu; rfl) (by omega) (by omega) ?_
              intro v5 X5 hown5 hg5 hat5
              have hsz5 := hg5.size
              obtain ⟨a5, l5, c5, ev5⟩ := own_shape hown5
              subst ev5
              obtain ⟨sl2, esl⟩ : ∃ s : Nat → Value, s = fun j => if j = k then .slice (some ⟨g4, 0, none⟩) 2 c4 else sl j := ⟨_, rfl⟩
              obtain ⟨xs2, exs⟩ : ∃ s : Nat → Nat, s = fun j => if j = k then g4 else xs j := ⟨_, rfl⟩
              have hbX : Below (w1.heap.size) X3 X5 := (Below.refl _ _).grown hg5 (by omega) (fun kk e => by have := (hO.lt kk e).1; omega)
              have hsmX : ∀ b, b < X3.heap.size → b < bs → Sm X3 X5 b := fun b hb hne => sm_grown hg5 hb (fun e => by have := (hO.lt b e.symm).1; omega)
              have hCp5 : Cps bs X5 sl2 xs2 N O (Value.ownBlock (.slice a5 l5 c5)) (k + 1) := cps_next hO hCp esl exs HN2.out hO4 (by omega) (by omega) (fun j hj => by have := HXB.out j hj; omega) (fun e => by have := HVB.out g4 e; omega) hg5 hat5
              have hO5 : X5.ownsRow bs 25 1 (.slice a5 l5 c5) (k + 1) ((List.range (k + 1)).flatMap (oneS sl2)) := by
                rw [List.range_succ, List.flatMap_append, ← oneS_eq (sl := sl) (fun j hj => by rw [esl]; simp [show ¬ j = k by omega])]
                have : (List.flatMap (oneS sl2) [k]) = [.slice (some ⟨g4, 0, none⟩) 2 c4] := by simp [oneS, esl]
                rw [this]
                exact hown5
              replace hKb := hKb.sm hsz5 (hsmX C (by omega) (by omega))
              replace hW := hW.sm hsz5 (fun q1' q2' => hsmX gW (by omega) (by omega))
              replace hG := own1_sm hG (hsmX gG (by omega) (by omega))
              replace hA := hA.sm hsz5 (hsmX w.heap.size (by omega) (by omega))
              replace hR := hR.sm hsz5 (hsmX (w.heap.size + 1) (by omega) (by omega))
              replace hB := hB.trans (hbX.mono (by omega))
              clear hO hCp hO4 esl exs hown5 hat5 hnn
              refine hK.out _ _ (hHeld.trans hbX) (fun hNew => ?_)
              clear hK K hHeld
              have hHeld := hNew
              clear hNew
              try simp only [Act.put, List.setIfInBounds_toArray, List.set_cons_zero, List.set_cons_succ, List.getElem_toArray, List.getElem_cons_zero, List.getElem_cons_succ]
              clear hbX hsmX hg5
              refine wpAnyH_take (i := 11) (v := .pointer (some ⟨C, 4, none⟩)) rfl (by kernel_rfl) (by kernel_rfl) (by kernel_rfl) (fun _ _ _ h => h) (Or.inl ⟨by rfl, ?_⟩) (by assumption) ?_
              · intro wx hSw; obtain ⟨hcS, hfS⟩ := bcellN hSw; go_simp
              try simp only [Act.put, List.setIfInBounds_toArray, List.set_cons_zero, List.set_cons_succ, List.getElem_toArray, List.getElem_cons_zero, List.getElem_cons_succ]
              refine wpAnyH_ready (rs := [12]) (by kernel_rfl) (by simp) ?_
              refine (AllReadyH.cons rfl (fun K hK => ?_) AllReadyH.nil)
              have kc := (hKb.2 4 (by simp)).1
              have kf := (hKb.2 4 (by simp)).2
              have kl := hKb.1
              simp only [List.getD, List.getElem?_cons_zero, List.getElem?_cons_succ, Option.getD_some] at kc
              go_simp
              clear kc kf
              obtain ⟨X6, e6⟩ : ∃ X, X = X5.setCell ⟨C, 4, none⟩ (.slice a5 l5 c5) := ⟨_, rfl⟩
              rw [← e6]
              replace hKb : Bk X6 C [.int .i64 c, .int .i64 d, .slice aW nW cW, .slice (some ⟨gG, 0, none⟩) nG cG, .slice a5 l5 c5] := by rw [e6]; exact Bk.set (j := 4) (v := .slice a5 l5 c5) hKb (by simp)
              replace hW := hW.sm (w' := X6) (by rw [e6, set_size]; exact Nat.le_refl _) (fun q1' q2' => by rw [e6]; exact smf (by omega))
              replace hG := own1_sm (w' := X6) hG (by rw [e6]; exact smf (by omega))
              replace hO5 : X6.ownsRow bs 25 1 (.slice a5 l5 c5) (k + 1) ((List.range (k + 1)).flatMap (oneS sl2)) := by rw [e6]; exact own_far hO5 (by omega)
              replace hCp5 := hCp5.sm (w' := X6) (by rw [e6, set_size]; exact Nat.le_refl _) (fun j hj q1 q2 q3 => by rw [e6]; exact smf (by omega))
              replace hA : Bk X6 w.heap.size [.int .i64 c, .int .i64 d, .slice (some ⟨b1, 0, none⟩) nW nW, .slice (some ⟨b2, 0, none⟩) nG nG, .slice (some ⟨b3, 0, none⟩) nA nA] := by rw [e6]; exact hA.far (by omega)
              replace hR : Bk X6 (w.heap.size + 1) [.int .i64 0, .int .i64 0, .slice none 0 0, .slice none 0 0, .slice none 0 0] := by rw [e6]; exact hR.far (by omega)
              replace hB : Below w.heap.size w X6 := by rw [e6]; exact hB.setCell (by show w.heap.size ≤ C; omega) _
              have hz6 : X5.heap.size ≤ X6.heap.size := by rw [e6, set_size]; exact Nat.le_refl _
              refine hK.out _ _ (by rw [e6]; exact hHeld.setCell (by show w1.heap.size ≤ C; omega) _) (fun hNew => ?_)
              clear hK K hHeld
              have hHeld := hNew
              clear hNew
              try simp only [Act.put, List.setIfInBounds_toArray, List.set_cons_zero, List.set_cons_succ, List.getElem_toArray, List.getElem_cons_zero, List.getElem_cons_succ]
              clear e6
              refine wpAnyH_done (by kernel_rfl) ?_ _
              clear hHeld d1 yA0 yA1 yA2 yA3 yA4 ylA ylC
              have QhKb : Hid (Bk X6 C [.int .i64 c, .int .i64 d, .slice aW nW cW, .slice (some ⟨gG, 0, none⟩) nG cG, .slice a5 l5 c5]) := hKb
              have QhW : Hid (RW w1.heap.size t X6 (.slice aW nW cW) nW Z gW) := hW
              have QhG : Hid (Own1 X6 gG nG G nG) := hG
              have QhO5 : Hid (X6.ownsRow bs 25 1 (.slice a5 l5 c5) (k + 1) ((List.range (k + 1)).flatMap (oneS sl2))) := hO5
              have QhCp5 : Hid (Cps bs X6 sl2 xs2 N O (Value.ownBlock (.slice a5 l5 c5)) (k + 1)) := hCp5
              have QhA : Hid (Bk X6 w.heap.size [.int .i64 c, .int .i64 d, .slice (some ⟨b1, 0, none⟩) nW nW, .slice (some ⟨b2, 0, none⟩) nG nG, .slice (some ⟨b3, 0, none⟩) nA nA]) := hA
              have QhR : Hid (Bk X6 (w.heap.size + 1) [.int .i64 0, .int .i64 0, .slice none 0 0, .slice none 0 0, .slice none 0 0]) := hR
              have QhB : Hid (Below w.heap.size w X6) := hB
              clear hKb hW hG hO5 hCp5 hA hR hB
              go_wp2
              go_roundw
              case rel => exact ⟨k + 1, a5, l5, c5, sl2, xs2, by omega, by go_num, QhKb.out, QhW.out, QhG.out, QhO5.out, QhCp5.out, QhA.out, QhR.out, QhB.out, by omega⟩
              case measure => simp [intOf]; omega
      · have hkk : k = nA := by omega
        subst hkk
        have yC0 : wr.cell? ⟨C, 0, none⟩ = some (.int .i64 c) := (hKb.2 0 (by simp)).1
        have yC1 : wr.cell? ⟨C, 1, none⟩ = some (.int .i64 d) := (hKb.2 1 (by simp)).1
        have yC2 : wr.cell? ⟨C, 2, none⟩ = some (.slice aW nW cW) := (hKb.2 2 (by simp)).1
        have yC3 : wr.cell? ⟨C, 3, none⟩ = some (.slice (some ⟨gG, 0, none⟩) nG cG) := (hKb.2 3 (by simp)).1
        have yC4 : wr.cell? ⟨C, 4, none⟩ = some (.slice a l cp) := (hKb.2 4 (by simp)).1
        have yR0 : wr.cell? ⟨w.heap.size + 1, 0, none⟩ = some (.int .i64 0) := (hR.2 0 (by simp)).1
        have yR1 : wr.cell? ⟨w.heap.size + 1, 1, none⟩ = some (.int .i64 0) := (hR.2 1 (by simp)).1
        have yR2 : wr.cell? ⟨w.heap.size + 1, 2, none⟩ = some (.slice none 0 0) := (hR.2 2 (by simp)).1
        have yR3 : wr.cell? ⟨w.heap.size + 1, 3, none⟩ = some (.slice none 0 0) := (hR.2 3 (by simp)).1
        have yR4 : wr.cell? ⟨w.heap.size + 1, 4, none⟩ = some (.slice none 0 0) := (hR.2 4 (by simp)).1
        have zR0 : wr.frozen? ⟨w.heap.size + 1, 0, none⟩ = false := (hR.2 0 (by simp)).2
        have zR1 : wr.frozen? ⟨w.heap.size + 1, 1, none⟩ = false := (hR.2 1 (by simp)).2
        have zR2 : wr.frozen? ⟨w.heap.size + 1, 2, none⟩ = false := (hR.2 2 (by simp)).2
        have zR3 : wr.frozen? ⟨w.heap.size + 1, 3, none⟩ = false := (hR.2 3 (by simp)).2
        have zR4 : wr.frozen? ⟨w.heap.size + 1, 4, none⟩ = false := (hR.2 4 (by simp)).2
        have yA0 : wr.cell? ⟨w.heap.size, 0, none⟩ = some (.int .i64 c) := (hA.2 0 (by simp)).1
        have yA1 : wr.cell? ⟨w.heap.size, 1, none⟩ = some (.int .i64 d) := (hA.2 1 (by simp)).1
        have yA2 : wr.cell? ⟨w.heap.size, 2, none⟩ = some (.slice (some ⟨b1, 0, none⟩) nW nW) := (hA.2 2 (by simp)).1
        have yA3 : wr.cell? ⟨w.heap.size, 3, none⟩ = some (.slice (some ⟨b2, 0, none⟩) nG nG) := (hA.2 3 (by simp)).1
        have yA4 : wr.cell? ⟨w.heap.size, 4, none⟩ = some (.slice (some ⟨b3, 0, none⟩) k k) := (hA.2 4 (by simp)).1
        have ylC := hKb.1
        have ylA := hA.1
        have ylR := hR.1
        obtain ⟨gA, hRO, r1, r2, r3⟩ := ro_of_own p2 hO hCp
        have HCP := hCp
        have QhW : Hid (RW w1.heap.size t wr (.slice aW nW cW) nW Z gW) := hW
        have QhG : Hid (Own1 wr gG nG G nG) := hG
        have QhRO : Hid (RO bs wr.heap.size wr (.slice a l cp) k N O gA sl xs) := hRO
        have QHCP : Hid (Cps bs wr sl xs N O (Value.ownBlock (.slice a l cp)) k) := HCP
        have QhR : Hid (Bk wr (w.heap.size + 1) [.int .i64 0, .int .i64 0, .slice none 0 0, .slice none 0 0, .slice none 0 0]) := hR
        have QhB : Hid (Below w.heap.size w wr) := hB
        have Qr3 : Hid (∀ k_1, k_1 < k → ¬ xs k_1 = gA) := r3
        clear hKb hW hG hO hCp hA hR hB hRO HCP r3
        go_wp2
        refine bodyPost_ret (v := .agg #[.int .i64 c, .int .i64 d, .slice aW nW cW, .slice (some ⟨gG, 0, none⟩) nG cG, .slice a l cp]) (P6.results_mid (P := Try.prog) (fn := Try.f39) Try.results39 _ _ (w.heap.size + 1) [.int .i64 c, .int .i64 d, .slice aW nW cW, .slice (some ⟨gG, 0, none⟩) nG cG, .slice a l cp] _ rfl (P6.Bk.range (Bk.set (j := 4) (v := .slice a l cp) (Bk.set (j := 3) (v := .slice (some ⟨gG, 0, none⟩) nG cG) (Bk.set (j := 2) (v := .slice aW nW cW) (Bk.set (j := 1) (v := .int .i64 d) (Bk.set (j := 0) (v := .int .i64 c) QhR.out (by simp)) (by simp)) (by simp)) (by simp)) (by simp))) Try.underlying34 rfl (by kernel_rfl)) rfl ⟨⟨_, rfl, OwnW.wide2 (own_put5 (OwnW.mk (QhW.out.wide (lo' := w.heap.size + 1 + 1) (by omega) (by omega) (Nat.le_refl _)) (.inr ⟨_, rfl, by omega, by omega, Nat.le_refl _, QhG.out⟩) (QhRO.out.wide (by omega) (Nat.le_refl _) (Nat.le_refl _)) (by omega) (fun i hi => by obtain ⟨_, _, q1, q2, _⟩ := QHCP.out.1 i hi; have := Qr3.out i hi; omega) QHCP.out.2) (show w.heap.size + 1 < w.heap.size + 1 + 1 by omega)) (by omega) (by rw [set_size, set_size, set_size, set_size, set_size]; exact Nat.le_refl _) (Nat.le_refl _)⟩, (((((QhB.out.setCell (by show w.heap.size ≤ w.heap.size + 1; omega) _).setCell (by show w.heap.size ≤ w.heap.size + 1; omega) _).setCell (by show w.heap.size ≤ w.heap.size + 1; omega) _).setCell (by show w.heap.size ≤ w.heap.size + 1; omega) _).setCell (by show w.heap.size ≤ w.heap.size + 1; omega) _)⟩
end Go.Proofs.Ytoickljpjlhkoaa
