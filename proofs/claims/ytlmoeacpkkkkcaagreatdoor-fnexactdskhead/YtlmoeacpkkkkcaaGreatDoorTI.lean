/- takeWalker of the program; conditions: those typed. -/
import Derived.Test.YtlmoeacpkkkkcaaGreatDoorTG
import Derived.Test.YtlmoeacpkkkkcaaGreatDoorTH
namespace Go.Proofs.YtlmoeacpkkkkcaaGreatDoor
open Go.RowKit Go.Deep
set_option linter.unusedVariables false
set_option maxRecDepth 100000
theorem infoW39 : (Tryz.prog.info? 39).map (fun i => (i.zero, i.size, i.bytes)) = some (some (.agg #[.int .i64 0, .int .i64 0, .int .i64 0, .int .i64 0, .int .i64 0]), 5, 40) := by kernel_rfl
theorem own_shape {w : World} {base e m n : Nat} {v : Value} {xs : List Value} (h : w.ownsRow base e m v n xs) : ∃ a l c, v = .slice a l c := by
  rcases h.2 with ⟨e, _⟩ | ⟨g, cap, cur, hv, _⟩
  · exact ⟨_, _, _, e⟩
  · exact ⟨_, _, _, hv⟩
theorem own_far {w : World} {base e m n g j : Nat} {v u : Value} {xs : List Value} (h : w.ownsRow base e m v n xs) (hg : g < base) : (w.setCell ⟨g, j, none⟩ u).ownsRow base e m v n xs :=
  World.ownsRow.kept h (set_grown w g j u).1 (.inr (fun e => by have := (h.lt g e).1; omega))
theorem bk_grown {b : Nat} {l : List Value} {w w' : World} {base e m n : Nat} {v : Value} {xs : List Value} (h : Bk w b l) (ho : w.ownsRow base e m v n xs) (hg : w.grownBy w' v.ownBlock) (hl : b < base) : Bk w' b l :=
  h.sm hg.size (sm_grown hg h.1 (fun e => by have := (ho.lt b e.symm).1; omega))
theorem below_row {k : Nat} {a w w' : World} {base e m n : Nat} {v : Value} {xs : List Value} (h : Below k a w) (ho : w.ownsRow base e m v n xs) (hg : w.grownBy w' v.ownBlock) (hk : k ≤ base) (hs : k ≤ w.heap.size) : Below k a w' :=
  h.grown hg hs (fun b e => by have := (ho.lt b e).1; omega)
theorem add_at (g j : Nat) : (⟨g, 0, none⟩ : Addr).add j = ⟨g, j, none⟩ := by unfold Addr.add; split <;> simp_all
theorem bk_news {w : World} {g : Nat} {l : List Value} (h : Bk w g l) : ∀ j u, l[j]? = some u → w.cell? ((⟨g, 0, none⟩ : Addr).add j) = some u := by
  intro j u hj
  have hlt : j < l.length := by
    rcases Nat.lt_or_ge j l.length with q | q
    · exact q
    · rw [List.getElem?_eq_none q] at hj; cases hj
  rw [add_at, (h.2 j hlt).1]
  simp [List.getD, hj]
theorem one_five (Z : Nat → Nat → Int) (k : Nat) : ∀ u ∈ five Z k, u.oneCell' = true := by
  intro u hu; simp [five] at hu; rcases hu with rfl | rfl | rfl | rfl | rfl <;> rfl
theorem rows5_succ (Z : Nat → Nat → Int) (k : Nat) : (List.range (k + 1)).flatMap (five Z) = (List.range k).flatMap (five Z) ++ five Z k := by
  rw [List.range_succ, List.flatMap_append]; simp
theorem app5 {w : World} {o : Oper} {a : Act} {K : Act → World → Prop} {Q : Exit → Act → World → Prop} (s x : Operand) (ho : o.op = .call { callee := .builtin .append, args := #[s, x], argTypes := #[26, 26] })
    (base n : Nat) (v : Value) (xs : List Value) (hs : a.eval s = v) (hown : w.ownsRow base 39 5 v n xs) (ad : Addr) (c : Nat) (news : List Value) (hx : a.eval x = .slice (some ad) 1 c) (hl : news.length = 1 * 5)
    (hnews : ∀ j u, news[j]? = some u → w.cell? (ad.add j) = some u) (h1 : ∀ u ∈ news, u.oneCell' = true) (hm : n ≤ 2000000) (hb : base ≤ w.heap.size)
    (h : ∀ v' w', w'.ownsRow base 39 5 v' (n + 1) (xs ++ news) → w.grownBy w' v.ownBlock → K (a.put o.dst v') w') : o.wp Tryz.prog a w K Q := by
  obtain ⟨i5, hi5, hzz⟩ := Option.map_eq_some_iff.1 infoW39
  simp only [Prod.mk.injEq] at hzz
  obtain ⟨hz50, hz51, hz52⟩ := hzz
  obtain ⟨v', w', hr, h2, h3, _, h5⟩ := run_append_own_at (P := Tryz.prog) w base 26 o.type 39 i5 (.agg #[.int .i64 0, .int .i64 0, .int .i64 0, .int .i64 0, .int .i64 0]) 5 40 Tryz.underlying26 hi5 hz50 hz51 hz52 rfl (by decide) v n xs hown ad 1 c news hl hnews h1 (by unfold maxLen; omega) (by omega) hb
  unfold Oper.wp execOp
  simp only [ho, resolve, invoke, builtin, Sem.run_bind, Sem.run_pure, Result.andThen_ok, List.map_toArray, List.map_cons, List.map_nil, hs, hx, hr]
  exact h v' w' h2 h3
/-- Walkers of the call's own, grown one by one. -/
def WkR (w : World) (base : Nat) (v : Value) (n : Nat) (Z : Nat → Nat → Int) : Prop := w.ownsRow base 39 5 v n ((List.range n).flatMap (five Z))
theorem WkR.below {w w' : World} {base n : Nat} {v : Value} {Z : Nat → Nat → Int} (h : WkR w base v n Z) (hb : Below w.heap.size w w') : WkR w' base v n Z := row_below h hb
theorem WkR.cells {w : World} {base n : Nat} {v : Value} {Z : Nat → Nat → Int} (h : WkR w base v n Z) (h0 : 0 < n) : ∃ g cap, v = .slice (some ⟨g, 0, none⟩) n cap ∧ base ≤ g ∧ g < w.heap.size ∧ ∀ k j, k < n → j < 5 → w.cell? ⟨g, 0 + k * 5 + j, none⟩ = some (.int .i64 (Z k j)) := by
  have h2 := h.2
  rcases h2 with ⟨_, q⟩ | ⟨g, cap, cur, rfl, _⟩
  · omega
  · have hw : Walks w base (.slice (some ⟨g, 0, none⟩) n cap) (List.range n) Z := ⟨g, cap, by rw [List.length_range], by rw [List.length_range]; exact h⟩
    obtain ⟨g', cap', e, h1, h2, h3⟩ := hw.own
    rw [List.length_range] at e h3
    injection e with e1 _ e3
    injection e1 with e1
    injection e1 with e1
    subst e1
    refine ⟨g, cap, rfl, h1, h2, fun k j hk hj => ?_⟩
    rw [Nat.zero_add, h3.2 k j hk hj]
    simp [hk]
set_option maxHeartbeats 4000000 in
theorem takeWalkerNo (o base : Nat) (c d s0 : Int) (sl : Value) (n : Nat) (Z : Nat → Nat → Int) (line : ByteArray) (w : World) (hE : Env w) (hO : Bk w o [.int .i64 c, .int .i64 d, .int .i64 s0, sl]) (ho : WkR w base sl n Z) (hob : o < base) (hbw : base ≤ w.heap.size) (hn : n ≤ 1000) (hv : ¬ vOk line) :
    Calls Tryz.prog 36 #[.pointer (some ⟨o, 0, none⟩), .string line] w fun e w' => e = .returned (.bool false) ∧ Below o w w' := by
  have HE := hid hE
  have HO := hid hO
  have HR := hid ho
  have HV := hid hv
  clear hE hO ho hv
  have HI := hid (impl_no line w HE.out HV.out)
  obtain ⟨a0, l0, c0, esl⟩ := own_shape HR.out
  subst esl
  go_enter Tryz.func36, Tryz.ntmps36
  go_wp2_with fail
  refine HI.out.mono ?_
  rintro e w1 ⟨rfl, hb1⟩
  have HO1 := hid (HO.out.below hb1)
  have HR1 := hid (WkR.below HR.out hb1)
  have HB1 := hid (hb1.mono (Nat.le_of_lt HO.out.1))
  have hs1 : w.heap.size ≤ w1.heap.size := hb1.size
  clear hb1 HO HR
  go_upto_region 2 with fail
  obtain ⟨w2, e2⟩ : ∃ y, y = (w1.alloc (.cells #[.int .i64 0, .int .i64 0, .int .i64 0, .int .i64 0, .int .i64 0] 39)) := ⟨_, rfl⟩
  rw [← e2]
  have hW : Bk w2 w1.heap.size [.int .i64 0, .int .i64 0, .int .i64 0, .int .i64 0, .int .i64 0] := by rw [e2]; exact bk_new w1 39 [.int .i64 0, .int .i64 0, .int .i64 0, .int .i64 0, .int .i64 0]
  have hb2 : Below w1.heap.size w1 w2 := by rw [e2]; exact (Below.refl _ _).alloc (Nat.le_refl _) _
  have hO := HO1.out.below hb2
  have ho := WkR.below HR1.out hb2
  have HB2 := hid (HB1.out.trans (hb2.mono (by have := HO1.out.1; omega)))
  have hs2 : w1.heap.size ≤ w2.heap.size := hb2.size
  have hol : o < w1.heap.size := HO1.out.1
  obtain ⟨g5, eg⟩ : ∃ g, g = w1.heap.size := ⟨_, rfl⟩
  rw [← eg] at hW ⊢
  have hg1 : w1.heap.size ≤ g5 := by omega
  clear e2 hb2 HB1 HO1 HR1 HE HI eg
  refine wp_region_held_drew (S := fun w' => Below (o) w2 w') (by kernel_rfl) ((Below.refl _ _).drew) ?_
  intro hHeld
  obtain ⟨X0, hX0⟩ : ∃ X, X = w2.drew := ⟨_, rfl⟩
  have hz0 : w2.heap.size ≤ X0.heap.size := by rw [hX0]; exact Nat.le_refl _
  rw [← hX0] at hHeld ⊢
  replace hO := hO.below (show Below w2.heap.size w2 X0 by rw [hX0]; exact (Below.refl _ _).drew)
  replace hW := hW.below (show Below w2.heap.size w2 X0 by rw [hX0]; exact (Below.refl _ _).drew)
  replace ho := WkR.below ho (show Below w2.heap.size w2 X0 by rw [hX0]; exact (Below.refl _ _).drew)
  clear hX0
  refine wpAnyH_take (i := 0) (v := .pointer (some ⟨o, 0, none⟩)) rfl (by kernel_rfl) (by kernel_rfl) (by kernel_rfl) (fun _ _ _ h => h) (Or.inl ⟨by rfl, ?_⟩) (by assumption) ?_
  · intro wx hSw; obtain ⟨hcS, hfS⟩ := bcellN hSw; go_simp
  try simp only [Act.put, List.setIfInBounds_toArray, List.set_cons_zero, List.set_cons_succ, List.getElem_toArray, List.getElem_cons_zero]
  refine wpAnyH_take (i := 1) (v := .pointer (some ⟨o, 0, none⟩)) rfl (by kernel_rfl) (by kernel_rfl) (by kernel_rfl) (fun _ _ _ h => h) (Or.inl ⟨by rfl, ?_⟩) (by assumption) ?_
  · intro wx hSw; obtain ⟨hcS, hfS⟩ := bcellN hSw; go_simp
  try simp only [Act.put, List.setIfInBounds_toArray, List.set_cons_zero, List.set_cons_succ, List.getElem_toArray, List.getElem_cons_zero, List.getElem_cons_succ]
  refine wpAnyH_take (i := 2) (v := .pointer (some ⟨o, 0, none⟩)) rfl (by kernel_rfl) (by kernel_rfl) (by kernel_rfl) (fun _ _ _ h => h) (Or.inl ⟨by rfl, ?_⟩) (by assumption) ?_
  · intro wx hSw; obtain ⟨hcS, hfS⟩ := bcellN hSw; go_simp
  try simp only [Act.put, List.setIfInBounds_toArray, List.set_cons_zero, List.set_cons_succ, List.getElem_toArray, List.getElem_cons_zero, List.getElem_cons_succ]
  refine wpAnyH_take (i := 3) (v := .pointer (some ⟨o, 3, none⟩)) rfl (by kernel_rfl) (by kernel_rfl) (by kernel_rfl) (fun _ _ _ h => h) (Or.inl ⟨by rfl, ?_⟩) (by assumption) ?_
  · intro wx hSw; obtain ⟨hcS, hfS⟩ := bcellN hSw; go_simp
  try simp only [Act.put, List.setIfInBounds_toArray, List.set_cons_zero, List.set_cons_succ, List.getElem_toArray, List.getElem_cons_zero, List.getElem_cons_succ]
  refine wpAnyH_ready (rs := [4, 5]) (by kernel_rfl) (by simp) ?_
  refine (AllReadyH.cons rfl (fun K hK => ?_) (AllReadyH.cons rfl (fun K hK => ?_) AllReadyH.nil))
  · have yq := (hO.2 3 (by simp)).1
    simp only [List.getD, List.getElem?_cons_zero, List.getElem?_cons_succ, Option.getD_some] at yq
    go_simp
    clear yq
    refine hK.out _ _ hHeld (fun hNew => ?_)
    clear hK K hHeld
    have hHeld := hNew
    clear hNew
    try simp only [Act.put, List.setIfInBounds_toArray, List.set_cons_zero, List.set_cons_succ, List.getElem_toArray, List.getElem_cons_zero, List.getElem_cons_succ]
    refine wpAnyH_ready (rs := [5]) (by kernel_rfl) (by simp) ?_
    refine (AllReadyH.cons rfl (fun K hK => ?_) AllReadyH.nil)
    have y0 := (hW.2 0 (by simp)).1
    have y1 := (hW.2 1 (by simp)).1
    have y2 := (hW.2 2 (by simp)).1
    have y3 := (hW.2 3 (by simp)).1
    have y4 := (hW.2 4 (by simp)).1
    simp only [List.getD, List.getElem?_cons_zero, List.getElem?_cons_succ, Option.getD_some] at y0 y1 y2 y3 y4
    have hlW := hW.1
    go_simp
    clear y0 y1 y2 y3 y4 hlW
    refine hK.out _ _ hHeld (fun hNew => ?_)
    clear hK K hHeld
    have hHeld := hNew
    clear hNew
    try simp only [Act.put, List.setIfInBounds_toArray, List.set_cons_zero, List.set_cons_succ, List.getElem_toArray, List.getElem_cons_zero, List.getElem_cons_succ]
    refine wpAnyH_ready (rs := [6]) (by kernel_rfl) (by simp) ?_
    refine (AllReadyH.cons rfl (fun K hK => ?_) AllReadyH.nil)
    go_simp
    obtain ⟨XgB, eA⟩ : ∃ X, X = X0.alloc (.cells #[.int .i64 0, .int .i64 0, .int .i64 0, .int .i64 0, .int .i64 0] 39) := ⟨_, rfl⟩
    rw [← eA]
    have hbA : Below X0.heap.size X0 XgB := by rw [eA]; exact (Below.refl _ _).alloc (Nat.le_refl _) _
    have hZgB : Bk XgB X0.heap.size [.int .i64 0, .int .i64 0, .int .i64 0, .int .i64 0, .int .i64 0] := by rw [eA]; exact bk_new X0 39 [.int .i64 0, .int .i64 0, .int .i64 0, .int .i64 0, .int .i64 0]
    have hzAgB1 : XgB.heap.size ≤ X0.heap.size + 1 := by rw [eA]; simp
    have hzAgB2 : X0.heap.size + 1 ≤ XgB.heap.size := by rw [eA]; simp
    clear eA
    replace hO := hO.below hbA
    replace hW := hW.below hbA
    replace ho := WkR.below ho hbA
    have hsz_XgB := hbA.size
    refine hK.out _ _ (bthenN hHeld (by omega) hbA) (fun hNew => ?_)
    clear hK K hHeld
    have hHeld := hNew
    clear hNew
    try simp only [Act.put, List.setIfInBounds_toArray, List.set_cons_zero, List.set_cons_succ, List.getElem_toArray, List.getElem_cons_zero, List.getElem_cons_succ]
    clear hbA
    obtain ⟨gB, egB⟩ : ∃ g, g = X0.heap.size := ⟨_, rfl⟩
    rw [← egB] at hZgB ⊢
    have egB1 : gB ≤ X0.heap.size := by omega
    have egB2 : X0.heap.size ≤ gB := by omega
    clear egB
    refine wpAnyH_ready (rs := [7]) (by kernel_rfl) (by simp) ?_
    refine (AllReadyH.cons rfl (fun K hK => ?_) AllReadyH.nil)
    rw [if_pos (by rfl)]
    refine app5 _ _ rfl base n _ _ rfl ho ⟨gB, 0, none⟩ 1 ([.int .i64 0, .int .i64 0, .int .i64 0, .int .i64 0, .int .i64 0]) rfl rfl (bk_news hZgB) (one_five (fun _ _ => 0) 0) (by omega) (by omega) ?_
    intro v3 X3 hO3 hg3
    obtain ⟨a3, l3, c3, ev3⟩ := own_shape hO3
    subst ev3
    have hz3 := hg3.size
    replace hO := bk_grown hO ho hg3 (by omega)
    have hB3 : Below o w2 X3 := below_row hHeld ho hg3 (by omega) (by omega)
    refine hK.out _ _ hB3 (fun hNew => ?_)
    clear hK K hHeld
    have hHeld := hNew
    clear hNew
    try simp only [Act.put, List.setIfInBounds_toArray, List.set_cons_zero, List.set_cons_succ, List.getElem_toArray, List.getElem_cons_zero, List.getElem_cons_succ]
    clear ho hZgB hW hg3 hB3
    refine wpAnyH_take (i := 8) (v := .pointer (some ⟨o, 0, none⟩)) rfl (by kernel_rfl) (by kernel_rfl) (by kernel_rfl) (fun _ _ _ h => h) (Or.inl ⟨by rfl, ?_⟩) (by assumption) ?_
    · intro wx hSw; obtain ⟨hcS, hfS⟩ := bcellN hSw; go_simp
    try simp only [Act.put, List.setIfInBounds_toArray, List.set_cons_zero, List.set_cons_succ, List.getElem_toArray, List.getElem_cons_zero, List.getElem_cons_succ]
    refine wpAnyH_take (i := 9) (v := .pointer (some ⟨o, 3, none⟩)) rfl (by kernel_rfl) (by kernel_rfl) (by kernel_rfl) (fun _ _ _ h => h) (Or.inl ⟨by rfl, ?_⟩) (by assumption) ?_
    · intro wx hSw; obtain ⟨hcS, hfS⟩ := bcellN hSw; go_simp
    try simp only [Act.put, List.setIfInBounds_toArray, List.set_cons_zero, List.set_cons_succ, List.getElem_toArray, List.getElem_cons_zero, List.getElem_cons_succ]
    refine wpAnyH_ready (rs := [10]) (by kernel_rfl) (by simp) ?_
    refine (AllReadyH.cons rfl (fun K hK => ?_) AllReadyH.nil)
    have kc := (hO.2 3 (by simp)).1
    have kf := (hO.2 3 (by simp)).2
    simp only [List.getD, List.getElem?_cons_zero, List.getElem?_cons_succ, Option.getD_some] at kc
    go_simp
    clear kc kf
    obtain ⟨X4, e4⟩ : ∃ X, X = X3.setCell ⟨o, 3, none⟩ (.slice a3 l3 c3) := ⟨_, rfl⟩
    rw [← e4]
    have hO4 : Bk X4 o [.int .i64 c, .int .i64 d, .int .i64 s0, .slice a3 l3 c3] := by rw [e4]; exact Bk.set (j := 3) hO (by simp)
    have hB4 : Below o w2 X4 := by rw [e4]; exact hHeld.setCell (Nat.le_refl _) _
    clear e4 hO3 hO
    refine hK.out _ _ hB4 (fun hNew => ?_)
    clear hK K hHeld
    have hHeld := hNew
    clear hNew
    try simp only [Act.put, List.setIfInBounds_toArray, List.set_cons_zero, List.set_cons_succ, List.getElem_toArray, List.getElem_cons_zero, List.getElem_cons_succ]
    clear hB4
    refine wpAnyH_done (by kernel_rfl) ?_ _
    have HB4 := hid (HB2.out.trans hHeld)
    have hol4 : o < X4.heap.size := hO4.1
    go_wp2
    refine wp_region_held_drew (S := fun w' => (∀ b o, b < X4.heap.size → w'.cell? ⟨b, o, none⟩ = X4.cell? ⟨b, o, none⟩) ∧ X4.heap.size ≤ w'.heap.size) (by kernel_rfl) ⟨fun _ _ _ => rfl, Nat.le_refl _⟩ ?_
    intro hHeld
    refine wpAnyH_take (i := 0) (v := .bool false) rfl (by kernel_rfl) (by kernel_rfl) (by kernel_rfl) (fun _ _ _ h => h) (Or.inl ⟨by rfl, ?_⟩) (by assumption) ?_
    · intro wx hSw; go_simp
    try simp only [Act.put, List.setIfInBounds_toArray, List.set_cons_zero, List.set_cons_succ, List.getElem_toArray, List.getElem_cons_zero]
    refine wpAnyH_take (i := 1) (v := .bool false) rfl (by kernel_rfl) (by kernel_rfl) (by kernel_rfl) (fun _ _ _ h => h) (Or.inl ⟨by rfl, ?_⟩) (by assumption) ?_
    · intro wx hSw; go_simp
    try simp only [Act.put, List.setIfInBounds_toArray, List.set_cons_zero, List.set_cons_succ, List.getElem_toArray, List.getElem_cons_zero, List.getElem_cons_succ]
    refine wpAnyH_take (i := 2) (v := undef) rfl (by kernel_rfl) (by kernel_rfl) (by kernel_rfl) (fun _ _ _ h => h) (Or.inr ⟨by rfl, rfl⟩) (by assumption) ?_
    try simp only [Act.put, List.setIfInBounds_toArray, List.set_cons_zero, List.set_cons_succ, List.getElem_toArray, List.getElem_cons_zero, List.getElem_cons_succ]
    refine wpAnyH_take (i := 3) (v := undef) rfl (by kernel_rfl) (by kernel_rfl) (by kernel_rfl) (fun _ _ _ h => h) (Or.inr ⟨by rfl, rfl⟩) (by assumption) ?_
    try simp only [Act.put, List.setIfInBounds_toArray, List.set_cons_zero, List.set_cons_succ, List.getElem_toArray, List.getElem_cons_zero, List.getElem_cons_succ]
    refine wpAnyH_take (i := 4) (v := undef) rfl (by kernel_rfl) (by kernel_rfl) (by kernel_rfl) (fun _ _ _ h => h) (Or.inr ⟨by rfl, rfl⟩) (by assumption) ?_
    try simp only [Act.put, List.setIfInBounds_toArray, List.set_cons_zero, List.set_cons_succ, List.getElem_toArray, List.getElem_cons_zero, List.getElem_cons_succ]
    refine wpAnyH_take (i := 5) (v := undef) rfl (by kernel_rfl) (by kernel_rfl) (by kernel_rfl) (fun _ _ _ h => h) (Or.inr ⟨by rfl, rfl⟩) (by assumption) ?_
    try simp only [Act.put, List.setIfInBounds_toArray, List.set_cons_zero, List.set_cons_succ, List.getElem_toArray, List.getElem_cons_zero, List.getElem_cons_succ]
    refine wpAnyH_take (i := 6) (v := undef) rfl (by kernel_rfl) (by kernel_rfl) (by kernel_rfl) (fun _ _ _ h => h) (Or.inr ⟨by rfl, rfl⟩) (by assumption) ?_
    try simp only [Act.put, List.setIfInBounds_toArray, List.set_cons_zero, List.set_cons_succ, List.getElem_toArray, List.getElem_cons_zero, List.getElem_cons_succ]
    refine wpAnyH_take (i := 7) (v := undef) rfl (by kernel_rfl) (by kernel_rfl) (by kernel_rfl) (fun _ _ _ h => h) (Or.inr ⟨by rfl, rfl⟩) (by assumption) ?_
    try simp only [Act.put, List.setIfInBounds_toArray, List.set_cons_zero, List.set_cons_succ, List.getElem_toArray, List.getElem_cons_zero, List.getElem_cons_succ]
    refine wpAnyH_take (i := 8) (v := undef) rfl (by kernel_rfl) (by kernel_rfl) (by kernel_rfl) (fun _ _ _ h => h) (Or.inr ⟨by rfl, rfl⟩) (by assumption) ?_
    try simp only [Act.put, List.setIfInBounds_toArray, List.set_cons_zero, List.set_cons_succ, List.getElem_toArray, List.getElem_cons_zero, List.getElem_cons_succ]
    refine wpAnyH_take (i := 9) (v := undef) rfl (by kernel_rfl) (by kernel_rfl) (by kernel_rfl) (fun _ _ _ h => h) (Or.inr ⟨by rfl, rfl⟩) (by assumption) ?_
    try simp only [Act.put, List.setIfInBounds_toArray, List.set_cons_zero, List.set_cons_succ, List.getElem_toArray, List.getElem_cons_zero, List.getElem_cons_succ]
    refine wpAnyH_take (i := 10) (v := undef) rfl (by kernel_rfl) (by kernel_rfl) (by kernel_rfl) (fun _ _ _ h => h) (Or.inr ⟨by rfl, rfl⟩) (by assumption) ?_
    try simp only [Act.put, List.setIfInBounds_toArray, List.set_cons_zero, List.set_cons_succ, List.getElem_toArray, List.getElem_cons_zero, List.getElem_cons_succ]
    refine wpAnyH_take (i := 11) (v := .bool false) rfl (by kernel_rfl) (by kernel_rfl) (by kernel_rfl) (fun _ _ _ h => h) (Or.inl ⟨by rfl, ?_⟩) (by assumption) ?_
    · intro wx hSw; go_simp
    try simp only [Act.put, List.setIfInBounds_toArray, List.set_cons_zero, List.set_cons_succ, List.getElem_toArray, List.getElem_cons_zero, List.getElem_cons_succ]
    refine wpAnyH_take (i := 12) (v := .bool false) rfl (by kernel_rfl) (by kernel_rfl) (by kernel_rfl) (fun _ _ _ h => h) (Or.inl ⟨by rfl, ?_⟩) (by assumption) ?_
    · intro wx hSw; go_simp
    try simp only [Act.put, List.setIfInBounds_toArray, List.set_cons_zero, List.set_cons_succ, List.getElem_toArray, List.getElem_cons_zero, List.getElem_cons_succ]
    refine wpAnyH_done (by kernel_rfl) ?_ _
    clear hHeld
    go_wp2
    go_ret
    exact ⟨rfl, HB4.out.drew⟩
  · have y0 := (hW.2 0 (by simp)).1
    have y1 := (hW.2 1 (by simp)).1
    have y2 := (hW.2 2 (by simp)).1
    have y3 := (hW.2 3 (by simp)).1
    have y4 := (hW.2 4 (by simp)).1
    simp only [List.getD, List.getElem?_cons_zero, List.getElem?_cons_succ, Option.getD_some] at y0 y1 y2 y3 y4
    have hlW := hW.1
    go_simp
    clear y0 y1 y2 y3 y4 hlW
    refine hK.out _ _ hHeld (fun hNew => ?_)
    clear hK K hHeld
    have hHeld := hNew
    clear hNew
    try simp only [Act.put, List.setIfInBounds_toArray, List.set_cons_zero, List.set_cons_succ, List.getElem_toArray, List.getElem_cons_zero, List.getElem_cons_succ]
    refine wpAnyH_ready (rs := [4, 6]) (by kernel_rfl) (by simp) ?_
    refine (AllReadyH.cons rfl (fun K hK => ?_) (AllReadyH.cons rfl (fun K hK => ?_) AllReadyH.nil))
    · have yq := (hO.2 3 (by simp)).1
      simp only [List.getD, List.getElem?_cons_zero, List.getElem?_cons_succ, Option.getD_some] at yq
      go_simp
      clear yq
      refine hK.out _ _ hHeld (fun hNew => ?_)
      clear hK K hHeld
      have hHeld := hNew
      clear hNew
      try simp only [Act.put, List.setIfInBounds_toArray, List.set_cons_zero, List.set_cons_succ, List.getElem_toArray, List.getElem_cons_zero, List.getElem_cons_succ]
      refine wpAnyH_ready (rs := [6]) (by kernel_rfl) (by simp) ?_
      refine (AllReadyH.cons rfl (fun K hK => ?_) AllReadyH.nil)
      go_simp
      obtain ⟨XgB, eA⟩ : ∃ X, X = X0.alloc (.cells #[.int .i64 0, .int .i64 0, .int .i64 0, .int .i64 0, .int .i64 0] 39) := ⟨_, rfl⟩
      rw [← eA]
      have hbA : Below X0.heap.size X0 XgB := by rw [eA]; exact (Below.refl _ _).alloc (Nat.le_refl _) _
      have hZgB : Bk XgB X0.heap.size [.int .i64 0, .int .i64 0, .int .i64 0, .int .i64 0, .int .i64 0] := by rw [eA]; exact bk_new X0 39 [.int .i64 0, .int .i64 0, .int .i64 0, .int .i64 0, .int .i64 0]
      have hzAgB1 : XgB.heap.size ≤ X0.heap.size + 1 := by rw [eA]; simp
      have hzAgB2 : X0.heap.size + 1 ≤ XgB.heap.size := by rw [eA]; simp
      clear eA
      replace hO := hO.below hbA
      replace hW := hW.below hbA
      replace ho := WkR.below ho hbA
      have hsz_XgB := hbA.size
      refine hK.out _ _ (bthenN hHeld (by omega) hbA) (fun hNew => ?_)
      clear hK K hHeld
      have hHeld := hNew
      clear hNew
      try simp only [Act.put, List.setIfInBounds_toArray, List.set_cons_zero, List.set_cons_succ, List.getElem_toArray, List.getElem_cons_zero, List.getElem_cons_succ]
      clear hbA
      obtain ⟨gB, egB⟩ : ∃ g, g = X0.heap.size := ⟨_, rfl⟩
      rw [← egB] at hZgB ⊢
      have egB1 : gB ≤ X0.heap.size := by omega
      have egB2 : X0.heap.size ≤ gB := by omega
      clear egB
      refine wpAnyH_ready (rs := [7]) (by kernel_rfl) (by simp) ?_
      refine (AllReadyH.cons rfl (fun K hK => ?_) AllReadyH.nil)
      rw [if_pos (by rfl)]
      refine app5 _ _ rfl base n _ _ rfl ho ⟨gB, 0, none⟩ 1 ([.int .i64 0, .int .i64 0, .int .i64 0, .int .i64 0, .int .i64 0]) rfl rfl (bk_news hZgB) (one_five (fun _ _ => 0) 0) (by omega) (by omega) ?_
      intro v3 X3 hO3 hg3
      obtain ⟨a3, l3, c3, ev3⟩ := own_shape hO3
      subst ev3
      have hz3 := hg3.size
      replace hO := bk_grown hO ho hg3 (by omega)
      have hB3 : Below o w2 X3 := below_row hHeld ho hg3 (by omega) (by omega)
      refine hK.out _ _ hB3 (fun hNew => ?_)
      clear hK K hHeld
      have hHeld := hNew
      clear hNew
      try simp only [Act.put, List.setIfInBounds_toArray, List.set_cons_zero, List.set_cons_succ, List.getElem_toArray, List.getElem_cons_zero, List.getElem_cons_succ]
      clear ho hZgB hW hg3 hB3
      refine wpAnyH_take (i := 8) (v := .pointer (some ⟨o, 0, none⟩)) rfl (by kernel_rfl) (by kernel_rfl) (by kernel_rfl) (fun _ _ _ h => h) (Or.inl ⟨by rfl, ?_⟩) (by assumption) ?_
      · intro wx hSw; obtain ⟨hcS, hfS⟩ := bcellN hSw; go_simp
      try simp only [Act.put, List.setIfInBounds_toArray, List.set_cons_zero, List.set_cons_succ, List.getElem_toArray, List.getElem_cons_zero, List.getElem_cons_succ]
      refine wpAnyH_take (i := 9) (v := .pointer (some ⟨o, 3, none⟩)) rfl (by kernel_rfl) (by kernel_rfl) (by kernel_rfl) (fun _ _ _ h => h) (Or.inl ⟨by rfl, ?_⟩) (by assumption) ?_
      · intro wx hSw; obtain ⟨hcS, hfS⟩ := bcellN hSw; go_simp
      try simp only [Act.put, List.setIfInBounds_toArray, List.set_cons_zero, List.set_cons_succ, List.getElem_toArray, List.getElem_cons_zero, List.getElem_cons_succ]
      refine wpAnyH_ready (rs := [10]) (by kernel_rfl) (by simp) ?_
      refine (AllReadyH.cons rfl (fun K hK => ?_) AllReadyH.nil)
      have kc := (hO.2 3 (by simp)).1
      have kf := (hO.2 3 (by simp)).2
      simp only [List.getD, List.getElem?_cons_zero, List.getElem?_cons_succ, Option.getD_some] at kc
      go_simp
      clear kc kf
      obtain ⟨X4, e4⟩ : ∃ X, X = X3.setCell ⟨o, 3, none⟩ (.slice a3 l3 c3) := ⟨_, rfl⟩
      rw [← e4]
      have hO4 : Bk X4 o [.int .i64 c, .int .i64 d, .int .i64 s0, .slice a3 l3 c3] := by rw [e4]; exact Bk.set (j := 3) hO (by simp)
      have hB4 : Below o w2 X4 := by rw [e4]; exact hHeld.setCell (Nat.le_refl _) _
      clear e4 hO3 hO
      refine hK.out _ _ hB4 (fun hNew => ?_)
      clear hK K hHeld
      have hHeld := hNew
      clear hNew
      try simp only [Act.put, List.setIfInBounds_toArray, List.set_cons_zero, List.set_cons_succ, List.getElem_toArray, List.getElem_cons_zero, List.getElem_cons_succ]
      clear hB4
      refine wpAnyH_done (by kernel_rfl) ?_ _
      have HB4 := hid (HB2.out.trans hHeld)
      have hol4 : o < X4.heap.size := hO4.1
      go_wp2
      refine wp_region_held_drew (S := fun w' => (∀ b o, b < X4.heap.size → w'.cell? ⟨b, o, none⟩ = X4.cell? ⟨b, o, none⟩) ∧ X4.heap.size ≤ w'.heap.size) (by kernel_rfl) ⟨fun _ _ _ => rfl, Nat.le_refl _⟩ ?_
      intro hHeld
      refine wpAnyH_take (i := 0) (v := .bool false) rfl (by kernel_rfl) (by kernel_rfl) (by kernel_rfl) (fun _ _ _ h => h) (Or.inl ⟨by rfl, ?_⟩) (by assumption) ?_
      · intro wx hSw; go_simp
      try simp only [Act.put, List.setIfInBounds_toArray, List.set_cons_zero, List.set_cons_succ, List.getElem_toArray, List.getElem_cons_zero]
      refine wpAnyH_take (i := 1) (v := .bool false) rfl (by kernel_rfl) (by kernel_rfl) (by kernel_rfl) (fun _ _ _ h => h) (Or.inl ⟨by rfl, ?_⟩) (by assumption) ?_
      · intro wx hSw; go_simp
      try simp only [Act.put, List.setIfInBounds_toArray, List.set_cons_zero, List.set_cons_succ, List.getElem_toArray, List.getElem_cons_zero, List.getElem_cons_succ]
      refine wpAnyH_take (i := 2) (v := undef) rfl (by kernel_rfl) (by kernel_rfl) (by kernel_rfl) (fun _ _ _ h => h) (Or.inr ⟨by rfl, rfl⟩) (by assumption) ?_
      try simp only [Act.put, List.setIfInBounds_toArray, List.set_cons_zero, List.set_cons_succ, List.getElem_toArray, List.getElem_cons_zero, List.getElem_cons_succ]
      refine wpAnyH_take (i := 3) (v := undef) rfl (by kernel_rfl) (by kernel_rfl) (by kernel_rfl) (fun _ _ _ h => h) (Or.inr ⟨by rfl, rfl⟩) (by assumption) ?_
      try simp only [Act.put, List.setIfInBounds_toArray, List.set_cons_zero, List.set_cons_succ, List.getElem_toArray, List.getElem_cons_zero, List.getElem_cons_succ]
      refine wpAnyH_take (i := 4) (v := undef) rfl (by kernel_rfl) (by kernel_rfl) (by kernel_rfl) (fun _ _ _ h => h) (Or.inr ⟨by rfl, rfl⟩) (by assumption) ?_
      try simp only [Act.put, List.setIfInBounds_toArray, List.set_cons_zero, List.set_cons_succ, List.getElem_toArray, List.getElem_cons_zero, List.getElem_cons_succ]
      refine wpAnyH_take (i := 5) (v := undef) rfl (by kernel_rfl) (by kernel_rfl) (by kernel_rfl) (fun _ _ _ h => h) (Or.inr ⟨by rfl, rfl⟩) (by assumption) ?_
      try simp only [Act.put, List.setIfInBounds_toArray, List.set_cons_zero, List.set_cons_succ, List.getElem_toArray, List.getElem_cons_zero, List.getElem_cons_succ]
      refine wpAnyH_take (i := 6) (v := undef) rfl (by kernel_rfl) (by kernel_rfl) (by kernel_rfl) (fun _ _ _ h => h) (Or.inr ⟨by rfl, rfl⟩) (by assumption) ?_
      try simp only [Act.put, List.setIfInBounds_toArray, List.set_cons_zero, List.set_cons_succ, List.getElem_toArray, List.getElem_cons_zero, List.getElem_cons_succ]
      refine wpAnyH_take (i := 7) (v := undef) rfl (by kernel_rfl) (by kernel_rfl) (by kernel_rfl) (fun _ _ _ h => h) (Or.inr ⟨by rfl, rfl⟩) (by assumption) ?_
      try simp only [Act.put, List.setIfInBounds_toArray, List.set_cons_zero, List.set_cons_succ, List.getElem_toArray, List.getElem_cons_zero, List.getElem_cons_succ]
      refine wpAnyH_take (i := 8) (v := undef) rfl (by kernel_rfl) (by kernel_rfl) (by kernel_rfl) (fun _ _ _ h => h) (Or.inr ⟨by rfl, rfl⟩) (by assumption) ?_
      try simp only [Act.put, List.setIfInBounds_toArray, List.set_cons_zero, List.set_cons_succ, List.getElem_toArray, List.getElem_cons_zero, List.getElem_cons_succ]
      refine wpAnyH_take (i := 9) (v := undef) rfl (by kernel_rfl) (by kernel_rfl) (by kernel_rfl) (fun _ _ _ h => h) (Or.inr ⟨by rfl, rfl⟩) (by assumption) ?_
      try simp only [Act.put, List.setIfInBounds_toArray, List.set_cons_zero, List.set_cons_succ, List.getElem_toArray, List.getElem_cons_zero, List.getElem_cons_succ]
      refine wpAnyH_take (i := 10) (v := undef) rfl (by kernel_rfl) (by kernel_rfl) (by kernel_rfl) (fun _ _ _ h => h) (Or.inr ⟨by rfl, rfl⟩) (by assumption) ?_
      try simp only [Act.put, List.setIfInBounds_toArray, List.set_cons_zero, List.set_cons_succ, List.getElem_toArray, List.getElem_cons_zero, List.getElem_cons_succ]
      refine wpAnyH_take (i := 11) (v := .bool false) rfl (by kernel_rfl) (by kernel_rfl) (by kernel_rfl) (fun _ _ _ h => h) (Or.inl ⟨by rfl, ?_⟩) (by assumption) ?_
      · intro wx hSw; go_simp
      try simp only [Act.put, List.setIfInBounds_toArray, List.set_cons_zero, List.set_cons_succ, List.getElem_toArray, List.getElem_cons_zero, List.getElem_cons_succ]
      refine wpAnyH_take (i := 12) (v := .bool false) rfl (by kernel_rfl) (by kernel_rfl) (by kernel_rfl) (fun _ _ _ h => h) (Or.inl ⟨by rfl, ?_⟩) (by assumption) ?_
      · intro wx hSw; go_simp
      try simp only [Act.put, List.setIfInBounds_toArray, List.set_cons_zero, List.set_cons_succ, List.getElem_toArray, List.getElem_cons_zero, List.getElem_cons_succ]
      refine wpAnyH_done (by kernel_rfl) ?_ _
      clear hHeld
      go_wp2
      go_ret
      exact ⟨rfl, HB4.out.drew⟩
    · go_simp
      obtain ⟨XgB, eA⟩ : ∃ X, X = X0.alloc (.cells #[.int .i64 0, .int .i64 0, .int .i64 0, .int .i64 0, .int .i64 0] 39) := ⟨_, rfl⟩
      rw [← eA]
      have hbA : Below X0.heap.size X0 XgB := by rw [eA]; exact (Below.refl _ _).alloc (Nat.le_refl _) _
      have hZgB : Bk XgB X0.heap.size [.int .i64 0, .int .i64 0, .int .i64 0, .int .i64 0, .int .i64 0] := by rw [eA]; exact bk_new X0 39 [.int .i64 0, .int .i64 0, .int .i64 0, .int .i64 0, .int .i64 0]
      have hzAgB1 : XgB.heap.size ≤ X0.heap.size + 1 := by rw [eA]; simp
      have hzAgB2 : X0.heap.size + 1 ≤ XgB.heap.size := by rw [eA]; simp
      clear eA
      replace hO := hO.below hbA
      replace hW := hW.below hbA
      replace ho := WkR.below ho hbA
      have hsz_XgB := hbA.size
      refine hK.out _ _ (bthenN hHeld (by omega) hbA) (fun hNew => ?_)
      clear hK K hHeld
      have hHeld := hNew
      clear hNew
      try simp only [Act.put, List.setIfInBounds_toArray, List.set_cons_zero, List.set_cons_succ, List.getElem_toArray, List.getElem_cons_zero, List.getElem_cons_succ]
      clear hbA
      obtain ⟨gB, egB⟩ : ∃ g, g = X0.heap.size := ⟨_, rfl⟩
      rw [← egB] at hZgB ⊢
      have egB1 : gB ≤ X0.heap.size := by omega
      have egB2 : X0.heap.size ≤ gB := by omega
      clear egB
      refine wpAnyH_ready (rs := [4]) (by kernel_rfl) (by simp) ?_
      refine (AllReadyH.cons rfl (fun K hK => ?_) AllReadyH.nil)
      have yq := (hO.2 3 (by simp)).1
      simp only [List.getD, List.getElem?_cons_zero, List.getElem?_cons_succ, Option.getD_some] at yq
      go_simp
      clear yq
      refine hK.out _ _ hHeld (fun hNew => ?_)
      clear hK K hHeld
      have hHeld := hNew
      clear hNew
      try simp only [Act.put, List.setIfInBounds_toArray, List.set_cons_zero, List.set_cons_succ, List.getElem_toArray, List.getElem_cons_zero, List.getElem_cons_succ]
      refine wpAnyH_ready (rs := [7]) (by kernel_rfl) (by simp) ?_
      refine (AllReadyH.cons rfl (fun K hK => ?_) AllReadyH.nil)
      rw [if_pos (by rfl)]
      refine app5 _ _ rfl base n _ _ rfl ho ⟨gB, 0, none⟩ 1 ([.int .i64 0, .int .i64 0, .int .i64 0, .int .i64 0, .int .i64 0]) rfl rfl (bk_news hZgB) (one_five (fun _ _ => 0) 0) (by omega) (by omega) ?_
      intro v3 X3 hO3 hg3
      obtain ⟨a3, l3, c3, ev3⟩ := own_shape hO3
      subst ev3
      have hz3 := hg3.size
      replace hO := bk_grown hO ho hg3 (by omega)
      have hB3 : Below o w2 X3 := below_row hHeld ho hg3 (by omega) (by omega)
      refine hK.out _ _ hB3 (fun hNew => ?_)
      clear hK K hHeld
      have hHeld := hNew
      clear hNew
      try simp only [Act.put, List.setIfInBounds_toArray, List.set_cons_zero, List.set_cons_succ, List.getElem_toArray, List.getElem_cons_zero, List.getElem_cons_succ]
      clear ho hZgB hW hg3 hB3
      refine wpAnyH_take (i := 8) (v := .pointer (some ⟨o, 0, none⟩)) rfl (by kernel_rfl) (by kernel_rfl) (by kernel_rfl) (fun _ _ _ h => h) (Or.inl ⟨by rfl, ?_⟩) (by assumption) ?_
      · intro wx hSw; obtain ⟨hcS, hfS⟩ := bcellN hSw; go_simp
      try simp only [Act.put, List.setIfInBounds_toArray, List.set_cons_zero, List.set_cons_succ, List.getElem_toArray, List.getElem_cons_zero, List.getElem_cons_succ]
      refine wpAnyH_take (i := 9) (v := .pointer (some ⟨o, 3, none⟩)) rfl (by kernel_rfl) (by kernel_rfl) (by kernel_rfl) (fun _ _ _ h => h) (Or.inl ⟨by rfl, ?_⟩) (by assumption) ?_
      · intro wx hSw; obtain ⟨hcS, hfS⟩ := bcellN hSw; go_simp
      try simp only [Act.put, List.setIfInBounds_toArray, List.set_cons_zero, List.set_cons_succ, List.getElem_toArray, List.getElem_cons_zero, List.getElem_cons_succ]
      refine wpAnyH_ready (rs := [10]) (by kernel_rfl) (by simp) ?_
      refine (AllReadyH.cons rfl (fun K hK => ?_) AllReadyH.nil)
      have kc := (hO.2 3 (by simp)).1
      have kf := (hO.2 3 (by simp)).2
      simp only [List.getD, List.getElem?_cons_zero, List.getElem?_cons_succ, Option.getD_some] at kc
      go_simp
      clear kc kf
      obtain ⟨X4, e4⟩ : ∃ X, X = X3.setCell ⟨o, 3, none⟩ (.slice a3 l3 c3) := ⟨_, rfl⟩
      rw [← e4]
      have hO4 : Bk X4 o [.int .i64 c, .int .i64 d, .int .i64 s0, .slice a3 l3 c3] := by rw [e4]; exact Bk.set (j := 3) hO (by simp)
      have hB4 : Below o w2 X4 := by rw [e4]; exact hHeld.setCell (Nat.le_refl _) _
      clear e4 hO3 hO
      refine hK.out _ _ hB4 (fun hNew => ?_)
      clear hK K hHeld
      have hHeld := hNew
      clear hNew
      try simp only [Act.put, List.setIfInBounds_toArray, List.set_cons_zero, List.set_cons_succ, List.getElem_toArray, List.getElem_cons_zero, List.getElem_cons_succ]
      clear hB4
      refine wpAnyH_done (by kernel_rfl) ?_ _
      have HB4 := hid (HB2.out.trans hHeld)
      have hol4 : o < X4.heap.size := hO4.1
      go_wp2
      refine wp_region_held_drew (S := fun w' => (∀ b o, b < X4.heap.size → w'.cell? ⟨b, o, none⟩ = X4.cell? ⟨b, o, none⟩) ∧ X4.heap.size ≤ w'.heap.size) (by kernel_rfl) ⟨fun _ _ _ => rfl, Nat.le_refl _⟩ ?_
      intro hHeld
      refine wpAnyH_take (i := 0) (v := .bool false) rfl (by kernel_rfl) (by kernel_rfl) (by kernel_rfl) (fun _ _ _ h => h) (Or.inl ⟨by rfl, ?_⟩) (by assumption) ?_
      · intro wx hSw; go_simp
      try simp only [Act.put, List.setIfInBounds_toArray, List.set_cons_zero, List.set_cons_succ, List.getElem_toArray, List.getElem_cons_zero]
      refine wpAnyH_take (i := 1) (v := .bool false) rfl (by kernel_rfl) (by kernel_rfl) (by kernel_rfl) (fun _ _ _ h => h) (Or.inl ⟨by rfl, ?_⟩) (by assumption) ?_
      · intro wx hSw; go_simp
      try simp only [Act.put, List.setIfInBounds_toArray, List.set_cons_zero, List.set_cons_succ, List.getElem_toArray, List.getElem_cons_zero, List.getElem_cons_succ]
      refine wpAnyH_take (i := 2) (v := undef) rfl (by kernel_rfl) (by kernel_rfl) (by kernel_rfl) (fun _ _ _ h => h) (Or.inr ⟨by rfl, rfl⟩) (by assumption) ?_
      try simp only [Act.put, List.setIfInBounds_toArray, List.set_cons_zero, List.set_cons_succ, List.getElem_toArray, List.getElem_cons_zero, List.getElem_cons_succ]
      refine wpAnyH_take (i := 3) (v := undef) rfl (by kernel_rfl) (by kernel_rfl) (by kernel_rfl) (fun _ _ _ h => h) (Or.inr ⟨by rfl, rfl⟩) (by assumption) ?_
      try simp only [Act.put, List.setIfInBounds_toArray, List.set_cons_zero, List.set_cons_succ, List.getElem_toArray, List.getElem_cons_zero, List.getElem_cons_succ]
      refine wpAnyH_take (i := 4) (v := undef) rfl (by kernel_rfl) (by kernel_rfl) (by kernel_rfl) (fun _ _ _ h => h) (Or.inr ⟨by rfl, rfl⟩) (by assumption) ?_
      try simp only [Act.put, List.setIfInBounds_toArray, List.set_cons_zero, List.set_cons_succ, List.getElem_toArray, List.getElem_cons_zero, List.getElem_cons_succ]
      refine wpAnyH_take (i := 5) (v := undef) rfl (by kernel_rfl) (by kernel_rfl) (by kernel_rfl) (fun _ _ _ h => h) (Or.inr ⟨by rfl, rfl⟩) (by assumption) ?_
      try simp only [Act.put, List.setIfInBounds_toArray, List.set_cons_zero, List.set_cons_succ, List.getElem_toArray, List.getElem_cons_zero, List.getElem_cons_succ]
      refine wpAnyH_take (i := 6) (v := undef) rfl (by kernel_rfl) (by kernel_rfl) (by kernel_rfl) (fun _ _ _ h => h) (Or.inr ⟨by rfl, rfl⟩) (by assumption) ?_
      try simp only [Act.put, List.setIfInBounds_toArray, List.set_cons_zero, List.set_cons_succ, List.getElem_toArray, List.getElem_cons_zero, List.getElem_cons_succ]
      refine wpAnyH_take (i := 7) (v := undef) rfl (by kernel_rfl) (by kernel_rfl) (by kernel_rfl) (fun _ _ _ h => h) (Or.inr ⟨by rfl, rfl⟩) (by assumption) ?_
      try simp only [Act.put, List.setIfInBounds_toArray, List.set_cons_zero, List.set_cons_succ, List.getElem_toArray, List.getElem_cons_zero, List.getElem_cons_succ]
      refine wpAnyH_take (i := 8) (v := undef) rfl (by kernel_rfl) (by kernel_rfl) (by kernel_rfl) (fun _ _ _ h => h) (Or.inr ⟨by rfl, rfl⟩) (by assumption) ?_
      try simp only [Act.put, List.setIfInBounds_toArray, List.set_cons_zero, List.set_cons_succ, List.getElem_toArray, List.getElem_cons_zero, List.getElem_cons_succ]
      refine wpAnyH_take (i := 9) (v := undef) rfl (by kernel_rfl) (by kernel_rfl) (by kernel_rfl) (fun _ _ _ h => h) (Or.inr ⟨by rfl, rfl⟩) (by assumption) ?_
      try simp only [Act.put, List.setIfInBounds_toArray, List.set_cons_zero, List.set_cons_succ, List.getElem_toArray, List.getElem_cons_zero, List.getElem_cons_succ]
      refine wpAnyH_take (i := 10) (v := undef) rfl (by kernel_rfl) (by kernel_rfl) (by kernel_rfl) (fun _ _ _ h => h) (Or.inr ⟨by rfl, rfl⟩) (by assumption) ?_
      try simp only [Act.put, List.setIfInBounds_toArray, List.set_cons_zero, List.set_cons_succ, List.getElem_toArray, List.getElem_cons_zero, List.getElem_cons_succ]
      refine wpAnyH_take (i := 11) (v := .bool false) rfl (by kernel_rfl) (by kernel_rfl) (by kernel_rfl) (fun _ _ _ h => h) (Or.inl ⟨by rfl, ?_⟩) (by assumption) ?_
      · intro wx hSw; go_simp
      try simp only [Act.put, List.setIfInBounds_toArray, List.set_cons_zero, List.set_cons_succ, List.getElem_toArray, List.getElem_cons_zero, List.getElem_cons_succ]
      refine wpAnyH_take (i := 12) (v := .bool false) rfl (by kernel_rfl) (by kernel_rfl) (by kernel_rfl) (fun _ _ _ h => h) (Or.inl ⟨by rfl, ?_⟩) (by assumption) ?_
      · intro wx hSw; go_simp
      try simp only [Act.put, List.setIfInBounds_toArray, List.set_cons_zero, List.set_cons_succ, List.getElem_toArray, List.getElem_cons_zero, List.getElem_cons_succ]
      refine wpAnyH_done (by kernel_rfl) ?_ _
      clear hHeld
      go_wp2
      go_ret
      exact ⟨rfl, HB4.out.drew⟩
set_option maxHeartbeats 4000000 in
theorem takeWalkerYes (o base : Nat) (c d s0 : Int) (sl : Value) (n : Nat) (Z : Nat → Nat → Int) (line : ByteArray) (w : World) (hE : Env w) (hO : Bk w o [.int .i64 c, .int .i64 d, .int .i64 s0, sl]) (ho : WkR w base sl n Z) (hob : o < base) (hbw : base ≤ w.heap.size) (hn : n ≤ 1000) (hv : vOk line) (hZ : ∀ j, j < 5 → Z n j = vF line (2 * j + 1)) :
    Calls Tryz.prog 36 #[.pointer (some ⟨o, 0, none⟩), .string line] w fun e w' => e = .returned (.bool (allB c d Z (n + 1))) ∧ (∃ sl', Bk w' o [.int .i64 c, .int .i64 d, .int .i64 s0, sl'] ∧ WkR w' base sl' (n + 1) Z) ∧ Below o w w' := by
  have HE := hid hE
  have HO := hid hO
  have HR := hid ho
  have HV := hid hv
  clear hE hO ho hv
  have HI := hid (impl_yes line w HE.out HV.out)
  rw [← hZ 0 (by omega), ← hZ 1 (by omega), ← hZ 2 (by omega), ← hZ 3 (by omega), ← hZ 4 (by omega)] at HI
  clear hZ
  obtain ⟨a0, l0, c0, esl⟩ := own_shape HR.out
  subst esl
  go_enter Tryz.func36, Tryz.ntmps36
  go_wp2_with fail
  refine HI.out.mono ?_
  rintro e w1 ⟨rfl, hb1⟩
  have HO1 := hid (HO.out.below hb1)
  have HR1 := hid (WkR.below HR.out hb1)
  have HB1 := hid (hb1.mono (Nat.le_of_lt HO.out.1))
  have hs1 : w.heap.size ≤ w1.heap.size := hb1.size
  clear hb1 HO HR
  go_upto_region 2 with fail
  obtain ⟨w2, e2⟩ : ∃ y, y = (w1.alloc (.cells #[.int .i64 (Z n 0), .int .i64 (Z n 1), .int .i64 (Z n 2), .int .i64 (Z n 3), .int .i64 (Z n 4)] 39)) := ⟨_, rfl⟩
  rw [← e2]
  have hW : Bk w2 w1.heap.size [.int .i64 (Z n 0), .int .i64 (Z n 1), .int .i64 (Z n 2), .int .i64 (Z n 3), .int .i64 (Z n 4)] := by rw [e2]; exact bk_new w1 39 [.int .i64 (Z n 0), .int .i64 (Z n 1), .int .i64 (Z n 2), .int .i64 (Z n 3), .int .i64 (Z n 4)]
  have hb2 : Below w1.heap.size w1 w2 := by rw [e2]; exact (Below.refl _ _).alloc (Nat.le_refl _) _
  have hO := HO1.out.below hb2
  have ho := WkR.below HR1.out hb2
  have HB2 := hid (HB1.out.trans (hb2.mono (by have := HO1.out.1; omega)))
  have hs2 : w1.heap.size ≤ w2.heap.size := hb2.size
  have hol : o < w1.heap.size := HO1.out.1
  obtain ⟨g5, eg⟩ : ∃ g, g = w1.heap.size := ⟨_, rfl⟩
  rw [← eg] at hW ⊢
  have hg1 : w1.heap.size ≤ g5 := by omega
  clear e2 hb2 HB1 HO1 HR1 HE HI eg
  refine wp_region_held_drew (S := fun w' => Below (o) w2 w') (by kernel_rfl) ((Below.refl _ _).drew) ?_
  intro hHeld
  obtain ⟨X0, hX0⟩ : ∃ X, X = w2.drew := ⟨_, rfl⟩
  have hz0 : w2.heap.size ≤ X0.heap.size := by rw [hX0]; exact Nat.le_refl _
  rw [← hX0] at hHeld ⊢
  replace hO := hO.below (show Below w2.heap.size w2 X0 by rw [hX0]; exact (Below.refl _ _).drew)
  replace hW := hW.below (show Below w2.heap.size w2 X0 by rw [hX0]; exact (Below.refl _ _).drew)
  replace ho := WkR.below ho (show Below w2.heap.size w2 X0 by rw [hX0]; exact (Below.refl _ _).drew)
  clear hX0
  refine wpAnyH_take (i := 0) (v := .pointer (some ⟨o, 0, none⟩)) rfl (by kernel_rfl) (by kernel_rfl) (by kernel_rfl) (fun _ _ _ h => h) (Or.inl ⟨by rfl, ?_⟩) (by assumption) ?_
  · intro wx hSw; obtain ⟨hcS, hfS⟩ := bcellN hSw; go_simp
  try simp only [Act.put, List.setIfInBounds_toArray, List.set_cons_zero, List.set_cons_succ, List.getElem_toArray, List.getElem_cons_zero]
  refine wpAnyH_take (i := 1) (v := .pointer (some ⟨o, 0, none⟩)) rfl (by kernel_rfl) (by kernel_rfl) (by kernel_rfl) (fun _ _ _ h => h) (Or.inl ⟨by rfl, ?_⟩) (by assumption) ?_
  · intro wx hSw; obtain ⟨hcS, hfS⟩ := bcellN hSw; go_simp
  try simp only [Act.put, List.setIfInBounds_toArray, List.set_cons_zero, List.set_cons_succ, List.getElem_toArray, List.getElem_cons_zero, List.getElem_cons_succ]
  refine wpAnyH_take (i := 2) (v := .pointer (some ⟨o, 0, none⟩)) rfl (by kernel_rfl) (by kernel_rfl) (by kernel_rfl) (fun _ _ _ h => h) (Or.inl ⟨by rfl, ?_⟩) (by assumption) ?_
  · intro wx hSw; obtain ⟨hcS, hfS⟩ := bcellN hSw; go_simp
  try simp only [Act.put, List.setIfInBounds_toArray, List.set_cons_zero, List.set_cons_succ, List.getElem_toArray, List.getElem_cons_zero, List.getElem_cons_succ]
  refine wpAnyH_take (i := 3) (v := .pointer (some ⟨o, 3, none⟩)) rfl (by kernel_rfl) (by kernel_rfl) (by kernel_rfl) (fun _ _ _ h => h) (Or.inl ⟨by rfl, ?_⟩) (by assumption) ?_
  · intro wx hSw; obtain ⟨hcS, hfS⟩ := bcellN hSw; go_simp
  try simp only [Act.put, List.setIfInBounds_toArray, List.set_cons_zero, List.set_cons_succ, List.getElem_toArray, List.getElem_cons_zero, List.getElem_cons_succ]
  refine wpAnyH_ready (rs := [4, 5]) (by kernel_rfl) (by simp) ?_
  refine (AllReadyH.cons rfl (fun K hK => ?_) (AllReadyH.cons rfl (fun K hK => ?_) AllReadyH.nil))
  · have yq := (hO.2 3 (by simp)).1
    simp only [List.getD, List.getElem?_cons_zero, List.getElem?_cons_succ, Option.getD_some] at yq
    go_simp
    clear yq
    refine hK.out _ _ hHeld (fun hNew => ?_)
    clear hK K hHeld
    have hHeld := hNew
    clear hNew
    try simp only [Act.put, List.setIfInBounds_toArray, List.set_cons_zero, List.set_cons_succ, List.getElem_toArray, List.getElem_cons_zero, List.getElem_cons_succ]
    refine wpAnyH_ready (rs := [5]) (by kernel_rfl) (by simp) ?_
    refine (AllReadyH.cons rfl (fun K hK => ?_) AllReadyH.nil)
    have y0 := (hW.2 0 (by simp)).1
    have y1 := (hW.2 1 (by simp)).1
    have y2 := (hW.2 2 (by simp)).1
    have y3 := (hW.2 3 (by simp)).1
    have y4 := (hW.2 4 (by simp)).1
    simp only [List.getD, List.getElem?_cons_zero, List.getElem?_cons_succ, Option.getD_some] at y0 y1 y2 y3 y4
    have hlW := hW.1
    go_simp
    clear y0 y1 y2 y3 y4 hlW
    refine hK.out _ _ hHeld (fun hNew => ?_)
    clear hK K hHeld
    have hHeld := hNew
    clear hNew
    try simp only [Act.put, List.setIfInBounds_toArray, List.set_cons_zero, List.set_cons_succ, List.getElem_toArray, List.getElem_cons_zero, List.getElem_cons_succ]
    refine wpAnyH_ready (rs := [6]) (by kernel_rfl) (by simp) ?_
    refine (AllReadyH.cons rfl (fun K hK => ?_) AllReadyH.nil)
    go_simp
    obtain ⟨XgB, eA⟩ : ∃ X, X = X0.alloc (.cells #[.int .i64 (Z n 0), .int .i64 (Z n 1), .int .i64 (Z n 2), .int .i64 (Z n 3), .int .i64 (Z n 4)] 39) := ⟨_, rfl⟩
    rw [← eA]
    have hbA : Below X0.heap.size X0 XgB := by rw [eA]; exact (Below.refl _ _).alloc (Nat.le_refl _) _
    have hZgB : Bk XgB X0.heap.size [.int .i64 (Z n 0), .int .i64 (Z n 1), .int .i64 (Z n 2), .int .i64 (Z n 3), .int .i64 (Z n 4)] := by rw [eA]; exact bk_new X0 39 [.int .i64 (Z n 0), .int .i64 (Z n 1), .int .i64 (Z n 2), .int .i64 (Z n 3), .int .i64 (Z n 4)]
    have hzAgB1 : XgB.heap.size ≤ X0.heap.size + 1 := by rw [eA]; simp
    have hzAgB2 : X0.heap.size + 1 ≤ XgB.heap.size := by rw [eA]; simp
    clear eA
    replace hO := hO.below hbA
    replace hW := hW.below hbA
    replace ho := WkR.below ho hbA
    have hsz_XgB := hbA.size
    refine hK.out _ _ (bthenN hHeld (by omega) hbA) (fun hNew => ?_)
    clear hK K hHeld
    have hHeld := hNew
    clear hNew
    try simp only [Act.put, List.setIfInBounds_toArray, List.set_cons_zero, List.set_cons_succ, List.getElem_toArray, List.getElem_cons_zero, List.getElem_cons_succ]
    clear hbA
    obtain ⟨gB, egB⟩ : ∃ g, g = X0.heap.size := ⟨_, rfl⟩
    rw [← egB] at hZgB ⊢
    have egB1 : gB ≤ X0.heap.size := by omega
    have egB2 : X0.heap.size ≤ gB := by omega
    clear egB
    refine wpAnyH_ready (rs := [7]) (by kernel_rfl) (by simp) ?_
    refine (AllReadyH.cons rfl (fun K hK => ?_) AllReadyH.nil)
    rw [if_pos (by rfl)]
    refine app5 _ _ rfl base n _ _ rfl ho ⟨gB, 0, none⟩ 1 (five Z n) rfl rfl (bk_news hZgB) (one_five _ _) (by omega) (by omega) ?_
    intro v3 X3 hO3 hg3
    obtain ⟨a3, l3, c3, ev3⟩ := own_shape hO3
    subst ev3
    have hz3 := hg3.size
    replace hO := bk_grown hO ho hg3 (by omega)
    have hB3 : Below o w2 X3 := below_row hHeld ho hg3 (by omega) (by omega)
    refine hK.out _ _ hB3 (fun hNew => ?_)
    clear hK K hHeld
    have hHeld := hNew
    clear hNew
    try simp only [Act.put, List.setIfInBounds_toArray, List.set_cons_zero, List.set_cons_succ, List.getElem_toArray, List.getElem_cons_zero, List.getElem_cons_succ]
    clear ho hZgB hW hg3 hB3
    refine wpAnyH_take (i := 8) (v := .pointer (some ⟨o, 0, none⟩)) rfl (by kernel_rfl) (by kernel_rfl) (by kernel_rfl) (fun _ _ _ h => h) (Or.inl ⟨by rfl, ?_⟩) (by assumption) ?_
    · intro wx hSw; obtain ⟨hcS, hfS⟩ := bcellN hSw; go_simp
    try simp only [Act.put, List.setIfInBounds_toArray, List.set_cons_zero, List.set_cons_succ, List.getElem_toArray, List.getElem_cons_zero, List.getElem_cons_succ]
    refine wpAnyH_take (i := 9) (v := .pointer (some ⟨o, 3, none⟩)) rfl (by kernel_rfl) (by kernel_rfl) (by kernel_rfl) (fun _ _ _ h => h) (Or.inl ⟨by rfl, ?_⟩) (by assumption) ?_
    · intro wx hSw; obtain ⟨hcS, hfS⟩ := bcellN hSw; go_simp
    try simp only [Act.put, List.setIfInBounds_toArray, List.set_cons_zero, List.set_cons_succ, List.getElem_toArray, List.getElem_cons_zero, List.getElem_cons_succ]
    refine wpAnyH_ready (rs := [10]) (by kernel_rfl) (by simp) ?_
    refine (AllReadyH.cons rfl (fun K hK => ?_) AllReadyH.nil)
    have kc := (hO.2 3 (by simp)).1
    have kf := (hO.2 3 (by simp)).2
    simp only [List.getD, List.getElem?_cons_zero, List.getElem?_cons_succ, Option.getD_some] at kc
    go_simp
    clear kc kf
    obtain ⟨X4, e4⟩ : ∃ X, X = X3.setCell ⟨o, 3, none⟩ (.slice a3 l3 c3) := ⟨_, rfl⟩
    rw [← e4]
    have hO4 : Bk X4 o [.int .i64 c, .int .i64 d, .int .i64 s0, .slice a3 l3 c3] := by rw [e4]; exact Bk.set (j := 3) hO (by simp)
    have hB4 : Below o w2 X4 := by rw [e4]; exact hHeld.setCell (Nat.le_refl _) _
    have ho4 : WkR X4 base (.slice a3 l3 c3) (n + 1) Z := by rw [e4]; unfold WkR; rw [rows5_succ]; exact own_far hO3 hob
    clear e4 hO3 hO
    refine hK.out _ _ hB4 (fun hNew => ?_)
    clear hK K hHeld
    have hHeld := hNew
    clear hNew
    try simp only [Act.put, List.setIfInBounds_toArray, List.set_cons_zero, List.set_cons_succ, List.getElem_toArray, List.getElem_cons_zero, List.getElem_cons_succ]
    clear hB4
    refine wpAnyH_done (by kernel_rfl) ?_ _
    have HB4 := hid (HB2.out.trans hHeld)
    have hol4 : o < X4.heap.size := hO4.1
    obtain ⟨g, cap, egv, hgb, hgl, hrow⟩ := ho4.cells (by omega)
    injection egv with ea el ec
    subst ea
    subst el
    subst ec
    have HO4 := hid hO4
    have HR4 := hid ho4
    have HW4 := hid hrow
    clear ho4 hrow hO4 hHeld
    have y0 := (HO4.out.2 0 (by simp)).1
    have y1 := (HO4.out.2 1 (by simp)).1
    have y2 := (HO4.out.2 2 (by simp)).1
    have y3 := (HO4.out.2 3 (by simp)).1
    simp only [List.getD, List.getElem?_cons_zero, List.getElem?_cons_succ, Option.getD_some] at y0 y1 y2 y3
    go_wp2
    refine wp_region_held_drew (S := fun w' => (∀ b o, b < X4.heap.size → w'.cell? ⟨b, o, none⟩ = X4.cell? ⟨b, o, none⟩) ∧ X4.heap.size ≤ w'.heap.size) (by kernel_rfl) ⟨fun _ _ _ => rfl, Nat.le_refl _⟩ ?_
    intro hHeld
    refine wpAnyH_take (i := 0) (v := .bool true) rfl (by kernel_rfl) (by kernel_rfl) (by kernel_rfl) (fun _ _ _ h => h) (Or.inl ⟨by rfl, ?_⟩) (by assumption) ?_
    · intro wx hSw; go_simp
    try simp only [Act.put, List.setIfInBounds_toArray, List.set_cons_zero, List.set_cons_succ, List.getElem_toArray, List.getElem_cons_zero]
    refine wpAnyH_take (i := 1) (v := .bool true) rfl (by kernel_rfl) (by kernel_rfl) (by kernel_rfl) (fun _ _ _ h => h) (Or.inl ⟨by rfl, ?_⟩) (by assumption) ?_
    · intro wx hSw; go_simp
    try simp only [Act.put, List.setIfInBounds_toArray, List.set_cons_zero, List.set_cons_succ, List.getElem_toArray, List.getElem_cons_zero, List.getElem_cons_succ]
    refine wpAnyH_take (i := 2) (v := .pointer (some ⟨o, 0, none⟩)) rfl (by kernel_rfl) (by kernel_rfl) (by kernel_rfl) (fun _ _ _ h => h) (Or.inl ⟨by rfl, ?_⟩) (by assumption) ?_
    · intro wx hSw; go_simp
    try simp only [Act.put, List.setIfInBounds_toArray, List.set_cons_zero, List.set_cons_succ, List.getElem_toArray, List.getElem_cons_zero, List.getElem_cons_succ]
    refine wpAnyH_take (i := 3) (v := .pointer (some ⟨o, 0, none⟩)) rfl (by kernel_rfl) (by kernel_rfl) (by kernel_rfl) (fun _ _ _ h => h) (Or.inl ⟨by rfl, ?_⟩) (by assumption) ?_
    · intro wx hSw; go_simp
    try simp only [Act.put, List.setIfInBounds_toArray, List.set_cons_zero, List.set_cons_succ, List.getElem_toArray, List.getElem_cons_zero, List.getElem_cons_succ]
    refine wpAnyH_take (i := 4) (v := .pointer (some ⟨o, 0, none⟩)) rfl (by kernel_rfl) (by kernel_rfl) (by kernel_rfl) (fun _ _ _ h => h) (Or.inl ⟨by rfl, ?_⟩) (by assumption) ?_
    · intro wx hSw; go_simp
    try simp only [Act.put, List.setIfInBounds_toArray, List.set_cons_zero, List.set_cons_succ, List.getElem_toArray, List.getElem_cons_zero, List.getElem_cons_succ]
    refine wpAnyH_take (i := 5) (v := .agg #[.int .i64 c, .int .i64 d]) rfl (by kernel_rfl) (by kernel_rfl) (by kernel_rfl) (fun _ _ _ h => h) (Or.inl ⟨by rfl, ?_⟩) (by assumption) ?_
    · intro wx hSw; go_simp
    try simp only [Act.put, List.setIfInBounds_toArray, List.set_cons_zero, List.set_cons_succ, List.getElem_toArray, List.getElem_cons_zero, List.getElem_cons_succ]
    refine wpAnyH_take (i := 6) (v := .pointer (some ⟨o, 0, none⟩)) rfl (by kernel_rfl) (by kernel_rfl) (by kernel_rfl) (fun _ _ _ h => h) (Or.inl ⟨by rfl, ?_⟩) (by assumption) ?_
    · intro wx hSw; go_simp
    try simp only [Act.put, List.setIfInBounds_toArray, List.set_cons_zero, List.set_cons_succ, List.getElem_toArray, List.getElem_cons_zero, List.getElem_cons_succ]
    refine wpAnyH_take (i := 7) (v := .pointer (some ⟨o, 0, none⟩)) rfl (by kernel_rfl) (by kernel_rfl) (by kernel_rfl) (fun _ _ _ h => h) (Or.inl ⟨by rfl, ?_⟩) (by assumption) ?_
    · intro wx hSw; go_simp
    try simp only [Act.put, List.setIfInBounds_toArray, List.set_cons_zero, List.set_cons_succ, List.getElem_toArray, List.getElem_cons_zero, List.getElem_cons_succ]
    refine wpAnyH_take (i := 8) (v := .pointer (some ⟨o, 3, none⟩)) rfl (by kernel_rfl) (by kernel_rfl) (by kernel_rfl) (fun _ _ _ h => h) (Or.inl ⟨by rfl, ?_⟩) (by assumption) ?_
    · intro wx hSw; go_simp
    try simp only [Act.put, List.setIfInBounds_toArray, List.set_cons_zero, List.set_cons_succ, List.getElem_toArray, List.getElem_cons_zero, List.getElem_cons_succ]
    refine wpAnyH_take (i := 9) (v := .slice (some ⟨g, 0, none⟩) (n + 1) c3) rfl (by kernel_rfl) (by kernel_rfl) (by kernel_rfl) (fun _ _ _ h => h) (Or.inl ⟨by rfl, ?_⟩) (by assumption) ?_
    · intro wx hSw; go_simp
    try simp only [Act.put, List.setIfInBounds_toArray, List.set_cons_zero, List.set_cons_succ, List.getElem_toArray, List.getElem_cons_zero, List.getElem_cons_succ]
    refine wpAnyH_ready (rs := [10]) (by kernel_rfl) (by simp) ?_
    refine AllReadyH.cons rfl (fun K hK => ?_) AllReadyH.nil
    go_simp
    go_wp2_with fail
    refine (listOk_impl c d g 0 (n + 1) c3 Z (by omega) _ (Nat.lt_of_lt_of_le hgl hHeld.2) (fun k j h1 h2 => (hHeld.1 _ _ hgl).trans (HW4.out k j h1 h2))).mono ?_
    rintro e X5 ⟨rfl, hx5⟩
    have hsz5 : X4.heap.size ≤ X5.heap.size := Nat.le_trans hHeld.2 hx5.size
    refine hK.out _ _ (keepS (by assumption) hx5) (fun hNew => ?_)
    clear hK K hHeld
    have hHeld := hNew
    clear hNew
    try simp only [Act.put, List.setIfInBounds_toArray, List.set_cons_zero, List.set_cons_succ, List.getElem_toArray, List.getElem_cons_zero, List.getElem_cons_succ]
    refine wpAnyH_take (i := 11) (v := .bool (allB c d Z (n + 1))) rfl (by kernel_rfl) (by kernel_rfl) (by kernel_rfl) (fun _ _ _ h => h) (Or.inl ⟨by rfl, ?_⟩) (by assumption) ?_
    · intro wx hSw; go_simp
    try simp only [Act.put, List.setIfInBounds_toArray, List.set_cons_zero, List.set_cons_succ, List.getElem_toArray, List.getElem_cons_zero, List.getElem_cons_succ]
    refine wpAnyH_take (i := 12) (v := .bool (allB c d Z (n + 1))) rfl (by kernel_rfl) (by kernel_rfl) (by kernel_rfl) (fun _ _ _ h => h) (Or.inl ⟨by rfl, ?_⟩) (by assumption) ?_
    · intro wx hSw; go_simp
    try simp only [Act.put, List.setIfInBounds_toArray, List.set_cons_zero, List.set_cons_succ, List.getElem_toArray, List.getElem_cons_zero, List.getElem_cons_succ]
    refine wpAnyH_done (by kernel_rfl) ?_ _
    clear hHeld
    obtain ⟨q, hq⟩ : ∃ q, q = allB c d Z (n + 1) := ⟨_, rfl⟩
    rw [← hq]
    have HQ := hid hq
    have hx := bthen ((Below.refl X4.heap.size X4).drew) hx5
    have HB5 := hid (HB4.out.trans (hx.mono (Nat.le_of_lt hol4)))
    have HO5 := hid (HO4.out.below hx)
    have HR5 := hid (WkR.below HR4.out hx)
    clear hq y0 y1 y2 y3
    go_wp2
    go_ret
    refine ⟨(show Ending.returned (.bool q) = .returned (.bool (allB c d Z (n + 1))) by rw [HQ.out]), ⟨_, HO5.out, HR5.out⟩, HB5.out⟩
  · have y0 := (hW.2 0 (by simp)).1
    have y1 := (hW.2 1 (by simp)).1
    have y2 := (hW.2 2 (by simp)).1
    have y3 := (hW.2 3 (by simp)).1
    have y4 := (hW.2 4 (by simp)).1
    simp only [List.getD, List.getElem?_cons_zero, List.getElem?_cons_succ, Option.getD_some] at y0 y1 y2 y3 y4
    have hlW := hW.1
    go_simp
    clear y0 y1 y2 y3 y4 hlW
    refine hK.out _ _ hHeld (fun hNew => ?_)
    clear hK K hHeld
    have hHeld := hNew
    clear hNew
    try simp only [Act.put, List.setIfInBounds_toArray, List.set_cons_zero, List.set_cons_succ, List.getElem_toArray, List.getElem_cons_zero, List.getElem_cons_succ]
    refine wpAnyH_ready (rs := [4, 6]) (by kernel_rfl) (by simp) ?_
    refine (AllReadyH.cons rfl (fun K hK => ?_) (AllReadyH.cons rfl (fun K hK => ?_) AllReadyH.nil))
    · have yq := (hO.2 3 (by simp)).1
      simp only [List.getD, List.getElem?_cons_zero, List.getElem?_cons_succ, Option.getD_some] at yq
      go_simp
      clear yq
      refine hK.out _ _ hHeld (fun hNew => ?_)
      clear hK K hHeld
      have hHeld := hNew
      clear hNew
      try simp only [Act.put, List.setIfInBounds_toArray, List.set_cons_zero, List.set_cons_succ, List.getElem_toArray, List.getElem_cons_zero, List.getElem_cons_succ]
      refine wpAnyH_ready (rs := [6]) (by kernel_rfl) (by simp) ?_
      refine (AllReadyH.cons rfl (fun K hK => ?_) AllReadyH.nil)
      go_simp
      obtain ⟨XgB, eA⟩ : ∃ X, X = X0.alloc (.cells #[.int .i64 (Z n 0), .int .i64 (Z n 1), .int .i64 (Z n 2), .int .i64 (Z n 3), .int .i64 (Z n 4)] 39) := ⟨_, rfl⟩
      rw [← eA]
      have hbA : Below X0.heap.size X0 XgB := by rw [eA]; exact (Below.refl _ _).alloc (Nat.le_refl _) _
      have hZgB : Bk XgB X0.heap.size [.int .i64 (Z n 0), .int .i64 (Z n 1), .int .i64 (Z n 2), .int .i64 (Z n 3), .int .i64 (Z n 4)] := by rw [eA]; exact bk_new X0 39 [.int .i64 (Z n 0), .int .i64 (Z n 1), .int .i64 (Z n 2), .int .i64 (Z n 3), .int .i64 (Z n 4)]
      have hzAgB1 : XgB.heap.size ≤ X0.heap.size + 1 := by rw [eA]; simp
      have hzAgB2 : X0.heap.size + 1 ≤ XgB.heap.size := by rw [eA]; simp
      clear eA
      replace hO := hO.below hbA
      replace hW := hW.below hbA
      replace ho := WkR.below ho hbA
      have hsz_XgB := hbA.size
      refine hK.out _ _ (bthenN hHeld (by omega) hbA) (fun hNew => ?_)
      clear hK K hHeld
      have hHeld := hNew
      clear hNew
      try simp only [Act.put, List.setIfInBounds_toArray, List.set_cons_zero, List.set_cons_succ, List.getElem_toArray, List.getElem_cons_zero, List.getElem_cons_succ]
      clear hbA
      obtain ⟨gB, egB⟩ : ∃ g, g = X0.heap.size := ⟨_, rfl⟩
      rw [← egB] at hZgB ⊢
      have egB1 : gB ≤ X0.heap.size := by omega
      have egB2 : X0.heap.size ≤ gB := by omega
      clear egB
      refine wpAnyH_ready (rs := [7]) (by kernel_rfl) (by simp) ?_
      refine (AllReadyH.cons rfl (fun K hK => ?_) AllReadyH.nil)
      rw [if_pos (by rfl)]
      refine app5 _ _ rfl base n _ _ rfl ho ⟨gB, 0, none⟩ 1 (five Z n) rfl rfl (bk_news hZgB) (one_five _ _) (by omega) (by omega) ?_
      intro v3 X3 hO3 hg3
      obtain ⟨a3, l3, c3, ev3⟩ := own_shape hO3
      subst ev3
      have hz3 := hg3.size
      replace hO := bk_grown hO ho hg3 (by omega)
      have hB3 : Below o w2 X3 := below_row hHeld ho hg3 (by omega) (by omega)
      refine hK.out _ _ hB3 (fun hNew => ?_)
      clear hK K hHeld
      have hHeld := hNew
      clear hNew
      try simp only [Act.put, List.setIfInBounds_toArray, List.set_cons_zero, List.set_cons_succ, List.getElem_toArray, List.getElem_cons_zero, List.getElem_cons_succ]
      clear ho hZgB hW hg3 hB3
      refine wpAnyH_take (i := 8) (v := .pointer (some ⟨o, 0, none⟩)) rfl (by kernel_rfl) (by kernel_rfl) (by kernel_rfl) (fun _ _ _ h => h) (Or.inl ⟨by rfl, ?_⟩) (by assumption) ?_
      · intro wx hSw; obtain ⟨hcS, hfS⟩ := bcellN hSw; go_simp
      try simp only [Act.put, List.setIfInBounds_toArray, List.set_cons_zero, List.set_cons_succ, List.getElem_toArray, List.getElem_cons_zero, List.getElem_cons_succ]
      refine wpAnyH_take (i := 9) (v := .pointer (some ⟨o, 3, none⟩)) rfl (by kernel_rfl) (by kernel_rfl) (by kernel_rfl) (fun _ _ _ h => h) (Or.inl ⟨by rfl, ?_⟩) (by assumption) ?_
      · intro wx hSw; obtain ⟨hcS, hfS⟩ := bcellN hSw; go_simp
      try simp only [Act.put, List.setIfInBounds_toArray, List.set_cons_zero, List.set_cons_succ, List.getElem_toArray, List.getElem_cons_zero, List.getElem_cons_succ]
      refine wpAnyH_ready (rs := [10]) (by kernel_rfl) (by simp) ?_
      refine (AllReadyH.cons rfl (fun K hK => ?_) AllReadyH.nil)
      have kc := (hO.2 3 (by simp)).1
      have kf := (hO.2 3 (by simp)).2
      simp only [List.getD, List.getElem?_cons_zero, List.getElem?_cons_succ, Option.getD_some] at kc
      go_simp
      clear kc kf
      obtain ⟨X4, e4⟩ : ∃ X, X = X3.setCell ⟨o, 3, none⟩ (.slice a3 l3 c3) := ⟨_, rfl⟩
      rw [← e4]
      have hO4 : Bk X4 o [.int .i64 c, .int .i64 d, .int .i64 s0, .slice a3 l3 c3] := by rw [e4]; exact Bk.set (j := 3) hO (by simp)
      have hB4 : Below o w2 X4 := by rw [e4]; exact hHeld.setCell (Nat.le_refl _) _
      have ho4 : WkR X4 base (.slice a3 l3 c3) (n + 1) Z := by rw [e4]; unfold WkR; rw [rows5_succ]; exact own_far hO3 hob
      clear e4 hO3 hO
      refine hK.out _ _ hB4 (fun hNew => ?_)
      clear hK K hHeld
      have hHeld := hNew
      clear hNew
      try simp only [Act.put, List.setIfInBounds_toArray, List.set_cons_zero, List.set_cons_succ, List.getElem_toArray, List.getElem_cons_zero, List.getElem_cons_succ]
      clear hB4
      refine wpAnyH_done (by kernel_rfl) ?_ _
      have HB4 := hid (HB2.out.trans hHeld)
      have hol4 : o < X4.heap.size := hO4.1
      obtain ⟨g, cap, egv, hgb, hgl, hrow⟩ := ho4.cells (by omega)
      injection egv with ea el ec
      subst ea
      subst el
      subst ec
      have HO4 := hid hO4
      have HR4 := hid ho4
      have HW4 := hid hrow
      clear ho4 hrow hO4 hHeld
      have y0 := (HO4.out.2 0 (by simp)).1
      have y1 := (HO4.out.2 1 (by simp)).1
      have y2 := (HO4.out.2 2 (by simp)).1
      have y3 := (HO4.out.2 3 (by simp)).1
      simp only [List.getD, List.getElem?_cons_zero, List.getElem?_cons_succ, Option.getD_some] at y0 y1 y2 y3
      go_wp2
      refine wp_region_held_drew (S := fun w' => (∀ b o, b < X4.heap.size → w'.cell? ⟨b, o, none⟩ = X4.cell? ⟨b, o, none⟩) ∧ X4.heap.size ≤ w'.heap.size) (by kernel_rfl) ⟨fun _ _ _ => rfl, Nat.le_refl _⟩ ?_
      intro hHeld
      refine wpAnyH_take (i := 0) (v := .bool true) rfl (by kernel_rfl) (by kernel_rfl) (by kernel_rfl) (fun _ _ _ h => h) (Or.inl ⟨by rfl, ?_⟩) (by assumption) ?_
      · intro wx hSw; go_simp
      try simp only [Act.put, List.setIfInBounds_toArray, List.set_cons_zero, List.set_cons_succ, List.getElem_toArray, List.getElem_cons_zero]
      refine wpAnyH_take (i := 1) (v := .bool true) rfl (by kernel_rfl) (by kernel_rfl) (by kernel_rfl) (fun _ _ _ h => h) (Or.inl ⟨by rfl, ?_⟩) (by assumption) ?_
      · intro wx hSw; go_simp
      try simp only [Act.put, List.setIfInBounds_toArray, List.set_cons_zero, List.set_cons_succ, List.getElem_toArray, List.getElem_cons_zero, List.getElem_cons_succ]
      refine wpAnyH_take (i := 2) (v := .pointer (some ⟨o, 0, none⟩)) rfl (by kernel_rfl) (by kernel_rfl) (by kernel_rfl) (fun _ _ _ h => h) (Or.inl ⟨by rfl, ?_⟩) (by assumption) ?_
      · intro wx hSw; go_simp
      try simp only [Act.put, List.setIfInBounds_toArray, List.set_cons_zero, List.set_cons_succ, List.getElem_toArray, List.getElem_cons_zero, List.getElem_cons_succ]
      refine wpAnyH_take (i := 3) (v := .pointer (some ⟨o, 0, none⟩)) rfl (by kernel_rfl) (by kernel_rfl) (by kernel_rfl) (fun _ _ _ h => h) (Or.inl ⟨by rfl, ?_⟩) (by assumption) ?_
      · intro wx hSw; go_simp
      try simp only [Act.put, List.setIfInBounds_toArray, List.set_cons_zero, List.set_cons_succ, List.getElem_toArray, List.getElem_cons_zero, List.getElem_cons_succ]
      refine wpAnyH_take (i := 4) (v := .pointer (some ⟨o, 0, none⟩)) rfl (by kernel_rfl) (by kernel_rfl) (by kernel_rfl) (fun _ _ _ h => h) (Or.inl ⟨by rfl, ?_⟩) (by assumption) ?_
      · intro wx hSw; go_simp
      try simp only [Act.put, List.setIfInBounds_toArray, List.set_cons_zero, List.set_cons_succ, List.getElem_toArray, List.getElem_cons_zero, List.getElem_cons_succ]
      refine wpAnyH_take (i := 5) (v := .agg #[.int .i64 c, .int .i64 d]) rfl (by kernel_rfl) (by kernel_rfl) (by kernel_rfl) (fun _ _ _ h => h) (Or.inl ⟨by rfl, ?_⟩) (by assumption) ?_
      · intro wx hSw; go_simp
      try simp only [Act.put, List.setIfInBounds_toArray, List.set_cons_zero, List.set_cons_succ, List.getElem_toArray, List.getElem_cons_zero, List.getElem_cons_succ]
      refine wpAnyH_take (i := 6) (v := .pointer (some ⟨o, 0, none⟩)) rfl (by kernel_rfl) (by kernel_rfl) (by kernel_rfl) (fun _ _ _ h => h) (Or.inl ⟨by rfl, ?_⟩) (by assumption) ?_
      · intro wx hSw; go_simp
      try simp only [Act.put, List.setIfInBounds_toArray, List.set_cons_zero, List.set_cons_succ, List.getElem_toArray, List.getElem_cons_zero, List.getElem_cons_succ]
      refine wpAnyH_take (i := 7) (v := .pointer (some ⟨o, 0, none⟩)) rfl (by kernel_rfl) (by kernel_rfl) (by kernel_rfl) (fun _ _ _ h => h) (Or.inl ⟨by rfl, ?_⟩) (by assumption) ?_
      · intro wx hSw; go_simp
      try simp only [Act.put, List.setIfInBounds_toArray, List.set_cons_zero, List.set_cons_succ, List.getElem_toArray, List.getElem_cons_zero, List.getElem_cons_succ]
      refine wpAnyH_take (i := 8) (v := .pointer (some ⟨o, 3, none⟩)) rfl (by kernel_rfl) (by kernel_rfl) (by kernel_rfl) (fun _ _ _ h => h) (Or.inl ⟨by rfl, ?_⟩) (by assumption) ?_
      · intro wx hSw; go_simp
      try simp only [Act.put, List.setIfInBounds_toArray, List.set_cons_zero, List.set_cons_succ, List.getElem_toArray, List.getElem_cons_zero, List.getElem_cons_succ]
      refine wpAnyH_take (i := 9) (v := .slice (some ⟨g, 0, none⟩) (n + 1) c3) rfl (by kernel_rfl) (by kernel_rfl) (by kernel_rfl) (fun _ _ _ h => h) (Or.inl ⟨by rfl, ?_⟩) (by assumption) ?_
      · intro wx hSw; go_simp
      try simp only [Act.put, List.setIfInBounds_toArray, List.set_cons_zero, List.set_cons_succ, List.getElem_toArray, List.getElem_cons_zero, List.getElem_cons_succ]
      refine wpAnyH_ready (rs := [10]) (by kernel_rfl) (by simp) ?_
      refine AllReadyH.cons rfl (fun K hK => ?_) AllReadyH.nil
      go_simp
      go_wp2_with fail
      refine (listOk_impl c d g 0 (n + 1) c3 Z (by omega) _ (Nat.lt_of_lt_of_le hgl hHeld.2) (fun k j h1 h2 => (hHeld.1 _ _ hgl).trans (HW4.out k j h1 h2))).mono ?_
      rintro e X5 ⟨rfl, hx5⟩
      have hsz5 : X4.heap.size ≤ X5.heap.size := Nat.le_trans hHeld.2 hx5.size
      refine hK.out _ _ (keepS (by assumption) hx5) (fun hNew => ?_)
      clear hK K hHeld
      have hHeld := hNew
      clear hNew
      try simp only [Act.put, List.setIfInBounds_toArray, List.set_cons_zero, List.set_cons_succ, List.getElem_toArray, List.getElem_cons_zero, List.getElem_cons_succ]
      refine wpAnyH_take (i := 11) (v := .bool (allB c d Z (n + 1))) rfl (by kernel_rfl) (by kernel_rfl) (by kernel_rfl) (fun _ _ _ h => h) (Or.inl ⟨by rfl, ?_⟩) (by assumption) ?_
      · intro wx hSw; go_simp
      try simp only [Act.put, List.setIfInBounds_toArray, List.set_cons_zero, List.set_cons_succ, List.getElem_toArray, List.getElem_cons_zero, List.getElem_cons_succ]
      refine wpAnyH_take (i := 12) (v := .bool (allB c d Z (n + 1))) rfl (by kernel_rfl) (by kernel_rfl) (by kernel_rfl) (fun _ _ _ h => h) (Or.inl ⟨by rfl, ?_⟩) (by assumption) ?_
      · intro wx hSw; go_simp
      try simp only [Act.put, List.setIfInBounds_toArray, List.set_cons_zero, List.set_cons_succ, List.getElem_toArray, List.getElem_cons_zero, List.getElem_cons_succ]
      refine wpAnyH_done (by kernel_rfl) ?_ _
      clear hHeld
      obtain ⟨q, hq⟩ : ∃ q, q = allB c d Z (n + 1) := ⟨_, rfl⟩
      rw [← hq]
      have HQ := hid hq
      have hx := bthen ((Below.refl X4.heap.size X4).drew) hx5
      have HB5 := hid (HB4.out.trans (hx.mono (Nat.le_of_lt hol4)))
      have HO5 := hid (HO4.out.below hx)
      have HR5 := hid (WkR.below HR4.out hx)
      clear hq y0 y1 y2 y3
      go_wp2
      go_ret
      refine ⟨(show Ending.returned (.bool q) = .returned (.bool (allB c d Z (n + 1))) by rw [HQ.out]), ⟨_, HO5.out, HR5.out⟩, HB5.out⟩
    · go_simp
      obtain ⟨XgB, eA⟩ : ∃ X, X = X0.alloc (.cells #[.int .i64 (Z n 0), .int .i64 (Z n 1), .int .i64 (Z n 2), .int .i64 (Z n 3), .int .i64 (Z n 4)] 39) := ⟨_, rfl⟩
      rw [← eA]
      have hbA : Below X0.heap.size X0 XgB := by rw [eA]; exact (Below.refl _ _).alloc (Nat.le_refl _) _
      have hZgB : Bk XgB X0.heap.size [.int .i64 (Z n 0), .int .i64 (Z n 1), .int .i64 (Z n 2), .int .i64 (Z n 3), .int .i64 (Z n 4)] := by rw [eA]; exact bk_new X0 39 [.int .i64 (Z n 0), .int .i64 (Z n 1), .int .i64 (Z n 2), .int .i64 (Z n 3), .int .i64 (Z n 4)]
      have hzAgB1 : XgB.heap.size ≤ X0.heap.size + 1 := by rw [eA]; simp
      have hzAgB2 : X0.heap.size + 1 ≤ XgB.heap.size := by rw [eA]; simp
      clear eA
      replace hO := hO.below hbA
      replace hW := hW.below hbA
      replace ho := WkR.below ho hbA
      have hsz_XgB := hbA.size
      refine hK.out _ _ (bthenN hHeld (by omega) hbA) (fun hNew => ?_)
      clear hK K hHeld
      have hHeld := hNew
      clear hNew
      try simp only [Act.put, List.setIfInBounds_toArray, List.set_cons_zero, List.set_cons_succ, List.getElem_toArray, List.getElem_cons_zero, List.getElem_cons_succ]
      clear hbA
      obtain ⟨gB, egB⟩ : ∃ g, g = X0.heap.size := ⟨_, rfl⟩
      rw [← egB] at hZgB ⊢
      have egB1 : gB ≤ X0.heap.size := by omega
      have egB2 : X0.heap.size ≤ gB := by omega
      clear egB
      refine wpAnyH_ready (rs := [4]) (by kernel_rfl) (by simp) ?_
      refine (AllReadyH.cons rfl (fun K hK => ?_) AllReadyH.nil)
      have yq := (hO.2 3 (by simp)).1
      simp only [List.getD, List.getElem?_cons_zero, List.getElem?_cons_succ, Option.getD_some] at yq
      go_simp
      clear yq
      refine hK.out _ _ hHeld (fun hNew => ?_)
      clear hK K hHeld
      have hHeld := hNew
      clear hNew
      try simp only [Act.put, List.setIfInBounds_toArray, List.set_cons_zero, List.set_cons_succ, List.getElem_toArray, List.getElem_cons_zero, List.getElem_cons_succ]
      refine wpAnyH_ready (rs := [7]) (by kernel_rfl) (by simp) ?_
      refine (AllReadyH.cons rfl (fun K hK => ?_) AllReadyH.nil)
      rw [if_pos (by rfl)]
      refine app5 _ _ rfl base n _ _ rfl ho ⟨gB, 0, none⟩ 1 (five Z n) rfl rfl (bk_news hZgB) (one_five _ _) (by omega) (by omega) ?_
      intro v3 X3 hO3 hg3
      obtain ⟨a3, l3, c3, ev3⟩ := own_shape hO3
      subst ev3
      have hz3 := hg3.size
      replace hO := bk_grown hO ho hg3 (by omega)
      have hB3 : Below o w2 X3 := below_row hHeld ho hg3 (by omega) (by omega)
      refine hK.out _ _ hB3 (fun hNew => ?_)
      clear hK K hHeld
      have hHeld := hNew
      clear hNew
      try simp only [Act.put, List.setIfInBounds_toArray, List.set_cons_zero, List.set_cons_succ, List.getElem_toArray, List.getElem_cons_zero, List.getElem_cons_succ]
      clear ho hZgB hW hg3 hB3
      refine wpAnyH_take (i := 8) (v := .pointer (some ⟨o, 0, none⟩)) rfl (by kernel_rfl) (by kernel_rfl) (by kernel_rfl) (fun _ _ _ h => h) (Or.inl ⟨by rfl, ?_⟩) (by assumption) ?_
      · intro wx hSw; obtain ⟨hcS, hfS⟩ := bcellN hSw; go_simp
      try simp only [Act.put, List.setIfInBounds_toArray, List.set_cons_zero, List.set_cons_succ, List.getElem_toArray, List.getElem_cons_zero, List.getElem_cons_succ]
      refine wpAnyH_take (i := 9) (v := .pointer (some ⟨o, 3, none⟩)) rfl (by kernel_rfl) (by kernel_rfl) (by kernel_rfl) (fun _ _ _ h => h) (Or.inl ⟨by rfl, ?_⟩) (by assumption) ?_
      · intro wx hSw; obtain ⟨hcS, hfS⟩ := bcellN hSw; go_simp
      try simp only [Act.put, List.setIfInBounds_toArray, List.set_cons_zero, List.set_cons_succ, List.getElem_toArray, List.getElem_cons_zero, List.getElem_cons_succ]
      refine wpAnyH_ready (rs := [10]) (by kernel_rfl) (by simp) ?_
      refine (AllReadyH.cons rfl (fun K hK => ?_) AllReadyH.nil)
      have kc := (hO.2 3 (by simp)).1
      have kf := (hO.2 3 (by simp)).2
      simp only [List.getD, List.getElem?_cons_zero, List.getElem?_cons_succ, Option.getD_some] at kc
      go_simp
      clear kc kf
      obtain ⟨X4, e4⟩ : ∃ X, X = X3.setCell ⟨o, 3, none⟩ (.slice a3 l3 c3) := ⟨_, rfl⟩
      rw [← e4]
      have hO4 : Bk X4 o [.int .i64 c, .int .i64 d, .int .i64 s0, .slice a3 l3 c3] := by rw [e4]; exact Bk.set (j := 3) hO (by simp)
      have hB4 : Below o w2 X4 := by rw [e4]; exact hHeld.setCell (Nat.le_refl _) _
      have ho4 : WkR X4 base (.slice a3 l3 c3) (n + 1) Z := by rw [e4]; unfold WkR; rw [rows5_succ]; exact own_far hO3 hob
      clear e4 hO3 hO
      refine hK.out _ _ hB4 (fun hNew => ?_)
      clear hK K hHeld
      have hHeld := hNew
      clear hNew
      try simp only [Act.put, List.setIfInBounds_toArray, List.set_cons_zero, List.set_cons_succ, List.getElem_toArray, List.getElem_cons_zero, List.getElem_cons_succ]
      clear hB4
      refine wpAnyH_done (by kernel_rfl) ?_ _
      have HB4 := hid (HB2.out.trans hHeld)
      have hol4 : o < X4.heap.size := hO4.1
      obtain ⟨g, cap, egv, hgb, hgl, hrow⟩ := ho4.cells (by omega)
      injection egv with ea el ec
      subst ea
      subst el
      subst ec
      have HO4 := hid hO4
      have HR4 := hid ho4
      have HW4 := hid hrow
      clear ho4 hrow hO4 hHeld
      have y0 := (HO4.out.2 0 (by simp)).1
      have y1 := (HO4.out.2 1 (by simp)).1
      have y2 := (HO4.out.2 2 (by simp)).1
      have y3 := (HO4.out.2 3 (by simp)).1
      simp only [List.getD, List.getElem?_cons_zero, List.getElem?_cons_succ, Option.getD_some] at y0 y1 y2 y3
      go_wp2
      refine wp_region_held_drew (S := fun w' => (∀ b o, b < X4.heap.size → w'.cell? ⟨b, o, none⟩ = X4.cell? ⟨b, o, none⟩) ∧ X4.heap.size ≤ w'.heap.size) (by kernel_rfl) ⟨fun _ _ _ => rfl, Nat.le_refl _⟩ ?_
      intro hHeld
      refine wpAnyH_take (i := 0) (v := .bool true) rfl (by kernel_rfl) (by kernel_rfl) (by kernel_rfl) (fun _ _ _ h => h) (Or.inl ⟨by rfl, ?_⟩) (by assumption) ?_
      · intro wx hSw; go_simp
      try simp only [Act.put, List.setIfInBounds_toArray, List.set_cons_zero, List.set_cons_succ, List.getElem_toArray, List.getElem_cons_zero]
      refine wpAnyH_take (i := 1) (v := .bool true) rfl (by kernel_rfl) (by kernel_rfl) (by kernel_rfl) (fun _ _ _ h => h) (Or.inl ⟨by rfl, ?_⟩) (by assumption) ?_
      · intro wx hSw; go_simp
      try simp only [Act.put, List.setIfInBounds_toArray, List.set_cons_zero, List.set_cons_succ, List.getElem_toArray, List.getElem_cons_zero, List.getElem_cons_succ]
      refine wpAnyH_take (i := 2) (v := .pointer (some ⟨o, 0, none⟩)) rfl (by kernel_rfl) (by kernel_rfl) (by kernel_rfl) (fun _ _ _ h => h) (Or.inl ⟨by rfl, ?_⟩) (by assumption) ?_
      · intro wx hSw; go_simp
      try simp only [Act.put, List.setIfInBounds_toArray, List.set_cons_zero, List.set_cons_succ, List.getElem_toArray, List.getElem_cons_zero, List.getElem_cons_succ]
      refine wpAnyH_take (i := 3) (v := .pointer (some ⟨o, 0, none⟩)) rfl (by kernel_rfl) (by kernel_rfl) (by kernel_rfl) (fun _ _ _ h => h) (Or.inl ⟨by rfl, ?_⟩) (by assumption) ?_
      · intro wx hSw; go_simp
      try simp only [Act.put, List.setIfInBounds_toArray, List.set_cons_zero, List.set_cons_succ, List.getElem_toArray, List.getElem_cons_zero, List.getElem_cons_succ]
      refine wpAnyH_take (i := 4) (v := .pointer (some ⟨o, 0, none⟩)) rfl (by kernel_rfl) (by kernel_rfl) (by kernel_rfl) (fun _ _ _ h => h) (Or.inl ⟨by rfl, ?_⟩) (by assumption) ?_
      · intro wx hSw; go_simp
      try simp only [Act.put, List.setIfInBounds_toArray, List.set_cons_zero, List.set_cons_succ, List.getElem_toArray, List.getElem_cons_zero, List.getElem_cons_succ]
      refine wpAnyH_take (i := 5) (v := .agg #[.int .i64 c, .int .i64 d]) rfl (by kernel_rfl) (by kernel_rfl) (by kernel_rfl) (fun _ _ _ h => h) (Or.inl ⟨by rfl, ?_⟩) (by assumption) ?_
      · intro wx hSw; go_simp
      try simp only [Act.put, List.setIfInBounds_toArray, List.set_cons_zero, List.set_cons_succ, List.getElem_toArray, List.getElem_cons_zero, List.getElem_cons_succ]
      refine wpAnyH_take (i := 6) (v := .pointer (some ⟨o, 0, none⟩)) rfl (by kernel_rfl) (by kernel_rfl) (by kernel_rfl) (fun _ _ _ h => h) (Or.inl ⟨by rfl, ?_⟩) (by assumption) ?_
      · intro wx hSw; go_simp
      try simp only [Act.put, List.setIfInBounds_toArray, List.set_cons_zero, List.set_cons_succ, List.getElem_toArray, List.getElem_cons_zero, List.getElem_cons_succ]
      refine wpAnyH_take (i := 7) (v := .pointer (some ⟨o, 0, none⟩)) rfl (by kernel_rfl) (by kernel_rfl) (by kernel_rfl) (fun _ _ _ h => h) (Or.inl ⟨by rfl, ?_⟩) (by assumption) ?_
      · intro wx hSw; go_simp
      try simp only [Act.put, List.setIfInBounds_toArray, List.set_cons_zero, List.set_cons_succ, List.getElem_toArray, List.getElem_cons_zero, List.getElem_cons_succ]
      refine wpAnyH_take (i := 8) (v := .pointer (some ⟨o, 3, none⟩)) rfl (by kernel_rfl) (by kernel_rfl) (by kernel_rfl) (fun _ _ _ h => h) (Or.inl ⟨by rfl, ?_⟩) (by assumption) ?_
      · intro wx hSw; go_simp
      try simp only [Act.put, List.setIfInBounds_toArray, List.set_cons_zero, List.set_cons_succ, List.getElem_toArray, List.getElem_cons_zero, List.getElem_cons_succ]
      refine wpAnyH_take (i := 9) (v := .slice (some ⟨g, 0, none⟩) (n + 1) c3) rfl (by kernel_rfl) (by kernel_rfl) (by kernel_rfl) (fun _ _ _ h => h) (Or.inl ⟨by rfl, ?_⟩) (by assumption) ?_
      · intro wx hSw; go_simp
      try simp only [Act.put, List.setIfInBounds_toArray, List.set_cons_zero, List.set_cons_succ, List.getElem_toArray, List.getElem_cons_zero, List.getElem_cons_succ]
      refine wpAnyH_ready (rs := [10]) (by kernel_rfl) (by simp) ?_
      refine AllReadyH.cons rfl (fun K hK => ?_) AllReadyH.nil
      go_simp
      go_wp2_with fail
      refine (listOk_impl c d g 0 (n + 1) c3 Z (by omega) _ (Nat.lt_of_lt_of_le hgl hHeld.2) (fun k j h1 h2 => (hHeld.1 _ _ hgl).trans (HW4.out k j h1 h2))).mono ?_
      rintro e X5 ⟨rfl, hx5⟩
      have hsz5 : X4.heap.size ≤ X5.heap.size := Nat.le_trans hHeld.2 hx5.size
      refine hK.out _ _ (keepS (by assumption) hx5) (fun hNew => ?_)
      clear hK K hHeld
      have hHeld := hNew
      clear hNew
      try simp only [Act.put, List.setIfInBounds_toArray, List.set_cons_zero, List.set_cons_succ, List.getElem_toArray, List.getElem_cons_zero, List.getElem_cons_succ]
      refine wpAnyH_take (i := 11) (v := .bool (allB c d Z (n + 1))) rfl (by kernel_rfl) (by kernel_rfl) (by kernel_rfl) (fun _ _ _ h => h) (Or.inl ⟨by rfl, ?_⟩) (by assumption) ?_
      · intro wx hSw; go_simp
      try simp only [Act.put, List.setIfInBounds_toArray, List.set_cons_zero, List.set_cons_succ, List.getElem_toArray, List.getElem_cons_zero, List.getElem_cons_succ]
      refine wpAnyH_take (i := 12) (v := .bool (allB c d Z (n + 1))) rfl (by kernel_rfl) (by kernel_rfl) (by kernel_rfl) (fun _ _ _ h => h) (Or.inl ⟨by rfl, ?_⟩) (by assumption) ?_
      · intro wx hSw; go_simp
      try simp only [Act.put, List.setIfInBounds_toArray, List.set_cons_zero, List.set_cons_succ, List.getElem_toArray, List.getElem_cons_zero, List.getElem_cons_succ]
      refine wpAnyH_done (by kernel_rfl) ?_ _
      clear hHeld
      obtain ⟨q, hq⟩ : ∃ q, q = allB c d Z (n + 1) := ⟨_, rfl⟩
      rw [← hq]
      have HQ := hid hq
      have hx := bthen ((Below.refl X4.heap.size X4).drew) hx5
      have HB5 := hid (HB4.out.trans (hx.mono (Nat.le_of_lt hol4)))
      have HO5 := hid (HO4.out.below hx)
      have HR5 := hid (WkR.below HR4.out hx)
      clear hq y0 y1 y2 y3
      go_wp2
      go_ret
      refine ⟨(show Ending.returned (.bool q) = .returned (.bool (allB c d Z (n + 1))) by rw [HQ.out]), ⟨_, HO5.out, HR5.out⟩, HB5.out⟩
end Go.Proofs.YtlmoeacpkkkkcaaGreatDoor
