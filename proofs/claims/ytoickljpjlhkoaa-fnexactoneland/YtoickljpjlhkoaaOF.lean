/- copyOne of the program; conditions: those typed. -/
import Derived.Test.YtoickljpjlhkoaaOE
namespace Go.Proofs.Ytoickljpjlhkoaa
open Go.RowKit Go.Deep
set_option linter.unusedVariables false


theorem RW.below {lo hi : Nat} {w w' : World} {v : Value} {n : Nat} {Z : Nat → Nat → Int} {g : Nat} (h : RW lo hi w v n Z g) (hb : Below w.heap.size w w') : RW lo hi w' v n Z g := by
  rcases h with h | ⟨c, h1, h2, h3, h4, h5⟩
  · exact .inl h
  · exact .inr ⟨c, h1, h2, h3, Nat.le_trans h4 hb.size, P6.ownK_sm h5 (sm_below hb (by omega))⟩
theorem RI.below {lo hi : Nat} {w w' : World} {v : Value} {n : Nat} {X : Nat → Int} {g : Nat} (h : RI lo hi w v n X g) (hb : Below w.heap.size w w') : RI lo hi w' v n X g := by
  rcases h with h | ⟨c, h1, h2, h3, h4, h5⟩
  · exact .inl h
  · exact .inr ⟨c, h1, h2, h3, Nat.le_trans h4 hb.size, own1_sm h5 (sm_below hb (by omega))⟩
theorem RW.wide {lo hi lo' hi' : Nat} {w : World} {v : Value} {n : Nat} {Z : Nat → Nat → Int} {g : Nat} (h : RW lo hi w v n Z g) (hl : lo' ≤ lo) (hh : hi ≤ hi') (hs : hi' ≤ w.heap.size) : RW lo' hi' w v n Z g := by
  rcases h with h | ⟨c, h1, h2, h3, h4, h5⟩
  · exact .inl h
  · exact .inr ⟨c, h1, by omega, by omega, hs, h5⟩
theorem RI.wide {lo hi lo' hi' : Nat} {w : World} {v : Value} {n : Nat} {X : Nat → Int} {g : Nat} (h : RI lo hi w v n X g) (hl : lo' ≤ lo) (hh : hi ≤ hi') (hs : hi' ≤ w.heap.size) : RI lo' hi' w v n X g := by
  rcases h with h | ⟨c, h1, h2, h3, h4, h5⟩
  · exact .inl h
  · exact .inr ⟨c, h1, by omega, by omega, hs, h5⟩
theorem RO.wide {lo hi lo' hi' : Nat} {w : World} {v : Value} {n : Nat} {N : Nat → Nat} {A : Nat → Nat → Int} {g : Nat} {sl : Nat → Value} {xs : Nat → Nat} (h : RO lo hi w v n N A g sl xs) (hl : lo' ≤ lo) (hh : hi ≤ hi') (hs : hi' ≤ w.heap.size) : RO lo' hi' w v n N A g sl xs := by
  rcases h with h | ⟨c, h1, h2, h3, h4, h5⟩
  · exact .inl h
  · exact .inr ⟨c, h1, by omega, by omega, hs, fun k hk => ⟨(h5 k hk).1, (h5 k hk).2.wide hl hh hs⟩⟩
theorem RO.below {lo hi : Nat} {w w' : World} {v : Value} {n : Nat} {N : Nat → Nat} {A : Nat → Nat → Int} {g : Nat} {sl : Nat → Value} {xs : Nat → Nat} (h : RO lo hi w v n N A g sl xs) (hb : Below w.heap.size w w') : RO lo hi w' v n N A g sl xs := by
  rcases h with h | ⟨c, h1, h2, h3, h4, h5⟩
  · exact .inl h
  · exact .inr ⟨c, h1, h2, h3, Nat.le_trans h4 hb.size, fun k hk => ⟨(hb.cell (p := ⟨g, k, none⟩) (by show g < _; omega)).trans (h5 k hk).1, (h5 k hk).2.below hb⟩⟩
theorem copyW' (b n cap : Nat) (Z : Nat → Nat → Int) (hn : n ≤ 1048576) (w : World) (hb : b < w.heap.size) (h : P6.OwnK w b n Z n) :
    Calls Try.prog 56 #[.slice (some ⟨b, 0, none⟩) n cap] w fun e w' => (∃ a c g, e = .returned (.slice a n c) ∧ RW w.heap.size w'.heap.size w' (.slice a n c) n Z g ∧ (g = 0 ∨ (w.heap.size ≤ g ∧ g < w'.heap.size))) ∧ Below w.heap.size w w' := by
  refine (copyW b n cap Z hn w hb h).mono ?_
  rintro e w' ⟨⟨v, rfl, ho⟩, hb'⟩
  obtain ⟨g, hR, hg⟩ := rw_of_own ho 0
  obtain ⟨a, c, rfl, _⟩ := row_of_rw hR
  refine ⟨⟨a, c, g, rfl, hR, ?_⟩, hb'⟩
  rcases hg with ⟨_, h⟩ | ⟨h, h2⟩
  · exact .inl h
  · exact .inr ⟨(ho.lt g h).1, h2⟩

set_option maxHeartbeats 4000000 in
theorem copyOne (lo : Nat) (v : Value) (V : OV) (hs : V.short 1048576) (p1 : 0 < V.nG) (p2 : 0 < V.nA) (p3 : ∀ k, k < V.nA → V.N k = 2) (w : World) (h : CopyO lo w v V) :
    Calls Try.prog 40 #[v] w fun e w' => (∃ v', e = .returned v' ∧ OwnW w.heap.size w'.heap.size w' v' V) ∧ Below w.heap.size w w' := by
  have HC : Hid (CopyO lo w v V) := h
  obtain ⟨b1, b2, b3, l1, l2, l3, l4, rfl, o1, o2, o3⟩ := h
  obtain ⟨c, d, nW, Z, nG, G, nA, N, O⟩ := V
  simp only at o1 o2 o3 l4 p1 p2 p3
  obtain ⟨s1, s2, s3, s4⟩ := hs
  simp only at s1 s2 s3
  have H1 : Hid (P6.OwnK w b1 nW Z nW) := o1
  have H2 : Hid (Own1 w b2 nG G nG) := o2
  have H3 : Hid (RowO w (some ⟨b3, 0, none⟩) nA N O) := rowO_of_own o3 l4
  have P3 : Hid (∀ k, k < nA → N k = 2) := p3
  clear HC o1 o2 o3 s4 p3
  go_enter Try.func40, Try.ntmps40
  go_wp2
  obtain ⟨w0, e0⟩ : ∃ w0, w0 = (w.alloc (.cells #[.int .i64 c, .int .i64 d, .slice (some ⟨b1, 0, none⟩) nW nW, .slice (some ⟨b2, 0, none⟩) nG nG, .slice (some ⟨b3, 0, none⟩) nA nA] 34)).alloc (.cells #[.int .i64 0, .int .i64 0, .slice none 0 0, .slice none 0 0, .slice none 0 0] 34) := ⟨_, rfl⟩
  have B1 : Hid (Below w.heap.size w w0) := by rw [e0]; exact ((Below.refl _ _).alloc (by simp) _).alloc (by simp) _
  have A2 : Hid (Bk w0 w.heap.size [.int .i64 c, .int .i64 d, .slice (some ⟨b1, 0, none⟩) nW nW, .slice (some ⟨b2, 0, none⟩) nG nG, .slice (some ⟨b3, 0, none⟩) nA nA]) := by rw [e0]; exact (bk_new w 34 [.int .i64 c, .int .i64 d, .slice (some ⟨b1, 0, none⟩) nW nW, .slice (some ⟨b2, 0, none⟩) nG nG, .slice (some ⟨b3, 0, none⟩) nA nA]).below ((Below.refl _ _).alloc (Nat.le_refl _) _)
  have R3 : Hid (Bk w0 (w.heap.size + 1) [.int .i64 0, .int .i64 0, .slice none 0 0, .slice none 0 0, .slice none 0 0]) := by rw [e0]; have := bk_new (w.alloc (.cells #[.int .i64 c, .int .i64 d, .slice (some ⟨b1, 0, none⟩) nW nW, .slice (some ⟨b2, 0, none⟩) nG nG, .slice (some ⟨b3, 0, none⟩) nA nA] 34)) 34 [.int .i64 0, .int .i64 0, .slice none 0 0, .slice none 0 0, .slice none 0 0]; rwa [show (w.alloc (.cells #[.int .i64 c, .int .i64 d, .slice (some ⟨b1, 0, none⟩) nW nW, .slice (some ⟨b2, 0, none⟩) nG nG, .slice (some ⟨b3, 0, none⟩) nA nA] 34)).heap.size = w.heap.size + 1 by simp] at this
  rw [← e0]
  clear e0
  have hZR := R3.out
  obtain ⟨R, eR⟩ : ∃ R, R = w.heap.size + 1 := ⟨_, rfl⟩
  rw [← eR] at hZR ⊢
  have eR1 : R ≤ w.heap.size + 1 := by omega
  have eR2 : w.heap.size + 1 ≤ R := by omega
  clear eR
  have lR := hZR.1
  have yA0 : w0.cell? ⟨w.heap.size, 0, none⟩ = some (.int .i64 c) := (A2.out.2 0 (by simp)).1
  have yA1 : w0.cell? ⟨w.heap.size, 1, none⟩ = some (.int .i64 d) := (A2.out.2 1 (by simp)).1
  have yA2 : w0.cell? ⟨w.heap.size, 2, none⟩ = some (.slice (some ⟨b1, 0, none⟩) nW nW) := (A2.out.2 2 (by simp)).1
  have yA3 : w0.cell? ⟨w.heap.size, 3, none⟩ = some (.slice (some ⟨b2, 0, none⟩) nG nG) := (A2.out.2 3 (by simp)).1
  have yA4 : w0.cell? ⟨w.heap.size, 4, none⟩ = some (.slice (some ⟨b3, 0, none⟩) nA nA) := (A2.out.2 4 (by simp)).1
  have hlA : w.heap.size < w0.heap.size := A2.out.1
  refine wp_region_held_drew (S := fun w' => Below (w.heap.size + 1) w0 w') (by kernel_rfl) ((Below.refl _ _).drew) ?_
  intro hHeld
  obtain ⟨X0, hX0⟩ : ∃ X, X = w0.drew := ⟨_, rfl⟩
  have hz0 : w0.heap.size ≤ X0.heap.size := by rw [hX0]; exact Nat.le_refl _
  rw [← hX0] at hHeld ⊢
  replace hZR := hZR.below (show Below w0.heap.size w0 X0 by rw [hX0]; exact (Below.refl _ _).drew)
  clear hX0
  refine wpAnyH_take (i := 0) (v := .pointer (some ⟨w.heap.size, 0, none⟩)) rfl (by kernel_rfl) (by kernel_rfl) (by kernel_rfl) (fun _ _ _ h => h) (Or.inl ⟨by rfl, ?_⟩) (by assumption) ?_
  · intro wx hSw; obtain ⟨hcS, hfS⟩ := bcellN hSw; go_simp
  try simp only [Act.put, List.setIfInBounds_toArray, List.set_cons_zero, List.set_cons_succ, List.getElem_toArray, List.getElem_cons_zero]
  refine wpAnyH_take (i := 2) (v := .pointer (some ⟨w.heap.size, 2, none⟩)) rfl (by kernel_rfl) (by kernel_rfl) (by kernel_rfl) (fun _ _ _ h => h) (Or.inl ⟨by rfl, ?_⟩) (by assumption) ?_
  · intro wx hSw; obtain ⟨hcS, hfS⟩ := bcellN hSw; go_simp
  try simp only [Act.put, List.setIfInBounds_toArray, List.set_cons_zero, List.set_cons_succ, List.getElem_toArray, List.getElem_cons_zero, List.getElem_cons_succ]
  refine wpAnyH_take (i := 5) (v := .pointer (some ⟨w.heap.size, 3, none⟩)) rfl (by kernel_rfl) (by kernel_rfl) (by kernel_rfl) (fun _ _ _ h => h) (Or.inl ⟨by rfl, ?_⟩) (by assumption) ?_
  · intro wx hSw; obtain ⟨hcS, hfS⟩ := bcellN hSw; go_simp
  try simp only [Act.put, List.setIfInBounds_toArray, List.set_cons_zero, List.set_cons_succ, List.getElem_toArray, List.getElem_cons_zero, List.getElem_cons_succ]
  refine wpAnyH_take (i := 8) (v := .pointer (some ⟨w.heap.size, 4, none⟩)) rfl (by kernel_rfl) (by kernel_rfl) (by kernel_rfl) (fun _ _ _ h => h) (Or.inl ⟨by rfl, ?_⟩) (by assumption) ?_
  · intro wx hSw; obtain ⟨hcS, hfS⟩ := bcellN hSw; go_simp
  try simp only [Act.put, List.setIfInBounds_toArray, List.set_cons_zero, List.set_cons_succ, List.getElem_toArray, List.getElem_cons_zero, List.getElem_cons_succ]
  refine wpAnyH_take (i := 1) (v := .agg #[.int .i64 c, .int .i64 d]) rfl (by kernel_rfl) (by kernel_rfl) (by kernel_rfl) (fun _ _ _ h => h) (Or.inl ⟨by rfl, ?_⟩) (by assumption) ?_
  · intro wx hSw; obtain ⟨hcS, hfS⟩ := bcellN hSw; go_simp
  try simp only [Act.put, List.setIfInBounds_toArray, List.set_cons_zero, List.set_cons_succ, List.getElem_toArray, List.getElem_cons_zero, List.getElem_cons_succ]
  refine wpAnyH_take (i := 3) (v := .slice (some ⟨b1, 0, none⟩) nW nW) rfl (by kernel_rfl) (by kernel_rfl) (by kernel_rfl) (fun _ _ _ h => h) (Or.inl ⟨by rfl, ?_⟩) (by assumption) ?_
  · intro wx hSw; obtain ⟨hcS, hfS⟩ := bcellN hSw; go_simp
  try simp only [Act.put, List.setIfInBounds_toArray, List.set_cons_zero, List.set_cons_succ, List.getElem_toArray, List.getElem_cons_zero, List.getElem_cons_succ]
  refine wpAnyH_take (i := 6) (v := .slice (some ⟨b2, 0, none⟩) nG nG) rfl (by kernel_rfl) (by kernel_rfl) (by kernel_rfl) (fun _ _ _ h => h) (Or.inl ⟨by rfl, ?_⟩) (by assumption) ?_
  · intro wx hSw; obtain ⟨hcS, hfS⟩ := bcellN hSw; go_simp
  try simp only [Act.put, List.setIfInBounds_toArray, List.set_cons_zero, List.set_cons_succ, List.getElem_toArray, List.getElem_cons_zero, List.getElem_cons_succ]
  refine wpAnyH_take (i := 9) (v := .slice (some ⟨b3, 0, none⟩) nA nA) rfl (by kernel_rfl) (by kernel_rfl) (by kernel_rfl) (fun _ _ _ h => h) (Or.inl ⟨by rfl, ?_⟩) (by assumption) ?_
  · intro wx hSw; obtain ⟨hcS, hfS⟩ := bcellN hSw; go_simp
  try simp only [Act.put, List.setIfInBounds_toArray, List.set_cons_zero, List.set_cons_succ, List.getElem_toArray, List.getElem_cons_zero, List.getElem_cons_succ]
  refine wpAnyH_ready (rs := [4]) (by kernel_rfl) (by simp) ?_
  refine (AllReadyH.cons rfl (fun K hK => ?_) AllReadyH.nil)
  go_simp
  go_wp2_with fail
  refine (copyW' b1 nW nW Z s1 _ (Nat.lt_of_lt_of_le (by omega) (bthenW B1.out hHeld).size) (P6.own_below H1.out (by omega) (bthenW B1.out hHeld))).mono ?_
  rintro e x1 ⟨⟨aW, cW, gW, rfl, hO1, j1⟩, hx1⟩
  obtain ⟨t1, et1⟩ : ∃ t, t = x1.heap.size := ⟨_, rfl⟩
  rw [← et1] at hO1 j1
  have t1a : t1 ≤ x1.heap.size := by omega
  clear et1
  replace hZR := hZR.below hx1
  have hsz_x1 := hx1.size
  refine hK.out _ _ (bthenN hHeld (by omega) hx1) (fun hNew => ?_)
  clear hK K hHeld
  have hHeld := hNew
  clear hNew
  try simp only [Act.put, List.setIfInBounds_toArray, List.set_cons_zero, List.set_cons_succ, List.getElem_toArray, List.getElem_cons_zero, List.getElem_cons_succ]
  refine wpAnyH_ready (rs := [7]) (by kernel_rfl) (by simp) ?_
  refine (AllReadyH.cons rfl (fun K hK => ?_) AllReadyH.nil)
  go_simp
  go_wp2_with fail
  refine (copyI b2 0 nG nG G s2 p1 _ (Nat.lt_of_lt_of_le (by omega) (bthenW B1.out hHeld).size) (fun k hk => by rw [Nat.zero_add]; exact ((bthenW B1.out hHeld).cell (p := ⟨b2, k, none⟩) (by show b2 < _; omega)).trans (H2.out.2 k hk))).mono ?_
  rintro e x2 ⟨⟨gG, cG, rfl, j2, j3, hO2⟩, hx2⟩
  replace hZR := hZR.below hx2
  replace hO1 := hO1.below hx2
  have hsz_x2 := hx2.size
  refine hK.out _ _ (bthenN hHeld (by omega) hx2) (fun hNew => ?_)
  clear hK K hHeld
  have hHeld := hNew
  clear hNew
  try simp only [Act.put, List.setIfInBounds_toArray, List.set_cons_zero, List.set_cons_succ, List.getElem_toArray, List.getElem_cons_zero, List.getElem_cons_succ]
  refine wpAnyH_ready (rs := [10]) (by kernel_rfl) (by simp) ?_
  refine (AllReadyH.cons rfl (fun K hK => ?_) AllReadyH.nil)
  go_simp
  go_wp2_with fail
  refine (copyEach b3 nA nA N O s3 p2 P3.out _ (Nat.lt_of_lt_of_le l4 (bthenW B1.out hHeld).size) (rowO_below H3.out (bthenW B1.out hHeld))).mono ?_
  rintro e x3 ⟨⟨vA, gA, sl, xs, rfl, hO3, ⟨j4, j5, j6⟩, j7, j8⟩, hx3⟩
  obtain ⟨aA, cA, rfl, _⟩ := row_of_ro hO3
  obtain ⟨t3, et3⟩ : ∃ t, t = x3.heap.size := ⟨_, rfl⟩
  rw [← et3] at hO3 j5 j7
  have t3a : t3 ≤ x3.heap.size := by omega
  clear et3
  have J6 : Hid (∀ k, k < nA → ¬ xs k = gA) := j6
  have J7 : Hid (∀ k, k < nA → x2.heap.size ≤ xs k ∧ xs k < t3) := j7
  have J8 : Hid (∀ i j, i < nA → j < nA → ¬ i = j → ¬ xs i = xs j) := j8
  clear j6 j7 j8
  replace hZR := hZR.below hx3
  replace hO1 := hO1.below hx3
  replace hO2 := own1_below hO2 (by omega) hx3
  have hsz_x3 := hx3.size
  refine hK.out _ _ (bthenN hHeld (by omega) hx3) (fun hNew => ?_)
  clear hK K hHeld
  have hHeld := hNew
  clear hNew
  try simp only [Act.put, List.setIfInBounds_toArray, List.set_cons_zero, List.set_cons_succ, List.getElem_toArray, List.getElem_cons_zero, List.getElem_cons_succ]
  refine wpAnyH_take (i := 11) (v := .agg #[.int .i64 c, .int .i64 d, .slice aW nW cW, .slice (some ⟨gG, 0, none⟩) nG cG, .slice aA nA cA]) rfl (by kernel_rfl) (by kernel_rfl) (by kernel_rfl) (fun _ _ _ h => h) (Or.inl ⟨by rfl, ?_⟩) (by assumption) ?_
  · intro wx hSw; obtain ⟨hcS, hfS⟩ := bcellN hSw; go_simp
  try simp only [Act.put, List.setIfInBounds_toArray, List.set_cons_zero, List.set_cons_succ, List.getElem_toArray, List.getElem_cons_zero, List.getElem_cons_succ]
  refine wpAnyH_ready (rs := [12]) (by kernel_rfl) (by simp) ?_
  refine (AllReadyH.cons rfl (fun K hK => ?_) AllReadyH.nil)
  have r0 := (hZR.2 0 (by simp)).1
  have r1 := (hZR.2 1 (by simp)).1
  have r2 := (hZR.2 2 (by simp)).1
  have r3 := (hZR.2 3 (by simp)).1
  have r4 := (hZR.2 4 (by simp)).1
  have f0 := (hZR.2 0 (by simp)).2
  have f1 := (hZR.2 1 (by simp)).2
  have f2 := (hZR.2 2 (by simp)).2
  have f3 := (hZR.2 3 (by simp)).2
  have f4 := (hZR.2 4 (by simp)).2
  simp only [List.getD, List.getElem?_cons_zero, List.getElem?_cons_succ, Option.getD_some] at r0 r1 r2 r3 r4
  have lZR := hZR.1
  have hkR : w.heap.size + 1 ≤ R := by omega
  go_simp
  obtain ⟨XSR, eS⟩ : ∃ X, X = (((((x3.setCell ⟨R, 0, none⟩ (.int .i64 c)).setCell ⟨R, 1, none⟩ (.int .i64 d)).setCell ⟨R, 2, none⟩ (.slice aW nW cW)).setCell ⟨R, 3, none⟩ (.slice (some ⟨gG, 0, none⟩) nG cG)).setCell ⟨R, 4, none⟩ (.slice aA nA cA)) := ⟨_, rfl⟩
  rw [← eS]
  have hPR : Bk XSR R [.int .i64 c, .int .i64 d, .slice aW nW cW, .slice (some ⟨gG, 0, none⟩) nG cG, .slice aA nA cA] := by rw [eS]; exact bk_put (l := [.int .i64 c, .int .i64 d, .slice aW nW cW, .slice (some ⟨gG, 0, none⟩) nG cG, .slice aA nA cA]) hZR rfl
  have hzR1 : XSR.heap.size ≤ x3.heap.size := by rw [eS]; exact Nat.le_of_eq (size_put R [.int .i64 c, .int .i64 d, .slice aW nW cW, .slice (some ⟨gG, 0, none⟩) nG cG, .slice aA nA cA] 0 x3)
  have hzR2 : x3.heap.size ≤ XSR.heap.size := by rw [eS]; exact Nat.le_of_eq (size_put R [.int .i64 c, .int .i64 d, .slice aW nW cW, .slice (some ⟨gG, 0, none⟩) nG cG, .slice aA nA cA] 0 x3).symm
  have hmR : ∀ b, ¬ b = R → Sm x3 XSR b := by rw [eS]; exact fun b hb => sm_put hb [.int .i64 c, .int .i64 d, .slice aW nW cW, .slice (some ⟨gG, 0, none⟩) nG cG, .slice aA nA cA] 0 x3
  have hBR : Below (w.heap.size + 1) w0 XSR := by rw [eS]; exact below_put hkR [.int .i64 c, .int .i64 d, .slice aW nW cW, .slice (some ⟨gG, 0, none⟩) nG cG, .slice aA nA cA] 0 hHeld
  clear eS r0 f0 r1 f1 r2 f2 r3 f3 r4 f4
  replace hO1 := hO1.sm hzR2 (fun _ _ => hmR gW (by omega))
  replace hO2 := own1_sm hO2 (hmR gG (by omega))
  replace hO3 := hO3.sm hzR2 (fun _ _ => hmR gA (by omega)) (fun i hi _ _ => hmR (xs i) (by have := J7.out i hi; omega))
  refine hK.out _ _ hBR (fun hNew => ?_)
  clear hK K hHeld
  have hHeld := hNew
  clear hNew
  try simp only [Act.put, List.setIfInBounds_toArray, List.set_cons_zero, List.set_cons_succ, List.getElem_toArray, List.getElem_cons_zero, List.getElem_cons_succ]
  refine wpAnyH_done (by kernel_rfl) ?_ _
  have y0 := (hPR.2 0 (by simp)).1
  have y1 := (hPR.2 1 (by simp)).1
  have y2 := (hPR.2 2 (by simp)).1
  have y3 := (hPR.2 3 (by simp)).1
  have y4 := (hPR.2 4 (by simp)).1
  simp only [List.getD, List.getElem?_cons_zero, List.getElem?_cons_succ, Option.getD_some] at y0 y1 y2 y3 y4
  go_wp2
  refine bodyPost_ret (v := .agg #[.int .i64 c, .int .i64 d, .slice aW nW cW, .slice (some ⟨gG, 0, none⟩) nG cG, .slice aA nA cA]) (by simp [results, Try.results40, go_sem, *]) rfl ?_
  exact ⟨⟨_, rfl, _, _, _, gW, gG, gA, sl, xs, rfl, hO1.wide (by omega) (by omega) (Nat.le_refl _), .inr ⟨_, rfl, by omega, by omega, Nat.le_refl _, hO2⟩, hO3.wide (by omega) (by omega) (Nat.le_refl _), by omega, fun k hk => by have := J7.out k hk; have := J6.out k hk; omega, J8.out⟩, B1.out.trans (hHeld.mono (by omega))⟩
end Go.Proofs.Ytoickljpjlhkoaa
