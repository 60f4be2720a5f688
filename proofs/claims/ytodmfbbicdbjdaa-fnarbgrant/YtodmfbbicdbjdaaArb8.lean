/- Copies of a table, of the program and of the model; conditions: the table lies in memory, and has a row. -/
import Derived.Test.YtodmfbbicdbjdaaArb6
namespace Go.Proofs.Ytodmfbbicdbjdaa
open Go.RowKit Go.Deep
set_option linter.unusedVariables false

theorem bthenN {n : Nat} {a b c : World} (h : Below n a b) (hn : n ≤ a.heap.size) (k : Below b.heap.size b c) : Below n a c := h.trans (k.mono (Nat.le_trans hn h.size))
theorem bcellN {n : Nat} {W w1 : World} (hb : Below n W w1) : (∀ b o, b < n → w1.cell? ⟨b, o, none⟩ = W.cell? ⟨b, o, none⟩) ∧ (∀ b o, b < n → w1.frozen? ⟨b, o, none⟩ = W.frozen? ⟨b, o, none⟩) :=
  ⟨fun b o h => hb.cell (p := ⟨b, o, none⟩) h, fun b o h => hb.frozen (p := ⟨b, o, none⟩) h⟩
theorem own1_of_row {w : World} {base n : Nat} {v : Value} {X : Nat → Int} (hn : 0 < n) (h : w.ownsRow base 3 1 v n ((List.range n).flatMap (one1 X))) : ∃ g c, v = .slice (some ⟨g, 0, none⟩) n c ∧ base ≤ g ∧ g < w.heap.size ∧ Own1 w g n X n := by
  obtain ⟨g, r, _⟩ := ri_of_own h
  rcases r with ⟨h, _⟩ | ⟨c, q1, q2, q3, _, q5⟩
  · omega
  · exact ⟨g, c, q1, q2, q3, q5⟩
theorem copyI' (a : Option Addr) (n cap : Nat) (X : Nat → Int) (hn : n ≤ 1048576) (h0 : 0 < n) (w : World) (h : Row1 w a n X) :
    Calls Try.prog 27 #[.slice a n cap] w fun e w' => (∃ g c, e = .returned (.slice (some ⟨g, 0, none⟩) n c) ∧ w.heap.size ≤ g ∧ g < w'.heap.size ∧ Own1 w' g n X n) ∧ Below w.heap.size w w' := by
  rcases h with h | ⟨b, o, rfl, hb, hr⟩
  · omega
  · refine (copyI b o n cap X hn w hb hr).mono ?_
    rintro e w' ⟨⟨v, rfl, h⟩, hbl⟩
    obtain ⟨g, c, rfl, q⟩ := own1_of_row h0 h
    exact ⟨⟨g, c, rfl, q⟩, hbl⟩

theorem bthenW {n : Nat} {a b c : World} (h : Below a.heap.size a b) (k : Below n b c) (hn : a.heap.size ≤ n := by omega) : Below a.heap.size a c := h.trans (k.mono hn)
set_option maxHeartbeats 4000000 in
theorem copyTable (v : Value) (T : TV) (hs : T.short 1048576) (p1 : 0 < T.nS) (p2 : 0 < T.nA) (w : World) (h : TabAt w v T) :
    Calls Try.prog 16 #[v] w fun e w' => (∃ v', e = .returned v' ∧ OwnT w.heap.size w'.heap.size w' v' T) ∧ Below w.heap.size w w' := by
  obtain ⟨aS, kS, aA, kA, rfl, rS, rA⟩ := h
  obtain ⟨s1, s2⟩ := hs
  have HS : Hid (Row1 w aS T.nS T.S) := rS
  have HA : Hid (Row1 w aA T.nA T.A) := rA
  clear rS rA
  go_enter Try.func16, Try.ntmps16
  go_wp2
  obtain ⟨w0, e0⟩ : ∃ w0, w0 = (w.alloc (.cells #[.slice aS T.nS kS, .slice aA T.nA kA] 27)).alloc (.cells #[.slice none 0 0, .slice none 0 0] 27) := ⟨_, rfl⟩
  have B1 : Hid (Below w.heap.size w w0) := by rw [e0]; exact ((Below.refl _ _).alloc (by simp) _).alloc (by simp) _
  have A2 : Hid (Bk w0 w.heap.size [.slice aS T.nS kS, .slice aA T.nA kA]) := by rw [e0]; exact (bk_new w 27 [.slice aS T.nS kS, .slice aA T.nA kA]).below ((Below.refl _ _).alloc (Nat.le_refl _) _)
  have R3 : Hid (Bk w0 (w.heap.size + 1) [.slice none 0 0, .slice none 0 0]) := by rw [e0]; have := bk_new (w.alloc (.cells #[.slice aS T.nS kS, .slice aA T.nA kA] 27)) 27 [.slice none 0 0, .slice none 0 0]; rwa [show (w.alloc (.cells #[.slice aS T.nS kS, .slice aA T.nA kA] 27)).heap.size = w.heap.size + 1 by simp] at this
  rw [← e0]
  clear e0
  have hZR := R3.out
  obtain ⟨R, eR⟩ : ∃ R, R = w.heap.size + 1 := ⟨_, rfl⟩
  rw [← eR] at hZR ⊢
  have eR1 : R ≤ w.heap.size + 1 := by omega
  have eR2 : w.heap.size + 1 ≤ R := by omega
  clear eR
  have lR := hZR.1
  have yA0 : w0.cell? ⟨w.heap.size, 0, none⟩ = some (.slice aS T.nS kS) := (A2.out.2 0 (by simp)).1
  have yA1 : w0.cell? ⟨w.heap.size, 1, none⟩ = some (.slice aA T.nA kA) := (A2.out.2 1 (by simp)).1
  have hlA : w.heap.size < w0.heap.size := A2.out.1
  refine wp_region_held_drew (S := fun w' => Below (w.heap.size + 1) w0 w') (by kernel_rfl) ((Below.refl _ _).drew) ?_
  intro hHeld
  obtain ⟨X0, hX0⟩ : ∃ X, X = w0.drew := ⟨_, rfl⟩
  have hz0 : w0.heap.size ≤ X0.heap.size := by rw [hX0]; exact Nat.le_refl _
  rw [← hX0] at hHeld ⊢
  replace hZR := hZR.below (show Below w0.heap.size w0 X0 by rw [hX0]; exact (Below.refl _ _).drew)
  clear hX0
  refine wpAnyH_take (i := 0) (v := .pointer (some ⟨w.heap.size, 0, none⟩)) rfl (by kernel_rfl) (by kernel_rfl) (by kernel_rfl) (fun _ _ _ h => h) (Or.inl ⟨by rfl, ?_⟩) (by assumption) ?_
  · intro wx hSw; obtain ⟨hcS, hfS⟩ := bcellN hSw; go_simp
  try simp only [Act.put, List.setIfInBounds_toArray, List.set_cons_zero, List.set_cons_succ, List.getElem_toArray, List.getElem_cons_zero]
  refine wpAnyH_take (i := 3) (v := .pointer (some ⟨w.heap.size, 1, none⟩)) rfl (by kernel_rfl) (by kernel_rfl) (by kernel_rfl) (fun _ _ _ h => h) (Or.inl ⟨by rfl, ?_⟩) (by assumption) ?_
  · intro wx hSw; obtain ⟨hcS, hfS⟩ := bcellN hSw; go_simp
  try simp only [Act.put, List.setIfInBounds_toArray, List.set_cons_zero, List.set_cons_succ, List.getElem_toArray, List.getElem_cons_zero, List.getElem_cons_succ]
  refine wpAnyH_take (i := 1) (v := .slice aS T.nS kS) rfl (by kernel_rfl) (by kernel_rfl) (by kernel_rfl) (fun _ _ _ h => h) (Or.inl ⟨by rfl, ?_⟩) (by assumption) ?_
  · intro wx hSw; obtain ⟨hcS, hfS⟩ := bcellN hSw; go_simp
  try simp only [Act.put, List.setIfInBounds_toArray, List.set_cons_zero, List.set_cons_succ, List.getElem_toArray, List.getElem_cons_zero, List.getElem_cons_succ]
  refine wpAnyH_take (i := 4) (v := .slice aA T.nA kA) rfl (by kernel_rfl) (by kernel_rfl) (by kernel_rfl) (fun _ _ _ h => h) (Or.inl ⟨by rfl, ?_⟩) (by assumption) ?_
  · intro wx hSw; obtain ⟨hcS, hfS⟩ := bcellN hSw; go_simp
  try simp only [Act.put, List.setIfInBounds_toArray, List.set_cons_zero, List.set_cons_succ, List.getElem_toArray, List.getElem_cons_zero, List.getElem_cons_succ]
  refine wpAnyH_ready (rs := [2]) (by kernel_rfl) (by simp) ?_
  refine (AllReadyH.cons rfl (fun K hK => ?_) AllReadyH.nil)
  go_simp
  go_wp2_with fail
  refine (copyI' aS T.nS kS T.S s1 p1 _ (row1_below HS.out (bthenW B1.out hHeld))).mono ?_
  rintro e x1 ⟨⟨g1, d1, rfl, j1, j2, hO1⟩, hx1⟩
  replace hZR := hZR.below hx1
  have hsz_x1 := hx1.size
  refine hK.out _ _ (bthenN hHeld (by omega) hx1) (fun hNew => ?_)
  clear hK K hHeld
  have hHeld := hNew
  clear hNew
  try simp only [Act.put, List.setIfInBounds_toArray, List.set_cons_zero, List.set_cons_succ, List.getElem_toArray, List.getElem_cons_zero, List.getElem_cons_succ]
  refine wpAnyH_ready (rs := [5]) (by kernel_rfl) (by simp) ?_
  refine (AllReadyH.cons rfl (fun K hK => ?_) AllReadyH.nil)
  go_simp
  go_wp2_with fail
  refine (copyI' aA T.nA kA T.A s2 p2 _ (row1_below HA.out (bthenW B1.out hHeld))).mono ?_
  rintro e x2 ⟨⟨g2, d2, rfl, j3, j4, hO2⟩, hx2⟩
  replace hZR := hZR.below hx2
  replace hO1 := own1_below hO1 (by omega) hx2
  have hsz_x2 := hx2.size
  refine hK.out _ _ (bthenN hHeld (by omega) hx2) (fun hNew => ?_)
  clear hK K hHeld
  have hHeld := hNew
  clear hNew
  try simp only [Act.put, List.setIfInBounds_toArray, List.set_cons_zero, List.set_cons_succ, List.getElem_toArray, List.getElem_cons_zero, List.getElem_cons_succ]
  refine wpAnyH_take (i := 6) (v := .agg #[.slice (some ⟨g1, 0, none⟩) T.nS d1, .slice (some ⟨g2, 0, none⟩) T.nA d2]) rfl (by kernel_rfl) (by kernel_rfl) (by kernel_rfl) (fun _ _ _ h => h) (Or.inl ⟨by rfl, ?_⟩) (by assumption) ?_
  · intro wx hSw; obtain ⟨hcS, hfS⟩ := bcellN hSw; go_simp
  try simp only [Act.put, List.setIfInBounds_toArray, List.set_cons_zero, List.set_cons_succ, List.getElem_toArray, List.getElem_cons_zero, List.getElem_cons_succ]
  refine wpAnyH_ready (rs := [7]) (by kernel_rfl) (by simp) ?_
  refine (AllReadyH.cons rfl (fun K hK => ?_) AllReadyH.nil)
  have r0 := (hZR.2 0 (by simp)).1
  have r1 := (hZR.2 1 (by simp)).1
  have f0 := (hZR.2 0 (by simp)).2
  have f1 := (hZR.2 1 (by simp)).2
  simp only [List.getD, List.getElem?_cons_zero, List.getElem?_cons_succ, Option.getD_some] at r0 r1
  have lZR := hZR.1
  have hkR : w.heap.size + 1 ≤ R := by omega
  go_simp
  obtain ⟨XSR, eS⟩ : ∃ X, X = ((x2.setCell ⟨R, 0, none⟩ (.slice (some ⟨g1, 0, none⟩) T.nS d1)).setCell ⟨R, 1, none⟩ (.slice (some ⟨g2, 0, none⟩) T.nA d2)) := ⟨_, rfl⟩
  rw [← eS]
  have hPR : Bk XSR R [.slice (some ⟨g1, 0, none⟩) T.nS d1, .slice (some ⟨g2, 0, none⟩) T.nA d2] := by rw [eS]; exact bk_put (l := [.slice (some ⟨g1, 0, none⟩) T.nS d1, .slice (some ⟨g2, 0, none⟩) T.nA d2]) hZR rfl
  have hzR : XSR.heap.size = x2.heap.size := by rw [eS]; exact size_put R [.slice (some ⟨g1, 0, none⟩) T.nS d1, .slice (some ⟨g2, 0, none⟩) T.nA d2] 0 x2
  have hmR : ∀ b, ¬ b = R → Sm x2 XSR b := by rw [eS]; exact fun b hb => sm_put hb [.slice (some ⟨g1, 0, none⟩) T.nS d1, .slice (some ⟨g2, 0, none⟩) T.nA d2] 0 x2
  have hBR : Below (w.heap.size + 1) w0 XSR := by rw [eS]; exact below_put hkR [.slice (some ⟨g1, 0, none⟩) T.nS d1, .slice (some ⟨g2, 0, none⟩) T.nA d2] 0 hHeld
  clear eS r0 f0 r1 f1
  replace hO1 := own1_sm hO1 (hmR g1 (by omega))
  replace hO2 := own1_sm hO2 (hmR g2 (by omega))
  refine hK.out _ _ hBR (fun hNew => ?_)
  clear hK K hHeld
  have hHeld := hNew
  clear hNew
  try simp only [Act.put, List.setIfInBounds_toArray, List.set_cons_zero, List.set_cons_succ, List.getElem_toArray, List.getElem_cons_zero, List.getElem_cons_succ]
  refine wpAnyH_done (by kernel_rfl) ?_ _
  have y0 := (hPR.2 0 (by simp)).1
  have y1 := (hPR.2 1 (by simp)).1
  simp only [List.getD, List.getElem?_cons_zero, List.getElem?_cons_succ, Option.getD_some] at y0 y1
  go_wp2
  refine bodyPost_ret (v := .agg #[.slice (some ⟨g1, 0, none⟩) T.nS d1, .slice (some ⟨g2, 0, none⟩) T.nA d2]) (by simp [results, Try.results16, go_sem, *]) rfl ?_
  exact ⟨⟨_, rfl, _, _, g1, g2, rfl, .inr ⟨_, rfl, by omega, by omega, Nat.le_refl _, hO1⟩, .inr ⟨_, rfl, by omega, by omega, Nat.le_refl _, hO2⟩, by omega⟩, B1.out.trans (hHeld.mono (by omega))⟩
end Go.Proofs.Ytodmfbbicdbjdaa
