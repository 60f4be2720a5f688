/- What a scene can take in: hasRoom; conditions: the scene lies in memory. -/
import Derived.Test.YtjmjffhommlbnaaGreatTold
import Derived.Test.YtjmjffhommlbnaaGreatBase
namespace Go.Proofs.YtjmjffhommlbnaaGreat
open Go.RowKit Go.Deep
set_option linter.unusedVariables false

/-- Whether there is room for what a parcel has. -/
def roomB (c d : Int) (V : CV) (M : Int → Option (Nat → Int)) (pk pi pa pc : Int) : Bool := if pk = 2 then decide (V.g + pc ≤ 900) else !(M pi).isSome && (cellF c d pa == V.c)

set_option maxHeartbeats 4000000 in
theorem hasRoom_impl (c d pn pk pi pa pm ps pl pc : Int) (s b lo : Nat) (V : CV) (n : Nat) (M : Int → Option (Nat → Int)) (hg : 0 ≤ V.g ∧ V.g ≤ 900) (hpc : 0 ≤ pc ∧ pc ≤ 900) (hwf : (Lit.int .i64 pi).wf = true) (w : World) (h : Sc w c d s b lo V n M) :
    Calls Tryz.prog 57 #[.pointer (some ⟨s, 0, none⟩), .agg #[.int .i64 pn, .int .i64 pk, .int .i64 pi, .int .i64 pa, .int .i64 pm, .int .i64 ps, .int .i64 pl, .int .i64 pc]] w fun e w' => e = .returned (.bool (roomB c d V M pk pi pa pc)) ∧ Below w.heap.size w w' := by
  obtain ⟨aW, kW, kO, aX, kX, aI, kI, gW, gO, gX, gI, sl, xs, hN, rW, rX, rI, hO, hM, ⟨l1, l2, l3, l4, l5, l6, l7, l8⟩, hd, hx1, hx2⟩ := h
  have HN : Hid (Nine w s [.int .i64 c, .int .i64 d, .int .i64 V.c, .slice aW V.nW kW, .int .i64 V.g, .slice (some ⟨gO, 0, none⟩) V.nO kO, .slice aX V.nX kX, .slice aI V.nI kI, .map (some b)]) := hN
  have HM : Hid (Wm w b n M) := hM
  have hbl : b < w.heap.size := hM.lt
  clear hN rW rX rI hO hM hd hx1 hx2
  by_cases hk : pk = 2
  · have hv : roomB c d V M pk pi pa pc = decide (V.g + pc ≤ 900) := by simp [roomB, hk]
    rw [hv]
    subst hk
    go_enter Tryz.func57, Tryz.ntmps57
    go_upto_region 1 with fail
    obtain ⟨w0, e0⟩ : ∃ w0, w0 = w.alloc (.cells #[.int .i64 pn, .int .i64 2, .int .i64 pi, .int .i64 pa, .int .i64 pm, .int .i64 ps, .int .i64 pl, .int .i64 pc] 45) := ⟨_, rfl⟩
    have hb0 : Below w.heap.size w w0 := by rw [e0]; exact (Below.refl _ _).alloc (Nat.le_refl _) _
    have X0 : Bk w0 w.heap.size [.int .i64 pn, .int .i64 2, .int .i64 pi, .int .i64 pa, .int .i64 pm, .int .i64 ps, .int .i64 pl, .int .i64 pc] := by rw [e0]; exact bk_new w 45 [.int .i64 pn, .int .i64 2, .int .i64 pi, .int .i64 pa, .int .i64 pm, .int .i64 ps, .int .i64 pl, .int .i64 pc]
    rw [← e0]
    clear e0
    have z0 := X0.1
    have B1 : Hid (Below w.heap.size w w0) := hb0
    have P2 : Hid (Bk w0 w.heap.size [.int .i64 pn, .int .i64 2, .int .i64 pi, .int .i64 pa, .int .i64 pm, .int .i64 ps, .int .i64 pl, .int .i64 pc]) := X0
    have M3 : Hid (Wm w0 b n M) := HM.out.below hbl hb0
    have S4 : Hid (Bk w0 s [.int .i64 c, .int .i64 d, .int .i64 V.c, .slice aW V.nW kW, .int .i64 V.g, .slice (some ⟨gO, 0, none⟩) V.nO kO, .slice aX V.nX kX, .slice aI V.nI kI, .map (some b)]) := ⟨by omega, fun i hi => by rw [(sm_below hb0 l4 i).1, (sm_below hb0 l4 i).2]; exact HN.out i (by simpa using hi)⟩
    clear X0 hb0 HM HN
    have yP0 : w0.cell? ⟨w.heap.size, 0, none⟩ = some (.int .i64 pn) := (P2.out.2 0 (by simp)).1
    have yP1 : w0.cell? ⟨w.heap.size, 1, none⟩ = some (.int .i64 2) := (P2.out.2 1 (by simp)).1
    have yP2 : w0.cell? ⟨w.heap.size, 2, none⟩ = some (.int .i64 pi) := (P2.out.2 2 (by simp)).1
    have yP3 : w0.cell? ⟨w.heap.size, 3, none⟩ = some (.int .i64 pa) := (P2.out.2 3 (by simp)).1
    have yP4 : w0.cell? ⟨w.heap.size, 4, none⟩ = some (.int .i64 pm) := (P2.out.2 4 (by simp)).1
    have yP5 : w0.cell? ⟨w.heap.size, 5, none⟩ = some (.int .i64 ps) := (P2.out.2 5 (by simp)).1
    have yP6 : w0.cell? ⟨w.heap.size, 6, none⟩ = some (.int .i64 pl) := (P2.out.2 6 (by simp)).1
    have yP7 : w0.cell? ⟨w.heap.size, 7, none⟩ = some (.int .i64 pc) := (P2.out.2 7 (by simp)).1
    have hlP : w.heap.size < w0.heap.size := P2.out.1
    have yS0 : w0.cell? ⟨s, 0, none⟩ = some (.int .i64 c) := (S4.out.2 0 (by simp)).1
    have yS1 : w0.cell? ⟨s, 1, none⟩ = some (.int .i64 d) := (S4.out.2 1 (by simp)).1
    have yS2 : w0.cell? ⟨s, 2, none⟩ = some (.int .i64 V.c) := (S4.out.2 2 (by simp)).1
    have yS3 : w0.cell? ⟨s, 3, none⟩ = some (.slice aW V.nW kW) := (S4.out.2 3 (by simp)).1
    have yS4 : w0.cell? ⟨s, 4, none⟩ = some (.int .i64 V.g) := (S4.out.2 4 (by simp)).1
    have yS5 : w0.cell? ⟨s, 5, none⟩ = some (.slice (some ⟨gO, 0, none⟩) V.nO kO) := (S4.out.2 5 (by simp)).1
    have yS6 : w0.cell? ⟨s, 6, none⟩ = some (.slice aX V.nX kX) := (S4.out.2 6 (by simp)).1
    have yS7 : w0.cell? ⟨s, 7, none⟩ = some (.slice aI V.nI kI) := (S4.out.2 7 (by simp)).1
    have yS8 : w0.cell? ⟨s, 8, none⟩ = some (.map (some b)) := (S4.out.2 8 (by simp)).1
    have hlS : s < w0.heap.size := S4.out.1
    go_wp2
    go_region
    go_wp2
    go_ret
    exact ⟨by simp, by repeat (first | exact B1.out | apply Below.drew | apply bdrewN)⟩
  have hk1 : (pk == 2) = false := by simp [hk]
  have hv : roomB c d V M pk pi pa pc = (!(M pi).isSome && (cellF c d pa == V.c)) := by simp [roomB, hk]
  rw [hv]
  clear hv
  obtain ⟨Y, eY⟩ : ∃ Y, Y = ((M pi).getD fun _ => 0) := ⟨_, rfl⟩
  obtain ⟨t, et⟩ : ∃ t, t = (M pi).isSome := ⟨_, rfl⟩
  rw [← et]
  have EY : Hid (Y = ((M pi).getD fun _ => 0)) := eY
  have ET : Hid (t = (M pi).isSome) := et
  clear eY et
  go_enter Tryz.func57, Tryz.ntmps57
  go_upto_region 1 with fail
  obtain ⟨w0, e0⟩ : ∃ w0, w0 = w.alloc (.cells #[.int .i64 pn, .int .i64 pk, .int .i64 pi, .int .i64 pa, .int .i64 pm, .int .i64 ps, .int .i64 pl, .int .i64 pc] 45) := ⟨_, rfl⟩
  have hb0 : Below w.heap.size w w0 := by rw [e0]; exact (Below.refl _ _).alloc (Nat.le_refl _) _
  have X0 : Bk w0 w.heap.size [.int .i64 pn, .int .i64 pk, .int .i64 pi, .int .i64 pa, .int .i64 pm, .int .i64 ps, .int .i64 pl, .int .i64 pc] := by rw [e0]; exact bk_new w 45 [.int .i64 pn, .int .i64 pk, .int .i64 pi, .int .i64 pa, .int .i64 pm, .int .i64 ps, .int .i64 pl, .int .i64 pc]
  rw [← e0]
  clear e0
  have z0 := X0.1
  have B5 : Hid (Below w.heap.size w w0) := hb0
  have P6 : Hid (Bk w0 w.heap.size [.int .i64 pn, .int .i64 pk, .int .i64 pi, .int .i64 pa, .int .i64 pm, .int .i64 ps, .int .i64 pl, .int .i64 pc]) := X0
  have M7 : Hid (Wm w0 b n M) := HM.out.below hbl hb0
  have S8 : Hid (Bk w0 s [.int .i64 c, .int .i64 d, .int .i64 V.c, .slice aW V.nW kW, .int .i64 V.g, .slice (some ⟨gO, 0, none⟩) V.nO kO, .slice aX V.nX kX, .slice aI V.nI kI, .map (some b)]) := ⟨by omega, fun i hi => by rw [(sm_below hb0 l4 i).1, (sm_below hb0 l4 i).2]; exact HN.out i (by simpa using hi)⟩
  clear X0 hb0 HM HN
  have yP0 : w0.cell? ⟨w.heap.size, 0, none⟩ = some (.int .i64 pn) := (P6.out.2 0 (by simp)).1
  have yP1 : w0.cell? ⟨w.heap.size, 1, none⟩ = some (.int .i64 pk) := (P6.out.2 1 (by simp)).1
  have yP2 : w0.cell? ⟨w.heap.size, 2, none⟩ = some (.int .i64 pi) := (P6.out.2 2 (by simp)).1
  have yP3 : w0.cell? ⟨w.heap.size, 3, none⟩ = some (.int .i64 pa) := (P6.out.2 3 (by simp)).1
  have yP4 : w0.cell? ⟨w.heap.size, 4, none⟩ = some (.int .i64 pm) := (P6.out.2 4 (by simp)).1
  have yP5 : w0.cell? ⟨w.heap.size, 5, none⟩ = some (.int .i64 ps) := (P6.out.2 5 (by simp)).1
  have yP6 : w0.cell? ⟨w.heap.size, 6, none⟩ = some (.int .i64 pl) := (P6.out.2 6 (by simp)).1
  have yP7 : w0.cell? ⟨w.heap.size, 7, none⟩ = some (.int .i64 pc) := (P6.out.2 7 (by simp)).1
  have hlP : w.heap.size < w0.heap.size := P6.out.1
  have yS0 : w0.cell? ⟨s, 0, none⟩ = some (.int .i64 c) := (S8.out.2 0 (by simp)).1
  have yS1 : w0.cell? ⟨s, 1, none⟩ = some (.int .i64 d) := (S8.out.2 1 (by simp)).1
  have yS2 : w0.cell? ⟨s, 2, none⟩ = some (.int .i64 V.c) := (S8.out.2 2 (by simp)).1
  have yS3 : w0.cell? ⟨s, 3, none⟩ = some (.slice aW V.nW kW) := (S8.out.2 3 (by simp)).1
  have yS4 : w0.cell? ⟨s, 4, none⟩ = some (.int .i64 V.g) := (S8.out.2 4 (by simp)).1
  have yS5 : w0.cell? ⟨s, 5, none⟩ = some (.slice (some ⟨gO, 0, none⟩) V.nO kO) := (S8.out.2 5 (by simp)).1
  have yS6 : w0.cell? ⟨s, 6, none⟩ = some (.slice aX V.nX kX) := (S8.out.2 6 (by simp)).1
  have yS7 : w0.cell? ⟨s, 7, none⟩ = some (.slice aI V.nI kI) := (S8.out.2 7 (by simp)).1
  have yS8 : w0.cell? ⟨s, 8, none⟩ = some (.map (some b)) := (S8.out.2 8 (by simp)).1
  have hlS : s < w0.heap.size := S8.out.1
  have HL : Hid (∀ wx, Below w0.heap.size w0 wx → (Instr.lookup 90 (.map (some b)) (.int .i64 pi) true).run Tryz.prog wx = .ok (.tuple #[.agg #[.int .i64 (Y 0), .int .i64 (Y 1), .int .i64 (Y 2), .int .i64 (Y 3), .int .i64 (Y 4)], .bool t]) wx) := fun wx hx => by
    rw [(M7.out.below (by omega) hx).look hwf, ← EY.out, ← ET.out]; rfl
  clear EY ET
  go_upto_region 3 with fail
  go_cut [5, 6] (fun p q wx => ∃ g, .pointer (some ⟨g, 0, none⟩) = p ∧ .bool t = q ∧ Below w0.heap.size w0 wx)
  case first =>
    refine wp_region_held_drew (S := fun w' => Below (w0.heap.size) w0 w') (by kernel_rfl) ((Below.refl _ _).drew) ?_
    intro hHeld
    obtain ⟨X0, hX0⟩ : ∃ X, X = w0.drew := ⟨_, rfl⟩
    have hz0 : w0.heap.size ≤ X0.heap.size := by rw [hX0]; exact Nat.le_refl _
    rw [← hX0] at hHeld ⊢
    clear hX0
    refine wpAnyH_take (i := 0) (v := .pointer (some ⟨s, 0, none⟩)) rfl (by kernel_rfl) (by kernel_rfl) (by kernel_rfl) (fun _ _ _ h => h) (Or.inl ⟨by rfl, ?_⟩) (by assumption) ?_
    · intro wx hSw; obtain ⟨hcS, hfS⟩ := bcellN hSw; go_simp
    try simp only [Act.put, List.setIfInBounds_toArray, List.set_cons_zero, List.set_cons_succ, List.getElem_toArray, List.getElem_cons_zero]
    refine wpAnyH_take (i := 4) (v := .pointer (some ⟨w.heap.size, 2, none⟩)) rfl (by kernel_rfl) (by kernel_rfl) (by kernel_rfl) (fun _ _ _ h => h) (Or.inl ⟨by rfl, ?_⟩) (by assumption) ?_
    · intro wx hSw; obtain ⟨hcS, hfS⟩ := bcellN hSw; go_simp
    try simp only [Act.put, List.setIfInBounds_toArray, List.set_cons_zero, List.set_cons_succ, List.getElem_toArray, List.getElem_cons_zero, List.getElem_cons_succ]
    refine wpAnyH_take (i := 1) (v := .pointer (some ⟨s, 0, none⟩)) rfl (by kernel_rfl) (by kernel_rfl) (by kernel_rfl) (fun _ _ _ h => h) (Or.inl ⟨by rfl, ?_⟩) (by assumption) ?_
    · intro wx hSw; obtain ⟨hcS, hfS⟩ := bcellN hSw; go_simp
    try simp only [Act.put, List.setIfInBounds_toArray, List.set_cons_zero, List.set_cons_succ, List.getElem_toArray, List.getElem_cons_zero, List.getElem_cons_succ]
    refine wpAnyH_take (i := 5) (v := .pointer (some ⟨w.heap.size, 2, none⟩)) rfl (by kernel_rfl) (by kernel_rfl) (by kernel_rfl) (fun _ _ _ h => h) (Or.inl ⟨by rfl, ?_⟩) (by assumption) ?_
    · intro wx hSw; obtain ⟨hcS, hfS⟩ := bcellN hSw; go_simp
    try simp only [Act.put, List.setIfInBounds_toArray, List.set_cons_zero, List.set_cons_succ, List.getElem_toArray, List.getElem_cons_zero, List.getElem_cons_succ]
    refine wpAnyH_take (i := 2) (v := .pointer (some ⟨s, 8, none⟩)) rfl (by kernel_rfl) (by kernel_rfl) (by kernel_rfl) (fun _ _ _ h => h) (Or.inl ⟨by rfl, ?_⟩) (by assumption) ?_
    · intro wx hSw; obtain ⟨hcS, hfS⟩ := bcellN hSw; go_simp
    try simp only [Act.put, List.setIfInBounds_toArray, List.set_cons_zero, List.set_cons_succ, List.getElem_toArray, List.getElem_cons_zero, List.getElem_cons_succ]
    refine wpAnyH_take (i := 6) (v := .int .i64 pi) rfl (by kernel_rfl) (by kernel_rfl) (by kernel_rfl) (fun _ _ _ h => h) (Or.inl ⟨by rfl, ?_⟩) (by assumption) ?_
    · intro wx hSw; obtain ⟨hcS, hfS⟩ := bcellN hSw; go_simp
    try simp only [Act.put, List.setIfInBounds_toArray, List.set_cons_zero, List.set_cons_succ, List.getElem_toArray, List.getElem_cons_zero, List.getElem_cons_succ]
    refine wpAnyH_take (i := 3) (v := .map (some b)) rfl (by kernel_rfl) (by kernel_rfl) (by kernel_rfl) (fun _ _ _ h => h) (Or.inl ⟨by rfl, ?_⟩) (by assumption) ?_
    · intro wx hSw; obtain ⟨hcS, hfS⟩ := bcellN hSw; go_simp
    try simp only [Act.put, List.setIfInBounds_toArray, List.set_cons_zero, List.set_cons_succ, List.getElem_toArray, List.getElem_cons_zero, List.getElem_cons_succ]
    refine wpAnyH_take (i := 7) (v := .tuple #[.agg #[.int .i64 (Y 0), .int .i64 (Y 1), .int .i64 (Y 2), .int .i64 (Y 3), .int .i64 (Y 4)], .bool t]) rfl (by kernel_rfl) (by kernel_rfl) (by kernel_rfl) (fun _ _ _ h => h) (Or.inl ⟨by rfl, ?_⟩) (by assumption) ?_
    · intro wx hSw; obtain ⟨hcS, hfS⟩ := bcellN hSw; have hl := HL.out wx hSw; go_simp
    try simp only [Act.put, List.setIfInBounds_toArray, List.set_cons_zero, List.set_cons_succ, List.getElem_toArray, List.getElem_cons_zero, List.getElem_cons_succ]
    refine wpAnyH_take (i := 8) (v := .tuple #[.agg #[.int .i64 (Y 0), .int .i64 (Y 1), .int .i64 (Y 2), .int .i64 (Y 3), .int .i64 (Y 4)], .bool t]) rfl (by kernel_rfl) (by kernel_rfl) (by kernel_rfl) (fun _ _ _ h => h) (Or.inl ⟨by rfl, ?_⟩) (by assumption) ?_
    · intro wx hSw; obtain ⟨hcS, hfS⟩ := bcellN hSw; go_simp
    try simp only [Act.put, List.setIfInBounds_toArray, List.set_cons_zero, List.set_cons_succ, List.getElem_toArray, List.getElem_cons_zero, List.getElem_cons_succ]
    refine wpAnyH_take (i := 9) (v := .agg #[.int .i64 (Y 0), .int .i64 (Y 1), .int .i64 (Y 2), .int .i64 (Y 3), .int .i64 (Y 4)]) rfl (by kernel_rfl) (by kernel_rfl) (by kernel_rfl) (fun _ _ _ h => h) (Or.inl ⟨by rfl, ?_⟩) (by assumption) ?_
    · intro wx hSw; obtain ⟨hcS, hfS⟩ := bcellN hSw; go_simp
    try simp only [Act.put, List.setIfInBounds_toArray, List.set_cons_zero, List.set_cons_succ, List.getElem_toArray, List.getElem_cons_zero, List.getElem_cons_succ]
    refine wpAnyH_take (i := 10) (v := .bool t) rfl (by kernel_rfl) (by kernel_rfl) (by kernel_rfl) (fun _ _ _ h => h) (Or.inl ⟨by rfl, ?_⟩) (by assumption) ?_
    · intro wx hSw; obtain ⟨hcS, hfS⟩ := bcellN hSw; go_simp
    try simp only [Act.put, List.setIfInBounds_toArray, List.set_cons_zero, List.set_cons_succ, List.getElem_toArray, List.getElem_cons_zero, List.getElem_cons_succ]
    refine wpAnyH_ready (rs := [11]) (by kernel_rfl) (by simp) ?_
    refine (AllReadyH.cons rfl (fun K hK => ?_) AllReadyH.nil)
    go_simp
    obtain ⟨Xgk, eA⟩ : ∃ X, X = X0.alloc (.cells #[.int .i64 0, .int .i64 0, .int .i64 0, .int .i64 0, .int .i64 0] 43) := ⟨_, rfl⟩
    rw [← eA]
    have hbA : Below X0.heap.size X0 Xgk := by rw [eA]; exact (Below.refl _ _).alloc (Nat.le_refl _) _
    have hZgk : Bk Xgk X0.heap.size [.int .i64 0, .int .i64 0, .int .i64 0, .int .i64 0, .int .i64 0] := by rw [eA]; exact bk_new X0 43 [.int .i64 0, .int .i64 0, .int .i64 0, .int .i64 0, .int .i64 0]
    have hzAgk1 : Xgk.heap.size ≤ X0.heap.size + 1 := by rw [eA]; simp
    have hzAgk2 : X0.heap.size + 1 ≤ Xgk.heap.size := by rw [eA]; simp
    clear eA
    have hsz_Xgk := hbA.size
    refine hK.out _ _ (bthenN hHeld (by omega) hbA) (fun hNew => ?_)
    clear hK K hHeld
    have hHeld := hNew
    clear hNew
    try simp only [Act.put, List.setIfInBounds_toArray, List.set_cons_zero, List.set_cons_succ, List.getElem_toArray, List.getElem_cons_zero, List.getElem_cons_succ]
    clear hbA
    obtain ⟨gk, egk⟩ : ∃ g, g = X0.heap.size := ⟨_, rfl⟩
    rw [← egk] at hZgk ⊢
    have egk1 : gk ≤ X0.heap.size := by omega
    have egk2 : X0.heap.size ≤ gk := by omega
    clear egk
    refine wpAnyH_ready (rs := [12]) (by kernel_rfl) (by simp) ?_
    refine (AllReadyH.cons rfl (fun K hK => ?_) AllReadyH.nil)
    have r0 := (hZgk.2 0 (by simp)).1
    have r1 := (hZgk.2 1 (by simp)).1
    have r2 := (hZgk.2 2 (by simp)).1
    have r3 := (hZgk.2 3 (by simp)).1
    have r4 := (hZgk.2 4 (by simp)).1
    have f0 := (hZgk.2 0 (by simp)).2
    have f1 := (hZgk.2 1 (by simp)).2
    have f2 := (hZgk.2 2 (by simp)).2
    have f3 := (hZgk.2 3 (by simp)).2
    have f4 := (hZgk.2 4 (by simp)).2
    simp only [List.getD, List.getElem?_cons_zero, List.getElem?_cons_succ, Option.getD_some] at r0 r1 r2 r3 r4
    have lZgk := hZgk.1
    have hkgk : w0.heap.size ≤ gk := by omega
    go_simp
    obtain ⟨XSgk, eS⟩ : ∃ X, X = (((((Xgk.setCell ⟨gk, 0, none⟩ (.int .i64 (Y 0))).setCell ⟨gk, 1, none⟩ (.int .i64 (Y 1))).setCell ⟨gk, 2, none⟩ (.int .i64 (Y 2))).setCell ⟨gk, 3, none⟩ (.int .i64 (Y 3))).setCell ⟨gk, 4, none⟩ (.int .i64 (Y 4))) := ⟨_, rfl⟩
    rw [← eS]
    have hPgk : Bk XSgk gk [.int .i64 (Y 0), .int .i64 (Y 1), .int .i64 (Y 2), .int .i64 (Y 3), .int .i64 (Y 4)] := by rw [eS]; exact bk_put (l := [.int .i64 (Y 0), .int .i64 (Y 1), .int .i64 (Y 2), .int .i64 (Y 3), .int .i64 (Y 4)]) hZgk rfl
    have hzgk1 : XSgk.heap.size ≤ Xgk.heap.size := by rw [eS]; exact Nat.le_of_eq (size_put gk [.int .i64 (Y 0), .int .i64 (Y 1), .int .i64 (Y 2), .int .i64 (Y 3), .int .i64 (Y 4)] 0 Xgk)
    have hzgk2 : Xgk.heap.size ≤ XSgk.heap.size := by rw [eS]; exact Nat.le_of_eq (size_put gk [.int .i64 (Y 0), .int .i64 (Y 1), .int .i64 (Y 2), .int .i64 (Y 3), .int .i64 (Y 4)] 0 Xgk).symm
    have hmgk : ∀ b, ¬ b = gk → Sm Xgk XSgk b := by rw [eS]; exact fun b hb => sm_put hb [.int .i64 (Y 0), .int .i64 (Y 1), .int .i64 (Y 2), .int .i64 (Y 3), .int .i64 (Y 4)] 0 Xgk
    have hBgk : Below (w0.heap.size) w0 XSgk := by rw [eS]; exact below_put hkgk [.int .i64 (Y 0), .int .i64 (Y 1), .int .i64 (Y 2), .int .i64 (Y 3), .int .i64 (Y 4)] 0 hHeld
    clear eS r0 f0 r1 f1 r2 f2 r3 f3 r4 f4
    refine hK.out _ _ hBgk (fun hNew => ?_)
    clear hK K hHeld
    have hHeld := hNew
    clear hNew
    try simp only [Act.put, List.setIfInBounds_toArray, List.set_cons_zero, List.set_cons_succ, List.getElem_toArray, List.getElem_cons_zero, List.getElem_cons_succ]
    refine wpAnyH_take (i := 13) (v := .bool t) rfl (by kernel_rfl) (by kernel_rfl) (by kernel_rfl) (fun _ _ _ h => h) (Or.inl ⟨by rfl, ?_⟩) (by assumption) ?_
    · intro wx hSw; obtain ⟨hcS, hfS⟩ := bcellN hSw; go_simp
    try simp only [Act.put, List.setIfInBounds_toArray, List.set_cons_zero, List.set_cons_succ, List.getElem_toArray, List.getElem_cons_zero, List.getElem_cons_succ]
    refine wpAnyH_done (by kernel_rfl) ?_ _
    go_wp2
    go_meet
    case rel => exact ⟨gk, rfl, rfl, hHeld⟩
  case rest =>
    obtain ⟨w1, hw1⟩ : ∃ wq, wq = wc := ⟨_, rfl⟩
    subst hw1
    obtain ⟨gk, rfl, rfl, hb1⟩ := hcut
    clear HL
    clear yP0 yP1 yP2 yP3 yP4 yP5 yP6 yP7 yS0 yS1 yS2 yS3 yS4 yS5 yS6 yS7 yS8 hlP hlS
    have y_w1 : w0.heap.size ≤ w1.heap.size := hb1.size
    have B9 : Hid (Below w.heap.size w w1) := bthen B5.out hb1
    have P9 : Hid (Bk w1 w.heap.size [.int .i64 pn, .int .i64 pk, .int .i64 pi, .int .i64 pa, .int .i64 pm, .int .i64 ps, .int .i64 pl, .int .i64 pc]) := P6.out.below hb1
    have M9 : Hid (Wm w1 b n M) := M7.out.below (by omega) hb1
    have S9 : Hid (Bk w1 s [.int .i64 c, .int .i64 d, .int .i64 V.c, .slice aW V.nW kW, .int .i64 V.g, .slice (some ⟨gO, 0, none⟩) V.nO kO, .slice aX V.nX kX, .slice aI V.nI kI, .map (some b)]) := S8.out.below hb1
    clear B5 P6 M7 S8
    clear hb1
    have yP0 : w1.cell? ⟨w.heap.size, 0, none⟩ = some (.int .i64 pn) := (P9.out.2 0 (by simp)).1
    have yP1 : w1.cell? ⟨w.heap.size, 1, none⟩ = some (.int .i64 pk) := (P9.out.2 1 (by simp)).1
    have yP2 : w1.cell? ⟨w.heap.size, 2, none⟩ = some (.int .i64 pi) := (P9.out.2 2 (by simp)).1
    have yP3 : w1.cell? ⟨w.heap.size, 3, none⟩ = some (.int .i64 pa) := (P9.out.2 3 (by simp)).1
    have yP4 : w1.cell? ⟨w.heap.size, 4, none⟩ = some (.int .i64 pm) := (P9.out.2 4 (by simp)).1
    have yP5 : w1.cell? ⟨w.heap.size, 5, none⟩ = some (.int .i64 ps) := (P9.out.2 5 (by simp)).1
    have yP6 : w1.cell? ⟨w.heap.size, 6, none⟩ = some (.int .i64 pl) := (P9.out.2 6 (by simp)).1
    have yP7 : w1.cell? ⟨w.heap.size, 7, none⟩ = some (.int .i64 pc) := (P9.out.2 7 (by simp)).1
    have hlP : w.heap.size < w1.heap.size := P9.out.1
    have yS0 : w1.cell? ⟨s, 0, none⟩ = some (.int .i64 c) := (S9.out.2 0 (by simp)).1
    have yS1 : w1.cell? ⟨s, 1, none⟩ = some (.int .i64 d) := (S9.out.2 1 (by simp)).1
    have yS2 : w1.cell? ⟨s, 2, none⟩ = some (.int .i64 V.c) := (S9.out.2 2 (by simp)).1
    have yS3 : w1.cell? ⟨s, 3, none⟩ = some (.slice aW V.nW kW) := (S9.out.2 3 (by simp)).1
    have yS4 : w1.cell? ⟨s, 4, none⟩ = some (.int .i64 V.g) := (S9.out.2 4 (by simp)).1
    have yS5 : w1.cell? ⟨s, 5, none⟩ = some (.slice (some ⟨gO, 0, none⟩) V.nO kO) := (S9.out.2 5 (by simp)).1
    have yS6 : w1.cell? ⟨s, 6, none⟩ = some (.slice aX V.nX kX) := (S9.out.2 6 (by simp)).1
    have yS7 : w1.cell? ⟨s, 7, none⟩ = some (.slice aI V.nI kI) := (S9.out.2 7 (by simp)).1
    have yS8 : w1.cell? ⟨s, 8, none⟩ = some (.map (some b)) := (S9.out.2 8 (by simp)).1
    have hlS : s < w1.heap.size := S9.out.1
    cases t
    · go_upto_region 4 with fail
      refine wp_region_held_drew (S := fun w' => Below (w1.heap.size) w1 w') (by kernel_rfl) ((Below.refl _ _).drew) ?_
      intro hHeld
      obtain ⟨X0, hX0⟩ : ∃ X, X = w1.drew := ⟨_, rfl⟩
      have hz0 : w1.heap.size ≤ X0.heap.size := by rw [hX0]; exact Nat.le_refl _
      rw [← hX0] at hHeld ⊢
      clear hX0
      refine wpAnyH_take (i := 0) (v := .bool false) rfl (by kernel_rfl) (by kernel_rfl) (by kernel_rfl) (fun _ _ _ h => h) (Or.inl ⟨by rfl, ?_⟩) (by assumption) ?_
      · intro wx hSw; obtain ⟨hcS, hfS⟩ := bcellN hSw; go_simp
      try simp only [Act.put, List.setIfInBounds_toArray, List.set_cons_zero, List.set_cons_succ, List.getElem_toArray, List.getElem_cons_zero]
      refine wpAnyH_take (i := 1) (v := .bool true) rfl (by kernel_rfl) (by kernel_rfl) (by kernel_rfl) (fun _ _ _ h => h) (Or.inl ⟨by rfl, ?_⟩) (by assumption) ?_
      · intro wx hSw; obtain ⟨hcS, hfS⟩ := bcellN hSw; go_simp
      try simp only [Act.put, List.setIfInBounds_toArray, List.set_cons_zero, List.set_cons_succ, List.getElem_toArray, List.getElem_cons_zero, List.getElem_cons_succ]
      refine wpAnyH_take (i := 2) (v := .bool true) rfl (by kernel_rfl) (by kernel_rfl) (by kernel_rfl) (fun _ _ _ h => h) (Or.inl ⟨by rfl, ?_⟩) (by assumption) ?_
      · intro wx hSw; obtain ⟨hcS, hfS⟩ := bcellN hSw; go_simp
      try simp only [Act.put, List.setIfInBounds_toArray, List.set_cons_zero, List.set_cons_succ, List.getElem_toArray, List.getElem_cons_zero, List.getElem_cons_succ]
      refine wpAnyH_take (i := 3) (v := .pointer (some ⟨s, 0, none⟩)) rfl (by kernel_rfl) (by kernel_rfl) (by kernel_rfl) (fun _ _ _ h => h) (Or.inl ⟨by rfl, ?_⟩) (by assumption) ?_
      · intro wx hSw; obtain ⟨hcS, hfS⟩ := bcellN hSw; go_simp
      try simp only [Act.put, List.setIfInBounds_toArray, List.set_cons_zero, List.set_cons_succ, List.getElem_toArray, List.getElem_cons_zero, List.getElem_cons_succ]
      refine wpAnyH_take (i := 7) (v := .pointer (some ⟨w.heap.size, 2, none⟩)) rfl (by kernel_rfl) (by kernel_rfl) (by kernel_rfl) (fun _ _ _ h => h) (Or.inl ⟨by rfl, ?_⟩) (by assumption) ?_
      · intro wx hSw; obtain ⟨hcS, hfS⟩ := bcellN hSw; go_simp
      try simp only [Act.put, List.setIfInBounds_toArray, List.set_cons_zero, List.set_cons_succ, List.getElem_toArray, List.getElem_cons_zero, List.getElem_cons_succ]
      refine wpAnyH_take (i := 11) (v := .pointer (some ⟨s, 0, none⟩)) rfl (by kernel_rfl) (by kernel_rfl) (by kernel_rfl) (fun _ _ _ h => h) (Or.inl ⟨by rfl, ?_⟩) (by assumption) ?_
      · intro wx hSw; obtain ⟨hcS, hfS⟩ := bcellN hSw; go_simp
      try simp only [Act.put, List.setIfInBounds_toArray, List.set_cons_zero, List.set_cons_succ, List.getElem_toArray, List.getElem_cons_zero, List.getElem_cons_succ]
      refine wpAnyH_take (i := 4) (v := .pointer (some ⟨s, 0, none⟩)) rfl (by kernel_rfl) (by kernel_rfl) (by kernel_rfl) (fun _ _ _ h => h) (Or.inl ⟨by rfl, ?_⟩) (by assumption) ?_
      · intro wx hSw; obtain ⟨hcS, hfS⟩ := bcellN hSw; go_simp
      try simp only [Act.put, List.setIfInBounds_toArray, List.set_cons_zero, List.set_cons_succ, List.getElem_toArray, List.getElem_cons_zero, List.getElem_cons_succ]
      refine wpAnyH_take (i := 8) (v := .pointer (some ⟨w.heap.size, 3, none⟩)) rfl (by kernel_rfl) (by kernel_rfl) (by kernel_rfl) (fun _ _ _ h => h) (Or.inl ⟨by rfl, ?_⟩) (by assumption) ?_
      · intro wx hSw; obtain ⟨hcS, hfS⟩ := bcellN hSw; go_simp
      try simp only [Act.put, List.setIfInBounds_toArray, List.set_cons_zero, List.set_cons_succ, List.getElem_toArray, List.getElem_cons_zero, List.getElem_cons_succ]
      refine wpAnyH_take (i := 12) (v := .pointer (some ⟨s, 0, none⟩)) rfl (by kernel_rfl) (by kernel_rfl) (by kernel_rfl) (fun _ _ _ h => h) (Or.inl ⟨by rfl, ?_⟩) (by assumption) ?_
      · intro wx hSw; obtain ⟨hcS, hfS⟩ := bcellN hSw; go_simp
      try simp only [Act.put, List.setIfInBounds_toArray, List.set_cons_zero, List.set_cons_succ, List.getElem_toArray, List.getElem_cons_zero, List.getElem_cons_succ]
      refine wpAnyH_take (i := 5) (v := .pointer (some ⟨s, 0, none⟩)) rfl (by kernel_rfl) (by kernel_rfl) (by kernel_rfl) (fun _ _ _ h => h) (Or.inl ⟨by rfl, ?_⟩) (by assumption) ?_
      · intro wx hSw; obtain ⟨hcS, hfS⟩ := bcellN hSw; go_simp
      try simp only [Act.put, List.setIfInBounds_toArray, List.set_cons_zero, List.set_cons_succ, List.getElem_toArray, List.getElem_cons_zero, List.getElem_cons_succ]
      refine wpAnyH_take (i := 9) (v := .int .i64 pa) rfl (by kernel_rfl) (by kernel_rfl) (by kernel_rfl) (fun _ _ _ h => h) (Or.inl ⟨by rfl, ?_⟩) (by assumption) ?_
      · intro wx hSw; obtain ⟨hcS, hfS⟩ := bcellN hSw; go_simp
      try simp only [Act.put, List.setIfInBounds_toArray, List.set_cons_zero, List.set_cons_succ, List.getElem_toArray, List.getElem_cons_zero, List.getElem_cons_succ]
      refine wpAnyH_take (i := 13) (v := .pointer (some ⟨s, 2, none⟩)) rfl (by kernel_rfl) (by kernel_rfl) (by kernel_rfl) (fun _ _ _ h => h) (Or.inl ⟨by rfl, ?_⟩) (by assumption) ?_
      · intro wx hSw; obtain ⟨hcS, hfS⟩ := bcellN hSw; go_simp
      try simp only [Act.put, List.setIfInBounds_toArray, List.set_cons_zero, List.set_cons_succ, List.getElem_toArray, List.getElem_cons_zero, List.getElem_cons_succ]
      refine wpAnyH_take (i := 6) (v := .agg #[.int .i64 c, .int .i64 d]) rfl (by kernel_rfl) (by kernel_rfl) (by kernel_rfl) (fun _ _ _ h => h) (Or.inl ⟨by rfl, ?_⟩) (by assumption) ?_
      · intro wx hSw; obtain ⟨hcS, hfS⟩ := bcellN hSw; go_simp
      try simp only [Act.put, List.setIfInBounds_toArray, List.set_cons_zero, List.set_cons_succ, List.getElem_toArray, List.getElem_cons_zero, List.getElem_cons_succ]
      refine wpAnyH_take (i := 14) (v := .pointer (some ⟨s, 2, none⟩)) rfl (by kernel_rfl) (by kernel_rfl) (by kernel_rfl) (fun _ _ _ h => h) (Or.inl ⟨by rfl, ?_⟩) (by assumption) ?_
      · intro wx hSw; obtain ⟨hcS, hfS⟩ := bcellN hSw; go_simp
      try simp only [Act.put, List.setIfInBounds_toArray, List.set_cons_zero, List.set_cons_succ, List.getElem_toArray, List.getElem_cons_zero, List.getElem_cons_succ]
      refine wpAnyH_take (i := 15) (v := .int .i64 V.c) rfl (by kernel_rfl) (by kernel_rfl) (by kernel_rfl) (fun _ _ _ h => h) (Or.inl ⟨by rfl, ?_⟩) (by assumption) ?_
      · intro wx hSw; obtain ⟨hcS, hfS⟩ := bcellN hSw; go_simp
      try simp only [Act.put, List.setIfInBounds_toArray, List.set_cons_zero, List.set_cons_succ, List.getElem_toArray, List.getElem_cons_zero, List.getElem_cons_succ]
      refine wpAnyH_ready (rs := [10]) (by kernel_rfl) (by simp) ?_
      refine (AllReadyH.cons rfl (fun K hK => ?_) AllReadyH.nil)
      go_simp
      go_wp2_with fail
      refine (plcCell_impl c d pa _).mono ?_
      rintro e xc ⟨rfl, hxc⟩
      have hsz_xc := hxc.size
      refine hK.out _ _ (bthenN hHeld (by omega) hxc) (fun hNew => ?_)
      clear hK K hHeld
      have hHeld := hNew
      clear hNew
      try simp only [Act.put, List.setIfInBounds_toArray, List.set_cons_zero, List.set_cons_succ, List.getElem_toArray, List.getElem_cons_zero, List.getElem_cons_succ]
      refine wpAnyH_take (i := 16) (v := .bool (cellF c d pa == V.c)) rfl (by kernel_rfl) (by kernel_rfl) (by kernel_rfl) (fun _ _ _ h => h) (Or.inl ⟨by rfl, ?_⟩) (by assumption) ?_
      · intro wx hSw; obtain ⟨hcS, hfS⟩ := bcellN hSw; go_simp
      try simp only [Act.put, List.setIfInBounds_toArray, List.set_cons_zero, List.set_cons_succ, List.getElem_toArray, List.getElem_cons_zero, List.getElem_cons_succ]
      refine wpAnyH_take (i := 17) (v := .bool (cellF c d pa == V.c)) rfl (by kernel_rfl) (by kernel_rfl) (by kernel_rfl) (fun _ _ _ h => h) (Or.inl ⟨by rfl, ?_⟩) (by assumption) ?_
      · intro wx hSw; obtain ⟨hcS, hfS⟩ := bcellN hSw; go_simp
      try simp only [Act.put, List.setIfInBounds_toArray, List.set_cons_zero, List.set_cons_succ, List.getElem_toArray, List.getElem_cons_zero, List.getElem_cons_succ]
      refine wpAnyH_take (i := 18) (v := .bool (cellF c d pa == V.c)) rfl (by kernel_rfl) (by kernel_rfl) (by kernel_rfl) (fun _ _ _ h => h) (Or.inl ⟨by rfl, ?_⟩) (by assumption) ?_
      · intro wx hSw; obtain ⟨hcS, hfS⟩ := bcellN hSw; go_simp
      try simp only [Act.put, List.setIfInBounds_toArray, List.set_cons_zero, List.set_cons_succ, List.getElem_toArray, List.getElem_cons_zero, List.getElem_cons_succ]
      refine wpAnyH_done (by kernel_rfl) ?_ _
      go_wp2
      go_ret
      exact ⟨by simp, B9.out.trans (hHeld.mono (by have := B9.out.size; omega))⟩
    · go_upto_region 4 with fail
      refine wp_region_held_drew (S := fun w' => Below (w1.heap.size) w1 w') (by kernel_rfl) ((Below.refl _ _).drew) ?_
      intro hHeld
      obtain ⟨X0, hX0⟩ : ∃ X, X = w1.drew := ⟨_, rfl⟩
      have hz0 : w1.heap.size ≤ X0.heap.size := by rw [hX0]; exact Nat.le_refl _
      rw [← hX0] at hHeld ⊢
      clear hX0
      refine wpAnyH_take (i := 0) (v := .bool true) rfl (by kernel_rfl) (by kernel_rfl) (by kernel_rfl) (fun _ _ _ h => h) (Or.inl ⟨by rfl, ?_⟩) (by assumption) ?_
      · intro wx hSw; obtain ⟨hcS, hfS⟩ := bcellN hSw; go_simp
      try simp only [Act.put, List.setIfInBounds_toArray, List.set_cons_zero, List.set_cons_succ, List.getElem_toArray, List.getElem_cons_zero]
      refine wpAnyH_take (i := 1) (v := .bool false) rfl (by kernel_rfl) (by kernel_rfl) (by kernel_rfl) (fun _ _ _ h => h) (Or.inl ⟨by rfl, ?_⟩) (by assumption) ?_
      · intro wx hSw; obtain ⟨hcS, hfS⟩ := bcellN hSw; go_simp
      try simp only [Act.put, List.setIfInBounds_toArray, List.set_cons_zero, List.set_cons_succ, List.getElem_toArray, List.getElem_cons_zero, List.getElem_cons_succ]
      refine wpAnyH_take (i := 2) (v := .bool false) rfl (by kernel_rfl) (by kernel_rfl) (by kernel_rfl) (fun _ _ _ h => h) (Or.inl ⟨by rfl, ?_⟩) (by assumption) ?_
      · intro wx hSw; obtain ⟨hcS, hfS⟩ := bcellN hSw; go_simp
      try simp only [Act.put, List.setIfInBounds_toArray, List.set_cons_zero, List.set_cons_succ, List.getElem_toArray, List.getElem_cons_zero, List.getElem_cons_succ]
      refine wpAnyH_take (i := 3) (v := undef) rfl (by kernel_rfl) (by kernel_rfl) (by kernel_rfl) (fun _ _ _ h => h) (Or.inr ⟨by rfl, rfl⟩) (by assumption) ?_
      try simp only [Act.put, List.setIfInBounds_toArray, List.set_cons_zero, List.set_cons_succ, List.getElem_toArray, List.getElem_cons_zero, List.getElem_cons_succ]
      refine wpAnyH_take (i := 4) (v := undef) rfl (by kernel_rfl) (by kernel_rfl) (by kernel_rfl) (fun _ _ _ h => h) (Or.inr ⟨by rfl, rfl⟩) (by assumption) ?_
      try simp only [Act.put, List.setIfInBounds_toArray, List.set_cons_zero, List.set_cons_succ, List.getElem_toArray, List.getElem_cons_zero, List.getElem_cons_succ]
      refine wpAnyH_take (i := 5) (v := undef) rfl (by kernel_rfl) (by kernel_rfl) (by kernel_rfl) (fun _ _ _ h => h) (Or.inr ⟨by rfl, rfl⟩) (by assumption) ?_
      try simp only [Act.put, List.setIfInBounds_toArray, List.set_cons_zero, List.set_cons_succ, List.getElem_toArray, List.getElem_cons_zero, List.getElem_cons_succ]
      refine wpAnyH_take (i := 6) (v := undef) rfl (by kernel_rfl) (by kernel_rfl) (by kernel_rfl) (fun _ _ _ h => h) (Or.inr ⟨by rfl, rfl⟩) (by assumption) ?_
      try simp only [Act.put, List.setIfInBounds_toArray, List.set_cons_zero, List.set_cons_succ, List.getElem_toArray, List.getElem_cons_zero, List.getElem_cons_succ]
      refine wpAnyH_take (i := 7) (v := undef) rfl (by kernel_rfl) (by kernel_rfl) (by kernel_rfl) (fun _ _ _ h => h) (Or.inr ⟨by rfl, rfl⟩) (by assumption) ?_
      try simp only [Act.put, List.setIfInBounds_toArray, List.set_cons_zero, List.set_cons_succ, List.getElem_toArray, List.getElem_cons_zero, List.getElem_cons_succ]
      refine wpAnyH_take (i := 8) (v := undef) rfl (by kernel_rfl) (by kernel_rfl) (by kernel_rfl) (fun _ _ _ h => h) (Or.inr ⟨by rfl, rfl⟩) (by assumption) ?_
      try simp only [Act.put, List.setIfInBounds_toArray, List.set_cons_zero, List.set_cons_succ, List.getElem_toArray, List.getElem_cons_zero, List.getElem_cons_succ]
      refine wpAnyH_take (i := 9) (v := undef) rfl (by kernel_rfl) (by kernel_rfl) (by kernel_rfl) (fun _ _ _ h => h) (Or.inr ⟨by rfl, rfl⟩) (by assumption) ?_
      try simp only [Act.put, List.setIfInBounds_toArray, List.set_cons_zero, List.set_cons_succ, List.getElem_toArray, List.getElem_cons_zero, List.getElem_cons_succ]
      refine wpAnyH_take (i := 10) (v := undef) rfl (by kernel_rfl) (by kernel_rfl) (by kernel_rfl) (fun _ _ _ h => h) (Or.inr ⟨by rfl, rfl⟩) (by assumption) ?_
      try simp only [Act.put, List.setIfInBounds_toArray, List.set_cons_zero, List.set_cons_succ, List.getElem_toArray, List.getElem_cons_zero, List.getElem_cons_succ]
      refine wpAnyH_take (i := 11) (v := undef) rfl (by kernel_rfl) (by kernel_rfl) (by kernel_rfl) (fun _ _ _ h => h) (Or.inr ⟨by rfl, rfl⟩) (by assumption) ?_
      try simp only [Act.put, List.setIfInBounds_toArray, List.set_cons_zero, List.set_cons_succ, List.getElem_toArray, List.getElem_cons_zero, List.getElem_cons_succ]
      refine wpAnyH_take (i := 12) (v := undef) rfl (by kernel_rfl) (by kernel_rfl) (by kernel_rfl) (fun _ _ _ h => h) (Or.inr ⟨by rfl, rfl⟩) (by assumption) ?_
      try simp only [Act.put, List.setIfInBounds_toArray, List.set_cons_zero, List.set_cons_succ, List.getElem_toArray, List.getElem_cons_zero, List.getElem_cons_succ]
      refine wpAnyH_take (i := 13) (v := undef) rfl (by kernel_rfl) (by kernel_rfl) (by kernel_rfl) (fun _ _ _ h => h) (Or.inr ⟨by rfl, rfl⟩) (by assumption) ?_
      try simp only [Act.put, List.setIfInBounds_toArray, List.set_cons_zero, List.set_cons_succ, List.getElem_toArray, List.getElem_cons_zero, List.getElem_cons_succ]
      refine wpAnyH_take (i := 14) (v := undef) rfl (by kernel_rfl) (by kernel_rfl) (by kernel_rfl) (fun _ _ _ h => h) (Or.inr ⟨by rfl, rfl⟩) (by assumption) ?_
      try simp only [Act.put, List.setIfInBounds_toArray, List.set_cons_zero, List.set_cons_succ, List.getElem_toArray, List.getElem_cons_zero, List.getElem_cons_succ]
      refine wpAnyH_take (i := 15) (v := undef) rfl (by kernel_rfl) (by kernel_rfl) (by kernel_rfl) (fun _ _ _ h => h) (Or.inr ⟨by rfl, rfl⟩) (by assumption) ?_
      try simp only [Act.put, List.setIfInBounds_toArray, List.set_cons_zero, List.set_cons_succ, List.getElem_toArray, List.getElem_cons_zero, List.getElem_cons_succ]
      refine wpAnyH_take (i := 16) (v := undef) rfl (by kernel_rfl) (by kernel_rfl) (by kernel_rfl) (fun _ _ _ h => h) (Or.inr ⟨by rfl, rfl⟩) (by assumption) ?_
      try simp only [Act.put, List.setIfInBounds_toArray, List.set_cons_zero, List.set_cons_succ, List.getElem_toArray, List.getElem_cons_zero, List.getElem_cons_succ]
      refine wpAnyH_take (i := 17) (v := .bool false) rfl (by kernel_rfl) (by kernel_rfl) (by kernel_rfl) (fun _ _ _ h => h) (Or.inl ⟨by rfl, ?_⟩) (by assumption) ?_
      · intro wx hSw; obtain ⟨hcS, hfS⟩ := bcellN hSw; go_simp
      try simp only [Act.put, List.setIfInBounds_toArray, List.set_cons_zero, List.set_cons_succ, List.getElem_toArray, List.getElem_cons_zero, List.getElem_cons_succ]
      refine wpAnyH_take (i := 18) (v := .bool false) rfl (by kernel_rfl) (by kernel_rfl) (by kernel_rfl) (fun _ _ _ h => h) (Or.inl ⟨by rfl, ?_⟩) (by assumption) ?_
      · intro wx hSw; obtain ⟨hcS, hfS⟩ := bcellN hSw; go_simp
      try simp only [Act.put, List.setIfInBounds_toArray, List.set_cons_zero, List.set_cons_succ, List.getElem_toArray, List.getElem_cons_zero, List.getElem_cons_succ]
      refine wpAnyH_done (by kernel_rfl) ?_ _
      go_wp2
      go_ret
      exact ⟨by simp, B9.out.trans (hHeld.mono (by have := B9.out.size; omega))⟩
end Go.Proofs.YtjmjffhommlbnaaGreat
