/- numberEvent of the program, where it says yes; conditions: those typed. -/
import Derived.Test.YtgioecjnghllhaaDoorDC
import Derived.Deep.DeepCutAuto
namespace Go.Proofs.YtgioecjnghllhaaDoor
open Go.RowKit Go.Deep
set_option linter.unusedVariables false
set_option maxRecDepth 20000
set_option maxHeartbeats 4000000 in
theorem nev_two_1 (a b : Int) (g cap : Nat) (hcap : 2 ≤ cap) (w : World) (h0 : w.cell? ⟨g, 0, none⟩ = some (.int .i64 a)) (h1 : w.cell? ⟨g, 1, none⟩ = some (.int .i64 b)) :
    Calls Tryd.prog 14 #[.int .i64 1, .slice (some ⟨g, 0, none⟩) 2 cap] w fun e w' => e = .returned (.tuple #[.agg #[.int .i64 (1), .int .i64 (a), .int .i64 (0), .int .i64 (b), .int .i64 (0)], .bool true]) ∧ Below w.heap.size w w' := by
  have hc' : (2 : Int) ≤ (cap : Int) := by omega
  have hc1' : ¬ (cap : Int) < 1 := by omega
  have hgl : g < w.heap.size := World.block_lt_of_cell? w _ h0
  have H0 := hid h0
  have H1 := hid h1
  clear h0 h1
  go_enter Tryd.func14, Tryd.ntmps14
  go_upto_region 2 with fail
  obtain ⟨w0, e0⟩ : ∃ w0, w0 = (w.alloc (.cells #[.int .i64 0, .int .i64 0, .int .i64 0, .int .i64 0, .int .i64 0] 23)).alloc (.cells #[.int .i64 1, .int .i64 0, .int .i64 0, .int .i64 0, .int .i64 0] 23) := ⟨_, rfl⟩
  have B1 : Hid (Below w.heap.size w w0) := by rw [e0]; exact ((Below.refl _ _).alloc (by simp) _).alloc (by simp) _
  have R2 : Hid (Bk w0 w.heap.size [.int .i64 0, .int .i64 0, .int .i64 0, .int .i64 0, .int .i64 0]) := by rw [e0]; exact (bk_new w 23 [.int .i64 0, .int .i64 0, .int .i64 0, .int .i64 0, .int .i64 0]).below ((Below.refl _ _).alloc (Nat.le_refl _) _)
  have E3 : Hid (Bk w0 (w.heap.size + 1) [.int .i64 1, .int .i64 0, .int .i64 0, .int .i64 0, .int .i64 0]) := by rw [e0]; have := bk_new (w.alloc (.cells #[.int .i64 0, .int .i64 0, .int .i64 0, .int .i64 0, .int .i64 0] 23)) 23 [.int .i64 1, .int .i64 0, .int .i64 0, .int .i64 0, .int .i64 0]; rwa [show (w.alloc (.cells #[.int .i64 0, .int .i64 0, .int .i64 0, .int .i64 0, .int .i64 0] 23)).heap.size = w.heap.size + 1 by simp] at this
  rw [← e0]
  clear e0
  have yR0 : w0.cell? ⟨w.heap.size, 0, none⟩ = some (.int .i64 0) := (R2.out.2 0 (by simp)).1
  have zR0 : w0.frozen? ⟨w.heap.size, 0, none⟩ = false := (R2.out.2 0 (by simp)).2
  have yR1 : w0.cell? ⟨w.heap.size, 1, none⟩ = some (.int .i64 0) := (R2.out.2 1 (by simp)).1
  have zR1 : w0.frozen? ⟨w.heap.size, 1, none⟩ = false := (R2.out.2 1 (by simp)).2
  have yR2 : w0.cell? ⟨w.heap.size, 2, none⟩ = some (.int .i64 0) := (R2.out.2 2 (by simp)).1
  have zR2 : w0.frozen? ⟨w.heap.size, 2, none⟩ = false := (R2.out.2 2 (by simp)).2
  have yR3 : w0.cell? ⟨w.heap.size, 3, none⟩ = some (.int .i64 0) := (R2.out.2 3 (by simp)).1
  have zR3 : w0.frozen? ⟨w.heap.size, 3, none⟩ = false := (R2.out.2 3 (by simp)).2
  have yR4 : w0.cell? ⟨w.heap.size, 4, none⟩ = some (.int .i64 0) := (R2.out.2 4 (by simp)).1
  have zR4 : w0.frozen? ⟨w.heap.size, 4, none⟩ = false := (R2.out.2 4 (by simp)).2
  have hlR : w.heap.size < w0.heap.size := R2.out.1
  have yE0 : w0.cell? ⟨(w.heap.size + 1), 0, none⟩ = some (.int .i64 1) := (E3.out.2 0 (by simp)).1
  have zE0 : w0.frozen? ⟨(w.heap.size + 1), 0, none⟩ = false := (E3.out.2 0 (by simp)).2
  have yE1 : w0.cell? ⟨(w.heap.size + 1), 1, none⟩ = some (.int .i64 0) := (E3.out.2 1 (by simp)).1
  have zE1 : w0.frozen? ⟨(w.heap.size + 1), 1, none⟩ = false := (E3.out.2 1 (by simp)).2
  have yE2 : w0.cell? ⟨(w.heap.size + 1), 2, none⟩ = some (.int .i64 0) := (E3.out.2 2 (by simp)).1
  have zE2 : w0.frozen? ⟨(w.heap.size + 1), 2, none⟩ = false := (E3.out.2 2 (by simp)).2
  have yE3 : w0.cell? ⟨(w.heap.size + 1), 3, none⟩ = some (.int .i64 0) := (E3.out.2 3 (by simp)).1
  have zE3 : w0.frozen? ⟨(w.heap.size + 1), 3, none⟩ = false := (E3.out.2 3 (by simp)).2
  have yE4 : w0.cell? ⟨(w.heap.size + 1), 4, none⟩ = some (.int .i64 0) := (E3.out.2 4 (by simp)).1
  have zE4 : w0.frozen? ⟨(w.heap.size + 1), 4, none⟩ = false := (E3.out.2 4 (by simp)).2
  have hlE : (w.heap.size + 1) < w0.heap.size := E3.out.1
  have hc0 : w0.cell? ⟨g, 0, none⟩ = some (.int .i64 a) := (B1.out.cell (p := ⟨g, 0, none⟩) hgl).trans H0.out
  have hc1 : w0.cell? ⟨g, 1, none⟩ = some (.int .i64 b) := (B1.out.cell (p := ⟨g, 1, none⟩) hgl).trans H1.out
  have ng1 : ¬ g = w.heap.size := by omega
  have ng2 : ¬ g = w.heap.size + 1 := by omega
  have ng3 : ¬ w.heap.size = g := by omega
  have ng4 : ¬ w.heap.size + 1 = g := by omega
  go_upto_region 13 with fail
  clear yR0 zR0 yR1 zR1 yR2 zR2 yR3 zR3 yR4 zR4 hlR yE0 zE0 yE1 zE1 yE2 zE2 yE3 zE3 yE4 zE4 hlE
  have hR := R2.out
  have hE := E3.out
  have hBB := B1.out
  refine wp_region_held_drew (S := fun w' => Below (w.heap.size) w0 w') (by kernel_rfl) ((Below.refl _ _).drew) ?_
  intro hHeld
  obtain ⟨X0, hX0⟩ : ∃ X, X = w0.drew := ⟨_, rfl⟩
  have hz0 : w0.heap.size ≤ X0.heap.size := by rw [hX0]; exact Nat.le_refl _
  rw [← hX0] at hHeld ⊢
  replace hR := hR.below (show Below w0.heap.size w0 X0 by rw [hX0]; exact (Below.refl _ _).drew)
  replace hE := hE.below (show Below w0.heap.size w0 X0 by rw [hX0]; exact (Below.refl _ _).drew)
  clear hX0
  refine wpAnyH_take (i := 0) (v := .slice (some ⟨g, 0, none⟩) 2 cap) rfl (by kernel_rfl) (by kernel_rfl) (by kernel_rfl) (fun _ _ _ h => h) (Or.inl ⟨by rfl, ?_⟩) (by assumption) ?_
  · intro wx hSw; obtain ⟨hcS, hfS⟩ := bcellN hSw; go_simp
  try simp only [Act.put, List.setIfInBounds_toArray, List.set_cons_zero, List.set_cons_succ, List.getElem_toArray, List.getElem_cons_zero]
  refine wpAnyH_take (i := 3) (v := .slice (some ⟨g, 0, none⟩) 2 cap) rfl (by kernel_rfl) (by kernel_rfl) (by kernel_rfl) (fun _ _ _ h => h) (Or.inl ⟨by rfl, ?_⟩) (by assumption) ?_
  · intro wx hSw; obtain ⟨hcS, hfS⟩ := bcellN hSw; go_simp
  try simp only [Act.put, List.setIfInBounds_toArray, List.set_cons_zero, List.set_cons_succ, List.getElem_toArray, List.getElem_cons_zero, List.getElem_cons_succ]
  refine wpAnyH_take (i := 1) (v := .pointer (some ⟨g, 1, none⟩)) rfl (by kernel_rfl) (by kernel_rfl) (by kernel_rfl) (fun _ _ _ h => h) (Or.inl ⟨by rfl, ?_⟩) (by assumption) ?_
  · intro wx hSw; obtain ⟨hcS, hfS⟩ := bcellN hSw; go_simp
  try simp only [Act.put, List.setIfInBounds_toArray, List.set_cons_zero, List.set_cons_succ, List.getElem_toArray, List.getElem_cons_zero, List.getElem_cons_succ]
  refine wpAnyH_take (i := 4) (v := .slice (some ⟨g, 0, none⟩) 1 cap) rfl (by kernel_rfl) (by kernel_rfl) (by kernel_rfl) (fun _ _ _ h => h) (Or.inl ⟨by rfl, ?_⟩) (by assumption) ?_
  · intro wx hSw; obtain ⟨hcS, hfS⟩ := bcellN hSw; go_simp
  try simp only [Act.put, List.setIfInBounds_toArray, List.set_cons_zero, List.set_cons_succ, List.getElem_toArray, List.getElem_cons_zero, List.getElem_cons_succ]
  refine wpAnyH_take (i := 2) (v := .int .i64 b) rfl (by kernel_rfl) (by kernel_rfl) (by kernel_rfl) (fun _ _ _ h => h) (Or.inl ⟨by rfl, ?_⟩) (by assumption) ?_
  · intro wx hSw; obtain ⟨hcS, hfS⟩ := bcellN hSw; rw [← hcS g 1 hgl] at hc1; go_simp
  try simp only [Act.put, List.setIfInBounds_toArray, List.set_cons_zero, List.set_cons_succ, List.getElem_toArray, List.getElem_cons_zero, List.getElem_cons_succ]
  refine wpAnyH_take (i := 5) (v := .pointer (some ⟨w.heap.size + 1, 3, none⟩)) rfl (by kernel_rfl) (by kernel_rfl) (by kernel_rfl) (fun _ _ _ h => h) (Or.inl ⟨by rfl, ?_⟩) (by assumption) ?_
  · intro wx hSw; obtain ⟨hcS, hfS⟩ := bcellN hSw; go_simp
  try simp only [Act.put, List.setIfInBounds_toArray, List.set_cons_zero, List.set_cons_succ, List.getElem_toArray, List.getElem_cons_zero, List.getElem_cons_succ]
  refine wpAnyH_ready (rs := [6]) (by kernel_rfl) (by simp) ?_
  refine (AllReadyH.cons rfl (fun K hK => ?_) AllReadyH.nil)
  have r3 := (hE.2 3 (by simp)).1
  have f3 := (hE.2 3 (by simp)).2
  simp only [List.getD, List.getElem?_cons_zero, List.getElem?_cons_succ, Option.getD_some] at r3
  go_simp
  obtain ⟨XS, eS⟩ : ∃ X, X = X0.setCell ⟨w.heap.size + 1, 3, none⟩ (.int .i64 b) := ⟨_, rfl⟩
  rw [← eS]
  have hB6 : Below w.heap.size w0 XS := by rw [eS]; exact Below.setCell hHeld (by simp) _
  have hE6 : Bk XS (w.heap.size + 1) [.int .i64 1, .int .i64 0, .int .i64 0, .int .i64 b, .int .i64 0] := by rw [eS]; exact Bk.set (j := 3) hE (by simp)
  have hR6 : Bk XS w.heap.size [.int .i64 0, .int .i64 0, .int .i64 0, .int .i64 0, .int .i64 0] := by rw [eS]; exact Bk.far hR (by omega)
  clear eS r3 f3
  refine hK.out _ _ hB6 (fun hNew => ?_)
  clear hK K hHeld
  have hHeld := hNew
  clear hNew
  try simp only [Act.put, List.setIfInBounds_toArray, List.set_cons_zero, List.set_cons_succ, List.getElem_toArray, List.getElem_cons_zero, List.getElem_cons_succ]
  refine wpAnyH_take (i := 7) (v := .slice (some ⟨g, 0, none⟩) 1 cap) rfl (by kernel_rfl) (by kernel_rfl) (by kernel_rfl) (fun _ _ _ h => h) (Or.inl ⟨by rfl, ?_⟩) (by assumption) ?_
  · intro wx hSw; obtain ⟨hcS, hfS⟩ := bcellN hSw; go_simp
  try simp only [Act.put, List.setIfInBounds_toArray, List.set_cons_zero, List.set_cons_succ, List.getElem_toArray, List.getElem_cons_zero, List.getElem_cons_succ]
  refine wpAnyH_done (by kernel_rfl) ?_ _
  have hBX := hBB.trans hHeld
  clear hR hE
  have HR6 := hid hR6
  have HE6 := hid hE6
  clear hR6 hE6
  have hd0 : XS.cell? ⟨g, 0, none⟩ = some (.int .i64 a) := (hHeld.cell (p := ⟨g, 0, none⟩) hgl).trans hc0
  have yR0 : XS.cell? ⟨w.heap.size, 0, none⟩ = some (.int .i64 0) := (HR6.out.2 0 (by simp)).1
  have zR0 : XS.frozen? ⟨w.heap.size, 0, none⟩ = false := (HR6.out.2 0 (by simp)).2
  have yR1 : XS.cell? ⟨w.heap.size, 1, none⟩ = some (.int .i64 0) := (HR6.out.2 1 (by simp)).1
  have zR1 : XS.frozen? ⟨w.heap.size, 1, none⟩ = false := (HR6.out.2 1 (by simp)).2
  have yR2 : XS.cell? ⟨w.heap.size, 2, none⟩ = some (.int .i64 0) := (HR6.out.2 2 (by simp)).1
  have zR2 : XS.frozen? ⟨w.heap.size, 2, none⟩ = false := (HR6.out.2 2 (by simp)).2
  have yR3 : XS.cell? ⟨w.heap.size, 3, none⟩ = some (.int .i64 0) := (HR6.out.2 3 (by simp)).1
  have zR3 : XS.frozen? ⟨w.heap.size, 3, none⟩ = false := (HR6.out.2 3 (by simp)).2
  have yR4 : XS.cell? ⟨w.heap.size, 4, none⟩ = some (.int .i64 0) := (HR6.out.2 4 (by simp)).1
  have zR4 : XS.frozen? ⟨w.heap.size, 4, none⟩ = false := (HR6.out.2 4 (by simp)).2
  have hlR : w.heap.size < XS.heap.size := HR6.out.1
  have yE0 : XS.cell? ⟨(w.heap.size + 1), 0, none⟩ = some (.int .i64 1) := (HE6.out.2 0 (by simp)).1
  have zE0 : XS.frozen? ⟨(w.heap.size + 1), 0, none⟩ = false := (HE6.out.2 0 (by simp)).2
  have yE1 : XS.cell? ⟨(w.heap.size + 1), 1, none⟩ = some (.int .i64 0) := (HE6.out.2 1 (by simp)).1
  have zE1 : XS.frozen? ⟨(w.heap.size + 1), 1, none⟩ = false := (HE6.out.2 1 (by simp)).2
  have yE2 : XS.cell? ⟨(w.heap.size + 1), 2, none⟩ = some (.int .i64 0) := (HE6.out.2 2 (by simp)).1
  have zE2 : XS.frozen? ⟨(w.heap.size + 1), 2, none⟩ = false := (HE6.out.2 2 (by simp)).2
  have yE3 : XS.cell? ⟨(w.heap.size + 1), 3, none⟩ = some (.int .i64 b) := (HE6.out.2 3 (by simp)).1
  have zE3 : XS.frozen? ⟨(w.heap.size + 1), 3, none⟩ = false := (HE6.out.2 3 (by simp)).2
  have yE4 : XS.cell? ⟨(w.heap.size + 1), 4, none⟩ = some (.int .i64 0) := (HE6.out.2 4 (by simp)).1
  have zE4 : XS.frozen? ⟨(w.heap.size + 1), 4, none⟩ = false := (HE6.out.2 4 (by simp)).2
  have hlE : (w.heap.size + 1) < XS.heap.size := HE6.out.1
  clear hc0 hc1
  go_wp2
  exact bodyPost_ret (v := .tuple #[.agg #[.int .i64 1, .int .i64 a, .int .i64 0, .int .i64 b, .int .i64 0], .bool true]) (by simp [results, Tryd.results14, go_sem, yR0, yR1, yR2, yR3, yR4]) rfl ⟨rfl, by repeat (first | exact hBX | refine Below.setCell ?_ (by first | simp | omega) _)⟩
set_option maxHeartbeats 4000000 in
theorem nev_two_7 (a b : Int) (g cap : Nat) (hcap : 2 ≤ cap) (w : World) (h0 : w.cell? ⟨g, 0, none⟩ = some (.int .i64 a)) (h1 : w.cell? ⟨g, 1, none⟩ = some (.int .i64 b)) :
    Calls Tryd.prog 14 #[.int .i64 7, .slice (some ⟨g, 0, none⟩) 2 cap] w fun e w' => e = .returned (.tuple #[.agg #[.int .i64 (7), .int .i64 (a), .int .i64 (0), .int .i64 (b), .int .i64 (0)], .bool true]) ∧ Below w.heap.size w w' := by
  have hc' : (2 : Int) ≤ (cap : Int) := by omega
  have hc1' : ¬ (cap : Int) < 1 := by omega
  have hgl : g < w.heap.size := World.block_lt_of_cell? w _ h0
  have H0 := hid h0
  have H1 := hid h1
  clear h0 h1
  go_enter Tryd.func14, Tryd.ntmps14
  go_upto_region 2 with fail
  obtain ⟨w0, e0⟩ : ∃ w0, w0 = (w.alloc (.cells #[.int .i64 0, .int .i64 0, .int .i64 0, .int .i64 0, .int .i64 0] 23)).alloc (.cells #[.int .i64 7, .int .i64 0, .int .i64 0, .int .i64 0, .int .i64 0] 23) := ⟨_, rfl⟩
  have B1 : Hid (Below w.heap.size w w0) := by rw [e0]; exact ((Below.refl _ _).alloc (by simp) _).alloc (by simp) _
  have R2 : Hid (Bk w0 w.heap.size [.int .i64 0, .int .i64 0, .int .i64 0, .int .i64 0, .int .i64 0]) := by rw [e0]; exact (bk_new w 23 [.int .i64 0, .int .i64 0, .int .i64 0, .int .i64 0, .int .i64 0]).below ((Below.refl _ _).alloc (Nat.le_refl _) _)
  have E3 : Hid (Bk w0 (w.heap.size + 1) [.int .i64 7, .int .i64 0, .int .i64 0, .int .i64 0, .int .i64 0]) := by rw [e0]; have := bk_new (w.alloc (.cells #[.int .i64 0, .int .i64 0, .int .i64 0, .int .i64 0, .int .i64 0] 23)) 23 [.int .i64 7, .int .i64 0, .int .i64 0, .int .i64 0, .int .i64 0]; rwa [show (w.alloc (.cells #[.int .i64 0, .int .i64 0, .int .i64 0, .int .i64 0, .int .i64 0] 23)).heap.size = w.heap.size + 1 by simp] at this
  rw [← e0]
  clear e0
  have yR0 : w0.cell? ⟨w.heap.size, 0, none⟩ = some (.int .i64 0) := (R2.out.2 0 (by simp)).1
  have zR0 : w0.frozen? ⟨w.heap.size, 0, none⟩ = false := (R2.out.2 0 (by simp)).2
  have yR1 : w0.cell? ⟨w.heap.size, 1, none⟩ = some (.int .i64 0) := (R2.out.2 1 (by simp)).1
  have zR1 : w0.frozen? ⟨w.heap.size, 1, none⟩ = false := (R2.out.2 1 (by simp)).2
  have yR2 : w0.cell? ⟨w.heap.size, 2, none⟩ = some (.int .i64 0) := (R2.out.2 2 (by simp)).1
  have zR2 : w0.frozen? ⟨w.heap.size, 2, none⟩ = false := (R2.out.2 2 (by simp)).2
  have yR3 : w0.cell? ⟨w.heap.size, 3, none⟩ = some (.int .i64 0) := (R2.out.2 3 (by simp)).1
  have zR3 : w0.frozen? ⟨w.heap.size, 3, none⟩ = false := (R2.out.2 3 (by simp)).2
  have yR4 : w0.cell? ⟨w.heap.size, 4, none⟩ = some (.int .i64 0) := (R2.out.2 4 (by simp)).1
  have zR4 : w0.frozen? ⟨w.heap.size, 4, none⟩ = false := (R2.out.2 4 (by simp)).2
  have hlR : w.heap.size < w0.heap.size := R2.out.1
  have yE0 : w0.cell? ⟨(w.heap.size + 1), 0, none⟩ = some (.int .i64 7) := (E3.out.2 0 (by simp)).1
  have zE0 : w0.frozen? ⟨(w.heap.size + 1), 0, none⟩ = false := (E3.out.2 0 (by simp)).2
  have yE1 : w0.cell? ⟨(w.heap.size + 1), 1, none⟩ = some (.int .i64 0) := (E3.out.2 1 (by simp)).1
  have zE1 : w0.frozen? ⟨(w.heap.size + 1), 1, none⟩ = false := (E3.out.2 1 (by simp)).2
  have yE2 : w0.cell? ⟨(w.heap.size + 1), 2, none⟩ = some (.int .i64 0) := (E3.out.2 2 (by simp)).1
  have zE2 : w0.frozen? ⟨(w.heap.size + 1), 2, none⟩ = false := (E3.out.2 2 (by simp)).2
  have yE3 : w0.cell? ⟨(w.heap.size + 1), 3, none⟩ = some (.int .i64 0) := (E3.out.2 3 (by simp)).1
  have zE3 : w0.frozen? ⟨(w.heap.size + 1), 3, none⟩ = false := (E3.out.2 3 (by simp)).2
  have yE4 : w0.cell? ⟨(w.heap.size + 1), 4, none⟩ = some (.int .i64 0) := (E3.out.2 4 (by simp)).1
  have zE4 : w0.frozen? ⟨(w.heap.size + 1), 4, none⟩ = false := (E3.out.2 4 (by simp)).2
  have hlE : (w.heap.size + 1) < w0.heap.size := E3.out.1
  have hc0 : w0.cell? ⟨g, 0, none⟩ = some (.int .i64 a) := (B1.out.cell (p := ⟨g, 0, none⟩) hgl).trans H0.out
  have hc1 : w0.cell? ⟨g, 1, none⟩ = some (.int .i64 b) := (B1.out.cell (p := ⟨g, 1, none⟩) hgl).trans H1.out
  have ng1 : ¬ g = w.heap.size := by omega
  have ng2 : ¬ g = w.heap.size + 1 := by omega
  have ng3 : ¬ w.heap.size = g := by omega
  have ng4 : ¬ w.heap.size + 1 = g := by omega
  go_upto_region 13 with fail
  clear yR0 zR0 yR1 zR1 yR2 zR2 yR3 zR3 yR4 zR4 hlR yE0 zE0 yE1 zE1 yE2 zE2 yE3 zE3 yE4 zE4 hlE
  have hR := R2.out
  have hE := E3.out
  have hBB := B1.out
  refine wp_region_held_drew (S := fun w' => Below (w.heap.size) w0 w') (by kernel_rfl) ((Below.refl _ _).drew) ?_
  intro hHeld
  obtain ⟨X0, hX0⟩ : ∃ X, X = w0.drew := ⟨_, rfl⟩
  have hz0 : w0.heap.size ≤ X0.heap.size := by rw [hX0]; exact Nat.le_refl _
  rw [← hX0] at hHeld ⊢
  replace hR := hR.below (show Below w0.heap.size w0 X0 by rw [hX0]; exact (Below.refl _ _).drew)
  replace hE := hE.below (show Below w0.heap.size w0 X0 by rw [hX0]; exact (Below.refl _ _).drew)
  clear hX0
  refine wpAnyH_take (i := 0) (v := .slice (some ⟨g, 0, none⟩) 2 cap) rfl (by kernel_rfl) (by kernel_rfl) (by kernel_rfl) (fun _ _ _ h => h) (Or.inl ⟨by rfl, ?_⟩) (by assumption) ?_
  · intro wx hSw; obtain ⟨hcS, hfS⟩ := bcellN hSw; go_simp
  try simp only [Act.put, List.setIfInBounds_toArray, List.set_cons_zero, List.set_cons_succ, List.getElem_toArray, List.getElem_cons_zero]
  refine wpAnyH_take (i := 3) (v := .slice (some ⟨g, 0, none⟩) 2 cap) rfl (by kernel_rfl) (by kernel_rfl) (by kernel_rfl) (fun _ _ _ h => h) (Or.inl ⟨by rfl, ?_⟩) (by assumption) ?_
  · intro wx hSw; obtain ⟨hcS, hfS⟩ := bcellN hSw; go_simp
  try simp only [Act.put, List.setIfInBounds_toArray, List.set_cons_zero, List.set_cons_succ, List.getElem_toArray, List.getElem_cons_zero, List.getElem_cons_succ]
  refine wpAnyH_take (i := 1) (v := .pointer (some ⟨g, 1, none⟩)) rfl (by kernel_rfl) (by kernel_rfl) (by kernel_rfl) (fun _ _ _ h => h) (Or.inl ⟨by rfl, ?_⟩) (by assumption) ?_
  · intro wx hSw; obtain ⟨hcS, hfS⟩ := bcellN hSw; go_simp
  try simp only [Act.put, List.setIfInBounds_toArray, List.set_cons_zero, List.set_cons_succ, List.getElem_toArray, List.getElem_cons_zero, List.getElem_cons_succ]
  refine wpAnyH_take (i := 4) (v := .slice (some ⟨g, 0, none⟩) 1 cap) rfl (by kernel_rfl) (by kernel_rfl) (by kernel_rfl) (fun _ _ _ h => h) (Or.inl ⟨by rfl, ?_⟩) (by assumption) ?_
  · intro wx hSw; obtain ⟨hcS, hfS⟩ := bcellN hSw; go_simp
  try simp only [Act.put, List.setIfInBounds_toArray, List.set_cons_zero, List.set_cons_succ, List.getElem_toArray, List.getElem_cons_zero, List.getElem_cons_succ]
  refine wpAnyH_take (i := 2) (v := .int .i64 b) rfl (by kernel_rfl) (by kernel_rfl) (by kernel_rfl) (fun _ _ _ h => h) (Or.inl ⟨by rfl, ?_⟩) (by assumption) ?_
  · intro wx hSw; obtain ⟨hcS, hfS⟩ := bcellN hSw; rw [← hcS g 1 hgl] at hc1; go_simp
  try simp only [Act.put, List.setIfInBounds_toArray, List.set_cons_zero, List.set_cons_succ, List.getElem_toArray, List.getElem_cons_zero, List.getElem_cons_succ]
  refine wpAnyH_take (i := 5) (v := .pointer (some ⟨w.heap.size + 1, 3, none⟩)) rfl (by kernel_rfl) (by kernel_rfl) (by kernel_rfl) (fun _ _ _ h => h) (Or.inl ⟨by rfl, ?_⟩) (by assumption) ?_
  · intro wx hSw; obtain ⟨hcS, hfS⟩ := bcellN hSw; go_simp
  try simp only [Act.put, List.setIfInBounds_toArray, List.set_cons_zero, List.set_cons_succ, List.getElem_toArray, List.getElem_cons_zero, List.getElem_cons_succ]
  refine wpAnyH_ready (rs := [6]) (by kernel_rfl) (by simp) ?_
  refine (AllReadyH.cons rfl (fun K hK => ?_) AllReadyH.nil)
  have r3 := (hE.2 3 (by simp)).1
  have f3 := (hE.2 3 (by simp)).2
  simp only [List.getD, List.getElem?_cons_zero, List.getElem?_cons_succ, Option.getD_some] at r3
  go_simp
  obtain ⟨XS, eS⟩ : ∃ X, X = X0.setCell ⟨w.heap.size + 1, 3, none⟩ (.int .i64 b) := ⟨_, rfl⟩
  rw [← eS]
  have hB6 : Below w.heap.size w0 XS := by rw [eS]; exact Below.setCell hHeld (by simp) _
  have hE6 : Bk XS (w.heap.size + 1) [.int .i64 7, .int .i64 0, .int .i64 0, .int .i64 b, .int .i64 0] := by rw [eS]; exact Bk.set (j := 3) hE (by simp)
  have hR6 : Bk XS w.heap.size [.int .i64 0, .int .i64 0, .int .i64 0, .int .i64 0, .int .i64 0] := by rw [eS]; exact Bk.far hR (by omega)
  clear eS r3 f3
  refine hK.out _ _ hB6 (fun hNew => ?_)
  clear hK K hHeld
  have hHeld := hNew
  clear hNew
  try simp only [Act.put, List.setIfInBounds_toArray, List.set_cons_zero, List.set_cons_succ, List.getElem_toArray, List.getElem_cons_zero, List.getElem_cons_succ]
  refine wpAnyH_take (i := 7) (v := .slice (some ⟨g, 0, none⟩) 1 cap) rfl (by kernel_rfl) (by kernel_rfl) (by kernel_rfl) (fun _ _ _ h => h) (Or.inl ⟨by rfl, ?_⟩) (by assumption) ?_
  · intro wx hSw; obtain ⟨hcS, hfS⟩ := bcellN hSw; go_simp
  try simp only [Act.put, List.setIfInBounds_toArray, List.set_cons_zero, List.set_cons_succ, List.getElem_toArray, List.getElem_cons_zero, List.getElem_cons_succ]
  refine wpAnyH_done (by kernel_rfl) ?_ _
  have hBX := hBB.trans hHeld
  clear hR hE
  have HR6 := hid hR6
  have HE6 := hid hE6
  clear hR6 hE6
  have hd0 : XS.cell? ⟨g, 0, none⟩ = some (.int .i64 a) := (hHeld.cell (p := ⟨g, 0, none⟩) hgl).trans hc0
  have yR0 : XS.cell? ⟨w.heap.size, 0, none⟩ = some (.int .i64 0) := (HR6.out.2 0 (by simp)).1
  have zR0 : XS.frozen? ⟨w.heap.size, 0, none⟩ = false := (HR6.out.2 0 (by simp)).2
  have yR1 : XS.cell? ⟨w.heap.size, 1, none⟩ = some (.int .i64 0) := (HR6.out.2 1 (by simp)).1
  have zR1 : XS.frozen? ⟨w.heap.size, 1, none⟩ = false := (HR6.out.2 1 (by simp)).2
  have yR2 : XS.cell? ⟨w.heap.size, 2, none⟩ = some (.int .i64 0) := (HR6.out.2 2 (by simp)).1
  have zR2 : XS.frozen? ⟨w.heap.size, 2, none⟩ = false := (HR6.out.2 2 (by simp)).2
  have yR3 : XS.cell? ⟨w.heap.size, 3, none⟩ = some (.int .i64 0) := (HR6.out.2 3 (by simp)).1
  have zR3 : XS.frozen? ⟨w.heap.size, 3, none⟩ = false := (HR6.out.2 3 (by simp)).2
  have yR4 : XS.cell? ⟨w.heap.size, 4, none⟩ = some (.int .i64 0) := (HR6.out.2 4 (by simp)).1
  have zR4 : XS.frozen? ⟨w.heap.size, 4, none⟩ = false := (HR6.out.2 4 (by simp)).2
  have hlR : w.heap.size < XS.heap.size := HR6.out.1
  have yE0 : XS.cell? ⟨(w.heap.size + 1), 0, none⟩ = some (.int .i64 7) := (HE6.out.2 0 (by simp)).1
  have zE0 : XS.frozen? ⟨(w.heap.size + 1), 0, none⟩ = false := (HE6.out.2 0 (by simp)).2
  have yE1 : XS.cell? ⟨(w.heap.size + 1), 1, none⟩ = some (.int .i64 0) := (HE6.out.2 1 (by simp)).1
  have zE1 : XS.frozen? ⟨(w.heap.size + 1), 1, none⟩ = false := (HE6.out.2 1 (by simp)).2
  have yE2 : XS.cell? ⟨(w.heap.size + 1), 2, none⟩ = some (.int .i64 0) := (HE6.out.2 2 (by simp)).1
  have zE2 : XS.frozen? ⟨(w.heap.size + 1), 2, none⟩ = false := (HE6.out.2 2 (by simp)).2
  have yE3 : XS.cell? ⟨(w.heap.size + 1), 3, none⟩ = some (.int .i64 b) := (HE6.out.2 3 (by simp)).1
  have zE3 : XS.frozen? ⟨(w.heap.size + 1), 3, none⟩ = false := (HE6.out.2 3 (by simp)).2
  have yE4 : XS.cell? ⟨(w.heap.size + 1), 4, none⟩ = some (.int .i64 0) := (HE6.out.2 4 (by simp)).1
  have zE4 : XS.frozen? ⟨(w.heap.size + 1), 4, none⟩ = false := (HE6.out.2 4 (by simp)).2
  have hlE : (w.heap.size + 1) < XS.heap.size := HE6.out.1
  clear hc0 hc1
  go_wp2
  exact bodyPost_ret (v := .tuple #[.agg #[.int .i64 7, .int .i64 a, .int .i64 0, .int .i64 b, .int .i64 0], .bool true]) (by simp [results, Tryd.results14, go_sem, yR0, yR1, yR2, yR3, yR4]) rfl ⟨rfl, by repeat (first | exact hBX | refine Below.setCell ?_ (by first | simp | omega) _)⟩
theorem nev_two_yes (k a b : Int) (hk : k = 1 ∨ k = 7) (g cap : Nat) (hcap : 2 ≤ cap) (w : World) (h0 : w.cell? ⟨g, 0, none⟩ = some (.int .i64 a)) (h1 : w.cell? ⟨g, 1, none⟩ = some (.int .i64 b)) :
    Calls Tryd.prog 14 #[.int .i64 k, .slice (some ⟨g, 0, none⟩) 2 cap] w fun e w' => e = .returned (.tuple #[.agg #[.int .i64 (k), .int .i64 (a), .int .i64 (0), .int .i64 (b), .int .i64 (0)], .bool true]) ∧ Below w.heap.size w w' := by
  rcases hk with rfl | rfl
  · exact nev_two_1 a b g cap hcap w h0 h1
  · exact nev_two_7 a b g cap hcap w h0 h1
set_option maxHeartbeats 2000000 in
theorem nev_one_3 (a : Int) (g cap : Nat) (w : World) (h0 : w.cell? ⟨g, 0, none⟩ = some (.int .i64 a)) :
    Calls Tryd.prog 14 #[.int .i64 3, .slice (some ⟨g, 0, none⟩) 1 cap] w fun e w' => e = .returned (.tuple #[.agg #[.int .i64 (3), .int .i64 (a), .int .i64 (0), .int .i64 (0), .int .i64 (0)], .bool true]) ∧ Below w.heap.size w w' := by
  have hgl : g < w.heap.size := World.block_lt_of_cell? w _ h0
  have H0 := hid h0
  clear h0
  go_enter Tryd.func14, Tryd.ntmps14
  go_upto_region 2 with fail
  obtain ⟨w0, e0⟩ : ∃ w0, w0 = (w.alloc (.cells #[.int .i64 0, .int .i64 0, .int .i64 0, .int .i64 0, .int .i64 0] 23)).alloc (.cells #[.int .i64 3, .int .i64 0, .int .i64 0, .int .i64 0, .int .i64 0] 23) := ⟨_, rfl⟩
  have B1 : Hid (Below w.heap.size w w0) := by rw [e0]; exact ((Below.refl _ _).alloc (by simp) _).alloc (by simp) _
  have R2 : Hid (Bk w0 w.heap.size [.int .i64 0, .int .i64 0, .int .i64 0, .int .i64 0, .int .i64 0]) := by rw [e0]; exact (bk_new w 23 [.int .i64 0, .int .i64 0, .int .i64 0, .int .i64 0, .int .i64 0]).below ((Below.refl _ _).alloc (Nat.le_refl _) _)
  have E3 : Hid (Bk w0 (w.heap.size + 1) [.int .i64 3, .int .i64 0, .int .i64 0, .int .i64 0, .int .i64 0]) := by rw [e0]; have := bk_new (w.alloc (.cells #[.int .i64 0, .int .i64 0, .int .i64 0, .int .i64 0, .int .i64 0] 23)) 23 [.int .i64 3, .int .i64 0, .int .i64 0, .int .i64 0, .int .i64 0]; rwa [show (w.alloc (.cells #[.int .i64 0, .int .i64 0, .int .i64 0, .int .i64 0, .int .i64 0] 23)).heap.size = w.heap.size + 1 by simp] at this
  rw [← e0]
  clear e0
  have yR0 : w0.cell? ⟨w.heap.size, 0, none⟩ = some (.int .i64 0) := (R2.out.2 0 (by simp)).1
  have zR0 : w0.frozen? ⟨w.heap.size, 0, none⟩ = false := (R2.out.2 0 (by simp)).2
  have yR1 : w0.cell? ⟨w.heap.size, 1, none⟩ = some (.int .i64 0) := (R2.out.2 1 (by simp)).1
  have zR1 : w0.frozen? ⟨w.heap.size, 1, none⟩ = false := (R2.out.2 1 (by simp)).2
  have yR2 : w0.cell? ⟨w.heap.size, 2, none⟩ = some (.int .i64 0) := (R2.out.2 2 (by simp)).1
  have zR2 : w0.frozen? ⟨w.heap.size, 2, none⟩ = false := (R2.out.2 2 (by simp)).2
  have yR3 : w0.cell? ⟨w.heap.size, 3, none⟩ = some (.int .i64 0) := (R2.out.2 3 (by simp)).1
  have zR3 : w0.frozen? ⟨w.heap.size, 3, none⟩ = false := (R2.out.2 3 (by simp)).2
  have yR4 : w0.cell? ⟨w.heap.size, 4, none⟩ = some (.int .i64 0) := (R2.out.2 4 (by simp)).1
  have zR4 : w0.frozen? ⟨w.heap.size, 4, none⟩ = false := (R2.out.2 4 (by simp)).2
  have hlR : w.heap.size < w0.heap.size := R2.out.1
  have yE0 : w0.cell? ⟨(w.heap.size + 1), 0, none⟩ = some (.int .i64 3) := (E3.out.2 0 (by simp)).1
  have zE0 : w0.frozen? ⟨(w.heap.size + 1), 0, none⟩ = false := (E3.out.2 0 (by simp)).2
  have yE1 : w0.cell? ⟨(w.heap.size + 1), 1, none⟩ = some (.int .i64 0) := (E3.out.2 1 (by simp)).1
  have zE1 : w0.frozen? ⟨(w.heap.size + 1), 1, none⟩ = false := (E3.out.2 1 (by simp)).2
  have yE2 : w0.cell? ⟨(w.heap.size + 1), 2, none⟩ = some (.int .i64 0) := (E3.out.2 2 (by simp)).1
  have zE2 : w0.frozen? ⟨(w.heap.size + 1), 2, none⟩ = false := (E3.out.2 2 (by simp)).2
  have yE3 : w0.cell? ⟨(w.heap.size + 1), 3, none⟩ = some (.int .i64 0) := (E3.out.2 3 (by simp)).1
  have zE3 : w0.frozen? ⟨(w.heap.size + 1), 3, none⟩ = false := (E3.out.2 3 (by simp)).2
  have yE4 : w0.cell? ⟨(w.heap.size + 1), 4, none⟩ = some (.int .i64 0) := (E3.out.2 4 (by simp)).1
  have zE4 : w0.frozen? ⟨(w.heap.size + 1), 4, none⟩ = false := (E3.out.2 4 (by simp)).2
  have hlE : (w.heap.size + 1) < w0.heap.size := E3.out.1
  have hc0 : w0.cell? ⟨g, 0, none⟩ = some (.int .i64 a) := (B1.out.cell (p := ⟨g, 0, none⟩) hgl).trans H0.out
  have ng1 : ¬ g = w.heap.size := by omega
  have ng2 : ¬ g = w.heap.size + 1 := by omega
  have ng3 : ¬ w.heap.size = g := by omega
  have ng4 : ¬ w.heap.size + 1 = g := by omega
  go_wp2
  exact bodyPost_ret (v := .tuple #[.agg #[.int .i64 3, .int .i64 a, .int .i64 0, .int .i64 0, .int .i64 0], .bool true]) (by simp [results, Tryd.results14, go_sem, yR0, yR1, yR2, yR3, yR4]) rfl ⟨rfl, by repeat (first | exact B1.out | refine Below.setCell ?_ (by first | simp | omega) _)⟩
set_option maxHeartbeats 2000000 in
theorem nev_one_4 (a : Int) (g cap : Nat) (w : World) (h0 : w.cell? ⟨g, 0, none⟩ = some (.int .i64 a)) :
    Calls Tryd.prog 14 #[.int .i64 4, .slice (some ⟨g, 0, none⟩) 1 cap] w fun e w' => e = .returned (.tuple #[.agg #[.int .i64 (4), .int .i64 (a), .int .i64 (0), .int .i64 (0), .int .i64 (0)], .bool true]) ∧ Below w.heap.size w w' := by
  have hgl : g < w.heap.size := World.block_lt_of_cell? w _ h0
  have H0 := hid h0
  clear h0
  go_enter Tryd.func14, Tryd.ntmps14
  go_upto_region 2 with fail
  obtain ⟨w0, e0⟩ : ∃ w0, w0 = (w.alloc (.cells #[.int .i64 0, .int .i64 0, .int .i64 0, .int .i64 0, .int .i64 0] 23)).alloc (.cells #[.int .i64 4, .int .i64 0, .int .i64 0, .int .i64 0, .int .i64 0] 23) := ⟨_, rfl⟩
  have B1 : Hid (Below w.heap.size w w0) := by rw [e0]; exact ((Below.refl _ _).alloc (by simp) _).alloc (by simp) _
  have R2 : Hid (Bk w0 w.heap.size [.int .i64 0, .int .i64 0, .int .i64 0, .int .i64 0, .int .i64 0]) := by rw [e0]; exact (bk_new w 23 [.int .i64 0, .int .i64 0, .int .i64 0, .int .i64 0, .int .i64 0]).below ((Below.refl _ _).alloc (Nat.le_refl _) _)
  have E3 : Hid (Bk w0 (w.heap.size + 1) [.int .i64 4, .int .i64 0, .int .i64 0, .int .i64 0, .int .i64 0]) := by rw [e0]; have := bk_new (w.alloc (.cells #[.int .i64 0, .int .i64 0, .int .i64 0, .int .i64 0, .int .i64 0] 23)) 23 [.int .i64 4, .int .i64 0, .int .i64 0, .int .i64 0, .int .i64 0]; rwa [show (w.alloc (.cells #[.int .i64 0, .int .i64 0, .int .i64 0, .int .i64 0, .int .i64 0] 23)).heap.size = w.heap.size + 1 by simp] at this
  rw [← e0]
  clear e0
  have yR0 : w0.cell? ⟨w.heap.size, 0, none⟩ = some (.int .i64 0) := (R2.out.2 0 (by simp)).1
  have zR0 : w0.frozen? ⟨w.heap.size, 0, none⟩ = false := (R2.out.2 0 (by simp)).2
  have yR1 : w0.cell? ⟨w.heap.size, 1, none⟩ = some (.int .i64 0) := (R2.out.2 1 (by simp)).1
  have zR1 : w0.frozen? ⟨w.heap.size, 1, none⟩ = false := (R2.out.2 1 (by simp)).2
  have yR2 : w0.cell? ⟨w.heap.size, 2, none⟩ = some (.int .i64 0) := (R2.out.2 2 (by simp)).1
  have zR2 : w0.frozen? ⟨w.heap.size, 2, none⟩ = false := (R2.out.2 2 (by simp)).2
  have yR3 : w0.cell? ⟨w.heap.size, 3, none⟩ = some (.int .i64 0) := (R2.out.2 3 (by simp)).1
  have zR3 : w0.frozen? ⟨w.heap.size, 3, none⟩ = false := (R2.out.2 3 (by simp)).2
  have yR4 : w0.cell? ⟨w.heap.size, 4, none⟩ = some (.int .i64 0) := (R2.out.2 4 (by simp)).1
  have zR4 : w0.frozen? ⟨w.heap.size, 4, none⟩ = false := (R2.out.2 4 (by simp)).2
  have hlR : w.heap.size < w0.heap.size := R2.out.1
  have yE0 : w0.cell? ⟨(w.heap.size + 1), 0, none⟩ = some (.int .i64 4) := (E3.out.2 0 (by simp)).1
  have zE0 : w0.frozen? ⟨(w.heap.size + 1), 0, none⟩ = false := (E3.out.2 0 (by simp)).2
  have yE1 : w0.cell? ⟨(w.heap.size + 1), 1, none⟩ = some (.int .i64 0) := (E3.out.2 1 (by simp)).1
  have zE1 : w0.frozen? ⟨(w.heap.size + 1), 1, none⟩ = false := (E3.out.2 1 (by simp)).2
  have yE2 : w0.cell? ⟨(w.heap.size + 1), 2, none⟩ = some (.int .i64 0) := (E3.out.2 2 (by simp)).1
  have zE2 : w0.frozen? ⟨(w.heap.size + 1), 2, none⟩ = false := (E3.out.2 2 (by simp)).2
  have yE3 : w0.cell? ⟨(w.heap.size + 1), 3, none⟩ = some (.int .i64 0) := (E3.out.2 3 (by simp)).1
  have zE3 : w0.frozen? ⟨(w.heap.size + 1), 3, none⟩ = false := (E3.out.2 3 (by simp)).2
  have yE4 : w0.cell? ⟨(w.heap.size + 1), 4, none⟩ = some (.int .i64 0) := (E3.out.2 4 (by simp)).1
  have zE4 : w0.frozen? ⟨(w.heap.size + 1), 4, none⟩ = false := (E3.out.2 4 (by simp)).2
  have hlE : (w.heap.size + 1) < w0.heap.size := E3.out.1
  have hc0 : w0.cell? ⟨g, 0, none⟩ = some (.int .i64 a) := (B1.out.cell (p := ⟨g, 0, none⟩) hgl).trans H0.out
  have ng1 : ¬ g = w.heap.size := by omega
  have ng2 : ¬ g = w.heap.size + 1 := by omega
  have ng3 : ¬ w.heap.size = g := by omega
  have ng4 : ¬ w.heap.size + 1 = g := by omega
  go_wp2
  exact bodyPost_ret (v := .tuple #[.agg #[.int .i64 4, .int .i64 a, .int .i64 0, .int .i64 0, .int .i64 0], .bool true]) (by simp [results, Tryd.results14, go_sem, yR0, yR1, yR2, yR3, yR4]) rfl ⟨rfl, by repeat (first | exact B1.out | refine Below.setCell ?_ (by first | simp | omega) _)⟩
set_option maxHeartbeats 2000000 in
theorem nev_one_5 (a : Int) (g cap : Nat) (w : World) (h0 : w.cell? ⟨g, 0, none⟩ = some (.int .i64 a)) :
    Calls Tryd.prog 14 #[.int .i64 5, .slice (some ⟨g, 0, none⟩) 1 cap] w fun e w' => e = .returned (.tuple #[.agg #[.int .i64 (5), .int .i64 (a), .int .i64 (0), .int .i64 (0), .int .i64 (0)], .bool true]) ∧ Below w.heap.size w w' := by
  have hgl : g < w.heap.size := World.block_lt_of_cell? w _ h0
  have H0 := hid h0
  clear h0
  go_enter Tryd.func14, Tryd.ntmps14
  go_upto_region 2 with fail
  obtain ⟨w0, e0⟩ : ∃ w0, w0 = (w.alloc (.cells #[.int .i64 0, .int .i64 0, .int .i64 0, .int .i64 0, .int .i64 0] 23)).alloc (.cells #[.int .i64 5, .int .i64 0, .int .i64 0, .int .i64 0, .int .i64 0] 23) := ⟨_, rfl⟩
  have B1 : Hid (Below w.heap.size w w0) := by rw [e0]; exact ((Below.refl _ _).alloc (by simp) _).alloc (by simp) _
  have R2 : Hid (Bk w0 w.heap.size [.int .i64 0, .int .i64 0, .int .i64 0, .int .i64 0, .int .i64 0]) := by rw [e0]; exact (bk_new w 23 [.int .i64 0, .int .i64 0, .int .i64 0, .int .i64 0, .int .i64 0]).below ((Below.refl _ _).alloc (Nat.le_refl _) _)
  have E3 : Hid (Bk w0 (w.heap.size + 1) [.int .i64 5, .int .i64 0, .int .i64 0, .int .i64 0, .int .i64 0]) := by rw [e0]; have := bk_new (w.alloc (.cells #[.int .i64 0, .int .i64 0, .int .i64 0, .int .i64 0, .int .i64 0] 23)) 23 [.int .i64 5, .int .i64 0, .int .i64 0, .int .i64 0, .int .i64 0]; rwa [show (w.alloc (.cells #[.int .i64 0, .int .i64 0, .int .i64 0, .int .i64 0, .int .i64 0] 23)).heap.size = w.heap.size + 1 by simp] at this
  rw [← e0]
  clear e0
  have yR0 : w0.cell? ⟨w.heap.size, 0, none⟩ = some (.int .i64 0) := (R2.out.2 0 (by simp)).1
  have zR0 : w0.frozen? ⟨w.heap.size, 0, none⟩ = false := (R2.out.2 0 (by simp)).2
  have yR1 : w0.cell? ⟨w.heap.size, 1, none⟩ = some (.int .i64 0) := (R2.out.2 1 (by simp)).1
  have zR1 : w0.frozen? ⟨w.heap.size, 1, none⟩ = false := (R2.out.2 1 (by simp)).2
  have yR2 : w0.cell? ⟨w.heap.size, 2, none⟩ = some (.int .i64 0) := (R2.out.2 2 (by simp)).1
  have zR2 : w0.frozen? ⟨w.heap.size, 2, none⟩ = false := (R2.out.2 2 (by simp)).2
  have yR3 : w0.cell? ⟨w.heap.size, 3, none⟩ = some (.int .i64 0) := (R2.out.2 3 (by simp)).1
  have zR3 : w0.frozen? ⟨w.heap.size, 3, none⟩ = false := (R2.out.2 3 (by simp)).2
  have yR4 : w0.cell? ⟨w.heap.size, 4, none⟩ = some (.int .i64 0) := (R2.out.2 4 (by simp)).1
  have zR4 : w0.frozen? ⟨w.heap.size, 4, none⟩ = false := (R2.out.2 4 (by simp)).2
  have hlR : w.heap.size < w0.heap.size := R2.out.1
  have yE0 : w0.cell? ⟨(w.heap.size + 1), 0, none⟩ = some (.int .i64 5) := (E3.out.2 0 (by simp)).1
  have zE0 : w0.frozen? ⟨(w.heap.size + 1), 0, none⟩ = false := (E3.out.2 0 (by simp)).2
  have yE1 : w0.cell? ⟨(w.heap.size + 1), 1, none⟩ = some (.int .i64 0) := (E3.out.2 1 (by simp)).1
  have zE1 : w0.frozen? ⟨(w.heap.size + 1), 1, none⟩ = false := (E3.out.2 1 (by simp)).2
  have yE2 : w0.cell? ⟨(w.heap.size + 1), 2, none⟩ = some (.int .i64 0) := (E3.out.2 2 (by simp)).1
  have zE2 : w0.frozen? ⟨(w.heap.size + 1), 2, none⟩ = false := (E3.out.2 2 (by simp)).2
  have yE3 : w0.cell? ⟨(w.heap.size + 1), 3, none⟩ = some (.int .i64 0) := (E3.out.2 3 (by simp)).1
  have zE3 : w0.frozen? ⟨(w.heap.size + 1), 3, none⟩ = false := (E3.out.2 3 (by simp)).2
  have yE4 : w0.cell? ⟨(w.heap.size + 1), 4, none⟩ = some (.int .i64 0) := (E3.out.2 4 (by simp)).1
  have zE4 : w0.frozen? ⟨(w.heap.size + 1), 4, none⟩ = false := (E3.out.2 4 (by simp)).2
  have hlE : (w.heap.size + 1) < w0.heap.size := E3.out.1
  have hc0 : w0.cell? ⟨g, 0, none⟩ = some (.int .i64 a) := (B1.out.cell (p := ⟨g, 0, none⟩) hgl).trans H0.out
  have ng1 : ¬ g = w.heap.size := by omega
  have ng2 : ¬ g = w.heap.size + 1 := by omega
  have ng3 : ¬ w.heap.size = g := by omega
  have ng4 : ¬ w.heap.size + 1 = g := by omega
  go_wp2
  exact bodyPost_ret (v := .tuple #[.agg #[.int .i64 5, .int .i64 a, .int .i64 0, .int .i64 0, .int .i64 0], .bool true]) (by simp [results, Tryd.results14, go_sem, yR0, yR1, yR2, yR3, yR4]) rfl ⟨rfl, by repeat (first | exact B1.out | refine Below.setCell ?_ (by first | simp | omega) _)⟩
set_option maxHeartbeats 2000000 in
theorem nev_one_6 (a : Int) (g cap : Nat) (w : World) (h0 : w.cell? ⟨g, 0, none⟩ = some (.int .i64 a)) :
    Calls Tryd.prog 14 #[.int .i64 6, .slice (some ⟨g, 0, none⟩) 1 cap] w fun e w' => e = .returned (.tuple #[.agg #[.int .i64 (6), .int .i64 (a), .int .i64 (0), .int .i64 (0), .int .i64 (0)], .bool true]) ∧ Below w.heap.size w w' := by
  have hgl : g < w.heap.size := World.block_lt_of_cell? w _ h0
  have H0 := hid h0
  clear h0
  go_enter Tryd.func14, Tryd.ntmps14
  go_upto_region 2 with fail
  obtain ⟨w0, e0⟩ : ∃ w0, w0 = (w.alloc (.cells #[.int .i64 0, .int .i64 0, .int .i64 0, .int .i64 0, .int .i64 0] 23)).alloc (.cells #[.int .i64 6, .int .i64 0, .int .i64 0, .int .i64 0, .int .i64 0] 23) := ⟨_, rfl⟩
  have B1 : Hid (Below w.heap.size w w0) := by rw [e0]; exact ((Below.refl _ _).alloc (by simp) _).alloc (by simp) _
  have R2 : Hid (Bk w0 w.heap.size [.int .i64 0, .int .i64 0, .int .i64 0, .int .i64 0, .int .i64 0]) := by rw [e0]; exact (bk_new w 23 [.int .i64 0, .int .i64 0, .int .i64 0, .int .i64 0, .int .i64 0]).below ((Below.refl _ _).alloc (Nat.le_refl _) _)
  have E3 : Hid (Bk w0 (w.heap.size + 1) [.int .i64 6, .int .i64 0, .int .i64 0, .int .i64 0, .int .i64 0]) := by rw [e0]; have := bk_new (w.alloc (.cells #[.int .i64 0, .int .i64 0, .int .i64 0, .int .i64 0, .int .i64 0] 23)) 23 [.int .i64 6, .int .i64 0, .int .i64 0, .int .i64 0, .int .i64 0]; rwa [show (w.alloc (.cells #[.int .i64 0, .int .i64 0, .int .i64 0, .int .i64 0, .int .i64 0] 23)).heap.size = w.heap.size + 1 by simp] at this
  rw [← e0]
  clear e0
  have yR0 : w0.cell? ⟨w.heap.size, 0, none⟩ = some (.int .i64 0) := (R2.out.2 0 (by simp)).1
  have zR0 : w0.frozen? ⟨w.heap.size, 0, none⟩ = false := (R2.out.2 0 (by simp)).2
  have yR1 : w0.cell? ⟨w.heap.size, 1, none⟩ = some (.int .i64 0) := (R2.out.2 1 (by simp)).1
  have zR1 : w0.frozen? ⟨w.heap.size, 1, none⟩ = false := (R2.out.2 1 (by simp)).2
  have yR2 : w0.cell? ⟨w.heap.size, 2, none⟩ = some (.int .i64 0) := (R2.out.2 2 (by simp)).1
  have zR2 : w0.frozen? ⟨w.heap.size, 2, none⟩ = false := (R2.out.2 2 (by simp)).2
  have yR3 : w0.cell? ⟨w.heap.size, 3, none⟩ = some (.int .i64 0) := (R2.out.2 3 (by simp)).1
  have zR3 : w0.frozen? ⟨w.heap.size, 3, none⟩ = false := (R2.out.2 3 (by simp)).2
  have yR4 : w0.cell? ⟨w.heap.size, 4, none⟩ = some (.int .i64 0) := (R2.out.2 4 (by simp)).1
  have zR4 : w0.frozen? ⟨w.heap.size, 4, none⟩ = false := (R2.out.2 4 (by simp)).2
  have hlR : w.heap.size < w0.heap.size := R2.out.1
  have yE0 : w0.cell? ⟨(w.heap.size + 1), 0, none⟩ = some (.int .i64 6) := (E3.out.2 0 (by simp)).1
  have zE0 : w0.frozen? ⟨(w.heap.size + 1), 0, none⟩ = false := (E3.out.2 0 (by simp)).2
  have yE1 : w0.cell? ⟨(w.heap.size + 1), 1, none⟩ = some (.int .i64 0) := (E3.out.2 1 (by simp)).1
  have zE1 : w0.frozen? ⟨(w.heap.size + 1), 1, none⟩ = false := (E3.out.2 1 (by simp)).2
  have yE2 : w0.cell? ⟨(w.heap.size + 1), 2, none⟩ = some (.int .i64 0) := (E3.out.2 2 (by simp)).1
  have zE2 : w0.frozen? ⟨(w.heap.size + 1), 2, none⟩ = false := (E3.out.2 2 (by simp)).2
  have yE3 : w0.cell? ⟨(w.heap.size + 1), 3, none⟩ = some (.int .i64 0) := (E3.out.2 3 (by simp)).1
  have zE3 : w0.frozen? ⟨(w.heap.size + 1), 3, none⟩ = false := (E3.out.2 3 (by simp)).2
  have yE4 : w0.cell? ⟨(w.heap.size + 1), 4, none⟩ = some (.int .i64 0) := (E3.out.2 4 (by simp)).1
  have zE4 : w0.frozen? ⟨(w.heap.size + 1), 4, none⟩ = false := (E3.out.2 4 (by simp)).2
  have hlE : (w.heap.size + 1) < w0.heap.size := E3.out.1
  have hc0 : w0.cell? ⟨g, 0, none⟩ = some (.int .i64 a) := (B1.out.cell (p := ⟨g, 0, none⟩) hgl).trans H0.out
  have ng1 : ¬ g = w.heap.size := by omega
  have ng2 : ¬ g = w.heap.size + 1 := by omega
  have ng3 : ¬ w.heap.size = g := by omega
  have ng4 : ¬ w.heap.size + 1 = g := by omega
  go_wp2
  exact bodyPost_ret (v := .tuple #[.agg #[.int .i64 6, .int .i64 a, .int .i64 0, .int .i64 0, .int .i64 0], .bool true]) (by simp [results, Tryd.results14, go_sem, yR0, yR1, yR2, yR3, yR4]) rfl ⟨rfl, by repeat (first | exact B1.out | refine Below.setCell ?_ (by first | simp | omega) _)⟩
set_option maxHeartbeats 2000000 in
theorem nev_one_8 (a : Int) (g cap : Nat) (w : World) (h0 : w.cell? ⟨g, 0, none⟩ = some (.int .i64 a)) :
    Calls Tryd.prog 14 #[.int .i64 8, .slice (some ⟨g, 0, none⟩) 1 cap] w fun e w' => e = .returned (.tuple #[.agg #[.int .i64 (8), .int .i64 (a), .int .i64 (0), .int .i64 (0), .int .i64 (0)], .bool true]) ∧ Below w.heap.size w w' := by
  have hgl : g < w.heap.size := World.block_lt_of_cell? w _ h0
  have H0 := hid h0
  clear h0
  go_enter Tryd.func14, Tryd.ntmps14
  go_upto_region 2 with fail
  obtain ⟨w0, e0⟩ : ∃ w0, w0 = (w.alloc (.cells #[.int .i64 0, .int .i64 0, .int .i64 0, .int .i64 0, .int .i64 0] 23)).alloc (.cells #[.int .i64 8, .int .i64 0, .int .i64 0, .int .i64 0, .int .i64 0] 23) := ⟨_, rfl⟩
  have B1 : Hid (Below w.heap.size w w0) := by rw [e0]; exact ((Below.refl _ _).alloc (by simp) _).alloc (by simp) _
  have R2 : Hid (Bk w0 w.heap.size [.int .i64 0, .int .i64 0, .int .i64 0, .int .i64 0, .int .i64 0]) := by rw [e0]; exact (bk_new w 23 [.int .i64 0, .int .i64 0, .int .i64 0, .int .i64 0, .int .i64 0]).below ((Below.refl _ _).alloc (Nat.le_refl _) _)
  have E3 : Hid (Bk w0 (w.heap.size + 1) [.int .i64 8, .int .i64 0, .int .i64 0, .int .i64 0, .int .i64 0]) := by rw [e0]; have := bk_new (w.alloc (.cells #[.int .i64 0, .int .i64 0, .int .i64 0, .int .i64 0, .int .i64 0] 23)) 23 [.int .i64 8, .int .i64 0, .int .i64 0, .int .i64 0, .int .i64 0]; rwa [show (w.alloc (.cells #[.int .i64 0, .int .i64 0, .int .i64 0, .int .i64 0, .int .i64 0] 23)).heap.size = w.heap.size + 1 by simp] at this
  rw [← e0]
  clear e0
  have yR0 : w0.cell? ⟨w.heap.size, 0, none⟩ = some (.int .i64 0) := (R2.out.2 0 (by simp)).1
  have zR0 : w0.frozen? ⟨w.heap.size, 0, none⟩ = false := (R2.out.2 0 (by simp)).2
  have yR1 : w0.cell? ⟨w.heap.size, 1, none⟩ = some (.int .i64 0) := (R2.out.2 1 (by simp)).1
  have zR1 : w0.frozen? ⟨w.heap.size, 1, none⟩ = false := (R2.out.2 1 (by simp)).2
  have yR2 : w0.cell? ⟨w.heap.size, 2, none⟩ = some (.int .i64 0) := (R2.out.2 2 (by simp)).1
  have zR2 : w0.frozen? ⟨w.heap.size, 2, none⟩ = false := (R2.out.2 2 (by simp)).2
  have yR3 : w0.cell? ⟨w.heap.size, 3, none⟩ = some (.int .i64 0) := (R2.out.2 3 (by simp)).1
  have zR3 : w0.frozen? ⟨w.heap.size, 3, none⟩ = false := (R2.out.2 3 (by simp)).2
  have yR4 : w0.cell? ⟨w.heap.size, 4, none⟩ = some (.int .i64 0) := (R2.out.2 4 (by simp)).1
  have zR4 : w0.frozen? ⟨w.heap.size, 4, none⟩ = false := (R2.out.2 4 (by simp)).2
  have hlR : w.heap.size < w0.heap.size := R2.out.1
  have yE0 : w0.cell? ⟨(w.heap.size + 1), 0, none⟩ = some (.int .i64 8) := (E3.out.2 0 (by simp)).1
  have zE0 : w0.frozen? ⟨(w.heap.size + 1), 0, none⟩ = false := (E3.out.2 0 (by simp)).2
  have yE1 : w0.cell? ⟨(w.heap.size + 1), 1, none⟩ = some (.int .i64 0) := (E3.out.2 1 (by simp)).1
  have zE1 : w0.frozen? ⟨(w.heap.size + 1), 1, none⟩ = false := (E3.out.2 1 (by simp)).2
  have yE2 : w0.cell? ⟨(w.heap.size + 1), 2, none⟩ = some (.int .i64 0) := (E3.out.2 2 (by simp)).1
  have zE2 : w0.frozen? ⟨(w.heap.size + 1), 2, none⟩ = false := (E3.out.2 2 (by simp)).2
  have yE3 : w0.cell? ⟨(w.heap.size + 1), 3, none⟩ = some (.int .i64 0) := (E3.out.2 3 (by simp)).1
  have zE3 : w0.frozen? ⟨(w.heap.size + 1), 3, none⟩ = false := (E3.out.2 3 (by simp)).2
  have yE4 : w0.cell? ⟨(w.heap.size + 1), 4, none⟩ = some (.int .i64 0) := (E3.out.2 4 (by simp)).1
  have zE4 : w0.frozen? ⟨(w.heap.size + 1), 4, none⟩ = false := (E3.out.2 4 (by simp)).2
  have hlE : (w.heap.size + 1) < w0.heap.size := E3.out.1
  have hc0 : w0.cell? ⟨g, 0, none⟩ = some (.int .i64 a) := (B1.out.cell (p := ⟨g, 0, none⟩) hgl).trans H0.out
  have ng1 : ¬ g = w.heap.size := by omega
  have ng2 : ¬ g = w.heap.size + 1 := by omega
  have ng3 : ¬ w.heap.size = g := by omega
  have ng4 : ¬ w.heap.size + 1 = g := by omega
  go_wp2
  exact bodyPost_ret (v := .tuple #[.agg #[.int .i64 8, .int .i64 a, .int .i64 0, .int .i64 0, .int .i64 0], .bool true]) (by simp [results, Tryd.results14, go_sem, yR0, yR1, yR2, yR3, yR4]) rfl ⟨rfl, by repeat (first | exact B1.out | refine Below.setCell ?_ (by first | simp | omega) _)⟩
set_option maxHeartbeats 2000000 in
theorem nev_one_9 (a : Int) (g cap : Nat) (w : World) (h0 : w.cell? ⟨g, 0, none⟩ = some (.int .i64 a)) :
    Calls Tryd.prog 14 #[.int .i64 9, .slice (some ⟨g, 0, none⟩) 1 cap] w fun e w' => e = .returned (.tuple #[.agg #[.int .i64 (9), .int .i64 (a), .int .i64 (0), .int .i64 (0), .int .i64 (0)], .bool true]) ∧ Below w.heap.size w w' := by
  have hgl : g < w.heap.size := World.block_lt_of_cell? w _ h0
  have H0 := hid h0
  clear h0
  go_enter Tryd.func14, Tryd.ntmps14
  go_upto_region 2 with fail
  obtain ⟨w0, e0⟩ : ∃ w0, w0 = (w.alloc (.cells #[.int .i64 0, .int .i64 0, .int .i64 0, .int .i64 0, .int .i64 0] 23)).alloc (.cells #[.int .i64 9, .int .i64 0, .int .i64 0, .int .i64 0, .int .i64 0] 23) := ⟨_, rfl⟩
  have B1 : Hid (Below w.heap.size w w0) := by rw [e0]; exact ((Below.refl _ _).alloc (by simp) _).alloc (by simp) _
  have R2 : Hid (Bk w0 w.heap.size [.int .i64 0, .int .i64 0, .int .i64 0, .int .i64 0, .int .i64 0]) := by rw [e0]; exact (bk_new w 23 [.int .i64 0, .int .i64 0, .int .i64 0, .int .i64 0, .int .i64 0]).below ((Below.refl _ _).alloc (Nat.le_refl _) _)
  have E3 : Hid (Bk w0 (w.heap.size + 1) [.int .i64 9, .int .i64 0, .int .i64 0, .int .i64 0, .int .i64 0]) := by rw [e0]; have := bk_new (w.alloc (.cells #[.int .i64 0, .int .i64 0, .int .i64 0, .int .i64 0, .int .i64 0] 23)) 23 [.int .i64 9, .int .i64 0, .int .i64 0, .int .i64 0, .int .i64 0]; rwa [show (w.alloc (.cells #[.int .i64 0, .int .i64 0, .int .i64 0, .int .i64 0, .int .i64 0] 23)).heap.size = w.heap.size + 1 by simp] at this
  rw [← e0]
  clear e0
  have yR0 : w0.cell? ⟨w.heap.size, 0, none⟩ = some (.int .i64 0) := (R2.out.2 0 (by simp)).1
  have zR0 : w0.frozen? ⟨w.heap.size, 0, none⟩ = false := (R2.out.2 0 (by simp)).2
  have yR1 : w0.cell? ⟨w.heap.size, 1, none⟩ = some (.int .i64 0) := (R2.out.2 1 (by simp)).1
  have zR1 : w0.frozen? ⟨w.heap.size, 1, none⟩ = false := (R2.out.2 1 (by simp)).2
  have yR2 : w0.cell? ⟨w.heap.size, 2, none⟩ = some (.int .i64 0) := (R2.out.2 2 (by simp)).1
  have zR2 : w0.frozen? ⟨w.heap.size, 2, none⟩ = false := (R2.out.2 2 (by simp)).2
  have yR3 : w0.cell? ⟨w.heap.size, 3, none⟩ = some (.int .i64 0) := (R2.out.2 3 (by simp)).1
  have zR3 : w0.frozen? ⟨w.heap.size, 3, none⟩ = false := (R2.out.2 3 (by simp)).2
  have yR4 : w0.cell? ⟨w.heap.size, 4, none⟩ = some (.int .i64 0) := (R2.out.2 4 (by simp)).1
  have zR4 : w0.frozen? ⟨w.heap.size, 4, none⟩ = false := (R2.out.2 4 (by simp)).2
  have hlR : w.heap.size < w0.heap.size := R2.out.1
  have yE0 : w0.cell? ⟨(w.heap.size + 1), 0, none⟩ = some (.int .i64 9) := (E3.out.2 0 (by simp)).1
  have zE0 : w0.frozen? ⟨(w.heap.size + 1), 0, none⟩ = false := (E3.out.2 0 (by simp)).2
  have yE1 : w0.cell? ⟨(w.heap.size + 1), 1, none⟩ = some (.int .i64 0) := (E3.out.2 1 (by simp)).1
  have zE1 : w0.frozen? ⟨(w.heap.size + 1), 1, none⟩ = false := (E3.out.2 1 (by simp)).2
  have yE2 : w0.cell? ⟨(w.heap.size + 1), 2, none⟩ = some (.int .i64 0) := (E3.out.2 2 (by simp)).1
  have zE2 : w0.frozen? ⟨(w.heap.size + 1), 2, none⟩ = false := (E3.out.2 2 (by simp)).2
  have yE3 : w0.cell? ⟨(w.heap.size + 1), 3, none⟩ = some (.int .i64 0) := (E3.out.2 3 (by simp)).1
  have zE3 : w0.frozen? ⟨(w.heap.size + 1), 3, none⟩ = false := (E3.out.2 3 (by simp)).2
  have yE4 : w0.cell? ⟨(w.heap.size + 1), 4, none⟩ = some (.int .i64 0) := (E3.out.2 4 (by simp)).1
  have zE4 : w0.frozen? ⟨(w.heap.size + 1), 4, none⟩ = false := (E3.out.2 4 (by simp)).2
  have hlE : (w.heap.size + 1) < w0.heap.size := E3.out.1
  have hc0 : w0.cell? ⟨g, 0, none⟩ = some (.int .i64 a) := (B1.out.cell (p := ⟨g, 0, none⟩) hgl).trans H0.out
  have ng1 : ¬ g = w.heap.size := by omega
  have ng2 : ¬ g = w.heap.size + 1 := by omega
  have ng3 : ¬ w.heap.size = g := by omega
  have ng4 : ¬ w.heap.size + 1 = g := by omega
  go_wp2
  exact bodyPost_ret (v := .tuple #[.agg #[.int .i64 9, .int .i64 a, .int .i64 0, .int .i64 0, .int .i64 0], .bool true]) (by simp [results, Tryd.results14, go_sem, yR0, yR1, yR2, yR3, yR4]) rfl ⟨rfl, by repeat (first | exact B1.out | refine Below.setCell ?_ (by first | simp | omega) _)⟩
theorem nev_one_yes (k a : Int) (hk : k = 3 ∨ k = 4 ∨ k = 5 ∨ k = 6 ∨ k = 8 ∨ k = 9) (g cap : Nat) (w : World) (h0 : w.cell? ⟨g, 0, none⟩ = some (.int .i64 a)) :
    Calls Tryd.prog 14 #[.int .i64 k, .slice (some ⟨g, 0, none⟩) 1 cap] w fun e w' => e = .returned (.tuple #[.agg #[.int .i64 (k), .int .i64 (a), .int .i64 (0), .int .i64 (0), .int .i64 (0)], .bool true]) ∧ Below w.heap.size w w' := by
  rcases hk with rfl | rfl | rfl | rfl | rfl | rfl
  · exact nev_one_3 a g cap w h0
  · exact nev_one_4 a g cap w h0
  · exact nev_one_5 a g cap w h0
  · exact nev_one_6 a g cap w h0
  · exact nev_one_8 a g cap w h0
  · exact nev_one_9 a g cap w h0
end Go.Proofs.YtgioecjnghllhaaDoor
