/- CllFresh of the program; conditions: the cell lies in memory of its own. -/
import Derived.Test.YtoiehmnhfjmfeaaFr2
import Derived.Test.YtoiehmnhfjmfeaaCFresh
namespace Go.Proofs.Ytoiehmnhfjmfeaa
open Go.RowKit Go.Deep
set_option linter.unusedVariables false

theorem good_rise {c d : Int} {Z : Nat → Nat → Int} {n : Nat} (h : allB c d Z n = true) : ∀ j, j + 1 < n → Z j 0 < Z (j + 1) 0 := fun j hj => by
  have h1 := allB_down n (show j + 2 ≤ n by omega) h
  simp [allB, goodB] at h1
  omega
theorem all_rise {c d : Int} {Z : Nat → Nat → Int} {n : Nat} (h : allB c d Z n = true) (i : Nat) : ∀ j, i < j → j < n → Z i 0 < Z j 0
  | 0, h1, _ => by omega
  | j + 1, h1, h2 => by
    have h3 := good_rise h j h2
    by_cases e : i = j
    · subst e; exact h3
    · have := all_rise h i j (by omega) (by omega)
      omega
theorem mapW_none {W : Nat → Nat → Int} {z : Int} : ∀ n, Noone W n z → mapW W n z = none
  | 0, _ => rfl
  | n + 1, h => by
    have h1 : ¬ z = W n 0 := fun e => h n (by omega) e.symm
    simp only [mapW, putM, if_neg h1]
    exact mapW_none n (fun j hj => h j (by omega))
theorem mapW_some {W : Nat → Nat → Int} {z : Int} {m : Nat} : ∀ n, m < n → W m 0 = z → (∀ j, m < j → j < n → ¬ W j 0 = z) → mapW W n z = some (W m)
  | 0, h, _, _ => by omega
  | n + 1, h, hz, hu => by
    by_cases e : m = n
    · subst e; simp [mapW, putM, hz]
    · have h1 : ¬ z = W n 0 := fun e1 => hu n (by omega) (by omega) e1.symm
      simp only [mapW, putM, if_neg h1]
      exact mapW_some n (by omega) hz (fun j h2 h3 => hu j h2 (by omega))
theorem mapW_fnd {W : Nat → Nat → Int} {n : Nat} {z : Int} {f : Nat → Int} {t : Bool} (hr : ∀ i j, i < j → j < n → W i 0 < W j 0) (h : Fnd W n z f t) : (mapW W n z).isSome = t ∧ ((mapW W n z).getD fun _ => 0) = f := by
  rcases h with ⟨h1, rfl, h3⟩ | ⟨m, h1, rfl, h3⟩
  · rw [mapW_none n h1]
    exact ⟨rfl, funext fun j => (h3 j).symm⟩
  · rw [mapW_some n h1.1 h1.2.1 (fun j a b e => by have := hr m j a b; rw [e, h1.2.1] at this; omega)]
    exact ⟨rfl, funext fun j => (h3 j).symm⟩
theorem cllB_rise {c d : Int} {V : CV} (h : cllB c d V = true) : ∀ i j, i < j → j < V.nW → V.W i 0 < V.W j 0 := by
  simp only [cllB, Bool.and_eq_true] at h
  exact fun i j => all_rise h.2.1 i j

set_option maxHeartbeats 8000000 in
theorem fresh_impl (c d o0 o1 o2 o3 o4 : Int) (v : Value) (V : CV) (lo : Nat) (hs0 : V.short 1048576) (w : World) (h : CopyAt lo w v V) (hwf0 : ∀ k j, k < V.nW → j < 5 → (Lit.int .i64 (V.W k j)).wf = true) (hzw : (Lit.int .i64 o0).wf = true) (f : Nat → Int) (t : Bool) (hF0 : Fnd V.W V.nW o0 f t) :
    Calls Try.prog 23 #[.agg #[.int .i64 c, .int .i64 d], v, .agg #[.int .i64 o0, .int .i64 o1, .int .i64 o2, .int .i64 o3, .int .i64 o4]] w fun e w' => e = .returned (.bool (cllB c d V && (ordB o0 o1 o2 o3 o4 && (t && decide (f 3 < o1))))) ∧ Below w.heap.size w w' := by
  obtain ⟨bW, bO, bX, bI, q0, q1, q2, q3, q4, rfl, g1, g2, g3, g4⟩ := h
  have CP : Hid (CopyAt lo w (.agg #[.int .i64 V.c, .slice (some ⟨bW, 0, none⟩) V.nW V.nW, .int .i64 V.g, .slice (some ⟨bO, 0, none⟩) V.nO V.nO, .slice (some ⟨bX, 0, none⟩) V.nX V.nX, .slice (some ⟨bI, 0, none⟩) V.nI V.nI]) V) := ⟨bW, bO, bX, bI, q0, q1, q2, q3, q4, rfl, g1, g2, g3, g4⟩
  have hs : Hid (V.short 1048576) := hs0
  have hwf : Hid (∀ k j, k < V.nW → j < 5 → (Lit.int .i64 (V.W k j)).wf = true) := hwf0
  have hF : Hid (Fnd V.W V.nW o0 f t) := hF0
  clear g1 g2 g3 g4 hs0 hwf0 hF0 q0 q1 q2 q3 q4
  cases h1 : cllB c d V
  · skip
    go_enter Try.func23, Try.ntmps23
    go_wp2_with fail
    obtain ⟨w0, e0⟩ : ∃ w0, w0 = (((w.alloc (.cells #[.int .i64 c, .int .i64 d] 32)).alloc (.cells #[.int .i64 V.c, .slice (some ⟨bW, 0, none⟩) V.nW V.nW, .int .i64 V.g, .slice (some ⟨bO, 0, none⟩) V.nO V.nO, .slice (some ⟨bX, 0, none⟩) V.nX V.nX, .slice (some ⟨bI, 0, none⟩) V.nI V.nI] 30)).alloc (.cells #[.int .i64 o0, .int .i64 o1, .int .i64 o2, .int .i64 o3, .int .i64 o4] 50)) := ⟨_, rfl⟩
    have z0 : w.heap.size + 3 ≤ w0.heap.size := by rw [e0]; simp
    have B0 : Hid (Below w.heap.size w w0) := by rw [e0]; exact (((Below.refl _ _).alloc (by simp) _).alloc (by simp) _).alloc (by simp; omega) _
    have A0 : Hid (Six w0 (w.heap.size + 1) [.int .i64 V.c, .slice (some ⟨bW, 0, none⟩) V.nW V.nW, .int .i64 V.g, .slice (some ⟨bO, 0, none⟩) V.nO V.nO, .slice (some ⟨bX, 0, none⟩) V.nX V.nX, .slice (some ⟨bI, 0, none⟩) V.nI V.nI]) := by rw [e0]; exact (six_box2 w #[.int .i64 c, .int .i64 d] 32 30 (.int .i64 V.c) (.slice (some ⟨bW, 0, none⟩) V.nW V.nW) (.int .i64 V.g) (.slice (some ⟨bO, 0, none⟩) V.nO V.nO) (.slice (some ⟨bX, 0, none⟩) V.nX V.nX) (.slice (some ⟨bI, 0, none⟩) V.nI V.nI)).below (by simp) ((Below.refl _ _).alloc (Nat.le_refl _) _)
    have O0 : Hid (∀ i, i < 5 → w0.cell? ⟨w.heap.size + 1 + 1, i, none⟩ = some (.int .i64 ([o0, o1, o2, o3, o4].getD i 0))) := by rw [e0]; exact five_box50 w _ _ o0 o1 o2 o3 o4
    have m0 : w0.cell? ⟨w.heap.size, 0, none⟩ = some (.int .i64 c) := by rw [e0]; exact ((((Below.refl _ (w.alloc (.cells #[.int .i64 c, .int .i64 d] 32))).alloc (Nat.le_refl _) _).alloc (by simp) _).cell (p := ⟨w.heap.size, 0, none⟩) (by simp)).trans (by simp)
    have m1 : w0.cell? ⟨w.heap.size, 1, none⟩ = some (.int .i64 d) := by rw [e0]; exact ((((Below.refl _ (w.alloc (.cells #[.int .i64 c, .int .i64 d] 32))).alloc (Nat.le_refl _) _).alloc (by simp) _).cell (p := ⟨w.heap.size, 1, none⟩) (by simp)).trans (by simp)
    have a0 : w0.cell? ⟨w.heap.size + 1, 0, none⟩ = some (.int .i64 V.c) := (A0.out 0 (by decide)).1
    have a1 : w0.cell? ⟨w.heap.size + 1, 1, none⟩ = some (.slice (some ⟨bW, 0, none⟩) V.nW V.nW) := (A0.out 1 (by decide)).1
    have a2 : w0.cell? ⟨w.heap.size + 1, 2, none⟩ = some (.int .i64 V.g) := (A0.out 2 (by decide)).1
    have a3 : w0.cell? ⟨w.heap.size + 1, 3, none⟩ = some (.slice (some ⟨bO, 0, none⟩) V.nO V.nO) := (A0.out 3 (by decide)).1
    have a4 : w0.cell? ⟨w.heap.size + 1, 4, none⟩ = some (.slice (some ⟨bX, 0, none⟩) V.nX V.nX) := (A0.out 4 (by decide)).1
    have a5 : w0.cell? ⟨w.heap.size + 1, 5, none⟩ = some (.slice (some ⟨bI, 0, none⟩) V.nI V.nI) := (A0.out 5 (by decide)).1
    have u0 : w0.cell? ⟨w.heap.size + 1 + 1, 0, none⟩ = some (.int .i64 o0) := O0.out 0 (by decide)
    have u1 : w0.cell? ⟨w.heap.size + 1 + 1, 1, none⟩ = some (.int .i64 o1) := O0.out 1 (by decide)
    have u2 : w0.cell? ⟨w.heap.size + 1 + 1, 2, none⟩ = some (.int .i64 o2) := O0.out 2 (by decide)
    have u3 : w0.cell? ⟨w.heap.size + 1 + 1, 3, none⟩ = some (.int .i64 o3) := O0.out 3 (by decide)
    have u4 : w0.cell? ⟨w.heap.size + 1 + 1, 4, none⟩ = some (.int .i64 o4) := O0.out 4 (by decide)
    rw [← e0]
    clear e0 A0 O0
    refine wp_region_held_drew (S := fun w' => Below w0.heap.size w0 w') (by kernel_rfl) ((Below.refl _ _).drew) ?_
    intro hHeld
    refine wpAnyH_take (i := 0) (v := .agg #[.int .i64 c, .int .i64 d]) rfl (by kernel_rfl) (by kernel_rfl) (by kernel_rfl) (fun _ _ _ h => h) (Or.inl ⟨by rfl, ?_⟩) (by assumption) ?_
    · intro wx hSw; have xm0 := (hSw.cell (p := ⟨w.heap.size, 0, none⟩) (by show w.heap.size < _; omega)).trans m0; have xm1 := (hSw.cell (p := ⟨w.heap.size, 1, none⟩) (by show w.heap.size < _; omega)).trans m1; go_simp
    try simp only [Act.put, List.setIfInBounds_toArray, List.set_cons_zero, List.set_cons_succ, List.getElem_toArray, List.getElem_cons_zero]
    refine wpAnyH_take (i := 1) (v := .agg #[.int .i64 V.c, .slice (some ⟨bW, 0, none⟩) V.nW V.nW, .int .i64 V.g, .slice (some ⟨bO, 0, none⟩) V.nO V.nO, .slice (some ⟨bX, 0, none⟩) V.nX V.nX, .slice (some ⟨bI, 0, none⟩) V.nI V.nI]) rfl (by kernel_rfl) (by kernel_rfl) (by kernel_rfl) (fun _ _ _ h => h) (Or.inl ⟨by rfl, ?_⟩) (by assumption) ?_
    · intro wx hSw; have xa0 := (hSw.cell (p := ⟨w.heap.size + 1, 0, none⟩) (by show w.heap.size + 1 < _; omega)).trans a0; have xa1 := (hSw.cell (p := ⟨w.heap.size + 1, 1, none⟩) (by show w.heap.size + 1 < _; omega)).trans a1; have xa2 := (hSw.cell (p := ⟨w.heap.size + 1, 2, none⟩) (by show w.heap.size + 1 < _; omega)).trans a2; have xa3 := (hSw.cell (p := ⟨w.heap.size + 1, 3, none⟩) (by show w.heap.size + 1 < _; omega)).trans a3; have xa4 := (hSw.cell (p := ⟨w.heap.size + 1, 4, none⟩) (by show w.heap.size + 1 < _; omega)).trans a4; have xa5 := (hSw.cell (p := ⟨w.heap.size + 1, 5, none⟩) (by show w.heap.size + 1 < _; omega)).trans a5; go_simp
    try simp only [Act.put, List.setIfInBounds_toArray, List.set_cons_zero, List.set_cons_succ, List.getElem_toArray, List.getElem_cons_zero, List.getElem_cons_succ]
    refine wpAnyH_ready (rs := [2]) (by kernel_rfl) (by simp) ?_
    refine AllReadyH.cons rfl (fun K hK => ?_) AllReadyH.nil
    go_simp
    go_wp2_with fail
    refine (cllOk_impl c d _ V lo hs.out _ (CP.out.below (bthen B0.out hHeld))).mono ?_
    rintro e w1 ⟨rfl, hb1⟩
    rw [h1]
    refine hK.out _ _ (bthen hHeld hb1) (fun hNew => ?_)
    clear hK K hHeld
    have hHeld := hNew
    clear hNew
    try simp only [Act.put, List.setIfInBounds_toArray, List.set_cons_zero, List.set_cons_succ, List.getElem_toArray, List.getElem_cons_zero, List.getElem_cons_succ]
    refine wpAnyH_take (i := 3) (v := .bool false) rfl (by kernel_rfl) (by kernel_rfl) (by kernel_rfl) (fun _ _ _ h => h) (Or.inl ⟨by rfl, ?_⟩) (by assumption) ?_
    · intro wx hSw; go_simp
    try simp only [Act.put, List.setIfInBounds_toArray, List.set_cons_zero, List.set_cons_succ, List.getElem_toArray, List.getElem_cons_zero, List.getElem_cons_succ]
    refine wpAnyH_take (i := 4) (v := undef) rfl (by kernel_rfl) (by kernel_rfl) (by kernel_rfl) (fun _ _ _ h => h) (Or.inr ⟨by rfl, rfl⟩) (by assumption) ?_
    try simp only [Act.put, List.setIfInBounds_toArray, List.set_cons_zero, List.set_cons_succ, List.getElem_toArray, List.getElem_cons_zero, List.getElem_cons_succ]
    refine wpAnyH_take (i := 5) (v := undef) rfl (by kernel_rfl) (by kernel_rfl) (by kernel_rfl) (fun _ _ _ h => h) (Or.inr ⟨by rfl, rfl⟩) (by assumption) ?_
    try simp only [Act.put, List.setIfInBounds_toArray, List.set_cons_zero, List.set_cons_succ, List.getElem_toArray, List.getElem_cons_zero, List.getElem_cons_succ]
    refine wpAnyH_take (i := 6) (v := .bool false) rfl (by kernel_rfl) (by kernel_rfl) (by kernel_rfl) (fun _ _ _ h => h) (Or.inl ⟨by rfl, ?_⟩) (by assumption) ?_
    · intro wx hSw; go_simp
    try simp only [Act.put, List.setIfInBounds_toArray, List.set_cons_zero, List.set_cons_succ, List.getElem_toArray, List.getElem_cons_zero, List.getElem_cons_succ]
    refine wpAnyH_take (i := 7) (v := .bool false) rfl (by kernel_rfl) (by kernel_rfl) (by kernel_rfl) (fun _ _ _ h => h) (Or.inl ⟨by rfl, ?_⟩) (by assumption) ?_
    · intro wx hSw; go_simp
    try simp only [Act.put, List.setIfInBounds_toArray, List.set_cons_zero, List.set_cons_succ, List.getElem_toArray, List.getElem_cons_zero, List.getElem_cons_succ]
    refine wpAnyH_take (i := 8) (v := undef) rfl (by kernel_rfl) (by kernel_rfl) (by kernel_rfl) (fun _ _ _ h => h) (Or.inr ⟨by rfl, rfl⟩) (by assumption) ?_
    try simp only [Act.put, List.setIfInBounds_toArray, List.set_cons_zero, List.set_cons_succ, List.getElem_toArray, List.getElem_cons_zero, List.getElem_cons_succ]
    refine wpAnyH_take (i := 9) (v := undef) rfl (by kernel_rfl) (by kernel_rfl) (by kernel_rfl) (fun _ _ _ h => h) (Or.inr ⟨by rfl, rfl⟩) (by assumption) ?_
    try simp only [Act.put, List.setIfInBounds_toArray, List.set_cons_zero, List.set_cons_succ, List.getElem_toArray, List.getElem_cons_zero, List.getElem_cons_succ]
    refine wpAnyH_take (i := 10) (v := undef) rfl (by kernel_rfl) (by kernel_rfl) (by kernel_rfl) (fun _ _ _ h => h) (Or.inr ⟨by rfl, rfl⟩) (by assumption) ?_
    try simp only [Act.put, List.setIfInBounds_toArray, List.set_cons_zero, List.set_cons_succ, List.getElem_toArray, List.getElem_cons_zero, List.getElem_cons_succ]
    refine wpAnyH_take (i := 11) (v := undef) rfl (by kernel_rfl) (by kernel_rfl) (by kernel_rfl) (fun _ _ _ h => h) (Or.inr ⟨by rfl, rfl⟩) (by assumption) ?_
    try simp only [Act.put, List.setIfInBounds_toArray, List.set_cons_zero, List.set_cons_succ, List.getElem_toArray, List.getElem_cons_zero, List.getElem_cons_succ]
    refine wpAnyH_take (i := 12) (v := undef) rfl (by kernel_rfl) (by kernel_rfl) (by kernel_rfl) (fun _ _ _ h => h) (Or.inr ⟨by rfl, rfl⟩) (by assumption) ?_
    try simp only [Act.put, List.setIfInBounds_toArray, List.set_cons_zero, List.set_cons_succ, List.getElem_toArray, List.getElem_cons_zero, List.getElem_cons_succ]
    refine wpAnyH_take (i := 13) (v := .bool false) rfl (by kernel_rfl) (by kernel_rfl) (by kernel_rfl) (fun _ _ _ h => h) (Or.inl ⟨by rfl, ?_⟩) (by assumption) ?_
    · intro wx hSw; go_simp
    try simp only [Act.put, List.setIfInBounds_toArray, List.set_cons_zero, List.set_cons_succ, List.getElem_toArray, List.getElem_cons_zero, List.getElem_cons_succ]
    refine wpAnyH_take (i := 14) (v := .bool false) rfl (by kernel_rfl) (by kernel_rfl) (by kernel_rfl) (fun _ _ _ h => h) (Or.inl ⟨by rfl, ?_⟩) (by assumption) ?_
    · intro wx hSw; go_simp
    try simp only [Act.put, List.setIfInBounds_toArray, List.set_cons_zero, List.set_cons_succ, List.getElem_toArray, List.getElem_cons_zero, List.getElem_cons_succ]
    refine wpAnyH_done (by kernel_rfl) ?_ _
    have HB : Hid (Below w.heap.size w _) := bthen B0.out hHeld
    clear hHeld m0 m1 a0 a1 a2 a3 a4 a5 u0 u1 u2 u3 u4
    go_wp2
    go_ret
    exact ⟨by simp, HB.out⟩
  cases h2 : ordB o0 o1 o2 o3 o4
  · skip
    go_enter Try.func23, Try.ntmps23
    go_wp2_with fail
    obtain ⟨w0, e0⟩ : ∃ w0, w0 = (((w.alloc (.cells #[.int .i64 c, .int .i64 d] 32)).alloc (.cells #[.int .i64 V.c, .slice (some ⟨bW, 0, none⟩) V.nW V.nW, .int .i64 V.g, .slice (some ⟨bO, 0, none⟩) V.nO V.nO, .slice (some ⟨bX, 0, none⟩) V.nX V.nX, .slice (some ⟨bI, 0, none⟩) V.nI V.nI] 30)).alloc (.cells #[.int .i64 o0, .int .i64 o1, .int .i64 o2, .int .i64 o3, .int .i64 o4] 50)) := ⟨_, rfl⟩
    have z0 : w.heap.size + 3 ≤ w0.heap.size := by rw [e0]; simp
    have B0 : Hid (Below w.heap.size w w0) := by rw [e0]; exact (((Below.refl _ _).alloc (by simp) _).alloc (by simp) _).alloc (by simp; omega) _
    have A0 : Hid (Six w0 (w.heap.size + 1) [.int .i64 V.c, .slice (some ⟨bW, 0, none⟩) V.nW V.nW, .int .i64 V.g, .slice (some ⟨bO, 0, none⟩) V.nO V.nO, .slice (some ⟨bX, 0, none⟩) V.nX V.nX, .slice (some ⟨bI, 0, none⟩) V.nI V.nI]) := by rw [e0]; exact (six_box2 w #[.int .i64 c, .int .i64 d] 32 30 (.int .i64 V.c) (.slice (some ⟨bW, 0, none⟩) V.nW V.nW) (.int .i64 V.g) (.slice (some ⟨bO, 0, none⟩) V.nO V.nO) (.slice (some ⟨bX, 0, none⟩) V.nX V.nX) (.slice (some ⟨bI, 0, none⟩) V.nI V.nI)).below (by simp) ((Below.refl _ _).alloc (Nat.le_refl _) _)
    have O0 : Hid (∀ i, i < 5 → w0.cell? ⟨w.heap.size + 1 + 1, i, none⟩ = some (.int .i64 ([o0, o1, o2, o3, o4].getD i 0))) := by rw [e0]; exact five_box50 w _ _ o0 o1 o2 o3 o4
    have m0 : w0.cell? ⟨w.heap.size, 0, none⟩ = some (.int .i64 c) := by rw [e0]; exact ((((Below.refl _ (w.alloc (.cells #[.int .i64 c, .int .i64 d] 32))).alloc (Nat.le_refl _) _).alloc (by simp) _).cell (p := ⟨w.heap.size, 0, none⟩) (by simp)).trans (by simp)
    have m1 : w0.cell? ⟨w.heap.size, 1, none⟩ = some (.int .i64 d) := by rw [e0]; exact ((((Below.refl _ (w.alloc (.cells #[.int .i64 c, .int .i64 d] 32))).alloc (Nat.le_refl _) _).alloc (by simp) _).cell (p := ⟨w.heap.size, 1, none⟩) (by simp)).trans (by simp)
    have a0 : w0.cell? ⟨w.heap.size + 1, 0, none⟩ = some (.int .i64 V.c) := (A0.out 0 (by decide)).1
    have a1 : w0.cell? ⟨w.heap.size + 1, 1, none⟩ = some (.slice (some ⟨bW, 0, none⟩) V.nW V.nW) := (A0.out 1 (by decide)).1
    have a2 : w0.cell? ⟨w.heap.size + 1, 2, none⟩ = some (.int .i64 V.g) := (A0.out 2 (by decide)).1
    have a3 : w0.cell? ⟨w.heap.size + 1, 3, none⟩ = some (.slice (some ⟨bO, 0, none⟩) V.nO V.nO) := (A0.out 3 (by decide)).1
    have a4 : w0.cell? ⟨w.heap.size + 1, 4, none⟩ = some (.slice (some ⟨bX, 0, none⟩) V.nX V.nX) := (A0.out 4 (by decide)).1
    have a5 : w0.cell? ⟨w.heap.size + 1, 5, none⟩ = some (.slice (some ⟨bI, 0, none⟩) V.nI V.nI) := (A0.out 5 (by decide)).1
    have u0 : w0.cell? ⟨w.heap.size + 1 + 1, 0, none⟩ = some (.int .i64 o0) := O0.out 0 (by decide)
    have u1 : w0.cell? ⟨w.heap.size + 1 + 1, 1, none⟩ = some (.int .i64 o1) := O0.out 1 (by decide)
    have u2 : w0.cell? ⟨w.heap.size + 1 + 1, 2, none⟩ = some (.int .i64 o2) := O0.out 2 (by decide)
    have u3 : w0.cell? ⟨w.heap.size + 1 + 1, 3, none⟩ = some (.int .i64 o3) := O0.out 3 (by decide)
    have u4 : w0.cell? ⟨w.heap.size + 1 + 1, 4, none⟩ = some (.int .i64 o4) := O0.out 4 (by decide)
    rw [← e0]
    clear e0 A0 O0
    refine wp_region_held_drew (S := fun w' => Below w0.heap.size w0 w') (by kernel_rfl) ((Below.refl _ _).drew) ?_
    intro hHeld
    refine wpAnyH_take (i := 0) (v := .agg #[.int .i64 c, .int .i64 d]) rfl (by kernel_rfl) (by kernel_rfl) (by kernel_rfl) (fun _ _ _ h => h) (Or.inl ⟨by rfl, ?_⟩) (by assumption) ?_
    · intro wx hSw; have xm0 := (hSw.cell (p := ⟨w.heap.size, 0, none⟩) (by show w.heap.size < _; omega)).trans m0; have xm1 := (hSw.cell (p := ⟨w.heap.size, 1, none⟩) (by show w.heap.size < _; omega)).trans m1; go_simp
    try simp only [Act.put, List.setIfInBounds_toArray, List.set_cons_zero, List.set_cons_succ, List.getElem_toArray, List.getElem_cons_zero]
    refine wpAnyH_take (i := 1) (v := .agg #[.int .i64 V.c, .slice (some ⟨bW, 0, none⟩) V.nW V.nW, .int .i64 V.g, .slice (some ⟨bO, 0, none⟩) V.nO V.nO, .slice (some ⟨bX, 0, none⟩) V.nX V.nX, .slice (some ⟨bI, 0, none⟩) V.nI V.nI]) rfl (by kernel_rfl) (by kernel_rfl) (by kernel_rfl) (fun _ _ _ h => h) (Or.inl ⟨by rfl, ?_⟩) (by assumption) ?_
    · intro wx hSw; have xa0 := (hSw.cell (p := ⟨w.heap.size + 1, 0, none⟩) (by show w.heap.size + 1 < _; omega)).trans a0; have xa1 := (hSw.cell (p := ⟨w.heap.size + 1, 1, none⟩) (by show w.heap.size + 1 < _; omega)).trans a1; have xa2 := (hSw.cell (p := ⟨w.heap.size + 1, 2, none⟩) (by show w.heap.size + 1 < _; omega)).trans a2; have xa3 := (hSw.cell (p := ⟨w.heap.size + 1, 3, none⟩) (by show w.heap.size + 1 < _; omega)).trans a3; have xa4 := (hSw.cell (p := ⟨w.heap.size + 1, 4, none⟩) (by show w.heap.size + 1 < _; omega)).trans a4; have xa5 := (hSw.cell (p := ⟨w.heap.size + 1, 5, none⟩) (by show w.heap.size + 1 < _; omega)).trans a5; go_simp
    try simp only [Act.put, List.setIfInBounds_toArray, List.set_cons_zero, List.set_cons_succ, List.getElem_toArray, List.getElem_cons_zero, List.getElem_cons_succ]
    refine wpAnyH_ready (rs := [2]) (by kernel_rfl) (by simp) ?_
    refine AllReadyH.cons rfl (fun K hK => ?_) AllReadyH.nil
    go_simp
    go_wp2_with fail
    refine (cllOk_impl c d _ V lo hs.out _ (CP.out.below (bthen B0.out hHeld))).mono ?_
    rintro e w1 ⟨rfl, hb1⟩
    rw [h1]
    refine hK.out _ _ (bthen hHeld hb1) (fun hNew => ?_)
    clear hK K hHeld
    have hHeld := hNew
    clear hNew
    try simp only [Act.put, List.setIfInBounds_toArray, List.set_cons_zero, List.set_cons_succ, List.getElem_toArray, List.getElem_cons_zero, List.getElem_cons_succ]
    refine wpAnyH_take (i := 3) (v := .bool true) rfl (by kernel_rfl) (by kernel_rfl) (by kernel_rfl) (fun _ _ _ h => h) (Or.inl ⟨by rfl, ?_⟩) (by assumption) ?_
    · intro wx hSw; go_simp
    try simp only [Act.put, List.setIfInBounds_toArray, List.set_cons_zero, List.set_cons_succ, List.getElem_toArray, List.getElem_cons_zero, List.getElem_cons_succ]
    refine wpAnyH_take (i := 4) (v := .agg #[.int .i64 o0, .int .i64 o1, .int .i64 o2, .int .i64 o3, .int .i64 o4]) rfl (by kernel_rfl) (by kernel_rfl) (by kernel_rfl) (fun _ _ _ h => h) (Or.inl ⟨by rfl, ?_⟩) (by assumption) ?_
    · intro wx hSw; have xu0 := (hSw.cell (p := ⟨w.heap.size + 1 + 1, 0, none⟩) (by show w.heap.size + 1 + 1 < _; omega)).trans u0; have xu1 := (hSw.cell (p := ⟨w.heap.size + 1 + 1, 1, none⟩) (by show w.heap.size + 1 + 1 < _; omega)).trans u1; have xu2 := (hSw.cell (p := ⟨w.heap.size + 1 + 1, 2, none⟩) (by show w.heap.size + 1 + 1 < _; omega)).trans u2; have xu3 := (hSw.cell (p := ⟨w.heap.size + 1 + 1, 3, none⟩) (by show w.heap.size + 1 + 1 < _; omega)).trans u3; have xu4 := (hSw.cell (p := ⟨w.heap.size + 1 + 1, 4, none⟩) (by show w.heap.size + 1 + 1 < _; omega)).trans u4; go_simp
    try simp only [Act.put, List.setIfInBounds_toArray, List.set_cons_zero, List.set_cons_succ, List.getElem_toArray, List.getElem_cons_zero, List.getElem_cons_succ]
    refine wpAnyH_ready (rs := [5]) (by kernel_rfl) (by simp) ?_
    refine AllReadyH.cons rfl (fun K hK => ?_) AllReadyH.nil
    go_simp
    go_wp2_with fail
    refine (ordOk_impl _ _ _ _ _ _).mono ?_
    rintro e w2 ⟨rfl, hb2⟩
    rw [h2]
    refine hK.out _ _ (bthen hHeld hb2) (fun hNew => ?_)
    clear hK K hHeld
    have hHeld := hNew
    clear hNew
    try simp only [Act.put, List.setIfInBounds_toArray, List.set_cons_zero, List.set_cons_succ, List.getElem_toArray, List.getElem_cons_zero, List.getElem_cons_succ]
    refine wpAnyH_take (i := 6) (v := .bool false) rfl (by kernel_rfl) (by kernel_rfl) (by kernel_rfl) (fun _ _ _ h => h) (Or.inl ⟨by rfl, ?_⟩) (by assumption) ?_
    · intro wx hSw; go_simp
    try simp only [Act.put, List.setIfInBounds_toArray, List.set_cons_zero, List.set_cons_succ, List.getElem_toArray, List.getElem_cons_zero, List.getElem_cons_succ]
    refine wpAnyH_take (i := 7) (v := .bool false) rfl (by kernel_rfl) (by kernel_rfl) (by kernel_rfl) (fun _ _ _ h => h) (Or.inl ⟨by rfl, ?_⟩) (by assumption) ?_
    · intro wx hSw; go_simp
    try simp only [Act.put, List.setIfInBounds_toArray, List.set_cons_zero, List.set_cons_succ, List.getElem_toArray, List.getElem_cons_zero, List.getElem_cons_succ]
    refine wpAnyH_take (i := 8) (v := undef) rfl (by kernel_rfl) (by kernel_rfl) (by kernel_rfl) (fun _ _ _ h => h) (Or.inr ⟨by rfl, rfl⟩) (by assumption) ?_
    try simp only [Act.put, List.setIfInBounds_toArray, List.set_cons_zero, List.set_cons_succ, List.getElem_toArray, List.getElem_cons_zero, List.getElem_cons_succ]
    refine wpAnyH_take (i := 9) (v := undef) rfl (by kernel_rfl) (by kernel_rfl) (by kernel_rfl) (fun _ _ _ h => h) (Or.inr ⟨by rfl, rfl⟩) (by assumption) ?_
    try simp only [Act.put, List.setIfInBounds_toArray, List.set_cons_zero, List.set_cons_succ, List.getElem_toArray, List.getElem_cons_zero, List.getElem_cons_succ]
    refine wpAnyH_take (i := 10) (v := undef) rfl (by kernel_rfl) (by kernel_rfl) (by kernel_rfl) (fun _ _ _ h => h) (Or.inr ⟨by rfl, rfl⟩) (by assumption) ?_
    try simp only [Act.put, List.setIfInBounds_toArray, List.set_cons_zero, List.set_cons_succ, List.getElem_toArray, List.getElem_cons_zero, List.getElem_cons_succ]
    refine wpAnyH_take (i := 11) (v := undef) rfl (by kernel_rfl) (by kernel_rfl) (by kernel_rfl) (fun _ _ _ h => h) (Or.inr ⟨by rfl, rfl⟩) (by assumption) ?_
    try simp only [Act.put, List.setIfInBounds_toArray, List.set_cons_zero, List.set_cons_succ, List.getElem_toArray, List.getElem_cons_zero, List.getElem_cons_succ]
    refine wpAnyH_take (i := 12) (v := undef) rfl (by kernel_rfl) (by kernel_rfl) (by kernel_rfl) (fun _ _ _ h => h) (Or.inr ⟨by rfl, rfl⟩) (by assumption) ?_
    try simp only [Act.put, List.setIfInBounds_toArray, List.set_cons_zero, List.set_cons_succ, List.getElem_toArray, List.getElem_cons_zero, List.getElem_cons_succ]
    refine wpAnyH_take (i := 13) (v := .bool false) rfl (by kernel_rfl) (by kernel_rfl) (by kernel_rfl) (fun _ _ _ h => h) (Or.inl ⟨by rfl, ?_⟩) (by assumption) ?_
    · intro wx hSw; go_simp
    try simp only [Act.put, List.setIfInBounds_toArray, List.set_cons_zero, List.set_cons_succ, List.getElem_toArray, List.getElem_cons_zero, List.getElem_cons_succ]
    refine wpAnyH_take (i := 14) (v := .bool false) rfl (by kernel_rfl) (by kernel_rfl) (by kernel_rfl) (fun _ _ _ h => h) (Or.inl ⟨by rfl, ?_⟩) (by assumption) ?_
    · intro wx hSw; go_simp
    try simp only [Act.put, List.setIfInBounds_toArray, List.set_cons_zero, List.set_cons_succ, List.getElem_toArray, List.getElem_cons_zero, List.getElem_cons_succ]
    refine wpAnyH_done (by kernel_rfl) ?_ _
    have HB : Hid (Below w.heap.size w _) := bthen B0.out hHeld
    clear hHeld m0 m1 a0 a1 a2 a3 a4 a5 u0 u1 u2 u3 u4
    go_wp2
    go_ret
    exact ⟨by simp, HB.out⟩
  obtain ⟨hT, hY⟩ := mapW_fnd (cllB_rise h1) hF.out
  go_enter Try.func23, Try.ntmps23
  go_wp2_with fail
  obtain ⟨w0, e0⟩ : ∃ w0, w0 = (((w.alloc (.cells #[.int .i64 c, .int .i64 d] 32)).alloc (.cells #[.int .i64 V.c, .slice (some ⟨bW, 0, none⟩) V.nW V.nW, .int .i64 V.g, .slice (some ⟨bO, 0, none⟩) V.nO V.nO, .slice (some ⟨bX, 0, none⟩) V.nX V.nX, .slice (some ⟨bI, 0, none⟩) V.nI V.nI] 30)).alloc (.cells #[.int .i64 o0, .int .i64 o1, .int .i64 o2, .int .i64 o3, .int .i64 o4] 50)) := ⟨_, rfl⟩
  have z0 : w.heap.size + 3 ≤ w0.heap.size := by rw [e0]; simp
  have B0 : Hid (Below w.heap.size w w0) := by rw [e0]; exact (((Below.refl _ _).alloc (by simp) _).alloc (by simp) _).alloc (by simp; omega) _
  have A0 : Hid (Six w0 (w.heap.size + 1) [.int .i64 V.c, .slice (some ⟨bW, 0, none⟩) V.nW V.nW, .int .i64 V.g, .slice (some ⟨bO, 0, none⟩) V.nO V.nO, .slice (some ⟨bX, 0, none⟩) V.nX V.nX, .slice (some ⟨bI, 0, none⟩) V.nI V.nI]) := by rw [e0]; exact (six_box2 w #[.int .i64 c, .int .i64 d] 32 30 (.int .i64 V.c) (.slice (some ⟨bW, 0, none⟩) V.nW V.nW) (.int .i64 V.g) (.slice (some ⟨bO, 0, none⟩) V.nO V.nO) (.slice (some ⟨bX, 0, none⟩) V.nX V.nX) (.slice (some ⟨bI, 0, none⟩) V.nI V.nI)).below (by simp) ((Below.refl _ _).alloc (Nat.le_refl _) _)
  have O0 : Hid (∀ i, i < 5 → w0.cell? ⟨w.heap.size + 1 + 1, i, none⟩ = some (.int .i64 ([o0, o1, o2, o3, o4].getD i 0))) := by rw [e0]; exact five_box50 w _ _ o0 o1 o2 o3 o4
  have m0 : w0.cell? ⟨w.heap.size, 0, none⟩ = some (.int .i64 c) := by rw [e0]; exact ((((Below.refl _ (w.alloc (.cells #[.int .i64 c, .int .i64 d] 32))).alloc (Nat.le_refl _) _).alloc (by simp) _).cell (p := ⟨w.heap.size, 0, none⟩) (by simp)).trans (by simp)
  have m1 : w0.cell? ⟨w.heap.size, 1, none⟩ = some (.int .i64 d) := by rw [e0]; exact ((((Below.refl _ (w.alloc (.cells #[.int .i64 c, .int .i64 d] 32))).alloc (Nat.le_refl _) _).alloc (by simp) _).cell (p := ⟨w.heap.size, 1, none⟩) (by simp)).trans (by simp)
  have a0 : w0.cell? ⟨w.heap.size + 1, 0, none⟩ = some (.int .i64 V.c) := (A0.out 0 (by decide)).1
  have a1 : w0.cell? ⟨w.heap.size + 1, 1, none⟩ = some (.slice (some ⟨bW, 0, none⟩) V.nW V.nW) := (A0.out 1 (by decide)).1
  have a2 : w0.cell? ⟨w.heap.size + 1, 2, none⟩ = some (.int .i64 V.g) := (A0.out 2 (by decide)).1
  have a3 : w0.cell? ⟨w.heap.size + 1, 3, none⟩ = some (.slice (some ⟨bO, 0, none⟩) V.nO V.nO) := (A0.out 3 (by decide)).1
  have a4 : w0.cell? ⟨w.heap.size + 1, 4, none⟩ = some (.slice (some ⟨bX, 0, none⟩) V.nX V.nX) := (A0.out 4 (by decide)).1
  have a5 : w0.cell? ⟨w.heap.size + 1, 5, none⟩ = some (.slice (some ⟨bI, 0, none⟩) V.nI V.nI) := (A0.out 5 (by decide)).1
  have u0 : w0.cell? ⟨w.heap.size + 1 + 1, 0, none⟩ = some (.int .i64 o0) := O0.out 0 (by decide)
  have u1 : w0.cell? ⟨w.heap.size + 1 + 1, 1, none⟩ = some (.int .i64 o1) := O0.out 1 (by decide)
  have u2 : w0.cell? ⟨w.heap.size + 1 + 1, 2, none⟩ = some (.int .i64 o2) := O0.out 2 (by decide)
  have u3 : w0.cell? ⟨w.heap.size + 1 + 1, 3, none⟩ = some (.int .i64 o3) := O0.out 3 (by decide)
  have u4 : w0.cell? ⟨w.heap.size + 1 + 1, 4, none⟩ = some (.int .i64 o4) := O0.out 4 (by decide)
  rw [← e0]
  clear e0 A0 O0
  refine wp_region_held_drew (S := fun w' => Below w0.heap.size w0 w') (by kernel_rfl) ((Below.refl _ _).drew) ?_
  intro hHeld
  refine wpAnyH_take (i := 0) (v := .agg #[.int .i64 c, .int .i64 d]) rfl (by kernel_rfl) (by kernel_rfl) (by kernel_rfl) (fun _ _ _ h => h) (Or.inl ⟨by rfl, ?_⟩) (by assumption) ?_
  · intro wx hSw; have xm0 := (hSw.cell (p := ⟨w.heap.size, 0, none⟩) (by show w.heap.size < _; omega)).trans m0; have xm1 := (hSw.cell (p := ⟨w.heap.size, 1, none⟩) (by show w.heap.size < _; omega)).trans m1; go_simp
  try simp only [Act.put, List.setIfInBounds_toArray, List.set_cons_zero, List.set_cons_succ, List.getElem_toArray, List.getElem_cons_zero]
  refine wpAnyH_take (i := 1) (v := .agg #[.int .i64 V.c, .slice (some ⟨bW, 0, none⟩) V.nW V.nW, .int .i64 V.g, .slice (some ⟨bO, 0, none⟩) V.nO V.nO, .slice (some ⟨bX, 0, none⟩) V.nX V.nX, .slice (some ⟨bI, 0, none⟩) V.nI V.nI]) rfl (by kernel_rfl) (by kernel_rfl) (by kernel_rfl) (fun _ _ _ h => h) (Or.inl ⟨by rfl, ?_⟩) (by assumption) ?_
  · intro wx hSw; have xa0 := (hSw.cell (p := ⟨w.heap.size + 1, 0, none⟩) (by show w.heap.size + 1 < _; omega)).trans a0; have xa1 := (hSw.cell (p := ⟨w.heap.size + 1, 1, none⟩) (by show w.heap.size + 1 < _; omega)).trans a1; have xa2 := (hSw.cell (p := ⟨w.heap.size + 1, 2, none⟩) (by show w.heap.size + 1 < _; omega)).trans a2; have xa3 := (hSw.cell (p := ⟨w.heap.size + 1, 3, none⟩) (by show w.heap.size + 1 < _; omega)).trans a3; have xa4 := (hSw.cell (p := ⟨w.heap.size + 1, 4, none⟩) (by show w.heap.size + 1 < _; omega)).trans a4; have xa5 := (hSw.cell (p := ⟨w.heap.size + 1, 5, none⟩) (by show w.heap.size + 1 < _; omega)).trans a5; go_simp
  try simp only [Act.put, List.setIfInBounds_toArray, List.set_cons_zero, List.set_cons_succ, List.getElem_toArray, List.getElem_cons_zero, List.getElem_cons_succ]
  refine wpAnyH_ready (rs := [2]) (by kernel_rfl) (by simp) ?_
  refine AllReadyH.cons rfl (fun K hK => ?_) AllReadyH.nil
  go_simp
  go_wp2_with fail
  refine (cllOk_impl c d _ V lo hs.out _ (CP.out.below (bthen B0.out hHeld))).mono ?_
  rintro e w1 ⟨rfl, hb1⟩
  rw [h1]
  refine hK.out _ _ (bthen hHeld hb1) (fun hNew => ?_)
  clear hK K hHeld
  have hHeld := hNew
  clear hNew
  try simp only [Act.put, List.setIfInBounds_toArray, List.set_cons_zero, List.set_cons_succ, List.getElem_toArray, List.getElem_cons_zero, List.getElem_cons_succ]
  refine wpAnyH_take (i := 3) (v := .bool true) rfl (by kernel_rfl) (by kernel_rfl) (by kernel_rfl) (fun _ _ _ h => h) (Or.inl ⟨by rfl, ?_⟩) (by assumption) ?_
  · intro wx hSw; go_simp
  try simp only [Act.put, List.setIfInBounds_toArray, List.set_cons_zero, List.set_cons_succ, List.getElem_toArray, List.getElem_cons_zero, List.getElem_cons_succ]
  refine wpAnyH_take (i := 4) (v := .agg #[.int .i64 o0, .int .i64 o1, .int .i64 o2, .int .i64 o3, .int .i64 o4]) rfl (by kernel_rfl) (by kernel_rfl) (by kernel_rfl) (fun _ _ _ h => h) (Or.inl ⟨by rfl, ?_⟩) (by assumption) ?_
  · intro wx hSw; have xu0 := (hSw.cell (p := ⟨w.heap.size + 1 + 1, 0, none⟩) (by show w.heap.size + 1 + 1 < _; omega)).trans u0; have xu1 := (hSw.cell (p := ⟨w.heap.size + 1 + 1, 1, none⟩) (by show w.heap.size + 1 + 1 < _; omega)).trans u1; have xu2 := (hSw.cell (p := ⟨w.heap.size + 1 + 1, 2, none⟩) (by show w.heap.size + 1 + 1 < _; omega)).trans u2; have xu3 := (hSw.cell (p := ⟨w.heap.size + 1 + 1, 3, none⟩) (by show w.heap.size + 1 + 1 < _; omega)).trans u3; have xu4 := (hSw.cell (p := ⟨w.heap.size + 1 + 1, 4, none⟩) (by show w.heap.size + 1 + 1 < _; omega)).trans u4; go_simp
  try simp only [Act.put, List.setIfInBounds_toArray, List.set_cons_zero, List.set_cons_succ, List.getElem_toArray, List.getElem_cons_zero, List.getElem_cons_succ]
  refine wpAnyH_ready (rs := [5]) (by kernel_rfl) (by simp) ?_
  refine AllReadyH.cons rfl (fun K hK => ?_) AllReadyH.nil
  go_simp
  go_wp2_with fail
  refine (ordOk_impl _ _ _ _ _ _).mono ?_
  rintro e w2 ⟨rfl, hb2⟩
  rw [h2]
  refine hK.out _ _ (bthen hHeld hb2) (fun hNew => ?_)
  clear hK K hHeld
  have hHeld := hNew
  clear hNew
  try simp only [Act.put, List.setIfInBounds_toArray, List.set_cons_zero, List.set_cons_succ, List.getElem_toArray, List.getElem_cons_zero, List.getElem_cons_succ]
  refine wpAnyH_take (i := 6) (v := .bool true) rfl (by kernel_rfl) (by kernel_rfl) (by kernel_rfl) (fun _ _ _ h => h) (Or.inl ⟨by rfl, ?_⟩) (by assumption) ?_
  · intro wx hSw; go_simp
  try simp only [Act.put, List.setIfInBounds_toArray, List.set_cons_zero, List.set_cons_succ, List.getElem_toArray, List.getElem_cons_zero, List.getElem_cons_succ]
  refine wpAnyH_take (i := 7) (v := .bool true) rfl (by kernel_rfl) (by kernel_rfl) (by kernel_rfl) (fun _ _ _ h => h) (Or.inl ⟨by rfl, ?_⟩) (by assumption) ?_
  · intro wx hSw; go_simp
  try simp only [Act.put, List.setIfInBounds_toArray, List.set_cons_zero, List.set_cons_succ, List.getElem_toArray, List.getElem_cons_zero, List.getElem_cons_succ]
  refine wpAnyH_take (i := 8) (v := .agg #[.int .i64 c, .int .i64 d]) rfl (by kernel_rfl) (by kernel_rfl) (by kernel_rfl) (fun _ _ _ h => h) (Or.inl ⟨by rfl, ?_⟩) (by assumption) ?_
  · intro wx hSw; have xm0 := (hSw.cell (p := ⟨w.heap.size, 0, none⟩) (by show w.heap.size < _; omega)).trans m0; have xm1 := (hSw.cell (p := ⟨w.heap.size, 1, none⟩) (by show w.heap.size < _; omega)).trans m1; go_simp
  try simp only [Act.put, List.setIfInBounds_toArray, List.set_cons_zero, List.set_cons_succ, List.getElem_toArray, List.getElem_cons_zero, List.getElem_cons_succ]
  refine wpAnyH_take (i := 9) (v := .agg #[.int .i64 V.c, .slice (some ⟨bW, 0, none⟩) V.nW V.nW, .int .i64 V.g, .slice (some ⟨bO, 0, none⟩) V.nO V.nO, .slice (some ⟨bX, 0, none⟩) V.nX V.nX, .slice (some ⟨bI, 0, none⟩) V.nI V.nI]) rfl (by kernel_rfl) (by kernel_rfl) (by kernel_rfl) (fun _ _ _ h => h) (Or.inl ⟨by rfl, ?_⟩) (by assumption) ?_
  · intro wx hSw; have xa0 := (hSw.cell (p := ⟨w.heap.size + 1, 0, none⟩) (by show w.heap.size + 1 < _; omega)).trans a0; have xa1 := (hSw.cell (p := ⟨w.heap.size + 1, 1, none⟩) (by show w.heap.size + 1 < _; omega)).trans a1; have xa2 := (hSw.cell (p := ⟨w.heap.size + 1, 2, none⟩) (by show w.heap.size + 1 < _; omega)).trans a2; have xa3 := (hSw.cell (p := ⟨w.heap.size + 1, 3, none⟩) (by show w.heap.size + 1 < _; omega)).trans a3; have xa4 := (hSw.cell (p := ⟨w.heap.size + 1, 4, none⟩) (by show w.heap.size + 1 < _; omega)).trans a4; have xa5 := (hSw.cell (p := ⟨w.heap.size + 1, 5, none⟩) (by show w.heap.size + 1 < _; omega)).trans a5; go_simp
  try simp only [Act.put, List.setIfInBounds_toArray, List.set_cons_zero, List.set_cons_succ, List.getElem_toArray, List.getElem_cons_zero, List.getElem_cons_succ]
  refine wpAnyH_take (i := 11) (v := .agg #[.int .i64 o0, .int .i64 o1, .int .i64 o2, .int .i64 o3, .int .i64 o4]) rfl (by kernel_rfl) (by kernel_rfl) (by kernel_rfl) (fun _ _ _ h => h) (Or.inl ⟨by rfl, ?_⟩) (by assumption) ?_
  · intro wx hSw; have xu0 := (hSw.cell (p := ⟨w.heap.size + 1 + 1, 0, none⟩) (by show w.heap.size + 1 + 1 < _; omega)).trans u0; have xu1 := (hSw.cell (p := ⟨w.heap.size + 1 + 1, 1, none⟩) (by show w.heap.size + 1 + 1 < _; omega)).trans u1; have xu2 := (hSw.cell (p := ⟨w.heap.size + 1 + 1, 2, none⟩) (by show w.heap.size + 1 + 1 < _; omega)).trans u2; have xu3 := (hSw.cell (p := ⟨w.heap.size + 1 + 1, 3, none⟩) (by show w.heap.size + 1 + 1 < _; omega)).trans u3; have xu4 := (hSw.cell (p := ⟨w.heap.size + 1 + 1, 4, none⟩) (by show w.heap.size + 1 + 1 < _; omega)).trans u4; go_simp
  try simp only [Act.put, List.setIfInBounds_toArray, List.set_cons_zero, List.set_cons_succ, List.getElem_toArray, List.getElem_cons_zero, List.getElem_cons_succ]
  refine wpAnyH_ready (rs := [10]) (by kernel_rfl) (by simp) ?_
  refine AllReadyH.cons rfl (fun K hK => ?_) AllReadyH.nil
  go_simp
  go_wp2_with fail
  refine (sceneOf c d _ V lo hs.out (fun k hk => hwf.out k 0 hk (by omega)) _ (CP.out.below (bthen B0.out hHeld))).mono ?_
  rintro e w3 ⟨s, b, lc, hc, rfl, hSc, _, _, _, hb3⟩
  refine hK.out _ _ (bthen hHeld hb3) (fun hNew => ?_)
  clear hK K hHeld
  have hHeld := hNew
  clear hNew
  try simp only [Act.put, List.setIfInBounds_toArray, List.set_cons_zero, List.set_cons_succ, List.getElem_toArray, List.getElem_cons_zero, List.getElem_cons_succ]
  refine wpAnyH_ready (rs := [12]) (by kernel_rfl) (by simp) ?_
  refine AllReadyH.cons rfl (fun K hK => ?_) AllReadyH.nil
  go_simp
  go_wp2_with fail
  refine (isFresh_impl c d o0 o1 o2 o3 o4 s b lc hc V _ _ _ hSc hzw).mono ?_
  rintro e w4 ⟨rfl, hb4⟩
  rw [hT, hY]
  refine hK.out _ _ (bthen hHeld hb4) (fun hNew => ?_)
  clear hK K hHeld
  have hHeld := hNew
  clear hNew
  try simp only [Act.put, List.setIfInBounds_toArray, List.set_cons_zero, List.set_cons_succ, List.getElem_toArray, List.getElem_cons_zero, List.getElem_cons_succ]
  refine wpAnyH_take (i := 13) (v := .bool (t && decide (f 3 < o1))) rfl (by kernel_rfl) (by kernel_rfl) (by kernel_rfl) (fun _ _ _ h => h) (Or.inl ⟨by rfl, ?_⟩) (by assumption) ?_
  · intro wx hSw; go_simp
  try simp only [Act.put, List.setIfInBounds_toArray, List.set_cons_zero, List.set_cons_succ, List.getElem_toArray, List.getElem_cons_zero, List.getElem_cons_succ]
  refine wpAnyH_take (i := 14) (v := .bool (t && decide (f 3 < o1))) rfl (by kernel_rfl) (by kernel_rfl) (by kernel_rfl) (fun _ _ _ h => h) (Or.inl ⟨by rfl, ?_⟩) (by assumption) ?_
  · intro wx hSw; go_simp
  try simp only [Act.put, List.setIfInBounds_toArray, List.set_cons_zero, List.set_cons_succ, List.getElem_toArray, List.getElem_cons_zero, List.getElem_cons_succ]
  refine wpAnyH_done (by kernel_rfl) ?_ _
  have HB : Hid (Below w.heap.size w _) := bthen B0.out hHeld
  clear hHeld m0 m1 a0 a1 a2 a3 a4 a5 u0 u1 u2 u3 u4
  go_wp2
  go_ret
  exact ⟨by simp, HB.out⟩

end Go.Proofs.Ytoiehmnhfjmfeaa
