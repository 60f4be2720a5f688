/- A line, drawn; conditions: those typed. -/
import Derived.Test.YtalmnogdplhflaaGreatDoorEA
import Derived.Deep.DeepCutAuto
namespace Go.Proofs.YtalmnogdplhflaaGreatDoor
open Go.RowKit Go.Deep
set_option linter.unusedVariables false
set_option maxRecDepth 20000
theorem digits_low (z : Int) (h : z < 1) (w : World) : Calls Tryz.prog 20 #[.int .i64 z] w fun e w' => e = .returned (.string ⟨#[48]⟩) ∧ Below w.heap.size w w' := by
  go_enter Tryz.func20, Tryz.ntmps20
  go_wp2
  go_ret
  exact ⟨rfl, Below.refl _ _⟩
theorem digits_any (z : Int) (h : Small z) (w : World) : Calls Tryz.prog 20 #[.int .i64 z] w fun e w' => ∃ d : ByteArray, e = .returned (.string d) ∧ d.size ≤ 10 ∧ Below w.heap.size w w' := by
  by_cases hz : z < 1
  · refine (digits_low z hz w).mono ?_
    rintro e w' ⟨rfl, hb⟩
    exact ⟨_, rfl, by decide +kernel, hb⟩
  · obtain ⟨n, rfl⟩ := Int.eq_ofNat_of_zero_le (show 0 ≤ z by omega)
    refine (digits_spec n (by have := h.2; omega) w).mono ?_
    rintro e w' ⟨rfl, hb⟩
    refine ⟨_, rfl, ?_, hb⟩
    have h1 := Lib.decDigits_length n
    have h2 : Lib.nDigits n ≤ 6 := by
      rcases Nat.lt_or_ge n 100000 with h | h
      · have := nDigits_five (k := n) (by omega); omega
      · have : n = 100000 := by have := ‹Small _›.2; omega
        subst this
        rw [Lib.nDigits_unique 5 100000 (by omega) (by omega)]
        omega
    show (Lib.decDigits n).toArray.size ≤ 10
    simp; omega
theorem RdB.below {w w' : World} {r : Nat} {a : Option Addr} {len cap : Nat} {m : Int} (h : RdB w r a len cap m) (hb : Below w.heap.size w w') : RdB w' r a len cap m := by
  have hl := h.lt
  obtain ⟨p, h0, h1, h⟩ := h
  exact ⟨p, h0, h1, h.below (hb.mono (by omega))⟩
/-- The words of which one is drawn. -/
theorem word_of (w : World) (x : Int) (h0 : 0 ≤ x) (h1 : x < 16) : ∃ y : ByteArray, (w.alloc (.cells #[.string ⟨#[98, 114, 105, 110, 103]⟩, .string ⟨#[98, 114, 105, 110, 103]⟩, .string ⟨#[98, 114, 105, 110, 103]⟩, .string ⟨#[98, 114, 105, 110, 103]⟩, .string ⟨#[97, 115, 107]⟩, .string ⟨#[97, 115, 107]⟩, .string ⟨#[97, 115, 107]⟩, .string ⟨#[115, 97, 121]⟩, .string ⟨#[115, 97, 121]⟩, .string ⟨#[115, 97, 121]⟩, .string ⟨#[116, 105, 99, 107]⟩, .string ⟨#[103, 114, 97, 110, 116]⟩, .string ⟨#[108, 111, 115, 101]⟩, .string ⟨#[116, 119, 105, 99, 101]⟩, .string ⟨#[102, 97, 108, 108]⟩, .string ⟨#[114, 105, 115, 101]⟩] 9)).cell? ⟨w.heap.size, x.toNat, none⟩ = some (.string y) ∧ y.size ≤ 5 := by
  have : x = 0 ∨ x = 1 ∨ x = 2 ∨ x = 3 ∨ x = 4 ∨ x = 5 ∨ x = 6 ∨ x = 7 ∨ x = 8 ∨ x = 9 ∨ x = 10 ∨ x = 11 ∨ x = 12 ∨ x = 13 ∨ x = 14 ∨ x = 15 := by omega
  rcases this with rfl | rfl | rfl | rfl | rfl | rfl | rfl | rfl | rfl | rfl | rfl | rfl | rfl | rfl | rfl | rfl
  · exact ⟨⟨#[98, 114, 105, 110, 103]⟩, by simp, by decide +kernel⟩
  · exact ⟨⟨#[98, 114, 105, 110, 103]⟩, by simp, by decide +kernel⟩
  · exact ⟨⟨#[98, 114, 105, 110, 103]⟩, by simp, by decide +kernel⟩
  · exact ⟨⟨#[98, 114, 105, 110, 103]⟩, by simp, by decide +kernel⟩
  · exact ⟨⟨#[97, 115, 107]⟩, by simp, by decide +kernel⟩
  · exact ⟨⟨#[97, 115, 107]⟩, by simp, by decide +kernel⟩
  · exact ⟨⟨#[97, 115, 107]⟩, by simp, by decide +kernel⟩
  · exact ⟨⟨#[115, 97, 121]⟩, by simp, by decide +kernel⟩
  · exact ⟨⟨#[115, 97, 121]⟩, by simp, by decide +kernel⟩
  · exact ⟨⟨#[115, 97, 121]⟩, by simp, by decide +kernel⟩
  · exact ⟨⟨#[116, 105, 99, 107]⟩, by simp, by decide +kernel⟩
  · exact ⟨⟨#[103, 114, 97, 110, 116]⟩, by simp, by decide +kernel⟩
  · exact ⟨⟨#[108, 111, 115, 101]⟩, by simp, by decide +kernel⟩
  · exact ⟨⟨#[116, 119, 105, 99, 101]⟩, by simp, by decide +kernel⟩
  · exact ⟨⟨#[102, 97, 108, 108]⟩, by simp, by decide +kernel⟩
  · exact ⟨⟨#[114, 105, 115, 101]⟩, by simp, by decide +kernel⟩
theorem ne_lit {y : ByteArray} {l : List UInt8} (h : ¬ y = ⟨l.toArray⟩) : (y.toList == l) = false := by
  rw [ByteArray.toList_eq, beq_eq_false_iff_ne]
  intro e
  apply h
  rw [← e]
theorem cat_size (x y : ByteArray) : (x ++ y).size = x.size + y.size := ByteArray.size_append
theorem ordText_le (i a n s l : Int) : (ordText i a n s l).size ≤ 100 := by
  by_cases h : (ordText i a n s l).size = 0
  · omega
  · obtain ⟨f, h1, _⟩ := ord_back rfl h
    exact h1
set_option maxHeartbeats 8000000 in
theorem line_B {r : Nat} {ad : Option Addr} {len cap : Nat} {m : Int} {w : World} (h : RdB w r ad len cap m) (hm : m ≤ 500) :
    Calls Tryz.prog 7 #[.pointer (some ⟨r, 0, none⟩)] w fun e w' => ∃ t : ByteArray, e = .returned (.string t) ∧ t.size ≤ 400 ∧ Kept r w w' := by
  have hrl := h.lt
  obtain ⟨W, eW⟩ : ∃ W, W = w.alloc (.cells #[.string ⟨#[98, 114, 105, 110, 103]⟩, .string ⟨#[98, 114, 105, 110, 103]⟩, .string ⟨#[98, 114, 105, 110, 103]⟩, .string ⟨#[98, 114, 105, 110, 103]⟩, .string ⟨#[97, 115, 107]⟩, .string ⟨#[97, 115, 107]⟩, .string ⟨#[97, 115, 107]⟩, .string ⟨#[115, 97, 121]⟩, .string ⟨#[115, 97, 121]⟩, .string ⟨#[115, 97, 121]⟩, .string ⟨#[116, 105, 99, 107]⟩, .string ⟨#[103, 114, 97, 110, 116]⟩, .string ⟨#[108, 111, 115, 101]⟩, .string ⟨#[116, 119, 105, 99, 101]⟩, .string ⟨#[102, 97, 108, 108]⟩, .string ⟨#[114, 105, 115, 101]⟩] 9) := ⟨_, rfl⟩
  have HR0 : Hid (RdB W r ad len cap m) := by unfold Hid; rw [eW]; exact h.alloc _
  have HK0 : Hid (Kept r w W) := by unfold Hid; rw [eW]; exact (Kept.refl r w).alloc _
  have hWl : w.heap.size < W.heap.size := by rw [eW]; simp
  clear h
  go_enter Tryz.func7, Tryz.ntmps7
  go_wp2_with fail
  rw [← eW]
  refine (pick_B HR0.out (by omega)).mono ?_
  rintro e w1 ⟨x, rfl, hx, hr, hk⟩
  have x0 := hx.1
  have x1 := hx.2.1 (by omega)
  obtain ⟨y, hy0, hy⟩ := word_of w x x0 x1
  rw [← eW] at hy0
  have hcy : w1.cell? ⟨w.heap.size, x.toNat, none⟩ = some (.string y) := ((kcell hk).1 w.heap.size _ hWl (by omega)).trans hy0
  have HR1_ := hid (hr)
  have HK1_ := hid (HK0.out.trans (hk))
  clear HR0 HK0
  clear hr hk hy0 eW
  by_cases nask : y = ⟨#[97, 115, 107]⟩
  · subst nask
    go_wp2_with fail
    refine (order_B HR1_.out (by omega)).mono ?_
    rintro e w2 ⟨z0, z1, z2, z3, z4, rfl, hz, hr, hk⟩
    have HR2_ := hid (hr)
    have HK2_ := hid (HK1_.out.trans (hk))
    clear HR1_ HK1_
    clear hr hk
    obtain ⟨s0, _⟩ := hz
    go_upto_region 8 with fail
    obtain ⟨w3, e3⟩ : ∃ q, q = w2.alloc (.cells #[.int .i64 z0, .int .i64 1, .int .i64 z2, .int .i64 z3, .int .i64 z4] 46) := ⟨_, rfl⟩
    have hb3 : Below w2.heap.size w2 w3 := by rw [e3]; exact (Below.refl _ _).alloc (Nat.le_refl _) _
    have hG : Bk w3 w2.heap.size [.int .i64 z0, .int .i64 1, .int .i64 z2, .int .i64 z3, .int .i64 z4] := by rw [e3]; exact bk_new w2 46 [.int .i64 z0, .int .i64 1, .int .i64 z2, .int .i64 z3, .int .i64 z4]
    rw [← e3]
    clear e3
    have HR3_ := hid (HR2_.out.below hb3)
    have HK3_ := hid (HK2_.out.trans (Kept.ofBelow hb3))
    clear HR2_ HK2_
    obtain ⟨o, eo⟩ : ∃ g, g = w2.heap.size := ⟨_, rfl⟩
    rw [← eo] at hG ⊢
    have hol : o < w3.heap.size := hG.1
    clear eo hb3 hcy
    have yO0 : w3.cell? ⟨o, 0, none⟩ = some (.int .i64 z0) := (hG.2 0 (by simp)).1
    have yO1 : w3.cell? ⟨o, 1, none⟩ = some (.int .i64 1) := (hG.2 1 (by simp)).1
    have yO2 : w3.cell? ⟨o, 2, none⟩ = some (.int .i64 z2) := (hG.2 2 (by simp)).1
    have yO3 : w3.cell? ⟨o, 3, none⟩ = some (.int .i64 z3) := (hG.2 3 (by simp)).1
    have yO4 : w3.cell? ⟨o, 4, none⟩ = some (.int .i64 z4) := (hG.2 4 (by simp)).1
    have q4 : (⟨#[97, 115, 107, 32]⟩ : ByteArray).size = 4 := by decide +kernel
    have q1 : (⟨#[32]⟩ : ByteArray).size = 1 := by decide +kernel
    have oz : (ordText z0 1 z2 z3 z4).size ≤ 100 := ordText_le _ _ _ _ _
    have rz1 : (restF (ordText z0 1 z2 z3 z4).data.toList).length ≤ 100 := by have := rest_len (ordText z0 1 z2 z3 z4).data.toList; rw [size_len] at this; omega
    have rz : (restF (restF (ordText z0 1 z2 z3 z4).data.toList)).length ≤ 100 := by have := rest_len (restF (ordText z0 1 z2 z3 z4).data.toList); omega
    have rz1s : ((⟨(restF (ordText z0 1 z2 z3 z4).data.toList).toArray⟩ : ByteArray).size : Int) ≤ 1000 := by
      have hq : (⟨(restF (ordText z0 1 z2 z3 z4).data.toList).toArray⟩ : ByteArray).size = (restF (ordText z0 1 z2 z3 z4).data.toList).length := by simp [ByteArray.size]
      omega
    have rz2s : (⟨(restF (restF (ordText z0 1 z2 z3 z4).data.toList)).toArray⟩ : ByteArray).size ≤ 100 := by
      have hq : (⟨(restF (restF (ordText z0 1 z2 z3 z4).data.toList)).toArray⟩ : ByteArray).size = (restF (restF (ordText z0 1 z2 z3 z4).data.toList)).length := by simp [ByteArray.size]
      omega
    refine wp_region_held_drew (S := fun w' => Below (w3.heap.size) w3 w') (by kernel_rfl) ((Below.refl _ _).drew) ?_
    intro hHeld
    obtain ⟨X0, hX0⟩ : ∃ X, X = w3.drew := ⟨_, rfl⟩
    have hz0 : w3.heap.size ≤ X0.heap.size := by rw [hX0]; exact Nat.le_refl _
    rw [← hX0] at hHeld ⊢
    clear hX0
    refine wpAnyH_take (i := 0) (v := .pointer (some ⟨o, 0, none⟩)) rfl (by kernel_rfl) (by kernel_rfl) (by kernel_rfl) (fun _ _ _ h => h) (Or.inl ⟨by rfl, ?_⟩) (by assumption) ?_
    · intro wx hSw; obtain ⟨hcS, hfS⟩ := bcellN hSw; go_simp
    try simp only [Act.put, List.setIfInBounds_toArray, List.set_cons_zero, List.set_cons_succ, List.getElem_toArray, List.getElem_cons_zero]
    refine wpAnyH_take (i := 5) (v := .agg #[.int .i64 z0, .int .i64 1, .int .i64 z2, .int .i64 z3, .int .i64 z4]) rfl (by kernel_rfl) (by kernel_rfl) (by kernel_rfl) (fun _ _ _ h => h) (Or.inl ⟨by rfl, ?_⟩) (by assumption) ?_
    · intro wx hSw; obtain ⟨hcS, hfS⟩ := bcellN hSw; rw [← hcS o 0 hol] at yO0; rw [← hcS o 1 hol] at yO1; rw [← hcS o 2 hol] at yO2; rw [← hcS o 3 hol] at yO3; rw [← hcS o 4 hol] at yO4; go_simp
    try simp only [Act.put, List.setIfInBounds_toArray, List.set_cons_zero, List.set_cons_succ, List.getElem_toArray, List.getElem_cons_zero, List.getElem_cons_succ]
    refine wpAnyH_take (i := 1) (v := .int .i64 z0) rfl (by kernel_rfl) (by kernel_rfl) (by kernel_rfl) (fun _ _ _ h => h) (Or.inl ⟨by rfl, ?_⟩) (by assumption) ?_
    · intro wx hSw; obtain ⟨hcS, hfS⟩ := bcellN hSw; rw [← hcS o 0 hol] at yO0; go_simp
    try simp only [Act.put, List.setIfInBounds_toArray, List.set_cons_zero, List.set_cons_succ, List.getElem_toArray, List.getElem_cons_zero, List.getElem_cons_succ]
    refine wpAnyH_ready (rs := [2]) (by kernel_rfl) (by simp) ?_
    refine (AllReadyH.cons rfl (fun K hK => ?_) AllReadyH.nil)
    go_simp
    go_wp2_with fail
    refine (digits_any z0 s0 _).mono ?_
    rintro e x2 ⟨d, rfl, zd, hbx2⟩
    have c1 := cat ⟨#[97, 115, 107, 32]⟩ d (by decide +kernel) (by omega)
    have c2 := cat (⟨#[97, 115, 107, 32]⟩ ++ d) ⟨#[32]⟩ (by rw [cat_size]; omega) (by decide +kernel)
    have hsz_x2 := hbx2.size
    refine hK.out _ _ (bthenN hHeld (by omega) hbx2) (fun hNew => ?_)
    clear hK K hHeld
    have hHeld := hNew
    clear hNew
    try simp only [Act.put, List.setIfInBounds_toArray, List.set_cons_zero, List.set_cons_succ, List.getElem_toArray, List.getElem_cons_zero, List.getElem_cons_succ]
    refine wpAnyH_take (i := 3) (v := .string (⟨#[97, 115, 107, 32]⟩ ++ d)) rfl (by kernel_rfl) (by kernel_rfl) (by kernel_rfl) (fun _ _ _ h => h) (Or.inl ⟨by rfl, ?_⟩) (by assumption) ?_
    · intro wx hSw; obtain ⟨hcS, hfS⟩ := bcellN hSw; go_simp
    try simp only [Act.put, List.setIfInBounds_toArray, List.set_cons_zero, List.set_cons_succ, List.getElem_toArray, List.getElem_cons_zero, List.getElem_cons_succ]
    refine wpAnyH_take (i := 4) (v := .string ((⟨#[97, 115, 107, 32]⟩ ++ d) ++ ⟨#[32]⟩)) rfl (by kernel_rfl) (by kernel_rfl) (by kernel_rfl) (fun _ _ _ h => h) (Or.inl ⟨by rfl, ?_⟩) (by assumption) ?_
    · intro wx hSw; obtain ⟨hcS, hfS⟩ := bcellN hSw; go_simp
    try simp only [Act.put, List.setIfInBounds_toArray, List.set_cons_zero, List.set_cons_succ, List.getElem_toArray, List.getElem_cons_zero, List.getElem_cons_succ]
    refine wpAnyH_ready (rs := [6]) (by kernel_rfl) (by simp) ?_
    refine (AllReadyH.cons rfl (fun K hK => ?_) AllReadyH.nil)
    go_simp
    go_wp2_with fail
    refine (ordText_spec _ _ _ _ _ _).mono ?_
    rintro e x6 ⟨rfl, hbx6⟩
    have hsz_x6 := hbx6.size
    refine hK.out _ _ (bthenN hHeld (by omega) hbx6) (fun hNew => ?_)
    clear hK K hHeld
    have hHeld := hNew
    clear hNew
    try simp only [Act.put, List.setIfInBounds_toArray, List.set_cons_zero, List.set_cons_succ, List.getElem_toArray, List.getElem_cons_zero, List.getElem_cons_succ]
    refine wpAnyH_ready (rs := [7]) (by kernel_rfl) (by simp) ?_
    refine (AllReadyH.cons rfl (fun K hK => ?_) AllReadyH.nil)
    go_simp
    go_wp2_with fail
    refine (rest_spec (ordText z0 1 z2 z3 z4) (by omega) _).mono ?_
    rintro e x7 ⟨rfl, ex7⟩
    have hbx7 : Below x6.heap.size x6 x7 := by rw [ex7]; exact Below.refl _ _
    clear ex7
    have hsz_x7 := hbx7.size
    refine hK.out _ _ (bthenN hHeld (by omega) hbx7) (fun hNew => ?_)
    clear hK K hHeld
    have hHeld := hNew
    clear hNew
    try simp only [Act.put, List.setIfInBounds_toArray, List.set_cons_zero, List.set_cons_succ, List.getElem_toArray, List.getElem_cons_zero, List.getElem_cons_succ]
    refine wpAnyH_ready (rs := [8]) (by kernel_rfl) (by simp) ?_
    refine (AllReadyH.cons rfl (fun K hK => ?_) AllReadyH.nil)
    go_simp
    go_wp2_with fail
    refine (rest_spec ⟨(restF (ordText z0 1 z2 z3 z4).data.toList).toArray⟩ rz1s _).mono ?_
    rintro e x8 ⟨rfl, ex8⟩
    have hbx8 : Below x7.heap.size x7 x8 := by rw [ex8]; exact Below.refl _ _
    clear ex8
    have c3 := cat ((⟨#[97, 115, 107, 32]⟩ ++ d) ++ ⟨#[32]⟩) ⟨(restF (restF (ordText z0 1 z2 z3 z4).data.toList)).toArray⟩ (by rw [cat_size, cat_size]; omega) (by omega)
    have hsz_x8 := hbx8.size
    refine hK.out _ _ (bthenN hHeld (by omega) hbx8) (fun hNew => ?_)
    clear hK K hHeld
    have hHeld := hNew
    clear hNew
    try dsimp only
    refine wpAnyH_take (i := 9) (v := .string (((⟨#[97, 115, 107, 32]⟩ ++ d) ++ ⟨#[32]⟩) ++ ⟨(restF (restF (ordText z0 1 z2 z3 z4).data.toList)).toArray⟩)) rfl (by kernel_rfl) (by kernel_rfl) (by kernel_rfl) (fun _ _ _ h => h) (Or.inl ⟨by rfl, ?_⟩) (by assumption) ?_
    · intro wx hSw; obtain ⟨hcS, hfS⟩ := bcellN hSw; go_simp
    try simp only [Act.put, List.setIfInBounds_toArray, List.set_cons_zero, List.set_cons_succ, List.getElem_toArray, List.getElem_cons_zero, List.getElem_cons_succ]
    refine wpAnyH_take (i := 10) (v := .string (((⟨#[97, 115, 107, 32]⟩ ++ d) ++ ⟨#[32]⟩) ++ ⟨(restF (restF (ordText z0 1 z2 z3 z4).data.toList)).toArray⟩)) rfl (by kernel_rfl) (by kernel_rfl) (by kernel_rfl) (fun _ _ _ h => h) (Or.inl ⟨by rfl, ?_⟩) (by assumption) ?_
    · intro wx hSw; obtain ⟨hcS, hfS⟩ := bcellN hSw; go_simp
    try simp only [Act.put, List.setIfInBounds_toArray, List.set_cons_zero, List.set_cons_succ, List.getElem_toArray, List.getElem_cons_zero, List.getElem_cons_succ]
    refine wpAnyH_done (by kernel_rfl) ?_ _
    obtain ⟨ts, ets⟩ : ∃ q, q = ((⟨#[97, 115, 107, 32]⟩ ++ d) ++ ⟨#[32]⟩) ++ ⟨(restF (restF (ordText z0 1 z2 z3 z4).data.toList)).toArray⟩ := ⟨_, rfl⟩
    have zts : ts.size ≤ 200 := by
      rw [ets, cat_size, cat_size, cat_size]
      omega
    rw [← ets]
    clear ets c1 c2 c3
    have hHb := hHeld
    have HR4_ := hid (HR3_.out.below hHb)
    have HK4_ := hid (HK3_.out.trans (Kept.ofBelow hHb))
    clear HR3_ HK3_
    clear hHb hHeld
    go_wp2_with fail
    refine (pick_B HR4_.out (by omega)).mono ?_
    rintro e we ⟨ze, rfl, hxze, hr, hk⟩
    have ze0 := hxze.1
    have ze1 := hxze.2.1 (by omega)
    have HR5_ := hid (hr)
    have HK5_ := hid (HK4_.out.trans (hk))
    clear HR4_ HK4_
    clear hr hk
    have KF := HK5_
    by_cases hze : ze = 0
    · subst hze
      go_wp2_with fail
      refine (bent_B HR5_.out (by omega) zts).mono ?_
      rintro e wf ⟨tt, rfl, ztt, hk⟩
      go_wp2
      go_ret
      exact ⟨tt, rfl, ztt, KF.out.trans hk⟩
    · have hze2 : (ze == 0) = false := by rw [beq_eq_false_iff_ne]; exact hze
      go_wp2
      go_ret
      exact ⟨ts, rfl, by omega, KF.out⟩
  by_cases ntick : y = ⟨#[116, 105, 99, 107]⟩
  · subst ntick
    have c1 := cat (⟨#[116, 105, 99, 107]⟩) (⟨#[32]⟩) (by decide +kernel) (by decide +kernel)
    go_wp2_with fail
    refine (pick_B HR1_.out (by omega)).mono ?_
    rintro e w2 ⟨u, rfl, hxu, hr, hk⟩
    have u0 := hxu.1
    have u1 := hxu.2.1 (by omega)
    have HR2_ := hid (hr)
    have HK2_ := hid (HK1_.out.trans (hk))
    clear HR1_ HK1_
    clear hr hk
    go_wp2_with fail
    refine (digits_any _ (pick_small hxu (by omega)) _).mono ?_
    rintro e w3 ⟨d1, rfl, zd1, hb⟩
    have HR3_ := hid (HR2_.out.below hb)
    have HK3_ := hid (HK2_.out.trans (Kept.ofBelow hb))
    clear HR2_ HK2_
    clear hb
    have e0 : (⟨#[116, 105, 99, 107]⟩ : ByteArray).size ≤ 5 := by decide +kernel
    have e2 : (⟨#[32]⟩ : ByteArray).size = 1 := by decide +kernel
    have c2 := cat (⟨#[116, 105, 99, 107]⟩ ++ ⟨#[32]⟩) (d1) (by rw [cat_size]; omega) (by omega)
    have c3 := cat ((⟨#[116, 105, 99, 107]⟩ ++ ⟨#[32]⟩) ++ d1) (⟨#[32]⟩) (by rw [cat_size, cat_size]; omega) (by omega)
    go_wp2_with fail
    refine (pick_B HR3_.out (by omega)).mono ?_
    rintro e w4 ⟨v, rfl, hxv, hr, hk⟩
    have v0 := hxv.1
    have v1 := hxv.2.1 (by omega)
    have HR4_ := hid (hr)
    have HK4_ := hid (HK3_.out.trans (hk))
    clear HR3_ HK3_
    clear hr hk
    go_wp2_with fail
    refine (digits_any _ (pick_small hxv (by omega)) _).mono ?_
    rintro e w5 ⟨d2, rfl, zd2, hb⟩
    have HR5_ := hid (HR4_.out.below hb)
    have HK5_ := hid (HK4_.out.trans (Kept.ofBelow hb))
    clear HR4_ HK4_
    clear hb
    have c4 := cat (((⟨#[116, 105, 99, 107]⟩ ++ ⟨#[32]⟩) ++ d1) ++ ⟨#[32]⟩) (d2) (by rw [cat_size, cat_size, cat_size]; omega) (by omega)
    obtain ⟨ts, ets⟩ : ∃ q, q = (((⟨#[116, 105, 99, 107]⟩ ++ ⟨#[32]⟩) ++ d1) ++ ⟨#[32]⟩) ++ d2 := ⟨_, rfl⟩
    have zts : ts.size ≤ 200 := by rw [ets, cat_size, cat_size, cat_size, cat_size]; omega
    rw [← ets] at c4
    clear ets
    go_wp2_with fail
    refine (pick_B HR5_.out (by omega)).mono ?_
    rintro e we ⟨ze, rfl, hxze, hr, hk⟩
    have ze0 := hxze.1
    have ze1 := hxze.2.1 (by omega)
    have HR6_ := hid (hr)
    have HK6_ := hid (HK5_.out.trans (hk))
    clear HR5_ HK5_
    clear hr hk
    have KF := HK6_
    by_cases hze : ze = 0
    · subst hze
      go_wp2_with fail
      refine (bent_B HR6_.out (by omega) zts).mono ?_
      rintro e wf ⟨tt, rfl, ztt, hk⟩
      go_wp2
      go_ret
      exact ⟨tt, rfl, ztt, KF.out.trans hk⟩
    · have hze2 : (ze == 0) = false := by rw [beq_eq_false_iff_ne]; exact hze
      go_wp2
      go_ret
      exact ⟨ts, rfl, by omega, KF.out⟩
  by_cases ngrant : y = ⟨#[103, 114, 97, 110, 116]⟩
  · subst ngrant
    have c1 := cat (⟨#[103, 114, 97, 110, 116]⟩) (⟨#[32]⟩) (by decide +kernel) (by decide +kernel)
    go_wp2_with fail
    refine (pick_B HR1_.out (by omega)).mono ?_
    rintro e w2 ⟨u, rfl, hxu, hr, hk⟩
    have u0 := hxu.1
    have u1 := hxu.2.1 (by omega)
    have HR2_ := hid (hr)
    have HK2_ := hid (HK1_.out.trans (hk))
    clear HR1_ HK1_
    clear hr hk
    go_wp2_with fail
    refine (digits_any _ (pick_small hxu (by omega)) _).mono ?_
    rintro e w3 ⟨d1, rfl, zd1, hb⟩
    have HR3_ := hid (HR2_.out.below hb)
    have HK3_ := hid (HK2_.out.trans (Kept.ofBelow hb))
    clear HR2_ HK2_
    clear hb
    have e0 : (⟨#[103, 114, 97, 110, 116]⟩ : ByteArray).size ≤ 5 := by decide +kernel
    have e2 : (⟨#[32]⟩ : ByteArray).size = 1 := by decide +kernel
    have c2 := cat (⟨#[103, 114, 97, 110, 116]⟩ ++ ⟨#[32]⟩) (d1) (by rw [cat_size]; omega) (by omega)
    have c3 := cat ((⟨#[103, 114, 97, 110, 116]⟩ ++ ⟨#[32]⟩) ++ d1) (⟨#[32]⟩) (by rw [cat_size, cat_size]; omega) (by omega)
    go_wp2_with fail
    refine (pick_B HR3_.out (by omega)).mono ?_
    rintro e w4 ⟨v, rfl, hxv, hr, hk⟩
    have v0 := hxv.1
    have v1 := hxv.2.1 (by omega)
    have HR4_ := hid (hr)
    have HK4_ := hid (HK3_.out.trans (hk))
    clear HR3_ HK3_
    clear hr hk
    go_wp2_with fail
    refine (digits_any _ (pick_small hxv (by omega)) _).mono ?_
    rintro e w5 ⟨d2, rfl, zd2, hb⟩
    have HR5_ := hid (HR4_.out.below hb)
    have HK5_ := hid (HK4_.out.trans (Kept.ofBelow hb))
    clear HR4_ HK4_
    clear hb
    have c4 := cat (((⟨#[103, 114, 97, 110, 116]⟩ ++ ⟨#[32]⟩) ++ d1) ++ ⟨#[32]⟩) (d2) (by rw [cat_size, cat_size, cat_size]; omega) (by omega)
    obtain ⟨ts, ets⟩ : ∃ q, q = (((⟨#[103, 114, 97, 110, 116]⟩ ++ ⟨#[32]⟩) ++ d1) ++ ⟨#[32]⟩) ++ d2 := ⟨_, rfl⟩
    have zts : ts.size ≤ 200 := by rw [ets, cat_size, cat_size, cat_size, cat_size]; omega
    rw [← ets] at c4
    clear ets
    go_wp2_with fail
    refine (pick_B HR5_.out (by omega)).mono ?_
    rintro e we ⟨ze, rfl, hxze, hr, hk⟩
    have ze0 := hxze.1
    have ze1 := hxze.2.1 (by omega)
    have HR6_ := hid (hr)
    have HK6_ := hid (HK5_.out.trans (hk))
    clear HR5_ HK5_
    clear hr hk
    have KF := HK6_
    by_cases hze : ze = 0
    · subst hze
      go_wp2_with fail
      refine (bent_B HR6_.out (by omega) zts).mono ?_
      rintro e wf ⟨tt, rfl, ztt, hk⟩
      go_wp2
      go_ret
      exact ⟨tt, rfl, ztt, KF.out.trans hk⟩
    · have hze2 : (ze == 0) = false := by rw [beq_eq_false_iff_ne]; exact hze
      go_wp2
      go_ret
      exact ⟨ts, rfl, by omega, KF.out⟩
  by_cases nsay : y = ⟨#[115, 97, 121]⟩
  · subst nsay
    have c1 := cat (⟨#[115, 97, 121]⟩) (⟨#[32]⟩) (by decide +kernel) (by decide +kernel)
    go_wp2_with fail
    refine (pick_B HR1_.out (by omega)).mono ?_
    rintro e w2 ⟨u, rfl, hxu, hr, hk⟩
    have u0 := hxu.1
    have u1 := hxu.2.1 (by omega)
    have HR2_ := hid (hr)
    have HK2_ := hid (HK1_.out.trans (hk))
    clear HR1_ HK1_
    clear hr hk
    have su : Small (1 + u) := ⟨by omega, by omega⟩
    go_wp2_with fail
    refine (digits_any _ su _).mono ?_
    rintro e w3 ⟨d1, rfl, zd1, hb⟩
    have HR3_ := hid (HR2_.out.below hb)
    have HK3_ := hid (HK2_.out.trans (Kept.ofBelow hb))
    clear HR2_ HK2_
    clear hb
    have e0 : (⟨#[115, 97, 121]⟩ : ByteArray).size ≤ 5 := by decide +kernel
    have e2 : (⟨#[32]⟩ : ByteArray).size = 1 := by decide +kernel
    have c2 := cat (⟨#[115, 97, 121]⟩ ++ ⟨#[32]⟩) (d1) (by rw [cat_size]; omega) (by omega)
    obtain ⟨ts, ets⟩ : ∃ q, q = (⟨#[115, 97, 121]⟩ ++ ⟨#[32]⟩) ++ d1 := ⟨_, rfl⟩
    have zts : ts.size ≤ 200 := by rw [ets, cat_size, cat_size]; omega
    rw [← ets] at c2
    clear ets
    go_wp2_with fail
    refine (pick_B HR3_.out (by omega)).mono ?_
    rintro e we ⟨ze, rfl, hxze, hr, hk⟩
    have ze0 := hxze.1
    have ze1 := hxze.2.1 (by omega)
    have HR4_ := hid (hr)
    have HK4_ := hid (HK3_.out.trans (hk))
    clear HR3_ HK3_
    clear hr hk
    have KF := HK4_
    by_cases hze : ze = 0
    · subst hze
      go_wp2_with fail
      refine (bent_B HR4_.out (by omega) zts).mono ?_
      rintro e wf ⟨tt, rfl, ztt, hk⟩
      go_wp2
      go_ret
      exact ⟨tt, rfl, ztt, KF.out.trans hk⟩
    · have hze2 : (ze == 0) = false := by rw [beq_eq_false_iff_ne]; exact hze
      go_wp2
      go_ret
      exact ⟨ts, rfl, by omega, KF.out⟩
  have n0 : (y.toList == [97, 115, 107]) = false := ne_lit nask
  have n1 : (y.toList == [116, 105, 99, 107]) = false := ne_lit ntick
  have n2 : (y.toList == [103, 114, 97, 110, 116]) = false := ne_lit ngrant
  have n3 : (y.toList == [115, 97, 121]) = false := ne_lit nsay
  have c1 := cat (y) (⟨#[32]⟩) (by omega) (by decide +kernel)
  go_wp2_with fail
  refine (pick_B HR1_.out (by omega)).mono ?_
  rintro e w2 ⟨u, rfl, hxu, hr, hk⟩
  have u0 := hxu.1
  have u1 := hxu.2.1 (by omega)
  have HR2_ := hid (hr)
  have HK2_ := hid (HK1_.out.trans (hk))
  clear HR1_ HK1_
  clear hr hk
  go_wp2_with fail
  refine (pick_B HR2_.out (by omega)).mono ?_
  rintro e w3 ⟨v, rfl, hxv, hr, hk⟩
  have v0 := hxv.1
  have v1 := hxv.2.1 (by omega)
  have HR3_ := hid (hr)
  have HK3_ := hid (HK2_.out.trans (hk))
  clear HR2_ HK2_
  clear hr hk
  have hv : v = 0 ∨ v = 1 := by omega
  have su : Small (u * v) := by rcases hv with rfl | rfl <;> constructor <;> omega
  have uv0 : 0 ≤ u * v := by rcases hv with rfl | rfl <;> omega
  have uv1 : u * v ≤ 2 := by rcases hv with rfl | rfl <;> omega
  go_wp2_with fail
  refine (digits_any _ su _).mono ?_
  rintro e w4 ⟨d1, rfl, zd1, hb⟩
  have HR4_ := hid (HR3_.out.below hb)
  have HK4_ := hid (HK3_.out.trans (Kept.ofBelow hb))
  clear HR3_ HK3_
  clear hb
  have e2 : (⟨#[32]⟩ : ByteArray).size = 1 := by decide +kernel
  have c2 := cat (y ++ ⟨#[32]⟩) (d1) (by rw [cat_size]; omega) (by omega)
  obtain ⟨ts, ets⟩ : ∃ q, q = (y ++ ⟨#[32]⟩) ++ d1 := ⟨_, rfl⟩
  have zts : ts.size ≤ 200 := by rw [ets, cat_size, cat_size]; omega
  rw [← ets] at c2
  clear ets
  go_wp2_with fail
  refine (pick_B HR4_.out (by omega)).mono ?_
  rintro e we ⟨ze, rfl, hxze, hr, hk⟩
  have ze0 := hxze.1
  have ze1 := hxze.2.1 (by omega)
  have HR5_ := hid (hr)
  have HK5_ := hid (HK4_.out.trans (hk))
  clear HR4_ HK4_
  clear hr hk
  have KF := HK5_
  by_cases hze : ze = 0
  · subst hze
    go_wp2_with fail
    refine (bent_B HR5_.out (by omega) zts).mono ?_
    rintro e wf ⟨tt, rfl, ztt, hk⟩
    go_wp2
    go_ret
    exact ⟨tt, rfl, ztt, KF.out.trans hk⟩
  · have hze2 : (ze == 0) = false := by rw [beq_eq_false_iff_ne]; exact hze
    go_wp2
    go_ret
    exact ⟨ts, rfl, by omega, KF.out⟩
theorem draw_line (a : Option Addr) (len cap : Nat) (zs : List Int) (w : World) (h : IsRow w a len cap zs) :
    Calls Tryz.prog 4 #[.slice a len cap] w fun e w' => ∃ t : ByteArray, e = .returned (.string t) ∧ t.size ≤ 400 ∧ Below w.heap.size w w' := by
  have H := hid h
  clear h
  go_enter Tryz.func4, Tryz.ntmps4
  go_wp2_with fail
  refine (open_any a len cap zs _ H.out).mono ?_
  rintro e w1 ⟨rfl, hr, hb, hz⟩
  go_wp2_with fail
  refine (line_B (m := 0) ⟨0, by omega, by omega, hr⟩ (by omega)).mono ?_
  rintro e w2 ⟨t, rfl, zt, hk⟩
  go_wp2
  go_ret
  exact ⟨t, rfl, zt, hb.trans (hk.below (Nat.le_refl _) (by omega))⟩
end Go.Proofs.YtalmnogdplhflaaGreatDoor
