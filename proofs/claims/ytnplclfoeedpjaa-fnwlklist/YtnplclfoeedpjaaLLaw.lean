/- The walk of the law FnWlkList: it answers true; conditions: the code is a slice of bytes. -/
import Derived.Test.YtnplclfoeedpjaaFw
namespace Go.Proofs.Ytnplclfoeedpjaa
open Go.RowKit Go.Deep Go.Maps
set_option linter.unusedVariables false

set_option maxRecDepth 20000 in
set_option maxHeartbeats 4000000 in
theorem law_list (a : Option Addr) (len cap : Nat) (zs : List Int) (w : World) (h : IsRow w a len cap zs) :
    Calls Try.prog 3 #[.slice a len cap] w fun e w' => e = .returned (.bool true) ∧ Below w.heap.size w w' := by
  have H : Hid (IsRow w a len cap zs) := h
  clear h
  by_cases hl : (1048576 : Int) < (len : Int)
  · go_enter Try.func3, Try.ntmps3
    go_wp2
    go_ret
    exact ⟨rfl, Below.refl _ _⟩
  · go_enter Try.func3, Try.ntmps3
    go_wp2_with fail
    refine (draw_put a len cap zs _ H.out).mono ?_
    rintro e w1 ⟨v, n, Z0, z0, z1, z2, z3, z4, rfl, hW0, hn, hS0, hz, B1⟩
    clear H
    obtain ⟨Z, hlow, rfl, rfl, rfl, rfl, rfl⟩ := exists_ext Z0 n z0 z1 z2 z3 z4
    have hW : Wk w1 w.heap.size v n Z := hW0.same (fun k j hk _ => (hlow k j hk).symm)
    have HS : Hid (∀ k j, k < n + 1 → j < 5 → Small (Z k j)) := by
      intro k j hk hj
      by_cases hkn : k < n
      · rw [hlow k j hkn]; exact hS0 k j hkn hj
      · have : k = n := by omega
        subst this
        exact five_cases (p := fun j => Small (Z k j)) hz.1 hz.2.1 hz.2.2.1 hz.2.2.2.1 hz.2.2.2.2 j hj
    have hI : Small (Z n 0) := hz.1
    clear hlow hW0 hS0 hz Z0
    have HX : Hid (∀ k j, k < (putL Z n).length → j < 5 → Small (Z (putL Z n)[k]! j)) := by
      intro k j hk hj
      refine HS.out _ j (putL_mem (Z := Z) ?_) hj
      rw [getElem!_pos _ k hk]
      exact List.getElem_mem hk
    have hX : (putL Z n).length ≤ 100 := by have := putL_len Z n; omega
    have B21 : Hid (Below w.heap.size w w1) := B1
    have V22 : Hid (Wk w1 w.heap.size v n Z) := hW
    clear B1 hW
    obtain ⟨w2, ew2⟩ : ∃ w2, w2 = w1.alloc (.cells #[.int .i64 (Z n 0), .int .i64 (Z n 1), .int .i64 (Z n 2), .int .i64 (Z n 3), .int .i64 (Z n 4)] 25) := ⟨_, rfl⟩
    have hbw2 : Below w1.heap.size w1 w2 := by rw [ew2]; exact (Below.refl _ _).alloc (Nat.le_refl _) _
    have hkw2 : Bk w2 w1.heap.size [.int .i64 (Z n 0), .int .i64 (Z n 1), .int .i64 (Z n 2), .int .i64 (Z n 3), .int .i64 (Z n 4)] := by rw [ew2]; exact bk_new w1 25 [.int .i64 (Z n 0), .int .i64 (Z n 1), .int .i64 (Z n 2), .int .i64 (Z n 3), .int .i64 (Z n 4)]
    have B23 : Hid (Below w.heap.size w w2) := bthen B21.out hbw2
    have V23 : Hid (Wk w2 w.heap.size v n Z) := V22.out.below hbw2
    clear B21 V22
    have M24 : Hid (Bk w2 w1.heap.size [.int .i64 (Z n 0), .int .i64 (Z n 1), .int .i64 (Z n 2), .int .i64 (Z n 3), .int .i64 (Z n 4)]) := hkw2
    go_wp2_with fail
    try rw [← ew2]
    clear hbw2 hkw2 ew2
    have yM0 : w2.cell? ⟨w1.heap.size, 0, none⟩ = some (.int .i64 (Z n 0)) := (M24.out.2 0 (by simp)).1
    have yM1 : w2.cell? ⟨w1.heap.size, 1, none⟩ = some (.int .i64 (Z n 1)) := (M24.out.2 1 (by simp)).1
    have yM2 : w2.cell? ⟨w1.heap.size, 2, none⟩ = some (.int .i64 (Z n 2)) := (M24.out.2 2 (by simp)).1
    have yM3 : w2.cell? ⟨w1.heap.size, 3, none⟩ = some (.int .i64 (Z n 3)) := (M24.out.2 3 (by simp)).1
    have yM4 : w2.cell? ⟨w1.heap.size, 4, none⟩ = some (.int .i64 (Z n 4)) := (M24.out.2 4 (by simp)).1
    have hlM : w1.heap.size < w2.heap.size := M24.out.1
    go_wp2_with fail
    refine (put_wk2 V23.out (by omega) HS.out).mono ?_
    rintro e w3 ⟨u, rfl, hU, hb3⟩
    clear yM0 yM1 yM2 yM3 yM4 hlM
    have B25 : Hid (Below w.heap.size w w3) := bthen B23.out hb3
    have V25 : Hid (Wk w3 w.heap.size v n Z) := V23.out.below hb3
    have M25 : Hid (Bk w3 w1.heap.size [.int .i64 (Z n 0), .int .i64 (Z n 1), .int .i64 (Z n 2), .int .i64 (Z n 3), .int .i64 (Z n 4)]) := M24.out.below hb3
    clear B23 V23 M24
    have U26 : Hid (Wk w3 w2.heap.size u (putL Z n).length (fun k j => Z (putL Z n)[k]! j)) := hU
    clear hU hb3
    have yM0 : w3.cell? ⟨w1.heap.size, 0, none⟩ = some (.int .i64 (Z n 0)) := (M25.out.2 0 (by simp)).1
    have yM1 : w3.cell? ⟨w1.heap.size, 1, none⟩ = some (.int .i64 (Z n 1)) := (M25.out.2 1 (by simp)).1
    have yM2 : w3.cell? ⟨w1.heap.size, 2, none⟩ = some (.int .i64 (Z n 2)) := (M25.out.2 2 (by simp)).1
    have yM3 : w3.cell? ⟨w1.heap.size, 3, none⟩ = some (.int .i64 (Z n 3)) := (M25.out.2 3 (by simp)).1
    have yM4 : w3.cell? ⟨w1.heap.size, 4, none⟩ = some (.int .i64 (Z n 4)) := (M25.out.2 4 (by simp)).1
    have hlM : w1.heap.size < w3.heap.size := M25.out.1
    go_wp2_with fail
    refine (put_wk3 V25.out (by omega)).mono ?_
    rintro e w4 ⟨u2, rfl, hU2, hb4⟩
    clear yM0 yM1 yM2 yM3 yM4 hlM
    have B27 : Hid (Below w.heap.size w w4) := bthen B25.out hb4
    have V27 : Hid (Wk w4 w.heap.size v n Z) := V25.out.below hb4
    have M27 : Hid (Bk w4 w1.heap.size [.int .i64 (Z n 0), .int .i64 (Z n 1), .int .i64 (Z n 2), .int .i64 (Z n 3), .int .i64 (Z n 4)]) := M25.out.below hb4
    have U27 : Hid (Wk w4 w2.heap.size u (putL Z n).length (fun k j => Z (putL Z n)[k]! j)) := U26.out.below hb4
    clear B25 V25 M25 U26
    have z34 := hb4.size
    clear hb4
    go_wp2_with fail
    refine (maWk U27.out hU2 (by omega)).mono ?_
    rintro e w5 ⟨rfl, hb5⟩
    clear hU2
    have B28 : Hid (Below w.heap.size w w5) := bthen B27.out hb5
    have V28 : Hid (Wk w5 w.heap.size v n Z) := V27.out.below hb5
    have M28 : Hid (Bk w5 w1.heap.size [.int .i64 (Z n 0), .int .i64 (Z n 1), .int .i64 (Z n 2), .int .i64 (Z n 3), .int .i64 (Z n 4)]) := M27.out.below hb5
    have U28 : Hid (Wk w5 w2.heap.size u (putL Z n).length (fun k j => Z (putL Z n)[k]! j)) := U27.out.below hb5
    clear B27 V27 M27 U27
    clear hb5
    have yM0 : w5.cell? ⟨w1.heap.size, 0, none⟩ = some (.int .i64 (Z n 0)) := (M28.out.2 0 (by simp)).1
    have yM1 : w5.cell? ⟨w1.heap.size, 1, none⟩ = some (.int .i64 (Z n 1)) := (M28.out.2 1 (by simp)).1
    have yM2 : w5.cell? ⟨w1.heap.size, 2, none⟩ = some (.int .i64 (Z n 2)) := (M28.out.2 2 (by simp)).1
    have yM3 : w5.cell? ⟨w1.heap.size, 3, none⟩ = some (.int .i64 (Z n 3)) := (M28.out.2 3 (by simp)).1
    have yM4 : w5.cell? ⟨w1.heap.size, 4, none⟩ = some (.int .i64 (Z n 4)) := (M28.out.2 4 (by simp)).1
    have hlM : w1.heap.size < w5.heap.size := M28.out.1
    go_wp2_with fail
    have hfs := find_wk U28.out hX HX.out (Z n 0) hI
    rw [fnd_self] at hfs
    refine hfs.mono ?_
    rintro e w6 ⟨rfl, hb6⟩
    clear hfs
    clear yM0 yM1 yM2 yM3 yM4 hlM
    have B29 : Hid (Below w.heap.size w w6) := bthen B28.out hb6
    have V29 : Hid (Wk w6 w.heap.size v n Z) := V28.out.below hb6
    have M29 : Hid (Bk w6 w1.heap.size [.int .i64 (Z n 0), .int .i64 (Z n 1), .int .i64 (Z n 2), .int .i64 (Z n 3), .int .i64 (Z n 4)]) := M28.out.below hb6
    have U29 : Hid (Wk w6 w2.heap.size u (putL Z n).length (fun k j => Z (putL Z n)[k]! j)) := U28.out.below hb6
    clear B28 V28 M28 U28
    clear hb6
    go_upto_region 8 with fail
    simp only [oz]
    obtain ⟨w7, ew7⟩ : ∃ w7, w7 = w6.alloc (.cells #[.int .i64 (Z n 0), .int .i64 (Z n 1), .int .i64 (Z n 2), .int .i64 (Z n 3), .int .i64 (Z n 4)] 25) := ⟨_, rfl⟩
    have hbw7 : Below w6.heap.size w6 w7 := by rw [ew7]; exact (Below.refl _ _).alloc (Nat.le_refl _) _
    have hkw7 : Bk w7 w6.heap.size [.int .i64 (Z n 0), .int .i64 (Z n 1), .int .i64 (Z n 2), .int .i64 (Z n 3), .int .i64 (Z n 4)] := by rw [ew7]; exact bk_new w6 25 [.int .i64 (Z n 0), .int .i64 (Z n 1), .int .i64 (Z n 2), .int .i64 (Z n 3), .int .i64 (Z n 4)]
    have B30 : Hid (Below w.heap.size w w7) := bthen B29.out hbw7
    have V30 : Hid (Wk w7 w.heap.size v n Z) := V29.out.below hbw7
    have M30 : Hid (Bk w7 w1.heap.size [.int .i64 (Z n 0), .int .i64 (Z n 1), .int .i64 (Z n 2), .int .i64 (Z n 3), .int .i64 (Z n 4)]) := M29.out.below hbw7
    have U30 : Hid (Wk w7 w2.heap.size u (putL Z n).length (fun k j => Z (putL Z n)[k]! j)) := U29.out.below hbw7
    clear B29 V29 M29 U29
    have G31 : Hid (Bk w7 w6.heap.size [.int .i64 (Z n 0), .int .i64 (Z n 1), .int .i64 (Z n 2), .int .i64 (Z n 3), .int .i64 (Z n 4)]) := hkw7
    try rw [← ew7]
    clear hbw7 hkw7 ew7
    have yM0 : w7.cell? ⟨w1.heap.size, 0, none⟩ = some (.int .i64 (Z n 0)) := (M30.out.2 0 (by simp)).1
    have yM1 : w7.cell? ⟨w1.heap.size, 1, none⟩ = some (.int .i64 (Z n 1)) := (M30.out.2 1 (by simp)).1
    have yM2 : w7.cell? ⟨w1.heap.size, 2, none⟩ = some (.int .i64 (Z n 2)) := (M30.out.2 2 (by simp)).1
    have yM3 : w7.cell? ⟨w1.heap.size, 3, none⟩ = some (.int .i64 (Z n 3)) := (M30.out.2 3 (by simp)).1
    have yM4 : w7.cell? ⟨w1.heap.size, 4, none⟩ = some (.int .i64 (Z n 4)) := (M30.out.2 4 (by simp)).1
    have hlM : w1.heap.size < w7.heap.size := M30.out.1
    have yG0 : w7.cell? ⟨w6.heap.size, 0, none⟩ = some (.int .i64 (Z n 0)) := (G31.out.2 0 (by simp)).1
    have yG1 : w7.cell? ⟨w6.heap.size, 1, none⟩ = some (.int .i64 (Z n 1)) := (G31.out.2 1 (by simp)).1
    have yG2 : w7.cell? ⟨w6.heap.size, 2, none⟩ = some (.int .i64 (Z n 2)) := (G31.out.2 2 (by simp)).1
    have yG3 : w7.cell? ⟨w6.heap.size, 3, none⟩ = some (.int .i64 (Z n 3)) := (G31.out.2 3 (by simp)).1
    have yG4 : w7.cell? ⟨w6.heap.size, 4, none⟩ = some (.int .i64 (Z n 4)) := (G31.out.2 4 (by simp)).1
    have hlG : w6.heap.size < w7.heap.size := G31.out.1
    refine wp_region_held_drew (S := fun w' => (∀ b o, b < w7.heap.size → w'.cell? ⟨b, o, none⟩ = w7.cell? ⟨b, o, none⟩) ∧ w7.heap.size ≤ w'.heap.size) (by kernel_rfl) ⟨fun _ _ _ => rfl, Nat.le_refl _⟩ ?_
    intro hHeld
    refine wpAnyH_take (i := 0) (v := .bool true) rfl (by kernel_rfl) (by kernel_rfl) (by kernel_rfl) (fun _ _ _ h => h) (Or.inl ⟨by rfl, ?_⟩) (by assumption) ?_
    · intro wx hSw; go_simp
    try simp only [Act.put, List.setIfInBounds_toArray, List.set_cons_zero, List.set_cons_succ, List.getElem_toArray, List.getElem_cons_zero]
    refine wpAnyH_take (i := 1) (v := .bool false) rfl (by kernel_rfl) (by kernel_rfl) (by kernel_rfl) (fun _ _ _ h => h) (Or.inl ⟨by rfl, ?_⟩) (by assumption) ?_
    · intro wx hSw; go_simp
    try simp only [Act.put, List.setIfInBounds_toArray, List.set_cons_zero, List.set_cons_succ, List.getElem_toArray, List.getElem_cons_zero, List.getElem_cons_succ]
    refine wpAnyH_take (i := 2) (v := .bool false) rfl (by kernel_rfl) (by kernel_rfl) (by kernel_rfl) (fun _ _ _ h => h) (Or.inl ⟨by rfl, ?_⟩) (by assumption) ?_
    · intro wx hSw; go_simp
    try simp only [Act.put, List.setIfInBounds_toArray, List.set_cons_zero, List.set_cons_succ, List.getElem_toArray, List.getElem_cons_zero, List.getElem_cons_succ]
    refine wpAnyH_take (i := 3) (v := .agg #[.int .i64 (Z n 0), .int .i64 (Z n 1), .int .i64 (Z n 2), .int .i64 (Z n 3), .int .i64 (Z n 4)]) rfl (by kernel_rfl) (by kernel_rfl) (by kernel_rfl) (fun _ _ _ h => h) (Or.inl ⟨by rfl, ?_⟩) (by assumption) ?_
    · intro wx hSw; go_simp
    try simp only [Act.put, List.setIfInBounds_toArray, List.set_cons_zero, List.set_cons_succ, List.getElem_toArray, List.getElem_cons_zero, List.getElem_cons_succ]
    refine wpAnyH_take (i := 4) (v := .agg #[.int .i64 (Z n 0), .int .i64 (Z n 1), .int .i64 (Z n 2), .int .i64 (Z n 3), .int .i64 (Z n 4)]) rfl (by kernel_rfl) (by kernel_rfl) (by kernel_rfl) (fun _ _ _ h => h) (Or.inl ⟨by rfl, ?_⟩) (by assumption) ?_
    · intro wx hSw; go_simp
    try simp only [Act.put, List.setIfInBounds_toArray, List.set_cons_zero, List.set_cons_succ, List.getElem_toArray, List.getElem_cons_zero, List.getElem_cons_succ]
    refine wpAnyH_take (i := 5) (v := .bool false) rfl (by kernel_rfl) (by kernel_rfl) (by kernel_rfl) (fun _ _ _ h => h) (Or.inl ⟨by rfl, ?_⟩) (by assumption) ?_
    · intro wx hSw; go_simp <;> first | omega | (exact IntWalk.i64_in _ (by omega)) | go_num
    try simp only [Act.put, List.setIfInBounds_toArray, List.set_cons_zero, List.set_cons_succ, List.getElem_toArray, List.getElem_cons_zero, List.getElem_cons_succ]
    refine wpAnyH_take (i := 6) (v := .bool false) rfl (by kernel_rfl) (by kernel_rfl) (by kernel_rfl) (fun _ _ _ h => h) (Or.inl ⟨by rfl, ?_⟩) (by assumption) ?_
    · intro wx hSw; go_simp
    try simp only [Act.put, List.setIfInBounds_toArray, List.set_cons_zero, List.set_cons_succ, List.getElem_toArray, List.getElem_cons_zero, List.getElem_cons_succ]
    refine wpAnyH_take (i := 7) (v := .bool false) rfl (by kernel_rfl) (by kernel_rfl) (by kernel_rfl) (fun _ _ _ h => h) (Or.inl ⟨by rfl, ?_⟩) (by assumption) ?_
    · intro wx hSw; go_simp
    try simp only [Act.put, List.setIfInBounds_toArray, List.set_cons_zero, List.set_cons_succ, List.getElem_toArray, List.getElem_cons_zero, List.getElem_cons_succ]
    refine wpAnyH_take (i := 8) (v := u) rfl (by kernel_rfl) (by kernel_rfl) (by kernel_rfl) (fun _ _ _ h => h) (Or.inl ⟨by rfl, ?_⟩) (by assumption) ?_
    · intro wx hSw; go_simp
    try simp only [Act.put, List.setIfInBounds_toArray, List.set_cons_zero, List.set_cons_succ, List.getElem_toArray, List.getElem_cons_zero, List.getElem_cons_succ]
    refine wpAnyH_take (i := 9) (v := .pointer (some ⟨w1.heap.size, 0, none⟩)) rfl (by kernel_rfl) (by kernel_rfl) (by kernel_rfl) (fun _ _ _ h => h) (Or.inl ⟨by rfl, ?_⟩) (by assumption) ?_
    · intro wx hSw; go_simp
    try simp only [Act.put, List.setIfInBounds_toArray, List.set_cons_zero, List.set_cons_succ, List.getElem_toArray, List.getElem_cons_zero, List.getElem_cons_succ]
    refine wpAnyH_take (i := 10) (v := .int .i64 (Z n 0)) rfl (by kernel_rfl) (by kernel_rfl) (by kernel_rfl) (fun _ _ _ h => h) (Or.inl ⟨by rfl, ?_⟩) (by assumption) ?_
    · intro wx hSw; go_simp
    try simp only [Act.put, List.setIfInBounds_toArray, List.set_cons_zero, List.set_cons_succ, List.getElem_toArray, List.getElem_cons_zero, List.getElem_cons_succ]
    refine wpAnyH_take (i := 12) (v := v) rfl (by kernel_rfl) (by kernel_rfl) (by kernel_rfl) (fun _ _ _ h => h) (Or.inl ⟨by rfl, ?_⟩) (by assumption) ?_
    · intro wx hSw; go_simp
    try simp only [Act.put, List.setIfInBounds_toArray, List.set_cons_zero, List.set_cons_succ, List.getElem_toArray, List.getElem_cons_zero, List.getElem_cons_succ]
    refine wpAnyH_take (i := 13) (v := .pointer (some ⟨w1.heap.size, 0, none⟩)) rfl (by kernel_rfl) (by kernel_rfl) (by kernel_rfl) (fun _ _ _ h => h) (Or.inl ⟨by rfl, ?_⟩) (by assumption) ?_
    · intro wx hSw; go_simp
    try simp only [Act.put, List.setIfInBounds_toArray, List.set_cons_zero, List.set_cons_succ, List.getElem_toArray, List.getElem_cons_zero, List.getElem_cons_succ]
    refine wpAnyH_take (i := 14) (v := .int .i64 (Z n 0)) rfl (by kernel_rfl) (by kernel_rfl) (by kernel_rfl) (fun _ _ _ h => h) (Or.inl ⟨by rfl, ?_⟩) (by assumption) ?_
    · intro wx hSw; go_simp
    try simp only [Act.put, List.setIfInBounds_toArray, List.set_cons_zero, List.set_cons_succ, List.getElem_toArray, List.getElem_cons_zero, List.getElem_cons_succ]
    refine wpAnyH_ready (rs := [11]) (by kernel_rfl) (by simp) ?_
    refine AllReadyH.cons rfl (fun K hK => ?_) AllReadyH.nil
    go_simp
    go_wp2_with fail
    refine (out_wk (U30.out.below (Below.refl _ _).drew) hX HX.out (Z n 0) hI).mono ?_
    rintro e w8 ⟨o1, rfl, hO1, hb8⟩
    refine hK.out _ _ (keepS (by assumption) hb8) (fun hNew => ?_)
    clear hK K hHeld
    have hHeld := hNew
    clear hNew
    try simp only [Act.put, List.setIfInBounds_toArray, List.set_cons_zero, List.set_cons_succ, List.getElem_toArray, List.getElem_cons_zero, List.getElem_cons_succ]
    refine wpAnyH_ready (rs := [15]) (by kernel_rfl) (by simp) ?_
    refine AllReadyH.cons rfl (fun K hK => ?_) AllReadyH.nil
    go_simp
    go_wp2_with fail
    refine (out_wk ((V30.out.below (Below.refl _ _).drew).below hb8) (by omega) (fun k j hk hj => HS.out k j (by omega) hj) (Z n 0) hI).mono ?_
    rintro e w9 ⟨o2, rfl, hO2, hb9⟩
    refine hK.out _ _ (keepS (by assumption) hb9) (fun hNew => ?_)
    clear hK K hHeld
    have hHeld := hNew
    clear hNew
    try simp only [Act.put, List.setIfInBounds_toArray, List.set_cons_zero, List.set_cons_succ, List.getElem_toArray, List.getElem_cons_zero, List.getElem_cons_succ]
    refine wpAnyH_ready (rs := [16]) (by kernel_rfl) (by simp) ?_
    refine AllReadyH.cons rfl (fun K hK => ?_) AllReadyH.nil
    go_simp
    go_wp2_with fail
    refine (maWk (same_out (Z := Z) (n := n) (hO1.below hb9)) hO2 (by have := rest_len Z n (Z n 0); omega)).mono ?_
    rintro e w10 ⟨rfl, hb10⟩
    refine hK.out _ _ (keepS (by assumption) hb10) (fun hNew => ?_)
    clear hK K hHeld
    have hHeld := hNew
    clear hNew
    try simp only [Act.put, List.setIfInBounds_toArray, List.set_cons_zero, List.set_cons_succ, List.getElem_toArray, List.getElem_cons_zero, List.getElem_cons_succ]
    refine wpAnyH_take (i := 17) (v := .bool false) rfl (by kernel_rfl) (by kernel_rfl) (by kernel_rfl) (fun _ _ _ h => h) (Or.inl ⟨by rfl, ?_⟩) (by assumption) ?_
    · intro wx hSw; go_simp
    try simp only [Act.put, List.setIfInBounds_toArray, List.set_cons_zero, List.set_cons_succ, List.getElem_toArray, List.getElem_cons_zero, List.getElem_cons_succ]
    refine wpAnyH_take (i := 18) (v := .bool false) rfl (by kernel_rfl) (by kernel_rfl) (by kernel_rfl) (fun _ _ _ h => h) (Or.inl ⟨by rfl, ?_⟩) (by assumption) ?_
    · intro wx hSw; go_simp
    try simp only [Act.put, List.setIfInBounds_toArray, List.set_cons_zero, List.set_cons_succ, List.getElem_toArray, List.getElem_cons_zero, List.getElem_cons_succ]
    refine wpAnyH_done (by kernel_rfl) ?_ _
    clear hHeld
    clear yM0 yM1 yM2 yM3 yM4 hlM yG0 yG1 yG2 yG3 yG4 hlG
    have B32 : Hid (Below w.heap.size w w10) := bthen B30.out (bthen (bthen (bthen (Below.refl _ _).drew hb8) hb9) hb10)
    have V32 : Hid (Wk w10 w.heap.size v n Z) := V30.out.below (bthen (bthen (bthen (Below.refl _ _).drew hb8) hb9) hb10)
    have M32 : Hid (Bk w10 w1.heap.size [.int .i64 (Z n 0), .int .i64 (Z n 1), .int .i64 (Z n 2), .int .i64 (Z n 3), .int .i64 (Z n 4)]) := M30.out.below (bthen (bthen (bthen (Below.refl _ _).drew hb8) hb9) hb10)
    have U32 : Hid (Wk w10 w2.heap.size u (putL Z n).length (fun k j => Z (putL Z n)[k]! j)) := U30.out.below (bthen (bthen (bthen (Below.refl _ _).drew hb8) hb9) hb10)
    have G32 : Hid (Bk w10 w6.heap.size [.int .i64 (Z n 0), .int .i64 (Z n 1), .int .i64 (Z n 2), .int .i64 (Z n 3), .int .i64 (Z n 4)]) := G31.out.below (bthen (bthen (bthen (Below.refl _ _).drew hb8) hb9) hb10)
    clear B30 V30 M30 U30 G31
    have hz10 := B32.out.size
    clear hO1 hO2 hb8 hb9 hb10
    clear G32
    go_wp2_with fail
    go_loopw [8] (fun i wr => ∃ k : Nat, k ≤ 12 ∧ .int .i64 k = i ∧ Below w.heap.size w wr ∧ Wk wr w.heap.size v n Z ∧ Wk wr w2.heap.size u (putL Z n).length (fun k j => Z (putL Z n)[k]! j) ∧ Bk wr w1.heap.size [.int .i64 (Z n 0), .int .i64 (Z n 1), .int .i64 (Z n 2), .int .i64 (Z n 3), .int .i64 (Z n 4)]) (fun i _ => 12 - (intOf i).toNat)
    case atStart => exact ⟨0, by omega, rfl, B32.out, V32.out, U32.out, M32.out⟩
    case round =>
      obtain ⟨k, hk, rfl, hB, hV, hU, hM⟩ := hrel
      clear B32 V32 M32 U32
      have B61 : Hid (Below w.heap.size w wr) := hB
      have V62 : Hid (Wk wr w.heap.size v n Z) := hV
      have U63 : Hid (Wk wr w2.heap.size u (putL Z n).length (fun k j => Z (putL Z n)[k]! j)) := hU
      have M64 : Hid (Bk wr w1.heap.size [.int .i64 (Z n 0), .int .i64 (Z n 1), .int .i64 (Z n 2), .int .i64 (Z n 3), .int .i64 (Z n 4)]) := hM
      clear hB hV hU hM
      by_cases hk12 : (k : Int) < 12
      · by_cases hid : (k : Int) = Z n 0
        · have hkS : Small (k : Int) := by unfold Small; omega
          have HID : Hid (((k : Int) = Z n 0)) := hid
          clear hid
          go_wp2_with fail
          refine (find_list V62.out (by omega) (fun k j hk hj => HS.out k j (by omega) hj) (k : Int) hkS).mono ?_
          rintro e w11 ⟨rfl, hb11⟩
          have B65 : Hid (Below w.heap.size w w11) := bthen B61.out hb11
          have V65 : Hid (Wk w11 w.heap.size v n Z) := V62.out.below hb11
          have U65 : Hid (Wk w11 w2.heap.size u (putL Z n).length (fun k j => Z (putL Z n)[k]! j)) := U63.out.below hb11
          have M65 : Hid (Bk w11 w1.heap.size [.int .i64 (Z n 0), .int .i64 (Z n 1), .int .i64 (Z n 2), .int .i64 (Z n 3), .int .i64 (Z n 4)]) := M64.out.below hb11
          clear B61 V62 U63 M64
          clear hb11
          obtain ⟨w12, ew12⟩ : ∃ w12, w12 = w11.alloc (.cells #[.int .i64 (oz Z (fnd Z (List.range n) (k : Int)) 0), .int .i64 (oz Z (fnd Z (List.range n) (k : Int)) 1), .int .i64 (oz Z (fnd Z (List.range n) (k : Int)) 2), .int .i64 (oz Z (fnd Z (List.range n) (k : Int)) 3), .int .i64 (oz Z (fnd Z (List.range n) (k : Int)) 4)] 25) := ⟨_, rfl⟩
          have hbw12 : Below w11.heap.size w11 w12 := by rw [ew12]; exact (Below.refl _ _).alloc (Nat.le_refl _) _
          have hkw12 : Bk w12 w11.heap.size [.int .i64 (oz Z (fnd Z (List.range n) (k : Int)) 0), .int .i64 (oz Z (fnd Z (List.range n) (k : Int)) 1), .int .i64 (oz Z (fnd Z (List.range n) (k : Int)) 2), .int .i64 (oz Z (fnd Z (List.range n) (k : Int)) 3), .int .i64 (oz Z (fnd Z (List.range n) (k : Int)) 4)] := by rw [ew12]; exact bk_new w11 25 [.int .i64 (oz Z (fnd Z (List.range n) (k : Int)) 0), .int .i64 (oz Z (fnd Z (List.range n) (k : Int)) 1), .int .i64 (oz Z (fnd Z (List.range n) (k : Int)) 2), .int .i64 (oz Z (fnd Z (List.range n) (k : Int)) 3), .int .i64 (oz Z (fnd Z (List.range n) (k : Int)) 4)]
          have B66 : Hid (Below w.heap.size w w12) := bthen B65.out hbw12
          have V66 : Hid (Wk w12 w.heap.size v n Z) := V65.out.below hbw12
          have U66 : Hid (Wk w12 w2.heap.size u (putL Z n).length (fun k j => Z (putL Z n)[k]! j)) := U65.out.below hbw12
          have M66 : Hid (Bk w12 w1.heap.size [.int .i64 (Z n 0), .int .i64 (Z n 1), .int .i64 (Z n 2), .int .i64 (Z n 3), .int .i64 (Z n 4)]) := M65.out.below hbw12
          clear B65 V65 U65 M65
          have A67 : Hid (Bk w12 w11.heap.size [.int .i64 (oz Z (fnd Z (List.range n) (k : Int)) 0), .int .i64 (oz Z (fnd Z (List.range n) (k : Int)) 1), .int .i64 (oz Z (fnd Z (List.range n) (k : Int)) 2), .int .i64 (oz Z (fnd Z (List.range n) (k : Int)) 3), .int .i64 (oz Z (fnd Z (List.range n) (k : Int)) 4)]) := hkw12
          clear hbw12 hkw12
          go_wp2_with fail
          try rw [← ew12]
          clear ew12
          have hfs := find_wk U66.out hX HX.out (k : Int) hkS
          refine hfs.mono ?_
          rintro e w13 ⟨rfl, hb13⟩
          clear hfs
          have B68 : Hid (Below w.heap.size w w13) := bthen B66.out hb13
          have V68 : Hid (Wk w13 w.heap.size v n Z) := V66.out.below hb13
          have U68 : Hid (Wk w13 w2.heap.size u (putL Z n).length (fun k j => Z (putL Z n)[k]! j)) := U66.out.below hb13
          have M68 : Hid (Bk w13 w1.heap.size [.int .i64 (Z n 0), .int .i64 (Z n 1), .int .i64 (Z n 2), .int .i64 (Z n 3), .int .i64 (Z n 4)]) := M66.out.below hb13
          have A68 : Hid (Bk w13 w11.heap.size [.int .i64 (oz Z (fnd Z (List.range n) (k : Int)) 0), .int .i64 (oz Z (fnd Z (List.range n) (k : Int)) 1), .int .i64 (oz Z (fnd Z (List.range n) (k : Int)) 2), .int .i64 (oz Z (fnd Z (List.range n) (k : Int)) 3), .int .i64 (oz Z (fnd Z (List.range n) (k : Int)) 4)]) := A67.out.below hb13
          clear B66 V66 U66 M66 A67
          clear hb13
          obtain ⟨w14, ew14⟩ : ∃ w14, w14 = w13.alloc (.cells #[.int .i64 (oz Z (fnd Z (putL Z n) (k : Int)) 0), .int .i64 (oz Z (fnd Z (putL Z n) (k : Int)) 1), .int .i64 (oz Z (fnd Z (putL Z n) (k : Int)) 2), .int .i64 (oz Z (fnd Z (putL Z n) (k : Int)) 3), .int .i64 (oz Z (fnd Z (putL Z n) (k : Int)) 4)] 25) := ⟨_, rfl⟩
          have hbw14 : Below w13.heap.size w13 w14 := by rw [ew14]; exact (Below.refl _ _).alloc (Nat.le_refl _) _
          have hkw14 : Bk w14 w13.heap.size [.int .i64 (oz Z (fnd Z (putL Z n) (k : Int)) 0), .int .i64 (oz Z (fnd Z (putL Z n) (k : Int)) 1), .int .i64 (oz Z (fnd Z (putL Z n) (k : Int)) 2), .int .i64 (oz Z (fnd Z (putL Z n) (k : Int)) 3), .int .i64 (oz Z (fnd Z (putL Z n) (k : Int)) 4)] := by rw [ew14]; exact bk_new w13 25 [.int .i64 (oz Z (fnd Z (putL Z n) (k : Int)) 0), .int .i64 (oz Z (fnd Z (putL Z n) (k : Int)) 1), .int .i64 (oz Z (fnd Z (putL Z n) (k : Int)) 2), .int .i64 (oz Z (fnd Z (putL Z n) (k : Int)) 3), .int .i64 (oz Z (fnd Z (putL Z n) (k : Int)) 4)]
          have B69 : Hid (Below w.heap.size w w14) := bthen B68.out hbw14
          have V69 : Hid (Wk w14 w.heap.size v n Z) := V68.out.below hbw14
          have U69 : Hid (Wk w14 w2.heap.size u (putL Z n).length (fun k j => Z (putL Z n)[k]! j)) := U68.out.below hbw14
          have M69 : Hid (Bk w14 w1.heap.size [.int .i64 (Z n 0), .int .i64 (Z n 1), .int .i64 (Z n 2), .int .i64 (Z n 3), .int .i64 (Z n 4)]) := M68.out.below hbw14
          have A69 : Hid (Bk w14 w11.heap.size [.int .i64 (oz Z (fnd Z (List.range n) (k : Int)) 0), .int .i64 (oz Z (fnd Z (List.range n) (k : Int)) 1), .int .i64 (oz Z (fnd Z (List.range n) (k : Int)) 2), .int .i64 (oz Z (fnd Z (List.range n) (k : Int)) 3), .int .i64 (oz Z (fnd Z (List.range n) (k : Int)) 4)]) := A68.out.below hbw14
          clear B68 V68 U68 M68 A68
          have C70 : Hid (Bk w14 w13.heap.size [.int .i64 (oz Z (fnd Z (putL Z n) (k : Int)) 0), .int .i64 (oz Z (fnd Z (putL Z n) (k : Int)) 1), .int .i64 (oz Z (fnd Z (putL Z n) (k : Int)) 2), .int .i64 (oz Z (fnd Z (putL Z n) (k : Int)) 3), .int .i64 (oz Z (fnd Z (putL Z n) (k : Int)) 4)]) := hkw14
          clear hbw14 hkw14
          go_upto_region 15 with fail
          try rw [← ew14]
          clear ew14
          have yM0 : w14.cell? ⟨w1.heap.size, 0, none⟩ = some (.int .i64 (Z n 0)) := (M69.out.2 0 (by simp)).1
          have yM1 : w14.cell? ⟨w1.heap.size, 1, none⟩ = some (.int .i64 (Z n 1)) := (M69.out.2 1 (by simp)).1
          have yM2 : w14.cell? ⟨w1.heap.size, 2, none⟩ = some (.int .i64 (Z n 2)) := (M69.out.2 2 (by simp)).1
          have yM3 : w14.cell? ⟨w1.heap.size, 3, none⟩ = some (.int .i64 (Z n 3)) := (M69.out.2 3 (by simp)).1
          have yM4 : w14.cell? ⟨w1.heap.size, 4, none⟩ = some (.int .i64 (Z n 4)) := (M69.out.2 4 (by simp)).1
          have hlM : w1.heap.size < w14.heap.size := M69.out.1
          have yA0 : w14.cell? ⟨w11.heap.size, 0, none⟩ = some (.int .i64 (oz Z (fnd Z (List.range n) (k : Int)) 0)) := (A69.out.2 0 (by simp)).1
          have yA1 : w14.cell? ⟨w11.heap.size, 1, none⟩ = some (.int .i64 (oz Z (fnd Z (List.range n) (k : Int)) 1)) := (A69.out.2 1 (by simp)).1
          have yA2 : w14.cell? ⟨w11.heap.size, 2, none⟩ = some (.int .i64 (oz Z (fnd Z (List.range n) (k : Int)) 2)) := (A69.out.2 2 (by simp)).1
          have yA3 : w14.cell? ⟨w11.heap.size, 3, none⟩ = some (.int .i64 (oz Z (fnd Z (List.range n) (k : Int)) 3)) := (A69.out.2 3 (by simp)).1
          have yA4 : w14.cell? ⟨w11.heap.size, 4, none⟩ = some (.int .i64 (oz Z (fnd Z (List.range n) (k : Int)) 4)) := (A69.out.2 4 (by simp)).1
          have hlA : w11.heap.size < w14.heap.size := A69.out.1
          have yC0 : w14.cell? ⟨w13.heap.size, 0, none⟩ = some (.int .i64 (oz Z (fnd Z (putL Z n) (k : Int)) 0)) := (C70.out.2 0 (by simp)).1
          have yC1 : w14.cell? ⟨w13.heap.size, 1, none⟩ = some (.int .i64 (oz Z (fnd Z (putL Z n) (k : Int)) 1)) := (C70.out.2 1 (by simp)).1
          have yC2 : w14.cell? ⟨w13.heap.size, 2, none⟩ = some (.int .i64 (oz Z (fnd Z (putL Z n) (k : Int)) 2)) := (C70.out.2 2 (by simp)).1
          have yC3 : w14.cell? ⟨w13.heap.size, 3, none⟩ = some (.int .i64 (oz Z (fnd Z (putL Z n) (k : Int)) 3)) := (C70.out.2 3 (by simp)).1
          have yC4 : w14.cell? ⟨w13.heap.size, 4, none⟩ = some (.int .i64 (oz Z (fnd Z (putL Z n) (k : Int)) 4)) := (C70.out.2 4 (by simp)).1
          have hlC : w13.heap.size < w14.heap.size := C70.out.1
          have hid2 : ((k : Int) == Z n 0) = true := by simp [HID.out]
          go_wp2
          go_roundw
          case rel => exact ⟨k + 1, by omega, by first | go_num | (simp; omega), B69.out, V69.out, U69.out, M69.out⟩
          case measure => simp [intOf]; omega
        · have hkS : Small (k : Int) := by unfold Small; omega
          have HID : Hid (¬((k : Int) = Z n 0)) := hid
          clear hid
          go_wp2_with fail
          refine (find_list V62.out (by omega) (fun k j hk hj => HS.out k j (by omega) hj) (k : Int) hkS).mono ?_
          rintro e w11 ⟨rfl, hb11⟩
          have B65 : Hid (Below w.heap.size w w11) := bthen B61.out hb11
          have V65 : Hid (Wk w11 w.heap.size v n Z) := V62.out.below hb11
          have U65 : Hid (Wk w11 w2.heap.size u (putL Z n).length (fun k j => Z (putL Z n)[k]! j)) := U63.out.below hb11
          have M65 : Hid (Bk w11 w1.heap.size [.int .i64 (Z n 0), .int .i64 (Z n 1), .int .i64 (Z n 2), .int .i64 (Z n 3), .int .i64 (Z n 4)]) := M64.out.below hb11
          clear B61 V62 U63 M64
          clear hb11
          obtain ⟨w12, ew12⟩ : ∃ w12, w12 = w11.alloc (.cells #[.int .i64 (oz Z (fnd Z (List.range n) (k : Int)) 0), .int .i64 (oz Z (fnd Z (List.range n) (k : Int)) 1), .int .i64 (oz Z (fnd Z (List.range n) (k : Int)) 2), .int .i64 (oz Z (fnd Z (List.range n) (k : Int)) 3), .int .i64 (oz Z (fnd Z (List.range n) (k : Int)) 4)] 25) := ⟨_, rfl⟩
          have hbw12 : Below w11.heap.size w11 w12 := by rw [ew12]; exact (Below.refl _ _).alloc (Nat.le_refl _) _
          have hkw12 : Bk w12 w11.heap.size [.int .i64 (oz Z (fnd Z (List.range n) (k : Int)) 0), .int .i64 (oz Z (fnd Z (List.range n) (k : Int)) 1), .int .i64 (oz Z (fnd Z (List.range n) (k : Int)) 2), .int .i64 (oz Z (fnd Z (List.range n) (k : Int)) 3), .int .i64 (oz Z (fnd Z (List.range n) (k : Int)) 4)] := by rw [ew12]; exact bk_new w11 25 [.int .i64 (oz Z (fnd Z (List.range n) (k : Int)) 0), .int .i64 (oz Z (fnd Z (List.range n) (k : Int)) 1), .int .i64 (oz Z (fnd Z (List.range n) (k : Int)) 2), .int .i64 (oz Z (fnd Z (List.range n) (k : Int)) 3), .int .i64 (oz Z (fnd Z (List.range n) (k : Int)) 4)]
          have B66 : Hid (Below w.heap.size w w12) := bthen B65.out hbw12
          have V66 : Hid (Wk w12 w.heap.size v n Z) := V65.out.below hbw12
          have U66 : Hid (Wk w12 w2.heap.size u (putL Z n).length (fun k j => Z (putL Z n)[k]! j)) := U65.out.below hbw12
          have M66 : Hid (Bk w12 w1.heap.size [.int .i64 (Z n 0), .int .i64 (Z n 1), .int .i64 (Z n 2), .int .i64 (Z n 3), .int .i64 (Z n 4)]) := M65.out.below hbw12
          clear B65 V65 U65 M65
          have A67 : Hid (Bk w12 w11.heap.size [.int .i64 (oz Z (fnd Z (List.range n) (k : Int)) 0), .int .i64 (oz Z (fnd Z (List.range n) (k : Int)) 1), .int .i64 (oz Z (fnd Z (List.range n) (k : Int)) 2), .int .i64 (oz Z (fnd Z (List.range n) (k : Int)) 3), .int .i64 (oz Z (fnd Z (List.range n) (k : Int)) 4)]) := hkw12
          clear hbw12 hkw12
          go_wp2_with fail
          try rw [← ew12]
          clear ew12
          have hfs := find_wk U66.out hX HX.out (k : Int) hkS
          rw [fnd_putL HID.out] at hfs
          refine hfs.mono ?_
          rintro e w13 ⟨rfl, hb13⟩
          clear hfs
          have B68 : Hid (Below w.heap.size w w13) := bthen B66.out hb13
          have V68 : Hid (Wk w13 w.heap.size v n Z) := V66.out.below hb13
          have U68 : Hid (Wk w13 w2.heap.size u (putL Z n).length (fun k j => Z (putL Z n)[k]! j)) := U66.out.below hb13
          have M68 : Hid (Bk w13 w1.heap.size [.int .i64 (Z n 0), .int .i64 (Z n 1), .int .i64 (Z n 2), .int .i64 (Z n 3), .int .i64 (Z n 4)]) := M66.out.below hb13
          have A68 : Hid (Bk w13 w11.heap.size [.int .i64 (oz Z (fnd Z (List.range n) (k : Int)) 0), .int .i64 (oz Z (fnd Z (List.range n) (k : Int)) 1), .int .i64 (oz Z (fnd Z (List.range n) (k : Int)) 2), .int .i64 (oz Z (fnd Z (List.range n) (k : Int)) 3), .int .i64 (oz Z (fnd Z (List.range n) (k : Int)) 4)]) := A67.out.below hb13
          clear B66 V66 U66 M66 A67
          clear hb13
          obtain ⟨w14, ew14⟩ : ∃ w14, w14 = w13.alloc (.cells #[.int .i64 (oz Z (fnd Z (List.range n) (k : Int)) 0), .int .i64 (oz Z (fnd Z (List.range n) (k : Int)) 1), .int .i64 (oz Z (fnd Z (List.range n) (k : Int)) 2), .int .i64 (oz Z (fnd Z (List.range n) (k : Int)) 3), .int .i64 (oz Z (fnd Z (List.range n) (k : Int)) 4)] 25) := ⟨_, rfl⟩
          have hbw14 : Below w13.heap.size w13 w14 := by rw [ew14]; exact (Below.refl _ _).alloc (Nat.le_refl _) _
          have hkw14 : Bk w14 w13.heap.size [.int .i64 (oz Z (fnd Z (List.range n) (k : Int)) 0), .int .i64 (oz Z (fnd Z (List.range n) (k : Int)) 1), .int .i64 (oz Z (fnd Z (List.range n) (k : Int)) 2), .int .i64 (oz Z (fnd Z (List.range n) (k : Int)) 3), .int .i64 (oz Z (fnd Z (List.range n) (k : Int)) 4)] := by rw [ew14]; exact bk_new w13 25 [.int .i64 (oz Z (fnd Z (List.range n) (k : Int)) 0), .int .i64 (oz Z (fnd Z (List.range n) (k : Int)) 1), .int .i64 (oz Z (fnd Z (List.range n) (k : Int)) 2), .int .i64 (oz Z (fnd Z (List.range n) (k : Int)) 3), .int .i64 (oz Z (fnd Z (List.range n) (k : Int)) 4)]
          have B69 : Hid (Below w.heap.size w w14) := bthen B68.out hbw14
          have V69 : Hid (Wk w14 w.heap.size v n Z) := V68.out.below hbw14
          have U69 : Hid (Wk w14 w2.heap.size u (putL Z n).length (fun k j => Z (putL Z n)[k]! j)) := U68.out.below hbw14
          have M69 : Hid (Bk w14 w1.heap.size [.int .i64 (Z n 0), .int .i64 (Z n 1), .int .i64 (Z n 2), .int .i64 (Z n 3), .int .i64 (Z n 4)]) := M68.out.below hbw14
          have A69 : Hid (Bk w14 w11.heap.size [.int .i64 (oz Z (fnd Z (List.range n) (k : Int)) 0), .int .i64 (oz Z (fnd Z (List.range n) (k : Int)) 1), .int .i64 (oz Z (fnd Z (List.range n) (k : Int)) 2), .int .i64 (oz Z (fnd Z (List.range n) (k : Int)) 3), .int .i64 (oz Z (fnd Z (List.range n) (k : Int)) 4)]) := A68.out.below hbw14
          clear B68 V68 U68 M68 A68
          have C70 : Hid (Bk w14 w13.heap.size [.int .i64 (oz Z (fnd Z (List.range n) (k : Int)) 0), .int .i64 (oz Z (fnd Z (List.range n) (k : Int)) 1), .int .i64 (oz Z (fnd Z (List.range n) (k : Int)) 2), .int .i64 (oz Z (fnd Z (List.range n) (k : Int)) 3), .int .i64 (oz Z (fnd Z (List.range n) (k : Int)) 4)]) := hkw14
          clear hbw14 hkw14
          go_upto_region 15 with fail
          try rw [← ew14]
          clear ew14
          have yM0 : w14.cell? ⟨w1.heap.size, 0, none⟩ = some (.int .i64 (Z n 0)) := (M69.out.2 0 (by simp)).1
          have yM1 : w14.cell? ⟨w1.heap.size, 1, none⟩ = some (.int .i64 (Z n 1)) := (M69.out.2 1 (by simp)).1
          have yM2 : w14.cell? ⟨w1.heap.size, 2, none⟩ = some (.int .i64 (Z n 2)) := (M69.out.2 2 (by simp)).1
          have yM3 : w14.cell? ⟨w1.heap.size, 3, none⟩ = some (.int .i64 (Z n 3)) := (M69.out.2 3 (by simp)).1
          have yM4 : w14.cell? ⟨w1.heap.size, 4, none⟩ = some (.int .i64 (Z n 4)) := (M69.out.2 4 (by simp)).1
          have hlM : w1.heap.size < w14.heap.size := M69.out.1
          have yA0 : w14.cell? ⟨w11.heap.size, 0, none⟩ = some (.int .i64 (oz Z (fnd Z (List.range n) (k : Int)) 0)) := (A69.out.2 0 (by simp)).1
          have yA1 : w14.cell? ⟨w11.heap.size, 1, none⟩ = some (.int .i64 (oz Z (fnd Z (List.range n) (k : Int)) 1)) := (A69.out.2 1 (by simp)).1
          have yA2 : w14.cell? ⟨w11.heap.size, 2, none⟩ = some (.int .i64 (oz Z (fnd Z (List.range n) (k : Int)) 2)) := (A69.out.2 2 (by simp)).1
          have yA3 : w14.cell? ⟨w11.heap.size, 3, none⟩ = some (.int .i64 (oz Z (fnd Z (List.range n) (k : Int)) 3)) := (A69.out.2 3 (by simp)).1
          have yA4 : w14.cell? ⟨w11.heap.size, 4, none⟩ = some (.int .i64 (oz Z (fnd Z (List.range n) (k : Int)) 4)) := (A69.out.2 4 (by simp)).1
          have hlA : w11.heap.size < w14.heap.size := A69.out.1
          have yC0 : w14.cell? ⟨w13.heap.size, 0, none⟩ = some (.int .i64 (oz Z (fnd Z (List.range n) (k : Int)) 0)) := (C70.out.2 0 (by simp)).1
          have yC1 : w14.cell? ⟨w13.heap.size, 1, none⟩ = some (.int .i64 (oz Z (fnd Z (List.range n) (k : Int)) 1)) := (C70.out.2 1 (by simp)).1
          have yC2 : w14.cell? ⟨w13.heap.size, 2, none⟩ = some (.int .i64 (oz Z (fnd Z (List.range n) (k : Int)) 2)) := (C70.out.2 2 (by simp)).1
          have yC3 : w14.cell? ⟨w13.heap.size, 3, none⟩ = some (.int .i64 (oz Z (fnd Z (List.range n) (k : Int)) 3)) := (C70.out.2 3 (by simp)).1
          have yC4 : w14.cell? ⟨w13.heap.size, 4, none⟩ = some (.int .i64 (oz Z (fnd Z (List.range n) (k : Int)) 4)) := (C70.out.2 4 (by simp)).1
          have hlC : w13.heap.size < w14.heap.size := C70.out.1
          have hid2 : ((k : Int) == Z n 0) = false := by simpa using HID.out
          go_wp2
          go_roundw
          case rel => exact ⟨k + 1, by omega, by first | go_num | (simp; omega), B69.out, V69.out, U69.out, M69.out⟩
          case measure => simp [intOf]; omega
      · have hk2 : k = 12 := by omega
        subst hk2
        go_wp2
        go_ret
        exact ⟨rfl, B61.out⟩
end Go.Proofs.Ytnplclfoeedpjaa
