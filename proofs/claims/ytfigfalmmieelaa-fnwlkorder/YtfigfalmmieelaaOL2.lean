/- The walk of the law FnWlkOrder: it answers true; conditions: the code is a slice of bytes. -/
import Derived.Test.YtfigfalmmieelaaOL1
namespace Go.Proofs.Ytfigfalmmieelaa
open Go.RowKit Go.Deep Go.Maps
set_option linter.unusedVariables false

theorem small_wf {z : Int} (h : Small z) : (Lit.int .i64 z).wf = true := by
  unfold Small at h
  simp [Lit.wf, IntKind.min, IntKind.max, IntKind.bits, IntKind.signed]
  omega

/-- One more is put among walkers of the call's own. -/
theorem put_wk {w : World} {base : Nat} {v : Value} {na : Nat} {ZA : Nat → Nat → Int} (h : Wk w base v na ZA) (hn : na ≤ 100) (hs : ∀ k j, k < na → j < 5 → Small (ZA k j)) (z0 z1 z2 z3 z4 : Int) (hz : Small z0 ∧ Small z1 ∧ Small z2 ∧ Small z3 ∧ Small z4) :
    Calls Try.prog 9 #[v, .agg #[.int .i64 z0, .int .i64 z1, .int .i64 z2, .int .i64 z3, .int .i64 z4]] w fun e w' => ∃ v' Z', e = .returned v' ∧ (∀ k j, k < na → Z' k j = ZA k j) ∧ (Z' na 0 = z0 ∧ Z' na 1 = z1 ∧ Z' na 2 = z2 ∧ Z' na 3 = z3 ∧ Z' na 4 = z4) ∧ Wk w' w.heap.size v' (putL Z' na).length (fun k j => Z' (putL Z' na)[k]! j) ∧ (∀ k j, k < (putL Z' na).length → j < 5 → Small (Z' (putL Z' na)[k]! j)) ∧ Below w.heap.size w w' := by
  obtain ⟨g, cp, rfl, hbg, hgl, hcl, _⟩ := h.cells
  obtain ⟨Z', hlow, e0, e1, e2, e3, e4⟩ := exists_ext ZA na z0 z1 z2 z3 z4
  have hsm : ∀ k j, k < na + 1 → j < 5 → Small (Z' k j) := by
    intro k j hk hj
    by_cases hkn : k < na
    · rw [hlow k j hkn]; exact hs k j hkn hj
    · have : k = na := by omega
      subst this
      exact five_cases (p := fun j => Small (Z' k j)) (by rw [e0]; exact hz.1) (by rw [e1]; exact hz.2.1) (by rw [e2]; exact hz.2.2.1) (by rw [e3]; exact hz.2.2.2.1) (by rw [e4]; exact hz.2.2.2.2) j hj
  have hcon := put_impl g 0 na cp Z' (by omega) w hgl (small_wf (hsm na 0 (by omega) (by omega))) (fun k j hk hj => by rw [hlow k j hk]; exact hcl k j hk hj) (fun k j hk hj => small_wf (hsm k j (by omega) hj))
  rw [e0, e1, e2, e3, e4] at hcon
  refine hcon.mono ?_
  rintro e w' ⟨v', rfl, hw, hb⟩
  refine ⟨v', Z', rfl, hlow, ⟨e0, e1, e2, e3, e4⟩, hw.wk, fun k j hk hj => ?_, hb⟩
  refine hsm _ j (putL_mem (Z := Z') ?_) hj
  rw [getElem!_pos _ k hk]
  exact List.getElem_mem hk

/-- Behind i rounds the first one holds the first i walkers, if all stand in order. -/
def FrontOf (n : Nat) (Z : Nat → Nat → Int) (i na : Nat) (ZA : Nat → Nat → Int) : Prop := na = i ∧ ∀ k j, k < i → j < 5 → ZA k j = Z k j
/-- The second one holds the last i. -/
def BackOf (n : Nat) (Z : Nat → Nat → Int) (i nb : Nat) (ZB : Nat → Nat → Int) : Prop := nb = i ∧ ∀ k j, k < i → j < 5 → ZB k j = Z (n - i + k) j

theorem front_step {n i na : Nat} {Z ZA Z' : Nat → Nat → Int} (h : FrontOf n Z i na ZA) (hr : ∀ k l, k < l → l < n → Z k 0 < Z l 0) (hi : i < n) (hlow : ∀ k j, k < na → Z' k j = ZA k j) (hz : Z' na 0 = Z i 0 ∧ Z' na 1 = Z i 1 ∧ Z' na 2 = Z i 2 ∧ Z' na 3 = Z i 3 ∧ Z' na 4 = Z i 4) :
    FrontOf n Z (i + 1) (putL Z' na).length (fun k j => Z' (putL Z' na)[k]! j) := by
  obtain ⟨rfl, hA⟩ := h
  have hp : putL Z' na = List.range (na + 1) := putL_last (fun k hk => by rw [hlow k 0 hk, hA k 0 hk (by omega), hz.1]; exact hr k na hk hi)
  rw [hp]
  refine ⟨by simp, fun k j hk hj => ?_⟩
  have e : (List.range (na + 1))[k]! = k := by rw [getElem!_pos _ k (by simpa using hk)]; simp
  show Z' (List.range (na + 1))[k]! j = Z k j
  rw [e]
  by_cases hkn : k < na
  · rw [hlow k j hkn]; exact hA k j hkn hj
  · have : k = na := by omega
    subst this
    exact five_cases (p := fun j => Z' k j = Z k j) hz.1 hz.2.1 hz.2.2.1 hz.2.2.2.1 hz.2.2.2.2 j hj

theorem back_step {n i nb : Nat} {Z ZB Z' : Nat → Nat → Int} (h : BackOf n Z i nb ZB) (hr : ∀ k l, k < l → l < n → Z k 0 < Z l 0) (hi : i < n) (hlow : ∀ k j, k < nb → Z' k j = ZB k j) (hz : Z' nb 0 = Z (n - 1 - i) 0 ∧ Z' nb 1 = Z (n - 1 - i) 1 ∧ Z' nb 2 = Z (n - 1 - i) 2 ∧ Z' nb 3 = Z (n - 1 - i) 3 ∧ Z' nb 4 = Z (n - 1 - i) 4) :
    BackOf n Z (i + 1) (putL Z' nb).length (fun k j => Z' (putL Z' nb)[k]! j) := by
  obtain ⟨rfl, hB⟩ := h
  have hp : putL Z' nb = nb :: List.range nb := putL_first (fun k hk => by rw [hlow k 0 hk, hB k 0 hk (by omega), hz.1]; exact hr (n - 1 - nb) (n - nb + k) (by omega) (by omega))
  rw [hp]
  refine ⟨by simp, fun k j hk hj => ?_⟩
  show Z' (nb :: List.range nb)[k]! j = Z (n - (nb + 1) + k) j
  cases k with
  | zero =>
    have e : (nb :: List.range nb)[0]! = nb := rfl
    rw [e, show n - (nb + 1) + 0 = n - 1 - nb by omega]
    exact five_cases (p := fun j => Z' nb j = Z (n - 1 - nb) j) hz.1 hz.2.1 hz.2.2.1 hz.2.2.2.1 hz.2.2.2.2 j hj
  | succ k =>
    have e : (nb :: List.range nb)[k + 1]! = k := by rw [getElem!_pos _ (k + 1) (by simp; omega)]; simp
    rw [e, hlow k j (by omega), hB k j (by omega) hj, show n - (nb + 1) + (k + 1) = n - nb + k by omega]

theorem Wk.same {w : World} {base : Nat} {v : Value} {n : Nat} {Z Z' : Nat → Nat → Int} (h : Wk w base v n Z) (e : ∀ k j, k < n → j < 5 → Z k j = Z' k j) : Wk w base v n Z' := by
  obtain ⟨g, cap, xs, hv, ho, hc⟩ := h
  exact ⟨g, cap, xs, hv, ho, fun k j hk hj => by rw [← e k j hk hj]; exact hc k j hk hj⟩

theorem maWk {w : World} {b1 b2 : Nat} {v1 v2 : Value} {n : Nat} {Z : Nat → Nat → Int} (h1 : Wk w b1 v1 n Z) (h2 : Wk w b2 v2 n Z) (hn : n ≤ 2000000) :
    Calls Try.prog 11 #[v1, v2] w fun e w' => e = .returned (.bool true) ∧ Below w.heap.size w w' := by
  obtain ⟨g1, c1, rfl, _, l1, a1, _⟩ := h1.cells
  obtain ⟨g2, c2, rfl, _, l2, a2, _⟩ := h2.cells
  exact maList g1 c1 g2 c2 n Z hn w l1 l2 a1 a2

theorem maOk_any (w : World) : Calls Try.prog 10 #[] w fun e w' => e = .returned (.bool true) ∧ Below w.heap.size w w' := by
  have hok : okB 2 2 = true := by decide
  have hcon := ok_impl 2 2 w
  rw [hok] at hcon
  clear hok
  go_enter Try.func10, Try.ntmps10
  go_wp2_with (go_at_call 29; refine hcon.mono ?_; rintro e w' ⟨rfl, hb⟩)
  go_ret
  exact ⟨rfl, hb⟩

set_option maxRecDepth 20000 in
set_option maxHeartbeats 4000000 in
theorem law_order (a : Option Addr) (len cap : Nat) (zs : List Int) (w : World) (h : IsRow w a len cap zs) :
    Calls Try.prog 3 #[.slice a len cap] w fun e w' => e = .returned (.bool true) ∧ Below w.heap.size w w' := by
  have H : Hid (IsRow w a len cap zs) := h
  clear h
  by_cases hl : (1048576 : Int) < (len : Int)
  · go_enter Try.func3, Try.ntmps3
    go_wp2
    go_ret
    exact ⟨rfl, Below.refl _ _⟩
  · go_enter Try.func3, Try.ntmps3
    go_wp2_with fail
    refine (draw_list a len cap zs _ H.out).mono ?_
    rintro e w1 ⟨c, d, v, n, Z, rfl, hW, hn, hS, B1⟩
    clear H
    obtain ⟨g, cp, hv, hbg, hgl, hcl, _⟩ := hW.cells
    subst hv
    have HW : Hid (Wk w1 w.heap.size (.slice (some ⟨g, 0, none⟩) n cp) n Z) := hW
    have HS : Hid (∀ k j, k < n → j < 5 → Small (Z k j)) := hS
    have HCL : Hid (∀ k j, k < n → j < 5 → w1.cell? ⟨g, 0 + k * 5 + j, none⟩ = some (.int .i64 (Z k j))) := hcl
    clear hW hS hcl
    go_upto_region 4 with fail
    have HT : Hid (Two (w1.alloc (.cells #[.int .i64 c, .int .i64 d] 24)) w1.heap.size (.int .i64 c) (.int .i64 d)) := ⟨by simp, by simp, by simp, by simp⟩
    have HWA : Hid (Wk (w1.alloc (.cells #[.int .i64 c, .int .i64 d] 24)) w.heap.size (.slice (some ⟨g, 0, none⟩) n cp) n Z) := HW.out.below ((Below.refl _ _).alloc (Nat.le_refl _) _)
    have BA : Hid (Below w.heap.size w (w1.alloc (.cells #[.int .i64 c, .int .i64 d] 24))) := B1.alloc B1.size _
    have hzA : (w1.alloc (.cells #[.int .i64 c, .int .i64 d] 24)).heap.size = w1.heap.size + 1 := by simp
    have hw1s : w.heap.size ≤ w1.heap.size := B1.size
    clear HW HCL B1
    generalize w1.alloc (.cells #[.int .i64 c, .int .i64 d] 24) = wA at *
    refine wp_region_held_drew (S := fun w' => Two w' w1.heap.size (.int .i64 c) (.int .i64 d) ∧ Wk w' w.heap.size (.slice (some ⟨g, 0, none⟩) n cp) n Z) (by kernel_rfl) ⟨HT.out.drew, HWA.out.below (Below.refl _ _).drew⟩ ?_
    intro hHeld
    refine wpAnyH_take (i := 0) (v := .agg #[.int .i64 c, .int .i64 d]) rfl (by kernel_rfl) (by kernel_rfl) (by kernel_rfl) (fun _ _ _ h => h) (Or.inl ⟨by rfl, ?_⟩) (by assumption) ?_
    · intro wx hSw; obtain ⟨⟨s0, s1, _, _⟩, _⟩ := hSw; go_simp
    try simp only [Act.put, List.setIfInBounds_toArray, List.set_cons_zero, List.set_cons_succ, List.getElem_toArray, List.getElem_cons_zero]
    refine wpAnyH_take (i := 1) (v := .slice (some ⟨g, 0, none⟩) n cp) rfl (by kernel_rfl) (by kernel_rfl) (by kernel_rfl) (fun _ _ _ h => h) (Or.inl ⟨by rfl, ?_⟩) (by assumption) ?_
    · intro wx hSw; go_simp
    try simp only [Act.put, List.setIfInBounds_toArray, List.set_cons_zero, List.set_cons_succ, List.getElem_toArray, List.getElem_cons_zero, List.getElem_cons_succ]
    refine wpAnyH_take (i := 3) (v := .agg #[.int .i64 c, .int .i64 d]) rfl (by kernel_rfl) (by kernel_rfl) (by kernel_rfl) (fun _ _ _ h => h) (Or.inl ⟨by rfl, ?_⟩) (by assumption) ?_
    · intro wx hSw; obtain ⟨⟨s0, s1, _, _⟩, _⟩ := hSw; go_simp
    try simp only [Act.put, List.setIfInBounds_toArray, List.set_cons_zero, List.set_cons_succ, List.getElem_toArray, List.getElem_cons_zero, List.getElem_cons_succ]
    refine wpAnyH_take (i := 4) (v := .slice (some ⟨g, 0, none⟩) n cp) rfl (by kernel_rfl) (by kernel_rfl) (by kernel_rfl) (fun _ _ _ h => h) (Or.inl ⟨by rfl, ?_⟩) (by assumption) ?_
    · intro wx hSw; go_simp
    try simp only [Act.put, List.setIfInBounds_toArray, List.set_cons_zero, List.set_cons_succ, List.getElem_toArray, List.getElem_cons_zero, List.getElem_cons_succ]
    refine wpAnyH_ready (rs := [2]) (by kernel_rfl) (by simp) ?_
    refine AllReadyH.cons rfl (fun K hK => ?_) AllReadyH.nil
    go_simp
    obtain ⟨_, _, ev, _, hl1, hc1, _⟩ := hHeld.2.cells
    cases ev
    have hcon := listOk_impl c d g 0 n cp Z (by omega) wA.drew hl1 hc1
    clear hc1
    go_wp2_with (go_at_call 7; refine hcon.mono ?_; rintro e w3 ⟨rfl, hb3⟩)
    refine hK.out _ _ ⟨hHeld.1.below hb3, hHeld.2.below hb3⟩ (fun hHeld3 => ?_)
    clear hK K hcon
    have B3 : Hid (Below w.heap.size w w3) := bthen BA.out.drew hb3
    have hz3 : w1.heap.size < w3.heap.size := Nat.lt_of_lt_of_le (by show w1.heap.size < wA.heap.size; omega) hb3.size
    clear hb3 BA
    try simp only [Act.put, List.setIfInBounds_toArray, List.set_cons_zero, List.set_cons_succ, List.getElem_toArray, List.getElem_cons_zero, List.getElem_cons_succ]
    refine wpAnyH_ready (rs := [5]) (by kernel_rfl) (by simp) ?_
    refine AllReadyH.cons rfl (fun K hK => ?_) AllReadyH.nil
    go_simp
    obtain ⟨_, _, ev, _, hl3, hc3, _⟩ := hHeld3.2.cells
    cases ev
    have hcon := listOk_spec c d g 0 n cp Z (by omega) w3 hl3 hc3
    clear hc3
    go_wp2_with (go_at_call 8; refine hcon.mono ?_; rintro e w4 ⟨rfl, hb4⟩)
    refine hK.out _ _ ⟨hHeld3.1.below hb4, hHeld3.2.below hb4⟩ (fun hHeld4 => ?_)
    clear hK K hcon
    have B4 : Hid (Below w.heap.size w w4) := bthen B3.out hb4
    have hz4 : w1.heap.size < w4.heap.size := Nat.lt_of_lt_of_le hz3 hb4.size
    have HT4 : Hid (Two w4 w1.heap.size (.int .i64 c) (.int .i64 d)) := hHeld4.1
    have HW4 : Hid (Wk w4 w.heap.size (.slice (some ⟨g, 0, none⟩) n cp) n Z) := hHeld4.2
    clear hb4 B3
    try simp only [Act.put, List.setIfInBounds_toArray, List.set_cons_zero, List.set_cons_succ, List.getElem_toArray, List.getElem_cons_zero, List.getElem_cons_succ]
    refine wpAnyH_take (i := 6) (v := .bool false) rfl (by kernel_rfl) (by kernel_rfl) (by kernel_rfl) (fun _ _ _ h => h) (Or.inl ⟨by rfl, ?_⟩) (by assumption) ?_
    · intro wx hSw; go_simp
    try simp only [Act.put, List.setIfInBounds_toArray, List.set_cons_zero, List.set_cons_succ, List.getElem_toArray, List.getElem_cons_zero, List.getElem_cons_succ]
    refine wpAnyH_done (by kernel_rfl) ?_ _
    clear hHeld hHeld3 hHeld4 HT HWA hl1 hl3 hz3 hzA
    go_wp2_with fail
    go_loopw [5, 6, 7] (fun sa sb si wr => ∃ (i : Nat) (va vb : Value) (na nb : Nat) (ZA ZB : Nat → Nat → Int), i ≤ n ∧ .int .i64 i = si ∧ va = sa ∧ vb = sb ∧ Wk wr w.heap.size va na ZA ∧ Wk wr w.heap.size vb nb ZB ∧ na ≤ i ∧ nb ≤ i ∧ (∀ k j, k < na → j < 5 → Small (ZA k j)) ∧ (∀ k j, k < nb → j < 5 → Small (ZB k j)) ∧ (allB c d Z n = true → FrontOf n Z i na ZA ∧ BackOf n Z i nb ZB) ∧ Two wr w1.heap.size (.int .i64 c) (.int .i64 d) ∧ Wk wr w.heap.size (.slice (some ⟨g, 0, none⟩) n cp) n Z ∧ Below w.heap.size w wr ∧ w1.heap.size < wr.heap.size) (fun _ _ i _ => n - (intOf i).toNat)
    case atStart =>
      have hs4 : w.heap.size ≤ w4.heap.size := B4.out.size
      refine ⟨0, _, _, 0, 0, fun _ _ => 0, fun _ _ => 0, Nat.zero_le _, rfl, rfl, rfl, ?_, ?_, Nat.le_refl _, Nat.le_refl _, fun k j hk => absurd hk (by omega), fun k j hk => absurd hk (by omega), fun _ => ⟨⟨rfl, fun k j hk => absurd hk (by omega)⟩, ⟨rfl, fun k j hk => absurd hk (by omega)⟩⟩, (HT4.out.alloc _).alloc _, (HW4.out.below ((Below.refl _ _).alloc (Nat.le_refl _) _)).below ((Below.refl _ _).alloc (Nat.le_refl _) _), (B4.out.alloc (by omega) _).alloc (by simp; omega) _, by simp; omega⟩
      · refine Wk.below (w := w4.alloc (.cells #[] 31)) ⟨w4.heap.size, 0, [], rfl, ?_, fun k j hk => absurd hk (by omega)⟩ ((Below.refl _ _).alloc (Nat.le_refl _) _)
        exact World.ownsRow_lit w4 #[] 0 (by omega) (by simp) (by simp)
      · refine ⟨w4.heap.size + 1, 0, [], rfl, ?_, fun k j hk => absurd hk (by omega)⟩
        have := World.ownsRow_lit (base := w.heap.size) (e := 31) (size := 5) (w4.alloc (.cells #[] 31)) #[] 0 (by simp; omega) (by simp) (by simp)
        simpa using this
    case round =>
      obtain ⟨i, va, vb, na, nb, ZA, ZB, hi, rfl, rfl, rfl, hWa, hWb, hna, hnb, hSa, hSb, hFB, hT, hWl, hB, hz⟩ := hrel
      have HWb : Hid (Wk wr w.heap.size vb nb ZB) := hWb
      have HWa : Hid (Wk wr w.heap.size va na ZA) := hWa
      have HSa : Hid (∀ k j, k < na → j < 5 → Small (ZA k j)) := hSa
      have HSb : Hid (∀ k j, k < nb → j < 5 → Small (ZB k j)) := hSb
      have HFB : Hid (allB c d Z n = true → FrontOf n Z i na ZA ∧ BackOf n Z i nb ZB) := hFB
      have HT : Hid (Two wr w1.heap.size (.int .i64 c) (.int .i64 d)) := hT
      have HWl : Hid (Wk wr w.heap.size (.slice (some ⟨g, 0, none⟩) n cp) n Z) := hWl
      obtain ⟨_, _, ev, _, hgr, hcr, _⟩ := hWl.cells
      cases ev
      have HCR : Hid (∀ k j, k < n → j < 5 → wr.cell? ⟨g, 0 + k * 5 + j, none⟩ = some (.int .i64 (Z k j))) := hcr
      clear hWa hWb hSa hSb hFB hT hWl hcr B4 HT4 HW4 hz4
      by_cases hin : i < n
      · have hin' : (i : Int) < (n : Int) := by omega
        have c0 : wr.cell? ⟨g, i * 5, none⟩ = some (.int .i64 (Z i 0)) := by have := HCR.out i 0 hin (by omega); simpa using this
        have c1 : wr.cell? ⟨g, i * 5 + 1, none⟩ = some (.int .i64 (Z i 1)) := by have := HCR.out i 1 hin (by omega); simpa using this
        have c2 : wr.cell? ⟨g, i * 5 + 2, none⟩ = some (.int .i64 (Z i 2)) := by have := HCR.out i 2 hin (by omega); simpa using this
        have c3 : wr.cell? ⟨g, i * 5 + 3, none⟩ = some (.int .i64 (Z i 3)) := by have := HCR.out i 3 hin (by omega); simpa using this
        have c4 : wr.cell? ⟨g, i * 5 + 4, none⟩ = some (.int .i64 (Z i 4)) := by have := HCR.out i 4 hin (by omega); simpa using this
        go_wp2_with fail
        refine (put_wk HWa.out (by omega) HSa.out _ _ _ _ _ ⟨HS.out i 0 hin (by omega), HS.out i 1 hin (by omega), HS.out i 2 hin (by omega), HS.out i 3 hin (by omega), HS.out i 4 hin (by omega)⟩).mono ?_
        rintro e w2 ⟨va', Z', rfl, hlowA, hzA, hWa2, hSa2, hb2⟩
        have HWa2 : Hid (Wk w2 w.heap.size va' (putL Z' na).length (fun k j => Z' (putL Z' na)[k]! j)) := hWa2.base (by omega)
        have HSa2 : Hid (∀ k j, k < (putL Z' na).length → j < 5 → Small (Z' (putL Z' na)[k]! j)) := hSa2
        have HFA : Hid (allB c d Z n = true → FrontOf n Z (i + 1) (putL Z' na).length (fun k j => Z' (putL Z' na)[k]! j)) := fun h => front_step (HFB.out h).1 (allB_rise n h) hin hlowA hzA
        have hna2 : (putL Z' na).length ≤ i + 1 := by have := putL_len Z' na; omega
        have HWb2 : Hid (Wk w2 w.heap.size vb nb ZB) := HWb.out.below hb2
        have HT2 : Hid (Two w2 w1.heap.size (.int .i64 c) (.int .i64 d)) := HT.out.below hb2
        have HWl2 : Hid (Wk w2 w.heap.size (.slice (some ⟨g, 0, none⟩) n cp) n Z) := HWl.out.below hb2
        have HB2 : Hid (Below w.heap.size w w2) := bthen hB hb2
        have hz2 : w1.heap.size < w2.heap.size := Nat.lt_of_lt_of_le hz hb2.size
        have HCR2 : Hid (∀ k j, k < n → j < 5 → w2.cell? ⟨g, 0 + k * 5 + j, none⟩ = some (.int .i64 (Z k j))) := cells_below HCR.out hgr hb2
        clear hlowA hzA hWa2 hSa2 HWa HSa HWb HT HWl HCR hb2 c0 c1 c2 c3 c4 hB
        have hin2 : n - 1 - i < n := by omega
        have htn : ((n : Int) - 1 - (i : Int)).toNat = n - 1 - i := by omega
        have hge : (0 : Int) ≤ (n : Int) - 1 - (i : Int) := by omega
        have hlt2 : (n : Int) - 1 - (i : Int) < (n : Int) := by omega
        have c0 : w2.cell? ⟨g, (n - 1 - i) * 5, none⟩ = some (.int .i64 (Z (n - 1 - i) 0)) := by have := HCR2.out (n - 1 - i) 0 hin2 (by omega); simpa using this
        have c1 : w2.cell? ⟨g, (n - 1 - i) * 5 + 1, none⟩ = some (.int .i64 (Z (n - 1 - i) 1)) := by have := HCR2.out (n - 1 - i) 1 hin2 (by omega); simpa using this
        have c2 : w2.cell? ⟨g, (n - 1 - i) * 5 + 2, none⟩ = some (.int .i64 (Z (n - 1 - i) 2)) := by have := HCR2.out (n - 1 - i) 2 hin2 (by omega); simpa using this
        have c3 : w2.cell? ⟨g, (n - 1 - i) * 5 + 3, none⟩ = some (.int .i64 (Z (n - 1 - i) 3)) := by have := HCR2.out (n - 1 - i) 3 hin2 (by omega); simpa using this
        have c4 : w2.cell? ⟨g, (n - 1 - i) * 5 + 4, none⟩ = some (.int .i64 (Z (n - 1 - i) 4)) := by have := HCR2.out (n - 1 - i) 4 hin2 (by omega); simpa using this
        go_wp2_with fail
        refine (put_wk HWb2.out (by omega) HSb.out _ _ _ _ _ ⟨HS.out (n - 1 - i) 0 hin2 (by omega), HS.out (n - 1 - i) 1 hin2 (by omega), HS.out (n - 1 - i) 2 hin2 (by omega), HS.out (n - 1 - i) 3 hin2 (by omega), HS.out (n - 1 - i) 4 hin2 (by omega)⟩).mono ?_
        rintro e w3 ⟨vb', Z2, rfl, hlowB, hzB, hWb3, hSb3, hb3⟩
        have HWb3 : Hid (Wk w3 w.heap.size vb' (putL Z2 nb).length (fun k j => Z2 (putL Z2 nb)[k]! j)) := hWb3.base (by omega)
        have HSb3 : Hid (∀ k j, k < (putL Z2 nb).length → j < 5 → Small (Z2 (putL Z2 nb)[k]! j)) := hSb3
        have HBB : Hid (allB c d Z n = true → BackOf n Z (i + 1) (putL Z2 nb).length (fun k j => Z2 (putL Z2 nb)[k]! j)) := fun h => back_step (HFB.out h).2 (allB_rise n h) hin hlowB hzB
        have hnb3 : (putL Z2 nb).length ≤ i + 1 := by have := putL_len Z2 nb; omega
        have HWa3 : Hid (Wk w3 w.heap.size va' (putL Z' na).length (fun k j => Z' (putL Z' na)[k]! j)) := HWa2.out.below hb3
        have HT3 : Hid (Two w3 w1.heap.size (.int .i64 c) (.int .i64 d)) := HT2.out.below hb3
        have HWl3 : Hid (Wk w3 w.heap.size (.slice (some ⟨g, 0, none⟩) n cp) n Z) := HWl2.out.below hb3
        have HB3 : Hid (Below w.heap.size w w3) := bthen HB2.out hb3
        have hz3 : w1.heap.size < w3.heap.size := Nat.lt_of_lt_of_le hz2 hb3.size
        clear hlowB hzB hWb3 hSb3 HWb2 HSb HWa2 HT2 HWl2 HB2 hb3 c0 c1 c2 c3 c4 HCR2 htn hge hlt2
        go_wp2
        go_roundw
        case rel => exact ⟨i + 1, _, _, _, _, _, _, by omega, by go_num, rfl, rfl, HWa3.out, HWb3.out, hna2, hnb3, HSa2.out, HSb3.out, fun h => ⟨HFA.out h, HBB.out h⟩, HT3.out, HWl3.out, HB3.out, hz3⟩
        case measure => simp [intOf]; omega
      · have hin' : i = n := by omega
        subst hin'
        obtain ⟨t0, t1, _, _⟩ := HT.out
        have hcon := listOk_impl c d g 0 i cp Z (by omega) wr hgr HCR.out
        have HCON : Hid (Calls Try.prog 7 #[.agg #[.int .i64 c, .int .i64 d], .slice (some ⟨g, 0, none⟩) i cp] wr fun e w' => e = .returned (.bool (allB c d Z i)) ∧ Below wr.heap.size wr w') := hcon
        clear hcon HCR
        go_wp2_with fail
        refine HCON.out.mono ?_
        rintro e w2 ⟨rfl, hb2⟩
        have HWa2 : Hid (Wk w2 w.heap.size va na ZA) := HWa.out.below hb2
        have HWb2 : Hid (Wk w2 w.heap.size vb nb ZB) := HWb.out.below hb2
        have HWl2 : Hid (Wk w2 w.heap.size (.slice (some ⟨g, 0, none⟩) i cp) i Z) := HWl.out.below hb2
        have HB2 : Hid (Below w.heap.size w w2) := bthen hB hb2
        clear HCON HWa HWb HWl hb2 hB t0 t1 HT
        cases hall : allB c d Z i
        · obtain ⟨ga, ca, ea, _⟩ := HWa2.out.cells
          subst ea
          have hle : (na : Int) ≤ (i : Int) := by omega
          go_wp2_with fail
          refine (maOk_any _).mono ?_
          rintro e w3 ⟨rfl, hb3⟩
          have HB3 : Hid (Below w.heap.size w w3) := bthen HB2.out hb3
          clear hb3 HB2
          go_wp2
          go_ret
          exact ⟨rfl, HB3.out⟩
        · obtain ⟨⟨e1, hA⟩, ⟨e2, hBk⟩⟩ := HFB.out hall
          subst e1
          subst e2
          have HA : Hid (Wk w2 w.heap.size va nb Z) := HWa2.out.same hA
          have HBk : Hid (Wk w2 w.heap.size vb nb Z) := HWb2.out.same (fun k j hk hj => by rw [hBk k j hk hj, show nb - nb + k = k by omega])
          clear HWa2 HWb2 hA hBk HFB
          go_wp2_with fail
          refine (maWk HA.out HBk.out (by omega)).mono ?_
          rintro e w3 ⟨rfl, hb3⟩
          have HA3 : Hid (Wk w3 w.heap.size va nb Z) := HA.out.below hb3
          have HL3 : Hid (Wk w3 w.heap.size (.slice (some ⟨g, 0, none⟩) nb cp) nb Z) := HWl2.out.below hb3
          have HB3 : Hid (Below w.heap.size w w3) := bthen HB2.out hb3
          clear hb3 HB2 HA HBk HWl2
          go_wp2_with fail
          refine (maWk HA3.out HL3.out (by omega)).mono ?_
          rintro e w4 ⟨rfl, hb4⟩
          have HB4 : Hid (Below w.heap.size w w4) := bthen HB3.out hb4
          clear hb4 HB3 HA3 HL3
          go_wp2
          go_ret
          exact ⟨rfl, HB4.out⟩
end Go.Proofs.Ytfigfalmmieelaa
