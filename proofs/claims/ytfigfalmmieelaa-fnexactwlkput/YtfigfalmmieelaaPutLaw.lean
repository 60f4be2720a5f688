/- The walk of the law FnExactWlkPut: it answers true; conditions: the list lies in memory as a row of structs of five integers. -/
import Derived.Test.YtfigfalmmieelaaPut4
import Derived.Deep.DeepCutAuto
namespace Go.Proofs.Ytfigfalmmieelaa
open Go.RowKit Go.Deep Go.Maps
set_option linter.unusedVariables false

/-- Block b holds the n-th walker of Z. -/
def Box5 (w : World) (b n : Nat) (Z : Nat → Nat → Int) : Prop :=
  b < w.heap.size ∧ w.cell? ⟨b, 0, none⟩ = some (.int .i64 (Z n 0)) ∧ w.cell? ⟨b, 1, none⟩ = some (.int .i64 (Z n 1)) ∧ w.cell? ⟨b, 2, none⟩ = some (.int .i64 (Z n 2)) ∧ w.cell? ⟨b, 3, none⟩ = some (.int .i64 (Z n 3)) ∧ w.cell? ⟨b, 4, none⟩ = some (.int .i64 (Z n 4))
theorem Box5.grown {w w' : World} {b n : Nat} {Z : Nat → Nat → Int} {row : Option Nat} (h : Box5 w b n Z) (hg : w.grownBy w' row) (hne : some b ≠ row) : Box5 w' b n Z := by
  obtain ⟨h0, h1, h2, h3, h4, h5⟩ := h
  exact ⟨Nat.lt_of_lt_of_le h0 hg.size, hg.cell h1 hne, hg.cell h2 hne, hg.cell h3 hne, hg.cell h4 hne, hg.cell h5 hne⟩
theorem Box5.below {w w' : World} {b n : Nat} {Z : Nat → Nat → Int} (h : Box5 w b n Z) (hb : Below w.heap.size w w') : Box5 w' b n Z := h.grown (grown_of_below hb) (by simp)

set_option maxRecDepth 20000 in
set_option maxHeartbeats 4000000 in
theorem law_put (a : Option Addr) (n cap : Nat) (Z : Nat → Nat → Int) (hm : n ≤ maxLen) (w : World) (h : Row5 w a n Z) (hwf : ∀ k j, k < n + 1 → j < 5 → (Lit.int .i64 (Z k j)).wf = true) :
    Calls Try.prog 5 #[.slice a n cap, .agg #[.int .i64 (Z n 0), .int .i64 (Z n 1), .int .i64 (Z n 2), .int .i64 (Z n 3), .int .i64 (Z n 4)]] w fun e w' => e = .returned (.bool true) ∧ Below w.heap.size w w' := by
  have H : Hid (Row5 w a n Z) := h
  have HW : Hid (∀ k j, k < n → j < 5 → (Lit.int .i64 (Z k j)).wf = true) := fun k j hk hj => hwf k j (by omega) hj
  have hzw : (Lit.int .i64 (Z n 0)).wf = true := hwf n 0 (by omega) (by omega)
  have HZW : Hid ((Lit.int .i64 (Z n 0)).wf = true) := hzw
  clear h hwf hzw
  have hm' : (n : Int) ≤ 9223372036854775807 := by unfold maxLen at hm; omega
  clear hm
  have HB0 : Hid (∀ o : Obj, Below w.heap.size w (w.alloc o)) := fun o => (Below.refl _ _).alloc (Nat.le_refl _) o
  by_cases hn : (n : Int) ≤ 1048576
  · have hn' : n ≤ 1048576 := by omega
    have hL : (putL Z n).length ≤ 2000000 := by
      unfold putL
      rw [putAt_len]
      have := rest_len Z n (Z n 0)
      omega
    have HL : Hid ((putL Z n).length ≤ 2000000) := hL
    have hn2 : n ≤ 2000000 := by omega
    have p1 := M_pos n
    have p2 := M_pos (putL Z n).length
    clear hL
    go_enter Try.func5, Try.ntmps5
    go_wp2_with fail
    refine (szList a n cap hm' _).mono ?_
    rintro e w1 ⟨rfl, hb1⟩
    rw [if_pos hn]
    have X1 : Hid (Box5 w1 w.heap.size n Z) := Box5.below (w := w.alloc _) ⟨by simp, by simp, by simp, by simp, by simp, by simp⟩ hb1
    have B1 : Below w.heap.size w w1 := bthen (HB0.out _) hb1
    clear hb1 HB0
    go_upto_region 5 with fail
    go_cut [6] (fun s wx => ∃ vs, vs = s ∧ Walks wx w1.heap.size vs (putL Z n) Z ∧ Box5 wx w.heap.size n Z ∧ Below w1.heap.size w1 wx)
    case first =>
      obtain ⟨hlt, x0, x1, x2, x3, x4⟩ := X1.out
      refine wp_region_held_drew (S := fun w' => (∀ b o, b < w1.heap.size → w'.cell? ⟨b, o, none⟩ = w1.cell? ⟨b, o, none⟩) ∧ w1.heap.size ≤ w'.heap.size) (by kernel_rfl) ⟨fun _ _ _ => rfl, Nat.le_refl _⟩ ?_
      intro hHeld
      refine wpAnyH_take (i := 0) (v := .slice a n cap) rfl (by kernel_rfl) (by kernel_rfl) (by kernel_rfl) (fun _ _ _ h => h) (Or.inl ⟨by rfl, ?_⟩) (by assumption) ?_
      · intro wx hSw; go_simp
      try simp only [Act.put, List.setIfInBounds_toArray, List.set_cons_zero, List.set_cons_succ, List.getElem_toArray, List.getElem_cons_zero]
      refine wpAnyH_take (i := 2) (v := .agg #[.int .i64 (Z n 0), .int .i64 (Z n 1), .int .i64 (Z n 2), .int .i64 (Z n 3), .int .i64 (Z n 4)]) rfl (by kernel_rfl) (by kernel_rfl) (by kernel_rfl) (fun _ _ _ h => h) (Or.inl ⟨by rfl, ?_⟩) (by assumption) ?_
      · intro wx hSw; go_simp
      try simp only [Act.put, List.setIfInBounds_toArray, List.set_cons_zero, List.set_cons_succ, List.getElem_toArray, List.getElem_cons_zero, List.getElem_cons_succ]
      refine wpAnyH_ready (rs := [1]) (by kernel_rfl) (by simp) ?_
      refine AllReadyH.cons rfl (fun K hK => ?_) AllReadyH.nil
      go_simp
      go_wp2_with (go_at_call 14; refine (toList_own a n cap Z hn' w1.drew (row_below (B := 0) H.out B1.drew)).mono ?_; rintro e w2 ⟨rfl, hc2, hs2, hb2⟩)
      refine hK.out _ _ (keepS hHeld hb2) (fun hHeld2 => ?_)
      clear hK K
      have HC2 : Hid (Own5 w2 w1.heap.size n Z n) := hc2
      have hs2' : w1.heap.size < w2.heap.size := hs2
      have hb2' : Below w1.heap.size w1 w2 := bthen (Below.refl _ _).drew hb2
      clear hc2 hs2 hb2
      try simp only [Act.put, List.setIfInBounds_toArray, List.set_cons_zero, List.set_cons_succ, List.getElem_toArray, List.getElem_cons_zero, List.getElem_cons_succ]
      refine wpAnyH_ready (rs := [3]) (by kernel_rfl) (by simp) ?_
      refine AllReadyH.cons rfl (fun K hK => ?_) AllReadyH.nil
      go_simp
      go_wp2_with (go_at_call 20; refine (toWalker _ _ _ _ _ _).mono ?_; rintro e w3 ⟨rfl, hb3⟩)
      refine hK.out _ _ (keepS hHeld2 hb3) (fun hHeld3 => ?_)
      clear hK K
      have HC3 : Hid (Own5 w3 w1.heap.size n Z n) := own_below HC2.out hs2' hb3
      have hs3 : w1.heap.size < w3.heap.size := Nat.lt_of_lt_of_le hs2' hb3.size
      have hb3' : Below w1.heap.size w1 w3 := bthen hb2' hb3
      clear HC2 hb3 hb2' hs2'
      try simp only [Act.put, List.setIfInBounds_toArray, List.set_cons_zero, List.set_cons_succ, List.getElem_toArray, List.getElem_cons_zero, List.getElem_cons_succ]
      refine wpAnyH_ready (rs := [4]) (by kernel_rfl) (by simp) ?_
      refine AllReadyH.cons rfl (fun K hK => ?_) AllReadyH.nil
      go_simp
      go_wp2_with (go_at_call 19; refine (put_spec w1.heap.size 0 n n Z hn' w3 hs3 (own_row HC3.out)).mono ?_; rintro e w4 ⟨vs, rfl, hv4, hb4⟩)
      refine hK.out _ _ (keepS hHeld3 hb4) (fun hHeld4 => ?_)
      clear hK K
      have HV4 : Hid (Walks w4 w1.heap.size vs (putL Z n) Z) := walks_base hv4 (Nat.le_of_lt hs3)
      have hb4' : Below w1.heap.size w1 w4 := bthen hb3' hb4
      have HX4 : Hid (Box5 w4 w.heap.size n Z) := X1.out.below hb4'
      clear HC3 hb4 hb3' hv4 hs3
      try simp only [Act.put, List.setIfInBounds_toArray, List.set_cons_zero, List.set_cons_succ, List.getElem_toArray, List.getElem_cons_zero, List.getElem_cons_succ]
      refine wpAnyH_take (i := 5) (v := vs) rfl (by kernel_rfl) (by kernel_rfl) (by kernel_rfl) (fun _ _ _ h => h) (Or.inl ⟨by rfl, ?_⟩) (by assumption) ?_
      · intro wx hSw; go_simp
      try simp only [Act.put, List.setIfInBounds_toArray, List.set_cons_zero, List.set_cons_succ, List.getElem_toArray, List.getElem_cons_zero, List.getElem_cons_succ]
      refine wpAnyH_done (by kernel_rfl) ?_ _
      go_wp2
      go_meet
      case rel => exact ⟨vs, rfl, HV4.out, HX4.out, hb4'⟩
    case rest =>
      obtain ⟨w3, hw3⟩ : ∃ w3, w3 = wc := ⟨_, rfl⟩
      subst hw3
      obtain ⟨vs, rfl, hv3, hx3, hb3⟩ := hcut
      have HV3 : Hid (Walks w3 w1.heap.size vs (putL Z n) Z) := hv3
      have B3 := bthen B1 hb3
      have Q3 : Hid (Box5 w3 w.heap.size n Z) := hx3
      have s3 : w.heap.size ≤ w3.heap.size := B3.size
      have s3' : w.heap.size < w3.heap.size := hx3.1
      have HNS : Hid (vs.ownBlock ≠ some w3.heap.size) := by
        obtain ⟨g, e, _, h⟩ := hv3.block
        unfold Hid
        rw [e]
        intro e2
        cases e2
        omega
      clear hb3 B1 hv3 hx3 X1
      go_wp2_with fail
      refine (toList_own a n cap Z hn' _ (row_below (B := 0) H.out B3)).mono ?_
      rintro e w4 ⟨rfl, hc4, hs4, hb4⟩
      have X4 : Hid (Own5 w4 w3.heap.size n Z n) := hc4
      have Q4 : Hid (Box5 w4 w.heap.size n Z) := Q3.out.below hb4
      have HV4 : Hid (Walks w4 w1.heap.size vs (putL Z n) Z) := HV3.out.below hb4
      have B4 := bthen B3 hb4
      clear hb4 B3 hc4 HV3 Q3
      have y0 : w4.cell? ⟨w.heap.size, 0, none⟩ = some (.int .i64 (Z n 0)) := Q4.out.2.1
      have y1 : w4.cell? ⟨w.heap.size, 1, none⟩ = some (.int .i64 (Z n 1)) := Q4.out.2.2.1
      have y2 : w4.cell? ⟨w.heap.size, 2, none⟩ = some (.int .i64 (Z n 2)) := Q4.out.2.2.2.1
      have y3 : w4.cell? ⟨w.heap.size, 3, none⟩ = some (.int .i64 (Z n 3)) := Q4.out.2.2.2.2.1
      have y4 : w4.cell? ⟨w.heap.size, 4, none⟩ = some (.int .i64 (Z n 4)) := Q4.out.2.2.2.2.2
      go_wp2_with fail
      refine (toWalker _ _ _ _ _ _).mono ?_
      rintro e w4a ⟨rfl, hb4a⟩
      have X4a : Hid (Own5 w4a w3.heap.size n Z n) := own_below X4.out hs4 hb4a
      have HV4a : Hid (Walks w4a w1.heap.size vs (putL Z n) Z) := HV4.out.below hb4a
      have Q4a : Hid (Box5 w4a w.heap.size n Z) := Q4.out.below hb4a
      have B4a := bthen B4 hb4a
      have s4b : w3.heap.size < w4a.heap.size := Nat.lt_of_lt_of_le hs4 hb4a.size
      clear X4 HV4 Q4 B4 hb4a hs4 y0 y1 y2 y3 y4
      go_wp2_with fail
      refine (put_impl _ 0 n n Z hn' _ s4b HZW.out (own_row X4a.out) HW.out).mono ?_
      rintro e w5 ⟨vi, rfl, hv5, hb5⟩
      have Q5 : Hid (Box5 w5 w.heap.size n Z) := Q4a.out.below hb5
      clear Q4a
      have HI5 : Hid (Walks w5 w4a.heap.size vi (putL Z n) Z) := hv5
      have HV5 : Hid (Walks w5 w1.heap.size vs (putL Z n) Z) := HV4a.out.below hb5
      have X5 : Hid (Own5 w5 w3.heap.size n Z n) := own_below X4a.out s4b hb5
      have HNI : Hid (vi.ownBlock ≠ some w3.heap.size ∧ vs.ownBlock ≠ vi.ownBlock) := by
        obtain ⟨g, e, hg, h⟩ := hv5.block
        obtain ⟨g', e', hg', h'⟩ := HV4a.out.block
        unfold Hid
        rw [e, e']
        refine ⟨fun e2 => ?_, fun e2 => ?_⟩ <;> (cases e2; omega)
      have hs5 : w3.heap.size < w5.heap.size := Nat.lt_of_lt_of_le s4b hb5.size
      have B5 := bthen B4a hb5
      have s4 : w.heap.size ≤ w4a.heap.size := B4a.size
      clear hb5 B4a hv5 HV4a X4a
      go_wp2_with fail
      refine (eqWalks HI5.out HV5.out HL.out).mono ?_
      rintro e w6 ⟨rfl, hb6⟩
      have HI6 : Hid (Walks w6 w4a.heap.size vi (putL Z n) Z) := HI5.out.below hb6
      have HV6 : Hid (Walks w6 w1.heap.size vs (putL Z n) Z) := HV5.out.below hb6
      have X6 : Hid (Own5 w6 w3.heap.size n Z n) := own_below X5.out hs5 hb6
      have hs6 : w3.heap.size < w6.heap.size := Nat.lt_of_lt_of_le hs5 hb6.size
      have B6 := bthen B5 hb6
      have Q6 : Hid (Box5 w6 w.heap.size n Z) := Q5.out.below hb6
      clear hb6 B5 HI5 HV5 X5 hs5
      go_wp2_with fail
      refine (toList_any a n cap Z hn' _ (row_below (B := 0) H.out B6)).mono ?_
      rintro e w7 ⟨rfl, hc7, hs7, hb7⟩
      have HD7 : Hid (∀ k j, k < n → j < 5 → w7.cell? ⟨w6.heap.size, 0 + k * 5 + j, none⟩ = some (.int .i64 (Z k j))) := hc7
      have HI7 : Hid (Walks w7 w4a.heap.size vi (putL Z n) Z) := HI6.out.below hb7
      have HV7 : Hid (Walks w7 w1.heap.size vs (putL Z n) Z) := HV6.out.below hb7
      have X7 : Hid (Own5 w7 w3.heap.size n Z n) := own_below X6.out hs6 hb7
      have hs7' : w3.heap.size < w7.heap.size := Nat.lt_of_lt_of_le hs6 hb7.size
      have B7 := bthen B6 hb7
      have Q7 : Hid (Box5 w7 w.heap.size n Z) := Q6.out.below hb7
      clear hb7 B6 HI6 HV6 X6 hs6 hc7
      go_wp2_with fail
      refine (eqList w3.heap.size 0 n w6.heap.size 0 n n Z hn2 _ hs7' hs7 (own_row X7.out) HD7.out).mono ?_
      rintro e w8 ⟨rfl, hb8⟩
      have HI8 : Hid (Walks w8 w4a.heap.size vi (putL Z n) Z) := HI7.out.below hb8
      have HV8 : Hid (Walks w8 w1.heap.size vs (putL Z n) Z) := HV7.out.below hb8
      have X8 : Hid (Own5 w8 w3.heap.size n Z n) := own_below X7.out hs7' hb8
      have hs8 : w3.heap.size < w8.heap.size := Nat.lt_of_lt_of_le hs7' hb8.size
      have B8 := bthen B7 hb8
      have Q8 : Hid (Box5 w8 w.heap.size n Z) := Q7.out.below hb8
      clear hb8 B7 HI7 HV7 X7 hs7' hs7 HD7
      go_wp2_with fail
      refine (markOwn w3.heap.size n n Z hn2 _ hs8 X8.out).mono ?_
      rintro e w9 ⟨rfl, hmk, hg9, hz9⟩
      have HI9 : Hid (Walks w9 w4a.heap.size vi (putL Z n) Z) := HI8.out.kept hg9 HNI.out.1
      have HV9 : Hid (Walks w9 w1.heap.size vs (putL Z n) Z) := HV8.out.kept hg9 HNS.out
      have Q9 : Hid (Box5 w9 w.heap.size n Z) := Q8.out.grown hg9 (fun e => by injection e with e; omega)
      have b89 : Below w.heap.size w w9 := B8.grown hg9 (by omega) (fun k e => by cases e; exact s3)
      clear hmk hg9 X8 HI8 HV8 B8
      go_wp2_with fail
      refine (eqWalks HI9.out HV9.out HL.out).mono ?_
      rintro e w10 ⟨rfl, hb10⟩
      have HI10 : Hid (Walks w10 w4a.heap.size vi (putL Z n) Z) := HI9.out.below hb10
      have HV10 : Hid (Walks w10 w1.heap.size vs (putL Z n) Z) := HV9.out.below hb10
      have B10 := bthen b89 hb10
      have Q10 : Hid (Box5 w10 w.heap.size n Z) := Q9.out.below hb10
      clear HI9 HV9 hb10 b89
      go_wp2_with fail
      refine (markWalks HI10.out HL.out).mono ?_
      rintro e w11 ⟨rfl, hmk, hg11, hz11⟩
      have HM11 : Hid (Marked w11 w4a.heap.size vi (putL Z n).length) := hmk
      have HV11 : Hid (Walks w11 w1.heap.size vs (putL Z n) Z) := HV10.out.kept hg11 HNI.out.2
      have Q11 : Hid (Box5 w11 w.heap.size n Z) := Q10.out.grown hg11 (fun e => by
        obtain ⟨g, e', hg', _⟩ := HI10.out.block
        rw [e'] at e
        cases e
        omega)
      have B11 : Below w.heap.size w w11 := B10.grown hg11 B10.size (fun k e => by
        obtain ⟨g, e', hg', _⟩ := HI10.out.block
        rw [e'] at e
        cases e
        omega)
      clear hmk hg11 HI10 HV10 B10
      go_wp2_with fail
      refine (heldMarked HM11.out HL.out).mono ?_
      rintro e w12 ⟨rfl, hb12⟩
      have HM12 : Hid (Marked w12 w4a.heap.size vi (putL Z n).length) := HM11.out.below hb12
      have HV12 : Hid (Walks w12 w1.heap.size vs (putL Z n) Z) := HV11.out.below hb12
      have B12 := bthen B11 hb12
      have Q12 : Hid (Box5 w12 w.heap.size n Z) := Q11.out.below hb12
      clear HM11 HV11 hb12 B11
      go_upto_region 24 with fail
      go_cut [12] (fun s wx => ∃ vr, vr = s ∧ Walks wx w12.heap.size vr (putL Z n) Z ∧ Below w12.heap.size w12 wx)
      case first =>
        obtain ⟨hlt, x0, x1, x2, x3, x4⟩ := Q12.out
        refine wp_region_held_drew (S := fun w' => (∀ b o, b < w12.heap.size → w'.cell? ⟨b, o, none⟩ = w12.cell? ⟨b, o, none⟩) ∧ w12.heap.size ≤ w'.heap.size) (by kernel_rfl) ⟨fun _ _ _ => rfl, Nat.le_refl _⟩ ?_
        intro hHeld
        refine wpAnyH_take (i := 0) (v := .slice a n cap) rfl (by kernel_rfl) (by kernel_rfl) (by kernel_rfl) (fun _ _ _ h => h) (Or.inl ⟨by rfl, ?_⟩) (by assumption) ?_
        · intro wx hSw; go_simp
        try simp only [Act.put, List.setIfInBounds_toArray, List.set_cons_zero, List.set_cons_succ, List.getElem_toArray, List.getElem_cons_zero]
        refine wpAnyH_take (i := 2) (v := .agg #[.int .i64 (Z n 0), .int .i64 (Z n 1), .int .i64 (Z n 2), .int .i64 (Z n 3), .int .i64 (Z n 4)]) rfl (by kernel_rfl) (by kernel_rfl) (by kernel_rfl) (fun _ _ _ h => h) (Or.inl ⟨by rfl, ?_⟩) (by assumption) ?_
        · intro wx hSw; go_simp
        try simp only [Act.put, List.setIfInBounds_toArray, List.set_cons_zero, List.set_cons_succ, List.getElem_toArray, List.getElem_cons_zero, List.getElem_cons_succ]
        refine wpAnyH_ready (rs := [1]) (by kernel_rfl) (by simp) ?_
        refine AllReadyH.cons rfl (fun K hK => ?_) AllReadyH.nil
        go_simp
        go_wp2_with (go_at_call 14; refine (toList_own a n cap Z hn' w12.drew (row_below (B := 0) H.out B12.drew)).mono ?_; rintro e w13 ⟨rfl, hc2, hs2, hb2⟩)
        refine hK.out _ _ (keepS hHeld hb2) (fun hHeld2 => ?_)
        clear hK K
        have HC2 : Hid (Own5 w13 w12.heap.size n Z n) := hc2
        have hs2' : w12.heap.size < w13.heap.size := hs2
        have hb2' : Below w12.heap.size w12 w13 := bthen (Below.refl _ _).drew hb2
        clear hc2 hs2 hb2
        try simp only [Act.put, List.setIfInBounds_toArray, List.set_cons_zero, List.set_cons_succ, List.getElem_toArray, List.getElem_cons_zero, List.getElem_cons_succ]
        refine wpAnyH_ready (rs := [3]) (by kernel_rfl) (by simp) ?_
        refine AllReadyH.cons rfl (fun K hK => ?_) AllReadyH.nil
        go_simp
        go_wp2_with (go_at_call 20; refine (toWalker _ _ _ _ _ _).mono ?_; rintro e w14 ⟨rfl, hb3⟩)
        refine hK.out _ _ (keepS hHeld2 hb3) (fun hHeld3 => ?_)
        clear hK K
        have HC3 : Hid (Own5 w14 w12.heap.size n Z n) := own_below HC2.out hs2' hb3
        have hs3 : w12.heap.size < w14.heap.size := Nat.lt_of_lt_of_le hs2' hb3.size
        have hb3' : Below w12.heap.size w12 w14 := bthen hb2' hb3
        clear HC2 hb3 hb2' hs2'
        try simp only [Act.put, List.setIfInBounds_toArray, List.set_cons_zero, List.set_cons_succ, List.getElem_toArray, List.getElem_cons_zero, List.getElem_cons_succ]
        refine wpAnyH_ready (rs := [4]) (by kernel_rfl) (by simp) ?_
        refine AllReadyH.cons rfl (fun K hK => ?_) AllReadyH.nil
        go_simp
        go_wp2_with (go_at_call 9; refine (put_impl w12.heap.size 0 n n Z hn' w14 hs3 HZW.out (own_row HC3.out) HW.out).mono ?_; rintro e w15 ⟨vr, rfl, hv4, hb4⟩)
        refine hK.out _ _ (keepS hHeld3 hb4) (fun hHeld4 => ?_)
        clear hK K
        have HV4 : Hid (Walks w15 w12.heap.size vr (putL Z n) Z) := walks_base hv4 (Nat.le_of_lt hs3)
        have hb4' : Below w12.heap.size w12 w15 := bthen hb3' hb4
        clear HC3 hb4 hb3' hv4 hs3
        try simp only [Act.put, List.setIfInBounds_toArray, List.set_cons_zero, List.set_cons_succ, List.getElem_toArray, List.getElem_cons_zero, List.getElem_cons_succ]
        refine wpAnyH_take (i := 5) (v := vr) rfl (by kernel_rfl) (by kernel_rfl) (by kernel_rfl) (fun _ _ _ h => h) (Or.inl ⟨by rfl, ?_⟩) (by assumption) ?_
        · intro wx hSw; go_simp
        try simp only [Act.put, List.setIfInBounds_toArray, List.set_cons_zero, List.set_cons_succ, List.getElem_toArray, List.getElem_cons_zero, List.getElem_cons_succ]
        refine wpAnyH_done (by kernel_rfl) ?_ _
        go_wp2
        go_meet
        case rel => exact ⟨vr, rfl, HV4.out, hb4'⟩
      case rest =>
      obtain ⟨vr, rfl, hv14, hb14⟩ := hcut
      have HR14 : Hid (Walks wc w12.heap.size vr (putL Z n) Z) := hv14
      have HM14 : Hid (Marked wc w4a.heap.size vi (putL Z n).length) := HM12.out.below hb14
      have HV14 : Hid (Walks wc w1.heap.size vs (putL Z n) Z) := HV12.out.below hb14
      have B14 := bthen B12 hb14
      clear HM12 HV12 hb14 B12 hv14
      go_wp2_with fail
      refine (eqWalks HR14.out HV14.out HL.out).mono ?_
      rintro e w15 ⟨rfl, hb15⟩
      have HM15 : Hid (Marked w15 w4a.heap.size vi (putL Z n).length) := HM14.out.below hb15
      have B15 := bthen B14 hb15
      clear HM14 HV14 HR14 hb15 B14
      go_wp2_with fail
      refine (heldMarked HM15.out HL.out).mono ?_
      rintro e w16 ⟨rfl, hb16⟩
      have B16 := bthen B15 hb16
      clear HM15 hb16 B15
      go_wp2
      go_ret
      exact ⟨rfl, B16⟩
  · go_enter Try.func5, Try.ntmps5
    go_wp2_with fail
    refine (szList a n cap hm' _).mono ?_
    rintro e w1 ⟨rfl, hb1⟩
    rw [if_neg (by omega)]
    have B1 : Below w.heap.size w w1 := bthen (HB0.out _) hb1
    clear hb1 HB0
    go_wp2
    go_ret
    exact ⟨rfl, B1⟩
end Go.Proofs.Ytfigfalmmieelaa
