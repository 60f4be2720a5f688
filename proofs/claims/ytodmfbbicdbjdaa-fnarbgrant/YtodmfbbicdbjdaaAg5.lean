/- The walk of the law FnArbGrant: it answers true; conditions: the code is a slice of bytes. -/
import Derived.Test.YtodmfbbicdbjdaaAg3
import Derived.Test.YtodmfbbicdbjdaaAg4
namespace Go.Proofs.Ytodmfbbicdbjdaa
open Go.RowKit Go.Deep
set_option linter.unusedVariables false

theorem newOk {c d n : Int} (h : okB c d = true) (hn : 1 ≤ n ∧ n ≤ 3) {lo hi : Nat} {w : World} {v : Value} (hO : OwnT lo hi w v (newT c d)) :
    Calls Try.prog 8 #[.agg #[.int .i64 c, .int .i64 d], v, .int .i64 n] w fun e w' => e = .returned (.bool true) ∧ Below w.heap.size w w' := by
  have hc := okB_in h
  have hs : (newT c d).short 1048576 := by simp only [newT, h, if_true]; exact ⟨by show c.toNat ≤ 1048576; omega, by show c.toNat ≤ 1048576; omega⟩
  have hk := arbOk_impl c d v (newT c d) n hs w hO.at
  rw [tab_new h hn] at hk
  exact hk

set_option maxRecDepth 20000 in
set_option maxHeartbeats 4000000 in
theorem law_grant (a : Option Addr) (len cap : Nat) (zs : List Int) (w : World) (h : IsRow w a len cap zs) :
    Calls Try.prog 3 #[.slice a len cap] w fun e w' => e = .returned (.bool true) ∧ Below w.heap.size w w' := by
  have H : Hid (IsRow w a len cap zs) := h
  clear h
  by_cases hl : (1048576 : Int) < (len : Int)
  · go_enter Try.func3, Try.ntmps3
    go_wp2
    go_ret
    exact ⟨rfl, Below.refl _ _⟩
  · go_enter Try.func3, Try.ntmps3
    go_wp2_with fail
    refine (draw_grant a len cap zs _ H.out).mono ?_
    rintro e w1 ⟨c, d, v, T, n, ce, sv, rfl, hT, hsh, hn, hce, hsv, B1⟩
    clear H
    obtain ⟨aS, kS, aA, kA, rfl, hrS, hrA⟩ := hT.parts
    clear hT
    have HSH : Hid (T.short 1000) := hsh
    clear hsh
    obtain ⟨G1, G2, eG⟩ : ∃ a b, grantR c d T n ce sv = (a, b) := ⟨_, _, rfl⟩
    have hG1 : G1.short 1000 := by have := grantR_sh (c := c) (d := d) (n := n) (cell := ce) (server := sv) HSH.out; rw [eG] at this; exact this
    have HG1 : Hid (G1.short 1000) := hG1
    have EG : Hid (grantR c d T n ce sv = (G1, G2)) := eG
    clear hG1 eG
    have B21 : Hid (Below w.heap.size w w1) := B1
    have VS22 : Hid (Row1 w1 aS T.nS T.S) := hrS
    have VA23 : Hid (Row1 w1 aA T.nA T.A) := hrA
    clear B1 hrS hrA
    obtain ⟨w2, e2⟩ : ∃ w2, w2 = (w1.alloc (.cells #[.int .i64 c, .int .i64 d] 24)).alloc (.cells #[.slice aS T.nS kS, .slice aA T.nA kA] 27) := ⟨_, rfl⟩
    have hb2 : Below w1.heap.size w1 w2 := by rw [e2]; exact ((Below.refl _ _).alloc (Nat.le_refl _) _).alloc (by simp) _
    have hM : Bk w2 w1.heap.size [.int .i64 c, .int .i64 d] := by rw [e2]; exact (bk_new w1 24 [.int .i64 c, .int .i64 d]).below ((Below.refl _ _).alloc (Nat.le_refl _) _)
    have hV : Bk w2 (w1.heap.size + 1) [.slice aS T.nS kS, .slice aA T.nA kA] := by rw [e2]; have h := bk_new (w1.alloc (.cells #[.int .i64 c, .int .i64 d] 24)) 27 [.slice aS T.nS kS, .slice aA T.nA kA]; rw [World.size_alloc] at h; exact h
    have B24 : Hid (Below w.heap.size w w2) := bthen B21.out hb2
    have VS24 : Hid (Row1 w2 aS T.nS T.S) := row1_below VS22.out hb2
    have VA24 : Hid (Row1 w2 aA T.nA T.A) := row1_below VA23.out hb2
    clear B21 VS22 VA23
    have M25 : Hid (Bk w2 w1.heap.size [.int .i64 c, .int .i64 d]) := hM
    have V26 : Hid (Bk w2 (w1.heap.size + 1) [.slice aS T.nS kS, .slice aA T.nA kA]) := hV
    go_upto_region 4 with fail
    rw [← e2]
    clear e2 hb2 hM hV
    have yM0 : w2.cell? ⟨w1.heap.size, 0, none⟩ = some (.int .i64 c) := (M25.out.2 0 (by simp)).1
    have yM1 : w2.cell? ⟨w1.heap.size, 1, none⟩ = some (.int .i64 d) := (M25.out.2 1 (by simp)).1
    have hlM : w1.heap.size < w2.heap.size := M25.out.1
    have yV0 : w2.cell? ⟨(w1.heap.size + 1), 0, none⟩ = some (.slice aS T.nS kS) := (V26.out.2 0 (by simp)).1
    have yV1 : w2.cell? ⟨(w1.heap.size + 1), 1, none⟩ = some (.slice aA T.nA kA) := (V26.out.2 1 (by simp)).1
    have hlV : (w1.heap.size + 1) < w2.heap.size := V26.out.1
    have hc := grantI c d (.agg #[.slice aS T.nS kS, .slice aA T.nA kA]) T n ce sv HSH.out w2 ⟨_, _, _, _, rfl, VS24.out, VA24.out⟩
    simp only [EG.out] at hc
    go_wp2_with fail
    refine hc.mono ?_
    rintro e w3 ⟨bS, lS, bA, lA, rfl, hX, hb⟩
    clear hc
    clear yM0 yM1 hlM yV0 yV1 hlV
    have B27 : Hid (Below w.heap.size w w3) := bthen B24.out hb
    have VS27 : Hid (Row1 w3 aS T.nS T.S) := row1_below VS24.out hb
    have VA27 : Hid (Row1 w3 aA T.nA T.A) := row1_below VA24.out hb
    have M27 : Hid (Bk w3 w1.heap.size [.int .i64 c, .int .i64 d]) := M25.out.below hb
    have V27 : Hid (Bk w3 (w1.heap.size + 1) [.slice aS T.nS kS, .slice aA T.nA kA]) := V26.out.below hb
    clear B24 VS24 VA24 M25 V26
    obtain ⟨_, _, _, _, ev, r1, r2⟩ := hX.parts
    cases ev
    clear hb hX
    have XS28 : Hid (Row1 w3 bS G1.nS G1.S) := r1
    have XA29 : Hid (Row1 w3 bA G1.nA G1.A) := r2
    clear r1 r2
    obtain ⟨w4, ew4⟩ : ∃ w4, w4 = w3.alloc (.cells #[.slice bS G1.nS lS, .slice bA G1.nA lA] 27) := ⟨_, rfl⟩
    have hbw4 : Below w3.heap.size w3 w4 := by rw [ew4]; exact (Below.refl _ _).alloc (Nat.le_refl _) _
    have hkw4 : Bk w4 w3.heap.size [.slice bS G1.nS lS, .slice bA G1.nA lA] := by rw [ew4]; exact bk_new w3 27 [.slice bS G1.nS lS, .slice bA G1.nA lA]
    have B30 : Hid (Below w.heap.size w w4) := bthen B27.out hbw4
    have VS30 : Hid (Row1 w4 aS T.nS T.S) := row1_below VS27.out hbw4
    have VA30 : Hid (Row1 w4 aA T.nA T.A) := row1_below VA27.out hbw4
    have M30 : Hid (Bk w4 w1.heap.size [.int .i64 c, .int .i64 d]) := M27.out.below hbw4
    have V30 : Hid (Bk w4 (w1.heap.size + 1) [.slice aS T.nS kS, .slice aA T.nA kA]) := V27.out.below hbw4
    have XS30 : Hid (Row1 w4 bS G1.nS G1.S) := row1_below XS28.out hbw4
    have XA30 : Hid (Row1 w4 bA G1.nA G1.A) := row1_below XA29.out hbw4
    clear B27 VS27 VA27 M27 V27 XS28 XA29
    have X31 : Hid (Bk w4 w3.heap.size [.slice bS G1.nS lS, .slice bA G1.nA lA]) := hkw4
    go_upto_region 5 with fail
    rw [← ew4]
    clear ew4 hbw4 hkw4
    have yM0 : w4.cell? ⟨w1.heap.size, 0, none⟩ = some (.int .i64 c) := (M30.out.2 0 (by simp)).1
    have yM1 : w4.cell? ⟨w1.heap.size, 1, none⟩ = some (.int .i64 d) := (M30.out.2 1 (by simp)).1
    have hlM : w1.heap.size < w4.heap.size := M30.out.1
    have yV0 : w4.cell? ⟨(w1.heap.size + 1), 0, none⟩ = some (.slice aS T.nS kS) := (V30.out.2 0 (by simp)).1
    have yV1 : w4.cell? ⟨(w1.heap.size + 1), 1, none⟩ = some (.slice aA T.nA kA) := (V30.out.2 1 (by simp)).1
    have hlV : (w1.heap.size + 1) < w4.heap.size := V30.out.1
    have hc := grantS c d (.agg #[.slice aS T.nS kS, .slice aA T.nA kA]) T n ce sv HSH.out w4 ⟨_, _, _, _, rfl, VS30.out, VA30.out⟩
    simp only [EG.out] at hc
    go_wp2_with fail
    refine hc.mono ?_
    rintro e w5 ⟨dS, mS, dA, mA, rfl, hX, hb⟩
    clear hc
    clear yM0 yM1 hlM yV0 yV1 hlV
    have B32 : Hid (Below w.heap.size w w5) := bthen B30.out hb
    have VS32 : Hid (Row1 w5 aS T.nS T.S) := row1_below VS30.out hb
    have VA32 : Hid (Row1 w5 aA T.nA T.A) := row1_below VA30.out hb
    have M32 : Hid (Bk w5 w1.heap.size [.int .i64 c, .int .i64 d]) := M30.out.below hb
    have V32 : Hid (Bk w5 (w1.heap.size + 1) [.slice aS T.nS kS, .slice aA T.nA kA]) := V30.out.below hb
    have XS32 : Hid (Row1 w5 bS G1.nS G1.S) := row1_below XS30.out hb
    have XA32 : Hid (Row1 w5 bA G1.nA G1.A) := row1_below XA30.out hb
    have X32 : Hid (Bk w5 w3.heap.size [.slice bS G1.nS lS, .slice bA G1.nA lA]) := X31.out.below hb
    clear B30 VS30 VA30 M30 V30 XS30 XA30 X31
    obtain ⟨_, _, _, _, ev, r1, r2⟩ := hX.parts
    cases ev
    clear hb hX
    have YS33 : Hid (Row1 w5 dS G1.nS G1.S) := r1
    have YA34 : Hid (Row1 w5 dA G1.nA G1.A) := r2
    clear r1 r2
    obtain ⟨w6, ew6⟩ : ∃ w6, w6 = w5.alloc (.cells #[.slice dS G1.nS mS, .slice dA G1.nA mA] 27) := ⟨_, rfl⟩
    have hbw6 : Below w5.heap.size w5 w6 := by rw [ew6]; exact (Below.refl _ _).alloc (Nat.le_refl _) _
    have hkw6 : Bk w6 w5.heap.size [.slice dS G1.nS mS, .slice dA G1.nA mA] := by rw [ew6]; exact bk_new w5 27 [.slice dS G1.nS mS, .slice dA G1.nA mA]
    have B35 : Hid (Below w.heap.size w w6) := bthen B32.out hbw6
    have VS35 : Hid (Row1 w6 aS T.nS T.S) := row1_below VS32.out hbw6
    have VA35 : Hid (Row1 w6 aA T.nA T.A) := row1_below VA32.out hbw6
    have M35 : Hid (Bk w6 w1.heap.size [.int .i64 c, .int .i64 d]) := M32.out.below hbw6
    have V35 : Hid (Bk w6 (w1.heap.size + 1) [.slice aS T.nS kS, .slice aA T.nA kA]) := V32.out.below hbw6
    have XS35 : Hid (Row1 w6 bS G1.nS G1.S) := row1_below XS32.out hbw6
    have XA35 : Hid (Row1 w6 bA G1.nA G1.A) := row1_below XA32.out hbw6
    have X35 : Hid (Bk w6 w3.heap.size [.slice bS G1.nS lS, .slice bA G1.nA lA]) := X32.out.below hbw6
    have YS35 : Hid (Row1 w6 dS G1.nS G1.S) := row1_below YS33.out hbw6
    have YA35 : Hid (Row1 w6 dA G1.nA G1.A) := row1_below YA34.out hbw6
    clear B32 VS32 VA32 M32 V32 XS32 XA32 X32 YS33 YA34
    have Y36 : Hid (Bk w6 w5.heap.size [.slice dS G1.nS mS, .slice dA G1.nA mA]) := hkw6
    go_upto_region 6 with fail
    rw [← ew6]
    clear ew6 hbw6 hkw6
    have k1 : Hid (∀ w', Below w6.heap.size w6 w' → Calls Try.prog 7 #[.slice bS G1.nS lS, .slice dS G1.nS mS] w' fun e w'' => e = .returned (.bool true) ∧ Below w'.heap.size w' w'') := by
      intro w' hb
      exact maInts (row1_below XS35.out hb) (row1_below YS35.out hb) HG1.out.1
    have k2 : Hid (∀ w', Below w6.heap.size w6 w' → Calls Try.prog 7 #[.slice bA G1.nA lA, .slice dA G1.nA mA] w' fun e w'' => e = .returned (.bool true) ∧ Below w'.heap.size w' w'') := by
      intro w' hb
      exact maInts (row1_below XA35.out hb) (row1_below YA35.out hb) HG1.out.2
    have k3 : Hid (∀ w', Below w6.heap.size w6 w' → Calls Try.prog 8 #[.agg #[.int .i64 c, .int .i64 d], .agg #[.slice aS T.nS kS, .slice aA T.nA kA], .int .i64 n] w' fun e w'' => e = .returned (.bool (tabB c d T n)) ∧ Below w'.heap.size w' w'') := by
      intro w' hb
      exact arbOk_impl c d _ T n ⟨by have := HSH.out.1; omega, by have := HSH.out.2; omega⟩ w' ⟨_, _, _, _, rfl, (row1_below VS35.out hb), (row1_below VA35.out hb)⟩
    have k4 : Hid (∀ w', Below w6.heap.size w6 w' → Calls Try.prog 9 #[.agg #[.int .i64 c, .int .i64 d], .agg #[.slice aS T.nS kS, .slice aA T.nA kA], .int .i64 n] w' fun e w'' => e = .returned (.bool (tabB c d T n)) ∧ Below w'.heap.size w' w'') := by
      intro w' hb
      exact arbOk_spec c d _ T n ⟨by have := HSH.out.1; omega, by have := HSH.out.2; omega⟩ w' ⟨_, _, _, _, rfl, (row1_below VS35.out hb), (row1_below VA35.out hb)⟩
    have yM0 : w6.cell? ⟨w1.heap.size, 0, none⟩ = some (.int .i64 c) := (M35.out.2 0 (by simp)).1
    have yM1 : w6.cell? ⟨w1.heap.size, 1, none⟩ = some (.int .i64 d) := (M35.out.2 1 (by simp)).1
    have hlM : w1.heap.size < w6.heap.size := M35.out.1
    have yV0 : w6.cell? ⟨(w1.heap.size + 1), 0, none⟩ = some (.slice aS T.nS kS) := (V35.out.2 0 (by simp)).1
    have yV1 : w6.cell? ⟨(w1.heap.size + 1), 1, none⟩ = some (.slice aA T.nA kA) := (V35.out.2 1 (by simp)).1
    have hlV : (w1.heap.size + 1) < w6.heap.size := V35.out.1
    have yX0 : w6.cell? ⟨w3.heap.size, 0, none⟩ = some (.slice bS G1.nS lS) := (X35.out.2 0 (by simp)).1
    have yX1 : w6.cell? ⟨w3.heap.size, 1, none⟩ = some (.slice bA G1.nA lA) := (X35.out.2 1 (by simp)).1
    have hlX : w3.heap.size < w6.heap.size := X35.out.1
    have yY0 : w6.cell? ⟨w5.heap.size, 0, none⟩ = some (.slice dS G1.nS mS) := (Y36.out.2 0 (by simp)).1
    have yY1 : w6.cell? ⟨w5.heap.size, 1, none⟩ = some (.slice dA G1.nA mA) := (Y36.out.2 1 (by simp)).1
    have hlY : w5.heap.size < w6.heap.size := Y36.out.1
    refine wp_region_held_drew (S := fun w' => (∀ b o, b < w6.heap.size → w'.cell? ⟨b, o, none⟩ = w6.cell? ⟨b, o, none⟩) ∧ w6.heap.size ≤ w'.heap.size) (by kernel_rfl) ⟨fun _ _ _ => rfl, Nat.le_refl _⟩ ?_
    intro hHeld
    refine wpAnyH_take (i := 0) (v := .bool G2) rfl (by kernel_rfl) (by kernel_rfl) (by kernel_rfl) (fun _ _ _ h => h) (Or.inl ⟨by rfl, ?_⟩) (by assumption) ?_
    · intro wx hSw; go_simp
    try simp only [Act.put, List.setIfInBounds_toArray, List.set_cons_zero, List.set_cons_succ, List.getElem_toArray, List.getElem_cons_zero]
    refine wpAnyH_take (i := 1) (v := .bool G2) rfl (by kernel_rfl) (by kernel_rfl) (by kernel_rfl) (fun _ _ _ h => h) (Or.inl ⟨by rfl, ?_⟩) (by assumption) ?_
    · intro wx hSw; go_simp
    try simp only [Act.put, List.setIfInBounds_toArray, List.set_cons_zero, List.set_cons_succ, List.getElem_toArray, List.getElem_cons_zero, List.getElem_cons_succ]
    refine wpAnyH_take (i := 2) (v := .bool false) rfl (by kernel_rfl) (by kernel_rfl) (by kernel_rfl) (fun _ _ _ h => h) (Or.inl ⟨by rfl, ?_⟩) (by assumption) ?_
    · intro wx hSw; go_simp <;> first | omega | (exact IntWalk.i64_in _ (by omega)) | go_num
    try simp only [Act.put, List.setIfInBounds_toArray, List.set_cons_zero, List.set_cons_succ, List.getElem_toArray, List.getElem_cons_zero, List.getElem_cons_succ]
    refine wpAnyH_take (i := 3) (v := .bool false) rfl (by kernel_rfl) (by kernel_rfl) (by kernel_rfl) (fun _ _ _ h => h) (Or.inl ⟨by rfl, ?_⟩) (by assumption) ?_
    · intro wx hSw; go_simp
    try simp only [Act.put, List.setIfInBounds_toArray, List.set_cons_zero, List.set_cons_succ, List.getElem_toArray, List.getElem_cons_zero, List.getElem_cons_succ]
    refine wpAnyH_take (i := 4) (v := .pointer (some ⟨w3.heap.size, 0, none⟩)) rfl (by kernel_rfl) (by kernel_rfl) (by kernel_rfl) (fun _ _ _ h => h) (Or.inl ⟨by rfl, ?_⟩) (by assumption) ?_
    · intro wx hSw; go_simp
    try simp only [Act.put, List.setIfInBounds_toArray, List.set_cons_zero, List.set_cons_succ, List.getElem_toArray, List.getElem_cons_zero, List.getElem_cons_succ]
    refine wpAnyH_take (i := 5) (v := .slice bS G1.nS lS) rfl (by kernel_rfl) (by kernel_rfl) (by kernel_rfl) (fun _ _ _ h => h) (Or.inl ⟨by rfl, ?_⟩) (by assumption) ?_
    · intro wx hSw; go_simp
    try simp only [Act.put, List.setIfInBounds_toArray, List.set_cons_zero, List.set_cons_succ, List.getElem_toArray, List.getElem_cons_zero, List.getElem_cons_succ]
    refine wpAnyH_take (i := 6) (v := .pointer (some ⟨w5.heap.size, 0, none⟩)) rfl (by kernel_rfl) (by kernel_rfl) (by kernel_rfl) (fun _ _ _ h => h) (Or.inl ⟨by rfl, ?_⟩) (by assumption) ?_
    · intro wx hSw; go_simp
    try simp only [Act.put, List.setIfInBounds_toArray, List.set_cons_zero, List.set_cons_succ, List.getElem_toArray, List.getElem_cons_zero, List.getElem_cons_succ]
    refine wpAnyH_take (i := 7) (v := .slice dS G1.nS mS) rfl (by kernel_rfl) (by kernel_rfl) (by kernel_rfl) (fun _ _ _ h => h) (Or.inl ⟨by rfl, ?_⟩) (by assumption) ?_
    · intro wx hSw; go_simp
    try simp only [Act.put, List.setIfInBounds_toArray, List.set_cons_zero, List.set_cons_succ, List.getElem_toArray, List.getElem_cons_zero, List.getElem_cons_succ]
    refine wpAnyH_ready (rs := [8]) (by kernel_rfl) (by simp) ?_
    refine AllReadyH.cons rfl (fun K hK => ?_) AllReadyH.nil
    go_simp
    go_wp2_with fail
    refine (k1.out _ (Below.refl _ _).drew).mono ?_
    rintro e y1 ⟨rfl, hy1⟩
    refine hK.out _ _ (keepS (by assumption) hy1) (fun hNew => ?_)
    clear hK K hHeld
    have hHeld := hNew
    clear hNew
    try simp only [Act.put, List.setIfInBounds_toArray, List.set_cons_zero, List.set_cons_succ, List.getElem_toArray, List.getElem_cons_zero, List.getElem_cons_succ]
    refine wpAnyH_take (i := 9) (v := .bool false) rfl (by kernel_rfl) (by kernel_rfl) (by kernel_rfl) (fun _ _ _ h => h) (Or.inl ⟨by rfl, ?_⟩) (by assumption) ?_
    · intro wx hSw; go_simp
    try simp only [Act.put, List.setIfInBounds_toArray, List.set_cons_zero, List.set_cons_succ, List.getElem_toArray, List.getElem_cons_zero, List.getElem_cons_succ]
    refine wpAnyH_take (i := 10) (v := .bool false) rfl (by kernel_rfl) (by kernel_rfl) (by kernel_rfl) (fun _ _ _ h => h) (Or.inl ⟨by rfl, ?_⟩) (by assumption) ?_
    · intro wx hSw; go_simp
    try simp only [Act.put, List.setIfInBounds_toArray, List.set_cons_zero, List.set_cons_succ, List.getElem_toArray, List.getElem_cons_zero, List.getElem_cons_succ]
    refine wpAnyH_take (i := 11) (v := .bool false) rfl (by kernel_rfl) (by kernel_rfl) (by kernel_rfl) (fun _ _ _ h => h) (Or.inl ⟨by rfl, ?_⟩) (by assumption) ?_
    · intro wx hSw; go_simp
    try simp only [Act.put, List.setIfInBounds_toArray, List.set_cons_zero, List.set_cons_succ, List.getElem_toArray, List.getElem_cons_zero, List.getElem_cons_succ]
    refine wpAnyH_take (i := 12) (v := .pointer (some ⟨w3.heap.size, 1, none⟩)) rfl (by kernel_rfl) (by kernel_rfl) (by kernel_rfl) (fun _ _ _ h => h) (Or.inl ⟨by rfl, ?_⟩) (by assumption) ?_
    · intro wx hSw; go_simp
    try simp only [Act.put, List.setIfInBounds_toArray, List.set_cons_zero, List.set_cons_succ, List.getElem_toArray, List.getElem_cons_zero, List.getElem_cons_succ]
    refine wpAnyH_take (i := 13) (v := .slice bA G1.nA lA) rfl (by kernel_rfl) (by kernel_rfl) (by kernel_rfl) (fun _ _ _ h => h) (Or.inl ⟨by rfl, ?_⟩) (by assumption) ?_
    · intro wx hSw; go_simp
    try simp only [Act.put, List.setIfInBounds_toArray, List.set_cons_zero, List.set_cons_succ, List.getElem_toArray, List.getElem_cons_zero, List.getElem_cons_succ]
    refine wpAnyH_take (i := 14) (v := .pointer (some ⟨w5.heap.size, 1, none⟩)) rfl (by kernel_rfl) (by kernel_rfl) (by kernel_rfl) (fun _ _ _ h => h) (Or.inl ⟨by rfl, ?_⟩) (by assumption) ?_
    · intro wx hSw; go_simp
    try simp only [Act.put, List.setIfInBounds_toArray, List.set_cons_zero, List.set_cons_succ, List.getElem_toArray, List.getElem_cons_zero, List.getElem_cons_succ]
    refine wpAnyH_take (i := 15) (v := .slice dA G1.nA mA) rfl (by kernel_rfl) (by kernel_rfl) (by kernel_rfl) (fun _ _ _ h => h) (Or.inl ⟨by rfl, ?_⟩) (by assumption) ?_
    · intro wx hSw; go_simp
    try simp only [Act.put, List.setIfInBounds_toArray, List.set_cons_zero, List.set_cons_succ, List.getElem_toArray, List.getElem_cons_zero, List.getElem_cons_succ]
    refine wpAnyH_ready (rs := [16]) (by kernel_rfl) (by simp) ?_
    refine AllReadyH.cons rfl (fun K hK => ?_) AllReadyH.nil
    go_simp
    go_wp2_with fail
    refine (k2.out _ (bthen (Below.refl _ _).drew hy1)).mono ?_
    rintro e y2 ⟨rfl, hy2⟩
    refine hK.out _ _ (keepS (by assumption) hy2) (fun hNew => ?_)
    clear hK K hHeld
    have hHeld := hNew
    clear hNew
    try simp only [Act.put, List.setIfInBounds_toArray, List.set_cons_zero, List.set_cons_succ, List.getElem_toArray, List.getElem_cons_zero, List.getElem_cons_succ]
    refine wpAnyH_take (i := 17) (v := .bool false) rfl (by kernel_rfl) (by kernel_rfl) (by kernel_rfl) (fun _ _ _ h => h) (Or.inl ⟨by rfl, ?_⟩) (by assumption) ?_
    · intro wx hSw; go_simp
    try simp only [Act.put, List.setIfInBounds_toArray, List.set_cons_zero, List.set_cons_succ, List.getElem_toArray, List.getElem_cons_zero, List.getElem_cons_succ]
    refine wpAnyH_take (i := 18) (v := .bool false) rfl (by kernel_rfl) (by kernel_rfl) (by kernel_rfl) (fun _ _ _ h => h) (Or.inl ⟨by rfl, ?_⟩) (by assumption) ?_
    · intro wx hSw; go_simp
    try simp only [Act.put, List.setIfInBounds_toArray, List.set_cons_zero, List.set_cons_succ, List.getElem_toArray, List.getElem_cons_zero, List.getElem_cons_succ]
    refine wpAnyH_take (i := 19) (v := .bool false) rfl (by kernel_rfl) (by kernel_rfl) (by kernel_rfl) (fun _ _ _ h => h) (Or.inl ⟨by rfl, ?_⟩) (by assumption) ?_
    · intro wx hSw; go_simp
    try simp only [Act.put, List.setIfInBounds_toArray, List.set_cons_zero, List.set_cons_succ, List.getElem_toArray, List.getElem_cons_zero, List.getElem_cons_succ]
    refine wpAnyH_take (i := 20) (v := .agg #[.int .i64 c, .int .i64 d]) rfl (by kernel_rfl) (by kernel_rfl) (by kernel_rfl) (fun _ _ _ h => h) (Or.inl ⟨by rfl, ?_⟩) (by assumption) ?_
    · intro wx hSw; go_simp
    try simp only [Act.put, List.setIfInBounds_toArray, List.set_cons_zero, List.set_cons_succ, List.getElem_toArray, List.getElem_cons_zero, List.getElem_cons_succ]
    refine wpAnyH_take (i := 21) (v := .agg #[.slice aS T.nS kS, .slice aA T.nA kA]) rfl (by kernel_rfl) (by kernel_rfl) (by kernel_rfl) (fun _ _ _ h => h) (Or.inl ⟨by rfl, ?_⟩) (by assumption) ?_
    · intro wx hSw; go_simp
    try simp only [Act.put, List.setIfInBounds_toArray, List.set_cons_zero, List.set_cons_succ, List.getElem_toArray, List.getElem_cons_zero, List.getElem_cons_succ]
    refine wpAnyH_take (i := 22) (v := .int .i64 n) rfl (by kernel_rfl) (by kernel_rfl) (by kernel_rfl) (fun _ _ _ h => h) (Or.inl ⟨by rfl, ?_⟩) (by assumption) ?_
    · intro wx hSw; go_simp
    try simp only [Act.put, List.setIfInBounds_toArray, List.set_cons_zero, List.set_cons_succ, List.getElem_toArray, List.getElem_cons_zero, List.getElem_cons_succ]
    refine wpAnyH_take (i := 24) (v := .agg #[.int .i64 c, .int .i64 d]) rfl (by kernel_rfl) (by kernel_rfl) (by kernel_rfl) (fun _ _ _ h => h) (Or.inl ⟨by rfl, ?_⟩) (by assumption) ?_
    · intro wx hSw; go_simp
    try simp only [Act.put, List.setIfInBounds_toArray, List.set_cons_zero, List.set_cons_succ, List.getElem_toArray, List.getElem_cons_zero, List.getElem_cons_succ]
    refine wpAnyH_take (i := 25) (v := .agg #[.slice aS T.nS kS, .slice aA T.nA kA]) rfl (by kernel_rfl) (by kernel_rfl) (by kernel_rfl) (fun _ _ _ h => h) (Or.inl ⟨by rfl, ?_⟩) (by assumption) ?_
    · intro wx hSw; go_simp
    try simp only [Act.put, List.setIfInBounds_toArray, List.set_cons_zero, List.set_cons_succ, List.getElem_toArray, List.getElem_cons_zero, List.getElem_cons_succ]
    refine wpAnyH_take (i := 26) (v := .int .i64 n) rfl (by kernel_rfl) (by kernel_rfl) (by kernel_rfl) (fun _ _ _ h => h) (Or.inl ⟨by rfl, ?_⟩) (by assumption) ?_
    · intro wx hSw; go_simp
    try simp only [Act.put, List.setIfInBounds_toArray, List.set_cons_zero, List.set_cons_succ, List.getElem_toArray, List.getElem_cons_zero, List.getElem_cons_succ]
    refine wpAnyH_ready (rs := [23]) (by kernel_rfl) (by simp) ?_
    refine AllReadyH.cons rfl (fun K hK => ?_) AllReadyH.nil
    go_simp
    go_wp2_with fail
    refine (k3.out _ (bthen (bthen (Below.refl _ _).drew hy1) hy2)).mono ?_
    rintro e y3 ⟨rfl, hy3⟩
    refine hK.out _ _ (keepS (by assumption) hy3) (fun hNew => ?_)
    clear hK K hHeld
    have hHeld := hNew
    clear hNew
    try simp only [Act.put, List.setIfInBounds_toArray, List.set_cons_zero, List.set_cons_succ, List.getElem_toArray, List.getElem_cons_zero, List.getElem_cons_succ]
    refine wpAnyH_ready (rs := [27]) (by kernel_rfl) (by simp) ?_
    refine AllReadyH.cons rfl (fun K hK => ?_) AllReadyH.nil
    go_simp
    go_wp2_with fail
    refine (k4.out _ (bthen (bthen (bthen (Below.refl _ _).drew hy1) hy2) hy3)).mono ?_
    rintro e y4 ⟨rfl, hy4⟩
    refine hK.out _ _ (keepS (by assumption) hy4) (fun hNew => ?_)
    clear hK K hHeld
    have hHeld := hNew
    clear hNew
    try simp only [Act.put, List.setIfInBounds_toArray, List.set_cons_zero, List.set_cons_succ, List.getElem_toArray, List.getElem_cons_zero, List.getElem_cons_succ]
    refine wpAnyH_take (i := 28) (v := .bool false) rfl (by kernel_rfl) (by kernel_rfl) (by kernel_rfl) (fun _ _ _ h => h) (Or.inl ⟨by rfl, ?_⟩) (by assumption) ?_
    · intro wx hSw; go_simp <;> first | omega | (exact IntWalk.i64_in _ (by omega)) | go_num
    try simp only [Act.put, List.setIfInBounds_toArray, List.set_cons_zero, List.set_cons_succ, List.getElem_toArray, List.getElem_cons_zero, List.getElem_cons_succ]
    refine wpAnyH_take (i := 29) (v := .bool false) rfl (by kernel_rfl) (by kernel_rfl) (by kernel_rfl) (fun _ _ _ h => h) (Or.inl ⟨by rfl, ?_⟩) (by assumption) ?_
    · intro wx hSw; go_simp
    try simp only [Act.put, List.setIfInBounds_toArray, List.set_cons_zero, List.set_cons_succ, List.getElem_toArray, List.getElem_cons_zero, List.getElem_cons_succ]
    refine wpAnyH_done (by kernel_rfl) ?_ _
    clear hHeld
    clear yM0 yM1 hlM yV0 yV1 hlV yX0 yX1 hlX yY0 yY1 hlY
    have hyy : Below w6.heap.size w6 y4 := bthen (bthen (bthen (bthen (Below.refl _ _).drew hy1) hy2) hy3) hy4
    clear k1 k2 k3 k4 hy1 hy2 hy3 hy4
    have B37 : Hid (Below w.heap.size w y4) := bthen B35.out hyy
    have VS37 : Hid (Row1 y4 aS T.nS T.S) := row1_below VS35.out hyy
    have VA37 : Hid (Row1 y4 aA T.nA T.A) := row1_below VA35.out hyy
    have M37 : Hid (Bk y4 w1.heap.size [.int .i64 c, .int .i64 d]) := M35.out.below hyy
    have V37 : Hid (Bk y4 (w1.heap.size + 1) [.slice aS T.nS kS, .slice aA T.nA kA]) := V35.out.below hyy
    have XS37 : Hid (Row1 y4 bS G1.nS G1.S) := row1_below XS35.out hyy
    have XA37 : Hid (Row1 y4 bA G1.nA G1.A) := row1_below XA35.out hyy
    have X37 : Hid (Bk y4 w3.heap.size [.slice bS G1.nS lS, .slice bA G1.nA lA]) := X35.out.below hyy
    have YS37 : Hid (Row1 y4 dS G1.nS G1.S) := row1_below YS35.out hyy
    have YA37 : Hid (Row1 y4 dA G1.nA G1.A) := row1_below YA35.out hyy
    have Y37 : Hid (Bk y4 w5.heap.size [.slice dS G1.nS mS, .slice dA G1.nA mA]) := Y36.out.below hyy
    clear B35 VS35 VA35 M35 V35 XS35 XA35 X35 YS35 YA35 Y36
    clear hyy
    cases G2
    · have hcase : G1 = TV.zero ∨ (G1 = T ∧ 2 ≤ T.nA) := by
        have h := EG.out
        unfold grantR at h
        split at h
        · rename_i h1
          split at h
          · cases h
          · right
            have hf := tab_facts h1
            cases h
            exact ⟨rfl, by omega⟩
        · cases h; exact .inl rfl
      rcases hcase with hz | ⟨hz, hA2⟩
      · have eq0 : (((G1.nA : Nat) : Int) == 0) = true := by rw [hz]; rfl
        clear hz
        have yX0 : y4.cell? ⟨w3.heap.size, 0, none⟩ = some (.slice bS G1.nS lS) := (X37.out.2 0 (by simp)).1
        have yX1 : y4.cell? ⟨w3.heap.size, 1, none⟩ = some (.slice bA G1.nA lA) := (X37.out.2 1 (by simp)).1
        have hlX : w3.heap.size < y4.heap.size := X37.out.1
        go_wp2_with fail
        refine (maOk_any _).mono ?_
        rintro e z1 ⟨rfl, hz1⟩
        clear yX0 yX1 hlX
        have B38 : Hid (Below w.heap.size w z1) := bthen B37.out hz1
        have VS38 : Hid (Row1 z1 aS T.nS T.S) := row1_below VS37.out hz1
        have VA38 : Hid (Row1 z1 aA T.nA T.A) := row1_below VA37.out hz1
        have M38 : Hid (Bk z1 w1.heap.size [.int .i64 c, .int .i64 d]) := M37.out.below hz1
        have V38 : Hid (Bk z1 (w1.heap.size + 1) [.slice aS T.nS kS, .slice aA T.nA kA]) := V37.out.below hz1
        have XS38 : Hid (Row1 z1 bS G1.nS G1.S) := row1_below XS37.out hz1
        have XA38 : Hid (Row1 z1 bA G1.nA G1.A) := row1_below XA37.out hz1
        have X38 : Hid (Bk z1 w3.heap.size [.slice bS G1.nS lS, .slice bA G1.nA lA]) := X37.out.below hz1
        have YS38 : Hid (Row1 z1 dS G1.nS G1.S) := row1_below YS37.out hz1
        have YA38 : Hid (Row1 z1 dA G1.nA G1.A) := row1_below YA37.out hz1
        have Y38 : Hid (Bk z1 w5.heap.size [.slice dS G1.nS mS, .slice dA G1.nA mA]) := Y37.out.below hz1
        clear B37 VS37 VA37 M37 V37 XS37 XA37 X37 YS37 YA37 Y37
        go_wp2
        go_ret
        exact ⟨rfl, B38.out⟩
      · have eq0 : (((G1.nA : Nat) : Int) == 0) = false := by rw [hz]; simp; omega
        have HZ : Hid (G1 = T) := hz
        clear hz hA2
        have k5 : Hid (∀ w', Below y4.heap.size y4 w' → Calls Try.prog 7 #[.slice bA G1.nA lA, .slice aA T.nA kA] w' fun e w'' => e = .returned (.bool true) ∧ Below w'.heap.size w' w'') := by
          intro w' hb
          exact by
            have h1 := (row1_below XA37.out hb)
            rw [HZ.out] at h1 ⊢
            exact maInts h1 (row1_below VA37.out hb) HSH.out.2
        have k6 : Hid (∀ w', Below y4.heap.size y4 w' → Calls Try.prog 7 #[.slice bS G1.nS lS, .slice aS T.nS kS] w' fun e w'' => e = .returned (.bool true) ∧ Below w'.heap.size w' w'') := by
          intro w' hb
          exact by
            have h1 := (row1_below XS37.out hb)
            rw [HZ.out] at h1 ⊢
            exact maInts h1 (row1_below VS37.out hb) HSH.out.1
        have yX0 : y4.cell? ⟨w3.heap.size, 0, none⟩ = some (.slice bS G1.nS lS) := (X37.out.2 0 (by simp)).1
        have yX1 : y4.cell? ⟨w3.heap.size, 1, none⟩ = some (.slice bA G1.nA lA) := (X37.out.2 1 (by simp)).1
        have hlX : w3.heap.size < y4.heap.size := X37.out.1
        have yV0 : y4.cell? ⟨(w1.heap.size + 1), 0, none⟩ = some (.slice aS T.nS kS) := (V37.out.2 0 (by simp)).1
        have yV1 : y4.cell? ⟨(w1.heap.size + 1), 1, none⟩ = some (.slice aA T.nA kA) := (V37.out.2 1 (by simp)).1
        have hlV : (w1.heap.size + 1) < y4.heap.size := V37.out.1
        go_wp2_with fail
        refine (k5.out _ (Below.refl _ _)).mono ?_
        rintro e z1 ⟨rfl, hz1⟩
        clear yX0 yX1 hlX yV0 yV1 hlV
        have B38 : Hid (Below w.heap.size w z1) := bthen B37.out hz1
        have VS38 : Hid (Row1 z1 aS T.nS T.S) := row1_below VS37.out hz1
        have VA38 : Hid (Row1 z1 aA T.nA T.A) := row1_below VA37.out hz1
        have M38 : Hid (Bk z1 w1.heap.size [.int .i64 c, .int .i64 d]) := M37.out.below hz1
        have V38 : Hid (Bk z1 (w1.heap.size + 1) [.slice aS T.nS kS, .slice aA T.nA kA]) := V37.out.below hz1
        have XS38 : Hid (Row1 z1 bS G1.nS G1.S) := row1_below XS37.out hz1
        have XA38 : Hid (Row1 z1 bA G1.nA G1.A) := row1_below XA37.out hz1
        have X38 : Hid (Bk z1 w3.heap.size [.slice bS G1.nS lS, .slice bA G1.nA lA]) := X37.out.below hz1
        have YS38 : Hid (Row1 z1 dS G1.nS G1.S) := row1_below YS37.out hz1
        have YA38 : Hid (Row1 z1 dA G1.nA G1.A) := row1_below YA37.out hz1
        have Y38 : Hid (Bk z1 w5.heap.size [.slice dS G1.nS mS, .slice dA G1.nA mA]) := Y37.out.below hz1
        clear B37 VS37 VA37 M37 V37 XS37 XA37 X37 YS37 YA37 Y37
        have yX0 : z1.cell? ⟨w3.heap.size, 0, none⟩ = some (.slice bS G1.nS lS) := (X38.out.2 0 (by simp)).1
        have yX1 : z1.cell? ⟨w3.heap.size, 1, none⟩ = some (.slice bA G1.nA lA) := (X38.out.2 1 (by simp)).1
        have hlX : w3.heap.size < z1.heap.size := X38.out.1
        have yV0 : z1.cell? ⟨(w1.heap.size + 1), 0, none⟩ = some (.slice aS T.nS kS) := (V38.out.2 0 (by simp)).1
        have yV1 : z1.cell? ⟨(w1.heap.size + 1), 1, none⟩ = some (.slice aA T.nA kA) := (V38.out.2 1 (by simp)).1
        have hlV : (w1.heap.size + 1) < z1.heap.size := V38.out.1
        go_wp2_with fail
        refine (k6.out _ hz1).mono ?_
        rintro e z2 ⟨rfl, hz2⟩
        clear k5 k6
        clear yX0 yX1 hlX yV0 yV1 hlV
        have B39 : Hid (Below w.heap.size w z2) := bthen B38.out hz2
        have VS39 : Hid (Row1 z2 aS T.nS T.S) := row1_below VS38.out hz2
        have VA39 : Hid (Row1 z2 aA T.nA T.A) := row1_below VA38.out hz2
        have M39 : Hid (Bk z2 w1.heap.size [.int .i64 c, .int .i64 d]) := M38.out.below hz2
        have V39 : Hid (Bk z2 (w1.heap.size + 1) [.slice aS T.nS kS, .slice aA T.nA kA]) := V38.out.below hz2
        have XS39 : Hid (Row1 z2 bS G1.nS G1.S) := row1_below XS38.out hz2
        have XA39 : Hid (Row1 z2 bA G1.nA G1.A) := row1_below XA38.out hz2
        have X39 : Hid (Bk z2 w3.heap.size [.slice bS G1.nS lS, .slice bA G1.nA lA]) := X38.out.below hz2
        have YS39 : Hid (Row1 z2 dS G1.nS G1.S) := row1_below YS38.out hz2
        have YA39 : Hid (Row1 z2 dA G1.nA G1.A) := row1_below YA38.out hz2
        have Y39 : Hid (Bk z2 w5.heap.size [.slice dS G1.nS mS, .slice dA G1.nA mA]) := Y38.out.below hz2
        clear B38 VS38 VA38 M38 V38 XS38 XA38 X38 YS38 YA38 Y38
        go_wp2_with fail
        refine (maOk_any _).mono ?_
        rintro e z3 ⟨rfl, hz3⟩
        have B40 : Hid (Below w.heap.size w z3) := bthen B39.out hz3
        have VS40 : Hid (Row1 z3 aS T.nS T.S) := row1_below VS39.out hz3
        have VA40 : Hid (Row1 z3 aA T.nA T.A) := row1_below VA39.out hz3
        have M40 : Hid (Bk z3 w1.heap.size [.int .i64 c, .int .i64 d]) := M39.out.below hz3
        have V40 : Hid (Bk z3 (w1.heap.size + 1) [.slice aS T.nS kS, .slice aA T.nA kA]) := V39.out.below hz3
        have XS40 : Hid (Row1 z3 bS G1.nS G1.S) := row1_below XS39.out hz3
        have XA40 : Hid (Row1 z3 bA G1.nA G1.A) := row1_below XA39.out hz3
        have X40 : Hid (Bk z3 w3.heap.size [.slice bS G1.nS lS, .slice bA G1.nA lA]) := X39.out.below hz3
        have YS40 : Hid (Row1 z3 dS G1.nS G1.S) := row1_below YS39.out hz3
        have YA40 : Hid (Row1 z3 dA G1.nA G1.A) := row1_below YA39.out hz3
        have Y40 : Hid (Bk z3 w5.heap.size [.slice dS G1.nS mS, .slice dA G1.nA mA]) := Y39.out.below hz3
        clear B39 VS39 VA39 M39 V39 XS39 XA39 X39 YS39 YA39 Y39
        go_wp2
        go_ret
        exact ⟨rfl, B40.out⟩
    · obtain ⟨hT1, hM1, hG⟩ : tabB c d T n = true ∧ mayB c T n ce sv = true ∧ G1 = givenT T ce sv := by
        have h := EG.out
        unfold grantR at h
        split at h
        · rename_i h1
          split at h
          · rename_i h2
            refine ⟨h1, h2, ?_⟩
            cases h
            rfl
          · cases h
        · cases h
      have hTG : tabB c d G1 n = true := by rw [hG]; exact tab_given hT1 hM1
      obtain ⟨hok, hn3, hc, hAS, hc4, hA9⟩ := tab_facts hT1
      have hce0 : 0 ≤ ce ∧ ce ≤ c - 1 := by simp only [mayB, Bool.and_eq_true, inB, decide_eq_true_eq] at hM1; exact hM1.1
      obtain ⟨kc, rfl⟩ := Int.eq_ofNat_of_zero_le hce0.1
      have hkc : kc < T.nA := by omega
      have gS : G1.nS = T.nS := by rw [hG]; rfl
      have gA : G1.nA = T.nA := by rw [hG]; rfl
      have HX : Hid (∀ j, ¬ j = kc → G1.S j = T.S j ∧ G1.A j = T.A j) := fun j hj => by rw [hG]; simp [givenT, hj]
      have HA : Hid (G1.A kc = T.A kc + 1) := by unfold Hid; rw [hG]; simp [givenT]
      have HSV : Hid (G1.S kc = sv) := by unfold Hid; rw [hG]; simp [givenT]
      have hwA : IntKind.i64.wrap (T.A kc + 1) = T.A kc + 1 := by have := hA9 kc (by omega); rw [IntKind.wrap_i64]; omega
      have HGS : Hid (G1.nS = T.nS ∧ G1.nA = T.nA) := ⟨gS, gA⟩
      have hiA : (kc : Int) < ((G1.nA : Nat) : Int) := by omega
      have hiT : (kc : Int) < ((T.nA : Nat) : Int) := by omega
      have HOK : Hid (okB c d = true ∧ (1 ≤ n ∧ n ≤ 3)) := ⟨hok, hn3⟩
      have HTG : Hid (tabB c d G1 n = true) := hTG
      have hsrv : srvI G1 (kc : Int) = sv := by rw [← HSV.out]; simp only [srvI]; rw [if_pos (by omega)]; simp
      have HSRV : Hid (srvI G1 (kc : Int) = sv) := hsrv
      have hpos : 2 ≤ T.nA ∧ 2 ≤ T.nS := by omega
      have hTE : T.nA ≤ T.nS := by omega
      clear hG hT1 hTG hok hn3 hA9 hce0 hM1 hsrv hc hAS hc4
      obtain ⟨vb, vo, ev, lv, cv⟩ : ∃ b o, aA = some ⟨b, o, none⟩ ∧ b < y4.heap.size ∧ ∀ k, k < T.nA → y4.cell? ⟨b, o + k, none⟩ = some (.int .i64 (T.A k)) := by
        rcases VA37.out with h | ⟨b, o, h1, h2, h3⟩
        · omega
        · exact ⟨b, o, h1, h2, h3⟩
      obtain ⟨ub, uo, eu, lu, cu⟩ : ∃ b o, aS = some ⟨b, o, none⟩ ∧ b < y4.heap.size ∧ ∀ k, k < T.nS → y4.cell? ⟨b, o + k, none⟩ = some (.int .i64 (T.S k)) := by
        rcases VS37.out with h | ⟨b, o, h1, h2, h3⟩
        · omega
        · exact ⟨b, o, h1, h2, h3⟩
      obtain ⟨xb, xo, ex, lx, cx⟩ : ∃ b o, bA = some ⟨b, o, none⟩ ∧ b < y4.heap.size ∧ ∀ k, k < G1.nA → y4.cell? ⟨b, o + k, none⟩ = some (.int .i64 (G1.A k)) := by
        rcases XA37.out with h | ⟨b, o, h1, h2, h3⟩
        · omega
        · exact ⟨b, o, h1, h2, h3⟩
      obtain ⟨sb, so, es, ls, cs⟩ : ∃ b o, bS = some ⟨b, o, none⟩ ∧ b < y4.heap.size ∧ ∀ k, k < G1.nS → y4.cell? ⟨b, o + k, none⟩ = some (.int .i64 (G1.S k)) := by
        rcases XS37.out with h | ⟨b, o, h1, h2, h3⟩
        · omega
        · exact ⟨b, o, h1, h2, h3⟩
      subst ev
      subst eu
      subst ex
      subst es
      clear gS gA
      have Cv : Hid (∀ k, k < T.nA → y4.cell? ⟨vb, vo + k, none⟩ = some (.int .i64 (T.A k))) := cv
      have Cu : Hid (∀ k, k < T.nS → y4.cell? ⟨ub, uo + k, none⟩ = some (.int .i64 (T.S k))) := cu
      have Cx : Hid (∀ k, k < G1.nA → y4.cell? ⟨xb, xo + k, none⟩ = some (.int .i64 (G1.A k))) := cx
      have Cs : Hid (∀ k, k < G1.nS → y4.cell? ⟨sb, so + k, none⟩ = some (.int .i64 (G1.S k))) := cs
      clear cv cu cx cs
      have yM0 : y4.cell? ⟨w1.heap.size, 0, none⟩ = some (.int .i64 c) := (M37.out.2 0 (by simp)).1
      have yM1 : y4.cell? ⟨w1.heap.size, 1, none⟩ = some (.int .i64 d) := (M37.out.2 1 (by simp)).1
      have hlM : w1.heap.size < y4.heap.size := M37.out.1
      have yV0 : y4.cell? ⟨(w1.heap.size + 1), 0, none⟩ = some (.slice (some ⟨ub, uo, none⟩) T.nS kS) := (V37.out.2 0 (by simp)).1
      have yV1 : y4.cell? ⟨(w1.heap.size + 1), 1, none⟩ = some (.slice (some ⟨vb, vo, none⟩) T.nA kA) := (V37.out.2 1 (by simp)).1
      have hlV : (w1.heap.size + 1) < y4.heap.size := V37.out.1
      have yX0 : y4.cell? ⟨w3.heap.size, 0, none⟩ = some (.slice (some ⟨sb, so, none⟩) G1.nS lS) := (X37.out.2 0 (by simp)).1
      have yX1 : y4.cell? ⟨w3.heap.size, 1, none⟩ = some (.slice (some ⟨xb, xo, none⟩) G1.nA lA) := (X37.out.2 1 (by simp)).1
      have hlX : w3.heap.size < y4.heap.size := X37.out.1
      clear yM0 yM1 hlM yV0 yV1 hlV yX0 yX1 hlX
      have Lv : Hid (vb < y4.heap.size) := lv
      have Lu : Hid (ub < y4.heap.size) := lu
      have Lx : Hid (xb < y4.heap.size) := lx
      have Ls : Hid (sb < y4.heap.size) := ls
      clear lv lu lx ls
      have yV0 : y4.cell? ⟨(w1.heap.size + 1), 0, none⟩ = some (.slice (some ⟨ub, uo, none⟩) T.nS kS) := (V37.out.2 0 (by simp)).1
      have yV1 : y4.cell? ⟨(w1.heap.size + 1), 1, none⟩ = some (.slice (some ⟨vb, vo, none⟩) T.nA kA) := (V37.out.2 1 (by simp)).1
      have hlV : (w1.heap.size + 1) < y4.heap.size := V37.out.1
      go_wp2_with fail
      clear yV0 yV1 hlV
      go_loopw [12] (fun i wr => ∃ k : Nat, k ≤ T.nA ∧ .int .i64 k = i ∧ Below y4.heap.size y4 wr) (fun i _ => T.nA - (intOf i).toNat)
      case atStart => exact ⟨0, Nat.zero_le _, rfl, Below.refl _ _⟩
      case round =>
        obtain ⟨k, hk, rfl, hbr⟩ := hrel
        have hkm : k ≤ 1000 := by have := HSH.out.2; omega
        have Dv : Hid (vb < wr.heap.size ∧ ∀ k, k < T.nA → wr.cell? ⟨vb, vo + k, none⟩ = some (.int .i64 (T.A k))) := ⟨Nat.lt_of_lt_of_le Lv.out hbr.size, fun k hk => (hbr.cell (p := ⟨vb, vo + k, none⟩) Lv.out).trans (Cv.out k hk)⟩
        have Du : Hid (ub < wr.heap.size ∧ ∀ k, k < T.nS → wr.cell? ⟨ub, uo + k, none⟩ = some (.int .i64 (T.S k))) := ⟨Nat.lt_of_lt_of_le Lu.out hbr.size, fun k hk => (hbr.cell (p := ⟨ub, uo + k, none⟩) Lu.out).trans (Cu.out k hk)⟩
        have Dx : Hid (xb < wr.heap.size ∧ ∀ k, k < G1.nA → wr.cell? ⟨xb, xo + k, none⟩ = some (.int .i64 (G1.A k))) := ⟨Nat.lt_of_lt_of_le Lx.out hbr.size, fun k hk => (hbr.cell (p := ⟨xb, xo + k, none⟩) Lx.out).trans (Cx.out k hk)⟩
        have Ds : Hid (sb < wr.heap.size ∧ ∀ k, k < G1.nS → wr.cell? ⟨sb, so + k, none⟩ = some (.int .i64 (G1.S k))) := ⟨Nat.lt_of_lt_of_le Ls.out hbr.size, fun k hk => (hbr.cell (p := ⟨sb, so + k, none⟩) Ls.out).trans (Cs.out k hk)⟩
        have B38 : Hid (Below w.heap.size w wr) := bthen B37.out hbr
        have M38 : Hid (Bk wr w1.heap.size [.int .i64 c, .int .i64 d]) := M37.out.below hbr
        have V38 : Hid (Bk wr (w1.heap.size + 1) [.slice (some ⟨ub, uo, none⟩) T.nS kS, .slice (some ⟨vb, vo, none⟩) T.nA kA]) := V37.out.below hbr
        have X38 : Hid (Bk wr w3.heap.size [.slice (some ⟨sb, so, none⟩) G1.nS lS, .slice (some ⟨xb, xo, none⟩) G1.nA lA]) := X37.out.below hbr
        by_cases hkn : k < T.nA
        · have hkn' : (k : Int) < ((T.nA : Nat) : Int) := by omega
          have yV0 : wr.cell? ⟨(w1.heap.size + 1), 0, none⟩ = some (.slice (some ⟨ub, uo, none⟩) T.nS kS) := (V38.out.2 0 (by simp)).1
          have yV1 : wr.cell? ⟨(w1.heap.size + 1), 1, none⟩ = some (.slice (some ⟨vb, vo, none⟩) T.nA kA) := (V38.out.2 1 (by simp)).1
          have hlV : (w1.heap.size + 1) < wr.heap.size := V38.out.1
          go_upto_region 13 with fail
          clear yV0 yV1 hlV
          by_cases hkc2 : k = kc
          · have hid2 : ((k : Int) == (kc : Int)) = true := by simp [hkc2]
            have hle1 : k ≤ kc := by omega
            have hle2 : kc ≤ k := by omega
            clear hkc2
            have yM0 : wr.cell? ⟨w1.heap.size, 0, none⟩ = some (.int .i64 c) := (M38.out.2 0 (by simp)).1
            have yM1 : wr.cell? ⟨w1.heap.size, 1, none⟩ = some (.int .i64 d) := (M38.out.2 1 (by simp)).1
            have hlM : w1.heap.size < wr.heap.size := M38.out.1
            have yV0 : wr.cell? ⟨(w1.heap.size + 1), 0, none⟩ = some (.slice (some ⟨ub, uo, none⟩) T.nS kS) := (V38.out.2 0 (by simp)).1
            have yV1 : wr.cell? ⟨(w1.heap.size + 1), 1, none⟩ = some (.slice (some ⟨vb, vo, none⟩) T.nA kA) := (V38.out.2 1 (by simp)).1
            have hlV : (w1.heap.size + 1) < wr.heap.size := V38.out.1
            have yX0 : wr.cell? ⟨w3.heap.size, 0, none⟩ = some (.slice (some ⟨sb, so, none⟩) G1.nS lS) := (X38.out.2 0 (by simp)).1
            have yX1 : wr.cell? ⟨w3.heap.size, 1, none⟩ = some (.slice (some ⟨xb, xo, none⟩) G1.nA lA) := (X38.out.2 1 (by simp)).1
            have hlX : w3.heap.size < wr.heap.size := X38.out.1
            refine wp_region_held_drew (S := fun w' => (∀ b o, b < wr.heap.size → w'.cell? ⟨b, o, none⟩ = wr.cell? ⟨b, o, none⟩) ∧ wr.heap.size ≤ w'.heap.size) (by kernel_rfl) ⟨fun _ _ _ => rfl, Nat.le_refl _⟩ ?_
            intro hHeld
            refine wpAnyH_take (i := 0) (v := .int .i64 (k : Int)) rfl (by kernel_rfl) (by kernel_rfl) (by kernel_rfl) (fun _ _ _ h => h) (Or.inl ⟨by rfl, ?_⟩) (by assumption) ?_
            · intro wx hSw; go_simp
            try simp only [Act.put, List.setIfInBounds_toArray, List.set_cons_zero, List.set_cons_succ, List.getElem_toArray, List.getElem_cons_zero]
            refine wpAnyH_take (i := 1) (v := .int .i64 (kc : Int)) rfl (by kernel_rfl) (by kernel_rfl) (by kernel_rfl) (fun _ _ _ h => h) (Or.inl ⟨by rfl, ?_⟩) (by assumption) ?_
            · intro wx hSw; go_simp
            try simp only [Act.put, List.setIfInBounds_toArray, List.set_cons_zero, List.set_cons_succ, List.getElem_toArray, List.getElem_cons_zero, List.getElem_cons_succ]
            refine wpAnyH_take (i := 2) (v := .bool false) rfl (by kernel_rfl) (by kernel_rfl) (by kernel_rfl) (fun _ _ _ h => h) (Or.inl ⟨by rfl, ?_⟩) (by assumption) ?_
            · intro wx hSw; go_simp <;> first | omega | (exact IntWalk.i64_in _ (by omega)) | go_num
            try simp only [Act.put, List.setIfInBounds_toArray, List.set_cons_zero, List.set_cons_succ, List.getElem_toArray, List.getElem_cons_zero, List.getElem_cons_succ]
            refine wpAnyH_take (i := 3) (v := .bool false) rfl (by kernel_rfl) (by kernel_rfl) (by kernel_rfl) (fun _ _ _ h => h) (Or.inl ⟨by rfl, ?_⟩) (by assumption) ?_
            · intro wx hSw; go_simp
            try simp only [Act.put, List.setIfInBounds_toArray, List.set_cons_zero, List.set_cons_succ, List.getElem_toArray, List.getElem_cons_zero, List.getElem_cons_succ]
            refine wpAnyH_take (i := 4) (v := undef) rfl (by kernel_rfl) (by kernel_rfl) (by kernel_rfl) (fun _ _ _ h => h) (Or.inr ⟨by rfl, rfl⟩) (by assumption) ?_
            try simp only [Act.put, List.setIfInBounds_toArray, List.set_cons_zero, List.set_cons_succ, List.getElem_toArray, List.getElem_cons_zero, List.getElem_cons_succ]
            refine wpAnyH_take (i := 5) (v := undef) rfl (by kernel_rfl) (by kernel_rfl) (by kernel_rfl) (fun _ _ _ h => h) (Or.inr ⟨by rfl, rfl⟩) (by assumption) ?_
            try simp only [Act.put, List.setIfInBounds_toArray, List.set_cons_zero, List.set_cons_succ, List.getElem_toArray, List.getElem_cons_zero, List.getElem_cons_succ]
            refine wpAnyH_take (i := 6) (v := undef) rfl (by kernel_rfl) (by kernel_rfl) (by kernel_rfl) (fun _ _ _ h => h) (Or.inr ⟨by rfl, rfl⟩) (by assumption) ?_
            try simp only [Act.put, List.setIfInBounds_toArray, List.set_cons_zero, List.set_cons_succ, List.getElem_toArray, List.getElem_cons_zero, List.getElem_cons_succ]
            refine wpAnyH_take (i := 7) (v := undef) rfl (by kernel_rfl) (by kernel_rfl) (by kernel_rfl) (fun _ _ _ h => h) (Or.inr ⟨by rfl, rfl⟩) (by assumption) ?_
            try simp only [Act.put, List.setIfInBounds_toArray, List.set_cons_zero, List.set_cons_succ, List.getElem_toArray, List.getElem_cons_zero, List.getElem_cons_succ]
            refine wpAnyH_take (i := 8) (v := undef) rfl (by kernel_rfl) (by kernel_rfl) (by kernel_rfl) (fun _ _ _ h => h) (Or.inr ⟨by rfl, rfl⟩) (by assumption) ?_
            try simp only [Act.put, List.setIfInBounds_toArray, List.set_cons_zero, List.set_cons_succ, List.getElem_toArray, List.getElem_cons_zero, List.getElem_cons_succ]
            refine wpAnyH_take (i := 9) (v := undef) rfl (by kernel_rfl) (by kernel_rfl) (by kernel_rfl) (fun _ _ _ h => h) (Or.inr ⟨by rfl, rfl⟩) (by assumption) ?_
            try simp only [Act.put, List.setIfInBounds_toArray, List.set_cons_zero, List.set_cons_succ, List.getElem_toArray, List.getElem_cons_zero, List.getElem_cons_succ]
            refine wpAnyH_take (i := 10) (v := undef) rfl (by kernel_rfl) (by kernel_rfl) (by kernel_rfl) (fun _ _ _ h => h) (Or.inr ⟨by rfl, rfl⟩) (by assumption) ?_
            try simp only [Act.put, List.setIfInBounds_toArray, List.set_cons_zero, List.set_cons_succ, List.getElem_toArray, List.getElem_cons_zero, List.getElem_cons_succ]
            refine wpAnyH_take (i := 11) (v := undef) rfl (by kernel_rfl) (by kernel_rfl) (by kernel_rfl) (fun _ _ _ h => h) (Or.inr ⟨by rfl, rfl⟩) (by assumption) ?_
            try simp only [Act.put, List.setIfInBounds_toArray, List.set_cons_zero, List.set_cons_succ, List.getElem_toArray, List.getElem_cons_zero, List.getElem_cons_succ]
            refine wpAnyH_take (i := 12) (v := undef) rfl (by kernel_rfl) (by kernel_rfl) (by kernel_rfl) (fun _ _ _ h => h) (Or.inr ⟨by rfl, rfl⟩) (by assumption) ?_
            try simp only [Act.put, List.setIfInBounds_toArray, List.set_cons_zero, List.set_cons_succ, List.getElem_toArray, List.getElem_cons_zero, List.getElem_cons_succ]
            refine wpAnyH_take (i := 13) (v := undef) rfl (by kernel_rfl) (by kernel_rfl) (by kernel_rfl) (fun _ _ _ h => h) (Or.inr ⟨by rfl, rfl⟩) (by assumption) ?_
            try simp only [Act.put, List.setIfInBounds_toArray, List.set_cons_zero, List.set_cons_succ, List.getElem_toArray, List.getElem_cons_zero, List.getElem_cons_succ]
            refine wpAnyH_take (i := 14) (v := undef) rfl (by kernel_rfl) (by kernel_rfl) (by kernel_rfl) (fun _ _ _ h => h) (Or.inr ⟨by rfl, rfl⟩) (by assumption) ?_
            try simp only [Act.put, List.setIfInBounds_toArray, List.set_cons_zero, List.set_cons_succ, List.getElem_toArray, List.getElem_cons_zero, List.getElem_cons_succ]
            refine wpAnyH_take (i := 15) (v := undef) rfl (by kernel_rfl) (by kernel_rfl) (by kernel_rfl) (fun _ _ _ h => h) (Or.inr ⟨by rfl, rfl⟩) (by assumption) ?_
            try simp only [Act.put, List.setIfInBounds_toArray, List.set_cons_zero, List.set_cons_succ, List.getElem_toArray, List.getElem_cons_zero, List.getElem_cons_succ]
            refine wpAnyH_take (i := 16) (v := undef) rfl (by kernel_rfl) (by kernel_rfl) (by kernel_rfl) (fun _ _ _ h => h) (Or.inr ⟨by rfl, rfl⟩) (by assumption) ?_
            try simp only [Act.put, List.setIfInBounds_toArray, List.set_cons_zero, List.set_cons_succ, List.getElem_toArray, List.getElem_cons_zero, List.getElem_cons_succ]
            refine wpAnyH_take (i := 17) (v := undef) rfl (by kernel_rfl) (by kernel_rfl) (by kernel_rfl) (fun _ _ _ h => h) (Or.inr ⟨by rfl, rfl⟩) (by assumption) ?_
            try simp only [Act.put, List.setIfInBounds_toArray, List.set_cons_zero, List.set_cons_succ, List.getElem_toArray, List.getElem_cons_zero, List.getElem_cons_succ]
            refine wpAnyH_take (i := 18) (v := undef) rfl (by kernel_rfl) (by kernel_rfl) (by kernel_rfl) (fun _ _ _ h => h) (Or.inr ⟨by rfl, rfl⟩) (by assumption) ?_
            try simp only [Act.put, List.setIfInBounds_toArray, List.set_cons_zero, List.set_cons_succ, List.getElem_toArray, List.getElem_cons_zero, List.getElem_cons_succ]
            refine wpAnyH_take (i := 19) (v := undef) rfl (by kernel_rfl) (by kernel_rfl) (by kernel_rfl) (fun _ _ _ h => h) (Or.inr ⟨by rfl, rfl⟩) (by assumption) ?_
            try simp only [Act.put, List.setIfInBounds_toArray, List.set_cons_zero, List.set_cons_succ, List.getElem_toArray, List.getElem_cons_zero, List.getElem_cons_succ]
            refine wpAnyH_take (i := 20) (v := undef) rfl (by kernel_rfl) (by kernel_rfl) (by kernel_rfl) (fun _ _ _ h => h) (Or.inr ⟨by rfl, rfl⟩) (by assumption) ?_
            try simp only [Act.put, List.setIfInBounds_toArray, List.set_cons_zero, List.set_cons_succ, List.getElem_toArray, List.getElem_cons_zero, List.getElem_cons_succ]
            refine wpAnyH_take (i := 21) (v := undef) rfl (by kernel_rfl) (by kernel_rfl) (by kernel_rfl) (fun _ _ _ h => h) (Or.inr ⟨by rfl, rfl⟩) (by assumption) ?_
            try simp only [Act.put, List.setIfInBounds_toArray, List.set_cons_zero, List.set_cons_succ, List.getElem_toArray, List.getElem_cons_zero, List.getElem_cons_succ]
            refine wpAnyH_take (i := 22) (v := undef) rfl (by kernel_rfl) (by kernel_rfl) (by kernel_rfl) (fun _ _ _ h => h) (Or.inr ⟨by rfl, rfl⟩) (by assumption) ?_
            try simp only [Act.put, List.setIfInBounds_toArray, List.set_cons_zero, List.set_cons_succ, List.getElem_toArray, List.getElem_cons_zero, List.getElem_cons_succ]
            refine wpAnyH_take (i := 23) (v := undef) rfl (by kernel_rfl) (by kernel_rfl) (by kernel_rfl) (fun _ _ _ h => h) (Or.inr ⟨by rfl, rfl⟩) (by assumption) ?_
            try simp only [Act.put, List.setIfInBounds_toArray, List.set_cons_zero, List.set_cons_succ, List.getElem_toArray, List.getElem_cons_zero, List.getElem_cons_succ]
            refine wpAnyH_take (i := 24) (v := undef) rfl (by kernel_rfl) (by kernel_rfl) (by kernel_rfl) (fun _ _ _ h => h) (Or.inr ⟨by rfl, rfl⟩) (by assumption) ?_
            try simp only [Act.put, List.setIfInBounds_toArray, List.set_cons_zero, List.set_cons_succ, List.getElem_toArray, List.getElem_cons_zero, List.getElem_cons_succ]
            refine wpAnyH_take (i := 25) (v := undef) rfl (by kernel_rfl) (by kernel_rfl) (by kernel_rfl) (fun _ _ _ h => h) (Or.inr ⟨by rfl, rfl⟩) (by assumption) ?_
            try simp only [Act.put, List.setIfInBounds_toArray, List.set_cons_zero, List.set_cons_succ, List.getElem_toArray, List.getElem_cons_zero, List.getElem_cons_succ]
            refine wpAnyH_take (i := 26) (v := undef) rfl (by kernel_rfl) (by kernel_rfl) (by kernel_rfl) (fun _ _ _ h => h) (Or.inr ⟨by rfl, rfl⟩) (by assumption) ?_
            try simp only [Act.put, List.setIfInBounds_toArray, List.set_cons_zero, List.set_cons_succ, List.getElem_toArray, List.getElem_cons_zero, List.getElem_cons_succ]
            refine wpAnyH_take (i := 27) (v := undef) rfl (by kernel_rfl) (by kernel_rfl) (by kernel_rfl) (fun _ _ _ h => h) (Or.inr ⟨by rfl, rfl⟩) (by assumption) ?_
            try simp only [Act.put, List.setIfInBounds_toArray, List.set_cons_zero, List.set_cons_succ, List.getElem_toArray, List.getElem_cons_zero, List.getElem_cons_succ]
            refine wpAnyH_take (i := 28) (v := .bool false) rfl (by kernel_rfl) (by kernel_rfl) (by kernel_rfl) (fun _ _ _ h => h) (Or.inl ⟨by rfl, ?_⟩) (by assumption) ?_
            · intro wx hSw; go_simp
            try simp only [Act.put, List.setIfInBounds_toArray, List.set_cons_zero, List.set_cons_succ, List.getElem_toArray, List.getElem_cons_zero, List.getElem_cons_succ]
            refine wpAnyH_done (by kernel_rfl) ?_ _
            clear hHeld
            clear yM0 yM1 hlM yV0 yV1 hlV yX0 yX1 hlX
            go_wp2
            go_roundw
            case rel => exact ⟨k + 1, by omega, by go_num, hbr.drew⟩
            case measure => simp [intOf]; omega
          · have hid2 : ((k : Int) == (kc : Int)) = false := by simp; omega
            have hi1 : (k : Int) < ((G1.nA : Nat) : Int) := by have := HGS.out; omega
            have hi2 : (k : Int) < ((G1.nS : Nat) : Int) := by have := HGS.out; omega
            have hi3 : (k : Int) < ((T.nS : Nat) : Int) := by omega
            have q1 := Dv.out.2 k hkn
            have q2 := Du.out.2 k (by omega)
            have q3 := Dx.out.2 k (by have := HGS.out; omega)
            have q4 := Ds.out.2 k (by have := HGS.out; omega)
            have r1 := Dv.out.1
            have r2 := Du.out.1
            have r3 := Dx.out.1
            have r4 := Ds.out.1
            rw [(HX.out k hkc2).2] at q3
            rw [(HX.out k hkc2).1] at q4
            have yM0 : wr.cell? ⟨w1.heap.size, 0, none⟩ = some (.int .i64 c) := (M38.out.2 0 (by simp)).1
            have yM1 : wr.cell? ⟨w1.heap.size, 1, none⟩ = some (.int .i64 d) := (M38.out.2 1 (by simp)).1
            have hlM : w1.heap.size < wr.heap.size := M38.out.1
            have yV0 : wr.cell? ⟨(w1.heap.size + 1), 0, none⟩ = some (.slice (some ⟨ub, uo, none⟩) T.nS kS) := (V38.out.2 0 (by simp)).1
            have yV1 : wr.cell? ⟨(w1.heap.size + 1), 1, none⟩ = some (.slice (some ⟨vb, vo, none⟩) T.nA kA) := (V38.out.2 1 (by simp)).1
            have hlV : (w1.heap.size + 1) < wr.heap.size := V38.out.1
            have yX0 : wr.cell? ⟨w3.heap.size, 0, none⟩ = some (.slice (some ⟨sb, so, none⟩) G1.nS lS) := (X38.out.2 0 (by simp)).1
            have yX1 : wr.cell? ⟨w3.heap.size, 1, none⟩ = some (.slice (some ⟨xb, xo, none⟩) G1.nA lA) := (X38.out.2 1 (by simp)).1
            have hlX : w3.heap.size < wr.heap.size := X38.out.1
            refine wp_region_held_drew (S := fun w' => (∀ b o, b < wr.heap.size → w'.cell? ⟨b, o, none⟩ = wr.cell? ⟨b, o, none⟩) ∧ wr.heap.size ≤ w'.heap.size) (by kernel_rfl) ⟨fun _ _ _ => rfl, Nat.le_refl _⟩ ?_
            intro hHeld
            refine wpAnyH_take (i := 0) (v := .int .i64 (k : Int)) rfl (by kernel_rfl) (by kernel_rfl) (by kernel_rfl) (fun _ _ _ h => h) (Or.inl ⟨by rfl, ?_⟩) (by assumption) ?_
            · intro wx hSw; go_simp
            try simp only [Act.put, List.setIfInBounds_toArray, List.set_cons_zero, List.set_cons_succ, List.getElem_toArray, List.getElem_cons_zero]
            refine wpAnyH_take (i := 1) (v := .int .i64 (kc : Int)) rfl (by kernel_rfl) (by kernel_rfl) (by kernel_rfl) (fun _ _ _ h => h) (Or.inl ⟨by rfl, ?_⟩) (by assumption) ?_
            · intro wx hSw; go_simp
            try simp only [Act.put, List.setIfInBounds_toArray, List.set_cons_zero, List.set_cons_succ, List.getElem_toArray, List.getElem_cons_zero, List.getElem_cons_succ]
            refine wpAnyH_take (i := 2) (v := .bool true) rfl (by kernel_rfl) (by kernel_rfl) (by kernel_rfl) (fun _ _ _ h => h) (Or.inl ⟨by rfl, ?_⟩) (by assumption) ?_
            · intro wx hSw; go_simp <;> first | omega | (exact IntWalk.i64_in _ (by omega)) | go_num
            try simp only [Act.put, List.setIfInBounds_toArray, List.set_cons_zero, List.set_cons_succ, List.getElem_toArray, List.getElem_cons_zero, List.getElem_cons_succ]
            refine wpAnyH_take (i := 3) (v := .bool true) rfl (by kernel_rfl) (by kernel_rfl) (by kernel_rfl) (fun _ _ _ h => h) (Or.inl ⟨by rfl, ?_⟩) (by assumption) ?_
            · intro wx hSw; go_simp
            try simp only [Act.put, List.setIfInBounds_toArray, List.set_cons_zero, List.set_cons_succ, List.getElem_toArray, List.getElem_cons_zero, List.getElem_cons_succ]
            refine wpAnyH_take (i := 4) (v := .pointer (some ⟨w3.heap.size, 1, none⟩)) rfl (by kernel_rfl) (by kernel_rfl) (by kernel_rfl) (fun _ _ _ h => h) (Or.inl ⟨by rfl, ?_⟩) (by assumption) ?_
            · intro wx hSw; go_simp
            try simp only [Act.put, List.setIfInBounds_toArray, List.set_cons_zero, List.set_cons_succ, List.getElem_toArray, List.getElem_cons_zero, List.getElem_cons_succ]
            refine wpAnyH_take (i := 5) (v := .slice (some ⟨xb, xo, none⟩) G1.nA lA) rfl (by kernel_rfl) (by kernel_rfl) (by kernel_rfl) (fun _ _ _ h => h) (Or.inl ⟨by rfl, ?_⟩) (by assumption) ?_
            · intro wx hSw; go_simp
            try simp only [Act.put, List.setIfInBounds_toArray, List.set_cons_zero, List.set_cons_succ, List.getElem_toArray, List.getElem_cons_zero, List.getElem_cons_succ]
            refine wpAnyH_take (i := 6) (v := .int .i64 (k : Int)) rfl (by kernel_rfl) (by kernel_rfl) (by kernel_rfl) (fun _ _ _ h => h) (Or.inl ⟨by rfl, ?_⟩) (by assumption) ?_
            · intro wx hSw; go_simp
            try simp only [Act.put, List.setIfInBounds_toArray, List.set_cons_zero, List.set_cons_succ, List.getElem_toArray, List.getElem_cons_zero, List.getElem_cons_succ]
            refine wpAnyH_take (i := 7) (v := .pointer (some ⟨xb, xo + k, none⟩)) rfl (by kernel_rfl) (by kernel_rfl) (by kernel_rfl) (fun _ _ _ h => h) (Or.inl ⟨by rfl, ?_⟩) (by assumption) ?_
            · intro wx hSw; go_simp
            try simp only [Act.put, List.setIfInBounds_toArray, List.set_cons_zero, List.set_cons_succ, List.getElem_toArray, List.getElem_cons_zero, List.getElem_cons_succ]
            refine wpAnyH_take (i := 8) (v := .int .i64 (T.A k)) rfl (by kernel_rfl) (by kernel_rfl) (by kernel_rfl) (fun _ _ _ h => h) (Or.inl ⟨by rfl, ?_⟩) (by assumption) ?_
            · intro wx hSw; go_simp
            try simp only [Act.put, List.setIfInBounds_toArray, List.set_cons_zero, List.set_cons_succ, List.getElem_toArray, List.getElem_cons_zero, List.getElem_cons_succ]
            refine wpAnyH_take (i := 9) (v := .pointer (some ⟨(w1.heap.size + 1), 1, none⟩)) rfl (by kernel_rfl) (by kernel_rfl) (by kernel_rfl) (fun _ _ _ h => h) (Or.inl ⟨by rfl, ?_⟩) (by assumption) ?_
            · intro wx hSw; go_simp
            try simp only [Act.put, List.setIfInBounds_toArray, List.set_cons_zero, List.set_cons_succ, List.getElem_toArray, List.getElem_cons_zero, List.getElem_cons_succ]
            refine wpAnyH_take (i := 10) (v := .slice (some ⟨vb, vo, none⟩) T.nA kA) rfl (by kernel_rfl) (by kernel_rfl) (by kernel_rfl) (fun _ _ _ h => h) (Or.inl ⟨by rfl, ?_⟩) (by assumption) ?_
            · intro wx hSw; go_simp
            try simp only [Act.put, List.setIfInBounds_toArray, List.set_cons_zero, List.set_cons_succ, List.getElem_toArray, List.getElem_cons_zero, List.getElem_cons_succ]
            refine wpAnyH_take (i := 11) (v := .int .i64 (k : Int)) rfl (by kernel_rfl) (by kernel_rfl) (by kernel_rfl) (fun _ _ _ h => h) (Or.inl ⟨by rfl, ?_⟩) (by assumption) ?_
            · intro wx hSw; go_simp
            try simp only [Act.put, List.setIfInBounds_toArray, List.set_cons_zero, List.set_cons_succ, List.getElem_toArray, List.getElem_cons_zero, List.getElem_cons_succ]
            refine wpAnyH_take (i := 12) (v := .pointer (some ⟨vb, vo + k, none⟩)) rfl (by kernel_rfl) (by kernel_rfl) (by kernel_rfl) (fun _ _ _ h => h) (Or.inl ⟨by rfl, ?_⟩) (by assumption) ?_
            · intro wx hSw; go_simp
            try simp only [Act.put, List.setIfInBounds_toArray, List.set_cons_zero, List.set_cons_succ, List.getElem_toArray, List.getElem_cons_zero, List.getElem_cons_succ]
            refine wpAnyH_take (i := 13) (v := .int .i64 (T.A k)) rfl (by kernel_rfl) (by kernel_rfl) (by kernel_rfl) (fun _ _ _ h => h) (Or.inl ⟨by rfl, ?_⟩) (by assumption) ?_
            · intro wx hSw; go_simp
            try simp only [Act.put, List.setIfInBounds_toArray, List.set_cons_zero, List.set_cons_succ, List.getElem_toArray, List.getElem_cons_zero, List.getElem_cons_succ]
            refine wpAnyH_take (i := 14) (v := .bool false) rfl (by kernel_rfl) (by kernel_rfl) (by kernel_rfl) (fun _ _ _ h => h) (Or.inl ⟨by rfl, ?_⟩) (by assumption) ?_
            · intro wx hSw; go_simp <;> first | omega | (exact IntWalk.i64_in _ (by omega)) | go_num
            try simp only [Act.put, List.setIfInBounds_toArray, List.set_cons_zero, List.set_cons_succ, List.getElem_toArray, List.getElem_cons_zero, List.getElem_cons_succ]
            refine wpAnyH_take (i := 15) (v := .bool false) rfl (by kernel_rfl) (by kernel_rfl) (by kernel_rfl) (fun _ _ _ h => h) (Or.inl ⟨by rfl, ?_⟩) (by assumption) ?_
            · intro wx hSw; go_simp
            try simp only [Act.put, List.setIfInBounds_toArray, List.set_cons_zero, List.set_cons_succ, List.getElem_toArray, List.getElem_cons_zero, List.getElem_cons_succ]
            refine wpAnyH_take (i := 16) (v := .pointer (some ⟨w3.heap.size, 0, none⟩)) rfl (by kernel_rfl) (by kernel_rfl) (by kernel_rfl) (fun _ _ _ h => h) (Or.inl ⟨by rfl, ?_⟩) (by assumption) ?_
            · intro wx hSw; go_simp
            try simp only [Act.put, List.setIfInBounds_toArray, List.set_cons_zero, List.set_cons_succ, List.getElem_toArray, List.getElem_cons_zero, List.getElem_cons_succ]
            refine wpAnyH_take (i := 17) (v := .slice (some ⟨sb, so, none⟩) G1.nS lS) rfl (by kernel_rfl) (by kernel_rfl) (by kernel_rfl) (fun _ _ _ h => h) (Or.inl ⟨by rfl, ?_⟩) (by assumption) ?_
            · intro wx hSw; go_simp
            try simp only [Act.put, List.setIfInBounds_toArray, List.set_cons_zero, List.set_cons_succ, List.getElem_toArray, List.getElem_cons_zero, List.getElem_cons_succ]
            refine wpAnyH_take (i := 18) (v := .int .i64 (k : Int)) rfl (by kernel_rfl) (by kernel_rfl) (by kernel_rfl) (fun _ _ _ h => h) (Or.inl ⟨by rfl, ?_⟩) (by assumption) ?_
            · intro wx hSw; go_simp
            try simp only [Act.put, List.setIfInBounds_toArray, List.set_cons_zero, List.set_cons_succ, List.getElem_toArray, List.getElem_cons_zero, List.getElem_cons_succ]
            refine wpAnyH_take (i := 19) (v := .pointer (some ⟨sb, so + k, none⟩)) rfl (by kernel_rfl) (by kernel_rfl) (by kernel_rfl) (fun _ _ _ h => h) (Or.inl ⟨by rfl, ?_⟩) (by assumption) ?_
            · intro wx hSw; go_simp
            try simp only [Act.put, List.setIfInBounds_toArray, List.set_cons_zero, List.set_cons_succ, List.getElem_toArray, List.getElem_cons_zero, List.getElem_cons_succ]
            refine wpAnyH_take (i := 20) (v := .int .i64 (T.S k)) rfl (by kernel_rfl) (by kernel_rfl) (by kernel_rfl) (fun _ _ _ h => h) (Or.inl ⟨by rfl, ?_⟩) (by assumption) ?_
            · intro wx hSw; go_simp
            try simp only [Act.put, List.setIfInBounds_toArray, List.set_cons_zero, List.set_cons_succ, List.getElem_toArray, List.getElem_cons_zero, List.getElem_cons_succ]
            refine wpAnyH_take (i := 21) (v := .pointer (some ⟨(w1.heap.size + 1), 0, none⟩)) rfl (by kernel_rfl) (by kernel_rfl) (by kernel_rfl) (fun _ _ _ h => h) (Or.inl ⟨by rfl, ?_⟩) (by assumption) ?_
            · intro wx hSw; go_simp
            try simp only [Act.put, List.setIfInBounds_toArray, List.set_cons_zero, List.set_cons_succ, List.getElem_toArray, List.getElem_cons_zero, List.getElem_cons_succ]
            refine wpAnyH_take (i := 22) (v := .slice (some ⟨ub, uo, none⟩) T.nS kS) rfl (by kernel_rfl) (by kernel_rfl) (by kernel_rfl) (fun _ _ _ h => h) (Or.inl ⟨by rfl, ?_⟩) (by assumption) ?_
            · intro wx hSw; go_simp
            try simp only [Act.put, List.setIfInBounds_toArray, List.set_cons_zero, List.set_cons_succ, List.getElem_toArray, List.getElem_cons_zero, List.getElem_cons_succ]
            refine wpAnyH_take (i := 23) (v := .int .i64 (k : Int)) rfl (by kernel_rfl) (by kernel_rfl) (by kernel_rfl) (fun _ _ _ h => h) (Or.inl ⟨by rfl, ?_⟩) (by assumption) ?_
            · intro wx hSw; go_simp
            try simp only [Act.put, List.setIfInBounds_toArray, List.set_cons_zero, List.set_cons_succ, List.getElem_toArray, List.getElem_cons_zero, List.getElem_cons_succ]
            refine wpAnyH_take (i := 24) (v := .pointer (some ⟨ub, uo + k, none⟩)) rfl (by kernel_rfl) (by kernel_rfl) (by kernel_rfl) (fun _ _ _ h => h) (Or.inl ⟨by rfl, ?_⟩) (by assumption) ?_
            · intro wx hSw; go_simp
            try simp only [Act.put, List.setIfInBounds_toArray, List.set_cons_zero, List.set_cons_succ, List.getElem_toArray, List.getElem_cons_zero, List.getElem_cons_succ]
            refine wpAnyH_take (i := 25) (v := .int .i64 (T.S k)) rfl (by kernel_rfl) (by kernel_rfl) (by kernel_rfl) (fun _ _ _ h => h) (Or.inl ⟨by rfl, ?_⟩) (by assumption) ?_
            · intro wx hSw; go_simp
            try simp only [Act.put, List.setIfInBounds_toArray, List.set_cons_zero, List.set_cons_succ, List.getElem_toArray, List.getElem_cons_zero, List.getElem_cons_succ]
            refine wpAnyH_take (i := 26) (v := .bool false) rfl (by kernel_rfl) (by kernel_rfl) (by kernel_rfl) (fun _ _ _ h => h) (Or.inl ⟨by rfl, ?_⟩) (by assumption) ?_
            · intro wx hSw; go_simp <;> first | omega | (exact IntWalk.i64_in _ (by omega)) | go_num
            try simp only [Act.put, List.setIfInBounds_toArray, List.set_cons_zero, List.set_cons_succ, List.getElem_toArray, List.getElem_cons_zero, List.getElem_cons_succ]
            refine wpAnyH_take (i := 27) (v := .bool false) rfl (by kernel_rfl) (by kernel_rfl) (by kernel_rfl) (fun _ _ _ h => h) (Or.inl ⟨by rfl, ?_⟩) (by assumption) ?_
            · intro wx hSw; go_simp
            try simp only [Act.put, List.setIfInBounds_toArray, List.set_cons_zero, List.set_cons_succ, List.getElem_toArray, List.getElem_cons_zero, List.getElem_cons_succ]
            refine wpAnyH_take (i := 28) (v := .bool false) rfl (by kernel_rfl) (by kernel_rfl) (by kernel_rfl) (fun _ _ _ h => h) (Or.inl ⟨by rfl, ?_⟩) (by assumption) ?_
            · intro wx hSw; go_simp
            try simp only [Act.put, List.setIfInBounds_toArray, List.set_cons_zero, List.set_cons_succ, List.getElem_toArray, List.getElem_cons_zero, List.getElem_cons_succ]
            refine wpAnyH_done (by kernel_rfl) ?_ _
            clear hHeld
            clear yM0 yM1 hlM yV0 yV1 hlV yX0 yX1 hlX
            clear q1 q2 q3 q4 r1 r2 r3 r4
            go_wp2
            go_roundw
            case rel => exact ⟨k + 1, by omega, by go_num, hbr.drew⟩
            case measure => simp [intOf]; omega
        · have hk2 : ¬ (k : Int) < ((T.nA : Nat) : Int) := by omega
          clear hkn
          have yV0 : wr.cell? ⟨(w1.heap.size + 1), 0, none⟩ = some (.slice (some ⟨ub, uo, none⟩) T.nS kS) := (V38.out.2 0 (by simp)).1
          have yV1 : wr.cell? ⟨(w1.heap.size + 1), 1, none⟩ = some (.slice (some ⟨vb, vo, none⟩) T.nA kA) := (V38.out.2 1 (by simp)).1
          have hlV : (w1.heap.size + 1) < wr.heap.size := V38.out.1
          go_upto_region 15 with fail
          clear yV0 yV1 hlV
          have j1 : Hid (∀ w', Below wr.heap.size wr w' → Calls Try.prog 11 #[.agg #[.slice (some ⟨sb, so, none⟩) G1.nS lS, .slice (some ⟨xb, xo, none⟩) G1.nA lA], .int .i64 (kc : Int)] w' fun e w'' => e = .returned (.int .i64 sv) ∧ Below w'.heap.size w' w'') := by
            intro w' hb
            exact by have h := srv_impl (.agg #[.slice (some ⟨sb, so, none⟩) G1.nS lS, .slice (some ⟨xb, xo, none⟩) G1.nA lA]) G1 (kc : Int) ⟨by have := HG1.out.1; omega, by have := HG1.out.2; omega⟩ w' ⟨_, _, _, _, rfl, .inr ⟨sb, so, rfl, Nat.lt_of_lt_of_le Ds.out.1 hb.size, fun k hk => (hb.cell (p := ⟨sb, so + k, none⟩) Ds.out.1).trans (Ds.out.2 k hk)⟩, .inr ⟨xb, xo, rfl, Nat.lt_of_lt_of_le Dx.out.1 hb.size, fun k hk => (hb.cell (p := ⟨xb, xo + k, none⟩) Dx.out.1).trans (Dx.out.2 k hk)⟩⟩; rw [HSRV.out] at h; exact h
          have j2 : Hid (∀ w', Below wr.heap.size wr w' → Calls Try.prog 8 #[.agg #[.int .i64 c, .int .i64 d], .agg #[.slice (some ⟨sb, so, none⟩) G1.nS lS, .slice (some ⟨xb, xo, none⟩) G1.nA lA], .int .i64 n] w' fun e w'' => e = .returned (.bool true) ∧ Below w'.heap.size w' w'') := by
            intro w' hb
            exact by have h := arbOk_impl c d (.agg #[.slice (some ⟨sb, so, none⟩) G1.nS lS, .slice (some ⟨xb, xo, none⟩) G1.nA lA]) G1 n ⟨by have := HG1.out.1; omega, by have := HG1.out.2; omega⟩ w' ⟨_, _, _, _, rfl, .inr ⟨sb, so, rfl, Nat.lt_of_lt_of_le Ds.out.1 hb.size, fun k hk => (hb.cell (p := ⟨sb, so + k, none⟩) Ds.out.1).trans (Ds.out.2 k hk)⟩, .inr ⟨xb, xo, rfl, Nat.lt_of_lt_of_le Dx.out.1 hb.size, fun k hk => (hb.cell (p := ⟨xb, xo + k, none⟩) Dx.out.1).trans (Dx.out.2 k hk)⟩⟩; rw [HTG.out] at h; exact h
          have p1 := Dv.out.2 kc hkc
          have p2 := Dx.out.2 kc (by have := HGS.out; omega)
          rw [HA.out] at p2
          have r1 := Dv.out.1
          have r3 := Dx.out.1
          have yM0 : wr.cell? ⟨w1.heap.size, 0, none⟩ = some (.int .i64 c) := (M38.out.2 0 (by simp)).1
          have yM1 : wr.cell? ⟨w1.heap.size, 1, none⟩ = some (.int .i64 d) := (M38.out.2 1 (by simp)).1
          have hlM : w1.heap.size < wr.heap.size := M38.out.1
          have yV0 : wr.cell? ⟨(w1.heap.size + 1), 0, none⟩ = some (.slice (some ⟨ub, uo, none⟩) T.nS kS) := (V38.out.2 0 (by simp)).1
          have yV1 : wr.cell? ⟨(w1.heap.size + 1), 1, none⟩ = some (.slice (some ⟨vb, vo, none⟩) T.nA kA) := (V38.out.2 1 (by simp)).1
          have hlV : (w1.heap.size + 1) < wr.heap.size := V38.out.1
          have yX0 : wr.cell? ⟨w3.heap.size, 0, none⟩ = some (.slice (some ⟨sb, so, none⟩) G1.nS lS) := (X38.out.2 0 (by simp)).1
          have yX1 : wr.cell? ⟨w3.heap.size, 1, none⟩ = some (.slice (some ⟨xb, xo, none⟩) G1.nA lA) := (X38.out.2 1 (by simp)).1
          have hlX : w3.heap.size < wr.heap.size := X38.out.1
          refine wp_region_held_drew (S := fun w' => (∀ b o, b < wr.heap.size → w'.cell? ⟨b, o, none⟩ = wr.cell? ⟨b, o, none⟩) ∧ wr.heap.size ≤ w'.heap.size) (by kernel_rfl) ⟨fun _ _ _ => rfl, Nat.le_refl _⟩ ?_
          intro hHeld
          refine wpAnyH_take (i := 0) (v := .agg #[.slice (some ⟨sb, so, none⟩) G1.nS lS, .slice (some ⟨xb, xo, none⟩) G1.nA lA]) rfl (by kernel_rfl) (by kernel_rfl) (by kernel_rfl) (fun _ _ _ h => h) (Or.inl ⟨by rfl, ?_⟩) (by assumption) ?_
          · intro wx hSw; go_simp
          try simp only [Act.put, List.setIfInBounds_toArray, List.set_cons_zero, List.set_cons_succ, List.getElem_toArray, List.getElem_cons_zero]
          refine wpAnyH_take (i := 1) (v := .int .i64 (kc : Int)) rfl (by kernel_rfl) (by kernel_rfl) (by kernel_rfl) (fun _ _ _ h => h) (Or.inl ⟨by rfl, ?_⟩) (by assumption) ?_
          · intro wx hSw; go_simp
          try simp only [Act.put, List.setIfInBounds_toArray, List.set_cons_zero, List.set_cons_succ, List.getElem_toArray, List.getElem_cons_zero, List.getElem_cons_succ]
          refine wpAnyH_take (i := 3) (v := .int .i64 sv) rfl (by kernel_rfl) (by kernel_rfl) (by kernel_rfl) (fun _ _ _ h => h) (Or.inl ⟨by rfl, ?_⟩) (by assumption) ?_
          · intro wx hSw; go_simp
          try simp only [Act.put, List.setIfInBounds_toArray, List.set_cons_zero, List.set_cons_succ, List.getElem_toArray, List.getElem_cons_zero, List.getElem_cons_succ]
          refine wpAnyH_ready (rs := [2]) (by kernel_rfl) (by simp) ?_
          refine AllReadyH.cons rfl (fun K hK => ?_) AllReadyH.nil
          go_simp
          go_wp2_with fail
          refine (j1.out _ (Below.refl _ _).drew).mono ?_
          rintro e z1 ⟨rfl, hz1⟩
          refine hK.out _ _ (keepS (by assumption) hz1) (fun hNew => ?_)
          clear hK K hHeld
          have hHeld := hNew
          clear hNew
          try simp only [Act.put, List.setIfInBounds_toArray, List.set_cons_zero, List.set_cons_succ, List.getElem_toArray, List.getElem_cons_zero, List.getElem_cons_succ]
          refine wpAnyH_take (i := 4) (v := .bool true) rfl (by kernel_rfl) (by kernel_rfl) (by kernel_rfl) (fun _ _ _ h => h) (Or.inl ⟨by rfl, ?_⟩) (by assumption) ?_
          · intro wx hSw; go_simp <;> first | omega | (exact IntWalk.i64_in _ (by omega)) | go_num
          try simp only [Act.put, List.setIfInBounds_toArray, List.set_cons_zero, List.set_cons_succ, List.getElem_toArray, List.getElem_cons_zero, List.getElem_cons_succ]
          refine wpAnyH_take (i := 5) (v := .bool true) rfl (by kernel_rfl) (by kernel_rfl) (by kernel_rfl) (fun _ _ _ h => h) (Or.inl ⟨by rfl, ?_⟩) (by assumption) ?_
          · intro wx hSw; go_simp
          try simp only [Act.put, List.setIfInBounds_toArray, List.set_cons_zero, List.set_cons_succ, List.getElem_toArray, List.getElem_cons_zero, List.getElem_cons_succ]
          refine wpAnyH_take (i := 6) (v := .pointer (some ⟨w3.heap.size, 1, none⟩)) rfl (by kernel_rfl) (by kernel_rfl) (by kernel_rfl) (fun _ _ _ h => h) (Or.inl ⟨by rfl, ?_⟩) (by assumption) ?_
          · intro wx hSw; go_simp
          try simp only [Act.put, List.setIfInBounds_toArray, List.set_cons_zero, List.set_cons_succ, List.getElem_toArray, List.getElem_cons_zero, List.getElem_cons_succ]
          refine wpAnyH_take (i := 7) (v := .slice (some ⟨xb, xo, none⟩) G1.nA lA) rfl (by kernel_rfl) (by kernel_rfl) (by kernel_rfl) (fun _ _ _ h => h) (Or.inl ⟨by rfl, ?_⟩) (by assumption) ?_
          · intro wx hSw; go_simp
          try simp only [Act.put, List.setIfInBounds_toArray, List.set_cons_zero, List.set_cons_succ, List.getElem_toArray, List.getElem_cons_zero, List.getElem_cons_succ]
          refine wpAnyH_take (i := 8) (v := .int .i64 (kc : Int)) rfl (by kernel_rfl) (by kernel_rfl) (by kernel_rfl) (fun _ _ _ h => h) (Or.inl ⟨by rfl, ?_⟩) (by assumption) ?_
          · intro wx hSw; go_simp
          try simp only [Act.put, List.setIfInBounds_toArray, List.set_cons_zero, List.set_cons_succ, List.getElem_toArray, List.getElem_cons_zero, List.getElem_cons_succ]
          refine wpAnyH_take (i := 9) (v := .pointer (some ⟨xb, xo + kc, none⟩)) rfl (by kernel_rfl) (by kernel_rfl) (by kernel_rfl) (fun _ _ _ h => h) (Or.inl ⟨by rfl, ?_⟩) (by assumption) ?_
          · intro wx hSw; go_simp
          try simp only [Act.put, List.setIfInBounds_toArray, List.set_cons_zero, List.set_cons_succ, List.getElem_toArray, List.getElem_cons_zero, List.getElem_cons_succ]
          refine wpAnyH_take (i := 10) (v := .int .i64 (T.A kc + 1)) rfl (by kernel_rfl) (by kernel_rfl) (by kernel_rfl) (fun _ _ _ h => h) (Or.inl ⟨by rfl, ?_⟩) (by assumption) ?_
          · intro wx hSw; go_simp
          try simp only [Act.put, List.setIfInBounds_toArray, List.set_cons_zero, List.set_cons_succ, List.getElem_toArray, List.getElem_cons_zero, List.getElem_cons_succ]
          refine wpAnyH_take (i := 11) (v := .pointer (some ⟨(w1.heap.size + 1), 1, none⟩)) rfl (by kernel_rfl) (by kernel_rfl) (by kernel_rfl) (fun _ _ _ h => h) (Or.inl ⟨by rfl, ?_⟩) (by assumption) ?_
          · intro wx hSw; go_simp
          try simp only [Act.put, List.setIfInBounds_toArray, List.set_cons_zero, List.set_cons_succ, List.getElem_toArray, List.getElem_cons_zero, List.getElem_cons_succ]
          refine wpAnyH_take (i := 12) (v := .slice (some ⟨vb, vo, none⟩) T.nA kA) rfl (by kernel_rfl) (by kernel_rfl) (by kernel_rfl) (fun _ _ _ h => h) (Or.inl ⟨by rfl, ?_⟩) (by assumption) ?_
          · intro wx hSw; go_simp
          try simp only [Act.put, List.setIfInBounds_toArray, List.set_cons_zero, List.set_cons_succ, List.getElem_toArray, List.getElem_cons_zero, List.getElem_cons_succ]
          refine wpAnyH_take (i := 13) (v := .int .i64 (kc : Int)) rfl (by kernel_rfl) (by kernel_rfl) (by kernel_rfl) (fun _ _ _ h => h) (Or.inl ⟨by rfl, ?_⟩) (by assumption) ?_
          · intro wx hSw; go_simp
          try simp only [Act.put, List.setIfInBounds_toArray, List.set_cons_zero, List.set_cons_succ, List.getElem_toArray, List.getElem_cons_zero, List.getElem_cons_succ]
          refine wpAnyH_take (i := 14) (v := .pointer (some ⟨vb, vo + kc, none⟩)) rfl (by kernel_rfl) (by kernel_rfl) (by kernel_rfl) (fun _ _ _ h => h) (Or.inl ⟨by rfl, ?_⟩) (by assumption) ?_
          · intro wx hSw; go_simp
          try simp only [Act.put, List.setIfInBounds_toArray, List.set_cons_zero, List.set_cons_succ, List.getElem_toArray, List.getElem_cons_zero, List.getElem_cons_succ]
          refine wpAnyH_take (i := 15) (v := .int .i64 (T.A kc)) rfl (by kernel_rfl) (by kernel_rfl) (by kernel_rfl) (fun _ _ _ h => h) (Or.inl ⟨by rfl, ?_⟩) (by assumption) ?_
          · intro wx hSw; go_simp
          try simp only [Act.put, List.setIfInBounds_toArray, List.set_cons_zero, List.set_cons_succ, List.getElem_toArray, List.getElem_cons_zero, List.getElem_cons_succ]
          refine wpAnyH_take (i := 16) (v := .int .i64 (T.A kc + 1)) rfl (by kernel_rfl) (by kernel_rfl) (by kernel_rfl) (fun _ _ _ h => h) (Or.inl ⟨by rfl, ?_⟩) (by assumption) ?_
          · intro wx hSw; go_simp <;> first | omega | (exact IntWalk.i64_in _ (by omega)) | go_num
          try simp only [Act.put, List.setIfInBounds_toArray, List.set_cons_zero, List.set_cons_succ, List.getElem_toArray, List.getElem_cons_zero, List.getElem_cons_succ]
          refine wpAnyH_take (i := 17) (v := .bool true) rfl (by kernel_rfl) (by kernel_rfl) (by kernel_rfl) (fun _ _ _ h => h) (Or.inl ⟨by rfl, ?_⟩) (by assumption) ?_
          · intro wx hSw; go_simp <;> first | omega | (exact IntWalk.i64_in _ (by omega)) | go_num
          try simp only [Act.put, List.setIfInBounds_toArray, List.set_cons_zero, List.set_cons_succ, List.getElem_toArray, List.getElem_cons_zero, List.getElem_cons_succ]
          refine wpAnyH_take (i := 18) (v := .bool true) rfl (by kernel_rfl) (by kernel_rfl) (by kernel_rfl) (fun _ _ _ h => h) (Or.inl ⟨by rfl, ?_⟩) (by assumption) ?_
          · intro wx hSw; go_simp
          try simp only [Act.put, List.setIfInBounds_toArray, List.set_cons_zero, List.set_cons_succ, List.getElem_toArray, List.getElem_cons_zero, List.getElem_cons_succ]
          refine wpAnyH_take (i := 19) (v := .bool true) rfl (by kernel_rfl) (by kernel_rfl) (by kernel_rfl) (fun _ _ _ h => h) (Or.inl ⟨by rfl, ?_⟩) (by assumption) ?_
          · intro wx hSw; go_simp
          try simp only [Act.put, List.setIfInBounds_toArray, List.set_cons_zero, List.set_cons_succ, List.getElem_toArray, List.getElem_cons_zero, List.getElem_cons_succ]
          refine wpAnyH_take (i := 20) (v := .agg #[.int .i64 c, .int .i64 d]) rfl (by kernel_rfl) (by kernel_rfl) (by kernel_rfl) (fun _ _ _ h => h) (Or.inl ⟨by rfl, ?_⟩) (by assumption) ?_
          · intro wx hSw; go_simp
          try simp only [Act.put, List.setIfInBounds_toArray, List.set_cons_zero, List.set_cons_succ, List.getElem_toArray, List.getElem_cons_zero, List.getElem_cons_succ]
          refine wpAnyH_take (i := 21) (v := .agg #[.slice (some ⟨sb, so, none⟩) G1.nS lS, .slice (some ⟨xb, xo, none⟩) G1.nA lA]) rfl (by kernel_rfl) (by kernel_rfl) (by kernel_rfl) (fun _ _ _ h => h) (Or.inl ⟨by rfl, ?_⟩) (by assumption) ?_
          · intro wx hSw; go_simp
          try simp only [Act.put, List.setIfInBounds_toArray, List.set_cons_zero, List.set_cons_succ, List.getElem_toArray, List.getElem_cons_zero, List.getElem_cons_succ]
          refine wpAnyH_take (i := 22) (v := .int .i64 n) rfl (by kernel_rfl) (by kernel_rfl) (by kernel_rfl) (fun _ _ _ h => h) (Or.inl ⟨by rfl, ?_⟩) (by assumption) ?_
          · intro wx hSw; go_simp
          try simp only [Act.put, List.setIfInBounds_toArray, List.set_cons_zero, List.set_cons_succ, List.getElem_toArray, List.getElem_cons_zero, List.getElem_cons_succ]
          refine wpAnyH_ready (rs := [23]) (by kernel_rfl) (by simp) ?_
          refine AllReadyH.cons rfl (fun K hK => ?_) AllReadyH.nil
          go_simp
          go_wp2_with fail
          refine (j2.out _ (bthen (Below.refl _ _).drew hz1)).mono ?_
          rintro e z2 ⟨rfl, hz2⟩
          refine hK.out _ _ (keepS (by assumption) hz2) (fun hNew => ?_)
          clear hK K hHeld
          have hHeld := hNew
          clear hNew
          try simp only [Act.put, List.setIfInBounds_toArray, List.set_cons_zero, List.set_cons_succ, List.getElem_toArray, List.getElem_cons_zero, List.getElem_cons_succ]
          refine wpAnyH_take (i := 24) (v := .bool true) rfl (by kernel_rfl) (by kernel_rfl) (by kernel_rfl) (fun _ _ _ h => h) (Or.inl ⟨by rfl, ?_⟩) (by assumption) ?_
          · intro wx hSw; go_simp
          try simp only [Act.put, List.setIfInBounds_toArray, List.set_cons_zero, List.set_cons_succ, List.getElem_toArray, List.getElem_cons_zero, List.getElem_cons_succ]
          refine wpAnyH_take (i := 25) (v := .bool true) rfl (by kernel_rfl) (by kernel_rfl) (by kernel_rfl) (fun _ _ _ h => h) (Or.inl ⟨by rfl, ?_⟩) (by assumption) ?_
          · intro wx hSw; go_simp
          try simp only [Act.put, List.setIfInBounds_toArray, List.set_cons_zero, List.set_cons_succ, List.getElem_toArray, List.getElem_cons_zero, List.getElem_cons_succ]
          refine wpAnyH_take (i := 26) (v := .agg #[.int .i64 c, .int .i64 d]) rfl (by kernel_rfl) (by kernel_rfl) (by kernel_rfl) (fun _ _ _ h => h) (Or.inl ⟨by rfl, ?_⟩) (by assumption) ?_
          · intro wx hSw; go_simp
          try simp only [Act.put, List.setIfInBounds_toArray, List.set_cons_zero, List.set_cons_succ, List.getElem_toArray, List.getElem_cons_zero, List.getElem_cons_succ]
          refine wpAnyH_take (i := 27) (v := .agg #[.int .i64 c, .int .i64 d]) rfl (by kernel_rfl) (by kernel_rfl) (by kernel_rfl) (fun _ _ _ h => h) (Or.inl ⟨by rfl, ?_⟩) (by assumption) ?_
          · intro wx hSw; go_simp
          try simp only [Act.put, List.setIfInBounds_toArray, List.set_cons_zero, List.set_cons_succ, List.getElem_toArray, List.getElem_cons_zero, List.getElem_cons_succ]
          refine wpAnyH_take (i := 29) (v := .int .i64 n) rfl (by kernel_rfl) (by kernel_rfl) (by kernel_rfl) (fun _ _ _ h => h) (Or.inl ⟨by rfl, ?_⟩) (by assumption) ?_
          · intro wx hSw; go_simp
          try simp only [Act.put, List.setIfInBounds_toArray, List.set_cons_zero, List.set_cons_succ, List.getElem_toArray, List.getElem_cons_zero, List.getElem_cons_succ]
          refine wpAnyH_ready (rs := [28]) (by kernel_rfl) (by simp) ?_
          refine AllReadyH.cons rfl (fun K hK => ?_) AllReadyH.nil
          go_simp
          go_wp2_with fail
          refine (arbNew_impl c d _).mono ?_
          rintro e z3 ⟨⟨nv, rfl, hO⟩, hz3⟩
          refine hK.out _ _ (keepS (by assumption) hz3) (fun hNew => ?_)
          clear hK K hHeld
          have hHeld := hNew
          clear hNew
          try simp only [Act.put, List.setIfInBounds_toArray, List.set_cons_zero, List.set_cons_succ, List.getElem_toArray, List.getElem_cons_zero, List.getElem_cons_succ]
          refine wpAnyH_ready (rs := [30]) (by kernel_rfl) (by simp) ?_
          refine AllReadyH.cons rfl (fun K hK => ?_) AllReadyH.nil
          go_simp
          go_wp2_with fail
          refine (newOk HOK.out.1 HOK.out.2 hO).mono ?_
          rintro e z4 ⟨rfl, hz4⟩
          refine hK.out _ _ (keepS (by assumption) hz4) (fun hNew => ?_)
          clear hK K hHeld
          have hHeld := hNew
          clear hNew
          try simp only [Act.put, List.setIfInBounds_toArray, List.set_cons_zero, List.set_cons_succ, List.getElem_toArray, List.getElem_cons_zero, List.getElem_cons_succ]
          refine wpAnyH_take (i := 31) (v := .bool true) rfl (by kernel_rfl) (by kernel_rfl) (by kernel_rfl) (fun _ _ _ h => h) (Or.inl ⟨by rfl, ?_⟩) (by assumption) ?_
          · intro wx hSw; go_simp
          try simp only [Act.put, List.setIfInBounds_toArray, List.set_cons_zero, List.set_cons_succ, List.getElem_toArray, List.getElem_cons_zero, List.getElem_cons_succ]
          refine wpAnyH_take (i := 32) (v := .bool true) rfl (by kernel_rfl) (by kernel_rfl) (by kernel_rfl) (fun _ _ _ h => h) (Or.inl ⟨by rfl, ?_⟩) (by assumption) ?_
          · intro wx hSw; go_simp
          try simp only [Act.put, List.setIfInBounds_toArray, List.set_cons_zero, List.set_cons_succ, List.getElem_toArray, List.getElem_cons_zero, List.getElem_cons_succ]
          refine wpAnyH_done (by kernel_rfl) ?_ _
          clear hHeld
          clear yM0 yM1 hlM yV0 yV1 hlV yX0 yX1 hlX
          clear p1 p2 r1 r3
          go_wp2
          go_ret
          exact ⟨rfl, bthen (bthen (bthen (bthen B38.out.drew hz1) hz2) hz3) hz4⟩
end Go.Proofs.Ytodmfbbicdbjdaa
