/- The law FnExactGwySay; conditions: those typed. -/
import Derived.Test.YtgjapdjidighlaaGY4
import Derived.Deep.DeepCutAuto
namespace Go.Proofs.Ytgjapdjidighlaa
open Go.RowKit Go.Deep
set_option linter.unusedVariables false

theorem bthenN {n : Nat} {a b c : World} (h : Below n a b) (hn : n ≤ a.heap.size) (k : Below b.heap.size b c) : Below n a c := h.trans (k.mono (Nat.le_trans hn h.size))
theorem bcellN {n : Nat} {W w1 : World} (hb : Below n W w1) : (∀ b o, b < n → w1.cell? ⟨b, o, none⟩ = W.cell? ⟨b, o, none⟩) ∧ (∀ b o, b < n → w1.frozen? ⟨b, o, none⟩ = W.frozen? ⟨b, o, none⟩) :=
  ⟨fun b o h => hb.cell (p := ⟨b, o, none⟩) h, fun b o h => hb.frozen (p := ⟨b, o, none⟩) h⟩
def Cp (w : World) (B n : Nat) (Z : Nat → Nat → Int) : Prop := B < w.heap.size ∧ P10.OwnK w B n Z n
theorem Cp.below {w w' : World} {B n : Nat} {Z : Nat → Nat → Int} (h : Cp w B n Z) (hb : Below w.heap.size w w') : Cp w' B n Z := ⟨Nat.lt_of_lt_of_le h.1 hb.size, P10.own_below h.2 h.1 hb⟩
theorem Cp.row {w : World} {B n : Nat} {Z : Nat → Nat → Int} (h : Cp w B n Z) : P10.RowK w (some ⟨B, 0, none⟩) n Z := P10.row_of_own h.2 h.1
theorem Cp.rl {w : World} {lo B n : Nat} {Z : Nat → Nat → Int} (h : Cp w B n Z) (h1 : lo ≤ B) : P10.RL lo w.heap.size w (.slice (some ⟨B, 0, none⟩) n n) n Z := .inr ⟨B, n, rfl, h1, h.1, Nat.le_refl _, h.2⟩
theorem toBookC (a : Option Addr) (n cap : Nat) (Z : Nat → Nat → Int) (hn : n ≤ 1048576) (w : World) (h : P10.RowK w a n Z) :
    Calls Try.prog 19 #[.agg #[.slice a n cap]] w fun e w' => (∃ B, e = .returned (.agg #[.slice (some ⟨B, 0, none⟩) n n]) ∧ Cp w' B n Z ∧ w.heap.size ≤ B) ∧ Below w.heap.size w w' := by
  refine (toBook a n cap Z hn w h).mono ?_
  rintro e w' ⟨⟨B, h1, h2, h3, h4⟩, hb⟩
  exact ⟨⟨B, h1, ⟨h3, h2⟩, h4⟩, hb⟩
attribute [local go_sem ↓] store62_eq load62_eq
attribute [local go_sem] run_load62 cellD
set_option maxRecDepth 20000 in
set_option maxHeartbeats 16000000 in
theorem law_gwySay (c d : Int) (a : Option Addr) (n cap : Nat) (Z : Nat → Nat → Int) (hn : n ≤ maxLen) (v : Value) (TT : TV) (sv who : Int) (hwf : (Lit.int .i64 who).wf = true) (hs : TT.short maxLen) (w : World) (h : P10.RowK w a n Z) (ht : TabAt w v TT) :
    Calls Try.prog 6 #[.agg #[.int .i64 c, .int .i64 d], .agg #[.slice a n cap], v, .int .i64 sv, .int .i64 who] w fun e w' => e = .returned (.bool true) ∧ Below w.heap.size w w' := by
  obtain ⟨aS, kS, aA, kA, rfl, rS, rA⟩ := ht
  have H0 : Hid (P10.RowK w a n Z) := h
  have HT : Hid (TabAt w (.agg #[.slice aS TT.nS kS, .slice aA TT.nA kA]) TT) := ⟨aS, kS, aA, kA, rfl, rS, rA⟩
  have HS0 : Hid (TT.short maxLen) := hs
  clear h rS rA hs
  have hn' : (n : Int) ≤ 9223372036854775807 := by unfold maxLen at hn; omega
  clear hn
  obtain ⟨m, eM⟩ : ∃ m, sayM Z TT (sayI c d n Z TT sv who) = m := ⟨_, rfl⟩
  obtain ⟨TB, eT⟩ : ∃ t, (sayI c d n Z TT sv who).isSome = t := ⟨_, rfl⟩
  have EM : Hid (sayM Z TT (sayI c d n Z TT sv who) = m) := eM
  have ET : Hid ((sayI c d n Z TT sv who).isSome = TB) := eT
  clear eM eT
  go_enter Try.func6, Try.ntmps6
  go_wp2_with fail
  obtain ⟨w0, e0⟩ : ∃ w0, w0 = ((w.alloc (.cells #[.int .i64 c, .int .i64 d] 23)).alloc (.cells #[.slice a n cap] 41)).alloc (.cells #[.slice aS TT.nS kS, .slice aA TT.nA kA] 51) := ⟨_, rfl⟩
  have B1 : Hid (Below w.heap.size w w0) := by rw [e0]; exact (((Below.refl _ _).alloc (by simp) _).alloc (by simp) _).alloc (by simp; omega) _
  have M2 : Hid (Bk w0 w.heap.size [.int .i64 c, .int .i64 d]) := by rw [e0]; exact ((bk_new w 23 [.int .i64 c, .int .i64 d]).below ((Below.refl _ _).alloc (Nat.le_refl _) _)).below ((Below.refl _ _).alloc (Nat.le_refl _) _)
  have A3 : Hid (Bk w0 (w.heap.size + 1) [.slice a n cap]) := by rw [e0]; have := (bk_new (w.alloc (.cells #[.int .i64 c, .int .i64 d] 23)) 41 [.slice a n cap]).below ((Below.refl _ _).alloc (Nat.le_refl _) (.cells #[.slice aS TT.nS kS, .slice aA TT.nA kA] 51)); rwa [show (w.alloc (.cells #[.int .i64 c, .int .i64 d] 23)).heap.size = w.heap.size + 1 by simp] at this
  have T4 : Hid (Bk w0 (w.heap.size + 1 + 1) [.slice aS TT.nS kS, .slice aA TT.nA kA]) := by rw [e0]; have := bk_new ((w.alloc (.cells #[.int .i64 c, .int .i64 d] 23)).alloc (.cells #[.slice a n cap] 41)) 51 [.slice aS TT.nS kS, .slice aA TT.nA kA]; rwa [show ((w.alloc (.cells #[.int .i64 c, .int .i64 d] 23)).alloc (.cells #[.slice a n cap] 41)).heap.size = w.heap.size + 1 + 1 by simp] at this
  rw [← e0]
  clear e0
  have y0 : w.heap.size + 1 + 1 < w0.heap.size := T4.out.1
  refine (szBook a n cap hn' _).mono ?_
  rintro e w1 ⟨rfl, hb1⟩
  have y_w1 : w0.heap.size ≤ w1.heap.size := hb1.size
  have B5 : Hid (Below w.heap.size w w1) := bthen B1.out hb1
  have M5 : Hid (Bk w1 w.heap.size [.int .i64 c, .int .i64 d]) := M2.out.below hb1
  have A5 : Hid (Bk w1 (w.heap.size + 1) [.slice a n cap]) := A3.out.below hb1
  have T5 : Hid (Bk w1 (w.heap.size + 1 + 1) [.slice aS TT.nS kS, .slice aA TT.nA kA]) := T4.out.below hb1
  clear B1 M2 A3 T4
  clear hb1
  by_cases hle : (n : Int) ≤ 1048576
  rotate_left
  · rw [if_neg hle]
    go_wp2
    go_ret
    exact ⟨rfl, B5.out⟩
  rw [if_pos hle]
  have hn2 : n ≤ 1048576 := by omega
  have hle2 : ¬ 1048576 - (n : Int) < 0 := by omega
  obtain ⟨lf, elf⟩ : ∃ l : Int, l = 1048576 - (n : Int) := ⟨_, rfl⟩
  have lf0 : 0 ≤ lf := by omega
  have lf1 : lf ≤ 1048576 := by omega
  have lf2 : ¬ lf < 0 := by omega
  rw [← elf]
  clear elf hle hle2
  have yM0 : w1.cell? ⟨w.heap.size, 0, none⟩ = some (.int .i64 c) := (M5.out.2 0 (by simp)).1
  have yM1 : w1.cell? ⟨w.heap.size, 1, none⟩ = some (.int .i64 d) := (M5.out.2 1 (by simp)).1
  have hlM : w.heap.size < w1.heap.size := M5.out.1
  have yA0 : w1.cell? ⟨(w.heap.size + 1), 0, none⟩ = some (.slice a n cap) := (A5.out.2 0 (by simp)).1
  have hlA : (w.heap.size + 1) < w1.heap.size := A5.out.1
  have yT0 : w1.cell? ⟨(w.heap.size + 1 + 1), 0, none⟩ = some (.slice aS TT.nS kS) := (T5.out.2 0 (by simp)).1
  have yT1 : w1.cell? ⟨(w.heap.size + 1 + 1), 1, none⟩ = some (.slice aA TT.nA kA) := (T5.out.2 1 (by simp)).1
  have hlT : (w.heap.size + 1 + 1) < w1.heap.size := T5.out.1
  go_wp2_with fail
  refine (szTabG lf lf0 lf1 _ TT HS0.out _ (HT.out.below B5.out)).mono ?_
  rintro e v1 ⟨⟨r, rfl, hr⟩, hb1⟩
  clear yM0 yM1 hlM yA0 hlA yT0 yT1 hlT
  have y_v1 : w1.heap.size ≤ v1.heap.size := hb1.size
  have B6 : Hid (Below w.heap.size w v1) := bthen B5.out hb1
  have M6 : Hid (Bk v1 w.heap.size [.int .i64 c, .int .i64 d]) := M5.out.below hb1
  have A6 : Hid (Bk v1 (w.heap.size + 1) [.slice a n cap]) := A5.out.below hb1
  have T6 : Hid (Bk v1 (w.heap.size + 1 + 1) [.slice aS TT.nS kS, .slice aA TT.nA kA]) := T5.out.below hb1
  clear B5 M5 A5 T5
  clear hb1
  rcases hr with hr | ⟨hr, hV⟩
  · go_wp2
    go_ret
    exact ⟨rfl, B6.out⟩
  have hr2 : ¬ r < 0 := by omega
  have HV : Hid (TT.short 1048576) := hV
  clear hV
  go_upto_region 8 with fail
  go_cut [12, 13] (fun s t wx => ∃ g, .pointer (some ⟨g, 0, none⟩) = s ∧ .bool TB = t ∧ Bk wx g [.int .i64 (m 0), .int .i64 (m 1), .int .i64 (m 2), .int .i64 (m 3), .int .i64 (m 4), .int .i64 (m 5), .int .i64 (m 6), .int .i64 (m 7), .int .i64 (m 8), .int .i64 (m 9), .int .i64 (m 10), .int .i64 (m 11), .int .i64 (m 12), .int .i64 (m 13), .int .i64 (m 14), .int .i64 (m 15), .int .i64 (m 16), .int .i64 (m 17), .int .i64 (m 18), .int .i64 (m 19), .int .i64 (m 20), .int .i64 (m 21), .int .i64 (m 22), .int .i64 (m 23), .int .i64 (m 24)] ∧ (v1.heap.size ≤ g ∧ g < wx.heap.size) ∧ Below v1.heap.size v1 wx)
  case first =>
    have yM0 : v1.cell? ⟨w.heap.size, 0, none⟩ = some (.int .i64 c) := (M6.out.2 0 (by simp)).1
    have yM1 : v1.cell? ⟨w.heap.size, 1, none⟩ = some (.int .i64 d) := (M6.out.2 1 (by simp)).1
    have hlM : w.heap.size < v1.heap.size := M6.out.1
    have yA0 : v1.cell? ⟨(w.heap.size + 1), 0, none⟩ = some (.slice a n cap) := (A6.out.2 0 (by simp)).1
    have hlA : (w.heap.size + 1) < v1.heap.size := A6.out.1
    have yT0 : v1.cell? ⟨(w.heap.size + 1 + 1), 0, none⟩ = some (.slice aS TT.nS kS) := (T6.out.2 0 (by simp)).1
    have yT1 : v1.cell? ⟨(w.heap.size + 1 + 1), 1, none⟩ = some (.slice aA TT.nA kA) := (T6.out.2 1 (by simp)).1
    have hlT : (w.heap.size + 1 + 1) < v1.heap.size := T6.out.1
    refine wp_region_held_drew (S := fun w' => Below (v1.heap.size) v1 w') (by kernel_rfl) ((Below.refl _ _).drew) ?_
    intro hHeld
    obtain ⟨X0, hX0⟩ : ∃ X, X = v1.drew := ⟨_, rfl⟩
    have hz0 : v1.heap.size ≤ X0.heap.size := by rw [hX0]; exact Nat.le_refl _
    rw [← hX0] at hHeld ⊢
    clear hX0
    refine wpAnyH_take (i := 0) (v := .agg #[.int .i64 c, .int .i64 d]) rfl (by kernel_rfl) (by kernel_rfl) (by kernel_rfl) (fun _ _ _ h => h) (Or.inl ⟨by rfl, ?_⟩) (by assumption) ?_
    · intro wx hSw; obtain ⟨hcS, hfS⟩ := bcellN hSw; go_simp
    try simp only [Act.put, List.setIfInBounds_toArray, List.set_cons_zero, List.set_cons_succ, List.getElem_toArray, List.getElem_cons_zero]
    refine wpAnyH_take (i := 2) (v := .agg #[.slice a n cap]) rfl (by kernel_rfl) (by kernel_rfl) (by kernel_rfl) (fun _ _ _ h => h) (Or.inl ⟨by rfl, ?_⟩) (by assumption) ?_
    · intro wx hSw; obtain ⟨hcS, hfS⟩ := bcellN hSw; go_simp
    try simp only [Act.put, List.setIfInBounds_toArray, List.set_cons_zero, List.set_cons_succ, List.getElem_toArray, List.getElem_cons_zero, List.getElem_cons_succ]
    refine wpAnyH_take (i := 4) (v := .agg #[.slice aS TT.nS kS, .slice aA TT.nA kA]) rfl (by kernel_rfl) (by kernel_rfl) (by kernel_rfl) (fun _ _ _ h => h) (Or.inl ⟨by rfl, ?_⟩) (by assumption) ?_
    · intro wx hSw; obtain ⟨hcS, hfS⟩ := bcellN hSw; go_simp
    try simp only [Act.put, List.setIfInBounds_toArray, List.set_cons_zero, List.set_cons_succ, List.getElem_toArray, List.getElem_cons_zero, List.getElem_cons_succ]
    refine wpAnyH_take (i := 6) (v := .int .i64 sv) rfl (by kernel_rfl) (by kernel_rfl) (by kernel_rfl) (fun _ _ _ h => h) (Or.inl ⟨by rfl, ?_⟩) (by assumption) ?_
    · intro wx hSw; obtain ⟨hcS, hfS⟩ := bcellN hSw; go_simp
    try simp only [Act.put, List.setIfInBounds_toArray, List.set_cons_zero, List.set_cons_succ, List.getElem_toArray, List.getElem_cons_zero, List.getElem_cons_succ]
    refine wpAnyH_take (i := 7) (v := .int .i64 who) rfl (by kernel_rfl) (by kernel_rfl) (by kernel_rfl) (fun _ _ _ h => h) (Or.inl ⟨by rfl, ?_⟩) (by assumption) ?_
    · intro wx hSw; obtain ⟨hcS, hfS⟩ := bcellN hSw; go_simp
    try simp only [Act.put, List.setIfInBounds_toArray, List.set_cons_zero, List.set_cons_succ, List.getElem_toArray, List.getElem_cons_zero, List.getElem_cons_succ]
    refine wpAnyH_ready (rs := [1, 12]) (by kernel_rfl) (by simp) ?_
    refine (AllReadyH.cons rfl (fun K hK => ?_) (AllReadyH.cons rfl (fun K hK => ?_) AllReadyH.nil))
    · go_simp
      go_wp2_with fail
      refine (toMap _ _ _).mono ?_
      rintro e xm ⟨rfl, hxm⟩
      have hsz_xm := hxm.size
      refine hK.out _ _ (bthenN hHeld (by omega) hxm) (fun hNew => ?_)
      clear hK K hHeld
      have hHeld := hNew
      clear hNew
      try simp only [Act.put, List.setIfInBounds_toArray, List.set_cons_zero, List.set_cons_succ, List.getElem_toArray, List.getElem_cons_zero, List.getElem_cons_succ]
      refine wpAnyH_ready (rs := [3, 12]) (by kernel_rfl) (by simp) ?_
      refine (AllReadyH.cons rfl (fun K hK => ?_) (AllReadyH.cons rfl (fun K hK => ?_) AllReadyH.nil))
      · go_simp
        go_wp2_with fail
        refine (toBookC a n cap Z hn2 _ (P10.row_below H0.out (bthen B6.out hHeld))).mono ?_
        rintro e xt ⟨⟨bt, rfl, hC, hbt⟩, hxt⟩
        have hsz_xt := hxt.size
        refine hK.out _ _ (bthenN hHeld (by omega) hxt) (fun hNew => ?_)
        clear hK K hHeld
        have hHeld := hNew
        clear hNew
        try simp only [Act.put, List.setIfInBounds_toArray, List.set_cons_zero, List.set_cons_succ, List.getElem_toArray, List.getElem_cons_zero, List.getElem_cons_succ]
        refine wpAnyH_ready (rs := [5, 12]) (by kernel_rfl) (by simp) ?_
        refine (AllReadyH.cons rfl (fun K hK => ?_) (AllReadyH.cons rfl (fun K hK => ?_) AllReadyH.nil))
        · go_simp
          go_wp2_with fail
          refine (toTab _ TT HV.out _ (HT.out.below (bthen B6.out hHeld))).mono ?_
          rintro e xu ⟨⟨vu, rfl, hD0⟩, hxu⟩
          have hD := hD0.at
          clear hD0
          obtain ⟨uS, eS, uA, eA, rfl, dS, dA⟩ := hD
          have hD : TabAt xu (.agg #[.slice uS TT.nS eS, .slice uA TT.nA eA]) TT := ⟨uS, eS, uA, eA, rfl, dS, dA⟩
          clear dS dA
          replace hC := hC.below hxu
          have hsz_xu := hxu.size
          refine hK.out _ _ (bthenN hHeld (by omega) hxu) (fun hNew => ?_)
          clear hK K hHeld
          have hHeld := hNew
          clear hNew
          try simp only [Act.put, List.setIfInBounds_toArray, List.set_cons_zero, List.set_cons_succ, List.getElem_toArray, List.getElem_cons_zero, List.getElem_cons_succ]
          refine wpAnyH_ready (rs := [8, 12]) (by kernel_rfl) (by simp) ?_
          refine (AllReadyH.cons rfl (fun K hK => ?_) (AllReadyH.cons rfl (fun K hK => ?_) AllReadyH.nil))
          · go_simp
            go_wp2_with fail
            refine (say_spec c d _ n n Z _ _ _ _ TT sv who hwf hn2 HV.out _ hC.row hD).mono ?_
            rintro e xg ⟨rfl, hxg⟩
            rw [EM.out, ET.out]
            have hsz_xg := hxg.size
            refine hK.out _ _ (bthenN hHeld (by omega) hxg) (fun hNew => ?_)
            clear hK K hHeld
            have hHeld := hNew
            clear hNew
            try simp only [Act.put, List.setIfInBounds_toArray, List.set_cons_zero, List.set_cons_succ, List.getElem_toArray, List.getElem_cons_zero, List.getElem_cons_succ]
            refine wpAnyH_take (i := 9) (v := .tuple #[.agg #[.int .i64 (m 0), .int .i64 (m 1), .int .i64 (m 2), .int .i64 (m 3), .int .i64 (m 4), .int .i64 (m 5), .int .i64 (m 6), .int .i64 (m 7), .int .i64 (m 8), .int .i64 (m 9), .int .i64 (m 10), .int .i64 (m 11), .int .i64 (m 12), .int .i64 (m 13), .int .i64 (m 14), .int .i64 (m 15), .int .i64 (m 16), .int .i64 (m 17), .int .i64 (m 18), .int .i64 (m 19), .int .i64 (m 20), .int .i64 (m 21), .int .i64 (m 22), .int .i64 (m 23), .int .i64 (m 24)], .bool TB]) rfl (by kernel_rfl) (by kernel_rfl) (by kernel_rfl) (fun _ _ _ h => h) (Or.inl ⟨by rfl, ?_⟩) (by assumption) ?_
            · intro wx hSw; obtain ⟨hcS, hfS⟩ := bcellN hSw; go_simp
            try simp only [Act.put, List.setIfInBounds_toArray, List.set_cons_zero, List.set_cons_succ, List.getElem_toArray, List.getElem_cons_zero, List.getElem_cons_succ]
            refine wpAnyH_take (i := 10) (v := .agg #[.int .i64 (m 0), .int .i64 (m 1), .int .i64 (m 2), .int .i64 (m 3), .int .i64 (m 4), .int .i64 (m 5), .int .i64 (m 6), .int .i64 (m 7), .int .i64 (m 8), .int .i64 (m 9), .int .i64 (m 10), .int .i64 (m 11), .int .i64 (m 12), .int .i64 (m 13), .int .i64 (m 14), .int .i64 (m 15), .int .i64 (m 16), .int .i64 (m 17), .int .i64 (m 18), .int .i64 (m 19), .int .i64 (m 20), .int .i64 (m 21), .int .i64 (m 22), .int .i64 (m 23), .int .i64 (m 24)]) rfl (by kernel_rfl) (by kernel_rfl) (by kernel_rfl) (fun _ _ _ h => h) (Or.inl ⟨by rfl, ?_⟩) (by assumption) ?_
            · intro wx hSw; obtain ⟨hcS, hfS⟩ := bcellN hSw; go_simp
            try simp only [Act.put, List.setIfInBounds_toArray, List.set_cons_zero, List.set_cons_succ, List.getElem_toArray, List.getElem_cons_zero, List.getElem_cons_succ]
            refine wpAnyH_take (i := 11) (v := .bool TB) rfl (by kernel_rfl) (by kernel_rfl) (by kernel_rfl) (fun _ _ _ h => h) (Or.inl ⟨by rfl, ?_⟩) (by assumption) ?_
            · intro wx hSw; obtain ⟨hcS, hfS⟩ := bcellN hSw; go_simp
            try simp only [Act.put, List.setIfInBounds_toArray, List.set_cons_zero, List.set_cons_succ, List.getElem_toArray, List.getElem_cons_zero, List.getElem_cons_succ]
            refine wpAnyH_ready (rs := [12]) (by kernel_rfl) (by simp) ?_
            refine (AllReadyH.cons rfl (fun K hK => ?_) AllReadyH.nil)
            go_simp
            obtain ⟨XC, eA⟩ : ∃ X, X = xg.alloc (.cells #[.int .i64 0, .int .i64 0, .int .i64 0, .int .i64 0, .int .i64 0, .int .i64 0, .int .i64 0, .int .i64 0, .int .i64 0, .int .i64 0, .int .i64 0, .int .i64 0, .int .i64 0, .int .i64 0, .int .i64 0, .int .i64 0, .int .i64 0, .int .i64 0, .int .i64 0, .int .i64 0, .int .i64 0, .int .i64 0, .int .i64 0, .int .i64 0, .int .i64 0] 62) := ⟨_, rfl⟩
            rw [← eA]
            have hbA : Below xg.heap.size xg XC := by rw [eA]; exact (Below.refl _ _).alloc (Nat.le_refl _) _
            have hZC : Bk XC xg.heap.size [.int .i64 0, .int .i64 0, .int .i64 0, .int .i64 0, .int .i64 0, .int .i64 0, .int .i64 0, .int .i64 0, .int .i64 0, .int .i64 0, .int .i64 0, .int .i64 0, .int .i64 0, .int .i64 0, .int .i64 0, .int .i64 0, .int .i64 0, .int .i64 0, .int .i64 0, .int .i64 0, .int .i64 0, .int .i64 0, .int .i64 0, .int .i64 0, .int .i64 0] := by rw [eA]; exact bk_new xg 62 [.int .i64 0, .int .i64 0, .int .i64 0, .int .i64 0, .int .i64 0, .int .i64 0, .int .i64 0, .int .i64 0, .int .i64 0, .int .i64 0, .int .i64 0, .int .i64 0, .int .i64 0, .int .i64 0, .int .i64 0, .int .i64 0, .int .i64 0, .int .i64 0, .int .i64 0, .int .i64 0, .int .i64 0, .int .i64 0, .int .i64 0, .int .i64 0, .int .i64 0]
            have hzAC1 : XC.heap.size ≤ xg.heap.size + 1 := by rw [eA]; simp
            have hzAC2 : xg.heap.size + 1 ≤ XC.heap.size := by rw [eA]; simp
            clear eA
            have hsz_XC := hbA.size
            refine hK.out _ _ (bthenN hHeld (by omega) hbA) (fun hNew => ?_)
            clear hK K hHeld
            have hHeld := hNew
            clear hNew
            try simp only [Act.put, List.setIfInBounds_toArray, List.set_cons_zero, List.set_cons_succ, List.getElem_toArray, List.getElem_cons_zero, List.getElem_cons_succ]
            clear hbA
            obtain ⟨C, eC⟩ : ∃ g, g = xg.heap.size := ⟨_, rfl⟩
            rw [← eC] at hZC ⊢
            have eC1 : C ≤ xg.heap.size := by omega
            have eC2 : xg.heap.size ≤ C := by omega
            clear eC
            refine wpAnyH_ready (rs := [13]) (by kernel_rfl) (by simp) ?_
            refine (AllReadyH.cons rfl (fun K hK => ?_) AllReadyH.nil)
            go_simp
            rw [store62_bk hZC rfl _ rfl (by kernel_rfl)]
            obtain ⟨XSC, eS⟩ : ∃ X, X = putL C ((#[.int .i64 (m 0), .int .i64 (m 1), .int .i64 (m 2), .int .i64 (m 3), .int .i64 (m 4), .int .i64 (m 5), .int .i64 (m 6), .int .i64 (m 7), .int .i64 (m 8), .int .i64 (m 9), .int .i64 (m 10), .int .i64 (m 11), .int .i64 (m 12), .int .i64 (m 13), .int .i64 (m 14), .int .i64 (m 15), .int .i64 (m 16), .int .i64 (m 17), .int .i64 (m 18), .int .i64 (m 19), .int .i64 (m 20), .int .i64 (m 21), .int .i64 (m 22), .int .i64 (m 23), .int .i64 (m 24)] : Array Value).toList) 0 XC := ⟨_, rfl⟩
            rw [← eS]
            have hPC : Bk XSC C [.int .i64 (m 0), .int .i64 (m 1), .int .i64 (m 2), .int .i64 (m 3), .int .i64 (m 4), .int .i64 (m 5), .int .i64 (m 6), .int .i64 (m 7), .int .i64 (m 8), .int .i64 (m 9), .int .i64 (m 10), .int .i64 (m 11), .int .i64 (m 12), .int .i64 (m 13), .int .i64 (m 14), .int .i64 (m 15), .int .i64 (m 16), .int .i64 (m 17), .int .i64 (m 18), .int .i64 (m 19), .int .i64 (m 20), .int .i64 (m 21), .int .i64 (m 22), .int .i64 (m 23), .int .i64 (m 24)] := by rw [eS]; exact bk_put hZC rfl
            have hzC2 : XC.heap.size ≤ XSC.heap.size := by rw [eS, size_put]; exact Nat.le_refl _
            have hkC : v1.heap.size ≤ C := by omega
            have hBC : Below (v1.heap.size) v1 XSC := by rw [eS]; exact below_put hkC _ 0 hHeld
            clear eS
            refine hK.out _ _ hBC (fun hNew => ?_)
            clear hK K hHeld
            have hHeld := hNew
            clear hNew
            try simp only [Act.put]
            refine wpAnyH_take (i := 14) (v := .bool TB) rfl (by kernel_rfl) (by kernel_rfl) (by kernel_rfl) (fun _ _ _ h => h) (Or.inl ⟨by rfl, ?_⟩) (by assumption) ?_
            · intro wx hSw; obtain ⟨hcS, hfS⟩ := bcellN hSw; go_simp
            try simp only [Act.put, List.setIfInBounds_toArray, List.set_cons_zero, List.set_cons_succ, List.getElem_toArray, List.getElem_cons_zero, List.getElem_cons_succ]
            refine wpAnyH_done (by kernel_rfl) ?_ _
            go_wp2
            go_meet
            case rel => exact ⟨C, rfl, rfl, hPC, ⟨by omega, hPC.1⟩, hHeld⟩
          · go_simp
            obtain ⟨XC, eA⟩ : ∃ X, X = xu.alloc (.cells #[.int .i64 0, .int .i64 0, .int .i64 0, .int .i64 0, .int .i64 0, .int .i64 0, .int .i64 0, .int .i64 0, .int .i64 0, .int .i64 0, .int .i64 0, .int .i64 0, .int .i64 0, .int .i64 0, .int .i64 0, .int .i64 0, .int .i64 0, .int .i64 0, .int .i64 0, .int .i64 0, .int .i64 0, .int .i64 0, .int .i64 0, .int .i64 0, .int .i64 0] 62) := ⟨_, rfl⟩
            rw [← eA]
            have hbA : Below xu.heap.size xu XC := by rw [eA]; exact (Below.refl _ _).alloc (Nat.le_refl _) _
            have hZC : Bk XC xu.heap.size [.int .i64 0, .int .i64 0, .int .i64 0, .int .i64 0, .int .i64 0, .int .i64 0, .int .i64 0, .int .i64 0, .int .i64 0, .int .i64 0, .int .i64 0, .int .i64 0, .int .i64 0, .int .i64 0, .int .i64 0, .int .i64 0, .int .i64 0, .int .i64 0, .int .i64 0, .int .i64 0, .int .i64 0, .int .i64 0, .int .i64 0, .int .i64 0, .int .i64 0] := by rw [eA]; exact bk_new xu 62 [.int .i64 0, .int .i64 0, .int .i64 0, .int .i64 0, .int .i64 0, .int .i64 0, .int .i64 0, .int .i64 0, .int .i64 0, .int .i64 0, .int .i64 0, .int .i64 0, .int .i64 0, .int .i64 0, .int .i64 0, .int .i64 0, .int .i64 0, .int .i64 0, .int .i64 0, .int .i64 0, .int .i64 0, .int .i64 0, .int .i64 0, .int .i64 0, .int .i64 0]
            have hzAC1 : XC.heap.size ≤ xu.heap.size + 1 := by rw [eA]; simp
            have hzAC2 : xu.heap.size + 1 ≤ XC.heap.size := by rw [eA]; simp
            clear eA
            replace hC := hC.below hbA
            replace hD := hD.below hbA
            have hsz_XC := hbA.size
            refine hK.out _ _ (bthenN hHeld (by omega) hbA) (fun hNew => ?_)
            clear hK K hHeld
            have hHeld := hNew
            clear hNew
            try simp only [Act.put, List.setIfInBounds_toArray, List.set_cons_zero, List.set_cons_succ, List.getElem_toArray, List.getElem_cons_zero, List.getElem_cons_succ]
            clear hbA
            obtain ⟨C, eC⟩ : ∃ g, g = xu.heap.size := ⟨_, rfl⟩
            rw [← eC] at hZC ⊢
            have eC1 : C ≤ xu.heap.size := by omega
            have eC2 : xu.heap.size ≤ C := by omega
            clear eC
            refine wpAnyH_ready (rs := [8]) (by kernel_rfl) (by simp) ?_
            refine (AllReadyH.cons rfl (fun K hK => ?_) AllReadyH.nil)
            go_simp
            go_wp2_with fail
            refine (say_spec c d _ n n Z _ _ _ _ TT sv who hwf hn2 HV.out _ hC.row hD).mono ?_
            rintro e xg ⟨rfl, hxg⟩
            rw [EM.out, ET.out]
            replace hZC := hZC.below hxg
            have hsz_xg := hxg.size
            refine hK.out _ _ (bthenN hHeld (by omega) hxg) (fun hNew => ?_)
            clear hK K hHeld
            have hHeld := hNew
            clear hNew
            try simp only [Act.put, List.setIfInBounds_toArray, List.set_cons_zero, List.set_cons_succ, List.getElem_toArray, List.getElem_cons_zero, List.getElem_cons_succ]
            refine wpAnyH_take (i := 9) (v := .tuple #[.agg #[.int .i64 (m 0), .int .i64 (m 1), .int .i64 (m 2), .int .i64 (m 3), .int .i64 (m 4), .int .i64 (m 5), .int .i64 (m 6), .int .i64 (m 7), .int .i64 (m 8), .int .i64 (m 9), .int .i64 (m 10), .int .i64 (m 11), .int .i64 (m 12), .int .i64 (m 13), .int .i64 (m 14), .int .i64 (m 15), .int .i64 (m 16), .int .i64 (m 17), .int .i64 (m 18), .int .i64 (m 19), .int .i64 (m 20), .int .i64 (m 21), .int .i64 (m 22), .int .i64 (m 23), .int .i64 (m 24)], .bool TB]) rfl (by kernel_rfl) (by kernel_rfl) (by kernel_rfl) (fun _ _ _ h => h) (Or.inl ⟨by rfl, ?_⟩) (by assumption) ?_
            · intro wx hSw; obtain ⟨hcS, hfS⟩ := bcellN hSw; go_simp
            try simp only [Act.put, List.setIfInBounds_toArray, List.set_cons_zero, List.set_cons_succ, List.getElem_toArray, List.getElem_cons_zero, List.getElem_cons_succ]
            refine wpAnyH_take (i := 10) (v := .agg #[.int .i64 (m 0), .int .i64 (m 1), .int .i64 (m 2), .int .i64 (m 3), .int .i64 (m 4), .int .i64 (m 5), .int .i64 (m 6), .int .i64 (m 7), .int .i64 (m 8), .int .i64 (m 9), .int .i64 (m 10), .int .i64 (m 11), .int .i64 (m 12), .int .i64 (m 13), .int .i64 (m 14), .int .i64 (m 15), .int .i64 (m 16), .int .i64 (m 17), .int .i64 (m 18), .int .i64 (m 19), .int .i64 (m 20), .int .i64 (m 21), .int .i64 (m 22), .int .i64 (m 23), .int .i64 (m 24)]) rfl (by kernel_rfl) (by kernel_rfl) (by kernel_rfl) (fun _ _ _ h => h) (Or.inl ⟨by rfl, ?_⟩) (by assumption) ?_
            · intro wx hSw; obtain ⟨hcS, hfS⟩ := bcellN hSw; go_simp
            try simp only [Act.put, List.setIfInBounds_toArray, List.set_cons_zero, List.set_cons_succ, List.getElem_toArray, List.getElem_cons_zero, List.getElem_cons_succ]
            refine wpAnyH_take (i := 11) (v := .bool TB) rfl (by kernel_rfl) (by kernel_rfl) (by kernel_rfl) (fun _ _ _ h => h) (Or.inl ⟨by rfl, ?_⟩) (by assumption) ?_
            · intro wx hSw; obtain ⟨hcS, hfS⟩ := bcellN hSw; go_simp
            try simp only [Act.put, List.setIfInBounds_toArray, List.set_cons_zero, List.set_cons_succ, List.getElem_toArray, List.getElem_cons_zero, List.getElem_cons_succ]
            refine wpAnyH_ready (rs := [13]) (by kernel_rfl) (by simp) ?_
            refine (AllReadyH.cons rfl (fun K hK => ?_) AllReadyH.nil)
            go_simp
            rw [store62_bk hZC rfl _ rfl (by kernel_rfl)]
            obtain ⟨XSC, eS⟩ : ∃ X, X = putL C ((#[.int .i64 (m 0), .int .i64 (m 1), .int .i64 (m 2), .int .i64 (m 3), .int .i64 (m 4), .int .i64 (m 5), .int .i64 (m 6), .int .i64 (m 7), .int .i64 (m 8), .int .i64 (m 9), .int .i64 (m 10), .int .i64 (m 11), .int .i64 (m 12), .int .i64 (m 13), .int .i64 (m 14), .int .i64 (m 15), .int .i64 (m 16), .int .i64 (m 17), .int .i64 (m 18), .int .i64 (m 19), .int .i64 (m 20), .int .i64 (m 21), .int .i64 (m 22), .int .i64 (m 23), .int .i64 (m 24)] : Array Value).toList) 0 xg := ⟨_, rfl⟩
            rw [← eS]
            have hPC : Bk XSC C [.int .i64 (m 0), .int .i64 (m 1), .int .i64 (m 2), .int .i64 (m 3), .int .i64 (m 4), .int .i64 (m 5), .int .i64 (m 6), .int .i64 (m 7), .int .i64 (m 8), .int .i64 (m 9), .int .i64 (m 10), .int .i64 (m 11), .int .i64 (m 12), .int .i64 (m 13), .int .i64 (m 14), .int .i64 (m 15), .int .i64 (m 16), .int .i64 (m 17), .int .i64 (m 18), .int .i64 (m 19), .int .i64 (m 20), .int .i64 (m 21), .int .i64 (m 22), .int .i64 (m 23), .int .i64 (m 24)] := by rw [eS]; exact bk_put hZC rfl
            have hzC2 : xg.heap.size ≤ XSC.heap.size := by rw [eS, size_put]; exact Nat.le_refl _
            have hkC : v1.heap.size ≤ C := by omega
            have hBC : Below (v1.heap.size) v1 XSC := by rw [eS]; exact below_put hkC _ 0 hHeld
            clear eS
            refine hK.out _ _ hBC (fun hNew => ?_)
            clear hK K hHeld
            have hHeld := hNew
            clear hNew
            try simp only [Act.put]
            refine wpAnyH_take (i := 14) (v := .bool TB) rfl (by kernel_rfl) (by kernel_rfl) (by kernel_rfl) (fun _ _ _ h => h) (Or.inl ⟨by rfl, ?_⟩) (by assumption) ?_
            · intro wx hSw; obtain ⟨hcS, hfS⟩ := bcellN hSw; go_simp
            try simp only [Act.put, List.setIfInBounds_toArray, List.set_cons_zero, List.set_cons_succ, List.getElem_toArray, List.getElem_cons_zero, List.getElem_cons_succ]
            refine wpAnyH_done (by kernel_rfl) ?_ _
            go_wp2
            go_meet
            case rel => exact ⟨C, rfl, rfl, hPC, ⟨by omega, hPC.1⟩, hHeld⟩
        · go_simp
          obtain ⟨XC, eA⟩ : ∃ X, X = xt.alloc (.cells #[.int .i64 0, .int .i64 0, .int .i64 0, .int .i64 0, .int .i64 0, .int .i64 0, .int .i64 0, .int .i64 0, .int .i64 0, .int .i64 0, .int .i64 0, .int .i64 0, .int .i64 0, .int .i64 0, .int .i64 0, .int .i64 0, .int .i64 0, .int .i64 0, .int .i64 0, .int .i64 0, .int .i64 0, .int .i64 0, .int .i64 0, .int .i64 0, .int .i64 0] 62) := ⟨_, rfl⟩
          rw [← eA]
          have hbA : Below xt.heap.size xt XC := by rw [eA]; exact (Below.refl _ _).alloc (Nat.le_refl _) _
          have hZC : Bk XC xt.heap.size [.int .i64 0, .int .i64 0, .int .i64 0, .int .i64 0, .int .i64 0, .int .i64 0, .int .i64 0, .int .i64 0, .int .i64 0, .int .i64 0, .int .i64 0, .int .i64 0, .int .i64 0, .int .i64 0, .int .i64 0, .int .i64 0, .int .i64 0, .int .i64 0, .int .i64 0, .int .i64 0, .int .i64 0, .int .i64 0, .int .i64 0, .int .i64 0, .int .i64 0] := by rw [eA]; exact bk_new xt 62 [.int .i64 0, .int .i64 0, .int .i64 0, .int .i64 0, .int .i64 0, .int .i64 0, .int .i64 0, .int .i64 0, .int .i64 0, .int .i64 0, .int .i64 0, .int .i64 0, .int .i64 0, .int .i64 0, .int .i64 0, .int .i64 0, .int .i64 0, .int .i64 0, .int .i64 0, .int .i64 0, .int .i64 0, .int .i64 0, .int .i64 0, .int .i64 0, .int .i64 0]
          have hzAC1 : XC.heap.size ≤ xt.heap.size + 1 := by rw [eA]; simp
          have hzAC2 : xt.heap.size + 1 ≤ XC.heap.size := by rw [eA]; simp
          clear eA
          replace hC := hC.below hbA
          have hsz_XC := hbA.size
          refine hK.out _ _ (bthenN hHeld (by omega) hbA) (fun hNew => ?_)
          clear hK K hHeld
          have hHeld := hNew
          clear hNew
          try simp only [Act.put, List.setIfInBounds_toArray, List.set_cons_zero, List.set_cons_succ, List.getElem_toArray, List.getElem_cons_zero, List.getElem_cons_succ]
          clear hbA
          obtain ⟨C, eC⟩ : ∃ g, g = xt.heap.size := ⟨_, rfl⟩
          rw [← eC] at hZC ⊢
          have eC1 : C ≤ xt.heap.size := by omega
          have eC2 : xt.heap.size ≤ C := by omega
          clear eC
          refine wpAnyH_ready (rs := [5]) (by kernel_rfl) (by simp) ?_
          refine (AllReadyH.cons rfl (fun K hK => ?_) AllReadyH.nil)
          go_simp
          go_wp2_with fail
          refine (toTab _ TT HV.out _ (HT.out.below (bthen B6.out hHeld))).mono ?_
          rintro e xu ⟨⟨vu, rfl, hD0⟩, hxu⟩
          have hD := hD0.at
          clear hD0
          obtain ⟨uS, eS, uA, eA, rfl, dS, dA⟩ := hD
          have hD : TabAt xu (.agg #[.slice uS TT.nS eS, .slice uA TT.nA eA]) TT := ⟨uS, eS, uA, eA, rfl, dS, dA⟩
          clear dS dA
          replace hC := hC.below hxu
          replace hZC := hZC.below hxu
          have hsz_xu := hxu.size
          refine hK.out _ _ (bthenN hHeld (by omega) hxu) (fun hNew => ?_)
          clear hK K hHeld
          have hHeld := hNew
          clear hNew
          try simp only [Act.put, List.setIfInBounds_toArray, List.set_cons_zero, List.set_cons_succ, List.getElem_toArray, List.getElem_cons_zero, List.getElem_cons_succ]
          refine wpAnyH_ready (rs := [8]) (by kernel_rfl) (by simp) ?_
          refine (AllReadyH.cons rfl (fun K hK => ?_) AllReadyH.nil)
          go_simp
          go_wp2_with fail
          refine (say_spec c d _ n n Z _ _ _ _ TT sv who hwf hn2 HV.out _ hC.row hD).mono ?_
          rintro e xg ⟨rfl, hxg⟩
          rw [EM.out, ET.out]
          replace hZC := hZC.below hxg
          have hsz_xg := hxg.size
          refine hK.out _ _ (bthenN hHeld (by omega) hxg) (fun hNew => ?_)
          clear hK K hHeld
          have hHeld := hNew
          clear hNew
          try simp only [Act.put, List.setIfInBounds_toArray, List.set_cons_zero, List.set_cons_succ, List.getElem_toArray, List.getElem_cons_zero, List.getElem_cons_succ]
          refine wpAnyH_take (i := 9) (v := .tuple #[.agg #[.int .i64 (m 0), .int .i64 (m 1), .int .i64 (m 2), .int .i64 (m 3), .int .i64 (m 4), .int .i64 (m 5), .int .i64 (m 6), .int .i64 (m 7), .int .i64 (m 8), .int .i64 (m 9), .int .i64 (m 10), .int .i64 (m 11), .int .i64 (m 12), .int .i64 (m 13), .int .i64 (m 14), .int .i64 (m 15), .int .i64 (m 16), .int .i64 (m 17), .int .i64 (m 18), .int .i64 (m 19), .int .i64 (m 20), .int .i64 (m 21), .int .i64 (m 22), .int .i64 (m 23), .int .i64 (m 24)], .bool TB]) rfl (by kernel_rfl) (by kernel_rfl) (by kernel_rfl) (fun _ _ _ h => h) (Or.inl ⟨by rfl, ?_⟩) (by assumption) ?_
          · intro wx hSw; obtain ⟨hcS, hfS⟩ := bcellN hSw; go_simp
          try simp only [Act.put, List.setIfInBounds_toArray, List.set_cons_zero, List.set_cons_succ, List.getElem_toArray, List.getElem_cons_zero, List.getElem_cons_succ]
          refine wpAnyH_take (i := 10) (v := .agg #[.int .i64 (m 0), .int .i64 (m 1), .int .i64 (m 2), .int .i64 (m 3), .int .i64 (m 4), .int .i64 (m 5), .int .i64 (m 6), .int .i64 (m 7), .int .i64 (m 8), .int .i64 (m 9), .int .i64 (m 10), .int .i64 (m 11), .int .i64 (m 12), .int .i64 (m 13), .int .i64 (m 14), .int .i64 (m 15), .int .i64 (m 16), .int .i64 (m 17), .int .i64 (m 18), .int .i64 (m 19), .int .i64 (m 20), .int .i64 (m 21), .int .i64 (m 22), .int .i64 (m 23), .int .i64 (m 24)]) rfl (by kernel_rfl) (by kernel_rfl) (by kernel_rfl) (fun _ _ _ h => h) (Or.inl ⟨by rfl, ?_⟩) (by assumption) ?_
          · intro wx hSw; obtain ⟨hcS, hfS⟩ := bcellN hSw; go_simp
          try simp only [Act.put, List.setIfInBounds_toArray, List.set_cons_zero, List.set_cons_succ, List.getElem_toArray, List.getElem_cons_zero, List.getElem_cons_succ]
          refine wpAnyH_take (i := 11) (v := .bool TB) rfl (by kernel_rfl) (by kernel_rfl) (by kernel_rfl) (fun _ _ _ h => h) (Or.inl ⟨by rfl, ?_⟩) (by assumption) ?_
          · intro wx hSw; obtain ⟨hcS, hfS⟩ := bcellN hSw; go_simp
          try simp only [Act.put, List.setIfInBounds_toArray, List.set_cons_zero, List.set_cons_succ, List.getElem_toArray, List.getElem_cons_zero, List.getElem_cons_succ]
          refine wpAnyH_ready (rs := [13]) (by kernel_rfl) (by simp) ?_
          refine (AllReadyH.cons rfl (fun K hK => ?_) AllReadyH.nil)
          go_simp
          rw [store62_bk hZC rfl _ rfl (by kernel_rfl)]
          obtain ⟨XSC, eS⟩ : ∃ X, X = putL C ((#[.int .i64 (m 0), .int .i64 (m 1), .int .i64 (m 2), .int .i64 (m 3), .int .i64 (m 4), .int .i64 (m 5), .int .i64 (m 6), .int .i64 (m 7), .int .i64 (m 8), .int .i64 (m 9), .int .i64 (m 10), .int .i64 (m 11), .int .i64 (m 12), .int .i64 (m 13), .int .i64 (m 14), .int .i64 (m 15), .int .i64 (m 16), .int .i64 (m 17), .int .i64 (m 18), .int .i64 (m 19), .int .i64 (m 20), .int .i64 (m 21), .int .i64 (m 22), .int .i64 (m 23), .int .i64 (m 24)] : Array Value).toList) 0 xg := ⟨_, rfl⟩
          rw [← eS]
          have hPC : Bk XSC C [.int .i64 (m 0), .int .i64 (m 1), .int .i64 (m 2), .int .i64 (m 3), .int .i64 (m 4), .int .i64 (m 5), .int .i64 (m 6), .int .i64 (m 7), .int .i64 (m 8), .int .i64 (m 9), .int .i64 (m 10), .int .i64 (m 11), .int .i64 (m 12), .int .i64 (m 13), .int .i64 (m 14), .int .i64 (m 15), .int .i64 (m 16), .int .i64 (m 17), .int .i64 (m 18), .int .i64 (m 19), .int .i64 (m 20), .int .i64 (m 21), .int .i64 (m 22), .int .i64 (m 23), .int .i64 (m 24)] := by rw [eS]; exact bk_put hZC rfl
          have hzC2 : xg.heap.size ≤ XSC.heap.size := by rw [eS, size_put]; exact Nat.le_refl _
          have hkC : v1.heap.size ≤ C := by omega
          have hBC : Below (v1.heap.size) v1 XSC := by rw [eS]; exact below_put hkC _ 0 hHeld
          clear eS
          refine hK.out _ _ hBC (fun hNew => ?_)
          clear hK K hHeld
          have hHeld := hNew
          clear hNew
          try simp only [Act.put]
          refine wpAnyH_take (i := 14) (v := .bool TB) rfl (by kernel_rfl) (by kernel_rfl) (by kernel_rfl) (fun _ _ _ h => h) (Or.inl ⟨by rfl, ?_⟩) (by assumption) ?_
          · intro wx hSw; obtain ⟨hcS, hfS⟩ := bcellN hSw; go_simp
          try simp only [Act.put, List.setIfInBounds_toArray, List.set_cons_zero, List.set_cons_succ, List.getElem_toArray, List.getElem_cons_zero, List.getElem_cons_succ]
          refine wpAnyH_done (by kernel_rfl) ?_ _
          go_wp2
          go_meet
          case rel => exact ⟨C, rfl, rfl, hPC, ⟨by omega, hPC.1⟩, hHeld⟩
      · go_simp
        obtain ⟨XC, eA⟩ : ∃ X, X = xm.alloc (.cells #[.int .i64 0, .int .i64 0, .int .i64 0, .int .i64 0, .int .i64 0, .int .i64 0, .int .i64 0, .int .i64 0, .int .i64 0, .int .i64 0, .int .i64 0, .int .i64 0, .int .i64 0, .int .i64 0, .int .i64 0, .int .i64 0, .int .i64 0, .int .i64 0, .int .i64 0, .int .i64 0, .int .i64 0, .int .i64 0, .int .i64 0, .int .i64 0, .int .i64 0] 62) := ⟨_, rfl⟩
        rw [← eA]
        have hbA : Below xm.heap.size xm XC := by rw [eA]; exact (Below.refl _ _).alloc (Nat.le_refl _) _
        have hZC : Bk XC xm.heap.size [.int .i64 0, .int .i64 0, .int .i64 0, .int .i64 0, .int .i64 0, .int .i64 0, .int .i64 0, .int .i64 0, .int .i64 0, .int .i64 0, .int .i64 0, .int .i64 0, .int .i64 0, .int .i64 0, .int .i64 0, .int .i64 0, .int .i64 0, .int .i64 0, .int .i64 0, .int .i64 0, .int .i64 0, .int .i64 0, .int .i64 0, .int .i64 0, .int .i64 0] := by rw [eA]; exact bk_new xm 62 [.int .i64 0, .int .i64 0, .int .i64 0, .int .i64 0, .int .i64 0, .int .i64 0, .int .i64 0, .int .i64 0, .int .i64 0, .int .i64 0, .int .i64 0, .int .i64 0, .int .i64 0, .int .i64 0, .int .i64 0, .int .i64 0, .int .i64 0, .int .i64 0, .int .i64 0, .int .i64 0, .int .i64 0, .int .i64 0, .int .i64 0, .int .i64 0, .int .i64 0]
        have hzAC1 : XC.heap.size ≤ xm.heap.size + 1 := by rw [eA]; simp
        have hzAC2 : xm.heap.size + 1 ≤ XC.heap.size := by rw [eA]; simp
        clear eA
        have hsz_XC := hbA.size
        refine hK.out _ _ (bthenN hHeld (by omega) hbA) (fun hNew => ?_)
        clear hK K hHeld
        have hHeld := hNew
        clear hNew
        try simp only [Act.put, List.setIfInBounds_toArray, List.set_cons_zero, List.set_cons_succ, List.getElem_toArray, List.getElem_cons_zero, List.getElem_cons_succ]
        clear hbA
        obtain ⟨C, eC⟩ : ∃ g, g = xm.heap.size := ⟨_, rfl⟩
        rw [← eC] at hZC ⊢
        have eC1 : C ≤ xm.heap.size := by omega
        have eC2 : xm.heap.size ≤ C := by omega
        clear eC
        refine wpAnyH_ready (rs := [3]) (by kernel_rfl) (by simp) ?_
        refine (AllReadyH.cons rfl (fun K hK => ?_) AllReadyH.nil)
        go_simp
        go_wp2_with fail
        refine (toBookC a n cap Z hn2 _ (P10.row_below H0.out (bthen B6.out hHeld))).mono ?_
        rintro e xt ⟨⟨bt, rfl, hC, hbt⟩, hxt⟩
        replace hZC := hZC.below hxt
        have hsz_xt := hxt.size
        refine hK.out _ _ (bthenN hHeld (by omega) hxt) (fun hNew => ?_)
        clear hK K hHeld
        have hHeld := hNew
        clear hNew
        try simp only [Act.put, List.setIfInBounds_toArray, List.set_cons_zero, List.set_cons_succ, List.getElem_toArray, List.getElem_cons_zero, List.getElem_cons_succ]
        refine wpAnyH_ready (rs := [5]) (by kernel_rfl) (by simp) ?_
        refine (AllReadyH.cons rfl (fun K hK => ?_) AllReadyH.nil)
        go_simp
        go_wp2_with fail
        refine (toTab _ TT HV.out _ (HT.out.below (bthen B6.out hHeld))).mono ?_
        rintro e xu ⟨⟨vu, rfl, hD0⟩, hxu⟩
        have hD := hD0.at
        clear hD0
        obtain ⟨uS, eS, uA, eA, rfl, dS, dA⟩ := hD
        have hD : TabAt xu (.agg #[.slice uS TT.nS eS, .slice uA TT.nA eA]) TT := ⟨uS, eS, uA, eA, rfl, dS, dA⟩
        clear dS dA
        replace hZC := hZC.below hxu
        replace hC := hC.below hxu
        have hsz_xu := hxu.size
        refine hK.out _ _ (bthenN hHeld (by omega) hxu) (fun hNew => ?_)
        clear hK K hHeld
        have hHeld := hNew
        clear hNew
        try simp only [Act.put, List.setIfInBounds_toArray, List.set_cons_zero, List.set_cons_succ, List.getElem_toArray, List.getElem_cons_zero, List.getElem_cons_succ]
        refine wpAnyH_ready (rs := [8]) (by kernel_rfl) (by simp) ?_
        refine (AllReadyH.cons rfl (fun K hK => ?_) AllReadyH.nil)
        go_simp
        go_wp2_with fail
        refine (say_spec c d _ n n Z _ _ _ _ TT sv who hwf hn2 HV.out _ hC.row hD).mono ?_
        rintro e xg ⟨rfl, hxg⟩
        rw [EM.out, ET.out]
        replace hZC := hZC.below hxg
        have hsz_xg := hxg.size
        refine hK.out _ _ (bthenN hHeld (by omega) hxg) (fun hNew => ?_)
        clear hK K hHeld
        have hHeld := hNew
        clear hNew
        try simp only [Act.put, List.setIfInBounds_toArray, List.set_cons_zero, List.set_cons_succ, List.getElem_toArray, List.getElem_cons_zero, List.getElem_cons_succ]
        refine wpAnyH_take (i := 9) (v := .tuple #[.agg #[.int .i64 (m 0), .int .i64 (m 1), .int .i64 (m 2), .int .i64 (m 3), .int .i64 (m 4), .int .i64 (m 5), .int .i64 (m 6), .int .i64 (m 7), .int .i64 (m 8), .int .i64 (m 9), .int .i64 (m 10), .int .i64 (m 11), .int .i64 (m 12), .int .i64 (m 13), .int .i64 (m 14), .int .i64 (m 15), .int .i64 (m 16), .int .i64 (m 17), .int .i64 (m 18), .int .i64 (m 19), .int .i64 (m 20), .int .i64 (m 21), .int .i64 (m 22), .int .i64 (m 23), .int .i64 (m 24)], .bool TB]) rfl (by kernel_rfl) (by kernel_rfl) (by kernel_rfl) (fun _ _ _ h => h) (Or.inl ⟨by rfl, ?_⟩) (by assumption) ?_
        · intro wx hSw; obtain ⟨hcS, hfS⟩ := bcellN hSw; go_simp
        try simp only [Act.put, List.setIfInBounds_toArray, List.set_cons_zero, List.set_cons_succ, List.getElem_toArray, List.getElem_cons_zero, List.getElem_cons_succ]
        refine wpAnyH_take (i := 10) (v := .agg #[.int .i64 (m 0), .int .i64 (m 1), .int .i64 (m 2), .int .i64 (m 3), .int .i64 (m 4), .int .i64 (m 5), .int .i64 (m 6), .int .i64 (m 7), .int .i64 (m 8), .int .i64 (m 9), .int .i64 (m 10), .int .i64 (m 11), .int .i64 (m 12), .int .i64 (m 13), .int .i64 (m 14), .int .i64 (m 15), .int .i64 (m 16), .int .i64 (m 17), .int .i64 (m 18), .int .i64 (m 19), .int .i64 (m 20), .int .i64 (m 21), .int .i64 (m 22), .int .i64 (m 23), .int .i64 (m 24)]) rfl (by kernel_rfl) (by kernel_rfl) (by kernel_rfl) (fun _ _ _ h => h) (Or.inl ⟨by rfl, ?_⟩) (by assumption) ?_
        · intro wx hSw; obtain ⟨hcS, hfS⟩ := bcellN hSw; go_simp
        try simp only [Act.put, List.setIfInBounds_toArray, List.set_cons_zero, List.set_cons_succ, List.getElem_toArray, List.getElem_cons_zero, List.getElem_cons_succ]
        refine wpAnyH_take (i := 11) (v := .bool TB) rfl (by kernel_rfl) (by kernel_rfl) (by kernel_rfl) (fun _ _ _ h => h) (Or.inl ⟨by rfl, ?_⟩) (by assumption) ?_
        · intro wx hSw; obtain ⟨hcS, hfS⟩ := bcellN hSw; go_simp
        try simp only [Act.put, List.setIfInBounds_toArray, List.set_cons_zero, List.set_cons_succ, List.getElem_toArray, List.getElem_cons_zero, List.getElem_cons_succ]
        refine wpAnyH_ready (rs := [13]) (by kernel_rfl) (by simp) ?_
        refine (AllReadyH.cons rfl (fun K hK => ?_) AllReadyH.nil)
        go_simp
        rw [store62_bk hZC rfl _ rfl (by kernel_rfl)]
        obtain ⟨XSC, eS⟩ : ∃ X, X = putL C ((#[.int .i64 (m 0), .int .i64 (m 1), .int .i64 (m 2), .int .i64 (m 3), .int .i64 (m 4), .int .i64 (m 5), .int .i64 (m 6), .int .i64 (m 7), .int .i64 (m 8), .int .i64 (m 9), .int .i64 (m 10), .int .i64 (m 11), .int .i64 (m 12), .int .i64 (m 13), .int .i64 (m 14), .int .i64 (m 15), .int .i64 (m 16), .int .i64 (m 17), .int .i64 (m 18), .int .i64 (m 19), .int .i64 (m 20), .int .i64 (m 21), .int .i64 (m 22), .int .i64 (m 23), .int .i64 (m 24)] : Array Value).toList) 0 xg := ⟨_, rfl⟩
        rw [← eS]
        have hPC : Bk XSC C [.int .i64 (m 0), .int .i64 (m 1), .int .i64 (m 2), .int .i64 (m 3), .int .i64 (m 4), .int .i64 (m 5), .int .i64 (m 6), .int .i64 (m 7), .int .i64 (m 8), .int .i64 (m 9), .int .i64 (m 10), .int .i64 (m 11), .int .i64 (m 12), .int .i64 (m 13), .int .i64 (m 14), .int .i64 (m 15), .int .i64 (m 16), .int .i64 (m 17), .int .i64 (m 18), .int .i64 (m 19), .int .i64 (m 20), .int .i64 (m 21), .int .i64 (m 22), .int .i64 (m 23), .int .i64 (m 24)] := by rw [eS]; exact bk_put hZC rfl
        have hzC2 : xg.heap.size ≤ XSC.heap.size := by rw [eS, size_put]; exact Nat.le_refl _
        have hkC : v1.heap.size ≤ C := by omega
        have hBC : Below (v1.heap.size) v1 XSC := by rw [eS]; exact below_put hkC _ 0 hHeld
        clear eS
        refine hK.out _ _ hBC (fun hNew => ?_)
        clear hK K hHeld
        have hHeld := hNew
        clear hNew
        try simp only [Act.put]
        refine wpAnyH_take (i := 14) (v := .bool TB) rfl (by kernel_rfl) (by kernel_rfl) (by kernel_rfl) (fun _ _ _ h => h) (Or.inl ⟨by rfl, ?_⟩) (by assumption) ?_
        · intro wx hSw; obtain ⟨hcS, hfS⟩ := bcellN hSw; go_simp
        try simp only [Act.put, List.setIfInBounds_toArray, List.set_cons_zero, List.set_cons_succ, List.getElem_toArray, List.getElem_cons_zero, List.getElem_cons_succ]
        refine wpAnyH_done (by kernel_rfl) ?_ _
        go_wp2
        go_meet
        case rel => exact ⟨C, rfl, rfl, hPC, ⟨by omega, hPC.1⟩, hHeld⟩
    · go_simp
      obtain ⟨XC, eA⟩ : ∃ X, X = X0.alloc (.cells #[.int .i64 0, .int .i64 0, .int .i64 0, .int .i64 0, .int .i64 0, .int .i64 0, .int .i64 0, .int .i64 0, .int .i64 0, .int .i64 0, .int .i64 0, .int .i64 0, .int .i64 0, .int .i64 0, .int .i64 0, .int .i64 0, .int .i64 0, .int .i64 0, .int .i64 0, .int .i64 0, .int .i64 0, .int .i64 0, .int .i64 0, .int .i64 0, .int .i64 0] 62) := ⟨_, rfl⟩
      rw [← eA]
      have hbA : Below X0.heap.size X0 XC := by rw [eA]; exact (Below.refl _ _).alloc (Nat.le_refl _) _
      have hZC : Bk XC X0.heap.size [.int .i64 0, .int .i64 0, .int .i64 0, .int .i64 0, .int .i64 0, .int .i64 0, .int .i64 0, .int .i64 0, .int .i64 0, .int .i64 0, .int .i64 0, .int .i64 0, .int .i64 0, .int .i64 0, .int .i64 0, .int .i64 0, .int .i64 0, .int .i64 0, .int .i64 0, .int .i64 0, .int .i64 0, .int .i64 0, .int .i64 0, .int .i64 0, .int .i64 0] := by rw [eA]; exact bk_new X0 62 [.int .i64 0, .int .i64 0, .int .i64 0, .int .i64 0, .int .i64 0, .int .i64 0, .int .i64 0, .int .i64 0, .int .i64 0, .int .i64 0, .int .i64 0, .int .i64 0, .int .i64 0, .int .i64 0, .int .i64 0, .int .i64 0, .int .i64 0, .int .i64 0, .int .i64 0, .int .i64 0, .int .i64 0, .int .i64 0, .int .i64 0, .int .i64 0, .int .i64 0]
      have hzAC1 : XC.heap.size ≤ X0.heap.size + 1 := by rw [eA]; simp
      have hzAC2 : X0.heap.size + 1 ≤ XC.heap.size := by rw [eA]; simp
      clear eA
      have hsz_XC := hbA.size
      refine hK.out _ _ (bthenN hHeld (by omega) hbA) (fun hNew => ?_)
      clear hK K hHeld
      have hHeld := hNew
      clear hNew
      try simp only [Act.put, List.setIfInBounds_toArray, List.set_cons_zero, List.set_cons_succ, List.getElem_toArray, List.getElem_cons_zero, List.getElem_cons_succ]
      clear hbA
      obtain ⟨C, eC⟩ : ∃ g, g = X0.heap.size := ⟨_, rfl⟩
      rw [← eC] at hZC ⊢
      have eC1 : C ≤ X0.heap.size := by omega
      have eC2 : X0.heap.size ≤ C := by omega
      clear eC
      refine wpAnyH_ready (rs := [1]) (by kernel_rfl) (by simp) ?_
      refine (AllReadyH.cons rfl (fun K hK => ?_) AllReadyH.nil)
      go_simp
      go_wp2_with fail
      refine (toMap _ _ _).mono ?_
      rintro e xm ⟨rfl, hxm⟩
      replace hZC := hZC.below hxm
      have hsz_xm := hxm.size
      refine hK.out _ _ (bthenN hHeld (by omega) hxm) (fun hNew => ?_)
      clear hK K hHeld
      have hHeld := hNew
      clear hNew
      try simp only [Act.put, List.setIfInBounds_toArray, List.set_cons_zero, List.set_cons_succ, List.getElem_toArray, List.getElem_cons_zero, List.getElem_cons_succ]
      refine wpAnyH_ready (rs := [3]) (by kernel_rfl) (by simp) ?_
      refine (AllReadyH.cons rfl (fun K hK => ?_) AllReadyH.nil)
      go_simp
      go_wp2_with fail
      refine (toBookC a n cap Z hn2 _ (P10.row_below H0.out (bthen B6.out hHeld))).mono ?_
      rintro e xt ⟨⟨bt, rfl, hC, hbt⟩, hxt⟩
      replace hZC := hZC.below hxt
      have hsz_xt := hxt.size
      refine hK.out _ _ (bthenN hHeld (by omega) hxt) (fun hNew => ?_)
      clear hK K hHeld
      have hHeld := hNew
      clear hNew
      try simp only [Act.put, List.setIfInBounds_toArray, List.set_cons_zero, List.set_cons_succ, List.getElem_toArray, List.getElem_cons_zero, List.getElem_cons_succ]
      refine wpAnyH_ready (rs := [5]) (by kernel_rfl) (by simp) ?_
      refine (AllReadyH.cons rfl (fun K hK => ?_) AllReadyH.nil)
      go_simp
      go_wp2_with fail
      refine (toTab _ TT HV.out _ (HT.out.below (bthen B6.out hHeld))).mono ?_
      rintro e xu ⟨⟨vu, rfl, hD0⟩, hxu⟩
      have hD := hD0.at
      clear hD0
      obtain ⟨uS, eS, uA, eA, rfl, dS, dA⟩ := hD
      have hD : TabAt xu (.agg #[.slice uS TT.nS eS, .slice uA TT.nA eA]) TT := ⟨uS, eS, uA, eA, rfl, dS, dA⟩
      clear dS dA
      replace hZC := hZC.below hxu
      replace hC := hC.below hxu
      have hsz_xu := hxu.size
      refine hK.out _ _ (bthenN hHeld (by omega) hxu) (fun hNew => ?_)
      clear hK K hHeld
      have hHeld := hNew
      clear hNew
      try simp only [Act.put, List.setIfInBounds_toArray, List.set_cons_zero, List.set_cons_succ, List.getElem_toArray, List.getElem_cons_zero, List.getElem_cons_succ]
      refine wpAnyH_ready (rs := [8]) (by kernel_rfl) (by simp) ?_
      refine (AllReadyH.cons rfl (fun K hK => ?_) AllReadyH.nil)
      go_simp
      go_wp2_with fail
      refine (say_spec c d _ n n Z _ _ _ _ TT sv who hwf hn2 HV.out _ hC.row hD).mono ?_
      rintro e xg ⟨rfl, hxg⟩
      rw [EM.out, ET.out]
      replace hZC := hZC.below hxg
      have hsz_xg := hxg.size
      refine hK.out _ _ (bthenN hHeld (by omega) hxg) (fun hNew => ?_)
      clear hK K hHeld
      have hHeld := hNew
      clear hNew
      try simp only [Act.put, List.setIfInBounds_toArray, List.set_cons_zero, List.set_cons_succ, List.getElem_toArray, List.getElem_cons_zero, List.getElem_cons_succ]
      refine wpAnyH_take (i := 9) (v := .tuple #[.agg #[.int .i64 (m 0), .int .i64 (m 1), .int .i64 (m 2), .int .i64 (m 3), .int .i64 (m 4), .int .i64 (m 5), .int .i64 (m 6), .int .i64 (m 7), .int .i64 (m 8), .int .i64 (m 9), .int .i64 (m 10), .int .i64 (m 11), .int .i64 (m 12), .int .i64 (m 13), .int .i64 (m 14), .int .i64 (m 15), .int .i64 (m 16), .int .i64 (m 17), .int .i64 (m 18), .int .i64 (m 19), .int .i64 (m 20), .int .i64 (m 21), .int .i64 (m 22), .int .i64 (m 23), .int .i64 (m 24)], .bool TB]) rfl (by kernel_rfl) (by kernel_rfl) (by kernel_rfl) (fun _ _ _ h => h) (Or.inl ⟨by rfl, ?_⟩) (by assumption) ?_
      · intro wx hSw; obtain ⟨hcS, hfS⟩ := bcellN hSw; go_simp
      try simp only [Act.put, List.setIfInBounds_toArray, List.set_cons_zero, List.set_cons_succ, List.getElem_toArray, List.getElem_cons_zero, List.getElem_cons_succ]
      refine wpAnyH_take (i := 10) (v := .agg #[.int .i64 (m 0), .int .i64 (m 1), .int .i64 (m 2), .int .i64 (m 3), .int .i64 (m 4), .int .i64 (m 5), .int .i64 (m 6), .int .i64 (m 7), .int .i64 (m 8), .int .i64 (m 9), .int .i64 (m 10), .int .i64 (m 11), .int .i64 (m 12), .int .i64 (m 13), .int .i64 (m 14), .int .i64 (m 15), .int .i64 (m 16), .int .i64 (m 17), .int .i64 (m 18), .int .i64 (m 19), .int .i64 (m 20), .int .i64 (m 21), .int .i64 (m 22), .int .i64 (m 23), .int .i64 (m 24)]) rfl (by kernel_rfl) (by kernel_rfl) (by kernel_rfl) (fun _ _ _ h => h) (Or.inl ⟨by rfl, ?_⟩) (by assumption) ?_
      · intro wx hSw; obtain ⟨hcS, hfS⟩ := bcellN hSw; go_simp
      try simp only [Act.put, List.setIfInBounds_toArray, List.set_cons_zero, List.set_cons_succ, List.getElem_toArray, List.getElem_cons_zero, List.getElem_cons_succ]
      refine wpAnyH_take (i := 11) (v := .bool TB) rfl (by kernel_rfl) (by kernel_rfl) (by kernel_rfl) (fun _ _ _ h => h) (Or.inl ⟨by rfl, ?_⟩) (by assumption) ?_
      · intro wx hSw; obtain ⟨hcS, hfS⟩ := bcellN hSw; go_simp
      try simp only [Act.put, List.setIfInBounds_toArray, List.set_cons_zero, List.set_cons_succ, List.getElem_toArray, List.getElem_cons_zero, List.getElem_cons_succ]
      refine wpAnyH_ready (rs := [13]) (by kernel_rfl) (by simp) ?_
      refine (AllReadyH.cons rfl (fun K hK => ?_) AllReadyH.nil)
      go_simp
      rw [store62_bk hZC rfl _ rfl (by kernel_rfl)]
      obtain ⟨XSC, eS⟩ : ∃ X, X = putL C ((#[.int .i64 (m 0), .int .i64 (m 1), .int .i64 (m 2), .int .i64 (m 3), .int .i64 (m 4), .int .i64 (m 5), .int .i64 (m 6), .int .i64 (m 7), .int .i64 (m 8), .int .i64 (m 9), .int .i64 (m 10), .int .i64 (m 11), .int .i64 (m 12), .int .i64 (m 13), .int .i64 (m 14), .int .i64 (m 15), .int .i64 (m 16), .int .i64 (m 17), .int .i64 (m 18), .int .i64 (m 19), .int .i64 (m 20), .int .i64 (m 21), .int .i64 (m 22), .int .i64 (m 23), .int .i64 (m 24)] : Array Value).toList) 0 xg := ⟨_, rfl⟩
      rw [← eS]
      have hPC : Bk XSC C [.int .i64 (m 0), .int .i64 (m 1), .int .i64 (m 2), .int .i64 (m 3), .int .i64 (m 4), .int .i64 (m 5), .int .i64 (m 6), .int .i64 (m 7), .int .i64 (m 8), .int .i64 (m 9), .int .i64 (m 10), .int .i64 (m 11), .int .i64 (m 12), .int .i64 (m 13), .int .i64 (m 14), .int .i64 (m 15), .int .i64 (m 16), .int .i64 (m 17), .int .i64 (m 18), .int .i64 (m 19), .int .i64 (m 20), .int .i64 (m 21), .int .i64 (m 22), .int .i64 (m 23), .int .i64 (m 24)] := by rw [eS]; exact bk_put hZC rfl
      have hzC2 : xg.heap.size ≤ XSC.heap.size := by rw [eS, size_put]; exact Nat.le_refl _
      have hkC : v1.heap.size ≤ C := by omega
      have hBC : Below (v1.heap.size) v1 XSC := by rw [eS]; exact below_put hkC _ 0 hHeld
      clear eS
      refine hK.out _ _ hBC (fun hNew => ?_)
      clear hK K hHeld
      have hHeld := hNew
      clear hNew
      try simp only [Act.put]
      refine wpAnyH_take (i := 14) (v := .bool TB) rfl (by kernel_rfl) (by kernel_rfl) (by kernel_rfl) (fun _ _ _ h => h) (Or.inl ⟨by rfl, ?_⟩) (by assumption) ?_
      · intro wx hSw; obtain ⟨hcS, hfS⟩ := bcellN hSw; go_simp
      try simp only [Act.put, List.setIfInBounds_toArray, List.set_cons_zero, List.set_cons_succ, List.getElem_toArray, List.getElem_cons_zero, List.getElem_cons_succ]
      refine wpAnyH_done (by kernel_rfl) ?_ _
      go_wp2
      go_meet
      case rel => exact ⟨C, rfl, rfl, hPC, ⟨by omega, hPC.1⟩, hHeld⟩
  case rest =>
    obtain ⟨w2, hwn⟩ : ∃ wn, wn = wc := ⟨_, rfl⟩
    subst hwn
    obtain ⟨g1, rfl, rfl, hG, ⟨c11, c12⟩, hb⟩ := hcut
    have y_w2 : v1.heap.size ≤ w2.heap.size := hb.size
    have B7 : Hid (Below w.heap.size w w2) := bthen B6.out hb
    have M7 : Hid (Bk w2 w.heap.size [.int .i64 c, .int .i64 d]) := M6.out.below hb
    have A7 : Hid (Bk w2 (w.heap.size + 1) [.slice a n cap]) := A6.out.below hb
    have T7 : Hid (Bk w2 (w.heap.size + 1 + 1) [.slice aS TT.nS kS, .slice aA TT.nA kA]) := T6.out.below hb
    clear B6 M6 A6 T6
    have G1_8 : Hid (Bk w2 g1 [.int .i64 (m 0), .int .i64 (m 1), .int .i64 (m 2), .int .i64 (m 3), .int .i64 (m 4), .int .i64 (m 5), .int .i64 (m 6), .int .i64 (m 7), .int .i64 (m 8), .int .i64 (m 9), .int .i64 (m 10), .int .i64 (m 11), .int .i64 (m 12), .int .i64 (m 13), .int .i64 (m 14), .int .i64 (m 15), .int .i64 (m 16), .int .i64 (m 17), .int .i64 (m 18), .int .i64 (m 19), .int .i64 (m 20), .int .i64 (m 21), .int .i64 (m 22), .int .i64 (m 23), .int .i64 (m 24)]) := hG
    clear hG hb
    have yA0 : w2.cell? ⟨(w.heap.size + 1), 0, none⟩ = some (.slice a n cap) := (A7.out.2 0 (by simp)).1
    have hlA : (w.heap.size + 1) < w2.heap.size := A7.out.1
    go_wp2_with fail
    refine (toBookC a n cap Z hn2 _ (P10.row_below H0.out B7.out)).mono ?_
    rintro e w3 ⟨⟨bx, rfl, hC, hbx⟩, hb3⟩
    clear yA0 hlA
    have y_w3 : w2.heap.size ≤ w3.heap.size := hb3.size
    have B9 : Hid (Below w.heap.size w w3) := bthen B7.out hb3
    have M9 : Hid (Bk w3 w.heap.size [.int .i64 c, .int .i64 d]) := M7.out.below hb3
    have A9 : Hid (Bk w3 (w.heap.size + 1) [.slice a n cap]) := A7.out.below hb3
    have T9 : Hid (Bk w3 (w.heap.size + 1 + 1) [.slice aS TT.nS kS, .slice aA TT.nA kA]) := T7.out.below hb3
    have G1_9 : Hid (Bk w3 g1 [.int .i64 (m 0), .int .i64 (m 1), .int .i64 (m 2), .int .i64 (m 3), .int .i64 (m 4), .int .i64 (m 5), .int .i64 (m 6), .int .i64 (m 7), .int .i64 (m 8), .int .i64 (m 9), .int .i64 (m 10), .int .i64 (m 11), .int .i64 (m 12), .int .i64 (m 13), .int .i64 (m 14), .int .i64 (m 15), .int .i64 (m 16), .int .i64 (m 17), .int .i64 (m 18), .int .i64 (m 19), .int .i64 (m 20), .int .i64 (m 21), .int .i64 (m 22), .int .i64 (m 23), .int .i64 (m 24)]) := G1_8.out.below hb3
    clear B7 M7 A7 T7 G1_8
    clear hb3 hbx
    have C10 : Hid (Cp w3 bx n Z) := hC
    clear hC
    have yT0 : w3.cell? ⟨(w.heap.size + 1 + 1), 0, none⟩ = some (.slice aS TT.nS kS) := (T9.out.2 0 (by simp)).1
    have yT1 : w3.cell? ⟨(w.heap.size + 1 + 1), 1, none⟩ = some (.slice aA TT.nA kA) := (T9.out.2 1 (by simp)).1
    have hlT : (w.heap.size + 1 + 1) < w3.heap.size := T9.out.1
    go_wp2_with fail
    clear yT0 yT1 hlT
    obtain ⟨gx, egx⟩ : ∃ g, g = w3.heap.size := ⟨_, rfl⟩
    obtain ⟨w4, e4⟩ : ∃ wq, wq = w3.alloc (.cells #[.slice (some ⟨bx, 0, none⟩) n n] 28) := ⟨_, rfl⟩
    have hb4 : Below w3.heap.size w3 w4 := by rw [e4]; exact (Below.refl _ _).alloc (Nat.le_refl _) _
    have hG : Bk w4 gx [.slice (some ⟨bx, 0, none⟩) n n] := by rw [e4, egx]; exact bk_new w3 28 [.slice (some ⟨bx, 0, none⟩) n n]
    rw [← e4, ← egx]
    clear e4 egx
    have y_w4 : w3.heap.size ≤ w4.heap.size := hb4.size
    have B11 : Hid (Below w.heap.size w w4) := bthen B9.out hb4
    have M11 : Hid (Bk w4 w.heap.size [.int .i64 c, .int .i64 d]) := M9.out.below hb4
    have A11 : Hid (Bk w4 (w.heap.size + 1) [.slice a n cap]) := A9.out.below hb4
    have T11 : Hid (Bk w4 (w.heap.size + 1 + 1) [.slice aS TT.nS kS, .slice aA TT.nA kA]) := T9.out.below hb4
    have G1_11 : Hid (Bk w4 g1 [.int .i64 (m 0), .int .i64 (m 1), .int .i64 (m 2), .int .i64 (m 3), .int .i64 (m 4), .int .i64 (m 5), .int .i64 (m 6), .int .i64 (m 7), .int .i64 (m 8), .int .i64 (m 9), .int .i64 (m 10), .int .i64 (m 11), .int .i64 (m 12), .int .i64 (m 13), .int .i64 (m 14), .int .i64 (m 15), .int .i64 (m 16), .int .i64 (m 17), .int .i64 (m 18), .int .i64 (m 19), .int .i64 (m 20), .int .i64 (m 21), .int .i64 (m 22), .int .i64 (m 23), .int .i64 (m 24)]) := G1_9.out.below hb4
    have C11 : Hid (Cp w4 bx n Z) := C10.out.below hb4
    clear B9 M9 A9 T9 G1_9 C10
    have X12 : Hid (Bk w4 gx [.slice (some ⟨bx, 0, none⟩) n n]) := hG
    clear hG hb4
    refine (toTab _ TT HV.out _ (HT.out.below B11.out)).mono ?_
    rintro e w5 ⟨⟨v5, rfl, hD0⟩, hb5⟩
    obtain ⟨dS, lS, dA, lA, rfl, rS, rA⟩ := hD0.at
    have hD : TabAt w5 (.agg #[.slice dS TT.nS lS, .slice dA TT.nA lA]) TT := ⟨dS, lS, dA, lA, rfl, rS, rA⟩
    clear hD0 rS rA
    have y_w5 : w4.heap.size ≤ w5.heap.size := hb5.size
    have B13 : Hid (Below w.heap.size w w5) := bthen B11.out hb5
    have M13 : Hid (Bk w5 w.heap.size [.int .i64 c, .int .i64 d]) := M11.out.below hb5
    have A13 : Hid (Bk w5 (w.heap.size + 1) [.slice a n cap]) := A11.out.below hb5
    have T13 : Hid (Bk w5 (w.heap.size + 1 + 1) [.slice aS TT.nS kS, .slice aA TT.nA kA]) := T11.out.below hb5
    have G1_13 : Hid (Bk w5 g1 [.int .i64 (m 0), .int .i64 (m 1), .int .i64 (m 2), .int .i64 (m 3), .int .i64 (m 4), .int .i64 (m 5), .int .i64 (m 6), .int .i64 (m 7), .int .i64 (m 8), .int .i64 (m 9), .int .i64 (m 10), .int .i64 (m 11), .int .i64 (m 12), .int .i64 (m 13), .int .i64 (m 14), .int .i64 (m 15), .int .i64 (m 16), .int .i64 (m 17), .int .i64 (m 18), .int .i64 (m 19), .int .i64 (m 20), .int .i64 (m 21), .int .i64 (m 22), .int .i64 (m 23), .int .i64 (m 24)]) := G1_11.out.below hb5
    have C13 : Hid (Cp w5 bx n Z) := C11.out.below hb5
    have X13 : Hid (Bk w5 gx [.slice (some ⟨bx, 0, none⟩) n n]) := X12.out.below hb5
    clear B11 M11 A11 T11 G1_11 C11 X12
    clear hb5
    have D14 : Hid (TabAt w5 (.agg #[.slice dS TT.nS lS, .slice dA TT.nA lA]) TT) := hD
    clear hD
    go_upto_region 11 with fail
    obtain ⟨gy, egy⟩ : ∃ g, g = w5.heap.size := ⟨_, rfl⟩
    obtain ⟨w6, e4⟩ : ∃ wq, wq = w5.alloc (.cells #[.slice dS TT.nS lS, .slice dA TT.nA lA] 65) := ⟨_, rfl⟩
    have hb4 : Below w5.heap.size w5 w6 := by rw [e4]; exact (Below.refl _ _).alloc (Nat.le_refl _) _
    have hG : Bk w6 gy [.slice dS TT.nS lS, .slice dA TT.nA lA] := by rw [e4, egy]; exact bk_new w5 65 [.slice dS TT.nS lS, .slice dA TT.nA lA]
    rw [← e4, ← egy]
    clear e4 egy
    have y_w6 : w5.heap.size ≤ w6.heap.size := hb4.size
    have B15 : Hid (Below w.heap.size w w6) := bthen B13.out hb4
    have M15 : Hid (Bk w6 w.heap.size [.int .i64 c, .int .i64 d]) := M13.out.below hb4
    have A15 : Hid (Bk w6 (w.heap.size + 1) [.slice a n cap]) := A13.out.below hb4
    have T15 : Hid (Bk w6 (w.heap.size + 1 + 1) [.slice aS TT.nS kS, .slice aA TT.nA kA]) := T13.out.below hb4
    have G1_15 : Hid (Bk w6 g1 [.int .i64 (m 0), .int .i64 (m 1), .int .i64 (m 2), .int .i64 (m 3), .int .i64 (m 4), .int .i64 (m 5), .int .i64 (m 6), .int .i64 (m 7), .int .i64 (m 8), .int .i64 (m 9), .int .i64 (m 10), .int .i64 (m 11), .int .i64 (m 12), .int .i64 (m 13), .int .i64 (m 14), .int .i64 (m 15), .int .i64 (m 16), .int .i64 (m 17), .int .i64 (m 18), .int .i64 (m 19), .int .i64 (m 20), .int .i64 (m 21), .int .i64 (m 22), .int .i64 (m 23), .int .i64 (m 24)]) := G1_13.out.below hb4
    have C15 : Hid (Cp w6 bx n Z) := C13.out.below hb4
    have X15 : Hid (Bk w6 gx [.slice (some ⟨bx, 0, none⟩) n n]) := X13.out.below hb4
    have D15 : Hid (TabAt w6 (.agg #[.slice dS TT.nS lS, .slice dA TT.nA lA]) TT) := D14.out.below hb4
    clear B13 M13 A13 T13 G1_13 C13 X13 D14
    have Y16 : Hid (Bk w6 gy [.slice dS TT.nS lS, .slice dA TT.nA lA]) := hG
    clear hG hb4
    go_cut [16, 17] (fun s t wx => ∃ g, .pointer (some ⟨g, 0, none⟩) = s ∧ .bool TB = t ∧ Bk wx g [.int .i64 (m 0), .int .i64 (m 1), .int .i64 (m 2), .int .i64 (m 3), .int .i64 (m 4), .int .i64 (m 5), .int .i64 (m 6), .int .i64 (m 7), .int .i64 (m 8), .int .i64 (m 9), .int .i64 (m 10), .int .i64 (m 11), .int .i64 (m 12), .int .i64 (m 13), .int .i64 (m 14), .int .i64 (m 15), .int .i64 (m 16), .int .i64 (m 17), .int .i64 (m 18), .int .i64 (m 19), .int .i64 (m 20), .int .i64 (m 21), .int .i64 (m 22), .int .i64 (m 23), .int .i64 (m 24)] ∧ (w6.heap.size ≤ g ∧ g < wx.heap.size) ∧ Below w6.heap.size w6 wx)
    case first =>
      have yM0 : w6.cell? ⟨w.heap.size, 0, none⟩ = some (.int .i64 c) := (M15.out.2 0 (by simp)).1
      have yM1 : w6.cell? ⟨w.heap.size, 1, none⟩ = some (.int .i64 d) := (M15.out.2 1 (by simp)).1
      have hlM : w.heap.size < w6.heap.size := M15.out.1
      have yX0 : w6.cell? ⟨gx, 0, none⟩ = some (.slice (some ⟨bx, 0, none⟩) n n) := (X15.out.2 0 (by simp)).1
      have hlX : gx < w6.heap.size := X15.out.1
      have yY0 : w6.cell? ⟨gy, 0, none⟩ = some (.slice dS TT.nS lS) := (Y16.out.2 0 (by simp)).1
      have yY1 : w6.cell? ⟨gy, 1, none⟩ = some (.slice dA TT.nA lA) := (Y16.out.2 1 (by simp)).1
      have hlY : gy < w6.heap.size := Y16.out.1
      refine wp_region_held_drew (S := fun w' => Below (w6.heap.size) w6 w') (by kernel_rfl) ((Below.refl _ _).drew) ?_
      intro hHeld
      obtain ⟨X0, hX0⟩ : ∃ X, X = w6.drew := ⟨_, rfl⟩
      have hz0 : w6.heap.size ≤ X0.heap.size := by rw [hX0]; exact Nat.le_refl _
      rw [← hX0] at hHeld ⊢
      clear hX0
      refine wpAnyH_take (i := 0) (v := .agg #[.int .i64 c, .int .i64 d]) rfl (by kernel_rfl) (by kernel_rfl) (by kernel_rfl) (fun _ _ _ h => h) (Or.inl ⟨by rfl, ?_⟩) (by assumption) ?_
      · intro wx hSw; obtain ⟨hcS, hfS⟩ := bcellN hSw; go_simp
      try simp only [Act.put, List.setIfInBounds_toArray, List.set_cons_zero, List.set_cons_succ, List.getElem_toArray, List.getElem_cons_zero]
      refine wpAnyH_take (i := 2) (v := .agg #[.slice (some ⟨bx, 0, none⟩) n n]) rfl (by kernel_rfl) (by kernel_rfl) (by kernel_rfl) (fun _ _ _ h => h) (Or.inl ⟨by rfl, ?_⟩) (by assumption) ?_
      · intro wx hSw; obtain ⟨hcS, hfS⟩ := bcellN hSw; go_simp
      try simp only [Act.put, List.setIfInBounds_toArray, List.set_cons_zero, List.set_cons_succ, List.getElem_toArray, List.getElem_cons_zero, List.getElem_cons_succ]
      refine wpAnyH_take (i := 3) (v := .agg #[.slice dS TT.nS lS, .slice dA TT.nA lA]) rfl (by kernel_rfl) (by kernel_rfl) (by kernel_rfl) (fun _ _ _ h => h) (Or.inl ⟨by rfl, ?_⟩) (by assumption) ?_
      · intro wx hSw; obtain ⟨hcS, hfS⟩ := bcellN hSw; go_simp
      try simp only [Act.put, List.setIfInBounds_toArray, List.set_cons_zero, List.set_cons_succ, List.getElem_toArray, List.getElem_cons_zero, List.getElem_cons_succ]
      refine wpAnyH_take (i := 4) (v := .int .i64 sv) rfl (by kernel_rfl) (by kernel_rfl) (by kernel_rfl) (fun _ _ _ h => h) (Or.inl ⟨by rfl, ?_⟩) (by assumption) ?_
      · intro wx hSw; obtain ⟨hcS, hfS⟩ := bcellN hSw; go_simp
      try simp only [Act.put, List.setIfInBounds_toArray, List.set_cons_zero, List.set_cons_succ, List.getElem_toArray, List.getElem_cons_zero, List.getElem_cons_succ]
      refine wpAnyH_take (i := 5) (v := .int .i64 who) rfl (by kernel_rfl) (by kernel_rfl) (by kernel_rfl) (fun _ _ _ h => h) (Or.inl ⟨by rfl, ?_⟩) (by assumption) ?_
      · intro wx hSw; obtain ⟨hcS, hfS⟩ := bcellN hSw; go_simp
      try simp only [Act.put, List.setIfInBounds_toArray, List.set_cons_zero, List.set_cons_succ, List.getElem_toArray, List.getElem_cons_zero, List.getElem_cons_succ]
      refine wpAnyH_ready (rs := [1, 10]) (by kernel_rfl) (by simp) ?_
      refine (AllReadyH.cons rfl (fun K hK => ?_) (AllReadyH.cons rfl (fun K hK => ?_) AllReadyH.nil))
      · go_simp
        go_wp2_with fail
        refine (toMap _ _ _).mono ?_
        rintro e xm ⟨rfl, hxm⟩
        have hsz_xm := hxm.size
        refine hK.out _ _ (bthenN hHeld (by omega) hxm) (fun hNew => ?_)
        clear hK K hHeld
        have hHeld := hNew
        clear hNew
        try simp only [Act.put, List.setIfInBounds_toArray, List.set_cons_zero, List.set_cons_succ, List.getElem_toArray, List.getElem_cons_zero, List.getElem_cons_succ]
        refine wpAnyH_ready (rs := [6, 10]) (by kernel_rfl) (by simp) ?_
        refine (AllReadyH.cons rfl (fun K hK => ?_) (AllReadyH.cons rfl (fun K hK => ?_) AllReadyH.nil))
        · go_simp
          go_wp2_with fail
          refine (say_impl c d _ n n Z _ _ _ _ TT sv who hwf hn2 HV.out _ (C15.out.below hHeld).row (D15.out.below hHeld)).mono ?_
          rintro e xg ⟨rfl, hxg⟩
          rw [EM.out, ET.out]
          have hsz_xg := hxg.size
          refine hK.out _ _ (bthenN hHeld (by omega) hxg) (fun hNew => ?_)
          clear hK K hHeld
          have hHeld := hNew
          clear hNew
          try simp only [Act.put, List.setIfInBounds_toArray, List.set_cons_zero, List.set_cons_succ, List.getElem_toArray, List.getElem_cons_zero, List.getElem_cons_succ]
          refine wpAnyH_take (i := 7) (v := .tuple #[.agg #[.int .i64 (m 0), .int .i64 (m 1), .int .i64 (m 2), .int .i64 (m 3), .int .i64 (m 4), .int .i64 (m 5), .int .i64 (m 6), .int .i64 (m 7), .int .i64 (m 8), .int .i64 (m 9), .int .i64 (m 10), .int .i64 (m 11), .int .i64 (m 12), .int .i64 (m 13), .int .i64 (m 14), .int .i64 (m 15), .int .i64 (m 16), .int .i64 (m 17), .int .i64 (m 18), .int .i64 (m 19), .int .i64 (m 20), .int .i64 (m 21), .int .i64 (m 22), .int .i64 (m 23), .int .i64 (m 24)], .bool TB]) rfl (by kernel_rfl) (by kernel_rfl) (by kernel_rfl) (fun _ _ _ h => h) (Or.inl ⟨by rfl, ?_⟩) (by assumption) ?_
          · intro wx hSw; obtain ⟨hcS, hfS⟩ := bcellN hSw; go_simp
          try simp only [Act.put, List.setIfInBounds_toArray, List.set_cons_zero, List.set_cons_succ, List.getElem_toArray, List.getElem_cons_zero, List.getElem_cons_succ]
          refine wpAnyH_take (i := 8) (v := .agg #[.int .i64 (m 0), .int .i64 (m 1), .int .i64 (m 2), .int .i64 (m 3), .int .i64 (m 4), .int .i64 (m 5), .int .i64 (m 6), .int .i64 (m 7), .int .i64 (m 8), .int .i64 (m 9), .int .i64 (m 10), .int .i64 (m 11), .int .i64 (m 12), .int .i64 (m 13), .int .i64 (m 14), .int .i64 (m 15), .int .i64 (m 16), .int .i64 (m 17), .int .i64 (m 18), .int .i64 (m 19), .int .i64 (m 20), .int .i64 (m 21), .int .i64 (m 22), .int .i64 (m 23), .int .i64 (m 24)]) rfl (by kernel_rfl) (by kernel_rfl) (by kernel_rfl) (fun _ _ _ h => h) (Or.inl ⟨by rfl, ?_⟩) (by assumption) ?_
          · intro wx hSw; obtain ⟨hcS, hfS⟩ := bcellN hSw; go_simp
          try simp only [Act.put, List.setIfInBounds_toArray, List.set_cons_zero, List.set_cons_succ, List.getElem_toArray, List.getElem_cons_zero, List.getElem_cons_succ]
          refine wpAnyH_take (i := 9) (v := .bool TB) rfl (by kernel_rfl) (by kernel_rfl) (by kernel_rfl) (fun _ _ _ h => h) (Or.inl ⟨by rfl, ?_⟩) (by assumption) ?_
          · intro wx hSw; obtain ⟨hcS, hfS⟩ := bcellN hSw; go_simp
          try simp only [Act.put, List.setIfInBounds_toArray, List.set_cons_zero, List.set_cons_succ, List.getElem_toArray, List.getElem_cons_zero, List.getElem_cons_succ]
          refine wpAnyH_ready (rs := [10]) (by kernel_rfl) (by simp) ?_
          refine (AllReadyH.cons rfl (fun K hK => ?_) AllReadyH.nil)
          go_simp
          obtain ⟨XC, eA⟩ : ∃ X, X = xg.alloc (.cells #[.int .i64 0, .int .i64 0, .int .i64 0, .int .i64 0, .int .i64 0, .int .i64 0, .int .i64 0, .int .i64 0, .int .i64 0, .int .i64 0, .int .i64 0, .int .i64 0, .int .i64 0, .int .i64 0, .int .i64 0, .int .i64 0, .int .i64 0, .int .i64 0, .int .i64 0, .int .i64 0, .int .i64 0, .int .i64 0, .int .i64 0, .int .i64 0, .int .i64 0] 62) := ⟨_, rfl⟩
          rw [← eA]
          have hbA : Below xg.heap.size xg XC := by rw [eA]; exact (Below.refl _ _).alloc (Nat.le_refl _) _
          have hZC : Bk XC xg.heap.size [.int .i64 0, .int .i64 0, .int .i64 0, .int .i64 0, .int .i64 0, .int .i64 0, .int .i64 0, .int .i64 0, .int .i64 0, .int .i64 0, .int .i64 0, .int .i64 0, .int .i64 0, .int .i64 0, .int .i64 0, .int .i64 0, .int .i64 0, .int .i64 0, .int .i64 0, .int .i64 0, .int .i64 0, .int .i64 0, .int .i64 0, .int .i64 0, .int .i64 0] := by rw [eA]; exact bk_new xg 62 [.int .i64 0, .int .i64 0, .int .i64 0, .int .i64 0, .int .i64 0, .int .i64 0, .int .i64 0, .int .i64 0, .int .i64 0, .int .i64 0, .int .i64 0, .int .i64 0, .int .i64 0, .int .i64 0, .int .i64 0, .int .i64 0, .int .i64 0, .int .i64 0, .int .i64 0, .int .i64 0, .int .i64 0, .int .i64 0, .int .i64 0, .int .i64 0, .int .i64 0]
          have hzAC1 : XC.heap.size ≤ xg.heap.size + 1 := by rw [eA]; simp
          have hzAC2 : xg.heap.size + 1 ≤ XC.heap.size := by rw [eA]; simp
          clear eA
          have hsz_XC := hbA.size
          refine hK.out _ _ (bthenN hHeld (by omega) hbA) (fun hNew => ?_)
          clear hK K hHeld
          have hHeld := hNew
          clear hNew
          try simp only [Act.put, List.setIfInBounds_toArray, List.set_cons_zero, List.set_cons_succ, List.getElem_toArray, List.getElem_cons_zero, List.getElem_cons_succ]
          clear hbA
          obtain ⟨C, eC⟩ : ∃ g, g = xg.heap.size := ⟨_, rfl⟩
          rw [← eC] at hZC ⊢
          have eC1 : C ≤ xg.heap.size := by omega
          have eC2 : xg.heap.size ≤ C := by omega
          clear eC
          refine wpAnyH_ready (rs := [11]) (by kernel_rfl) (by simp) ?_
          refine (AllReadyH.cons rfl (fun K hK => ?_) AllReadyH.nil)
          go_simp
          rw [store62_bk hZC rfl _ rfl (by kernel_rfl)]
          obtain ⟨XSC, eS⟩ : ∃ X, X = putL C ((#[.int .i64 (m 0), .int .i64 (m 1), .int .i64 (m 2), .int .i64 (m 3), .int .i64 (m 4), .int .i64 (m 5), .int .i64 (m 6), .int .i64 (m 7), .int .i64 (m 8), .int .i64 (m 9), .int .i64 (m 10), .int .i64 (m 11), .int .i64 (m 12), .int .i64 (m 13), .int .i64 (m 14), .int .i64 (m 15), .int .i64 (m 16), .int .i64 (m 17), .int .i64 (m 18), .int .i64 (m 19), .int .i64 (m 20), .int .i64 (m 21), .int .i64 (m 22), .int .i64 (m 23), .int .i64 (m 24)] : Array Value).toList) 0 XC := ⟨_, rfl⟩
          rw [← eS]
          have hPC : Bk XSC C [.int .i64 (m 0), .int .i64 (m 1), .int .i64 (m 2), .int .i64 (m 3), .int .i64 (m 4), .int .i64 (m 5), .int .i64 (m 6), .int .i64 (m 7), .int .i64 (m 8), .int .i64 (m 9), .int .i64 (m 10), .int .i64 (m 11), .int .i64 (m 12), .int .i64 (m 13), .int .i64 (m 14), .int .i64 (m 15), .int .i64 (m 16), .int .i64 (m 17), .int .i64 (m 18), .int .i64 (m 19), .int .i64 (m 20), .int .i64 (m 21), .int .i64 (m 22), .int .i64 (m 23), .int .i64 (m 24)] := by rw [eS]; exact bk_put hZC rfl
          have hzC2 : XC.heap.size ≤ XSC.heap.size := by rw [eS, size_put]; exact Nat.le_refl _
          have hkC : w6.heap.size ≤ C := by omega
          have hBC : Below (w6.heap.size) w6 XSC := by rw [eS]; exact below_put hkC _ 0 hHeld
          clear eS
          refine hK.out _ _ hBC (fun hNew => ?_)
          clear hK K hHeld
          have hHeld := hNew
          clear hNew
          try simp only [Act.put]
          refine wpAnyH_take (i := 12) (v := .bool TB) rfl (by kernel_rfl) (by kernel_rfl) (by kernel_rfl) (fun _ _ _ h => h) (Or.inl ⟨by rfl, ?_⟩) (by assumption) ?_
          · intro wx hSw; obtain ⟨hcS, hfS⟩ := bcellN hSw; go_simp
          try simp only [Act.put, List.setIfInBounds_toArray, List.set_cons_zero, List.set_cons_succ, List.getElem_toArray, List.getElem_cons_zero, List.getElem_cons_succ]
          refine wpAnyH_done (by kernel_rfl) ?_ _
          go_wp2
          go_meet
          case rel => exact ⟨C, rfl, rfl, hPC, ⟨by omega, hPC.1⟩, hHeld⟩
        · go_simp
          obtain ⟨XC, eA⟩ : ∃ X, X = xm.alloc (.cells #[.int .i64 0, .int .i64 0, .int .i64 0, .int .i64 0, .int .i64 0, .int .i64 0, .int .i64 0, .int .i64 0, .int .i64 0, .int .i64 0, .int .i64 0, .int .i64 0, .int .i64 0, .int .i64 0, .int .i64 0, .int .i64 0, .int .i64 0, .int .i64 0, .int .i64 0, .int .i64 0, .int .i64 0, .int .i64 0, .int .i64 0, .int .i64 0, .int .i64 0] 62) := ⟨_, rfl⟩
          rw [← eA]
          have hbA : Below xm.heap.size xm XC := by rw [eA]; exact (Below.refl _ _).alloc (Nat.le_refl _) _
          have hZC : Bk XC xm.heap.size [.int .i64 0, .int .i64 0, .int .i64 0, .int .i64 0, .int .i64 0, .int .i64 0, .int .i64 0, .int .i64 0, .int .i64 0, .int .i64 0, .int .i64 0, .int .i64 0, .int .i64 0, .int .i64 0, .int .i64 0, .int .i64 0, .int .i64 0, .int .i64 0, .int .i64 0, .int .i64 0, .int .i64 0, .int .i64 0, .int .i64 0, .int .i64 0, .int .i64 0] := by rw [eA]; exact bk_new xm 62 [.int .i64 0, .int .i64 0, .int .i64 0, .int .i64 0, .int .i64 0, .int .i64 0, .int .i64 0, .int .i64 0, .int .i64 0, .int .i64 0, .int .i64 0, .int .i64 0, .int .i64 0, .int .i64 0, .int .i64 0, .int .i64 0, .int .i64 0, .int .i64 0, .int .i64 0, .int .i64 0, .int .i64 0, .int .i64 0, .int .i64 0, .int .i64 0, .int .i64 0]
          have hzAC1 : XC.heap.size ≤ xm.heap.size + 1 := by rw [eA]; simp
          have hzAC2 : xm.heap.size + 1 ≤ XC.heap.size := by rw [eA]; simp
          clear eA
          have hsz_XC := hbA.size
          refine hK.out _ _ (bthenN hHeld (by omega) hbA) (fun hNew => ?_)
          clear hK K hHeld
          have hHeld := hNew
          clear hNew
          try simp only [Act.put, List.setIfInBounds_toArray, List.set_cons_zero, List.set_cons_succ, List.getElem_toArray, List.getElem_cons_zero, List.getElem_cons_succ]
          clear hbA
          obtain ⟨C, eC⟩ : ∃ g, g = xm.heap.size := ⟨_, rfl⟩
          rw [← eC] at hZC ⊢
          have eC1 : C ≤ xm.heap.size := by omega
          have eC2 : xm.heap.size ≤ C := by omega
          clear eC
          refine wpAnyH_ready (rs := [6]) (by kernel_rfl) (by simp) ?_
          refine (AllReadyH.cons rfl (fun K hK => ?_) AllReadyH.nil)
          go_simp
          go_wp2_with fail
          refine (say_impl c d _ n n Z _ _ _ _ TT sv who hwf hn2 HV.out _ (C15.out.below hHeld).row (D15.out.below hHeld)).mono ?_
          rintro e xg ⟨rfl, hxg⟩
          rw [EM.out, ET.out]
          replace hZC := hZC.below hxg
          have hsz_xg := hxg.size
          refine hK.out _ _ (bthenN hHeld (by omega) hxg) (fun hNew => ?_)
          clear hK K hHeld
          have hHeld := hNew
          clear hNew
          try simp only [Act.put, List.setIfInBounds_toArray, List.set_cons_zero, List.set_cons_succ, List.getElem_toArray, List.getElem_cons_zero, List.getElem_cons_succ]
          refine wpAnyH_take (i := 7) (v := .tuple #[.agg #[.int .i64 (m 0), .int .i64 (m 1), .int .i64 (m 2), .int .i64 (m 3), .int .i64 (m 4), .int .i64 (m 5), .int .i64 (m 6), .int .i64 (m 7), .int .i64 (m 8), .int .i64 (m 9), .int .i64 (m 10), .int .i64 (m 11), .int .i64 (m 12), .int .i64 (m 13), .int .i64 (m 14), .int .i64 (m 15), .int .i64 (m 16), .int .i64 (m 17), .int .i64 (m 18), .int .i64 (m 19), .int .i64 (m 20), .int .i64 (m 21), .int .i64 (m 22), .int .i64 (m 23), .int .i64 (m 24)], .bool TB]) rfl (by kernel_rfl) (by kernel_rfl) (by kernel_rfl) (fun _ _ _ h => h) (Or.inl ⟨by rfl, ?_⟩) (by assumption) ?_
          · intro wx hSw; obtain ⟨hcS, hfS⟩ := bcellN hSw; go_simp
          try simp only [Act.put, List.setIfInBounds_toArray, List.set_cons_zero, List.set_cons_succ, List.getElem_toArray, List.getElem_cons_zero, List.getElem_cons_succ]
          refine wpAnyH_take (i := 8) (v := .agg #[.int .i64 (m 0), .int .i64 (m 1), .int .i64 (m 2), .int .i64 (m 3), .int .i64 (m 4), .int .i64 (m 5), .int .i64 (m 6), .int .i64 (m 7), .int .i64 (m 8), .int .i64 (m 9), .int .i64 (m 10), .int .i64 (m 11), .int .i64 (m 12), .int .i64 (m 13), .int .i64 (m 14), .int .i64 (m 15), .int .i64 (m 16), .int .i64 (m 17), .int .i64 (m 18), .int .i64 (m 19), .int .i64 (m 20), .int .i64 (m 21), .int .i64 (m 22), .int .i64 (m 23), .int .i64 (m 24)]) rfl (by kernel_rfl) (by kernel_rfl) (by kernel_rfl) (fun _ _ _ h => h) (Or.inl ⟨by rfl, ?_⟩) (by assumption) ?_
          · intro wx hSw; obtain ⟨hcS, hfS⟩ := bcellN hSw; go_simp
          try simp only [Act.put, List.setIfInBounds_toArray, List.set_cons_zero, List.set_cons_succ, List.getElem_toArray, List.getElem_cons_zero, List.getElem_cons_succ]
          refine wpAnyH_take (i := 9) (v := .bool TB) rfl (by kernel_rfl) (by kernel_rfl) (by kernel_rfl) (fun _ _ _ h => h) (Or.inl ⟨by rfl, ?_⟩) (by assumption) ?_
          · intro wx hSw; obtain ⟨hcS, hfS⟩ := bcellN hSw; go_simp
          try simp only [Act.put, List.setIfInBounds_toArray, List.set_cons_zero, List.set_cons_succ, List.getElem_toArray, List.getElem_cons_zero, List.getElem_cons_succ]
          refine wpAnyH_ready (rs := [11]) (by kernel_rfl) (by simp) ?_
          refine (AllReadyH.cons rfl (fun K hK => ?_) AllReadyH.nil)
          go_simp
          rw [store62_bk hZC rfl _ rfl (by kernel_rfl)]
          obtain ⟨XSC, eS⟩ : ∃ X, X = putL C ((#[.int .i64 (m 0), .int .i64 (m 1), .int .i64 (m 2), .int .i64 (m 3), .int .i64 (m 4), .int .i64 (m 5), .int .i64 (m 6), .int .i64 (m 7), .int .i64 (m 8), .int .i64 (m 9), .int .i64 (m 10), .int .i64 (m 11), .int .i64 (m 12), .int .i64 (m 13), .int .i64 (m 14), .int .i64 (m 15), .int .i64 (m 16), .int .i64 (m 17), .int .i64 (m 18), .int .i64 (m 19), .int .i64 (m 20), .int .i64 (m 21), .int .i64 (m 22), .int .i64 (m 23), .int .i64 (m 24)] : Array Value).toList) 0 xg := ⟨_, rfl⟩
          rw [← eS]
          have hPC : Bk XSC C [.int .i64 (m 0), .int .i64 (m 1), .int .i64 (m 2), .int .i64 (m 3), .int .i64 (m 4), .int .i64 (m 5), .int .i64 (m 6), .int .i64 (m 7), .int .i64 (m 8), .int .i64 (m 9), .int .i64 (m 10), .int .i64 (m 11), .int .i64 (m 12), .int .i64 (m 13), .int .i64 (m 14), .int .i64 (m 15), .int .i64 (m 16), .int .i64 (m 17), .int .i64 (m 18), .int .i64 (m 19), .int .i64 (m 20), .int .i64 (m 21), .int .i64 (m 22), .int .i64 (m 23), .int .i64 (m 24)] := by rw [eS]; exact bk_put hZC rfl
          have hzC2 : xg.heap.size ≤ XSC.heap.size := by rw [eS, size_put]; exact Nat.le_refl _
          have hkC : w6.heap.size ≤ C := by omega
          have hBC : Below (w6.heap.size) w6 XSC := by rw [eS]; exact below_put hkC _ 0 hHeld
          clear eS
          refine hK.out _ _ hBC (fun hNew => ?_)
          clear hK K hHeld
          have hHeld := hNew
          clear hNew
          try simp only [Act.put]
          refine wpAnyH_take (i := 12) (v := .bool TB) rfl (by kernel_rfl) (by kernel_rfl) (by kernel_rfl) (fun _ _ _ h => h) (Or.inl ⟨by rfl, ?_⟩) (by assumption) ?_
          · intro wx hSw; obtain ⟨hcS, hfS⟩ := bcellN hSw; go_simp
          try simp only [Act.put, List.setIfInBounds_toArray, List.set_cons_zero, List.set_cons_succ, List.getElem_toArray, List.getElem_cons_zero, List.getElem_cons_succ]
          refine wpAnyH_done (by kernel_rfl) ?_ _
          go_wp2
          go_meet
          case rel => exact ⟨C, rfl, rfl, hPC, ⟨by omega, hPC.1⟩, hHeld⟩
      · go_simp
        obtain ⟨XC, eA⟩ : ∃ X, X = X0.alloc (.cells #[.int .i64 0, .int .i64 0, .int .i64 0, .int .i64 0, .int .i64 0, .int .i64 0, .int .i64 0, .int .i64 0, .int .i64 0, .int .i64 0, .int .i64 0, .int .i64 0, .int .i64 0, .int .i64 0, .int .i64 0, .int .i64 0, .int .i64 0, .int .i64 0, .int .i64 0, .int .i64 0, .int .i64 0, .int .i64 0, .int .i64 0, .int .i64 0, .int .i64 0] 62) := ⟨_, rfl⟩
        rw [← eA]
        have hbA : Below X0.heap.size X0 XC := by rw [eA]; exact (Below.refl _ _).alloc (Nat.le_refl _) _
        have hZC : Bk XC X0.heap.size [.int .i64 0, .int .i64 0, .int .i64 0, .int .i64 0, .int .i64 0, .int .i64 0, .int .i64 0, .int .i64 0, .int .i64 0, .int .i64 0, .int .i64 0, .int .i64 0, .int .i64 0, .int .i64 0, .int .i64 0, .int .i64 0, .int .i64 0, .int .i64 0, .int .i64 0, .int .i64 0, .int .i64 0, .int .i64 0, .int .i64 0, .int .i64 0, .int .i64 0] := by rw [eA]; exact bk_new X0 62 [.int .i64 0, .int .i64 0, .int .i64 0, .int .i64 0, .int .i64 0, .int .i64 0, .int .i64 0, .int .i64 0, .int .i64 0, .int .i64 0, .int .i64 0, .int .i64 0, .int .i64 0, .int .i64 0, .int .i64 0, .int .i64 0, .int .i64 0, .int .i64 0, .int .i64 0, .int .i64 0, .int .i64 0, .int .i64 0, .int .i64 0, .int .i64 0, .int .i64 0]
        have hzAC1 : XC.heap.size ≤ X0.heap.size + 1 := by rw [eA]; simp
        have hzAC2 : X0.heap.size + 1 ≤ XC.heap.size := by rw [eA]; simp
        clear eA
        have hsz_XC := hbA.size
        refine hK.out _ _ (bthenN hHeld (by omega) hbA) (fun hNew => ?_)
        clear hK K hHeld
        have hHeld := hNew
        clear hNew
        try simp only [Act.put, List.setIfInBounds_toArray, List.set_cons_zero, List.set_cons_succ, List.getElem_toArray, List.getElem_cons_zero, List.getElem_cons_succ]
        clear hbA
        obtain ⟨C, eC⟩ : ∃ g, g = X0.heap.size := ⟨_, rfl⟩
        rw [← eC] at hZC ⊢
        have eC1 : C ≤ X0.heap.size := by omega
        have eC2 : X0.heap.size ≤ C := by omega
        clear eC
        refine wpAnyH_ready (rs := [1]) (by kernel_rfl) (by simp) ?_
        refine (AllReadyH.cons rfl (fun K hK => ?_) AllReadyH.nil)
        go_simp
        go_wp2_with fail
        refine (toMap _ _ _).mono ?_
        rintro e xm ⟨rfl, hxm⟩
        replace hZC := hZC.below hxm
        have hsz_xm := hxm.size
        refine hK.out _ _ (bthenN hHeld (by omega) hxm) (fun hNew => ?_)
        clear hK K hHeld
        have hHeld := hNew
        clear hNew
        try simp only [Act.put, List.setIfInBounds_toArray, List.set_cons_zero, List.set_cons_succ, List.getElem_toArray, List.getElem_cons_zero, List.getElem_cons_succ]
        refine wpAnyH_ready (rs := [6]) (by kernel_rfl) (by simp) ?_
        refine (AllReadyH.cons rfl (fun K hK => ?_) AllReadyH.nil)
        go_simp
        go_wp2_with fail
        refine (say_impl c d _ n n Z _ _ _ _ TT sv who hwf hn2 HV.out _ (C15.out.below hHeld).row (D15.out.below hHeld)).mono ?_
        rintro e xg ⟨rfl, hxg⟩
        rw [EM.out, ET.out]
        replace hZC := hZC.below hxg
        have hsz_xg := hxg.size
        refine hK.out _ _ (bthenN hHeld (by omega) hxg) (fun hNew => ?_)
        clear hK K hHeld
        have hHeld := hNew
        clear hNew
        try simp only [Act.put, List.setIfInBounds_toArray, List.set_cons_zero, List.set_cons_succ, List.getElem_toArray, List.getElem_cons_zero, List.getElem_cons_succ]
        refine wpAnyH_take (i := 7) (v := .tuple #[.agg #[.int .i64 (m 0), .int .i64 (m 1), .int .i64 (m 2), .int .i64 (m 3), .int .i64 (m 4), .int .i64 (m 5), .int .i64 (m 6), .int .i64 (m 7), .int .i64 (m 8), .int .i64 (m 9), .int .i64 (m 10), .int .i64 (m 11), .int .i64 (m 12), .int .i64 (m 13), .int .i64 (m 14), .int .i64 (m 15), .int .i64 (m 16), .int .i64 (m 17), .int .i64 (m 18), .int .i64 (m 19), .int .i64 (m 20), .int .i64 (m 21), .int .i64 (m 22), .int .i64 (m 23), .int .i64 (m 24)], .bool TB]) rfl (by kernel_rfl) (by kernel_rfl) (by kernel_rfl) (fun _ _ _ h => h) (Or.inl ⟨by rfl, ?_⟩) (by assumption) ?_
        · intro wx hSw; obtain ⟨hcS, hfS⟩ := bcellN hSw; go_simp
        try simp only [Act.put, List.setIfInBounds_toArray, List.set_cons_zero, List.set_cons_succ, List.getElem_toArray, List.getElem_cons_zero, List.getElem_cons_succ]
        refine wpAnyH_take (i := 8) (v := .agg #[.int .i64 (m 0), .int .i64 (m 1), .int .i64 (m 2), .int .i64 (m 3), .int .i64 (m 4), .int .i64 (m 5), .int .i64 (m 6), .int .i64 (m 7), .int .i64 (m 8), .int .i64 (m 9), .int .i64 (m 10), .int .i64 (m 11), .int .i64 (m 12), .int .i64 (m 13), .int .i64 (m 14), .int .i64 (m 15), .int .i64 (m 16), .int .i64 (m 17), .int .i64 (m 18), .int .i64 (m 19), .int .i64 (m 20), .int .i64 (m 21), .int .i64 (m 22), .int .i64 (m 23), .int .i64 (m 24)]) rfl (by kernel_rfl) (by kernel_rfl) (by kernel_rfl) (fun _ _ _ h => h) (Or.inl ⟨by rfl, ?_⟩) (by assumption) ?_
        · intro wx hSw; obtain ⟨hcS, hfS⟩ := bcellN hSw; go_simp
        try simp only [Act.put, List.setIfInBounds_toArray, List.set_cons_zero, List.set_cons_succ, List.getElem_toArray, List.getElem_cons_zero, List.getElem_cons_succ]
        refine wpAnyH_take (i := 9) (v := .bool TB) rfl (by kernel_rfl) (by kernel_rfl) (by kernel_rfl) (fun _ _ _ h => h) (Or.inl ⟨by rfl, ?_⟩) (by assumption) ?_
        · intro wx hSw; obtain ⟨hcS, hfS⟩ := bcellN hSw; go_simp
        try simp only [Act.put, List.setIfInBounds_toArray, List.set_cons_zero, List.set_cons_succ, List.getElem_toArray, List.getElem_cons_zero, List.getElem_cons_succ]
        refine wpAnyH_ready (rs := [11]) (by kernel_rfl) (by simp) ?_
        refine (AllReadyH.cons rfl (fun K hK => ?_) AllReadyH.nil)
        go_simp
        rw [store62_bk hZC rfl _ rfl (by kernel_rfl)]
        obtain ⟨XSC, eS⟩ : ∃ X, X = putL C ((#[.int .i64 (m 0), .int .i64 (m 1), .int .i64 (m 2), .int .i64 (m 3), .int .i64 (m 4), .int .i64 (m 5), .int .i64 (m 6), .int .i64 (m 7), .int .i64 (m 8), .int .i64 (m 9), .int .i64 (m 10), .int .i64 (m 11), .int .i64 (m 12), .int .i64 (m 13), .int .i64 (m 14), .int .i64 (m 15), .int .i64 (m 16), .int .i64 (m 17), .int .i64 (m 18), .int .i64 (m 19), .int .i64 (m 20), .int .i64 (m 21), .int .i64 (m 22), .int .i64 (m 23), .int .i64 (m 24)] : Array Value).toList) 0 xg := ⟨_, rfl⟩
        rw [← eS]
        have hPC : Bk XSC C [.int .i64 (m 0), .int .i64 (m 1), .int .i64 (m 2), .int .i64 (m 3), .int .i64 (m 4), .int .i64 (m 5), .int .i64 (m 6), .int .i64 (m 7), .int .i64 (m 8), .int .i64 (m 9), .int .i64 (m 10), .int .i64 (m 11), .int .i64 (m 12), .int .i64 (m 13), .int .i64 (m 14), .int .i64 (m 15), .int .i64 (m 16), .int .i64 (m 17), .int .i64 (m 18), .int .i64 (m 19), .int .i64 (m 20), .int .i64 (m 21), .int .i64 (m 22), .int .i64 (m 23), .int .i64 (m 24)] := by rw [eS]; exact bk_put hZC rfl
        have hzC2 : xg.heap.size ≤ XSC.heap.size := by rw [eS, size_put]; exact Nat.le_refl _
        have hkC : w6.heap.size ≤ C := by omega
        have hBC : Below (w6.heap.size) w6 XSC := by rw [eS]; exact below_put hkC _ 0 hHeld
        clear eS
        refine hK.out _ _ hBC (fun hNew => ?_)
        clear hK K hHeld
        have hHeld := hNew
        clear hNew
        try simp only [Act.put]
        refine wpAnyH_take (i := 12) (v := .bool TB) rfl (by kernel_rfl) (by kernel_rfl) (by kernel_rfl) (fun _ _ _ h => h) (Or.inl ⟨by rfl, ?_⟩) (by assumption) ?_
        · intro wx hSw; obtain ⟨hcS, hfS⟩ := bcellN hSw; go_simp
        try simp only [Act.put, List.setIfInBounds_toArray, List.set_cons_zero, List.set_cons_succ, List.getElem_toArray, List.getElem_cons_zero, List.getElem_cons_succ]
        refine wpAnyH_done (by kernel_rfl) ?_ _
        go_wp2
        go_meet
        case rel => exact ⟨C, rfl, rfl, hPC, ⟨by omega, hPC.1⟩, hHeld⟩
    case rest =>
      obtain ⟨w7, hwn⟩ : ∃ wn, wn = wc := ⟨_, rfl⟩
      subst hwn
      obtain ⟨g2, rfl, rfl, hG, ⟨c21, c22⟩, hb⟩ := hcut
      have y_w7 : w6.heap.size ≤ w7.heap.size := hb.size
      have B17 : Hid (Below w.heap.size w w7) := bthen B15.out hb
      have M17 : Hid (Bk w7 w.heap.size [.int .i64 c, .int .i64 d]) := M15.out.below hb
      have A17 : Hid (Bk w7 (w.heap.size + 1) [.slice a n cap]) := A15.out.below hb
      have T17 : Hid (Bk w7 (w.heap.size + 1 + 1) [.slice aS TT.nS kS, .slice aA TT.nA kA]) := T15.out.below hb
      have G1_17 : Hid (Bk w7 g1 [.int .i64 (m 0), .int .i64 (m 1), .int .i64 (m 2), .int .i64 (m 3), .int .i64 (m 4), .int .i64 (m 5), .int .i64 (m 6), .int .i64 (m 7), .int .i64 (m 8), .int .i64 (m 9), .int .i64 (m 10), .int .i64 (m 11), .int .i64 (m 12), .int .i64 (m 13), .int .i64 (m 14), .int .i64 (m 15), .int .i64 (m 16), .int .i64 (m 17), .int .i64 (m 18), .int .i64 (m 19), .int .i64 (m 20), .int .i64 (m 21), .int .i64 (m 22), .int .i64 (m 23), .int .i64 (m 24)]) := G1_15.out.below hb
      have C17 : Hid (Cp w7 bx n Z) := C15.out.below hb
      have X17 : Hid (Bk w7 gx [.slice (some ⟨bx, 0, none⟩) n n]) := X15.out.below hb
      have D17 : Hid (TabAt w7 (.agg #[.slice dS TT.nS lS, .slice dA TT.nA lA]) TT) := D15.out.below hb
      have Y17 : Hid (Bk w7 gy [.slice dS TT.nS lS, .slice dA TT.nA lA]) := Y16.out.below hb
      clear B15 M15 A15 T15 G1_15 C15 X15 D15 Y16
      have G2_18 : Hid (Bk w7 g2 [.int .i64 (m 0), .int .i64 (m 1), .int .i64 (m 2), .int .i64 (m 3), .int .i64 (m 4), .int .i64 (m 5), .int .i64 (m 6), .int .i64 (m 7), .int .i64 (m 8), .int .i64 (m 9), .int .i64 (m 10), .int .i64 (m 11), .int .i64 (m 12), .int .i64 (m 13), .int .i64 (m 14), .int .i64 (m 15), .int .i64 (m 16), .int .i64 (m 17), .int .i64 (m 18), .int .i64 (m 19), .int .i64 (m 20), .int .i64 (m 21), .int .i64 (m 22), .int .i64 (m 23), .int .i64 (m 24)]) := hG
      clear hG hb
      have yG1_0 : w7.cell? ⟨g1, 0, none⟩ = some (.int .i64 (m 0)) := (G1_17.out.2 0 (by simp)).1
      have yG1_1 : w7.cell? ⟨g1, 1, none⟩ = some (.int .i64 (m 1)) := (G1_17.out.2 1 (by simp)).1
      have yG1_2 : w7.cell? ⟨g1, 2, none⟩ = some (.int .i64 (m 2)) := (G1_17.out.2 2 (by simp)).1
      have yG1_3 : w7.cell? ⟨g1, 3, none⟩ = some (.int .i64 (m 3)) := (G1_17.out.2 3 (by simp)).1
      have yG1_4 : w7.cell? ⟨g1, 4, none⟩ = some (.int .i64 (m 4)) := (G1_17.out.2 4 (by simp)).1
      have yG1_5 : w7.cell? ⟨g1, 5, none⟩ = some (.int .i64 (m 5)) := (G1_17.out.2 5 (by simp)).1
      have yG1_6 : w7.cell? ⟨g1, 6, none⟩ = some (.int .i64 (m 6)) := (G1_17.out.2 6 (by simp)).1
      have yG1_7 : w7.cell? ⟨g1, 7, none⟩ = some (.int .i64 (m 7)) := (G1_17.out.2 7 (by simp)).1
      have yG1_8 : w7.cell? ⟨g1, 8, none⟩ = some (.int .i64 (m 8)) := (G1_17.out.2 8 (by simp)).1
      have yG1_9 : w7.cell? ⟨g1, 9, none⟩ = some (.int .i64 (m 9)) := (G1_17.out.2 9 (by simp)).1
      have yG1_10 : w7.cell? ⟨g1, 10, none⟩ = some (.int .i64 (m 10)) := (G1_17.out.2 10 (by simp)).1
      have yG1_11 : w7.cell? ⟨g1, 11, none⟩ = some (.int .i64 (m 11)) := (G1_17.out.2 11 (by simp)).1
      have yG1_12 : w7.cell? ⟨g1, 12, none⟩ = some (.int .i64 (m 12)) := (G1_17.out.2 12 (by simp)).1
      have yG1_13 : w7.cell? ⟨g1, 13, none⟩ = some (.int .i64 (m 13)) := (G1_17.out.2 13 (by simp)).1
      have yG1_14 : w7.cell? ⟨g1, 14, none⟩ = some (.int .i64 (m 14)) := (G1_17.out.2 14 (by simp)).1
      have yG1_15 : w7.cell? ⟨g1, 15, none⟩ = some (.int .i64 (m 15)) := (G1_17.out.2 15 (by simp)).1
      have yG1_16 : w7.cell? ⟨g1, 16, none⟩ = some (.int .i64 (m 16)) := (G1_17.out.2 16 (by simp)).1
      have yG1_17 : w7.cell? ⟨g1, 17, none⟩ = some (.int .i64 (m 17)) := (G1_17.out.2 17 (by simp)).1
      have yG1_18 : w7.cell? ⟨g1, 18, none⟩ = some (.int .i64 (m 18)) := (G1_17.out.2 18 (by simp)).1
      have yG1_19 : w7.cell? ⟨g1, 19, none⟩ = some (.int .i64 (m 19)) := (G1_17.out.2 19 (by simp)).1
      have yG1_20 : w7.cell? ⟨g1, 20, none⟩ = some (.int .i64 (m 20)) := (G1_17.out.2 20 (by simp)).1
      have yG1_21 : w7.cell? ⟨g1, 21, none⟩ = some (.int .i64 (m 21)) := (G1_17.out.2 21 (by simp)).1
      have yG1_22 : w7.cell? ⟨g1, 22, none⟩ = some (.int .i64 (m 22)) := (G1_17.out.2 22 (by simp)).1
      have yG1_23 : w7.cell? ⟨g1, 23, none⟩ = some (.int .i64 (m 23)) := (G1_17.out.2 23 (by simp)).1
      have yG1_24 : w7.cell? ⟨g1, 24, none⟩ = some (.int .i64 (m 24)) := (G1_17.out.2 24 (by simp)).1
      have hlG1_ : g1 < w7.heap.size := G1_17.out.1
      have yG2_0 : w7.cell? ⟨g2, 0, none⟩ = some (.int .i64 (m 0)) := (G2_18.out.2 0 (by simp)).1
      have yG2_1 : w7.cell? ⟨g2, 1, none⟩ = some (.int .i64 (m 1)) := (G2_18.out.2 1 (by simp)).1
      have yG2_2 : w7.cell? ⟨g2, 2, none⟩ = some (.int .i64 (m 2)) := (G2_18.out.2 2 (by simp)).1
      have yG2_3 : w7.cell? ⟨g2, 3, none⟩ = some (.int .i64 (m 3)) := (G2_18.out.2 3 (by simp)).1
      have yG2_4 : w7.cell? ⟨g2, 4, none⟩ = some (.int .i64 (m 4)) := (G2_18.out.2 4 (by simp)).1
      have yG2_5 : w7.cell? ⟨g2, 5, none⟩ = some (.int .i64 (m 5)) := (G2_18.out.2 5 (by simp)).1
      have yG2_6 : w7.cell? ⟨g2, 6, none⟩ = some (.int .i64 (m 6)) := (G2_18.out.2 6 (by simp)).1
      have yG2_7 : w7.cell? ⟨g2, 7, none⟩ = some (.int .i64 (m 7)) := (G2_18.out.2 7 (by simp)).1
      have yG2_8 : w7.cell? ⟨g2, 8, none⟩ = some (.int .i64 (m 8)) := (G2_18.out.2 8 (by simp)).1
      have yG2_9 : w7.cell? ⟨g2, 9, none⟩ = some (.int .i64 (m 9)) := (G2_18.out.2 9 (by simp)).1
      have yG2_10 : w7.cell? ⟨g2, 10, none⟩ = some (.int .i64 (m 10)) := (G2_18.out.2 10 (by simp)).1
      have yG2_11 : w7.cell? ⟨g2, 11, none⟩ = some (.int .i64 (m 11)) := (G2_18.out.2 11 (by simp)).1
      have yG2_12 : w7.cell? ⟨g2, 12, none⟩ = some (.int .i64 (m 12)) := (G2_18.out.2 12 (by simp)).1
      have yG2_13 : w7.cell? ⟨g2, 13, none⟩ = some (.int .i64 (m 13)) := (G2_18.out.2 13 (by simp)).1
      have yG2_14 : w7.cell? ⟨g2, 14, none⟩ = some (.int .i64 (m 14)) := (G2_18.out.2 14 (by simp)).1
      have yG2_15 : w7.cell? ⟨g2, 15, none⟩ = some (.int .i64 (m 15)) := (G2_18.out.2 15 (by simp)).1
      have yG2_16 : w7.cell? ⟨g2, 16, none⟩ = some (.int .i64 (m 16)) := (G2_18.out.2 16 (by simp)).1
      have yG2_17 : w7.cell? ⟨g2, 17, none⟩ = some (.int .i64 (m 17)) := (G2_18.out.2 17 (by simp)).1
      have yG2_18 : w7.cell? ⟨g2, 18, none⟩ = some (.int .i64 (m 18)) := (G2_18.out.2 18 (by simp)).1
      have yG2_19 : w7.cell? ⟨g2, 19, none⟩ = some (.int .i64 (m 19)) := (G2_18.out.2 19 (by simp)).1
      have yG2_20 : w7.cell? ⟨g2, 20, none⟩ = some (.int .i64 (m 20)) := (G2_18.out.2 20 (by simp)).1
      have yG2_21 : w7.cell? ⟨g2, 21, none⟩ = some (.int .i64 (m 21)) := (G2_18.out.2 21 (by simp)).1
      have yG2_22 : w7.cell? ⟨g2, 22, none⟩ = some (.int .i64 (m 22)) := (G2_18.out.2 22 (by simp)).1
      have yG2_23 : w7.cell? ⟨g2, 23, none⟩ = some (.int .i64 (m 23)) := (G2_18.out.2 23 (by simp)).1
      have yG2_24 : w7.cell? ⟨g2, 24, none⟩ = some (.int .i64 (m 24)) := (G2_18.out.2 24 (by simp)).1
      have hlG2_ : g2 < w7.heap.size := G2_18.out.1
      go_wp2_with fail
      clear yG1_0 yG1_1 yG1_2 yG1_3 yG1_4 yG1_5 yG1_6 yG1_7 yG1_8 yG1_9 yG1_10 yG1_11 yG1_12 yG1_13 yG1_14 yG1_15 yG1_16 yG1_17 yG1_18 yG1_19 yG1_20 yG1_21 yG1_22 yG1_23 yG1_24 hlG1_ yG2_0 yG2_1 yG2_2 yG2_3 yG2_4 yG2_5 yG2_6 yG2_7 yG2_8 yG2_9 yG2_10 yG2_11 yG2_12 yG2_13 yG2_14 yG2_15 yG2_16 yG2_17 yG2_18 yG2_19 yG2_20 yG2_21 yG2_22 yG2_23 yG2_24 hlG2_
      refine (eqMsg m _).mono ?_
      rintro e w8 ⟨rfl, hb⟩
      have y_w8 : w7.heap.size ≤ w8.heap.size := hb.size
      have B19 : Hid (Below w.heap.size w w8) := bthen B17.out hb
      have M19 : Hid (Bk w8 w.heap.size [.int .i64 c, .int .i64 d]) := M17.out.below hb
      have A19 : Hid (Bk w8 (w.heap.size + 1) [.slice a n cap]) := A17.out.below hb
      have T19 : Hid (Bk w8 (w.heap.size + 1 + 1) [.slice aS TT.nS kS, .slice aA TT.nA kA]) := T17.out.below hb
      have G1_19 : Hid (Bk w8 g1 [.int .i64 (m 0), .int .i64 (m 1), .int .i64 (m 2), .int .i64 (m 3), .int .i64 (m 4), .int .i64 (m 5), .int .i64 (m 6), .int .i64 (m 7), .int .i64 (m 8), .int .i64 (m 9), .int .i64 (m 10), .int .i64 (m 11), .int .i64 (m 12), .int .i64 (m 13), .int .i64 (m 14), .int .i64 (m 15), .int .i64 (m 16), .int .i64 (m 17), .int .i64 (m 18), .int .i64 (m 19), .int .i64 (m 20), .int .i64 (m 21), .int .i64 (m 22), .int .i64 (m 23), .int .i64 (m 24)]) := G1_17.out.below hb
      have C19 : Hid (Cp w8 bx n Z) := C17.out.below hb
      have X19 : Hid (Bk w8 gx [.slice (some ⟨bx, 0, none⟩) n n]) := X17.out.below hb
      have D19 : Hid (TabAt w8 (.agg #[.slice dS TT.nS lS, .slice dA TT.nA lA]) TT) := D17.out.below hb
      have Y19 : Hid (Bk w8 gy [.slice dS TT.nS lS, .slice dA TT.nA lA]) := Y17.out.below hb
      have G2_19 : Hid (Bk w8 g2 [.int .i64 (m 0), .int .i64 (m 1), .int .i64 (m 2), .int .i64 (m 3), .int .i64 (m 4), .int .i64 (m 5), .int .i64 (m 6), .int .i64 (m 7), .int .i64 (m 8), .int .i64 (m 9), .int .i64 (m 10), .int .i64 (m 11), .int .i64 (m 12), .int .i64 (m 13), .int .i64 (m 14), .int .i64 (m 15), .int .i64 (m 16), .int .i64 (m 17), .int .i64 (m 18), .int .i64 (m 19), .int .i64 (m 20), .int .i64 (m 21), .int .i64 (m 22), .int .i64 (m 23), .int .i64 (m 24)]) := G2_18.out.below hb
      clear B17 M17 A17 T17 G1_17 C17 X17 D17 Y17 G2_18
      clear hb
      go_upto_region 14 with fail
      have yX0 : w8.cell? ⟨gx, 0, none⟩ = some (.slice (some ⟨bx, 0, none⟩) n n) := (X19.out.2 0 (by simp)).1
      have hlX : gx < w8.heap.size := X19.out.1
      have yA0 : w8.cell? ⟨(w.heap.size + 1), 0, none⟩ = some (.slice a n cap) := (A19.out.2 0 (by simp)).1
      have hlA : (w.heap.size + 1) < w8.heap.size := A19.out.1
      refine wp_region_held_drew (S := fun w' => (∀ b o, b < w8.heap.size → w'.cell? ⟨b, o, none⟩ = w8.cell? ⟨b, o, none⟩) ∧ w8.heap.size ≤ w'.heap.size) (by kernel_rfl) ⟨fun _ _ _ => rfl, Nat.le_refl _⟩ ?_
      intro hHeld
      refine wpAnyH_take (i := 0) (v := .agg #[.slice (some ⟨bx, 0, none⟩) n n]) rfl (by kernel_rfl) (by kernel_rfl) (by kernel_rfl) (fun _ _ _ h => h) (Or.inl ⟨by rfl, ?_⟩) (by assumption) ?_
      · intro wx hSw; go_simp
      try simp only [Act.put, List.setIfInBounds_toArray, List.set_cons_zero, List.set_cons_succ, List.getElem_toArray, List.getElem_cons_zero]
      refine wpAnyH_take (i := 1) (v := .agg #[.slice a n cap]) rfl (by kernel_rfl) (by kernel_rfl) (by kernel_rfl) (fun _ _ _ h => h) (Or.inl ⟨by rfl, ?_⟩) (by assumption) ?_
      · intro wx hSw; go_simp
      try simp only [Act.put, List.setIfInBounds_toArray, List.set_cons_zero, List.set_cons_succ, List.getElem_toArray, List.getElem_cons_zero, List.getElem_cons_succ]
      refine wpAnyH_ready (rs := [2]) (by kernel_rfl) (by simp) ?_
      refine AllReadyH.cons rfl (fun K hK => ?_) AllReadyH.nil
      go_simp
      go_wp2_with fail
      refine (toBookC a n cap Z hn2 _ (P10.row_below H0.out (bthen B19.out (by repeat (first | exact Below.refl _ _ | refine bthen ?_ (by assumption) | apply Below.drew))))).mono ?_
      rintro e t1 ⟨⟨b4, rfl, hC3, _⟩, ht1⟩
      refine hK.out _ _ (keepS (by assumption) ht1) (fun hNew => ?_)
      clear hK K hHeld
      have hHeld := hNew
      clear hNew
      try simp only [Act.put, List.setIfInBounds_toArray, List.set_cons_zero, List.set_cons_succ, List.getElem_toArray, List.getElem_cons_zero, List.getElem_cons_succ]
      refine wpAnyH_ready (rs := [3]) (by kernel_rfl) (by simp) ?_
      refine AllReadyH.cons rfl (fun K hK => ?_) AllReadyH.nil
      go_simp
      go_wp2_with fail
      refine (eqBook _ _ _ _ n Z (by omega) _ (P10.row_below C19.out.row (by repeat (first | exact Below.refl _ _ | refine bthen ?_ (by assumption) | apply Below.drew))) hC3.row).mono ?_
      rintro e t2 ⟨rfl, ht2⟩
      refine hK.out _ _ (keepS (by assumption) ht2) (fun hNew => ?_)
      clear hK K hHeld
      have hHeld := hNew
      clear hNew
      try simp only [Act.put, List.setIfInBounds_toArray, List.set_cons_zero, List.set_cons_succ, List.getElem_toArray, List.getElem_cons_zero, List.getElem_cons_succ]
      refine wpAnyH_take (i := 4) (v := .bool false) rfl (by kernel_rfl) (by kernel_rfl) (by kernel_rfl) (fun _ _ _ h => h) (Or.inl ⟨by rfl, ?_⟩) (by assumption) ?_
      · intro wx hSw; go_simp
      try simp only [Act.put, List.setIfInBounds_toArray, List.set_cons_zero, List.set_cons_succ, List.getElem_toArray, List.getElem_cons_zero, List.getElem_cons_succ]
      refine wpAnyH_done (by kernel_rfl) ?_ _
      clear hHeld
      have hb9 : Below w8.heap.size w8 t2 := by repeat (first | exact Below.refl _ _ | refine bthen ?_ (by assumption) | apply Below.drew)
      generalize t2 = w9 at *
      clear yX0 hlX yA0 hlA
      have y_w9 : w8.heap.size ≤ w9.heap.size := hb9.size
      have B20 : Hid (Below w.heap.size w w9) := bthen B19.out hb9
      have M20 : Hid (Bk w9 w.heap.size [.int .i64 c, .int .i64 d]) := M19.out.below hb9
      have A20 : Hid (Bk w9 (w.heap.size + 1) [.slice a n cap]) := A19.out.below hb9
      have T20 : Hid (Bk w9 (w.heap.size + 1 + 1) [.slice aS TT.nS kS, .slice aA TT.nA kA]) := T19.out.below hb9
      have G1_20 : Hid (Bk w9 g1 [.int .i64 (m 0), .int .i64 (m 1), .int .i64 (m 2), .int .i64 (m 3), .int .i64 (m 4), .int .i64 (m 5), .int .i64 (m 6), .int .i64 (m 7), .int .i64 (m 8), .int .i64 (m 9), .int .i64 (m 10), .int .i64 (m 11), .int .i64 (m 12), .int .i64 (m 13), .int .i64 (m 14), .int .i64 (m 15), .int .i64 (m 16), .int .i64 (m 17), .int .i64 (m 18), .int .i64 (m 19), .int .i64 (m 20), .int .i64 (m 21), .int .i64 (m 22), .int .i64 (m 23), .int .i64 (m 24)]) := G1_19.out.below hb9
      have C20 : Hid (Cp w9 bx n Z) := C19.out.below hb9
      have X20 : Hid (Bk w9 gx [.slice (some ⟨bx, 0, none⟩) n n]) := X19.out.below hb9
      have D20 : Hid (TabAt w9 (.agg #[.slice dS TT.nS lS, .slice dA TT.nA lA]) TT) := D19.out.below hb9
      have Y20 : Hid (Bk w9 gy [.slice dS TT.nS lS, .slice dA TT.nA lA]) := Y19.out.below hb9
      have G2_20 : Hid (Bk w9 g2 [.int .i64 (m 0), .int .i64 (m 1), .int .i64 (m 2), .int .i64 (m 3), .int .i64 (m 4), .int .i64 (m 5), .int .i64 (m 6), .int .i64 (m 7), .int .i64 (m 8), .int .i64 (m 9), .int .i64 (m 10), .int .i64 (m 11), .int .i64 (m 12), .int .i64 (m 13), .int .i64 (m 14), .int .i64 (m 15), .int .i64 (m 16), .int .i64 (m 17), .int .i64 (m 18), .int .i64 (m 19), .int .i64 (m 20), .int .i64 (m 21), .int .i64 (m 22), .int .i64 (m 23), .int .i64 (m 24)]) := G2_19.out.below hb9
      clear B19 M19 A19 T19 G1_19 C19 X19 D19 Y19 G2_19
      clear hb9 ht1 ht2 hC3
      go_upto_region 16 with fail
      have yY0 : w9.cell? ⟨gy, 0, none⟩ = some (.slice dS TT.nS lS) := (Y20.out.2 0 (by simp)).1
      have yY1 : w9.cell? ⟨gy, 1, none⟩ = some (.slice dA TT.nA lA) := (Y20.out.2 1 (by simp)).1
      have hlY : gy < w9.heap.size := Y20.out.1
      have yT0 : w9.cell? ⟨(w.heap.size + 1 + 1), 0, none⟩ = some (.slice aS TT.nS kS) := (T20.out.2 0 (by simp)).1
      have yT1 : w9.cell? ⟨(w.heap.size + 1 + 1), 1, none⟩ = some (.slice aA TT.nA kA) := (T20.out.2 1 (by simp)).1
      have hlT : (w.heap.size + 1 + 1) < w9.heap.size := T20.out.1
      refine wp_region_held_drew (S := fun w' => (∀ b o, b < w9.heap.size → w'.cell? ⟨b, o, none⟩ = w9.cell? ⟨b, o, none⟩) ∧ w9.heap.size ≤ w'.heap.size) (by kernel_rfl) ⟨fun _ _ _ => rfl, Nat.le_refl _⟩ ?_
      intro hHeld
      refine wpAnyH_take (i := 0) (v := .agg #[.slice dS TT.nS lS, .slice dA TT.nA lA]) rfl (by kernel_rfl) (by kernel_rfl) (by kernel_rfl) (fun _ _ _ h => h) (Or.inl ⟨by rfl, ?_⟩) (by assumption) ?_
      · intro wx hSw; go_simp
      try simp only [Act.put, List.setIfInBounds_toArray, List.set_cons_zero, List.set_cons_succ, List.getElem_toArray, List.getElem_cons_zero]
      refine wpAnyH_take (i := 1) (v := .agg #[.slice aS TT.nS kS, .slice aA TT.nA kA]) rfl (by kernel_rfl) (by kernel_rfl) (by kernel_rfl) (fun _ _ _ h => h) (Or.inl ⟨by rfl, ?_⟩) (by assumption) ?_
      · intro wx hSw; go_simp
      try simp only [Act.put, List.setIfInBounds_toArray, List.set_cons_zero, List.set_cons_succ, List.getElem_toArray, List.getElem_cons_zero, List.getElem_cons_succ]
      refine wpAnyH_ready (rs := [2]) (by kernel_rfl) (by simp) ?_
      refine AllReadyH.cons rfl (fun K hK => ?_) AllReadyH.nil
      go_simp
      go_wp2_with fail
      refine (toTab _ TT HV.out _ (HT.out.below (bthen B20.out (by repeat (first | exact Below.refl _ _ | refine bthen ?_ (by assumption) | apply Below.drew))))).mono ?_
      rintro e t3 ⟨⟨v6, rfl, hD3⟩, ht3⟩
      obtain ⟨uS, eS, uA, eA, rfl, qS, qA⟩ := hD3.at
      have hD4 : TabAt t3 (.agg #[.slice uS TT.nS eS, .slice uA TT.nA eA]) TT := ⟨uS, eS, uA, eA, rfl, qS, qA⟩
      clear hD3 qS qA
      refine hK.out _ _ (keepS (by assumption) ht3) (fun hNew => ?_)
      clear hK K hHeld
      have hHeld := hNew
      clear hNew
      try simp only [Act.put, List.setIfInBounds_toArray, List.set_cons_zero, List.set_cons_succ, List.getElem_toArray, List.getElem_cons_zero, List.getElem_cons_succ]
      refine wpAnyH_ready (rs := [3]) (by kernel_rfl) (by simp) ?_
      refine AllReadyH.cons rfl (fun K hK => ?_) AllReadyH.nil
      go_simp
      go_wp2_with fail
      refine (eqTab _ _ TT (HV.out.more (by decide)) _ (D20.out.below (by repeat (first | exact Below.refl _ _ | refine bthen ?_ (by assumption) | apply Below.drew))) hD4).mono ?_
      rintro e t4 ⟨rfl, ht4⟩
      refine hK.out _ _ (keepS (by assumption) ht4) (fun hNew => ?_)
      clear hK K hHeld
      have hHeld := hNew
      clear hNew
      try simp only [Act.put, List.setIfInBounds_toArray, List.set_cons_zero, List.set_cons_succ, List.getElem_toArray, List.getElem_cons_zero, List.getElem_cons_succ]
      refine wpAnyH_take (i := 4) (v := .bool false) rfl (by kernel_rfl) (by kernel_rfl) (by kernel_rfl) (fun _ _ _ h => h) (Or.inl ⟨by rfl, ?_⟩) (by assumption) ?_
      · intro wx hSw; go_simp
      try simp only [Act.put, List.setIfInBounds_toArray, List.set_cons_zero, List.set_cons_succ, List.getElem_toArray, List.getElem_cons_zero, List.getElem_cons_succ]
      refine wpAnyH_done (by kernel_rfl) ?_ _
      clear hHeld
      have hb10 : Below w9.heap.size w9 t4 := by repeat (first | exact Below.refl _ _ | refine bthen ?_ (by assumption) | apply Below.drew)
      generalize t4 = w10 at *
      clear yY0 yY1 hlY yT0 yT1 hlT
      have y_w10 : w9.heap.size ≤ w10.heap.size := hb10.size
      have B21 : Hid (Below w.heap.size w w10) := bthen B20.out hb10
      have M21 : Hid (Bk w10 w.heap.size [.int .i64 c, .int .i64 d]) := M20.out.below hb10
      have A21 : Hid (Bk w10 (w.heap.size + 1) [.slice a n cap]) := A20.out.below hb10
      have T21 : Hid (Bk w10 (w.heap.size + 1 + 1) [.slice aS TT.nS kS, .slice aA TT.nA kA]) := T20.out.below hb10
      have G1_21 : Hid (Bk w10 g1 [.int .i64 (m 0), .int .i64 (m 1), .int .i64 (m 2), .int .i64 (m 3), .int .i64 (m 4), .int .i64 (m 5), .int .i64 (m 6), .int .i64 (m 7), .int .i64 (m 8), .int .i64 (m 9), .int .i64 (m 10), .int .i64 (m 11), .int .i64 (m 12), .int .i64 (m 13), .int .i64 (m 14), .int .i64 (m 15), .int .i64 (m 16), .int .i64 (m 17), .int .i64 (m 18), .int .i64 (m 19), .int .i64 (m 20), .int .i64 (m 21), .int .i64 (m 22), .int .i64 (m 23), .int .i64 (m 24)]) := G1_20.out.below hb10
      have C21 : Hid (Cp w10 bx n Z) := C20.out.below hb10
      have X21 : Hid (Bk w10 gx [.slice (some ⟨bx, 0, none⟩) n n]) := X20.out.below hb10
      have D21 : Hid (TabAt w10 (.agg #[.slice dS TT.nS lS, .slice dA TT.nA lA]) TT) := D20.out.below hb10
      have Y21 : Hid (Bk w10 gy [.slice dS TT.nS lS, .slice dA TT.nA lA]) := Y20.out.below hb10
      have G2_21 : Hid (Bk w10 g2 [.int .i64 (m 0), .int .i64 (m 1), .int .i64 (m 2), .int .i64 (m 3), .int .i64 (m 4), .int .i64 (m 5), .int .i64 (m 6), .int .i64 (m 7), .int .i64 (m 8), .int .i64 (m 9), .int .i64 (m 10), .int .i64 (m 11), .int .i64 (m 12), .int .i64 (m 13), .int .i64 (m 14), .int .i64 (m 15), .int .i64 (m 16), .int .i64 (m 17), .int .i64 (m 18), .int .i64 (m 19), .int .i64 (m 20), .int .i64 (m 21), .int .i64 (m 22), .int .i64 (m 23), .int .i64 (m 24)]) := G2_20.out.below hb10
      clear B20 M20 A20 T20 G1_20 C20 X20 D20 Y20 G2_20
      go_wp2
      go_ret
      exact ⟨rfl, B21.out⟩
end Go.Proofs.Ytgjapdjidighlaa
