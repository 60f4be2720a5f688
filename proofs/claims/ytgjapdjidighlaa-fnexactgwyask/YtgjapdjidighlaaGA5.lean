/- The law FnExactGwyAsk; conditions: those typed. -/
import Derived.Test.YtgjapdjidighlaaGA4
import Derived.Deep.DeepCutAuto
namespace Go.Proofs.Ytgjapdjidighlaa
open Go.RowKit Go.Deep
set_option linter.unusedVariables false

theorem bthenN {n : Nat} {a b c : World} (h : Below n a b) (hn : n ≤ a.heap.size) (k : Below b.heap.size b c) : Below n a c := h.trans (k.mono (Nat.le_trans hn h.size))
theorem bcellN {n : Nat} {W w1 : World} (hb : Below n W w1) : (∀ b o, b < n → w1.cell? ⟨b, o, none⟩ = W.cell? ⟨b, o, none⟩) ∧ (∀ b o, b < n → w1.frozen? ⟨b, o, none⟩ = W.frozen? ⟨b, o, none⟩) :=
  ⟨fun b o h => hb.cell (p := ⟨b, o, none⟩) h, fun b o h => hb.frozen (p := ⟨b, o, none⟩) h⟩
def Cp (w : World) (B n : Nat) (Z : Nat → Nat → Int) : Prop := B < w.heap.size ∧ P10.OwnK w B n Z n
theorem Cp.below {w w' : World} {B n : Nat} {Z : Nat → Nat → Int} (h : Cp w B n Z) (hb : Below w.heap.size w w') : Cp w' B n Z := ⟨Nat.lt_of_lt_of_le h.1 hb.size, P10.own_below h.2 h.1 hb⟩
theorem Cp.row {w : World} {B n : Nat} {Z : Nat → Nat → Int} (h : Cp w B n Z) : P10.RowK w (some ⟨B, 0, none⟩) n Z := P10.row_of_own h.2 h.1
theorem Cp.rl {w : World} {lo B n : Nat} {Z : Nat → Nat → Int} (h : Cp w B n Z) (h1 : lo ≤ B) : P10.RL lo w.heap.size w (.slice (some ⟨B, 0, none⟩) n n) n Z := .inr ⟨B, n, rfl, h1, h.1, Nat.le_refl _, h.2⟩
theorem toBookC (a : Option Addr) (n cap : Nat) (Z : Nat → Nat → Int) (hn : n ≤ 1048576) (w : World) (h : P10.RowK w a n Z) :
    Calls Try.prog 19 #[.agg #[.slice a n cap]] w fun e w' => (∃ B, e = .returned (.agg #[.slice (some ⟨B, 0, none⟩) n n]) ∧ Cp w' B n Z ∧ w.heap.size ≤ B) ∧ Below w.heap.size w w' := by
  refine (toBook a n cap Z hn w h).mono ?_
  rintro e w' ⟨⟨B, h1, h2, h3, h4⟩, hb⟩
  exact ⟨⟨B, h1, ⟨h3, h2⟩, h4⟩, hb⟩
theorem gaN_le {c d : Int} {n : Nat} {Z : Nat → Nat → Int} : gaN c d n Z ≤ n := by unfold gaN; split <;> omega

set_option maxRecDepth 20000 in
set_option maxHeartbeats 16000000 in
theorem law_gwyAsk (c d : Int) (a : Option Addr) (n cap : Nat) (Z : Nat → Nat → Int) (hn : n ≤ maxLen) (who kind tz nn : Int) (hwf : (Lit.int .i64 who).wf = true) (w : World) (h : P10.RowK w a n Z) :
    Calls Try.prog 5 #[.agg #[.int .i64 c, .int .i64 d], .agg #[.slice a n cap], .int .i64 who, .int .i64 kind, .int .i64 tz, .int .i64 nn] w fun e w' => e = .returned (.bool true) ∧ Below w.heap.size w w' := by
  have H0 : Hid (P10.RowK w a n Z) := h
  clear h
  have hn' : (n : Int) ≤ 9223372036854775807 := by unfold maxLen at hn; omega
  clear hn
  obtain ⟨N, eN⟩ : ∃ N, gaN c d n Z = N := ⟨_, rfl⟩
  have hNn : N ≤ n := by rw [← eN]; exact gaN_le
  obtain ⟨Y, eY⟩ : ∃ Y, (askR n Z who kind tz nn).1 = Y := ⟨_, rfl⟩
  obtain ⟨TB, eT⟩ : ∃ t, gaB c d n Z who kind tz nn = t := ⟨_, rfl⟩
  have EN : Hid (gaN c d n Z = N) := eN
  have EY : Hid ((askR n Z who kind tz nn).1 = Y) := eY
  have ET : Hid (gaB c d n Z who kind tz nn = TB) := eT
  clear eN eY eT
  go_enter Try.func5, Try.ntmps5
  go_wp2_with fail
  obtain ⟨w0, e0⟩ : ∃ w0, w0 = (w.alloc (.cells #[.int .i64 c, .int .i64 d] 23)).alloc (.cells #[.slice a n cap] 41) := ⟨_, rfl⟩
  have B1 : Hid (Below w.heap.size w w0) := by rw [e0]; exact ((Below.refl _ _).alloc (by simp) _).alloc (by simp) _
  have M2 : Hid (Bk w0 w.heap.size [.int .i64 c, .int .i64 d]) := by rw [e0]; exact (bk_new w 23 [.int .i64 c, .int .i64 d]).below ((Below.refl _ _).alloc (Nat.le_refl _) _)
  have A3 : Hid (Bk w0 (w.heap.size + 1) [.slice a n cap]) := by rw [e0]; have := bk_new (w.alloc (.cells #[.int .i64 c, .int .i64 d] 23)) 41 [.slice a n cap]; rwa [show (w.alloc (.cells #[.int .i64 c, .int .i64 d] 23)).heap.size = w.heap.size + 1 by simp] at this
  rw [← e0]
  clear e0
  have y0 : w.heap.size + 1 < w0.heap.size := A3.out.1
  refine (szBook a n cap hn' _).mono ?_
  rintro e w1 ⟨rfl, hb1⟩
  have y_w1 : w0.heap.size ≤ w1.heap.size := hb1.size
  have B4 : Hid (Below w.heap.size w w1) := bthen B1.out hb1
  have M4 : Hid (Bk w1 w.heap.size [.int .i64 c, .int .i64 d]) := M2.out.below hb1
  have A4 : Hid (Bk w1 (w.heap.size + 1) [.slice a n cap]) := A3.out.below hb1
  clear B1 M2 A3
  clear hb1
  by_cases hle : (n : Int) ≤ 1048576
  rotate_left
  · rw [if_neg hle]
    go_wp2
    go_ret
    exact ⟨rfl, B4.out⟩
  rw [if_pos hle]
  have hn2 : n ≤ 1048576 := by omega
  have hle2 : ¬ 1048576 - (n : Int) < 0 := by omega
  clear hle
  go_upto_region 5 with fail
  go_cut [14, 15] (fun s t wx => ∃ g l h a1 k1, .pointer (some ⟨g, 0, none⟩) = s ∧ .bool TB = t ∧ Bk wx g [.slice a1 N k1] ∧ P10.RL l h wx (.slice a1 N k1) N Y ∧ (w1.heap.size ≤ g ∧ g < wx.heap.size ∧ w1.heap.size ≤ l ∧ l ≤ h ∧ h ≤ wx.heap.size ∧ (g < l ∨ h ≤ g)) ∧ Below w1.heap.size w1 wx)
  case first =>
    have yM0 : w1.cell? ⟨w.heap.size, 0, none⟩ = some (.int .i64 c) := (M4.out.2 0 (by simp)).1
    have yM1 : w1.cell? ⟨w.heap.size, 1, none⟩ = some (.int .i64 d) := (M4.out.2 1 (by simp)).1
    have hlM : w.heap.size < w1.heap.size := M4.out.1
    have yA0 : w1.cell? ⟨(w.heap.size + 1), 0, none⟩ = some (.slice a n cap) := (A4.out.2 0 (by simp)).1
    have hlA : (w.heap.size + 1) < w1.heap.size := A4.out.1
    refine wp_region_held_drew (S := fun w' => Below (w1.heap.size) w1 w') (by kernel_rfl) ((Below.refl _ _).drew) ?_
    intro hHeld
    obtain ⟨X0, hX0⟩ : ∃ X, X = w1.drew := ⟨_, rfl⟩
    have hz0 : w1.heap.size ≤ X0.heap.size := by rw [hX0]; exact Nat.le_refl _
    rw [← hX0] at hHeld ⊢
    clear hX0
    refine wpAnyH_take (i := 0) (v := .agg #[.int .i64 c, .int .i64 d]) rfl (by kernel_rfl) (by kernel_rfl) (by kernel_rfl) (fun _ _ _ h => h) (Or.inl ⟨by rfl, ?_⟩) (by assumption) ?_
    · intro wx hSw; obtain ⟨hcS, hfS⟩ := bcellN hSw; go_simp
    try simp only [Act.put, List.setIfInBounds_toArray, List.set_cons_zero, List.set_cons_succ, List.getElem_toArray, List.getElem_cons_zero]
    refine wpAnyH_take (i := 2) (v := .agg #[.slice a n cap]) rfl (by kernel_rfl) (by kernel_rfl) (by kernel_rfl) (fun _ _ _ h => h) (Or.inl ⟨by rfl, ?_⟩) (by assumption) ?_
    · intro wx hSw; obtain ⟨hcS, hfS⟩ := bcellN hSw; go_simp
    try simp only [Act.put, List.setIfInBounds_toArray, List.set_cons_zero, List.set_cons_succ, List.getElem_toArray, List.getElem_cons_zero, List.getElem_cons_succ]
    refine wpAnyH_take (i := 4) (v := .int .i64 who) rfl (by kernel_rfl) (by kernel_rfl) (by kernel_rfl) (fun _ _ _ h => h) (Or.inl ⟨by rfl, ?_⟩) (by assumption) ?_
    · intro wx hSw; obtain ⟨hcS, hfS⟩ := bcellN hSw; go_simp
    try simp only [Act.put, List.setIfInBounds_toArray, List.set_cons_zero, List.set_cons_succ, List.getElem_toArray, List.getElem_cons_zero, List.getElem_cons_succ]
    refine wpAnyH_take (i := 5) (v := .int .i64 kind) rfl (by kernel_rfl) (by kernel_rfl) (by kernel_rfl) (fun _ _ _ h => h) (Or.inl ⟨by rfl, ?_⟩) (by assumption) ?_
    · intro wx hSw; obtain ⟨hcS, hfS⟩ := bcellN hSw; go_simp
    try simp only [Act.put, List.setIfInBounds_toArray, List.set_cons_zero, List.set_cons_succ, List.getElem_toArray, List.getElem_cons_zero, List.getElem_cons_succ]
    refine wpAnyH_take (i := 6) (v := .int .i64 tz) rfl (by kernel_rfl) (by kernel_rfl) (by kernel_rfl) (fun _ _ _ h => h) (Or.inl ⟨by rfl, ?_⟩) (by assumption) ?_
    · intro wx hSw; obtain ⟨hcS, hfS⟩ := bcellN hSw; go_simp
    try simp only [Act.put, List.setIfInBounds_toArray, List.set_cons_zero, List.set_cons_succ, List.getElem_toArray, List.getElem_cons_zero, List.getElem_cons_succ]
    refine wpAnyH_take (i := 7) (v := .int .i64 nn) rfl (by kernel_rfl) (by kernel_rfl) (by kernel_rfl) (fun _ _ _ h => h) (Or.inl ⟨by rfl, ?_⟩) (by assumption) ?_
    · intro wx hSw; obtain ⟨hcS, hfS⟩ := bcellN hSw; go_simp
    try simp only [Act.put, List.setIfInBounds_toArray, List.set_cons_zero, List.set_cons_succ, List.getElem_toArray, List.getElem_cons_zero, List.getElem_cons_succ]
    refine wpAnyH_ready (rs := [1, 12]) (by kernel_rfl) (by simp) ?_
    refine (AllReadyH.cons rfl (fun K hK => ?_) (AllReadyH.cons rfl (fun K hK => ?_) AllReadyH.nil))
    · go_simp
      go_wp2_with fail
      refine (toMap _ _ _).mono ?_
      rintro e xm ⟨rfl, hxm⟩
      have hsz_xm := hxm.size
      refine hK.out _ _ (bthenN hHeld (by omega) hxm) (fun hNew => ?_)
      clear hK K hHeld
      have hHeld := hNew
      clear hNew
      try simp only [Act.put, List.setIfInBounds_toArray, List.set_cons_zero, List.set_cons_succ, List.getElem_toArray, List.getElem_cons_zero, List.getElem_cons_succ]
      refine wpAnyH_ready (rs := [3, 12]) (by kernel_rfl) (by simp) ?_
      refine (AllReadyH.cons rfl (fun K hK => ?_) (AllReadyH.cons rfl (fun K hK => ?_) AllReadyH.nil))
      · go_simp
        go_wp2_with fail
        refine (toBookC a n cap Z hn2 _ (P10.row_below H0.out (bthen B4.out hHeld))).mono ?_
        rintro e xt ⟨⟨bt, rfl, hC, hbt⟩, hxt⟩
        have hsz_xt := hxt.size
        refine hK.out _ _ (bthenN hHeld (by omega) hxt) (fun hNew => ?_)
        clear hK K hHeld
        have hHeld := hNew
        clear hNew
        try simp only [Act.put, List.setIfInBounds_toArray, List.set_cons_zero, List.set_cons_succ, List.getElem_toArray, List.getElem_cons_zero, List.getElem_cons_succ]
        refine wpAnyH_ready (rs := [8, 12]) (by kernel_rfl) (by simp) ?_
        refine (AllReadyH.cons rfl (fun K hK => ?_) (AllReadyH.cons rfl (fun K hK => ?_) AllReadyH.nil))
        · go_simp
          go_wp2_with fail
          refine (ask_spec c d _ 0 n n Z who kind tz nn hn2 _ hC.1 (P10.own_row hC.2)).mono ?_
          rintro e xg ⟨⟨u, rfl, hO⟩, hxg⟩
          rw [EN.out, EY.out] at hO
          rw [ET.out]
          obtain ⟨a1, k1, eu, _⟩ := hO.at
          subst eu
          obtain ⟨lg, elg⟩ : ∃ l, l = xt.heap.size := ⟨_, rfl⟩
          obtain ⟨hg, ehg⟩ : ∃ l, l = xg.heap.size := ⟨_, rfl⟩
          rw [← elg, ← ehg] at hO
          have elg1 : lg ≤ xt.heap.size := by omega
          have elg2 : xt.heap.size ≤ lg := by omega
          have ehg1 : hg ≤ xg.heap.size := by omega
          have ehg2 : xg.heap.size ≤ hg := by omega
          clear elg ehg
          replace hC := hC.below hxg
          have hsz_xg := hxg.size
          refine hK.out _ _ (bthenN hHeld (by omega) hxg) (fun hNew => ?_)
          clear hK K hHeld
          have hHeld := hNew
          clear hNew
          try simp only [Act.put, List.setIfInBounds_toArray, List.set_cons_zero, List.set_cons_succ, List.getElem_toArray, List.getElem_cons_zero, List.getElem_cons_succ]
          refine wpAnyH_take (i := 9) (v := .tuple #[.agg #[.slice a1 N k1], .bool TB]) rfl (by kernel_rfl) (by kernel_rfl) (by kernel_rfl) (fun _ _ _ h => h) (Or.inl ⟨by rfl, ?_⟩) (by assumption) ?_
          · intro wx hSw; obtain ⟨hcS, hfS⟩ := bcellN hSw; go_simp
          try simp only [Act.put, List.setIfInBounds_toArray, List.set_cons_zero, List.set_cons_succ, List.getElem_toArray, List.getElem_cons_zero, List.getElem_cons_succ]
          refine wpAnyH_take (i := 10) (v := .agg #[.slice a1 N k1]) rfl (by kernel_rfl) (by kernel_rfl) (by kernel_rfl) (fun _ _ _ h => h) (Or.inl ⟨by rfl, ?_⟩) (by assumption) ?_
          · intro wx hSw; obtain ⟨hcS, hfS⟩ := bcellN hSw; go_simp
          try simp only [Act.put, List.setIfInBounds_toArray, List.set_cons_zero, List.set_cons_succ, List.getElem_toArray, List.getElem_cons_zero, List.getElem_cons_succ]
          refine wpAnyH_take (i := 11) (v := .bool TB) rfl (by kernel_rfl) (by kernel_rfl) (by kernel_rfl) (fun _ _ _ h => h) (Or.inl ⟨by rfl, ?_⟩) (by assumption) ?_
          · intro wx hSw; obtain ⟨hcS, hfS⟩ := bcellN hSw; go_simp
          try simp only [Act.put, List.setIfInBounds_toArray, List.set_cons_zero, List.set_cons_succ, List.getElem_toArray, List.getElem_cons_zero, List.getElem_cons_succ]
          refine wpAnyH_ready (rs := [12]) (by kernel_rfl) (by simp) ?_
          refine (AllReadyH.cons rfl (fun K hK => ?_) AllReadyH.nil)
          go_simp
          obtain ⟨XC, eA⟩ : ∃ X, X = xg.alloc (.cells #[.slice none 0 0] 28) := ⟨_, rfl⟩
          rw [← eA]
          have hbA : Below xg.heap.size xg XC := by rw [eA]; exact (Below.refl _ _).alloc (Nat.le_refl _) _
          have hZC : Bk XC xg.heap.size [.slice none 0 0] := by rw [eA]; exact bk_new xg 28 [.slice none 0 0]
          have hzAC1 : XC.heap.size ≤ xg.heap.size + 1 := by rw [eA]; simp
          have hzAC2 : xg.heap.size + 1 ≤ XC.heap.size := by rw [eA]; simp
          clear eA
          replace hO := hO.below hbA
          have hsz_XC := hbA.size
          refine hK.out _ _ (bthenN hHeld (by omega) hbA) (fun hNew => ?_)
          clear hK K hHeld
          have hHeld := hNew
          clear hNew
          try simp only [Act.put, List.setIfInBounds_toArray, List.set_cons_zero, List.set_cons_succ, List.getElem_toArray, List.getElem_cons_zero, List.getElem_cons_succ]
          clear hbA
          obtain ⟨C, eC⟩ : ∃ g, g = xg.heap.size := ⟨_, rfl⟩
          rw [← eC] at hZC ⊢
          have eC1 : C ≤ xg.heap.size := by omega
          have eC2 : xg.heap.size ≤ C := by omega
          clear eC
          refine wpAnyH_ready (rs := [13]) (by kernel_rfl) (by simp) ?_
          refine (AllReadyH.cons rfl (fun K hK => ?_) AllReadyH.nil)
          have r0 := (hZC.2 0 (by simp)).1
          have f0 := (hZC.2 0 (by simp)).2
          simp only [List.getD, List.getElem?_cons_zero, Option.getD_some] at r0
          have lZC := hZC.1
          have hkC : w1.heap.size ≤ C := by omega
          go_simp
          obtain ⟨XSC, eS⟩ : ∃ X, X = (XC.setCell ⟨C, 0, none⟩ (.slice a1 N k1)) := ⟨_, rfl⟩
          rw [← eS]
          have hPC : Bk XSC C [.slice a1 N k1] := by rw [eS]; exact bk_put (l := [.slice a1 N k1]) hZC rfl
          have hzC1 : XSC.heap.size ≤ XC.heap.size := by rw [eS]; exact Nat.le_of_eq (size_put C [.slice a1 N k1] 0 XC)
          have hzC2 : XC.heap.size ≤ XSC.heap.size := by rw [eS]; exact Nat.le_of_eq (size_put C [.slice a1 N k1] 0 XC).symm
          have hmC : ∀ b, ¬ b = C → Sm XC XSC b := by rw [eS]; exact fun b hb => sm_put hb [.slice a1 N k1] 0 XC
          have hBC : Below (w1.heap.size) w1 XSC := by rw [eS]; exact below_put hkC [.slice a1 N k1] 0 hHeld
          clear eS r0 f0
          replace hO := hO.sm hzC2 (fun b q1 q2 => hmC b (by omega))
          refine hK.out _ _ hBC (fun hNew => ?_)
          clear hK K hHeld
          have hHeld := hNew
          clear hNew
          try simp only [Act.put, List.setIfInBounds_toArray, List.set_cons_zero, List.set_cons_succ, List.getElem_toArray, List.getElem_cons_zero, List.getElem_cons_succ]
          refine wpAnyH_take (i := 14) (v := .bool TB) rfl (by kernel_rfl) (by kernel_rfl) (by kernel_rfl) (fun _ _ _ h => h) (Or.inl ⟨by rfl, ?_⟩) (by assumption) ?_
          · intro wx hSw; obtain ⟨hcS, hfS⟩ := bcellN hSw; go_simp
          try simp only [Act.put, List.setIfInBounds_toArray, List.set_cons_zero, List.set_cons_succ, List.getElem_toArray, List.getElem_cons_zero, List.getElem_cons_succ]
          refine wpAnyH_done (by kernel_rfl) ?_ _
          go_wp2
          go_meet
          case rel => exact ⟨C, lg, hg, a1, k1, rfl, rfl, hPC, hO, ⟨by omega, hPC.1, by omega, by omega, by omega, by omega⟩, hHeld⟩
        · go_simp
          obtain ⟨XC, eA⟩ : ∃ X, X = xt.alloc (.cells #[.slice none 0 0] 28) := ⟨_, rfl⟩
          rw [← eA]
          have hbA : Below xt.heap.size xt XC := by rw [eA]; exact (Below.refl _ _).alloc (Nat.le_refl _) _
          have hZC : Bk XC xt.heap.size [.slice none 0 0] := by rw [eA]; exact bk_new xt 28 [.slice none 0 0]
          have hzAC1 : XC.heap.size ≤ xt.heap.size + 1 := by rw [eA]; simp
          have hzAC2 : xt.heap.size + 1 ≤ XC.heap.size := by rw [eA]; simp
          clear eA
          replace hC := hC.below hbA
          have hsz_XC := hbA.size
          refine hK.out _ _ (bthenN hHeld (by omega) hbA) (fun hNew => ?_)
          clear hK K hHeld
          have hHeld := hNew
          clear hNew
          try simp only [Act.put, List.setIfInBounds_toArray, List.set_cons_zero, List.set_cons_succ, List.getElem_toArray, List.getElem_cons_zero, List.getElem_cons_succ]
          clear hbA
          obtain ⟨C, eC⟩ : ∃ g, g = xt.heap.size := ⟨_, rfl⟩
          rw [← eC] at hZC ⊢
          have eC1 : C ≤ xt.heap.size := by omega
          have eC2 : xt.heap.size ≤ C := by omega
          clear eC
          refine wpAnyH_ready (rs := [8]) (by kernel_rfl) (by simp) ?_
          refine (AllReadyH.cons rfl (fun K hK => ?_) AllReadyH.nil)
          go_simp
          go_wp2_with fail
          refine (ask_spec c d _ 0 n n Z who kind tz nn hn2 _ hC.1 (P10.own_row hC.2)).mono ?_
          rintro e xg ⟨⟨u, rfl, hO⟩, hxg⟩
          rw [EN.out, EY.out] at hO
          rw [ET.out]
          obtain ⟨a1, k1, eu, _⟩ := hO.at
          subst eu
          obtain ⟨lg, elg⟩ : ∃ l, l = XC.heap.size := ⟨_, rfl⟩
          obtain ⟨hg, ehg⟩ : ∃ l, l = xg.heap.size := ⟨_, rfl⟩
          rw [← elg, ← ehg] at hO
          have elg1 : lg ≤ XC.heap.size := by omega
          have elg2 : XC.heap.size ≤ lg := by omega
          have ehg1 : hg ≤ xg.heap.size := by omega
          have ehg2 : xg.heap.size ≤ hg := by omega
          clear elg ehg
          replace hC := hC.below hxg
          replace hZC := hZC.below hxg
          have hsz_xg := hxg.size
          refine hK.out _ _ (bthenN hHeld (by omega) hxg) (fun hNew => ?_)
          clear hK K hHeld
          have hHeld := hNew
          clear hNew
          try simp only [Act.put, List.setIfInBounds_toArray, List.set_cons_zero, List.set_cons_succ, List.getElem_toArray, List.getElem_cons_zero, List.getElem_cons_succ]
          refine wpAnyH_take (i := 9) (v := .tuple #[.agg #[.slice a1 N k1], .bool TB]) rfl (by kernel_rfl) (by kernel_rfl) (by kernel_rfl) (fun _ _ _ h => h) (Or.inl ⟨by rfl, ?_⟩) (by assumption) ?_
          · intro wx hSw; obtain ⟨hcS, hfS⟩ := bcellN hSw; go_simp
          try simp only [Act.put, List.setIfInBounds_toArray, List.set_cons_zero, List.set_cons_succ, List.getElem_toArray, List.getElem_cons_zero, List.getElem_cons_succ]
          refine wpAnyH_take (i := 10) (v := .agg #[.slice a1 N k1]) rfl (by kernel_rfl) (by kernel_rfl) (by kernel_rfl) (fun _ _ _ h => h) (Or.inl ⟨by rfl, ?_⟩) (by assumption) ?_
          · intro wx hSw; obtain ⟨hcS, hfS⟩ := bcellN hSw; go_simp
          try simp only [Act.put, List.setIfInBounds_toArray, List.set_cons_zero, List.set_cons_succ, List.getElem_toArray, List.getElem_cons_zero, List.getElem_cons_succ]
          refine wpAnyH_take (i := 11) (v := .bool TB) rfl (by kernel_rfl) (by kernel_rfl) (by kernel_rfl) (fun _ _ _ h => h) (Or.inl ⟨by rfl, ?_⟩) (by assumption) ?_
          · intro wx hSw; obtain ⟨hcS, hfS⟩ := bcellN hSw; go_simp
          try simp only [Act.put, List.setIfInBounds_toArray, List.set_cons_zero, List.set_cons_succ, List.getElem_toArray, List.getElem_cons_zero, List.getElem_cons_succ]
          refine wpAnyH_ready (rs := [13]) (by kernel_rfl) (by simp) ?_
          refine (AllReadyH.cons rfl (fun K hK => ?_) AllReadyH.nil)
          have r0 := (hZC.2 0 (by simp)).1
          have f0 := (hZC.2 0 (by simp)).2
          simp only [List.getD, List.getElem?_cons_zero, Option.getD_some] at r0
          have lZC := hZC.1
          have hkC : w1.heap.size ≤ C := by omega
          go_simp
          obtain ⟨XSC, eS⟩ : ∃ X, X = (xg.setCell ⟨C, 0, none⟩ (.slice a1 N k1)) := ⟨_, rfl⟩
          rw [← eS]
          have hPC : Bk XSC C [.slice a1 N k1] := by rw [eS]; exact bk_put (l := [.slice a1 N k1]) hZC rfl
          have hzC1 : XSC.heap.size ≤ xg.heap.size := by rw [eS]; exact Nat.le_of_eq (size_put C [.slice a1 N k1] 0 xg)
          have hzC2 : xg.heap.size ≤ XSC.heap.size := by rw [eS]; exact Nat.le_of_eq (size_put C [.slice a1 N k1] 0 xg).symm
          have hmC : ∀ b, ¬ b = C → Sm xg XSC b := by rw [eS]; exact fun b hb => sm_put hb [.slice a1 N k1] 0 xg
          have hBC : Below (w1.heap.size) w1 XSC := by rw [eS]; exact below_put hkC [.slice a1 N k1] 0 hHeld
          clear eS r0 f0
          replace hO := hO.sm hzC2 (fun b q1 q2 => hmC b (by omega))
          refine hK.out _ _ hBC (fun hNew => ?_)
          clear hK K hHeld
          have hHeld := hNew
          clear hNew
          try simp only [Act.put, List.setIfInBounds_toArray, List.set_cons_zero, List.set_cons_succ, List.getElem_toArray, List.getElem_cons_zero, List.getElem_cons_succ]
          refine wpAnyH_take (i := 14) (v := .bool TB) rfl (by kernel_rfl) (by kernel_rfl) (by kernel_rfl) (fun _ _ _ h => h) (Or.inl ⟨by rfl, ?_⟩) (by assumption) ?_
          · intro wx hSw; obtain ⟨hcS, hfS⟩ := bcellN hSw; go_simp
          try simp only [Act.put, List.setIfInBounds_toArray, List.set_cons_zero, List.set_cons_succ, List.getElem_toArray, List.getElem_cons_zero, List.getElem_cons_succ]
          refine wpAnyH_done (by kernel_rfl) ?_ _
          go_wp2
          go_meet
          case rel => exact ⟨C, lg, hg, a1, k1, rfl, rfl, hPC, hO, ⟨by omega, hPC.1, by omega, by omega, by omega, by omega⟩, hHeld⟩
      · go_simp
        obtain ⟨XC, eA⟩ : ∃ X, X = xm.alloc (.cells #[.slice none 0 0] 28) := ⟨_, rfl⟩
        rw [← eA]
        have hbA : Below xm.heap.size xm XC := by rw [eA]; exact (Below.refl _ _).alloc (Nat.le_refl _) _
        have hZC : Bk XC xm.heap.size [.slice none 0 0] := by rw [eA]; exact bk_new xm 28 [.slice none 0 0]
        have hzAC1 : XC.heap.size ≤ xm.heap.size + 1 := by rw [eA]; simp
        have hzAC2 : xm.heap.size + 1 ≤ XC.heap.size := by rw [eA]; simp
        clear eA
        have hsz_XC := hbA.size
        refine hK.out _ _ (bthenN hHeld (by omega) hbA) (fun hNew => ?_)
        clear hK K hHeld
        have hHeld := hNew
        clear hNew
        try simp only [Act.put, List.setIfInBounds_toArray, List.set_cons_zero, List.set_cons_succ, List.getElem_toArray, List.getElem_cons_zero, List.getElem_cons_succ]
        clear hbA
        obtain ⟨C, eC⟩ : ∃ g, g = xm.heap.size := ⟨_, rfl⟩
        rw [← eC] at hZC ⊢
        have eC1 : C ≤ xm.heap.size := by omega
        have eC2 : xm.heap.size ≤ C := by omega
        clear eC
        refine wpAnyH_ready (rs := [3]) (by kernel_rfl) (by simp) ?_
        refine (AllReadyH.cons rfl (fun K hK => ?_) AllReadyH.nil)
        go_simp
        go_wp2_with fail
        refine (toBookC a n cap Z hn2 _ (P10.row_below H0.out (bthen B4.out hHeld))).mono ?_
        rintro e xt ⟨⟨bt, rfl, hC, hbt⟩, hxt⟩
        replace hZC := hZC.below hxt
        have hsz_xt := hxt.size
        refine hK.out _ _ (bthenN hHeld (by omega) hxt) (fun hNew => ?_)
        clear hK K hHeld
        have hHeld := hNew
        clear hNew
        try simp only [Act.put, List.setIfInBounds_toArray, List.set_cons_zero, List.set_cons_succ, List.getElem_toArray, List.getElem_cons_zero, List.getElem_cons_succ]
        refine wpAnyH_ready (rs := [8]) (by kernel_rfl) (by simp) ?_
        refine (AllReadyH.cons rfl (fun K hK => ?_) AllReadyH.nil)
        go_simp
        go_wp2_with fail
        refine (ask_spec c d _ 0 n n Z who kind tz nn hn2 _ hC.1 (P10.own_row hC.2)).mono ?_
        rintro e xg ⟨⟨u, rfl, hO⟩, hxg⟩
        rw [EN.out, EY.out] at hO
        rw [ET.out]
        obtain ⟨a1, k1, eu, _⟩ := hO.at
        subst eu
        obtain ⟨lg, elg⟩ : ∃ l, l = xt.heap.size := ⟨_, rfl⟩
        obtain ⟨hg, ehg⟩ : ∃ l, l = xg.heap.size := ⟨_, rfl⟩
        rw [← elg, ← ehg] at hO
        have elg1 : lg ≤ xt.heap.size := by omega
        have elg2 : xt.heap.size ≤ lg := by omega
        have ehg1 : hg ≤ xg.heap.size := by omega
        have ehg2 : xg.heap.size ≤ hg := by omega
        clear elg ehg
        replace hZC := hZC.below hxg
        replace hC := hC.below hxg
        have hsz_xg := hxg.size
        refine hK.out _ _ (bthenN hHeld (by omega) hxg) (fun hNew => ?_)
        clear hK K hHeld
        have hHeld := hNew
        clear hNew
        try simp only [Act.put, List.setIfInBounds_toArray, List.set_cons_zero, List.set_cons_succ, List.getElem_toArray, List.getElem_cons_zero, List.getElem_cons_succ]
        refine wpAnyH_take (i := 9) (v := .tuple #[.agg #[.slice a1 N k1], .bool TB]) rfl (by kernel_rfl) (by kernel_rfl) (by kernel_rfl) (fun _ _ _ h => h) (Or.inl ⟨by rfl, ?_⟩) (by assumption) ?_
        · intro wx hSw; obtain ⟨hcS, hfS⟩ := bcellN hSw; go_simp
        try simp only [Act.put, List.setIfInBounds_toArray, List.set_cons_zero, List.set_cons_succ, List.getElem_toArray, List.getElem_cons_zero, List.getElem_cons_succ]
        refine wpAnyH_take (i := 10) (v := .agg #[.slice a1 N k1]) rfl (by kernel_rfl) (by kernel_rfl) (by kernel_rfl) (fun _ _ _ h => h) (Or.inl ⟨by rfl, ?_⟩) (by assumption) ?_
        · intro wx hSw; obtain ⟨hcS, hfS⟩ := bcellN hSw; go_simp
        try simp only [Act.put, List.setIfInBounds_toArray, List.set_cons_zero, List.set_cons_succ, List.getElem_toArray, List.getElem_cons_zero, List.getElem_cons_succ]
        refine wpAnyH_take (i := 11) (v := .bool TB) rfl (by kernel_rfl) (by kernel_rfl) (by kernel_rfl) (fun _ _ _ h => h) (Or.inl ⟨by rfl, ?_⟩) (by assumption) ?_
        · intro wx hSw; obtain ⟨hcS, hfS⟩ := bcellN hSw; go_simp
        try simp only [Act.put, List.setIfInBounds_toArray, List.set_cons_zero, List.set_cons_succ, List.getElem_toArray, List.getElem_cons_zero, List.getElem_cons_succ]
        refine wpAnyH_ready (rs := [13]) (by kernel_rfl) (by simp) ?_
        refine (AllReadyH.cons rfl (fun K hK => ?_) AllReadyH.nil)
        have r0 := (hZC.2 0 (by simp)).1
        have f0 := (hZC.2 0 (by simp)).2
        simp only [List.getD, List.getElem?_cons_zero, Option.getD_some] at r0
        have lZC := hZC.1
        have hkC : w1.heap.size ≤ C := by omega
        go_simp
        obtain ⟨XSC, eS⟩ : ∃ X, X = (xg.setCell ⟨C, 0, none⟩ (.slice a1 N k1)) := ⟨_, rfl⟩
        rw [← eS]
        have hPC : Bk XSC C [.slice a1 N k1] := by rw [eS]; exact bk_put (l := [.slice a1 N k1]) hZC rfl
        have hzC1 : XSC.heap.size ≤ xg.heap.size := by rw [eS]; exact Nat.le_of_eq (size_put C [.slice a1 N k1] 0 xg)
        have hzC2 : xg.heap.size ≤ XSC.heap.size := by rw [eS]; exact Nat.le_of_eq (size_put C [.slice a1 N k1] 0 xg).symm
        have hmC : ∀ b, ¬ b = C → Sm xg XSC b := by rw [eS]; exact fun b hb => sm_put hb [.slice a1 N k1] 0 xg
        have hBC : Below (w1.heap.size) w1 XSC := by rw [eS]; exact below_put hkC [.slice a1 N k1] 0 hHeld
        clear eS r0 f0
        replace hO := hO.sm hzC2 (fun b q1 q2 => hmC b (by omega))
        refine hK.out _ _ hBC (fun hNew => ?_)
        clear hK K hHeld
        have hHeld := hNew
        clear hNew
        try simp only [Act.put, List.setIfInBounds_toArray, List.set_cons_zero, List.set_cons_succ, List.getElem_toArray, List.getElem_cons_zero, List.getElem_cons_succ]
        refine wpAnyH_take (i := 14) (v := .bool TB) rfl (by kernel_rfl) (by kernel_rfl) (by kernel_rfl) (fun _ _ _ h => h) (Or.inl ⟨by rfl, ?_⟩) (by assumption) ?_
        · intro wx hSw; obtain ⟨hcS, hfS⟩ := bcellN hSw; go_simp
        try simp only [Act.put, List.setIfInBounds_toArray, List.set_cons_zero, List.set_cons_succ, List.getElem_toArray, List.getElem_cons_zero, List.getElem_cons_succ]
        refine wpAnyH_done (by kernel_rfl) ?_ _
        go_wp2
        go_meet
        case rel => exact ⟨C, lg, hg, a1, k1, rfl, rfl, hPC, hO, ⟨by omega, hPC.1, by omega, by omega, by omega, by omega⟩, hHeld⟩
    · go_simp
      obtain ⟨XC, eA⟩ : ∃ X, X = X0.alloc (.cells #[.slice none 0 0] 28) := ⟨_, rfl⟩
      rw [← eA]
      have hbA : Below X0.heap.size X0 XC := by rw [eA]; exact (Below.refl _ _).alloc (Nat.le_refl _) _
      have hZC : Bk XC X0.heap.size [.slice none 0 0] := by rw [eA]; exact bk_new X0 28 [.slice none 0 0]
      have hzAC1 : XC.heap.size ≤ X0.heap.size + 1 := by rw [eA]; simp
      have hzAC2 : X0.heap.size + 1 ≤ XC.heap.size := by rw [eA]; simp
      clear eA
      have hsz_XC := hbA.size
      refine hK.out _ _ (bthenN hHeld (by omega) hbA) (fun hNew => ?_)
      clear hK K hHeld
      have hHeld := hNew
      clear hNew
      try simp only [Act.put, List.setIfInBounds_toArray, List.set_cons_zero, List.set_cons_succ, List.getElem_toArray, List.getElem_cons_zero, List.getElem_cons_succ]
      clear hbA
      obtain ⟨C, eC⟩ : ∃ g, g = X0.heap.size := ⟨_, rfl⟩
      rw [← eC] at hZC ⊢
      have eC1 : C ≤ X0.heap.size := by omega
      have eC2 : X0.heap.size ≤ C := by omega
      clear eC
      refine wpAnyH_ready (rs := [1]) (by kernel_rfl) (by simp) ?_
      refine (AllReadyH.cons rfl (fun K hK => ?_) AllReadyH.nil)
      go_simp
      go_wp2_with fail
      refine (toMap _ _ _).mono ?_
      rintro e xm ⟨rfl, hxm⟩
      replace hZC := hZC.below hxm
      have hsz_xm := hxm.size
      refine hK.out _ _ (bthenN hHeld (by omega) hxm) (fun hNew => ?_)
      clear hK K hHeld
      have hHeld := hNew
      clear hNew
      try simp only [Act.put, List.setIfInBounds_toArray, List.set_cons_zero, List.set_cons_succ, List.getElem_toArray, List.getElem_cons_zero, List.getElem_cons_succ]
      refine wpAnyH_ready (rs := [3]) (by kernel_rfl) (by simp) ?_
      refine (AllReadyH.cons rfl (fun K hK => ?_) AllReadyH.nil)
      go_simp
      go_wp2_with fail
      refine (toBookC a n cap Z hn2 _ (P10.row_below H0.out (bthen B4.out hHeld))).mono ?_
      rintro e xt ⟨⟨bt, rfl, hC, hbt⟩, hxt⟩
      replace hZC := hZC.below hxt
      have hsz_xt := hxt.size
      refine hK.out _ _ (bthenN hHeld (by omega) hxt) (fun hNew => ?_)
      clear hK K hHeld
      have hHeld := hNew
      clear hNew
      try simp only [Act.put, List.setIfInBounds_toArray, List.set_cons_zero, List.set_cons_succ, List.getElem_toArray, List.getElem_cons_zero, List.getElem_cons_succ]
      refine wpAnyH_ready (rs := [8]) (by kernel_rfl) (by simp) ?_
      refine (AllReadyH.cons rfl (fun K hK => ?_) AllReadyH.nil)
      go_simp
      go_wp2_with fail
      refine (ask_spec c d _ 0 n n Z who kind tz nn hn2 _ hC.1 (P10.own_row hC.2)).mono ?_
      rintro e xg ⟨⟨u, rfl, hO⟩, hxg⟩
      rw [EN.out, EY.out] at hO
      rw [ET.out]
      obtain ⟨a1, k1, eu, _⟩ := hO.at
      subst eu
      obtain ⟨lg, elg⟩ : ∃ l, l = xt.heap.size := ⟨_, rfl⟩
      obtain ⟨hg, ehg⟩ : ∃ l, l = xg.heap.size := ⟨_, rfl⟩
      rw [← elg, ← ehg] at hO
      have elg1 : lg ≤ xt.heap.size := by omega
      have elg2 : xt.heap.size ≤ lg := by omega
      have ehg1 : hg ≤ xg.heap.size := by omega
      have ehg2 : xg.heap.size ≤ hg := by omega
      clear elg ehg
      replace hZC := hZC.below hxg
      replace hC := hC.below hxg
      have hsz_xg := hxg.size
      refine hK.out _ _ (bthenN hHeld (by omega) hxg) (fun hNew => ?_)
      clear hK K hHeld
      have hHeld := hNew
      clear hNew
      try simp only [Act.put, List.setIfInBounds_toArray, List.set_cons_zero, List.set_cons_succ, List.getElem_toArray, List.getElem_cons_zero, List.getElem_cons_succ]
      refine wpAnyH_take (i := 9) (v := .tuple #[.agg #[.slice a1 N k1], .bool TB]) rfl (by kernel_rfl) (by kernel_rfl) (by kernel_rfl) (fun _ _ _ h => h) (Or.inl ⟨by rfl, ?_⟩) (by assumption) ?_
      · intro wx hSw; obtain ⟨hcS, hfS⟩ := bcellN hSw; go_simp
      try simp only [Act.put, List.setIfInBounds_toArray, List.set_cons_zero, List.set_cons_succ, List.getElem_toArray, List.getElem_cons_zero, List.getElem_cons_succ]
      refine wpAnyH_take (i := 10) (v := .agg #[.slice a1 N k1]) rfl (by kernel_rfl) (by kernel_rfl) (by kernel_rfl) (fun _ _ _ h => h) (Or.inl ⟨by rfl, ?_⟩) (by assumption) ?_
      · intro wx hSw; obtain ⟨hcS, hfS⟩ := bcellN hSw; go_simp
      try simp only [Act.put, List.setIfInBounds_toArray, List.set_cons_zero, List.set_cons_succ, List.getElem_toArray, List.getElem_cons_zero, List.getElem_cons_succ]
      refine wpAnyH_take (i := 11) (v := .bool TB) rfl (by kernel_rfl) (by kernel_rfl) (by kernel_rfl) (fun _ _ _ h => h) (Or.inl ⟨by rfl, ?_⟩) (by assumption) ?_
      · intro wx hSw; obtain ⟨hcS, hfS⟩ := bcellN hSw; go_simp
      try simp only [Act.put, List.setIfInBounds_toArray, List.set_cons_zero, List.set_cons_succ, List.getElem_toArray, List.getElem_cons_zero, List.getElem_cons_succ]
      refine wpAnyH_ready (rs := [13]) (by kernel_rfl) (by simp) ?_
      refine (AllReadyH.cons rfl (fun K hK => ?_) AllReadyH.nil)
      have r0 := (hZC.2 0 (by simp)).1
      have f0 := (hZC.2 0 (by simp)).2
      simp only [List.getD, List.getElem?_cons_zero, Option.getD_some] at r0
      have lZC := hZC.1
      have hkC : w1.heap.size ≤ C := by omega
      go_simp
      obtain ⟨XSC, eS⟩ : ∃ X, X = (xg.setCell ⟨C, 0, none⟩ (.slice a1 N k1)) := ⟨_, rfl⟩
      rw [← eS]
      have hPC : Bk XSC C [.slice a1 N k1] := by rw [eS]; exact bk_put (l := [.slice a1 N k1]) hZC rfl
      have hzC1 : XSC.heap.size ≤ xg.heap.size := by rw [eS]; exact Nat.le_of_eq (size_put C [.slice a1 N k1] 0 xg)
      have hzC2 : xg.heap.size ≤ XSC.heap.size := by rw [eS]; exact Nat.le_of_eq (size_put C [.slice a1 N k1] 0 xg).symm
      have hmC : ∀ b, ¬ b = C → Sm xg XSC b := by rw [eS]; exact fun b hb => sm_put hb [.slice a1 N k1] 0 xg
      have hBC : Below (w1.heap.size) w1 XSC := by rw [eS]; exact below_put hkC [.slice a1 N k1] 0 hHeld
      clear eS r0 f0
      replace hO := hO.sm hzC2 (fun b q1 q2 => hmC b (by omega))
      refine hK.out _ _ hBC (fun hNew => ?_)
      clear hK K hHeld
      have hHeld := hNew
      clear hNew
      try simp only [Act.put, List.setIfInBounds_toArray, List.set_cons_zero, List.set_cons_succ, List.getElem_toArray, List.getElem_cons_zero, List.getElem_cons_succ]
      refine wpAnyH_take (i := 14) (v := .bool TB) rfl (by kernel_rfl) (by kernel_rfl) (by kernel_rfl) (fun _ _ _ h => h) (Or.inl ⟨by rfl, ?_⟩) (by assumption) ?_
      · intro wx hSw; obtain ⟨hcS, hfS⟩ := bcellN hSw; go_simp
      try simp only [Act.put, List.setIfInBounds_toArray, List.set_cons_zero, List.set_cons_succ, List.getElem_toArray, List.getElem_cons_zero, List.getElem_cons_succ]
      refine wpAnyH_done (by kernel_rfl) ?_ _
      go_wp2
      go_meet
      case rel => exact ⟨C, lg, hg, a1, k1, rfl, rfl, hPC, hO, ⟨by omega, hPC.1, by omega, by omega, by omega, by omega⟩, hHeld⟩
  case rest =>
    obtain ⟨w2, hwn⟩ : ∃ wn, wn = wc := ⟨_, rfl⟩
    subst hwn
    obtain ⟨g1, l1, h1, a1, k1, rfl, rfl, hG, hO, ⟨c11, c12, c13, c14, c15, c16⟩, hb⟩ := hcut
    have y_w2 : w1.heap.size ≤ w2.heap.size := hb.size
    have B5 : Hid (Below w.heap.size w w2) := bthen B4.out hb
    have M5 : Hid (Bk w2 w.heap.size [.int .i64 c, .int .i64 d]) := M4.out.below hb
    have A5 : Hid (Bk w2 (w.heap.size + 1) [.slice a n cap]) := A4.out.below hb
    clear B4 M4 A4
    have O1_6 : Hid (P10.RL l1 h1 w2 (.slice a1 N k1) N Y) := hO
    have G1_7 : Hid (Bk w2 g1 [.slice a1 N k1]) := hG
    clear hO hG hb
    have yA0 : w2.cell? ⟨(w.heap.size + 1), 0, none⟩ = some (.slice a n cap) := (A5.out.2 0 (by simp)).1
    have hlA : (w.heap.size + 1) < w2.heap.size := A5.out.1
    go_wp2_with fail
    refine (toBookC a n cap Z hn2 _ (P10.row_below H0.out B5.out)).mono ?_
    rintro e w3 ⟨⟨bx, rfl, hC, hbx⟩, hb3⟩
    clear yA0 hlA
    have y_w3 : w2.heap.size ≤ w3.heap.size := hb3.size
    have B8 : Hid (Below w.heap.size w w3) := bthen B5.out hb3
    have M8 : Hid (Bk w3 w.heap.size [.int .i64 c, .int .i64 d]) := M5.out.below hb3
    have A8 : Hid (Bk w3 (w.heap.size + 1) [.slice a n cap]) := A5.out.below hb3
    have O1_8 : Hid (P10.RL l1 h1 w3 (.slice a1 N k1) N Y) := O1_6.out.below hb3
    have G1_8 : Hid (Bk w3 g1 [.slice a1 N k1]) := G1_7.out.below hb3
    clear B5 M5 A5 O1_6 G1_7
    clear hb3
    have hCl := hC.1
    obtain ⟨hx, ehx⟩ : ∃ l, l = w3.heap.size := ⟨_, rfl⟩
    have hR := hC.rl hbx
    obtain ⟨lx, elx⟩ : ∃ l, l = w2.heap.size := ⟨_, rfl⟩
    rw [← elx, ← ehx] at hR
    have elx1 : lx ≤ w2.heap.size := by omega
    have elx2 : w2.heap.size ≤ lx := by omega
    have ehx1 : hx ≤ w3.heap.size := by omega
    have ehx2 : w3.heap.size ≤ hx := by omega
    clear elx ehx
    go_upto_region 7 with fail
    obtain ⟨w4, e4⟩ : ∃ wq, wq = w3.alloc (.cells #[.slice (some ⟨bx, 0, none⟩) n n] 28) := ⟨_, rfl⟩
    have hb4 : Below w3.heap.size w3 w4 := by rw [e4]; exact (Below.refl _ _).alloc (Nat.le_refl _) _
    have hG : Bk w4 w3.heap.size [.slice (some ⟨bx, 0, none⟩) n n] := by rw [e4]; exact bk_new w3 28 [.slice (some ⟨bx, 0, none⟩) n n]
    rw [← e4]
    clear e4
    have y_w4 : w3.heap.size ≤ w4.heap.size := hb4.size
    have B9 : Hid (Below w.heap.size w w4) := bthen B8.out hb4
    have M9 : Hid (Bk w4 w.heap.size [.int .i64 c, .int .i64 d]) := M8.out.below hb4
    have A9 : Hid (Bk w4 (w.heap.size + 1) [.slice a n cap]) := A8.out.below hb4
    have O1_9 : Hid (P10.RL l1 h1 w4 (.slice a1 N k1) N Y) := O1_8.out.below hb4
    have G1_9 : Hid (Bk w4 g1 [.slice a1 N k1]) := G1_8.out.below hb4
    clear B8 M8 A8 O1_8 G1_8
    obtain ⟨gx, egx⟩ : ∃ g, g = w3.heap.size := ⟨_, rfl⟩
    rw [← egx] at hG ⊢
    have eg1 : gx ≤ w3.heap.size := by omega
    have eg2 : w3.heap.size ≤ gx := by omega
    clear egx
    have OX_10 : Hid (P10.RL lx hx w4 (.slice (some ⟨bx, 0, none⟩) n n) n Z) := hR.below hb4
    have C11 : Hid (Cp w4 bx n Z) := hC.below hb4
    have X12 : Hid (Bk w4 gx [.slice (some ⟨bx, 0, none⟩) n n]) := hG
    clear hG hC hb4 hR
    have yx := X12.out.1
    go_cut [17, 18] (fun s t wx => ∃ g l h a2 k2, .pointer (some ⟨g, 0, none⟩) = s ∧ .bool TB = t ∧ Bk wx g [.slice a2 N k2] ∧ P10.RL l h wx (.slice a2 N k2) N Y ∧ (w4.heap.size ≤ g ∧ g < wx.heap.size ∧ w4.heap.size ≤ l ∧ l ≤ h ∧ h ≤ wx.heap.size ∧ (g < l ∨ h ≤ g)) ∧ Below w4.heap.size w4 wx)
    case first =>
      have yM0 : w4.cell? ⟨w.heap.size, 0, none⟩ = some (.int .i64 c) := (M9.out.2 0 (by simp)).1
      have yM1 : w4.cell? ⟨w.heap.size, 1, none⟩ = some (.int .i64 d) := (M9.out.2 1 (by simp)).1
      have hlM : w.heap.size < w4.heap.size := M9.out.1
      have yX0 : w4.cell? ⟨gx, 0, none⟩ = some (.slice (some ⟨bx, 0, none⟩) n n) := (X12.out.2 0 (by simp)).1
      have hlX : gx < w4.heap.size := X12.out.1
      refine wp_region_held_drew (S := fun w' => Below (w4.heap.size) w4 w') (by kernel_rfl) ((Below.refl _ _).drew) ?_
      intro hHeld
      obtain ⟨X0, hX0⟩ : ∃ X, X = w4.drew := ⟨_, rfl⟩
      have hz0 : w4.heap.size ≤ X0.heap.size := by rw [hX0]; exact Nat.le_refl _
      rw [← hX0] at hHeld ⊢
      clear hX0
      refine wpAnyH_take (i := 0) (v := .agg #[.int .i64 c, .int .i64 d]) rfl (by kernel_rfl) (by kernel_rfl) (by kernel_rfl) (fun _ _ _ h => h) (Or.inl ⟨by rfl, ?_⟩) (by assumption) ?_
      · intro wx hSw; obtain ⟨hcS, hfS⟩ := bcellN hSw; go_simp
      try simp only [Act.put, List.setIfInBounds_toArray, List.set_cons_zero, List.set_cons_succ, List.getElem_toArray, List.getElem_cons_zero]
      refine wpAnyH_take (i := 2) (v := .agg #[.slice (some ⟨bx, 0, none⟩) n n]) rfl (by kernel_rfl) (by kernel_rfl) (by kernel_rfl) (fun _ _ _ h => h) (Or.inl ⟨by rfl, ?_⟩) (by assumption) ?_
      · intro wx hSw; obtain ⟨hcS, hfS⟩ := bcellN hSw; go_simp
      try simp only [Act.put, List.setIfInBounds_toArray, List.set_cons_zero, List.set_cons_succ, List.getElem_toArray, List.getElem_cons_zero, List.getElem_cons_succ]
      refine wpAnyH_take (i := 3) (v := .int .i64 who) rfl (by kernel_rfl) (by kernel_rfl) (by kernel_rfl) (fun _ _ _ h => h) (Or.inl ⟨by rfl, ?_⟩) (by assumption) ?_
      · intro wx hSw; obtain ⟨hcS, hfS⟩ := bcellN hSw; go_simp
      try simp only [Act.put, List.setIfInBounds_toArray, List.set_cons_zero, List.set_cons_succ, List.getElem_toArray, List.getElem_cons_zero, List.getElem_cons_succ]
      refine wpAnyH_take (i := 4) (v := .int .i64 kind) rfl (by kernel_rfl) (by kernel_rfl) (by kernel_rfl) (fun _ _ _ h => h) (Or.inl ⟨by rfl, ?_⟩) (by assumption) ?_
      · intro wx hSw; obtain ⟨hcS, hfS⟩ := bcellN hSw; go_simp
      try simp only [Act.put, List.setIfInBounds_toArray, List.set_cons_zero, List.set_cons_succ, List.getElem_toArray, List.getElem_cons_zero, List.getElem_cons_succ]
      refine wpAnyH_take (i := 5) (v := .int .i64 tz) rfl (by kernel_rfl) (by kernel_rfl) (by kernel_rfl) (fun _ _ _ h => h) (Or.inl ⟨by rfl, ?_⟩) (by assumption) ?_
      · intro wx hSw; obtain ⟨hcS, hfS⟩ := bcellN hSw; go_simp
      try simp only [Act.put, List.setIfInBounds_toArray, List.set_cons_zero, List.set_cons_succ, List.getElem_toArray, List.getElem_cons_zero, List.getElem_cons_succ]
      refine wpAnyH_take (i := 6) (v := .int .i64 nn) rfl (by kernel_rfl) (by kernel_rfl) (by kernel_rfl) (fun _ _ _ h => h) (Or.inl ⟨by rfl, ?_⟩) (by assumption) ?_
      · intro wx hSw; obtain ⟨hcS, hfS⟩ := bcellN hSw; go_simp
      try simp only [Act.put, List.setIfInBounds_toArray, List.set_cons_zero, List.set_cons_succ, List.getElem_toArray, List.getElem_cons_zero, List.getElem_cons_succ]
      refine wpAnyH_ready (rs := [1, 11]) (by kernel_rfl) (by simp) ?_
      refine (AllReadyH.cons rfl (fun K hK => ?_) (AllReadyH.cons rfl (fun K hK => ?_) AllReadyH.nil))
      · go_simp
        go_wp2_with fail
        refine (toMap _ _ _).mono ?_
        rintro e xm ⟨rfl, hxm⟩
        have hsz_xm := hxm.size
        refine hK.out _ _ (bthenN hHeld (by omega) hxm) (fun hNew => ?_)
        clear hK K hHeld
        have hHeld := hNew
        clear hNew
        try simp only [Act.put, List.setIfInBounds_toArray, List.set_cons_zero, List.set_cons_succ, List.getElem_toArray, List.getElem_cons_zero, List.getElem_cons_succ]
        refine wpAnyH_ready (rs := [7, 11]) (by kernel_rfl) (by simp) ?_
        refine (AllReadyH.cons rfl (fun K hK => ?_) (AllReadyH.cons rfl (fun K hK => ?_) AllReadyH.nil))
        · go_simp
          go_wp2_with fail
          refine (ask_impl c d _ n n Z who kind tz nn hwf hn2 _ (C11.out.below hHeld).row).mono ?_
          rintro e xg ⟨⟨u, rfl, hO⟩, hxg⟩
          rw [EN.out, EY.out] at hO
          rw [ET.out]
          obtain ⟨a2, k2, eu, _⟩ := hO.at
          subst eu
          obtain ⟨lg, elg⟩ : ∃ l, l = xm.heap.size := ⟨_, rfl⟩
          obtain ⟨hg, ehg⟩ : ∃ l, l = xg.heap.size := ⟨_, rfl⟩
          rw [← elg, ← ehg] at hO
          have elg1 : lg ≤ xm.heap.size := by omega
          have elg2 : xm.heap.size ≤ lg := by omega
          have ehg1 : hg ≤ xg.heap.size := by omega
          have ehg2 : xg.heap.size ≤ hg := by omega
          clear elg ehg
          have hsz_xg := hxg.size
          refine hK.out _ _ (bthenN hHeld (by omega) hxg) (fun hNew => ?_)
          clear hK K hHeld
          have hHeld := hNew
          clear hNew
          try simp only [Act.put, List.setIfInBounds_toArray, List.set_cons_zero, List.set_cons_succ, List.getElem_toArray, List.getElem_cons_zero, List.getElem_cons_succ]
          refine wpAnyH_take (i := 8) (v := .tuple #[.agg #[.slice a2 N k2], .bool TB]) rfl (by kernel_rfl) (by kernel_rfl) (by kernel_rfl) (fun _ _ _ h => h) (Or.inl ⟨by rfl, ?_⟩) (by assumption) ?_
          · intro wx hSw; obtain ⟨hcS, hfS⟩ := bcellN hSw; go_simp
          try simp only [Act.put, List.setIfInBounds_toArray, List.set_cons_zero, List.set_cons_succ, List.getElem_toArray, List.getElem_cons_zero, List.getElem_cons_succ]
          refine wpAnyH_take (i := 9) (v := .agg #[.slice a2 N k2]) rfl (by kernel_rfl) (by kernel_rfl) (by kernel_rfl) (fun _ _ _ h => h) (Or.inl ⟨by rfl, ?_⟩) (by assumption) ?_
          · intro wx hSw; obtain ⟨hcS, hfS⟩ := bcellN hSw; go_simp
          try simp only [Act.put, List.setIfInBounds_toArray, List.set_cons_zero, List.set_cons_succ, List.getElem_toArray, List.getElem_cons_zero, List.getElem_cons_succ]
          refine wpAnyH_take (i := 10) (v := .bool TB) rfl (by kernel_rfl) (by kernel_rfl) (by kernel_rfl) (fun _ _ _ h => h) (Or.inl ⟨by rfl, ?_⟩) (by assumption) ?_
          · intro wx hSw; obtain ⟨hcS, hfS⟩ := bcellN hSw; go_simp
          try simp only [Act.put, List.setIfInBounds_toArray, List.set_cons_zero, List.set_cons_succ, List.getElem_toArray, List.getElem_cons_zero, List.getElem_cons_succ]
          refine wpAnyH_ready (rs := [11]) (by kernel_rfl) (by simp) ?_
          refine (AllReadyH.cons rfl (fun K hK => ?_) AllReadyH.nil)
          go_simp
          obtain ⟨XC, eA⟩ : ∃ X, X = xg.alloc (.cells #[.slice none 0 0] 28) := ⟨_, rfl⟩
          rw [← eA]
          have hbA : Below xg.heap.size xg XC := by rw [eA]; exact (Below.refl _ _).alloc (Nat.le_refl _) _
          have hZC : Bk XC xg.heap.size [.slice none 0 0] := by rw [eA]; exact bk_new xg 28 [.slice none 0 0]
          have hzAC1 : XC.heap.size ≤ xg.heap.size + 1 := by rw [eA]; simp
          have hzAC2 : xg.heap.size + 1 ≤ XC.heap.size := by rw [eA]; simp
          clear eA
          replace hO := hO.below hbA
          have hsz_XC := hbA.size
          refine hK.out _ _ (bthenN hHeld (by omega) hbA) (fun hNew => ?_)
          clear hK K hHeld
          have hHeld := hNew
          clear hNew
          try simp only [Act.put, List.setIfInBounds_toArray, List.set_cons_zero, List.set_cons_succ, List.getElem_toArray, List.getElem_cons_zero, List.getElem_cons_succ]
          clear hbA
          obtain ⟨C, eC⟩ : ∃ g, g = xg.heap.size := ⟨_, rfl⟩
          rw [← eC] at hZC ⊢
          have eC1 : C ≤ xg.heap.size := by omega
          have eC2 : xg.heap.size ≤ C := by omega
          clear eC
          refine wpAnyH_ready (rs := [12]) (by kernel_rfl) (by simp) ?_
          refine (AllReadyH.cons rfl (fun K hK => ?_) AllReadyH.nil)
          have r0 := (hZC.2 0 (by simp)).1
          have f0 := (hZC.2 0 (by simp)).2
          simp only [List.getD, List.getElem?_cons_zero, Option.getD_some] at r0
          have lZC := hZC.1
          have hkC : w4.heap.size ≤ C := by omega
          go_simp
          obtain ⟨XSC, eS⟩ : ∃ X, X = (XC.setCell ⟨C, 0, none⟩ (.slice a2 N k2)) := ⟨_, rfl⟩
          rw [← eS]
          have hPC : Bk XSC C [.slice a2 N k2] := by rw [eS]; exact bk_put (l := [.slice a2 N k2]) hZC rfl
          have hzC1 : XSC.heap.size ≤ XC.heap.size := by rw [eS]; exact Nat.le_of_eq (size_put C [.slice a2 N k2] 0 XC)
          have hzC2 : XC.heap.size ≤ XSC.heap.size := by rw [eS]; exact Nat.le_of_eq (size_put C [.slice a2 N k2] 0 XC).symm
          have hmC : ∀ b, ¬ b = C → Sm XC XSC b := by rw [eS]; exact fun b hb => sm_put hb [.slice a2 N k2] 0 XC
          have hBC : Below (w4.heap.size) w4 XSC := by rw [eS]; exact below_put hkC [.slice a2 N k2] 0 hHeld
          clear eS r0 f0
          replace hO := hO.sm hzC2 (fun b q1 q2 => hmC b (by omega))
          refine hK.out _ _ hBC (fun hNew => ?_)
          clear hK K hHeld
          have hHeld := hNew
          clear hNew
          try simp only [Act.put, List.setIfInBounds_toArray, List.set_cons_zero, List.set_cons_succ, List.getElem_toArray, List.getElem_cons_zero, List.getElem_cons_succ]
          refine wpAnyH_take (i := 13) (v := .bool TB) rfl (by kernel_rfl) (by kernel_rfl) (by kernel_rfl) (fun _ _ _ h => h) (Or.inl ⟨by rfl, ?_⟩) (by assumption) ?_
          · intro wx hSw; obtain ⟨hcS, hfS⟩ := bcellN hSw; go_simp
          try simp only [Act.put, List.setIfInBounds_toArray, List.set_cons_zero, List.set_cons_succ, List.getElem_toArray, List.getElem_cons_zero, List.getElem_cons_succ]
          refine wpAnyH_done (by kernel_rfl) ?_ _
          go_wp2
          go_meet
          case rel => exact ⟨C, lg, hg, a2, k2, rfl, rfl, hPC, hO, ⟨by omega, hPC.1, by omega, by omega, by omega, by omega⟩, hHeld⟩
        · go_simp
          obtain ⟨XC, eA⟩ : ∃ X, X = xm.alloc (.cells #[.slice none 0 0] 28) := ⟨_, rfl⟩
          rw [← eA]
          have hbA : Below xm.heap.size xm XC := by rw [eA]; exact (Below.refl _ _).alloc (Nat.le_refl _) _
          have hZC : Bk XC xm.heap.size [.slice none 0 0] := by rw [eA]; exact bk_new xm 28 [.slice none 0 0]
          have hzAC1 : XC.heap.size ≤ xm.heap.size + 1 := by rw [eA]; simp
          have hzAC2 : xm.heap.size + 1 ≤ XC.heap.size := by rw [eA]; simp
          clear eA
          have hsz_XC := hbA.size
          refine hK.out _ _ (bthenN hHeld (by omega) hbA) (fun hNew => ?_)
          clear hK K hHeld
          have hHeld := hNew
          clear hNew
          try simp only [Act.put, List.setIfInBounds_toArray, List.set_cons_zero, List.set_cons_succ, List.getElem_toArray, List.getElem_cons_zero, List.getElem_cons_succ]
          clear hbA
          obtain ⟨C, eC⟩ : ∃ g, g = xm.heap.size := ⟨_, rfl⟩
          rw [← eC] at hZC ⊢
          have eC1 : C ≤ xm.heap.size := by omega
          have eC2 : xm.heap.size ≤ C := by omega
          clear eC
          refine wpAnyH_ready (rs := [7]) (by kernel_rfl) (by simp) ?_
          refine (AllReadyH.cons rfl (fun K hK => ?_) AllReadyH.nil)
          go_simp
          go_wp2_with fail
          refine (ask_impl c d _ n n Z who kind tz nn hwf hn2 _ (C11.out.below hHeld).row).mono ?_
          rintro e xg ⟨⟨u, rfl, hO⟩, hxg⟩
          rw [EN.out, EY.out] at hO
          rw [ET.out]
          obtain ⟨a2, k2, eu, _⟩ := hO.at
          subst eu
          obtain ⟨lg, elg⟩ : ∃ l, l = XC.heap.size := ⟨_, rfl⟩
          obtain ⟨hg, ehg⟩ : ∃ l, l = xg.heap.size := ⟨_, rfl⟩
          rw [← elg, ← ehg] at hO
          have elg1 : lg ≤ XC.heap.size := by omega
          have elg2 : XC.heap.size ≤ lg := by omega
          have ehg1 : hg ≤ xg.heap.size := by omega
          have ehg2 : xg.heap.size ≤ hg := by omega
          clear elg ehg
          replace hZC := hZC.below hxg
          have hsz_xg := hxg.size
          refine hK.out _ _ (bthenN hHeld (by omega) hxg) (fun hNew => ?_)
          clear hK K hHeld
          have hHeld := hNew
          clear hNew
          try simp only [Act.put, List.setIfInBounds_toArray, List.set_cons_zero, List.set_cons_succ, List.getElem_toArray, List.getElem_cons_zero, List.getElem_cons_succ]
          refine wpAnyH_take (i := 8) (v := .tuple #[.agg #[.slice a2 N k2], .bool TB]) rfl (by kernel_rfl) (by kernel_rfl) (by kernel_rfl) (fun _ _ _ h => h) (Or.inl ⟨by rfl, ?_⟩) (by assumption) ?_
          · intro wx hSw; obtain ⟨hcS, hfS⟩ := bcellN hSw; go_simp
          try simp only [Act.put, List.setIfInBounds_toArray, List.set_cons_zero, List.set_cons_succ, List.getElem_toArray, List.getElem_cons_zero, List.getElem_cons_succ]
          refine wpAnyH_take (i := 9) (v := .agg #[.slice a2 N k2]) rfl (by kernel_rfl) (by kernel_rfl) (by kernel_rfl) (fun _ _ _ h => h) (Or.inl ⟨by rfl, ?_⟩) (by assumption) ?_
          · intro wx hSw; obtain ⟨hcS, hfS⟩ := bcellN hSw; go_simp
          try simp only [Act.put, List.setIfInBounds_toArray, List.set_cons_zero, List.set_cons_succ, List.getElem_toArray, List.getElem_cons_zero, List.getElem_cons_succ]
          refine wpAnyH_take (i := 10) (v := .bool TB) rfl (by kernel_rfl) (by kernel_rfl) (by kernel_rfl) (fun _ _ _ h => h) (Or.inl ⟨by rfl, ?_⟩) (by assumption) ?_
          · intro wx hSw; obtain ⟨hcS, hfS⟩ := bcellN hSw; go_simp
          try simp only [Act.put, List.setIfInBounds_toArray, List.set_cons_zero, List.set_cons_succ, List.getElem_toArray, List.getElem_cons_zero, List.getElem_cons_succ]
          refine wpAnyH_ready (rs := [12]) (by kernel_rfl) (by simp) ?_
          refine (AllReadyH.cons rfl (fun K hK => ?_) AllReadyH.nil)
          have r0 := (hZC.2 0 (by simp)).1
          have f0 := (hZC.2 0 (by simp)).2
          simp only [List.getD, List.getElem?_cons_zero, Option.getD_some] at r0
          have lZC := hZC.1
          have hkC : w4.heap.size ≤ C := by omega
          go_simp
          obtain ⟨XSC, eS⟩ : ∃ X, X = (xg.setCell ⟨C, 0, none⟩ (.slice a2 N k2)) := ⟨_, rfl⟩
          rw [← eS]
          have hPC : Bk XSC C [.slice a2 N k2] := by rw [eS]; exact bk_put (l := [.slice a2 N k2]) hZC rfl
          have hzC1 : XSC.heap.size ≤ xg.heap.size := by rw [eS]; exact Nat.le_of_eq (size_put C [.slice a2 N k2] 0 xg)
          have hzC2 : xg.heap.size ≤ XSC.heap.size := by rw [eS]; exact Nat.le_of_eq (size_put C [.slice a2 N k2] 0 xg).symm
          have hmC : ∀ b, ¬ b = C → Sm xg XSC b := by rw [eS]; exact fun b hb => sm_put hb [.slice a2 N k2] 0 xg
          have hBC : Below (w4.heap.size) w4 XSC := by rw [eS]; exact below_put hkC [.slice a2 N k2] 0 hHeld
          clear eS r0 f0
          replace hO := hO.sm hzC2 (fun b q1 q2 => hmC b (by omega))
          refine hK.out _ _ hBC (fun hNew => ?_)
          clear hK K hHeld
          have hHeld := hNew
          clear hNew
          try simp only [Act.put, List.setIfInBounds_toArray, List.set_cons_zero, List.set_cons_succ, List.getElem_toArray, List.getElem_cons_zero, List.getElem_cons_succ]
          refine wpAnyH_take (i := 13) (v := .bool TB) rfl (by kernel_rfl) (by kernel_rfl) (by kernel_rfl) (fun _ _ _ h => h) (Or.inl ⟨by rfl, ?_⟩) (by assumption) ?_
          · intro wx hSw; obtain ⟨hcS, hfS⟩ := bcellN hSw; go_simp
          try simp only [Act.put, List.setIfInBounds_toArray, List.set_cons_zero, List.set_cons_succ, List.getElem_toArray, List.getElem_cons_zero, List.getElem_cons_succ]
          refine wpAnyH_done (by kernel_rfl) ?_ _
          go_wp2
          go_meet
          case rel => exact ⟨C, lg, hg, a2, k2, rfl, rfl, hPC, hO, ⟨by omega, hPC.1, by omega, by omega, by omega, by omega⟩, hHeld⟩
      · go_simp
        obtain ⟨XC, eA⟩ : ∃ X, X = X0.alloc (.cells #[.slice none 0 0] 28) := ⟨_, rfl⟩
        rw [← eA]
        have hbA : Below X0.heap.size X0 XC := by rw [eA]; exact (Below.refl _ _).alloc (Nat.le_refl _) _
        have hZC : Bk XC X0.heap.size [.slice none 0 0] := by rw [eA]; exact bk_new X0 28 [.slice none 0 0]
        have hzAC1 : XC.heap.size ≤ X0.heap.size + 1 := by rw [eA]; simp
        have hzAC2 : X0.heap.size + 1 ≤ XC.heap.size := by rw [eA]; simp
        clear eA
        have hsz_XC := hbA.size
        refine hK.out _ _ (bthenN hHeld (by omega) hbA) (fun hNew => ?_)
        clear hK K hHeld
        have hHeld := hNew
        clear hNew
        try simp only [Act.put, List.setIfInBounds_toArray, List.set_cons_zero, List.set_cons_succ, List.getElem_toArray, List.getElem_cons_zero, List.getElem_cons_succ]
        clear hbA
        obtain ⟨C, eC⟩ : ∃ g, g = X0.heap.size := ⟨_, rfl⟩
        rw [← eC] at hZC ⊢
        have eC1 : C ≤ X0.heap.size := by omega
        have eC2 : X0.heap.size ≤ C := by omega
        clear eC
        refine wpAnyH_ready (rs := [1]) (by kernel_rfl) (by simp) ?_
        refine (AllReadyH.cons rfl (fun K hK => ?_) AllReadyH.nil)
        go_simp
        go_wp2_with fail
        refine (toMap _ _ _).mono ?_
        rintro e xm ⟨rfl, hxm⟩
        replace hZC := hZC.below hxm
        have hsz_xm := hxm.size
        refine hK.out _ _ (bthenN hHeld (by omega) hxm) (fun hNew => ?_)
        clear hK K hHeld
        have hHeld := hNew
        clear hNew
        try simp only [Act.put, List.setIfInBounds_toArray, List.set_cons_zero, List.set_cons_succ, List.getElem_toArray, List.getElem_cons_zero, List.getElem_cons_succ]
        refine wpAnyH_ready (rs := [7]) (by kernel_rfl) (by simp) ?_
        refine (AllReadyH.cons rfl (fun K hK => ?_) AllReadyH.nil)
        go_simp
        go_wp2_with fail
        refine (ask_impl c d _ n n Z who kind tz nn hwf hn2 _ (C11.out.below hHeld).row).mono ?_
        rintro e xg ⟨⟨u, rfl, hO⟩, hxg⟩
        rw [EN.out, EY.out] at hO
        rw [ET.out]
        obtain ⟨a2, k2, eu, _⟩ := hO.at
        subst eu
        obtain ⟨lg, elg⟩ : ∃ l, l = xm.heap.size := ⟨_, rfl⟩
        obtain ⟨hg, ehg⟩ : ∃ l, l = xg.heap.size := ⟨_, rfl⟩
        rw [← elg, ← ehg] at hO
        have elg1 : lg ≤ xm.heap.size := by omega
        have elg2 : xm.heap.size ≤ lg := by omega
        have ehg1 : hg ≤ xg.heap.size := by omega
        have ehg2 : xg.heap.size ≤ hg := by omega
        clear elg ehg
        replace hZC := hZC.below hxg
        have hsz_xg := hxg.size
        refine hK.out _ _ (bthenN hHeld (by omega) hxg) (fun hNew => ?_)
        clear hK K hHeld
        have hHeld := hNew
        clear hNew
        try simp only [Act.put, List.setIfInBounds_toArray, List.set_cons_zero, List.set_cons_succ, List.getElem_toArray, List.getElem_cons_zero, List.getElem_cons_succ]
        refine wpAnyH_take (i := 8) (v := .tuple #[.agg #[.slice a2 N k2], .bool TB]) rfl (by kernel_rfl) (by kernel_rfl) (by kernel_rfl) (fun _ _ _ h => h) (Or.inl ⟨by rfl, ?_⟩) (by assumption) ?_
        · intro wx hSw; obtain ⟨hcS, hfS⟩ := bcellN hSw; go_simp
        try simp only [Act.put, List.setIfInBounds_toArray, List.set_cons_zero, List.set_cons_succ, List.getElem_toArray, List.getElem_cons_zero, List.getElem_cons_succ]
        refine wpAnyH_take (i := 9) (v := .agg #[.slice a2 N k2]) rfl (by kernel_rfl) (by kernel_rfl) (by kernel_rfl) (fun _ _ _ h => h) (Or.inl ⟨by rfl, ?_⟩) (by assumption) ?_
        · intro wx hSw; obtain ⟨hcS, hfS⟩ := bcellN hSw; go_simp
        try simp only [Act.put, List.setIfInBounds_toArray, List.set_cons_zero, List.set_cons_succ, List.getElem_toArray, List.getElem_cons_zero, List.getElem_cons_succ]
        refine wpAnyH_take (i := 10) (v := .bool TB) rfl (by kernel_rfl) (by kernel_rfl) (by kernel_rfl) (fun _ _ _ h => h) (Or.inl ⟨by rfl, ?_⟩) (by assumption) ?_
        · intro wx hSw; obtain ⟨hcS, hfS⟩ := bcellN hSw; go_simp
        try simp only [Act.put, List.setIfInBounds_toArray, List.set_cons_zero, List.set_cons_succ, List.getElem_toArray, List.getElem_cons_zero, List.getElem_cons_succ]
        refine wpAnyH_ready (rs := [12]) (by kernel_rfl) (by simp) ?_
        refine (AllReadyH.cons rfl (fun K hK => ?_) AllReadyH.nil)
        have r0 := (hZC.2 0 (by simp)).1
        have f0 := (hZC.2 0 (by simp)).2
        simp only [List.getD, List.getElem?_cons_zero, Option.getD_some] at r0
        have lZC := hZC.1
        have hkC : w4.heap.size ≤ C := by omega
        go_simp
        obtain ⟨XSC, eS⟩ : ∃ X, X = (xg.setCell ⟨C, 0, none⟩ (.slice a2 N k2)) := ⟨_, rfl⟩
        rw [← eS]
        have hPC : Bk XSC C [.slice a2 N k2] := by rw [eS]; exact bk_put (l := [.slice a2 N k2]) hZC rfl
        have hzC1 : XSC.heap.size ≤ xg.heap.size := by rw [eS]; exact Nat.le_of_eq (size_put C [.slice a2 N k2] 0 xg)
        have hzC2 : xg.heap.size ≤ XSC.heap.size := by rw [eS]; exact Nat.le_of_eq (size_put C [.slice a2 N k2] 0 xg).symm
        have hmC : ∀ b, ¬ b = C → Sm xg XSC b := by rw [eS]; exact fun b hb => sm_put hb [.slice a2 N k2] 0 xg
        have hBC : Below (w4.heap.size) w4 XSC := by rw [eS]; exact below_put hkC [.slice a2 N k2] 0 hHeld
        clear eS r0 f0
        replace hO := hO.sm hzC2 (fun b q1 q2 => hmC b (by omega))
        refine hK.out _ _ hBC (fun hNew => ?_)
        clear hK K hHeld
        have hHeld := hNew
        clear hNew
        try simp only [Act.put, List.setIfInBounds_toArray, List.set_cons_zero, List.set_cons_succ, List.getElem_toArray, List.getElem_cons_zero, List.getElem_cons_succ]
        refine wpAnyH_take (i := 13) (v := .bool TB) rfl (by kernel_rfl) (by kernel_rfl) (by kernel_rfl) (fun _ _ _ h => h) (Or.inl ⟨by rfl, ?_⟩) (by assumption) ?_
        · intro wx hSw; obtain ⟨hcS, hfS⟩ := bcellN hSw; go_simp
        try simp only [Act.put, List.setIfInBounds_toArray, List.set_cons_zero, List.set_cons_succ, List.getElem_toArray, List.getElem_cons_zero, List.getElem_cons_succ]
        refine wpAnyH_done (by kernel_rfl) ?_ _
        go_wp2
        go_meet
        case rel => exact ⟨C, lg, hg, a2, k2, rfl, rfl, hPC, hO, ⟨by omega, hPC.1, by omega, by omega, by omega, by omega⟩, hHeld⟩
    case rest =>
      obtain ⟨w5, hwn⟩ : ∃ wn, wn = wc := ⟨_, rfl⟩
      subst hwn
      obtain ⟨g2, l2, h2, a2, k2, rfl, rfl, hG, hO, ⟨c21, c22, c23, c24, c25, c26⟩, hb⟩ := hcut
      have y_w5 : w4.heap.size ≤ w5.heap.size := hb.size
      have B13 : Hid (Below w.heap.size w w5) := bthen B9.out hb
      have M13 : Hid (Bk w5 w.heap.size [.int .i64 c, .int .i64 d]) := M9.out.below hb
      have A13 : Hid (Bk w5 (w.heap.size + 1) [.slice a n cap]) := A9.out.below hb
      have O1_13 : Hid (P10.RL l1 h1 w5 (.slice a1 N k1) N Y) := O1_9.out.below hb
      have G1_13 : Hid (Bk w5 g1 [.slice a1 N k1]) := G1_9.out.below hb
      have OX_13 : Hid (P10.RL lx hx w5 (.slice (some ⟨bx, 0, none⟩) n n) n Z) := OX_10.out.below hb
      have C13 : Hid (Cp w5 bx n Z) := C11.out.below hb
      have X13 : Hid (Bk w5 gx [.slice (some ⟨bx, 0, none⟩) n n]) := X12.out.below hb
      clear B9 M9 A9 O1_9 G1_9 OX_10 C11 X12
      have O2_14 : Hid (P10.RL l2 h2 w5 (.slice a2 N k2) N Y) := hO
      have G2_15 : Hid (Bk w5 g2 [.slice a2 N k2]) := hG
      clear hO hG hb
      clear C13
      have yG1_0 : w5.cell? ⟨g1, 0, none⟩ = some (.slice a1 N k1) := (G1_13.out.2 0 (by simp)).1
      have hlG1_ : g1 < w5.heap.size := G1_13.out.1
      have yG2_0 : w5.cell? ⟨g2, 0, none⟩ = some (.slice a2 N k2) := (G2_15.out.2 0 (by simp)).1
      have hlG2_ : g2 < w5.heap.size := G2_15.out.1
      go_wp2_with fail
      refine (eqBook a2 k2 a1 k1 N Y (by omega) _ (rl_row O2_14.out) (rl_row O1_13.out)).mono ?_
      rintro e w6 ⟨rfl, hb⟩
      clear yG1_0 hlG1_ yG2_0 hlG2_
      have y_w6 : w5.heap.size ≤ w6.heap.size := hb.size
      have B16 : Hid (Below w.heap.size w w6) := bthen B13.out hb
      have M16 : Hid (Bk w6 w.heap.size [.int .i64 c, .int .i64 d]) := M13.out.below hb
      have A16 : Hid (Bk w6 (w.heap.size + 1) [.slice a n cap]) := A13.out.below hb
      have O1_16 : Hid (P10.RL l1 h1 w6 (.slice a1 N k1) N Y) := O1_13.out.below hb
      have G1_16 : Hid (Bk w6 g1 [.slice a1 N k1]) := G1_13.out.below hb
      have OX_16 : Hid (P10.RL lx hx w6 (.slice (some ⟨bx, 0, none⟩) n n) n Z) := OX_13.out.below hb
      have X16 : Hid (Bk w6 gx [.slice (some ⟨bx, 0, none⟩) n n]) := X13.out.below hb
      have O2_16 : Hid (P10.RL l2 h2 w6 (.slice a2 N k2) N Y) := O2_14.out.below hb
      have G2_16 : Hid (Bk w6 g2 [.slice a2 N k2]) := G2_15.out.below hb
      clear B13 M13 A13 O1_13 G1_13 OX_13 X13 O2_14 G2_15
      clear hb
      go_upto_region 10 with fail
      have yX0 : w6.cell? ⟨gx, 0, none⟩ = some (.slice (some ⟨bx, 0, none⟩) n n) := (X16.out.2 0 (by simp)).1
      have hlX : gx < w6.heap.size := X16.out.1
      have yA0 : w6.cell? ⟨(w.heap.size + 1), 0, none⟩ = some (.slice a n cap) := (A16.out.2 0 (by simp)).1
      have hlA : (w.heap.size + 1) < w6.heap.size := A16.out.1
      refine wp_region_held_drew (S := fun w' => (∀ b o, b < w6.heap.size → w'.cell? ⟨b, o, none⟩ = w6.cell? ⟨b, o, none⟩) ∧ w6.heap.size ≤ w'.heap.size) (by kernel_rfl) ⟨fun _ _ _ => rfl, Nat.le_refl _⟩ ?_
      intro hHeld
      refine wpAnyH_take (i := 0) (v := .agg #[.slice (some ⟨bx, 0, none⟩) n n]) rfl (by kernel_rfl) (by kernel_rfl) (by kernel_rfl) (fun _ _ _ h => h) (Or.inl ⟨by rfl, ?_⟩) (by assumption) ?_
      · intro wx hSw; go_simp
      try simp only [Act.put, List.setIfInBounds_toArray, List.set_cons_zero, List.set_cons_succ, List.getElem_toArray, List.getElem_cons_zero]
      refine wpAnyH_take (i := 1) (v := .agg #[.slice a n cap]) rfl (by kernel_rfl) (by kernel_rfl) (by kernel_rfl) (fun _ _ _ h => h) (Or.inl ⟨by rfl, ?_⟩) (by assumption) ?_
      · intro wx hSw; go_simp
      try simp only [Act.put, List.setIfInBounds_toArray, List.set_cons_zero, List.set_cons_succ, List.getElem_toArray, List.getElem_cons_zero, List.getElem_cons_succ]
      refine wpAnyH_ready (rs := [2]) (by kernel_rfl) (by simp) ?_
      refine AllReadyH.cons rfl (fun K hK => ?_) AllReadyH.nil
      go_simp
      go_wp2_with fail
      refine (toBookC a n cap Z hn2 _ (P10.row_below H0.out (bthen B16.out (by repeat (first | exact Below.refl _ _ | refine bthen ?_ (by assumption) | apply Below.drew))))).mono ?_
      rintro e t1 ⟨⟨b4, rfl, hC3, _⟩, ht1⟩
      refine hK.out _ _ (keepS (by assumption) ht1) (fun hNew => ?_)
      clear hK K hHeld
      have hHeld := hNew
      clear hNew
      try simp only [Act.put, List.setIfInBounds_toArray, List.set_cons_zero, List.set_cons_succ, List.getElem_toArray, List.getElem_cons_zero, List.getElem_cons_succ]
      refine wpAnyH_ready (rs := [3]) (by kernel_rfl) (by simp) ?_
      refine AllReadyH.cons rfl (fun K hK => ?_) AllReadyH.nil
      go_simp
      go_wp2_with fail
      refine (eqBook _ _ _ _ n Z (by omega) _ (P10.row_below (rl_row OX_16.out) (by repeat (first | exact Below.refl _ _ | refine bthen ?_ (by assumption) | apply Below.drew))) hC3.row).mono ?_
      rintro e t2 ⟨rfl, ht2⟩
      refine hK.out _ _ (keepS (by assumption) ht2) (fun hNew => ?_)
      clear hK K hHeld
      have hHeld := hNew
      clear hNew
      try simp only [Act.put, List.setIfInBounds_toArray, List.set_cons_zero, List.set_cons_succ, List.getElem_toArray, List.getElem_cons_zero, List.getElem_cons_succ]
      refine wpAnyH_take (i := 4) (v := .bool false) rfl (by kernel_rfl) (by kernel_rfl) (by kernel_rfl) (fun _ _ _ h => h) (Or.inl ⟨by rfl, ?_⟩) (by assumption) ?_
      · intro wx hSw; go_simp
      try simp only [Act.put, List.setIfInBounds_toArray, List.set_cons_zero, List.set_cons_succ, List.getElem_toArray, List.getElem_cons_zero, List.getElem_cons_succ]
      refine wpAnyH_done (by kernel_rfl) ?_ _
      clear hHeld
      have hb7 : Below w6.heap.size w6 t2 := by repeat (first | exact Below.refl _ _ | refine bthen ?_ (by assumption) | apply Below.drew)
      generalize t2 = w7 at *
      clear yX0 hlX yA0 hlA
      have y_w7 : w6.heap.size ≤ w7.heap.size := hb7.size
      have B17 : Hid (Below w.heap.size w w7) := bthen B16.out hb7
      have M17 : Hid (Bk w7 w.heap.size [.int .i64 c, .int .i64 d]) := M16.out.below hb7
      have A17 : Hid (Bk w7 (w.heap.size + 1) [.slice a n cap]) := A16.out.below hb7
      have O1_17 : Hid (P10.RL l1 h1 w7 (.slice a1 N k1) N Y) := O1_16.out.below hb7
      have G1_17 : Hid (Bk w7 g1 [.slice a1 N k1]) := G1_16.out.below hb7
      have OX_17 : Hid (P10.RL lx hx w7 (.slice (some ⟨bx, 0, none⟩) n n) n Z) := OX_16.out.below hb7
      have X17 : Hid (Bk w7 gx [.slice (some ⟨bx, 0, none⟩) n n]) := X16.out.below hb7
      have O2_17 : Hid (P10.RL l2 h2 w7 (.slice a2 N k2) N Y) := O2_16.out.below hb7
      have G2_17 : Hid (Bk w7 g2 [.slice a2 N k2]) := G2_16.out.below hb7
      clear B16 M16 A16 O1_16 G1_16 OX_16 X16 O2_16 G2_16
      clear hb7 ht1 ht2 hC3
      have yX0 : w7.cell? ⟨gx, 0, none⟩ = some (.slice (some ⟨bx, 0, none⟩) n n) := (X17.out.2 0 (by simp)).1
      have hlX : gx < w7.heap.size := X17.out.1
      go_wp2_with fail
      clear yX0 hlX
      refine (markBook lx hx 1 _ n Z (by omega) (by omega) _ (by omega) OX_17.out).mono ?_
      rintro e w8 ⟨rfl, hO, hz, hsm, hbl⟩
      have y_w8 : w7.heap.size ≤ w8.heap.size := hz
      have B18 : Hid (Below w.heap.size w w8) := B17.out.trans (hbl.mono (by omega))
      have M18 : Hid (Bk w8 w.heap.size [.int .i64 c, .int .i64 d]) := M17.out.sm hz (hsm (w.heap.size) (by omega) (by omega))
      have A18 : Hid (Bk w8 (w.heap.size + 1) [.slice a n cap]) := A17.out.sm hz (hsm ((w.heap.size + 1)) (by omega) (by omega))
      have O1_18 : Hid (P10.RL l1 h1 w8 (.slice a1 N k1) N Y) := O1_17.out.sm hz (fun b q1 q2 => hsm b (by omega) (by omega))
      have G1_18 : Hid (Bk w8 g1 [.slice a1 N k1]) := G1_17.out.sm hz (hsm (g1) (by omega) (by omega))
      have X18 : Hid (Bk w8 gx [.slice (some ⟨bx, 0, none⟩) n n]) := X17.out.sm hz (hsm (gx) (by omega) (by omega))
      have O2_18 : Hid (P10.RL l2 h2 w8 (.slice a2 N k2) N Y) := O2_17.out.sm hz (fun b q1 q2 => hsm b (by omega) (by omega))
      have G2_18 : Hid (Bk w8 g2 [.slice a2 N k2]) := G2_17.out.sm hz (hsm (g2) (by omega) (by omega))
      clear B17 M17 A17 O1_17 G1_17 X17 O2_17 G2_17
      clear hO hz hsm hbl OX_17
      obtain ⟨q8, eq8⟩ : ∃ q : Int, q = ((1 + n * 10 : Nat) : Int) := ⟨_, rfl⟩
      have nn8 : ¬ q8 < 0 := by omega
      rw [← eq8]
      clear eq8
      have yG1_0 : w8.cell? ⟨g1, 0, none⟩ = some (.slice a1 N k1) := (G1_18.out.2 0 (by simp)).1
      have hlG1_ : g1 < w8.heap.size := G1_18.out.1
      have yG2_0 : w8.cell? ⟨g2, 0, none⟩ = some (.slice a2 N k2) := (G2_18.out.2 0 (by simp)).1
      have hlG2_ : g2 < w8.heap.size := G2_18.out.1
      go_wp2_with fail
      refine (eqBook a2 k2 a1 k1 N Y (by omega) _ (rl_row O2_18.out) (rl_row O1_18.out)).mono ?_
      rintro e w9 ⟨rfl, hb⟩
      clear yG1_0 hlG1_ yG2_0 hlG2_
      have y_w9 : w8.heap.size ≤ w9.heap.size := hb.size
      have B19 : Hid (Below w.heap.size w w9) := bthen B18.out hb
      have M19 : Hid (Bk w9 w.heap.size [.int .i64 c, .int .i64 d]) := M18.out.below hb
      have A19 : Hid (Bk w9 (w.heap.size + 1) [.slice a n cap]) := A18.out.below hb
      have O1_19 : Hid (P10.RL l1 h1 w9 (.slice a1 N k1) N Y) := O1_18.out.below hb
      have G1_19 : Hid (Bk w9 g1 [.slice a1 N k1]) := G1_18.out.below hb
      have X19 : Hid (Bk w9 gx [.slice (some ⟨bx, 0, none⟩) n n]) := X18.out.below hb
      have O2_19 : Hid (P10.RL l2 h2 w9 (.slice a2 N k2) N Y) := O2_18.out.below hb
      have G2_19 : Hid (Bk w9 g2 [.slice a2 N k2]) := G2_18.out.below hb
      clear B18 M18 A18 O1_18 G1_18 X18 O2_18 G2_18
      clear hb
      have yG2_0 : w9.cell? ⟨g2, 0, none⟩ = some (.slice a2 N k2) := (G2_19.out.2 0 (by simp)).1
      have hlG2_ : g2 < w9.heap.size := G2_19.out.1
      go_wp2_with fail
      clear yG2_0 hlG2_
      refine (markBook l2 h2 1 _ N Y (by omega) (by omega) _ (by omega) O2_19.out).mono ?_
      rintro e w10 ⟨rfl, hO, hz, hsm, hbl⟩
      have y_w10 : w9.heap.size ≤ w10.heap.size := hz
      have B20 : Hid (Below w.heap.size w w10) := B19.out.trans (hbl.mono (by omega))
      have M20 : Hid (Bk w10 w.heap.size [.int .i64 c, .int .i64 d]) := M19.out.sm hz (hsm (w.heap.size) (by omega) (by omega))
      have A20 : Hid (Bk w10 (w.heap.size + 1) [.slice a n cap]) := A19.out.sm hz (hsm ((w.heap.size + 1)) (by omega) (by omega))
      have O1_20 : Hid (P10.RL l1 h1 w10 (.slice a1 N k1) N Y) := O1_19.out.sm hz (fun b q1 q2 => hsm b (by omega) (by omega))
      have G1_20 : Hid (Bk w10 g1 [.slice a1 N k1]) := G1_19.out.sm hz (hsm (g1) (by omega) (by omega))
      have X20 : Hid (Bk w10 gx [.slice (some ⟨bx, 0, none⟩) n n]) := X19.out.sm hz (hsm (gx) (by omega) (by omega))
      have G2_20 : Hid (Bk w10 g2 [.slice a2 N k2]) := G2_19.out.sm hz (hsm (g2) (by omega) (by omega))
      clear B19 M19 A19 O1_19 G1_19 X19 G2_19
      have O2_21 : Hid (P10.RL l2 h2 w10 (.slice a2 N k2) N (P10.Mk 10 1)) := hO
      clear hO hz hsm hbl O2_19
      obtain ⟨q10, eq10⟩ : ∃ q : Int, q = ((1 + N * 10 : Nat) : Int) := ⟨_, rfl⟩
      have EQ : Hid (q10 = ((1 + N * 10 : Nat) : Int)) := eq10
      have nn10 : ¬ q10 < 0 := by omega
      rw [← eq10]
      clear eq10
      have yG2_0 : w10.cell? ⟨g2, 0, none⟩ = some (.slice a2 N k2) := (G2_20.out.2 0 (by simp)).1
      have hlG2_ : g2 < w10.heap.size := G2_20.out.1
      go_wp2_with fail
      clear yG2_0 hlG2_
      refine (heldBook l2 h2 1 _ N (by omega) (by omega) _ O2_21.out).mono ?_
      rintro e w11 ⟨rfl, hb⟩
      rw [← EQ.out]
      have y_w11 : w10.heap.size ≤ w11.heap.size := hb.size
      have B22 : Hid (Below w.heap.size w w11) := bthen B20.out hb
      have M22 : Hid (Bk w11 w.heap.size [.int .i64 c, .int .i64 d]) := M20.out.below hb
      have A22 : Hid (Bk w11 (w.heap.size + 1) [.slice a n cap]) := A20.out.below hb
      have O1_22 : Hid (P10.RL l1 h1 w11 (.slice a1 N k1) N Y) := O1_20.out.below hb
      have G1_22 : Hid (Bk w11 g1 [.slice a1 N k1]) := G1_20.out.below hb
      have X22 : Hid (Bk w11 gx [.slice (some ⟨bx, 0, none⟩) n n]) := X20.out.below hb
      have G2_22 : Hid (Bk w11 g2 [.slice a2 N k2]) := G2_20.out.below hb
      have O2_22 : Hid (P10.RL l2 h2 w11 (.slice a2 N k2) N (P10.Mk 10 1)) := O2_21.out.below hb
      clear B20 M20 A20 O1_20 G1_20 X20 G2_20 O2_21
      clear hb
      go_upto_region 24 with fail
      go_cut [22, 23] (fun s t wx => ∃ g l h a3 k3, .pointer (some ⟨g, 0, none⟩) = s ∧ .bool TB = t ∧ Bk wx g [.slice a3 N k3] ∧ P10.RL l h wx (.slice a3 N k3) N Y ∧ (w11.heap.size ≤ g ∧ g < wx.heap.size ∧ w11.heap.size ≤ l ∧ l ≤ h ∧ h ≤ wx.heap.size ∧ (g < l ∨ h ≤ g)) ∧ Below w11.heap.size w11 wx)
      case first =>
        have yM0 : w11.cell? ⟨w.heap.size, 0, none⟩ = some (.int .i64 c) := (M22.out.2 0 (by simp)).1
        have yM1 : w11.cell? ⟨w.heap.size, 1, none⟩ = some (.int .i64 d) := (M22.out.2 1 (by simp)).1
        have hlM : w.heap.size < w11.heap.size := M22.out.1
        have yA0 : w11.cell? ⟨(w.heap.size + 1), 0, none⟩ = some (.slice a n cap) := (A22.out.2 0 (by simp)).1
        have hlA : (w.heap.size + 1) < w11.heap.size := A22.out.1
        refine wp_region_held_drew (S := fun w' => Below (w11.heap.size) w11 w') (by kernel_rfl) ((Below.refl _ _).drew) ?_
        intro hHeld
        obtain ⟨X0, hX0⟩ : ∃ X, X = w11.drew := ⟨_, rfl⟩
        have hz0 : w11.heap.size ≤ X0.heap.size := by rw [hX0]; exact Nat.le_refl _
        rw [← hX0] at hHeld ⊢
        clear hX0
        refine wpAnyH_take (i := 0) (v := .agg #[.int .i64 c, .int .i64 d]) rfl (by kernel_rfl) (by kernel_rfl) (by kernel_rfl) (fun _ _ _ h => h) (Or.inl ⟨by rfl, ?_⟩) (by assumption) ?_
        · intro wx hSw; obtain ⟨hcS, hfS⟩ := bcellN hSw; go_simp
        try simp only [Act.put, List.setIfInBounds_toArray, List.set_cons_zero, List.set_cons_succ, List.getElem_toArray, List.getElem_cons_zero]
        refine wpAnyH_take (i := 2) (v := .agg #[.slice a n cap]) rfl (by kernel_rfl) (by kernel_rfl) (by kernel_rfl) (fun _ _ _ h => h) (Or.inl ⟨by rfl, ?_⟩) (by assumption) ?_
        · intro wx hSw; obtain ⟨hcS, hfS⟩ := bcellN hSw; go_simp
        try simp only [Act.put, List.setIfInBounds_toArray, List.set_cons_zero, List.set_cons_succ, List.getElem_toArray, List.getElem_cons_zero, List.getElem_cons_succ]
        refine wpAnyH_take (i := 4) (v := .int .i64 who) rfl (by kernel_rfl) (by kernel_rfl) (by kernel_rfl) (fun _ _ _ h => h) (Or.inl ⟨by rfl, ?_⟩) (by assumption) ?_
        · intro wx hSw; obtain ⟨hcS, hfS⟩ := bcellN hSw; go_simp
        try simp only [Act.put, List.setIfInBounds_toArray, List.set_cons_zero, List.set_cons_succ, List.getElem_toArray, List.getElem_cons_zero, List.getElem_cons_succ]
        refine wpAnyH_take (i := 5) (v := .int .i64 kind) rfl (by kernel_rfl) (by kernel_rfl) (by kernel_rfl) (fun _ _ _ h => h) (Or.inl ⟨by rfl, ?_⟩) (by assumption) ?_
        · intro wx hSw; obtain ⟨hcS, hfS⟩ := bcellN hSw; go_simp
        try simp only [Act.put, List.setIfInBounds_toArray, List.set_cons_zero, List.set_cons_succ, List.getElem_toArray, List.getElem_cons_zero, List.getElem_cons_succ]
        refine wpAnyH_take (i := 6) (v := .int .i64 tz) rfl (by kernel_rfl) (by kernel_rfl) (by kernel_rfl) (fun _ _ _ h => h) (Or.inl ⟨by rfl, ?_⟩) (by assumption) ?_
        · intro wx hSw; obtain ⟨hcS, hfS⟩ := bcellN hSw; go_simp
        try simp only [Act.put, List.setIfInBounds_toArray, List.set_cons_zero, List.set_cons_succ, List.getElem_toArray, List.getElem_cons_zero, List.getElem_cons_succ]
        refine wpAnyH_take (i := 7) (v := .int .i64 nn) rfl (by kernel_rfl) (by kernel_rfl) (by kernel_rfl) (fun _ _ _ h => h) (Or.inl ⟨by rfl, ?_⟩) (by assumption) ?_
        · intro wx hSw; obtain ⟨hcS, hfS⟩ := bcellN hSw; go_simp
        try simp only [Act.put, List.setIfInBounds_toArray, List.set_cons_zero, List.set_cons_succ, List.getElem_toArray, List.getElem_cons_zero, List.getElem_cons_succ]
        refine wpAnyH_ready (rs := [1, 12]) (by kernel_rfl) (by simp) ?_
        refine (AllReadyH.cons rfl (fun K hK => ?_) (AllReadyH.cons rfl (fun K hK => ?_) AllReadyH.nil))
        · go_simp
          go_wp2_with fail
          refine (toMap _ _ _).mono ?_
          rintro e xm ⟨rfl, hxm⟩
          have hsz_xm := hxm.size
          refine hK.out _ _ (bthenN hHeld (by omega) hxm) (fun hNew => ?_)
          clear hK K hHeld
          have hHeld := hNew
          clear hNew
          try simp only [Act.put, List.setIfInBounds_toArray, List.set_cons_zero, List.set_cons_succ, List.getElem_toArray, List.getElem_cons_zero, List.getElem_cons_succ]
          refine wpAnyH_ready (rs := [3, 12]) (by kernel_rfl) (by simp) ?_
          refine (AllReadyH.cons rfl (fun K hK => ?_) (AllReadyH.cons rfl (fun K hK => ?_) AllReadyH.nil))
          · go_simp
            go_wp2_with fail
            refine (toBookC a n cap Z hn2 _ (P10.row_below H0.out (bthen B22.out hHeld))).mono ?_
            rintro e xt ⟨⟨bt, rfl, hC, hbt⟩, hxt⟩
            have hsz_xt := hxt.size
            refine hK.out _ _ (bthenN hHeld (by omega) hxt) (fun hNew => ?_)
            clear hK K hHeld
            have hHeld := hNew
            clear hNew
            try simp only [Act.put, List.setIfInBounds_toArray, List.set_cons_zero, List.set_cons_succ, List.getElem_toArray, List.getElem_cons_zero, List.getElem_cons_succ]
            refine wpAnyH_ready (rs := [8, 12]) (by kernel_rfl) (by simp) ?_
            refine (AllReadyH.cons rfl (fun K hK => ?_) (AllReadyH.cons rfl (fun K hK => ?_) AllReadyH.nil))
            · go_simp
              go_wp2_with fail
              refine (ask_impl c d _ n n Z who kind tz nn hwf hn2 _ hC.row).mono ?_
              rintro e xg ⟨⟨u, rfl, hO⟩, hxg⟩
              rw [EN.out, EY.out] at hO
              rw [ET.out]
              obtain ⟨a3, k3, eu, _⟩ := hO.at
              subst eu
              obtain ⟨lg, elg⟩ : ∃ l, l = xt.heap.size := ⟨_, rfl⟩
              obtain ⟨hg, ehg⟩ : ∃ l, l = xg.heap.size := ⟨_, rfl⟩
              rw [← elg, ← ehg] at hO
              have elg1 : lg ≤ xt.heap.size := by omega
              have elg2 : xt.heap.size ≤ lg := by omega
              have ehg1 : hg ≤ xg.heap.size := by omega
              have ehg2 : xg.heap.size ≤ hg := by omega
              clear elg ehg
              replace hC := hC.below hxg
              have hsz_xg := hxg.size
              refine hK.out _ _ (bthenN hHeld (by omega) hxg) (fun hNew => ?_)
              clear hK K hHeld
              have hHeld := hNew
              clear hNew
              try simp only [Act.put, List.setIfInBounds_toArray, List.set_cons_zero, List.set_cons_succ, List.getElem_toArray, List.getElem_cons_zero, List.getElem_cons_succ]
              refine wpAnyH_take (i := 9) (v := .tuple #[.agg #[.slice a3 N k3], .bool TB]) rfl (by kernel_rfl) (by kernel_rfl) (by kernel_rfl) (fun _ _ _ h => h) (Or.inl ⟨by rfl, ?_⟩) (by assumption) ?_
              · intro wx hSw; obtain ⟨hcS, hfS⟩ := bcellN hSw; go_simp
              try simp only [Act.put, List.setIfInBounds_toArray, List.set_cons_zero, List.set_cons_succ, List.getElem_toArray, List.getElem_cons_zero, List.getElem_cons_succ]
              refine wpAnyH_take (i := 10) (v := .agg #[.slice a3 N k3]) rfl (by kernel_rfl) (by kernel_rfl) (by kernel_rfl) (fun _ _ _ h => h) (Or.inl ⟨by rfl, ?_⟩) (by assumption) ?_
              · intro wx hSw; obtain ⟨hcS, hfS⟩ := bcellN hSw; go_simp
              try simp only [Act.put, List.setIfInBounds_toArray, List.set_cons_zero, List.set_cons_succ, List.getElem_toArray, List.getElem_cons_zero, List.getElem_cons_succ]
              refine wpAnyH_take (i := 11) (v := .bool TB) rfl (by kernel_rfl) (by kernel_rfl) (by kernel_rfl) (fun _ _ _ h => h) (Or.inl ⟨by rfl, ?_⟩) (by assumption) ?_
              · intro wx hSw; obtain ⟨hcS, hfS⟩ := bcellN hSw; go_simp
              try simp only [Act.put, List.setIfInBounds_toArray, List.set_cons_zero, List.set_cons_succ, List.getElem_toArray, List.getElem_cons_zero, List.getElem_cons_succ]
              refine wpAnyH_ready (rs := [12]) (by kernel_rfl) (by simp) ?_
              refine (AllReadyH.cons rfl (fun K hK => ?_) AllReadyH.nil)
              go_simp
              obtain ⟨XC, eA⟩ : ∃ X, X = xg.alloc (.cells #[.slice none 0 0] 28) := ⟨_, rfl⟩
              rw [← eA]
              have hbA : Below xg.heap.size xg XC := by rw [eA]; exact (Below.refl _ _).alloc (Nat.le_refl _) _
              have hZC : Bk XC xg.heap.size [.slice none 0 0] := by rw [eA]; exact bk_new xg 28 [.slice none 0 0]
              have hzAC1 : XC.heap.size ≤ xg.heap.size + 1 := by rw [eA]; simp
              have hzAC2 : xg.heap.size + 1 ≤ XC.heap.size := by rw [eA]; simp
              clear eA
              replace hO := hO.below hbA
              have hsz_XC := hbA.size
              refine hK.out _ _ (bthenN hHeld (by omega) hbA) (fun hNew => ?_)
              clear hK K hHeld
              have hHeld := hNew
              clear hNew
              try simp only [Act.put, List.setIfInBounds_toArray, List.set_cons_zero, List.set_cons_succ, List.getElem_toArray, List.getElem_cons_zero, List.getElem_cons_succ]
              clear hbA
              obtain ⟨C, eC⟩ : ∃ g, g = xg.heap.size := ⟨_, rfl⟩
              rw [← eC] at hZC ⊢
              have eC1 : C ≤ xg.heap.size := by omega
              have eC2 : xg.heap.size ≤ C := by omega
              clear eC
              refine wpAnyH_ready (rs := [13]) (by kernel_rfl) (by simp) ?_
              refine (AllReadyH.cons rfl (fun K hK => ?_) AllReadyH.nil)
              have r0 := (hZC.2 0 (by simp)).1
              have f0 := (hZC.2 0 (by simp)).2
              simp only [List.getD, List.getElem?_cons_zero, Option.getD_some] at r0
              have lZC := hZC.1
              have hkC : w11.heap.size ≤ C := by omega
              go_simp
              obtain ⟨XSC, eS⟩ : ∃ X, X = (XC.setCell ⟨C, 0, none⟩ (.slice a3 N k3)) := ⟨_, rfl⟩
              rw [← eS]
              have hPC : Bk XSC C [.slice a3 N k3] := by rw [eS]; exact bk_put (l := [.slice a3 N k3]) hZC rfl
              have hzC1 : XSC.heap.size ≤ XC.heap.size := by rw [eS]; exact Nat.le_of_eq (size_put C [.slice a3 N k3] 0 XC)
              have hzC2 : XC.heap.size ≤ XSC.heap.size := by rw [eS]; exact Nat.le_of_eq (size_put C [.slice a3 N k3] 0 XC).symm
              have hmC : ∀ b, ¬ b = C → Sm XC XSC b := by rw [eS]; exact fun b hb => sm_put hb [.slice a3 N k3] 0 XC
              have hBC : Below (w11.heap.size) w11 XSC := by rw [eS]; exact below_put hkC [.slice a3 N k3] 0 hHeld
              clear eS r0 f0
              replace hO := hO.sm hzC2 (fun b q1 q2 => hmC b (by omega))
              refine hK.out _ _ hBC (fun hNew => ?_)
              clear hK K hHeld
              have hHeld := hNew
              clear hNew
              try simp only [Act.put, List.setIfInBounds_toArray, List.set_cons_zero, List.set_cons_succ, List.getElem_toArray, List.getElem_cons_zero, List.getElem_cons_succ]
              refine wpAnyH_take (i := 14) (v := .bool TB) rfl (by kernel_rfl) (by kernel_rfl) (by kernel_rfl) (fun _ _ _ h => h) (Or.inl ⟨by rfl, ?_⟩) (by assumption) ?_
              · intro wx hSw; obtain ⟨hcS, hfS⟩ := bcellN hSw; go_simp
              try simp only [Act.put, List.setIfInBounds_toArray, List.set_cons_zero, List.set_cons_succ, List.getElem_toArray, List.getElem_cons_zero, List.getElem_cons_succ]
              refine wpAnyH_done (by kernel_rfl) ?_ _
              go_wp2
              go_meet
              case rel => exact ⟨C, lg, hg, a3, k3, rfl, rfl, hPC, hO, ⟨by omega, hPC.1, by omega, by omega, by omega, by omega⟩, hHeld⟩
            · go_simp
              obtain ⟨XC, eA⟩ : ∃ X, X = xt.alloc (.cells #[.slice none 0 0] 28) := ⟨_, rfl⟩
              rw [← eA]
              have hbA : Below xt.heap.size xt XC := by rw [eA]; exact (Below.refl _ _).alloc (Nat.le_refl _) _
              have hZC : Bk XC xt.heap.size [.slice none 0 0] := by rw [eA]; exact bk_new xt 28 [.slice none 0 0]
              have hzAC1 : XC.heap.size ≤ xt.heap.size + 1 := by rw [eA]; simp
              have hzAC2 : xt.heap.size + 1 ≤ XC.heap.size := by rw [eA]; simp
              clear eA
              replace hC := hC.below hbA
              have hsz_XC := hbA.size
              refine hK.out _ _ (bthenN hHeld (by omega) hbA) (fun hNew => ?_)
              clear hK K hHeld
              have hHeld := hNew
              clear hNew
              try simp only [Act.put, List.setIfInBounds_toArray, List.set_cons_zero, List.set_cons_succ, List.getElem_toArray, List.getElem_cons_zero, List.getElem_cons_succ]
              clear hbA
              obtain ⟨C, eC⟩ : ∃ g, g = xt.heap.size := ⟨_, rfl⟩
              rw [← eC] at hZC ⊢
              have eC1 : C ≤ xt.heap.size := by omega
              have eC2 : xt.heap.size ≤ C := by omega
              clear eC
              refine wpAnyH_ready (rs := [8]) (by kernel_rfl) (by simp) ?_
              refine (AllReadyH.cons rfl (fun K hK => ?_) AllReadyH.nil)
              go_simp
              go_wp2_with fail
              refine (ask_impl c d _ n n Z who kind tz nn hwf hn2 _ hC.row).mono ?_
              rintro e xg ⟨⟨u, rfl, hO⟩, hxg⟩
              rw [EN.out, EY.out] at hO
              rw [ET.out]
              obtain ⟨a3, k3, eu, _⟩ := hO.at
              subst eu
              obtain ⟨lg, elg⟩ : ∃ l, l = XC.heap.size := ⟨_, rfl⟩
              obtain ⟨hg, ehg⟩ : ∃ l, l = xg.heap.size := ⟨_, rfl⟩
              rw [← elg, ← ehg] at hO
              have elg1 : lg ≤ XC.heap.size := by omega
              have elg2 : XC.heap.size ≤ lg := by omega
              have ehg1 : hg ≤ xg.heap.size := by omega
              have ehg2 : xg.heap.size ≤ hg := by omega
              clear elg ehg
              replace hC := hC.below hxg
              replace hZC := hZC.below hxg
              have hsz_xg := hxg.size
              refine hK.out _ _ (bthenN hHeld (by omega) hxg) (fun hNew => ?_)
              clear hK K hHeld
              have hHeld := hNew
              clear hNew
              try simp only [Act.put, List.setIfInBounds_toArray, List.set_cons_zero, List.set_cons_succ, List.getElem_toArray, List.getElem_cons_zero, List.getElem_cons_succ]
              refine wpAnyH_take (i := 9) (v := .tuple #[.agg #[.slice a3 N k3], .bool TB]) rfl (by kernel_rfl) (by kernel_rfl) (by kernel_rfl) (fun _ _ _ h => h) (Or.inl ⟨by rfl, ?_⟩) (by assumption) ?_
              · intro wx hSw; obtain ⟨hcS, hfS⟩ := bcellN hSw; go_simp
              try simp only [Act.put, List.setIfInBounds_toArray, List.set_cons_zero, List.set_cons_succ, List.getElem_toArray, List.getElem_cons_zero, List.getElem_cons_succ]
              refine wpAnyH_take (i := 10) (v := .agg #[.slice a3 N k3]) rfl (by kernel_rfl) (by kernel_rfl) (by kernel_rfl) (fun _ _ _ h => h) (Or.inl ⟨by rfl, ?_⟩) (by assumption) ?_
              · intro wx hSw; obtain ⟨hcS, hfS⟩ := bcellN hSw; go_simp
              try simp only [Act.put, List.setIfInBounds_toArray, List.set_cons_zero, List.set_cons_succ, List.getElem_toArray, List.getElem_cons_zero, List.getElem_cons_succ]
              refine wpAnyH_take (i := 11) (v := .bool TB) rfl (by kernel_rfl) (by kernel_rfl) (by kernel_rfl) (fun _ _ _ h => h) (Or.inl ⟨by rfl, ?_⟩) (by assumption) ?_
              · intro wx hSw; obtain ⟨hcS, hfS⟩ := bcellN hSw; go_simp
              try simp only [Act.put, List.setIfInBounds_toArray, List.set_cons_zero, List.set_cons_succ, List.getElem_toArray, List.getElem_cons_zero, List.getElem_cons_succ]
              refine wpAnyH_ready (rs := [13]) (by kernel_rfl) (by simp) ?_
              refine (AllReadyH.cons rfl (fun K hK => ?_) AllReadyH.nil)
              have r0 := (hZC.2 0 (by simp)).1
              have f0 := (hZC.2 0 (by simp)).2
              simp only [List.getD, List.getElem?_cons_zero, Option.getD_some] at r0
              have lZC := hZC.1
              have hkC : w11.heap.size ≤ C := by omega
              go_simp
              obtain ⟨XSC, eS⟩ : ∃ X, X = (xg.setCell ⟨C, 0, none⟩ (.slice a3 N k3)) := ⟨_, rfl⟩
              rw [← eS]
              have hPC : Bk XSC C [.slice a3 N k3] := by rw [eS]; exact bk_put (l := [.slice a3 N k3]) hZC rfl
              have hzC1 : XSC.heap.size ≤ xg.heap.size := by rw [eS]; exact Nat.le_of_eq (size_put C [.slice a3 N k3] 0 xg)
              have hzC2 : xg.heap.size ≤ XSC.heap.size := by rw [eS]; exact Nat.le_of_eq (size_put C [.slice a3 N k3] 0 xg).symm
              have hmC : ∀ b, ¬ b = C → Sm xg XSC b := by rw [eS]; exact fun b hb => sm_put hb [.slice a3 N k3] 0 xg
              have hBC : Below (w11.heap.size) w11 XSC := by rw [eS]; exact below_put hkC [.slice a3 N k3] 0 hHeld
              clear eS r0 f0
              replace hO := hO.sm hzC2 (fun b q1 q2 => hmC b (by omega))
              refine hK.out _ _ hBC (fun hNew => ?_)
              clear hK K hHeld
              have hHeld := hNew
              clear hNew
              try simp only [Act.put, List.setIfInBounds_toArray, List.set_cons_zero, List.set_cons_succ, List.getElem_toArray, List.getElem_cons_zero, List.getElem_cons_succ]
              refine wpAnyH_take (i := 14) (v := .bool TB) rfl (by kernel_rfl) (by kernel_rfl) (by kernel_rfl) (fun _ _ _ h => h) (Or.inl ⟨by rfl, ?_⟩) (by assumption) ?_
              · intro wx hSw; obtain ⟨hcS, hfS⟩ := bcellN hSw; go_simp
              try simp only [Act.put, List.setIfInBounds_toArray, List.set_cons_zero, List.set_cons_succ, List.getElem_toArray, List.getElem_cons_zero, List.getElem_cons_succ]
              refine wpAnyH_done (by kernel_rfl) ?_ _
              go_wp2
              go_meet
              case rel => exact ⟨C, lg, hg, a3, k3, rfl, rfl, hPC, hO, ⟨by omega, hPC.1, by omega, by omega, by omega, by omega⟩, hHeld⟩
          · go_simp
            obtain ⟨XC, eA⟩ : ∃ X, X = xm.alloc (.cells #[.slice none 0 0] 28) := ⟨_, rfl⟩
            rw [← eA]
            have hbA : Below xm.heap.size xm XC := by rw [eA]; exact (Below.refl _ _).alloc (Nat.le_refl _) _
            have hZC : Bk XC xm.heap.size [.slice none 0 0] := by rw [eA]; exact bk_new xm 28 [.slice none 0 0]
            have hzAC1 : XC.heap.size ≤ xm.heap.size + 1 := by rw [eA]; simp
            have hzAC2 : xm.heap.size + 1 ≤ XC.heap.size := by rw [eA]; simp
            clear eA
            have hsz_XC := hbA.size
            refine hK.out _ _ (bthenN hHeld (by omega) hbA) (fun hNew => ?_)
            clear hK K hHeld
            have hHeld := hNew
            clear hNew
            try simp only [Act.put, List.setIfInBounds_toArray, List.set_cons_zero, List.set_cons_succ, List.getElem_toArray, List.getElem_cons_zero, List.getElem_cons_succ]
            clear hbA
            obtain ⟨C, eC⟩ : ∃ g, g = xm.heap.size := ⟨_, rfl⟩
            rw [← eC] at hZC ⊢
            have eC1 : C ≤ xm.heap.size := by omega
            have eC2 : xm.heap.size ≤ C := by omega
            clear eC
            refine wpAnyH_ready (rs := [3]) (by kernel_rfl) (by simp) ?_
            refine (AllReadyH.cons rfl (fun K hK => ?_) AllReadyH.nil)
            go_simp
            go_wp2_with fail
            refine (toBookC a n cap Z hn2 _ (P10.row_below H0.out (bthen B22.out hHeld))).mono ?_
            rintro e xt ⟨⟨bt, rfl, hC, hbt⟩, hxt⟩
            replace hZC := hZC.below hxt
            have hsz_xt := hxt.size
            refine hK.out _ _ (bthenN hHeld (by omega) hxt) (fun hNew => ?_)
            clear hK K hHeld
            have hHeld := hNew
            clear hNew
            try simp only [Act.put, List.setIfInBounds_toArray, List.set_cons_zero, List.set_cons_succ, List.getElem_toArray, List.getElem_cons_zero, List.getElem_cons_succ]
            refine wpAnyH_ready (rs := [8]) (by kernel_rfl) (by simp) ?_
            refine (AllReadyH.cons rfl (fun K hK => ?_) AllReadyH.nil)
            go_simp
            go_wp2_with fail
            refine (ask_impl c d _ n n Z who kind tz nn hwf hn2 _ hC.row).mono ?_
            rintro e xg ⟨⟨u, rfl, hO⟩, hxg⟩
            rw [EN.out, EY.out] at hO
            rw [ET.out]
            obtain ⟨a3, k3, eu, _⟩ := hO.at
            subst eu
            obtain ⟨lg, elg⟩ : ∃ l, l = xt.heap.size := ⟨_, rfl⟩
            obtain ⟨hg, ehg⟩ : ∃ l, l = xg.heap.size := ⟨_, rfl⟩
            rw [← elg, ← ehg] at hO
            have elg1 : lg ≤ xt.heap.size := by omega
            have elg2 : xt.heap.size ≤ lg := by omega
            have ehg1 : hg ≤ xg.heap.size := by omega
            have ehg2 : xg.heap.size ≤ hg := by omega
            clear elg ehg
            replace hZC := hZC.below hxg
            replace hC := hC.below hxg
            have hsz_xg := hxg.size
            refine hK.out _ _ (bthenN hHeld (by omega) hxg) (fun hNew => ?_)
            clear hK K hHeld
            have hHeld := hNew
            clear hNew
            try simp only [Act.put, List.setIfInBounds_toArray, List.set_cons_zero, List.set_cons_succ, List.getElem_toArray, List.getElem_cons_zero, List.getElem_cons_succ]
            refine wpAnyH_take (i := 9) (v := .tuple #[.agg #[.slice a3 N k3], .bool TB]) rfl (by kernel_rfl) (by kernel_rfl) (by kernel_rfl) (fun _ _ _ h => h) (Or.inl ⟨by rfl, ?_⟩) (by assumption) ?_
            · intro wx hSw; obtain ⟨hcS, hfS⟩ := bcellN hSw; go_simp
            try simp only [Act.put, List.setIfInBounds_toArray, List.set_cons_zero, List.set_cons_succ, List.getElem_toArray, List.getElem_cons_zero, List.getElem_cons_succ]
            refine wpAnyH_take (i := 10) (v := .agg #[.slice a3 N k3]) rfl (by kernel_rfl) (by kernel_rfl) (by kernel_rfl) (fun _ _ _ h => h) (Or.inl ⟨by rfl, ?_⟩) (by assumption) ?_
            · intro wx hSw; obtain ⟨hcS, hfS⟩ := bcellN hSw; go_simp
            try simp only [Act.put, List.setIfInBounds_toArray, List.set_cons_zero, List.set_cons_succ, List.getElem_toArray, List.getElem_cons_zero, List.getElem_cons_succ]
            refine wpAnyH_take (i := 11) (v := .bool TB) rfl (by kernel_rfl) (by kernel_rfl) (by kernel_rfl) (fun _ _ _ h => h) (Or.inl ⟨by rfl, ?_⟩) (by assumption) ?_
            · intro wx hSw; obtain ⟨hcS, hfS⟩ := bcellN hSw; go_simp
            try simp only [Act.put, List.setIfInBounds_toArray, List.set_cons_zero, List.set_cons_succ, List.getElem_toArray, List.getElem_cons_zero, List.getElem_cons_succ]
            refine wpAnyH_ready (rs := [13]) (by kernel_rfl) (by simp) ?_
            refine (AllReadyH.cons rfl (fun K hK => ?_) AllReadyH.nil)
            have r0 := (hZC.2 0 (by simp)).1
            have f0 := (hZC.2 0 (by simp)).2
            simp only [List.getD, List.getElem?_cons_zero, Option.getD_some] at r0
            have lZC := hZC.1
            have hkC : w11.heap.size ≤ C := by omega
            go_simp
            obtain ⟨XSC, eS⟩ : ∃ X, X = (xg.setCell ⟨C, 0, none⟩ (.slice a3 N k3)) := ⟨_, rfl⟩
            rw [← eS]
            have hPC : Bk XSC C [.slice a3 N k3] := by rw [eS]; exact bk_put (l := [.slice a3 N k3]) hZC rfl
            have hzC1 : XSC.heap.size ≤ xg.heap.size := by rw [eS]; exact Nat.le_of_eq (size_put C [.slice a3 N k3] 0 xg)
            have hzC2 : xg.heap.size ≤ XSC.heap.size := by rw [eS]; exact Nat.le_of_eq (size_put C [.slice a3 N k3] 0 xg).symm
            have hmC : ∀ b, ¬ b = C → Sm xg XSC b := by rw [eS]; exact fun b hb => sm_put hb [.slice a3 N k3] 0 xg
            have hBC : Below (w11.heap.size) w11 XSC := by rw [eS]; exact below_put hkC [.slice a3 N k3] 0 hHeld
            clear eS r0 f0
            replace hO := hO.sm hzC2 (fun b q1 q2 => hmC b (by omega))
            refine hK.out _ _ hBC (fun hNew => ?_)
            clear hK K hHeld
            have hHeld := hNew
            clear hNew
            try simp only [Act.put, List.setIfInBounds_toArray, List.set_cons_zero, List.set_cons_succ, List.getElem_toArray, List.getElem_cons_zero, List.getElem_cons_succ]
            refine wpAnyH_take (i := 14) (v := .bool TB) rfl (by kernel_rfl) (by kernel_rfl) (by kernel_rfl) (fun _ _ _ h => h) (Or.inl ⟨by rfl, ?_⟩) (by assumption) ?_
            · intro wx hSw; obtain ⟨hcS, hfS⟩ := bcellN hSw; go_simp
            try simp only [Act.put, List.setIfInBounds_toArray, List.set_cons_zero, List.set_cons_succ, List.getElem_toArray, List.getElem_cons_zero, List.getElem_cons_succ]
            refine wpAnyH_done (by kernel_rfl) ?_ _
            go_wp2
            go_meet
            case rel => exact ⟨C, lg, hg, a3, k3, rfl, rfl, hPC, hO, ⟨by omega, hPC.1, by omega, by omega, by omega, by omega⟩, hHeld⟩
        · go_simp
          obtain ⟨XC, eA⟩ : ∃ X, X = X0.alloc (.cells #[.slice none 0 0] 28) := ⟨_, rfl⟩
          rw [← eA]
          have hbA : Below X0.heap.size X0 XC := by rw [eA]; exact (Below.refl _ _).alloc (Nat.le_refl _) _
          have hZC : Bk XC X0.heap.size [.slice none 0 0] := by rw [eA]; exact bk_new X0 28 [.slice none 0 0]
          have hzAC1 : XC.heap.size ≤ X0.heap.size + 1 := by rw [eA]; simp
          have hzAC2 : X0.heap.size + 1 ≤ XC.heap.size := by rw [eA]; simp
          clear eA
          have hsz_XC := hbA.size
          refine hK.out _ _ (bthenN hHeld (by omega) hbA) (fun hNew => ?_)
          clear hK K hHeld
          have hHeld := hNew
          clear hNew
          try simp only [Act.put, List.setIfInBounds_toArray, List.set_cons_zero, List.set_cons_succ, List.getElem_toArray, List.getElem_cons_zero, List.getElem_cons_succ]
          clear hbA
          obtain ⟨C, eC⟩ : ∃ g, g = X0.heap.size := ⟨_, rfl⟩
          rw [← eC] at hZC ⊢
          have eC1 : C ≤ X0.heap.size := by omega
          have eC2 : X0.heap.size ≤ C := by omega
          clear eC
          refine wpAnyH_ready (rs := [1]) (by kernel_rfl) (by simp) ?_
          refine (AllReadyH.cons rfl (fun K hK => ?_) AllReadyH.nil)
          go_simp
          go_wp2_with fail
          refine (toMap _ _ _).mono ?_
          rintro e xm ⟨rfl, hxm⟩
          replace hZC := hZC.below hxm
          have hsz_xm := hxm.size
          refine hK.out _ _ (bthenN hHeld (by omega) hxm) (fun hNew => ?_)
          clear hK K hHeld
          have hHeld := hNew
          clear hNew
          try simp only [Act.put, List.setIfInBounds_toArray, List.set_cons_zero, List.set_cons_succ, List.getElem_toArray, List.getElem_cons_zero, List.getElem_cons_succ]
          refine wpAnyH_ready (rs := [3]) (by kernel_rfl) (by simp) ?_
          refine (AllReadyH.cons rfl (fun K hK => ?_) AllReadyH.nil)
          go_simp
          go_wp2_with fail
          refine (toBookC a n cap Z hn2 _ (P10.row_below H0.out (bthen B22.out hHeld))).mono ?_
          rintro e xt ⟨⟨bt, rfl, hC, hbt⟩, hxt⟩
          replace hZC := hZC.below hxt
          have hsz_xt := hxt.size
          refine hK.out _ _ (bthenN hHeld (by omega) hxt) (fun hNew => ?_)
          clear hK K hHeld
          have hHeld := hNew
          clear hNew
          try simp only [Act.put, List.setIfInBounds_toArray, List.set_cons_zero, List.set_cons_succ, List.getElem_toArray, List.getElem_cons_zero, List.getElem_cons_succ]
          refine wpAnyH_ready (rs := [8]) (by kernel_rfl) (by simp) ?_
          refine (AllReadyH.cons rfl (fun K hK => ?_) AllReadyH.nil)
          go_simp
          go_wp2_with fail
          refine (ask_impl c d _ n n Z who kind tz nn hwf hn2 _ hC.row).mono ?_
          rintro e xg ⟨⟨u, rfl, hO⟩, hxg⟩
          rw [EN.out, EY.out] at hO
          rw [ET.out]
          obtain ⟨a3, k3, eu, _⟩ := hO.at
          subst eu
          obtain ⟨lg, elg⟩ : ∃ l, l = xt.heap.size := ⟨_, rfl⟩
          obtain ⟨hg, ehg⟩ : ∃ l, l = xg.heap.size := ⟨_, rfl⟩
          rw [← elg, ← ehg] at hO
          have elg1 : lg ≤ xt.heap.size := by omega
          have elg2 : xt.heap.size ≤ lg := by omega
          have ehg1 : hg ≤ xg.heap.size := by omega
          have ehg2 : xg.heap.size ≤ hg := by omega
          clear elg ehg
          replace hZC := hZC.below hxg
          replace hC := hC.below hxg
          have hsz_xg := hxg.size
          refine hK.out _ _ (bthenN hHeld (by omega) hxg) (fun hNew => ?_)
          clear hK K hHeld
          have hHeld := hNew
          clear hNew
          try simp only [Act.put, List.setIfInBounds_toArray, List.set_cons_zero, List.set_cons_succ, List.getElem_toArray, List.getElem_cons_zero, List.getElem_cons_succ]
          refine wpAnyH_take (i := 9) (v := .tuple #[.agg #[.slice a3 N k3], .bool TB]) rfl (by kernel_rfl) (by kernel_rfl) (by kernel_rfl) (fun _ _ _ h => h) (Or.inl ⟨by rfl, ?_⟩) (by assumption) ?_
          · intro wx hSw; obtain ⟨hcS, hfS⟩ := bcellN hSw; go_simp
          try simp only [Act.put, List.setIfInBounds_toArray, List.set_cons_zero, List.set_cons_succ, List.getElem_toArray, List.getElem_cons_zero, List.getElem_cons_succ]
          refine wpAnyH_take (i := 10) (v := .agg #[.slice a3 N k3]) rfl (by kernel_rfl) (by kernel_rfl) (by kernel_rfl) (fun _ _ _ h => h) (Or.inl ⟨by rfl, ?_⟩) (by assumption) ?_
          · intro wx hSw; obtain ⟨hcS, hfS⟩ := bcellN hSw; go_simp
          try simp only [Act.put, List.setIfInBounds_toArray, List.set_cons_zero, List.set_cons_succ, List.getElem_toArray, List.getElem_cons_zero, List.getElem_cons_succ]
          refine wpAnyH_take (i := 11) (v := .bool TB) rfl (by kernel_rfl) (by kernel_rfl) (by kernel_rfl) (fun _ _ _ h => h) (Or.inl ⟨by rfl, ?_⟩) (by assumption) ?_
          · intro wx hSw; obtain ⟨hcS, hfS⟩ := bcellN hSw; go_simp
          try simp only [Act.put, List.setIfInBounds_toArray, List.set_cons_zero, List.set_cons_succ, List.getElem_toArray, List.getElem_cons_zero, List.getElem_cons_succ]
          refine wpAnyH_ready (rs := [13]) (by kernel_rfl) (by simp) ?_
          refine (AllReadyH.cons rfl (fun K hK => ?_) AllReadyH.nil)
          have r0 := (hZC.2 0 (by simp)).1
          have f0 := (hZC.2 0 (by simp)).2
          simp only [List.getD, List.getElem?_cons_zero, Option.getD_some] at r0
          have lZC := hZC.1
          have hkC : w11.heap.size ≤ C := by omega
          go_simp
          obtain ⟨XSC, eS⟩ : ∃ X, X = (xg.setCell ⟨C, 0, none⟩ (.slice a3 N k3)) := ⟨_, rfl⟩
          rw [← eS]
          have hPC : Bk XSC C [.slice a3 N k3] := by rw [eS]; exact bk_put (l := [.slice a3 N k3]) hZC rfl
          have hzC1 : XSC.heap.size ≤ xg.heap.size := by rw [eS]; exact Nat.le_of_eq (size_put C [.slice a3 N k3] 0 xg)
          have hzC2 : xg.heap.size ≤ XSC.heap.size := by rw [eS]; exact Nat.le_of_eq (size_put C [.slice a3 N k3] 0 xg).symm
          have hmC : ∀ b, ¬ b = C → Sm xg XSC b := by rw [eS]; exact fun b hb => sm_put hb [.slice a3 N k3] 0 xg
          have hBC : Below (w11.heap.size) w11 XSC := by rw [eS]; exact below_put hkC [.slice a3 N k3] 0 hHeld
          clear eS r0 f0
          replace hO := hO.sm hzC2 (fun b q1 q2 => hmC b (by omega))
          refine hK.out _ _ hBC (fun hNew => ?_)
          clear hK K hHeld
          have hHeld := hNew
          clear hNew
          try simp only [Act.put, List.setIfInBounds_toArray, List.set_cons_zero, List.set_cons_succ, List.getElem_toArray, List.getElem_cons_zero, List.getElem_cons_succ]
          refine wpAnyH_take (i := 14) (v := .bool TB) rfl (by kernel_rfl) (by kernel_rfl) (by kernel_rfl) (fun _ _ _ h => h) (Or.inl ⟨by rfl, ?_⟩) (by assumption) ?_
          · intro wx hSw; obtain ⟨hcS, hfS⟩ := bcellN hSw; go_simp
          try simp only [Act.put, List.setIfInBounds_toArray, List.set_cons_zero, List.set_cons_succ, List.getElem_toArray, List.getElem_cons_zero, List.getElem_cons_succ]
          refine wpAnyH_done (by kernel_rfl) ?_ _
          go_wp2
          go_meet
          case rel => exact ⟨C, lg, hg, a3, k3, rfl, rfl, hPC, hO, ⟨by omega, hPC.1, by omega, by omega, by omega, by omega⟩, hHeld⟩
      case rest =>
        obtain ⟨w12, hwn⟩ : ∃ wn, wn = wc := ⟨_, rfl⟩
        subst hwn
        obtain ⟨g3, l3, h3, a3, k3, rfl, rfl, hG, hO, ⟨c31, c32, c33, c34, c35, c36⟩, hb⟩ := hcut
        have y_w12 : w11.heap.size ≤ w12.heap.size := hb.size
        have B23 : Hid (Below w.heap.size w w12) := bthen B22.out hb
        have M23 : Hid (Bk w12 w.heap.size [.int .i64 c, .int .i64 d]) := M22.out.below hb
        have A23 : Hid (Bk w12 (w.heap.size + 1) [.slice a n cap]) := A22.out.below hb
        have O1_23 : Hid (P10.RL l1 h1 w12 (.slice a1 N k1) N Y) := O1_22.out.below hb
        have G1_23 : Hid (Bk w12 g1 [.slice a1 N k1]) := G1_22.out.below hb
        have X23 : Hid (Bk w12 gx [.slice (some ⟨bx, 0, none⟩) n n]) := X22.out.below hb
        have G2_23 : Hid (Bk w12 g2 [.slice a2 N k2]) := G2_22.out.below hb
        have O2_23 : Hid (P10.RL l2 h2 w12 (.slice a2 N k2) N (P10.Mk 10 1)) := O2_22.out.below hb
        clear B22 M22 A22 O1_22 G1_22 X22 G2_22 O2_22
        have O3_24 : Hid (P10.RL l3 h3 w12 (.slice a3 N k3) N Y) := hO
        have G3_25 : Hid (Bk w12 g3 [.slice a3 N k3]) := hG
        clear hO hG hb
        have yG1_0 : w12.cell? ⟨g1, 0, none⟩ = some (.slice a1 N k1) := (G1_23.out.2 0 (by simp)).1
        have hlG1_ : g1 < w12.heap.size := G1_23.out.1
        have yG3_0 : w12.cell? ⟨g3, 0, none⟩ = some (.slice a3 N k3) := (G3_25.out.2 0 (by simp)).1
        have hlG3_ : g3 < w12.heap.size := G3_25.out.1
        go_wp2_with fail
        refine (eqBook a3 k3 a1 k1 N Y (by omega) _ (rl_row O3_24.out) (rl_row O1_23.out)).mono ?_
        rintro e w13 ⟨rfl, hb⟩
        clear yG1_0 hlG1_ yG3_0 hlG3_
        have y_w13 : w12.heap.size ≤ w13.heap.size := hb.size
        have B26 : Hid (Below w.heap.size w w13) := bthen B23.out hb
        have M26 : Hid (Bk w13 w.heap.size [.int .i64 c, .int .i64 d]) := M23.out.below hb
        have A26 : Hid (Bk w13 (w.heap.size + 1) [.slice a n cap]) := A23.out.below hb
        have O1_26 : Hid (P10.RL l1 h1 w13 (.slice a1 N k1) N Y) := O1_23.out.below hb
        have G1_26 : Hid (Bk w13 g1 [.slice a1 N k1]) := G1_23.out.below hb
        have X26 : Hid (Bk w13 gx [.slice (some ⟨bx, 0, none⟩) n n]) := X23.out.below hb
        have G2_26 : Hid (Bk w13 g2 [.slice a2 N k2]) := G2_23.out.below hb
        have O2_26 : Hid (P10.RL l2 h2 w13 (.slice a2 N k2) N (P10.Mk 10 1)) := O2_23.out.below hb
        have O3_26 : Hid (P10.RL l3 h3 w13 (.slice a3 N k3) N Y) := O3_24.out.below hb
        have G3_26 : Hid (Bk w13 g3 [.slice a3 N k3]) := G3_25.out.below hb
        clear B23 M23 A23 O1_23 G1_23 X23 G2_23 O2_23 O3_24 G3_25
        clear hb
        have yG2_0 : w13.cell? ⟨g2, 0, none⟩ = some (.slice a2 N k2) := (G2_26.out.2 0 (by simp)).1
        have hlG2_ : g2 < w13.heap.size := G2_26.out.1
        go_wp2_with fail
        clear yG2_0 hlG2_
        refine (heldBook l2 h2 1 _ N (by omega) (by omega) _ O2_26.out).mono ?_
        rintro e w14 ⟨rfl, hb⟩
        rw [← EQ.out]
        have y_w14 : w13.heap.size ≤ w14.heap.size := hb.size
        have B27 : Hid (Below w.heap.size w w14) := bthen B26.out hb
        have M27 : Hid (Bk w14 w.heap.size [.int .i64 c, .int .i64 d]) := M26.out.below hb
        have A27 : Hid (Bk w14 (w.heap.size + 1) [.slice a n cap]) := A26.out.below hb
        have O1_27 : Hid (P10.RL l1 h1 w14 (.slice a1 N k1) N Y) := O1_26.out.below hb
        have G1_27 : Hid (Bk w14 g1 [.slice a1 N k1]) := G1_26.out.below hb
        have X27 : Hid (Bk w14 gx [.slice (some ⟨bx, 0, none⟩) n n]) := X26.out.below hb
        have G2_27 : Hid (Bk w14 g2 [.slice a2 N k2]) := G2_26.out.below hb
        have O2_27 : Hid (P10.RL l2 h2 w14 (.slice a2 N k2) N (P10.Mk 10 1)) := O2_26.out.below hb
        have O3_27 : Hid (P10.RL l3 h3 w14 (.slice a3 N k3) N Y) := O3_26.out.below hb
        have G3_27 : Hid (Bk w14 g3 [.slice a3 N k3]) := G3_26.out.below hb
        clear B26 M26 A26 O1_26 G1_26 X26 G2_26 O2_26 O3_26 G3_26
        clear hb
        go_wp2
        go_ret
        exact ⟨rfl, B27.out⟩
end Go.Proofs.Ytgjapdjidighlaa
