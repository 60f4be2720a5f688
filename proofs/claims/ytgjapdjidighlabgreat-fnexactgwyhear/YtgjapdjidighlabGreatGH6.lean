/- The law FnExactGwyHear; conditions: those typed. -/
import Derived.Test.YtgjapdjidighlabGreatTk
import Derived.Test.YtgjapdjidighlabGreatGH5
import Derived.Test.YtgjapdjidighlabGreatMsg8
import Derived.Deep.DeepCutAuto
namespace Go.Proofs.YtgjapdjidighlabGreat
open Go.RowKit Go.Deep
set_option linter.unusedVariables false
theorem bthenN {n : Nat} {a b c : World} (h : Below n a b) (hn : n ≤ a.heap.size) (k : Below b.heap.size b c) : Below n a c := h.trans (k.mono (Nat.le_trans hn h.size))
theorem bcellN {n : Nat} {W w1 : World} (hb : Below n W w1) : (∀ b o, b < n → w1.cell? ⟨b, o, none⟩ = W.cell? ⟨b, o, none⟩) ∧ (∀ b o, b < n → w1.frozen? ⟨b, o, none⟩ = W.frozen? ⟨b, o, none⟩) :=
  ⟨fun b o h => hb.cell (p := ⟨b, o, none⟩) h, fun b o h => hb.frozen (p := ⟨b, o, none⟩) h⟩
def Cp (w : World) (B n : Nat) (Z : Nat → Nat → Int) : Prop := B < w.heap.size ∧ P10.OwnK w B n Z n
theorem Cp.below {w w' : World} {B n : Nat} {Z : Nat → Nat → Int} (h : Cp w B n Z) (hb : Below w.heap.size w w') : Cp w' B n Z := ⟨Nat.lt_of_lt_of_le h.1 hb.size, P10.own_below h.2 h.1 hb⟩
theorem Cp.row {w : World} {B n : Nat} {Z : Nat → Nat → Int} (h : Cp w B n Z) : P10.RowK w (some ⟨B, 0, none⟩) n Z := P10.row_of_own h.2 h.1
theorem Cp.rl {w : World} {lo B n : Nat} {Z : Nat → Nat → Int} (h : Cp w B n Z) (h1 : lo ≤ B) : P10.RL lo w.heap.size w (.slice (some ⟨B, 0, none⟩) n n) n Z := .inr ⟨B, n, rfl, h1, h.1, Nat.le_refl _, h.2⟩
theorem toBookC (a : Option Addr) (n cap : Nat) (Z : Nat → Nat → Int) (hn : n ≤ 1048576) (w : World) (h : P10.RowK w a n Z) :
    Calls Tryz.prog 7 #[.agg #[.slice a n cap]] w fun e w' => (∃ B, e = .returned (.agg #[.slice (some ⟨B, 0, none⟩) n n]) ∧ Cp w' B n Z ∧ w.heap.size ≤ B) ∧ Below w.heap.size w w' := by
  refine (toBook a n cap Z hn w h).mono ?_
  rintro e w' ⟨⟨B, h1, h2, h3, h4⟩, hb⟩
  exact ⟨⟨B, h1, ⟨h3, h2⟩, h4⟩, hb⟩
theorem ghN_le {c d sv k : Int} {n : Nat} {Z : Nat → Nat → Int} {x : Nat → Int} : ghN c d sv n Z k x ≤ n := by unfold ghN; split <;> omega
attribute [local go_sem ↓] load33_eq
attribute [local go_sem] run_load33 cellD
set_option maxRecDepth 20000 in
set_option maxHeartbeats 16000000 in
theorem law_gwyHear (c d : Int) (a : Option Addr) (n cap : Nat) (Z : Nat → Nat → Int) (hn : n ≤ maxLen) (sv k : Int) (x : Nat → Int) (w : World) (h : P10.RowK w a n Z) :
    Calls Tryz.prog 3 #[.agg #[.int .i64 c, .int .i64 d], .agg #[.slice a n cap], .int .i64 sv, .agg #[.int .i64 k, .int .i64 (x 1), .int .i64 (x 2), .int .i64 (x 3), .int .i64 (x 4), .int .i64 (x 5), .int .i64 (x 6), .int .i64 (x 7), .int .i64 (x 8), .int .i64 (x 9), .int .i64 (x 10), .int .i64 (x 11), .int .i64 (x 12), .int .i64 (x 13), .int .i64 (x 14), .int .i64 (x 15), .int .i64 (x 16), .int .i64 (x 17), .int .i64 (x 18), .int .i64 (x 19), .int .i64 (x 20), .int .i64 (x 21), .int .i64 (x 22), .int .i64 (x 23), .int .i64 (x 24)]] w fun e w' => e = .returned (.bool true) ∧ Below w.heap.size w w' := by
  have H0 : Hid (P10.RowK w a n Z) := h
  clear h
  have hn' : (n : Int) ≤ 9223372036854775807 := by unfold maxLen at hn; omega
  clear hn
  obtain ⟨N, eN⟩ : ∃ N, ghN c d sv n Z k x = N := ⟨_, rfl⟩
  have hNn : N ≤ n := by rw [← eN]; exact ghN_le
  obtain ⟨Y, eY⟩ : ∃ Y, (heardR c n Z k x).1 = Y := ⟨_, rfl⟩
  obtain ⟨TB, eT⟩ : ∃ t, ghB c d sv n Z k x = t := ⟨_, rfl⟩
  have EN : Hid (ghN c d sv n Z k x = N) := eN
  have EY : Hid ((heardR c n Z k x).1 = Y) := eY
  have ET : Hid (ghB c d sv n Z k x = TB) := eT
  clear eN eY eT
  go_enter Tryz.func3, Tryz.ntmps3
  go_upto_region 1 with fail
  obtain ⟨w0, e0⟩ : ∃ w0, w0 = ((w.alloc (.cells #[.int .i64 c, .int .i64 d] 23)).alloc (.cells #[.slice a n cap] 26)).alloc (.cells #[.int .i64 k, .int .i64 (x 1), .int .i64 (x 2), .int .i64 (x 3), .int .i64 (x 4), .int .i64 (x 5), .int .i64 (x 6), .int .i64 (x 7), .int .i64 (x 8), .int .i64 (x 9), .int .i64 (x 10), .int .i64 (x 11), .int .i64 (x 12), .int .i64 (x 13), .int .i64 (x 14), .int .i64 (x 15), .int .i64 (x 16), .int .i64 (x 17), .int .i64 (x 18), .int .i64 (x 19), .int .i64 (x 20), .int .i64 (x 21), .int .i64 (x 22), .int .i64 (x 23), .int .i64 (x 24)] 36) := ⟨_, rfl⟩
  have B1 : Hid (Below w.heap.size w w0) := by rw [e0]; exact (((Below.refl _ _).alloc (by simp) _).alloc (by simp) _).alloc (by simp; omega) _
  have M2 : Hid (Bk w0 w.heap.size [.int .i64 c, .int .i64 d]) := by rw [e0]; exact ((bk_new w 23 [.int .i64 c, .int .i64 d]).below ((Below.refl _ _).alloc (Nat.le_refl _) _)).below ((Below.refl _ _).alloc (Nat.le_refl _) _)
  have A3 : Hid (Bk w0 (w.heap.size + 1) [.slice a n cap]) := by rw [e0]; have := (bk_new (w.alloc (.cells #[.int .i64 c, .int .i64 d] 23)) 26 [.slice a n cap]).below ((Below.refl _ _).alloc (Nat.le_refl _) (.cells #[.int .i64 k, .int .i64 (x 1), .int .i64 (x 2), .int .i64 (x 3), .int .i64 (x 4), .int .i64 (x 5), .int .i64 (x 6), .int .i64 (x 7), .int .i64 (x 8), .int .i64 (x 9), .int .i64 (x 10), .int .i64 (x 11), .int .i64 (x 12), .int .i64 (x 13), .int .i64 (x 14), .int .i64 (x 15), .int .i64 (x 16), .int .i64 (x 17), .int .i64 (x 18), .int .i64 (x 19), .int .i64 (x 20), .int .i64 (x 21), .int .i64 (x 22), .int .i64 (x 23), .int .i64 (x 24)] 36)); rwa [show (w.alloc (.cells #[.int .i64 c, .int .i64 d] 23)).heap.size = w.heap.size + 1 by simp] at this
  have T4 : Hid (Bk w0 (w.heap.size + 1 + 1) [.int .i64 k, .int .i64 (x 1), .int .i64 (x 2), .int .i64 (x 3), .int .i64 (x 4), .int .i64 (x 5), .int .i64 (x 6), .int .i64 (x 7), .int .i64 (x 8), .int .i64 (x 9), .int .i64 (x 10), .int .i64 (x 11), .int .i64 (x 12), .int .i64 (x 13), .int .i64 (x 14), .int .i64 (x 15), .int .i64 (x 16), .int .i64 (x 17), .int .i64 (x 18), .int .i64 (x 19), .int .i64 (x 20), .int .i64 (x 21), .int .i64 (x 22), .int .i64 (x 23), .int .i64 (x 24)]) := by rw [e0]; have := bk_new ((w.alloc (.cells #[.int .i64 c, .int .i64 d] 23)).alloc (.cells #[.slice a n cap] 26)) 36 [.int .i64 k, .int .i64 (x 1), .int .i64 (x 2), .int .i64 (x 3), .int .i64 (x 4), .int .i64 (x 5), .int .i64 (x 6), .int .i64 (x 7), .int .i64 (x 8), .int .i64 (x 9), .int .i64 (x 10), .int .i64 (x 11), .int .i64 (x 12), .int .i64 (x 13), .int .i64 (x 14), .int .i64 (x 15), .int .i64 (x 16), .int .i64 (x 17), .int .i64 (x 18), .int .i64 (x 19), .int .i64 (x 20), .int .i64 (x 21), .int .i64 (x 22), .int .i64 (x 23), .int .i64 (x 24)]; rwa [show ((w.alloc (.cells #[.int .i64 c, .int .i64 d] 23)).alloc (.cells #[.slice a n cap] 26)).heap.size = w.heap.size + 1 + 1 by simp] at this
  rw [← e0]
  clear e0
  have y0 : w.heap.size + 1 + 1 < w0.heap.size := T4.out.1
  have yA0 := A3.out.a1
  have hlA : (w.heap.size + 1) < w0.heap.size := A3.out.1
  go_wp2_with fail
  refine (szBook a n cap hn' _).mono ?_
  rintro e w1 ⟨rfl, hb1⟩
  clear yA0 hlA
  have y_w1 : w0.heap.size ≤ w1.heap.size := hb1.size
  have B5 := hid (bthen B1.out hb1)
  have M5 := hid (M2.out.below hb1)
  have A5 := hid (A3.out.below hb1)
  have T5 := hid (T4.out.below hb1)
  clear B1 M2 A3 T4
  clear hb1
  by_cases hle : (n : Int) ≤ 1048576
  rotate_left
  · rw [if_neg hle]
    go_wp2
    go_ret
    exact ⟨rfl, B5.out⟩
  rw [if_pos hle]
  have hn2 : n ≤ 1048576 := by omega
  have hle2 : ¬ 1048576 - (n : Int) < 0 := by omega
  clear hle
  go_upto_region 5 with fail
  go_cut [10, 11] (fun s t wx => ∃ g l h a1 k1, .pointer (some ⟨g, 0, none⟩) = s ∧ .bool TB = t ∧ Bk wx g [.slice a1 N k1] ∧ P10.RL l h wx (.slice a1 N k1) N Y ∧ (w1.heap.size ≤ g ∧ g < wx.heap.size ∧ w1.heap.size ≤ l ∧ l ≤ h ∧ h ≤ wx.heap.size ∧ (g < l ∨ h ≤ g)) ∧ Below w1.heap.size w1 wx)
  case first =>
    obtain ⟨yM0, yM1⟩ := M5.out.a2
    have hlM : w.heap.size < w1.heap.size := M5.out.1
    have yA0 := A5.out.a1
    have hlA : (w.heap.size + 1) < w1.heap.size := A5.out.1
    obtain ⟨yT0, yT1, yT2, yT3, yT4, yT5, yT6, yT7, yT8, yT9, yT10, yT11, yT12, yT13, yT14, yT15, yT16, yT17, yT18, yT19, yT20, yT21, yT22, yT23, yT24⟩ := T5.out.a25
    have hlT : (w.heap.size + 1 + 1) < w1.heap.size := T5.out.1
    refine wp_region_held_drew (S := fun w' => Below (w1.heap.size) w1 w') (by kernel_rfl) ((Below.refl _ _).drew) ?_
    intro hHeld
    obtain ⟨X0, hX0⟩ : ∃ X, X = w1.drew := ⟨_, rfl⟩
    have hz0 : w1.heap.size ≤ X0.heap.size := by rw [hX0]; exact Nat.le_refl _
    rw [← hX0] at hHeld ⊢
    clear hX0
    refine tkl 0 (.agg #[.int .i64 c, .int .i64 d]) rfl ?_ ?_
    · intro wx hSw; obtain ⟨hcS, hfS⟩ := bcellN hSw; go_simp
    try simp only [Act.put, aS]
    refine tkl 2 (.agg #[.slice a n cap]) rfl ?_ ?_
    · intro wx hSw; obtain ⟨hcS, hfS⟩ := bcellN hSw; go_simp
    try simp only [Act.put, aS]
    refine tkl 4 (.int .i64 sv) rfl ?_ ?_
    · intro wx hSw; obtain ⟨hcS, hfS⟩ := bcellN hSw; go_simp
    try simp only [Act.put, aS]
    refine tkl 5 (.agg #[.int .i64 k, .int .i64 (x 1), .int .i64 (x 2), .int .i64 (x 3), .int .i64 (x 4), .int .i64 (x 5), .int .i64 (x 6), .int .i64 (x 7), .int .i64 (x 8), .int .i64 (x 9), .int .i64 (x 10), .int .i64 (x 11), .int .i64 (x 12), .int .i64 (x 13), .int .i64 (x 14), .int .i64 (x 15), .int .i64 (x 16), .int .i64 (x 17), .int .i64 (x 18), .int .i64 (x 19), .int .i64 (x 20), .int .i64 (x 21), .int .i64 (x 22), .int .i64 (x 23), .int .i64 (x 24)]) rfl ?_ ?_
    · intro wx hSw; obtain ⟨hcS, hfS⟩ := bcellN hSw; go_simp
    try simp only [Act.put, aS]
    refine rdy [1, 11] ?_
    refine (AllReadyH.cons rfl (fun K hK => ?_) (AllReadyH.cons rfl (fun K hK => ?_) AllReadyH.nil))
    · go_simp
      go_wp2_with fail
      refine (toMap _ _ _).mono ?_
      rintro e xm ⟨rfl, hxm⟩
      have hsz_xm := hxm.size
      refine hK.out _ _ (bthenN hHeld (by omega) hxm) (fun hNew => ?_)
      clear hK K hHeld
      have hHeld := hNew
      clear hNew
      try simp only [Act.put, aS]
      refine rdy [3, 11] ?_
      refine (AllReadyH.cons rfl (fun K hK => ?_) (AllReadyH.cons rfl (fun K hK => ?_) AllReadyH.nil))
      · go_simp
        go_wp2_with fail
        refine (toBookC a n cap Z hn2 _ (P10.row_below H0.out (bthen B5.out hHeld))).mono ?_
        rintro e xt ⟨⟨bt, rfl, hC, hbt⟩, hxt⟩
        have hsz_xt := hxt.size
        refine hK.out _ _ (bthenN hHeld (by omega) hxt) (fun hNew => ?_)
        clear hK K hHeld
        have hHeld := hNew
        clear hNew
        try simp only [Act.put, aS]
        refine rdy [6, 11] ?_
        refine (AllReadyH.cons rfl (fun K hK => ?_) (AllReadyH.cons rfl (fun K hK => ?_) AllReadyH.nil))
        · go_simp
          go_wp2_with fail
          refine (toMsg k x _).mono ?_
          rintro e xy ⟨rfl, hxy⟩
          replace hC := hC.below hxy
          have hsz_xy := hxy.size
          refine hK.out _ _ (bthenN hHeld (by omega) hxy) (fun hNew => ?_)
          clear hK K hHeld
          have hHeld := hNew
          clear hNew
          try simp only [Act.put, aS]
          refine rdy [7, 11] ?_
          refine (AllReadyH.cons rfl (fun K hK => ?_) (AllReadyH.cons rfl (fun K hK => ?_) AllReadyH.nil))
          · go_simp
            go_wp2_with fail
            refine (hear_spec c d _ 0 n n Z sv k x hn2 _ hC.1 (P10.own_row hC.2)).mono ?_
            rintro e xg ⟨⟨u, rfl, hO⟩, hxg⟩
            rw [EN.out, EY.out] at hO
            rw [ET.out]
            obtain ⟨a1, k1, eu, _⟩ := hO.at
            subst eu
            obtain ⟨lg, elg⟩ : ∃ l, l = xy.heap.size := ⟨_, rfl⟩
            obtain ⟨hg, ehg⟩ : ∃ l, l = xg.heap.size := ⟨_, rfl⟩
            rw [← elg, ← ehg] at hO
            have elg1 : lg ≤ xy.heap.size := by omega
            have elg2 : xy.heap.size ≤ lg := by omega
            have ehg1 : hg ≤ xg.heap.size := by omega
            have ehg2 : xg.heap.size ≤ hg := by omega
            clear elg ehg
            replace hC := hC.below hxg
            have hsz_xg := hxg.size
            refine hK.out _ _ (bthenN hHeld (by omega) hxg) (fun hNew => ?_)
            clear hK K hHeld
            have hHeld := hNew
            clear hNew
            try simp only [Act.put, aS]
            refine tkl 8 (.tuple #[.agg #[.slice a1 N k1], .bool TB]) rfl ?_ ?_
            · intro wx hSw; obtain ⟨hcS, hfS⟩ := bcellN hSw; go_simp
            try simp only [Act.put, aS]
            refine tkl 9 (.agg #[.slice a1 N k1]) rfl ?_ ?_
            · intro wx hSw; obtain ⟨hcS, hfS⟩ := bcellN hSw; go_simp
            try simp only [Act.put, aS]
            refine tkl 10 (.bool TB) rfl ?_ ?_
            · intro wx hSw; obtain ⟨hcS, hfS⟩ := bcellN hSw; go_simp
            try simp only [Act.put, aS]
            refine rd1 11 rfl fun K hK => ?_
            go_simp
            obtain ⟨XC, eA⟩ : ∃ X, X = xg.alloc (.cells #[.slice none 0 0] 40) := ⟨_, rfl⟩
            rw [← eA]
            have hbA : Below xg.heap.size xg XC := by rw [eA]; exact (Below.refl _ _).alloc (Nat.le_refl _) _
            have hZC : Bk XC xg.heap.size [.slice none 0 0] := by rw [eA]; exact bk_new xg 40 [.slice none 0 0]
            have hzAC1 : XC.heap.size ≤ xg.heap.size + 1 := by rw [eA]; simp
            have hzAC2 : xg.heap.size + 1 ≤ XC.heap.size := by rw [eA]; simp
            clear eA
            replace hO := hO.below hbA
            have hsz_XC := hbA.size
            refine hK.out _ _ (bthenN hHeld (by omega) hbA) (fun hNew => ?_)
            clear hK K hHeld
            have hHeld := hNew
            clear hNew
            try simp only [Act.put, aS]
            clear hbA
            obtain ⟨C, eC⟩ : ∃ g, g = xg.heap.size := ⟨_, rfl⟩
            rw [← eC] at hZC ⊢
            have eC1 : C ≤ xg.heap.size := by omega
            have eC2 : xg.heap.size ≤ C := by omega
            clear eC
            refine rd1 12 rfl fun K hK => ?_
            have r0 := (hZC.2 0 (by simp)).1
            have f0 := (hZC.2 0 (by simp)).2
            simp only [List.getD, List.getElem?_cons_zero, Option.getD_some] at r0
            have lZC := hZC.1
            have hkC : w1.heap.size ≤ C := by omega
            go_simp
            obtain ⟨XSC, eS⟩ : ∃ X, X = (XC.setCell ⟨C, 0, none⟩ (.slice a1 N k1)) := ⟨_, rfl⟩
            rw [← eS]
            have hPC : Bk XSC C [.slice a1 N k1] := by rw [eS]; exact bk_put (l := [.slice a1 N k1]) hZC rfl
            have hzC1 : XSC.heap.size ≤ XC.heap.size := by rw [eS]; exact Nat.le_of_eq (size_put C [.slice a1 N k1] 0 XC)
            have hzC2 : XC.heap.size ≤ XSC.heap.size := by rw [eS]; exact Nat.le_of_eq (size_put C [.slice a1 N k1] 0 XC).symm
            have hmC : ∀ b, ¬ b = C → Sm XC XSC b := by rw [eS]; exact fun b hb => sm_put hb [.slice a1 N k1] 0 XC
            have hBC : Below (w1.heap.size) w1 XSC := by rw [eS]; exact below_put hkC [.slice a1 N k1] 0 hHeld
            clear eS r0 f0
            replace hO := hO.sm hzC2 (fun b q1 q2 => hmC b (by omega))
            refine hK.out _ _ hBC (fun hNew => ?_)
            clear hK K hHeld
            have hHeld := hNew
            clear hNew
            try simp only [Act.put, aS]
            refine tkl 13 (.bool TB) rfl ?_ ?_
            · intro wx hSw; obtain ⟨hcS, hfS⟩ := bcellN hSw; go_simp
            try simp only [Act.put, aS]
            refine wpAnyH_done (by kernel_rfl) ?_ _
            go_wp2
            go_meet
            case rel => exact ⟨C, lg, hg, a1, k1, rfl, rfl, hPC, hO, ⟨by omega, hPC.1, by omega, by omega, by omega, by omega⟩, hHeld⟩
          · go_simp
            obtain ⟨XC, eA⟩ : ∃ X, X = xy.alloc (.cells #[.slice none 0 0] 40) := ⟨_, rfl⟩
            rw [← eA]
            have hbA : Below xy.heap.size xy XC := by rw [eA]; exact (Below.refl _ _).alloc (Nat.le_refl _) _
            have hZC : Bk XC xy.heap.size [.slice none 0 0] := by rw [eA]; exact bk_new xy 40 [.slice none 0 0]
            have hzAC1 : XC.heap.size ≤ xy.heap.size + 1 := by rw [eA]; simp
            have hzAC2 : xy.heap.size + 1 ≤ XC.heap.size := by rw [eA]; simp
            clear eA
            replace hC := hC.below hbA
            have hsz_XC := hbA.size
            refine hK.out _ _ (bthenN hHeld (by omega) hbA) (fun hNew => ?_)
            clear hK K hHeld
            have hHeld := hNew
            clear hNew
            try simp only [Act.put, aS]
            clear hbA
            obtain ⟨C, eC⟩ : ∃ g, g = xy.heap.size := ⟨_, rfl⟩
            rw [← eC] at hZC ⊢
            have eC1 : C ≤ xy.heap.size := by omega
            have eC2 : xy.heap.size ≤ C := by omega
            clear eC
            refine rd1 7 rfl fun K hK => ?_
            go_simp
            go_wp2_with fail
            refine (hear_spec c d _ 0 n n Z sv k x hn2 _ hC.1 (P10.own_row hC.2)).mono ?_
            rintro e xg ⟨⟨u, rfl, hO⟩, hxg⟩
            rw [EN.out, EY.out] at hO
            rw [ET.out]
            obtain ⟨a1, k1, eu, _⟩ := hO.at
            subst eu
            obtain ⟨lg, elg⟩ : ∃ l, l = XC.heap.size := ⟨_, rfl⟩
            obtain ⟨hg, ehg⟩ : ∃ l, l = xg.heap.size := ⟨_, rfl⟩
            rw [← elg, ← ehg] at hO
            have elg1 : lg ≤ XC.heap.size := by omega
            have elg2 : XC.heap.size ≤ lg := by omega
            have ehg1 : hg ≤ xg.heap.size := by omega
            have ehg2 : xg.heap.size ≤ hg := by omega
            clear elg ehg
            replace hC := hC.below hxg
            replace hZC := hZC.below hxg
            have hsz_xg := hxg.size
            refine hK.out _ _ (bthenN hHeld (by omega) hxg) (fun hNew => ?_)
            clear hK K hHeld
            have hHeld := hNew
            clear hNew
            try simp only [Act.put, aS]
            refine tkl 8 (.tuple #[.agg #[.slice a1 N k1], .bool TB]) rfl ?_ ?_
            · intro wx hSw; obtain ⟨hcS, hfS⟩ := bcellN hSw; go_simp
            try simp only [Act.put, aS]
            refine tkl 9 (.agg #[.slice a1 N k1]) rfl ?_ ?_
            · intro wx hSw; obtain ⟨hcS, hfS⟩ := bcellN hSw; go_simp
            try simp only [Act.put, aS]
            refine tkl 10 (.bool TB) rfl ?_ ?_
            · intro wx hSw; obtain ⟨hcS, hfS⟩ := bcellN hSw; go_simp
            try simp only [Act.put, aS]
            refine rd1 12 rfl fun K hK => ?_
            have r0 := (hZC.2 0 (by simp)).1
            have f0 := (hZC.2 0 (by simp)).2
            simp only [List.getD, List.getElem?_cons_zero, Option.getD_some] at r0
            have lZC := hZC.1
            have hkC : w1.heap.size ≤ C := by omega
            go_simp
            obtain ⟨XSC, eS⟩ : ∃ X, X = (xg.setCell ⟨C, 0, none⟩ (.slice a1 N k1)) := ⟨_, rfl⟩
            rw [← eS]
            have hPC : Bk XSC C [.slice a1 N k1] := by rw [eS]; exact bk_put (l := [.slice a1 N k1]) hZC rfl
            have hzC1 : XSC.heap.size ≤ xg.heap.size := by rw [eS]; exact Nat.le_of_eq (size_put C [.slice a1 N k1] 0 xg)
            have hzC2 : xg.heap.size ≤ XSC.heap.size := by rw [eS]; exact Nat.le_of_eq (size_put C [.slice a1 N k1] 0 xg).symm
            have hmC : ∀ b, ¬ b = C → Sm xg XSC b := by rw [eS]; exact fun b hb => sm_put hb [.slice a1 N k1] 0 xg
            have hBC : Below (w1.heap.size) w1 XSC := by rw [eS]; exact below_put hkC [.slice a1 N k1] 0 hHeld
            clear eS r0 f0
            replace hO := hO.sm hzC2 (fun b q1 q2 => hmC b (by omega))
            refine hK.out _ _ hBC (fun hNew => ?_)
            clear hK K hHeld
            have hHeld := hNew
            clear hNew
            try simp only [Act.put, aS]
            refine tkl 13 (.bool TB) rfl ?_ ?_
            · intro wx hSw; obtain ⟨hcS, hfS⟩ := bcellN hSw; go_simp
            try simp only [Act.put, aS]
            refine wpAnyH_done (by kernel_rfl) ?_ _
            go_wp2
            go_meet
            case rel => exact ⟨C, lg, hg, a1, k1, rfl, rfl, hPC, hO, ⟨by omega, hPC.1, by omega, by omega, by omega, by omega⟩, hHeld⟩
        · go_simp
          obtain ⟨XC, eA⟩ : ∃ X, X = xt.alloc (.cells #[.slice none 0 0] 40) := ⟨_, rfl⟩
          rw [← eA]
          have hbA : Below xt.heap.size xt XC := by rw [eA]; exact (Below.refl _ _).alloc (Nat.le_refl _) _
          have hZC : Bk XC xt.heap.size [.slice none 0 0] := by rw [eA]; exact bk_new xt 40 [.slice none 0 0]
          have hzAC1 : XC.heap.size ≤ xt.heap.size + 1 := by rw [eA]; simp
          have hzAC2 : xt.heap.size + 1 ≤ XC.heap.size := by rw [eA]; simp
          clear eA
          replace hC := hC.below hbA
          have hsz_XC := hbA.size
          refine hK.out _ _ (bthenN hHeld (by omega) hbA) (fun hNew => ?_)
          clear hK K hHeld
          have hHeld := hNew
          clear hNew
          try simp only [Act.put, aS]
          clear hbA
          obtain ⟨C, eC⟩ : ∃ g, g = xt.heap.size := ⟨_, rfl⟩
          rw [← eC] at hZC ⊢
          have eC1 : C ≤ xt.heap.size := by omega
          have eC2 : xt.heap.size ≤ C := by omega
          clear eC
          refine rd1 6 rfl fun K hK => ?_
          go_simp
          go_wp2_with fail
          refine (toMsg k x _).mono ?_
          rintro e xy ⟨rfl, hxy⟩
          replace hC := hC.below hxy
          replace hZC := hZC.below hxy
          have hsz_xy := hxy.size
          refine hK.out _ _ (bthenN hHeld (by omega) hxy) (fun hNew => ?_)
          clear hK K hHeld
          have hHeld := hNew
          clear hNew
          try simp only [Act.put, aS]
          refine rd1 7 rfl fun K hK => ?_
          go_simp
          go_wp2_with fail
          refine (hear_spec c d _ 0 n n Z sv k x hn2 _ hC.1 (P10.own_row hC.2)).mono ?_
          rintro e xg ⟨⟨u, rfl, hO⟩, hxg⟩
          rw [EN.out, EY.out] at hO
          rw [ET.out]
          obtain ⟨a1, k1, eu, _⟩ := hO.at
          subst eu
          obtain ⟨lg, elg⟩ : ∃ l, l = xy.heap.size := ⟨_, rfl⟩
          obtain ⟨hg, ehg⟩ : ∃ l, l = xg.heap.size := ⟨_, rfl⟩
          rw [← elg, ← ehg] at hO
          have elg1 : lg ≤ xy.heap.size := by omega
          have elg2 : xy.heap.size ≤ lg := by omega
          have ehg1 : hg ≤ xg.heap.size := by omega
          have ehg2 : xg.heap.size ≤ hg := by omega
          clear elg ehg
          replace hC := hC.below hxg
          replace hZC := hZC.below hxg
          have hsz_xg := hxg.size
          refine hK.out _ _ (bthenN hHeld (by omega) hxg) (fun hNew => ?_)
          clear hK K hHeld
          have hHeld := hNew
          clear hNew
          try simp only [Act.put, aS]
          refine tkl 8 (.tuple #[.agg #[.slice a1 N k1], .bool TB]) rfl ?_ ?_
          · intro wx hSw; obtain ⟨hcS, hfS⟩ := bcellN hSw; go_simp
          try simp only [Act.put, aS]
          refine tkl 9 (.agg #[.slice a1 N k1]) rfl ?_ ?_
          · intro wx hSw; obtain ⟨hcS, hfS⟩ := bcellN hSw; go_simp
          try simp only [Act.put, aS]
          refine tkl 10 (.bool TB) rfl ?_ ?_
          · intro wx hSw; obtain ⟨hcS, hfS⟩ := bcellN hSw; go_simp
          try simp only [Act.put, aS]
          refine rd1 12 rfl fun K hK => ?_
          have r0 := (hZC.2 0 (by simp)).1
          have f0 := (hZC.2 0 (by simp)).2
          simp only [List.getD, List.getElem?_cons_zero, Option.getD_some] at r0
          have lZC := hZC.1
          have hkC : w1.heap.size ≤ C := by omega
          go_simp
          obtain ⟨XSC, eS⟩ : ∃ X, X = (xg.setCell ⟨C, 0, none⟩ (.slice a1 N k1)) := ⟨_, rfl⟩
          rw [← eS]
          have hPC : Bk XSC C [.slice a1 N k1] := by rw [eS]; exact bk_put (l := [.slice a1 N k1]) hZC rfl
          have hzC1 : XSC.heap.size ≤ xg.heap.size := by rw [eS]; exact Nat.le_of_eq (size_put C [.slice a1 N k1] 0 xg)
          have hzC2 : xg.heap.size ≤ XSC.heap.size := by rw [eS]; exact Nat.le_of_eq (size_put C [.slice a1 N k1] 0 xg).symm
          have hmC : ∀ b, ¬ b = C → Sm xg XSC b := by rw [eS]; exact fun b hb => sm_put hb [.slice a1 N k1] 0 xg
          have hBC : Below (w1.heap.size) w1 XSC := by rw [eS]; exact below_put hkC [.slice a1 N k1] 0 hHeld
          clear eS r0 f0
          replace hO := hO.sm hzC2 (fun b q1 q2 => hmC b (by omega))
          refine hK.out _ _ hBC (fun hNew => ?_)
          clear hK K hHeld
          have hHeld := hNew
          clear hNew
          try simp only [Act.put, aS]
          refine tkl 13 (.bool TB) rfl ?_ ?_
          · intro wx hSw; obtain ⟨hcS, hfS⟩ := bcellN hSw; go_simp
          try simp only [Act.put, aS]
          refine wpAnyH_done (by kernel_rfl) ?_ _
          go_wp2
          go_meet
          case rel => exact ⟨C, lg, hg, a1, k1, rfl, rfl, hPC, hO, ⟨by omega, hPC.1, by omega, by omega, by omega, by omega⟩, hHeld⟩
      · go_simp
        obtain ⟨XC, eA⟩ : ∃ X, X = xm.alloc (.cells #[.slice none 0 0] 40) := ⟨_, rfl⟩
        rw [← eA]
        have hbA : Below xm.heap.size xm XC := by rw [eA]; exact (Below.refl _ _).alloc (Nat.le_refl _) _
        have hZC : Bk XC xm.heap.size [.slice none 0 0] := by rw [eA]; exact bk_new xm 40 [.slice none 0 0]
        have hzAC1 : XC.heap.size ≤ xm.heap.size + 1 := by rw [eA]; simp
        have hzAC2 : xm.heap.size + 1 ≤ XC.heap.size := by rw [eA]; simp
        clear eA
        have hsz_XC := hbA.size
        refine hK.out _ _ (bthenN hHeld (by omega) hbA) (fun hNew => ?_)
        clear hK K hHeld
        have hHeld := hNew
        clear hNew
        try simp only [Act.put, aS]
        clear hbA
        obtain ⟨C, eC⟩ : ∃ g, g = xm.heap.size := ⟨_, rfl⟩
        rw [← eC] at hZC ⊢
        have eC1 : C ≤ xm.heap.size := by omega
        have eC2 : xm.heap.size ≤ C := by omega
        clear eC
        refine rd1 3 rfl fun K hK => ?_
        go_simp
        go_wp2_with fail
        refine (toBookC a n cap Z hn2 _ (P10.row_below H0.out (bthen B5.out hHeld))).mono ?_
        rintro e xt ⟨⟨bt, rfl, hC, hbt⟩, hxt⟩
        replace hZC := hZC.below hxt
        have hsz_xt := hxt.size
        refine hK.out _ _ (bthenN hHeld (by omega) hxt) (fun hNew => ?_)
        clear hK K hHeld
        have hHeld := hNew
        clear hNew
        try simp only [Act.put, aS]
        refine rd1 6 rfl fun K hK => ?_
        go_simp
        go_wp2_with fail
        refine (toMsg k x _).mono ?_
        rintro e xy ⟨rfl, hxy⟩
        replace hZC := hZC.below hxy
        replace hC := hC.below hxy
        have hsz_xy := hxy.size
        refine hK.out _ _ (bthenN hHeld (by omega) hxy) (fun hNew => ?_)
        clear hK K hHeld
        have hHeld := hNew
        clear hNew
        try simp only [Act.put, aS]
        refine rd1 7 rfl fun K hK => ?_
        go_simp
        go_wp2_with fail
        refine (hear_spec c d _ 0 n n Z sv k x hn2 _ hC.1 (P10.own_row hC.2)).mono ?_
        rintro e xg ⟨⟨u, rfl, hO⟩, hxg⟩
        rw [EN.out, EY.out] at hO
        rw [ET.out]
        obtain ⟨a1, k1, eu, _⟩ := hO.at
        subst eu
        obtain ⟨lg, elg⟩ : ∃ l, l = xy.heap.size := ⟨_, rfl⟩
        obtain ⟨hg, ehg⟩ : ∃ l, l = xg.heap.size := ⟨_, rfl⟩
        rw [← elg, ← ehg] at hO
        have elg1 : lg ≤ xy.heap.size := by omega
        have elg2 : xy.heap.size ≤ lg := by omega
        have ehg1 : hg ≤ xg.heap.size := by omega
        have ehg2 : xg.heap.size ≤ hg := by omega
        clear elg ehg
        replace hZC := hZC.below hxg
        replace hC := hC.below hxg
        have hsz_xg := hxg.size
        refine hK.out _ _ (bthenN hHeld (by omega) hxg) (fun hNew => ?_)
        clear hK K hHeld
        have hHeld := hNew
        clear hNew
        try simp only [Act.put, aS]
        refine tkl 8 (.tuple #[.agg #[.slice a1 N k1], .bool TB]) rfl ?_ ?_
        · intro wx hSw; obtain ⟨hcS, hfS⟩ := bcellN hSw; go_simp
        try simp only [Act.put, aS]
        refine tkl 9 (.agg #[.slice a1 N k1]) rfl ?_ ?_
        · intro wx hSw; obtain ⟨hcS, hfS⟩ := bcellN hSw; go_simp
        try simp only [Act.put, aS]
        refine tkl 10 (.bool TB) rfl ?_ ?_
        · intro wx hSw; obtain ⟨hcS, hfS⟩ := bcellN hSw; go_simp
        try simp only [Act.put, aS]
        refine rd1 12 rfl fun K hK => ?_
        have r0 := (hZC.2 0 (by simp)).1
        have f0 := (hZC.2 0 (by simp)).2
        simp only [List.getD, List.getElem?_cons_zero, Option.getD_some] at r0
        have lZC := hZC.1
        have hkC : w1.heap.size ≤ C := by omega
        go_simp
        obtain ⟨XSC, eS⟩ : ∃ X, X = (xg.setCell ⟨C, 0, none⟩ (.slice a1 N k1)) := ⟨_, rfl⟩
        rw [← eS]
        have hPC : Bk XSC C [.slice a1 N k1] := by rw [eS]; exact bk_put (l := [.slice a1 N k1]) hZC rfl
        have hzC1 : XSC.heap.size ≤ xg.heap.size := by rw [eS]; exact Nat.le_of_eq (size_put C [.slice a1 N k1] 0 xg)
        have hzC2 : xg.heap.size ≤ XSC.heap.size := by rw [eS]; exact Nat.le_of_eq (size_put C [.slice a1 N k1] 0 xg).symm
        have hmC : ∀ b, ¬ b = C → Sm xg XSC b := by rw [eS]; exact fun b hb => sm_put hb [.slice a1 N k1] 0 xg
        have hBC : Below (w1.heap.size) w1 XSC := by rw [eS]; exact below_put hkC [.slice a1 N k1] 0 hHeld
        clear eS r0 f0
        replace hO := hO.sm hzC2 (fun b q1 q2 => hmC b (by omega))
        refine hK.out _ _ hBC (fun hNew => ?_)
        clear hK K hHeld
        have hHeld := hNew
        clear hNew
        try simp only [Act.put, aS]
        refine tkl 13 (.bool TB) rfl ?_ ?_
        · intro wx hSw; obtain ⟨hcS, hfS⟩ := bcellN hSw; go_simp
        try simp only [Act.put, aS]
        refine wpAnyH_done (by kernel_rfl) ?_ _
        go_wp2
        go_meet
        case rel => exact ⟨C, lg, hg, a1, k1, rfl, rfl, hPC, hO, ⟨by omega, hPC.1, by omega, by omega, by omega, by omega⟩, hHeld⟩
    · go_simp
      obtain ⟨XC, eA⟩ : ∃ X, X = X0.alloc (.cells #[.slice none 0 0] 40) := ⟨_, rfl⟩
      rw [← eA]
      have hbA : Below X0.heap.size X0 XC := by rw [eA]; exact (Below.refl _ _).alloc (Nat.le_refl _) _
      have hZC : Bk XC X0.heap.size [.slice none 0 0] := by rw [eA]; exact bk_new X0 40 [.slice none 0 0]
      have hzAC1 : XC.heap.size ≤ X0.heap.size + 1 := by rw [eA]; simp
      have hzAC2 : X0.heap.size + 1 ≤ XC.heap.size := by rw [eA]; simp
      clear eA
      have hsz_XC := hbA.size
      refine hK.out _ _ (bthenN hHeld (by omega) hbA) (fun hNew => ?_)
      clear hK K hHeld
      have hHeld := hNew
      clear hNew
      try simp only [Act.put, aS]
      clear hbA
      obtain ⟨C, eC⟩ : ∃ g, g = X0.heap.size := ⟨_, rfl⟩
      rw [← eC] at hZC ⊢
      have eC1 : C ≤ X0.heap.size := by omega
      have eC2 : X0.heap.size ≤ C := by omega
      clear eC
      refine rd1 1 rfl fun K hK => ?_
      go_simp
      go_wp2_with fail
      refine (toMap _ _ _).mono ?_
      rintro e xm ⟨rfl, hxm⟩
      replace hZC := hZC.below hxm
      have hsz_xm := hxm.size
      refine hK.out _ _ (bthenN hHeld (by omega) hxm) (fun hNew => ?_)
      clear hK K hHeld
      have hHeld := hNew
      clear hNew
      try simp only [Act.put, aS]
      refine rd1 3 rfl fun K hK => ?_
      go_simp
      go_wp2_with fail
      refine (toBookC a n cap Z hn2 _ (P10.row_below H0.out (bthen B5.out hHeld))).mono ?_
      rintro e xt ⟨⟨bt, rfl, hC, hbt⟩, hxt⟩
      replace hZC := hZC.below hxt
      have hsz_xt := hxt.size
      refine hK.out _ _ (bthenN hHeld (by omega) hxt) (fun hNew => ?_)
      clear hK K hHeld
      have hHeld := hNew
      clear hNew
      try simp only [Act.put, aS]
      refine rd1 6 rfl fun K hK => ?_
      go_simp
      go_wp2_with fail
      refine (toMsg k x _).mono ?_
      rintro e xy ⟨rfl, hxy⟩
      replace hZC := hZC.below hxy
      replace hC := hC.below hxy
      have hsz_xy := hxy.size
      refine hK.out _ _ (bthenN hHeld (by omega) hxy) (fun hNew => ?_)
      clear hK K hHeld
      have hHeld := hNew
      clear hNew
      try simp only [Act.put, aS]
      refine rd1 7 rfl fun K hK => ?_
      go_simp
      go_wp2_with fail
      refine (hear_spec c d _ 0 n n Z sv k x hn2 _ hC.1 (P10.own_row hC.2)).mono ?_
      rintro e xg ⟨⟨u, rfl, hO⟩, hxg⟩
      rw [EN.out, EY.out] at hO
      rw [ET.out]
      obtain ⟨a1, k1, eu, _⟩ := hO.at
      subst eu
      obtain ⟨lg, elg⟩ : ∃ l, l = xy.heap.size := ⟨_, rfl⟩
      obtain ⟨hg, ehg⟩ : ∃ l, l = xg.heap.size := ⟨_, rfl⟩
      rw [← elg, ← ehg] at hO
      have elg1 : lg ≤ xy.heap.size := by omega
      have elg2 : xy.heap.size ≤ lg := by omega
      have ehg1 : hg ≤ xg.heap.size := by omega
      have ehg2 : xg.heap.size ≤ hg := by omega
      clear elg ehg
      replace hZC := hZC.below hxg
      replace hC := hC.below hxg
      have hsz_xg := hxg.size
      refine hK.out _ _ (bthenN hHeld (by omega) hxg) (fun hNew => ?_)
      clear hK K hHeld
      have hHeld := hNew
      clear hNew
      try simp only [Act.put, aS]
      refine tkl 8 (.tuple #[.agg #[.slice a1 N k1], .bool TB]) rfl ?_ ?_
      · intro wx hSw; obtain ⟨hcS, hfS⟩ := bcellN hSw; go_simp
      try simp only [Act.put, aS]
      refine tkl 9 (.agg #[.slice a1 N k1]) rfl ?_ ?_
      · intro wx hSw; obtain ⟨hcS, hfS⟩ := bcellN hSw; go_simp
      try simp only [Act.put, aS]
      refine tkl 10 (.bool TB) rfl ?_ ?_
      · intro wx hSw; obtain ⟨hcS, hfS⟩ := bcellN hSw; go_simp
      try simp only [Act.put, aS]
      refine rd1 12 rfl fun K hK => ?_
      have r0 := (hZC.2 0 (by simp)).1
      have f0 := (hZC.2 0 (by simp)).2
      simp only [List.getD, List.getElem?_cons_zero, Option.getD_some] at r0
      have lZC := hZC.1
      have hkC : w1.heap.size ≤ C := by omega
      go_simp
      obtain ⟨XSC, eS⟩ : ∃ X, X = (xg.setCell ⟨C, 0, none⟩ (.slice a1 N k1)) := ⟨_, rfl⟩
      rw [← eS]
      have hPC : Bk XSC C [.slice a1 N k1] := by rw [eS]; exact bk_put (l := [.slice a1 N k1]) hZC rfl
      have hzC1 : XSC.heap.size ≤ xg.heap.size := by rw [eS]; exact Nat.le_of_eq (size_put C [.slice a1 N k1] 0 xg)
      have hzC2 : xg.heap.size ≤ XSC.heap.size := by rw [eS]; exact Nat.le_of_eq (size_put C [.slice a1 N k1] 0 xg).symm
      have hmC : ∀ b, ¬ b = C → Sm xg XSC b := by rw [eS]; exact fun b hb => sm_put hb [.slice a1 N k1] 0 xg
      have hBC : Below (w1.heap.size) w1 XSC := by rw [eS]; exact below_put hkC [.slice a1 N k1] 0 hHeld
      clear eS r0 f0
      replace hO := hO.sm hzC2 (fun b q1 q2 => hmC b (by omega))
      refine hK.out _ _ hBC (fun hNew => ?_)
      clear hK K hHeld
      have hHeld := hNew
      clear hNew
      try simp only [Act.put, aS]
      refine tkl 13 (.bool TB) rfl ?_ ?_
      · intro wx hSw; obtain ⟨hcS, hfS⟩ := bcellN hSw; go_simp
      try simp only [Act.put, aS]
      refine wpAnyH_done (by kernel_rfl) ?_ _
      go_wp2
      go_meet
      case rel => exact ⟨C, lg, hg, a1, k1, rfl, rfl, hPC, hO, ⟨by omega, hPC.1, by omega, by omega, by omega, by omega⟩, hHeld⟩
  case rest =>
    obtain ⟨w2, hwn⟩ : ∃ wn, wn = wc := ⟨_, rfl⟩
    subst hwn
    obtain ⟨g1, l1, h1, a1, k1, rfl, rfl, hG, hO, ⟨c11, c12, c13, c14, c15, c16⟩, hb⟩ := hcut
    have y_w2 : w1.heap.size ≤ w2.heap.size := hb.size
    have B6 := hid (bthen B5.out hb)
    have M6 := hid (M5.out.below hb)
    have A6 := hid (A5.out.below hb)
    have T6 := hid (T5.out.below hb)
    clear B5 M5 A5 T5
    have O1_7 : Hid (P10.RL l1 h1 w2 (.slice a1 N k1) N Y) := hO
    have G1_8 : Hid (Bk w2 g1 [.slice a1 N k1]) := hG
    clear hO hG hb
    have yA0 := A6.out.a1
    have hlA : (w.heap.size + 1) < w2.heap.size := A6.out.1
    go_wp2_with fail
    refine (toBookC a n cap Z hn2 _ (P10.row_below H0.out B6.out)).mono ?_
    rintro e w3 ⟨⟨bx, rfl, hC, hbx⟩, hb3⟩
    clear yA0 hlA
    have y_w3 : w2.heap.size ≤ w3.heap.size := hb3.size
    have B9 := hid (bthen B6.out hb3)
    have M9 := hid (M6.out.below hb3)
    have A9 := hid (A6.out.below hb3)
    have T9 := hid (T6.out.below hb3)
    have O1_9 : Hid (P10.RL l1 h1 w3 (.slice a1 N k1) N Y) := O1_7.out.below hb3
    have G1_9 := hid (G1_8.out.below hb3)
    clear B6 M6 A6 T6 O1_7 G1_8
    clear hb3
    have hCl := hC.1
    obtain ⟨hx, ehx⟩ : ∃ l, l = w3.heap.size := ⟨_, rfl⟩
    have hR := hC.rl hbx
    obtain ⟨lx, elx⟩ : ∃ l, l = w2.heap.size := ⟨_, rfl⟩
    rw [← elx, ← ehx] at hR
    have elx1 : lx ≤ w2.heap.size := by omega
    have elx2 : w2.heap.size ≤ lx := by omega
    have ehx1 : hx ≤ w3.heap.size := by omega
    have ehx2 : w3.heap.size ≤ hx := by omega
    clear elx ehx
    go_upto_region 7 with fail
    obtain ⟨w4, e4⟩ : ∃ wq, wq = w3.alloc (.cells #[.slice (some ⟨bx, 0, none⟩) n n] 40) := ⟨_, rfl⟩
    have hb4 : Below w3.heap.size w3 w4 := by rw [e4]; exact (Below.refl _ _).alloc (Nat.le_refl _) _
    have hG : Bk w4 w3.heap.size [.slice (some ⟨bx, 0, none⟩) n n] := by rw [e4]; exact bk_new w3 40 [.slice (some ⟨bx, 0, none⟩) n n]
    rw [← e4]
    clear e4
    have y_w4 : w3.heap.size ≤ w4.heap.size := hb4.size
    have B10 := hid (bthen B9.out hb4)
    have M10 := hid (M9.out.below hb4)
    have A10 := hid (A9.out.below hb4)
    have T10 := hid (T9.out.below hb4)
    have O1_10 : Hid (P10.RL l1 h1 w4 (.slice a1 N k1) N Y) := O1_9.out.below hb4
    have G1_10 := hid (G1_9.out.below hb4)
    clear B9 M9 A9 T9 O1_9 G1_9
    obtain ⟨gx, egx⟩ : ∃ g, g = w3.heap.size := ⟨_, rfl⟩
    rw [← egx] at hG ⊢
    have eg1 : gx ≤ w3.heap.size := by omega
    have eg2 : w3.heap.size ≤ gx := by omega
    clear egx
    have OX_11 : Hid (P10.RL lx hx w4 (.slice (some ⟨bx, 0, none⟩) n n) n Z) := hR.below hb4
    have C12 : Hid (Cp w4 bx n Z) := hC.below hb4
    have X13 : Hid (Bk w4 gx [.slice (some ⟨bx, 0, none⟩) n n]) := hG
    clear hG hC hb4 hR
    have yx := X13.out.1
    go_cut [13, 14] (fun s t wx => ∃ g l h a2 k2, .pointer (some ⟨g, 0, none⟩) = s ∧ .bool TB = t ∧ Bk wx g [.slice a2 N k2] ∧ P10.RL l h wx (.slice a2 N k2) N Y ∧ (w4.heap.size ≤ g ∧ g < wx.heap.size ∧ w4.heap.size ≤ l ∧ l ≤ h ∧ h ≤ wx.heap.size ∧ (g < l ∨ h ≤ g)) ∧ Below w4.heap.size w4 wx)
    case first =>
      obtain ⟨yM0, yM1⟩ := M10.out.a2
      have hlM : w.heap.size < w4.heap.size := M10.out.1
      have yX0 := X13.out.a1
      have hlX : gx < w4.heap.size := X13.out.1
      obtain ⟨yT0, yT1, yT2, yT3, yT4, yT5, yT6, yT7, yT8, yT9, yT10, yT11, yT12, yT13, yT14, yT15, yT16, yT17, yT18, yT19, yT20, yT21, yT22, yT23, yT24⟩ := T10.out.a25
      have hlT : (w.heap.size + 1 + 1) < w4.heap.size := T10.out.1
      refine wp_region_held_drew (S := fun w' => Below (w4.heap.size) w4 w') (by kernel_rfl) ((Below.refl _ _).drew) ?_
      intro hHeld
      obtain ⟨X0, hX0⟩ : ∃ X, X = w4.drew := ⟨_, rfl⟩
      have hz0 : w4.heap.size ≤ X0.heap.size := by rw [hX0]; exact Nat.le_refl _
      rw [← hX0] at hHeld ⊢
      clear hX0
      refine tkl 0 (.agg #[.int .i64 c, .int .i64 d]) rfl ?_ ?_
      · intro wx hSw; obtain ⟨hcS, hfS⟩ := bcellN hSw; go_simp
      try simp only [Act.put, aS]
      refine tkl 2 (.agg #[.slice (some ⟨bx, 0, none⟩) n n]) rfl ?_ ?_
      · intro wx hSw; obtain ⟨hcS, hfS⟩ := bcellN hSw; go_simp
      try simp only [Act.put, aS]
      refine tkl 3 (.int .i64 sv) rfl ?_ ?_
      · intro wx hSw; obtain ⟨hcS, hfS⟩ := bcellN hSw; go_simp
      try simp only [Act.put, aS]
      refine tkl 4 (.agg #[.int .i64 k, .int .i64 (x 1), .int .i64 (x 2), .int .i64 (x 3), .int .i64 (x 4), .int .i64 (x 5), .int .i64 (x 6), .int .i64 (x 7), .int .i64 (x 8), .int .i64 (x 9), .int .i64 (x 10), .int .i64 (x 11), .int .i64 (x 12), .int .i64 (x 13), .int .i64 (x 14), .int .i64 (x 15), .int .i64 (x 16), .int .i64 (x 17), .int .i64 (x 18), .int .i64 (x 19), .int .i64 (x 20), .int .i64 (x 21), .int .i64 (x 22), .int .i64 (x 23), .int .i64 (x 24)]) rfl ?_ ?_
      · intro wx hSw; obtain ⟨hcS, hfS⟩ := bcellN hSw; go_simp
      try simp only [Act.put, aS]
      refine rdy [1, 10] ?_
      refine (AllReadyH.cons rfl (fun K hK => ?_) (AllReadyH.cons rfl (fun K hK => ?_) AllReadyH.nil))
      · go_simp
        go_wp2_with fail
        refine (toMap _ _ _).mono ?_
        rintro e xm ⟨rfl, hxm⟩
        have hsz_xm := hxm.size
        refine hK.out _ _ (bthenN hHeld (by omega) hxm) (fun hNew => ?_)
        clear hK K hHeld
        have hHeld := hNew
        clear hNew
        try simp only [Act.put, aS]
        refine rdy [5, 10] ?_
        refine (AllReadyH.cons rfl (fun K hK => ?_) (AllReadyH.cons rfl (fun K hK => ?_) AllReadyH.nil))
        · go_simp
          go_wp2_with fail
          refine (toMsg k x _).mono ?_
          rintro e xy ⟨rfl, hxy⟩
          have hsz_xy := hxy.size
          refine hK.out _ _ (bthenN hHeld (by omega) hxy) (fun hNew => ?_)
          clear hK K hHeld
          have hHeld := hNew
          clear hNew
          try simp only [Act.put, aS]
          refine rdy [6, 10] ?_
          refine (AllReadyH.cons rfl (fun K hK => ?_) (AllReadyH.cons rfl (fun K hK => ?_) AllReadyH.nil))
          · go_simp
            go_wp2_with fail
            refine (hear_impl c d _ n n Z sv k x hn2 _ (C12.out.below hHeld).row).mono ?_
            rintro e xg ⟨⟨u, rfl, hO⟩, hxg⟩
            rw [EN.out, EY.out] at hO
            rw [ET.out]
            obtain ⟨a2, k2, eu, _⟩ := hO.at
            subst eu
            obtain ⟨lg, elg⟩ : ∃ l, l = xy.heap.size := ⟨_, rfl⟩
            obtain ⟨hg, ehg⟩ : ∃ l, l = xg.heap.size := ⟨_, rfl⟩
            rw [← elg, ← ehg] at hO
            have elg1 : lg ≤ xy.heap.size := by omega
            have elg2 : xy.heap.size ≤ lg := by omega
            have ehg1 : hg ≤ xg.heap.size := by omega
            have ehg2 : xg.heap.size ≤ hg := by omega
            clear elg ehg
            have hsz_xg := hxg.size
            refine hK.out _ _ (bthenN hHeld (by omega) hxg) (fun hNew => ?_)
            clear hK K hHeld
            have hHeld := hNew
            clear hNew
            try simp only [Act.put, aS]
            refine tkl 7 (.tuple #[.agg #[.slice a2 N k2], .bool TB]) rfl ?_ ?_
            · intro wx hSw; obtain ⟨hcS, hfS⟩ := bcellN hSw; go_simp
            try simp only [Act.put, aS]
            refine tkl 8 (.agg #[.slice a2 N k2]) rfl ?_ ?_
            · intro wx hSw; obtain ⟨hcS, hfS⟩ := bcellN hSw; go_simp
            try simp only [Act.put, aS]
            refine tkl 9 (.bool TB) rfl ?_ ?_
            · intro wx hSw; obtain ⟨hcS, hfS⟩ := bcellN hSw; go_simp
            try simp only [Act.put, aS]
            refine rd1 10 rfl fun K hK => ?_
            go_simp
            obtain ⟨XC, eA⟩ : ∃ X, X = xg.alloc (.cells #[.slice none 0 0] 40) := ⟨_, rfl⟩
            rw [← eA]
            have hbA : Below xg.heap.size xg XC := by rw [eA]; exact (Below.refl _ _).alloc (Nat.le_refl _) _
            have hZC : Bk XC xg.heap.size [.slice none 0 0] := by rw [eA]; exact bk_new xg 40 [.slice none 0 0]
            have hzAC1 : XC.heap.size ≤ xg.heap.size + 1 := by rw [eA]; simp
            have hzAC2 : xg.heap.size + 1 ≤ XC.heap.size := by rw [eA]; simp
            clear eA
            replace hO := hO.below hbA
            have hsz_XC := hbA.size
            refine hK.out _ _ (bthenN hHeld (by omega) hbA) (fun hNew => ?_)
            clear hK K hHeld
            have hHeld := hNew
            clear hNew
            try simp only [Act.put, aS]
            clear hbA
            obtain ⟨C, eC⟩ : ∃ g, g = xg.heap.size := ⟨_, rfl⟩
            rw [← eC] at hZC ⊢
            have eC1 : C ≤ xg.heap.size := by omega
            have eC2 : xg.heap.size ≤ C := by omega
            clear eC
            refine rd1 11 rfl fun K hK => ?_
            have r0 := (hZC.2 0 (by simp)).1
            have f0 := (hZC.2 0 (by simp)).2
            simp only [List.getD, List.getElem?_cons_zero, Option.getD_some] at r0
            have lZC := hZC.1
            have hkC : w4.heap.size ≤ C := by omega
            go_simp
            obtain ⟨XSC, eS⟩ : ∃ X, X = (XC.setCell ⟨C, 0, none⟩ (.slice a2 N k2)) := ⟨_, rfl⟩
            rw [← eS]
            have hPC : Bk XSC C [.slice a2 N k2] := by rw [eS]; exact bk_put (l := [.slice a2 N k2]) hZC rfl
            have hzC1 : XSC.heap.size ≤ XC.heap.size := by rw [eS]; exact Nat.le_of_eq (size_put C [.slice a2 N k2] 0 XC)
            have hzC2 : XC.heap.size ≤ XSC.heap.size := by rw [eS]; exact Nat.le_of_eq (size_put C [.slice a2 N k2] 0 XC).symm
            have hmC : ∀ b, ¬ b = C → Sm XC XSC b := by rw [eS]; exact fun b hb => sm_put hb [.slice a2 N k2] 0 XC
            have hBC : Below (w4.heap.size) w4 XSC := by rw [eS]; exact below_put hkC [.slice a2 N k2] 0 hHeld
            clear eS r0 f0
            replace hO := hO.sm hzC2 (fun b q1 q2 => hmC b (by omega))
            refine hK.out _ _ hBC (fun hNew => ?_)
            clear hK K hHeld
            have hHeld := hNew
            clear hNew
            try simp only [Act.put, aS]
            refine tkl 12 (.bool TB) rfl ?_ ?_
            · intro wx hSw; obtain ⟨hcS, hfS⟩ := bcellN hSw; go_simp
            try simp only [Act.put, aS]
            refine wpAnyH_done (by kernel_rfl) ?_ _
            go_wp2
            go_meet
            case rel => exact ⟨C, lg, hg, a2, k2, rfl, rfl, hPC, hO, ⟨by omega, hPC.1, by omega, by omega, by omega, by omega⟩, hHeld⟩
          · go_simp
            obtain ⟨XC, eA⟩ : ∃ X, X = xy.alloc (.cells #[.slice none 0 0] 40) := ⟨_, rfl⟩
            rw [← eA]
            have hbA : Below xy.heap.size xy XC := by rw [eA]; exact (Below.refl _ _).alloc (Nat.le_refl _) _
            have hZC : Bk XC xy.heap.size [.slice none 0 0] := by rw [eA]; exact bk_new xy 40 [.slice none 0 0]
            have hzAC1 : XC.heap.size ≤ xy.heap.size + 1 := by rw [eA]; simp
            have hzAC2 : xy.heap.size + 1 ≤ XC.heap.size := by rw [eA]; simp
            clear eA
            have hsz_XC := hbA.size
            refine hK.out _ _ (bthenN hHeld (by omega) hbA) (fun hNew => ?_)
            clear hK K hHeld
            have hHeld := hNew
            clear hNew
            try simp only [Act.put, aS]
            clear hbA
            obtain ⟨C, eC⟩ : ∃ g, g = xy.heap.size := ⟨_, rfl⟩
            rw [← eC] at hZC ⊢
            have eC1 : C ≤ xy.heap.size := by omega
            have eC2 : xy.heap.size ≤ C := by omega
            clear eC
            refine rd1 6 rfl fun K hK => ?_
            go_simp
            go_wp2_with fail
            refine (hear_impl c d _ n n Z sv k x hn2 _ (C12.out.below hHeld).row).mono ?_
            rintro e xg ⟨⟨u, rfl, hO⟩, hxg⟩
            rw [EN.out, EY.out] at hO
            rw [ET.out]
            obtain ⟨a2, k2, eu, _⟩ := hO.at
            subst eu
            obtain ⟨lg, elg⟩ : ∃ l, l = XC.heap.size := ⟨_, rfl⟩
            obtain ⟨hg, ehg⟩ : ∃ l, l = xg.heap.size := ⟨_, rfl⟩
            rw [← elg, ← ehg] at hO
            have elg1 : lg ≤ XC.heap.size := by omega
            have elg2 : XC.heap.size ≤ lg := by omega
            have ehg1 : hg ≤ xg.heap.size := by omega
            have ehg2 : xg.heap.size ≤ hg := by omega
            clear elg ehg
            replace hZC := hZC.below hxg
            have hsz_xg := hxg.size
            refine hK.out _ _ (bthenN hHeld (by omega) hxg) (fun hNew => ?_)
            clear hK K hHeld
            have hHeld := hNew
            clear hNew
            try simp only [Act.put, aS]
            refine tkl 7 (.tuple #[.agg #[.slice a2 N k2], .bool TB]) rfl ?_ ?_
            · intro wx hSw; obtain ⟨hcS, hfS⟩ := bcellN hSw; go_simp
            try simp only [Act.put, aS]
            refine tkl 8 (.agg #[.slice a2 N k2]) rfl ?_ ?_
            · intro wx hSw; obtain ⟨hcS, hfS⟩ := bcellN hSw; go_simp
            try simp only [Act.put, aS]
            refine tkl 9 (.bool TB) rfl ?_ ?_
            · intro wx hSw; obtain ⟨hcS, hfS⟩ := bcellN hSw; go_simp
            try simp only [Act.put, aS]
            refine rd1 11 rfl fun K hK => ?_
            have r0 := (hZC.2 0 (by simp)).1
            have f0 := (hZC.2 0 (by simp)).2
            simp only [List.getD, List.getElem?_cons_zero, Option.getD_some] at r0
            have lZC := hZC.1
            have hkC : w4.heap.size ≤ C := by omega
            go_simp
            obtain ⟨XSC, eS⟩ : ∃ X, X = (xg.setCell ⟨C, 0, none⟩ (.slice a2 N k2)) := ⟨_, rfl⟩
            rw [← eS]
            have hPC : Bk XSC C [.slice a2 N k2] := by rw [eS]; exact bk_put (l := [.slice a2 N k2]) hZC rfl
            have hzC1 : XSC.heap.size ≤ xg.heap.size := by rw [eS]; exact Nat.le_of_eq (size_put C [.slice a2 N k2] 0 xg)
            have hzC2 : xg.heap.size ≤ XSC.heap.size := by rw [eS]; exact Nat.le_of_eq (size_put C [.slice a2 N k2] 0 xg).symm
            have hmC : ∀ b, ¬ b = C → Sm xg XSC b := by rw [eS]; exact fun b hb => sm_put hb [.slice a2 N k2] 0 xg
            have hBC : Below (w4.heap.size) w4 XSC := by rw [eS]; exact below_put hkC [.slice a2 N k2] 0 hHeld
            clear eS r0 f0
            replace hO := hO.sm hzC2 (fun b q1 q2 => hmC b (by omega))
            refine hK.out _ _ hBC (fun hNew => ?_)
            clear hK K hHeld
            have hHeld := hNew
            clear hNew
            try simp only [Act.put, aS]
            refine tkl 12 (.bool TB) rfl ?_ ?_
            · intro wx hSw; obtain ⟨hcS, hfS⟩ := bcellN hSw; go_simp
            try simp only [Act.put, aS]
            refine wpAnyH_done (by kernel_rfl) ?_ _
            go_wp2
            go_meet
            case rel => exact ⟨C, lg, hg, a2, k2, rfl, rfl, hPC, hO, ⟨by omega, hPC.1, by omega, by omega, by omega, by omega⟩, hHeld⟩
        · go_simp
          obtain ⟨XC, eA⟩ : ∃ X, X = xm.alloc (.cells #[.slice none 0 0] 40) := ⟨_, rfl⟩
          rw [← eA]
          have hbA : Below xm.heap.size xm XC := by rw [eA]; exact (Below.refl _ _).alloc (Nat.le_refl _) _
          have hZC : Bk XC xm.heap.size [.slice none 0 0] := by rw [eA]; exact bk_new xm 40 [.slice none 0 0]
          have hzAC1 : XC.heap.size ≤ xm.heap.size + 1 := by rw [eA]; simp
          have hzAC2 : xm.heap.size + 1 ≤ XC.heap.size := by rw [eA]; simp
          clear eA
          have hsz_XC := hbA.size
          refine hK.out _ _ (bthenN hHeld (by omega) hbA) (fun hNew => ?_)
          clear hK K hHeld
          have hHeld := hNew
          clear hNew
          try simp only [Act.put, aS]
          clear hbA
          obtain ⟨C, eC⟩ : ∃ g, g = xm.heap.size := ⟨_, rfl⟩
          rw [← eC] at hZC ⊢
          have eC1 : C ≤ xm.heap.size := by omega
          have eC2 : xm.heap.size ≤ C := by omega
          clear eC
          refine rd1 5 rfl fun K hK => ?_
          go_simp
          go_wp2_with fail
          refine (toMsg k x _).mono ?_
          rintro e xy ⟨rfl, hxy⟩
          replace hZC := hZC.below hxy
          have hsz_xy := hxy.size
          refine hK.out _ _ (bthenN hHeld (by omega) hxy) (fun hNew => ?_)
          clear hK K hHeld
          have hHeld := hNew
          clear hNew
          try simp only [Act.put, aS]
          refine rd1 6 rfl fun K hK => ?_
          go_simp
          go_wp2_with fail
          refine (hear_impl c d _ n n Z sv k x hn2 _ (C12.out.below hHeld).row).mono ?_
          rintro e xg ⟨⟨u, rfl, hO⟩, hxg⟩
          rw [EN.out, EY.out] at hO
          rw [ET.out]
          obtain ⟨a2, k2, eu, _⟩ := hO.at
          subst eu
          obtain ⟨lg, elg⟩ : ∃ l, l = xy.heap.size := ⟨_, rfl⟩
          obtain ⟨hg, ehg⟩ : ∃ l, l = xg.heap.size := ⟨_, rfl⟩
          rw [← elg, ← ehg] at hO
          have elg1 : lg ≤ xy.heap.size := by omega
          have elg2 : xy.heap.size ≤ lg := by omega
          have ehg1 : hg ≤ xg.heap.size := by omega
          have ehg2 : xg.heap.size ≤ hg := by omega
          clear elg ehg
          replace hZC := hZC.below hxg
          have hsz_xg := hxg.size
          refine hK.out _ _ (bthenN hHeld (by omega) hxg) (fun hNew => ?_)
          clear hK K hHeld
          have hHeld := hNew
          clear hNew
          try simp only [Act.put, aS]
          refine tkl 7 (.tuple #[.agg #[.slice a2 N k2], .bool TB]) rfl ?_ ?_
          · intro wx hSw; obtain ⟨hcS, hfS⟩ := bcellN hSw; go_simp
          try simp only [Act.put, aS]
          refine tkl 8 (.agg #[.slice a2 N k2]) rfl ?_ ?_
          · intro wx hSw; obtain ⟨hcS, hfS⟩ := bcellN hSw; go_simp
          try simp only [Act.put, aS]
          refine tkl 9 (.bool TB) rfl ?_ ?_
          · intro wx hSw; obtain ⟨hcS, hfS⟩ := bcellN hSw; go_simp
          try simp only [Act.put, aS]
          refine rd1 11 rfl fun K hK => ?_
          have r0 := (hZC.2 0 (by simp)).1
          have f0 := (hZC.2 0 (by simp)).2
          simp only [List.getD, List.getElem?_cons_zero, Option.getD_some] at r0
          have lZC := hZC.1
          have hkC : w4.heap.size ≤ C := by omega
          go_simp
          obtain ⟨XSC, eS⟩ : ∃ X, X = (xg.setCell ⟨C, 0, none⟩ (.slice a2 N k2)) := ⟨_, rfl⟩
          rw [← eS]
          have hPC : Bk XSC C [.slice a2 N k2] := by rw [eS]; exact bk_put (l := [.slice a2 N k2]) hZC rfl
          have hzC1 : XSC.heap.size ≤ xg.heap.size := by rw [eS]; exact Nat.le_of_eq (size_put C [.slice a2 N k2] 0 xg)
          have hzC2 : xg.heap.size ≤ XSC.heap.size := by rw [eS]; exact Nat.le_of_eq (size_put C [.slice a2 N k2] 0 xg).symm
          have hmC : ∀ b, ¬ b = C → Sm xg XSC b := by rw [eS]; exact fun b hb => sm_put hb [.slice a2 N k2] 0 xg
          have hBC : Below (w4.heap.size) w4 XSC := by rw [eS]; exact below_put hkC [.slice a2 N k2] 0 hHeld
          clear eS r0 f0
          replace hO := hO.sm hzC2 (fun b q1 q2 => hmC b (by omega))
          refine hK.out _ _ hBC (fun hNew => ?_)
          clear hK K hHeld
          have hHeld := hNew
          clear hNew
          try simp only [Act.put, aS]
          refine tkl 12 (.bool TB) rfl ?_ ?_
          · intro wx hSw; obtain ⟨hcS, hfS⟩ := bcellN hSw; go_simp
          try simp only [Act.put, aS]
          refine wpAnyH_done (by kernel_rfl) ?_ _
          go_wp2
          go_meet
          case rel => exact ⟨C, lg, hg, a2, k2, rfl, rfl, hPC, hO, ⟨by omega, hPC.1, by omega, by omega, by omega, by omega⟩, hHeld⟩
      · go_simp
        obtain ⟨XC, eA⟩ : ∃ X, X = X0.alloc (.cells #[.slice none 0 0] 40) := ⟨_, rfl⟩
        rw [← eA]
        have hbA : Below X0.heap.size X0 XC := by rw [eA]; exact (Below.refl _ _).alloc (Nat.le_refl _) _
        have hZC : Bk XC X0.heap.size [.slice none 0 0] := by rw [eA]; exact bk_new X0 40 [.slice none 0 0]
        have hzAC1 : XC.heap.size ≤ X0.heap.size + 1 := by rw [eA]; simp
        have hzAC2 : X0.heap.size + 1 ≤ XC.heap.size := by rw [eA]; simp
        clear eA
        have hsz_XC := hbA.size
        refine hK.out _ _ (bthenN hHeld (by omega) hbA) (fun hNew => ?_)
        clear hK K hHeld
        have hHeld := hNew
        clear hNew
        try simp only [Act.put, aS]
        clear hbA
        obtain ⟨C, eC⟩ : ∃ g, g = X0.heap.size := ⟨_, rfl⟩
        rw [← eC] at hZC ⊢
        have eC1 : C ≤ X0.heap.size := by omega
        have eC2 : X0.heap.size ≤ C := by omega
        clear eC
        refine rd1 1 rfl fun K hK => ?_
        go_simp
        go_wp2_with fail
        refine (toMap _ _ _).mono ?_
        rintro e xm ⟨rfl, hxm⟩
        replace hZC := hZC.below hxm
        have hsz_xm := hxm.size
        refine hK.out _ _ (bthenN hHeld (by omega) hxm) (fun hNew => ?_)
        clear hK K hHeld
        have hHeld := hNew
        clear hNew
        try simp only [Act.put, aS]
        refine rd1 5 rfl fun K hK => ?_
        go_simp
        go_wp2_with fail
        refine (toMsg k x _).mono ?_
        rintro e xy ⟨rfl, hxy⟩
        replace hZC := hZC.below hxy
        have hsz_xy := hxy.size
        refine hK.out _ _ (bthenN hHeld (by omega) hxy) (fun hNew => ?_)
        clear hK K hHeld
        have hHeld := hNew
        clear hNew
        try simp only [Act.put, aS]
        refine rd1 6 rfl fun K hK => ?_
        go_simp
        go_wp2_with fail
        refine (hear_impl c d _ n n Z sv k x hn2 _ (C12.out.below hHeld).row).mono ?_
        rintro e xg ⟨⟨u, rfl, hO⟩, hxg⟩
        rw [EN.out, EY.out] at hO
        rw [ET.out]
        obtain ⟨a2, k2, eu, _⟩ := hO.at
        subst eu
        obtain ⟨lg, elg⟩ : ∃ l, l = xy.heap.size := ⟨_, rfl⟩
        obtain ⟨hg, ehg⟩ : ∃ l, l = xg.heap.size := ⟨_, rfl⟩
        rw [← elg, ← ehg] at hO
        have elg1 : lg ≤ xy.heap.size := by omega
        have elg2 : xy.heap.size ≤ lg := by omega
        have ehg1 : hg ≤ xg.heap.size := by omega
        have ehg2 : xg.heap.size ≤ hg := by omega
        clear elg ehg
        replace hZC := hZC.below hxg
        have hsz_xg := hxg.size
        refine hK.out _ _ (bthenN hHeld (by omega) hxg) (fun hNew => ?_)
        clear hK K hHeld
        have hHeld := hNew
        clear hNew
        try simp only [Act.put, aS]
        refine tkl 7 (.tuple #[.agg #[.slice a2 N k2], .bool TB]) rfl ?_ ?_
        · intro wx hSw; obtain ⟨hcS, hfS⟩ := bcellN hSw; go_simp
        try simp only [Act.put, aS]
        refine tkl 8 (.agg #[.slice a2 N k2]) rfl ?_ ?_
        · intro wx hSw; obtain ⟨hcS, hfS⟩ := bcellN hSw; go_simp
        try simp only [Act.put, aS]
        refine tkl 9 (.bool TB) rfl ?_ ?_
        · intro wx hSw; obtain ⟨hcS, hfS⟩ := bcellN hSw; go_simp
        try simp only [Act.put, aS]
        refine rd1 11 rfl fun K hK => ?_
        have r0 := (hZC.2 0 (by simp)).1
        have f0 := (hZC.2 0 (by simp)).2
        simp only [List.getD, List.getElem?_cons_zero, Option.getD_some] at r0
        have lZC := hZC.1
        have hkC : w4.heap.size ≤ C := by omega
        go_simp
        obtain ⟨XSC, eS⟩ : ∃ X, X = (xg.setCell ⟨C, 0, none⟩ (.slice a2 N k2)) := ⟨_, rfl⟩
        rw [← eS]
        have hPC : Bk XSC C [.slice a2 N k2] := by rw [eS]; exact bk_put (l := [.slice a2 N k2]) hZC rfl
        have hzC1 : XSC.heap.size ≤ xg.heap.size := by rw [eS]; exact Nat.le_of_eq (size_put C [.slice a2 N k2] 0 xg)
        have hzC2 : xg.heap.size ≤ XSC.heap.size := by rw [eS]; exact Nat.le_of_eq (size_put C [.slice a2 N k2] 0 xg).symm
        have hmC : ∀ b, ¬ b = C → Sm xg XSC b := by rw [eS]; exact fun b hb => sm_put hb [.slice a2 N k2] 0 xg
        have hBC : Below (w4.heap.size) w4 XSC := by rw [eS]; exact below_put hkC [.slice a2 N k2] 0 hHeld
        clear eS r0 f0
        replace hO := hO.sm hzC2 (fun b q1 q2 => hmC b (by omega))
        refine hK.out _ _ hBC (fun hNew => ?_)
        clear hK K hHeld
        have hHeld := hNew
        clear hNew
        try simp only [Act.put, aS]
        refine tkl 12 (.bool TB) rfl ?_ ?_
        · intro wx hSw; obtain ⟨hcS, hfS⟩ := bcellN hSw; go_simp
        try simp only [Act.put, aS]
        refine wpAnyH_done (by kernel_rfl) ?_ _
        go_wp2
        go_meet
        case rel => exact ⟨C, lg, hg, a2, k2, rfl, rfl, hPC, hO, ⟨by omega, hPC.1, by omega, by omega, by omega, by omega⟩, hHeld⟩
    case rest =>
      obtain ⟨w5, hwn⟩ : ∃ wn, wn = wc := ⟨_, rfl⟩
      subst hwn
      obtain ⟨g2, l2, h2, a2, k2, rfl, rfl, hG, hO, ⟨c21, c22, c23, c24, c25, c26⟩, hb⟩ := hcut
      have y_w5 : w4.heap.size ≤ w5.heap.size := hb.size
      have B14 := hid (bthen B10.out hb)
      have M14 := hid (M10.out.below hb)
      have A14 := hid (A10.out.below hb)
      have T14 := hid (T10.out.below hb)
      have O1_14 : Hid (P10.RL l1 h1 w5 (.slice a1 N k1) N Y) := O1_10.out.below hb
      have G1_14 := hid (G1_10.out.below hb)
      have OX_14 : Hid (P10.RL lx hx w5 (.slice (some ⟨bx, 0, none⟩) n n) n Z) := OX_11.out.below hb
      have C14 : Hid (Cp w5 bx n Z) := C12.out.below hb
      have X14 := hid (X13.out.below hb)
      clear B10 M10 A10 T10 O1_10 G1_10 OX_11 C12 X13
      have O2_15 : Hid (P10.RL l2 h2 w5 (.slice a2 N k2) N Y) := hO
      have G2_16 : Hid (Bk w5 g2 [.slice a2 N k2]) := hG
      clear hO hG hb
      clear C14
      have yG1_0 := G1_14.out.a1
      have hlG1_ : g1 < w5.heap.size := G1_14.out.1
      have yG2_0 := G2_16.out.a1
      have hlG2_ : g2 < w5.heap.size := G2_16.out.1
      go_wp2_with fail
      refine (eqBook a2 k2 a1 k1 N Y (by omega) _ (rl_row O2_15.out) (rl_row O1_14.out)).mono ?_
      rintro e w6 ⟨rfl, hb⟩
      clear yG1_0 hlG1_ yG2_0 hlG2_
      have y_w6 : w5.heap.size ≤ w6.heap.size := hb.size
      have B17 := hid (bthen B14.out hb)
      have M17 := hid (M14.out.below hb)
      have A17 := hid (A14.out.below hb)
      have T17 := hid (T14.out.below hb)
      have O1_17 : Hid (P10.RL l1 h1 w6 (.slice a1 N k1) N Y) := O1_14.out.below hb
      have G1_17 := hid (G1_14.out.below hb)
      have OX_17 : Hid (P10.RL lx hx w6 (.slice (some ⟨bx, 0, none⟩) n n) n Z) := OX_14.out.below hb
      have X17 := hid (X14.out.below hb)
      have O2_17 : Hid (P10.RL l2 h2 w6 (.slice a2 N k2) N Y) := O2_15.out.below hb
      have G2_17 := hid (G2_16.out.below hb)
      clear B14 M14 A14 T14 O1_14 G1_14 OX_14 X14 O2_15 G2_16
      clear hb
      go_upto_region 10 with fail
      have yX0 := X17.out.a1
      have hlX : gx < w6.heap.size := X17.out.1
      have yA0 := A17.out.a1
      have hlA : (w.heap.size + 1) < w6.heap.size := A17.out.1
      refine wp_region_held_drew (S := fun w' => (∀ b o, b < w6.heap.size → w'.cell? ⟨b, o, none⟩ = w6.cell? ⟨b, o, none⟩) ∧ w6.heap.size ≤ w'.heap.size) (by kernel_rfl) ⟨fun _ _ _ => rfl, Nat.le_refl _⟩ ?_
      intro hHeld
      refine tkl 0 (.agg #[.slice (some ⟨bx, 0, none⟩) n n]) rfl ?_ ?_
      · intro wx hSw; go_simp
      try simp only [Act.put, aS]
      refine tkl 1 (.agg #[.slice a n cap]) rfl ?_ ?_
      · intro wx hSw; go_simp
      try simp only [Act.put, aS]
      refine rd1 2 rfl fun K hK => ?_
      go_simp
      go_wp2_with fail
      refine (toBookC a n cap Z hn2 _ (P10.row_below H0.out (bthen B17.out (by repeat (first | exact Below.refl _ _ | refine bthen ?_ (by assumption) | apply Below.drew))))).mono ?_
      rintro e t1 ⟨⟨b4, rfl, hC3, _⟩, ht1⟩
      refine hK.out _ _ (keepS (by assumption) ht1) (fun hNew => ?_)
      clear hK K hHeld
      have hHeld := hNew
      clear hNew
      try simp only [Act.put, aS]
      refine rd1 3 rfl fun K hK => ?_
      go_simp
      go_wp2_with fail
      refine (eqBook _ _ _ _ n Z (by omega) _ (P10.row_below (rl_row OX_17.out) (by repeat (first | exact Below.refl _ _ | refine bthen ?_ (by assumption) | apply Below.drew))) hC3.row).mono ?_
      rintro e t2 ⟨rfl, ht2⟩
      refine hK.out _ _ (keepS (by assumption) ht2) (fun hNew => ?_)
      clear hK K hHeld
      have hHeld := hNew
      clear hNew
      try simp only [Act.put, aS]
      refine tkl 4 (.bool false) rfl ?_ ?_
      · intro wx hSw; go_simp
      try simp only [Act.put, aS]
      refine wpAnyH_done (by kernel_rfl) ?_ _
      clear hHeld
      have hb7 : Below w6.heap.size w6 t2 := by repeat (first | exact Below.refl _ _ | refine bthen ?_ (by assumption) | apply Below.drew)
      generalize t2 = w7 at *
      clear yX0 hlX yA0 hlA
      have y_w7 : w6.heap.size ≤ w7.heap.size := hb7.size
      have B18 := hid (bthen B17.out hb7)
      have M18 := hid (M17.out.below hb7)
      have A18 := hid (A17.out.below hb7)
      have T18 := hid (T17.out.below hb7)
      have O1_18 : Hid (P10.RL l1 h1 w7 (.slice a1 N k1) N Y) := O1_17.out.below hb7
      have G1_18 := hid (G1_17.out.below hb7)
      have OX_18 : Hid (P10.RL lx hx w7 (.slice (some ⟨bx, 0, none⟩) n n) n Z) := OX_17.out.below hb7
      have X18 := hid (X17.out.below hb7)
      have O2_18 : Hid (P10.RL l2 h2 w7 (.slice a2 N k2) N Y) := O2_17.out.below hb7
      have G2_18 := hid (G2_17.out.below hb7)
      clear B17 M17 A17 T17 O1_17 G1_17 OX_17 X17 O2_17 G2_17
      clear hb7 ht1 ht2 hC3
      have yX0 := X18.out.a1
      have hlX : gx < w7.heap.size := X18.out.1
      go_wp2_with fail
      clear yX0 hlX
      refine (markBook lx hx 1 _ n Z (by omega) (by omega) _ (by omega) OX_18.out).mono ?_
      rintro e w8 ⟨rfl, hO, hz, hsm, hbl⟩
      have y_w8 : w7.heap.size ≤ w8.heap.size := hz
      have B19 : Hid (Below w.heap.size w w8) := B18.out.trans (hbl.mono (by omega))
      have M19 := hid (M18.out.sm hz (hsm (w.heap.size) (by omega) (by omega)))
      have A19 := hid (A18.out.sm hz (hsm ((w.heap.size + 1)) (by omega) (by omega)))
      have T19 := hid (T18.out.sm hz (hsm ((w.heap.size + 1 + 1)) (by omega) (by omega)))
      have O1_19 : Hid (P10.RL l1 h1 w8 (.slice a1 N k1) N Y) := O1_18.out.sm hz (fun b q1 q2 => hsm b (by omega) (by omega))
      have G1_19 := hid (G1_18.out.sm hz (hsm (g1) (by omega) (by omega)))
      have X19 := hid (X18.out.sm hz (hsm (gx) (by omega) (by omega)))
      have O2_19 : Hid (P10.RL l2 h2 w8 (.slice a2 N k2) N Y) := O2_18.out.sm hz (fun b q1 q2 => hsm b (by omega) (by omega))
      have G2_19 := hid (G2_18.out.sm hz (hsm (g2) (by omega) (by omega)))
      clear B18 M18 A18 T18 O1_18 G1_18 X18 O2_18 G2_18
      clear hO hz hsm hbl OX_18
      obtain ⟨q8, eq8⟩ : ∃ q : Int, q = ((1 + n * 10 : Nat) : Int) := ⟨_, rfl⟩
      have nn8 : ¬ q8 < 0 := by omega
      rw [← eq8]
      clear eq8
      have yG1_0 := G1_19.out.a1
      have hlG1_ : g1 < w8.heap.size := G1_19.out.1
      have yG2_0 := G2_19.out.a1
      have hlG2_ : g2 < w8.heap.size := G2_19.out.1
      go_wp2_with fail
      refine (eqBook a2 k2 a1 k1 N Y (by omega) _ (rl_row O2_19.out) (rl_row O1_19.out)).mono ?_
      rintro e w9 ⟨rfl, hb⟩
      clear yG1_0 hlG1_ yG2_0 hlG2_
      have y_w9 : w8.heap.size ≤ w9.heap.size := hb.size
      have B20 := hid (bthen B19.out hb)
      have M20 := hid (M19.out.below hb)
      have A20 := hid (A19.out.below hb)
      have T20 := hid (T19.out.below hb)
      have O1_20 : Hid (P10.RL l1 h1 w9 (.slice a1 N k1) N Y) := O1_19.out.below hb
      have G1_20 := hid (G1_19.out.below hb)
      have X20 := hid (X19.out.below hb)
      have O2_20 : Hid (P10.RL l2 h2 w9 (.slice a2 N k2) N Y) := O2_19.out.below hb
      have G2_20 := hid (G2_19.out.below hb)
      clear B19 M19 A19 T19 O1_19 G1_19 X19 O2_19 G2_19
      clear hb
      have yG2_0 := G2_20.out.a1
      have hlG2_ : g2 < w9.heap.size := G2_20.out.1
      go_wp2_with fail
      clear yG2_0 hlG2_
      refine (markBook l2 h2 1 _ N Y (by omega) (by omega) _ (by omega) O2_20.out).mono ?_
      rintro e w10 ⟨rfl, hO, hz, hsm, hbl⟩
      have y_w10 : w9.heap.size ≤ w10.heap.size := hz
      have B21 : Hid (Below w.heap.size w w10) := B20.out.trans (hbl.mono (by omega))
      have M21 := hid (M20.out.sm hz (hsm (w.heap.size) (by omega) (by omega)))
      have A21 := hid (A20.out.sm hz (hsm ((w.heap.size + 1)) (by omega) (by omega)))
      have T21 := hid (T20.out.sm hz (hsm ((w.heap.size + 1 + 1)) (by omega) (by omega)))
      have O1_21 : Hid (P10.RL l1 h1 w10 (.slice a1 N k1) N Y) := O1_20.out.sm hz (fun b q1 q2 => hsm b (by omega) (by omega))
      have G1_21 := hid (G1_20.out.sm hz (hsm (g1) (by omega) (by omega)))
      have X21 := hid (X20.out.sm hz (hsm (gx) (by omega) (by omega)))
      have G2_21 := hid (G2_20.out.sm hz (hsm (g2) (by omega) (by omega)))
      clear B20 M20 A20 T20 O1_20 G1_20 X20 G2_20
      have O2_22 : Hid (P10.RL l2 h2 w10 (.slice a2 N k2) N (P10.Mk 10 1)) := hO
      clear hO hz hsm hbl O2_20
      obtain ⟨q10, eq10⟩ : ∃ q : Int, q = ((1 + N * 10 : Nat) : Int) := ⟨_, rfl⟩
      have EQ : Hid (q10 = ((1 + N * 10 : Nat) : Int)) := eq10
      have nn10 : ¬ q10 < 0 := by omega
      rw [← eq10]
      clear eq10
      have yG2_0 := G2_21.out.a1
      have hlG2_ : g2 < w10.heap.size := G2_21.out.1
      go_wp2_with fail
      clear yG2_0 hlG2_
      refine (heldBook l2 h2 1 _ N (by omega) (by omega) _ O2_22.out).mono ?_
      rintro e w11 ⟨rfl, hb⟩
      rw [← EQ.out]
      have y_w11 : w10.heap.size ≤ w11.heap.size := hb.size
      have B23 := hid (bthen B21.out hb)
      have M23 := hid (M21.out.below hb)
      have A23 := hid (A21.out.below hb)
      have T23 := hid (T21.out.below hb)
      have O1_23 : Hid (P10.RL l1 h1 w11 (.slice a1 N k1) N Y) := O1_21.out.below hb
      have G1_23 := hid (G1_21.out.below hb)
      have X23 := hid (X21.out.below hb)
      have G2_23 := hid (G2_21.out.below hb)
      have O2_23 : Hid (P10.RL l2 h2 w11 (.slice a2 N k2) N (P10.Mk 10 1)) := O2_22.out.below hb
      clear B21 M21 A21 T21 O1_21 G1_21 X21 G2_21 O2_22
      clear hb
      go_upto_region 24 with fail
      go_cut [18, 19] (fun s t wx => ∃ g l h a3 k3, .pointer (some ⟨g, 0, none⟩) = s ∧ .bool TB = t ∧ Bk wx g [.slice a3 N k3] ∧ P10.RL l h wx (.slice a3 N k3) N Y ∧ (w11.heap.size ≤ g ∧ g < wx.heap.size ∧ w11.heap.size ≤ l ∧ l ≤ h ∧ h ≤ wx.heap.size ∧ (g < l ∨ h ≤ g)) ∧ Below w11.heap.size w11 wx)
      case first =>
        obtain ⟨yM0, yM1⟩ := M23.out.a2
        have hlM : w.heap.size < w11.heap.size := M23.out.1
        have yA0 := A23.out.a1
        have hlA : (w.heap.size + 1) < w11.heap.size := A23.out.1
        obtain ⟨yT0, yT1, yT2, yT3, yT4, yT5, yT6, yT7, yT8, yT9, yT10, yT11, yT12, yT13, yT14, yT15, yT16, yT17, yT18, yT19, yT20, yT21, yT22, yT23, yT24⟩ := T23.out.a25
        have hlT : (w.heap.size + 1 + 1) < w11.heap.size := T23.out.1
        refine wp_region_held_drew (S := fun w' => Below (w11.heap.size) w11 w') (by kernel_rfl) ((Below.refl _ _).drew) ?_
        intro hHeld
        obtain ⟨X0, hX0⟩ : ∃ X, X = w11.drew := ⟨_, rfl⟩
        have hz0 : w11.heap.size ≤ X0.heap.size := by rw [hX0]; exact Nat.le_refl _
        rw [← hX0] at hHeld ⊢
        clear hX0
        refine tkl 0 (.agg #[.int .i64 c, .int .i64 d]) rfl ?_ ?_
        · intro wx hSw; obtain ⟨hcS, hfS⟩ := bcellN hSw; go_simp
        try simp only [Act.put, aS]
        refine tkl 2 (.agg #[.slice a n cap]) rfl ?_ ?_
        · intro wx hSw; obtain ⟨hcS, hfS⟩ := bcellN hSw; go_simp
        try simp only [Act.put, aS]
        refine tkl 4 (.int .i64 sv) rfl ?_ ?_
        · intro wx hSw; obtain ⟨hcS, hfS⟩ := bcellN hSw; go_simp
        try simp only [Act.put, aS]
        refine tkl 5 (.agg #[.int .i64 k, .int .i64 (x 1), .int .i64 (x 2), .int .i64 (x 3), .int .i64 (x 4), .int .i64 (x 5), .int .i64 (x 6), .int .i64 (x 7), .int .i64 (x 8), .int .i64 (x 9), .int .i64 (x 10), .int .i64 (x 11), .int .i64 (x 12), .int .i64 (x 13), .int .i64 (x 14), .int .i64 (x 15), .int .i64 (x 16), .int .i64 (x 17), .int .i64 (x 18), .int .i64 (x 19), .int .i64 (x 20), .int .i64 (x 21), .int .i64 (x 22), .int .i64 (x 23), .int .i64 (x 24)]) rfl ?_ ?_
        · intro wx hSw; obtain ⟨hcS, hfS⟩ := bcellN hSw; go_simp
        try simp only [Act.put, aS]
        refine rdy [1, 11] ?_
        refine (AllReadyH.cons rfl (fun K hK => ?_) (AllReadyH.cons rfl (fun K hK => ?_) AllReadyH.nil))
        · go_simp
          go_wp2_with fail
          refine (toMap _ _ _).mono ?_
          rintro e xm ⟨rfl, hxm⟩
          have hsz_xm := hxm.size
          refine hK.out _ _ (bthenN hHeld (by omega) hxm) (fun hNew => ?_)
          clear hK K hHeld
          have hHeld := hNew
          clear hNew
          try simp only [Act.put, aS]
          refine rdy [3, 11] ?_
          refine (AllReadyH.cons rfl (fun K hK => ?_) (AllReadyH.cons rfl (fun K hK => ?_) AllReadyH.nil))
          · go_simp
            go_wp2_with fail
            refine (toBookC a n cap Z hn2 _ (P10.row_below H0.out (bthen B23.out hHeld))).mono ?_
            rintro e xt ⟨⟨bt, rfl, hC, hbt⟩, hxt⟩
            have hsz_xt := hxt.size
            refine hK.out _ _ (bthenN hHeld (by omega) hxt) (fun hNew => ?_)
            clear hK K hHeld
            have hHeld := hNew
            clear hNew
            try simp only [Act.put, aS]
            refine rdy [6, 11] ?_
            refine (AllReadyH.cons rfl (fun K hK => ?_) (AllReadyH.cons rfl (fun K hK => ?_) AllReadyH.nil))
            · go_simp
              go_wp2_with fail
              refine (toMsg k x _).mono ?_
              rintro e xy ⟨rfl, hxy⟩
              replace hC := hC.below hxy
              have hsz_xy := hxy.size
              refine hK.out _ _ (bthenN hHeld (by omega) hxy) (fun hNew => ?_)
              clear hK K hHeld
              have hHeld := hNew
              clear hNew
              try simp only [Act.put, aS]
              refine rdy [7, 11] ?_
              refine (AllReadyH.cons rfl (fun K hK => ?_) (AllReadyH.cons rfl (fun K hK => ?_) AllReadyH.nil))
              · go_simp
                go_wp2_with fail
                refine (hear_impl c d _ n n Z sv k x hn2 _ hC.row).mono ?_
                rintro e xg ⟨⟨u, rfl, hO⟩, hxg⟩
                rw [EN.out, EY.out] at hO
                rw [ET.out]
                obtain ⟨a3, k3, eu, _⟩ := hO.at
                subst eu
                obtain ⟨lg, elg⟩ : ∃ l, l = xy.heap.size := ⟨_, rfl⟩
                obtain ⟨hg, ehg⟩ : ∃ l, l = xg.heap.size := ⟨_, rfl⟩
                rw [← elg, ← ehg] at hO
                have elg1 : lg ≤ xy.heap.size := by omega
                have elg2 : xy.heap.size ≤ lg := by omega
                have ehg1 : hg ≤ xg.heap.size := by omega
                have ehg2 : xg.heap.size ≤ hg := by omega
                clear elg ehg
                replace hC := hC.below hxg
                have hsz_xg := hxg.size
                refine hK.out _ _ (bthenN hHeld (by omega) hxg) (fun hNew => ?_)
                clear hK K hHeld
                have hHeld := hNew
                clear hNew
                try simp only [Act.put, aS]
                refine tkl 8 (.tuple #[.agg #[.slice a3 N k3], .bool TB]) rfl ?_ ?_
                · intro wx hSw; obtain ⟨hcS, hfS⟩ := bcellN hSw; go_simp
                try simp only [Act.put, aS]
                refine tkl 9 (.agg #[.slice a3 N k3]) rfl ?_ ?_
                · intro wx hSw; obtain ⟨hcS, hfS⟩ := bcellN hSw; go_simp
                try simp only [Act.put, aS]
                refine tkl 10 (.bool TB) rfl ?_ ?_
                · intro wx hSw; obtain ⟨hcS, hfS⟩ := bcellN hSw; go_simp
                try simp only [Act.put, aS]
                refine rd1 11 rfl fun K hK => ?_
                go_simp
                obtain ⟨XC, eA⟩ : ∃ X, X = xg.alloc (.cells #[.slice none 0 0] 40) := ⟨_, rfl⟩
                rw [← eA]
                have hbA : Below xg.heap.size xg XC := by rw [eA]; exact (Below.refl _ _).alloc (Nat.le_refl _) _
                have hZC : Bk XC xg.heap.size [.slice none 0 0] := by rw [eA]; exact bk_new xg 40 [.slice none 0 0]
                have hzAC1 : XC.heap.size ≤ xg.heap.size + 1 := by rw [eA]; simp
                have hzAC2 : xg.heap.size + 1 ≤ XC.heap.size := by rw [eA]; simp
                clear eA
                replace hO := hO.below hbA
                have hsz_XC := hbA.size
                refine hK.out _ _ (bthenN hHeld (by omega) hbA) (fun hNew => ?_)
                clear hK K hHeld
                have hHeld := hNew
                clear hNew
                try simp only [Act.put, aS]
                clear hbA
                obtain ⟨C, eC⟩ : ∃ g, g = xg.heap.size := ⟨_, rfl⟩
                rw [← eC] at hZC ⊢
                have eC1 : C ≤ xg.heap.size := by omega
                have eC2 : xg.heap.size ≤ C := by omega
                clear eC
                refine rd1 12 rfl fun K hK => ?_
                have r0 := (hZC.2 0 (by simp)).1
                have f0 := (hZC.2 0 (by simp)).2
                simp only [List.getD, List.getElem?_cons_zero, Option.getD_some] at r0
                have lZC := hZC.1
                have hkC : w11.heap.size ≤ C := by omega
                go_simp
                obtain ⟨XSC, eS⟩ : ∃ X, X = (XC.setCell ⟨C, 0, none⟩ (.slice a3 N k3)) := ⟨_, rfl⟩
                rw [← eS]
                have hPC : Bk XSC C [.slice a3 N k3] := by rw [eS]; exact bk_put (l := [.slice a3 N k3]) hZC rfl
                have hzC1 : XSC.heap.size ≤ XC.heap.size := by rw [eS]; exact Nat.le_of_eq (size_put C [.slice a3 N k3] 0 XC)
                have hzC2 : XC.heap.size ≤ XSC.heap.size := by rw [eS]; exact Nat.le_of_eq (size_put C [.slice a3 N k3] 0 XC).symm
                have hmC : ∀ b, ¬ b = C → Sm XC XSC b := by rw [eS]; exact fun b hb => sm_put hb [.slice a3 N k3] 0 XC
                have hBC : Below (w11.heap.size) w11 XSC := by rw [eS]; exact below_put hkC [.slice a3 N k3] 0 hHeld
                clear eS r0 f0
                replace hO := hO.sm hzC2 (fun b q1 q2 => hmC b (by omega))
                refine hK.out _ _ hBC (fun hNew => ?_)
                clear hK K hHeld
                have hHeld := hNew
                clear hNew
                try simp only [Act.put, aS]
                refine tkl 13 (.bool TB) rfl ?_ ?_
                · intro wx hSw; obtain ⟨hcS, hfS⟩ := bcellN hSw; go_simp
                try simp only [Act.put, aS]
                refine wpAnyH_done (by kernel_rfl) ?_ _
                go_wp2
                go_meet
                case rel => exact ⟨C, lg, hg, a3, k3, rfl, rfl, hPC, hO, ⟨by omega, hPC.1, by omega, by omega, by omega, by omega⟩, hHeld⟩
              · go_simp
                obtain ⟨XC, eA⟩ : ∃ X, X = xy.alloc (.cells #[.slice none 0 0] 40) := ⟨_, rfl⟩
                rw [← eA]
                have hbA : Below xy.heap.size xy XC := by rw [eA]; exact (Below.refl _ _).alloc (Nat.le_refl _) _
                have hZC : Bk XC xy.heap.size [.slice none 0 0] := by rw [eA]; exact bk_new xy 40 [.slice none 0 0]
                have hzAC1 : XC.heap.size ≤ xy.heap.size + 1 := by rw [eA]; simp
                have hzAC2 : xy.heap.size + 1 ≤ XC.heap.size := by rw [eA]; simp
                clear eA
                replace hC := hC.below hbA
                have hsz_XC := hbA.size
                refine hK.out _ _ (bthenN hHeld (by omega) hbA) (fun hNew => ?_)
                clear hK K hHeld
                have hHeld := hNew
                clear hNew
                try simp only [Act.put, aS]
                clear hbA
                obtain ⟨C, eC⟩ : ∃ g, g = xy.heap.size := ⟨_, rfl⟩
                rw [← eC] at hZC ⊢
                have eC1 : C ≤ xy.heap.size := by omega
                have eC2 : xy.heap.size ≤ C := by omega
                clear eC
                refine rd1 7 rfl fun K hK => ?_
                go_simp
                go_wp2_with fail
                refine (hear_impl c d _ n n Z sv k x hn2 _ hC.row).mono ?_
                rintro e xg ⟨⟨u, rfl, hO⟩, hxg⟩
                rw [EN.out, EY.out] at hO
                rw [ET.out]
                obtain ⟨a3, k3, eu, _⟩ := hO.at
                subst eu
                obtain ⟨lg, elg⟩ : ∃ l, l = XC.heap.size := ⟨_, rfl⟩
                obtain ⟨hg, ehg⟩ : ∃ l, l = xg.heap.size := ⟨_, rfl⟩
                rw [← elg, ← ehg] at hO
                have elg1 : lg ≤ XC.heap.size := by omega
                have elg2 : XC.heap.size ≤ lg := by omega
                have ehg1 : hg ≤ xg.heap.size := by omega
                have ehg2 : xg.heap.size ≤ hg := by omega
                clear elg ehg
                replace hC := hC.below hxg
                replace hZC := hZC.below hxg
                have hsz_xg := hxg.size
                refine hK.out _ _ (bthenN hHeld (by omega) hxg) (fun hNew => ?_)
                clear hK K hHeld
                have hHeld := hNew
                clear hNew
                try simp only [Act.put, aS]
                refine tkl 8 (.tuple #[.agg #[.slice a3 N k3], .bool TB]) rfl ?_ ?_
                · intro wx hSw; obtain ⟨hcS, hfS⟩ := bcellN hSw; go_simp
                try simp only [Act.put, aS]
                refine tkl 9 (.agg #[.slice a3 N k3]) rfl ?_ ?_
                · intro wx hSw; obtain ⟨hcS, hfS⟩ := bcellN hSw; go_simp
                try simp only [Act.put, aS]
                refine tkl 10 (.bool TB) rfl ?_ ?_
                · intro wx hSw; obtain ⟨hcS, hfS⟩ := bcellN hSw; go_simp
                try simp only [Act.put, aS]
                refine rd1 12 rfl fun K hK => ?_
                have r0 := (hZC.2 0 (by simp)).1
                have f0 := (hZC.2 0 (by simp)).2
                simp only [List.getD, List.getElem?_cons_zero, Option.getD_some] at r0
                have lZC := hZC.1
                have hkC : w11.heap.size ≤ C := by omega
                go_simp
                obtain ⟨XSC, eS⟩ : ∃ X, X = (xg.setCell ⟨C, 0, none⟩ (.slice a3 N k3)) := ⟨_, rfl⟩
                rw [← eS]
                have hPC : Bk XSC C [.slice a3 N k3] := by rw [eS]; exact bk_put (l := [.slice a3 N k3]) hZC rfl
                have hzC1 : XSC.heap.size ≤ xg.heap.size := by rw [eS]; exact Nat.le_of_eq (size_put C [.slice a3 N k3] 0 xg)
                have hzC2 : xg.heap.size ≤ XSC.heap.size := by rw [eS]; exact Nat.le_of_eq (size_put C [.slice a3 N k3] 0 xg).symm
                have hmC : ∀ b, ¬ b = C → Sm xg XSC b := by rw [eS]; exact fun b hb => sm_put hb [.slice a3 N k3] 0 xg
                have hBC : Below (w11.heap.size) w11 XSC := by rw [eS]; exact below_put hkC [.slice a3 N k3] 0 hHeld
                clear eS r0 f0
                replace hO := hO.sm hzC2 (fun b q1 q2 => hmC b (by omega))
                refine hK.out _ _ hBC (fun hNew => ?_)
                clear hK K hHeld
                have hHeld := hNew
                clear hNew
                try simp only [Act.put, aS]
                refine tkl 13 (.bool TB) rfl ?_ ?_
                · intro wx hSw; obtain ⟨hcS, hfS⟩ := bcellN hSw; go_simp
                try simp only [Act.put, aS]
                refine wpAnyH_done (by kernel_rfl) ?_ _
                go_wp2
                go_meet
                case rel => exact ⟨C, lg, hg, a3, k3, rfl, rfl, hPC, hO, ⟨by omega, hPC.1, by omega, by omega, by omega, by omega⟩, hHeld⟩
            · go_simp
              obtain ⟨XC, eA⟩ : ∃ X, X = xt.alloc (.cells #[.slice none 0 0] 40) := ⟨_, rfl⟩
              rw [← eA]
              have hbA : Below xt.heap.size xt XC := by rw [eA]; exact (Below.refl _ _).alloc (Nat.le_refl _) _
              have hZC : Bk XC xt.heap.size [.slice none 0 0] := by rw [eA]; exact bk_new xt 40 [.slice none 0 0]
              have hzAC1 : XC.heap.size ≤ xt.heap.size + 1 := by rw [eA]; simp
              have hzAC2 : xt.heap.size + 1 ≤ XC.heap.size := by rw [eA]; simp
              clear eA
              replace hC := hC.below hbA
              have hsz_XC := hbA.size
              refine hK.out _ _ (bthenN hHeld (by omega) hbA) (fun hNew => ?_)
              clear hK K hHeld
              have hHeld := hNew
              clear hNew
              try simp only [Act.put, aS]
              clear hbA
              obtain ⟨C, eC⟩ : ∃ g, g = xt.heap.size := ⟨_, rfl⟩
              rw [← eC] at hZC ⊢
              have eC1 : C ≤ xt.heap.size := by omega
              have eC2 : xt.heap.size ≤ C := by omega
              clear eC
              refine rd1 6 rfl fun K hK => ?_
              go_simp
              go_wp2_with fail
              refine (toMsg k x _).mono ?_
              rintro e xy ⟨rfl, hxy⟩
              replace hC := hC.below hxy
              replace hZC := hZC.below hxy
              have hsz_xy := hxy.size
              refine hK.out _ _ (bthenN hHeld (by omega) hxy) (fun hNew => ?_)
              clear hK K hHeld
              have hHeld := hNew
              clear hNew
              try simp only [Act.put, aS]
              refine rd1 7 rfl fun K hK => ?_
              go_simp
              go_wp2_with fail
              refine (hear_impl c d _ n n Z sv k x hn2 _ hC.row).mono ?_
              rintro e xg ⟨⟨u, rfl, hO⟩, hxg⟩
              rw [EN.out, EY.out] at hO
              rw [ET.out]
              obtain ⟨a3, k3, eu, _⟩ := hO.at
              subst eu
              obtain ⟨lg, elg⟩ : ∃ l, l = xy.heap.size := ⟨_, rfl⟩
              obtain ⟨hg, ehg⟩ : ∃ l, l = xg.heap.size := ⟨_, rfl⟩
              rw [← elg, ← ehg] at hO
              have elg1 : lg ≤ xy.heap.size := by omega
              have elg2 : xy.heap.size ≤ lg := by omega
              have ehg1 : hg ≤ xg.heap.size := by omega
              have ehg2 : xg.heap.size ≤ hg := by omega
              clear elg ehg
              replace hC := hC.below hxg
              replace hZC := hZC.below hxg
              have hsz_xg := hxg.size
              refine hK.out _ _ (bthenN hHeld (by omega) hxg) (fun hNew => ?_)
              clear hK K hHeld
              have hHeld := hNew
              clear hNew
              try simp only [Act.put, aS]
              refine tkl 8 (.tuple #[.agg #[.slice a3 N k3], .bool TB]) rfl ?_ ?_
              · intro wx hSw; obtain ⟨hcS, hfS⟩ := bcellN hSw; go_simp
              try simp only [Act.put, aS]
              refine tkl 9 (.agg #[.slice a3 N k3]) rfl ?_ ?_
              · intro wx hSw; obtain ⟨hcS, hfS⟩ := bcellN hSw; go_simp
              try simp only [Act.put, aS]
              refine tkl 10 (.bool TB) rfl ?_ ?_
              · intro wx hSw; obtain ⟨hcS, hfS⟩ := bcellN hSw; go_simp
              try simp only [Act.put, aS]
              refine rd1 12 rfl fun K hK => ?_
              have r0 := (hZC.2 0 (by simp)).1
              have f0 := (hZC.2 0 (by simp)).2
              simp only [List.getD, List.getElem?_cons_zero, Option.getD_some] at r0
              have lZC := hZC.1
              have hkC : w11.heap.size ≤ C := by omega
              go_simp
              obtain ⟨XSC, eS⟩ : ∃ X, X = (xg.setCell ⟨C, 0, none⟩ (.slice a3 N k3)) := ⟨_, rfl⟩
              rw [← eS]
              have hPC : Bk XSC C [.slice a3 N k3] := by rw [eS]; exact bk_put (l := [.slice a3 N k3]) hZC rfl
              have hzC1 : XSC.heap.size ≤ xg.heap.size := by rw [eS]; exact Nat.le_of_eq (size_put C [.slice a3 N k3] 0 xg)
              have hzC2 : xg.heap.size ≤ XSC.heap.size := by rw [eS]; exact Nat.le_of_eq (size_put C [.slice a3 N k3] 0 xg).symm
              have hmC : ∀ b, ¬ b = C → Sm xg XSC b := by rw [eS]; exact fun b hb => sm_put hb [.slice a3 N k3] 0 xg
              have hBC : Below (w11.heap.size) w11 XSC := by rw [eS]; exact below_put hkC [.slice a3 N k3] 0 hHeld
              clear eS r0 f0
              replace hO := hO.sm hzC2 (fun b q1 q2 => hmC b (by omega))
              refine hK.out _ _ hBC (fun hNew => ?_)
              clear hK K hHeld
              have hHeld := hNew
              clear hNew
              try simp only [Act.put, aS]
              refine tkl 13 (.bool TB) rfl ?_ ?_
              · intro wx hSw; obtain ⟨hcS, hfS⟩ := bcellN hSw; go_simp
              try simp only [Act.put, aS]
              refine wpAnyH_done (by kernel_rfl) ?_ _
              go_wp2
              go_meet
              case rel => exact ⟨C, lg, hg, a3, k3, rfl, rfl, hPC, hO, ⟨by omega, hPC.1, by omega, by omega, by omega, by omega⟩, hHeld⟩
          · go_simp
            obtain ⟨XC, eA⟩ : ∃ X, X = xm.alloc (.cells #[.slice none 0 0] 40) := ⟨_, rfl⟩
            rw [← eA]
            have hbA : Below xm.heap.size xm XC := by rw [eA]; exact (Below.refl _ _).alloc (Nat.le_refl _) _
            have hZC : Bk XC xm.heap.size [.slice none 0 0] := by rw [eA]; exact bk_new xm 40 [.slice none 0 0]
            have hzAC1 : XC.heap.size ≤ xm.heap.size + 1 := by rw [eA]; simp
            have hzAC2 : xm.heap.size + 1 ≤ XC.heap.size := by rw [eA]; simp
            clear eA
            have hsz_XC := hbA.size
            refine hK.out _ _ (bthenN hHeld (by omega) hbA) (fun hNew => ?_)
            clear hK K hHeld
            have hHeld := hNew
            clear hNew
            try simp only [Act.put, aS]
            clear hbA
            obtain ⟨C, eC⟩ : ∃ g, g = xm.heap.size := ⟨_, rfl⟩
            rw [← eC] at hZC ⊢
            have eC1 : C ≤ xm.heap.size := by omega
            have eC2 : xm.heap.size ≤ C := by omega
            clear eC
            refine rd1 3 rfl fun K hK => ?_
            go_simp
            go_wp2_with fail
            refine (toBookC a n cap Z hn2 _ (P10.row_below H0.out (bthen B23.out hHeld))).mono ?_
            rintro e xt ⟨⟨bt, rfl, hC, hbt⟩, hxt⟩
            replace hZC := hZC.below hxt
            have hsz_xt := hxt.size
            refine hK.out _ _ (bthenN hHeld (by omega) hxt) (fun hNew => ?_)
            clear hK K hHeld
            have hHeld := hNew
            clear hNew
            try simp only [Act.put, aS]
            refine rd1 6 rfl fun K hK => ?_
            go_simp
            go_wp2_with fail
            refine (toMsg k x _).mono ?_
            rintro e xy ⟨rfl, hxy⟩
            replace hZC := hZC.below hxy
            replace hC := hC.below hxy
            have hsz_xy := hxy.size
            refine hK.out _ _ (bthenN hHeld (by omega) hxy) (fun hNew => ?_)
            clear hK K hHeld
            have hHeld := hNew
            clear hNew
            try simp only [Act.put, aS]
            refine rd1 7 rfl fun K hK => ?_
            go_simp
            go_wp2_with fail
            refine (hear_impl c d _ n n Z sv k x hn2 _ hC.row).mono ?_
            rintro e xg ⟨⟨u, rfl, hO⟩, hxg⟩
            rw [EN.out, EY.out] at hO
            rw [ET.out]
            obtain ⟨a3, k3, eu, _⟩ := hO.at
            subst eu
            obtain ⟨lg, elg⟩ : ∃ l, l = xy.heap.size := ⟨_, rfl⟩
            obtain ⟨hg, ehg⟩ : ∃ l, l = xg.heap.size := ⟨_, rfl⟩
            rw [← elg, ← ehg] at hO
            have elg1 : lg ≤ xy.heap.size := by omega
            have elg2 : xy.heap.size ≤ lg := by omega
            have ehg1 : hg ≤ xg.heap.size := by omega
            have ehg2 : xg.heap.size ≤ hg := by omega
            clear elg ehg
            replace hZC := hZC.below hxg
            replace hC := hC.below hxg
            have hsz_xg := hxg.size
            refine hK.out _ _ (bthenN hHeld (by omega) hxg) (fun hNew => ?_)
            clear hK K hHeld
            have hHeld := hNew
            clear hNew
            try simp only [Act.put, aS]
            refine tkl 8 (.tuple #[.agg #[.slice a3 N k3], .bool TB]) rfl ?_ ?_
            · intro wx hSw; obtain ⟨hcS, hfS⟩ := bcellN hSw; go_simp
            try simp only [Act.put, aS]
            refine tkl 9 (.agg #[.slice a3 N k3]) rfl ?_ ?_
            · intro wx hSw; obtain ⟨hcS, hfS⟩ := bcellN hSw; go_simp
            try simp only [Act.put, aS]
            refine tkl 10 (.bool TB) rfl ?_ ?_
            · intro wx hSw; obtain ⟨hcS, hfS⟩ := bcellN hSw; go_simp
            try simp only [Act.put, aS]
            refine rd1 12 rfl fun K hK => ?_
            have r0 := (hZC.2 0 (by simp)).1
            have f0 := (hZC.2 0 (by simp)).2
            simp only [List.getD, List.getElem?_cons_zero, Option.getD_some] at r0
            have lZC := hZC.1
            have hkC : w11.heap.size ≤ C := by omega
            go_simp
            obtain ⟨XSC, eS⟩ : ∃ X, X = (xg.setCell ⟨C, 0, none⟩ (.slice a3 N k3)) := ⟨_, rfl⟩
            rw [← eS]
            have hPC : Bk XSC C [.slice a3 N k3] := by rw [eS]; exact bk_put (l := [.slice a3 N k3]) hZC rfl
            have hzC1 : XSC.heap.size ≤ xg.heap.size := by rw [eS]; exact Nat.le_of_eq (size_put C [.slice a3 N k3] 0 xg)
            have hzC2 : xg.heap.size ≤ XSC.heap.size := by rw [eS]; exact Nat.le_of_eq (size_put C [.slice a3 N k3] 0 xg).symm
            have hmC : ∀ b, ¬ b = C → Sm xg XSC b := by rw [eS]; exact fun b hb => sm_put hb [.slice a3 N k3] 0 xg
            have hBC : Below (w11.heap.size) w11 XSC := by rw [eS]; exact below_put hkC [.slice a3 N k3] 0 hHeld
            clear eS r0 f0
            replace hO := hO.sm hzC2 (fun b q1 q2 => hmC b (by omega))
            refine hK.out _ _ hBC (fun hNew => ?_)
            clear hK K hHeld
            have hHeld := hNew
            clear hNew
            try simp only [Act.put, aS]
            refine tkl 13 (.bool TB) rfl ?_ ?_
            · intro wx hSw; obtain ⟨hcS, hfS⟩ := bcellN hSw; go_simp
            try simp only [Act.put, aS]
            refine wpAnyH_done (by kernel_rfl) ?_ _
            go_wp2
            go_meet
            case rel => exact ⟨C, lg, hg, a3, k3, rfl, rfl, hPC, hO, ⟨by omega, hPC.1, by omega, by omega, by omega, by omega⟩, hHeld⟩
        · go_simp
          obtain ⟨XC, eA⟩ : ∃ X, X = X0.alloc (.cells #[.slice none 0 0] 40) := ⟨_, rfl⟩
          rw [← eA]
          have hbA : Below X0.heap.size X0 XC := by rw [eA]; exact (Below.refl _ _).alloc (Nat.le_refl _) _
          have hZC : Bk XC X0.heap.size [.slice none 0 0] := by rw [eA]; exact bk_new X0 40 [.slice none 0 0]
          have hzAC1 : XC.heap.size ≤ X0.heap.size + 1 := by rw [eA]; simp
          have hzAC2 : X0.heap.size + 1 ≤ XC.heap.size := by rw [eA]; simp
          clear eA
          have hsz_XC := hbA.size
          refine hK.out _ _ (bthenN hHeld (by omega) hbA) (fun hNew => ?_)
          clear hK K hHeld
          have hHeld := hNew
          clear hNew
          try simp only [Act.put, aS]
          clear hbA
          obtain ⟨C, eC⟩ : ∃ g, g = X0.heap.size := ⟨_, rfl⟩
          rw [← eC] at hZC ⊢
          have eC1 : C ≤ X0.heap.size := by omega
          have eC2 : X0.heap.size ≤ C := by omega
          clear eC
          refine rd1 1 rfl fun K hK => ?_
          go_simp
          go_wp2_with fail
          refine (toMap _ _ _).mono ?_
          rintro e xm ⟨rfl, hxm⟩
          replace hZC := hZC.below hxm
          have hsz_xm := hxm.size
          refine hK.out _ _ (bthenN hHeld (by omega) hxm) (fun hNew => ?_)
          clear hK K hHeld
          have hHeld := hNew
          clear hNew
          try simp only [Act.put, aS]
          refine rd1 3 rfl fun K hK => ?_
          go_simp
          go_wp2_with fail
          refine (toBookC a n cap Z hn2 _ (P10.row_below H0.out (bthen B23.out hHeld))).mono ?_
          rintro e xt ⟨⟨bt, rfl, hC, hbt⟩, hxt⟩
          replace hZC := hZC.below hxt
          have hsz_xt := hxt.size
          refine hK.out _ _ (bthenN hHeld (by omega) hxt) (fun hNew => ?_)
          clear hK K hHeld
          have hHeld := hNew
          clear hNew
          try simp only [Act.put, aS]
          refine rd1 6 rfl fun K hK => ?_
          go_simp
          go_wp2_with fail
          refine (toMsg k x _).mono ?_
          rintro e xy ⟨rfl, hxy⟩
          replace hZC := hZC.below hxy
          replace hC := hC.below hxy
          have hsz_xy := hxy.size
          refine hK.out _ _ (bthenN hHeld (by omega) hxy) (fun hNew => ?_)
          clear hK K hHeld
          have hHeld := hNew
          clear hNew
          try simp only [Act.put, aS]
          refine rd1 7 rfl fun K hK => ?_
          go_simp
          go_wp2_with fail
          refine (hear_impl c d _ n n Z sv k x hn2 _ hC.row).mono ?_
          rintro e xg ⟨⟨u, rfl, hO⟩, hxg⟩
          rw [EN.out, EY.out] at hO
          rw [ET.out]
          obtain ⟨a3, k3, eu, _⟩ := hO.at
          subst eu
          obtain ⟨lg, elg⟩ : ∃ l, l = xy.heap.size := ⟨_, rfl⟩
          obtain ⟨hg, ehg⟩ : ∃ l, l = xg.heap.size := ⟨_, rfl⟩
          rw [← elg, ← ehg] at hO
          have elg1 : lg ≤ xy.heap.size := by omega
          have elg2 : xy.heap.size ≤ lg := by omega
          have ehg1 : hg ≤ xg.heap.size := by omega
          have ehg2 : xg.heap.size ≤ hg := by omega
          clear elg ehg
          replace hZC := hZC.below hxg
          replace hC := hC.below hxg
          have hsz_xg := hxg.size
          refine hK.out _ _ (bthenN hHeld (by omega) hxg) (fun hNew => ?_)
          clear hK K hHeld
          have hHeld := hNew
          clear hNew
          try simp only [Act.put, aS]
          refine tkl 8 (.tuple #[.agg #[.slice a3 N k3], .bool TB]) rfl ?_ ?_
          · intro wx hSw; obtain ⟨hcS, hfS⟩ := bcellN hSw; go_simp
          try simp only [Act.put, aS]
          refine tkl 9 (.agg #[.slice a3 N k3]) rfl ?_ ?_
          · intro wx hSw; obtain ⟨hcS, hfS⟩ := bcellN hSw; go_simp
          try simp only [Act.put, aS]
          refine tkl 10 (.bool TB) rfl ?_ ?_
          · intro wx hSw; obtain ⟨hcS, hfS⟩ := bcellN hSw; go_simp
          try simp only [Act.put, aS]
          refine rd1 12 rfl fun K hK => ?_
          have r0 := (hZC.2 0 (by simp)).1
          have f0 := (hZC.2 0 (by simp)).2
          simp only [List.getD, List.getElem?_cons_zero, Option.getD_some] at r0
          have lZC := hZC.1
          have hkC : w11.heap.size ≤ C := by omega
          go_simp
          obtain ⟨XSC, eS⟩ : ∃ X, X = (xg.setCell ⟨C, 0, none⟩ (.slice a3 N k3)) := ⟨_, rfl⟩
          rw [← eS]
          have hPC : Bk XSC C [.slice a3 N k3] := by rw [eS]; exact bk_put (l := [.slice a3 N k3]) hZC rfl
          have hzC1 : XSC.heap.size ≤ xg.heap.size := by rw [eS]; exact Nat.le_of_eq (size_put C [.slice a3 N k3] 0 xg)
          have hzC2 : xg.heap.size ≤ XSC.heap.size := by rw [eS]; exact Nat.le_of_eq (size_put C [.slice a3 N k3] 0 xg).symm
          have hmC : ∀ b, ¬ b = C → Sm xg XSC b := by rw [eS]; exact fun b hb => sm_put hb [.slice a3 N k3] 0 xg
          have hBC : Below (w11.heap.size) w11 XSC := by rw [eS]; exact below_put hkC [.slice a3 N k3] 0 hHeld
          clear eS r0 f0
          replace hO := hO.sm hzC2 (fun b q1 q2 => hmC b (by omega))
          refine hK.out _ _ hBC (fun hNew => ?_)
          clear hK K hHeld
          have hHeld := hNew
          clear hNew
          try simp only [Act.put, aS]
          refine tkl 13 (.bool TB) rfl ?_ ?_
          · intro wx hSw; obtain ⟨hcS, hfS⟩ := bcellN hSw; go_simp
          try simp only [Act.put, aS]
          refine wpAnyH_done (by kernel_rfl) ?_ _
          go_wp2
          go_meet
          case rel => exact ⟨C, lg, hg, a3, k3, rfl, rfl, hPC, hO, ⟨by omega, hPC.1, by omega, by omega, by omega, by omega⟩, hHeld⟩
      case rest =>
        obtain ⟨w12, hwn⟩ : ∃ wn, wn = wc := ⟨_, rfl⟩
        subst hwn
        obtain ⟨g3, l3, h3, a3, k3, rfl, rfl, hG, hO, ⟨c31, c32, c33, c34, c35, c36⟩, hb⟩ := hcut
        have y_w12 : w11.heap.size ≤ w12.heap.size := hb.size
        have B24 := hid (bthen B23.out hb)
        have M24 := hid (M23.out.below hb)
        have A24 := hid (A23.out.below hb)
        have T24 := hid (T23.out.below hb)
        have O1_24 : Hid (P10.RL l1 h1 w12 (.slice a1 N k1) N Y) := O1_23.out.below hb
        have G1_24 := hid (G1_23.out.below hb)
        have X24 := hid (X23.out.below hb)
        have G2_24 := hid (G2_23.out.below hb)
        have O2_24 : Hid (P10.RL l2 h2 w12 (.slice a2 N k2) N (P10.Mk 10 1)) := O2_23.out.below hb
        clear B23 M23 A23 T23 O1_23 G1_23 X23 G2_23 O2_23
        have O3_25 : Hid (P10.RL l3 h3 w12 (.slice a3 N k3) N Y) := hO
        have G3_26 : Hid (Bk w12 g3 [.slice a3 N k3]) := hG
        clear hO hG hb
        have yG1_0 := G1_24.out.a1
        have hlG1_ : g1 < w12.heap.size := G1_24.out.1
        have yG3_0 := G3_26.out.a1
        have hlG3_ : g3 < w12.heap.size := G3_26.out.1
        go_wp2_with fail
        refine (eqBook a3 k3 a1 k1 N Y (by omega) _ (rl_row O3_25.out) (rl_row O1_24.out)).mono ?_
        rintro e w13 ⟨rfl, hb⟩
        clear yG1_0 hlG1_ yG3_0 hlG3_
        have y_w13 : w12.heap.size ≤ w13.heap.size := hb.size
        have B27 := hid (bthen B24.out hb)
        have M27 := hid (M24.out.below hb)
        have A27 := hid (A24.out.below hb)
        have T27 := hid (T24.out.below hb)
        have O1_27 : Hid (P10.RL l1 h1 w13 (.slice a1 N k1) N Y) := O1_24.out.below hb
        have G1_27 := hid (G1_24.out.below hb)
        have X27 := hid (X24.out.below hb)
        have G2_27 := hid (G2_24.out.below hb)
        have O2_27 : Hid (P10.RL l2 h2 w13 (.slice a2 N k2) N (P10.Mk 10 1)) := O2_24.out.below hb
        have O3_27 : Hid (P10.RL l3 h3 w13 (.slice a3 N k3) N Y) := O3_25.out.below hb
        have G3_27 := hid (G3_26.out.below hb)
        clear B24 M24 A24 T24 O1_24 G1_24 X24 G2_24 O2_24 O3_25 G3_26
        clear hb
        have yG2_0 := G2_27.out.a1
        have hlG2_ : g2 < w13.heap.size := G2_27.out.1
        go_wp2_with fail
        clear yG2_0 hlG2_
        refine (heldBook l2 h2 1 _ N (by omega) (by omega) _ O2_27.out).mono ?_
        rintro e w14 ⟨rfl, hb⟩
        rw [← EQ.out]
        have y_w14 : w13.heap.size ≤ w14.heap.size := hb.size
        have B28 := hid (bthen B27.out hb)
        have M28 := hid (M27.out.below hb)
        have A28 := hid (A27.out.below hb)
        have T28 := hid (T27.out.below hb)
        have O1_28 : Hid (P10.RL l1 h1 w14 (.slice a1 N k1) N Y) := O1_27.out.below hb
        have G1_28 := hid (G1_27.out.below hb)
        have X28 := hid (X27.out.below hb)
        have G2_28 := hid (G2_27.out.below hb)
        have O2_28 : Hid (P10.RL l2 h2 w14 (.slice a2 N k2) N (P10.Mk 10 1)) := O2_27.out.below hb
        have O3_28 : Hid (P10.RL l3 h3 w14 (.slice a3 N k3) N Y) := O3_27.out.below hb
        have G3_28 := hid (G3_27.out.below hb)
        clear B27 M27 A27 T27 O1_27 G1_27 X27 G2_27 O2_27 O3_27 G3_27
        clear hb
        go_wp2
        go_ret
        exact ⟨rfl, B28.out⟩
end Go.Proofs.YtgjapdjidighlabGreat
