/- The law FnExactGstOf: it answers true; conditions: the hold lies in memory. -/
import Derived.Test.YtdmfncopcmhcjaaGof3
import Derived.Deep.DeepCutAuto
namespace Go.Proofs.Ytdmfncopcmhcjaa
open Go.RowKit Go.Deep
set_option linter.unusedVariables false

theorem gofL_len {c d ag ct : Int} {V : CV} {side : Int} (h : V.nW ≤ 1048576) : (gofL c d ag ct V side).length ≤ 1048576 := by
  unfold gofL
  split
  · exact Nat.le_trans (outL_len c d V side V.nW) h
  · exact Nat.zero_le _
theorem howm_below {lo hi : Nat} {w w' : World} {v : Value} {ag ct : Int} {V : CV} (h : HOwn lo hi w v ag ct V) (hh : hi ≤ w.heap.size) (hb : Below w.heap.size w w') : HOwn lo hi w' v ag ct V := by
  obtain ⟨bW, bO, bX, bI, e, h1, h2⟩ := h
  exact ⟨bW, bO, bX, bI, e, h1.below hb, h2.below hh hb⟩
theorem rl_row {lo hi : Nat} {w : World} {a : Option Addr} {n c : Nat} {Z : Nat → Nat → Int} (h : P7.RL lo hi w (.slice a n c) n Z) : P7.RowK w a n Z := by
  obtain ⟨a', c', e, r⟩ := h.at
  injection e with e1 e2 e3
  subst e1
  exact r

set_option maxRecDepth 20000 in
set_option maxHeartbeats 16000000 in
theorem law_gstOf (c d : Int) (v : Value) (ag ct : Int) (V : CV) (side : Int) (hs : V.short maxLen) (w : World) (h : HoldAt w v ag ct V) :
    Calls Try.prog 4 #[.agg #[.int .i64 c, .int .i64 d], v, .int .i64 side] w fun e w' => e = .returned (.bool true) ∧ Below w.heap.size w w' := by
  obtain ⟨aW, kW, aO, kO, aX, kX, aI, kI, rfl, rW, rO, rX, rI⟩ := h
  have H0 : Hid (HoldAt w (.agg #[.int .i64 ag, .int .i64 ct, .int .i64 V.c, .slice aW V.nW kW, .int .i64 V.g, .slice aO V.nO kO, .slice aX V.nX kX, .slice aI V.nI kI]) ag ct V) := ⟨aW, kW, aO, kO, aX, kX, aI, kI, rfl, rW, rO, rX, rI⟩
  have HS0 : Hid (V.short maxLen) := hs
  clear rW rO rX rI hs
  obtain ⟨N, eN⟩ : ∃ N, (gofL c d ag ct V side).length = N := ⟨_, rfl⟩
  obtain ⟨Z, eZ⟩ : ∃ Z, gofZ V ct (gofL c d ag ct V side) = Z := ⟨_, rfl⟩
  have EN : Hid ((gofL c d ag ct V side).length = N) := eN
  have EZ : Hid (gofZ V ct (gofL c d ag ct V side) = Z) := eZ
  clear eN eZ
  go_enter Try.func4, Try.ntmps4
  go_wp2_with fail
  obtain ⟨w0, e0⟩ : ∃ w0, w0 = (w.alloc (.cells #[.int .i64 c, .int .i64 d] 23)).alloc (.cells #[.int .i64 ag, .int .i64 ct, .int .i64 V.c, .slice aW V.nW kW, .int .i64 V.g, .slice aO V.nO kO, .slice aX V.nX kX, .slice aI V.nI kI] 30) := ⟨_, rfl⟩
  have B1 : Hid (Below w.heap.size w w0) := by rw [e0]; exact ((Below.refl _ _).alloc (by simp) _).alloc (by simp) _
  have M2 : Hid (Bk w0 w.heap.size [.int .i64 c, .int .i64 d]) := by rw [e0]; exact (bk_new w 23 [.int .i64 c, .int .i64 d]).below ((Below.refl _ _).alloc (Nat.le_refl _) _)
  have A3 : Hid (Bk w0 (w.heap.size + 1) [.int .i64 ag, .int .i64 ct, .int .i64 V.c, .slice aW V.nW kW, .int .i64 V.g, .slice aO V.nO kO, .slice aX V.nX kX, .slice aI V.nI kI]) := by rw [e0]; have := bk_new (w.alloc (.cells #[.int .i64 c, .int .i64 d] 23)) 30 [.int .i64 ag, .int .i64 ct, .int .i64 V.c, .slice aW V.nW kW, .int .i64 V.g, .slice aO V.nO kO, .slice aX V.nX kX, .slice aI V.nI kI]; rwa [show (w.alloc (.cells #[.int .i64 c, .int .i64 d] 23)).heap.size = w.heap.size + 1 by simp] at this
  rw [← e0]
  clear e0
  have y0 : w.heap.size + 1 < w0.heap.size := A3.out.1
  refine (szHold2 _ ag ct V HS0.out _ (H0.out.below B1.out)).mono ?_
  rintro e w1 ⟨⟨r, rfl, hr⟩, hb1⟩
  have y_w1 : w0.heap.size ≤ w1.heap.size := hb1.size
  have B4 : Hid (Below w.heap.size w w1) := bthen B1.out hb1
  have M4 : Hid (Bk w1 w.heap.size [.int .i64 c, .int .i64 d]) := M2.out.below hb1
  have A4 : Hid (Bk w1 (w.heap.size + 1) [.int .i64 ag, .int .i64 ct, .int .i64 V.c, .slice aW V.nW kW, .int .i64 V.g, .slice aO V.nO kO, .slice aX V.nX kX, .slice aI V.nI kI]) := A3.out.below hb1
  clear B1 M2 A3
  clear hb1
  rcases hr with hr | ⟨hr, hV, hSm⟩
  · go_wp2
    go_ret
    exact ⟨rfl, B4.out⟩
  have hr2 : ¬ r < 0 := by omega
  have HV : Hid (V.short 1048576) := hV
  have HF : Hid V.few := few_sum hV hSm
  have hN : N ≤ 1048576 := by rw [← EN.out]; exact gofL_len hV.1
  clear hV hSm
  have yM0 : w1.cell? ⟨w.heap.size, 0, none⟩ = some (.int .i64 c) := (M4.out.2 0 (by simp)).1
  have yM1 : w1.cell? ⟨w.heap.size, 1, none⟩ = some (.int .i64 d) := (M4.out.2 1 (by simp)).1
  have hlM : w.heap.size < w1.heap.size := M4.out.1
  have yA0 : w1.cell? ⟨(w.heap.size + 1), 0, none⟩ = some (.int .i64 ag) := (A4.out.2 0 (by simp)).1
  have yA1 : w1.cell? ⟨(w.heap.size + 1), 1, none⟩ = some (.int .i64 ct) := (A4.out.2 1 (by simp)).1
  have yA2 : w1.cell? ⟨(w.heap.size + 1), 2, none⟩ = some (.int .i64 V.c) := (A4.out.2 2 (by simp)).1
  have yA3 : w1.cell? ⟨(w.heap.size + 1), 3, none⟩ = some (.slice aW V.nW kW) := (A4.out.2 3 (by simp)).1
  have yA4 : w1.cell? ⟨(w.heap.size + 1), 4, none⟩ = some (.int .i64 V.g) := (A4.out.2 4 (by simp)).1
  have yA5 : w1.cell? ⟨(w.heap.size + 1), 5, none⟩ = some (.slice aO V.nO kO) := (A4.out.2 5 (by simp)).1
  have yA6 : w1.cell? ⟨(w.heap.size + 1), 6, none⟩ = some (.slice aX V.nX kX) := (A4.out.2 6 (by simp)).1
  have yA7 : w1.cell? ⟨(w.heap.size + 1), 7, none⟩ = some (.slice aI V.nI kI) := (A4.out.2 7 (by simp)).1
  have hlA : (w.heap.size + 1) < w1.heap.size := A4.out.1
  go_wp2
  refine wp_region_held_drew (S := fun w' => (∀ b o, b < w1.heap.size → w'.cell? ⟨b, o, none⟩ = w1.cell? ⟨b, o, none⟩) ∧ w1.heap.size ≤ w'.heap.size) (by kernel_rfl) ⟨fun _ _ _ => rfl, Nat.le_refl _⟩ ?_
  intro hHeld
  refine wpAnyH_take (i := 0) (v := .agg #[.int .i64 c, .int .i64 d]) rfl (by kernel_rfl) (by kernel_rfl) (by kernel_rfl) (fun _ _ _ h => h) (Or.inl ⟨by rfl, ?_⟩) (by assumption) ?_
  · intro wx hSw; go_simp
  try simp only [Act.put, List.setIfInBounds_toArray, List.set_cons_zero, List.set_cons_succ, List.getElem_toArray, List.getElem_cons_zero]
  refine wpAnyH_take (i := 2) (v := .agg #[.int .i64 ag, .int .i64 ct, .int .i64 V.c, .slice aW V.nW kW, .int .i64 V.g, .slice aO V.nO kO, .slice aX V.nX kX, .slice aI V.nI kI]) rfl (by kernel_rfl) (by kernel_rfl) (by kernel_rfl) (fun _ _ _ h => h) (Or.inl ⟨by rfl, ?_⟩) (by assumption) ?_
  · intro wx hSw; go_simp
  try simp only [Act.put, List.setIfInBounds_toArray, List.set_cons_zero, List.set_cons_succ, List.getElem_toArray, List.getElem_cons_zero, List.getElem_cons_succ]
  refine wpAnyH_take (i := 4) (v := .int .i64 side) rfl (by kernel_rfl) (by kernel_rfl) (by kernel_rfl) (fun _ _ _ h => h) (Or.inl ⟨by rfl, ?_⟩) (by assumption) ?_
  · intro wx hSw; go_simp
  try simp only [Act.put, List.setIfInBounds_toArray, List.set_cons_zero, List.set_cons_succ, List.getElem_toArray, List.getElem_cons_zero, List.getElem_cons_succ]
  refine wpAnyH_ready (rs := [1]) (by kernel_rfl) (by simp) ?_
  refine AllReadyH.cons rfl (fun K hK => ?_) AllReadyH.nil
  go_simp
  go_wp2_with fail
  refine (toMap _ _ _).mono ?_
  rintro e x1 ⟨rfl, hx1⟩
  refine hK.out _ _ (keepS (by assumption) hx1) (fun hNew => ?_)
  clear hK K hHeld
  have hHeld := hNew
  clear hNew
  try simp only [Act.put, List.setIfInBounds_toArray, List.set_cons_zero, List.set_cons_succ, List.getElem_toArray, List.getElem_cons_zero, List.getElem_cons_succ]
  refine wpAnyH_ready (rs := [3]) (by kernel_rfl) (by simp) ?_
  refine AllReadyH.cons rfl (fun K hK => ?_) AllReadyH.nil
  go_simp
  go_wp2_with fail
  refine (toHoldB _ ag ct V HV.out _ (H0.out.below (bthen B4.out (by repeat (first | exact Below.refl _ _ | refine bthen ?_ (by assumption) | apply Below.drew))))).mono ?_
  rintro e x2 ⟨⟨vq, rfl, lo1, hi1, _, _, _, hC1⟩, hx2⟩
  refine hK.out _ _ (keepS (by assumption) hx2) (fun hNew => ?_)
  clear hK K hHeld
  have hHeld := hNew
  clear hNew
  try simp only [Act.put, List.setIfInBounds_toArray, List.set_cons_zero, List.set_cons_succ, List.getElem_toArray, List.getElem_cons_zero, List.getElem_cons_succ]
  refine wpAnyH_ready (rs := [5]) (by kernel_rfl) (by simp) ?_
  refine AllReadyH.cons rfl (fun K hK => ?_) AllReadyH.nil
  go_simp
  go_wp2_with fail
  refine (gof_spec c d vq ag ct V lo1 side HV.out _ hC1.copy).mono ?_
  rintro e x3 ⟨⟨vr, rfl, hR⟩, hx3⟩
  rw [EN.out, EZ.out] at hR
  obtain ⟨a1, c1, rfl, _⟩ := hR.at
  refine hK.out _ _ (keepS (by assumption) hx3) (fun hNew => ?_)
  clear hK K hHeld
  have hHeld := hNew
  clear hNew
  try simp only [Act.put, List.setIfInBounds_toArray, List.set_cons_zero, List.set_cons_succ, List.getElem_toArray, List.getElem_cons_zero, List.getElem_cons_succ]
  refine wpAnyH_take (i := 6) (v := .slice a1 N c1) rfl (by kernel_rfl) (by kernel_rfl) (by kernel_rfl) (fun _ _ _ h => h) (Or.inl ⟨by rfl, ?_⟩) (by assumption) ?_
  · intro wx hSw; go_simp
  try simp only [Act.put, List.setIfInBounds_toArray, List.set_cons_zero, List.set_cons_succ, List.getElem_toArray, List.getElem_cons_zero, List.getElem_cons_succ]
  refine wpAnyH_done (by kernel_rfl) ?_ _
  clear hHeld
  have hbq : Below w1.heap.size w1 x3 := by repeat (first | exact Below.refl _ _ | refine bthen ?_ (by assumption) | apply Below.drew)
  have hbl0 : Below w1.heap.size w1 x2 := by repeat (first | exact Below.refl _ _ | refine bthen ?_ (by assumption) | apply Below.drew)
  have hlq := hbl0.size
  generalize x3 = w3 at *
  obtain ⟨l1, el⟩ : ∃ l, l = x2.heap.size := ⟨_, rfl⟩
  obtain ⟨h1, eh⟩ : ∃ l, l = w3.heap.size := ⟨_, rfl⟩
  rw [← el, ← eh] at hR
  have el12 : w1.heap.size ≤ l1 := by omega
  have el13 : l1 ≤ w3.heap.size := by have := Below.size (show Below x2.heap.size x2 w3 by assumption); omega
  have eh11 : h1 ≤ w3.heap.size := by omega
  have eh12 : w3.heap.size ≤ h1 := by omega
  clear el eh hlq hbl0
  clear yM0 yM1 hlM yA0 yA1 yA2 yA3 yA4 yA5 yA6 yA7 hlA
  have y_w3 : w1.heap.size ≤ w3.heap.size := hbq.size
  have B5 : Hid (Below w.heap.size w w3) := bthen B4.out hbq
  have M5 : Hid (Bk w3 w.heap.size [.int .i64 c, .int .i64 d]) := M4.out.below hbq
  have A5 : Hid (Bk w3 (w.heap.size + 1) [.int .i64 ag, .int .i64 ct, .int .i64 V.c, .slice aW V.nW kW, .int .i64 V.g, .slice aO V.nO kO, .slice aX V.nX kX, .slice aI V.nI kI]) := A4.out.below hbq
  clear B4 M4 A4
  have R1_6 : Hid (P7.RL l1 h1 w3 (.slice a1 N c1) N Z) := hR
  clear hbq hR hx1 hx2 hx3 hC1
  have yM0 : w3.cell? ⟨w.heap.size, 0, none⟩ = some (.int .i64 c) := (M5.out.2 0 (by simp)).1
  have yM1 : w3.cell? ⟨w.heap.size, 1, none⟩ = some (.int .i64 d) := (M5.out.2 1 (by simp)).1
  have hlM : w.heap.size < w3.heap.size := M5.out.1
  have yA0 : w3.cell? ⟨(w.heap.size + 1), 0, none⟩ = some (.int .i64 ag) := (A5.out.2 0 (by simp)).1
  have yA1 : w3.cell? ⟨(w.heap.size + 1), 1, none⟩ = some (.int .i64 ct) := (A5.out.2 1 (by simp)).1
  have yA2 : w3.cell? ⟨(w.heap.size + 1), 2, none⟩ = some (.int .i64 V.c) := (A5.out.2 2 (by simp)).1
  have yA3 : w3.cell? ⟨(w.heap.size + 1), 3, none⟩ = some (.slice aW V.nW kW) := (A5.out.2 3 (by simp)).1
  have yA4 : w3.cell? ⟨(w.heap.size + 1), 4, none⟩ = some (.int .i64 V.g) := (A5.out.2 4 (by simp)).1
  have yA5 : w3.cell? ⟨(w.heap.size + 1), 5, none⟩ = some (.slice aO V.nO kO) := (A5.out.2 5 (by simp)).1
  have yA6 : w3.cell? ⟨(w.heap.size + 1), 6, none⟩ = some (.slice aX V.nX kX) := (A5.out.2 6 (by simp)).1
  have yA7 : w3.cell? ⟨(w.heap.size + 1), 7, none⟩ = some (.slice aI V.nI kI) := (A5.out.2 7 (by simp)).1
  have hlA : (w.heap.size + 1) < w3.heap.size := A5.out.1
  go_wp2_with fail
  refine (toHoldB _ ag ct V HV.out _ (H0.out.below (bthen B5.out (by repeat (first | exact Below.refl _ _ | refine bthen ?_ (by assumption) | apply Below.drew))))).mono ?_
  rintro e w4 ⟨⟨v2, rfl, lx, hx, lx1, lx2, lx3, hC2⟩, hb4⟩
  clear yM0 yM1 hlM yA0 yA1 yA2 yA3 yA4 yA5 yA6 yA7 hlA
  have y_w4 : w3.heap.size ≤ w4.heap.size := hb4.size
  have B7 : Hid (Below w.heap.size w w4) := bthen B5.out hb4
  have M7 : Hid (Bk w4 w.heap.size [.int .i64 c, .int .i64 d]) := M5.out.below hb4
  have A7 : Hid (Bk w4 (w.heap.size + 1) [.int .i64 ag, .int .i64 ct, .int .i64 V.c, .slice aW V.nW kW, .int .i64 V.g, .slice aO V.nO kO, .slice aX V.nX kX, .slice aI V.nI kI]) := A5.out.below hb4
  have R1_7 : Hid (P7.RL l1 h1 w4 (.slice a1 N c1) N Z) := R1_6.out.below hb4
  clear B5 M5 A5 R1_6
  clear hb4
  obtain ⟨bW, bO, bX, bI, rfl, hC3, hC4⟩ := hC2
  have C4 : HOwn lx hx w4 (.agg #[.int .i64 ag, .int .i64 ct, .int .i64 V.c, .slice (some ⟨bW, 0, none⟩) V.nW V.nW, .int .i64 V.g, .slice (some ⟨bO, 0, none⟩) V.nO V.nO, .slice (some ⟨bX, 0, none⟩) V.nX V.nX, .slice (some ⟨bI, 0, none⟩) V.nI V.nI]) ag ct V := ⟨bW, bO, bX, bI, rfl, hC3, hC4⟩
  clear hC3 hC4
  have yM0 : w4.cell? ⟨w.heap.size, 0, none⟩ = some (.int .i64 c) := (M7.out.2 0 (by simp)).1
  have yM1 : w4.cell? ⟨w.heap.size, 1, none⟩ = some (.int .i64 d) := (M7.out.2 1 (by simp)).1
  have hlM : w.heap.size < w4.heap.size := M7.out.1
  have yA0 : w4.cell? ⟨(w.heap.size + 1), 0, none⟩ = some (.int .i64 ag) := (A7.out.2 0 (by simp)).1
  have yA1 : w4.cell? ⟨(w.heap.size + 1), 1, none⟩ = some (.int .i64 ct) := (A7.out.2 1 (by simp)).1
  have yA2 : w4.cell? ⟨(w.heap.size + 1), 2, none⟩ = some (.int .i64 V.c) := (A7.out.2 2 (by simp)).1
  have yA3 : w4.cell? ⟨(w.heap.size + 1), 3, none⟩ = some (.slice aW V.nW kW) := (A7.out.2 3 (by simp)).1
  have yA4 : w4.cell? ⟨(w.heap.size + 1), 4, none⟩ = some (.int .i64 V.g) := (A7.out.2 4 (by simp)).1
  have yA5 : w4.cell? ⟨(w.heap.size + 1), 5, none⟩ = some (.slice aO V.nO kO) := (A7.out.2 5 (by simp)).1
  have yA6 : w4.cell? ⟨(w.heap.size + 1), 6, none⟩ = some (.slice aX V.nX kX) := (A7.out.2 6 (by simp)).1
  have yA7 : w4.cell? ⟨(w.heap.size + 1), 7, none⟩ = some (.slice aI V.nI kI) := (A7.out.2 7 (by simp)).1
  have hlA : (w.heap.size + 1) < w4.heap.size := A7.out.1
  go_wp2_with fail
  obtain ⟨w5, e5⟩ : ∃ wq, wq = w4.alloc (.cells #[.int .i64 ag, .int .i64 ct, .int .i64 V.c, .slice (some ⟨bW, 0, none⟩) V.nW V.nW, .int .i64 V.g, .slice (some ⟨bO, 0, none⟩) V.nO V.nO, .slice (some ⟨bX, 0, none⟩) V.nX V.nX, .slice (some ⟨bI, 0, none⟩) V.nI V.nI] 40) := ⟨_, rfl⟩
  rw [← e5]
  have hb5 : Below w4.heap.size w4 w5 := by rw [e5]; exact (Below.refl _ _).alloc (Nat.le_refl _) _
  have X5 : Bk w5 w4.heap.size [.int .i64 ag, .int .i64 ct, .int .i64 V.c, .slice (some ⟨bW, 0, none⟩) V.nW V.nW, .int .i64 V.g, .slice (some ⟨bO, 0, none⟩) V.nO V.nO, .slice (some ⟨bX, 0, none⟩) V.nX V.nX, .slice (some ⟨bI, 0, none⟩) V.nI V.nI] := by rw [e5]; exact bk_new w4 40 [.int .i64 ag, .int .i64 ct, .int .i64 V.c, .slice (some ⟨bW, 0, none⟩) V.nW V.nW, .int .i64 V.g, .slice (some ⟨bO, 0, none⟩) V.nO V.nO, .slice (some ⟨bX, 0, none⟩) V.nX V.nX, .slice (some ⟨bI, 0, none⟩) V.nI V.nI]
  clear e5
  clear yM0 yM1 hlM yA0 yA1 yA2 yA3 yA4 yA5 yA6 yA7 hlA
  have y_w5 : w4.heap.size ≤ w5.heap.size := hb5.size
  have B8 : Hid (Below w.heap.size w w5) := bthen B7.out hb5
  have M8 : Hid (Bk w5 w.heap.size [.int .i64 c, .int .i64 d]) := M7.out.below hb5
  have A8 : Hid (Bk w5 (w.heap.size + 1) [.int .i64 ag, .int .i64 ct, .int .i64 V.c, .slice aW V.nW kW, .int .i64 V.g, .slice aO V.nO kO, .slice aX V.nX kX, .slice aI V.nI kI]) := A7.out.below hb5
  have R1_8 : Hid (P7.RL l1 h1 w5 (.slice a1 N c1) N Z) := R1_7.out.below hb5
  clear B7 M7 A7 R1_7
  have C9 : Hid (HOwn lx hx w5 (.agg #[.int .i64 ag, .int .i64 ct, .int .i64 V.c, .slice (some ⟨bW, 0, none⟩) V.nW V.nW, .int .i64 V.g, .slice (some ⟨bO, 0, none⟩) V.nO V.nO, .slice (some ⟨bX, 0, none⟩) V.nX V.nX, .slice (some ⟨bI, 0, none⟩) V.nI V.nI]) ag ct V) := howm_below C4 lx3 hb5
  clear C4 hb5
  obtain ⟨gx, egx⟩ : ∃ g, g = w4.heap.size := ⟨_, rfl⟩
  rw [← egx] at X5 ⊢
  have eg1 : gx ≤ w4.heap.size := by omega
  have eg2 : w4.heap.size ≤ gx := by omega
  clear egx
  have X10 : Hid (Bk w5 gx [.int .i64 ag, .int .i64 ct, .int .i64 V.c, .slice (some ⟨bW, 0, none⟩) V.nW V.nW, .int .i64 V.g, .slice (some ⟨bO, 0, none⟩) V.nO V.nO, .slice (some ⟨bX, 0, none⟩) V.nX V.nX, .slice (some ⟨bI, 0, none⟩) V.nI V.nI]) := X5
  clear X5
  have yx := X10.out.1
  have yM0 : w5.cell? ⟨w.heap.size, 0, none⟩ = some (.int .i64 c) := (M8.out.2 0 (by simp)).1
  have yM1 : w5.cell? ⟨w.heap.size, 1, none⟩ = some (.int .i64 d) := (M8.out.2 1 (by simp)).1
  have hlM : w.heap.size < w5.heap.size := M8.out.1
  have yA0 : w5.cell? ⟨(w.heap.size + 1), 0, none⟩ = some (.int .i64 ag) := (A8.out.2 0 (by simp)).1
  have yA1 : w5.cell? ⟨(w.heap.size + 1), 1, none⟩ = some (.int .i64 ct) := (A8.out.2 1 (by simp)).1
  have yA2 : w5.cell? ⟨(w.heap.size + 1), 2, none⟩ = some (.int .i64 V.c) := (A8.out.2 2 (by simp)).1
  have yA3 : w5.cell? ⟨(w.heap.size + 1), 3, none⟩ = some (.slice aW V.nW kW) := (A8.out.2 3 (by simp)).1
  have yA4 : w5.cell? ⟨(w.heap.size + 1), 4, none⟩ = some (.int .i64 V.g) := (A8.out.2 4 (by simp)).1
  have yA5 : w5.cell? ⟨(w.heap.size + 1), 5, none⟩ = some (.slice aO V.nO kO) := (A8.out.2 5 (by simp)).1
  have yA6 : w5.cell? ⟨(w.heap.size + 1), 6, none⟩ = some (.slice aX V.nX kX) := (A8.out.2 6 (by simp)).1
  have yA7 : w5.cell? ⟨(w.heap.size + 1), 7, none⟩ = some (.slice aI V.nI kI) := (A8.out.2 7 (by simp)).1
  have hlA : (w.heap.size + 1) < w5.heap.size := A8.out.1
  have yX0 : w5.cell? ⟨gx, 0, none⟩ = some (.int .i64 ag) := (X10.out.2 0 (by simp)).1
  have yX1 : w5.cell? ⟨gx, 1, none⟩ = some (.int .i64 ct) := (X10.out.2 1 (by simp)).1
  have yX2 : w5.cell? ⟨gx, 2, none⟩ = some (.int .i64 V.c) := (X10.out.2 2 (by simp)).1
  have yX3 : w5.cell? ⟨gx, 3, none⟩ = some (.slice (some ⟨bW, 0, none⟩) V.nW V.nW) := (X10.out.2 3 (by simp)).1
  have yX4 : w5.cell? ⟨gx, 4, none⟩ = some (.int .i64 V.g) := (X10.out.2 4 (by simp)).1
  have yX5 : w5.cell? ⟨gx, 5, none⟩ = some (.slice (some ⟨bO, 0, none⟩) V.nO V.nO) := (X10.out.2 5 (by simp)).1
  have yX6 : w5.cell? ⟨gx, 6, none⟩ = some (.slice (some ⟨bX, 0, none⟩) V.nX V.nX) := (X10.out.2 6 (by simp)).1
  have yX7 : w5.cell? ⟨gx, 7, none⟩ = some (.slice (some ⟨bI, 0, none⟩) V.nI V.nI) := (X10.out.2 7 (by simp)).1
  have hlX : gx < w5.heap.size := X10.out.1
  refine wp_region_held_drew (S := fun w' => (∀ b o, b < w5.heap.size → w'.cell? ⟨b, o, none⟩ = w5.cell? ⟨b, o, none⟩) ∧ w5.heap.size ≤ w'.heap.size) (by kernel_rfl) ⟨fun _ _ _ => rfl, Nat.le_refl _⟩ ?_
  intro hHeld
  refine wpAnyH_take (i := 0) (v := .agg #[.int .i64 c, .int .i64 d]) rfl (by kernel_rfl) (by kernel_rfl) (by kernel_rfl) (fun _ _ _ h => h) (Or.inl ⟨by rfl, ?_⟩) (by assumption) ?_
  · intro wx hSw; go_simp
  try simp only [Act.put, List.setIfInBounds_toArray, List.set_cons_zero, List.set_cons_succ, List.getElem_toArray, List.getElem_cons_zero]
  refine wpAnyH_take (i := 2) (v := .agg #[.int .i64 ag, .int .i64 ct, .int .i64 V.c, .slice (some ⟨bW, 0, none⟩) V.nW V.nW, .int .i64 V.g, .slice (some ⟨bO, 0, none⟩) V.nO V.nO, .slice (some ⟨bX, 0, none⟩) V.nX V.nX, .slice (some ⟨bI, 0, none⟩) V.nI V.nI]) rfl (by kernel_rfl) (by kernel_rfl) (by kernel_rfl) (fun _ _ _ h => h) (Or.inl ⟨by rfl, ?_⟩) (by assumption) ?_
  · intro wx hSw; go_simp
  try simp only [Act.put, List.setIfInBounds_toArray, List.set_cons_zero, List.set_cons_succ, List.getElem_toArray, List.getElem_cons_zero, List.getElem_cons_succ]
  refine wpAnyH_take (i := 3) (v := .int .i64 side) rfl (by kernel_rfl) (by kernel_rfl) (by kernel_rfl) (fun _ _ _ h => h) (Or.inl ⟨by rfl, ?_⟩) (by assumption) ?_
  · intro wx hSw; go_simp
  try simp only [Act.put, List.setIfInBounds_toArray, List.set_cons_zero, List.set_cons_succ, List.getElem_toArray, List.getElem_cons_zero, List.getElem_cons_succ]
  refine wpAnyH_ready (rs := [1]) (by kernel_rfl) (by simp) ?_
  refine AllReadyH.cons rfl (fun K hK => ?_) AllReadyH.nil
  go_simp
  go_wp2_with fail
  refine (toMap _ _ _).mono ?_
  rintro e y1 ⟨rfl, hy1⟩
  refine hK.out _ _ (keepS (by assumption) hy1) (fun hNew => ?_)
  clear hK K hHeld
  have hHeld := hNew
  clear hNew
  try simp only [Act.put, List.setIfInBounds_toArray, List.set_cons_zero, List.set_cons_succ, List.getElem_toArray, List.getElem_cons_zero, List.getElem_cons_succ]
  refine wpAnyH_ready (rs := [4]) (by kernel_rfl) (by simp) ?_
  refine AllReadyH.cons rfl (fun K hK => ?_) AllReadyH.nil
  go_simp
  go_wp2_with fail
  refine (gof_impl c d _ ag ct V lx side HV.out _ (C9.out.copy.below (by repeat (first | exact Below.refl _ _ | refine bthen ?_ (by assumption) | apply Below.drew)))).mono ?_
  rintro e y2 ⟨⟨vr, rfl, hR⟩, hy2⟩
  rw [EN.out, EZ.out] at hR
  obtain ⟨a2, c2, rfl, _⟩ := hR.at
  refine hK.out _ _ (keepS (by assumption) hy2) (fun hNew => ?_)
  clear hK K hHeld
  have hHeld := hNew
  clear hNew
  try simp only [Act.put, List.setIfInBounds_toArray, List.set_cons_zero, List.set_cons_succ, List.getElem_toArray, List.getElem_cons_zero, List.getElem_cons_succ]
  refine wpAnyH_take (i := 5) (v := .slice a2 N c2) rfl (by kernel_rfl) (by kernel_rfl) (by kernel_rfl) (fun _ _ _ h => h) (Or.inl ⟨by rfl, ?_⟩) (by assumption) ?_
  · intro wx hSw; go_simp
  try simp only [Act.put, List.setIfInBounds_toArray, List.set_cons_zero, List.set_cons_succ, List.getElem_toArray, List.getElem_cons_zero, List.getElem_cons_succ]
  refine wpAnyH_done (by kernel_rfl) ?_ _
  clear hHeld
  have hbq : Below w5.heap.size w5 y2 := by repeat (first | exact Below.refl _ _ | refine bthen ?_ (by assumption) | apply Below.drew)
  have hbl0 : Below w5.heap.size w5 y1 := by repeat (first | exact Below.refl _ _ | refine bthen ?_ (by assumption) | apply Below.drew)
  have hlq := hbl0.size
  generalize y2 = w6 at *
  obtain ⟨l2, el⟩ : ∃ l, l = y1.heap.size := ⟨_, rfl⟩
  obtain ⟨h2, eh⟩ : ∃ l, l = w6.heap.size := ⟨_, rfl⟩
  rw [← el, ← eh] at hR
  have el22 : w5.heap.size ≤ l2 := by omega
  have el23 : l2 ≤ w6.heap.size := by have := Below.size (show Below y1.heap.size y1 w6 by assumption); omega
  have eh21 : h2 ≤ w6.heap.size := by omega
  have eh22 : w6.heap.size ≤ h2 := by omega
  clear el eh hlq hbl0
  clear yM0 yM1 hlM yA0 yA1 yA2 yA3 yA4 yA5 yA6 yA7 hlA yX0 yX1 yX2 yX3 yX4 yX5 yX6 yX7 hlX
  have y_w6 : w5.heap.size ≤ w6.heap.size := hbq.size
  have B11 : Hid (Below w.heap.size w w6) := bthen B8.out hbq
  have M11 : Hid (Bk w6 w.heap.size [.int .i64 c, .int .i64 d]) := M8.out.below hbq
  have A11 : Hid (Bk w6 (w.heap.size + 1) [.int .i64 ag, .int .i64 ct, .int .i64 V.c, .slice aW V.nW kW, .int .i64 V.g, .slice aO V.nO kO, .slice aX V.nX kX, .slice aI V.nI kI]) := A8.out.below hbq
  have R1_11 : Hid (P7.RL l1 h1 w6 (.slice a1 N c1) N Z) := R1_8.out.below hbq
  have C11 : Hid (HOwn lx hx w6 (.agg #[.int .i64 ag, .int .i64 ct, .int .i64 V.c, .slice (some ⟨bW, 0, none⟩) V.nW V.nW, .int .i64 V.g, .slice (some ⟨bO, 0, none⟩) V.nO V.nO, .slice (some ⟨bX, 0, none⟩) V.nX V.nX, .slice (some ⟨bI, 0, none⟩) V.nI V.nI]) ag ct V) := howm_below C9.out (by omega) hbq
  have X11 : Hid (Bk w6 gx [.int .i64 ag, .int .i64 ct, .int .i64 V.c, .slice (some ⟨bW, 0, none⟩) V.nW V.nW, .int .i64 V.g, .slice (some ⟨bO, 0, none⟩) V.nO V.nO, .slice (some ⟨bX, 0, none⟩) V.nX V.nX, .slice (some ⟨bI, 0, none⟩) V.nI V.nI]) := X10.out.below hbq
  clear B8 M8 A8 R1_8 C9 X10
  have R2_12 : Hid (P7.RL l2 h2 w6 (.slice a2 N c2) N Z) := hR
  clear hbq hR hy1 hy2
  have q2 := rl_row R2_12.out
  have q1 := rl_row R1_11.out
  go_wp2_with fail
  refine (P7.eqList a2 c2 a1 c1 N Z (by omega) _ q2 q1).mono ?_
  rintro e w7 ⟨rfl, hb⟩
  have y_w7 : w6.heap.size ≤ w7.heap.size := hb.size
  have B13 : Hid (Below w.heap.size w w7) := bthen B11.out hb
  have M13 : Hid (Bk w7 w.heap.size [.int .i64 c, .int .i64 d]) := M11.out.below hb
  have A13 : Hid (Bk w7 (w.heap.size + 1) [.int .i64 ag, .int .i64 ct, .int .i64 V.c, .slice aW V.nW kW, .int .i64 V.g, .slice aO V.nO kO, .slice aX V.nX kX, .slice aI V.nI kI]) := A11.out.below hb
  have R1_13 : Hid (P7.RL l1 h1 w7 (.slice a1 N c1) N Z) := R1_11.out.below hb
  have C13 : Hid (HOwn lx hx w7 (.agg #[.int .i64 ag, .int .i64 ct, .int .i64 V.c, .slice (some ⟨bW, 0, none⟩) V.nW V.nW, .int .i64 V.g, .slice (some ⟨bO, 0, none⟩) V.nO V.nO, .slice (some ⟨bX, 0, none⟩) V.nX V.nX, .slice (some ⟨bI, 0, none⟩) V.nI V.nI]) ag ct V) := howm_below C11.out (by omega) hb
  have X13 : Hid (Bk w7 gx [.int .i64 ag, .int .i64 ct, .int .i64 V.c, .slice (some ⟨bW, 0, none⟩) V.nW V.nW, .int .i64 V.g, .slice (some ⟨bO, 0, none⟩) V.nO V.nO, .slice (some ⟨bX, 0, none⟩) V.nX V.nX, .slice (some ⟨bI, 0, none⟩) V.nI V.nI]) := X11.out.below hb
  have R2_13 : Hid (P7.RL l2 h2 w7 (.slice a2 N c2) N Z) := R2_12.out.below hb
  clear B11 M11 A11 R1_11 C11 X11 R2_12
  clear hb q2 q1
  go_upto_region 10 with fail
  have yX0 : w7.cell? ⟨gx, 0, none⟩ = some (.int .i64 ag) := (X13.out.2 0 (by simp)).1
  have yX1 : w7.cell? ⟨gx, 1, none⟩ = some (.int .i64 ct) := (X13.out.2 1 (by simp)).1
  have yX2 : w7.cell? ⟨gx, 2, none⟩ = some (.int .i64 V.c) := (X13.out.2 2 (by simp)).1
  have yX3 : w7.cell? ⟨gx, 3, none⟩ = some (.slice (some ⟨bW, 0, none⟩) V.nW V.nW) := (X13.out.2 3 (by simp)).1
  have yX4 : w7.cell? ⟨gx, 4, none⟩ = some (.int .i64 V.g) := (X13.out.2 4 (by simp)).1
  have yX5 : w7.cell? ⟨gx, 5, none⟩ = some (.slice (some ⟨bO, 0, none⟩) V.nO V.nO) := (X13.out.2 5 (by simp)).1
  have yX6 : w7.cell? ⟨gx, 6, none⟩ = some (.slice (some ⟨bX, 0, none⟩) V.nX V.nX) := (X13.out.2 6 (by simp)).1
  have yX7 : w7.cell? ⟨gx, 7, none⟩ = some (.slice (some ⟨bI, 0, none⟩) V.nI V.nI) := (X13.out.2 7 (by simp)).1
  have hlX : gx < w7.heap.size := X13.out.1
  have yA0 : w7.cell? ⟨(w.heap.size + 1), 0, none⟩ = some (.int .i64 ag) := (A13.out.2 0 (by simp)).1
  have yA1 : w7.cell? ⟨(w.heap.size + 1), 1, none⟩ = some (.int .i64 ct) := (A13.out.2 1 (by simp)).1
  have yA2 : w7.cell? ⟨(w.heap.size + 1), 2, none⟩ = some (.int .i64 V.c) := (A13.out.2 2 (by simp)).1
  have yA3 : w7.cell? ⟨(w.heap.size + 1), 3, none⟩ = some (.slice aW V.nW kW) := (A13.out.2 3 (by simp)).1
  have yA4 : w7.cell? ⟨(w.heap.size + 1), 4, none⟩ = some (.int .i64 V.g) := (A13.out.2 4 (by simp)).1
  have yA5 : w7.cell? ⟨(w.heap.size + 1), 5, none⟩ = some (.slice aO V.nO kO) := (A13.out.2 5 (by simp)).1
  have yA6 : w7.cell? ⟨(w.heap.size + 1), 6, none⟩ = some (.slice aX V.nX kX) := (A13.out.2 6 (by simp)).1
  have yA7 : w7.cell? ⟨(w.heap.size + 1), 7, none⟩ = some (.slice aI V.nI kI) := (A13.out.2 7 (by simp)).1
  have hlA : (w.heap.size + 1) < w7.heap.size := A13.out.1
  refine wp_region_held_drew (S := fun w' => (∀ b o, b < w7.heap.size → w'.cell? ⟨b, o, none⟩ = w7.cell? ⟨b, o, none⟩) ∧ w7.heap.size ≤ w'.heap.size) (by kernel_rfl) ⟨fun _ _ _ => rfl, Nat.le_refl _⟩ ?_
  intro hHeld
  refine wpAnyH_take (i := 0) (v := .agg #[.int .i64 ag, .int .i64 ct, .int .i64 V.c, .slice (some ⟨bW, 0, none⟩) V.nW V.nW, .int .i64 V.g, .slice (some ⟨bO, 0, none⟩) V.nO V.nO, .slice (some ⟨bX, 0, none⟩) V.nX V.nX, .slice (some ⟨bI, 0, none⟩) V.nI V.nI]) rfl (by kernel_rfl) (by kernel_rfl) (by kernel_rfl) (fun _ _ _ h => h) (Or.inl ⟨by rfl, ?_⟩) (by assumption) ?_
  · intro wx hSw; go_simp
  try simp only [Act.put, List.setIfInBounds_toArray, List.set_cons_zero, List.set_cons_succ, List.getElem_toArray, List.getElem_cons_zero]
  refine wpAnyH_take (i := 1) (v := .agg #[.int .i64 ag, .int .i64 ct, .int .i64 V.c, .slice aW V.nW kW, .int .i64 V.g, .slice aO V.nO kO, .slice aX V.nX kX, .slice aI V.nI kI]) rfl (by kernel_rfl) (by kernel_rfl) (by kernel_rfl) (fun _ _ _ h => h) (Or.inl ⟨by rfl, ?_⟩) (by assumption) ?_
  · intro wx hSw; go_simp
  try simp only [Act.put, List.setIfInBounds_toArray, List.set_cons_zero, List.set_cons_succ, List.getElem_toArray, List.getElem_cons_zero, List.getElem_cons_succ]
  refine wpAnyH_ready (rs := [2]) (by kernel_rfl) (by simp) ?_
  refine AllReadyH.cons rfl (fun K hK => ?_) AllReadyH.nil
  go_simp
  go_wp2_with fail
  refine (toHoldB _ ag ct V HV.out _ (H0.out.below (bthen B13.out (by repeat (first | exact Below.refl _ _ | refine bthen ?_ (by assumption) | apply Below.drew))))).mono ?_
  rintro e t1 ⟨⟨vq, rfl, lo3, hi3, _, _, _, hC3⟩, ht1⟩
  refine hK.out _ _ (keepS (by assumption) ht1) (fun hNew => ?_)
  clear hK K hHeld
  have hHeld := hNew
  clear hNew
  try simp only [Act.put, List.setIfInBounds_toArray, List.set_cons_zero, List.set_cons_succ, List.getElem_toArray, List.getElem_cons_zero, List.getElem_cons_succ]
  refine wpAnyH_ready (rs := [3]) (by kernel_rfl) (by simp) ?_
  refine AllReadyH.cons rfl (fun K hK => ?_) AllReadyH.nil
  go_simp
  go_wp2_with fail
  refine (eqHold _ _ ag ct V (shortMore HV.out (by decide)) _ ((C13.out.copy.below (by repeat (first | exact Below.refl _ _ | refine bthen ?_ (by assumption) | apply Below.drew))).at) hC3.copy.at).mono ?_
  rintro e t2 ⟨rfl, ht2⟩
  refine hK.out _ _ (keepS (by assumption) ht2) (fun hNew => ?_)
  clear hK K hHeld
  have hHeld := hNew
  clear hNew
  try simp only [Act.put, List.setIfInBounds_toArray, List.set_cons_zero, List.set_cons_succ, List.getElem_toArray, List.getElem_cons_zero, List.getElem_cons_succ]
  refine wpAnyH_take (i := 4) (v := .bool false) rfl (by kernel_rfl) (by kernel_rfl) (by kernel_rfl) (fun _ _ _ h => h) (Or.inl ⟨by rfl, ?_⟩) (by assumption) ?_
  · intro wx hSw; go_simp
  try simp only [Act.put, List.setIfInBounds_toArray, List.set_cons_zero, List.set_cons_succ, List.getElem_toArray, List.getElem_cons_zero, List.getElem_cons_succ]
  refine wpAnyH_done (by kernel_rfl) ?_ _
  clear hHeld
  have hb8 : Below w7.heap.size w7 t2 := by repeat (first | exact Below.refl _ _ | refine bthen ?_ (by assumption) | apply Below.drew)
  generalize t2 = w8 at *
  clear yX0 yX1 yX2 yX3 yX4 yX5 yX6 yX7 hlX yA0 yA1 yA2 yA3 yA4 yA5 yA6 yA7 hlA
  have y_w8 : w7.heap.size ≤ w8.heap.size := hb8.size
  have B14 : Hid (Below w.heap.size w w8) := bthen B13.out hb8
  have M14 : Hid (Bk w8 w.heap.size [.int .i64 c, .int .i64 d]) := M13.out.below hb8
  have A14 : Hid (Bk w8 (w.heap.size + 1) [.int .i64 ag, .int .i64 ct, .int .i64 V.c, .slice aW V.nW kW, .int .i64 V.g, .slice aO V.nO kO, .slice aX V.nX kX, .slice aI V.nI kI]) := A13.out.below hb8
  have R1_14 : Hid (P7.RL l1 h1 w8 (.slice a1 N c1) N Z) := R1_13.out.below hb8
  have C14 : Hid (HOwn lx hx w8 (.agg #[.int .i64 ag, .int .i64 ct, .int .i64 V.c, .slice (some ⟨bW, 0, none⟩) V.nW V.nW, .int .i64 V.g, .slice (some ⟨bO, 0, none⟩) V.nO V.nO, .slice (some ⟨bX, 0, none⟩) V.nX V.nX, .slice (some ⟨bI, 0, none⟩) V.nI V.nI]) ag ct V) := howm_below C13.out (by omega) hb8
  have X14 : Hid (Bk w8 gx [.int .i64 ag, .int .i64 ct, .int .i64 V.c, .slice (some ⟨bW, 0, none⟩) V.nW V.nW, .int .i64 V.g, .slice (some ⟨bO, 0, none⟩) V.nO V.nO, .slice (some ⟨bX, 0, none⟩) V.nX V.nX, .slice (some ⟨bI, 0, none⟩) V.nI V.nI]) := X13.out.below hb8
  have R2_14 : Hid (P7.RL l2 h2 w8 (.slice a2 N c2) N Z) := R2_13.out.below hb8
  clear B13 M13 A13 R1_13 C13 X13 R2_13
  clear hb8 ht1 ht2 hC3
  have yX0 : w8.cell? ⟨gx, 0, none⟩ = some (.int .i64 ag) := (X14.out.2 0 (by simp)).1
  have yX1 : w8.cell? ⟨gx, 1, none⟩ = some (.int .i64 ct) := (X14.out.2 1 (by simp)).1
  have yX2 : w8.cell? ⟨gx, 2, none⟩ = some (.int .i64 V.c) := (X14.out.2 2 (by simp)).1
  have yX3 : w8.cell? ⟨gx, 3, none⟩ = some (.slice (some ⟨bW, 0, none⟩) V.nW V.nW) := (X14.out.2 3 (by simp)).1
  have yX4 : w8.cell? ⟨gx, 4, none⟩ = some (.int .i64 V.g) := (X14.out.2 4 (by simp)).1
  have yX5 : w8.cell? ⟨gx, 5, none⟩ = some (.slice (some ⟨bO, 0, none⟩) V.nO V.nO) := (X14.out.2 5 (by simp)).1
  have yX6 : w8.cell? ⟨gx, 6, none⟩ = some (.slice (some ⟨bX, 0, none⟩) V.nX V.nX) := (X14.out.2 6 (by simp)).1
  have yX7 : w8.cell? ⟨gx, 7, none⟩ = some (.slice (some ⟨bI, 0, none⟩) V.nI V.nI) := (X14.out.2 7 (by simp)).1
  have hlX : gx < w8.heap.size := X14.out.1
  go_wp2_with fail
  clear yX0 yX1 yX2 yX3 yX4 yX5 yX6 yX7 hlX
  refine (markHold lx hx _ ag ct V HF.out _ (by omega) (by omega) C14.out).mono ?_
  rintro e w9 ⟨rfl, hz, hsm, hbl⟩
  have y_w9 : w8.heap.size ≤ w9.heap.size := hz
  have B15 : Hid (Below w.heap.size w w9) := B14.out.trans (hbl.mono (by omega))
  have M15 : Hid (Bk w9 w.heap.size [.int .i64 c, .int .i64 d]) := M14.out.sm hz (hsm (w.heap.size) (by omega) (by omega))
  have A15 : Hid (Bk w9 (w.heap.size + 1) [.int .i64 ag, .int .i64 ct, .int .i64 V.c, .slice aW V.nW kW, .int .i64 V.g, .slice aO V.nO kO, .slice aX V.nX kX, .slice aI V.nI kI]) := A14.out.sm hz (hsm ((w.heap.size + 1)) (by omega) (by omega))
  have R1_15 : Hid (P7.RL l1 h1 w9 (.slice a1 N c1) N Z) := R1_14.out.sm hz (fun b q1 q2 => hsm b (by omega) (by omega))
  have X15 : Hid (Bk w9 gx [.int .i64 ag, .int .i64 ct, .int .i64 V.c, .slice (some ⟨bW, 0, none⟩) V.nW V.nW, .int .i64 V.g, .slice (some ⟨bO, 0, none⟩) V.nO V.nO, .slice (some ⟨bX, 0, none⟩) V.nX V.nX, .slice (some ⟨bI, 0, none⟩) V.nI V.nI]) := X14.out.sm hz (hsm (gx) (by omega) (by omega))
  have R2_15 : Hid (P7.RL l2 h2 w9 (.slice a2 N c2) N Z) := R2_14.out.sm hz (fun b q1 q2 => hsm b (by omega) (by omega))
  clear B14 M14 A14 R1_14 X14 R2_14
  clear hz hsm hbl C14
  have nn : ¬ ((V.s4 : Nat) : Int) < 0 := by omega
  have q2 := rl_row R2_15.out
  have q1 := rl_row R1_15.out
  go_wp2_with fail
  refine (P7.eqList a2 c2 a1 c1 N Z (by omega) _ q2 q1).mono ?_
  rintro e w10 ⟨rfl, hb⟩
  have y_w10 : w9.heap.size ≤ w10.heap.size := hb.size
  have B16 : Hid (Below w.heap.size w w10) := bthen B15.out hb
  have M16 : Hid (Bk w10 w.heap.size [.int .i64 c, .int .i64 d]) := M15.out.below hb
  have A16 : Hid (Bk w10 (w.heap.size + 1) [.int .i64 ag, .int .i64 ct, .int .i64 V.c, .slice aW V.nW kW, .int .i64 V.g, .slice aO V.nO kO, .slice aX V.nX kX, .slice aI V.nI kI]) := A15.out.below hb
  have R1_16 : Hid (P7.RL l1 h1 w10 (.slice a1 N c1) N Z) := R1_15.out.below hb
  have X16 : Hid (Bk w10 gx [.int .i64 ag, .int .i64 ct, .int .i64 V.c, .slice (some ⟨bW, 0, none⟩) V.nW V.nW, .int .i64 V.g, .slice (some ⟨bO, 0, none⟩) V.nO V.nO, .slice (some ⟨bX, 0, none⟩) V.nX V.nX, .slice (some ⟨bI, 0, none⟩) V.nI V.nI]) := X15.out.below hb
  have R2_16 : Hid (P7.RL l2 h2 w10 (.slice a2 N c2) N Z) := R2_15.out.below hb
  clear B15 M15 A15 R1_15 X15 R2_15
  clear hb q2 q1
  go_wp2_with fail
  refine (P7.mark_any l2 h2 1 _ N Z (by omega) (by omega) _ (by omega) R2_16.out).mono ?_
  rintro e w11 ⟨rfl, hO, hz, hsm, hbl⟩
  have y_w11 : w10.heap.size ≤ w11.heap.size := hz
  have B17 : Hid (Below w.heap.size w w11) := B16.out.trans (hbl.mono (by omega))
  have M17 : Hid (Bk w11 w.heap.size [.int .i64 c, .int .i64 d]) := M16.out.sm hz (hsm (w.heap.size) (by omega) (by omega))
  have A17 : Hid (Bk w11 (w.heap.size + 1) [.int .i64 ag, .int .i64 ct, .int .i64 V.c, .slice aW V.nW kW, .int .i64 V.g, .slice aO V.nO kO, .slice aX V.nX kX, .slice aI V.nI kI]) := A16.out.sm hz (hsm ((w.heap.size + 1)) (by omega) (by omega))
  have R1_17 : Hid (P7.RL l1 h1 w11 (.slice a1 N c1) N Z) := R1_16.out.sm hz (fun b q1 q2 => hsm b (by omega) (by omega))
  have X17 : Hid (Bk w11 gx [.int .i64 ag, .int .i64 ct, .int .i64 V.c, .slice (some ⟨bW, 0, none⟩) V.nW V.nW, .int .i64 V.g, .slice (some ⟨bO, 0, none⟩) V.nO V.nO, .slice (some ⟨bX, 0, none⟩) V.nX V.nX, .slice (some ⟨bI, 0, none⟩) V.nI V.nI]) := X16.out.sm hz (hsm (gx) (by omega) (by omega))
  clear B16 M16 A16 R1_16 X16
  have R2_18 : Hid (P7.RL l2 h2 w11 (.slice a2 N c2) N (Mk 7 1)) := hO
  clear hO hz hsm hbl R2_16
  have nn2 : ¬ ((1 + N * 7 : Nat) : Int) < 0 := by omega
  go_wp2_with fail
  refine (P7.held_any l2 h2 1 _ N (by omega) (by omega) _ R2_18.out).mono ?_
  rintro e w12 ⟨rfl, hb⟩
  have y_w12 : w11.heap.size ≤ w12.heap.size := hb.size
  have B19 : Hid (Below w.heap.size w w12) := bthen B17.out hb
  have M19 : Hid (Bk w12 w.heap.size [.int .i64 c, .int .i64 d]) := M17.out.below hb
  have A19 : Hid (Bk w12 (w.heap.size + 1) [.int .i64 ag, .int .i64 ct, .int .i64 V.c, .slice aW V.nW kW, .int .i64 V.g, .slice aO V.nO kO, .slice aX V.nX kX, .slice aI V.nI kI]) := A17.out.below hb
  have R1_19 : Hid (P7.RL l1 h1 w12 (.slice a1 N c1) N Z) := R1_17.out.below hb
  have X19 : Hid (Bk w12 gx [.int .i64 ag, .int .i64 ct, .int .i64 V.c, .slice (some ⟨bW, 0, none⟩) V.nW V.nW, .int .i64 V.g, .slice (some ⟨bO, 0, none⟩) V.nO V.nO, .slice (some ⟨bX, 0, none⟩) V.nX V.nX, .slice (some ⟨bI, 0, none⟩) V.nI V.nI]) := X17.out.below hb
  have R2_19 : Hid (P7.RL l2 h2 w12 (.slice a2 N c2) N (Mk 7 1)) := R2_18.out.below hb
  clear B17 M17 A17 R1_17 X17 R2_18
  clear hb
  go_upto_region 24 with fail
  have yM0 : w12.cell? ⟨w.heap.size, 0, none⟩ = some (.int .i64 c) := (M19.out.2 0 (by simp)).1
  have yM1 : w12.cell? ⟨w.heap.size, 1, none⟩ = some (.int .i64 d) := (M19.out.2 1 (by simp)).1
  have hlM : w.heap.size < w12.heap.size := M19.out.1
  have yA0 : w12.cell? ⟨(w.heap.size + 1), 0, none⟩ = some (.int .i64 ag) := (A19.out.2 0 (by simp)).1
  have yA1 : w12.cell? ⟨(w.heap.size + 1), 1, none⟩ = some (.int .i64 ct) := (A19.out.2 1 (by simp)).1
  have yA2 : w12.cell? ⟨(w.heap.size + 1), 2, none⟩ = some (.int .i64 V.c) := (A19.out.2 2 (by simp)).1
  have yA3 : w12.cell? ⟨(w.heap.size + 1), 3, none⟩ = some (.slice aW V.nW kW) := (A19.out.2 3 (by simp)).1
  have yA4 : w12.cell? ⟨(w.heap.size + 1), 4, none⟩ = some (.int .i64 V.g) := (A19.out.2 4 (by simp)).1
  have yA5 : w12.cell? ⟨(w.heap.size + 1), 5, none⟩ = some (.slice aO V.nO kO) := (A19.out.2 5 (by simp)).1
  have yA6 : w12.cell? ⟨(w.heap.size + 1), 6, none⟩ = some (.slice aX V.nX kX) := (A19.out.2 6 (by simp)).1
  have yA7 : w12.cell? ⟨(w.heap.size + 1), 7, none⟩ = some (.slice aI V.nI kI) := (A19.out.2 7 (by simp)).1
  have hlA : (w.heap.size + 1) < w12.heap.size := A19.out.1
  refine wp_region_held_drew (S := fun w' => (∀ b o, b < w12.heap.size → w'.cell? ⟨b, o, none⟩ = w12.cell? ⟨b, o, none⟩) ∧ w12.heap.size ≤ w'.heap.size) (by kernel_rfl) ⟨fun _ _ _ => rfl, Nat.le_refl _⟩ ?_
  intro hHeld
  refine wpAnyH_take (i := 0) (v := .agg #[.int .i64 c, .int .i64 d]) rfl (by kernel_rfl) (by kernel_rfl) (by kernel_rfl) (fun _ _ _ h => h) (Or.inl ⟨by rfl, ?_⟩) (by assumption) ?_
  · intro wx hSw; go_simp
  try simp only [Act.put, List.setIfInBounds_toArray, List.set_cons_zero, List.set_cons_succ, List.getElem_toArray, List.getElem_cons_zero]
  refine wpAnyH_take (i := 2) (v := .agg #[.int .i64 ag, .int .i64 ct, .int .i64 V.c, .slice aW V.nW kW, .int .i64 V.g, .slice aO V.nO kO, .slice aX V.nX kX, .slice aI V.nI kI]) rfl (by kernel_rfl) (by kernel_rfl) (by kernel_rfl) (fun _ _ _ h => h) (Or.inl ⟨by rfl, ?_⟩) (by assumption) ?_
  · intro wx hSw; go_simp
  try simp only [Act.put, List.setIfInBounds_toArray, List.set_cons_zero, List.set_cons_succ, List.getElem_toArray, List.getElem_cons_zero, List.getElem_cons_succ]
  refine wpAnyH_take (i := 4) (v := .int .i64 side) rfl (by kernel_rfl) (by kernel_rfl) (by kernel_rfl) (fun _ _ _ h => h) (Or.inl ⟨by rfl, ?_⟩) (by assumption) ?_
  · intro wx hSw; go_simp
  try simp only [Act.put, List.setIfInBounds_toArray, List.set_cons_zero, List.set_cons_succ, List.getElem_toArray, List.getElem_cons_zero, List.getElem_cons_succ]
  refine wpAnyH_ready (rs := [1]) (by kernel_rfl) (by simp) ?_
  refine AllReadyH.cons rfl (fun K hK => ?_) AllReadyH.nil
  go_simp
  go_wp2_with fail
  refine (toMap _ _ _).mono ?_
  rintro e z1 ⟨rfl, hz1⟩
  refine hK.out _ _ (keepS (by assumption) hz1) (fun hNew => ?_)
  clear hK K hHeld
  have hHeld := hNew
  clear hNew
  try simp only [Act.put, List.setIfInBounds_toArray, List.set_cons_zero, List.set_cons_succ, List.getElem_toArray, List.getElem_cons_zero, List.getElem_cons_succ]
  refine wpAnyH_ready (rs := [3]) (by kernel_rfl) (by simp) ?_
  refine AllReadyH.cons rfl (fun K hK => ?_) AllReadyH.nil
  go_simp
  go_wp2_with fail
  refine (toHoldB _ ag ct V HV.out _ (H0.out.below (bthen B19.out (by repeat (first | exact Below.refl _ _ | refine bthen ?_ (by assumption) | apply Below.drew))))).mono ?_
  rintro e z2 ⟨⟨vq, rfl, lo1, hi1, _, _, _, hC1⟩, hz2⟩
  refine hK.out _ _ (keepS (by assumption) hz2) (fun hNew => ?_)
  clear hK K hHeld
  have hHeld := hNew
  clear hNew
  try simp only [Act.put, List.setIfInBounds_toArray, List.set_cons_zero, List.set_cons_succ, List.getElem_toArray, List.getElem_cons_zero, List.getElem_cons_succ]
  refine wpAnyH_ready (rs := [5]) (by kernel_rfl) (by simp) ?_
  refine AllReadyH.cons rfl (fun K hK => ?_) AllReadyH.nil
  go_simp
  go_wp2_with fail
  refine (gof_impl c d vq ag ct V lo1 side HV.out _ hC1.copy).mono ?_
  rintro e z3 ⟨⟨vr, rfl, hR⟩, hz3⟩
  rw [EN.out, EZ.out] at hR
  obtain ⟨a3, c3, rfl, _⟩ := hR.at
  refine hK.out _ _ (keepS (by assumption) hz3) (fun hNew => ?_)
  clear hK K hHeld
  have hHeld := hNew
  clear hNew
  try simp only [Act.put, List.setIfInBounds_toArray, List.set_cons_zero, List.set_cons_succ, List.getElem_toArray, List.getElem_cons_zero, List.getElem_cons_succ]
  refine wpAnyH_take (i := 6) (v := .slice a3 N c3) rfl (by kernel_rfl) (by kernel_rfl) (by kernel_rfl) (fun _ _ _ h => h) (Or.inl ⟨by rfl, ?_⟩) (by assumption) ?_
  · intro wx hSw; go_simp
  try simp only [Act.put, List.setIfInBounds_toArray, List.set_cons_zero, List.set_cons_succ, List.getElem_toArray, List.getElem_cons_zero, List.getElem_cons_succ]
  refine wpAnyH_done (by kernel_rfl) ?_ _
  clear hHeld
  have hbq : Below w12.heap.size w12 z3 := by repeat (first | exact Below.refl _ _ | refine bthen ?_ (by assumption) | apply Below.drew)
  have hbl0 : Below w12.heap.size w12 z2 := by repeat (first | exact Below.refl _ _ | refine bthen ?_ (by assumption) | apply Below.drew)
  have hlq := hbl0.size
  generalize z3 = w13 at *
  obtain ⟨l3, el⟩ : ∃ l, l = z2.heap.size := ⟨_, rfl⟩
  obtain ⟨h3, eh⟩ : ∃ l, l = w13.heap.size := ⟨_, rfl⟩
  rw [← el, ← eh] at hR
  have el32 : w12.heap.size ≤ l3 := by omega
  have el33 : l3 ≤ w13.heap.size := by have := Below.size (show Below z2.heap.size z2 w13 by assumption); omega
  have eh31 : h3 ≤ w13.heap.size := by omega
  have eh32 : w13.heap.size ≤ h3 := by omega
  clear el eh hlq hbl0
  clear yM0 yM1 hlM yA0 yA1 yA2 yA3 yA4 yA5 yA6 yA7 hlA
  have y_w13 : w12.heap.size ≤ w13.heap.size := hbq.size
  have B20 : Hid (Below w.heap.size w w13) := bthen B19.out hbq
  have M20 : Hid (Bk w13 w.heap.size [.int .i64 c, .int .i64 d]) := M19.out.below hbq
  have A20 : Hid (Bk w13 (w.heap.size + 1) [.int .i64 ag, .int .i64 ct, .int .i64 V.c, .slice aW V.nW kW, .int .i64 V.g, .slice aO V.nO kO, .slice aX V.nX kX, .slice aI V.nI kI]) := A19.out.below hbq
  have R1_20 : Hid (P7.RL l1 h1 w13 (.slice a1 N c1) N Z) := R1_19.out.below hbq
  have X20 : Hid (Bk w13 gx [.int .i64 ag, .int .i64 ct, .int .i64 V.c, .slice (some ⟨bW, 0, none⟩) V.nW V.nW, .int .i64 V.g, .slice (some ⟨bO, 0, none⟩) V.nO V.nO, .slice (some ⟨bX, 0, none⟩) V.nX V.nX, .slice (some ⟨bI, 0, none⟩) V.nI V.nI]) := X19.out.below hbq
  have R2_20 : Hid (P7.RL l2 h2 w13 (.slice a2 N c2) N (Mk 7 1)) := R2_19.out.below hbq
  clear B19 M19 A19 R1_19 X19 R2_19
  have R3_21 : Hid (P7.RL l3 h3 w13 (.slice a3 N c3) N Z) := hR
  clear hbq hR hz1 hz2 hz3 hC1
  have q3 := rl_row R3_21.out
  have q1 := rl_row R1_20.out
  go_wp2_with fail
  refine (P7.eqList a3 c3 a1 c1 N Z (by omega) _ q3 q1).mono ?_
  rintro e w14 ⟨rfl, hb⟩
  have y_w14 : w13.heap.size ≤ w14.heap.size := hb.size
  have B22 : Hid (Below w.heap.size w w14) := bthen B20.out hb
  have M22 : Hid (Bk w14 w.heap.size [.int .i64 c, .int .i64 d]) := M20.out.below hb
  have A22 : Hid (Bk w14 (w.heap.size + 1) [.int .i64 ag, .int .i64 ct, .int .i64 V.c, .slice aW V.nW kW, .int .i64 V.g, .slice aO V.nO kO, .slice aX V.nX kX, .slice aI V.nI kI]) := A20.out.below hb
  have R1_22 : Hid (P7.RL l1 h1 w14 (.slice a1 N c1) N Z) := R1_20.out.below hb
  have X22 : Hid (Bk w14 gx [.int .i64 ag, .int .i64 ct, .int .i64 V.c, .slice (some ⟨bW, 0, none⟩) V.nW V.nW, .int .i64 V.g, .slice (some ⟨bO, 0, none⟩) V.nO V.nO, .slice (some ⟨bX, 0, none⟩) V.nX V.nX, .slice (some ⟨bI, 0, none⟩) V.nI V.nI]) := X20.out.below hb
  have R2_22 : Hid (P7.RL l2 h2 w14 (.slice a2 N c2) N (Mk 7 1)) := R2_20.out.below hb
  have R3_22 : Hid (P7.RL l3 h3 w14 (.slice a3 N c3) N Z) := R3_21.out.below hb
  clear B20 M20 A20 R1_20 X20 R2_20 R3_21
  clear hb q3 q1
  go_wp2_with fail
  refine (P7.held_any l2 h2 1 _ N (by omega) (by omega) _ R2_22.out).mono ?_
  rintro e w15 ⟨rfl, hb⟩
  have y_w15 : w14.heap.size ≤ w15.heap.size := hb.size
  have B23 : Hid (Below w.heap.size w w15) := bthen B22.out hb
  have M23 : Hid (Bk w15 w.heap.size [.int .i64 c, .int .i64 d]) := M22.out.below hb
  have A23 : Hid (Bk w15 (w.heap.size + 1) [.int .i64 ag, .int .i64 ct, .int .i64 V.c, .slice aW V.nW kW, .int .i64 V.g, .slice aO V.nO kO, .slice aX V.nX kX, .slice aI V.nI kI]) := A22.out.below hb
  have R1_23 : Hid (P7.RL l1 h1 w15 (.slice a1 N c1) N Z) := R1_22.out.below hb
  have X23 : Hid (Bk w15 gx [.int .i64 ag, .int .i64 ct, .int .i64 V.c, .slice (some ⟨bW, 0, none⟩) V.nW V.nW, .int .i64 V.g, .slice (some ⟨bO, 0, none⟩) V.nO V.nO, .slice (some ⟨bX, 0, none⟩) V.nX V.nX, .slice (some ⟨bI, 0, none⟩) V.nI V.nI]) := X22.out.below hb
  have R2_23 : Hid (P7.RL l2 h2 w15 (.slice a2 N c2) N (Mk 7 1)) := R2_22.out.below hb
  have R3_23 : Hid (P7.RL l3 h3 w15 (.slice a3 N c3) N Z) := R3_22.out.below hb
  clear B22 M22 A22 R1_22 X22 R2_22 R3_22
  clear hb
  go_wp2
  go_ret
  exact ⟨rfl, B23.out⟩
end Go.Proofs.Ytdmfncopcmhcjaa
