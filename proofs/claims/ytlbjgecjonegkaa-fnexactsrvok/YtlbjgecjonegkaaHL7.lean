/- SrvOk of the law FnExactSrvOk; conditions: the holds and ghosts lie in memory. -/
import Derived.Test.YtlbjgecjonegkaaHL6
import Derived.Deep.Slices
import Derived.ChangeArms
namespace Go.Proofs.Ytlbjgecjonegkaa
open Go.RowKit Go.Deep
set_option linter.unusedVariables false
open Go.ChangeShapes Go.WideShapes Go.ChangeAt
theorem shortUp {V : CV} (h : V.short 1048576) : V.short 2000000 := ⟨Nat.le_trans h.1 (by omega), Nat.le_trans h.2.1 (by omega), fun k hk => Nat.le_trans (h.2.2.1 k hk) (by omega), Nat.le_trans h.2.2.2.1 (by omega), Nat.le_trans h.2.2.2.2 (by omega)⟩
set_option maxRecDepth 100000 in
set_option maxHeartbeats 4000000 in
theorem law_srvOk (c d : Int) (up : Bool) (aH : Option Addr) (n cH : Nat) (F : Nat → HV) (aG : Option Addr) (g cG : Nat) (Z : Nat → Nat → Int) (hn : n ≤ maxLen) (hg : g ≤ maxLen) (hN : ∀ k, k < n → (F k).V.short maxLen) (w : World) (hH : HRow w aH n F) (hG : P7.RowK w aG g Z) :
    Calls Try.prog 3 #[.agg #[.int .i64 c, .int .i64 d], .agg #[.bool up, .slice aH n cH, .slice aG g cG]] w fun e w' => e = .returned (.bool true) ∧ Below w.heap.size w w' := by
  have HH : Hid (HRow w aH n F) := hH
  have HG : Hid (P7.RowK w aG g Z) := hG
  have HN : Hid (∀ k, k < n → (F k).V.short maxLen) := hN
  clear hH hG hN
  have hn' : (n : Int) ≤ 9223372036854775807 := by unfold maxLen at hn; omega
  have hg' : (g : Int) ≤ 9223372036854775807 := by unfold maxLen at hg; omega
  clear hn hg
  go_enter Try.func3, Try.ntmps3
  go_wp2_with fail
  obtain ⟨w0, e0⟩ : ∃ w0, w0 = (w.alloc (.cells #[.int .i64 c, .int .i64 d] 23)).alloc (.cells #[.bool up, .slice aH n cH, .slice aG g cG] 27) := ⟨_, rfl⟩
  have B1 : Hid (Below w.heap.size w w0) := by rw [e0]; exact ((Below.refl _ _).alloc (by simp) _).alloc (by simp) _
  have M2 : Hid (Bk w0 w.heap.size [.int .i64 c, .int .i64 d]) := by rw [e0]; exact (bk_new w 23 [.int .i64 c, .int .i64 d]).below ((Below.refl _ _).alloc (Nat.le_refl _) _)
  have A3 : Hid (Bk w0 (w.heap.size + 1) [.bool up, .slice aH n cH, .slice aG g cG]) := by rw [e0]; have := bk_new (w.alloc (.cells #[.int .i64 c, .int .i64 d] 23)) 27 [.bool up, .slice aH n cH, .slice aG g cG]; rwa [show (w.alloc (.cells #[.int .i64 c, .int .i64 d] 23)).heap.size = w.heap.size + 1 by simp] at this
  rw [← e0]
  clear e0
  refine (szSrv up aH n cH F aG g cG hn' hg' HN.out _ (HH.out.below B1.out)).mono ?_
  rintro e w1 ⟨⟨r, rfl, hr⟩, hb1⟩
  have B4 : Hid (Below w.heap.size w w1) := bthen B1.out hb1
  have M4 : Hid (Bk w1 w.heap.size [.int .i64 c, .int .i64 d]) := M2.out.below hb1
  have A4 : Hid (Bk w1 (w.heap.size + 1) [.bool up, .slice aH n cH, .slice aG g cG]) := A3.out.below hb1
  clear B1 M2 A3
  clear hb1
  rcases hr with hr | ⟨r0, hn2, hS, hg2⟩
  · go_wp2
    go_ret
    exact ⟨rfl, B4.out⟩
  have HS : Hid (∀ k, k < n → (F k).V.short 1048576) := hS
  have hr2 : ¬ r < 0 := by omega
  clear hS
  have yM0 : w1.cell? ⟨w.heap.size, 0, none⟩ = some (.int .i64 c) := (M4.out.2 0 (by simp)).1
  have yM1 : w1.cell? ⟨w.heap.size, 1, none⟩ = some (.int .i64 d) := (M4.out.2 1 (by simp)).1
  have hlM : w.heap.size < w1.heap.size := M4.out.1
  have yA0 : w1.cell? ⟨(w.heap.size + 1), 0, none⟩ = some (.bool up) := (A4.out.2 0 (by simp)).1
  have yA1 : w1.cell? ⟨(w.heap.size + 1), 1, none⟩ = some (.slice aH n cH) := (A4.out.2 1 (by simp)).1
  have yA2 : w1.cell? ⟨(w.heap.size + 1), 2, none⟩ = some (.slice aG g cG) := (A4.out.2 2 (by simp)).1
  have hlA : (w.heap.size + 1) < w1.heap.size := A4.out.1
  go_wp2
  refine wp_region_held_drew (S := fun w' => (∀ b o, b < w1.heap.size → w'.cell? ⟨b, o, none⟩ = w1.cell? ⟨b, o, none⟩) ∧ w1.heap.size ≤ w'.heap.size) (by kernel_rfl) ⟨fun _ _ _ => rfl, Nat.le_refl _⟩ ?_
  intro hHeld
  refine wpAnyH_take (i := 0) (v := .agg #[.int .i64 c, .int .i64 d]) rfl (by kernel_rfl) (by kernel_rfl) (by kernel_rfl) (fun _ _ _ h => h) (Or.inl ⟨by rfl, ?_⟩) (by assumption) ?_
  · intro wx hSw; go_simp
  try simp only [Act.put, List.setIfInBounds_toArray, List.set_cons_zero, List.set_cons_succ, List.getElem_toArray, List.getElem_cons_zero]
  refine wpAnyH_take (i := 2) (v := .agg #[.bool up, .slice aH n cH, .slice aG g cG]) rfl (by kernel_rfl) (by kernel_rfl) (by kernel_rfl) (fun _ _ _ h => h) (Or.inl ⟨by rfl, ?_⟩) (by assumption) ?_
  · intro wx hSw; go_simp
  try simp only [Act.put, List.setIfInBounds_toArray, List.set_cons_zero, List.set_cons_succ, List.getElem_toArray, List.getElem_cons_zero, List.getElem_cons_succ]
  refine wpAnyH_ready (rs := [1]) (by kernel_rfl) (by simp) ?_
  refine AllReadyH.cons rfl (fun K hK => ?_) AllReadyH.nil
  go_simp
  go_wp2_with fail
  refine (toMap _ _ _).mono ?_
  rintro e x1 ⟨rfl, hx1⟩
  refine hK.out _ _ (keepS (by assumption) hx1) (fun hNew => ?_)
  clear hK K hHeld
  have hHeld := hNew
  clear hNew
  try simp only [Act.put, List.setIfInBounds_toArray, List.set_cons_zero, List.set_cons_succ, List.getElem_toArray, List.getElem_cons_zero, List.getElem_cons_succ]
  refine wpAnyH_ready (rs := [3]) (by kernel_rfl) (by simp) ?_
  refine AllReadyH.cons rfl (fun K hK => ?_) AllReadyH.nil
  go_simp
  go_wp2_with fail
  refine (toSrv up aH n cH F aG g cG Z hn2 hg2 HS.out _ (HH.out.below (bthen B4.out (by repeat (first | exact Below.refl _ _ | refine bthen ?_ (by assumption) | apply Below.drew)))) (P7.row_below HG.out (bthen B4.out (by repeat (first | exact Below.refl _ _ | refine bthen ?_ (by assumption) | apply Below.drew))))).mono ?_
  rintro e x2 ⟨⟨B1, G1, rfl, o1, k1, l1, m1, p1, q1⟩, hx2⟩
  refine hK.out _ _ (keepS (by assumption) hx2) (fun hNew => ?_)
  clear hK K hHeld
  have hHeld := hNew
  clear hNew
  try simp only [Act.put, List.setIfInBounds_toArray, List.set_cons_zero, List.set_cons_succ, List.getElem_toArray, List.getElem_cons_zero, List.getElem_cons_succ]
  refine wpAnyH_ready (rs := [4]) (by kernel_rfl) (by simp) ?_
  refine AllReadyH.cons rfl (fun K hK => ?_) AllReadyH.nil
  go_simp
  go_wp2_with fail
  refine (srvOk_spec c d up B1 n F (some ⟨G1, 0, none⟩) g g Z hn2 hg2 HS.out _ l1 o1 (P7.row_of_own k1 m1)).mono ?_
  rintro e x3 ⟨rfl, hx3⟩
  refine hK.out _ _ (keepS (by assumption) hx3) (fun hNew => ?_)
  clear hK K hHeld
  have hHeld := hNew
  clear hNew
  try simp only [Act.put, List.setIfInBounds_toArray, List.set_cons_zero, List.set_cons_succ, List.getElem_toArray, List.getElem_cons_zero, List.getElem_cons_succ]
  refine wpAnyH_take (i := 5) (v := .bool (srvB c d up n F g Z)) rfl (by kernel_rfl) (by kernel_rfl) (by kernel_rfl) (fun _ _ _ h => h) (Or.inl ⟨by rfl, ?_⟩) (by assumption) ?_
  · intro wx hSw; go_simp
  try simp only [Act.put, List.setIfInBounds_toArray, List.set_cons_zero, List.set_cons_succ, List.getElem_toArray, List.getElem_cons_zero, List.getElem_cons_succ]
  refine wpAnyH_done (by kernel_rfl) ?_ _
  clear hHeld
  have hz1 : Below w1.heap.size w1 x3 := by repeat (first | exact Below.refl _ _ | refine bthen ?_ (by assumption) | apply Below.drew)
  clear yM0 yM1 hlM yA0 yA1 yA2 hlA
  have B5 : Hid (Below w.heap.size w x3) := bthen B4.out hz1
  have M5 : Hid (Bk x3 w.heap.size [.int .i64 c, .int .i64 d]) := M4.out.below hz1
  have A5 : Hid (Bk x3 (w.heap.size + 1) [.bool up, .slice aH n cH, .slice aG g cG]) := A4.out.below hz1
  clear B4 M4 A4
  clear hz1 hx1 hx2 hx3 o1 k1 l1 m1 p1 q1
  have yM0 : x3.cell? ⟨w.heap.size, 0, none⟩ = some (.int .i64 c) := (M5.out.2 0 (by simp)).1
  have yM1 : x3.cell? ⟨w.heap.size, 1, none⟩ = some (.int .i64 d) := (M5.out.2 1 (by simp)).1
  have hlM : w.heap.size < x3.heap.size := M5.out.1
  have yA0 : x3.cell? ⟨(w.heap.size + 1), 0, none⟩ = some (.bool up) := (A5.out.2 0 (by simp)).1
  have yA1 : x3.cell? ⟨(w.heap.size + 1), 1, none⟩ = some (.slice aH n cH) := (A5.out.2 1 (by simp)).1
  have yA2 : x3.cell? ⟨(w.heap.size + 1), 2, none⟩ = some (.slice aG g cG) := (A5.out.2 2 (by simp)).1
  have hlA : (w.heap.size + 1) < x3.heap.size := A5.out.1
  go_wp2_with fail
  refine (toSrv up aH n cH F aG g cG Z hn2 hg2 HS.out _ (HH.out.below (bthen B5.out (by repeat (first | exact Below.refl _ _ | refine bthen ?_ (by assumption) | apply Below.drew)))) (P7.row_below HG.out (bthen B5.out (by repeat (first | exact Below.refl _ _ | refine bthen ?_ (by assumption) | apply Below.drew))))).mono ?_
  rintro e x4 ⟨⟨B2, G2, rfl, o2, k2, l2, m2, p2, q2⟩, hx4⟩
  clear yM0 yM1 hlM yA0 yA1 yA2 hlA
  have B6 : Hid (Below w.heap.size w x4) := bthen B5.out hx4
  have M6 : Hid (Bk x4 w.heap.size [.int .i64 c, .int .i64 d]) := M5.out.below hx4
  have A6 : Hid (Bk x4 (w.heap.size + 1) [.bool up, .slice aH n cH, .slice aG g cG]) := A5.out.below hx4
  clear B5 M5 A5
  clear hx4
  have yM0 : x4.cell? ⟨w.heap.size, 0, none⟩ = some (.int .i64 c) := (M6.out.2 0 (by simp)).1
  have yM1 : x4.cell? ⟨w.heap.size, 1, none⟩ = some (.int .i64 d) := (M6.out.2 1 (by simp)).1
  have hlM : w.heap.size < x4.heap.size := M6.out.1
  have yA0 : x4.cell? ⟨(w.heap.size + 1), 0, none⟩ = some (.bool up) := (A6.out.2 0 (by simp)).1
  have yA1 : x4.cell? ⟨(w.heap.size + 1), 1, none⟩ = some (.slice aH n cH) := (A6.out.2 1 (by simp)).1
  have yA2 : x4.cell? ⟨(w.heap.size + 1), 2, none⟩ = some (.slice aG g cG) := (A6.out.2 2 (by simp)).1
  have hlA : (w.heap.size + 1) < x4.heap.size := A6.out.1
  go_wp2
  obtain ⟨x5, e5⟩ : ∃ y, y = x4.alloc (.cells #[.bool up, .slice (some ⟨B2, 0, none⟩) n n, .slice (some ⟨G2, 0, none⟩) g g] 35) := ⟨_, rfl⟩
  rw [← e5]
  have hb5 : Below x4.heap.size x4 x5 := by rw [e5]; exact (Below.refl _ _).alloc (Nat.le_refl _) _
  have X5 : Bk x5 x4.heap.size [.bool up, .slice (some ⟨B2, 0, none⟩) n n, .slice (some ⟨G2, 0, none⟩) g g] := by rw [e5]; exact bk_new x4 35 [.bool up, .slice (some ⟨B2, 0, none⟩) n n, .slice (some ⟨G2, 0, none⟩) g g]
  clear e5
  clear yM0 yM1 hlM yA0 yA1 yA2 hlA
  have B7 : Hid (Below w.heap.size w x5) := bthen B6.out hb5
  have M7 : Hid (Bk x5 w.heap.size [.int .i64 c, .int .i64 d]) := M6.out.below hb5
  have A7 : Hid (Bk x5 (w.heap.size + 1) [.bool up, .slice aH n cH, .slice aG g cG]) := A6.out.below hb5
  clear B6 M6 A6
  have o5 := o2.below l2 hb5
  have k5 := P7.own_below k2 m2 hb5
  have l5 : B2 < x5.heap.size := Nat.lt_of_lt_of_le l2 hb5.size
  have m5 : G2 < x5.heap.size := Nat.lt_of_lt_of_le m2 hb5.size
  clear o2 k2 l2 m2 p2 q2 hb5
  generalize x4.heap.size = gx at *
  have X8 : Hid (Bk x5 gx [.bool up, .slice (some ⟨B2, 0, none⟩) n n, .slice (some ⟨G2, 0, none⟩) g g]) := X5
  clear X5
  have H9 : Hid (HOwn x5 B2 n F n) := o5
  have K10 : Hid (P7.OwnK x5 G2 g Z g) := k5
  have LB11 : Hid (B2 < x5.heap.size) := l5
  have LG12 : Hid (G2 < x5.heap.size) := m5
  clear o5 k5 l5 m5
  have yM0 : x5.cell? ⟨w.heap.size, 0, none⟩ = some (.int .i64 c) := (M7.out.2 0 (by simp)).1
  have yM1 : x5.cell? ⟨w.heap.size, 1, none⟩ = some (.int .i64 d) := (M7.out.2 1 (by simp)).1
  have hlM : w.heap.size < x5.heap.size := M7.out.1
  have yA0 : x5.cell? ⟨(w.heap.size + 1), 0, none⟩ = some (.bool up) := (A7.out.2 0 (by simp)).1
  have yA1 : x5.cell? ⟨(w.heap.size + 1), 1, none⟩ = some (.slice aH n cH) := (A7.out.2 1 (by simp)).1
  have yA2 : x5.cell? ⟨(w.heap.size + 1), 2, none⟩ = some (.slice aG g cG) := (A7.out.2 2 (by simp)).1
  have hlA : (w.heap.size + 1) < x5.heap.size := A7.out.1
  have yX0 : x5.cell? ⟨gx, 0, none⟩ = some (.bool up) := (X8.out.2 0 (by simp)).1
  have yX1 : x5.cell? ⟨gx, 1, none⟩ = some (.slice (some ⟨B2, 0, none⟩) n n) := (X8.out.2 1 (by simp)).1
  have yX2 : x5.cell? ⟨gx, 2, none⟩ = some (.slice (some ⟨G2, 0, none⟩) g g) := (X8.out.2 2 (by simp)).1
  have hlX : gx < x5.heap.size := X8.out.1
  refine wp_region_held_drew (S := fun w' => (∀ b o, b < x5.heap.size → w'.cell? ⟨b, o, none⟩ = x5.cell? ⟨b, o, none⟩) ∧ x5.heap.size ≤ w'.heap.size) (by kernel_rfl) ⟨fun _ _ _ => rfl, Nat.le_refl _⟩ ?_
  intro hHeld
  refine wpAnyH_take (i := 0) (v := .agg #[.int .i64 c, .int .i64 d]) rfl (by kernel_rfl) (by kernel_rfl) (by kernel_rfl) (fun _ _ _ h => h) (Or.inl ⟨by rfl, ?_⟩) (by assumption) ?_
  · intro wx hSw; go_simp
  try simp only [Act.put, List.setIfInBounds_toArray, List.set_cons_zero, List.set_cons_succ, List.getElem_toArray, List.getElem_cons_zero]
  refine wpAnyH_take (i := 2) (v := .agg #[.bool up, .slice (some ⟨B2, 0, none⟩) n n, .slice (some ⟨G2, 0, none⟩) g g]) rfl (by kernel_rfl) (by kernel_rfl) (by kernel_rfl) (fun _ _ _ h => h) (Or.inl ⟨by rfl, ?_⟩) (by assumption) ?_
  · intro wx hSw; go_simp
  try simp only [Act.put, List.setIfInBounds_toArray, List.set_cons_zero, List.set_cons_succ, List.getElem_toArray, List.getElem_cons_zero, List.getElem_cons_succ]
  refine wpAnyH_ready (rs := [1]) (by kernel_rfl) (by simp) ?_
  refine AllReadyH.cons rfl (fun K hK => ?_) AllReadyH.nil
  go_simp
  go_wp2_with fail
  refine (toMap _ _ _).mono ?_
  rintro e x6 ⟨rfl, hx6⟩
  refine hK.out _ _ (keepS (by assumption) hx6) (fun hNew => ?_)
  clear hK K hHeld
  have hHeld := hNew
  clear hNew
  try simp only [Act.put, List.setIfInBounds_toArray, List.set_cons_zero, List.set_cons_succ, List.getElem_toArray, List.getElem_cons_zero, List.getElem_cons_succ]
  refine wpAnyH_ready (rs := [3]) (by kernel_rfl) (by simp) ?_
  refine AllReadyH.cons rfl (fun K hK => ?_) AllReadyH.nil
  go_simp
  go_wp2_with fail
  refine (srvOk_impl c d up B2 n F (some ⟨G2, 0, none⟩) g g Z hn2 hg2 HS.out _ (Nat.lt_of_lt_of_le LB11.out (Below.size (B := x5.heap.size) (w := x5) (by repeat (first | exact Below.refl _ _ | refine bthen ?_ (by assumption) | apply Below.drew)))) (H9.out.below LB11.out (by repeat (first | exact Below.refl _ _ | refine bthen ?_ (by assumption) | apply Below.drew))) (P7.row_below (P7.row_of_own K10.out LG12.out) (by repeat (first | exact Below.refl _ _ | refine bthen ?_ (by assumption) | apply Below.drew)))).mono ?_
  rintro e x7 ⟨rfl, hx7⟩
  refine hK.out _ _ (keepS (by assumption) hx7) (fun hNew => ?_)
  clear hK K hHeld
  have hHeld := hNew
  clear hNew
  try simp only [Act.put, List.setIfInBounds_toArray, List.set_cons_zero, List.set_cons_succ, List.getElem_toArray, List.getElem_cons_zero, List.getElem_cons_succ]
  refine wpAnyH_take (i := 4) (v := .bool (srvB c d up n F g Z)) rfl (by kernel_rfl) (by kernel_rfl) (by kernel_rfl) (fun _ _ _ h => h) (Or.inl ⟨by rfl, ?_⟩) (by assumption) ?_
  · intro wx hSw; go_simp
  try simp only [Act.put, List.setIfInBounds_toArray, List.set_cons_zero, List.set_cons_succ, List.getElem_toArray, List.getElem_cons_zero, List.getElem_cons_succ]
  refine wpAnyH_done (by kernel_rfl) ?_ _
  clear hHeld
  have hz2 : Below x5.heap.size x5 x7 := by repeat (first | exact Below.refl _ _ | refine bthen ?_ (by assumption) | apply Below.drew)
  clear yM0 yM1 hlM yA0 yA1 yA2 hlA yX0 yX1 yX2 hlX
  have B13 : Hid (Below w.heap.size w x7) := bthen B7.out hz2
  have M13 : Hid (Bk x7 w.heap.size [.int .i64 c, .int .i64 d]) := M7.out.below hz2
  have A13 : Hid (Bk x7 (w.heap.size + 1) [.bool up, .slice aH n cH, .slice aG g cG]) := A7.out.below hz2
  have X13 : Hid (Bk x7 gx [.bool up, .slice (some ⟨B2, 0, none⟩) n n, .slice (some ⟨G2, 0, none⟩) g g]) := X8.out.below hz2
  have H13 : Hid (HOwn x7 B2 n F n) := H9.out.below LB11.out hz2
  have K13 : Hid (P7.OwnK x7 G2 g Z g) := P7.own_below K10.out LG12.out hz2
  have LB13 : Hid (B2 < x7.heap.size) := Nat.lt_of_lt_of_le LB11.out hz2.size
  have LG13 : Hid (G2 < x7.heap.size) := Nat.lt_of_lt_of_le LG12.out hz2.size
  clear B7 M7 A7 X8 H9 K10 LB11 LG12
  clear hz2 hx6 hx7
  have yM0 : x7.cell? ⟨w.heap.size, 0, none⟩ = some (.int .i64 c) := (M13.out.2 0 (by simp)).1
  have yM1 : x7.cell? ⟨w.heap.size, 1, none⟩ = some (.int .i64 d) := (M13.out.2 1 (by simp)).1
  have hlM : w.heap.size < x7.heap.size := M13.out.1
  have yA0 : x7.cell? ⟨(w.heap.size + 1), 0, none⟩ = some (.bool up) := (A13.out.2 0 (by simp)).1
  have yA1 : x7.cell? ⟨(w.heap.size + 1), 1, none⟩ = some (.slice aH n cH) := (A13.out.2 1 (by simp)).1
  have yA2 : x7.cell? ⟨(w.heap.size + 1), 2, none⟩ = some (.slice aG g cG) := (A13.out.2 2 (by simp)).1
  have hlA : (w.heap.size + 1) < x7.heap.size := A13.out.1
  have yX0 : x7.cell? ⟨gx, 0, none⟩ = some (.bool up) := (X13.out.2 0 (by simp)).1
  have yX1 : x7.cell? ⟨gx, 1, none⟩ = some (.slice (some ⟨B2, 0, none⟩) n n) := (X13.out.2 1 (by simp)).1
  have yX2 : x7.cell? ⟨gx, 2, none⟩ = some (.slice (some ⟨G2, 0, none⟩) g g) := (X13.out.2 2 (by simp)).1
  have hlX : gx < x7.heap.size := X13.out.1
  go_wp2
  refine wp_region_held_drew (S := fun w' => (∀ b o, b < x7.heap.size → w'.cell? ⟨b, o, none⟩ = x7.cell? ⟨b, o, none⟩) ∧ x7.heap.size ≤ w'.heap.size) (by kernel_rfl) ⟨fun _ _ _ => rfl, Nat.le_refl _⟩ ?_
  intro hHeld
  refine wpAnyH_take (i := 0) (v := .agg #[.bool up, .slice (some ⟨B2, 0, none⟩) n n, .slice (some ⟨G2, 0, none⟩) g g]) rfl (by kernel_rfl) (by kernel_rfl) (by kernel_rfl) (fun _ _ _ h => h) (Or.inl ⟨by rfl, ?_⟩) (by assumption) ?_
  · intro wx hSw; go_simp
  try simp only [Act.put, List.setIfInBounds_toArray, List.set_cons_zero, List.set_cons_succ, List.getElem_toArray, List.getElem_cons_zero]
  refine wpAnyH_take (i := 1) (v := .agg #[.bool up, .slice aH n cH, .slice aG g cG]) rfl (by kernel_rfl) (by kernel_rfl) (by kernel_rfl) (fun _ _ _ h => h) (Or.inl ⟨by rfl, ?_⟩) (by assumption) ?_
  · intro wx hSw; go_simp
  try simp only [Act.put, List.setIfInBounds_toArray, List.set_cons_zero, List.set_cons_succ, List.getElem_toArray, List.getElem_cons_zero, List.getElem_cons_succ]
  refine wpAnyH_ready (rs := [2]) (by kernel_rfl) (by simp) ?_
  refine AllReadyH.cons rfl (fun K hK => ?_) AllReadyH.nil
  go_simp
  go_wp2_with fail
  refine (toSrv up aH n cH F aG g cG Z hn2 hg2 HS.out _ (HH.out.below (bthen B13.out (by repeat (first | exact Below.refl _ _ | refine bthen ?_ (by assumption) | apply Below.drew)))) (P7.row_below HG.out (bthen B13.out (by repeat (first | exact Below.refl _ _ | refine bthen ?_ (by assumption) | apply Below.drew))))).mono ?_
  rintro e x8 ⟨⟨B3, G3, rfl, o3, k3, l3, m3, p3, q3⟩, hx8⟩
  refine hK.out _ _ (keepS (by assumption) hx8) (fun hNew => ?_)
  clear hK K hHeld
  have hHeld := hNew
  clear hNew
  try simp only [Act.put, List.setIfInBounds_toArray, List.set_cons_zero, List.set_cons_succ, List.getElem_toArray, List.getElem_cons_zero, List.getElem_cons_succ]
  refine wpAnyH_ready (rs := [3]) (by kernel_rfl) (by simp) ?_
  refine AllReadyH.cons rfl (fun K hK => ?_) AllReadyH.nil
  go_simp
  go_wp2_with fail
  refine (eqSrv up (some ⟨B2, 0, none⟩) n (some ⟨B3, 0, none⟩) n n F (some ⟨G2, 0, none⟩) g (some ⟨G3, 0, none⟩) g g Z (by omega) (by omega) (fun k hk => shortUp (HS.out k hk)) _ ((H13.out.row LB13.out).below (by repeat (first | exact Below.refl _ _ | refine bthen ?_ (by assumption) | apply Below.drew))) (o3.row l3) (P7.row_below (P7.row_of_own K13.out LG13.out) (by repeat (first | exact Below.refl _ _ | refine bthen ?_ (by assumption) | apply Below.drew))) (P7.row_of_own k3 m3)).mono ?_
  rintro e x9 ⟨rfl, hx9⟩
  refine hK.out _ _ (keepS (by assumption) hx9) (fun hNew => ?_)
  clear hK K hHeld
  have hHeld := hNew
  clear hNew
  try simp only [Act.put, List.setIfInBounds_toArray, List.set_cons_zero, List.set_cons_succ, List.getElem_toArray, List.getElem_cons_zero, List.getElem_cons_succ]
  refine wpAnyH_take (i := 4) (v := .bool false) rfl (by kernel_rfl) (by kernel_rfl) (by kernel_rfl) (fun _ _ _ h => h) (Or.inl ⟨by rfl, ?_⟩) (by assumption) ?_
  · intro wx hSw; go_simp
  try simp only [Act.put, List.setIfInBounds_toArray, List.set_cons_zero, List.set_cons_succ, List.getElem_toArray, List.getElem_cons_zero, List.getElem_cons_succ]
  refine wpAnyH_done (by kernel_rfl) ?_ _
  clear hHeld
  have hz3 : Below x7.heap.size x7 x9 := by repeat (first | exact Below.refl _ _ | refine bthen ?_ (by assumption) | apply Below.drew)
  clear yM0 yM1 hlM yA0 yA1 yA2 hlA yX0 yX1 yX2 hlX
  have B14 : Hid (Below w.heap.size w x9) := bthen B13.out hz3
  have M14 : Hid (Bk x9 w.heap.size [.int .i64 c, .int .i64 d]) := M13.out.below hz3
  have A14 : Hid (Bk x9 (w.heap.size + 1) [.bool up, .slice aH n cH, .slice aG g cG]) := A13.out.below hz3
  have X14 : Hid (Bk x9 gx [.bool up, .slice (some ⟨B2, 0, none⟩) n n, .slice (some ⟨G2, 0, none⟩) g g]) := X13.out.below hz3
  have H14 : Hid (HOwn x9 B2 n F n) := H13.out.below LB13.out hz3
  have K14 : Hid (P7.OwnK x9 G2 g Z g) := P7.own_below K13.out LG13.out hz3
  have LB14 : Hid (B2 < x9.heap.size) := Nat.lt_of_lt_of_le LB13.out hz3.size
  have LG14 : Hid (G2 < x9.heap.size) := Nat.lt_of_lt_of_le LG13.out hz3.size
  clear B13 M13 A13 X13 H13 K13 LB13 LG13
  clear hz3
  go_wp2
  go_ret
  exact ⟨rfl, B14.out⟩
end Go.Proofs.Ytlbjgecjonegkaa
