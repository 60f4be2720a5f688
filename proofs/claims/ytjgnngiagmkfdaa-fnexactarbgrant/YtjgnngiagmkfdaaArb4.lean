/- The walk of the law FnExactArbOk: it answers true; conditions: the table lies in memory. -/
import Derived.Test.YtjgnngiagmkfdaaArb3
namespace Go.Proofs.Ytjgnngiagmkfdaa
open Go.RowKit Go.Deep
set_option linter.unusedVariables false

theorem toMap (c d : Int) (w : World) :
    Calls Try.prog 8 #[.agg #[.int .i64 c, .int .i64 d]] w fun e w' => e = .returned (.agg #[.int .i64 c, .int .i64 d]) ∧ Below w.heap.size w w' := by
  go_enter Try.func8, Try.ntmps8
  go_wp2
  exact bodyPost_ret (v := .agg #[.int .i64 c, .int .i64 d]) (by simp [results, Try.results8, go_sem]) rfl ⟨rfl, (((Below.refl _ _).alloc (by simp) _).alloc (by simp) _).alloc (by simp; omega) _⟩

set_option maxHeartbeats 4000000 in
theorem law_arbOk (c d : Int) (v : Value) (T : TV) (n : Int) (hs : T.short maxLen) (w : World) (h : TabAt w v T) :
    Calls Try.prog 4 #[.agg #[.int .i64 c, .int .i64 d], v, .int .i64 n] w fun e w' => e = .returned (.bool true) ∧ Below w.heap.size w w' := by
  obtain ⟨aS, kS, aA, kA, rfl, rS, rA⟩ := h
  have H0 : Hid (TabAt w (.agg #[.slice aS T.nS kS, .slice aA T.nA kA]) T) := ⟨aS, kS, aA, kA, rfl, rS, rA⟩
  have HS0 : Hid (T.short maxLen) := hs
  clear rS rA hs
  go_enter Try.func4, Try.ntmps4
  go_wp2_with fail
  obtain ⟨w0, e0⟩ : ∃ w0, w0 = (w.alloc (.cells #[.int .i64 c, .int .i64 d] 23)).alloc (.cells #[.slice aS T.nS kS, .slice aA T.nA kA] 33) := ⟨_, rfl⟩
  have B1 : Hid (Below w.heap.size w w0) := by rw [e0]; exact ((Below.refl _ _).alloc (by simp) _).alloc (by simp) _
  have M2 : Hid (Bk w0 w.heap.size [.int .i64 c, .int .i64 d]) := by rw [e0]; exact (bk_new w 23 [.int .i64 c, .int .i64 d]).below ((Below.refl _ _).alloc (Nat.le_refl _) _)
  have A3 : Hid (Bk w0 (w.heap.size + 1) [.slice aS T.nS kS, .slice aA T.nA kA]) := by rw [e0]; have := bk_new (w.alloc (.cells #[.int .i64 c, .int .i64 d] 23)) 33 [.slice aS T.nS kS, .slice aA T.nA kA]; rwa [show (w.alloc (.cells #[.int .i64 c, .int .i64 d] 23)).heap.size = w.heap.size + 1 by simp] at this
  rw [← e0]
  clear e0
  refine (szTab _ T HS0.out _ (H0.out.below B1.out)).mono ?_
  rintro e w1 ⟨⟨r, rfl, hr⟩, hb1⟩
  have B4 : Hid (Below w.heap.size w w1) := bthen B1.out hb1
  have M4 : Hid (Bk w1 w.heap.size [.int .i64 c, .int .i64 d]) := M2.out.below hb1
  have A4 : Hid (Bk w1 (w.heap.size + 1) [.slice aS T.nS kS, .slice aA T.nA kA]) := A3.out.below hb1
  clear B1 M2 A3
  clear hb1
  rcases hr with hr | ⟨hr, hV⟩
  · go_wp2
    go_ret
    exact ⟨rfl, B4.out⟩
  have hr2 : ¬ r < 0 := by omega
  have HV : Hid (T.short 1048576) := hV
  clear hV
  have yM0 : w1.cell? ⟨w.heap.size, 0, none⟩ = some (.int .i64 c) := (M4.out.2 0 (by simp)).1
  have yM1 : w1.cell? ⟨w.heap.size, 1, none⟩ = some (.int .i64 d) := (M4.out.2 1 (by simp)).1
  have hlM : w.heap.size < w1.heap.size := M4.out.1
  have yA0 : w1.cell? ⟨(w.heap.size + 1), 0, none⟩ = some (.slice aS T.nS kS) := (A4.out.2 0 (by simp)).1
  have yA1 : w1.cell? ⟨(w.heap.size + 1), 1, none⟩ = some (.slice aA T.nA kA) := (A4.out.2 1 (by simp)).1
  have hlA : (w.heap.size + 1) < w1.heap.size := A4.out.1
  go_wp2
  refine wp_region_held_drew (S := fun w' => (∀ b o, b < w1.heap.size → w'.cell? ⟨b, o, none⟩ = w1.cell? ⟨b, o, none⟩) ∧ w1.heap.size ≤ w'.heap.size) (by kernel_rfl) ⟨fun _ _ _ => rfl, Nat.le_refl _⟩ ?_
  intro hHeld
  refine wpAnyH_take (i := 0) (v := .agg #[.int .i64 c, .int .i64 d]) rfl (by kernel_rfl) (by kernel_rfl) (by kernel_rfl) (fun _ _ _ h => h) (Or.inl ⟨by rfl, ?_⟩) (by assumption) ?_
  · intro wx hSw; go_simp
  try simp only [Act.put, List.setIfInBounds_toArray, List.set_cons_zero, List.set_cons_succ, List.getElem_toArray, List.getElem_cons_zero]
  refine wpAnyH_take (i := 2) (v := .agg #[.slice aS T.nS kS, .slice aA T.nA kA]) rfl (by kernel_rfl) (by kernel_rfl) (by kernel_rfl) (fun _ _ _ h => h) (Or.inl ⟨by rfl, ?_⟩) (by assumption) ?_
  · intro wx hSw; go_simp
  try simp only [Act.put, List.setIfInBounds_toArray, List.set_cons_zero, List.set_cons_succ, List.getElem_toArray, List.getElem_cons_zero, List.getElem_cons_succ]
  refine wpAnyH_take (i := 4) (v := .int .i64 n) rfl (by kernel_rfl) (by kernel_rfl) (by kernel_rfl) (fun _ _ _ h => h) (Or.inl ⟨by rfl, ?_⟩) (by assumption) ?_
  · intro wx hSw; go_simp
  try simp only [Act.put, List.setIfInBounds_toArray, List.set_cons_zero, List.set_cons_succ, List.getElem_toArray, List.getElem_cons_zero, List.getElem_cons_succ]
  refine wpAnyH_ready (rs := [1]) (by kernel_rfl) (by simp) ?_
  refine AllReadyH.cons rfl (fun K hK => ?_) AllReadyH.nil
  go_simp
  go_wp2_with fail
  refine (toMap _ _ _).mono ?_
  rintro e x1 ⟨rfl, hx1⟩
  refine hK.out _ _ (keepS (by assumption) hx1) (fun hNew => ?_)
  clear hK K hHeld
  have hHeld := hNew
  clear hNew
  try simp only [Act.put, List.setIfInBounds_toArray, List.set_cons_zero, List.set_cons_succ, List.getElem_toArray, List.getElem_cons_zero, List.getElem_cons_succ]
  refine wpAnyH_ready (rs := [3]) (by kernel_rfl) (by simp) ?_
  refine AllReadyH.cons rfl (fun K hK => ?_) AllReadyH.nil
  go_simp
  go_wp2_with fail
  refine (toTab _ T HV.out _ (H0.out.below (bthen B4.out (by repeat (first | exact Below.refl _ _ | refine bthen ?_ (by assumption) | apply Below.drew))))).mono ?_
  rintro e x2 ⟨⟨v1, rfl, hC1⟩, hx2⟩
  refine hK.out _ _ (keepS (by assumption) hx2) (fun hNew => ?_)
  clear hK K hHeld
  have hHeld := hNew
  clear hNew
  try simp only [Act.put, List.setIfInBounds_toArray, List.set_cons_zero, List.set_cons_succ, List.getElem_toArray, List.getElem_cons_zero, List.getElem_cons_succ]
  refine wpAnyH_ready (rs := [5]) (by kernel_rfl) (by simp) ?_
  refine AllReadyH.cons rfl (fun K hK => ?_) AllReadyH.nil
  go_simp
  go_wp2_with fail
  refine (arbOk_spec c d v1 T n HV.out _ hC1.at).mono ?_
  rintro e x3 ⟨rfl, hx3⟩
  refine hK.out _ _ (keepS (by assumption) hx3) (fun hNew => ?_)
  clear hK K hHeld
  have hHeld := hNew
  clear hNew
  try simp only [Act.put, List.setIfInBounds_toArray, List.set_cons_zero, List.set_cons_succ, List.getElem_toArray, List.getElem_cons_zero, List.getElem_cons_succ]
  refine wpAnyH_take (i := 6) (v := .bool (tabB c d T n)) rfl (by kernel_rfl) (by kernel_rfl) (by kernel_rfl) (fun _ _ _ h => h) (Or.inl ⟨by rfl, ?_⟩) (by assumption) ?_
  · intro wx hSw; go_simp
  try simp only [Act.put, List.setIfInBounds_toArray, List.set_cons_zero, List.set_cons_succ, List.getElem_toArray, List.getElem_cons_zero, List.getElem_cons_succ]
  refine wpAnyH_done (by kernel_rfl) ?_ _
  clear hHeld
  have hb3 : Below w1.heap.size w1 x3 := by repeat (first | exact Below.refl _ _ | refine bthen ?_ (by assumption) | apply Below.drew)
  generalize x3 = w3 at *
  clear yM0 yM1 hlM yA0 yA1 hlA
  have B5 : Hid (Below w.heap.size w w3) := bthen B4.out hb3
  have M5 : Hid (Bk w3 w.heap.size [.int .i64 c, .int .i64 d]) := M4.out.below hb3
  have A5 : Hid (Bk w3 (w.heap.size + 1) [.slice aS T.nS kS, .slice aA T.nA kA]) := A4.out.below hb3
  clear B4 M4 A4
  clear hx1 hx2 hx3 hC1 hb3
  have yM0 : w3.cell? ⟨w.heap.size, 0, none⟩ = some (.int .i64 c) := (M5.out.2 0 (by simp)).1
  have yM1 : w3.cell? ⟨w.heap.size, 1, none⟩ = some (.int .i64 d) := (M5.out.2 1 (by simp)).1
  have hlM : w.heap.size < w3.heap.size := M5.out.1
  have yA0 : w3.cell? ⟨(w.heap.size + 1), 0, none⟩ = some (.slice aS T.nS kS) := (A5.out.2 0 (by simp)).1
  have yA1 : w3.cell? ⟨(w.heap.size + 1), 1, none⟩ = some (.slice aA T.nA kA) := (A5.out.2 1 (by simp)).1
  have hlA : (w.heap.size + 1) < w3.heap.size := A5.out.1
  go_wp2_with fail
  refine (toTab _ T HV.out _ (H0.out.below (bthen B5.out (by repeat (first | exact Below.refl _ _ | refine bthen ?_ (by assumption) | apply Below.drew))))).mono ?_
  rintro e w4 ⟨⟨v2, rfl, hC2⟩, hb4⟩
  clear yM0 yM1 hlM yA0 yA1 hlA
  have B6 : Hid (Below w.heap.size w w4) := bthen B5.out hb4
  have M6 : Hid (Bk w4 w.heap.size [.int .i64 c, .int .i64 d]) := M5.out.below hb4
  have A6 : Hid (Bk w4 (w.heap.size + 1) [.slice aS T.nS kS, .slice aA T.nA kA]) := A5.out.below hb4
  clear B5 M5 A5
  clear hb4
  obtain ⟨bS, lS, bA, lA, rfl, sS, sA⟩ := hC2.at
  have C4 : Hid (TabAt w4 (.agg #[.slice bS T.nS lS, .slice bA T.nA lA]) T) := hC2.at
  clear hC2 sS sA
  have yM0 : w4.cell? ⟨w.heap.size, 0, none⟩ = some (.int .i64 c) := (M6.out.2 0 (by simp)).1
  have yM1 : w4.cell? ⟨w.heap.size, 1, none⟩ = some (.int .i64 d) := (M6.out.2 1 (by simp)).1
  have hlM : w.heap.size < w4.heap.size := M6.out.1
  have yA0 : w4.cell? ⟨(w.heap.size + 1), 0, none⟩ = some (.slice aS T.nS kS) := (A6.out.2 0 (by simp)).1
  have yA1 : w4.cell? ⟨(w.heap.size + 1), 1, none⟩ = some (.slice aA T.nA kA) := (A6.out.2 1 (by simp)).1
  have hlA : (w.heap.size + 1) < w4.heap.size := A6.out.1
  go_wp2_with fail
  obtain ⟨w5, e5⟩ : ∃ w5, w5 = w4.alloc (.cells #[.slice bS T.nS lS, .slice bA T.nA lA] 26) := ⟨_, rfl⟩
  rw [← e5]
  have hb5 : Below w4.heap.size w4 w5 := by rw [e5]; exact (Below.refl _ _).alloc (Nat.le_refl _) _
  have X5 : Hid (Bk w5 w4.heap.size [.slice bS T.nS lS, .slice bA T.nA lA]) := by rw [e5]; exact bk_new w4 26 [.slice bS T.nS lS, .slice bA T.nA lA]
  clear e5
  clear yM0 yM1 hlM yA0 yA1 hlA
  have B7 : Hid (Below w.heap.size w w5) := bthen B6.out hb5
  have M7 : Hid (Bk w5 w.heap.size [.int .i64 c, .int .i64 d]) := M6.out.below hb5
  have A7 : Hid (Bk w5 (w.heap.size + 1) [.slice aS T.nS kS, .slice aA T.nA kA]) := A6.out.below hb5
  clear B6 M6 A6
  have C8 : Hid (TabAt w5 (.agg #[.slice bS T.nS lS, .slice bA T.nA lA]) T) := C4.out.below hb5
  clear C4 hb5
  generalize w4.heap.size = gx at *
  have X9 : Hid (Bk w5 gx [.slice bS T.nS lS, .slice bA T.nA lA]) := X5.out
  clear X5
  have yM0 : w5.cell? ⟨w.heap.size, 0, none⟩ = some (.int .i64 c) := (M7.out.2 0 (by simp)).1
  have yM1 : w5.cell? ⟨w.heap.size, 1, none⟩ = some (.int .i64 d) := (M7.out.2 1 (by simp)).1
  have hlM : w.heap.size < w5.heap.size := M7.out.1
  have yA0 : w5.cell? ⟨(w.heap.size + 1), 0, none⟩ = some (.slice aS T.nS kS) := (A7.out.2 0 (by simp)).1
  have yA1 : w5.cell? ⟨(w.heap.size + 1), 1, none⟩ = some (.slice aA T.nA kA) := (A7.out.2 1 (by simp)).1
  have hlA : (w.heap.size + 1) < w5.heap.size := A7.out.1
  have yX0 : w5.cell? ⟨gx, 0, none⟩ = some (.slice bS T.nS lS) := (X9.out.2 0 (by simp)).1
  have yX1 : w5.cell? ⟨gx, 1, none⟩ = some (.slice bA T.nA lA) := (X9.out.2 1 (by simp)).1
  have hlX : gx < w5.heap.size := X9.out.1
  refine wp_region_held_drew (S := fun w' => (∀ b o, b < w5.heap.size → w'.cell? ⟨b, o, none⟩ = w5.cell? ⟨b, o, none⟩) ∧ w5.heap.size ≤ w'.heap.size) (by kernel_rfl) ⟨fun _ _ _ => rfl, Nat.le_refl _⟩ ?_
  intro hHeld
  refine wpAnyH_take (i := 0) (v := .agg #[.int .i64 c, .int .i64 d]) rfl (by kernel_rfl) (by kernel_rfl) (by kernel_rfl) (fun _ _ _ h => h) (Or.inl ⟨by rfl, ?_⟩) (by assumption) ?_
  · intro wx hSw; go_simp
  try simp only [Act.put, List.setIfInBounds_toArray, List.set_cons_zero, List.set_cons_succ, List.getElem_toArray, List.getElem_cons_zero]
  refine wpAnyH_take (i := 2) (v := .agg #[.slice bS T.nS lS, .slice bA T.nA lA]) rfl (by kernel_rfl) (by kernel_rfl) (by kernel_rfl) (fun _ _ _ h => h) (Or.inl ⟨by rfl, ?_⟩) (by assumption) ?_
  · intro wx hSw; go_simp
  try simp only [Act.put, List.setIfInBounds_toArray, List.set_cons_zero, List.set_cons_succ, List.getElem_toArray, List.getElem_cons_zero, List.getElem_cons_succ]
  refine wpAnyH_take (i := 3) (v := .int .i64 n) rfl (by kernel_rfl) (by kernel_rfl) (by kernel_rfl) (fun _ _ _ h => h) (Or.inl ⟨by rfl, ?_⟩) (by assumption) ?_
  · intro wx hSw; go_simp
  try simp only [Act.put, List.setIfInBounds_toArray, List.set_cons_zero, List.set_cons_succ, List.getElem_toArray, List.getElem_cons_zero, List.getElem_cons_succ]
  refine wpAnyH_ready (rs := [1]) (by kernel_rfl) (by simp) ?_
  refine AllReadyH.cons rfl (fun K hK => ?_) AllReadyH.nil
  go_simp
  go_wp2_with fail
  refine (toMap _ _ _).mono ?_
  rintro e y1 ⟨rfl, hy1⟩
  refine hK.out _ _ (keepS (by assumption) hy1) (fun hNew => ?_)
  clear hK K hHeld
  have hHeld := hNew
  clear hNew
  try simp only [Act.put, List.setIfInBounds_toArray, List.set_cons_zero, List.set_cons_succ, List.getElem_toArray, List.getElem_cons_zero, List.getElem_cons_succ]
  refine wpAnyH_ready (rs := [4]) (by kernel_rfl) (by simp) ?_
  refine AllReadyH.cons rfl (fun K hK => ?_) AllReadyH.nil
  go_simp
  go_wp2_with fail
  refine (arbOk_impl c d _ T n HV.out _ (C8.out.below (by repeat (first | exact Below.refl _ _ | refine bthen ?_ (by assumption) | apply Below.drew)))).mono ?_
  rintro e y2 ⟨rfl, hy2⟩
  refine hK.out _ _ (keepS (by assumption) hy2) (fun hNew => ?_)
  clear hK K hHeld
  have hHeld := hNew
  clear hNew
  try simp only [Act.put, List.setIfInBounds_toArray, List.set_cons_zero, List.set_cons_succ, List.getElem_toArray, List.getElem_cons_zero, List.getElem_cons_succ]
  refine wpAnyH_take (i := 5) (v := .bool (tabB c d T n)) rfl (by kernel_rfl) (by kernel_rfl) (by kernel_rfl) (fun _ _ _ h => h) (Or.inl ⟨by rfl, ?_⟩) (by assumption) ?_
  · intro wx hSw; go_simp
  try simp only [Act.put, List.setIfInBounds_toArray, List.set_cons_zero, List.set_cons_succ, List.getElem_toArray, List.getElem_cons_zero, List.getElem_cons_succ]
  refine wpAnyH_done (by kernel_rfl) ?_ _
  clear hHeld
  have hb6 : Below w5.heap.size w5 y2 := by repeat (first | exact Below.refl _ _ | refine bthen ?_ (by assumption) | apply Below.drew)
  generalize y2 = w6 at *
  clear yM0 yM1 hlM yA0 yA1 hlA yX0 yX1 hlX
  have B10 : Hid (Below w.heap.size w w6) := bthen B7.out hb6
  have M10 : Hid (Bk w6 w.heap.size [.int .i64 c, .int .i64 d]) := M7.out.below hb6
  have A10 : Hid (Bk w6 (w.heap.size + 1) [.slice aS T.nS kS, .slice aA T.nA kA]) := A7.out.below hb6
  have C10 : Hid (TabAt w6 (.agg #[.slice bS T.nS lS, .slice bA T.nA lA]) T) := C8.out.below hb6
  have X10 : Hid (Bk w6 gx [.slice bS T.nS lS, .slice bA T.nA lA]) := X9.out.below hb6
  clear B7 M7 A7 C8 X9
  clear hy1 hy2 hb6
  have yM0 : w6.cell? ⟨w.heap.size, 0, none⟩ = some (.int .i64 c) := (M10.out.2 0 (by simp)).1
  have yM1 : w6.cell? ⟨w.heap.size, 1, none⟩ = some (.int .i64 d) := (M10.out.2 1 (by simp)).1
  have hlM : w.heap.size < w6.heap.size := M10.out.1
  have yA0 : w6.cell? ⟨(w.heap.size + 1), 0, none⟩ = some (.slice aS T.nS kS) := (A10.out.2 0 (by simp)).1
  have yA1 : w6.cell? ⟨(w.heap.size + 1), 1, none⟩ = some (.slice aA T.nA kA) := (A10.out.2 1 (by simp)).1
  have hlA : (w.heap.size + 1) < w6.heap.size := A10.out.1
  have yX0 : w6.cell? ⟨gx, 0, none⟩ = some (.slice bS T.nS lS) := (X10.out.2 0 (by simp)).1
  have yX1 : w6.cell? ⟨gx, 1, none⟩ = some (.slice bA T.nA lA) := (X10.out.2 1 (by simp)).1
  have hlX : gx < w6.heap.size := X10.out.1
  go_wp2
  refine wp_region_held_drew (S := fun w' => (∀ b o, b < w6.heap.size → w'.cell? ⟨b, o, none⟩ = w6.cell? ⟨b, o, none⟩) ∧ w6.heap.size ≤ w'.heap.size) (by kernel_rfl) ⟨fun _ _ _ => rfl, Nat.le_refl _⟩ ?_
  intro hHeld
  refine wpAnyH_take (i := 0) (v := .agg #[.slice bS T.nS lS, .slice bA T.nA lA]) rfl (by kernel_rfl) (by kernel_rfl) (by kernel_rfl) (fun _ _ _ h => h) (Or.inl ⟨by rfl, ?_⟩) (by assumption) ?_
  · intro wx hSw; go_simp
  try simp only [Act.put, List.setIfInBounds_toArray, List.set_cons_zero, List.set_cons_succ, List.getElem_toArray, List.getElem_cons_zero]
  refine wpAnyH_take (i := 1) (v := .agg #[.slice aS T.nS kS, .slice aA T.nA kA]) rfl (by kernel_rfl) (by kernel_rfl) (by kernel_rfl) (fun _ _ _ h => h) (Or.inl ⟨by rfl, ?_⟩) (by assumption) ?_
  · intro wx hSw; go_simp
  try simp only [Act.put, List.setIfInBounds_toArray, List.set_cons_zero, List.set_cons_succ, List.getElem_toArray, List.getElem_cons_zero, List.getElem_cons_succ]
  refine wpAnyH_ready (rs := [2]) (by kernel_rfl) (by simp) ?_
  refine AllReadyH.cons rfl (fun K hK => ?_) AllReadyH.nil
  go_simp
  go_wp2_with fail
  refine (toTab _ T HV.out _ (H0.out.below (bthen B10.out (by repeat (first | exact Below.refl _ _ | refine bthen ?_ (by assumption) | apply Below.drew))))).mono ?_
  rintro e t1 ⟨⟨v3, rfl, hC3⟩, ht1⟩
  refine hK.out _ _ (keepS (by assumption) ht1) (fun hNew => ?_)
  clear hK K hHeld
  have hHeld := hNew
  clear hNew
  try simp only [Act.put, List.setIfInBounds_toArray, List.set_cons_zero, List.set_cons_succ, List.getElem_toArray, List.getElem_cons_zero, List.getElem_cons_succ]
  refine wpAnyH_ready (rs := [3]) (by kernel_rfl) (by simp) ?_
  refine AllReadyH.cons rfl (fun K hK => ?_) AllReadyH.nil
  go_simp
  go_wp2_with fail
  refine (eqTab _ _ T (HV.out.more (by decide)) _ (C10.out.below (by repeat (first | exact Below.refl _ _ | refine bthen ?_ (by assumption) | apply Below.drew))) hC3.at).mono ?_
  rintro e t2 ⟨rfl, ht2⟩
  refine hK.out _ _ (keepS (by assumption) ht2) (fun hNew => ?_)
  clear hK K hHeld
  have hHeld := hNew
  clear hNew
  try simp only [Act.put, List.setIfInBounds_toArray, List.set_cons_zero, List.set_cons_succ, List.getElem_toArray, List.getElem_cons_zero, List.getElem_cons_succ]
  refine wpAnyH_take (i := 4) (v := .bool false) rfl (by kernel_rfl) (by kernel_rfl) (by kernel_rfl) (fun _ _ _ h => h) (Or.inl ⟨by rfl, ?_⟩) (by assumption) ?_
  · intro wx hSw; go_simp
  try simp only [Act.put, List.setIfInBounds_toArray, List.set_cons_zero, List.set_cons_succ, List.getElem_toArray, List.getElem_cons_zero, List.getElem_cons_succ]
  refine wpAnyH_done (by kernel_rfl) ?_ _
  clear hHeld
  go_wp2
  go_ret
  exact ⟨rfl, bthen B10.out (by repeat (first | exact Below.refl _ _ | refine bthen ?_ (by assumption) | apply Below.drew))⟩
end Go.Proofs.Ytjgnngiagmkfdaa
