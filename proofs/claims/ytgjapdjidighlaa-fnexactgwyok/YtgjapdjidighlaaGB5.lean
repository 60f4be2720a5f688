/- The law FnExactGwyOk; conditions: those typed. -/
import Derived.Test.YtgjapdjidighlaaGB3
import Derived.Test.YtgjapdjidighlaaGB4
namespace Go.Proofs.Ytgjapdjidighlaa
open Go.RowKit Go.Deep
set_option linter.unusedVariables false

set_option maxRecDepth 100000 in
set_option maxHeartbeats 4000000 in
theorem law_gwyOk (c d : Int) (a : Option Addr) (n cap : Nat) (Z : Nat → Nat → Int) (hn : n ≤ maxLen) (w : World) (h : P10.RowK w a n Z) :
    Calls Try.prog 4 #[.agg #[.int .i64 c, .int .i64 d], .agg #[.slice a n cap]] w fun e w' => e = .returned (.bool true) ∧ Below w.heap.size w w' := by
  have HR : Hid (P10.RowK w a n Z) := h
  clear h
  have hn' : (n : Int) ≤ 9223372036854775807 := by unfold maxLen at hn; omega
  clear hn
  go_enter Try.func4, Try.ntmps4
  go_wp2_with fail
  obtain ⟨w0, e0⟩ : ∃ w0, w0 = (w.alloc (.cells #[.int .i64 c, .int .i64 d] 23)).alloc (.cells #[.slice a n cap] 41) := ⟨_, rfl⟩
  have B1 : Hid (Below w.heap.size w w0) := by rw [e0]; exact ((Below.refl _ _).alloc (by simp) _).alloc (by simp) _
  have M2 : Hid (Bk w0 w.heap.size [.int .i64 c, .int .i64 d]) := by rw [e0]; exact (bk_new w 23 [.int .i64 c, .int .i64 d]).below ((Below.refl _ _).alloc (Nat.le_refl _) _)
  have A3 : Hid (Bk w0 (w.heap.size + 1) [.slice a n cap]) := by rw [e0]; have := bk_new (w.alloc (.cells #[.int .i64 c, .int .i64 d] 23)) 41 [.slice a n cap]; rwa [show (w.alloc (.cells #[.int .i64 c, .int .i64 d] 23)).heap.size = w.heap.size + 1 by simp] at this
  rw [← e0]
  clear e0
  refine (szBook a n cap hn' _).mono ?_
  rintro e w1 ⟨rfl, hb1⟩
  have B4 : Hid (Below w.heap.size w w1) := bthen B1.out hb1
  have M4 : Hid (Bk w1 w.heap.size [.int .i64 c, .int .i64 d]) := M2.out.below hb1
  have A4 : Hid (Bk w1 (w.heap.size + 1) [.slice a n cap]) := A3.out.below hb1
  clear B1 M2 A3
  clear hb1
  by_cases hle : (n : Int) ≤ 1048576
  rotate_left
  · rw [if_neg hle]
    go_wp2
    go_ret
    exact ⟨rfl, B4.out⟩
  rw [if_pos hle]
  have hn2 : n ≤ 1048576 := by omega
  have hle2 : ¬ 1048576 - (n : Int) < 0 := by omega
  have yM0 : w1.cell? ⟨w.heap.size, 0, none⟩ = some (.int .i64 c) := (M4.out.2 0 (by simp)).1
  have yM1 : w1.cell? ⟨w.heap.size, 1, none⟩ = some (.int .i64 d) := (M4.out.2 1 (by simp)).1
  have hlM : w.heap.size < w1.heap.size := M4.out.1
  have yA0 : w1.cell? ⟨(w.heap.size + 1), 0, none⟩ = some (.slice a n cap) := (A4.out.2 0 (by simp)).1
  have hlA : (w.heap.size + 1) < w1.heap.size := A4.out.1
  go_wp2
  refine wp_region_held_drew (S := fun w' => (∀ b o, b < w1.heap.size → w'.cell? ⟨b, o, none⟩ = w1.cell? ⟨b, o, none⟩) ∧ w1.heap.size ≤ w'.heap.size) (by kernel_rfl) ⟨fun _ _ _ => rfl, Nat.le_refl _⟩ ?_
  intro hHeld
  refine wpAnyH_take (i := 0) (v := .agg #[.int .i64 c, .int .i64 d]) rfl (by kernel_rfl) (by kernel_rfl) (by kernel_rfl) (fun _ _ _ h => h) (Or.inl ⟨by rfl, ?_⟩) (by assumption) ?_
  · intro wx hSw; go_simp
  try simp only [Act.put, List.setIfInBounds_toArray, List.set_cons_zero, List.set_cons_succ, List.getElem_toArray, List.getElem_cons_zero]
  refine wpAnyH_take (i := 2) (v := .agg #[.slice a n cap]) rfl (by kernel_rfl) (by kernel_rfl) (by kernel_rfl) (fun _ _ _ h => h) (Or.inl ⟨by rfl, ?_⟩) (by assumption) ?_
  · intro wx hSw; go_simp
  try simp only [Act.put, List.setIfInBounds_toArray, List.set_cons_zero, List.set_cons_succ, List.getElem_toArray, List.getElem_cons_zero, List.getElem_cons_succ]
  refine wpAnyH_ready (rs := [1]) (by kernel_rfl) (by simp) ?_
  refine AllReadyH.cons rfl (fun K hK => ?_) AllReadyH.nil
  go_simp
  go_wp2_with fail
  refine (toMap _ _ _).mono ?_
  rintro e x1 ⟨rfl, hx1⟩
  refine hK.out _ _ (keepS (by assumption) hx1) (fun hNew => ?_)
  clear hK K hHeld
  have hHeld := hNew
  clear hNew
  try simp only [Act.put, List.setIfInBounds_toArray, List.set_cons_zero, List.set_cons_succ, List.getElem_toArray, List.getElem_cons_zero, List.getElem_cons_succ]
  refine wpAnyH_ready (rs := [3]) (by kernel_rfl) (by simp) ?_
  refine AllReadyH.cons rfl (fun K hK => ?_) AllReadyH.nil
  go_simp
  go_wp2_with fail
  refine (toBook a n cap Z hn2 _ (P10.row_below HR.out (bthen B4.out (by repeat (first | exact Below.refl _ _ | refine bthen ?_ (by assumption) | apply Below.drew))))).mono ?_
  rintro e x2 ⟨⟨B1, rfl, o1, l1, p1⟩, hx2⟩
  refine hK.out _ _ (keepS (by assumption) hx2) (fun hNew => ?_)
  clear hK K hHeld
  have hHeld := hNew
  clear hNew
  try simp only [Act.put, List.setIfInBounds_toArray, List.set_cons_zero, List.set_cons_succ, List.getElem_toArray, List.getElem_cons_zero, List.getElem_cons_succ]
  refine wpAnyH_ready (rs := [4]) (by kernel_rfl) (by simp) ?_
  refine AllReadyH.cons rfl (fun K hK => ?_) AllReadyH.nil
  go_simp
  go_wp2_with fail
  refine (book_spec c d (some ⟨B1, 0, none⟩) n n Z hn2 _ (P10.row_of_own o1 l1)).mono ?_
  rintro e x3 ⟨rfl, hx3⟩
  refine hK.out _ _ (keepS (by assumption) hx3) (fun hNew => ?_)
  clear hK K hHeld
  have hHeld := hNew
  clear hNew
  try simp only [Act.put, List.setIfInBounds_toArray, List.set_cons_zero, List.set_cons_succ, List.getElem_toArray, List.getElem_cons_zero, List.getElem_cons_succ]
  refine wpAnyH_take (i := 5) (v := .bool (bookB c d n Z)) rfl (by kernel_rfl) (by kernel_rfl) (by kernel_rfl) (fun _ _ _ h => h) (Or.inl ⟨by rfl, ?_⟩) (by assumption) ?_
  · intro wx hSw; go_simp
  try simp only [Act.put, List.setIfInBounds_toArray, List.set_cons_zero, List.set_cons_succ, List.getElem_toArray, List.getElem_cons_zero, List.getElem_cons_succ]
  refine wpAnyH_done (by kernel_rfl) ?_ _
  clear hHeld
  have hz1 : Below w1.heap.size w1 x3 := by repeat (first | exact Below.refl _ _ | refine bthen ?_ (by assumption) | apply Below.drew)
  clear yM0 yM1 hlM yA0 hlA
  have B5 : Hid (Below w.heap.size w x3) := bthen B4.out hz1
  have M5 : Hid (Bk x3 w.heap.size [.int .i64 c, .int .i64 d]) := M4.out.below hz1
  have A5 : Hid (Bk x3 (w.heap.size + 1) [.slice a n cap]) := A4.out.below hz1
  clear B4 M4 A4
  clear hz1 hx1 hx2 hx3 o1 l1 p1
  have yM0 : x3.cell? ⟨w.heap.size, 0, none⟩ = some (.int .i64 c) := (M5.out.2 0 (by simp)).1
  have yM1 : x3.cell? ⟨w.heap.size, 1, none⟩ = some (.int .i64 d) := (M5.out.2 1 (by simp)).1
  have hlM : w.heap.size < x3.heap.size := M5.out.1
  have yA0 : x3.cell? ⟨(w.heap.size + 1), 0, none⟩ = some (.slice a n cap) := (A5.out.2 0 (by simp)).1
  have hlA : (w.heap.size + 1) < x3.heap.size := A5.out.1
  go_wp2_with fail
  refine (toBook a n cap Z hn2 _ (P10.row_below HR.out (bthen B5.out (by repeat (first | exact Below.refl _ _ | refine bthen ?_ (by assumption) | apply Below.drew))))).mono ?_
  rintro e x4 ⟨⟨B2, rfl, o2, l2, p2⟩, hx4⟩
  clear yM0 yM1 hlM yA0 hlA
  have B6 : Hid (Below w.heap.size w x4) := bthen B5.out hx4
  have M6 : Hid (Bk x4 w.heap.size [.int .i64 c, .int .i64 d]) := M5.out.below hx4
  have A6 : Hid (Bk x4 (w.heap.size + 1) [.slice a n cap]) := A5.out.below hx4
  clear B5 M5 A5
  clear hx4
  have yM0 : x4.cell? ⟨w.heap.size, 0, none⟩ = some (.int .i64 c) := (M6.out.2 0 (by simp)).1
  have yM1 : x4.cell? ⟨w.heap.size, 1, none⟩ = some (.int .i64 d) := (M6.out.2 1 (by simp)).1
  have hlM : w.heap.size < x4.heap.size := M6.out.1
  have yA0 : x4.cell? ⟨(w.heap.size + 1), 0, none⟩ = some (.slice a n cap) := (A6.out.2 0 (by simp)).1
  have hlA : (w.heap.size + 1) < x4.heap.size := A6.out.1
  go_wp2
  obtain ⟨x5, e5⟩ : ∃ y, y = x4.alloc (.cells #[.slice (some ⟨B2, 0, none⟩) n n] 28) := ⟨_, rfl⟩
  rw [← e5]
  have hb5 : Below x4.heap.size x4 x5 := by rw [e5]; exact (Below.refl _ _).alloc (Nat.le_refl _) _
  have X5 : Bk x5 x4.heap.size [.slice (some ⟨B2, 0, none⟩) n n] := by rw [e5]; exact bk_new x4 28 [.slice (some ⟨B2, 0, none⟩) n n]
  clear e5
  clear yM0 yM1 hlM yA0 hlA
  have B7 : Hid (Below w.heap.size w x5) := bthen B6.out hb5
  have M7 : Hid (Bk x5 w.heap.size [.int .i64 c, .int .i64 d]) := M6.out.below hb5
  have A7 : Hid (Bk x5 (w.heap.size + 1) [.slice a n cap]) := A6.out.below hb5
  clear B6 M6 A6
  have k5 := P10.row_of_own (P10.own_below o2 l2 hb5) (Nat.lt_of_lt_of_le l2 hb5.size)
  clear o2 l2 p2 hb5
  generalize x4.heap.size = gx at *
  have X8 : Hid (Bk x5 gx [.slice (some ⟨B2, 0, none⟩) n n]) := X5
  clear X5
  have K9 : Hid (P10.RowK x5 (some ⟨B2, 0, none⟩) n Z) := k5
  clear k5
  have yM0 : x5.cell? ⟨w.heap.size, 0, none⟩ = some (.int .i64 c) := (M7.out.2 0 (by simp)).1
  have yM1 : x5.cell? ⟨w.heap.size, 1, none⟩ = some (.int .i64 d) := (M7.out.2 1 (by simp)).1
  have hlM : w.heap.size < x5.heap.size := M7.out.1
  have yA0 : x5.cell? ⟨(w.heap.size + 1), 0, none⟩ = some (.slice a n cap) := (A7.out.2 0 (by simp)).1
  have hlA : (w.heap.size + 1) < x5.heap.size := A7.out.1
  have yX0 : x5.cell? ⟨gx, 0, none⟩ = some (.slice (some ⟨B2, 0, none⟩) n n) := (X8.out.2 0 (by simp)).1
  have hlX : gx < x5.heap.size := X8.out.1
  refine wp_region_held_drew (S := fun w' => (∀ b o, b < x5.heap.size → w'.cell? ⟨b, o, none⟩ = x5.cell? ⟨b, o, none⟩) ∧ x5.heap.size ≤ w'.heap.size) (by kernel_rfl) ⟨fun _ _ _ => rfl, Nat.le_refl _⟩ ?_
  intro hHeld
  refine wpAnyH_take (i := 0) (v := .agg #[.int .i64 c, .int .i64 d]) rfl (by kernel_rfl) (by kernel_rfl) (by kernel_rfl) (fun _ _ _ h => h) (Or.inl ⟨by rfl, ?_⟩) (by assumption) ?_
  · intro wx hSw; go_simp
  try simp only [Act.put, List.setIfInBounds_toArray, List.set_cons_zero, List.set_cons_succ, List.getElem_toArray, List.getElem_cons_zero]
  refine wpAnyH_take (i := 2) (v := .agg #[.slice (some ⟨B2, 0, none⟩) n n]) rfl (by kernel_rfl) (by kernel_rfl) (by kernel_rfl) (fun _ _ _ h => h) (Or.inl ⟨by rfl, ?_⟩) (by assumption) ?_
  · intro wx hSw; go_simp
  try simp only [Act.put, List.setIfInBounds_toArray, List.set_cons_zero, List.set_cons_succ, List.getElem_toArray, List.getElem_cons_zero, List.getElem_cons_succ]
  refine wpAnyH_ready (rs := [1]) (by kernel_rfl) (by simp) ?_
  refine AllReadyH.cons rfl (fun K hK => ?_) AllReadyH.nil
  go_simp
  go_wp2_with fail
  refine (toMap _ _ _).mono ?_
  rintro e x6 ⟨rfl, hx6⟩
  refine hK.out _ _ (keepS (by assumption) hx6) (fun hNew => ?_)
  clear hK K hHeld
  have hHeld := hNew
  clear hNew
  try simp only [Act.put, List.setIfInBounds_toArray, List.set_cons_zero, List.set_cons_succ, List.getElem_toArray, List.getElem_cons_zero, List.getElem_cons_succ]
  refine wpAnyH_ready (rs := [3]) (by kernel_rfl) (by simp) ?_
  refine AllReadyH.cons rfl (fun K hK => ?_) AllReadyH.nil
  go_simp
  go_wp2_with fail
  refine (book_impl c d (some ⟨B2, 0, none⟩) n n Z hn2 _ (P10.row_below K9.out (by repeat (first | exact Below.refl _ _ | refine bthen ?_ (by assumption) | apply Below.drew)))).mono ?_
  rintro e x7 ⟨rfl, hx7⟩
  refine hK.out _ _ (keepS (by assumption) hx7) (fun hNew => ?_)
  clear hK K hHeld
  have hHeld := hNew
  clear hNew
  try simp only [Act.put, List.setIfInBounds_toArray, List.set_cons_zero, List.set_cons_succ, List.getElem_toArray, List.getElem_cons_zero, List.getElem_cons_succ]
  refine wpAnyH_take (i := 4) (v := .bool (bookB c d n Z)) rfl (by kernel_rfl) (by kernel_rfl) (by kernel_rfl) (fun _ _ _ h => h) (Or.inl ⟨by rfl, ?_⟩) (by assumption) ?_
  · intro wx hSw; go_simp
  try simp only [Act.put, List.setIfInBounds_toArray, List.set_cons_zero, List.set_cons_succ, List.getElem_toArray, List.getElem_cons_zero, List.getElem_cons_succ]
  refine wpAnyH_done (by kernel_rfl) ?_ _
  clear hHeld
  have hz2 : Below x5.heap.size x5 x7 := by repeat (first | exact Below.refl _ _ | refine bthen ?_ (by assumption) | apply Below.drew)
  clear yM0 yM1 hlM yA0 hlA yX0 hlX
  have B10 : Hid (Below w.heap.size w x7) := bthen B7.out hz2
  have M10 : Hid (Bk x7 w.heap.size [.int .i64 c, .int .i64 d]) := M7.out.below hz2
  have A10 : Hid (Bk x7 (w.heap.size + 1) [.slice a n cap]) := A7.out.below hz2
  have X10 : Hid (Bk x7 gx [.slice (some ⟨B2, 0, none⟩) n n]) := X8.out.below hz2
  have K10 : Hid (P10.RowK x7 (some ⟨B2, 0, none⟩) n Z) := P10.row_below K9.out hz2
  clear B7 M7 A7 X8 K9
  clear hz2 hx6 hx7
  have yM0 : x7.cell? ⟨w.heap.size, 0, none⟩ = some (.int .i64 c) := (M10.out.2 0 (by simp)).1
  have yM1 : x7.cell? ⟨w.heap.size, 1, none⟩ = some (.int .i64 d) := (M10.out.2 1 (by simp)).1
  have hlM : w.heap.size < x7.heap.size := M10.out.1
  have yA0 : x7.cell? ⟨(w.heap.size + 1), 0, none⟩ = some (.slice a n cap) := (A10.out.2 0 (by simp)).1
  have hlA : (w.heap.size + 1) < x7.heap.size := A10.out.1
  have yX0 : x7.cell? ⟨gx, 0, none⟩ = some (.slice (some ⟨B2, 0, none⟩) n n) := (X10.out.2 0 (by simp)).1
  have hlX : gx < x7.heap.size := X10.out.1
  go_wp2
  refine wp_region_held_drew (S := fun w' => (∀ b o, b < x7.heap.size → w'.cell? ⟨b, o, none⟩ = x7.cell? ⟨b, o, none⟩) ∧ x7.heap.size ≤ w'.heap.size) (by kernel_rfl) ⟨fun _ _ _ => rfl, Nat.le_refl _⟩ ?_
  intro hHeld
  refine wpAnyH_take (i := 0) (v := .agg #[.slice (some ⟨B2, 0, none⟩) n n]) rfl (by kernel_rfl) (by kernel_rfl) (by kernel_rfl) (fun _ _ _ h => h) (Or.inl ⟨by rfl, ?_⟩) (by assumption) ?_
  · intro wx hSw; go_simp
  try simp only [Act.put, List.setIfInBounds_toArray, List.set_cons_zero, List.set_cons_succ, List.getElem_toArray, List.getElem_cons_zero]
  refine wpAnyH_take (i := 1) (v := .agg #[.slice a n cap]) rfl (by kernel_rfl) (by kernel_rfl) (by kernel_rfl) (fun _ _ _ h => h) (Or.inl ⟨by rfl, ?_⟩) (by assumption) ?_
  · intro wx hSw; go_simp
  try simp only [Act.put, List.setIfInBounds_toArray, List.set_cons_zero, List.set_cons_succ, List.getElem_toArray, List.getElem_cons_zero, List.getElem_cons_succ]
  refine wpAnyH_ready (rs := [2]) (by kernel_rfl) (by simp) ?_
  refine AllReadyH.cons rfl (fun K hK => ?_) AllReadyH.nil
  go_simp
  go_wp2_with fail
  refine (toBook a n cap Z hn2 _ (P10.row_below HR.out (bthen B10.out (by repeat (first | exact Below.refl _ _ | refine bthen ?_ (by assumption) | apply Below.drew))))).mono ?_
  rintro e x8 ⟨⟨B3, rfl, o3, l3, p3⟩, hx8⟩
  refine hK.out _ _ (keepS (by assumption) hx8) (fun hNew => ?_)
  clear hK K hHeld
  have hHeld := hNew
  clear hNew
  try simp only [Act.put, List.setIfInBounds_toArray, List.set_cons_zero, List.set_cons_succ, List.getElem_toArray, List.getElem_cons_zero, List.getElem_cons_succ]
  refine wpAnyH_ready (rs := [3]) (by kernel_rfl) (by simp) ?_
  refine AllReadyH.cons rfl (fun K hK => ?_) AllReadyH.nil
  go_simp
  go_wp2_with fail
  refine (eqBook (some ⟨B2, 0, none⟩) n (some ⟨B3, 0, none⟩) n n Z (by omega) _ (P10.row_below K10.out (by repeat (first | exact Below.refl _ _ | refine bthen ?_ (by assumption) | apply Below.drew))) (P10.row_of_own o3 l3)).mono ?_
  rintro e x9 ⟨rfl, hx9⟩
  refine hK.out _ _ (keepS (by assumption) hx9) (fun hNew => ?_)
  clear hK K hHeld
  have hHeld := hNew
  clear hNew
  try simp only [Act.put, List.setIfInBounds_toArray, List.set_cons_zero, List.set_cons_succ, List.getElem_toArray, List.getElem_cons_zero, List.getElem_cons_succ]
  refine wpAnyH_take (i := 4) (v := .bool false) rfl (by kernel_rfl) (by kernel_rfl) (by kernel_rfl) (fun _ _ _ h => h) (Or.inl ⟨by rfl, ?_⟩) (by assumption) ?_
  · intro wx hSw; go_simp
  try simp only [Act.put, List.setIfInBounds_toArray, List.set_cons_zero, List.set_cons_succ, List.getElem_toArray, List.getElem_cons_zero, List.getElem_cons_succ]
  refine wpAnyH_done (by kernel_rfl) ?_ _
  clear hHeld
  have hz3 : Below x7.heap.size x7 x9 := by repeat (first | exact Below.refl _ _ | refine bthen ?_ (by assumption) | apply Below.drew)
  clear yM0 yM1 hlM yA0 hlA yX0 hlX
  have B11 : Hid (Below w.heap.size w x9) := bthen B10.out hz3
  have M11 : Hid (Bk x9 w.heap.size [.int .i64 c, .int .i64 d]) := M10.out.below hz3
  have A11 : Hid (Bk x9 (w.heap.size + 1) [.slice a n cap]) := A10.out.below hz3
  have X11 : Hid (Bk x9 gx [.slice (some ⟨B2, 0, none⟩) n n]) := X10.out.below hz3
  have K11 : Hid (P10.RowK x9 (some ⟨B2, 0, none⟩) n Z) := P10.row_below K10.out hz3
  clear B10 M10 A10 X10 K10
  clear hz3
  go_wp2
  go_ret
  exact ⟨rfl, B11.out⟩
end Go.Proofs.Ytgjapdjidighlaa
