/- GstOk, of the program and of the model; conditions: none. -/
import Derived.Test.YtgjapdjidighlabGreatTk
import Derived.Test.YtgjapdjidighlabGreatWalksD
import Derived.Test.YtgjapdjidighlabGreatWalksE
import Derived.Test.YtgjapdjidighlabGreatBase
namespace Go.Proofs.YtgjapdjidighlabGreat
open Go.RowKit Go.Deep
set_option linter.unusedVariables false
theorem in_specB (n lo hi : Int) (w : World) : Calls Tryz.prog 32 #[.int .i64 n, .int .i64 lo, .int .i64 hi] w fun e w' => e = .returned (.bool (inB n lo hi)) ∧ Below w.heap.size w w' :=
  (in_spec n lo hi w).mono fun e w' h => ⟨h.1, by rw [h.2]; exact Below.refl _ _⟩
theorem in_implB (n lo hi : Int) (w : World) : Calls Tryz.prog 44 #[.int .i64 n, .int .i64 lo, .int .i64 hi] w fun e w' => e = .returned (.bool (inB n lo hi)) ∧ Below w.heap.size w w' :=
  (in_impl n lo hi w).mono fun e w' h => ⟨h.1, by rw [h.2]; exact Below.refl _ _⟩
def gstB (c d f n i a co s l : Int) : Bool := inB n 0 250 && (wlkB c d i a co s l && ((cellF c d a == f) && (edgeB c d a 0 || edgeB c d a 1)))
set_option maxHeartbeats 2000000 in
theorem gstOk_spec (c d f n i a co s l : Int) (w : World) :
    Calls Tryz.prog 37 #[.agg #[.int .i64 c, .int .i64 d], .agg #[.int .i64 f, .int .i64 n, .int .i64 i, .int .i64 a, .int .i64 co, .int .i64 s, .int .i64 l]] w fun e w' => e = .returned (.bool (gstB c d f n i a co s l)) ∧ Below w.heap.size w w' := by
  cases h1 : inB n 0 250
  · go_enter Tryz.func37, Tryz.ntmps37
    go_wp2
    obtain ⟨w0, e0⟩ : ∃ w0, w0 = (w.alloc (.cells #[.int .i64 c, .int .i64 d] 43)).alloc (.cells #[.int .i64 f, .int .i64 n, .int .i64 i, .int .i64 a, .int .i64 co, .int .i64 s, .int .i64 l] 51) := ⟨_, rfl⟩
    have B1 : Hid (Below w.heap.size w w0) := by rw [e0]; exact ((Below.refl _ _).alloc (by simp) _).alloc (by simp) _
    have M2 : Hid (Bk w0 w.heap.size [.int .i64 c, .int .i64 d]) := by rw [e0]; exact (bk_new w 43 [.int .i64 c, .int .i64 d]).below ((Below.refl _ _).alloc (Nat.le_refl _) _)
    have G3 : Hid (Bk w0 (w.heap.size + 1) [.int .i64 f, .int .i64 n, .int .i64 i, .int .i64 a, .int .i64 co, .int .i64 s, .int .i64 l]) := by rw [e0]; have := bk_new (w.alloc (.cells #[.int .i64 c, .int .i64 d] 43)) 51 [.int .i64 f, .int .i64 n, .int .i64 i, .int .i64 a, .int .i64 co, .int .i64 s, .int .i64 l]; rwa [show (w.alloc (.cells #[.int .i64 c, .int .i64 d] 43)).heap.size = w.heap.size + 1 by simp] at this
    rw [← e0]
    clear e0
    obtain ⟨yM0, yM1⟩ := M2.out.a2
    have hlM : w.heap.size < w0.heap.size := M2.out.1
    obtain ⟨yG0, yG1, yG2, yG3, yG4, yG5, yG6⟩ := G3.out.a7
    have hlG : (w.heap.size + 1) < w0.heap.size := G3.out.1
    refine wp_region_held_drew (S := fun w' => (∀ b o, b < w0.heap.size → w'.cell? ⟨b, o, none⟩ = w0.cell? ⟨b, o, none⟩) ∧ w0.heap.size ≤ w'.heap.size) (by kernel_rfl) ⟨fun _ _ _ => rfl, Nat.le_refl _⟩ ?_
    intro hHeld
    refine tkl 0 (.pointer (some ⟨(w.heap.size + 1), 1, none⟩)) rfl ?_ ?_
    · intro wx hSw; go_simp
    try simp only [Act.put, aS]
    refine tkl 1 (.int .i64 n) rfl ?_ ?_
    · intro wx hSw; go_simp
    try simp only [Act.put, aS]
    refine rd1 2 rfl fun K hK => ?_
    go_simp
    go_wp2_with fail
    refine (in_specB _ _ _ _).mono ?_
    rintro e x1 ⟨rfl, hx1⟩
    rw [h1]
    refine hK.out _ _ (keepS (by assumption) hx1) (fun hNew => ?_)
    clear hK K hHeld
    have hHeld := hNew
    clear hNew
    try simp only [Act.put, aS]
    refine tkl 3 (.bool false) rfl ?_ ?_
    · intro wx hSw; go_simp
    try simp only [Act.put, aS]
    refine tkr 4 rfl ?_
    try simp only [Act.put, aS]
    refine tkr 5 rfl ?_
    try simp only [Act.put, aS]
    refine tkr 6 rfl ?_
    try simp only [Act.put, aS]
    refine tkr 7 rfl ?_
    try simp only [Act.put, aS]
    refine tkl 8 (.bool false) rfl ?_ ?_
    · intro wx hSw; go_simp
    try simp only [Act.put, aS]
    refine tkl 9 (.bool false) rfl ?_ ?_
    · intro wx hSw; go_simp
    try simp only [Act.put, aS]
    refine tkr 10 rfl ?_
    try simp only [Act.put, aS]
    refine tkr 11 rfl ?_
    try simp only [Act.put, aS]
    refine tkr 12 rfl ?_
    try simp only [Act.put, aS]
    refine tkr 13 rfl ?_
    try simp only [Act.put, aS]
    refine tkr 14 rfl ?_
    try simp only [Act.put, aS]
    refine tkr 15 rfl ?_
    try simp only [Act.put, aS]
    refine tkr 16 rfl ?_
    try simp only [Act.put, aS]
    refine tkr 17 rfl ?_
    try simp only [Act.put, aS]
    refine tkl 18 (.bool false) rfl ?_ ?_
    · intro wx hSw; go_simp
    try simp only [Act.put, aS]
    refine tkl 19 (.bool false) rfl ?_ ?_
    · intro wx hSw; go_simp
    try simp only [Act.put, aS]
    refine tkr 20 rfl ?_
    try simp only [Act.put, aS]
    refine tkr 21 rfl ?_
    try simp only [Act.put, aS]
    refine tkr 22 rfl ?_
    try simp only [Act.put, aS]
    refine tkr 23 rfl ?_
    try simp only [Act.put, aS]
    refine tkr 24 rfl ?_
    try simp only [Act.put, aS]
    refine tkr 25 rfl ?_
    try simp only [Act.put, aS]
    refine tkr 26 rfl ?_
    try simp only [Act.put, aS]
    refine tkr 27 rfl ?_
    try simp only [Act.put, aS]
    refine tkr 28 rfl ?_
    try simp only [Act.put, aS]
    refine tkr 29 rfl ?_
    try simp only [Act.put, aS]
    refine tkr 30 rfl ?_
    try simp only [Act.put, aS]
    refine tkr 31 rfl ?_
    try simp only [Act.put, aS]
    refine tkl 32 (.bool false) rfl ?_ ?_
    · intro wx hSw; go_simp
    try simp only [Act.put, aS]
    refine tkl 33 (.bool false) rfl ?_ ?_
    · intro wx hSw; go_simp
    try simp only [Act.put, aS]
    refine wpAnyH_done (by kernel_rfl) ?_ _
    clear hHeld
    clear yM0 yM1 hlM yG0 yG1 yG2 yG3 yG4 yG5 yG6 hlG
    go_wp2
    go_ret
    exact ⟨by simp [gstB, h1], bthen B1.out (by repeat (first | exact Below.refl _ _ | refine bthen ?_ (by assumption) | apply Below.drew | refine Below.alloc ?_ (by first | (simp; done) | (simp; omega)) _))⟩
  cases h2 : wlkB c d i a co s l
  · go_enter Tryz.func37, Tryz.ntmps37
    go_wp2
    obtain ⟨w0, e0⟩ : ∃ w0, w0 = (w.alloc (.cells #[.int .i64 c, .int .i64 d] 43)).alloc (.cells #[.int .i64 f, .int .i64 n, .int .i64 i, .int .i64 a, .int .i64 co, .int .i64 s, .int .i64 l] 51) := ⟨_, rfl⟩
    have B1 : Hid (Below w.heap.size w w0) := by rw [e0]; exact ((Below.refl _ _).alloc (by simp) _).alloc (by simp) _
    have M2 : Hid (Bk w0 w.heap.size [.int .i64 c, .int .i64 d]) := by rw [e0]; exact (bk_new w 43 [.int .i64 c, .int .i64 d]).below ((Below.refl _ _).alloc (Nat.le_refl _) _)
    have G3 : Hid (Bk w0 (w.heap.size + 1) [.int .i64 f, .int .i64 n, .int .i64 i, .int .i64 a, .int .i64 co, .int .i64 s, .int .i64 l]) := by rw [e0]; have := bk_new (w.alloc (.cells #[.int .i64 c, .int .i64 d] 43)) 51 [.int .i64 f, .int .i64 n, .int .i64 i, .int .i64 a, .int .i64 co, .int .i64 s, .int .i64 l]; rwa [show (w.alloc (.cells #[.int .i64 c, .int .i64 d] 43)).heap.size = w.heap.size + 1 by simp] at this
    rw [← e0]
    clear e0
    obtain ⟨yM0, yM1⟩ := M2.out.a2
    have hlM : w.heap.size < w0.heap.size := M2.out.1
    obtain ⟨yG0, yG1, yG2, yG3, yG4, yG5, yG6⟩ := G3.out.a7
    have hlG : (w.heap.size + 1) < w0.heap.size := G3.out.1
    refine wp_region_held_drew (S := fun w' => (∀ b o, b < w0.heap.size → w'.cell? ⟨b, o, none⟩ = w0.cell? ⟨b, o, none⟩) ∧ w0.heap.size ≤ w'.heap.size) (by kernel_rfl) ⟨fun _ _ _ => rfl, Nat.le_refl _⟩ ?_
    intro hHeld
    refine tkl 0 (.pointer (some ⟨(w.heap.size + 1), 1, none⟩)) rfl ?_ ?_
    · intro wx hSw; go_simp
    try simp only [Act.put, aS]
    refine tkl 1 (.int .i64 n) rfl ?_ ?_
    · intro wx hSw; go_simp
    try simp only [Act.put, aS]
    refine rd1 2 rfl fun K hK => ?_
    go_simp
    go_wp2_with fail
    refine (in_specB _ _ _ _).mono ?_
    rintro e x1 ⟨rfl, hx1⟩
    rw [h1]
    refine hK.out _ _ (keepS (by assumption) hx1) (fun hNew => ?_)
    clear hK K hHeld
    have hHeld := hNew
    clear hNew
    try simp only [Act.put, aS]
    refine tkl 3 (.bool true) rfl ?_ ?_
    · intro wx hSw; go_simp
    try simp only [Act.put, aS]
    refine tkl 4 (.agg #[.int .i64 c, .int .i64 d]) rfl ?_ ?_
    · intro wx hSw; go_simp
    try simp only [Act.put, aS]
    refine tkl 5 (.pointer (some ⟨(w.heap.size + 1), 2, none⟩)) rfl ?_ ?_
    · intro wx hSw; go_simp
    try simp only [Act.put, aS]
    refine tkl 6 (.agg #[.int .i64 i, .int .i64 a, .int .i64 co, .int .i64 s, .int .i64 l]) rfl ?_ ?_
    · intro wx hSw; go_simp
    try simp only [Act.put, aS]
    refine rd1 7 rfl fun K hK => ?_
    go_simp
    go_wp2_with fail
    refine (wlkOk_spec _ _ _ _ _ _ _ _).mono ?_
    rintro e x2 ⟨rfl, hx2⟩
    rw [h2]
    refine hK.out _ _ (keepS (by assumption) hx2) (fun hNew => ?_)
    clear hK K hHeld
    have hHeld := hNew
    clear hNew
    try simp only [Act.put, aS]
    refine tkl 8 (.bool false) rfl ?_ ?_
    · intro wx hSw; go_simp
    try simp only [Act.put, aS]
    refine tkl 9 (.bool false) rfl ?_ ?_
    · intro wx hSw; go_simp
    try simp only [Act.put, aS]
    refine tkr 10 rfl ?_
    try simp only [Act.put, aS]
    refine tkr 11 rfl ?_
    try simp only [Act.put, aS]
    refine tkr 12 rfl ?_
    try simp only [Act.put, aS]
    refine tkr 13 rfl ?_
    try simp only [Act.put, aS]
    refine tkr 14 rfl ?_
    try simp only [Act.put, aS]
    refine tkr 15 rfl ?_
    try simp only [Act.put, aS]
    refine tkr 16 rfl ?_
    try simp only [Act.put, aS]
    refine tkr 17 rfl ?_
    try simp only [Act.put, aS]
    refine tkl 18 (.bool false) rfl ?_ ?_
    · intro wx hSw; go_simp
    try simp only [Act.put, aS]
    refine tkl 19 (.bool false) rfl ?_ ?_
    · intro wx hSw; go_simp
    try simp only [Act.put, aS]
    refine tkr 20 rfl ?_
    try simp only [Act.put, aS]
    refine tkr 21 rfl ?_
    try simp only [Act.put, aS]
    refine tkr 22 rfl ?_
    try simp only [Act.put, aS]
    refine tkr 23 rfl ?_
    try simp only [Act.put, aS]
    refine tkr 24 rfl ?_
    try simp only [Act.put, aS]
    refine tkr 25 rfl ?_
    try simp only [Act.put, aS]
    refine tkr 26 rfl ?_
    try simp only [Act.put, aS]
    refine tkr 27 rfl ?_
    try simp only [Act.put, aS]
    refine tkr 28 rfl ?_
    try simp only [Act.put, aS]
    refine tkr 29 rfl ?_
    try simp only [Act.put, aS]
    refine tkr 30 rfl ?_
    try simp only [Act.put, aS]
    refine tkr 31 rfl ?_
    try simp only [Act.put, aS]
    refine tkl 32 (.bool false) rfl ?_ ?_
    · intro wx hSw; go_simp
    try simp only [Act.put, aS]
    refine tkl 33 (.bool false) rfl ?_ ?_
    · intro wx hSw; go_simp
    try simp only [Act.put, aS]
    refine wpAnyH_done (by kernel_rfl) ?_ _
    clear hHeld
    clear yM0 yM1 hlM yG0 yG1 yG2 yG3 yG4 yG5 yG6 hlG
    go_wp2
    go_ret
    exact ⟨by simp [gstB, h2], bthen B1.out (by repeat (first | exact Below.refl _ _ | refine bthen ?_ (by assumption) | apply Below.drew | refine Below.alloc ?_ (by first | (simp; done) | (simp; omega)) _))⟩
  cases h3 : (cellF c d a == f)
  · go_enter Tryz.func37, Tryz.ntmps37
    go_wp2
    obtain ⟨w0, e0⟩ : ∃ w0, w0 = (w.alloc (.cells #[.int .i64 c, .int .i64 d] 43)).alloc (.cells #[.int .i64 f, .int .i64 n, .int .i64 i, .int .i64 a, .int .i64 co, .int .i64 s, .int .i64 l] 51) := ⟨_, rfl⟩
    have B1 : Hid (Below w.heap.size w w0) := by rw [e0]; exact ((Below.refl _ _).alloc (by simp) _).alloc (by simp) _
    have M2 : Hid (Bk w0 w.heap.size [.int .i64 c, .int .i64 d]) := by rw [e0]; exact (bk_new w 43 [.int .i64 c, .int .i64 d]).below ((Below.refl _ _).alloc (Nat.le_refl _) _)
    have G3 : Hid (Bk w0 (w.heap.size + 1) [.int .i64 f, .int .i64 n, .int .i64 i, .int .i64 a, .int .i64 co, .int .i64 s, .int .i64 l]) := by rw [e0]; have := bk_new (w.alloc (.cells #[.int .i64 c, .int .i64 d] 43)) 51 [.int .i64 f, .int .i64 n, .int .i64 i, .int .i64 a, .int .i64 co, .int .i64 s, .int .i64 l]; rwa [show (w.alloc (.cells #[.int .i64 c, .int .i64 d] 43)).heap.size = w.heap.size + 1 by simp] at this
    rw [← e0]
    clear e0
    obtain ⟨yM0, yM1⟩ := M2.out.a2
    have hlM : w.heap.size < w0.heap.size := M2.out.1
    obtain ⟨yG0, yG1, yG2, yG3, yG4, yG5, yG6⟩ := G3.out.a7
    have hlG : (w.heap.size + 1) < w0.heap.size := G3.out.1
    refine wp_region_held_drew (S := fun w' => (∀ b o, b < w0.heap.size → w'.cell? ⟨b, o, none⟩ = w0.cell? ⟨b, o, none⟩) ∧ w0.heap.size ≤ w'.heap.size) (by kernel_rfl) ⟨fun _ _ _ => rfl, Nat.le_refl _⟩ ?_
    intro hHeld
    refine tkl 0 (.pointer (some ⟨(w.heap.size + 1), 1, none⟩)) rfl ?_ ?_
    · intro wx hSw; go_simp
    try simp only [Act.put, aS]
    refine tkl 1 (.int .i64 n) rfl ?_ ?_
    · intro wx hSw; go_simp
    try simp only [Act.put, aS]
    refine rd1 2 rfl fun K hK => ?_
    go_simp
    go_wp2_with fail
    refine (in_specB _ _ _ _).mono ?_
    rintro e x1 ⟨rfl, hx1⟩
    rw [h1]
    refine hK.out _ _ (keepS (by assumption) hx1) (fun hNew => ?_)
    clear hK K hHeld
    have hHeld := hNew
    clear hNew
    try simp only [Act.put, aS]
    refine tkl 3 (.bool true) rfl ?_ ?_
    · intro wx hSw; go_simp
    try simp only [Act.put, aS]
    refine tkl 4 (.agg #[.int .i64 c, .int .i64 d]) rfl ?_ ?_
    · intro wx hSw; go_simp
    try simp only [Act.put, aS]
    refine tkl 5 (.pointer (some ⟨(w.heap.size + 1), 2, none⟩)) rfl ?_ ?_
    · intro wx hSw; go_simp
    try simp only [Act.put, aS]
    refine tkl 6 (.agg #[.int .i64 i, .int .i64 a, .int .i64 co, .int .i64 s, .int .i64 l]) rfl ?_ ?_
    · intro wx hSw; go_simp
    try simp only [Act.put, aS]
    refine rd1 7 rfl fun K hK => ?_
    go_simp
    go_wp2_with fail
    refine (wlkOk_spec _ _ _ _ _ _ _ _).mono ?_
    rintro e x2 ⟨rfl, hx2⟩
    rw [h2]
    refine hK.out _ _ (keepS (by assumption) hx2) (fun hNew => ?_)
    clear hK K hHeld
    have hHeld := hNew
    clear hNew
    try simp only [Act.put, aS]
    refine tkl 8 (.bool true) rfl ?_ ?_
    · intro wx hSw; go_simp
    try simp only [Act.put, aS]
    refine tkl 9 (.bool true) rfl ?_ ?_
    · intro wx hSw; go_simp
    try simp only [Act.put, aS]
    refine tkl 10 (.agg #[.int .i64 c, .int .i64 d]) rfl ?_ ?_
    · intro wx hSw; go_simp
    try simp only [Act.put, aS]
    refine tkl 11 (.pointer (some ⟨(w.heap.size + 1), 2, none⟩)) rfl ?_ ?_
    · intro wx hSw; go_simp
    try simp only [Act.put, aS]
    refine tkl 12 (.pointer (some ⟨(w.heap.size + 1), 3, none⟩)) rfl ?_ ?_
    · intro wx hSw; go_simp
    try simp only [Act.put, aS]
    refine tkl 13 (.int .i64 a) rfl ?_ ?_
    · intro wx hSw; go_simp
    try simp only [Act.put, aS]
    refine tkl 15 (.pointer (some ⟨(w.heap.size + 1), 0, none⟩)) rfl ?_ ?_
    · intro wx hSw; go_simp
    try simp only [Act.put, aS]
    refine tkl 16 (.int .i64 f) rfl ?_ ?_
    · intro wx hSw; go_simp
    try simp only [Act.put, aS]
    refine rd1 14 rfl fun K hK => ?_
    go_simp
    go_wp2_with fail
    refine (cell_spec _ _ _ _).mono ?_
    rintro e x3 ⟨rfl, hx3⟩
    refine hK.out _ _ (keepS (by assumption) hx3) (fun hNew => ?_)
    clear hK K hHeld
    have hHeld := hNew
    clear hNew
    try simp only [Act.put, aS]
    refine tkl 17 (.bool false) rfl ?_ ?_
    · intro wx hSw; go_simp
    try simp only [Act.put, aS]
    refine tkl 18 (.bool false) rfl ?_ ?_
    · intro wx hSw; go_simp
    try simp only [Act.put, aS]
    refine tkl 19 (.bool false) rfl ?_ ?_
    · intro wx hSw; go_simp
    try simp only [Act.put, aS]
    refine tkr 20 rfl ?_
    try simp only [Act.put, aS]
    refine tkr 21 rfl ?_
    try simp only [Act.put, aS]
    refine tkr 22 rfl ?_
    try simp only [Act.put, aS]
    refine tkr 23 rfl ?_
    try simp only [Act.put, aS]
    refine tkr 24 rfl ?_
    try simp only [Act.put, aS]
    refine tkr 25 rfl ?_
    try simp only [Act.put, aS]
    refine tkr 26 rfl ?_
    try simp only [Act.put, aS]
    refine tkr 27 rfl ?_
    try simp only [Act.put, aS]
    refine tkr 28 rfl ?_
    try simp only [Act.put, aS]
    refine tkr 29 rfl ?_
    try simp only [Act.put, aS]
    refine tkr 30 rfl ?_
    try simp only [Act.put, aS]
    refine tkr 31 rfl ?_
    try simp only [Act.put, aS]
    refine tkl 32 (.bool false) rfl ?_ ?_
    · intro wx hSw; go_simp
    try simp only [Act.put, aS]
    refine tkl 33 (.bool false) rfl ?_ ?_
    · intro wx hSw; go_simp
    try simp only [Act.put, aS]
    refine wpAnyH_done (by kernel_rfl) ?_ _
    clear hHeld
    clear yM0 yM1 hlM yG0 yG1 yG2 yG3 yG4 yG5 yG6 hlG
    go_wp2
    go_ret
    exact ⟨by simp [gstB, h3], bthen B1.out (by repeat (first | exact Below.refl _ _ | refine bthen ?_ (by assumption) | apply Below.drew | refine Below.alloc ?_ (by first | (simp; done) | (simp; omega)) _))⟩
  cases h4 : edgeB c d a 0
  · go_enter Tryz.func37, Tryz.ntmps37
    go_wp2
    obtain ⟨w0, e0⟩ : ∃ w0, w0 = (w.alloc (.cells #[.int .i64 c, .int .i64 d] 43)).alloc (.cells #[.int .i64 f, .int .i64 n, .int .i64 i, .int .i64 a, .int .i64 co, .int .i64 s, .int .i64 l] 51) := ⟨_, rfl⟩
    have B1 : Hid (Below w.heap.size w w0) := by rw [e0]; exact ((Below.refl _ _).alloc (by simp) _).alloc (by simp) _
    have M2 : Hid (Bk w0 w.heap.size [.int .i64 c, .int .i64 d]) := by rw [e0]; exact (bk_new w 43 [.int .i64 c, .int .i64 d]).below ((Below.refl _ _).alloc (Nat.le_refl _) _)
    have G3 : Hid (Bk w0 (w.heap.size + 1) [.int .i64 f, .int .i64 n, .int .i64 i, .int .i64 a, .int .i64 co, .int .i64 s, .int .i64 l]) := by rw [e0]; have := bk_new (w.alloc (.cells #[.int .i64 c, .int .i64 d] 43)) 51 [.int .i64 f, .int .i64 n, .int .i64 i, .int .i64 a, .int .i64 co, .int .i64 s, .int .i64 l]; rwa [show (w.alloc (.cells #[.int .i64 c, .int .i64 d] 43)).heap.size = w.heap.size + 1 by simp] at this
    rw [← e0]
    clear e0
    obtain ⟨yM0, yM1⟩ := M2.out.a2
    have hlM : w.heap.size < w0.heap.size := M2.out.1
    obtain ⟨yG0, yG1, yG2, yG3, yG4, yG5, yG6⟩ := G3.out.a7
    have hlG : (w.heap.size + 1) < w0.heap.size := G3.out.1
    refine wp_region_held_drew (S := fun w' => (∀ b o, b < w0.heap.size → w'.cell? ⟨b, o, none⟩ = w0.cell? ⟨b, o, none⟩) ∧ w0.heap.size ≤ w'.heap.size) (by kernel_rfl) ⟨fun _ _ _ => rfl, Nat.le_refl _⟩ ?_
    intro hHeld
    refine tkl 0 (.pointer (some ⟨(w.heap.size + 1), 1, none⟩)) rfl ?_ ?_
    · intro wx hSw; go_simp
    try simp only [Act.put, aS]
    refine tkl 1 (.int .i64 n) rfl ?_ ?_
    · intro wx hSw; go_simp
    try simp only [Act.put, aS]
    refine rd1 2 rfl fun K hK => ?_
    go_simp
    go_wp2_with fail
    refine (in_specB _ _ _ _).mono ?_
    rintro e x1 ⟨rfl, hx1⟩
    rw [h1]
    refine hK.out _ _ (keepS (by assumption) hx1) (fun hNew => ?_)
    clear hK K hHeld
    have hHeld := hNew
    clear hNew
    try simp only [Act.put, aS]
    refine tkl 3 (.bool true) rfl ?_ ?_
    · intro wx hSw; go_simp
    try simp only [Act.put, aS]
    refine tkl 4 (.agg #[.int .i64 c, .int .i64 d]) rfl ?_ ?_
    · intro wx hSw; go_simp
    try simp only [Act.put, aS]
    refine tkl 5 (.pointer (some ⟨(w.heap.size + 1), 2, none⟩)) rfl ?_ ?_
    · intro wx hSw; go_simp
    try simp only [Act.put, aS]
    refine tkl 6 (.agg #[.int .i64 i, .int .i64 a, .int .i64 co, .int .i64 s, .int .i64 l]) rfl ?_ ?_
    · intro wx hSw; go_simp
    try simp only [Act.put, aS]
    refine rd1 7 rfl fun K hK => ?_
    go_simp
    go_wp2_with fail
    refine (wlkOk_spec _ _ _ _ _ _ _ _).mono ?_
    rintro e x2 ⟨rfl, hx2⟩
    rw [h2]
    refine hK.out _ _ (keepS (by assumption) hx2) (fun hNew => ?_)
    clear hK K hHeld
    have hHeld := hNew
    clear hNew
    try simp only [Act.put, aS]
    refine tkl 8 (.bool true) rfl ?_ ?_
    · intro wx hSw; go_simp
    try simp only [Act.put, aS]
    refine tkl 9 (.bool true) rfl ?_ ?_
    · intro wx hSw; go_simp
    try simp only [Act.put, aS]
    refine tkl 10 (.agg #[.int .i64 c, .int .i64 d]) rfl ?_ ?_
    · intro wx hSw; go_simp
    try simp only [Act.put, aS]
    refine tkl 11 (.pointer (some ⟨(w.heap.size + 1), 2, none⟩)) rfl ?_ ?_
    · intro wx hSw; go_simp
    try simp only [Act.put, aS]
    refine tkl 12 (.pointer (some ⟨(w.heap.size + 1), 3, none⟩)) rfl ?_ ?_
    · intro wx hSw; go_simp
    try simp only [Act.put, aS]
    refine tkl 13 (.int .i64 a) rfl ?_ ?_
    · intro wx hSw; go_simp
    try simp only [Act.put, aS]
    refine tkl 15 (.pointer (some ⟨(w.heap.size + 1), 0, none⟩)) rfl ?_ ?_
    · intro wx hSw; go_simp
    try simp only [Act.put, aS]
    refine tkl 16 (.int .i64 f) rfl ?_ ?_
    · intro wx hSw; go_simp
    try simp only [Act.put, aS]
    refine rd1 14 rfl fun K hK => ?_
    go_simp
    go_wp2_with fail
    refine (cell_spec _ _ _ _).mono ?_
    rintro e x3 ⟨rfl, hx3⟩
    refine hK.out _ _ (keepS (by assumption) hx3) (fun hNew => ?_)
    clear hK K hHeld
    have hHeld := hNew
    clear hNew
    try simp only [Act.put, aS]
    refine tkl 17 (.bool true) rfl ?_ ?_
    · intro wx hSw; go_simp
    try simp only [Act.put, aS]
    refine tkl 18 (.bool true) rfl ?_ ?_
    · intro wx hSw; go_simp
    try simp only [Act.put, aS]
    refine tkl 19 (.bool true) rfl ?_ ?_
    · intro wx hSw; go_simp
    try simp only [Act.put, aS]
    refine tkl 20 (.agg #[.int .i64 c, .int .i64 d]) rfl ?_ ?_
    · intro wx hSw; go_simp
    try simp only [Act.put, aS]
    refine tkl 21 (.pointer (some ⟨(w.heap.size + 1), 2, none⟩)) rfl ?_ ?_
    · intro wx hSw; go_simp
    try simp only [Act.put, aS]
    refine tkl 22 (.pointer (some ⟨(w.heap.size + 1), 3, none⟩)) rfl ?_ ?_
    · intro wx hSw; go_simp
    try simp only [Act.put, aS]
    refine tkl 23 (.int .i64 a) rfl ?_ ?_
    · intro wx hSw; go_simp
    try simp only [Act.put, aS]
    refine rd1 24 rfl fun K hK => ?_
    go_simp
    go_wp2_with fail
    refine (plcEdge_spec _ _ _ _ _).mono ?_
    rintro e x4 ⟨rfl, hx4⟩
    rw [h4]
    refine hK.out _ _ (keepS (by assumption) hx4) (fun hNew => ?_)
    clear hK K hHeld
    have hHeld := hNew
    clear hNew
    try simp only [Act.put, aS]
    refine tkl 25 (.bool false) rfl ?_ ?_
    · intro wx hSw; go_simp
    try simp only [Act.put, aS]
    refine tkl 26 (.agg #[.int .i64 c, .int .i64 d]) rfl ?_ ?_
    · intro wx hSw; go_simp
    try simp only [Act.put, aS]
    refine tkl 27 (.pointer (some ⟨(w.heap.size + 1), 2, none⟩)) rfl ?_ ?_
    · intro wx hSw; go_simp
    try simp only [Act.put, aS]
    refine tkl 28 (.pointer (some ⟨(w.heap.size + 1), 3, none⟩)) rfl ?_ ?_
    · intro wx hSw; go_simp
    try simp only [Act.put, aS]
    refine tkl 29 (.int .i64 a) rfl ?_ ?_
    · intro wx hSw; go_simp
    try simp only [Act.put, aS]
    refine rd1 30 rfl fun K hK => ?_
    go_simp
    go_wp2_with fail
    refine (plcEdge_spec _ _ _ _ _).mono ?_
    rintro e x5 ⟨rfl, hx5⟩
    refine hK.out _ _ (keepS (by assumption) hx5) (fun hNew => ?_)
    clear hK K hHeld
    have hHeld := hNew
    clear hNew
    try simp only [Act.put, aS]
    refine tkl 31 (.bool (edgeB c d a 1)) rfl ?_ ?_
    · intro wx hSw; go_simp
    try simp only [Act.put, aS]
    refine tkl 32 (.bool (edgeB c d a 1)) rfl ?_ ?_
    · intro wx hSw; go_simp
    try simp only [Act.put, aS]
    refine tkl 33 (.bool (edgeB c d a 1)) rfl ?_ ?_
    · intro wx hSw; go_simp
    try simp only [Act.put, aS]
    refine wpAnyH_done (by kernel_rfl) ?_ _
    clear hHeld
    clear yM0 yM1 hlM yG0 yG1 yG2 yG3 yG4 yG5 yG6 hlG
    go_wp2
    go_ret
    exact ⟨by simp [gstB, h1, h2, h3, h4], bthen B1.out (by repeat (first | exact Below.refl _ _ | refine bthen ?_ (by assumption) | apply Below.drew | refine Below.alloc ?_ (by first | (simp; done) | (simp; omega)) _))⟩
  · go_enter Tryz.func37, Tryz.ntmps37
    go_wp2
    obtain ⟨w0, e0⟩ : ∃ w0, w0 = (w.alloc (.cells #[.int .i64 c, .int .i64 d] 43)).alloc (.cells #[.int .i64 f, .int .i64 n, .int .i64 i, .int .i64 a, .int .i64 co, .int .i64 s, .int .i64 l] 51) := ⟨_, rfl⟩
    have B1 : Hid (Below w.heap.size w w0) := by rw [e0]; exact ((Below.refl _ _).alloc (by simp) _).alloc (by simp) _
    have M2 : Hid (Bk w0 w.heap.size [.int .i64 c, .int .i64 d]) := by rw [e0]; exact (bk_new w 43 [.int .i64 c, .int .i64 d]).below ((Below.refl _ _).alloc (Nat.le_refl _) _)
    have G3 : Hid (Bk w0 (w.heap.size + 1) [.int .i64 f, .int .i64 n, .int .i64 i, .int .i64 a, .int .i64 co, .int .i64 s, .int .i64 l]) := by rw [e0]; have := bk_new (w.alloc (.cells #[.int .i64 c, .int .i64 d] 43)) 51 [.int .i64 f, .int .i64 n, .int .i64 i, .int .i64 a, .int .i64 co, .int .i64 s, .int .i64 l]; rwa [show (w.alloc (.cells #[.int .i64 c, .int .i64 d] 43)).heap.size = w.heap.size + 1 by simp] at this
    rw [← e0]
    clear e0
    obtain ⟨yM0, yM1⟩ := M2.out.a2
    have hlM : w.heap.size < w0.heap.size := M2.out.1
    obtain ⟨yG0, yG1, yG2, yG3, yG4, yG5, yG6⟩ := G3.out.a7
    have hlG : (w.heap.size + 1) < w0.heap.size := G3.out.1
    refine wp_region_held_drew (S := fun w' => (∀ b o, b < w0.heap.size → w'.cell? ⟨b, o, none⟩ = w0.cell? ⟨b, o, none⟩) ∧ w0.heap.size ≤ w'.heap.size) (by kernel_rfl) ⟨fun _ _ _ => rfl, Nat.le_refl _⟩ ?_
    intro hHeld
    refine tkl 0 (.pointer (some ⟨(w.heap.size + 1), 1, none⟩)) rfl ?_ ?_
    · intro wx hSw; go_simp
    try simp only [Act.put, aS]
    refine tkl 1 (.int .i64 n) rfl ?_ ?_
    · intro wx hSw; go_simp
    try simp only [Act.put, aS]
    refine rd1 2 rfl fun K hK => ?_
    go_simp
    go_wp2_with fail
    refine (in_specB _ _ _ _).mono ?_
    rintro e x1 ⟨rfl, hx1⟩
    rw [h1]
    refine hK.out _ _ (keepS (by assumption) hx1) (fun hNew => ?_)
    clear hK K hHeld
    have hHeld := hNew
    clear hNew
    try simp only [Act.put, aS]
    refine tkl 3 (.bool true) rfl ?_ ?_
    · intro wx hSw; go_simp
    try simp only [Act.put, aS]
    refine tkl 4 (.agg #[.int .i64 c, .int .i64 d]) rfl ?_ ?_
    · intro wx hSw; go_simp
    try simp only [Act.put, aS]
    refine tkl 5 (.pointer (some ⟨(w.heap.size + 1), 2, none⟩)) rfl ?_ ?_
    · intro wx hSw; go_simp
    try simp only [Act.put, aS]
    refine tkl 6 (.agg #[.int .i64 i, .int .i64 a, .int .i64 co, .int .i64 s, .int .i64 l]) rfl ?_ ?_
    · intro wx hSw; go_simp
    try simp only [Act.put, aS]
    refine rd1 7 rfl fun K hK => ?_
    go_simp
    go_wp2_with fail
    refine (wlkOk_spec _ _ _ _ _ _ _ _).mono ?_
    rintro e x2 ⟨rfl, hx2⟩
    rw [h2]
    refine hK.out _ _ (keepS (by assumption) hx2) (fun hNew => ?_)
    clear hK K hHeld
    have hHeld := hNew
    clear hNew
    try simp only [Act.put, aS]
    refine tkl 8 (.bool true) rfl ?_ ?_
    · intro wx hSw; go_simp
    try simp only [Act.put, aS]
    refine tkl 9 (.bool true) rfl ?_ ?_
    · intro wx hSw; go_simp
    try simp only [Act.put, aS]
    refine tkl 10 (.agg #[.int .i64 c, .int .i64 d]) rfl ?_ ?_
    · intro wx hSw; go_simp
    try simp only [Act.put, aS]
    refine tkl 11 (.pointer (some ⟨(w.heap.size + 1), 2, none⟩)) rfl ?_ ?_
    · intro wx hSw; go_simp
    try simp only [Act.put, aS]
    refine tkl 12 (.pointer (some ⟨(w.heap.size + 1), 3, none⟩)) rfl ?_ ?_
    · intro wx hSw; go_simp
    try simp only [Act.put, aS]
    refine tkl 13 (.int .i64 a) rfl ?_ ?_
    · intro wx hSw; go_simp
    try simp only [Act.put, aS]
    refine tkl 15 (.pointer (some ⟨(w.heap.size + 1), 0, none⟩)) rfl ?_ ?_
    · intro wx hSw; go_simp
    try simp only [Act.put, aS]
    refine tkl 16 (.int .i64 f) rfl ?_ ?_
    · intro wx hSw; go_simp
    try simp only [Act.put, aS]
    refine rd1 14 rfl fun K hK => ?_
    go_simp
    go_wp2_with fail
    refine (cell_spec _ _ _ _).mono ?_
    rintro e x3 ⟨rfl, hx3⟩
    refine hK.out _ _ (keepS (by assumption) hx3) (fun hNew => ?_)
    clear hK K hHeld
    have hHeld := hNew
    clear hNew
    try simp only [Act.put, aS]
    refine tkl 17 (.bool true) rfl ?_ ?_
    · intro wx hSw; go_simp
    try simp only [Act.put, aS]
    refine tkl 18 (.bool true) rfl ?_ ?_
    · intro wx hSw; go_simp
    try simp only [Act.put, aS]
    refine tkl 19 (.bool true) rfl ?_ ?_
    · intro wx hSw; go_simp
    try simp only [Act.put, aS]
    refine tkl 20 (.agg #[.int .i64 c, .int .i64 d]) rfl ?_ ?_
    · intro wx hSw; go_simp
    try simp only [Act.put, aS]
    refine tkl 21 (.pointer (some ⟨(w.heap.size + 1), 2, none⟩)) rfl ?_ ?_
    · intro wx hSw; go_simp
    try simp only [Act.put, aS]
    refine tkl 22 (.pointer (some ⟨(w.heap.size + 1), 3, none⟩)) rfl ?_ ?_
    · intro wx hSw; go_simp
    try simp only [Act.put, aS]
    refine tkl 23 (.int .i64 a) rfl ?_ ?_
    · intro wx hSw; go_simp
    try simp only [Act.put, aS]
    refine rd1 24 rfl fun K hK => ?_
    go_simp
    go_wp2_with fail
    refine (plcEdge_spec _ _ _ _ _).mono ?_
    rintro e x4 ⟨rfl, hx4⟩
    rw [h4]
    refine hK.out _ _ (keepS (by assumption) hx4) (fun hNew => ?_)
    clear hK K hHeld
    have hHeld := hNew
    clear hNew
    try simp only [Act.put, aS]
    refine tkl 25 (.bool true) rfl ?_ ?_
    · intro wx hSw; go_simp
    try simp only [Act.put, aS]
    refine tkr 26 rfl ?_
    try simp only [Act.put, aS]
    refine tkr 27 rfl ?_
    try simp only [Act.put, aS]
    refine tkr 28 rfl ?_
    try simp only [Act.put, aS]
    refine tkr 29 rfl ?_
    try simp only [Act.put, aS]
    refine tkr 30 rfl ?_
    try simp only [Act.put, aS]
    refine tkl 31 (.bool true) rfl ?_ ?_
    · intro wx hSw; go_simp
    try simp only [Act.put, aS]
    refine tkl 32 (.bool true) rfl ?_ ?_
    · intro wx hSw; go_simp
    try simp only [Act.put, aS]
    refine tkl 33 (.bool true) rfl ?_ ?_
    · intro wx hSw; go_simp
    try simp only [Act.put, aS]
    refine wpAnyH_done (by kernel_rfl) ?_ _
    clear hHeld
    clear yM0 yM1 hlM yG0 yG1 yG2 yG3 yG4 yG5 yG6 hlG
    go_wp2
    go_ret
    exact ⟨by simp [gstB, h1, h2, h3, h4], bthen B1.out (by repeat (first | exact Below.refl _ _ | refine bthen ?_ (by assumption) | apply Below.drew | refine Below.alloc ?_ (by first | (simp; done) | (simp; omega)) _))⟩
set_option maxHeartbeats 2000000 in
theorem gstOk_impl (c d f n i a co s l : Int) (w : World) :
    Calls Tryz.prog 127 #[.agg #[.int .i64 c, .int .i64 d], .agg #[.int .i64 f, .int .i64 n, .int .i64 i, .int .i64 a, .int .i64 co, .int .i64 s, .int .i64 l]] w fun e w' => e = .returned (.bool (gstB c d f n i a co s l)) ∧ Below w.heap.size w w' := by
  cases h1 : inB n 0 250
  · go_enter Tryz.func127, Tryz.ntmps127
    go_wp2
    obtain ⟨w0, e0⟩ : ∃ w0, w0 = (w.alloc (.cells #[.int .i64 c, .int .i64 d] 43)).alloc (.cells #[.int .i64 f, .int .i64 n, .int .i64 i, .int .i64 a, .int .i64 co, .int .i64 s, .int .i64 l] 51) := ⟨_, rfl⟩
    have B1 : Hid (Below w.heap.size w w0) := by rw [e0]; exact ((Below.refl _ _).alloc (by simp) _).alloc (by simp) _
    have M2 : Hid (Bk w0 w.heap.size [.int .i64 c, .int .i64 d]) := by rw [e0]; exact (bk_new w 43 [.int .i64 c, .int .i64 d]).below ((Below.refl _ _).alloc (Nat.le_refl _) _)
    have G3 : Hid (Bk w0 (w.heap.size + 1) [.int .i64 f, .int .i64 n, .int .i64 i, .int .i64 a, .int .i64 co, .int .i64 s, .int .i64 l]) := by rw [e0]; have := bk_new (w.alloc (.cells #[.int .i64 c, .int .i64 d] 43)) 51 [.int .i64 f, .int .i64 n, .int .i64 i, .int .i64 a, .int .i64 co, .int .i64 s, .int .i64 l]; rwa [show (w.alloc (.cells #[.int .i64 c, .int .i64 d] 43)).heap.size = w.heap.size + 1 by simp] at this
    rw [← e0]
    clear e0
    obtain ⟨yM0, yM1⟩ := M2.out.a2
    have hlM : w.heap.size < w0.heap.size := M2.out.1
    obtain ⟨yG0, yG1, yG2, yG3, yG4, yG5, yG6⟩ := G3.out.a7
    have hlG : (w.heap.size + 1) < w0.heap.size := G3.out.1
    refine wp_region_held_drew (S := fun w' => (∀ b o, b < w0.heap.size → w'.cell? ⟨b, o, none⟩ = w0.cell? ⟨b, o, none⟩) ∧ w0.heap.size ≤ w'.heap.size) (by kernel_rfl) ⟨fun _ _ _ => rfl, Nat.le_refl _⟩ ?_
    intro hHeld
    refine tkl 0 (.pointer (some ⟨(w.heap.size + 1), 1, none⟩)) rfl ?_ ?_
    · intro wx hSw; go_simp
    try simp only [Act.put, aS]
    refine tkl 1 (.int .i64 n) rfl ?_ ?_
    · intro wx hSw; go_simp
    try simp only [Act.put, aS]
    refine rd1 2 rfl fun K hK => ?_
    go_simp
    go_wp2_with fail
    refine (in_implB _ _ _ _).mono ?_
    rintro e x1 ⟨rfl, hx1⟩
    rw [h1]
    refine hK.out _ _ (keepS (by assumption) hx1) (fun hNew => ?_)
    clear hK K hHeld
    have hHeld := hNew
    clear hNew
    try simp only [Act.put, aS]
    refine tkl 3 (.bool false) rfl ?_ ?_
    · intro wx hSw; go_simp
    try simp only [Act.put, aS]
    refine tkr 4 rfl ?_
    try simp only [Act.put, aS]
    refine tkr 5 rfl ?_
    try simp only [Act.put, aS]
    refine tkr 6 rfl ?_
    try simp only [Act.put, aS]
    refine tkr 7 rfl ?_
    try simp only [Act.put, aS]
    refine tkl 8 (.bool false) rfl ?_ ?_
    · intro wx hSw; go_simp
    try simp only [Act.put, aS]
    refine tkl 9 (.bool false) rfl ?_ ?_
    · intro wx hSw; go_simp
    try simp only [Act.put, aS]
    refine tkr 10 rfl ?_
    try simp only [Act.put, aS]
    refine tkr 11 rfl ?_
    try simp only [Act.put, aS]
    refine tkr 12 rfl ?_
    try simp only [Act.put, aS]
    refine tkr 13 rfl ?_
    try simp only [Act.put, aS]
    refine tkr 14 rfl ?_
    try simp only [Act.put, aS]
    refine tkr 15 rfl ?_
    try simp only [Act.put, aS]
    refine tkl 16 (.bool false) rfl ?_ ?_
    · intro wx hSw; go_simp
    try simp only [Act.put, aS]
    refine tkl 17 (.bool false) rfl ?_ ?_
    · intro wx hSw; go_simp
    try simp only [Act.put, aS]
    refine tkr 18 rfl ?_
    try simp only [Act.put, aS]
    refine tkr 19 rfl ?_
    try simp only [Act.put, aS]
    refine tkr 20 rfl ?_
    try simp only [Act.put, aS]
    refine tkr 21 rfl ?_
    try simp only [Act.put, aS]
    refine tkr 22 rfl ?_
    try simp only [Act.put, aS]
    refine tkr 23 rfl ?_
    try simp only [Act.put, aS]
    refine tkr 24 rfl ?_
    try simp only [Act.put, aS]
    refine tkr 25 rfl ?_
    try simp only [Act.put, aS]
    refine tkl 26 (.bool false) rfl ?_ ?_
    · intro wx hSw; go_simp
    try simp only [Act.put, aS]
    refine tkl 27 (.bool false) rfl ?_ ?_
    · intro wx hSw; go_simp
    try simp only [Act.put, aS]
    refine wpAnyH_done (by kernel_rfl) ?_ _
    clear hHeld
    clear yM0 yM1 hlM yG0 yG1 yG2 yG3 yG4 yG5 yG6 hlG
    go_wp2
    go_ret
    exact ⟨by simp [gstB, h1], bthen B1.out (by repeat (first | exact Below.refl _ _ | refine bthen ?_ (by assumption) | apply Below.drew | refine Below.alloc ?_ (by first | (simp; done) | (simp; omega)) _))⟩
  cases h2 : wlkB c d i a co s l
  · go_enter Tryz.func127, Tryz.ntmps127
    go_wp2
    obtain ⟨w0, e0⟩ : ∃ w0, w0 = (w.alloc (.cells #[.int .i64 c, .int .i64 d] 43)).alloc (.cells #[.int .i64 f, .int .i64 n, .int .i64 i, .int .i64 a, .int .i64 co, .int .i64 s, .int .i64 l] 51) := ⟨_, rfl⟩
    have B1 : Hid (Below w.heap.size w w0) := by rw [e0]; exact ((Below.refl _ _).alloc (by simp) _).alloc (by simp) _
    have M2 : Hid (Bk w0 w.heap.size [.int .i64 c, .int .i64 d]) := by rw [e0]; exact (bk_new w 43 [.int .i64 c, .int .i64 d]).below ((Below.refl _ _).alloc (Nat.le_refl _) _)
    have G3 : Hid (Bk w0 (w.heap.size + 1) [.int .i64 f, .int .i64 n, .int .i64 i, .int .i64 a, .int .i64 co, .int .i64 s, .int .i64 l]) := by rw [e0]; have := bk_new (w.alloc (.cells #[.int .i64 c, .int .i64 d] 43)) 51 [.int .i64 f, .int .i64 n, .int .i64 i, .int .i64 a, .int .i64 co, .int .i64 s, .int .i64 l]; rwa [show (w.alloc (.cells #[.int .i64 c, .int .i64 d] 43)).heap.size = w.heap.size + 1 by simp] at this
    rw [← e0]
    clear e0
    obtain ⟨yM0, yM1⟩ := M2.out.a2
    have hlM : w.heap.size < w0.heap.size := M2.out.1
    obtain ⟨yG0, yG1, yG2, yG3, yG4, yG5, yG6⟩ := G3.out.a7
    have hlG : (w.heap.size + 1) < w0.heap.size := G3.out.1
    refine wp_region_held_drew (S := fun w' => (∀ b o, b < w0.heap.size → w'.cell? ⟨b, o, none⟩ = w0.cell? ⟨b, o, none⟩) ∧ w0.heap.size ≤ w'.heap.size) (by kernel_rfl) ⟨fun _ _ _ => rfl, Nat.le_refl _⟩ ?_
    intro hHeld
    refine tkl 0 (.pointer (some ⟨(w.heap.size + 1), 1, none⟩)) rfl ?_ ?_
    · intro wx hSw; go_simp
    try simp only [Act.put, aS]
    refine tkl 1 (.int .i64 n) rfl ?_ ?_
    · intro wx hSw; go_simp
    try simp only [Act.put, aS]
    refine rd1 2 rfl fun K hK => ?_
    go_simp
    go_wp2_with fail
    refine (in_implB _ _ _ _).mono ?_
    rintro e x1 ⟨rfl, hx1⟩
    rw [h1]
    refine hK.out _ _ (keepS (by assumption) hx1) (fun hNew => ?_)
    clear hK K hHeld
    have hHeld := hNew
    clear hNew
    try simp only [Act.put, aS]
    refine tkl 3 (.bool true) rfl ?_ ?_
    · intro wx hSw; go_simp
    try simp only [Act.put, aS]
    refine tkl 4 (.agg #[.int .i64 c, .int .i64 d]) rfl ?_ ?_
    · intro wx hSw; go_simp
    try simp only [Act.put, aS]
    refine tkl 5 (.pointer (some ⟨(w.heap.size + 1), 2, none⟩)) rfl ?_ ?_
    · intro wx hSw; go_simp
    try simp only [Act.put, aS]
    refine tkl 6 (.agg #[.int .i64 i, .int .i64 a, .int .i64 co, .int .i64 s, .int .i64 l]) rfl ?_ ?_
    · intro wx hSw; go_simp
    try simp only [Act.put, aS]
    refine rd1 7 rfl fun K hK => ?_
    go_simp
    go_wp2_with fail
    refine (wlkOk_impl _ _ _ _ _ _ _ _).mono ?_
    rintro e x2 ⟨rfl, hx2⟩
    rw [h2]
    refine hK.out _ _ (keepS (by assumption) hx2) (fun hNew => ?_)
    clear hK K hHeld
    have hHeld := hNew
    clear hNew
    try simp only [Act.put, aS]
    refine tkl 8 (.bool false) rfl ?_ ?_
    · intro wx hSw; go_simp
    try simp only [Act.put, aS]
    refine tkl 9 (.bool false) rfl ?_ ?_
    · intro wx hSw; go_simp
    try simp only [Act.put, aS]
    refine tkr 10 rfl ?_
    try simp only [Act.put, aS]
    refine tkr 11 rfl ?_
    try simp only [Act.put, aS]
    refine tkr 12 rfl ?_
    try simp only [Act.put, aS]
    refine tkr 13 rfl ?_
    try simp only [Act.put, aS]
    refine tkr 14 rfl ?_
    try simp only [Act.put, aS]
    refine tkr 15 rfl ?_
    try simp only [Act.put, aS]
    refine tkl 16 (.bool false) rfl ?_ ?_
    · intro wx hSw; go_simp
    try simp only [Act.put, aS]
    refine tkl 17 (.bool false) rfl ?_ ?_
    · intro wx hSw; go_simp
    try simp only [Act.put, aS]
    refine tkr 18 rfl ?_
    try simp only [Act.put, aS]
    refine tkr 19 rfl ?_
    try simp only [Act.put, aS]
    refine tkr 20 rfl ?_
    try simp only [Act.put, aS]
    refine tkr 21 rfl ?_
    try simp only [Act.put, aS]
    refine tkr 22 rfl ?_
    try simp only [Act.put, aS]
    refine tkr 23 rfl ?_
    try simp only [Act.put, aS]
    refine tkr 24 rfl ?_
    try simp only [Act.put, aS]
    refine tkr 25 rfl ?_
    try simp only [Act.put, aS]
    refine tkl 26 (.bool false) rfl ?_ ?_
    · intro wx hSw; go_simp
    try simp only [Act.put, aS]
    refine tkl 27 (.bool false) rfl ?_ ?_
    · intro wx hSw; go_simp
    try simp only [Act.put, aS]
    refine wpAnyH_done (by kernel_rfl) ?_ _
    clear hHeld
    clear yM0 yM1 hlM yG0 yG1 yG2 yG3 yG4 yG5 yG6 hlG
    go_wp2
    go_ret
    exact ⟨by simp [gstB, h2], bthen B1.out (by repeat (first | exact Below.refl _ _ | refine bthen ?_ (by assumption) | apply Below.drew | refine Below.alloc ?_ (by first | (simp; done) | (simp; omega)) _))⟩
  cases h3 : (cellF c d a == f)
  · go_enter Tryz.func127, Tryz.ntmps127
    go_wp2
    obtain ⟨w0, e0⟩ : ∃ w0, w0 = (w.alloc (.cells #[.int .i64 c, .int .i64 d] 43)).alloc (.cells #[.int .i64 f, .int .i64 n, .int .i64 i, .int .i64 a, .int .i64 co, .int .i64 s, .int .i64 l] 51) := ⟨_, rfl⟩
    have B1 : Hid (Below w.heap.size w w0) := by rw [e0]; exact ((Below.refl _ _).alloc (by simp) _).alloc (by simp) _
    have M2 : Hid (Bk w0 w.heap.size [.int .i64 c, .int .i64 d]) := by rw [e0]; exact (bk_new w 43 [.int .i64 c, .int .i64 d]).below ((Below.refl _ _).alloc (Nat.le_refl _) _)
    have G3 : Hid (Bk w0 (w.heap.size + 1) [.int .i64 f, .int .i64 n, .int .i64 i, .int .i64 a, .int .i64 co, .int .i64 s, .int .i64 l]) := by rw [e0]; have := bk_new (w.alloc (.cells #[.int .i64 c, .int .i64 d] 43)) 51 [.int .i64 f, .int .i64 n, .int .i64 i, .int .i64 a, .int .i64 co, .int .i64 s, .int .i64 l]; rwa [show (w.alloc (.cells #[.int .i64 c, .int .i64 d] 43)).heap.size = w.heap.size + 1 by simp] at this
    rw [← e0]
    clear e0
    obtain ⟨yM0, yM1⟩ := M2.out.a2
    have hlM : w.heap.size < w0.heap.size := M2.out.1
    obtain ⟨yG0, yG1, yG2, yG3, yG4, yG5, yG6⟩ := G3.out.a7
    have hlG : (w.heap.size + 1) < w0.heap.size := G3.out.1
    refine wp_region_held_drew (S := fun w' => (∀ b o, b < w0.heap.size → w'.cell? ⟨b, o, none⟩ = w0.cell? ⟨b, o, none⟩) ∧ w0.heap.size ≤ w'.heap.size) (by kernel_rfl) ⟨fun _ _ _ => rfl, Nat.le_refl _⟩ ?_
    intro hHeld
    refine tkl 0 (.pointer (some ⟨(w.heap.size + 1), 1, none⟩)) rfl ?_ ?_
    · intro wx hSw; go_simp
    try simp only [Act.put, aS]
    refine tkl 1 (.int .i64 n) rfl ?_ ?_
    · intro wx hSw; go_simp
    try simp only [Act.put, aS]
    refine rd1 2 rfl fun K hK => ?_
    go_simp
    go_wp2_with fail
    refine (in_implB _ _ _ _).mono ?_
    rintro e x1 ⟨rfl, hx1⟩
    rw [h1]
    refine hK.out _ _ (keepS (by assumption) hx1) (fun hNew => ?_)
    clear hK K hHeld
    have hHeld := hNew
    clear hNew
    try simp only [Act.put, aS]
    refine tkl 3 (.bool true) rfl ?_ ?_
    · intro wx hSw; go_simp
    try simp only [Act.put, aS]
    refine tkl 4 (.agg #[.int .i64 c, .int .i64 d]) rfl ?_ ?_
    · intro wx hSw; go_simp
    try simp only [Act.put, aS]
    refine tkl 5 (.pointer (some ⟨(w.heap.size + 1), 2, none⟩)) rfl ?_ ?_
    · intro wx hSw; go_simp
    try simp only [Act.put, aS]
    refine tkl 6 (.agg #[.int .i64 i, .int .i64 a, .int .i64 co, .int .i64 s, .int .i64 l]) rfl ?_ ?_
    · intro wx hSw; go_simp
    try simp only [Act.put, aS]
    refine rd1 7 rfl fun K hK => ?_
    go_simp
    go_wp2_with fail
    refine (wlkOk_impl _ _ _ _ _ _ _ _).mono ?_
    rintro e x2 ⟨rfl, hx2⟩
    rw [h2]
    refine hK.out _ _ (keepS (by assumption) hx2) (fun hNew => ?_)
    clear hK K hHeld
    have hHeld := hNew
    clear hNew
    try simp only [Act.put, aS]
    refine tkl 8 (.bool true) rfl ?_ ?_
    · intro wx hSw; go_simp
    try simp only [Act.put, aS]
    refine tkl 9 (.bool true) rfl ?_ ?_
    · intro wx hSw; go_simp
    try simp only [Act.put, aS]
    refine tkl 10 (.agg #[.int .i64 c, .int .i64 d]) rfl ?_ ?_
    · intro wx hSw; go_simp
    try simp only [Act.put, aS]
    refine tkl 11 (.int .i64 a) rfl ?_ ?_
    · intro wx hSw; go_simp
    try simp only [Act.put, aS]
    refine tkl 13 (.pointer (some ⟨(w.heap.size + 1), 0, none⟩)) rfl ?_ ?_
    · intro wx hSw; go_simp
    try simp only [Act.put, aS]
    refine tkl 14 (.int .i64 f) rfl ?_ ?_
    · intro wx hSw; go_simp
    try simp only [Act.put, aS]
    refine rd1 12 rfl fun K hK => ?_
    go_simp
    go_wp2_with fail
    refine (plcCell_impl _ _ _ _).mono ?_
    rintro e x3 ⟨rfl, hx3⟩
    refine hK.out _ _ (keepS (by assumption) hx3) (fun hNew => ?_)
    clear hK K hHeld
    have hHeld := hNew
    clear hNew
    try simp only [Act.put, aS]
    refine tkl 15 (.bool false) rfl ?_ ?_
    · intro wx hSw; go_simp
    try simp only [Act.put, aS]
    refine tkl 16 (.bool false) rfl ?_ ?_
    · intro wx hSw; go_simp
    try simp only [Act.put, aS]
    refine tkl 17 (.bool false) rfl ?_ ?_
    · intro wx hSw; go_simp
    try simp only [Act.put, aS]
    refine tkr 18 rfl ?_
    try simp only [Act.put, aS]
    refine tkr 19 rfl ?_
    try simp only [Act.put, aS]
    refine tkr 20 rfl ?_
    try simp only [Act.put, aS]
    refine tkr 21 rfl ?_
    try simp only [Act.put, aS]
    refine tkr 22 rfl ?_
    try simp only [Act.put, aS]
    refine tkr 23 rfl ?_
    try simp only [Act.put, aS]
    refine tkr 24 rfl ?_
    try simp only [Act.put, aS]
    refine tkr 25 rfl ?_
    try simp only [Act.put, aS]
    refine tkl 26 (.bool false) rfl ?_ ?_
    · intro wx hSw; go_simp
    try simp only [Act.put, aS]
    refine tkl 27 (.bool false) rfl ?_ ?_
    · intro wx hSw; go_simp
    try simp only [Act.put, aS]
    refine wpAnyH_done (by kernel_rfl) ?_ _
    clear hHeld
    clear yM0 yM1 hlM yG0 yG1 yG2 yG3 yG4 yG5 yG6 hlG
    go_wp2
    go_ret
    exact ⟨by simp [gstB, h3], bthen B1.out (by repeat (first | exact Below.refl _ _ | refine bthen ?_ (by assumption) | apply Below.drew | refine Below.alloc ?_ (by first | (simp; done) | (simp; omega)) _))⟩
  cases h4 : edgeB c d a 0
  · go_enter Tryz.func127, Tryz.ntmps127
    go_wp2
    obtain ⟨w0, e0⟩ : ∃ w0, w0 = (w.alloc (.cells #[.int .i64 c, .int .i64 d] 43)).alloc (.cells #[.int .i64 f, .int .i64 n, .int .i64 i, .int .i64 a, .int .i64 co, .int .i64 s, .int .i64 l] 51) := ⟨_, rfl⟩
    have B1 : Hid (Below w.heap.size w w0) := by rw [e0]; exact ((Below.refl _ _).alloc (by simp) _).alloc (by simp) _
    have M2 : Hid (Bk w0 w.heap.size [.int .i64 c, .int .i64 d]) := by rw [e0]; exact (bk_new w 43 [.int .i64 c, .int .i64 d]).below ((Below.refl _ _).alloc (Nat.le_refl _) _)
    have G3 : Hid (Bk w0 (w.heap.size + 1) [.int .i64 f, .int .i64 n, .int .i64 i, .int .i64 a, .int .i64 co, .int .i64 s, .int .i64 l]) := by rw [e0]; have := bk_new (w.alloc (.cells #[.int .i64 c, .int .i64 d] 43)) 51 [.int .i64 f, .int .i64 n, .int .i64 i, .int .i64 a, .int .i64 co, .int .i64 s, .int .i64 l]; rwa [show (w.alloc (.cells #[.int .i64 c, .int .i64 d] 43)).heap.size = w.heap.size + 1 by simp] at this
    rw [← e0]
    clear e0
    obtain ⟨yM0, yM1⟩ := M2.out.a2
    have hlM : w.heap.size < w0.heap.size := M2.out.1
    obtain ⟨yG0, yG1, yG2, yG3, yG4, yG5, yG6⟩ := G3.out.a7
    have hlG : (w.heap.size + 1) < w0.heap.size := G3.out.1
    refine wp_region_held_drew (S := fun w' => (∀ b o, b < w0.heap.size → w'.cell? ⟨b, o, none⟩ = w0.cell? ⟨b, o, none⟩) ∧ w0.heap.size ≤ w'.heap.size) (by kernel_rfl) ⟨fun _ _ _ => rfl, Nat.le_refl _⟩ ?_
    intro hHeld
    refine tkl 0 (.pointer (some ⟨(w.heap.size + 1), 1, none⟩)) rfl ?_ ?_
    · intro wx hSw; go_simp
    try simp only [Act.put, aS]
    refine tkl 1 (.int .i64 n) rfl ?_ ?_
    · intro wx hSw; go_simp
    try simp only [Act.put, aS]
    refine rd1 2 rfl fun K hK => ?_
    go_simp
    go_wp2_with fail
    refine (in_implB _ _ _ _).mono ?_
    rintro e x1 ⟨rfl, hx1⟩
    rw [h1]
    refine hK.out _ _ (keepS (by assumption) hx1) (fun hNew => ?_)
    clear hK K hHeld
    have hHeld := hNew
    clear hNew
    try simp only [Act.put, aS]
    refine tkl 3 (.bool true) rfl ?_ ?_
    · intro wx hSw; go_simp
    try simp only [Act.put, aS]
    refine tkl 4 (.agg #[.int .i64 c, .int .i64 d]) rfl ?_ ?_
    · intro wx hSw; go_simp
    try simp only [Act.put, aS]
    refine tkl 5 (.pointer (some ⟨(w.heap.size + 1), 2, none⟩)) rfl ?_ ?_
    · intro wx hSw; go_simp
    try simp only [Act.put, aS]
    refine tkl 6 (.agg #[.int .i64 i, .int .i64 a, .int .i64 co, .int .i64 s, .int .i64 l]) rfl ?_ ?_
    · intro wx hSw; go_simp
    try simp only [Act.put, aS]
    refine rd1 7 rfl fun K hK => ?_
    go_simp
    go_wp2_with fail
    refine (wlkOk_impl _ _ _ _ _ _ _ _).mono ?_
    rintro e x2 ⟨rfl, hx2⟩
    rw [h2]
    refine hK.out _ _ (keepS (by assumption) hx2) (fun hNew => ?_)
    clear hK K hHeld
    have hHeld := hNew
    clear hNew
    try simp only [Act.put, aS]
    refine tkl 8 (.bool true) rfl ?_ ?_
    · intro wx hSw; go_simp
    try simp only [Act.put, aS]
    refine tkl 9 (.bool true) rfl ?_ ?_
    · intro wx hSw; go_simp
    try simp only [Act.put, aS]
    refine tkl 10 (.agg #[.int .i64 c, .int .i64 d]) rfl ?_ ?_
    · intro wx hSw; go_simp
    try simp only [Act.put, aS]
    refine tkl 11 (.int .i64 a) rfl ?_ ?_
    · intro wx hSw; go_simp
    try simp only [Act.put, aS]
    refine tkl 13 (.pointer (some ⟨(w.heap.size + 1), 0, none⟩)) rfl ?_ ?_
    · intro wx hSw; go_simp
    try simp only [Act.put, aS]
    refine tkl 14 (.int .i64 f) rfl ?_ ?_
    · intro wx hSw; go_simp
    try simp only [Act.put, aS]
    refine rd1 12 rfl fun K hK => ?_
    go_simp
    go_wp2_with fail
    refine (plcCell_impl _ _ _ _).mono ?_
    rintro e x3 ⟨rfl, hx3⟩
    refine hK.out _ _ (keepS (by assumption) hx3) (fun hNew => ?_)
    clear hK K hHeld
    have hHeld := hNew
    clear hNew
    try simp only [Act.put, aS]
    refine tkl 15 (.bool true) rfl ?_ ?_
    · intro wx hSw; go_simp
    try simp only [Act.put, aS]
    refine tkl 16 (.bool true) rfl ?_ ?_
    · intro wx hSw; go_simp
    try simp only [Act.put, aS]
    refine tkl 17 (.bool true) rfl ?_ ?_
    · intro wx hSw; go_simp
    try simp only [Act.put, aS]
    refine tkl 18 (.agg #[.int .i64 c, .int .i64 d]) rfl ?_ ?_
    · intro wx hSw; go_simp
    try simp only [Act.put, aS]
    refine tkl 19 (.int .i64 a) rfl ?_ ?_
    · intro wx hSw; go_simp
    try simp only [Act.put, aS]
    refine rd1 20 rfl fun K hK => ?_
    go_simp
    go_wp2_with fail
    refine (plcEdge_impl _ _ _ _ _).mono ?_
    rintro e x4 ⟨rfl, hx4⟩
    rw [h4]
    refine hK.out _ _ (keepS (by assumption) hx4) (fun hNew => ?_)
    clear hK K hHeld
    have hHeld := hNew
    clear hNew
    try simp only [Act.put, aS]
    refine tkl 21 (.bool false) rfl ?_ ?_
    · intro wx hSw; go_simp
    try simp only [Act.put, aS]
    refine tkl 22 (.agg #[.int .i64 c, .int .i64 d]) rfl ?_ ?_
    · intro wx hSw; go_simp
    try simp only [Act.put, aS]
    refine tkl 23 (.int .i64 a) rfl ?_ ?_
    · intro wx hSw; go_simp
    try simp only [Act.put, aS]
    refine rd1 24 rfl fun K hK => ?_
    go_simp
    go_wp2_with fail
    refine (plcEdge_impl _ _ _ _ _).mono ?_
    rintro e x5 ⟨rfl, hx5⟩
    refine hK.out _ _ (keepS (by assumption) hx5) (fun hNew => ?_)
    clear hK K hHeld
    have hHeld := hNew
    clear hNew
    try simp only [Act.put, aS]
    refine tkl 25 (.bool (edgeB c d a 1)) rfl ?_ ?_
    · intro wx hSw; go_simp
    try simp only [Act.put, aS]
    refine tkl 26 (.bool (edgeB c d a 1)) rfl ?_ ?_
    · intro wx hSw; go_simp
    try simp only [Act.put, aS]
    refine tkl 27 (.bool (edgeB c d a 1)) rfl ?_ ?_
    · intro wx hSw; go_simp
    try simp only [Act.put, aS]
    refine wpAnyH_done (by kernel_rfl) ?_ _
    clear hHeld
    clear yM0 yM1 hlM yG0 yG1 yG2 yG3 yG4 yG5 yG6 hlG
    go_wp2
    go_ret
    exact ⟨by simp [gstB, h1, h2, h3, h4], bthen B1.out (by repeat (first | exact Below.refl _ _ | refine bthen ?_ (by assumption) | apply Below.drew | refine Below.alloc ?_ (by first | (simp; done) | (simp; omega)) _))⟩
  · go_enter Tryz.func127, Tryz.ntmps127
    go_wp2
    obtain ⟨w0, e0⟩ : ∃ w0, w0 = (w.alloc (.cells #[.int .i64 c, .int .i64 d] 43)).alloc (.cells #[.int .i64 f, .int .i64 n, .int .i64 i, .int .i64 a, .int .i64 co, .int .i64 s, .int .i64 l] 51) := ⟨_, rfl⟩
    have B1 : Hid (Below w.heap.size w w0) := by rw [e0]; exact ((Below.refl _ _).alloc (by simp) _).alloc (by simp) _
    have M2 : Hid (Bk w0 w.heap.size [.int .i64 c, .int .i64 d]) := by rw [e0]; exact (bk_new w 43 [.int .i64 c, .int .i64 d]).below ((Below.refl _ _).alloc (Nat.le_refl _) _)
    have G3 : Hid (Bk w0 (w.heap.size + 1) [.int .i64 f, .int .i64 n, .int .i64 i, .int .i64 a, .int .i64 co, .int .i64 s, .int .i64 l]) := by rw [e0]; have := bk_new (w.alloc (.cells #[.int .i64 c, .int .i64 d] 43)) 51 [.int .i64 f, .int .i64 n, .int .i64 i, .int .i64 a, .int .i64 co, .int .i64 s, .int .i64 l]; rwa [show (w.alloc (.cells #[.int .i64 c, .int .i64 d] 43)).heap.size = w.heap.size + 1 by simp] at this
    rw [← e0]
    clear e0
    obtain ⟨yM0, yM1⟩ := M2.out.a2
    have hlM : w.heap.size < w0.heap.size := M2.out.1
    obtain ⟨yG0, yG1, yG2, yG3, yG4, yG5, yG6⟩ := G3.out.a7
    have hlG : (w.heap.size + 1) < w0.heap.size := G3.out.1
    refine wp_region_held_drew (S := fun w' => (∀ b o, b < w0.heap.size → w'.cell? ⟨b, o, none⟩ = w0.cell? ⟨b, o, none⟩) ∧ w0.heap.size ≤ w'.heap.size) (by kernel_rfl) ⟨fun _ _ _ => rfl, Nat.le_refl _⟩ ?_
    intro hHeld
    refine tkl 0 (.pointer (some ⟨(w.heap.size + 1), 1, none⟩)) rfl ?_ ?_
    · intro wx hSw; go_simp
    try simp only [Act.put, aS]
    refine tkl 1 (.int .i64 n) rfl ?_ ?_
    · intro wx hSw; go_simp
    try simp only [Act.put, aS]
    refine rd1 2 rfl fun K hK => ?_
    go_simp
    go_wp2_with fail
    refine (in_implB _ _ _ _).mono ?_
    rintro e x1 ⟨rfl, hx1⟩
    rw [h1]
    refine hK.out _ _ (keepS (by assumption) hx1) (fun hNew => ?_)
    clear hK K hHeld
    have hHeld := hNew
    clear hNew
    try simp only [Act.put, aS]
    refine tkl 3 (.bool true) rfl ?_ ?_
    · intro wx hSw; go_simp
    try simp only [Act.put, aS]
    refine tkl 4 (.agg #[.int .i64 c, .int .i64 d]) rfl ?_ ?_
    · intro wx hSw; go_simp
    try simp only [Act.put, aS]
    refine tkl 5 (.pointer (some ⟨(w.heap.size + 1), 2, none⟩)) rfl ?_ ?_
    · intro wx hSw; go_simp
    try simp only [Act.put, aS]
    refine tkl 6 (.agg #[.int .i64 i, .int .i64 a, .int .i64 co, .int .i64 s, .int .i64 l]) rfl ?_ ?_
    · intro wx hSw; go_simp
    try simp only [Act.put, aS]
    refine rd1 7 rfl fun K hK => ?_
    go_simp
    go_wp2_with fail
    refine (wlkOk_impl _ _ _ _ _ _ _ _).mono ?_
    rintro e x2 ⟨rfl, hx2⟩
    rw [h2]
    refine hK.out _ _ (keepS (by assumption) hx2) (fun hNew => ?_)
    clear hK K hHeld
    have hHeld := hNew
    clear hNew
    try simp only [Act.put, aS]
    refine tkl 8 (.bool true) rfl ?_ ?_
    · intro wx hSw; go_simp
    try simp only [Act.put, aS]
    refine tkl 9 (.bool true) rfl ?_ ?_
    · intro wx hSw; go_simp
    try simp only [Act.put, aS]
    refine tkl 10 (.agg #[.int .i64 c, .int .i64 d]) rfl ?_ ?_
    · intro wx hSw; go_simp
    try simp only [Act.put, aS]
    refine tkl 11 (.int .i64 a) rfl ?_ ?_
    · intro wx hSw; go_simp
    try simp only [Act.put, aS]
    refine tkl 13 (.pointer (some ⟨(w.heap.size + 1), 0, none⟩)) rfl ?_ ?_
    · intro wx hSw; go_simp
    try simp only [Act.put, aS]
    refine tkl 14 (.int .i64 f) rfl ?_ ?_
    · intro wx hSw; go_simp
    try simp only [Act.put, aS]
    refine rd1 12 rfl fun K hK => ?_
    go_simp
    go_wp2_with fail
    refine (plcCell_impl _ _ _ _).mono ?_
    rintro e x3 ⟨rfl, hx3⟩
    refine hK.out _ _ (keepS (by assumption) hx3) (fun hNew => ?_)
    clear hK K hHeld
    have hHeld := hNew
    clear hNew
    try simp only [Act.put, aS]
    refine tkl 15 (.bool true) rfl ?_ ?_
    · intro wx hSw; go_simp
    try simp only [Act.put, aS]
    refine tkl 16 (.bool true) rfl ?_ ?_
    · intro wx hSw; go_simp
    try simp only [Act.put, aS]
    refine tkl 17 (.bool true) rfl ?_ ?_
    · intro wx hSw; go_simp
    try simp only [Act.put, aS]
    refine tkl 18 (.agg #[.int .i64 c, .int .i64 d]) rfl ?_ ?_
    · intro wx hSw; go_simp
    try simp only [Act.put, aS]
    refine tkl 19 (.int .i64 a) rfl ?_ ?_
    · intro wx hSw; go_simp
    try simp only [Act.put, aS]
    refine rd1 20 rfl fun K hK => ?_
    go_simp
    go_wp2_with fail
    refine (plcEdge_impl _ _ _ _ _).mono ?_
    rintro e x4 ⟨rfl, hx4⟩
    rw [h4]
    refine hK.out _ _ (keepS (by assumption) hx4) (fun hNew => ?_)
    clear hK K hHeld
    have hHeld := hNew
    clear hNew
    try simp only [Act.put, aS]
    refine tkl 21 (.bool true) rfl ?_ ?_
    · intro wx hSw; go_simp
    try simp only [Act.put, aS]
    refine tkr 22 rfl ?_
    try simp only [Act.put, aS]
    refine tkr 23 rfl ?_
    try simp only [Act.put, aS]
    refine tkr 24 rfl ?_
    try simp only [Act.put, aS]
    refine tkl 25 (.bool true) rfl ?_ ?_
    · intro wx hSw; go_simp
    try simp only [Act.put, aS]
    refine tkl 26 (.bool true) rfl ?_ ?_
    · intro wx hSw; go_simp
    try simp only [Act.put, aS]
    refine tkl 27 (.bool true) rfl ?_ ?_
    · intro wx hSw; go_simp
    try simp only [Act.put, aS]
    refine wpAnyH_done (by kernel_rfl) ?_ _
    clear hHeld
    clear yM0 yM1 hlM yG0 yG1 yG2 yG3 yG4 yG5 yG6 hlG
    go_wp2
    go_ret
    exact ⟨by simp [gstB, h1, h2, h3, h4], bthen B1.out (by repeat (first | exact Below.refl _ _ | refine bthen ?_ (by assumption) | apply Below.drew | refine Below.alloc ?_ (by first | (simp; done) | (simp; omega)) _))⟩
end Go.Proofs.YtgjapdjidighlabGreat
