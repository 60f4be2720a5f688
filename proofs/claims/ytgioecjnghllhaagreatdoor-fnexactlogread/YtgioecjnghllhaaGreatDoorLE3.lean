/- What is carried: LogText of both sides; conditions: those typed. -/
import Derived.WalkKit
import Derived.ProofKit
import Derived.OpenShut
import Derived.Below
import Derived.BigQuiet
import Derived.Deep.OwnRows
import Derived.Laws.AppendOwn
import Derived.WalkSpells
import Derived.LoopTactic
import Derived.Lib.ItoaNum
import Derived.Lib.AppendIntMem
import Derived.Deep.RegionHeld3
import Derived.Deep.QuietTactic
import Derived.Deep.Cut
import Derived.Test.YtgioecjnghllhaaGreatDoorLE1
namespace Go.Proofs.YtgioecjnghllhaaGreatDoor
open Go.RowKit Go.Deep
set_option linter.unusedVariables false
set_option maxRecDepth 20000 in
set_option maxHeartbeats 4000000 in
theorem logText_impl2 (r : Nat → Int) (w : World) (ht : Lib.TabBelow Tryz.prog w.heap.size w "internal/strconv.uint64pow10" .u64 Lib.pow10Tab) :
    Calls Tryz.prog 15 #[.agg #[.int .i64 2, .int .i64 (r 1), .int .i64 (r 2), .int .i64 (r 3), .int .i64 (r 4), .int .i64 (r 5), .int .i64 (r 6), .int .i64 (r 7), .int .i64 (r 8), .int .i64 (r 9), .int .i64 (r 10), .int .i64 (r 11), .int .i64 (r 12), .int .i64 (r 13), .int .i64 (r 14), .int .i64 (r 15)]] w fun e w' => e = .returned (.string (logText 2 r)) ∧ Below w.heap.size w w' := by
  have HT : Hid (Lib.TabBelow Tryz.prog w.heap.size w "internal/strconv.uint64pow10" .u64 Lib.pow10Tab) := ht
  clear ht
  cases hk : eqK2 r
  · have hv : logText 2 r = ⟨#[]⟩ := by simp [logText, hk]
    rw [hv]
    have HK : Hid (eqK2 r = false) := hk
    clear hk hv
    go_enter Tryz.func15, Tryz.ntmps15
    go_upto_region 1 with fail
    obtain ⟨w0, e0⟩ : ∃ y, y = w.alloc (.cells #[.int .i64 2, .int .i64 (r 1), .int .i64 (r 2), .int .i64 (r 3), .int .i64 (r 4), .int .i64 (r 5), .int .i64 (r 6), .int .i64 (r 7), .int .i64 (r 8), .int .i64 (r 9), .int .i64 (r 10), .int .i64 (r 11), .int .i64 (r 12), .int .i64 (r 13), .int .i64 (r 14), .int .i64 (r 15)] 29) := ⟨_, rfl⟩
    have B1 : Hid (Below w.heap.size w w0) := by rw [e0]; exact (Below.refl _ _).alloc (by simp) _
    have R2 : Hid (Bk w0 w.heap.size [.int .i64 2, .int .i64 (r 1), .int .i64 (r 2), .int .i64 (r 3), .int .i64 (r 4), .int .i64 (r 5), .int .i64 (r 6), .int .i64 (r 7), .int .i64 (r 8), .int .i64 (r 9), .int .i64 (r 10), .int .i64 (r 11), .int .i64 (r 12), .int .i64 (r 13), .int .i64 (r 14), .int .i64 (r 15)]) := by rw [e0]; exact bk_new w 29 [.int .i64 2, .int .i64 (r 1), .int .i64 (r 2), .int .i64 (r 3), .int .i64 (r 4), .int .i64 (r 5), .int .i64 (r 6), .int .i64 (r 7), .int .i64 (r 8), .int .i64 (r 9), .int .i64 (r 10), .int .i64 (r 11), .int .i64 (r 12), .int .i64 (r 13), .int .i64 (r 14), .int .i64 (r 15)]
    rw [← e0]
    clear e0
    have yR0 : w0.cell? ⟨w.heap.size, 0, none⟩ = some (.int .i64 2) := (R2.out.2 0 (by simp)).1
    have yR1 : w0.cell? ⟨w.heap.size, 1, none⟩ = some (.int .i64 (r 1)) := (R2.out.2 1 (by simp)).1
    have yR2 : w0.cell? ⟨w.heap.size, 2, none⟩ = some (.int .i64 (r 2)) := (R2.out.2 2 (by simp)).1
    have yR3 : w0.cell? ⟨w.heap.size, 3, none⟩ = some (.int .i64 (r 3)) := (R2.out.2 3 (by simp)).1
    have yR4 : w0.cell? ⟨w.heap.size, 4, none⟩ = some (.int .i64 (r 4)) := (R2.out.2 4 (by simp)).1
    have yR5 : w0.cell? ⟨w.heap.size, 5, none⟩ = some (.int .i64 (r 5)) := (R2.out.2 5 (by simp)).1
    have yR6 : w0.cell? ⟨w.heap.size, 6, none⟩ = some (.int .i64 (r 6)) := (R2.out.2 6 (by simp)).1
    have yR7 : w0.cell? ⟨w.heap.size, 7, none⟩ = some (.int .i64 (r 7)) := (R2.out.2 7 (by simp)).1
    have yR8 : w0.cell? ⟨w.heap.size, 8, none⟩ = some (.int .i64 (r 8)) := (R2.out.2 8 (by simp)).1
    have yR9 : w0.cell? ⟨w.heap.size, 9, none⟩ = some (.int .i64 (r 9)) := (R2.out.2 9 (by simp)).1
    have yR10 : w0.cell? ⟨w.heap.size, 10, none⟩ = some (.int .i64 (r 10)) := (R2.out.2 10 (by simp)).1
    have yR11 : w0.cell? ⟨w.heap.size, 11, none⟩ = some (.int .i64 (r 11)) := (R2.out.2 11 (by simp)).1
    have yR12 : w0.cell? ⟨w.heap.size, 12, none⟩ = some (.int .i64 (r 12)) := (R2.out.2 12 (by simp)).1
    have yR13 : w0.cell? ⟨w.heap.size, 13, none⟩ = some (.int .i64 (r 13)) := (R2.out.2 13 (by simp)).1
    have yR14 : w0.cell? ⟨w.heap.size, 14, none⟩ = some (.int .i64 (r 14)) := (R2.out.2 14 (by simp)).1
    have yR15 : w0.cell? ⟨w.heap.size, 15, none⟩ = some (.int .i64 (r 15)) := (R2.out.2 15 (by simp)).1
    have hlR : w.heap.size < w0.heap.size := R2.out.1
    refine wp_region_held_drew (S := fun w' => (∀ b o, b < w0.heap.size → w'.cell? ⟨b, o, none⟩ = w0.cell? ⟨b, o, none⟩) ∧ w0.heap.size ≤ w'.heap.size) (by kernel_rfl) ⟨fun _ _ _ => rfl, Nat.le_refl _⟩ ?_
    intro hHeld
    refine wpAnyH_take (i := 0) (v := .agg #[.int .i64 2, .int .i64 (r 1), .int .i64 (r 2), .int .i64 (r 3), .int .i64 (r 4), .int .i64 (r 5), .int .i64 (r 6), .int .i64 (r 7), .int .i64 (r 8), .int .i64 (r 9), .int .i64 (r 10), .int .i64 (r 11), .int .i64 (r 12), .int .i64 (r 13), .int .i64 (r 14), .int .i64 (r 15)]) rfl (by kernel_rfl) (by kernel_rfl) (by kernel_rfl) (fun _ _ _ h => h) (Or.inl ⟨by rfl, ?_⟩) (by assumption) ?_
    · intro wx hSw; go_simp
    try simp only [Act.put, List.setIfInBounds_toArray, List.set_cons_zero, List.set_cons_succ, List.getElem_toArray, List.getElem_cons_zero]
    refine wpAnyH_take (i := 1) (v := .agg #[.int .i64 2, .int .i64 (r 1), .int .i64 (r 2), .int .i64 (r 3), .int .i64 (r 4), .int .i64 (r 5), .int .i64 (r 6), .int .i64 (r 7), .int .i64 (r 8), .int .i64 (r 9), .int .i64 (r 10), .int .i64 (r 11), .int .i64 (r 12), .int .i64 (r 13), .int .i64 (r 14), .int .i64 (r 15)]) rfl (by kernel_rfl) (by kernel_rfl) (by kernel_rfl) (fun _ _ _ h => h) (Or.inl ⟨by rfl, ?_⟩) (by assumption) ?_
    · intro wx hSw; go_simp
    try simp only [Act.put, List.setIfInBounds_toArray, List.set_cons_zero, List.set_cons_succ, List.getElem_toArray, List.getElem_cons_zero, List.getElem_cons_succ]
    refine wpAnyH_ready (rs := [2]) (by kernel_rfl) (by simp) ?_
    refine AllReadyH.cons rfl (fun K hK => ?_) AllReadyH.nil
    go_simp
    go_wp2_with fail
    refine (ofKind2 r _).mono ?_
    rintro e x1 ⟨rfl, hx1⟩
    refine hK.out _ _ (keepS (by assumption) hx1) (fun hNew => ?_)
    clear hK K hHeld
    have hHeld := hNew
    clear hNew
    try simp only [Act.put, List.setIfInBounds_toArray, List.set_cons_zero, List.set_cons_succ, List.getElem_toArray, List.getElem_cons_zero, List.getElem_cons_succ]
    refine wpAnyH_take (i := 3) (v := .bool (!eqK2 r)) rfl (by kernel_rfl) (by kernel_rfl) (by kernel_rfl) (fun _ _ _ h => h) (Or.inl ⟨by rfl, ?_⟩) (by assumption) ?_
    · intro wx hSw; go_simp; exact qk2 r wx
    try simp only [Act.put, List.setIfInBounds_toArray, List.set_cons_zero, List.set_cons_succ, List.getElem_toArray, List.getElem_cons_zero, List.getElem_cons_succ]
    refine wpAnyH_done (by kernel_rfl) ?_ _
    clear hHeld
    have hb1 : Below w0.heap.size w0 x1 := by repeat (first | exact Below.refl _ _ | refine bthen ?_ (by assumption) | apply Below.drew)
    clear yR0 yR1 yR2 yR3 yR4 yR5 yR6 yR7 yR8 yR9 yR10 yR11 yR12 yR13 yR14 yR15 hlR
    have B3 : Hid (Below w.heap.size w x1) := bthen B1.out hb1
    have R3 : Hid (Bk x1 w.heap.size [.int .i64 2, .int .i64 (r 1), .int .i64 (r 2), .int .i64 (r 3), .int .i64 (r 4), .int .i64 (r 5), .int .i64 (r 6), .int .i64 (r 7), .int .i64 (r 8), .int .i64 (r 9), .int .i64 (r 10), .int .i64 (r 11), .int .i64 (r 12), .int .i64 (r 13), .int .i64 (r 14), .int .i64 (r 15)]) := R2.out.below hb1
    clear B1 R2
    clear hb1 hx1
    rw [HK.out]
    go_wp2
    go_ret
    exact ⟨rfl, B3.out⟩
  · have hv : logText 2 r = sentB [⟨#[105, 110]⟩, wordOf (r 6), (pclText (r 7) (r 8) (r 9) (r 10) (r 11) (r 12) (r 13) (r 14))] := by simp [logText, hk]
    rw [hv]
    have HK : Hid (eqK2 r = true) := hk
    clear hk hv
    obtain ⟨wd, ewd⟩ : ∃ t, t = wordOf (r 6) := ⟨_, rfl⟩
    rw [← ewd]
    have EWD : Hid (wd = wordOf (r 6)) := ewd
    clear ewd
    obtain ⟨tx, etx⟩ : ∃ t, t = pclText (r 7) (r 8) (r 9) (r 10) (r 11) (r 12) (r 13) (r 14) := ⟨_, rfl⟩
    rw [← etx]
    have ETX : Hid (tx = pclText (r 7) (r 8) (r 9) (r 10) (r 11) (r 12) (r 13) (r 14)) := etx
    clear etx
    go_enter Tryz.func15, Tryz.ntmps15
    go_upto_region 1 with fail
    obtain ⟨w0, e0⟩ : ∃ y, y = w.alloc (.cells #[.int .i64 2, .int .i64 (r 1), .int .i64 (r 2), .int .i64 (r 3), .int .i64 (r 4), .int .i64 (r 5), .int .i64 (r 6), .int .i64 (r 7), .int .i64 (r 8), .int .i64 (r 9), .int .i64 (r 10), .int .i64 (r 11), .int .i64 (r 12), .int .i64 (r 13), .int .i64 (r 14), .int .i64 (r 15)] 29) := ⟨_, rfl⟩
    have B4 : Hid (Below w.heap.size w w0) := by rw [e0]; exact (Below.refl _ _).alloc (by simp) _
    have R5 : Hid (Bk w0 w.heap.size [.int .i64 2, .int .i64 (r 1), .int .i64 (r 2), .int .i64 (r 3), .int .i64 (r 4), .int .i64 (r 5), .int .i64 (r 6), .int .i64 (r 7), .int .i64 (r 8), .int .i64 (r 9), .int .i64 (r 10), .int .i64 (r 11), .int .i64 (r 12), .int .i64 (r 13), .int .i64 (r 14), .int .i64 (r 15)]) := by rw [e0]; exact bk_new w 29 [.int .i64 2, .int .i64 (r 1), .int .i64 (r 2), .int .i64 (r 3), .int .i64 (r 4), .int .i64 (r 5), .int .i64 (r 6), .int .i64 (r 7), .int .i64 (r 8), .int .i64 (r 9), .int .i64 (r 10), .int .i64 (r 11), .int .i64 (r 12), .int .i64 (r 13), .int .i64 (r 14), .int .i64 (r 15)]
    rw [← e0]
    clear e0
    have yR0 : w0.cell? ⟨w.heap.size, 0, none⟩ = some (.int .i64 2) := (R5.out.2 0 (by simp)).1
    have yR1 : w0.cell? ⟨w.heap.size, 1, none⟩ = some (.int .i64 (r 1)) := (R5.out.2 1 (by simp)).1
    have yR2 : w0.cell? ⟨w.heap.size, 2, none⟩ = some (.int .i64 (r 2)) := (R5.out.2 2 (by simp)).1
    have yR3 : w0.cell? ⟨w.heap.size, 3, none⟩ = some (.int .i64 (r 3)) := (R5.out.2 3 (by simp)).1
    have yR4 : w0.cell? ⟨w.heap.size, 4, none⟩ = some (.int .i64 (r 4)) := (R5.out.2 4 (by simp)).1
    have yR5 : w0.cell? ⟨w.heap.size, 5, none⟩ = some (.int .i64 (r 5)) := (R5.out.2 5 (by simp)).1
    have yR6 : w0.cell? ⟨w.heap.size, 6, none⟩ = some (.int .i64 (r 6)) := (R5.out.2 6 (by simp)).1
    have yR7 : w0.cell? ⟨w.heap.size, 7, none⟩ = some (.int .i64 (r 7)) := (R5.out.2 7 (by simp)).1
    have yR8 : w0.cell? ⟨w.heap.size, 8, none⟩ = some (.int .i64 (r 8)) := (R5.out.2 8 (by simp)).1
    have yR9 : w0.cell? ⟨w.heap.size, 9, none⟩ = some (.int .i64 (r 9)) := (R5.out.2 9 (by simp)).1
    have yR10 : w0.cell? ⟨w.heap.size, 10, none⟩ = some (.int .i64 (r 10)) := (R5.out.2 10 (by simp)).1
    have yR11 : w0.cell? ⟨w.heap.size, 11, none⟩ = some (.int .i64 (r 11)) := (R5.out.2 11 (by simp)).1
    have yR12 : w0.cell? ⟨w.heap.size, 12, none⟩ = some (.int .i64 (r 12)) := (R5.out.2 12 (by simp)).1
    have yR13 : w0.cell? ⟨w.heap.size, 13, none⟩ = some (.int .i64 (r 13)) := (R5.out.2 13 (by simp)).1
    have yR14 : w0.cell? ⟨w.heap.size, 14, none⟩ = some (.int .i64 (r 14)) := (R5.out.2 14 (by simp)).1
    have yR15 : w0.cell? ⟨w.heap.size, 15, none⟩ = some (.int .i64 (r 15)) := (R5.out.2 15 (by simp)).1
    have hlR : w.heap.size < w0.heap.size := R5.out.1
    refine wp_region_held_drew (S := fun w' => (∀ b o, b < w0.heap.size → w'.cell? ⟨b, o, none⟩ = w0.cell? ⟨b, o, none⟩) ∧ w0.heap.size ≤ w'.heap.size) (by kernel_rfl) ⟨fun _ _ _ => rfl, Nat.le_refl _⟩ ?_
    intro hHeld
    refine wpAnyH_take (i := 0) (v := .agg #[.int .i64 2, .int .i64 (r 1), .int .i64 (r 2), .int .i64 (r 3), .int .i64 (r 4), .int .i64 (r 5), .int .i64 (r 6), .int .i64 (r 7), .int .i64 (r 8), .int .i64 (r 9), .int .i64 (r 10), .int .i64 (r 11), .int .i64 (r 12), .int .i64 (r 13), .int .i64 (r 14), .int .i64 (r 15)]) rfl (by kernel_rfl) (by kernel_rfl) (by kernel_rfl) (fun _ _ _ h => h) (Or.inl ⟨by rfl, ?_⟩) (by assumption) ?_
    · intro wx hSw; go_simp
    try simp only [Act.put, List.setIfInBounds_toArray, List.set_cons_zero, List.set_cons_succ, List.getElem_toArray, List.getElem_cons_zero]
    refine wpAnyH_take (i := 1) (v := .agg #[.int .i64 2, .int .i64 (r 1), .int .i64 (r 2), .int .i64 (r 3), .int .i64 (r 4), .int .i64 (r 5), .int .i64 (r 6), .int .i64 (r 7), .int .i64 (r 8), .int .i64 (r 9), .int .i64 (r 10), .int .i64 (r 11), .int .i64 (r 12), .int .i64 (r 13), .int .i64 (r 14), .int .i64 (r 15)]) rfl (by kernel_rfl) (by kernel_rfl) (by kernel_rfl) (fun _ _ _ h => h) (Or.inl ⟨by rfl, ?_⟩) (by assumption) ?_
    · intro wx hSw; go_simp
    try simp only [Act.put, List.setIfInBounds_toArray, List.set_cons_zero, List.set_cons_succ, List.getElem_toArray, List.getElem_cons_zero, List.getElem_cons_succ]
    refine wpAnyH_ready (rs := [2]) (by kernel_rfl) (by simp) ?_
    refine AllReadyH.cons rfl (fun K hK => ?_) AllReadyH.nil
    go_simp
    go_wp2_with fail
    refine (ofKind2 r _).mono ?_
    rintro e x1 ⟨rfl, hx1⟩
    refine hK.out _ _ (keepS (by assumption) hx1) (fun hNew => ?_)
    clear hK K hHeld
    have hHeld := hNew
    clear hNew
    try simp only [Act.put, List.setIfInBounds_toArray, List.set_cons_zero, List.set_cons_succ, List.getElem_toArray, List.getElem_cons_zero, List.getElem_cons_succ]
    refine wpAnyH_take (i := 3) (v := .bool (!eqK2 r)) rfl (by kernel_rfl) (by kernel_rfl) (by kernel_rfl) (fun _ _ _ h => h) (Or.inl ⟨by rfl, ?_⟩) (by assumption) ?_
    · intro wx hSw; go_simp; exact qk2 r wx
    try simp only [Act.put, List.setIfInBounds_toArray, List.set_cons_zero, List.set_cons_succ, List.getElem_toArray, List.getElem_cons_zero, List.getElem_cons_succ]
    refine wpAnyH_done (by kernel_rfl) ?_ _
    clear hHeld
    have hb1 : Below w0.heap.size w0 x1 := by repeat (first | exact Below.refl _ _ | refine bthen ?_ (by assumption) | apply Below.drew)
    clear yR0 yR1 yR2 yR3 yR4 yR5 yR6 yR7 yR8 yR9 yR10 yR11 yR12 yR13 yR14 yR15 hlR
    have B6 : Hid (Below w.heap.size w x1) := bthen B4.out hb1
    have R6 : Hid (Bk x1 w.heap.size [.int .i64 2, .int .i64 (r 1), .int .i64 (r 2), .int .i64 (r 3), .int .i64 (r 4), .int .i64 (r 5), .int .i64 (r 6), .int .i64 (r 7), .int .i64 (r 8), .int .i64 (r 9), .int .i64 (r 10), .int .i64 (r 11), .int .i64 (r 12), .int .i64 (r 13), .int .i64 (r 14), .int .i64 (r 15)]) := R5.out.below hb1
    clear B4 R5
    clear hb1 hx1
    rw [HK.out]
    have yR0 : x1.cell? ⟨w.heap.size, 0, none⟩ = some (.int .i64 2) := (R6.out.2 0 (by simp)).1
    have yR1 : x1.cell? ⟨w.heap.size, 1, none⟩ = some (.int .i64 (r 1)) := (R6.out.2 1 (by simp)).1
    have yR2 : x1.cell? ⟨w.heap.size, 2, none⟩ = some (.int .i64 (r 2)) := (R6.out.2 2 (by simp)).1
    have yR3 : x1.cell? ⟨w.heap.size, 3, none⟩ = some (.int .i64 (r 3)) := (R6.out.2 3 (by simp)).1
    have yR4 : x1.cell? ⟨w.heap.size, 4, none⟩ = some (.int .i64 (r 4)) := (R6.out.2 4 (by simp)).1
    have yR5 : x1.cell? ⟨w.heap.size, 5, none⟩ = some (.int .i64 (r 5)) := (R6.out.2 5 (by simp)).1
    have yR6 : x1.cell? ⟨w.heap.size, 6, none⟩ = some (.int .i64 (r 6)) := (R6.out.2 6 (by simp)).1
    have yR7 : x1.cell? ⟨w.heap.size, 7, none⟩ = some (.int .i64 (r 7)) := (R6.out.2 7 (by simp)).1
    have yR8 : x1.cell? ⟨w.heap.size, 8, none⟩ = some (.int .i64 (r 8)) := (R6.out.2 8 (by simp)).1
    have yR9 : x1.cell? ⟨w.heap.size, 9, none⟩ = some (.int .i64 (r 9)) := (R6.out.2 9 (by simp)).1
    have yR10 : x1.cell? ⟨w.heap.size, 10, none⟩ = some (.int .i64 (r 10)) := (R6.out.2 10 (by simp)).1
    have yR11 : x1.cell? ⟨w.heap.size, 11, none⟩ = some (.int .i64 (r 11)) := (R6.out.2 11 (by simp)).1
    have yR12 : x1.cell? ⟨w.heap.size, 12, none⟩ = some (.int .i64 (r 12)) := (R6.out.2 12 (by simp)).1
    have yR13 : x1.cell? ⟨w.heap.size, 13, none⟩ = some (.int .i64 (r 13)) := (R6.out.2 13 (by simp)).1
    have yR14 : x1.cell? ⟨w.heap.size, 14, none⟩ = some (.int .i64 (r 14)) := (R6.out.2 14 (by simp)).1
    have yR15 : x1.cell? ⟨w.heap.size, 15, none⟩ = some (.int .i64 (r 15)) := (R6.out.2 15 (by simp)).1
    have hlR : w.heap.size < x1.heap.size := R6.out.1
    go_wp2_with fail
    refine (word_impl _ _).mono ?_
    rintro e x2 ⟨rfl, hx2⟩
    replace hx2 : Below x1.heap.size x1 x2 := by rw [hx2]; exact Below.refl _ _
    clear yR0 yR1 yR2 yR3 yR4 yR5 yR6 yR7 yR8 yR9 yR10 yR11 yR12 yR13 yR14 yR15 hlR
    have B7 : Hid (Below w.heap.size w x2) := bthen B6.out hx2
    have R7 : Hid (Bk x2 w.heap.size [.int .i64 2, .int .i64 (r 1), .int .i64 (r 2), .int .i64 (r 3), .int .i64 (r 4), .int .i64 (r 5), .int .i64 (r 6), .int .i64 (r 7), .int .i64 (r 8), .int .i64 (r 9), .int .i64 (r 10), .int .i64 (r 11), .int .i64 (r 12), .int .i64 (r 13), .int .i64 (r 14), .int .i64 (r 15)]) := R6.out.below hx2
    clear B6 R6
    clear hx2
    rw [← EWD.out]
    have yR0 : x2.cell? ⟨w.heap.size, 0, none⟩ = some (.int .i64 2) := (R7.out.2 0 (by simp)).1
    have yR1 : x2.cell? ⟨w.heap.size, 1, none⟩ = some (.int .i64 (r 1)) := (R7.out.2 1 (by simp)).1
    have yR2 : x2.cell? ⟨w.heap.size, 2, none⟩ = some (.int .i64 (r 2)) := (R7.out.2 2 (by simp)).1
    have yR3 : x2.cell? ⟨w.heap.size, 3, none⟩ = some (.int .i64 (r 3)) := (R7.out.2 3 (by simp)).1
    have yR4 : x2.cell? ⟨w.heap.size, 4, none⟩ = some (.int .i64 (r 4)) := (R7.out.2 4 (by simp)).1
    have yR5 : x2.cell? ⟨w.heap.size, 5, none⟩ = some (.int .i64 (r 5)) := (R7.out.2 5 (by simp)).1
    have yR6 : x2.cell? ⟨w.heap.size, 6, none⟩ = some (.int .i64 (r 6)) := (R7.out.2 6 (by simp)).1
    have yR7 : x2.cell? ⟨w.heap.size, 7, none⟩ = some (.int .i64 (r 7)) := (R7.out.2 7 (by simp)).1
    have yR8 : x2.cell? ⟨w.heap.size, 8, none⟩ = some (.int .i64 (r 8)) := (R7.out.2 8 (by simp)).1
    have yR9 : x2.cell? ⟨w.heap.size, 9, none⟩ = some (.int .i64 (r 9)) := (R7.out.2 9 (by simp)).1
    have yR10 : x2.cell? ⟨w.heap.size, 10, none⟩ = some (.int .i64 (r 10)) := (R7.out.2 10 (by simp)).1
    have yR11 : x2.cell? ⟨w.heap.size, 11, none⟩ = some (.int .i64 (r 11)) := (R7.out.2 11 (by simp)).1
    have yR12 : x2.cell? ⟨w.heap.size, 12, none⟩ = some (.int .i64 (r 12)) := (R7.out.2 12 (by simp)).1
    have yR13 : x2.cell? ⟨w.heap.size, 13, none⟩ = some (.int .i64 (r 13)) := (R7.out.2 13 (by simp)).1
    have yR14 : x2.cell? ⟨w.heap.size, 14, none⟩ = some (.int .i64 (r 14)) := (R7.out.2 14 (by simp)).1
    have yR15 : x2.cell? ⟨w.heap.size, 15, none⟩ = some (.int .i64 (r 15)) := (R7.out.2 15 (by simp)).1
    have hlR : w.heap.size < x2.heap.size := R7.out.1
    go_wp2_with fail
    refine (pclText_impl _ _ _ _ _ _ _ _ _ (fun w' h' => HT.out w' (bthen B7.out h'))).mono ?_
    rintro e x3 ⟨rfl, hx3⟩
    clear yR0 yR1 yR2 yR3 yR4 yR5 yR6 yR7 yR8 yR9 yR10 yR11 yR12 yR13 yR14 yR15 hlR
    have B8 : Hid (Below w.heap.size w x3) := bthen B7.out hx3
    have R8 : Hid (Bk x3 w.heap.size [.int .i64 2, .int .i64 (r 1), .int .i64 (r 2), .int .i64 (r 3), .int .i64 (r 4), .int .i64 (r 5), .int .i64 (r 6), .int .i64 (r 7), .int .i64 (r 8), .int .i64 (r 9), .int .i64 (r 10), .int .i64 (r 11), .int .i64 (r 12), .int .i64 (r 13), .int .i64 (r 14), .int .i64 (r 15)]) := R7.out.below hx3
    clear B7 R7
    clear hx3
    rw [← ETX.out]
    have zt : tx.size ≤ 1000 := by rw [ETX.out]; exact pclText_size _ _ _ _ _ _ _ _
    have zw : wd.size ≤ 5 := by rw [EWD.out]; exact word_size _
    go_wp2_with fail
    obtain ⟨gs, egs⟩ : ∃ g, g = x3.heap.size := ⟨_, rfl⟩
    obtain ⟨x4, en⟩ : ∃ y, y = x3.alloc (.cells #[.string ⟨#[105, 110]⟩, .string wd, .string tx] 9) := ⟨_, rfl⟩
    have hbn : Below x3.heap.size x3 x4 := by rw [en]; exact (Below.refl _ _).alloc (Nat.le_refl _) _
    have XS : Bk x4 gs [.string ⟨#[105, 110]⟩, .string wd, .string tx] := by rw [en, egs]; exact bk_new x3 9 [.string ⟨#[105, 110]⟩, .string wd, .string tx]
    rw [← en, ← egs]
    clear en egs
    have B9 : Hid (Below w.heap.size w x4) := bthen B8.out hbn
    have R9 : Hid (Bk x4 w.heap.size [.int .i64 2, .int .i64 (r 1), .int .i64 (r 2), .int .i64 (r 3), .int .i64 (r 4), .int .i64 (r 5), .int .i64 (r 6), .int .i64 (r 7), .int .i64 (r 8), .int .i64 (r 9), .int .i64 (r 10), .int .i64 (r 11), .int .i64 (r 12), .int .i64 (r 13), .int .i64 (r 14), .int .i64 (r 15)]) := R8.out.below hbn
    clear B8 R8
    clear hbn
    refine (sentence3 ⟨#[105, 110]⟩ wd tx gs x4 XS.1 (XS.2 0 (by simp)).1 (XS.2 1 (by simp)).1 (XS.2 2 (by simp)).1 (by decide +kernel) (by omega) (by omega) (by decide +kernel)).mono ?_
    rintro e x9 ⟨rfl, hx9⟩
    have B10 : Hid (Below w.heap.size w x9) := bthen B9.out hx9
    have R10 : Hid (Bk x9 w.heap.size [.int .i64 2, .int .i64 (r 1), .int .i64 (r 2), .int .i64 (r 3), .int .i64 (r 4), .int .i64 (r 5), .int .i64 (r 6), .int .i64 (r 7), .int .i64 (r 8), .int .i64 (r 9), .int .i64 (r 10), .int .i64 (r 11), .int .i64 (r 12), .int .i64 (r 13), .int .i64 (r 14), .int .i64 (r 15)]) := R9.out.below hx9
    clear B9 R9
    clear hx9 XS
    go_wp2
    go_ret
    exact ⟨rfl, B10.out⟩
end Go.Proofs.YtgioecjnghllhaaGreatDoor
