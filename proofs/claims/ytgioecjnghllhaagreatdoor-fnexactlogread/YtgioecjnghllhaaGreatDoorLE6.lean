/- What is carried: LogText of both sides; conditions: those typed. -/
import Derived.WalkKit
import Derived.ProofKit
import Derived.OpenShut
import Derived.Below
import Derived.BigQuiet
import Derived.Deep.OwnRows
import Derived.Laws.AppendOwn
import Derived.WalkSpells
import Derived.LoopTactic
import Derived.Lib.ItoaNum
import Derived.Lib.AppendIntMem
import Derived.Deep.RegionHeld3
import Derived.Deep.QuietTactic
import Derived.Deep.Cut
import Derived.Test.YtgioecjnghllhaaGreatDoorLE1
namespace Go.Proofs.YtgioecjnghllhaaGreatDoor
open Go.RowKit Go.Deep
set_option linter.unusedVariables false
def eqK0 (k : Int) (r : Nat → Int) : Bool := (k == 0 && (r 1 == 0 && (r 2 == 0 && (r 3 == 0 && (r 4 == 0 && (r 5 == 0 && (r 6 == 0 && (r 7 == 0 && (r 8 == 0 && (r 9 == 0 && (r 10 == 0 && (r 11 == 0 && (r 12 == 0 && (r 13 == 0 && (r 14 == 0 && (r 15 == 0))))))))))))))))
theorem qk0 (k : Int) (r : Nat → Int) (w : World) : (if k = 0 then (if r 1 = 0 then (if r 2 = 0 then (if r 3 = 0 then (if r 4 = 0 then (if r 5 = 0 then (if r 6 = 0 then (if r 7 = 0 then (if r 8 = 0 then (if r 9 = 0 then (if r 10 = 0 then (if r 11 = 0 then (if r 12 = 0 then (if r 13 = 0 then (if r 14 = 0 then (if r 15 = 0 then Result.ok (Next.value (Value.bool false)) w else Result.ok (Next.value (Value.bool true)) w) else Result.ok (Next.value (Value.bool true)) w) else Result.ok (Next.value (Value.bool true)) w) else Result.ok (Next.value (Value.bool true)) w) else Result.ok (Next.value (Value.bool true)) w) else Result.ok (Next.value (Value.bool true)) w) else Result.ok (Next.value (Value.bool true)) w) else Result.ok (Next.value (Value.bool true)) w) else Result.ok (Next.value (Value.bool true)) w) else Result.ok (Next.value (Value.bool true)) w) else Result.ok (Next.value (Value.bool true)) w) else Result.ok (Next.value (Value.bool true)) w) else Result.ok (Next.value (Value.bool true)) w) else Result.ok (Next.value (Value.bool true)) w) else Result.ok (Next.value (Value.bool true)) w) else Result.ok (Next.value (Value.bool true)) w) = Result.ok (Next.value (Value.bool (!eqK0 k r))) w := by
  unfold eqK0
  by_cases h0 : k = 0
  case neg => simp [h0]
  by_cases h1 : r 1 = 0
  case neg => simp [h0, h1]
  by_cases h2 : r 2 = 0
  case neg => simp [h0, h1, h2]
  by_cases h3 : r 3 = 0
  case neg => simp [h0, h1, h2, h3]
  by_cases h4 : r 4 = 0
  case neg => simp [h0, h1, h2, h3, h4]
  by_cases h5 : r 5 = 0
  case neg => simp [h0, h1, h2, h3, h4, h5]
  by_cases h6 : r 6 = 0
  case neg => simp [h0, h1, h2, h3, h4, h5, h6]
  by_cases h7 : r 7 = 0
  case neg => simp [h0, h1, h2, h3, h4, h5, h6, h7]
  by_cases h8 : r 8 = 0
  case neg => simp [h0, h1, h2, h3, h4, h5, h6, h7, h8]
  by_cases h9 : r 9 = 0
  case neg => simp [h0, h1, h2, h3, h4, h5, h6, h7, h8, h9]
  by_cases h10 : r 10 = 0
  case neg => simp [h0, h1, h2, h3, h4, h5, h6, h7, h8, h9, h10]
  by_cases h11 : r 11 = 0
  case neg => simp [h0, h1, h2, h3, h4, h5, h6, h7, h8, h9, h10, h11]
  by_cases h12 : r 12 = 0
  case neg => simp [h0, h1, h2, h3, h4, h5, h6, h7, h8, h9, h10, h11, h12]
  by_cases h13 : r 13 = 0
  case neg => simp [h0, h1, h2, h3, h4, h5, h6, h7, h8, h9, h10, h11, h12, h13]
  by_cases h14 : r 14 = 0
  case neg => simp [h0, h1, h2, h3, h4, h5, h6, h7, h8, h9, h10, h11, h12, h13, h14]
  by_cases h15 : r 15 = 0
  case neg => simp [h0, h1, h2, h3, h4, h5, h6, h7, h8, h9, h10, h11, h12, h13, h14, h15]
  simp [h0, h1, h2, h3, h4, h5, h6, h7, h8, h9, h10, h11, h12, h13, h14, h15]
set_option maxRecDepth 20000 in
set_option maxHeartbeats 4000000 in
theorem logText_impl0f (k : Int) (q1 : (k == 1) = false) (q2 : (k == 2) = false) (q3 : (k == 3) = false) (r : Nat → Int) (hk : eqK0 k r = false) (w : World) :
    Calls Tryz.prog 15 #[.agg #[.int .i64 k, .int .i64 (r 1), .int .i64 (r 2), .int .i64 (r 3), .int .i64 (r 4), .int .i64 (r 5), .int .i64 (r 6), .int .i64 (r 7), .int .i64 (r 8), .int .i64 (r 9), .int .i64 (r 10), .int .i64 (r 11), .int .i64 (r 12), .int .i64 (r 13), .int .i64 (r 14), .int .i64 (r 15)]] w fun e w' => e = .returned (.string (⟨#[]⟩)) ∧ Below w.heap.size w w' := by
  have HK : Hid (eqK0 k r = false) := hk
  clear hk
  go_enter Tryz.func15, Tryz.ntmps15
  go_upto_region 1 with fail
  obtain ⟨w0, e0⟩ : ∃ y, y = w.alloc (.cells #[.int .i64 k, .int .i64 (r 1), .int .i64 (r 2), .int .i64 (r 3), .int .i64 (r 4), .int .i64 (r 5), .int .i64 (r 6), .int .i64 (r 7), .int .i64 (r 8), .int .i64 (r 9), .int .i64 (r 10), .int .i64 (r 11), .int .i64 (r 12), .int .i64 (r 13), .int .i64 (r 14), .int .i64 (r 15)] 29) := ⟨_, rfl⟩
  have B1 : Hid (Below w.heap.size w w0) := by rw [e0]; exact (Below.refl _ _).alloc (by simp) _
  have R2 : Hid (Bk w0 w.heap.size [.int .i64 k, .int .i64 (r 1), .int .i64 (r 2), .int .i64 (r 3), .int .i64 (r 4), .int .i64 (r 5), .int .i64 (r 6), .int .i64 (r 7), .int .i64 (r 8), .int .i64 (r 9), .int .i64 (r 10), .int .i64 (r 11), .int .i64 (r 12), .int .i64 (r 13), .int .i64 (r 14), .int .i64 (r 15)]) := by rw [e0]; exact bk_new w 29 [.int .i64 k, .int .i64 (r 1), .int .i64 (r 2), .int .i64 (r 3), .int .i64 (r 4), .int .i64 (r 5), .int .i64 (r 6), .int .i64 (r 7), .int .i64 (r 8), .int .i64 (r 9), .int .i64 (r 10), .int .i64 (r 11), .int .i64 (r 12), .int .i64 (r 13), .int .i64 (r 14), .int .i64 (r 15)]
  rw [← e0]
  clear e0
  have yR0 : w0.cell? ⟨w.heap.size, 0, none⟩ = some (.int .i64 k) := (R2.out.2 0 (by simp)).1
  have yR1 : w0.cell? ⟨w.heap.size, 1, none⟩ = some (.int .i64 (r 1)) := (R2.out.2 1 (by simp)).1
  have yR2 : w0.cell? ⟨w.heap.size, 2, none⟩ = some (.int .i64 (r 2)) := (R2.out.2 2 (by simp)).1
  have yR3 : w0.cell? ⟨w.heap.size, 3, none⟩ = some (.int .i64 (r 3)) := (R2.out.2 3 (by simp)).1
  have yR4 : w0.cell? ⟨w.heap.size, 4, none⟩ = some (.int .i64 (r 4)) := (R2.out.2 4 (by simp)).1
  have yR5 : w0.cell? ⟨w.heap.size, 5, none⟩ = some (.int .i64 (r 5)) := (R2.out.2 5 (by simp)).1
  have yR6 : w0.cell? ⟨w.heap.size, 6, none⟩ = some (.int .i64 (r 6)) := (R2.out.2 6 (by simp)).1
  have yR7 : w0.cell? ⟨w.heap.size, 7, none⟩ = some (.int .i64 (r 7)) := (R2.out.2 7 (by simp)).1
  have yR8 : w0.cell? ⟨w.heap.size, 8, none⟩ = some (.int .i64 (r 8)) := (R2.out.2 8 (by simp)).1
  have yR9 : w0.cell? ⟨w.heap.size, 9, none⟩ = some (.int .i64 (r 9)) := (R2.out.2 9 (by simp)).1
  have yR10 : w0.cell? ⟨w.heap.size, 10, none⟩ = some (.int .i64 (r 10)) := (R2.out.2 10 (by simp)).1
  have yR11 : w0.cell? ⟨w.heap.size, 11, none⟩ = some (.int .i64 (r 11)) := (R2.out.2 11 (by simp)).1
  have yR12 : w0.cell? ⟨w.heap.size, 12, none⟩ = some (.int .i64 (r 12)) := (R2.out.2 12 (by simp)).1
  have yR13 : w0.cell? ⟨w.heap.size, 13, none⟩ = some (.int .i64 (r 13)) := (R2.out.2 13 (by simp)).1
  have yR14 : w0.cell? ⟨w.heap.size, 14, none⟩ = some (.int .i64 (r 14)) := (R2.out.2 14 (by simp)).1
  have yR15 : w0.cell? ⟨w.heap.size, 15, none⟩ = some (.int .i64 (r 15)) := (R2.out.2 15 (by simp)).1
  have hlR : w.heap.size < w0.heap.size := R2.out.1
  refine wp_region_held_drew (S := fun w' => (∀ b o, b < w0.heap.size → w'.cell? ⟨b, o, none⟩ = w0.cell? ⟨b, o, none⟩) ∧ w0.heap.size ≤ w'.heap.size) (by kernel_rfl) ⟨fun _ _ _ => rfl, Nat.le_refl _⟩ ?_
  intro hHeld
  refine wpAnyH_take (i := 0) (v := .agg #[.int .i64 k, .int .i64 (r 1), .int .i64 (r 2), .int .i64 (r 3), .int .i64 (r 4), .int .i64 (r 5), .int .i64 (r 6), .int .i64 (r 7), .int .i64 (r 8), .int .i64 (r 9), .int .i64 (r 10), .int .i64 (r 11), .int .i64 (r 12), .int .i64 (r 13), .int .i64 (r 14), .int .i64 (r 15)]) rfl (by kernel_rfl) (by kernel_rfl) (by kernel_rfl) (fun _ _ _ h => h) (Or.inl ⟨by rfl, ?_⟩) (by assumption) ?_
  · intro wx hSw; go_simp
  try simp only [Act.put, List.setIfInBounds_toArray, List.set_cons_zero, List.set_cons_succ, List.getElem_toArray, List.getElem_cons_zero]
  refine wpAnyH_take (i := 1) (v := .agg #[.int .i64 k, .int .i64 (r 1), .int .i64 (r 2), .int .i64 (r 3), .int .i64 (r 4), .int .i64 (r 5), .int .i64 (r 6), .int .i64 (r 7), .int .i64 (r 8), .int .i64 (r 9), .int .i64 (r 10), .int .i64 (r 11), .int .i64 (r 12), .int .i64 (r 13), .int .i64 (r 14), .int .i64 (r 15)]) rfl (by kernel_rfl) (by kernel_rfl) (by kernel_rfl) (fun _ _ _ h => h) (Or.inl ⟨by rfl, ?_⟩) (by assumption) ?_
  · intro wx hSw; go_simp
  try simp only [Act.put, List.setIfInBounds_toArray, List.set_cons_zero, List.set_cons_succ, List.getElem_toArray, List.getElem_cons_zero, List.getElem_cons_succ]
  refine wpAnyH_ready (rs := [2]) (by kernel_rfl) (by simp) ?_
  refine AllReadyH.cons rfl (fun K hK => ?_) AllReadyH.nil
  go_simp
  go_wp2_with fail
  refine (ofKind0 k q1 q2 q3 r _).mono ?_
  rintro e x1 ⟨rfl, hx1⟩
  refine hK.out _ _ (keepS (by assumption) hx1) (fun hNew => ?_)
  clear hK K hHeld
  have hHeld := hNew
  clear hNew
  try simp only [Act.put, List.setIfInBounds_toArray, List.set_cons_zero, List.set_cons_succ, List.getElem_toArray, List.getElem_cons_zero, List.getElem_cons_succ]
  refine wpAnyH_take (i := 3) (v := .bool (!eqK0 k r)) rfl (by kernel_rfl) (by kernel_rfl) (by kernel_rfl) (fun _ _ _ h => h) (Or.inl ⟨by rfl, ?_⟩) (by assumption) ?_
  · intro wx hSw; go_simp; exact qk0 k r wx
  try simp only [Act.put, List.setIfInBounds_toArray, List.set_cons_zero, List.set_cons_succ, List.getElem_toArray, List.getElem_cons_zero, List.getElem_cons_succ]
  refine wpAnyH_done (by kernel_rfl) ?_ _
  clear hHeld
  have hb1 : Below w0.heap.size w0 x1 := by repeat (first | exact Below.refl _ _ | refine bthen ?_ (by assumption) | apply Below.drew)
  clear yR0 yR1 yR2 yR3 yR4 yR5 yR6 yR7 yR8 yR9 yR10 yR11 yR12 yR13 yR14 yR15 hlR
  have B3 : Hid (Below w.heap.size w x1) := bthen B1.out hb1
  have R3 : Hid (Bk x1 w.heap.size [.int .i64 k, .int .i64 (r 1), .int .i64 (r 2), .int .i64 (r 3), .int .i64 (r 4), .int .i64 (r 5), .int .i64 (r 6), .int .i64 (r 7), .int .i64 (r 8), .int .i64 (r 9), .int .i64 (r 10), .int .i64 (r 11), .int .i64 (r 12), .int .i64 (r 13), .int .i64 (r 14), .int .i64 (r 15)]) := R2.out.below hb1
  clear B1 R2
  clear hb1 hx1
  rw [HK.out]
  go_wp2
  go_ret
  exact ⟨rfl, B3.out⟩
set_option maxRecDepth 20000 in
set_option maxHeartbeats 4000000 in
theorem logText_impl0t (k : Int) (q1 : (k == 1) = false) (q2 : (k == 2) = false) (q3 : (k == 3) = false) (r : Nat → Int) (hk : eqK0 k r = true) (w : World) :
    Calls Tryz.prog 15 #[.agg #[.int .i64 k, .int .i64 (r 1), .int .i64 (r 2), .int .i64 (r 3), .int .i64 (r 4), .int .i64 (r 5), .int .i64 (r 6), .int .i64 (r 7), .int .i64 (r 8), .int .i64 (r 9), .int .i64 (r 10), .int .i64 (r 11), .int .i64 (r 12), .int .i64 (r 13), .int .i64 (r 14), .int .i64 (r 15)]] w fun e w' => e = .returned (.string (⟨#[]⟩)) ∧ Below w.heap.size w w' := by
  have HK : Hid (eqK0 k r = true) := hk
  clear hk
  go_enter Tryz.func15, Tryz.ntmps15
  go_upto_region 1 with fail
  obtain ⟨w0, e0⟩ : ∃ y, y = w.alloc (.cells #[.int .i64 k, .int .i64 (r 1), .int .i64 (r 2), .int .i64 (r 3), .int .i64 (r 4), .int .i64 (r 5), .int .i64 (r 6), .int .i64 (r 7), .int .i64 (r 8), .int .i64 (r 9), .int .i64 (r 10), .int .i64 (r 11), .int .i64 (r 12), .int .i64 (r 13), .int .i64 (r 14), .int .i64 (r 15)] 29) := ⟨_, rfl⟩
  have B1 : Hid (Below w.heap.size w w0) := by rw [e0]; exact (Below.refl _ _).alloc (by simp) _
  have R2 : Hid (Bk w0 w.heap.size [.int .i64 k, .int .i64 (r 1), .int .i64 (r 2), .int .i64 (r 3), .int .i64 (r 4), .int .i64 (r 5), .int .i64 (r 6), .int .i64 (r 7), .int .i64 (r 8), .int .i64 (r 9), .int .i64 (r 10), .int .i64 (r 11), .int .i64 (r 12), .int .i64 (r 13), .int .i64 (r 14), .int .i64 (r 15)]) := by rw [e0]; exact bk_new w 29 [.int .i64 k, .int .i64 (r 1), .int .i64 (r 2), .int .i64 (r 3), .int .i64 (r 4), .int .i64 (r 5), .int .i64 (r 6), .int .i64 (r 7), .int .i64 (r 8), .int .i64 (r 9), .int .i64 (r 10), .int .i64 (r 11), .int .i64 (r 12), .int .i64 (r 13), .int .i64 (r 14), .int .i64 (r 15)]
  rw [← e0]
  clear e0
  have yR0 : w0.cell? ⟨w.heap.size, 0, none⟩ = some (.int .i64 k) := (R2.out.2 0 (by simp)).1
  have yR1 : w0.cell? ⟨w.heap.size, 1, none⟩ = some (.int .i64 (r 1)) := (R2.out.2 1 (by simp)).1
  have yR2 : w0.cell? ⟨w.heap.size, 2, none⟩ = some (.int .i64 (r 2)) := (R2.out.2 2 (by simp)).1
  have yR3 : w0.cell? ⟨w.heap.size, 3, none⟩ = some (.int .i64 (r 3)) := (R2.out.2 3 (by simp)).1
  have yR4 : w0.cell? ⟨w.heap.size, 4, none⟩ = some (.int .i64 (r 4)) := (R2.out.2 4 (by simp)).1
  have yR5 : w0.cell? ⟨w.heap.size, 5, none⟩ = some (.int .i64 (r 5)) := (R2.out.2 5 (by simp)).1
  have yR6 : w0.cell? ⟨w.heap.size, 6, none⟩ = some (.int .i64 (r 6)) := (R2.out.2 6 (by simp)).1
  have yR7 : w0.cell? ⟨w.heap.size, 7, none⟩ = some (.int .i64 (r 7)) := (R2.out.2 7 (by simp)).1
  have yR8 : w0.cell? ⟨w.heap.size, 8, none⟩ = some (.int .i64 (r 8)) := (R2.out.2 8 (by simp)).1
  have yR9 : w0.cell? ⟨w.heap.size, 9, none⟩ = some (.int .i64 (r 9)) := (R2.out.2 9 (by simp)).1
  have yR10 : w0.cell? ⟨w.heap.size, 10, none⟩ = some (.int .i64 (r 10)) := (R2.out.2 10 (by simp)).1
  have yR11 : w0.cell? ⟨w.heap.size, 11, none⟩ = some (.int .i64 (r 11)) := (R2.out.2 11 (by simp)).1
  have yR12 : w0.cell? ⟨w.heap.size, 12, none⟩ = some (.int .i64 (r 12)) := (R2.out.2 12 (by simp)).1
  have yR13 : w0.cell? ⟨w.heap.size, 13, none⟩ = some (.int .i64 (r 13)) := (R2.out.2 13 (by simp)).1
  have yR14 : w0.cell? ⟨w.heap.size, 14, none⟩ = some (.int .i64 (r 14)) := (R2.out.2 14 (by simp)).1
  have yR15 : w0.cell? ⟨w.heap.size, 15, none⟩ = some (.int .i64 (r 15)) := (R2.out.2 15 (by simp)).1
  have hlR : w.heap.size < w0.heap.size := R2.out.1
  refine wp_region_held_drew (S := fun w' => (∀ b o, b < w0.heap.size → w'.cell? ⟨b, o, none⟩ = w0.cell? ⟨b, o, none⟩) ∧ w0.heap.size ≤ w'.heap.size) (by kernel_rfl) ⟨fun _ _ _ => rfl, Nat.le_refl _⟩ ?_
  intro hHeld
  refine wpAnyH_take (i := 0) (v := .agg #[.int .i64 k, .int .i64 (r 1), .int .i64 (r 2), .int .i64 (r 3), .int .i64 (r 4), .int .i64 (r 5), .int .i64 (r 6), .int .i64 (r 7), .int .i64 (r 8), .int .i64 (r 9), .int .i64 (r 10), .int .i64 (r 11), .int .i64 (r 12), .int .i64 (r 13), .int .i64 (r 14), .int .i64 (r 15)]) rfl (by kernel_rfl) (by kernel_rfl) (by kernel_rfl) (fun _ _ _ h => h) (Or.inl ⟨by rfl, ?_⟩) (by assumption) ?_
  · intro wx hSw; go_simp
  try simp only [Act.put, List.setIfInBounds_toArray, List.set_cons_zero, List.set_cons_succ, List.getElem_toArray, List.getElem_cons_zero]
  refine wpAnyH_take (i := 1) (v := .agg #[.int .i64 k, .int .i64 (r 1), .int .i64 (r 2), .int .i64 (r 3), .int .i64 (r 4), .int .i64 (r 5), .int .i64 (r 6), .int .i64 (r 7), .int .i64 (r 8), .int .i64 (r 9), .int .i64 (r 10), .int .i64 (r 11), .int .i64 (r 12), .int .i64 (r 13), .int .i64 (r 14), .int .i64 (r 15)]) rfl (by kernel_rfl) (by kernel_rfl) (by kernel_rfl) (fun _ _ _ h => h) (Or.inl ⟨by rfl, ?_⟩) (by assumption) ?_
  · intro wx hSw; go_simp
  try simp only [Act.put, List.setIfInBounds_toArray, List.set_cons_zero, List.set_cons_succ, List.getElem_toArray, List.getElem_cons_zero, List.getElem_cons_succ]
  refine wpAnyH_ready (rs := [2]) (by kernel_rfl) (by simp) ?_
  refine AllReadyH.cons rfl (fun K hK => ?_) AllReadyH.nil
  go_simp
  go_wp2_with fail
  refine (ofKind0 k q1 q2 q3 r _).mono ?_
  rintro e x1 ⟨rfl, hx1⟩
  refine hK.out _ _ (keepS (by assumption) hx1) (fun hNew => ?_)
  clear hK K hHeld
  have hHeld := hNew
  clear hNew
  try simp only [Act.put, List.setIfInBounds_toArray, List.set_cons_zero, List.set_cons_succ, List.getElem_toArray, List.getElem_cons_zero, List.getElem_cons_succ]
  refine wpAnyH_take (i := 3) (v := .bool (!eqK0 k r)) rfl (by kernel_rfl) (by kernel_rfl) (by kernel_rfl) (fun _ _ _ h => h) (Or.inl ⟨by rfl, ?_⟩) (by assumption) ?_
  · intro wx hSw; go_simp; exact qk0 k r wx
  try simp only [Act.put, List.setIfInBounds_toArray, List.set_cons_zero, List.set_cons_succ, List.getElem_toArray, List.getElem_cons_zero, List.getElem_cons_succ]
  refine wpAnyH_done (by kernel_rfl) ?_ _
  clear hHeld
  have hb1 : Below w0.heap.size w0 x1 := by repeat (first | exact Below.refl _ _ | refine bthen ?_ (by assumption) | apply Below.drew)
  clear yR0 yR1 yR2 yR3 yR4 yR5 yR6 yR7 yR8 yR9 yR10 yR11 yR12 yR13 yR14 yR15 hlR
  have B3 : Hid (Below w.heap.size w x1) := bthen B1.out hb1
  have R3 : Hid (Bk x1 w.heap.size [.int .i64 k, .int .i64 (r 1), .int .i64 (r 2), .int .i64 (r 3), .int .i64 (r 4), .int .i64 (r 5), .int .i64 (r 6), .int .i64 (r 7), .int .i64 (r 8), .int .i64 (r 9), .int .i64 (r 10), .int .i64 (r 11), .int .i64 (r 12), .int .i64 (r 13), .int .i64 (r 14), .int .i64 (r 15)]) := R2.out.below hb1
  clear B1 R2
  clear hb1 hx1
  rw [HK.out]
  have yR0 : x1.cell? ⟨w.heap.size, 0, none⟩ = some (.int .i64 k) := (R3.out.2 0 (by simp)).1
  have yR1 : x1.cell? ⟨w.heap.size, 1, none⟩ = some (.int .i64 (r 1)) := (R3.out.2 1 (by simp)).1
  have yR2 : x1.cell? ⟨w.heap.size, 2, none⟩ = some (.int .i64 (r 2)) := (R3.out.2 2 (by simp)).1
  have yR3 : x1.cell? ⟨w.heap.size, 3, none⟩ = some (.int .i64 (r 3)) := (R3.out.2 3 (by simp)).1
  have yR4 : x1.cell? ⟨w.heap.size, 4, none⟩ = some (.int .i64 (r 4)) := (R3.out.2 4 (by simp)).1
  have yR5 : x1.cell? ⟨w.heap.size, 5, none⟩ = some (.int .i64 (r 5)) := (R3.out.2 5 (by simp)).1
  have yR6 : x1.cell? ⟨w.heap.size, 6, none⟩ = some (.int .i64 (r 6)) := (R3.out.2 6 (by simp)).1
  have yR7 : x1.cell? ⟨w.heap.size, 7, none⟩ = some (.int .i64 (r 7)) := (R3.out.2 7 (by simp)).1
  have yR8 : x1.cell? ⟨w.heap.size, 8, none⟩ = some (.int .i64 (r 8)) := (R3.out.2 8 (by simp)).1
  have yR9 : x1.cell? ⟨w.heap.size, 9, none⟩ = some (.int .i64 (r 9)) := (R3.out.2 9 (by simp)).1
  have yR10 : x1.cell? ⟨w.heap.size, 10, none⟩ = some (.int .i64 (r 10)) := (R3.out.2 10 (by simp)).1
  have yR11 : x1.cell? ⟨w.heap.size, 11, none⟩ = some (.int .i64 (r 11)) := (R3.out.2 11 (by simp)).1
  have yR12 : x1.cell? ⟨w.heap.size, 12, none⟩ = some (.int .i64 (r 12)) := (R3.out.2 12 (by simp)).1
  have yR13 : x1.cell? ⟨w.heap.size, 13, none⟩ = some (.int .i64 (r 13)) := (R3.out.2 13 (by simp)).1
  have yR14 : x1.cell? ⟨w.heap.size, 14, none⟩ = some (.int .i64 (r 14)) := (R3.out.2 14 (by simp)).1
  have yR15 : x1.cell? ⟨w.heap.size, 15, none⟩ = some (.int .i64 (r 15)) := (R3.out.2 15 (by simp)).1
  have hlR : w.heap.size < x1.heap.size := R3.out.1
  go_wp2_with fail
  refine (word_impl _ _).mono ?_
  rintro e x2 ⟨rfl, hx2⟩
  replace hx2 : Below x1.heap.size x1 x2 := by rw [hx2]; exact Below.refl _ _
  clear yR0 yR1 yR2 yR3 yR4 yR5 yR6 yR7 yR8 yR9 yR10 yR11 yR12 yR13 yR14 yR15 hlR
  have B4 : Hid (Below w.heap.size w x2) := bthen B3.out hx2
  have R4 : Hid (Bk x2 w.heap.size [.int .i64 k, .int .i64 (r 1), .int .i64 (r 2), .int .i64 (r 3), .int .i64 (r 4), .int .i64 (r 5), .int .i64 (r 6), .int .i64 (r 7), .int .i64 (r 8), .int .i64 (r 9), .int .i64 (r 10), .int .i64 (r 11), .int .i64 (r 12), .int .i64 (r 13), .int .i64 (r 14), .int .i64 (r 15)]) := R3.out.below hx2
  clear B3 R3
  clear hx2
  have yR0 : x2.cell? ⟨w.heap.size, 0, none⟩ = some (.int .i64 k) := (R4.out.2 0 (by simp)).1
  have yR1 : x2.cell? ⟨w.heap.size, 1, none⟩ = some (.int .i64 (r 1)) := (R4.out.2 1 (by simp)).1
  have yR2 : x2.cell? ⟨w.heap.size, 2, none⟩ = some (.int .i64 (r 2)) := (R4.out.2 2 (by simp)).1
  have yR3 : x2.cell? ⟨w.heap.size, 3, none⟩ = some (.int .i64 (r 3)) := (R4.out.2 3 (by simp)).1
  have yR4 : x2.cell? ⟨w.heap.size, 4, none⟩ = some (.int .i64 (r 4)) := (R4.out.2 4 (by simp)).1
  have yR5 : x2.cell? ⟨w.heap.size, 5, none⟩ = some (.int .i64 (r 5)) := (R4.out.2 5 (by simp)).1
  have yR6 : x2.cell? ⟨w.heap.size, 6, none⟩ = some (.int .i64 (r 6)) := (R4.out.2 6 (by simp)).1
  have yR7 : x2.cell? ⟨w.heap.size, 7, none⟩ = some (.int .i64 (r 7)) := (R4.out.2 7 (by simp)).1
  have yR8 : x2.cell? ⟨w.heap.size, 8, none⟩ = some (.int .i64 (r 8)) := (R4.out.2 8 (by simp)).1
  have yR9 : x2.cell? ⟨w.heap.size, 9, none⟩ = some (.int .i64 (r 9)) := (R4.out.2 9 (by simp)).1
  have yR10 : x2.cell? ⟨w.heap.size, 10, none⟩ = some (.int .i64 (r 10)) := (R4.out.2 10 (by simp)).1
  have yR11 : x2.cell? ⟨w.heap.size, 11, none⟩ = some (.int .i64 (r 11)) := (R4.out.2 11 (by simp)).1
  have yR12 : x2.cell? ⟨w.heap.size, 12, none⟩ = some (.int .i64 (r 12)) := (R4.out.2 12 (by simp)).1
  have yR13 : x2.cell? ⟨w.heap.size, 13, none⟩ = some (.int .i64 (r 13)) := (R4.out.2 13 (by simp)).1
  have yR14 : x2.cell? ⟨w.heap.size, 14, none⟩ = some (.int .i64 (r 14)) := (R4.out.2 14 (by simp)).1
  have yR15 : x2.cell? ⟨w.heap.size, 15, none⟩ = some (.int .i64 (r 15)) := (R4.out.2 15 (by simp)).1
  have hlR : w.heap.size < x2.heap.size := R4.out.1
  go_wp2
  go_ret
  exact ⟨rfl, B4.out⟩
end Go.Proofs.YtgioecjnghllhaaGreatDoor
