/- What the gateway hears: the row that is asked for; conditions: those typed. -/
import Derived.Test.YtgjapdjidighlabGreatTk
import Derived.Test.YtgjapdjidighlabGreatGA2
import Derived.Test.YtgjapdjidighlabGreatGO2
namespace Go.Proofs.YtgjapdjidighlabGreat
open Go.RowKit Go.Deep
set_option linter.unusedVariables false
def eq5 (z x : Nat → Int) : Bool := (z 3 == x 5 && (z 4 == x 6 && (z 5 == x 7 && (z 6 == x 8 && z 7 == x 9))))
theorem q5n (z x : Nat → Int) (w : World) : (if z 3 = x 5 then (if z 4 = x 6 then (if z 5 = x 7 then (if z 6 = x 8 then (if z 7 = x 9 then Result.ok (Next.value (Value.bool false)) w else Result.ok (Next.value (Value.bool true)) w) else Result.ok (Next.value (Value.bool true)) w) else Result.ok (Next.value (Value.bool true)) w) else Result.ok (Next.value (Value.bool true)) w) else Result.ok (Next.value (Value.bool true)) w) = Result.ok (Next.value (Value.bool (!eq5 z x))) w := by
  unfold eq5; (repeat' split) <;> simp_all
def tellZ (Z : Nat → Nat → Int) (i : Nat) (ce sq cd : Int) : Nat → Nat → Int := fun k j => if k = i then (match j with | 0 => Z i 0 | 1 => ce | 2 => 1 | 8 => sq | 9 => cd | _ => 0) else Z k j
def awayZ (c : Int) (Z : Nat → Nat → Int) (i : Nat) (ce : Int) : Nat → Nat → Int := fun k j => if k = i then (match j with | 1 => if Z i 1 = ce then (ce + 1) % c else Z i 1 | j => Z i j) else Z k j
theorem tellZ_other {Z : Nat → Nat → Int} {i k : Nat} {ce sq cd : Int} (h : ¬ k = i) : P10.rowK (tellZ Z i ce sq cd) k = P10.rowK Z k := by simp [P10.rowK, tellZ, h]
theorem awayZ_other {c : Int} {Z : Nat → Nat → Int} {i k : Nat} {ce : Int} (h : ¬ k = i) : P10.rowK (awayZ c Z i ce) k = P10.rowK Z k := by simp [P10.rowK, awayZ, h]
def heardR (c : Int) (n : Nat) (Z : Nat → Nat → Int) (k : Int) (x : Nat → Int) : (Nat → Nat → Int) × Bool :=
  if k = 3 ∨ k = 4 then (match seek n Z (x 5) with | none => (Z, false) | some i => if eq5 (Z i) x = true then (if k = 3 then (tellZ Z i (x 2) (x 6) (x 4), true) else (awayZ c Z i (x 2), false)) else (Z, false)) else (Z, false)
set_option maxHeartbeats 1000000 in
theorem asking_no (lo mb n : Nat) (Kf : Nat → Int) (Bs : Nat → Nat) (Z : Nat → Nat → Int) (x : Nat → Int) (hwf : (Lit.int .i64 (x 5)).wf = true) (hno : ∀ j, j < n → ¬ Kf j = x 5) (w : World) (h : Op lo w mb n Kf Bs Z) :
    Calls Tryz.prog 47 #[.map (some mb), .agg #[.int .i64 (x 5), .int .i64 (x 6), .int .i64 (x 7), .int .i64 (x 8), .int .i64 (x 9)]] w fun e w' => e = .returned (.pointer none) ∧ Below w.heap.size w w' := by
  have HO : Hid (Op lo w mb n Kf Bs Z) := h
  clear h
  have lk := (HO.out.below (show Below w.heap.size w (w.alloc (.cells #[.int .i64 (x 5), .int .i64 (x 6), .int .i64 (x 7), .int .i64 (x 8), .int .i64 (x 9)] 46)) from (Below.refl _ _).alloc (Nat.le_refl _) _)).2.1.look (z := x 5) hwf
  rw [mapP_none n hno] at lk
  simp only [pvo, Option.isSome_none] at lk
  go_enter Tryz.func47, Tryz.ntmps47
  clear hno
  go_wp2_with fail
  obtain ⟨w0, e0⟩ : ∃ y, y = (w.alloc (.cells #[.int .i64 (x 5), .int .i64 (x 6), .int .i64 (x 7), .int .i64 (x 8), .int .i64 (x 9)] 46)) := ⟨_, rfl⟩
  have b0 : Hid (Below w.heap.size w w0) := by unfold Hid; rw [e0]; exact (Below.refl _ _).alloc (Nat.le_refl _) _
  rw [← e0]
  clear e0 lk
  refine wp_region_held_drew (S := fun w' => (∀ b o, b < w0.heap.size → w'.cell? ⟨b, o, none⟩ = w0.cell? ⟨b, o, none⟩) ∧ w0.heap.size ≤ w'.heap.size) (by kernel_rfl) ⟨fun _ _ _ => rfl, Nat.le_refl _⟩ ?_
  intro hHeld
  refine tkl 0 (.bool false) rfl ?_ ?_
  · intro wx hSw; go_simp
  try simp only [Act.put, aS]
  refine tkl 1 (.bool true) rfl ?_ ?_
  · intro wx hSw; go_simp
  try simp only [Act.put, aS]
  refine tkl 2 (.bool true) rfl ?_ ?_
  · intro wx hSw; go_simp
  try simp only [Act.put, aS]
  refine tkr 3 rfl ?_
  try simp only [Act.put, aS]
  refine tkr 4 rfl ?_
  try simp only [Act.put, aS]
  refine tkr 5 rfl ?_
  try simp only [Act.put, aS]
  refine tkr 6 rfl ?_
  try simp only [Act.put, aS]
  refine tkr 7 rfl ?_
  try simp only [Act.put, aS]
  refine tkr 8 rfl ?_
  try simp only [Act.put, aS]
  refine tkl 9 (.bool true) rfl ?_ ?_
  · intro wx hSw; go_simp
  try simp only [Act.put, aS]
  refine wpAnyH_done (by kernel_rfl) ?_ _
  clear hHeld
  go_wp2
  go_ret
  exact ⟨rfl, bthen b0.out ((Below.refl _ _).drew)⟩
set_option maxRecDepth 20000 in
set_option maxHeartbeats 2000000 in
theorem asking_eq (lo mb n i : Nat) (Kf : Nat → Int) (Bs : Nat → Nat) (Z : Nat → Nat → Int) (x : Nat → Int) (hwf : (Lit.int .i64 (x 5)).wf = true) (hi : i < n) (hKi : Kf i = x 5) (hr : ∀ a b, a < b → b < n → Kf a < Kf b) (he : eq5 (Z i) x = true) (w : World) (h : Op lo w mb n Kf Bs Z) :
    Calls Tryz.prog 47 #[.map (some mb), .agg #[.int .i64 (x 5), .int .i64 (x 6), .int .i64 (x 7), .int .i64 (x 8), .int .i64 (x 9)]] w fun e w' => e = .returned (.pointer (some ⟨Bs i, 0, none⟩)) ∧ Below w.heap.size w w' := by
  have HO : Hid (Op lo w mb n Kf Bs Z) := h
  have HE : Hid (eq5 (Z i) x = true) := he
  clear h he
  have lk := (HO.out.below (show Below w.heap.size w (w.alloc (.cells #[.int .i64 (x 5), .int .i64 (x 6), .int .i64 (x 7), .int .i64 (x 8), .int .i64 (x 9)] 46)) from (Below.refl _ _).alloc (Nat.le_refl _) _)).2.1.look (z := x 5) hwf
  have hmp : mapP Kf Bs n (x 5) = some (Bs i) := by rw [← hKi]; exact mapP_some n hi hr
  rw [hmp] at lk
  clear hmp
  simp only [pvo, pv, Option.isSome_some] at lk
  go_enter Tryz.func47, Tryz.ntmps47
  have P0 : Bk (w.alloc (.cells #[.int .i64 (x 5), .int .i64 (x 6), .int .i64 (x 7), .int .i64 (x 8), .int .i64 (x 9)] 46)) (Bs i) (P10.rowK Z i) := (HO.out.below (show Below w.heap.size w (w.alloc (.cells #[.int .i64 (x 5), .int .i64 (x 6), .int .i64 (x 7), .int .i64 (x 8), .int .i64 (x 9)] 46)) from (Below.refl _ _).alloc (Nat.le_refl _) _)).2.2.1 i hi |>.2
  go_wp2_with fail
  obtain ⟨w0, e0⟩ : ∃ y, y = (w.alloc (.cells #[.int .i64 (x 5), .int .i64 (x 6), .int .i64 (x 7), .int .i64 (x 8), .int .i64 (x 9)] 46)) := ⟨_, rfl⟩
  have b0 : Hid (Below w.heap.size w w0) := by unfold Hid; rw [e0]; exact (Below.refl _ _).alloc (Nat.le_refl _) _
  have X0 : Bk w0 w.heap.size [.int .i64 (x 5), .int .i64 (x 6), .int .i64 (x 7), .int .i64 (x 8), .int .i64 (x 9)] := by rw [e0]; exact bk_new w 46 [.int .i64 (x 5), .int .i64 (x 6), .int .i64 (x 7), .int .i64 (x 8), .int .i64 (x 9)]
  rw [← e0] at P0 ⊢
  clear e0 lk
  have c3 : w0.cell? ⟨Bs i, 3, none⟩ = some (.int .i64 (Z i 3)) := (P0.2 3 (by simp [P10.rowK])).1
  have c4 : w0.cell? ⟨Bs i, 4, none⟩ = some (.int .i64 (Z i 4)) := (P0.2 4 (by simp [P10.rowK])).1
  have c5 : w0.cell? ⟨Bs i, 5, none⟩ = some (.int .i64 (Z i 5)) := (P0.2 5 (by simp [P10.rowK])).1
  have c6 : w0.cell? ⟨Bs i, 6, none⟩ = some (.int .i64 (Z i 6)) := (P0.2 6 (by simp [P10.rowK])).1
  have c7 : w0.cell? ⟨Bs i, 7, none⟩ = some (.int .i64 (Z i 7)) := (P0.2 7 (by simp [P10.rowK])).1
  have o0 : w0.cell? ⟨w.heap.size, 0, none⟩ = some (.int .i64 (x 5)) := (X0.2 0 (by simp)).1
  have o1 : w0.cell? ⟨w.heap.size, 1, none⟩ = some (.int .i64 (x 6)) := (X0.2 1 (by simp)).1
  have o2 : w0.cell? ⟨w.heap.size, 2, none⟩ = some (.int .i64 (x 7)) := (X0.2 2 (by simp)).1
  have o3 : w0.cell? ⟨w.heap.size, 3, none⟩ = some (.int .i64 (x 8)) := (X0.2 3 (by simp)).1
  have o4 : w0.cell? ⟨w.heap.size, 4, none⟩ = some (.int .i64 (x 9)) := (X0.2 4 (by simp)).1
  have lB := P0.1
  have lo0 := X0.1
  clear P0 X0
  refine wp_region_held_drew (S := fun w' => (∀ b o, b < w0.heap.size → w'.cell? ⟨b, o, none⟩ = w0.cell? ⟨b, o, none⟩) ∧ w0.heap.size ≤ w'.heap.size) (by kernel_rfl) ⟨fun _ _ _ => rfl, Nat.le_refl _⟩ ?_
  intro hHeld
  refine tkl 0 (.bool true) rfl ?_ ?_
  · intro wx hSw; go_simp
  try simp only [Act.put, aS]
  refine tkl 1 (.bool false) rfl ?_ ?_
  · intro wx hSw; go_simp
  try simp only [Act.put, aS]
  refine tkl 2 (.bool false) rfl ?_ ?_
  · intro wx hSw; go_simp
  try simp only [Act.put, aS]
  refine tkl 3 (.pointer (some ⟨(Bs i), 0, none⟩)) rfl ?_ ?_
  · intro wx hSw; go_simp
  try simp only [Act.put, aS]
  refine tkl 4 (.pointer (some ⟨(Bs i), 0, none⟩)) rfl ?_ ?_
  · intro wx hSw; go_simp
  try simp only [Act.put, aS]
  refine tkl 5 (.pointer (some ⟨(Bs i), 3, none⟩)) rfl ?_ ?_
  · intro wx hSw; go_simp
  try simp only [Act.put, aS]
  refine tkl 6 (.agg #[.int .i64 (Z i 3), .int .i64 (Z i 4), .int .i64 (Z i 5), .int .i64 (Z i 6), .int .i64 (Z i 7)]) rfl ?_ ?_
  · intro wx hSw; go_simp
  try simp only [Act.put, aS]
  refine tkl 7 (.agg #[.int .i64 (x 5), .int .i64 (x 6), .int .i64 (x 7), .int .i64 (x 8), .int .i64 (x 9)]) rfl ?_ ?_
  · intro wx hSw; go_simp
  try simp only [Act.put, aS]
  refine tkl 8 (.bool (!eq5 (Z i) x)) rfl ?_ ?_
  · intro wx hSw; go_simp; exact q5n (Z i) x wx
  try simp only [Act.put, aS]
  refine tkl 9 (.bool (!eq5 (Z i) x)) rfl ?_ ?_
  · intro wx hSw; go_simp
  try simp only [Act.put, aS]
  refine wpAnyH_done (by kernel_rfl) ?_ _
  clear hHeld
  rw [HE.out]
  go_wp2
  go_ret
  exact ⟨rfl, bthen b0.out ((Below.refl _ _).drew)⟩
set_option maxRecDepth 20000 in
set_option maxHeartbeats 2000000 in
theorem asking_ne (lo mb n i : Nat) (Kf : Nat → Int) (Bs : Nat → Nat) (Z : Nat → Nat → Int) (x : Nat → Int) (hwf : (Lit.int .i64 (x 5)).wf = true) (hi : i < n) (hKi : Kf i = x 5) (hr : ∀ a b, a < b → b < n → Kf a < Kf b) (he : eq5 (Z i) x = false) (w : World) (h : Op lo w mb n Kf Bs Z) :
    Calls Tryz.prog 47 #[.map (some mb), .agg #[.int .i64 (x 5), .int .i64 (x 6), .int .i64 (x 7), .int .i64 (x 8), .int .i64 (x 9)]] w fun e w' => e = .returned (.pointer none) ∧ Below w.heap.size w w' := by
  have HO : Hid (Op lo w mb n Kf Bs Z) := h
  have HE : Hid (eq5 (Z i) x = false) := he
  clear h he
  have lk := (HO.out.below (show Below w.heap.size w (w.alloc (.cells #[.int .i64 (x 5), .int .i64 (x 6), .int .i64 (x 7), .int .i64 (x 8), .int .i64 (x 9)] 46)) from (Below.refl _ _).alloc (Nat.le_refl _) _)).2.1.look (z := x 5) hwf
  have hmp : mapP Kf Bs n (x 5) = some (Bs i) := by rw [← hKi]; exact mapP_some n hi hr
  rw [hmp] at lk
  clear hmp
  simp only [pvo, pv, Option.isSome_some] at lk
  go_enter Tryz.func47, Tryz.ntmps47
  have P0 : Bk (w.alloc (.cells #[.int .i64 (x 5), .int .i64 (x 6), .int .i64 (x 7), .int .i64 (x 8), .int .i64 (x 9)] 46)) (Bs i) (P10.rowK Z i) := (HO.out.below (show Below w.heap.size w (w.alloc (.cells #[.int .i64 (x 5), .int .i64 (x 6), .int .i64 (x 7), .int .i64 (x 8), .int .i64 (x 9)] 46)) from (Below.refl _ _).alloc (Nat.le_refl _) _)).2.2.1 i hi |>.2
  go_wp2_with fail
  obtain ⟨w0, e0⟩ : ∃ y, y = (w.alloc (.cells #[.int .i64 (x 5), .int .i64 (x 6), .int .i64 (x 7), .int .i64 (x 8), .int .i64 (x 9)] 46)) := ⟨_, rfl⟩
  have b0 : Hid (Below w.heap.size w w0) := by unfold Hid; rw [e0]; exact (Below.refl _ _).alloc (Nat.le_refl _) _
  have X0 : Bk w0 w.heap.size [.int .i64 (x 5), .int .i64 (x 6), .int .i64 (x 7), .int .i64 (x 8), .int .i64 (x 9)] := by rw [e0]; exact bk_new w 46 [.int .i64 (x 5), .int .i64 (x 6), .int .i64 (x 7), .int .i64 (x 8), .int .i64 (x 9)]
  rw [← e0] at P0 ⊢
  clear e0 lk
  have c3 : w0.cell? ⟨Bs i, 3, none⟩ = some (.int .i64 (Z i 3)) := (P0.2 3 (by simp [P10.rowK])).1
  have c4 : w0.cell? ⟨Bs i, 4, none⟩ = some (.int .i64 (Z i 4)) := (P0.2 4 (by simp [P10.rowK])).1
  have c5 : w0.cell? ⟨Bs i, 5, none⟩ = some (.int .i64 (Z i 5)) := (P0.2 5 (by simp [P10.rowK])).1
  have c6 : w0.cell? ⟨Bs i, 6, none⟩ = some (.int .i64 (Z i 6)) := (P0.2 6 (by simp [P10.rowK])).1
  have c7 : w0.cell? ⟨Bs i, 7, none⟩ = some (.int .i64 (Z i 7)) := (P0.2 7 (by simp [P10.rowK])).1
  have o0 : w0.cell? ⟨w.heap.size, 0, none⟩ = some (.int .i64 (x 5)) := (X0.2 0 (by simp)).1
  have o1 : w0.cell? ⟨w.heap.size, 1, none⟩ = some (.int .i64 (x 6)) := (X0.2 1 (by simp)).1
  have o2 : w0.cell? ⟨w.heap.size, 2, none⟩ = some (.int .i64 (x 7)) := (X0.2 2 (by simp)).1
  have o3 : w0.cell? ⟨w.heap.size, 3, none⟩ = some (.int .i64 (x 8)) := (X0.2 3 (by simp)).1
  have o4 : w0.cell? ⟨w.heap.size, 4, none⟩ = some (.int .i64 (x 9)) := (X0.2 4 (by simp)).1
  have lB := P0.1
  have lo0 := X0.1
  clear P0 X0
  refine wp_region_held_drew (S := fun w' => (∀ b o, b < w0.heap.size → w'.cell? ⟨b, o, none⟩ = w0.cell? ⟨b, o, none⟩) ∧ w0.heap.size ≤ w'.heap.size) (by kernel_rfl) ⟨fun _ _ _ => rfl, Nat.le_refl _⟩ ?_
  intro hHeld
  refine tkl 0 (.bool true) rfl ?_ ?_
  · intro wx hSw; go_simp
  try simp only [Act.put, aS]
  refine tkl 1 (.bool false) rfl ?_ ?_
  · intro wx hSw; go_simp
  try simp only [Act.put, aS]
  refine tkl 2 (.bool false) rfl ?_ ?_
  · intro wx hSw; go_simp
  try simp only [Act.put, aS]
  refine tkl 3 (.pointer (some ⟨(Bs i), 0, none⟩)) rfl ?_ ?_
  · intro wx hSw; go_simp
  try simp only [Act.put, aS]
  refine tkl 4 (.pointer (some ⟨(Bs i), 0, none⟩)) rfl ?_ ?_
  · intro wx hSw; go_simp
  try simp only [Act.put, aS]
  refine tkl 5 (.pointer (some ⟨(Bs i), 3, none⟩)) rfl ?_ ?_
  · intro wx hSw; go_simp
  try simp only [Act.put, aS]
  refine tkl 6 (.agg #[.int .i64 (Z i 3), .int .i64 (Z i 4), .int .i64 (Z i 5), .int .i64 (Z i 6), .int .i64 (Z i 7)]) rfl ?_ ?_
  · intro wx hSw; go_simp
  try simp only [Act.put, aS]
  refine tkl 7 (.agg #[.int .i64 (x 5), .int .i64 (x 6), .int .i64 (x 7), .int .i64 (x 8), .int .i64 (x 9)]) rfl ?_ ?_
  · intro wx hSw; go_simp
  try simp only [Act.put, aS]
  refine tkl 8 (.bool (!eq5 (Z i) x)) rfl ?_ ?_
  · intro wx hSw; go_simp; exact q5n (Z i) x wx
  try simp only [Act.put, aS]
  refine tkl 9 (.bool (!eq5 (Z i) x)) rfl ?_ ?_
  · intro wx hSw; go_simp
  try simp only [Act.put, aS]
  refine wpAnyH_done (by kernel_rfl) ?_ _
  clear hHeld
  rw [HE.out]
  go_wp2
  go_ret
  exact ⟨rfl, bthen b0.out ((Below.refl _ _).drew)⟩
end Go.Proofs.YtgjapdjidighlabGreat
