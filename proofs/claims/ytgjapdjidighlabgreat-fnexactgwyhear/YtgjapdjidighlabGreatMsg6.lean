/- MsgOk of the program, of any content; conditions: those typed. -/
import Derived.Test.YtgjapdjidighlabGreatTk
import Derived.Test.YtgjapdjidighlabGreatMsg5
namespace Go.Proofs.YtgjapdjidighlabGreat
open Go.RowKit Go.Deep
set_option linter.unusedVariables false
attribute [local go_sem ↓] load44_eq
attribute [local go_sem] run_load44 cellD
set_option maxRecDepth 100000 in
set_option maxHeartbeats 4000000 in
theorem gen0 (c d sv k : Int) (x m : Nat → Int) (t : TypeId) (V : Value) (ff : Nat) (gb ob : Bool)
    (hcon : ∀ w : World, Calls Tryz.prog 42 #[.agg #[.int .i64 k, .int .i64 (x 1), .int .i64 (x 2), .int .i64 (x 3), .int .i64 (x 4), .int .i64 (x 5), .int .i64 (x 6), .int .i64 (x 7), .int .i64 (x 8), .int .i64 (x 9), .int .i64 (x 10), .int .i64 (x 11), .int .i64 (x 12), .int .i64 (x 13), .int .i64 (x 14), .int .i64 (x 15), .int .i64 (x 16), .int .i64 (x 17), .int .i64 (x 18), .int .i64 (x 19), .int .i64 (x 20), .int .i64 (x 21), .int .i64 (x 22), .int .i64 (x 23), .int .i64 (x 24)]] w fun e w' => e = .returned (.iface t V) ∧ Below w.heap.size w w')
    (hm : ∀ (w : World), (method 307 t V "loop.example/landmarch/impl.isOk").run Tryz.prog w = .ok (ff, V) w)
    (hcf : ∀ (a : Array Value) (w : World), (callFunc ff a).run Tryz.prog w = .ok (.enter ff a) w)
    (hgo : 1 ≤ sv → sv ≤ 3 → ∀ w : World, Calls Tryz.prog 45 #[.iface t V, .int .i64 (x 1), .int .i64 sv] w fun e w' => e = .returned (.bool gb) ∧ Below w.heap.size w w')
    (hok : ∀ w : World, Calls Tryz.prog ff #[V, .agg #[.int .i64 c, .int .i64 d], .int .i64 (x 2)] w fun e w' => e = .returned (.bool ob) ∧ Below w.heap.size w w')
    (hs : ∀ w : World, Calls Tryz.prog 46 #[.int .i64 (x 1), .int .i64 (x 2), .iface t V] w fun e w' => e = .returned (.agg #[.int .i64 k, .int .i64 (x 1), .int .i64 (x 2), .int .i64 (m 3), .int .i64 (m 4), .int .i64 (m 5), .int .i64 (m 6), .int .i64 (m 7), .int .i64 (m 8), .int .i64 (m 9), .int .i64 (m 10), .int .i64 (m 11), .int .i64 (m 12), .int .i64 (m 13), .int .i64 (m 14), .int .i64 (m 15), .int .i64 (m 16), .int .i64 (m 17), .int .i64 (m 18), .int .i64 (m 19), .int .i64 (m 20), .int .i64 (m 21), .int .i64 (m 22), .int .i64 (m 23), .int .i64 (m 24)]) ∧ Below w.heap.size w w')
     (h0 : hasB c d (x 2) = false) (w : World) :
    Calls Tryz.prog 23 #[.agg #[.int .i64 c, .int .i64 d], .int .i64 sv, .agg #[.int .i64 k, .int .i64 (x 1), .int .i64 (x 2), .int .i64 (x 3), .int .i64 (x 4), .int .i64 (x 5), .int .i64 (x 6), .int .i64 (x 7), .int .i64 (x 8), .int .i64 (x 9), .int .i64 (x 10), .int .i64 (x 11), .int .i64 (x 12), .int .i64 (x 13), .int .i64 (x 14), .int .i64 (x 15), .int .i64 (x 16), .int .i64 (x 17), .int .i64 (x 18), .int .i64 (x 19), .int .i64 (x 20), .int .i64 (x 21), .int .i64 (x 22), .int .i64 (x 23), .int .i64 (x 24)]] w fun e w' => e = .returned (.bool (false)) ∧ Below w.heap.size w w' := by
  have EQ := qm x m
  go_enter Tryz.func23, Tryz.ntmps23
  go_wp2_with fail
  obtain ⟨w0, e0⟩ : ∃ w0, w0 = (w.alloc (.cells #[.int .i64 c, .int .i64 d] 43)).alloc (.cells #[.int .i64 k, .int .i64 (x 1), .int .i64 (x 2), .int .i64 (x 3), .int .i64 (x 4), .int .i64 (x 5), .int .i64 (x 6), .int .i64 (x 7), .int .i64 (x 8), .int .i64 (x 9), .int .i64 (x 10), .int .i64 (x 11), .int .i64 (x 12), .int .i64 (x 13), .int .i64 (x 14), .int .i64 (x 15), .int .i64 (x 16), .int .i64 (x 17), .int .i64 (x 18), .int .i64 (x 19), .int .i64 (x 20), .int .i64 (x 21), .int .i64 (x 22), .int .i64 (x 23), .int .i64 (x 24)] 53) := ⟨_, rfl⟩
  have B1 : Hid (Below w.heap.size w w0) := by rw [e0]; exact ((Below.refl _ _).alloc (by simp) _).alloc (by simp) _
  have M2 : Hid (Bk w0 w.heap.size [.int .i64 c, .int .i64 d]) := by rw [e0]; exact (bk_new w 43 [.int .i64 c, .int .i64 d]).below ((Below.refl _ _).alloc (Nat.le_refl _) _)
  have G3 : Hid (Bk w0 (w.heap.size + 1) [.int .i64 k, .int .i64 (x 1), .int .i64 (x 2), .int .i64 (x 3), .int .i64 (x 4), .int .i64 (x 5), .int .i64 (x 6), .int .i64 (x 7), .int .i64 (x 8), .int .i64 (x 9), .int .i64 (x 10), .int .i64 (x 11), .int .i64 (x 12), .int .i64 (x 13), .int .i64 (x 14), .int .i64 (x 15), .int .i64 (x 16), .int .i64 (x 17), .int .i64 (x 18), .int .i64 (x 19), .int .i64 (x 20), .int .i64 (x 21), .int .i64 (x 22), .int .i64 (x 23), .int .i64 (x 24)]) := by rw [e0]; have := bk_new (w.alloc (.cells #[.int .i64 c, .int .i64 d] 43)) 53 [.int .i64 k, .int .i64 (x 1), .int .i64 (x 2), .int .i64 (x 3), .int .i64 (x 4), .int .i64 (x 5), .int .i64 (x 6), .int .i64 (x 7), .int .i64 (x 8), .int .i64 (x 9), .int .i64 (x 10), .int .i64 (x 11), .int .i64 (x 12), .int .i64 (x 13), .int .i64 (x 14), .int .i64 (x 15), .int .i64 (x 16), .int .i64 (x 17), .int .i64 (x 18), .int .i64 (x 19), .int .i64 (x 20), .int .i64 (x 21), .int .i64 (x 22), .int .i64 (x 23), .int .i64 (x 24)]; rwa [show (w.alloc (.cells #[.int .i64 c, .int .i64 d] 43)).heap.size = w.heap.size + 1 by simp] at this
  rw [← e0]
  clear e0
  refine (hcon _).mono ?_
  rintro e w1 ⟨rfl, hb1⟩
  have B4 := hid (bthen B1.out hb1)
  have M4 := hid (M2.out.below hb1)
  have G4 := hid (G3.out.below hb1)
  clear B1 M2 G3
  clear hb1
  obtain ⟨yM0, yM1⟩ := M4.out.a2
  have hlM : w.heap.size < w1.heap.size := M4.out.1
  obtain ⟨yG0, yG1, yG2, yG3, yG4, yG5, yG6, yG7, yG8, yG9, yG10, yG11, yG12, yG13, yG14, yG15, yG16, yG17, yG18, yG19, yG20, yG21, yG22, yG23, yG24⟩ := G4.out.a25
  have hlG : (w.heap.size + 1) < w1.heap.size := G4.out.1
  go_wp2
  refine wp_region_held_drew (S := fun w' => (∀ b o, b < w1.heap.size → w'.cell? ⟨b, o, none⟩ = w1.cell? ⟨b, o, none⟩) ∧ w1.heap.size ≤ w'.heap.size) (by kernel_rfl) ⟨fun _ _ _ => rfl, Nat.le_refl _⟩ ?_
  intro hHeld
  refine tkl 0 (.iface t V) rfl ?_ ?_
  · intro wx hSw; go_simp
  try simp only [Act.put, aS]
  refine tkl 1 (.bool true) rfl ?_ ?_
  · intro wx hSw; go_simp <;> first | omega | (exact IntWalk.i64_in _ (by omega)) | go_num
  try simp only [Act.put, aS]
  refine tkl 2 (.bool true) rfl ?_ ?_
  · intro wx hSw; go_simp
  try simp only [Act.put, aS]
  refine tkl 3 (.agg #[.int .i64 c, .int .i64 d]) rfl ?_ ?_
  · intro wx hSw; go_simp
  try simp only [Act.put, aS]
  refine tkl 4 (.pointer (some ⟨(w.heap.size + 1), 2, none⟩)) rfl ?_ ?_
  · intro wx hSw; go_simp
  try simp only [Act.put, aS]
  refine tkl 5 (.int .i64 (x 2)) rfl ?_ ?_
  · intro wx hSw; go_simp
  try simp only [Act.put, aS]
  refine rd1 6 rfl fun K hK => ?_
  go_simp
  go_wp2_with fail
  refine (has_impl _ _ _ _).mono ?_
  rintro e y0 ⟨rfl, hy0⟩
  rw [h0]
  refine hK.out _ _ (keepS (by assumption) hy0) (fun hNew => ?_)
  clear hK K hHeld
  have hHeld := hNew
  clear hNew
  try simp only [Act.put, aS]
  refine tkl 7 (.bool false) rfl ?_ ?_
  · intro wx hSw; go_simp
  try simp only [Act.put, aS]
  refine tkl 8 (.bool false) rfl ?_ ?_
  · intro wx hSw; go_simp
  try simp only [Act.put, aS]
  refine tkr 9 rfl ?_
  try simp only [Act.put, aS]
  refine tkr 10 rfl ?_
  try simp only [Act.put, aS]
  refine tkl 11 (.bool false) rfl ?_ ?_
  · intro wx hSw; go_simp
  try simp only [Act.put, aS]
  refine tkl 12 (.bool false) rfl ?_ ?_
  · intro wx hSw; go_simp
  try simp only [Act.put, aS]
  refine tkr 13 rfl ?_
  try simp only [Act.put, aS]
  refine tkr 14 rfl ?_
  try simp only [Act.put, aS]
  refine tkr 15 rfl ?_
  try simp only [Act.put, aS]
  refine tkr 16 rfl ?_
  try simp only [Act.put, aS]
  refine tkr 17 rfl ?_
  try simp only [Act.put, aS]
  refine tkl 18 (.bool false) rfl ?_ ?_
  · intro wx hSw; go_simp
  try simp only [Act.put, aS]
  refine tkl 19 (.bool false) rfl ?_ ?_
  · intro wx hSw; go_simp
  try simp only [Act.put, aS]
  refine tkr 20 rfl ?_
  try simp only [Act.put, aS]
  refine tkr 21 rfl ?_
  try simp only [Act.put, aS]
  refine tkr 22 rfl ?_
  try simp only [Act.put, aS]
  refine tkr 23 rfl ?_
  try simp only [Act.put, aS]
  refine tkr 24 rfl ?_
  try simp only [Act.put, aS]
  refine tkl 25 (.bool false) rfl ?_ ?_
  · intro wx hSw; go_simp
  try simp only [Act.put, aS]
  refine tkl 26 (.bool false) rfl ?_ ?_
  · intro wx hSw; go_simp
  try simp only [Act.put, aS]
  refine tkr 27 rfl ?_
  try simp only [Act.put, aS]
  refine tkr 28 rfl ?_
  try simp only [Act.put, aS]
  refine tkr 29 rfl ?_
  try simp only [Act.put, aS]
  refine tkr 30 rfl ?_
  try simp only [Act.put, aS]
  refine tkr 31 rfl ?_
  try simp only [Act.put, aS]
  refine tkr 32 rfl ?_
  try simp only [Act.put, aS]
  refine tkr 33 rfl ?_
  try simp only [Act.put, aS]
  refine tkr 34 rfl ?_
  try simp only [Act.put, aS]
  refine tkl 35 (.bool false) rfl ?_ ?_
  · intro wx hSw; go_simp
  try simp only [Act.put, aS]
  refine tkl 36 (.bool false) rfl ?_ ?_
  · intro wx hSw; go_simp
  try simp only [Act.put, aS]
  refine wpAnyH_done (by kernel_rfl) ?_ _
  clear hHeld
  have hbz : Below w1.heap.size w1 y0 := by repeat (first | exact Below.refl _ _ | refine bthen ?_ (by assumption) | apply Below.drew)
  clear yM0 yM1 hlM yG0 yG1 yG2 yG3 yG4 yG5 yG6 yG7 yG8 yG9 yG10 yG11 yG12 yG13 yG14 yG15 yG16 yG17 yG18 yG19 yG20 yG21 yG22 yG23 yG24 hlG
  have B5 := hid (bthen B4.out hbz)
  have M5 := hid (M4.out.below hbz)
  have G5 := hid (G4.out.below hbz)
  clear B4 M4 G4
  clear EQ
  go_wp2
  go_ret
  exact ⟨by simp, by repeat (first | exact B5.out | apply Below.drew)⟩
set_option maxRecDepth 100000 in
set_option maxHeartbeats 4000000 in
theorem gen1 (c d sv k : Int) (x m : Nat → Int) (t : TypeId) (V : Value) (ff : Nat) (gb ob : Bool)
    (hcon : ∀ w : World, Calls Tryz.prog 42 #[.agg #[.int .i64 k, .int .i64 (x 1), .int .i64 (x 2), .int .i64 (x 3), .int .i64 (x 4), .int .i64 (x 5), .int .i64 (x 6), .int .i64 (x 7), .int .i64 (x 8), .int .i64 (x 9), .int .i64 (x 10), .int .i64 (x 11), .int .i64 (x 12), .int .i64 (x 13), .int .i64 (x 14), .int .i64 (x 15), .int .i64 (x 16), .int .i64 (x 17), .int .i64 (x 18), .int .i64 (x 19), .int .i64 (x 20), .int .i64 (x 21), .int .i64 (x 22), .int .i64 (x 23), .int .i64 (x 24)]] w fun e w' => e = .returned (.iface t V) ∧ Below w.heap.size w w')
    (hm : ∀ (w : World), (method 307 t V "loop.example/landmarch/impl.isOk").run Tryz.prog w = .ok (ff, V) w)
    (hcf : ∀ (a : Array Value) (w : World), (callFunc ff a).run Tryz.prog w = .ok (.enter ff a) w)
    (hgo : 1 ≤ sv → sv ≤ 3 → ∀ w : World, Calls Tryz.prog 45 #[.iface t V, .int .i64 (x 1), .int .i64 sv] w fun e w' => e = .returned (.bool gb) ∧ Below w.heap.size w w')
    (hok : ∀ w : World, Calls Tryz.prog ff #[V, .agg #[.int .i64 c, .int .i64 d], .int .i64 (x 2)] w fun e w' => e = .returned (.bool ob) ∧ Below w.heap.size w w')
    (hs : ∀ w : World, Calls Tryz.prog 46 #[.int .i64 (x 1), .int .i64 (x 2), .iface t V] w fun e w' => e = .returned (.agg #[.int .i64 k, .int .i64 (x 1), .int .i64 (x 2), .int .i64 (m 3), .int .i64 (m 4), .int .i64 (m 5), .int .i64 (m 6), .int .i64 (m 7), .int .i64 (m 8), .int .i64 (m 9), .int .i64 (m 10), .int .i64 (m 11), .int .i64 (m 12), .int .i64 (m 13), .int .i64 (m 14), .int .i64 (m 15), .int .i64 (m 16), .int .i64 (m 17), .int .i64 (m 18), .int .i64 (m 19), .int .i64 (m 20), .int .i64 (m 21), .int .i64 (m 22), .int .i64 (m 23), .int .i64 (m 24)]) ∧ Below w.heap.size w w')
    (h0 : hasB c d (x 2) = true) (h1 : inB sv 1 3 = false) (w : World) :
    Calls Tryz.prog 23 #[.agg #[.int .i64 c, .int .i64 d], .int .i64 sv, .agg #[.int .i64 k, .int .i64 (x 1), .int .i64 (x 2), .int .i64 (x 3), .int .i64 (x 4), .int .i64 (x 5), .int .i64 (x 6), .int .i64 (x 7), .int .i64 (x 8), .int .i64 (x 9), .int .i64 (x 10), .int .i64 (x 11), .int .i64 (x 12), .int .i64 (x 13), .int .i64 (x 14), .int .i64 (x 15), .int .i64 (x 16), .int .i64 (x 17), .int .i64 (x 18), .int .i64 (x 19), .int .i64 (x 20), .int .i64 (x 21), .int .i64 (x 22), .int .i64 (x 23), .int .i64 (x 24)]] w fun e w' => e = .returned (.bool (false)) ∧ Below w.heap.size w w' := by
  have EQ := qm x m
  go_enter Tryz.func23, Tryz.ntmps23
  go_wp2_with fail
  obtain ⟨w0, e0⟩ : ∃ w0, w0 = (w.alloc (.cells #[.int .i64 c, .int .i64 d] 43)).alloc (.cells #[.int .i64 k, .int .i64 (x 1), .int .i64 (x 2), .int .i64 (x 3), .int .i64 (x 4), .int .i64 (x 5), .int .i64 (x 6), .int .i64 (x 7), .int .i64 (x 8), .int .i64 (x 9), .int .i64 (x 10), .int .i64 (x 11), .int .i64 (x 12), .int .i64 (x 13), .int .i64 (x 14), .int .i64 (x 15), .int .i64 (x 16), .int .i64 (x 17), .int .i64 (x 18), .int .i64 (x 19), .int .i64 (x 20), .int .i64 (x 21), .int .i64 (x 22), .int .i64 (x 23), .int .i64 (x 24)] 53) := ⟨_, rfl⟩
  have B1 : Hid (Below w.heap.size w w0) := by rw [e0]; exact ((Below.refl _ _).alloc (by simp) _).alloc (by simp) _
  have M2 : Hid (Bk w0 w.heap.size [.int .i64 c, .int .i64 d]) := by rw [e0]; exact (bk_new w 43 [.int .i64 c, .int .i64 d]).below ((Below.refl _ _).alloc (Nat.le_refl _) _)
  have G3 : Hid (Bk w0 (w.heap.size + 1) [.int .i64 k, .int .i64 (x 1), .int .i64 (x 2), .int .i64 (x 3), .int .i64 (x 4), .int .i64 (x 5), .int .i64 (x 6), .int .i64 (x 7), .int .i64 (x 8), .int .i64 (x 9), .int .i64 (x 10), .int .i64 (x 11), .int .i64 (x 12), .int .i64 (x 13), .int .i64 (x 14), .int .i64 (x 15), .int .i64 (x 16), .int .i64 (x 17), .int .i64 (x 18), .int .i64 (x 19), .int .i64 (x 20), .int .i64 (x 21), .int .i64 (x 22), .int .i64 (x 23), .int .i64 (x 24)]) := by rw [e0]; have := bk_new (w.alloc (.cells #[.int .i64 c, .int .i64 d] 43)) 53 [.int .i64 k, .int .i64 (x 1), .int .i64 (x 2), .int .i64 (x 3), .int .i64 (x 4), .int .i64 (x 5), .int .i64 (x 6), .int .i64 (x 7), .int .i64 (x 8), .int .i64 (x 9), .int .i64 (x 10), .int .i64 (x 11), .int .i64 (x 12), .int .i64 (x 13), .int .i64 (x 14), .int .i64 (x 15), .int .i64 (x 16), .int .i64 (x 17), .int .i64 (x 18), .int .i64 (x 19), .int .i64 (x 20), .int .i64 (x 21), .int .i64 (x 22), .int .i64 (x 23), .int .i64 (x 24)]; rwa [show (w.alloc (.cells #[.int .i64 c, .int .i64 d] 43)).heap.size = w.heap.size + 1 by simp] at this
  rw [← e0]
  clear e0
  refine (hcon _).mono ?_
  rintro e w1 ⟨rfl, hb1⟩
  have B4 := hid (bthen B1.out hb1)
  have M4 := hid (M2.out.below hb1)
  have G4 := hid (G3.out.below hb1)
  clear B1 M2 G3
  clear hb1
  obtain ⟨yM0, yM1⟩ := M4.out.a2
  have hlM : w.heap.size < w1.heap.size := M4.out.1
  obtain ⟨yG0, yG1, yG2, yG3, yG4, yG5, yG6, yG7, yG8, yG9, yG10, yG11, yG12, yG13, yG14, yG15, yG16, yG17, yG18, yG19, yG20, yG21, yG22, yG23, yG24⟩ := G4.out.a25
  have hlG : (w.heap.size + 1) < w1.heap.size := G4.out.1
  go_wp2
  refine wp_region_held_drew (S := fun w' => (∀ b o, b < w1.heap.size → w'.cell? ⟨b, o, none⟩ = w1.cell? ⟨b, o, none⟩) ∧ w1.heap.size ≤ w'.heap.size) (by kernel_rfl) ⟨fun _ _ _ => rfl, Nat.le_refl _⟩ ?_
  intro hHeld
  refine tkl 0 (.iface t V) rfl ?_ ?_
  · intro wx hSw; go_simp
  try simp only [Act.put, aS]
  refine tkl 1 (.bool true) rfl ?_ ?_
  · intro wx hSw; go_simp <;> first | omega | (exact IntWalk.i64_in _ (by omega)) | go_num
  try simp only [Act.put, aS]
  refine tkl 2 (.bool true) rfl ?_ ?_
  · intro wx hSw; go_simp
  try simp only [Act.put, aS]
  refine tkl 3 (.agg #[.int .i64 c, .int .i64 d]) rfl ?_ ?_
  · intro wx hSw; go_simp
  try simp only [Act.put, aS]
  refine tkl 4 (.pointer (some ⟨(w.heap.size + 1), 2, none⟩)) rfl ?_ ?_
  · intro wx hSw; go_simp
  try simp only [Act.put, aS]
  refine tkl 5 (.int .i64 (x 2)) rfl ?_ ?_
  · intro wx hSw; go_simp
  try simp only [Act.put, aS]
  refine rd1 6 rfl fun K hK => ?_
  go_simp
  go_wp2_with fail
  refine (has_impl _ _ _ _).mono ?_
  rintro e y0 ⟨rfl, hy0⟩
  rw [h0]
  refine hK.out _ _ (keepS (by assumption) hy0) (fun hNew => ?_)
  clear hK K hHeld
  have hHeld := hNew
  clear hNew
  try simp only [Act.put, aS]
  refine tkl 7 (.bool true) rfl ?_ ?_
  · intro wx hSw; go_simp
  try simp only [Act.put, aS]
  refine tkl 8 (.bool true) rfl ?_ ?_
  · intro wx hSw; go_simp
  try simp only [Act.put, aS]
  refine tkl 9 (.int .i64 sv) rfl ?_ ?_
  · intro wx hSw; go_simp
  try simp only [Act.put, aS]
  refine rd1 10 rfl fun K hK => ?_
  go_simp
  go_wp2_with fail
  refine (in_implB _ _ _ _).mono ?_
  rintro e y1 ⟨rfl, hy1⟩
  rw [h1]
  refine hK.out _ _ (keepS (by assumption) hy1) (fun hNew => ?_)
  clear hK K hHeld
  have hHeld := hNew
  clear hNew
  try simp only [Act.put, aS]
  refine tkl 11 (.bool false) rfl ?_ ?_
  · intro wx hSw; go_simp
  try simp only [Act.put, aS]
  refine tkl 12 (.bool false) rfl ?_ ?_
  · intro wx hSw; go_simp
  try simp only [Act.put, aS]
  refine tkr 13 rfl ?_
  try simp only [Act.put, aS]
  refine tkr 14 rfl ?_
  try simp only [Act.put, aS]
  refine tkr 15 rfl ?_
  try simp only [Act.put, aS]
  refine tkr 16 rfl ?_
  try simp only [Act.put, aS]
  refine tkr 17 rfl ?_
  try simp only [Act.put, aS]
  refine tkl 18 (.bool false) rfl ?_ ?_
  · intro wx hSw; go_simp
  try simp only [Act.put, aS]
  refine tkl 19 (.bool false) rfl ?_ ?_
  · intro wx hSw; go_simp
  try simp only [Act.put, aS]
  refine tkr 20 rfl ?_
  try simp only [Act.put, aS]
  refine tkr 21 rfl ?_
  try simp only [Act.put, aS]
  refine tkr 22 rfl ?_
  try simp only [Act.put, aS]
  refine tkr 23 rfl ?_
  try simp only [Act.put, aS]
  refine tkr 24 rfl ?_
  try simp only [Act.put, aS]
  refine tkl 25 (.bool false) rfl ?_ ?_
  · intro wx hSw; go_simp
  try simp only [Act.put, aS]
  refine tkl 26 (.bool false) rfl ?_ ?_
  · intro wx hSw; go_simp
  try simp only [Act.put, aS]
  refine tkr 27 rfl ?_
  try simp only [Act.put, aS]
  refine tkr 28 rfl ?_
  try simp only [Act.put, aS]
  refine tkr 29 rfl ?_
  try simp only [Act.put, aS]
  refine tkr 30 rfl ?_
  try simp only [Act.put, aS]
  refine tkr 31 rfl ?_
  try simp only [Act.put, aS]
  refine tkr 32 rfl ?_
  try simp only [Act.put, aS]
  refine tkr 33 rfl ?_
  try simp only [Act.put, aS]
  refine tkr 34 rfl ?_
  try simp only [Act.put, aS]
  refine tkl 35 (.bool false) rfl ?_ ?_
  · intro wx hSw; go_simp
  try simp only [Act.put, aS]
  refine tkl 36 (.bool false) rfl ?_ ?_
  · intro wx hSw; go_simp
  try simp only [Act.put, aS]
  refine wpAnyH_done (by kernel_rfl) ?_ _
  clear hHeld
  have hbz : Below w1.heap.size w1 y1 := by repeat (first | exact Below.refl _ _ | refine bthen ?_ (by assumption) | apply Below.drew)
  clear yM0 yM1 hlM yG0 yG1 yG2 yG3 yG4 yG5 yG6 yG7 yG8 yG9 yG10 yG11 yG12 yG13 yG14 yG15 yG16 yG17 yG18 yG19 yG20 yG21 yG22 yG23 yG24 hlG
  have B5 := hid (bthen B4.out hbz)
  have M5 := hid (M4.out.below hbz)
  have G5 := hid (G4.out.below hbz)
  clear B4 M4 G4
  clear EQ
  go_wp2
  go_ret
  exact ⟨by simp, by repeat (first | exact B5.out | apply Below.drew)⟩
set_option maxRecDepth 100000 in
set_option maxHeartbeats 4000000 in
theorem gen2 (c d sv k : Int) (x m : Nat → Int) (t : TypeId) (V : Value) (ff : Nat) (gb ob : Bool)
    (hcon : ∀ w : World, Calls Tryz.prog 42 #[.agg #[.int .i64 k, .int .i64 (x 1), .int .i64 (x 2), .int .i64 (x 3), .int .i64 (x 4), .int .i64 (x 5), .int .i64 (x 6), .int .i64 (x 7), .int .i64 (x 8), .int .i64 (x 9), .int .i64 (x 10), .int .i64 (x 11), .int .i64 (x 12), .int .i64 (x 13), .int .i64 (x 14), .int .i64 (x 15), .int .i64 (x 16), .int .i64 (x 17), .int .i64 (x 18), .int .i64 (x 19), .int .i64 (x 20), .int .i64 (x 21), .int .i64 (x 22), .int .i64 (x 23), .int .i64 (x 24)]] w fun e w' => e = .returned (.iface t V) ∧ Below w.heap.size w w')
    (hm : ∀ (w : World), (method 307 t V "loop.example/landmarch/impl.isOk").run Tryz.prog w = .ok (ff, V) w)
    (hcf : ∀ (a : Array Value) (w : World), (callFunc ff a).run Tryz.prog w = .ok (.enter ff a) w)
    (hgo : 1 ≤ sv → sv ≤ 3 → ∀ w : World, Calls Tryz.prog 45 #[.iface t V, .int .i64 (x 1), .int .i64 sv] w fun e w' => e = .returned (.bool gb) ∧ Below w.heap.size w w')
    (hok : ∀ w : World, Calls Tryz.prog ff #[V, .agg #[.int .i64 c, .int .i64 d], .int .i64 (x 2)] w fun e w' => e = .returned (.bool ob) ∧ Below w.heap.size w w')
    (hs : ∀ w : World, Calls Tryz.prog 46 #[.int .i64 (x 1), .int .i64 (x 2), .iface t V] w fun e w' => e = .returned (.agg #[.int .i64 k, .int .i64 (x 1), .int .i64 (x 2), .int .i64 (m 3), .int .i64 (m 4), .int .i64 (m 5), .int .i64 (m 6), .int .i64 (m 7), .int .i64 (m 8), .int .i64 (m 9), .int .i64 (m 10), .int .i64 (m 11), .int .i64 (m 12), .int .i64 (m 13), .int .i64 (m 14), .int .i64 (m 15), .int .i64 (m 16), .int .i64 (m 17), .int .i64 (m 18), .int .i64 (m 19), .int .i64 (m 20), .int .i64 (m 21), .int .i64 (m 22), .int .i64 (m 23), .int .i64 (m 24)]) ∧ Below w.heap.size w w')
    (h0 : hasB c d (x 2) = true) (h1 : inB sv 1 3 = true) (h2 : gb = false) (w : World) :
    Calls Tryz.prog 23 #[.agg #[.int .i64 c, .int .i64 d], .int .i64 sv, .agg #[.int .i64 k, .int .i64 (x 1), .int .i64 (x 2), .int .i64 (x 3), .int .i64 (x 4), .int .i64 (x 5), .int .i64 (x 6), .int .i64 (x 7), .int .i64 (x 8), .int .i64 (x 9), .int .i64 (x 10), .int .i64 (x 11), .int .i64 (x 12), .int .i64 (x 13), .int .i64 (x 14), .int .i64 (x 15), .int .i64 (x 16), .int .i64 (x 17), .int .i64 (x 18), .int .i64 (x 19), .int .i64 (x 20), .int .i64 (x 21), .int .i64 (x 22), .int .i64 (x 23), .int .i64 (x 24)]] w fun e w' => e = .returned (.bool (false)) ∧ Below w.heap.size w w' := by
  have EQ := qm x m
  go_enter Tryz.func23, Tryz.ntmps23
  go_wp2_with fail
  obtain ⟨w0, e0⟩ : ∃ w0, w0 = (w.alloc (.cells #[.int .i64 c, .int .i64 d] 43)).alloc (.cells #[.int .i64 k, .int .i64 (x 1), .int .i64 (x 2), .int .i64 (x 3), .int .i64 (x 4), .int .i64 (x 5), .int .i64 (x 6), .int .i64 (x 7), .int .i64 (x 8), .int .i64 (x 9), .int .i64 (x 10), .int .i64 (x 11), .int .i64 (x 12), .int .i64 (x 13), .int .i64 (x 14), .int .i64 (x 15), .int .i64 (x 16), .int .i64 (x 17), .int .i64 (x 18), .int .i64 (x 19), .int .i64 (x 20), .int .i64 (x 21), .int .i64 (x 22), .int .i64 (x 23), .int .i64 (x 24)] 53) := ⟨_, rfl⟩
  have B1 : Hid (Below w.heap.size w w0) := by rw [e0]; exact ((Below.refl _ _).alloc (by simp) _).alloc (by simp) _
  have M2 : Hid (Bk w0 w.heap.size [.int .i64 c, .int .i64 d]) := by rw [e0]; exact (bk_new w 43 [.int .i64 c, .int .i64 d]).below ((Below.refl _ _).alloc (Nat.le_refl _) _)
  have G3 : Hid (Bk w0 (w.heap.size + 1) [.int .i64 k, .int .i64 (x 1), .int .i64 (x 2), .int .i64 (x 3), .int .i64 (x 4), .int .i64 (x 5), .int .i64 (x 6), .int .i64 (x 7), .int .i64 (x 8), .int .i64 (x 9), .int .i64 (x 10), .int .i64 (x 11), .int .i64 (x 12), .int .i64 (x 13), .int .i64 (x 14), .int .i64 (x 15), .int .i64 (x 16), .int .i64 (x 17), .int .i64 (x 18), .int .i64 (x 19), .int .i64 (x 20), .int .i64 (x 21), .int .i64 (x 22), .int .i64 (x 23), .int .i64 (x 24)]) := by rw [e0]; have := bk_new (w.alloc (.cells #[.int .i64 c, .int .i64 d] 43)) 53 [.int .i64 k, .int .i64 (x 1), .int .i64 (x 2), .int .i64 (x 3), .int .i64 (x 4), .int .i64 (x 5), .int .i64 (x 6), .int .i64 (x 7), .int .i64 (x 8), .int .i64 (x 9), .int .i64 (x 10), .int .i64 (x 11), .int .i64 (x 12), .int .i64 (x 13), .int .i64 (x 14), .int .i64 (x 15), .int .i64 (x 16), .int .i64 (x 17), .int .i64 (x 18), .int .i64 (x 19), .int .i64 (x 20), .int .i64 (x 21), .int .i64 (x 22), .int .i64 (x 23), .int .i64 (x 24)]; rwa [show (w.alloc (.cells #[.int .i64 c, .int .i64 d] 43)).heap.size = w.heap.size + 1 by simp] at this
  rw [← e0]
  clear e0
  refine (hcon _).mono ?_
  rintro e w1 ⟨rfl, hb1⟩
  have B4 := hid (bthen B1.out hb1)
  have M4 := hid (M2.out.below hb1)
  have G4 := hid (G3.out.below hb1)
  clear B1 M2 G3
  clear hb1
  obtain ⟨yM0, yM1⟩ := M4.out.a2
  have hlM : w.heap.size < w1.heap.size := M4.out.1
  obtain ⟨yG0, yG1, yG2, yG3, yG4, yG5, yG6, yG7, yG8, yG9, yG10, yG11, yG12, yG13, yG14, yG15, yG16, yG17, yG18, yG19, yG20, yG21, yG22, yG23, yG24⟩ := G4.out.a25
  have hlG : (w.heap.size + 1) < w1.heap.size := G4.out.1
  go_wp2
  refine wp_region_held_drew (S := fun w' => (∀ b o, b < w1.heap.size → w'.cell? ⟨b, o, none⟩ = w1.cell? ⟨b, o, none⟩) ∧ w1.heap.size ≤ w'.heap.size) (by kernel_rfl) ⟨fun _ _ _ => rfl, Nat.le_refl _⟩ ?_
  intro hHeld
  refine tkl 0 (.iface t V) rfl ?_ ?_
  · intro wx hSw; go_simp
  try simp only [Act.put, aS]
  refine tkl 1 (.bool true) rfl ?_ ?_
  · intro wx hSw; go_simp <;> first | omega | (exact IntWalk.i64_in _ (by omega)) | go_num
  try simp only [Act.put, aS]
  refine tkl 2 (.bool true) rfl ?_ ?_
  · intro wx hSw; go_simp
  try simp only [Act.put, aS]
  refine tkl 3 (.agg #[.int .i64 c, .int .i64 d]) rfl ?_ ?_
  · intro wx hSw; go_simp
  try simp only [Act.put, aS]
  refine tkl 4 (.pointer (some ⟨(w.heap.size + 1), 2, none⟩)) rfl ?_ ?_
  · intro wx hSw; go_simp
  try simp only [Act.put, aS]
  refine tkl 5 (.int .i64 (x 2)) rfl ?_ ?_
  · intro wx hSw; go_simp
  try simp only [Act.put, aS]
  refine rd1 6 rfl fun K hK => ?_
  go_simp
  go_wp2_with fail
  refine (has_impl _ _ _ _).mono ?_
  rintro e y0 ⟨rfl, hy0⟩
  rw [h0]
  refine hK.out _ _ (keepS (by assumption) hy0) (fun hNew => ?_)
  clear hK K hHeld
  have hHeld := hNew
  clear hNew
  try simp only [Act.put, aS]
  refine tkl 7 (.bool true) rfl ?_ ?_
  · intro wx hSw; go_simp
  try simp only [Act.put, aS]
  refine tkl 8 (.bool true) rfl ?_ ?_
  · intro wx hSw; go_simp
  try simp only [Act.put, aS]
  refine tkl 9 (.int .i64 sv) rfl ?_ ?_
  · intro wx hSw; go_simp
  try simp only [Act.put, aS]
  refine rd1 10 rfl fun K hK => ?_
  go_simp
  go_wp2_with fail
  refine (in_implB _ _ _ _).mono ?_
  rintro e y1 ⟨rfl, hy1⟩
  rw [h1]
  refine hK.out _ _ (keepS (by assumption) hy1) (fun hNew => ?_)
  clear hK K hHeld
  have hHeld := hNew
  clear hNew
  try simp only [Act.put, aS]
  refine tkl 11 (.bool true) rfl ?_ ?_
  · intro wx hSw; go_simp
  try simp only [Act.put, aS]
  refine tkl 12 (.bool true) rfl ?_ ?_
  · intro wx hSw; go_simp
  try simp only [Act.put, aS]
  refine tkl 13 (.iface t V) rfl ?_ ?_
  · intro wx hSw; go_simp
  try simp only [Act.put, aS]
  refine tkl 14 (.pointer (some ⟨(w.heap.size + 1), 1, none⟩)) rfl ?_ ?_
  · intro wx hSw; go_simp
  try simp only [Act.put, aS]
  refine tkl 15 (.int .i64 (x 1)) rfl ?_ ?_
  · intro wx hSw; go_simp
  try simp only [Act.put, aS]
  refine tkl 16 (.int .i64 sv) rfl ?_ ?_
  · intro wx hSw; go_simp
  try simp only [Act.put, aS]
  refine rd1 17 rfl fun K hK => ?_
  go_simp
  go_wp2_with fail
  refine (hgo (inB_true.1 h1).1 (inB_true.1 h1).2 _).mono ?_
  rintro e y2 ⟨rfl, hy2⟩
  rw [h2]
  refine hK.out _ _ (keepS (by assumption) hy2) (fun hNew => ?_)
  clear hK K hHeld
  have hHeld := hNew
  clear hNew
  try simp only [Act.put, aS]
  refine tkl 18 (.bool false) rfl ?_ ?_
  · intro wx hSw; go_simp
  try simp only [Act.put, aS]
  refine tkl 19 (.bool false) rfl ?_ ?_
  · intro wx hSw; go_simp
  try simp only [Act.put, aS]
  refine tkr 20 rfl ?_
  try simp only [Act.put, aS]
  refine tkr 21 rfl ?_
  try simp only [Act.put, aS]
  refine tkr 22 rfl ?_
  try simp only [Act.put, aS]
  refine tkr 23 rfl ?_
  try simp only [Act.put, aS]
  refine tkr 24 rfl ?_
  try simp only [Act.put, aS]
  refine tkl 25 (.bool false) rfl ?_ ?_
  · intro wx hSw; go_simp
  try simp only [Act.put, aS]
  refine tkl 26 (.bool false) rfl ?_ ?_
  · intro wx hSw; go_simp
  try simp only [Act.put, aS]
  refine tkr 27 rfl ?_
  try simp only [Act.put, aS]
  refine tkr 28 rfl ?_
  try simp only [Act.put, aS]
  refine tkr 29 rfl ?_
  try simp only [Act.put, aS]
  refine tkr 30 rfl ?_
  try simp only [Act.put, aS]
  refine tkr 31 rfl ?_
  try simp only [Act.put, aS]
  refine tkr 32 rfl ?_
  try simp only [Act.put, aS]
  refine tkr 33 rfl ?_
  try simp only [Act.put, aS]
  refine tkr 34 rfl ?_
  try simp only [Act.put, aS]
  refine tkl 35 (.bool false) rfl ?_ ?_
  · intro wx hSw; go_simp
  try simp only [Act.put, aS]
  refine tkl 36 (.bool false) rfl ?_ ?_
  · intro wx hSw; go_simp
  try simp only [Act.put, aS]
  refine wpAnyH_done (by kernel_rfl) ?_ _
  clear hHeld
  have hbz : Below w1.heap.size w1 y2 := by repeat (first | exact Below.refl _ _ | refine bthen ?_ (by assumption) | apply Below.drew)
  clear yM0 yM1 hlM yG0 yG1 yG2 yG3 yG4 yG5 yG6 yG7 yG8 yG9 yG10 yG11 yG12 yG13 yG14 yG15 yG16 yG17 yG18 yG19 yG20 yG21 yG22 yG23 yG24 hlG
  have B5 := hid (bthen B4.out hbz)
  have M5 := hid (M4.out.below hbz)
  have G5 := hid (G4.out.below hbz)
  clear B4 M4 G4
  clear EQ
  go_wp2
  go_ret
  exact ⟨by simp, by repeat (first | exact B5.out | apply Below.drew)⟩
set_option maxRecDepth 100000 in
set_option maxHeartbeats 4000000 in
theorem gen3 (c d sv k : Int) (x m : Nat → Int) (t : TypeId) (V : Value) (ff : Nat) (gb ob : Bool)
    (hcon : ∀ w : World, Calls Tryz.prog 42 #[.agg #[.int .i64 k, .int .i64 (x 1), .int .i64 (x 2), .int .i64 (x 3), .int .i64 (x 4), .int .i64 (x 5), .int .i64 (x 6), .int .i64 (x 7), .int .i64 (x 8), .int .i64 (x 9), .int .i64 (x 10), .int .i64 (x 11), .int .i64 (x 12), .int .i64 (x 13), .int .i64 (x 14), .int .i64 (x 15), .int .i64 (x 16), .int .i64 (x 17), .int .i64 (x 18), .int .i64 (x 19), .int .i64 (x 20), .int .i64 (x 21), .int .i64 (x 22), .int .i64 (x 23), .int .i64 (x 24)]] w fun e w' => e = .returned (.iface t V) ∧ Below w.heap.size w w')
    (hm : ∀ (w : World), (method 307 t V "loop.example/landmarch/impl.isOk").run Tryz.prog w = .ok (ff, V) w)
    (hcf : ∀ (a : Array Value) (w : World), (callFunc ff a).run Tryz.prog w = .ok (.enter ff a) w)
    (hgo : 1 ≤ sv → sv ≤ 3 → ∀ w : World, Calls Tryz.prog 45 #[.iface t V, .int .i64 (x 1), .int .i64 sv] w fun e w' => e = .returned (.bool gb) ∧ Below w.heap.size w w')
    (hok : ∀ w : World, Calls Tryz.prog ff #[V, .agg #[.int .i64 c, .int .i64 d], .int .i64 (x 2)] w fun e w' => e = .returned (.bool ob) ∧ Below w.heap.size w w')
    (hs : ∀ w : World, Calls Tryz.prog 46 #[.int .i64 (x 1), .int .i64 (x 2), .iface t V] w fun e w' => e = .returned (.agg #[.int .i64 k, .int .i64 (x 1), .int .i64 (x 2), .int .i64 (m 3), .int .i64 (m 4), .int .i64 (m 5), .int .i64 (m 6), .int .i64 (m 7), .int .i64 (m 8), .int .i64 (m 9), .int .i64 (m 10), .int .i64 (m 11), .int .i64 (m 12), .int .i64 (m 13), .int .i64 (m 14), .int .i64 (m 15), .int .i64 (m 16), .int .i64 (m 17), .int .i64 (m 18), .int .i64 (m 19), .int .i64 (m 20), .int .i64 (m 21), .int .i64 (m 22), .int .i64 (m 23), .int .i64 (m 24)]) ∧ Below w.heap.size w w')
    (h0 : hasB c d (x 2) = true) (h1 : inB sv 1 3 = true) (h2 : gb = true) (h3 : ob = false) (w : World) :
    Calls Tryz.prog 23 #[.agg #[.int .i64 c, .int .i64 d], .int .i64 sv, .agg #[.int .i64 k, .int .i64 (x 1), .int .i64 (x 2), .int .i64 (x 3), .int .i64 (x 4), .int .i64 (x 5), .int .i64 (x 6), .int .i64 (x 7), .int .i64 (x 8), .int .i64 (x 9), .int .i64 (x 10), .int .i64 (x 11), .int .i64 (x 12), .int .i64 (x 13), .int .i64 (x 14), .int .i64 (x 15), .int .i64 (x 16), .int .i64 (x 17), .int .i64 (x 18), .int .i64 (x 19), .int .i64 (x 20), .int .i64 (x 21), .int .i64 (x 22), .int .i64 (x 23), .int .i64 (x 24)]] w fun e w' => e = .returned (.bool (false)) ∧ Below w.heap.size w w' := by
  have EQ := qm x m
  go_enter Tryz.func23, Tryz.ntmps23
  go_wp2_with fail
  obtain ⟨w0, e0⟩ : ∃ w0, w0 = (w.alloc (.cells #[.int .i64 c, .int .i64 d] 43)).alloc (.cells #[.int .i64 k, .int .i64 (x 1), .int .i64 (x 2), .int .i64 (x 3), .int .i64 (x 4), .int .i64 (x 5), .int .i64 (x 6), .int .i64 (x 7), .int .i64 (x 8), .int .i64 (x 9), .int .i64 (x 10), .int .i64 (x 11), .int .i64 (x 12), .int .i64 (x 13), .int .i64 (x 14), .int .i64 (x 15), .int .i64 (x 16), .int .i64 (x 17), .int .i64 (x 18), .int .i64 (x 19), .int .i64 (x 20), .int .i64 (x 21), .int .i64 (x 22), .int .i64 (x 23), .int .i64 (x 24)] 53) := ⟨_, rfl⟩
  have B1 : Hid (Below w.heap.size w w0) := by rw [e0]; exact ((Below.refl _ _).alloc (by simp) _).alloc (by simp) _
  have M2 : Hid (Bk w0 w.heap.size [.int .i64 c, .int .i64 d]) := by rw [e0]; exact (bk_new w 43 [.int .i64 c, .int .i64 d]).below ((Below.refl _ _).alloc (Nat.le_refl _) _)
  have G3 : Hid (Bk w0 (w.heap.size + 1) [.int .i64 k, .int .i64 (x 1), .int .i64 (x 2), .int .i64 (x 3), .int .i64 (x 4), .int .i64 (x 5), .int .i64 (x 6), .int .i64 (x 7), .int .i64 (x 8), .int .i64 (x 9), .int .i64 (x 10), .int .i64 (x 11), .int .i64 (x 12), .int .i64 (x 13), .int .i64 (x 14), .int .i64 (x 15), .int .i64 (x 16), .int .i64 (x 17), .int .i64 (x 18), .int .i64 (x 19), .int .i64 (x 20), .int .i64 (x 21), .int .i64 (x 22), .int .i64 (x 23), .int .i64 (x 24)]) := by rw [e0]; have := bk_new (w.alloc (.cells #[.int .i64 c, .int .i64 d] 43)) 53 [.int .i64 k, .int .i64 (x 1), .int .i64 (x 2), .int .i64 (x 3), .int .i64 (x 4), .int .i64 (x 5), .int .i64 (x 6), .int .i64 (x 7), .int .i64 (x 8), .int .i64 (x 9), .int .i64 (x 10), .int .i64 (x 11), .int .i64 (x 12), .int .i64 (x 13), .int .i64 (x 14), .int .i64 (x 15), .int .i64 (x 16), .int .i64 (x 17), .int .i64 (x 18), .int .i64 (x 19), .int .i64 (x 20), .int .i64 (x 21), .int .i64 (x 22), .int .i64 (x 23), .int .i64 (x 24)]; rwa [show (w.alloc (.cells #[.int .i64 c, .int .i64 d] 43)).heap.size = w.heap.size + 1 by simp] at this
  rw [← e0]
  clear e0
  refine (hcon _).mono ?_
  rintro e w1 ⟨rfl, hb1⟩
  have B4 := hid (bthen B1.out hb1)
  have M4 := hid (M2.out.below hb1)
  have G4 := hid (G3.out.below hb1)
  clear B1 M2 G3
  clear hb1
  obtain ⟨yM0, yM1⟩ := M4.out.a2
  have hlM : w.heap.size < w1.heap.size := M4.out.1
  obtain ⟨yG0, yG1, yG2, yG3, yG4, yG5, yG6, yG7, yG8, yG9, yG10, yG11, yG12, yG13, yG14, yG15, yG16, yG17, yG18, yG19, yG20, yG21, yG22, yG23, yG24⟩ := G4.out.a25
  have hlG : (w.heap.size + 1) < w1.heap.size := G4.out.1
  go_wp2
  refine wp_region_held_drew (S := fun w' => (∀ b o, b < w1.heap.size → w'.cell? ⟨b, o, none⟩ = w1.cell? ⟨b, o, none⟩) ∧ w1.heap.size ≤ w'.heap.size) (by kernel_rfl) ⟨fun _ _ _ => rfl, Nat.le_refl _⟩ ?_
  intro hHeld
  refine tkl 0 (.iface t V) rfl ?_ ?_
  · intro wx hSw; go_simp
  try simp only [Act.put, aS]
  refine tkl 1 (.bool true) rfl ?_ ?_
  · intro wx hSw; go_simp <;> first | omega | (exact IntWalk.i64_in _ (by omega)) | go_num
  try simp only [Act.put, aS]
  refine tkl 2 (.bool true) rfl ?_ ?_
  · intro wx hSw; go_simp
  try simp only [Act.put, aS]
  refine tkl 3 (.agg #[.int .i64 c, .int .i64 d]) rfl ?_ ?_
  · intro wx hSw; go_simp
  try simp only [Act.put, aS]
  refine tkl 4 (.pointer (some ⟨(w.heap.size + 1), 2, none⟩)) rfl ?_ ?_
  · intro wx hSw; go_simp
  try simp only [Act.put, aS]
  refine tkl 5 (.int .i64 (x 2)) rfl ?_ ?_
  · intro wx hSw; go_simp
  try simp only [Act.put, aS]
  refine rd1 6 rfl fun K hK => ?_
  go_simp
  go_wp2_with fail
  refine (has_impl _ _ _ _).mono ?_
  rintro e y0 ⟨rfl, hy0⟩
  rw [h0]
  refine hK.out _ _ (keepS (by assumption) hy0) (fun hNew => ?_)
  clear hK K hHeld
  have hHeld := hNew
  clear hNew
  try simp only [Act.put, aS]
  refine tkl 7 (.bool true) rfl ?_ ?_
  · intro wx hSw; go_simp
  try simp only [Act.put, aS]
  refine tkl 8 (.bool true) rfl ?_ ?_
  · intro wx hSw; go_simp
  try simp only [Act.put, aS]
  refine tkl 9 (.int .i64 sv) rfl ?_ ?_
  · intro wx hSw; go_simp
  try simp only [Act.put, aS]
  refine rd1 10 rfl fun K hK => ?_
  go_simp
  go_wp2_with fail
  refine (in_implB _ _ _ _).mono ?_
  rintro e y1 ⟨rfl, hy1⟩
  rw [h1]
  refine hK.out _ _ (keepS (by assumption) hy1) (fun hNew => ?_)
  clear hK K hHeld
  have hHeld := hNew
  clear hNew
  try simp only [Act.put, aS]
  refine tkl 11 (.bool true) rfl ?_ ?_
  · intro wx hSw; go_simp
  try simp only [Act.put, aS]
  refine tkl 12 (.bool true) rfl ?_ ?_
  · intro wx hSw; go_simp
  try simp only [Act.put, aS]
  refine tkl 13 (.iface t V) rfl ?_ ?_
  · intro wx hSw; go_simp
  try simp only [Act.put, aS]
  refine tkl 14 (.pointer (some ⟨(w.heap.size + 1), 1, none⟩)) rfl ?_ ?_
  · intro wx hSw; go_simp
  try simp only [Act.put, aS]
  refine tkl 15 (.int .i64 (x 1)) rfl ?_ ?_
  · intro wx hSw; go_simp
  try simp only [Act.put, aS]
  refine tkl 16 (.int .i64 sv) rfl ?_ ?_
  · intro wx hSw; go_simp
  try simp only [Act.put, aS]
  refine rd1 17 rfl fun K hK => ?_
  go_simp
  go_wp2_with fail
  refine (hgo (inB_true.1 h1).1 (inB_true.1 h1).2 _).mono ?_
  rintro e y2 ⟨rfl, hy2⟩
  rw [h2]
  refine hK.out _ _ (keepS (by assumption) hy2) (fun hNew => ?_)
  clear hK K hHeld
  have hHeld := hNew
  clear hNew
  try simp only [Act.put, aS]
  refine tkl 18 (.bool true) rfl ?_ ?_
  · intro wx hSw; go_simp
  try simp only [Act.put, aS]
  refine tkl 19 (.bool true) rfl ?_ ?_
  · intro wx hSw; go_simp
  try simp only [Act.put, aS]
  refine tkl 20 (.iface t V) rfl ?_ ?_
  · intro wx hSw; go_simp
  try simp only [Act.put, aS]
  refine tkl 21 (.agg #[.int .i64 c, .int .i64 d]) rfl ?_ ?_
  · intro wx hSw; go_simp
  try simp only [Act.put, aS]
  refine tkl 22 (.pointer (some ⟨(w.heap.size + 1), 2, none⟩)) rfl ?_ ?_
  · intro wx hSw; go_simp
  try simp only [Act.put, aS]
  refine tkl 23 (.int .i64 (x 2)) rfl ?_ ?_
  · intro wx hSw; go_simp
  try simp only [Act.put, aS]
  refine rd1 24 rfl fun K hK => ?_
  go_simp
  go_wp2_with fail
  refine (hok _).mono ?_
  rintro e y3 ⟨rfl, hy3⟩
  rw [h3]
  refine hK.out _ _ (keepS (by assumption) hy3) (fun hNew => ?_)
  clear hK K hHeld
  have hHeld := hNew
  clear hNew
  try simp only [Act.put, aS]
  refine tkl 25 (.bool false) rfl ?_ ?_
  · intro wx hSw; go_simp
  try simp only [Act.put, aS]
  refine tkl 26 (.bool false) rfl ?_ ?_
  · intro wx hSw; go_simp
  try simp only [Act.put, aS]
  refine tkr 27 rfl ?_
  try simp only [Act.put, aS]
  refine tkr 28 rfl ?_
  try simp only [Act.put, aS]
  refine tkr 29 rfl ?_
  try simp only [Act.put, aS]
  refine tkr 30 rfl ?_
  try simp only [Act.put, aS]
  refine tkr 31 rfl ?_
  try simp only [Act.put, aS]
  refine tkr 32 rfl ?_
  try simp only [Act.put, aS]
  refine tkr 33 rfl ?_
  try simp only [Act.put, aS]
  refine tkr 34 rfl ?_
  try simp only [Act.put, aS]
  refine tkl 35 (.bool false) rfl ?_ ?_
  · intro wx hSw; go_simp
  try simp only [Act.put, aS]
  refine tkl 36 (.bool false) rfl ?_ ?_
  · intro wx hSw; go_simp
  try simp only [Act.put, aS]
  refine wpAnyH_done (by kernel_rfl) ?_ _
  clear hHeld
  have hbz : Below w1.heap.size w1 y3 := by repeat (first | exact Below.refl _ _ | refine bthen ?_ (by assumption) | apply Below.drew)
  clear yM0 yM1 hlM yG0 yG1 yG2 yG3 yG4 yG5 yG6 yG7 yG8 yG9 yG10 yG11 yG12 yG13 yG14 yG15 yG16 yG17 yG18 yG19 yG20 yG21 yG22 yG23 yG24 hlG
  have B5 := hid (bthen B4.out hbz)
  have M5 := hid (M4.out.below hbz)
  have G5 := hid (G4.out.below hbz)
  clear B4 M4 G4
  clear EQ
  go_wp2
  go_ret
  exact ⟨by simp, by repeat (first | exact B5.out | apply Below.drew)⟩
set_option maxRecDepth 100000 in
set_option maxHeartbeats 4000000 in
theorem gen4 (c d sv k : Int) (x m : Nat → Int) (t : TypeId) (V : Value) (ff : Nat) (gb ob : Bool)
    (hcon : ∀ w : World, Calls Tryz.prog 42 #[.agg #[.int .i64 k, .int .i64 (x 1), .int .i64 (x 2), .int .i64 (x 3), .int .i64 (x 4), .int .i64 (x 5), .int .i64 (x 6), .int .i64 (x 7), .int .i64 (x 8), .int .i64 (x 9), .int .i64 (x 10), .int .i64 (x 11), .int .i64 (x 12), .int .i64 (x 13), .int .i64 (x 14), .int .i64 (x 15), .int .i64 (x 16), .int .i64 (x 17), .int .i64 (x 18), .int .i64 (x 19), .int .i64 (x 20), .int .i64 (x 21), .int .i64 (x 22), .int .i64 (x 23), .int .i64 (x 24)]] w fun e w' => e = .returned (.iface t V) ∧ Below w.heap.size w w')
    (hm : ∀ (w : World), (method 307 t V "loop.example/landmarch/impl.isOk").run Tryz.prog w = .ok (ff, V) w)
    (hcf : ∀ (a : Array Value) (w : World), (callFunc ff a).run Tryz.prog w = .ok (.enter ff a) w)
    (hgo : 1 ≤ sv → sv ≤ 3 → ∀ w : World, Calls Tryz.prog 45 #[.iface t V, .int .i64 (x 1), .int .i64 sv] w fun e w' => e = .returned (.bool gb) ∧ Below w.heap.size w w')
    (hok : ∀ w : World, Calls Tryz.prog ff #[V, .agg #[.int .i64 c, .int .i64 d], .int .i64 (x 2)] w fun e w' => e = .returned (.bool ob) ∧ Below w.heap.size w w')
    (hs : ∀ w : World, Calls Tryz.prog 46 #[.int .i64 (x 1), .int .i64 (x 2), .iface t V] w fun e w' => e = .returned (.agg #[.int .i64 k, .int .i64 (x 1), .int .i64 (x 2), .int .i64 (m 3), .int .i64 (m 4), .int .i64 (m 5), .int .i64 (m 6), .int .i64 (m 7), .int .i64 (m 8), .int .i64 (m 9), .int .i64 (m 10), .int .i64 (m 11), .int .i64 (m 12), .int .i64 (m 13), .int .i64 (m 14), .int .i64 (m 15), .int .i64 (m 16), .int .i64 (m 17), .int .i64 (m 18), .int .i64 (m 19), .int .i64 (m 20), .int .i64 (m 21), .int .i64 (m 22), .int .i64 (m 23), .int .i64 (m 24)]) ∧ Below w.heap.size w w')
    (h0 : hasB c d (x 2) = true) (h1 : inB sv 1 3 = true) (h2 : gb = true) (h3 : ob = true) (w : World) :
    Calls Tryz.prog 23 #[.agg #[.int .i64 c, .int .i64 d], .int .i64 sv, .agg #[.int .i64 k, .int .i64 (x 1), .int .i64 (x 2), .int .i64 (x 3), .int .i64 (x 4), .int .i64 (x 5), .int .i64 (x 6), .int .i64 (x 7), .int .i64 (x 8), .int .i64 (x 9), .int .i64 (x 10), .int .i64 (x 11), .int .i64 (x 12), .int .i64 (x 13), .int .i64 (x 14), .int .i64 (x 15), .int .i64 (x 16), .int .i64 (x 17), .int .i64 (x 18), .int .i64 (x 19), .int .i64 (x 20), .int .i64 (x 21), .int .i64 (x 22), .int .i64 (x 23), .int .i64 (x 24)]] w fun e w' => e = .returned (.bool (eqM x m)) ∧ Below w.heap.size w w' := by
  have EQ := qm x m
  go_enter Tryz.func23, Tryz.ntmps23
  go_wp2_with fail
  obtain ⟨w0, e0⟩ : ∃ w0, w0 = (w.alloc (.cells #[.int .i64 c, .int .i64 d] 43)).alloc (.cells #[.int .i64 k, .int .i64 (x 1), .int .i64 (x 2), .int .i64 (x 3), .int .i64 (x 4), .int .i64 (x 5), .int .i64 (x 6), .int .i64 (x 7), .int .i64 (x 8), .int .i64 (x 9), .int .i64 (x 10), .int .i64 (x 11), .int .i64 (x 12), .int .i64 (x 13), .int .i64 (x 14), .int .i64 (x 15), .int .i64 (x 16), .int .i64 (x 17), .int .i64 (x 18), .int .i64 (x 19), .int .i64 (x 20), .int .i64 (x 21), .int .i64 (x 22), .int .i64 (x 23), .int .i64 (x 24)] 53) := ⟨_, rfl⟩
  have B1 : Hid (Below w.heap.size w w0) := by rw [e0]; exact ((Below.refl _ _).alloc (by simp) _).alloc (by simp) _
  have M2 : Hid (Bk w0 w.heap.size [.int .i64 c, .int .i64 d]) := by rw [e0]; exact (bk_new w 43 [.int .i64 c, .int .i64 d]).below ((Below.refl _ _).alloc (Nat.le_refl _) _)
  have G3 : Hid (Bk w0 (w.heap.size + 1) [.int .i64 k, .int .i64 (x 1), .int .i64 (x 2), .int .i64 (x 3), .int .i64 (x 4), .int .i64 (x 5), .int .i64 (x 6), .int .i64 (x 7), .int .i64 (x 8), .int .i64 (x 9), .int .i64 (x 10), .int .i64 (x 11), .int .i64 (x 12), .int .i64 (x 13), .int .i64 (x 14), .int .i64 (x 15), .int .i64 (x 16), .int .i64 (x 17), .int .i64 (x 18), .int .i64 (x 19), .int .i64 (x 20), .int .i64 (x 21), .int .i64 (x 22), .int .i64 (x 23), .int .i64 (x 24)]) := by rw [e0]; have := bk_new (w.alloc (.cells #[.int .i64 c, .int .i64 d] 43)) 53 [.int .i64 k, .int .i64 (x 1), .int .i64 (x 2), .int .i64 (x 3), .int .i64 (x 4), .int .i64 (x 5), .int .i64 (x 6), .int .i64 (x 7), .int .i64 (x 8), .int .i64 (x 9), .int .i64 (x 10), .int .i64 (x 11), .int .i64 (x 12), .int .i64 (x 13), .int .i64 (x 14), .int .i64 (x 15), .int .i64 (x 16), .int .i64 (x 17), .int .i64 (x 18), .int .i64 (x 19), .int .i64 (x 20), .int .i64 (x 21), .int .i64 (x 22), .int .i64 (x 23), .int .i64 (x 24)]; rwa [show (w.alloc (.cells #[.int .i64 c, .int .i64 d] 43)).heap.size = w.heap.size + 1 by simp] at this
  rw [← e0]
  clear e0
  refine (hcon _).mono ?_
  rintro e w1 ⟨rfl, hb1⟩
  have B4 := hid (bthen B1.out hb1)
  have M4 := hid (M2.out.below hb1)
  have G4 := hid (G3.out.below hb1)
  clear B1 M2 G3
  clear hb1
  obtain ⟨yM0, yM1⟩ := M4.out.a2
  have hlM : w.heap.size < w1.heap.size := M4.out.1
  obtain ⟨yG0, yG1, yG2, yG3, yG4, yG5, yG6, yG7, yG8, yG9, yG10, yG11, yG12, yG13, yG14, yG15, yG16, yG17, yG18, yG19, yG20, yG21, yG22, yG23, yG24⟩ := G4.out.a25
  have hlG : (w.heap.size + 1) < w1.heap.size := G4.out.1
  go_wp2
  refine wp_region_held_drew (S := fun w' => (∀ b o, b < w1.heap.size → w'.cell? ⟨b, o, none⟩ = w1.cell? ⟨b, o, none⟩) ∧ w1.heap.size ≤ w'.heap.size) (by kernel_rfl) ⟨fun _ _ _ => rfl, Nat.le_refl _⟩ ?_
  intro hHeld
  refine tkl 0 (.iface t V) rfl ?_ ?_
  · intro wx hSw; go_simp
  try simp only [Act.put, aS]
  refine tkl 1 (.bool true) rfl ?_ ?_
  · intro wx hSw; go_simp <;> first | omega | (exact IntWalk.i64_in _ (by omega)) | go_num
  try simp only [Act.put, aS]
  refine tkl 2 (.bool true) rfl ?_ ?_
  · intro wx hSw; go_simp
  try simp only [Act.put, aS]
  refine tkl 3 (.agg #[.int .i64 c, .int .i64 d]) rfl ?_ ?_
  · intro wx hSw; go_simp
  try simp only [Act.put, aS]
  refine tkl 4 (.pointer (some ⟨(w.heap.size + 1), 2, none⟩)) rfl ?_ ?_
  · intro wx hSw; go_simp
  try simp only [Act.put, aS]
  refine tkl 5 (.int .i64 (x 2)) rfl ?_ ?_
  · intro wx hSw; go_simp
  try simp only [Act.put, aS]
  refine rd1 6 rfl fun K hK => ?_
  go_simp
  go_wp2_with fail
  refine (has_impl _ _ _ _).mono ?_
  rintro e y0 ⟨rfl, hy0⟩
  rw [h0]
  refine hK.out _ _ (keepS (by assumption) hy0) (fun hNew => ?_)
  clear hK K hHeld
  have hHeld := hNew
  clear hNew
  try simp only [Act.put, aS]
  refine tkl 7 (.bool true) rfl ?_ ?_
  · intro wx hSw; go_simp
  try simp only [Act.put, aS]
  refine tkl 8 (.bool true) rfl ?_ ?_
  · intro wx hSw; go_simp
  try simp only [Act.put, aS]
  refine tkl 9 (.int .i64 sv) rfl ?_ ?_
  · intro wx hSw; go_simp
  try simp only [Act.put, aS]
  refine rd1 10 rfl fun K hK => ?_
  go_simp
  go_wp2_with fail
  refine (in_implB _ _ _ _).mono ?_
  rintro e y1 ⟨rfl, hy1⟩
  rw [h1]
  refine hK.out _ _ (keepS (by assumption) hy1) (fun hNew => ?_)
  clear hK K hHeld
  have hHeld := hNew
  clear hNew
  try simp only [Act.put, aS]
  refine tkl 11 (.bool true) rfl ?_ ?_
  · intro wx hSw; go_simp
  try simp only [Act.put, aS]
  refine tkl 12 (.bool true) rfl ?_ ?_
  · intro wx hSw; go_simp
  try simp only [Act.put, aS]
  refine tkl 13 (.iface t V) rfl ?_ ?_
  · intro wx hSw; go_simp
  try simp only [Act.put, aS]
  refine tkl 14 (.pointer (some ⟨(w.heap.size + 1), 1, none⟩)) rfl ?_ ?_
  · intro wx hSw; go_simp
  try simp only [Act.put, aS]
  refine tkl 15 (.int .i64 (x 1)) rfl ?_ ?_
  · intro wx hSw; go_simp
  try simp only [Act.put, aS]
  refine tkl 16 (.int .i64 sv) rfl ?_ ?_
  · intro wx hSw; go_simp
  try simp only [Act.put, aS]
  refine rd1 17 rfl fun K hK => ?_
  go_simp
  go_wp2_with fail
  refine (hgo (inB_true.1 h1).1 (inB_true.1 h1).2 _).mono ?_
  rintro e y2 ⟨rfl, hy2⟩
  rw [h2]
  refine hK.out _ _ (keepS (by assumption) hy2) (fun hNew => ?_)
  clear hK K hHeld
  have hHeld := hNew
  clear hNew
  try simp only [Act.put, aS]
  refine tkl 18 (.bool true) rfl ?_ ?_
  · intro wx hSw; go_simp
  try simp only [Act.put, aS]
  refine tkl 19 (.bool true) rfl ?_ ?_
  · intro wx hSw; go_simp
  try simp only [Act.put, aS]
  refine tkl 20 (.iface t V) rfl ?_ ?_
  · intro wx hSw; go_simp
  try simp only [Act.put, aS]
  refine tkl 21 (.agg #[.int .i64 c, .int .i64 d]) rfl ?_ ?_
  · intro wx hSw; go_simp
  try simp only [Act.put, aS]
  refine tkl 22 (.pointer (some ⟨(w.heap.size + 1), 2, none⟩)) rfl ?_ ?_
  · intro wx hSw; go_simp
  try simp only [Act.put, aS]
  refine tkl 23 (.int .i64 (x 2)) rfl ?_ ?_
  · intro wx hSw; go_simp
  try simp only [Act.put, aS]
  refine rd1 24 rfl fun K hK => ?_
  go_simp
  go_wp2_with fail
  refine (hok _).mono ?_
  rintro e y3 ⟨rfl, hy3⟩
  rw [h3]
  refine hK.out _ _ (keepS (by assumption) hy3) (fun hNew => ?_)
  clear hK K hHeld
  have hHeld := hNew
  clear hNew
  try simp only [Act.put, aS]
  refine tkl 25 (.bool true) rfl ?_ ?_
  · intro wx hSw; go_simp
  try simp only [Act.put, aS]
  refine tkl 26 (.bool true) rfl ?_ ?_
  · intro wx hSw; go_simp
  try simp only [Act.put, aS]
  refine tkl 27 (.agg #[.int .i64 k, .int .i64 (x 1), .int .i64 (x 2), .int .i64 (x 3), .int .i64 (x 4), .int .i64 (x 5), .int .i64 (x 6), .int .i64 (x 7), .int .i64 (x 8), .int .i64 (x 9), .int .i64 (x 10), .int .i64 (x 11), .int .i64 (x 12), .int .i64 (x 13), .int .i64 (x 14), .int .i64 (x 15), .int .i64 (x 16), .int .i64 (x 17), .int .i64 (x 18), .int .i64 (x 19), .int .i64 (x 20), .int .i64 (x 21), .int .i64 (x 22), .int .i64 (x 23), .int .i64 (x 24)]) rfl ?_ ?_
  · intro wx hSw; go_simp
  try simp only [Act.put, aS]
  refine tkl 28 (.pointer (some ⟨(w.heap.size + 1), 1, none⟩)) rfl ?_ ?_
  · intro wx hSw; go_simp
  try simp only [Act.put, aS]
  refine tkl 29 (.int .i64 (x 1)) rfl ?_ ?_
  · intro wx hSw; go_simp
  try simp only [Act.put, aS]
  refine tkl 30 (.pointer (some ⟨(w.heap.size + 1), 2, none⟩)) rfl ?_ ?_
  · intro wx hSw; go_simp
  try simp only [Act.put, aS]
  refine tkl 31 (.int .i64 (x 2)) rfl ?_ ?_
  · intro wx hSw; go_simp
  try simp only [Act.put, aS]
  refine tkl 32 (.iface t V) rfl ?_ ?_
  · intro wx hSw; go_simp
  try simp only [Act.put, aS]
  refine rd1 33 rfl fun K hK => ?_
  go_simp
  go_wp2_with fail
  refine (hs _).mono ?_
  rintro e y4 ⟨rfl, hy4⟩
  refine hK.out _ _ (keepS (by assumption) hy4) (fun hNew => ?_)
  clear hK K hHeld
  have hHeld := hNew
  clear hNew
  try simp only [Act.put, aS]
  refine tkl 34 (.bool (eqM x m)) rfl ?_ ?_
  · intro wx hSw; go_simp <;> first | omega | (exact IntWalk.i64_in _ (by omega)) | go_num
  try simp only [Act.put, aS]
  refine tkl 35 (.bool (eqM x m)) rfl ?_ ?_
  · intro wx hSw; go_simp
  try simp only [Act.put, aS]
  refine tkl 36 (.bool (eqM x m)) rfl ?_ ?_
  · intro wx hSw; go_simp
  try simp only [Act.put, aS]
  refine wpAnyH_done (by kernel_rfl) ?_ _
  clear hHeld
  have hbz : Below w1.heap.size w1 y4 := by repeat (first | exact Below.refl _ _ | refine bthen ?_ (by assumption) | apply Below.drew)
  clear yM0 yM1 hlM yG0 yG1 yG2 yG3 yG4 yG5 yG6 yG7 yG8 yG9 yG10 yG11 yG12 yG13 yG14 yG15 yG16 yG17 yG18 yG19 yG20 yG21 yG22 yG23 yG24 hlG
  have B5 := hid (bthen B4.out hbz)
  have M5 := hid (M4.out.below hbz)
  have G5 := hid (G4.out.below hbz)
  clear B4 M4 G4
  clear EQ
  go_wp2
  go_ret
  exact ⟨by simp, by repeat (first | exact B5.out | apply Below.drew)⟩
theorem msgOk_gen (c d sv k : Int) (x m : Nat → Int) (t : TypeId) (V : Value) (ff : Nat) (gb ob : Bool)
    (hcon : ∀ w : World, Calls Tryz.prog 42 #[.agg #[.int .i64 k, .int .i64 (x 1), .int .i64 (x 2), .int .i64 (x 3), .int .i64 (x 4), .int .i64 (x 5), .int .i64 (x 6), .int .i64 (x 7), .int .i64 (x 8), .int .i64 (x 9), .int .i64 (x 10), .int .i64 (x 11), .int .i64 (x 12), .int .i64 (x 13), .int .i64 (x 14), .int .i64 (x 15), .int .i64 (x 16), .int .i64 (x 17), .int .i64 (x 18), .int .i64 (x 19), .int .i64 (x 20), .int .i64 (x 21), .int .i64 (x 22), .int .i64 (x 23), .int .i64 (x 24)]] w fun e w' => e = .returned (.iface t V) ∧ Below w.heap.size w w')
    (hm : ∀ (w : World), (method 307 t V "loop.example/landmarch/impl.isOk").run Tryz.prog w = .ok (ff, V) w)
    (hcf : ∀ (a : Array Value) (w : World), (callFunc ff a).run Tryz.prog w = .ok (.enter ff a) w)
    (hgo : 1 ≤ sv → sv ≤ 3 → ∀ w : World, Calls Tryz.prog 45 #[.iface t V, .int .i64 (x 1), .int .i64 sv] w fun e w' => e = .returned (.bool gb) ∧ Below w.heap.size w w')
    (hok : ∀ w : World, Calls Tryz.prog ff #[V, .agg #[.int .i64 c, .int .i64 d], .int .i64 (x 2)] w fun e w' => e = .returned (.bool ob) ∧ Below w.heap.size w w')
    (hs : ∀ w : World, Calls Tryz.prog 46 #[.int .i64 (x 1), .int .i64 (x 2), .iface t V] w fun e w' => e = .returned (.agg #[.int .i64 k, .int .i64 (x 1), .int .i64 (x 2), .int .i64 (m 3), .int .i64 (m 4), .int .i64 (m 5), .int .i64 (m 6), .int .i64 (m 7), .int .i64 (m 8), .int .i64 (m 9), .int .i64 (m 10), .int .i64 (m 11), .int .i64 (m 12), .int .i64 (m 13), .int .i64 (m 14), .int .i64 (m 15), .int .i64 (m 16), .int .i64 (m 17), .int .i64 (m 18), .int .i64 (m 19), .int .i64 (m 20), .int .i64 (m 21), .int .i64 (m 22), .int .i64 (m 23), .int .i64 (m 24)]) ∧ Below w.heap.size w w') (w : World) :
    Calls Tryz.prog 23 #[.agg #[.int .i64 c, .int .i64 d], .int .i64 sv, .agg #[.int .i64 k, .int .i64 (x 1), .int .i64 (x 2), .int .i64 (x 3), .int .i64 (x 4), .int .i64 (x 5), .int .i64 (x 6), .int .i64 (x 7), .int .i64 (x 8), .int .i64 (x 9), .int .i64 (x 10), .int .i64 (x 11), .int .i64 (x 12), .int .i64 (x 13), .int .i64 (x 14), .int .i64 (x 15), .int .i64 (x 16), .int .i64 (x 17), .int .i64 (x 18), .int .i64 (x 19), .int .i64 (x 20), .int .i64 (x 21), .int .i64 (x 22), .int .i64 (x 23), .int .i64 (x 24)]] w fun e w' => e = .returned (.bool (hasB c d (x 2) && (inB sv 1 3 && (gb && (ob && eqM x m))))) ∧ Below w.heap.size w w' := by
  cases h0 : hasB c d (x 2)
  · exact gen0 c d sv k x m t V ff gb ob hcon hm hcf hgo hok hs h0 w
  · cases h1 : inB sv 1 3
    · exact gen1 c d sv k x m t V ff gb ob hcon hm hcf hgo hok hs h0 h1 w
    · cases h2 : gb
      · subst h2; exact gen2 c d sv k x m t V ff false ob hcon hm hcf hgo hok hs h0 h1 rfl w
      · cases h3 : ob
        · subst h2 h3; exact gen3 c d sv k x m t V ff true false hcon hm hcf hgo hok hs h0 h1 rfl rfl w
        · subst h2 h3; exact gen4 c d sv k x m t V ff true true hcon hm hcf hgo hok hs h0 h1 rfl rfl w
end Go.Proofs.YtgjapdjidighlabGreat
