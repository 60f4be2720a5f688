/- LogRead: the law; conditions: those typed. -/
import Derived.Test.YtgioecjnghllhaaGreatDoorLK
import Derived.Deep.DeepCutAuto
import Derived.Deep.MidRow
namespace Go.Proofs.YtgioecjnghllhaaGreatDoor
open Go.RowKit Go.Deep
set_option linter.unusedVariables false
set_option maxRecDepth 100000
attribute [local go_sem ↓] load29_eq store29_eq
set_option maxHeartbeats 2000000 in
theorem law_logRead (s : ByteArray) (w : World) (hE : Env w) :
    Calls Tryz.prog 3 #[.string s] w fun e w' => e = .returned (.bool true) ∧ Below w.heap.size w w' := by
  have HE := hid hE
  clear hE
  by_cases hbig : (1048576 : Int) < (s.size : Int)
  · go_enter Tryz.func3, Tryz.ntmps3
    go_wp2
    go_ret
    exact ⟨rfl, by repeat (first | exact Below.refl _ _ | refine Below.alloc ?_ (by simp <;> omega) _)⟩
  obtain ⟨k, r, b, hsp, him⟩ := same_all s
  have HS := hid hsp
  have HI := hid him
  clear hsp him
  have hbig' : (s.size : Int) ≤ 1048576 := by omega
  clear hbig
  go_enter Tryz.func3, Tryz.ntmps3
  go_wp2_with fail
  refine (HS.out _).mono ?_
  rintro e w1 ⟨rfl, hb1⟩
  unfold RV
  have B1 : Hid (Below w.heap.size w w1) := hb1
  clear hb1
  go_wp2
  obtain ⟨wz, ez⟩ : ∃ wq, wq = w1.alloc (.cells #[.int .i64 0, .int .i64 0, .int .i64 0, .int .i64 0, .int .i64 0, .int .i64 0, .int .i64 0, .int .i64 0, .int .i64 0, .int .i64 0, .int .i64 0, .int .i64 0, .int .i64 0, .int .i64 0, .int .i64 0, .int .i64 0] 29) := ⟨_, rfl⟩
  have hbz : Below w1.heap.size w1 wz := by rw [ez]; exact (Below.refl _ _).alloc (Nat.le_refl _) _
  have hZ : Bk wz w1.heap.size [.int .i64 0, .int .i64 0, .int .i64 0, .int .i64 0, .int .i64 0, .int .i64 0, .int .i64 0, .int .i64 0, .int .i64 0, .int .i64 0, .int .i64 0, .int .i64 0, .int .i64 0, .int .i64 0, .int .i64 0, .int .i64 0] := by rw [ez]; exact bk_new w1 29 [.int .i64 0, .int .i64 0, .int .i64 0, .int .i64 0, .int .i64 0, .int .i64 0, .int .i64 0, .int .i64 0, .int .i64 0, .int .i64 0, .int .i64 0, .int .i64 0, .int .i64 0, .int .i64 0, .int .i64 0, .int .i64 0]
  rw [← ez]
  clear ez
  rw [store29_bk hZ rfl _ rfl (by kernel_rfl)]
  obtain ⟨w2, en⟩ : ∃ y, y = putL w1.heap.size ((#[.int .i64 k, .int .i64 (r 1), .int .i64 (r 2), .int .i64 (r 3), .int .i64 (r 4), .int .i64 (r 5), .int .i64 (r 6), .int .i64 (r 7), .int .i64 (r 8), .int .i64 (r 9), .int .i64 (r 10), .int .i64 (r 11), .int .i64 (r 12), .int .i64 (r 13), .int .i64 (r 14), .int .i64 (r 15)] : Array Value).toList) 0 wz := ⟨_, rfl⟩
  have hG : Bk w2 w1.heap.size [.int .i64 k, .int .i64 (r 1), .int .i64 (r 2), .int .i64 (r 3), .int .i64 (r 4), .int .i64 (r 5), .int .i64 (r 6), .int .i64 (r 7), .int .i64 (r 8), .int .i64 (r 9), .int .i64 (r 10), .int .i64 (r 11), .int .i64 (r 12), .int .i64 (r 13), .int .i64 (r 14), .int .i64 (r 15)] := by rw [en]; exact bk_put hZ rfl
  have hb3 : Below w1.heap.size w1 w2 := by rw [en]; exact below_put (Nat.le_refl _) _ _ hbz
  rw [← en]
  clear en hZ hbz
  have B2 : Hid (Below w.heap.size w w2) := bthen B1.out hb3
  clear B1
  obtain ⟨o, eo⟩ : ∃ g, g = w1.heap.size := ⟨_, rfl⟩
  rw [← eo] at hG ⊢
  clear eo hb3
  have O3 : Hid (Bk w2 o [.int .i64 k, .int .i64 (r 1), .int .i64 (r 2), .int .i64 (r 3), .int .i64 (r 4), .int .i64 (r 5), .int .i64 (r 6), .int .i64 (r 7), .int .i64 (r 8), .int .i64 (r 9), .int .i64 (r 10), .int .i64 (r 11), .int .i64 (r 12), .int .i64 (r 13), .int .i64 (r 14), .int .i64 (r 15)]) := hG
  clear hG
  go_wp2_with fail
  refine (HI.out _ (HE.out.on B2.out)).mono ?_
  rintro e w3 ⟨rfl, hb⟩
  unfold RV
  have B4 : Hid (Below w.heap.size w w3) := bthen B2.out hb
  have O4 : Hid (Bk w3 o [.int .i64 k, .int .i64 (r 1), .int .i64 (r 2), .int .i64 (r 3), .int .i64 (r 4), .int .i64 (r 5), .int .i64 (r 6), .int .i64 (r 7), .int .i64 (r 8), .int .i64 (r 9), .int .i64 (r 10), .int .i64 (r 11), .int .i64 (r 12), .int .i64 (r 13), .int .i64 (r 14), .int .i64 (r 15)]) := O3.out.below hb
  clear B2 O3
  clear hb
  go_wp2
  obtain ⟨wz, ez⟩ : ∃ wq, wq = w3.alloc (.cells #[.int .i64 0, .int .i64 0, .int .i64 0, .int .i64 0, .int .i64 0, .int .i64 0, .int .i64 0, .int .i64 0, .int .i64 0, .int .i64 0, .int .i64 0, .int .i64 0, .int .i64 0, .int .i64 0, .int .i64 0, .int .i64 0] 29) := ⟨_, rfl⟩
  have hbz : Below w3.heap.size w3 wz := by rw [ez]; exact (Below.refl _ _).alloc (Nat.le_refl _) _
  have hZ : Bk wz w3.heap.size [.int .i64 0, .int .i64 0, .int .i64 0, .int .i64 0, .int .i64 0, .int .i64 0, .int .i64 0, .int .i64 0, .int .i64 0, .int .i64 0, .int .i64 0, .int .i64 0, .int .i64 0, .int .i64 0, .int .i64 0, .int .i64 0] := by rw [ez]; exact bk_new w3 29 [.int .i64 0, .int .i64 0, .int .i64 0, .int .i64 0, .int .i64 0, .int .i64 0, .int .i64 0, .int .i64 0, .int .i64 0, .int .i64 0, .int .i64 0, .int .i64 0, .int .i64 0, .int .i64 0, .int .i64 0, .int .i64 0]
  rw [← ez]
  clear ez
  rw [store29_bk hZ rfl _ rfl (by kernel_rfl)]
  obtain ⟨w4, en⟩ : ∃ y, y = putL w3.heap.size ((#[.int .i64 k, .int .i64 (r 1), .int .i64 (r 2), .int .i64 (r 3), .int .i64 (r 4), .int .i64 (r 5), .int .i64 (r 6), .int .i64 (r 7), .int .i64 (r 8), .int .i64 (r 9), .int .i64 (r 10), .int .i64 (r 11), .int .i64 (r 12), .int .i64 (r 13), .int .i64 (r 14), .int .i64 (r 15)] : Array Value).toList) 0 wz := ⟨_, rfl⟩
  have hG : Bk w4 w3.heap.size [.int .i64 k, .int .i64 (r 1), .int .i64 (r 2), .int .i64 (r 3), .int .i64 (r 4), .int .i64 (r 5), .int .i64 (r 6), .int .i64 (r 7), .int .i64 (r 8), .int .i64 (r 9), .int .i64 (r 10), .int .i64 (r 11), .int .i64 (r 12), .int .i64 (r 13), .int .i64 (r 14), .int .i64 (r 15)] := by rw [en]; exact bk_put hZ rfl
  have hb3 : Below w3.heap.size w3 w4 := by rw [en]; exact below_put (Nat.le_refl _) _ _ hbz
  rw [← en]
  clear en hZ hbz
  have B5 : Hid (Below w.heap.size w w4) := bthen B4.out hb3
  have O5 : Hid (Bk w4 o [.int .i64 k, .int .i64 (r 1), .int .i64 (r 2), .int .i64 (r 3), .int .i64 (r 4), .int .i64 (r 5), .int .i64 (r 6), .int .i64 (r 7), .int .i64 (r 8), .int .i64 (r 9), .int .i64 (r 10), .int .i64 (r 11), .int .i64 (r 12), .int .i64 (r 13), .int .i64 (r 14), .int .i64 (r 15)]) := O4.out.below hb3
  clear B4 O4
  obtain ⟨p, eo⟩ : ∃ g, g = w3.heap.size := ⟨_, rfl⟩
  rw [← eo] at hG ⊢
  clear eo hb3
  have P6 : Hid (Bk w4 p [.int .i64 k, .int .i64 (r 1), .int .i64 (r 2), .int .i64 (r 3), .int .i64 (r 4), .int .i64 (r 5), .int .i64 (r 6), .int .i64 (r 7), .int .i64 (r 8), .int .i64 (r 9), .int .i64 (r 10), .int .i64 (r 11), .int .i64 (r 12), .int .i64 (r 13), .int .i64 (r 14), .int .i64 (r 15)]) := hG
  clear hG
  go_wp2
  rw [load29_bk (P6.out) rfl]
  go_wp2
  rw [load29_bk (O5.out) rfl]
  go_wp2_with fail
  refine (eqRec k r _).mono ?_
  rintro e w5 ⟨rfl, hb⟩
  have B7 : Hid (Below w.heap.size w w5) := bthen B5.out hb
  have O7 : Hid (Bk w5 o [.int .i64 k, .int .i64 (r 1), .int .i64 (r 2), .int .i64 (r 3), .int .i64 (r 4), .int .i64 (r 5), .int .i64 (r 6), .int .i64 (r 7), .int .i64 (r 8), .int .i64 (r 9), .int .i64 (r 10), .int .i64 (r 11), .int .i64 (r 12), .int .i64 (r 13), .int .i64 (r 14), .int .i64 (r 15)]) := O5.out.below hb
  have P7 : Hid (Bk w5 p [.int .i64 k, .int .i64 (r 1), .int .i64 (r 2), .int .i64 (r 3), .int .i64 (r 4), .int .i64 (r 5), .int .i64 (r 6), .int .i64 (r 7), .int .i64 (r 8), .int .i64 (r 9), .int .i64 (r 10), .int .i64 (r 11), .int .i64 (r 12), .int .i64 (r 13), .int .i64 (r 14), .int .i64 (r 15)]) := P6.out.below hb
  clear B5 O5 P6
  clear hb
  cases b
  all_goals
    go_wp2
    go_ret
    exact ⟨rfl, B7.out⟩
end Go.Proofs.YtgioecjnghllhaaGreatDoor
