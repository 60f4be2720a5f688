/- LogRead of the model, by its first word; conditions: those typed. -/
import Derived.Test.YtgioecjnghllhaaGreatDoorLH
import Derived.Deep.DeepCutAuto
import Derived.Deep.MidRow
namespace Go.Proofs.YtgioecjnghllhaaGreatDoor
open Go.RowKit Go.Deep
set_option linter.unusedVariables false
set_option maxRecDepth 100000
attribute [local go_sem ↓] load29_eq store29_eq
set_option maxHeartbeats 2000000 in
theorem sp_long (s : ByteArray) (hs : (100 : Int) < (s.size : Int)) (w : World) :
    Calls Tryz.prog 4 #[.string s] w fun e w' => e = .returned (.tuple #[.agg #[.int .i64 0, .int .i64 0, .int .i64 0, .int .i64 0, .int .i64 0, .int .i64 0, .int .i64 0, .int .i64 0, .int .i64 0, .int .i64 0, .int .i64 0, .int .i64 0, .int .i64 0, .int .i64 0, .int .i64 0, .int .i64 0], .bool false]) ∧ Below w.heap.size w w' := by
  go_enter Tryz.func4, Tryz.ntmps4
  go_wp2_with fail
  obtain ⟨w0, e0⟩ : ∃ w0, w0 = w.alloc (.cells #[.int .i64 0, .int .i64 0, .int .i64 0, .int .i64 0, .int .i64 0, .int .i64 0, .int .i64 0, .int .i64 0, .int .i64 0, .int .i64 0, .int .i64 0, .int .i64 0, .int .i64 0, .int .i64 0, .int .i64 0, .int .i64 0] 29) := ⟨_, rfl⟩
  have B1 : Hid (Below w.heap.size w w0) := by rw [e0]; exact (Below.refl _ _).alloc (by simp) _
  have R2 : Hid (Bk w0 w.heap.size [.int .i64 0, .int .i64 0, .int .i64 0, .int .i64 0, .int .i64 0, .int .i64 0, .int .i64 0, .int .i64 0, .int .i64 0, .int .i64 0, .int .i64 0, .int .i64 0, .int .i64 0, .int .i64 0, .int .i64 0, .int .i64 0]) := by rw [e0]; exact bk_new w 29 [.int .i64 0, .int .i64 0, .int .i64 0, .int .i64 0, .int .i64 0, .int .i64 0, .int .i64 0, .int .i64 0, .int .i64 0, .int .i64 0, .int .i64 0, .int .i64 0, .int .i64 0, .int .i64 0, .int .i64 0, .int .i64 0]
  rw [← e0]
  clear e0
  refine (words_long s hs _).mono ?_
  rintro e w1 ⟨rfl, hb1⟩
  have B3 : Hid (Below w.heap.size w w1) := bthen B1.out hb1
  have R3 : Hid (Bk w1 w.heap.size [.int .i64 0, .int .i64 0, .int .i64 0, .int .i64 0, .int .i64 0, .int .i64 0, .int .i64 0, .int .i64 0, .int .i64 0, .int .i64 0, .int .i64 0, .int .i64 0, .int .i64 0, .int .i64 0, .int .i64 0, .int .i64 0]) := R2.out.below hb1
  clear B1 R2
  clear hb1
  go_wp2
  rw [store29_bk (R3.out) rfl _ rfl (by kernel_rfl)]
  obtain ⟨w9, e9⟩ : ∃ y, y = putL w.heap.size ((#[.int .i64 0, .int .i64 0, .int .i64 0, .int .i64 0, .int .i64 0, .int .i64 0, .int .i64 0, .int .i64 0, .int .i64 0, .int .i64 0, .int .i64 0, .int .i64 0, .int .i64 0, .int .i64 0, .int .i64 0, .int .i64 0] : Array Value).toList) 0 w1 := ⟨_, rfl⟩
  have R9 : Hid (Bk w9 w.heap.size [.int .i64 0, .int .i64 0, .int .i64 0, .int .i64 0, .int .i64 0, .int .i64 0, .int .i64 0, .int .i64 0, .int .i64 0, .int .i64 0, .int .i64 0, .int .i64 0, .int .i64 0, .int .i64 0, .int .i64 0, .int .i64 0]) := by unfold Hid; rw [e9]; exact bk_put (R3.out) rfl
  have B9 : Hid (Below w.heap.size w w9) := by unfold Hid; rw [e9]; exact below_put (by omega) _ _ (B3.out)
  rw [← e9]
  clear e9
  go_wp2
  have hr := fun tmps hp hq => results_mid2 (P := Tryz.prog) (fn := Tryz.f4) Tryz.results4 tmps w9 w.heap.size [.int .i64 0, .int .i64 0, .int .i64 0, .int .i64 0, .int .i64 0, .int .i64 0, .int .i64 0, .int .i64 0, .int .i64 0, .int .i64 0, .int .i64 0, .int .i64 0, .int .i64 0, .int .i64 0, .int .i64 0, .int .i64 0] _ (.bool false) hp hq (Bk.range R9.out) Tryz.underlying29 rfl (by kernel_rfl)
  exact bodyPost_ret (v := .tuple #[.agg #[.int .i64 0, .int .i64 0, .int .i64 0, .int .i64 0, .int .i64 0, .int .i64 0, .int .i64 0, .int .i64 0, .int .i64 0, .int .i64 0, .int .i64 0, .int .i64 0, .int .i64 0, .int .i64 0, .int .i64 0, .int .i64 0], .bool false]) (hr _ rfl rfl) rfl ⟨rfl, B9.out⟩
set_option maxHeartbeats 2000000 in
theorem sp_few (s : ByteArray) (hs : (s.size : Int) ≤ 100) (h : (words s.data.toList).length < 3) (w : World) :
    Calls Tryz.prog 4 #[.string s] w fun e w' => e = .returned (.tuple #[.agg #[.int .i64 0, .int .i64 0, .int .i64 0, .int .i64 0, .int .i64 0, .int .i64 0, .int .i64 0, .int .i64 0, .int .i64 0, .int .i64 0, .int .i64 0, .int .i64 0, .int .i64 0, .int .i64 0, .int .i64 0, .int .i64 0], .bool false]) ∧ Below w.heap.size w w' := by
  go_enter Tryz.func4, Tryz.ntmps4
  go_wp2_with fail
  obtain ⟨w0, e0⟩ : ∃ w0, w0 = w.alloc (.cells #[.int .i64 0, .int .i64 0, .int .i64 0, .int .i64 0, .int .i64 0, .int .i64 0, .int .i64 0, .int .i64 0, .int .i64 0, .int .i64 0, .int .i64 0, .int .i64 0, .int .i64 0, .int .i64 0, .int .i64 0, .int .i64 0] 29) := ⟨_, rfl⟩
  have B1 : Hid (Below w.heap.size w w0) := by rw [e0]; exact (Below.refl _ _).alloc (by simp) _
  have R2 : Hid (Bk w0 w.heap.size [.int .i64 0, .int .i64 0, .int .i64 0, .int .i64 0, .int .i64 0, .int .i64 0, .int .i64 0, .int .i64 0, .int .i64 0, .int .i64 0, .int .i64 0, .int .i64 0, .int .i64 0, .int .i64 0, .int .i64 0, .int .i64 0]) := by rw [e0]; exact bk_new w 29 [.int .i64 0, .int .i64 0, .int .i64 0, .int .i64 0, .int .i64 0, .int .i64 0, .int .i64 0, .int .i64 0, .int .i64 0, .int .i64 0, .int .i64 0, .int .i64 0, .int .i64 0, .int .i64 0, .int .i64 0, .int .i64 0]
  rw [← e0]
  clear e0
  refine (words_spec s hs _).mono ?_
  rintro e w1 ⟨v, rfl, ho, hb1⟩
  have B3 : Hid (Below w.heap.size w w1) := bthen B1.out hb1
  have R3 : Hid (Bk w1 w.heap.size [.int .i64 0, .int .i64 0, .int .i64 0, .int .i64 0, .int .i64 0, .int .i64 0, .int .i64 0, .int .i64 0, .int .i64 0, .int .i64 0, .int .i64 0, .int .i64 0, .int .i64 0, .int .i64 0, .int .i64 0, .int .i64 0]) := R2.out.below hb1
  clear B1 R2
  clear hb1
  have hl : ((words s.data.toList).length : Int) < 3 := by omega
  rcases ho.2 with ⟨rfl, h0⟩ | ⟨g, cap, cur, rfl, _⟩
  · have : (words s.data.toList).length ≠ 0 := by obtain ⟨a, b, e⟩ := words_cons s.data.toList; rw [e]; simp
    exact absurd h0 this
  clear ho
  go_wp2
  rw [store29_bk (R3.out) rfl _ rfl (by kernel_rfl)]
  obtain ⟨w9, e9⟩ : ∃ y, y = putL w.heap.size ((#[.int .i64 0, .int .i64 0, .int .i64 0, .int .i64 0, .int .i64 0, .int .i64 0, .int .i64 0, .int .i64 0, .int .i64 0, .int .i64 0, .int .i64 0, .int .i64 0, .int .i64 0, .int .i64 0, .int .i64 0, .int .i64 0] : Array Value).toList) 0 w1 := ⟨_, rfl⟩
  have R9 : Hid (Bk w9 w.heap.size [.int .i64 0, .int .i64 0, .int .i64 0, .int .i64 0, .int .i64 0, .int .i64 0, .int .i64 0, .int .i64 0, .int .i64 0, .int .i64 0, .int .i64 0, .int .i64 0, .int .i64 0, .int .i64 0, .int .i64 0, .int .i64 0]) := by unfold Hid; rw [e9]; exact bk_put (R3.out) rfl
  have B9 : Hid (Below w.heap.size w w9) := by unfold Hid; rw [e9]; exact below_put (by omega) _ _ (B3.out)
  rw [← e9]
  clear e9
  go_wp2
  have hr := fun tmps hp hq => results_mid2 (P := Tryz.prog) (fn := Tryz.f4) Tryz.results4 tmps w9 w.heap.size [.int .i64 0, .int .i64 0, .int .i64 0, .int .i64 0, .int .i64 0, .int .i64 0, .int .i64 0, .int .i64 0, .int .i64 0, .int .i64 0, .int .i64 0, .int .i64 0, .int .i64 0, .int .i64 0, .int .i64 0, .int .i64 0] _ (.bool false) hp hq (Bk.range R9.out) Tryz.underlying29 rfl (by kernel_rfl)
  exact bodyPost_ret (v := .tuple #[.agg #[.int .i64 0, .int .i64 0, .int .i64 0, .int .i64 0, .int .i64 0, .int .i64 0, .int .i64 0, .int .i64 0, .int .i64 0, .int .i64 0, .int .i64 0, .int .i64 0, .int .i64 0, .int .i64 0, .int .i64 0, .int .i64 0], .bool false]) (hr _ rfl rfl) rfl ⟨rfl, B9.out⟩
set_option maxHeartbeats 4000000 in
theorem sp_do_yes (s : ByteArray) (hs : (s.size : Int) ≤ 100) (he : s.toList.isEmpty = false) (h3 : 3 ≤ (words s.data.toList).length) (p0 p1 p2 p3 p4 : Int)
    (hO : ∀ w, Calls Tryz.prog 8 #[.string ⟨(restF s.data.toList).toArray⟩] w fun e w' => e = .returned (.tuple #[.agg #[.int .i64 p0, .int .i64 p1, .int .i64 p2, .int .i64 p3, .int .i64 p4], .bool true]) ∧ Below w.heap.size w w') (T : ByteArray) (hT : ∀ w, Calls Tryz.prog 13 #[.agg #[.int .i64 1, .int .i64 p0, .int .i64 p1, .int .i64 p2, .int .i64 p3, .int .i64 p4, .int .i64 0, .int .i64 0, .int .i64 0, .int .i64 0, .int .i64 0, .int .i64 0, .int .i64 0, .int .i64 0, .int .i64 0, .int .i64 0]] w fun e w' => e = .returned (.string T) ∧ Below w.heap.size w w') (h0 : (words s.data.toList)[0]? = some [100, 111]) (w : World) :
    Calls Tryz.prog 4 #[.string s] w fun e w' => ((T = s ∧ e = .returned (.tuple #[.agg #[.int .i64 1, .int .i64 p0, .int .i64 p1, .int .i64 p2, .int .i64 p3, .int .i64 p4, .int .i64 0, .int .i64 0, .int .i64 0, .int .i64 0, .int .i64 0, .int .i64 0, .int .i64 0, .int .i64 0, .int .i64 0, .int .i64 0], .bool true])) ∨ (¬ T = s ∧ e = .returned (.tuple #[.agg #[.int .i64 0, .int .i64 0, .int .i64 0, .int .i64 0, .int .i64 0, .int .i64 0, .int .i64 0, .int .i64 0, .int .i64 0, .int .i64 0, .int .i64 0, .int .i64 0, .int .i64 0, .int .i64 0, .int .i64 0, .int .i64 0], .bool false]))) ∧ Below w.heap.size w w' := by
  have H0 := hid h0
  clear h0
  have HT := hid hT
  clear hT
  have hl : (3 : Int) ≤ ((words s.data.toList).length : Int) := by omega
  have wl : (words s.data.toList).length ≤ 200 := by have := wlen s.data.toList; rw [size_len] at this; omega
  have HO := hid hO
  clear hO
  go_enter Tryz.func4, Tryz.ntmps4
  go_wp2_with fail
  obtain ⟨w0, e0⟩ : ∃ w0, w0 = w.alloc (.cells #[.int .i64 0, .int .i64 0, .int .i64 0, .int .i64 0, .int .i64 0, .int .i64 0, .int .i64 0, .int .i64 0, .int .i64 0, .int .i64 0, .int .i64 0, .int .i64 0, .int .i64 0, .int .i64 0, .int .i64 0, .int .i64 0] 29) := ⟨_, rfl⟩
  have B1 : Hid (Below w.heap.size w w0) := by rw [e0]; exact (Below.refl _ _).alloc (by simp) _
  have R2 : Hid (Bk w0 w.heap.size [.int .i64 0, .int .i64 0, .int .i64 0, .int .i64 0, .int .i64 0, .int .i64 0, .int .i64 0, .int .i64 0, .int .i64 0, .int .i64 0, .int .i64 0, .int .i64 0, .int .i64 0, .int .i64 0, .int .i64 0, .int .i64 0]) := by rw [e0]; exact bk_new w 29 [.int .i64 0, .int .i64 0, .int .i64 0, .int .i64 0, .int .i64 0, .int .i64 0, .int .i64 0, .int .i64 0, .int .i64 0, .int .i64 0, .int .i64 0, .int .i64 0, .int .i64 0, .int .i64 0, .int .i64 0, .int .i64 0]
  rw [← e0]
  clear e0
  refine (words_spec s hs _).mono ?_
  rintro e w1 ⟨v, rfl, ho, hb1⟩
  have B3 : Hid (Below w.heap.size w w1) := bthen B1.out hb1
  have R3 : Hid (Bk w1 w.heap.size [.int .i64 0, .int .i64 0, .int .i64 0, .int .i64 0, .int .i64 0, .int .i64 0, .int .i64 0, .int .i64 0, .int .i64 0, .int .i64 0, .int .i64 0, .int .i64 0, .int .i64 0, .int .i64 0, .int .i64 0, .int .i64 0]) := R2.out.below hb1
  clear B1 R2
  clear hb1
  rcases ho.2 with ⟨_, h⟩ | ⟨g, cap, cur, rfl, _⟩
  · omega
  have HK := hid (looked s hs _ g _ cap rfl w1 ho)
  have hc0 : w1.cell? ⟨g, 0, none⟩ = some (.string ⟨([100, 111] : List UInt8).toArray⟩) := by
    have := ho.cells (g := g) rfl 0 (.string ⟨([100, 111] : List UInt8).toArray⟩) (by simp [strs, H0.out])
    rwa [show (⟨g, 0, none⟩ : Addr).add 0 = ⟨g, 0, none⟩ by unfold Addr.add; split <;> simp_all] at this
  have hgl : g < w1.heap.size := World.block_lt_of_cell? w1 _ hc0
  have HC0 := hid hc0
  clear ho hc0
  have Q4 : Hid (Below w1.heap.size w1 w1) := Below.refl _ _
  go_wp2
  obtain ⟨wz, ez⟩ : ∃ wq, wq = w1.alloc (.cells #[.int .i64 0, .int .i64 0, .int .i64 0, .int .i64 0, .int .i64 0, .int .i64 0, .int .i64 0, .int .i64 0, .int .i64 0, .int .i64 0, .int .i64 0, .int .i64 0, .int .i64 0, .int .i64 0, .int .i64 0, .int .i64 0] 29) := ⟨_, rfl⟩
  have hbz : Below w1.heap.size w1 wz := by rw [ez]; exact (Below.refl _ _).alloc (Nat.le_refl _) _
  have hZ : Bk wz w1.heap.size [.int .i64 0, .int .i64 0, .int .i64 0, .int .i64 0, .int .i64 0, .int .i64 0, .int .i64 0, .int .i64 0, .int .i64 0, .int .i64 0, .int .i64 0, .int .i64 0, .int .i64 0, .int .i64 0, .int .i64 0, .int .i64 0] := by rw [ez]; exact bk_new w1 29 [.int .i64 0, .int .i64 0, .int .i64 0, .int .i64 0, .int .i64 0, .int .i64 0, .int .i64 0, .int .i64 0, .int .i64 0, .int .i64 0, .int .i64 0, .int .i64 0, .int .i64 0, .int .i64 0, .int .i64 0, .int .i64 0]
  rw [← ez]
  clear ez
  rw [store29_bk hZ rfl _ rfl (by kernel_rfl)]
  obtain ⟨w2, en⟩ : ∃ y, y = putL w1.heap.size ((#[.int .i64 0, .int .i64 0, .int .i64 0, .int .i64 0, .int .i64 0, .int .i64 0, .int .i64 0, .int .i64 0, .int .i64 0, .int .i64 0, .int .i64 0, .int .i64 0, .int .i64 0, .int .i64 0, .int .i64 0, .int .i64 0] : Array Value).toList) 0 wz := ⟨_, rfl⟩
  have hG : Bk w2 w1.heap.size [.int .i64 0, .int .i64 0, .int .i64 0, .int .i64 0, .int .i64 0, .int .i64 0, .int .i64 0, .int .i64 0, .int .i64 0, .int .i64 0, .int .i64 0, .int .i64 0, .int .i64 0, .int .i64 0, .int .i64 0, .int .i64 0] := by rw [en]; exact bk_put hZ rfl
  have hb3 : Below w1.heap.size w1 w2 := by rw [en]; exact below_put (Nat.le_refl _) _ _ hbz
  rw [← en]
  clear en hZ hbz
  have hRw : w.heap.size < w1.heap.size := R3.out.1
  have B5 : Hid (Below w.heap.size w w2) := bthen B3.out hb3
  have R5 : Hid (Bk w2 w.heap.size [.int .i64 0, .int .i64 0, .int .i64 0, .int .i64 0, .int .i64 0, .int .i64 0, .int .i64 0, .int .i64 0, .int .i64 0, .int .i64 0, .int .i64 0, .int .i64 0, .int .i64 0, .int .i64 0, .int .i64 0, .int .i64 0]) := R3.out.below hb3
  have Q5 : Hid (Below w1.heap.size w1 w2) := bthen Q4.out hb3
  clear B3 R3 Q4
  obtain ⟨o, eo⟩ : ∃ g, g = w1.heap.size := ⟨_, rfl⟩
  rw [← eo] at hG ⊢
  have eo1 : ¬ w.heap.size = o := by omega
  have eo3 : w.heap.size < o := by omega
  clear eo hb3
  have O6 : Hid (Bk w2 o [.int .i64 0, .int .i64 0, .int .i64 0, .int .i64 0, .int .i64 0, .int .i64 0, .int .i64 0, .int .i64 0, .int .i64 0, .int .i64 0, .int .i64 0, .int .i64 0, .int .i64 0, .int .i64 0, .int .i64 0, .int .i64 0]) := hG
  clear hG
  have hc0 : w2.cell? ⟨g, 0, none⟩ = some (.string ⟨([100, 111] : List UInt8).toArray⟩) := (Q5.out.cell (p := ⟨g, 0, none⟩) hgl).trans HC0.out
  skip
  go_wp2_with fail
  refine (rest_spec s (by omega) _).mono ?_
  rintro e w3 ⟨rfl, e3⟩
  subst e3
  go_wp2_with fail
  refine (HO.out _).mono ?_
  rintro e w4 ⟨rfl, hb⟩
  have B7 : Hid (Below w.heap.size w w4) := bthen B5.out hb
  have R7 : Hid (Bk w4 w.heap.size [.int .i64 0, .int .i64 0, .int .i64 0, .int .i64 0, .int .i64 0, .int .i64 0, .int .i64 0, .int .i64 0, .int .i64 0, .int .i64 0, .int .i64 0, .int .i64 0, .int .i64 0, .int .i64 0, .int .i64 0, .int .i64 0]) := R5.out.below hb
  have Q7 : Hid (Below w1.heap.size w1 w4) := bthen Q5.out hb
  have O7 : Hid (Bk w4 o [.int .i64 0, .int .i64 0, .int .i64 0, .int .i64 0, .int .i64 0, .int .i64 0, .int .i64 0, .int .i64 0, .int .i64 0, .int .i64 0, .int .i64 0, .int .i64 0, .int .i64 0, .int .i64 0, .int .i64 0, .int .i64 0]) := O6.out.below hb
  clear B5 R5 Q5 O6
  clear hb hc0
  go_upto_region 8 with fail
  obtain ⟨w5, e3⟩ : ∃ wq, wq = w4.alloc (.cells #[.int .i64 p0, .int .i64 p1, .int .i64 p2, .int .i64 p3, .int .i64 p4] 23) := ⟨_, rfl⟩
  have hb3 : Below w4.heap.size w4 w5 := by rw [e3]; exact (Below.refl _ _).alloc (Nat.le_refl _) _
  have hG : Bk w5 w4.heap.size [.int .i64 p0, .int .i64 p1, .int .i64 p2, .int .i64 p3, .int .i64 p4] := by rw [e3]; exact bk_new w4 23 [.int .i64 p0, .int .i64 p1, .int .i64 p2, .int .i64 p3, .int .i64 p4]
  rw [← e3]
  clear e3
  have hRw : w.heap.size < w4.heap.size := R7.out.1
  have B8 : Hid (Below w.heap.size w w5) := bthen B7.out hb3
  have R8 : Hid (Bk w5 w.heap.size [.int .i64 0, .int .i64 0, .int .i64 0, .int .i64 0, .int .i64 0, .int .i64 0, .int .i64 0, .int .i64 0, .int .i64 0, .int .i64 0, .int .i64 0, .int .i64 0, .int .i64 0, .int .i64 0, .int .i64 0, .int .i64 0]) := R7.out.below hb3
  have Q8 : Hid (Below w1.heap.size w1 w5) := bthen Q7.out hb3
  have O8 : Hid (Bk w5 o [.int .i64 0, .int .i64 0, .int .i64 0, .int .i64 0, .int .i64 0, .int .i64 0, .int .i64 0, .int .i64 0, .int .i64 0, .int .i64 0, .int .i64 0, .int .i64 0, .int .i64 0, .int .i64 0, .int .i64 0, .int .i64 0]) := O7.out.below hb3
  clear B7 R7 Q7 O7
  obtain ⟨p, eo⟩ : ∃ g, g = w4.heap.size := ⟨_, rfl⟩
  rw [← eo] at hG ⊢
  have eo1 : ¬ w.heap.size = p := by omega
  have eo2 : ¬ p = w.heap.size := by omega
  clear eo hb3
  have P9 : Hid (Bk w5 p [.int .i64 p0, .int .i64 p1, .int .i64 p2, .int .i64 p3, .int .i64 p4]) := hG
  clear hG
  have yP0 : w5.cell? ⟨p, 0, none⟩ = some (.int .i64 p0) := (P9.out.2 0 (by simp)).1
  have yP1 : w5.cell? ⟨p, 1, none⟩ = some (.int .i64 p1) := (P9.out.2 1 (by simp)).1
  have yP2 : w5.cell? ⟨p, 2, none⟩ = some (.int .i64 p2) := (P9.out.2 2 (by simp)).1
  have yP3 : w5.cell? ⟨p, 3, none⟩ = some (.int .i64 p3) := (P9.out.2 3 (by simp)).1
  have yP4 : w5.cell? ⟨p, 4, none⟩ = some (.int .i64 p4) := (P9.out.2 4 (by simp)).1
  have hlP : p < w5.heap.size := P9.out.1
  skip
  go_wp2
  rw [store29_bk (O8.out) rfl _ rfl (by kernel_rfl)]
  obtain ⟨w6, en⟩ : ∃ y, y = putL o ((#[.int .i64 1, .int .i64 p0, .int .i64 p1, .int .i64 p2, .int .i64 p3, .int .i64 p4, .int .i64 0, .int .i64 0, .int .i64 0, .int .i64 0, .int .i64 0, .int .i64 0, .int .i64 0, .int .i64 0, .int .i64 0, .int .i64 0] : Array Value).toList) 0 w5 := ⟨_, rfl⟩
  have hG : Bk w6 o [.int .i64 1, .int .i64 p0, .int .i64 p1, .int .i64 p2, .int .i64 p3, .int .i64 p4, .int .i64 0, .int .i64 0, .int .i64 0, .int .i64 0, .int .i64 0, .int .i64 0, .int .i64 0, .int .i64 0, .int .i64 0, .int .i64 0] := by rw [en]; exact bk_put (O8.out) rfl
  have hz : w5.heap.size ≤ w6.heap.size := by rw [en]; exact Nat.le_of_eq (size_put o _ 0 w5).symm
  have hsm : ∀ g, ¬ g = o → Sm w5 w6 g := by rw [en]; exact fun g hg => sm_put hg _ 0 w5
  have hB : Below w.heap.size w w6 := by rw [en]; exact below_put (by omega) _ _ (B8.out)
  rw [← en]
  clear en
  have hR9 := R8.out.sm hz (hsm w.heap.size (by omega))
  have B10 : Hid (Below w.heap.size w w6) := hB
  have R11 : Hid (Bk w6 w.heap.size [.int .i64 0, .int .i64 0, .int .i64 0, .int .i64 0, .int .i64 0, .int .i64 0, .int .i64 0, .int .i64 0, .int .i64 0, .int .i64 0, .int .i64 0, .int .i64 0, .int .i64 0, .int .i64 0, .int .i64 0, .int .i64 0]) := hR9
  have O12 : Hid (Bk w6 o [.int .i64 1, .int .i64 p0, .int .i64 p1, .int .i64 p2, .int .i64 p3, .int .i64 p4, .int .i64 0, .int .i64 0, .int .i64 0, .int .i64 0, .int .i64 0, .int .i64 0, .int .i64 0, .int .i64 0, .int .i64 0, .int .i64 0]) := hG
  clear hB hR9 hG hz hsm
  go_wp2
  rw [load29_bk (O12.out) rfl]
  go_wp2_with fail
  refine (HT.out _).mono ?_
  rintro e wt ⟨rfl, hb⟩
  have B13 : Hid (Below w.heap.size w wt) := bthen B10.out hb
  have R13 : Hid (Bk wt w.heap.size [.int .i64 0, .int .i64 0, .int .i64 0, .int .i64 0, .int .i64 0, .int .i64 0, .int .i64 0, .int .i64 0, .int .i64 0, .int .i64 0, .int .i64 0, .int .i64 0, .int .i64 0, .int .i64 0, .int .i64 0, .int .i64 0]) := R11.out.below hb
  have O13 : Hid (Bk wt o [.int .i64 1, .int .i64 p0, .int .i64 p1, .int .i64 p2, .int .i64 p3, .int .i64 p4, .int .i64 0, .int .i64 0, .int .i64 0, .int .i64 0, .int .i64 0, .int .i64 0, .int .i64 0, .int .i64 0, .int .i64 0, .int .i64 0]) := O12.out.below hb
  clear B10 R11 O12
  clear hb
  by_cases ht : T = s
  · have he2 : T.toList.isEmpty = false := by rw [ht]; exact he
    have ht2 : (T.toList == s.toList) = true := by rw [ht]; simp
    have HTT := hid ht
    clear ht
    go_wp2
    rw [load29_bk (O13.out) rfl]
    go_wp2_with fail
    refine (HT.out _).mono ?_
    rintro e wu ⟨rfl, hb⟩
    have B14 : Hid (Below w.heap.size w wu) := bthen B13.out hb
    have R14 : Hid (Bk wu w.heap.size [.int .i64 0, .int .i64 0, .int .i64 0, .int .i64 0, .int .i64 0, .int .i64 0, .int .i64 0, .int .i64 0, .int .i64 0, .int .i64 0, .int .i64 0, .int .i64 0, .int .i64 0, .int .i64 0, .int .i64 0, .int .i64 0]) := R13.out.below hb
    have O14 : Hid (Bk wu o [.int .i64 1, .int .i64 p0, .int .i64 p1, .int .i64 p2, .int .i64 p3, .int .i64 p4, .int .i64 0, .int .i64 0, .int .i64 0, .int .i64 0, .int .i64 0, .int .i64 0, .int .i64 0, .int .i64 0, .int .i64 0, .int .i64 0]) := O13.out.below hb
    clear B13 R13 O13
    clear hb
    go_wp2
    rw [load29_bk (O14.out) rfl]
    go_wp2
    rw [store29_bk (R14.out) rfl _ rfl (by kernel_rfl)]
    obtain ⟨w9, e9⟩ : ∃ y, y = putL w.heap.size ((#[.int .i64 1, .int .i64 p0, .int .i64 p1, .int .i64 p2, .int .i64 p3, .int .i64 p4, .int .i64 0, .int .i64 0, .int .i64 0, .int .i64 0, .int .i64 0, .int .i64 0, .int .i64 0, .int .i64 0, .int .i64 0, .int .i64 0] : Array Value).toList) 0 wu := ⟨_, rfl⟩
    have R9 : Hid (Bk w9 w.heap.size [.int .i64 1, .int .i64 p0, .int .i64 p1, .int .i64 p2, .int .i64 p3, .int .i64 p4, .int .i64 0, .int .i64 0, .int .i64 0, .int .i64 0, .int .i64 0, .int .i64 0, .int .i64 0, .int .i64 0, .int .i64 0, .int .i64 0]) := by unfold Hid; rw [e9]; exact bk_put (R14.out) rfl
    have B9 : Hid (Below w.heap.size w w9) := by unfold Hid; rw [e9]; exact below_put (by omega) _ _ (B14.out)
    rw [← e9]
    clear e9
    go_wp2
    have hr := fun tmps hp hq => results_mid2 (P := Tryz.prog) (fn := Tryz.f4) Tryz.results4 tmps w9 w.heap.size [.int .i64 1, .int .i64 p0, .int .i64 p1, .int .i64 p2, .int .i64 p3, .int .i64 p4, .int .i64 0, .int .i64 0, .int .i64 0, .int .i64 0, .int .i64 0, .int .i64 0, .int .i64 0, .int .i64 0, .int .i64 0, .int .i64 0] _ (.bool true) hp hq (Bk.range R9.out) Tryz.underlying29 rfl (by kernel_rfl)
    exact bodyPost_ret (v := .tuple #[.agg #[.int .i64 1, .int .i64 p0, .int .i64 p1, .int .i64 p2, .int .i64 p3, .int .i64 p4, .int .i64 0, .int .i64 0, .int .i64 0, .int .i64 0, .int .i64 0, .int .i64 0, .int .i64 0, .int .i64 0, .int .i64 0, .int .i64 0], .bool true]) (hr _ rfl rfl) rfl ⟨.inl ⟨HTT.out, rfl⟩, B9.out⟩
  · have HTT := hid ht
    have ht2 : (T.toList == s.toList) = false := by rw [list_eq]; exact decide_eq_false ht
    clear ht
    cases he2 : T.toList.isEmpty
    · go_wp2
      rw [load29_bk (O13.out) rfl]
      go_wp2_with fail
      refine (HT.out _).mono ?_
      rintro e wu ⟨rfl, hb⟩
      have B15 : Hid (Below w.heap.size w wu) := bthen B13.out hb
      have R15 : Hid (Bk wu w.heap.size [.int .i64 0, .int .i64 0, .int .i64 0, .int .i64 0, .int .i64 0, .int .i64 0, .int .i64 0, .int .i64 0, .int .i64 0, .int .i64 0, .int .i64 0, .int .i64 0, .int .i64 0, .int .i64 0, .int .i64 0, .int .i64 0]) := R13.out.below hb
      have O15 : Hid (Bk wu o [.int .i64 1, .int .i64 p0, .int .i64 p1, .int .i64 p2, .int .i64 p3, .int .i64 p4, .int .i64 0, .int .i64 0, .int .i64 0, .int .i64 0, .int .i64 0, .int .i64 0, .int .i64 0, .int .i64 0, .int .i64 0, .int .i64 0]) := O13.out.below hb
      clear B13 R13 O13
      clear hb
      go_wp2
      rw [store29_bk (R15.out) rfl _ rfl (by kernel_rfl)]
      obtain ⟨w9, e9⟩ : ∃ y, y = putL w.heap.size ((#[.int .i64 0, .int .i64 0, .int .i64 0, .int .i64 0, .int .i64 0, .int .i64 0, .int .i64 0, .int .i64 0, .int .i64 0, .int .i64 0, .int .i64 0, .int .i64 0, .int .i64 0, .int .i64 0, .int .i64 0, .int .i64 0] : Array Value).toList) 0 wu := ⟨_, rfl⟩
      have R9 : Hid (Bk w9 w.heap.size [.int .i64 0, .int .i64 0, .int .i64 0, .int .i64 0, .int .i64 0, .int .i64 0, .int .i64 0, .int .i64 0, .int .i64 0, .int .i64 0, .int .i64 0, .int .i64 0, .int .i64 0, .int .i64 0, .int .i64 0, .int .i64 0]) := by unfold Hid; rw [e9]; exact bk_put (R15.out) rfl
      have B9 : Hid (Below w.heap.size w w9) := by unfold Hid; rw [e9]; exact below_put (by omega) _ _ (B15.out)
      rw [← e9]
      clear e9
      go_wp2
      have hr := fun tmps hp hq => results_mid2 (P := Tryz.prog) (fn := Tryz.f4) Tryz.results4 tmps w9 w.heap.size [.int .i64 0, .int .i64 0, .int .i64 0, .int .i64 0, .int .i64 0, .int .i64 0, .int .i64 0, .int .i64 0, .int .i64 0, .int .i64 0, .int .i64 0, .int .i64 0, .int .i64 0, .int .i64 0, .int .i64 0, .int .i64 0] _ (.bool false) hp hq (Bk.range R9.out) Tryz.underlying29 rfl (by kernel_rfl)
      exact bodyPost_ret (v := .tuple #[.agg #[.int .i64 0, .int .i64 0, .int .i64 0, .int .i64 0, .int .i64 0, .int .i64 0, .int .i64 0, .int .i64 0, .int .i64 0, .int .i64 0, .int .i64 0, .int .i64 0, .int .i64 0, .int .i64 0, .int .i64 0, .int .i64 0], .bool false]) (hr _ rfl rfl) rfl ⟨.inr ⟨HTT.out, rfl⟩, B9.out⟩
    · go_wp2
      rw [store29_bk (R13.out) rfl _ rfl (by kernel_rfl)]
      obtain ⟨w9, e9⟩ : ∃ y, y = putL w.heap.size ((#[.int .i64 0, .int .i64 0, .int .i64 0, .int .i64 0, .int .i64 0, .int .i64 0, .int .i64 0, .int .i64 0, .int .i64 0, .int .i64 0, .int .i64 0, .int .i64 0, .int .i64 0, .int .i64 0, .int .i64 0, .int .i64 0] : Array Value).toList) 0 wt := ⟨_, rfl⟩
      have R9 : Hid (Bk w9 w.heap.size [.int .i64 0, .int .i64 0, .int .i64 0, .int .i64 0, .int .i64 0, .int .i64 0, .int .i64 0, .int .i64 0, .int .i64 0, .int .i64 0, .int .i64 0, .int .i64 0, .int .i64 0, .int .i64 0, .int .i64 0, .int .i64 0]) := by unfold Hid; rw [e9]; exact bk_put (R13.out) rfl
      have B9 : Hid (Below w.heap.size w w9) := by unfold Hid; rw [e9]; exact below_put (by omega) _ _ (B13.out)
      rw [← e9]
      clear e9
      go_wp2
      have hr := fun tmps hp hq => results_mid2 (P := Tryz.prog) (fn := Tryz.f4) Tryz.results4 tmps w9 w.heap.size [.int .i64 0, .int .i64 0, .int .i64 0, .int .i64 0, .int .i64 0, .int .i64 0, .int .i64 0, .int .i64 0, .int .i64 0, .int .i64 0, .int .i64 0, .int .i64 0, .int .i64 0, .int .i64 0, .int .i64 0, .int .i64 0] _ (.bool false) hp hq (Bk.range R9.out) Tryz.underlying29 rfl (by kernel_rfl)
      exact bodyPost_ret (v := .tuple #[.agg #[.int .i64 0, .int .i64 0, .int .i64 0, .int .i64 0, .int .i64 0, .int .i64 0, .int .i64 0, .int .i64 0, .int .i64 0, .int .i64 0, .int .i64 0, .int .i64 0, .int .i64 0, .int .i64 0, .int .i64 0, .int .i64 0], .bool false]) (hr _ rfl rfl) rfl ⟨.inr ⟨HTT.out, rfl⟩, B9.out⟩
set_option maxHeartbeats 4000000 in
theorem sp_do_no (s : ByteArray) (hs : (s.size : Int) ≤ 100) (he : s.toList.isEmpty = false) (h3 : 3 ≤ (words s.data.toList).length) (p0 p1 p2 p3 p4 : Int)
    (hO : ∀ w, Calls Tryz.prog 8 #[.string ⟨(restF s.data.toList).toArray⟩] w fun e w' => e = .returned (.tuple #[.agg #[.int .i64 p0, .int .i64 p1, .int .i64 p2, .int .i64 p3, .int .i64 p4], .bool false]) ∧ Below w.heap.size w w') (T : ByteArray) (hT : T = T) (h0 : (words s.data.toList)[0]? = some [100, 111]) (w : World) :
    Calls Tryz.prog 4 #[.string s] w fun e w' => e = .returned (.tuple #[.agg #[.int .i64 0, .int .i64 0, .int .i64 0, .int .i64 0, .int .i64 0, .int .i64 0, .int .i64 0, .int .i64 0, .int .i64 0, .int .i64 0, .int .i64 0, .int .i64 0, .int .i64 0, .int .i64 0, .int .i64 0, .int .i64 0], .bool false]) ∧ Below w.heap.size w w' := by
  have H0 := hid h0
  clear h0
  have HT := hid hT
  clear hT
  have hl : (3 : Int) ≤ ((words s.data.toList).length : Int) := by omega
  have wl : (words s.data.toList).length ≤ 200 := by have := wlen s.data.toList; rw [size_len] at this; omega
  have HO := hid hO
  clear hO
  go_enter Tryz.func4, Tryz.ntmps4
  go_wp2_with fail
  obtain ⟨w0, e0⟩ : ∃ w0, w0 = w.alloc (.cells #[.int .i64 0, .int .i64 0, .int .i64 0, .int .i64 0, .int .i64 0, .int .i64 0, .int .i64 0, .int .i64 0, .int .i64 0, .int .i64 0, .int .i64 0, .int .i64 0, .int .i64 0, .int .i64 0, .int .i64 0, .int .i64 0] 29) := ⟨_, rfl⟩
  have B1 : Hid (Below w.heap.size w w0) := by rw [e0]; exact (Below.refl _ _).alloc (by simp) _
  have R2 : Hid (Bk w0 w.heap.size [.int .i64 0, .int .i64 0, .int .i64 0, .int .i64 0, .int .i64 0, .int .i64 0, .int .i64 0, .int .i64 0, .int .i64 0, .int .i64 0, .int .i64 0, .int .i64 0, .int .i64 0, .int .i64 0, .int .i64 0, .int .i64 0]) := by rw [e0]; exact bk_new w 29 [.int .i64 0, .int .i64 0, .int .i64 0, .int .i64 0, .int .i64 0, .int .i64 0, .int .i64 0, .int .i64 0, .int .i64 0, .int .i64 0, .int .i64 0, .int .i64 0, .int .i64 0, .int .i64 0, .int .i64 0, .int .i64 0]
  rw [← e0]
  clear e0
  refine (words_spec s hs _).mono ?_
  rintro e w1 ⟨v, rfl, ho, hb1⟩
  have B3 : Hid (Below w.heap.size w w1) := bthen B1.out hb1
  have R3 : Hid (Bk w1 w.heap.size [.int .i64 0, .int .i64 0, .int .i64 0, .int .i64 0, .int .i64 0, .int .i64 0, .int .i64 0, .int .i64 0, .int .i64 0, .int .i64 0, .int .i64 0, .int .i64 0, .int .i64 0, .int .i64 0, .int .i64 0, .int .i64 0]) := R2.out.below hb1
  clear B1 R2
  clear hb1
  rcases ho.2 with ⟨_, h⟩ | ⟨g, cap, cur, rfl, _⟩
  · omega
  have HK := hid (looked s hs _ g _ cap rfl w1 ho)
  have hc0 : w1.cell? ⟨g, 0, none⟩ = some (.string ⟨([100, 111] : List UInt8).toArray⟩) := by
    have := ho.cells (g := g) rfl 0 (.string ⟨([100, 111] : List UInt8).toArray⟩) (by simp [strs, H0.out])
    rwa [show (⟨g, 0, none⟩ : Addr).add 0 = ⟨g, 0, none⟩ by unfold Addr.add; split <;> simp_all] at this
  have hgl : g < w1.heap.size := World.block_lt_of_cell? w1 _ hc0
  have HC0 := hid hc0
  clear ho hc0
  have Q4 : Hid (Below w1.heap.size w1 w1) := Below.refl _ _
  go_wp2
  obtain ⟨wz, ez⟩ : ∃ wq, wq = w1.alloc (.cells #[.int .i64 0, .int .i64 0, .int .i64 0, .int .i64 0, .int .i64 0, .int .i64 0, .int .i64 0, .int .i64 0, .int .i64 0, .int .i64 0, .int .i64 0, .int .i64 0, .int .i64 0, .int .i64 0, .int .i64 0, .int .i64 0] 29) := ⟨_, rfl⟩
  have hbz : Below w1.heap.size w1 wz := by rw [ez]; exact (Below.refl _ _).alloc (Nat.le_refl _) _
  have hZ : Bk wz w1.heap.size [.int .i64 0, .int .i64 0, .int .i64 0, .int .i64 0, .int .i64 0, .int .i64 0, .int .i64 0, .int .i64 0, .int .i64 0, .int .i64 0, .int .i64 0, .int .i64 0, .int .i64 0, .int .i64 0, .int .i64 0, .int .i64 0] := by rw [ez]; exact bk_new w1 29 [.int .i64 0, .int .i64 0, .int .i64 0, .int .i64 0, .int .i64 0, .int .i64 0, .int .i64 0, .int .i64 0, .int .i64 0, .int .i64 0, .int .i64 0, .int .i64 0, .int .i64 0, .int .i64 0, .int .i64 0, .int .i64 0]
  rw [← ez]
  clear ez
  rw [store29_bk hZ rfl _ rfl (by kernel_rfl)]
  obtain ⟨w2, en⟩ : ∃ y, y = putL w1.heap.size ((#[.int .i64 0, .int .i64 0, .int .i64 0, .int .i64 0, .int .i64 0, .int .i64 0, .int .i64 0, .int .i64 0, .int .i64 0, .int .i64 0, .int .i64 0, .int .i64 0, .int .i64 0, .int .i64 0, .int .i64 0, .int .i64 0] : Array Value).toList) 0 wz := ⟨_, rfl⟩
  have hG : Bk w2 w1.heap.size [.int .i64 0, .int .i64 0, .int .i64 0, .int .i64 0, .int .i64 0, .int .i64 0, .int .i64 0, .int .i64 0, .int .i64 0, .int .i64 0, .int .i64 0, .int .i64 0, .int .i64 0, .int .i64 0, .int .i64 0, .int .i64 0] := by rw [en]; exact bk_put hZ rfl
  have hb3 : Below w1.heap.size w1 w2 := by rw [en]; exact below_put (Nat.le_refl _) _ _ hbz
  rw [← en]
  clear en hZ hbz
  have hRw : w.heap.size < w1.heap.size := R3.out.1
  have B5 : Hid (Below w.heap.size w w2) := bthen B3.out hb3
  have R5 : Hid (Bk w2 w.heap.size [.int .i64 0, .int .i64 0, .int .i64 0, .int .i64 0, .int .i64 0, .int .i64 0, .int .i64 0, .int .i64 0, .int .i64 0, .int .i64 0, .int .i64 0, .int .i64 0, .int .i64 0, .int .i64 0, .int .i64 0, .int .i64 0]) := R3.out.below hb3
  have Q5 : Hid (Below w1.heap.size w1 w2) := bthen Q4.out hb3
  clear B3 R3 Q4
  obtain ⟨o, eo⟩ : ∃ g, g = w1.heap.size := ⟨_, rfl⟩
  rw [← eo] at hG ⊢
  have eo1 : ¬ w.heap.size = o := by omega
  have eo3 : w.heap.size < o := by omega
  clear eo hb3
  have O6 : Hid (Bk w2 o [.int .i64 0, .int .i64 0, .int .i64 0, .int .i64 0, .int .i64 0, .int .i64 0, .int .i64 0, .int .i64 0, .int .i64 0, .int .i64 0, .int .i64 0, .int .i64 0, .int .i64 0, .int .i64 0, .int .i64 0, .int .i64 0]) := hG
  clear hG
  have hc0 : w2.cell? ⟨g, 0, none⟩ = some (.string ⟨([100, 111] : List UInt8).toArray⟩) := (Q5.out.cell (p := ⟨g, 0, none⟩) hgl).trans HC0.out
  skip
  go_wp2_with fail
  refine (rest_spec s (by omega) _).mono ?_
  rintro e w3 ⟨rfl, e3⟩
  subst e3
  go_wp2_with fail
  refine (HO.out _).mono ?_
  rintro e w4 ⟨rfl, hb⟩
  have B7 : Hid (Below w.heap.size w w4) := bthen B5.out hb
  have R7 : Hid (Bk w4 w.heap.size [.int .i64 0, .int .i64 0, .int .i64 0, .int .i64 0, .int .i64 0, .int .i64 0, .int .i64 0, .int .i64 0, .int .i64 0, .int .i64 0, .int .i64 0, .int .i64 0, .int .i64 0, .int .i64 0, .int .i64 0, .int .i64 0]) := R5.out.below hb
  have Q7 : Hid (Below w1.heap.size w1 w4) := bthen Q5.out hb
  have O7 : Hid (Bk w4 o [.int .i64 0, .int .i64 0, .int .i64 0, .int .i64 0, .int .i64 0, .int .i64 0, .int .i64 0, .int .i64 0, .int .i64 0, .int .i64 0, .int .i64 0, .int .i64 0, .int .i64 0, .int .i64 0, .int .i64 0, .int .i64 0]) := O6.out.below hb
  clear B5 R5 Q5 O6
  clear hb hc0
  go_upto_region 8 with fail
  obtain ⟨w5, e3⟩ : ∃ wq, wq = w4.alloc (.cells #[.int .i64 p0, .int .i64 p1, .int .i64 p2, .int .i64 p3, .int .i64 p4] 23) := ⟨_, rfl⟩
  have hb3 : Below w4.heap.size w4 w5 := by rw [e3]; exact (Below.refl _ _).alloc (Nat.le_refl _) _
  have hG : Bk w5 w4.heap.size [.int .i64 p0, .int .i64 p1, .int .i64 p2, .int .i64 p3, .int .i64 p4] := by rw [e3]; exact bk_new w4 23 [.int .i64 p0, .int .i64 p1, .int .i64 p2, .int .i64 p3, .int .i64 p4]
  rw [← e3]
  clear e3
  have hRw : w.heap.size < w4.heap.size := R7.out.1
  have B8 : Hid (Below w.heap.size w w5) := bthen B7.out hb3
  have R8 : Hid (Bk w5 w.heap.size [.int .i64 0, .int .i64 0, .int .i64 0, .int .i64 0, .int .i64 0, .int .i64 0, .int .i64 0, .int .i64 0, .int .i64 0, .int .i64 0, .int .i64 0, .int .i64 0, .int .i64 0, .int .i64 0, .int .i64 0, .int .i64 0]) := R7.out.below hb3
  have Q8 : Hid (Below w1.heap.size w1 w5) := bthen Q7.out hb3
  have O8 : Hid (Bk w5 o [.int .i64 0, .int .i64 0, .int .i64 0, .int .i64 0, .int .i64 0, .int .i64 0, .int .i64 0, .int .i64 0, .int .i64 0, .int .i64 0, .int .i64 0, .int .i64 0, .int .i64 0, .int .i64 0, .int .i64 0, .int .i64 0]) := O7.out.below hb3
  clear B7 R7 Q7 O7
  obtain ⟨p, eo⟩ : ∃ g, g = w4.heap.size := ⟨_, rfl⟩
  rw [← eo] at hG ⊢
  have eo1 : ¬ w.heap.size = p := by omega
  have eo2 : ¬ p = w.heap.size := by omega
  clear eo hb3
  have P9 : Hid (Bk w5 p [.int .i64 p0, .int .i64 p1, .int .i64 p2, .int .i64 p3, .int .i64 p4]) := hG
  clear hG
  have yP0 : w5.cell? ⟨p, 0, none⟩ = some (.int .i64 p0) := (P9.out.2 0 (by simp)).1
  have yP1 : w5.cell? ⟨p, 1, none⟩ = some (.int .i64 p1) := (P9.out.2 1 (by simp)).1
  have yP2 : w5.cell? ⟨p, 2, none⟩ = some (.int .i64 p2) := (P9.out.2 2 (by simp)).1
  have yP3 : w5.cell? ⟨p, 3, none⟩ = some (.int .i64 p3) := (P9.out.2 3 (by simp)).1
  have yP4 : w5.cell? ⟨p, 4, none⟩ = some (.int .i64 p4) := (P9.out.2 4 (by simp)).1
  have hlP : p < w5.heap.size := P9.out.1
  go_wp2
  rw [store29_bk (R8.out) rfl _ rfl (by kernel_rfl)]
  obtain ⟨w9, e9⟩ : ∃ y, y = putL w.heap.size ((#[.int .i64 0, .int .i64 0, .int .i64 0, .int .i64 0, .int .i64 0, .int .i64 0, .int .i64 0, .int .i64 0, .int .i64 0, .int .i64 0, .int .i64 0, .int .i64 0, .int .i64 0, .int .i64 0, .int .i64 0, .int .i64 0] : Array Value).toList) 0 w5 := ⟨_, rfl⟩
  have R9 : Hid (Bk w9 w.heap.size [.int .i64 0, .int .i64 0, .int .i64 0, .int .i64 0, .int .i64 0, .int .i64 0, .int .i64 0, .int .i64 0, .int .i64 0, .int .i64 0, .int .i64 0, .int .i64 0, .int .i64 0, .int .i64 0, .int .i64 0, .int .i64 0]) := by unfold Hid; rw [e9]; exact bk_put (R8.out) rfl
  have B9 : Hid (Below w.heap.size w w9) := by unfold Hid; rw [e9]; exact below_put (by omega) _ _ (B8.out)
  rw [← e9]
  clear e9
  go_wp2
  have hr := fun tmps hp hq => results_mid2 (P := Tryz.prog) (fn := Tryz.f4) Tryz.results4 tmps w9 w.heap.size [.int .i64 0, .int .i64 0, .int .i64 0, .int .i64 0, .int .i64 0, .int .i64 0, .int .i64 0, .int .i64 0, .int .i64 0, .int .i64 0, .int .i64 0, .int .i64 0, .int .i64 0, .int .i64 0, .int .i64 0, .int .i64 0] _ (.bool false) hp hq (Bk.range R9.out) Tryz.underlying29 rfl (by kernel_rfl)
  exact bodyPost_ret (v := .tuple #[.agg #[.int .i64 0, .int .i64 0, .int .i64 0, .int .i64 0, .int .i64 0, .int .i64 0, .int .i64 0, .int .i64 0, .int .i64 0, .int .i64 0, .int .i64 0, .int .i64 0, .int .i64 0, .int .i64 0, .int .i64 0, .int .i64 0], .bool false]) (hr _ rfl rfl) rfl ⟨rfl, B9.out⟩
set_option maxHeartbeats 4000000 in
theorem sp_ack (s : ByteArray) (hs : (s.size : Int) ≤ 100) (he : s.toList.isEmpty = false) (h3 : 3 ≤ (words s.data.toList).length) (T : ByteArray) (hT : ∀ w, Calls Tryz.prog 13 #[.agg #[.int .i64 3, .int .i64 0, .int .i64 0, .int .i64 0, .int .i64 0, .int .i64 0, .int .i64 (sideF (wordB s 1)), .int .i64 0, .int .i64 0, .int .i64 0, .int .i64 0, .int .i64 0, .int .i64 0, .int .i64 0, .int .i64 0, .int .i64 (uF s 2)]] w fun e w' => e = .returned (.string T) ∧ Below w.heap.size w w') (h0 : (words s.data.toList)[0]? = some [97, 99, 107]) (w : World) :
    Calls Tryz.prog 4 #[.string s] w fun e w' => ((T = s ∧ e = .returned (.tuple #[.agg #[.int .i64 3, .int .i64 0, .int .i64 0, .int .i64 0, .int .i64 0, .int .i64 0, .int .i64 (sideF (wordB s 1)), .int .i64 0, .int .i64 0, .int .i64 0, .int .i64 0, .int .i64 0, .int .i64 0, .int .i64 0, .int .i64 0, .int .i64 (uF s 2)], .bool true])) ∨ (¬ T = s ∧ e = .returned (.tuple #[.agg #[.int .i64 0, .int .i64 0, .int .i64 0, .int .i64 0, .int .i64 0, .int .i64 0, .int .i64 0, .int .i64 0, .int .i64 0, .int .i64 0, .int .i64 0, .int .i64 0, .int .i64 0, .int .i64 0, .int .i64 0, .int .i64 0], .bool false]))) ∧ Below w.heap.size w w' := by
  have H0 := hid h0
  clear h0
  have HT := hid hT
  clear hT
  have hl : (3 : Int) ≤ ((words s.data.toList).length : Int) := by omega
  have wl : (words s.data.toList).length ≤ 200 := by have := wlen s.data.toList; rw [size_len] at this; omega
  go_enter Tryz.func4, Tryz.ntmps4
  go_wp2_with fail
  obtain ⟨w0, e0⟩ : ∃ w0, w0 = w.alloc (.cells #[.int .i64 0, .int .i64 0, .int .i64 0, .int .i64 0, .int .i64 0, .int .i64 0, .int .i64 0, .int .i64 0, .int .i64 0, .int .i64 0, .int .i64 0, .int .i64 0, .int .i64 0, .int .i64 0, .int .i64 0, .int .i64 0] 29) := ⟨_, rfl⟩
  have B1 : Hid (Below w.heap.size w w0) := by rw [e0]; exact (Below.refl _ _).alloc (by simp) _
  have R2 : Hid (Bk w0 w.heap.size [.int .i64 0, .int .i64 0, .int .i64 0, .int .i64 0, .int .i64 0, .int .i64 0, .int .i64 0, .int .i64 0, .int .i64 0, .int .i64 0, .int .i64 0, .int .i64 0, .int .i64 0, .int .i64 0, .int .i64 0, .int .i64 0]) := by rw [e0]; exact bk_new w 29 [.int .i64 0, .int .i64 0, .int .i64 0, .int .i64 0, .int .i64 0, .int .i64 0, .int .i64 0, .int .i64 0, .int .i64 0, .int .i64 0, .int .i64 0, .int .i64 0, .int .i64 0, .int .i64 0, .int .i64 0, .int .i64 0]
  rw [← e0]
  clear e0
  refine (words_spec s hs _).mono ?_
  rintro e w1 ⟨v, rfl, ho, hb1⟩
  have B3 : Hid (Below w.heap.size w w1) := bthen B1.out hb1
  have R3 : Hid (Bk w1 w.heap.size [.int .i64 0, .int .i64 0, .int .i64 0, .int .i64 0, .int .i64 0, .int .i64 0, .int .i64 0, .int .i64 0, .int .i64 0, .int .i64 0, .int .i64 0, .int .i64 0, .int .i64 0, .int .i64 0, .int .i64 0, .int .i64 0]) := R2.out.below hb1
  clear B1 R2
  clear hb1
  rcases ho.2 with ⟨_, h⟩ | ⟨g, cap, cur, rfl, _⟩
  · omega
  have HK := hid (looked s hs _ g _ cap rfl w1 ho)
  have hc0 : w1.cell? ⟨g, 0, none⟩ = some (.string ⟨([97, 99, 107] : List UInt8).toArray⟩) := by
    have := ho.cells (g := g) rfl 0 (.string ⟨([97, 99, 107] : List UInt8).toArray⟩) (by simp [strs, H0.out])
    rwa [show (⟨g, 0, none⟩ : Addr).add 0 = ⟨g, 0, none⟩ by unfold Addr.add; split <;> simp_all] at this
  have hgl : g < w1.heap.size := World.block_lt_of_cell? w1 _ hc0
  have HC0 := hid hc0
  clear ho hc0
  have Q4 : Hid (Below w1.heap.size w1 w1) := Below.refl _ _
  go_wp2
  obtain ⟨wz, ez⟩ : ∃ wq, wq = w1.alloc (.cells #[.int .i64 0, .int .i64 0, .int .i64 0, .int .i64 0, .int .i64 0, .int .i64 0, .int .i64 0, .int .i64 0, .int .i64 0, .int .i64 0, .int .i64 0, .int .i64 0, .int .i64 0, .int .i64 0, .int .i64 0, .int .i64 0] 29) := ⟨_, rfl⟩
  have hbz : Below w1.heap.size w1 wz := by rw [ez]; exact (Below.refl _ _).alloc (Nat.le_refl _) _
  have hZ : Bk wz w1.heap.size [.int .i64 0, .int .i64 0, .int .i64 0, .int .i64 0, .int .i64 0, .int .i64 0, .int .i64 0, .int .i64 0, .int .i64 0, .int .i64 0, .int .i64 0, .int .i64 0, .int .i64 0, .int .i64 0, .int .i64 0, .int .i64 0] := by rw [ez]; exact bk_new w1 29 [.int .i64 0, .int .i64 0, .int .i64 0, .int .i64 0, .int .i64 0, .int .i64 0, .int .i64 0, .int .i64 0, .int .i64 0, .int .i64 0, .int .i64 0, .int .i64 0, .int .i64 0, .int .i64 0, .int .i64 0, .int .i64 0]
  rw [← ez]
  clear ez
  rw [store29_bk hZ rfl _ rfl (by kernel_rfl)]
  obtain ⟨w2, en⟩ : ∃ y, y = putL w1.heap.size ((#[.int .i64 0, .int .i64 0, .int .i64 0, .int .i64 0, .int .i64 0, .int .i64 0, .int .i64 0, .int .i64 0, .int .i64 0, .int .i64 0, .int .i64 0, .int .i64 0, .int .i64 0, .int .i64 0, .int .i64 0, .int .i64 0] : Array Value).toList) 0 wz := ⟨_, rfl⟩
  have hG : Bk w2 w1.heap.size [.int .i64 0, .int .i64 0, .int .i64 0, .int .i64 0, .int .i64 0, .int .i64 0, .int .i64 0, .int .i64 0, .int .i64 0, .int .i64 0, .int .i64 0, .int .i64 0, .int .i64 0, .int .i64 0, .int .i64 0, .int .i64 0] := by rw [en]; exact bk_put hZ rfl
  have hb3 : Below w1.heap.size w1 w2 := by rw [en]; exact below_put (Nat.le_refl _) _ _ hbz
  rw [← en]
  clear en hZ hbz
  have hRw : w.heap.size < w1.heap.size := R3.out.1
  have B5 : Hid (Below w.heap.size w w2) := bthen B3.out hb3
  have R5 : Hid (Bk w2 w.heap.size [.int .i64 0, .int .i64 0, .int .i64 0, .int .i64 0, .int .i64 0, .int .i64 0, .int .i64 0, .int .i64 0, .int .i64 0, .int .i64 0, .int .i64 0, .int .i64 0, .int .i64 0, .int .i64 0, .int .i64 0, .int .i64 0]) := R3.out.below hb3
  have Q5 : Hid (Below w1.heap.size w1 w2) := bthen Q4.out hb3
  clear B3 R3 Q4
  obtain ⟨o, eo⟩ : ∃ g, g = w1.heap.size := ⟨_, rfl⟩
  rw [← eo] at hG ⊢
  have eo1 : ¬ w.heap.size = o := by omega
  have eo3 : w.heap.size < o := by omega
  clear eo hb3
  have O6 : Hid (Bk w2 o [.int .i64 0, .int .i64 0, .int .i64 0, .int .i64 0, .int .i64 0, .int .i64 0, .int .i64 0, .int .i64 0, .int .i64 0, .int .i64 0, .int .i64 0, .int .i64 0, .int .i64 0, .int .i64 0, .int .i64 0, .int .i64 0]) := hG
  clear hG
  have hc0 : w2.cell? ⟨g, 0, none⟩ = some (.string ⟨([97, 99, 107] : List UInt8).toArray⟩) := (Q5.out.cell (p := ⟨g, 0, none⟩) hgl).trans HC0.out
  skip
  go_wp2_with fail
  refine ((HK.out _ Q5.out).2 1 (by omega)).mono ?_
  rintro e w3 ⟨rfl, e3⟩
  subst e3
  go_wp2_with fail
  refine ((HK.out _ Q5.out).1 2 (by omega)).mono ?_
  rintro e w4 ⟨rfl, e4⟩
  subst e4
  clear hc0
  go_wp2
  rw [store29_bk (O6.out) rfl _ rfl (by kernel_rfl)]
  obtain ⟨w6, en⟩ : ∃ y, y = putL o ((#[.int .i64 3, .int .i64 0, .int .i64 0, .int .i64 0, .int .i64 0, .int .i64 0, .int .i64 (sideF (wordB s 1)), .int .i64 0, .int .i64 0, .int .i64 0, .int .i64 0, .int .i64 0, .int .i64 0, .int .i64 0, .int .i64 0, .int .i64 (uF s 2)] : Array Value).toList) 0 w4 := ⟨_, rfl⟩
  have hG : Bk w6 o [.int .i64 3, .int .i64 0, .int .i64 0, .int .i64 0, .int .i64 0, .int .i64 0, .int .i64 (sideF (wordB s 1)), .int .i64 0, .int .i64 0, .int .i64 0, .int .i64 0, .int .i64 0, .int .i64 0, .int .i64 0, .int .i64 0, .int .i64 (uF s 2)] := by rw [en]; exact bk_put (O6.out) rfl
  have hz : w4.heap.size ≤ w6.heap.size := by rw [en]; exact Nat.le_of_eq (size_put o _ 0 w4).symm
  have hsm : ∀ g, ¬ g = o → Sm w4 w6 g := by rw [en]; exact fun g hg => sm_put hg _ 0 w4
  have hB : Below w.heap.size w w6 := by rw [en]; exact below_put (by omega) _ _ (B5.out)
  rw [← en]
  clear en
  have hR9 := R5.out.sm hz (hsm w.heap.size (by omega))
  have B7 : Hid (Below w.heap.size w w6) := hB
  have R8 : Hid (Bk w6 w.heap.size [.int .i64 0, .int .i64 0, .int .i64 0, .int .i64 0, .int .i64 0, .int .i64 0, .int .i64 0, .int .i64 0, .int .i64 0, .int .i64 0, .int .i64 0, .int .i64 0, .int .i64 0, .int .i64 0, .int .i64 0, .int .i64 0]) := hR9
  have O9 : Hid (Bk w6 o [.int .i64 3, .int .i64 0, .int .i64 0, .int .i64 0, .int .i64 0, .int .i64 0, .int .i64 (sideF (wordB s 1)), .int .i64 0, .int .i64 0, .int .i64 0, .int .i64 0, .int .i64 0, .int .i64 0, .int .i64 0, .int .i64 0, .int .i64 (uF s 2)]) := hG
  clear hB hR9 hG hz hsm
  go_wp2
  rw [load29_bk (O9.out) rfl]
  go_wp2_with fail
  refine (HT.out _).mono ?_
  rintro e wt ⟨rfl, hb⟩
  have B10 : Hid (Below w.heap.size w wt) := bthen B7.out hb
  have R10 : Hid (Bk wt w.heap.size [.int .i64 0, .int .i64 0, .int .i64 0, .int .i64 0, .int .i64 0, .int .i64 0, .int .i64 0, .int .i64 0, .int .i64 0, .int .i64 0, .int .i64 0, .int .i64 0, .int .i64 0, .int .i64 0, .int .i64 0, .int .i64 0]) := R8.out.below hb
  have O10 : Hid (Bk wt o [.int .i64 3, .int .i64 0, .int .i64 0, .int .i64 0, .int .i64 0, .int .i64 0, .int .i64 (sideF (wordB s 1)), .int .i64 0, .int .i64 0, .int .i64 0, .int .i64 0, .int .i64 0, .int .i64 0, .int .i64 0, .int .i64 0, .int .i64 (uF s 2)]) := O9.out.below hb
  clear B7 R8 O9
  clear hb
  by_cases ht : T = s
  · have he2 : T.toList.isEmpty = false := by rw [ht]; exact he
    have ht2 : (T.toList == s.toList) = true := by rw [ht]; simp
    have HTT := hid ht
    clear ht
    go_wp2
    rw [load29_bk (O10.out) rfl]
    go_wp2_with fail
    refine (HT.out _).mono ?_
    rintro e wu ⟨rfl, hb⟩
    have B11 : Hid (Below w.heap.size w wu) := bthen B10.out hb
    have R11 : Hid (Bk wu w.heap.size [.int .i64 0, .int .i64 0, .int .i64 0, .int .i64 0, .int .i64 0, .int .i64 0, .int .i64 0, .int .i64 0, .int .i64 0, .int .i64 0, .int .i64 0, .int .i64 0, .int .i64 0, .int .i64 0, .int .i64 0, .int .i64 0]) := R10.out.below hb
    have O11 : Hid (Bk wu o [.int .i64 3, .int .i64 0, .int .i64 0, .int .i64 0, .int .i64 0, .int .i64 0, .int .i64 (sideF (wordB s 1)), .int .i64 0, .int .i64 0, .int .i64 0, .int .i64 0, .int .i64 0, .int .i64 0, .int .i64 0, .int .i64 0, .int .i64 (uF s 2)]) := O10.out.below hb
    clear B10 R10 O10
    clear hb
    go_wp2
    rw [load29_bk (O11.out) rfl]
    go_wp2
    rw [store29_bk (R11.out) rfl _ rfl (by kernel_rfl)]
    obtain ⟨w9, e9⟩ : ∃ y, y = putL w.heap.size ((#[.int .i64 3, .int .i64 0, .int .i64 0, .int .i64 0, .int .i64 0, .int .i64 0, .int .i64 (sideF (wordB s 1)), .int .i64 0, .int .i64 0, .int .i64 0, .int .i64 0, .int .i64 0, .int .i64 0, .int .i64 0, .int .i64 0, .int .i64 (uF s 2)] : Array Value).toList) 0 wu := ⟨_, rfl⟩
    have R9 : Hid (Bk w9 w.heap.size [.int .i64 3, .int .i64 0, .int .i64 0, .int .i64 0, .int .i64 0, .int .i64 0, .int .i64 (sideF (wordB s 1)), .int .i64 0, .int .i64 0, .int .i64 0, .int .i64 0, .int .i64 0, .int .i64 0, .int .i64 0, .int .i64 0, .int .i64 (uF s 2)]) := by unfold Hid; rw [e9]; exact bk_put (R11.out) rfl
    have B9 : Hid (Below w.heap.size w w9) := by unfold Hid; rw [e9]; exact below_put (by omega) _ _ (B11.out)
    rw [← e9]
    clear e9
    go_wp2
    have hr := fun tmps hp hq => results_mid2 (P := Tryz.prog) (fn := Tryz.f4) Tryz.results4 tmps w9 w.heap.size [.int .i64 3, .int .i64 0, .int .i64 0, .int .i64 0, .int .i64 0, .int .i64 0, .int .i64 (sideF (wordB s 1)), .int .i64 0, .int .i64 0, .int .i64 0, .int .i64 0, .int .i64 0, .int .i64 0, .int .i64 0, .int .i64 0, .int .i64 (uF s 2)] _ (.bool true) hp hq (Bk.range R9.out) Tryz.underlying29 rfl (by kernel_rfl)
    exact bodyPost_ret (v := .tuple #[.agg #[.int .i64 3, .int .i64 0, .int .i64 0, .int .i64 0, .int .i64 0, .int .i64 0, .int .i64 (sideF (wordB s 1)), .int .i64 0, .int .i64 0, .int .i64 0, .int .i64 0, .int .i64 0, .int .i64 0, .int .i64 0, .int .i64 0, .int .i64 (uF s 2)], .bool true]) (hr _ rfl rfl) rfl ⟨.inl ⟨HTT.out, rfl⟩, B9.out⟩
  · have HTT := hid ht
    have ht2 : (T.toList == s.toList) = false := by rw [list_eq]; exact decide_eq_false ht
    clear ht
    cases he2 : T.toList.isEmpty
    · go_wp2
      rw [load29_bk (O10.out) rfl]
      go_wp2_with fail
      refine (HT.out _).mono ?_
      rintro e wu ⟨rfl, hb⟩
      have B12 : Hid (Below w.heap.size w wu) := bthen B10.out hb
      have R12 : Hid (Bk wu w.heap.size [.int .i64 0, .int .i64 0, .int .i64 0, .int .i64 0, .int .i64 0, .int .i64 0, .int .i64 0, .int .i64 0, .int .i64 0, .int .i64 0, .int .i64 0, .int .i64 0, .int .i64 0, .int .i64 0, .int .i64 0, .int .i64 0]) := R10.out.below hb
      have O12 : Hid (Bk wu o [.int .i64 3, .int .i64 0, .int .i64 0, .int .i64 0, .int .i64 0, .int .i64 0, .int .i64 (sideF (wordB s 1)), .int .i64 0, .int .i64 0, .int .i64 0, .int .i64 0, .int .i64 0, .int .i64 0, .int .i64 0, .int .i64 0, .int .i64 (uF s 2)]) := O10.out.below hb
      clear B10 R10 O10
      clear hb
      go_wp2
      rw [store29_bk (R12.out) rfl _ rfl (by kernel_rfl)]
      obtain ⟨w9, e9⟩ : ∃ y, y = putL w.heap.size ((#[.int .i64 0, .int .i64 0, .int .i64 0, .int .i64 0, .int .i64 0, .int .i64 0, .int .i64 0, .int .i64 0, .int .i64 0, .int .i64 0, .int .i64 0, .int .i64 0, .int .i64 0, .int .i64 0, .int .i64 0, .int .i64 0] : Array Value).toList) 0 wu := ⟨_, rfl⟩
      have R9 : Hid (Bk w9 w.heap.size [.int .i64 0, .int .i64 0, .int .i64 0, .int .i64 0, .int .i64 0, .int .i64 0, .int .i64 0, .int .i64 0, .int .i64 0, .int .i64 0, .int .i64 0, .int .i64 0, .int .i64 0, .int .i64 0, .int .i64 0, .int .i64 0]) := by unfold Hid; rw [e9]; exact bk_put (R12.out) rfl
      have B9 : Hid (Below w.heap.size w w9) := by unfold Hid; rw [e9]; exact below_put (by omega) _ _ (B12.out)
      rw [← e9]
      clear e9
      go_wp2
      have hr := fun tmps hp hq => results_mid2 (P := Tryz.prog) (fn := Tryz.f4) Tryz.results4 tmps w9 w.heap.size [.int .i64 0, .int .i64 0, .int .i64 0, .int .i64 0, .int .i64 0, .int .i64 0, .int .i64 0, .int .i64 0, .int .i64 0, .int .i64 0, .int .i64 0, .int .i64 0, .int .i64 0, .int .i64 0, .int .i64 0, .int .i64 0] _ (.bool false) hp hq (Bk.range R9.out) Tryz.underlying29 rfl (by kernel_rfl)
      exact bodyPost_ret (v := .tuple #[.agg #[.int .i64 0, .int .i64 0, .int .i64 0, .int .i64 0, .int .i64 0, .int .i64 0, .int .i64 0, .int .i64 0, .int .i64 0, .int .i64 0, .int .i64 0, .int .i64 0, .int .i64 0, .int .i64 0, .int .i64 0, .int .i64 0], .bool false]) (hr _ rfl rfl) rfl ⟨.inr ⟨HTT.out, rfl⟩, B9.out⟩
    · go_wp2
      rw [store29_bk (R10.out) rfl _ rfl (by kernel_rfl)]
      obtain ⟨w9, e9⟩ : ∃ y, y = putL w.heap.size ((#[.int .i64 0, .int .i64 0, .int .i64 0, .int .i64 0, .int .i64 0, .int .i64 0, .int .i64 0, .int .i64 0, .int .i64 0, .int .i64 0, .int .i64 0, .int .i64 0, .int .i64 0, .int .i64 0, .int .i64 0, .int .i64 0] : Array Value).toList) 0 wt := ⟨_, rfl⟩
      have R9 : Hid (Bk w9 w.heap.size [.int .i64 0, .int .i64 0, .int .i64 0, .int .i64 0, .int .i64 0, .int .i64 0, .int .i64 0, .int .i64 0, .int .i64 0, .int .i64 0, .int .i64 0, .int .i64 0, .int .i64 0, .int .i64 0, .int .i64 0, .int .i64 0]) := by unfold Hid; rw [e9]; exact bk_put (R10.out) rfl
      have B9 : Hid (Below w.heap.size w w9) := by unfold Hid; rw [e9]; exact below_put (by omega) _ _ (B10.out)
      rw [← e9]
      clear e9
      go_wp2
      have hr := fun tmps hp hq => results_mid2 (P := Tryz.prog) (fn := Tryz.f4) Tryz.results4 tmps w9 w.heap.size [.int .i64 0, .int .i64 0, .int .i64 0, .int .i64 0, .int .i64 0, .int .i64 0, .int .i64 0, .int .i64 0, .int .i64 0, .int .i64 0, .int .i64 0, .int .i64 0, .int .i64 0, .int .i64 0, .int .i64 0, .int .i64 0] _ (.bool false) hp hq (Bk.range R9.out) Tryz.underlying29 rfl (by kernel_rfl)
      exact bodyPost_ret (v := .tuple #[.agg #[.int .i64 0, .int .i64 0, .int .i64 0, .int .i64 0, .int .i64 0, .int .i64 0, .int .i64 0, .int .i64 0, .int .i64 0, .int .i64 0, .int .i64 0, .int .i64 0, .int .i64 0, .int .i64 0, .int .i64 0, .int .i64 0], .bool false]) (hr _ rfl rfl) rfl ⟨.inr ⟨HTT.out, rfl⟩, B9.out⟩
set_option maxHeartbeats 4000000 in
theorem sp_else (s : ByteArray) (hs : (s.size : Int) ≤ 100) (he : s.toList.isEmpty = false) (h3 : 3 ≤ (words s.data.toList).length) (T : ByteArray) (hT : ∀ w, Calls Tryz.prog 13 #[.agg #[.int .i64 0, .int .i64 0, .int .i64 0, .int .i64 0, .int .i64 0, .int .i64 0, .int .i64 0, .int .i64 0, .int .i64 0, .int .i64 0, .int .i64 0, .int .i64 0, .int .i64 0, .int .i64 0, .int .i64 0, .int .i64 0]] w fun e w' => e = .returned (.string T) ∧ Below w.heap.size w w') (x0 : List UInt8) (n1 : ¬ x0 = [100, 111]) (n2 : ¬ x0 = [105, 110]) (n3 : ¬ x0 = [97, 99, 107]) (h0 : (words s.data.toList)[0]? = some x0) (w : World) :
    Calls Tryz.prog 4 #[.string s] w fun e w' => ((T = s ∧ e = .returned (.tuple #[.agg #[.int .i64 0, .int .i64 0, .int .i64 0, .int .i64 0, .int .i64 0, .int .i64 0, .int .i64 0, .int .i64 0, .int .i64 0, .int .i64 0, .int .i64 0, .int .i64 0, .int .i64 0, .int .i64 0, .int .i64 0, .int .i64 0], .bool true])) ∨ (¬ T = s ∧ e = .returned (.tuple #[.agg #[.int .i64 0, .int .i64 0, .int .i64 0, .int .i64 0, .int .i64 0, .int .i64 0, .int .i64 0, .int .i64 0, .int .i64 0, .int .i64 0, .int .i64 0, .int .i64 0, .int .i64 0, .int .i64 0, .int .i64 0, .int .i64 0], .bool false]))) ∧ Below w.heap.size w w' := by
  have H0 := hid h0
  clear h0
  have HT := hid hT
  clear hT
  have hl : (3 : Int) ≤ ((words s.data.toList).length : Int) := by omega
  have wl : (words s.data.toList).length ≤ 200 := by have := wlen s.data.toList; rw [size_len] at this; omega
  have n0 : (x0 == [100, 111]) = false := by rw [beq_eq_false_iff_ne]; exact n1
  have n0b : (x0 == [105, 110]) = false := by rw [beq_eq_false_iff_ne]; exact n2
  have n0c : (x0 == [97, 99, 107]) = false := by rw [beq_eq_false_iff_ne]; exact n3
  go_enter Tryz.func4, Tryz.ntmps4
  go_wp2_with fail
  obtain ⟨w0, e0⟩ : ∃ w0, w0 = w.alloc (.cells #[.int .i64 0, .int .i64 0, .int .i64 0, .int .i64 0, .int .i64 0, .int .i64 0, .int .i64 0, .int .i64 0, .int .i64 0, .int .i64 0, .int .i64 0, .int .i64 0, .int .i64 0, .int .i64 0, .int .i64 0, .int .i64 0] 29) := ⟨_, rfl⟩
  have B1 : Hid (Below w.heap.size w w0) := by rw [e0]; exact (Below.refl _ _).alloc (by simp) _
  have R2 : Hid (Bk w0 w.heap.size [.int .i64 0, .int .i64 0, .int .i64 0, .int .i64 0, .int .i64 0, .int .i64 0, .int .i64 0, .int .i64 0, .int .i64 0, .int .i64 0, .int .i64 0, .int .i64 0, .int .i64 0, .int .i64 0, .int .i64 0, .int .i64 0]) := by rw [e0]; exact bk_new w 29 [.int .i64 0, .int .i64 0, .int .i64 0, .int .i64 0, .int .i64 0, .int .i64 0, .int .i64 0, .int .i64 0, .int .i64 0, .int .i64 0, .int .i64 0, .int .i64 0, .int .i64 0, .int .i64 0, .int .i64 0, .int .i64 0]
  rw [← e0]
  clear e0
  refine (words_spec s hs _).mono ?_
  rintro e w1 ⟨v, rfl, ho, hb1⟩
  have B3 : Hid (Below w.heap.size w w1) := bthen B1.out hb1
  have R3 : Hid (Bk w1 w.heap.size [.int .i64 0, .int .i64 0, .int .i64 0, .int .i64 0, .int .i64 0, .int .i64 0, .int .i64 0, .int .i64 0, .int .i64 0, .int .i64 0, .int .i64 0, .int .i64 0, .int .i64 0, .int .i64 0, .int .i64 0, .int .i64 0]) := R2.out.below hb1
  clear B1 R2
  clear hb1
  rcases ho.2 with ⟨_, h⟩ | ⟨g, cap, cur, rfl, _⟩
  · omega
  have HK := hid (looked s hs _ g _ cap rfl w1 ho)
  have hc0 : w1.cell? ⟨g, 0, none⟩ = some (.string ⟨x0.toArray⟩) := by
    have := ho.cells (g := g) rfl 0 (.string ⟨x0.toArray⟩) (by simp [strs, H0.out])
    rwa [show (⟨g, 0, none⟩ : Addr).add 0 = ⟨g, 0, none⟩ by unfold Addr.add; split <;> simp_all] at this
  have hgl : g < w1.heap.size := World.block_lt_of_cell? w1 _ hc0
  have HC0 := hid hc0
  clear ho hc0
  have Q4 : Hid (Below w1.heap.size w1 w1) := Below.refl _ _
  go_wp2
  obtain ⟨wz, ez⟩ : ∃ wq, wq = w1.alloc (.cells #[.int .i64 0, .int .i64 0, .int .i64 0, .int .i64 0, .int .i64 0, .int .i64 0, .int .i64 0, .int .i64 0, .int .i64 0, .int .i64 0, .int .i64 0, .int .i64 0, .int .i64 0, .int .i64 0, .int .i64 0, .int .i64 0] 29) := ⟨_, rfl⟩
  have hbz : Below w1.heap.size w1 wz := by rw [ez]; exact (Below.refl _ _).alloc (Nat.le_refl _) _
  have hZ : Bk wz w1.heap.size [.int .i64 0, .int .i64 0, .int .i64 0, .int .i64 0, .int .i64 0, .int .i64 0, .int .i64 0, .int .i64 0, .int .i64 0, .int .i64 0, .int .i64 0, .int .i64 0, .int .i64 0, .int .i64 0, .int .i64 0, .int .i64 0] := by rw [ez]; exact bk_new w1 29 [.int .i64 0, .int .i64 0, .int .i64 0, .int .i64 0, .int .i64 0, .int .i64 0, .int .i64 0, .int .i64 0, .int .i64 0, .int .i64 0, .int .i64 0, .int .i64 0, .int .i64 0, .int .i64 0, .int .i64 0, .int .i64 0]
  rw [← ez]
  clear ez
  rw [store29_bk hZ rfl _ rfl (by kernel_rfl)]
  obtain ⟨w2, en⟩ : ∃ y, y = putL w1.heap.size ((#[.int .i64 0, .int .i64 0, .int .i64 0, .int .i64 0, .int .i64 0, .int .i64 0, .int .i64 0, .int .i64 0, .int .i64 0, .int .i64 0, .int .i64 0, .int .i64 0, .int .i64 0, .int .i64 0, .int .i64 0, .int .i64 0] : Array Value).toList) 0 wz := ⟨_, rfl⟩
  have hG : Bk w2 w1.heap.size [.int .i64 0, .int .i64 0, .int .i64 0, .int .i64 0, .int .i64 0, .int .i64 0, .int .i64 0, .int .i64 0, .int .i64 0, .int .i64 0, .int .i64 0, .int .i64 0, .int .i64 0, .int .i64 0, .int .i64 0, .int .i64 0] := by rw [en]; exact bk_put hZ rfl
  have hb3 : Below w1.heap.size w1 w2 := by rw [en]; exact below_put (Nat.le_refl _) _ _ hbz
  rw [← en]
  clear en hZ hbz
  have hRw : w.heap.size < w1.heap.size := R3.out.1
  have B5 : Hid (Below w.heap.size w w2) := bthen B3.out hb3
  have R5 : Hid (Bk w2 w.heap.size [.int .i64 0, .int .i64 0, .int .i64 0, .int .i64 0, .int .i64 0, .int .i64 0, .int .i64 0, .int .i64 0, .int .i64 0, .int .i64 0, .int .i64 0, .int .i64 0, .int .i64 0, .int .i64 0, .int .i64 0, .int .i64 0]) := R3.out.below hb3
  have Q5 : Hid (Below w1.heap.size w1 w2) := bthen Q4.out hb3
  clear B3 R3 Q4
  obtain ⟨o, eo⟩ : ∃ g, g = w1.heap.size := ⟨_, rfl⟩
  rw [← eo] at hG ⊢
  have eo1 : ¬ w.heap.size = o := by omega
  have eo3 : w.heap.size < o := by omega
  clear eo hb3
  have O6 : Hid (Bk w2 o [.int .i64 0, .int .i64 0, .int .i64 0, .int .i64 0, .int .i64 0, .int .i64 0, .int .i64 0, .int .i64 0, .int .i64 0, .int .i64 0, .int .i64 0, .int .i64 0, .int .i64 0, .int .i64 0, .int .i64 0, .int .i64 0]) := hG
  clear hG
  have hc0 : w2.cell? ⟨g, 0, none⟩ = some (.string ⟨x0.toArray⟩) := (Q5.out.cell (p := ⟨g, 0, none⟩) hgl).trans HC0.out
  skip
  go_wp2
  rw [load29_bk (O6.out) rfl]
  go_wp2_with fail
  refine (HT.out _).mono ?_
  rintro e wt ⟨rfl, hb⟩
  have B7 : Hid (Below w.heap.size w wt) := bthen B5.out hb
  have R7 : Hid (Bk wt w.heap.size [.int .i64 0, .int .i64 0, .int .i64 0, .int .i64 0, .int .i64 0, .int .i64 0, .int .i64 0, .int .i64 0, .int .i64 0, .int .i64 0, .int .i64 0, .int .i64 0, .int .i64 0, .int .i64 0, .int .i64 0, .int .i64 0]) := R5.out.below hb
  have Q7 : Hid (Below w1.heap.size w1 wt) := bthen Q5.out hb
  have O7 : Hid (Bk wt o [.int .i64 0, .int .i64 0, .int .i64 0, .int .i64 0, .int .i64 0, .int .i64 0, .int .i64 0, .int .i64 0, .int .i64 0, .int .i64 0, .int .i64 0, .int .i64 0, .int .i64 0, .int .i64 0, .int .i64 0, .int .i64 0]) := O6.out.below hb
  clear B5 R5 Q5 O6
  clear hb
  by_cases ht : T = s
  · have he2 : T.toList.isEmpty = false := by rw [ht]; exact he
    have ht2 : (T.toList == s.toList) = true := by rw [ht]; simp
    have HTT := hid ht
    clear ht
    go_wp2
    rw [load29_bk (O7.out) rfl]
    go_wp2_with fail
    refine (HT.out _).mono ?_
    rintro e wu ⟨rfl, hb⟩
    have B8 : Hid (Below w.heap.size w wu) := bthen B7.out hb
    have R8 : Hid (Bk wu w.heap.size [.int .i64 0, .int .i64 0, .int .i64 0, .int .i64 0, .int .i64 0, .int .i64 0, .int .i64 0, .int .i64 0, .int .i64 0, .int .i64 0, .int .i64 0, .int .i64 0, .int .i64 0, .int .i64 0, .int .i64 0, .int .i64 0]) := R7.out.below hb
    have Q8 : Hid (Below w1.heap.size w1 wu) := bthen Q7.out hb
    have O8 : Hid (Bk wu o [.int .i64 0, .int .i64 0, .int .i64 0, .int .i64 0, .int .i64 0, .int .i64 0, .int .i64 0, .int .i64 0, .int .i64 0, .int .i64 0, .int .i64 0, .int .i64 0, .int .i64 0, .int .i64 0, .int .i64 0, .int .i64 0]) := O7.out.below hb
    clear B7 R7 Q7 O7
    clear hb
    go_wp2
    rw [load29_bk (O8.out) rfl]
    go_wp2
    rw [store29_bk (R8.out) rfl _ rfl (by kernel_rfl)]
    obtain ⟨w9, e9⟩ : ∃ y, y = putL w.heap.size ((#[.int .i64 0, .int .i64 0, .int .i64 0, .int .i64 0, .int .i64 0, .int .i64 0, .int .i64 0, .int .i64 0, .int .i64 0, .int .i64 0, .int .i64 0, .int .i64 0, .int .i64 0, .int .i64 0, .int .i64 0, .int .i64 0] : Array Value).toList) 0 wu := ⟨_, rfl⟩
    have R9 : Hid (Bk w9 w.heap.size [.int .i64 0, .int .i64 0, .int .i64 0, .int .i64 0, .int .i64 0, .int .i64 0, .int .i64 0, .int .i64 0, .int .i64 0, .int .i64 0, .int .i64 0, .int .i64 0, .int .i64 0, .int .i64 0, .int .i64 0, .int .i64 0]) := by unfold Hid; rw [e9]; exact bk_put (R8.out) rfl
    have B9 : Hid (Below w.heap.size w w9) := by unfold Hid; rw [e9]; exact below_put (by omega) _ _ (B8.out)
    rw [← e9]
    clear e9
    go_wp2
    have hr := fun tmps hp hq => results_mid2 (P := Tryz.prog) (fn := Tryz.f4) Tryz.results4 tmps w9 w.heap.size [.int .i64 0, .int .i64 0, .int .i64 0, .int .i64 0, .int .i64 0, .int .i64 0, .int .i64 0, .int .i64 0, .int .i64 0, .int .i64 0, .int .i64 0, .int .i64 0, .int .i64 0, .int .i64 0, .int .i64 0, .int .i64 0] _ (.bool true) hp hq (Bk.range R9.out) Tryz.underlying29 rfl (by kernel_rfl)
    exact bodyPost_ret (v := .tuple #[.agg #[.int .i64 0, .int .i64 0, .int .i64 0, .int .i64 0, .int .i64 0, .int .i64 0, .int .i64 0, .int .i64 0, .int .i64 0, .int .i64 0, .int .i64 0, .int .i64 0, .int .i64 0, .int .i64 0, .int .i64 0, .int .i64 0], .bool true]) (hr _ rfl rfl) rfl ⟨.inl ⟨HTT.out, rfl⟩, B9.out⟩
  · have HTT := hid ht
    have ht2 : (T.toList == s.toList) = false := by rw [list_eq]; exact decide_eq_false ht
    clear ht
    cases he2 : T.toList.isEmpty
    · go_wp2
      rw [load29_bk (O7.out) rfl]
      go_wp2_with fail
      refine (HT.out _).mono ?_
      rintro e wu ⟨rfl, hb⟩
      have B9 : Hid (Below w.heap.size w wu) := bthen B7.out hb
      have R9 : Hid (Bk wu w.heap.size [.int .i64 0, .int .i64 0, .int .i64 0, .int .i64 0, .int .i64 0, .int .i64 0, .int .i64 0, .int .i64 0, .int .i64 0, .int .i64 0, .int .i64 0, .int .i64 0, .int .i64 0, .int .i64 0, .int .i64 0, .int .i64 0]) := R7.out.below hb
      have Q9 : Hid (Below w1.heap.size w1 wu) := bthen Q7.out hb
      have O9 : Hid (Bk wu o [.int .i64 0, .int .i64 0, .int .i64 0, .int .i64 0, .int .i64 0, .int .i64 0, .int .i64 0, .int .i64 0, .int .i64 0, .int .i64 0, .int .i64 0, .int .i64 0, .int .i64 0, .int .i64 0, .int .i64 0, .int .i64 0]) := O7.out.below hb
      clear B7 R7 Q7 O7
      clear hb
      go_wp2
      rw [store29_bk (R9.out) rfl _ rfl (by kernel_rfl)]
      obtain ⟨w9, e9⟩ : ∃ y, y = putL w.heap.size ((#[.int .i64 0, .int .i64 0, .int .i64 0, .int .i64 0, .int .i64 0, .int .i64 0, .int .i64 0, .int .i64 0, .int .i64 0, .int .i64 0, .int .i64 0, .int .i64 0, .int .i64 0, .int .i64 0, .int .i64 0, .int .i64 0] : Array Value).toList) 0 wu := ⟨_, rfl⟩
      have R9 : Hid (Bk w9 w.heap.size [.int .i64 0, .int .i64 0, .int .i64 0, .int .i64 0, .int .i64 0, .int .i64 0, .int .i64 0, .int .i64 0, .int .i64 0, .int .i64 0, .int .i64 0, .int .i64 0, .int .i64 0, .int .i64 0, .int .i64 0, .int .i64 0]) := by unfold Hid; rw [e9]; exact bk_put (R9.out) rfl
      have B9 : Hid (Below w.heap.size w w9) := by unfold Hid; rw [e9]; exact below_put (by omega) _ _ (B9.out)
      rw [← e9]
      clear e9
      go_wp2
      have hr := fun tmps hp hq => results_mid2 (P := Tryz.prog) (fn := Tryz.f4) Tryz.results4 tmps w9 w.heap.size [.int .i64 0, .int .i64 0, .int .i64 0, .int .i64 0, .int .i64 0, .int .i64 0, .int .i64 0, .int .i64 0, .int .i64 0, .int .i64 0, .int .i64 0, .int .i64 0, .int .i64 0, .int .i64 0, .int .i64 0, .int .i64 0] _ (.bool false) hp hq (Bk.range R9.out) Tryz.underlying29 rfl (by kernel_rfl)
      exact bodyPost_ret (v := .tuple #[.agg #[.int .i64 0, .int .i64 0, .int .i64 0, .int .i64 0, .int .i64 0, .int .i64 0, .int .i64 0, .int .i64 0, .int .i64 0, .int .i64 0, .int .i64 0, .int .i64 0, .int .i64 0, .int .i64 0, .int .i64 0, .int .i64 0], .bool false]) (hr _ rfl rfl) rfl ⟨.inr ⟨HTT.out, rfl⟩, B9.out⟩
    · go_wp2
      rw [store29_bk (R7.out) rfl _ rfl (by kernel_rfl)]
      obtain ⟨w9, e9⟩ : ∃ y, y = putL w.heap.size ((#[.int .i64 0, .int .i64 0, .int .i64 0, .int .i64 0, .int .i64 0, .int .i64 0, .int .i64 0, .int .i64 0, .int .i64 0, .int .i64 0, .int .i64 0, .int .i64 0, .int .i64 0, .int .i64 0, .int .i64 0, .int .i64 0] : Array Value).toList) 0 wt := ⟨_, rfl⟩
      have R9 : Hid (Bk w9 w.heap.size [.int .i64 0, .int .i64 0, .int .i64 0, .int .i64 0, .int .i64 0, .int .i64 0, .int .i64 0, .int .i64 0, .int .i64 0, .int .i64 0, .int .i64 0, .int .i64 0, .int .i64 0, .int .i64 0, .int .i64 0, .int .i64 0]) := by unfold Hid; rw [e9]; exact bk_put (R7.out) rfl
      have B9 : Hid (Below w.heap.size w w9) := by unfold Hid; rw [e9]; exact below_put (by omega) _ _ (B7.out)
      rw [← e9]
      clear e9
      go_wp2
      have hr := fun tmps hp hq => results_mid2 (P := Tryz.prog) (fn := Tryz.f4) Tryz.results4 tmps w9 w.heap.size [.int .i64 0, .int .i64 0, .int .i64 0, .int .i64 0, .int .i64 0, .int .i64 0, .int .i64 0, .int .i64 0, .int .i64 0, .int .i64 0, .int .i64 0, .int .i64 0, .int .i64 0, .int .i64 0, .int .i64 0, .int .i64 0] _ (.bool false) hp hq (Bk.range R9.out) Tryz.underlying29 rfl (by kernel_rfl)
      exact bodyPost_ret (v := .tuple #[.agg #[.int .i64 0, .int .i64 0, .int .i64 0, .int .i64 0, .int .i64 0, .int .i64 0, .int .i64 0, .int .i64 0, .int .i64 0, .int .i64 0, .int .i64 0, .int .i64 0, .int .i64 0, .int .i64 0, .int .i64 0, .int .i64 0], .bool false]) (hr _ rfl rfl) rfl ⟨.inr ⟨HTT.out, rfl⟩, B9.out⟩
end Go.Proofs.YtgioecjnghllhaaGreatDoor
