/- LogRead of the model: a parcel that came in; conditions: those typed. -/
import Derived.Test.YtgioecjnghllhaaGreatDoorLI
import Derived.Deep.DeepCutAuto
import Derived.Deep.MidRow
namespace Go.Proofs.YtgioecjnghllhaaGreatDoor
open Go.RowKit Go.Deep
set_option linter.unusedVariables false
set_option maxRecDepth 100000
attribute [local go_sem ↓] load29_eq store29_eq
theorem rest_len : ∀ l : List UInt8, (restF l).length ≤ l.length
  | [] => by simp [restF]
  | b :: r => by
    have := rest_len r
    rw [restF]; split <;> simp <;> omega
theorem rest_two (s : ByteArray) (hs : (s.size : Int) ≤ 100) (w : World) : Calls Tryz.prog 9 #[.string ⟨(restF s.data.toList).toArray⟩] w fun e w' => e = .returned (.string ⟨(restF (restF s.data.toList)).toArray⟩) ∧ w' = w := by
  have hr : (restF s.data.toList).length ≤ s.data.toList.length := rest_len _
  rw [size_len] at hr
  exact rest_spec ⟨(restF s.data.toList).toArray⟩ (by simp [ByteArray.size]; omega) w
set_option maxHeartbeats 4000000 in
theorem sp_in_no (s : ByteArray) (hs : (s.size : Int) ≤ 100) (he : s.toList.isEmpty = false) (h3 : 3 ≤ (words s.data.toList).length) (P : Pcl)
    (hO : ∀ w, Calls Tryz.prog 10 #[.string ⟨(restF (restF s.data.toList)).toArray⟩] w fun e w' => e = .returned (.tuple #[P.val, .bool false]) ∧ Below w.heap.size w w') (T : ByteArray) (hT : T = T) (h0 : (words s.data.toList)[0]? = some [105, 110]) (w : World) :
    Calls Tryz.prog 4 #[.string s] w fun e w' => e = .returned (.tuple #[.agg #[.int .i64 0, .int .i64 0, .int .i64 0, .int .i64 0, .int .i64 0, .int .i64 0, .int .i64 0, .int .i64 0, .int .i64 0, .int .i64 0, .int .i64 0, .int .i64 0, .int .i64 0, .int .i64 0, .int .i64 0, .int .i64 0], .bool false]) ∧ Below w.heap.size w w' := by
  have H0 := hid h0
  clear h0
  have HT := hid hT
  clear hT
  have hl : (3 : Int) ≤ ((words s.data.toList).length : Int) := by omega
  have wl : (words s.data.toList).length ≤ 200 := by have := wlen s.data.toList; rw [size_len] at this; omega
  have HO := hid hO
  clear hO
  go_enter Tryz.func4, Tryz.ntmps4
  go_wp2_with fail
  obtain ⟨w0, e0⟩ : ∃ w0, w0 = w.alloc (.cells #[.int .i64 0, .int .i64 0, .int .i64 0, .int .i64 0, .int .i64 0, .int .i64 0, .int .i64 0, .int .i64 0, .int .i64 0, .int .i64 0, .int .i64 0, .int .i64 0, .int .i64 0, .int .i64 0, .int .i64 0, .int .i64 0] 29) := ⟨_, rfl⟩
  have B1 : Hid (Below w.heap.size w w0) := by rw [e0]; exact (Below.refl _ _).alloc (by simp) _
  have R2 : Hid (Bk w0 w.heap.size [.int .i64 0, .int .i64 0, .int .i64 0, .int .i64 0, .int .i64 0, .int .i64 0, .int .i64 0, .int .i64 0, .int .i64 0, .int .i64 0, .int .i64 0, .int .i64 0, .int .i64 0, .int .i64 0, .int .i64 0, .int .i64 0]) := by rw [e0]; exact bk_new w 29 [.int .i64 0, .int .i64 0, .int .i64 0, .int .i64 0, .int .i64 0, .int .i64 0, .int .i64 0, .int .i64 0, .int .i64 0, .int .i64 0, .int .i64 0, .int .i64 0, .int .i64 0, .int .i64 0, .int .i64 0, .int .i64 0]
  rw [← e0]
  clear e0
  refine (words_spec s hs _).mono ?_
  rintro e w1 ⟨v, rfl, ho, hb1⟩
  have B3 : Hid (Below w.heap.size w w1) := bthen B1.out hb1
  have R3 : Hid (Bk w1 w.heap.size [.int .i64 0, .int .i64 0, .int .i64 0, .int .i64 0, .int .i64 0, .int .i64 0, .int .i64 0, .int .i64 0, .int .i64 0, .int .i64 0, .int .i64 0, .int .i64 0, .int .i64 0, .int .i64 0, .int .i64 0, .int .i64 0]) := R2.out.below hb1
  clear B1 R2
  clear hb1
  rcases ho.2 with ⟨_, h⟩ | ⟨g, cap, cur, rfl, _⟩
  · omega
  have HK := hid (looked s hs _ g _ cap rfl w1 ho)
  have hc0 : w1.cell? ⟨g, 0, none⟩ = some (.string ⟨([105, 110] : List UInt8).toArray⟩) := by
    have := ho.cells (g := g) rfl 0 (.string ⟨([105, 110] : List UInt8).toArray⟩) (by simp [strs, H0.out])
    rwa [show (⟨g, 0, none⟩ : Addr).add 0 = ⟨g, 0, none⟩ by unfold Addr.add; split <;> simp_all] at this
  have hgl : g < w1.heap.size := World.block_lt_of_cell? w1 _ hc0
  have HC0 := hid hc0
  clear ho hc0
  have Q4 : Hid (Below w1.heap.size w1 w1) := Below.refl _ _
  go_wp2
  obtain ⟨wz, ez⟩ : ∃ wq, wq = w1.alloc (.cells #[.int .i64 0, .int .i64 0, .int .i64 0, .int .i64 0, .int .i64 0, .int .i64 0, .int .i64 0, .int .i64 0, .int .i64 0, .int .i64 0, .int .i64 0, .int .i64 0, .int .i64 0, .int .i64 0, .int .i64 0, .int .i64 0] 29) := ⟨_, rfl⟩
  have hbz : Below w1.heap.size w1 wz := by rw [ez]; exact (Below.refl _ _).alloc (Nat.le_refl _) _
  have hZ : Bk wz w1.heap.size [.int .i64 0, .int .i64 0, .int .i64 0, .int .i64 0, .int .i64 0, .int .i64 0, .int .i64 0, .int .i64 0, .int .i64 0, .int .i64 0, .int .i64 0, .int .i64 0, .int .i64 0, .int .i64 0, .int .i64 0, .int .i64 0] := by rw [ez]; exact bk_new w1 29 [.int .i64 0, .int .i64 0, .int .i64 0, .int .i64 0, .int .i64 0, .int .i64 0, .int .i64 0, .int .i64 0, .int .i64 0, .int .i64 0, .int .i64 0, .int .i64 0, .int .i64 0, .int .i64 0, .int .i64 0, .int .i64 0]
  rw [← ez]
  clear ez
  rw [store29_bk hZ rfl _ rfl (by kernel_rfl)]
  obtain ⟨w2, en⟩ : ∃ y, y = putL w1.heap.size ((#[.int .i64 0, .int .i64 0, .int .i64 0, .int .i64 0, .int .i64 0, .int .i64 0, .int .i64 0, .int .i64 0, .int .i64 0, .int .i64 0, .int .i64 0, .int .i64 0, .int .i64 0, .int .i64 0, .int .i64 0, .int .i64 0] : Array Value).toList) 0 wz := ⟨_, rfl⟩
  have hG : Bk w2 w1.heap.size [.int .i64 0, .int .i64 0, .int .i64 0, .int .i64 0, .int .i64 0, .int .i64 0, .int .i64 0, .int .i64 0, .int .i64 0, .int .i64 0, .int .i64 0, .int .i64 0, .int .i64 0, .int .i64 0, .int .i64 0, .int .i64 0] := by rw [en]; exact bk_put hZ rfl
  have hb3 : Below w1.heap.size w1 w2 := by rw [en]; exact below_put (Nat.le_refl _) _ _ hbz
  rw [← en]
  clear en hZ hbz
  have hRw : w.heap.size < w1.heap.size := R3.out.1
  have B5 : Hid (Below w.heap.size w w2) := bthen B3.out hb3
  have R5 : Hid (Bk w2 w.heap.size [.int .i64 0, .int .i64 0, .int .i64 0, .int .i64 0, .int .i64 0, .int .i64 0, .int .i64 0, .int .i64 0, .int .i64 0, .int .i64 0, .int .i64 0, .int .i64 0, .int .i64 0, .int .i64 0, .int .i64 0, .int .i64 0]) := R3.out.below hb3
  have Q5 : Hid (Below w1.heap.size w1 w2) := bthen Q4.out hb3
  clear B3 R3 Q4
  obtain ⟨o, eo⟩ : ∃ g, g = w1.heap.size := ⟨_, rfl⟩
  rw [← eo] at hG ⊢
  have eo1 : ¬ w.heap.size = o := by omega
  have eo3 : w.heap.size < o := by omega
  clear eo hb3
  have O6 : Hid (Bk w2 o [.int .i64 0, .int .i64 0, .int .i64 0, .int .i64 0, .int .i64 0, .int .i64 0, .int .i64 0, .int .i64 0, .int .i64 0, .int .i64 0, .int .i64 0, .int .i64 0, .int .i64 0, .int .i64 0, .int .i64 0, .int .i64 0]) := hG
  clear hG
  have hc0 : w2.cell? ⟨g, 0, none⟩ = some (.string ⟨([105, 110] : List UInt8).toArray⟩) := (Q5.out.cell (p := ⟨g, 0, none⟩) hgl).trans HC0.out
  skip
  go_wp2_with fail
  refine (rest_spec s (by omega) _).mono ?_
  rintro e w3 ⟨rfl, e3⟩
  subst e3
  go_wp2_with fail
  refine (rest_two s hs _).mono ?_
  rintro e w3 ⟨rfl, e3⟩
  subst e3
  go_wp2_with fail
  refine (HO.out _).mono ?_
  rintro e w4 ⟨rfl, hb⟩
  have B7 : Hid (Below w.heap.size w w4) := bthen B5.out hb
  have R7 : Hid (Bk w4 w.heap.size [.int .i64 0, .int .i64 0, .int .i64 0, .int .i64 0, .int .i64 0, .int .i64 0, .int .i64 0, .int .i64 0, .int .i64 0, .int .i64 0, .int .i64 0, .int .i64 0, .int .i64 0, .int .i64 0, .int .i64 0, .int .i64 0]) := R5.out.below hb
  have Q7 : Hid (Below w1.heap.size w1 w4) := bthen Q5.out hb
  have O7 : Hid (Bk w4 o [.int .i64 0, .int .i64 0, .int .i64 0, .int .i64 0, .int .i64 0, .int .i64 0, .int .i64 0, .int .i64 0, .int .i64 0, .int .i64 0, .int .i64 0, .int .i64 0, .int .i64 0, .int .i64 0, .int .i64 0, .int .i64 0]) := O6.out.below hb
  clear B5 R5 Q5 O6
  clear hb hc0
  unfold Pcl.val
  go_upto_region 13 with fail
  obtain ⟨w5, e3⟩ : ∃ wq, wq = w4.alloc (.cells #[.int .i64 P.pn, .int .i64 P.pk, .int .i64 P.i, .int .i64 P.a, .int .i64 P.n, .int .i64 P.s, .int .i64 P.l, .int .i64 P.pc] 27) := ⟨_, rfl⟩
  have hb3 : Below w4.heap.size w4 w5 := by rw [e3]; exact (Below.refl _ _).alloc (Nat.le_refl _) _
  have hG : Bk w5 w4.heap.size [.int .i64 P.pn, .int .i64 P.pk, .int .i64 P.i, .int .i64 P.a, .int .i64 P.n, .int .i64 P.s, .int .i64 P.l, .int .i64 P.pc] := by rw [e3]; exact bk_new w4 27 [.int .i64 P.pn, .int .i64 P.pk, .int .i64 P.i, .int .i64 P.a, .int .i64 P.n, .int .i64 P.s, .int .i64 P.l, .int .i64 P.pc]
  rw [← e3]
  clear e3
  have hRw : w.heap.size < w4.heap.size := R7.out.1
  have B8 : Hid (Below w.heap.size w w5) := bthen B7.out hb3
  have R8 : Hid (Bk w5 w.heap.size [.int .i64 0, .int .i64 0, .int .i64 0, .int .i64 0, .int .i64 0, .int .i64 0, .int .i64 0, .int .i64 0, .int .i64 0, .int .i64 0, .int .i64 0, .int .i64 0, .int .i64 0, .int .i64 0, .int .i64 0, .int .i64 0]) := R7.out.below hb3
  have Q8 : Hid (Below w1.heap.size w1 w5) := bthen Q7.out hb3
  have O8 : Hid (Bk w5 o [.int .i64 0, .int .i64 0, .int .i64 0, .int .i64 0, .int .i64 0, .int .i64 0, .int .i64 0, .int .i64 0, .int .i64 0, .int .i64 0, .int .i64 0, .int .i64 0, .int .i64 0, .int .i64 0, .int .i64 0, .int .i64 0]) := O7.out.below hb3
  clear B7 R7 Q7 O7
  obtain ⟨p, eo⟩ : ∃ g, g = w4.heap.size := ⟨_, rfl⟩
  rw [← eo] at hG ⊢
  have eo1 : ¬ w.heap.size = p := by omega
  have eo2 : ¬ p = w.heap.size := by omega
  clear eo hb3
  have P9 : Hid (Bk w5 p [.int .i64 P.pn, .int .i64 P.pk, .int .i64 P.i, .int .i64 P.a, .int .i64 P.n, .int .i64 P.s, .int .i64 P.l, .int .i64 P.pc]) := hG
  clear hG
  have yP0 : w5.cell? ⟨p, 0, none⟩ = some (.int .i64 P.pn) := (P9.out.2 0 (by simp)).1
  have yP1 : w5.cell? ⟨p, 1, none⟩ = some (.int .i64 P.pk) := (P9.out.2 1 (by simp)).1
  have yP2 : w5.cell? ⟨p, 2, none⟩ = some (.int .i64 P.i) := (P9.out.2 2 (by simp)).1
  have yP3 : w5.cell? ⟨p, 3, none⟩ = some (.int .i64 P.a) := (P9.out.2 3 (by simp)).1
  have yP4 : w5.cell? ⟨p, 4, none⟩ = some (.int .i64 P.n) := (P9.out.2 4 (by simp)).1
  have yP5 : w5.cell? ⟨p, 5, none⟩ = some (.int .i64 P.s) := (P9.out.2 5 (by simp)).1
  have yP6 : w5.cell? ⟨p, 6, none⟩ = some (.int .i64 P.l) := (P9.out.2 6 (by simp)).1
  have yP7 : w5.cell? ⟨p, 7, none⟩ = some (.int .i64 P.pc) := (P9.out.2 7 (by simp)).1
  have hlP : p < w5.heap.size := P9.out.1
  go_wp2
  rw [store29_bk (R8.out) rfl _ rfl (by kernel_rfl)]
  obtain ⟨w9, e9⟩ : ∃ y, y = putL w.heap.size ((#[.int .i64 0, .int .i64 0, .int .i64 0, .int .i64 0, .int .i64 0, .int .i64 0, .int .i64 0, .int .i64 0, .int .i64 0, .int .i64 0, .int .i64 0, .int .i64 0, .int .i64 0, .int .i64 0, .int .i64 0, .int .i64 0] : Array Value).toList) 0 w5 := ⟨_, rfl⟩
  have R9 : Hid (Bk w9 w.heap.size [.int .i64 0, .int .i64 0, .int .i64 0, .int .i64 0, .int .i64 0, .int .i64 0, .int .i64 0, .int .i64 0, .int .i64 0, .int .i64 0, .int .i64 0, .int .i64 0, .int .i64 0, .int .i64 0, .int .i64 0, .int .i64 0]) := by unfold Hid; rw [e9]; exact bk_put (R8.out) rfl
  have B9 : Hid (Below w.heap.size w w9) := by unfold Hid; rw [e9]; exact below_put (by omega) _ _ (B8.out)
  rw [← e9]
  clear e9
  go_wp2
  have hr := fun tmps hp hq => results_mid2 (P := Tryz.prog) (fn := Tryz.f4) Tryz.results4 tmps w9 w.heap.size [.int .i64 0, .int .i64 0, .int .i64 0, .int .i64 0, .int .i64 0, .int .i64 0, .int .i64 0, .int .i64 0, .int .i64 0, .int .i64 0, .int .i64 0, .int .i64 0, .int .i64 0, .int .i64 0, .int .i64 0, .int .i64 0] _ (.bool false) hp hq (Bk.range R9.out) Tryz.underlying29 rfl (by kernel_rfl)
  exact bodyPost_ret (v := .tuple #[.agg #[.int .i64 0, .int .i64 0, .int .i64 0, .int .i64 0, .int .i64 0, .int .i64 0, .int .i64 0, .int .i64 0, .int .i64 0, .int .i64 0, .int .i64 0, .int .i64 0, .int .i64 0, .int .i64 0, .int .i64 0, .int .i64 0], .bool false]) (hr _ rfl rfl) rfl ⟨rfl, B9.out⟩
set_option maxHeartbeats 4000000 in
theorem sp_in_yes (s : ByteArray) (hs : (s.size : Int) ≤ 100) (he : s.toList.isEmpty = false) (h3 : 3 ≤ (words s.data.toList).length) (P : Pcl)
    (hO : ∀ w, Calls Tryz.prog 10 #[.string ⟨(restF (restF s.data.toList)).toArray⟩] w fun e w' => e = .returned (.tuple #[P.val, .bool true]) ∧ Below w.heap.size w w') (T : ByteArray) (hT : ∀ w, Calls Tryz.prog 13 #[.agg #[.int .i64 2, .int .i64 0, .int .i64 0, .int .i64 0, .int .i64 0, .int .i64 0, .int .i64 (sideF (wordB s 1)), .int .i64 P.pn, .int .i64 P.pk, .int .i64 P.i, .int .i64 P.a, .int .i64 P.n, .int .i64 P.s, .int .i64 P.l, .int .i64 P.pc, .int .i64 0]] w fun e w' => e = .returned (.string T) ∧ Below w.heap.size w w') (h0 : (words s.data.toList)[0]? = some [105, 110]) (w : World) :
    Calls Tryz.prog 4 #[.string s] w fun e w' => ((T = s ∧ e = .returned (.tuple #[.agg #[.int .i64 2, .int .i64 0, .int .i64 0, .int .i64 0, .int .i64 0, .int .i64 0, .int .i64 (sideF (wordB s 1)), .int .i64 P.pn, .int .i64 P.pk, .int .i64 P.i, .int .i64 P.a, .int .i64 P.n, .int .i64 P.s, .int .i64 P.l, .int .i64 P.pc, .int .i64 0], .bool true])) ∨ (¬ T = s ∧ e = .returned (.tuple #[.agg #[.int .i64 0, .int .i64 0, .int .i64 0, .int .i64 0, .int .i64 0, .int .i64 0, .int .i64 0, .int .i64 0, .int .i64 0, .int .i64 0, .int .i64 0, .int .i64 0, .int .i64 0, .int .i64 0, .int .i64 0, .int .i64 0], .bool false]))) ∧ Below w.heap.size w w' := by
  have H0 := hid h0
  clear h0
  have HT := hid hT
  clear hT
  have hl : (3 : Int) ≤ ((words s.data.toList).length : Int) := by omega
  have wl : (words s.data.toList).length ≤ 200 := by have := wlen s.data.toList; rw [size_len] at this; omega
  have HO := hid hO
  clear hO
  go_enter Tryz.func4, Tryz.ntmps4
  go_wp2_with fail
  obtain ⟨w0, e0⟩ : ∃ w0, w0 = w.alloc (.cells #[.int .i64 0, .int .i64 0, .int .i64 0, .int .i64 0, .int .i64 0, .int .i64 0, .int .i64 0, .int .i64 0, .int .i64 0, .int .i64 0, .int .i64 0, .int .i64 0, .int .i64 0, .int .i64 0, .int .i64 0, .int .i64 0] 29) := ⟨_, rfl⟩
  have B1 : Hid (Below w.heap.size w w0) := by rw [e0]; exact (Below.refl _ _).alloc (by simp) _
  have R2 : Hid (Bk w0 w.heap.size [.int .i64 0, .int .i64 0, .int .i64 0, .int .i64 0, .int .i64 0, .int .i64 0, .int .i64 0, .int .i64 0, .int .i64 0, .int .i64 0, .int .i64 0, .int .i64 0, .int .i64 0, .int .i64 0, .int .i64 0, .int .i64 0]) := by rw [e0]; exact bk_new w 29 [.int .i64 0, .int .i64 0, .int .i64 0, .int .i64 0, .int .i64 0, .int .i64 0, .int .i64 0, .int .i64 0, .int .i64 0, .int .i64 0, .int .i64 0, .int .i64 0, .int .i64 0, .int .i64 0, .int .i64 0, .int .i64 0]
  rw [← e0]
  clear e0
  refine (words_spec s hs _).mono ?_
  rintro e w1 ⟨v, rfl, ho, hb1⟩
  have B3 : Hid (Below w.heap.size w w1) := bthen B1.out hb1
  have R3 : Hid (Bk w1 w.heap.size [.int .i64 0, .int .i64 0, .int .i64 0, .int .i64 0, .int .i64 0, .int .i64 0, .int .i64 0, .int .i64 0, .int .i64 0, .int .i64 0, .int .i64 0, .int .i64 0, .int .i64 0, .int .i64 0, .int .i64 0, .int .i64 0]) := R2.out.below hb1
  clear B1 R2
  clear hb1
  rcases ho.2 with ⟨_, h⟩ | ⟨g, cap, cur, rfl, _⟩
  · omega
  have HK := hid (looked s hs _ g _ cap rfl w1 ho)
  have hc0 : w1.cell? ⟨g, 0, none⟩ = some (.string ⟨([105, 110] : List UInt8).toArray⟩) := by
    have := ho.cells (g := g) rfl 0 (.string ⟨([105, 110] : List UInt8).toArray⟩) (by simp [strs, H0.out])
    rwa [show (⟨g, 0, none⟩ : Addr).add 0 = ⟨g, 0, none⟩ by unfold Addr.add; split <;> simp_all] at this
  have hgl : g < w1.heap.size := World.block_lt_of_cell? w1 _ hc0
  have HC0 := hid hc0
  clear ho hc0
  have Q4 : Hid (Below w1.heap.size w1 w1) := Below.refl _ _
  go_wp2
  obtain ⟨wz, ez⟩ : ∃ wq, wq = w1.alloc (.cells #[.int .i64 0, .int .i64 0, .int .i64 0, .int .i64 0, .int .i64 0, .int .i64 0, .int .i64 0, .int .i64 0, .int .i64 0, .int .i64 0, .int .i64 0, .int .i64 0, .int .i64 0, .int .i64 0, .int .i64 0, .int .i64 0] 29) := ⟨_, rfl⟩
  have hbz : Below w1.heap.size w1 wz := by rw [ez]; exact (Below.refl _ _).alloc (Nat.le_refl _) _
  have hZ : Bk wz w1.heap.size [.int .i64 0, .int .i64 0, .int .i64 0, .int .i64 0, .int .i64 0, .int .i64 0, .int .i64 0, .int .i64 0, .int .i64 0, .int .i64 0, .int .i64 0, .int .i64 0, .int .i64 0, .int .i64 0, .int .i64 0, .int .i64 0] := by rw [ez]; exact bk_new w1 29 [.int .i64 0, .int .i64 0, .int .i64 0, .int .i64 0, .int .i64 0, .int .i64 0, .int .i64 0, .int .i64 0, .int .i64 0, .int .i64 0, .int .i64 0, .int .i64 0, .int .i64 0, .int .i64 0, .int .i64 0, .int .i64 0]
  rw [← ez]
  clear ez
  rw [store29_bk hZ rfl _ rfl (by kernel_rfl)]
  obtain ⟨w2, en⟩ : ∃ y, y = putL w1.heap.size ((#[.int .i64 0, .int .i64 0, .int .i64 0, .int .i64 0, .int .i64 0, .int .i64 0, .int .i64 0, .int .i64 0, .int .i64 0, .int .i64 0, .int .i64 0, .int .i64 0, .int .i64 0, .int .i64 0, .int .i64 0, .int .i64 0] : Array Value).toList) 0 wz := ⟨_, rfl⟩
  have hG : Bk w2 w1.heap.size [.int .i64 0, .int .i64 0, .int .i64 0, .int .i64 0, .int .i64 0, .int .i64 0, .int .i64 0, .int .i64 0, .int .i64 0, .int .i64 0, .int .i64 0, .int .i64 0, .int .i64 0, .int .i64 0, .int .i64 0, .int .i64 0] := by rw [en]; exact bk_put hZ rfl
  have hb3 : Below w1.heap.size w1 w2 := by rw [en]; exact below_put (Nat.le_refl _) _ _ hbz
  rw [← en]
  clear en hZ hbz
  have hRw : w.heap.size < w1.heap.size := R3.out.1
  have B5 : Hid (Below w.heap.size w w2) := bthen B3.out hb3
  have R5 : Hid (Bk w2 w.heap.size [.int .i64 0, .int .i64 0, .int .i64 0, .int .i64 0, .int .i64 0, .int .i64 0, .int .i64 0, .int .i64 0, .int .i64 0, .int .i64 0, .int .i64 0, .int .i64 0, .int .i64 0, .int .i64 0, .int .i64 0, .int .i64 0]) := R3.out.below hb3
  have Q5 : Hid (Below w1.heap.size w1 w2) := bthen Q4.out hb3
  clear B3 R3 Q4
  obtain ⟨o, eo⟩ : ∃ g, g = w1.heap.size := ⟨_, rfl⟩
  rw [← eo] at hG ⊢
  have eo1 : ¬ w.heap.size = o := by omega
  have eo3 : w.heap.size < o := by omega
  clear eo hb3
  have O6 : Hid (Bk w2 o [.int .i64 0, .int .i64 0, .int .i64 0, .int .i64 0, .int .i64 0, .int .i64 0, .int .i64 0, .int .i64 0, .int .i64 0, .int .i64 0, .int .i64 0, .int .i64 0, .int .i64 0, .int .i64 0, .int .i64 0, .int .i64 0]) := hG
  clear hG
  have hc0 : w2.cell? ⟨g, 0, none⟩ = some (.string ⟨([105, 110] : List UInt8).toArray⟩) := (Q5.out.cell (p := ⟨g, 0, none⟩) hgl).trans HC0.out
  skip
  go_wp2_with fail
  refine (rest_spec s (by omega) _).mono ?_
  rintro e w3 ⟨rfl, e3⟩
  subst e3
  go_wp2_with fail
  refine (rest_two s hs _).mono ?_
  rintro e w3 ⟨rfl, e3⟩
  subst e3
  go_wp2_with fail
  refine (HO.out _).mono ?_
  rintro e w4 ⟨rfl, hb⟩
  have B7 : Hid (Below w.heap.size w w4) := bthen B5.out hb
  have R7 : Hid (Bk w4 w.heap.size [.int .i64 0, .int .i64 0, .int .i64 0, .int .i64 0, .int .i64 0, .int .i64 0, .int .i64 0, .int .i64 0, .int .i64 0, .int .i64 0, .int .i64 0, .int .i64 0, .int .i64 0, .int .i64 0, .int .i64 0, .int .i64 0]) := R5.out.below hb
  have Q7 : Hid (Below w1.heap.size w1 w4) := bthen Q5.out hb
  have O7 : Hid (Bk w4 o [.int .i64 0, .int .i64 0, .int .i64 0, .int .i64 0, .int .i64 0, .int .i64 0, .int .i64 0, .int .i64 0, .int .i64 0, .int .i64 0, .int .i64 0, .int .i64 0, .int .i64 0, .int .i64 0, .int .i64 0, .int .i64 0]) := O6.out.below hb
  clear B5 R5 Q5 O6
  clear hb hc0
  unfold Pcl.val
  go_upto_region 13 with fail
  obtain ⟨w5, e3⟩ : ∃ wq, wq = w4.alloc (.cells #[.int .i64 P.pn, .int .i64 P.pk, .int .i64 P.i, .int .i64 P.a, .int .i64 P.n, .int .i64 P.s, .int .i64 P.l, .int .i64 P.pc] 27) := ⟨_, rfl⟩
  have hb3 : Below w4.heap.size w4 w5 := by rw [e3]; exact (Below.refl _ _).alloc (Nat.le_refl _) _
  have hG : Bk w5 w4.heap.size [.int .i64 P.pn, .int .i64 P.pk, .int .i64 P.i, .int .i64 P.a, .int .i64 P.n, .int .i64 P.s, .int .i64 P.l, .int .i64 P.pc] := by rw [e3]; exact bk_new w4 27 [.int .i64 P.pn, .int .i64 P.pk, .int .i64 P.i, .int .i64 P.a, .int .i64 P.n, .int .i64 P.s, .int .i64 P.l, .int .i64 P.pc]
  rw [← e3]
  clear e3
  have hRw : w.heap.size < w4.heap.size := R7.out.1
  have B8 : Hid (Below w.heap.size w w5) := bthen B7.out hb3
  have R8 : Hid (Bk w5 w.heap.size [.int .i64 0, .int .i64 0, .int .i64 0, .int .i64 0, .int .i64 0, .int .i64 0, .int .i64 0, .int .i64 0, .int .i64 0, .int .i64 0, .int .i64 0, .int .i64 0, .int .i64 0, .int .i64 0, .int .i64 0, .int .i64 0]) := R7.out.below hb3
  have Q8 : Hid (Below w1.heap.size w1 w5) := bthen Q7.out hb3
  have O8 : Hid (Bk w5 o [.int .i64 0, .int .i64 0, .int .i64 0, .int .i64 0, .int .i64 0, .int .i64 0, .int .i64 0, .int .i64 0, .int .i64 0, .int .i64 0, .int .i64 0, .int .i64 0, .int .i64 0, .int .i64 0, .int .i64 0, .int .i64 0]) := O7.out.below hb3
  clear B7 R7 Q7 O7
  obtain ⟨p, eo⟩ : ∃ g, g = w4.heap.size := ⟨_, rfl⟩
  rw [← eo] at hG ⊢
  have eo1 : ¬ w.heap.size = p := by omega
  have eo2 : ¬ p = w.heap.size := by omega
  clear eo hb3
  have P9 : Hid (Bk w5 p [.int .i64 P.pn, .int .i64 P.pk, .int .i64 P.i, .int .i64 P.a, .int .i64 P.n, .int .i64 P.s, .int .i64 P.l, .int .i64 P.pc]) := hG
  clear hG
  go_upto_region 15 with fail
  have hR := R8.out
  have hRb := O8.out
  have hPb := P9.out
  have hBB := B8.out
  have hQ := Q8.out
  have ho5 : o < w5.heap.size := hRb.1
  refine wp_region_held_drew (S := fun w' => Below (o) w5 w') (by kernel_rfl) ((Below.refl _ _).drew) ?_
  intro hHeld
  obtain ⟨X0, hX0⟩ : ∃ X, X = w5.drew := ⟨_, rfl⟩
  have hz0 : w5.heap.size ≤ X0.heap.size := by rw [hX0]; exact Nat.le_refl _
  rw [← hX0] at hHeld ⊢
  replace hR := hR.below (show Below w5.heap.size w5 X0 by rw [hX0]; exact (Below.refl _ _).drew)
  replace hRb := hRb.below (show Below w5.heap.size w5 X0 by rw [hX0]; exact (Below.refl _ _).drew)
  replace hPb := hPb.below (show Below w5.heap.size w5 X0 by rw [hX0]; exact (Below.refl _ _).drew)
  replace hQ := bthen hQ (show Below w5.heap.size w5 X0 by rw [hX0]; exact (Below.refl _ _).drew)
  clear hX0
  refine wpAnyH_take (i := 0) (v := .slice (some ⟨g, 0, none⟩) (words s.data.toList).length cap) rfl (by kernel_rfl) (by kernel_rfl) (by kernel_rfl) (fun _ _ _ h => h) (Or.inl ⟨by rfl, ?_⟩) (by assumption) ?_
  · intro wx hSw; obtain ⟨hcS, hfS⟩ := bcellN hSw; go_simp
  try simp only [Act.put, List.setIfInBounds_toArray, List.set_cons_zero, List.set_cons_succ, List.getElem_toArray, List.getElem_cons_zero]
  refine wpAnyH_ready (rs := [1, 2]) (by kernel_rfl) (by simp) ?_
  refine (AllReadyH.cons rfl (fun K hK => ?_) (AllReadyH.cons rfl (fun K hK => ?_) AllReadyH.nil))
  · go_simp
    go_wp2_with fail
    refine ((HK.out _ hQ).2 1 (by omega)).mono ?_
    rintro e x5 ⟨rfl, ex5⟩
    have hbx5 : Below X0.heap.size X0 x5 := by rw [ex5]; exact Below.refl _ _
    clear ex5
    replace hR := hR.below hbx5
    replace hRb := hRb.below hbx5
    replace hPb := hPb.below hbx5
    replace hQ := bthen hQ hbx5
    have hsz_x5 := hbx5.size
    refine hK.out _ _ (bthenN hHeld (by omega) hbx5) (fun hNew => ?_)
    clear hK K hHeld
    have hHeld := hNew
    clear hNew
    try dsimp only
    refine wpAnyH_ready (rs := [2]) (by kernel_rfl) (by simp) ?_
    refine (AllReadyH.cons rfl (fun K hK => ?_) AllReadyH.nil)
    have yq0 : x5.cell? ⟨p, 0, none⟩ = some (.int .i64 P.pn) := (hPb.2 0 (by simp)).1
    have yq1 : x5.cell? ⟨p, 1, none⟩ = some (.int .i64 P.pk) := (hPb.2 1 (by simp)).1
    have yq2 : x5.cell? ⟨p, 2, none⟩ = some (.int .i64 P.i) := (hPb.2 2 (by simp)).1
    have yq3 : x5.cell? ⟨p, 3, none⟩ = some (.int .i64 P.a) := (hPb.2 3 (by simp)).1
    have yq4 : x5.cell? ⟨p, 4, none⟩ = some (.int .i64 P.n) := (hPb.2 4 (by simp)).1
    have yq5 : x5.cell? ⟨p, 5, none⟩ = some (.int .i64 P.s) := (hPb.2 5 (by simp)).1
    have yq6 : x5.cell? ⟨p, 6, none⟩ = some (.int .i64 P.l) := (hPb.2 6 (by simp)).1
    have yq7 : x5.cell? ⟨p, 7, none⟩ = some (.int .i64 P.pc) := (hPb.2 7 (by simp)).1
    go_simp
    clear yq0 yq1 yq2 yq3 yq4 yq5 yq6 yq7
    refine hK.out _ _ hHeld (fun hNew => ?_)
    clear hK K hHeld
    have hHeld := hNew
    clear hNew
    try simp only [Act.put, List.setIfInBounds_toArray, List.set_cons_zero, List.set_cons_succ, List.getElem_toArray, List.getElem_cons_zero, List.getElem_cons_succ]
    refine wpAnyH_take (i := 3) (v := .agg #[.int .i64 2, .int .i64 0, .int .i64 0, .int .i64 0, .int .i64 0, .int .i64 0, .int .i64 (sideF (wordB s 1)), .int .i64 P.pn, .int .i64 P.pk, .int .i64 P.i, .int .i64 P.a, .int .i64 P.n, .int .i64 P.s, .int .i64 P.l, .int .i64 P.pc, .int .i64 0]) rfl (by kernel_rfl) (by kernel_rfl) (by kernel_rfl) (fun _ _ _ h => h) (Or.inl ⟨by rfl, ?_⟩) (by assumption) ?_
    · intro wx hSw; obtain ⟨hcS, hfS⟩ := bcellN hSw; go_simp
    try simp only [Act.put, List.setIfInBounds_toArray, List.set_cons_zero, List.set_cons_succ, List.getElem_toArray, List.getElem_cons_zero, List.getElem_cons_succ]
    refine wpAnyH_ready (rs := [4]) (by kernel_rfl) (by simp) ?_
    refine (AllReadyH.cons rfl (fun K hK => ?_) AllReadyH.nil)
    go_simp
    rw [store29_bk hRb rfl _ rfl (by kernel_rfl)]
    obtain ⟨XS, eS⟩ : ∃ y, y = putL o ((#[.int .i64 2, .int .i64 0, .int .i64 0, .int .i64 0, .int .i64 0, .int .i64 0, .int .i64 (sideF (wordB s 1)), .int .i64 P.pn, .int .i64 P.pk, .int .i64 P.i, .int .i64 P.a, .int .i64 P.n, .int .i64 P.s, .int .i64 P.l, .int .i64 P.pc, .int .i64 0] : Array Value).toList) 0 x5 := ⟨_, rfl⟩
    have hO9 : Bk XS o [.int .i64 2, .int .i64 0, .int .i64 0, .int .i64 0, .int .i64 0, .int .i64 0, .int .i64 (sideF (wordB s 1)), .int .i64 P.pn, .int .i64 P.pk, .int .i64 P.i, .int .i64 P.a, .int .i64 P.n, .int .i64 P.s, .int .i64 P.l, .int .i64 P.pc, .int .i64 0] := by rw [eS]; exact bk_put hRb rfl
    have hz : x5.heap.size ≤ XS.heap.size := by rw [eS]; exact Nat.le_of_eq (size_put o _ 0 x5).symm
    have hR9 : Bk XS w.heap.size [.int .i64 0, .int .i64 0, .int .i64 0, .int .i64 0, .int .i64 0, .int .i64 0, .int .i64 0, .int .i64 0, .int .i64 0, .int .i64 0, .int .i64 0, .int .i64 0, .int .i64 0, .int .i64 0, .int .i64 0, .int .i64 0] := hR.sm hz (by rw [eS]; exact sm_put (by omega) _ 0 x5)
    have hB9 : Below o w5 XS := by rw [eS]; exact below_put (Nat.le_refl _) _ _ hHeld
    rw [← eS]
    clear eS
    refine hK.out _ _ hB9 (fun hNew => ?_)
    clear hK K hHeld
    have hHeld := hNew
    clear hNew
    refine wpAnyH_done (by kernel_rfl) ?_ _
    have B51 : Hid (Below w.heap.size w XS) := hBB.trans (hHeld.mono (by omega))
    have R52 : Hid (Bk XS w.heap.size [.int .i64 0, .int .i64 0, .int .i64 0, .int .i64 0, .int .i64 0, .int .i64 0, .int .i64 0, .int .i64 0, .int .i64 0, .int .i64 0, .int .i64 0, .int .i64 0, .int .i64 0, .int .i64 0, .int .i64 0, .int .i64 0]) := hR9
    have O53 : Hid (Bk XS o [.int .i64 2, .int .i64 0, .int .i64 0, .int .i64 0, .int .i64 0, .int .i64 0, .int .i64 (sideF (wordB s 1)), .int .i64 P.pn, .int .i64 P.pk, .int .i64 P.i, .int .i64 P.a, .int .i64 P.n, .int .i64 P.s, .int .i64 P.l, .int .i64 P.pc, .int .i64 0]) := hO9
    clear hR9 hO9 hBB hQ hPb hRb hR hHeld
    go_wp2
    rw [load29_bk (O53.out) rfl]
    go_wp2_with fail
    refine (HT.out _).mono ?_
    rintro e wt ⟨rfl, hb⟩
    have B54 : Hid (Below w.heap.size w wt) := bthen B51.out hb
    have R54 : Hid (Bk wt w.heap.size [.int .i64 0, .int .i64 0, .int .i64 0, .int .i64 0, .int .i64 0, .int .i64 0, .int .i64 0, .int .i64 0, .int .i64 0, .int .i64 0, .int .i64 0, .int .i64 0, .int .i64 0, .int .i64 0, .int .i64 0, .int .i64 0]) := R52.out.below hb
    have O54 : Hid (Bk wt o [.int .i64 2, .int .i64 0, .int .i64 0, .int .i64 0, .int .i64 0, .int .i64 0, .int .i64 (sideF (wordB s 1)), .int .i64 P.pn, .int .i64 P.pk, .int .i64 P.i, .int .i64 P.a, .int .i64 P.n, .int .i64 P.s, .int .i64 P.l, .int .i64 P.pc, .int .i64 0]) := O53.out.below hb
    clear B51 R52 O53
    clear hb
    by_cases ht : T = s
    · have he2 : T.toList.isEmpty = false := by rw [ht]; exact he
      have ht2 : (T.toList == s.toList) = true := by rw [ht]; simp
      have HTT := hid ht
      clear ht
      go_wp2
      rw [load29_bk (O54.out) rfl]
      go_wp2_with fail
      refine (HT.out _).mono ?_
      rintro e wu ⟨rfl, hb⟩
      have B55 : Hid (Below w.heap.size w wu) := bthen B54.out hb
      have R55 : Hid (Bk wu w.heap.size [.int .i64 0, .int .i64 0, .int .i64 0, .int .i64 0, .int .i64 0, .int .i64 0, .int .i64 0, .int .i64 0, .int .i64 0, .int .i64 0, .int .i64 0, .int .i64 0, .int .i64 0, .int .i64 0, .int .i64 0, .int .i64 0]) := R54.out.below hb
      have O55 : Hid (Bk wu o [.int .i64 2, .int .i64 0, .int .i64 0, .int .i64 0, .int .i64 0, .int .i64 0, .int .i64 (sideF (wordB s 1)), .int .i64 P.pn, .int .i64 P.pk, .int .i64 P.i, .int .i64 P.a, .int .i64 P.n, .int .i64 P.s, .int .i64 P.l, .int .i64 P.pc, .int .i64 0]) := O54.out.below hb
      clear B54 R54 O54
      clear hb
      go_wp2
      rw [load29_bk (O55.out) rfl]
      go_wp2
      rw [store29_bk (R55.out) rfl _ rfl (by kernel_rfl)]
      obtain ⟨w9, e9⟩ : ∃ y, y = putL w.heap.size ((#[.int .i64 2, .int .i64 0, .int .i64 0, .int .i64 0, .int .i64 0, .int .i64 0, .int .i64 (sideF (wordB s 1)), .int .i64 P.pn, .int .i64 P.pk, .int .i64 P.i, .int .i64 P.a, .int .i64 P.n, .int .i64 P.s, .int .i64 P.l, .int .i64 P.pc, .int .i64 0] : Array Value).toList) 0 wu := ⟨_, rfl⟩
      have R9 : Hid (Bk w9 w.heap.size [.int .i64 2, .int .i64 0, .int .i64 0, .int .i64 0, .int .i64 0, .int .i64 0, .int .i64 (sideF (wordB s 1)), .int .i64 P.pn, .int .i64 P.pk, .int .i64 P.i, .int .i64 P.a, .int .i64 P.n, .int .i64 P.s, .int .i64 P.l, .int .i64 P.pc, .int .i64 0]) := by unfold Hid; rw [e9]; exact bk_put (R55.out) rfl
      have B9 : Hid (Below w.heap.size w w9) := by unfold Hid; rw [e9]; exact below_put (by omega) _ _ (B55.out)
      rw [← e9]
      clear e9
      go_wp2
      have hr := fun tmps hp hq => results_mid2 (P := Tryz.prog) (fn := Tryz.f4) Tryz.results4 tmps w9 w.heap.size [.int .i64 2, .int .i64 0, .int .i64 0, .int .i64 0, .int .i64 0, .int .i64 0, .int .i64 (sideF (wordB s 1)), .int .i64 P.pn, .int .i64 P.pk, .int .i64 P.i, .int .i64 P.a, .int .i64 P.n, .int .i64 P.s, .int .i64 P.l, .int .i64 P.pc, .int .i64 0] _ (.bool true) hp hq (Bk.range R9.out) Tryz.underlying29 rfl (by kernel_rfl)
      exact bodyPost_ret (v := .tuple #[.agg #[.int .i64 2, .int .i64 0, .int .i64 0, .int .i64 0, .int .i64 0, .int .i64 0, .int .i64 (sideF (wordB s 1)), .int .i64 P.pn, .int .i64 P.pk, .int .i64 P.i, .int .i64 P.a, .int .i64 P.n, .int .i64 P.s, .int .i64 P.l, .int .i64 P.pc, .int .i64 0], .bool true]) (hr _ rfl rfl) rfl ⟨.inl ⟨HTT.out, rfl⟩, B9.out⟩
    · have HTT := hid ht
      have ht2 : (T.toList == s.toList) = false := by rw [list_eq]; exact decide_eq_false ht
      clear ht
      cases he2 : T.toList.isEmpty
      · go_wp2
        rw [load29_bk (O54.out) rfl]
        go_wp2_with fail
        refine (HT.out _).mono ?_
        rintro e wu ⟨rfl, hb⟩
        have B56 : Hid (Below w.heap.size w wu) := bthen B54.out hb
        have R56 : Hid (Bk wu w.heap.size [.int .i64 0, .int .i64 0, .int .i64 0, .int .i64 0, .int .i64 0, .int .i64 0, .int .i64 0, .int .i64 0, .int .i64 0, .int .i64 0, .int .i64 0, .int .i64 0, .int .i64 0, .int .i64 0, .int .i64 0, .int .i64 0]) := R54.out.below hb
        have O56 : Hid (Bk wu o [.int .i64 2, .int .i64 0, .int .i64 0, .int .i64 0, .int .i64 0, .int .i64 0, .int .i64 (sideF (wordB s 1)), .int .i64 P.pn, .int .i64 P.pk, .int .i64 P.i, .int .i64 P.a, .int .i64 P.n, .int .i64 P.s, .int .i64 P.l, .int .i64 P.pc, .int .i64 0]) := O54.out.below hb
        clear B54 R54 O54
        clear hb
        go_wp2
        rw [store29_bk (R56.out) rfl _ rfl (by kernel_rfl)]
        obtain ⟨w9, e9⟩ : ∃ y, y = putL w.heap.size ((#[.int .i64 0, .int .i64 0, .int .i64 0, .int .i64 0, .int .i64 0, .int .i64 0, .int .i64 0, .int .i64 0, .int .i64 0, .int .i64 0, .int .i64 0, .int .i64 0, .int .i64 0, .int .i64 0, .int .i64 0, .int .i64 0] : Array Value).toList) 0 wu := ⟨_, rfl⟩
        have R9 : Hid (Bk w9 w.heap.size [.int .i64 0, .int .i64 0, .int .i64 0, .int .i64 0, .int .i64 0, .int .i64 0, .int .i64 0, .int .i64 0, .int .i64 0, .int .i64 0, .int .i64 0, .int .i64 0, .int .i64 0, .int .i64 0, .int .i64 0, .int .i64 0]) := by unfold Hid; rw [e9]; exact bk_put (R56.out) rfl
        have B9 : Hid (Below w.heap.size w w9) := by unfold Hid; rw [e9]; exact below_put (by omega) _ _ (B56.out)
        rw [← e9]
        clear e9
        go_wp2
        have hr := fun tmps hp hq => results_mid2 (P := Tryz.prog) (fn := Tryz.f4) Tryz.results4 tmps w9 w.heap.size [.int .i64 0, .int .i64 0, .int .i64 0, .int .i64 0, .int .i64 0, .int .i64 0, .int .i64 0, .int .i64 0, .int .i64 0, .int .i64 0, .int .i64 0, .int .i64 0, .int .i64 0, .int .i64 0, .int .i64 0, .int .i64 0] _ (.bool false) hp hq (Bk.range R9.out) Tryz.underlying29 rfl (by kernel_rfl)
        exact bodyPost_ret (v := .tuple #[.agg #[.int .i64 0, .int .i64 0, .int .i64 0, .int .i64 0, .int .i64 0, .int .i64 0, .int .i64 0, .int .i64 0, .int .i64 0, .int .i64 0, .int .i64 0, .int .i64 0, .int .i64 0, .int .i64 0, .int .i64 0, .int .i64 0], .bool false]) (hr _ rfl rfl) rfl ⟨.inr ⟨HTT.out, rfl⟩, B9.out⟩
      · go_wp2
        rw [store29_bk (R54.out) rfl _ rfl (by kernel_rfl)]
        obtain ⟨w9, e9⟩ : ∃ y, y = putL w.heap.size ((#[.int .i64 0, .int .i64 0, .int .i64 0, .int .i64 0, .int .i64 0, .int .i64 0, .int .i64 0, .int .i64 0, .int .i64 0, .int .i64 0, .int .i64 0, .int .i64 0, .int .i64 0, .int .i64 0, .int .i64 0, .int .i64 0] : Array Value).toList) 0 wt := ⟨_, rfl⟩
        have R9 : Hid (Bk w9 w.heap.size [.int .i64 0, .int .i64 0, .int .i64 0, .int .i64 0, .int .i64 0, .int .i64 0, .int .i64 0, .int .i64 0, .int .i64 0, .int .i64 0, .int .i64 0, .int .i64 0, .int .i64 0, .int .i64 0, .int .i64 0, .int .i64 0]) := by unfold Hid; rw [e9]; exact bk_put (R54.out) rfl
        have B9 : Hid (Below w.heap.size w w9) := by unfold Hid; rw [e9]; exact below_put (by omega) _ _ (B54.out)
        rw [← e9]
        clear e9
        go_wp2
        have hr := fun tmps hp hq => results_mid2 (P := Tryz.prog) (fn := Tryz.f4) Tryz.results4 tmps w9 w.heap.size [.int .i64 0, .int .i64 0, .int .i64 0, .int .i64 0, .int .i64 0, .int .i64 0, .int .i64 0, .int .i64 0, .int .i64 0, .int .i64 0, .int .i64 0, .int .i64 0, .int .i64 0, .int .i64 0, .int .i64 0, .int .i64 0] _ (.bool false) hp hq (Bk.range R9.out) Tryz.underlying29 rfl (by kernel_rfl)
        exact bodyPost_ret (v := .tuple #[.agg #[.int .i64 0, .int .i64 0, .int .i64 0, .int .i64 0, .int .i64 0, .int .i64 0, .int .i64 0, .int .i64 0, .int .i64 0, .int .i64 0, .int .i64 0, .int .i64 0, .int .i64 0, .int .i64 0, .int .i64 0, .int .i64 0], .bool false]) (hr _ rfl rfl) rfl ⟨.inr ⟨HTT.out, rfl⟩, B9.out⟩
  · have yq0 : X0.cell? ⟨p, 0, none⟩ = some (.int .i64 P.pn) := (hPb.2 0 (by simp)).1
    have yq1 : X0.cell? ⟨p, 1, none⟩ = some (.int .i64 P.pk) := (hPb.2 1 (by simp)).1
    have yq2 : X0.cell? ⟨p, 2, none⟩ = some (.int .i64 P.i) := (hPb.2 2 (by simp)).1
    have yq3 : X0.cell? ⟨p, 3, none⟩ = some (.int .i64 P.a) := (hPb.2 3 (by simp)).1
    have yq4 : X0.cell? ⟨p, 4, none⟩ = some (.int .i64 P.n) := (hPb.2 4 (by simp)).1
    have yq5 : X0.cell? ⟨p, 5, none⟩ = some (.int .i64 P.s) := (hPb.2 5 (by simp)).1
    have yq6 : X0.cell? ⟨p, 6, none⟩ = some (.int .i64 P.l) := (hPb.2 6 (by simp)).1
    have yq7 : X0.cell? ⟨p, 7, none⟩ = some (.int .i64 P.pc) := (hPb.2 7 (by simp)).1
    go_simp
    clear yq0 yq1 yq2 yq3 yq4 yq5 yq6 yq7
    refine hK.out _ _ hHeld (fun hNew => ?_)
    clear hK K hHeld
    have hHeld := hNew
    clear hNew
    try simp only [Act.put, List.setIfInBounds_toArray, List.set_cons_zero, List.set_cons_succ, List.getElem_toArray, List.getElem_cons_zero, List.getElem_cons_succ]
    refine wpAnyH_ready (rs := [1]) (by kernel_rfl) (by simp) ?_
    refine (AllReadyH.cons rfl (fun K hK => ?_) AllReadyH.nil)
    go_simp
    go_wp2_with fail
    refine ((HK.out _ hQ).2 1 (by omega)).mono ?_
    rintro e x5 ⟨rfl, ex5⟩
    have hbx5 : Below X0.heap.size X0 x5 := by rw [ex5]; exact Below.refl _ _
    clear ex5
    replace hR := hR.below hbx5
    replace hRb := hRb.below hbx5
    replace hPb := hPb.below hbx5
    replace hQ := bthen hQ hbx5
    have hsz_x5 := hbx5.size
    refine hK.out _ _ (bthenN hHeld (by omega) hbx5) (fun hNew => ?_)
    clear hK K hHeld
    have hHeld := hNew
    clear hNew
    try dsimp only
    refine wpAnyH_take (i := 3) (v := .agg #[.int .i64 2, .int .i64 0, .int .i64 0, .int .i64 0, .int .i64 0, .int .i64 0, .int .i64 (sideF (wordB s 1)), .int .i64 P.pn, .int .i64 P.pk, .int .i64 P.i, .int .i64 P.a, .int .i64 P.n, .int .i64 P.s, .int .i64 P.l, .int .i64 P.pc, .int .i64 0]) rfl (by kernel_rfl) (by kernel_rfl) (by kernel_rfl) (fun _ _ _ h => h) (Or.inl ⟨by rfl, ?_⟩) (by assumption) ?_
    · intro wx hSw; obtain ⟨hcS, hfS⟩ := bcellN hSw; go_simp
    try simp only [Act.put, List.setIfInBounds_toArray, List.set_cons_zero, List.set_cons_succ, List.getElem_toArray, List.getElem_cons_zero, List.getElem_cons_succ]
    refine wpAnyH_ready (rs := [4]) (by kernel_rfl) (by simp) ?_
    refine (AllReadyH.cons rfl (fun K hK => ?_) AllReadyH.nil)
    go_simp
    rw [store29_bk hRb rfl _ rfl (by kernel_rfl)]
    obtain ⟨XS, eS⟩ : ∃ y, y = putL o ((#[.int .i64 2, .int .i64 0, .int .i64 0, .int .i64 0, .int .i64 0, .int .i64 0, .int .i64 (sideF (wordB s 1)), .int .i64 P.pn, .int .i64 P.pk, .int .i64 P.i, .int .i64 P.a, .int .i64 P.n, .int .i64 P.s, .int .i64 P.l, .int .i64 P.pc, .int .i64 0] : Array Value).toList) 0 x5 := ⟨_, rfl⟩
    have hO9 : Bk XS o [.int .i64 2, .int .i64 0, .int .i64 0, .int .i64 0, .int .i64 0, .int .i64 0, .int .i64 (sideF (wordB s 1)), .int .i64 P.pn, .int .i64 P.pk, .int .i64 P.i, .int .i64 P.a, .int .i64 P.n, .int .i64 P.s, .int .i64 P.l, .int .i64 P.pc, .int .i64 0] := by rw [eS]; exact bk_put hRb rfl
    have hz : x5.heap.size ≤ XS.heap.size := by rw [eS]; exact Nat.le_of_eq (size_put o _ 0 x5).symm
    have hR9 : Bk XS w.heap.size [.int .i64 0, .int .i64 0, .int .i64 0, .int .i64 0, .int .i64 0, .int .i64 0, .int .i64 0, .int .i64 0, .int .i64 0, .int .i64 0, .int .i64 0, .int .i64 0, .int .i64 0, .int .i64 0, .int .i64 0, .int .i64 0] := hR.sm hz (by rw [eS]; exact sm_put (by omega) _ 0 x5)
    have hB9 : Below o w5 XS := by rw [eS]; exact below_put (Nat.le_refl _) _ _ hHeld
    rw [← eS]
    clear eS
    refine hK.out _ _ hB9 (fun hNew => ?_)
    clear hK K hHeld
    have hHeld := hNew
    clear hNew
    refine wpAnyH_done (by kernel_rfl) ?_ _
    have B51 : Hid (Below w.heap.size w XS) := hBB.trans (hHeld.mono (by omega))
    have R52 : Hid (Bk XS w.heap.size [.int .i64 0, .int .i64 0, .int .i64 0, .int .i64 0, .int .i64 0, .int .i64 0, .int .i64 0, .int .i64 0, .int .i64 0, .int .i64 0, .int .i64 0, .int .i64 0, .int .i64 0, .int .i64 0, .int .i64 0, .int .i64 0]) := hR9
    have O53 : Hid (Bk XS o [.int .i64 2, .int .i64 0, .int .i64 0, .int .i64 0, .int .i64 0, .int .i64 0, .int .i64 (sideF (wordB s 1)), .int .i64 P.pn, .int .i64 P.pk, .int .i64 P.i, .int .i64 P.a, .int .i64 P.n, .int .i64 P.s, .int .i64 P.l, .int .i64 P.pc, .int .i64 0]) := hO9
    clear hR9 hO9 hBB hQ hPb hRb hR hHeld
    go_wp2
    rw [load29_bk (O53.out) rfl]
    go_wp2_with fail
    refine (HT.out _).mono ?_
    rintro e wt ⟨rfl, hb⟩
    have B54 : Hid (Below w.heap.size w wt) := bthen B51.out hb
    have R54 : Hid (Bk wt w.heap.size [.int .i64 0, .int .i64 0, .int .i64 0, .int .i64 0, .int .i64 0, .int .i64 0, .int .i64 0, .int .i64 0, .int .i64 0, .int .i64 0, .int .i64 0, .int .i64 0, .int .i64 0, .int .i64 0, .int .i64 0, .int .i64 0]) := R52.out.below hb
    have O54 : Hid (Bk wt o [.int .i64 2, .int .i64 0, .int .i64 0, .int .i64 0, .int .i64 0, .int .i64 0, .int .i64 (sideF (wordB s 1)), .int .i64 P.pn, .int .i64 P.pk, .int .i64 P.i, .int .i64 P.a, .int .i64 P.n, .int .i64 P.s, .int .i64 P.l, .int .i64 P.pc, .int .i64 0]) := O53.out.below hb
    clear B51 R52 O53
    clear hb
    by_cases ht : T = s
    · have he2 : T.toList.isEmpty = false := by rw [ht]; exact he
      have ht2 : (T.toList == s.toList) = true := by rw [ht]; simp
      have HTT := hid ht
      clear ht
      go_wp2
      rw [load29_bk (O54.out) rfl]
      go_wp2_with fail
      refine (HT.out _).mono ?_
      rintro e wu ⟨rfl, hb⟩
      have B55 : Hid (Below w.heap.size w wu) := bthen B54.out hb
      have R55 : Hid (Bk wu w.heap.size [.int .i64 0, .int .i64 0, .int .i64 0, .int .i64 0, .int .i64 0, .int .i64 0, .int .i64 0, .int .i64 0, .int .i64 0, .int .i64 0, .int .i64 0, .int .i64 0, .int .i64 0, .int .i64 0, .int .i64 0, .int .i64 0]) := R54.out.below hb
      have O55 : Hid (Bk wu o [.int .i64 2, .int .i64 0, .int .i64 0, .int .i64 0, .int .i64 0, .int .i64 0, .int .i64 (sideF (wordB s 1)), .int .i64 P.pn, .int .i64 P.pk, .int .i64 P.i, .int .i64 P.a, .int .i64 P.n, .int .i64 P.s, .int .i64 P.l, .int .i64 P.pc, .int .i64 0]) := O54.out.below hb
      clear B54 R54 O54
      clear hb
      go_wp2
      rw [load29_bk (O55.out) rfl]
      go_wp2
      rw [store29_bk (R55.out) rfl _ rfl (by kernel_rfl)]
      obtain ⟨w9, e9⟩ : ∃ y, y = putL w.heap.size ((#[.int .i64 2, .int .i64 0, .int .i64 0, .int .i64 0, .int .i64 0, .int .i64 0, .int .i64 (sideF (wordB s 1)), .int .i64 P.pn, .int .i64 P.pk, .int .i64 P.i, .int .i64 P.a, .int .i64 P.n, .int .i64 P.s, .int .i64 P.l, .int .i64 P.pc, .int .i64 0] : Array Value).toList) 0 wu := ⟨_, rfl⟩
      have R9 : Hid (Bk w9 w.heap.size [.int .i64 2, .int .i64 0, .int .i64 0, .int .i64 0, .int .i64 0, .int .i64 0, .int .i64 (sideF (wordB s 1)), .int .i64 P.pn, .int .i64 P.pk, .int .i64 P.i, .int .i64 P.a, .int .i64 P.n, .int .i64 P.s, .int .i64 P.l, .int .i64 P.pc, .int .i64 0]) := by unfold Hid; rw [e9]; exact bk_put (R55.out) rfl
      have B9 : Hid (Below w.heap.size w w9) := by unfold Hid; rw [e9]; exact below_put (by omega) _ _ (B55.out)
      rw [← e9]
      clear e9
      go_wp2
      have hr := fun tmps hp hq => results_mid2 (P := Tryz.prog) (fn := Tryz.f4) Tryz.results4 tmps w9 w.heap.size [.int .i64 2, .int .i64 0, .int .i64 0, .int .i64 0, .int .i64 0, .int .i64 0, .int .i64 (sideF (wordB s 1)), .int .i64 P.pn, .int .i64 P.pk, .int .i64 P.i, .int .i64 P.a, .int .i64 P.n, .int .i64 P.s, .int .i64 P.l, .int .i64 P.pc, .int .i64 0] _ (.bool true) hp hq (Bk.range R9.out) Tryz.underlying29 rfl (by kernel_rfl)
      exact bodyPost_ret (v := .tuple #[.agg #[.int .i64 2, .int .i64 0, .int .i64 0, .int .i64 0, .int .i64 0, .int .i64 0, .int .i64 (sideF (wordB s 1)), .int .i64 P.pn, .int .i64 P.pk, .int .i64 P.i, .int .i64 P.a, .int .i64 P.n, .int .i64 P.s, .int .i64 P.l, .int .i64 P.pc, .int .i64 0], .bool true]) (hr _ rfl rfl) rfl ⟨.inl ⟨HTT.out, rfl⟩, B9.out⟩
    · have HTT := hid ht
      have ht2 : (T.toList == s.toList) = false := by rw [list_eq]; exact decide_eq_false ht
      clear ht
      cases he2 : T.toList.isEmpty
      · go_wp2
        rw [load29_bk (O54.out) rfl]
        go_wp2_with fail
        refine (HT.out _).mono ?_
        rintro e wu ⟨rfl, hb⟩
        have B56 : Hid (Below w.heap.size w wu) := bthen B54.out hb
        have R56 : Hid (Bk wu w.heap.size [.int .i64 0, .int .i64 0, .int .i64 0, .int .i64 0, .int .i64 0, .int .i64 0, .int .i64 0, .int .i64 0, .int .i64 0, .int .i64 0, .int .i64 0, .int .i64 0, .int .i64 0, .int .i64 0, .int .i64 0, .int .i64 0]) := R54.out.below hb
        have O56 : Hid (Bk wu o [.int .i64 2, .int .i64 0, .int .i64 0, .int .i64 0, .int .i64 0, .int .i64 0, .int .i64 (sideF (wordB s 1)), .int .i64 P.pn, .int .i64 P.pk, .int .i64 P.i, .int .i64 P.a, .int .i64 P.n, .int .i64 P.s, .int .i64 P.l, .int .i64 P.pc, .int .i64 0]) := O54.out.below hb
        clear B54 R54 O54
        clear hb
        go_wp2
        rw [store29_bk (R56.out) rfl _ rfl (by kernel_rfl)]
        obtain ⟨w9, e9⟩ : ∃ y, y = putL w.heap.size ((#[.int .i64 0, .int .i64 0, .int .i64 0, .int .i64 0, .int .i64 0, .int .i64 0, .int .i64 0, .int .i64 0, .int .i64 0, .int .i64 0, .int .i64 0, .int .i64 0, .int .i64 0, .int .i64 0, .int .i64 0, .int .i64 0] : Array Value).toList) 0 wu := ⟨_, rfl⟩
        have R9 : Hid (Bk w9 w.heap.size [.int .i64 0, .int .i64 0, .int .i64 0, .int .i64 0, .int .i64 0, .int .i64 0, .int .i64 0, .int .i64 0, .int .i64 0, .int .i64 0, .int .i64 0, .int .i64 0, .int .i64 0, .int .i64 0, .int .i64 0, .int .i64 0]) := by unfold Hid; rw [e9]; exact bk_put (R56.out) rfl
        have B9 : Hid (Below w.heap.size w w9) := by unfold Hid; rw [e9]; exact below_put (by omega) _ _ (B56.out)
        rw [← e9]
        clear e9
        go_wp2
        have hr := fun tmps hp hq => results_mid2 (P := Tryz.prog) (fn := Tryz.f4) Tryz.results4 tmps w9 w.heap.size [.int .i64 0, .int .i64 0, .int .i64 0, .int .i64 0, .int .i64 0, .int .i64 0, .int .i64 0, .int .i64 0, .int .i64 0, .int .i64 0, .int .i64 0, .int .i64 0, .int .i64 0, .int .i64 0, .int .i64 0, .int .i64 0] _ (.bool false) hp hq (Bk.range R9.out) Tryz.underlying29 rfl (by kernel_rfl)
        exact bodyPost_ret (v := .tuple #[.agg #[.int .i64 0, .int .i64 0, .int .i64 0, .int .i64 0, .int .i64 0, .int .i64 0, .int .i64 0, .int .i64 0, .int .i64 0, .int .i64 0, .int .i64 0, .int .i64 0, .int .i64 0, .int .i64 0, .int .i64 0, .int .i64 0], .bool false]) (hr _ rfl rfl) rfl ⟨.inr ⟨HTT.out, rfl⟩, B9.out⟩
      · go_wp2
        rw [store29_bk (R54.out) rfl _ rfl (by kernel_rfl)]
        obtain ⟨w9, e9⟩ : ∃ y, y = putL w.heap.size ((#[.int .i64 0, .int .i64 0, .int .i64 0, .int .i64 0, .int .i64 0, .int .i64 0, .int .i64 0, .int .i64 0, .int .i64 0, .int .i64 0, .int .i64 0, .int .i64 0, .int .i64 0, .int .i64 0, .int .i64 0, .int .i64 0] : Array Value).toList) 0 wt := ⟨_, rfl⟩
        have R9 : Hid (Bk w9 w.heap.size [.int .i64 0, .int .i64 0, .int .i64 0, .int .i64 0, .int .i64 0, .int .i64 0, .int .i64 0, .int .i64 0, .int .i64 0, .int .i64 0, .int .i64 0, .int .i64 0, .int .i64 0, .int .i64 0, .int .i64 0, .int .i64 0]) := by unfold Hid; rw [e9]; exact bk_put (R54.out) rfl
        have B9 : Hid (Below w.heap.size w w9) := by unfold Hid; rw [e9]; exact below_put (by omega) _ _ (B54.out)
        rw [← e9]
        clear e9
        go_wp2
        have hr := fun tmps hp hq => results_mid2 (P := Tryz.prog) (fn := Tryz.f4) Tryz.results4 tmps w9 w.heap.size [.int .i64 0, .int .i64 0, .int .i64 0, .int .i64 0, .int .i64 0, .int .i64 0, .int .i64 0, .int .i64 0, .int .i64 0, .int .i64 0, .int .i64 0, .int .i64 0, .int .i64 0, .int .i64 0, .int .i64 0, .int .i64 0] _ (.bool false) hp hq (Bk.range R9.out) Tryz.underlying29 rfl (by kernel_rfl)
        exact bodyPost_ret (v := .tuple #[.agg #[.int .i64 0, .int .i64 0, .int .i64 0, .int .i64 0, .int .i64 0, .int .i64 0, .int .i64 0, .int .i64 0, .int .i64 0, .int .i64 0, .int .i64 0, .int .i64 0, .int .i64 0, .int .i64 0, .int .i64 0, .int .i64 0], .bool false]) (hr _ rfl rfl) rfl ⟨.inr ⟨HTT.out, rfl⟩, B9.out⟩
end Go.Proofs.YtgioecjnghllhaaGreatDoor
