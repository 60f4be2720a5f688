/- looseRecord answers a record of the text; LogRead of the program; conditions: those typed. -/
import Derived.Test.YtgioecjnghllhaaGreatDoorLG
import Derived.Test.YtgioecjnghllhaaGreatDoorLGi
import Derived.Deep.DeepCutAuto
import Derived.Deep.MidRow
namespace Go.Proofs.YtgioecjnghllhaaGreatDoor
open Go.RowKit Go.Deep
set_option linter.unusedVariables false
set_option maxRecDepth 100000
attribute [local go_sem ↓] load29_eq store29_eq
def RV (k : Int) (r : Nat → Int) : Value := .agg #[.int .i64 k, .int .i64 (r 1), .int .i64 (r 2), .int .i64 (r 3), .int .i64 (r 4), .int .i64 (r 5), .int .i64 (r 6), .int .i64 (r 7), .int .i64 (r 8), .int .i64 (r 9), .int .i64 (r 10), .int .i64 (r 11), .int .i64 (r 12), .int .i64 (r 13), .int .i64 (r 14), .int .i64 (r 15)]
theorem looseRec (s : ByteArray) (h : s.size ≤ 100) : ∃ (k : Int) (r : Nat → Int), IsOf s k r ∧ ∀ w, Env w → Calls Tryz.prog 14 #[.string s] w fun e w' => e = .returned (RV k r) ∧ Below w.heap.size w w' := by
  obtain ⟨Ca, Cb, Cf, hc⟩ : ∃ Ca Cb Cf, Lib.cut s.data.toList [32] = (Ca, Cb, Cf) := ⟨_, _, _, rfl⟩
  obtain ⟨Da, Db, Df, hd⟩ : ∃ Da Db Df, Lib.cut Cb [32] = (Da, Db, Df) := ⟨_, _, _, rfl⟩
  by_cases h1 : Ca = [100, 111]
  · obtain ⟨p0, p1, p2, p3, p4, b, hp, hO⟩ := ord_any ⟨Cb.toArray⟩
    exact ⟨1, rO p0 p1 p2 p3 p4, isOf_do (by rw [hc, h1]) hp, fun w hE => rec_do s h Ca Cb Da Db Cf Df hc hd h1 p0 p1 p2 p3 p4 b hO w hE⟩
  by_cases h2 : Ca = [105, 110]
  · obtain ⟨P, b, hp, hO⟩ := pcl_any ⟨Db.toArray⟩
    exact ⟨2, rI (sideF ⟨Da.toArray⟩) P, isOf_in (by rw [hc, h2]) hd hp, fun w hE => rec_in s h Ca Cb Da Db Cf Df hc hd h2 P b hO w hE⟩
  by_cases h3 : Ca = [97, 99, 107]
  · exact ⟨3, rA (sideF ⟨Da.toArray⟩) (atoiV Db), isOf_ack (by rw [hc, h3]) hd, fun w hE => rec_ack s h Ca Cb Da Db Cf Df hc hd h3 w hE⟩
  · exact ⟨0, fun _ => 0, isOf_none hc h1 h2 h3 0 _, fun w hE => rec_none s h Ca Cb Da Db Cf Df hc hd h1 h2 h3 w hE⟩
set_option maxHeartbeats 2000000 in
theorem im_read (s : ByteArray) (he : s.toList.isEmpty = false) (h : s.size ≤ 100) (k : Int) (r : Nat → Int) (hL : ∀ w, Env w → Calls Tryz.prog 14 #[.string s] w fun e w' => e = .returned (RV k r) ∧ Below w.heap.size w w') (w : World) (hE : Env w) :
    Calls Tryz.prog 5 #[.string s] w fun e w' => ((modText k r = s ∧ e = .returned (.tuple #[.agg #[.int .i64 k, .int .i64 (r 1), .int .i64 (r 2), .int .i64 (r 3), .int .i64 (r 4), .int .i64 (r 5), .int .i64 (r 6), .int .i64 (r 7), .int .i64 (r 8), .int .i64 (r 9), .int .i64 (r 10), .int .i64 (r 11), .int .i64 (r 12), .int .i64 (r 13), .int .i64 (r 14), .int .i64 (r 15)], .bool true])) ∨ (¬ modText k r = s ∧ e = .returned (.tuple #[.agg #[.int .i64 0, .int .i64 0, .int .i64 0, .int .i64 0, .int .i64 0, .int .i64 0, .int .i64 0, .int .i64 0, .int .i64 0, .int .i64 0, .int .i64 0, .int .i64 0, .int .i64 0, .int .i64 0, .int .i64 0, .int .i64 0], .bool false]))) ∧ Below w.heap.size w w' := by
  have HL := hid hL
  have HE := hid hE
  clear hL hE
  have hs' : (s.size : Int) ≤ 100 := by omega
  go_enter Tryz.func5, Tryz.ntmps5
  go_wp2_with fail
  obtain ⟨w0, e0⟩ : ∃ w0, w0 = w.alloc (.cells #[.int .i64 0, .int .i64 0, .int .i64 0, .int .i64 0, .int .i64 0, .int .i64 0, .int .i64 0, .int .i64 0, .int .i64 0, .int .i64 0, .int .i64 0, .int .i64 0, .int .i64 0, .int .i64 0, .int .i64 0, .int .i64 0] 29) := ⟨_, rfl⟩
  have B1 : Hid (Below w.heap.size w w0) := by rw [e0]; exact (Below.refl _ _).alloc (by simp) _
  have R2 : Hid (Bk w0 w.heap.size [.int .i64 0, .int .i64 0, .int .i64 0, .int .i64 0, .int .i64 0, .int .i64 0, .int .i64 0, .int .i64 0, .int .i64 0, .int .i64 0, .int .i64 0, .int .i64 0, .int .i64 0, .int .i64 0, .int .i64 0, .int .i64 0]) := by rw [e0]; exact bk_new w 29 [.int .i64 0, .int .i64 0, .int .i64 0, .int .i64 0, .int .i64 0, .int .i64 0, .int .i64 0, .int .i64 0, .int .i64 0, .int .i64 0, .int .i64 0, .int .i64 0, .int .i64 0, .int .i64 0, .int .i64 0, .int .i64 0]
  rw [← e0]
  clear e0
  refine (HL.out _ (HE.out.on B1.out)).mono ?_
  rintro e w1 ⟨rfl, hb1⟩
  have B3 : Hid (Below w.heap.size w w1) := bthen B1.out hb1
  have R3 : Hid (Bk w1 w.heap.size [.int .i64 0, .int .i64 0, .int .i64 0, .int .i64 0, .int .i64 0, .int .i64 0, .int .i64 0, .int .i64 0, .int .i64 0, .int .i64 0, .int .i64 0, .int .i64 0, .int .i64 0, .int .i64 0, .int .i64 0, .int .i64 0]) := R2.out.below hb1
  clear B1 R2
  clear hb1
  unfold RV
  go_wp2
  obtain ⟨wz, ez⟩ : ∃ wq, wq = w1.alloc (.cells #[.int .i64 0, .int .i64 0, .int .i64 0, .int .i64 0, .int .i64 0, .int .i64 0, .int .i64 0, .int .i64 0, .int .i64 0, .int .i64 0, .int .i64 0, .int .i64 0, .int .i64 0, .int .i64 0, .int .i64 0, .int .i64 0] 29) := ⟨_, rfl⟩
  have hbz : Below w1.heap.size w1 wz := by rw [ez]; exact (Below.refl _ _).alloc (Nat.le_refl _) _
  have hZ : Bk wz w1.heap.size [.int .i64 0, .int .i64 0, .int .i64 0, .int .i64 0, .int .i64 0, .int .i64 0, .int .i64 0, .int .i64 0, .int .i64 0, .int .i64 0, .int .i64 0, .int .i64 0, .int .i64 0, .int .i64 0, .int .i64 0, .int .i64 0] := by rw [ez]; exact bk_new w1 29 [.int .i64 0, .int .i64 0, .int .i64 0, .int .i64 0, .int .i64 0, .int .i64 0, .int .i64 0, .int .i64 0, .int .i64 0, .int .i64 0, .int .i64 0, .int .i64 0, .int .i64 0, .int .i64 0, .int .i64 0, .int .i64 0]
  rw [← ez]
  clear ez
  rw [store29_bk hZ rfl _ rfl (by kernel_rfl)]
  obtain ⟨w2, en⟩ : ∃ y, y = putL w1.heap.size ((#[.int .i64 k, .int .i64 (r 1), .int .i64 (r 2), .int .i64 (r 3), .int .i64 (r 4), .int .i64 (r 5), .int .i64 (r 6), .int .i64 (r 7), .int .i64 (r 8), .int .i64 (r 9), .int .i64 (r 10), .int .i64 (r 11), .int .i64 (r 12), .int .i64 (r 13), .int .i64 (r 14), .int .i64 (r 15)] : Array Value).toList) 0 wz := ⟨_, rfl⟩
  have hG : Bk w2 w1.heap.size [.int .i64 k, .int .i64 (r 1), .int .i64 (r 2), .int .i64 (r 3), .int .i64 (r 4), .int .i64 (r 5), .int .i64 (r 6), .int .i64 (r 7), .int .i64 (r 8), .int .i64 (r 9), .int .i64 (r 10), .int .i64 (r 11), .int .i64 (r 12), .int .i64 (r 13), .int .i64 (r 14), .int .i64 (r 15)] := by rw [en]; exact bk_put hZ rfl
  have hb3 : Below w1.heap.size w1 w2 := by rw [en]; exact below_put (Nat.le_refl _) _ _ hbz
  rw [← en]
  clear en hZ hbz
  have hRw : w.heap.size < w1.heap.size := R3.out.1
  have B4 : Hid (Below w.heap.size w w2) := bthen B3.out hb3
  have R4 : Hid (Bk w2 w.heap.size [.int .i64 0, .int .i64 0, .int .i64 0, .int .i64 0, .int .i64 0, .int .i64 0, .int .i64 0, .int .i64 0, .int .i64 0, .int .i64 0, .int .i64 0, .int .i64 0, .int .i64 0, .int .i64 0, .int .i64 0, .int .i64 0]) := R3.out.below hb3
  clear B3 R3
  obtain ⟨o, eo⟩ : ∃ g, g = w1.heap.size := ⟨_, rfl⟩
  rw [← eo] at hG ⊢
  have eo1 : ¬ w.heap.size = o := by omega
  clear eo hb3
  have O5 : Hid (Bk w2 o [.int .i64 k, .int .i64 (r 1), .int .i64 (r 2), .int .i64 (r 3), .int .i64 (r 4), .int .i64 (r 5), .int .i64 (r 6), .int .i64 (r 7), .int .i64 (r 8), .int .i64 (r 9), .int .i64 (r 10), .int .i64 (r 11), .int .i64 (r 12), .int .i64 (r 13), .int .i64 (r 14), .int .i64 (r 15)]) := hG
  clear hG
  go_wp2
  rw [load29_bk (O5.out) rfl]
  go_wp2_with fail
  refine (logText_impl k r _ ((HE.out.on B4.out).tab)).mono ?_
  rintro e w3 ⟨rfl, hb3⟩
  have B6 : Hid (Below w.heap.size w w3) := bthen B4.out hb3
  have R6 : Hid (Bk w3 w.heap.size [.int .i64 0, .int .i64 0, .int .i64 0, .int .i64 0, .int .i64 0, .int .i64 0, .int .i64 0, .int .i64 0, .int .i64 0, .int .i64 0, .int .i64 0, .int .i64 0, .int .i64 0, .int .i64 0, .int .i64 0, .int .i64 0]) := R4.out.below hb3
  have O6 : Hid (Bk w3 o [.int .i64 k, .int .i64 (r 1), .int .i64 (r 2), .int .i64 (r 3), .int .i64 (r 4), .int .i64 (r 5), .int .i64 (r 6), .int .i64 (r 7), .int .i64 (r 8), .int .i64 (r 9), .int .i64 (r 10), .int .i64 (r 11), .int .i64 (r 12), .int .i64 (r 13), .int .i64 (r 14), .int .i64 (r 15)]) := O5.out.below hb3
  clear B4 R4 O5
  clear hb3
  by_cases ht : modText k r = s
  · have ht2 : ((modText k r).toList == s.toList) = true := by rw [ht]; simp
    have HT := hid ht
    clear ht
    go_wp2
    rw [load29_bk (O6.out) rfl]
    go_wp2
    rw [store29_bk (R6.out) rfl _ rfl (by kernel_rfl)]
    obtain ⟨w9, e9⟩ : ∃ y, y = putL w.heap.size ((#[.int .i64 k, .int .i64 (r 1), .int .i64 (r 2), .int .i64 (r 3), .int .i64 (r 4), .int .i64 (r 5), .int .i64 (r 6), .int .i64 (r 7), .int .i64 (r 8), .int .i64 (r 9), .int .i64 (r 10), .int .i64 (r 11), .int .i64 (r 12), .int .i64 (r 13), .int .i64 (r 14), .int .i64 (r 15)] : Array Value).toList) 0 w3 := ⟨_, rfl⟩
    have R9 : Hid (Bk w9 w.heap.size [.int .i64 k, .int .i64 (r 1), .int .i64 (r 2), .int .i64 (r 3), .int .i64 (r 4), .int .i64 (r 5), .int .i64 (r 6), .int .i64 (r 7), .int .i64 (r 8), .int .i64 (r 9), .int .i64 (r 10), .int .i64 (r 11), .int .i64 (r 12), .int .i64 (r 13), .int .i64 (r 14), .int .i64 (r 15)]) := by unfold Hid; rw [e9]; exact bk_put (R6.out) rfl
    have B9 : Hid (Below w.heap.size w w9) := by unfold Hid; rw [e9]; exact below_put (by omega) _ _ (B6.out)
    rw [← e9]
    clear e9
    go_wp2
    have hr := fun tmps hp hq => results_mid2 (P := Tryz.prog) (fn := Tryz.f5) Tryz.results5 tmps w9 w.heap.size [.int .i64 k, .int .i64 (r 1), .int .i64 (r 2), .int .i64 (r 3), .int .i64 (r 4), .int .i64 (r 5), .int .i64 (r 6), .int .i64 (r 7), .int .i64 (r 8), .int .i64 (r 9), .int .i64 (r 10), .int .i64 (r 11), .int .i64 (r 12), .int .i64 (r 13), .int .i64 (r 14), .int .i64 (r 15)] _ (.bool true) hp hq (Bk.range R9.out) Tryz.underlying29 rfl (by kernel_rfl)
    exact bodyPost_ret (v := .tuple #[.agg #[.int .i64 k, .int .i64 (r 1), .int .i64 (r 2), .int .i64 (r 3), .int .i64 (r 4), .int .i64 (r 5), .int .i64 (r 6), .int .i64 (r 7), .int .i64 (r 8), .int .i64 (r 9), .int .i64 (r 10), .int .i64 (r 11), .int .i64 (r 12), .int .i64 (r 13), .int .i64 (r 14), .int .i64 (r 15)], .bool true]) (hr _ rfl rfl) rfl ⟨.inl ⟨HT.out, rfl⟩, B9.out⟩
  · have ht2 : ((modText k r).toList == s.toList) = false := by rw [list_eq]; exact decide_eq_false ht
    have HT := hid ht
    clear ht
    go_wp2
    rw [store29_bk (R6.out) rfl _ rfl (by kernel_rfl)]
    obtain ⟨w9, e9⟩ : ∃ y, y = putL w.heap.size ((#[.int .i64 0, .int .i64 0, .int .i64 0, .int .i64 0, .int .i64 0, .int .i64 0, .int .i64 0, .int .i64 0, .int .i64 0, .int .i64 0, .int .i64 0, .int .i64 0, .int .i64 0, .int .i64 0, .int .i64 0, .int .i64 0] : Array Value).toList) 0 w3 := ⟨_, rfl⟩
    have R9 : Hid (Bk w9 w.heap.size [.int .i64 0, .int .i64 0, .int .i64 0, .int .i64 0, .int .i64 0, .int .i64 0, .int .i64 0, .int .i64 0, .int .i64 0, .int .i64 0, .int .i64 0, .int .i64 0, .int .i64 0, .int .i64 0, .int .i64 0, .int .i64 0]) := by unfold Hid; rw [e9]; exact bk_put (R6.out) rfl
    have B9 : Hid (Below w.heap.size w w9) := by unfold Hid; rw [e9]; exact below_put (by omega) _ _ (B6.out)
    rw [← e9]
    clear e9
    go_wp2
    have hr := fun tmps hp hq => results_mid2 (P := Tryz.prog) (fn := Tryz.f5) Tryz.results5 tmps w9 w.heap.size [.int .i64 0, .int .i64 0, .int .i64 0, .int .i64 0, .int .i64 0, .int .i64 0, .int .i64 0, .int .i64 0, .int .i64 0, .int .i64 0, .int .i64 0, .int .i64 0, .int .i64 0, .int .i64 0, .int .i64 0, .int .i64 0] _ (.bool false) hp hq (Bk.range R9.out) Tryz.underlying29 rfl (by kernel_rfl)
    exact bodyPost_ret (v := .tuple #[.agg #[.int .i64 0, .int .i64 0, .int .i64 0, .int .i64 0, .int .i64 0, .int .i64 0, .int .i64 0, .int .i64 0, .int .i64 0, .int .i64 0, .int .i64 0, .int .i64 0, .int .i64 0, .int .i64 0, .int .i64 0, .int .i64 0], .bool false]) (hr _ rfl rfl) rfl ⟨.inr ⟨HT.out, rfl⟩, B9.out⟩
set_option maxHeartbeats 2000000 in
theorem im_empty (s : ByteArray) (hs : s = ⟨#[]⟩) (w : World) :
    Calls Tryz.prog 5 #[.string s] w fun e w' => e = .returned (.tuple #[.agg #[.int .i64 0, .int .i64 0, .int .i64 0, .int .i64 0, .int .i64 0, .int .i64 0, .int .i64 0, .int .i64 0, .int .i64 0, .int .i64 0, .int .i64 0, .int .i64 0, .int .i64 0, .int .i64 0, .int .i64 0, .int .i64 0], .bool false]) ∧ Below w.heap.size w w' := by
  subst hs
  go_enter Tryz.func5, Tryz.ntmps5
  go_wp2
  obtain ⟨w0, e0⟩ : ∃ w0, w0 = w.alloc (.cells #[.int .i64 0, .int .i64 0, .int .i64 0, .int .i64 0, .int .i64 0, .int .i64 0, .int .i64 0, .int .i64 0, .int .i64 0, .int .i64 0, .int .i64 0, .int .i64 0, .int .i64 0, .int .i64 0, .int .i64 0, .int .i64 0] 29) := ⟨_, rfl⟩
  have B1 : Hid (Below w.heap.size w w0) := by rw [e0]; exact (Below.refl _ _).alloc (by simp) _
  have R2 : Hid (Bk w0 w.heap.size [.int .i64 0, .int .i64 0, .int .i64 0, .int .i64 0, .int .i64 0, .int .i64 0, .int .i64 0, .int .i64 0, .int .i64 0, .int .i64 0, .int .i64 0, .int .i64 0, .int .i64 0, .int .i64 0, .int .i64 0, .int .i64 0]) := by rw [e0]; exact bk_new w 29 [.int .i64 0, .int .i64 0, .int .i64 0, .int .i64 0, .int .i64 0, .int .i64 0, .int .i64 0, .int .i64 0, .int .i64 0, .int .i64 0, .int .i64 0, .int .i64 0, .int .i64 0, .int .i64 0, .int .i64 0, .int .i64 0]
  rw [← e0]
  clear e0
  rw [store29_bk (R2.out) rfl _ rfl (by kernel_rfl)]
  obtain ⟨w9, e9⟩ : ∃ y, y = putL w.heap.size ((#[.int .i64 0, .int .i64 0, .int .i64 0, .int .i64 0, .int .i64 0, .int .i64 0, .int .i64 0, .int .i64 0, .int .i64 0, .int .i64 0, .int .i64 0, .int .i64 0, .int .i64 0, .int .i64 0, .int .i64 0, .int .i64 0] : Array Value).toList) 0 w0 := ⟨_, rfl⟩
  have R9 : Hid (Bk w9 w.heap.size [.int .i64 0, .int .i64 0, .int .i64 0, .int .i64 0, .int .i64 0, .int .i64 0, .int .i64 0, .int .i64 0, .int .i64 0, .int .i64 0, .int .i64 0, .int .i64 0, .int .i64 0, .int .i64 0, .int .i64 0, .int .i64 0]) := by unfold Hid; rw [e9]; exact bk_put (R2.out) rfl
  have B9 : Hid (Below w.heap.size w w9) := by unfold Hid; rw [e9]; exact below_put (by omega) _ _ (B1.out)
  rw [← e9]
  clear e9
  go_wp2
  have hr := fun tmps hp hq => results_mid2 (P := Tryz.prog) (fn := Tryz.f5) Tryz.results5 tmps w9 w.heap.size [.int .i64 0, .int .i64 0, .int .i64 0, .int .i64 0, .int .i64 0, .int .i64 0, .int .i64 0, .int .i64 0, .int .i64 0, .int .i64 0, .int .i64 0, .int .i64 0, .int .i64 0, .int .i64 0, .int .i64 0, .int .i64 0] _ (.bool false) hp hq (Bk.range R9.out) Tryz.underlying29 rfl (by kernel_rfl)
  exact bodyPost_ret (v := .tuple #[.agg #[.int .i64 0, .int .i64 0, .int .i64 0, .int .i64 0, .int .i64 0, .int .i64 0, .int .i64 0, .int .i64 0, .int .i64 0, .int .i64 0, .int .i64 0, .int .i64 0, .int .i64 0, .int .i64 0, .int .i64 0, .int .i64 0], .bool false]) (hr _ rfl rfl) rfl ⟨rfl, B9.out⟩
set_option maxHeartbeats 2000000 in
theorem im_long (s : ByteArray) (he : s.toList.isEmpty = false) (hs : (100 : Int) < (s.size : Int)) (w : World) :
    Calls Tryz.prog 5 #[.string s] w fun e w' => e = .returned (.tuple #[.agg #[.int .i64 0, .int .i64 0, .int .i64 0, .int .i64 0, .int .i64 0, .int .i64 0, .int .i64 0, .int .i64 0, .int .i64 0, .int .i64 0, .int .i64 0, .int .i64 0, .int .i64 0, .int .i64 0, .int .i64 0, .int .i64 0], .bool false]) ∧ Below w.heap.size w w' := by
  go_enter Tryz.func5, Tryz.ntmps5
  go_wp2
  obtain ⟨w0, e0⟩ : ∃ w0, w0 = w.alloc (.cells #[.int .i64 0, .int .i64 0, .int .i64 0, .int .i64 0, .int .i64 0, .int .i64 0, .int .i64 0, .int .i64 0, .int .i64 0, .int .i64 0, .int .i64 0, .int .i64 0, .int .i64 0, .int .i64 0, .int .i64 0, .int .i64 0] 29) := ⟨_, rfl⟩
  have B1 : Hid (Below w.heap.size w w0) := by rw [e0]; exact (Below.refl _ _).alloc (by simp) _
  have R2 : Hid (Bk w0 w.heap.size [.int .i64 0, .int .i64 0, .int .i64 0, .int .i64 0, .int .i64 0, .int .i64 0, .int .i64 0, .int .i64 0, .int .i64 0, .int .i64 0, .int .i64 0, .int .i64 0, .int .i64 0, .int .i64 0, .int .i64 0, .int .i64 0]) := by rw [e0]; exact bk_new w 29 [.int .i64 0, .int .i64 0, .int .i64 0, .int .i64 0, .int .i64 0, .int .i64 0, .int .i64 0, .int .i64 0, .int .i64 0, .int .i64 0, .int .i64 0, .int .i64 0, .int .i64 0, .int .i64 0, .int .i64 0, .int .i64 0]
  rw [← e0]
  clear e0
  rw [store29_bk (R2.out) rfl _ rfl (by kernel_rfl)]
  obtain ⟨w9, e9⟩ : ∃ y, y = putL w.heap.size ((#[.int .i64 0, .int .i64 0, .int .i64 0, .int .i64 0, .int .i64 0, .int .i64 0, .int .i64 0, .int .i64 0, .int .i64 0, .int .i64 0, .int .i64 0, .int .i64 0, .int .i64 0, .int .i64 0, .int .i64 0, .int .i64 0] : Array Value).toList) 0 w0 := ⟨_, rfl⟩
  have R9 : Hid (Bk w9 w.heap.size [.int .i64 0, .int .i64 0, .int .i64 0, .int .i64 0, .int .i64 0, .int .i64 0, .int .i64 0, .int .i64 0, .int .i64 0, .int .i64 0, .int .i64 0, .int .i64 0, .int .i64 0, .int .i64 0, .int .i64 0, .int .i64 0]) := by unfold Hid; rw [e9]; exact bk_put (R2.out) rfl
  have B9 : Hid (Below w.heap.size w w9) := by unfold Hid; rw [e9]; exact below_put (by omega) _ _ (B1.out)
  rw [← e9]
  clear e9
  go_wp2
  have hr := fun tmps hp hq => results_mid2 (P := Tryz.prog) (fn := Tryz.f5) Tryz.results5 tmps w9 w.heap.size [.int .i64 0, .int .i64 0, .int .i64 0, .int .i64 0, .int .i64 0, .int .i64 0, .int .i64 0, .int .i64 0, .int .i64 0, .int .i64 0, .int .i64 0, .int .i64 0, .int .i64 0, .int .i64 0, .int .i64 0, .int .i64 0] _ (.bool false) hp hq (Bk.range R9.out) Tryz.underlying29 rfl (by kernel_rfl)
  exact bodyPost_ret (v := .tuple #[.agg #[.int .i64 0, .int .i64 0, .int .i64 0, .int .i64 0, .int .i64 0, .int .i64 0, .int .i64 0, .int .i64 0, .int .i64 0, .int .i64 0, .int .i64 0, .int .i64 0, .int .i64 0, .int .i64 0, .int .i64 0, .int .i64 0], .bool false]) (hr _ rfl rfl) rfl ⟨rfl, B9.out⟩
end Go.Proofs.YtgioecjnghllhaaGreatDoor
