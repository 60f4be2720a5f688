/- The walks of l20AnyOrder and DrawOrdOk: an order is drawn, ok or not; conditions: the bytes lie in memory. -/
import Derived.Test.YtmccbbanganjlaaDoorOrdr
namespace Go.Proofs.YtmccbbanganjlaaDoor
open Go.RowKit
set_option linter.unusedVariables false

theorem ord5_new (W : World) (t : TypeId) {z0 z1 z2 z3 z4 : Int} (s0 : Small z0) (s1 : Small z1) (s2 : Small z2) (s3 : Small z3) (s4 : Small z4) : Ord5 (W.alloc (.cells #[.int .i64 z0, .int .i64 z1, .int .i64 z2, .int .i64 z3, .int .i64 z4] t)) W.heap.size := by
  refine ⟨fun i => [z0, z1, z2, z3, z4].getD i 0, fun i hi => ?_⟩
  have : i = 0 ∨ i = 1 ∨ i = 2 ∨ i = 3 ∨ i = 4 := by omega
  rcases this with rfl | rfl | rfl | rfl | rfl
  · exact ⟨s0, by simp, by simp⟩
  · exact ⟨s1, by simp, by simp⟩
  · exact ⟨s2, by simp, by simp⟩
  · exact ⟨s3, by simp, by simp⟩
  · exact ⟨s4, by simp, by simp⟩

set_option maxRecDepth 20000 in
set_option maxHeartbeats 4000000 in
theorem anyOrder_B {r : Nat} {ad : Option Addr} {len cap : Nat} {m n : Int} {w : World} (h : RdB w r ad len cap m) (hm : m ≤ 100000) :
    Calls Tryd.prog 26 #[.pointer (some ⟨r, 0, none⟩), .int .i64 n] w fun e w' => ∃ z0 z1 z2 z3 z4, e = .returned (.agg #[.int .i64 z0, .int .i64 z1, .int .i64 z2, .int .i64 z3, .int .i64 z4]) ∧ (Small z0 ∧ Small z1 ∧ Small z2 ∧ Small z3 ∧ Small z4) ∧ RdB w' r ad len cap (m + 10) ∧ Kept r w w' := by
  have hrl := h.lt
  go_enter Tryd.func26, Tryd.ntmps26
  go_wp2_with fail
  refine (order_B (h.alloc _) hm).mono ?_
  rintro e w1 ⟨x0, x1, x2, x3, x4, rfl, ⟨s0, s1, s2, s3, s4⟩, hR1, hK1⟩
  have R1 : Hid (RdB w1 r ad len cap (m + 6)) := hR1
  have K1 : Hid (Kept r w w1) := ((Kept.refl r w).alloc _).trans hK1
  have W1 : Hid (Wr5 w1 w.heap.size) := (wr5_new w 24).kept hK1 (by omega)
  have hga : w.heap.size < w1.heap.size := by have := hK1.size; simp at this; omega
  clear hR1 hK1 h
  have hrg : r < w1.heap.size := by omega
  go_wp2_with fail
  have KN : Kept r w1 (w1.alloc (.cells #[.int .i64 x0, .int .i64 x1, .int .i64 x2, .int .i64 x3, .int .i64 x4] 24)) := (Kept.refl r w1).alloc _
  refine (pick_B (R1.out.alloc _) (by omega)).mono ?_
  rintro e w2 ⟨p2, rfl, hx2, hR2, hK2⟩
  have R2 : Hid (RdB w2 r ad len cap (m + 7)) := hR2.more (by omega)
  have K2 : Hid (Kept r w w2) := (K1.out.trans KN).trans hK2
  have O2 : Hid (Ord5 w2 w1.heap.size) := Ord5.kept (ord5_new w1 24 s0 s1 s2 s3 s4) hK2 (by omega)
  have W2 : Hid (Wr5 w2 w.heap.size) := (W1.out.kept KN (by omega)).kept hK2 (by omega)
  clear KN hR2 hK2 hx2 R1 K1 W1 s0 s1 s2 s3 s4
  have hr2 : r < w2.heap.size := R2.out.lt
  by_cases hy : 0 < p2
  · obtain ⟨f, hf⟩ := O2.out
    have HF : Hid (∀ i, i < 5 → Small (f i)) := fun i hi => (hf i hi).1
    have c0 := (hf 0 (by decide)).2.1
    have z0 := (hf 0 (by decide)).2.2
    have c1 := (hf 1 (by decide)).2.1
    have z1 := (hf 1 (by decide)).2.2
    have c2 := (hf 2 (by decide)).2.1
    have z2 := (hf 2 (by decide)).2.2
    have c3 := (hf 3 (by decide)).2.1
    have z3 := (hf 3 (by decide)).2.2
    have c4 := (hf 4 (by decide)).2.1
    have z4 := (hf 4 (by decide)).2.2
    obtain ⟨v0, q0, y0⟩ := W2.out 0 (by decide)
    obtain ⟨v1, q1, y1⟩ := W2.out 1 (by decide)
    obtain ⟨v2, q2, y2⟩ := W2.out 2 (by decide)
    obtain ⟨v3, q3, y3⟩ := W2.out 3 (by decide)
    obtain ⟨v4, q4, y4⟩ := W2.out 4 (by decide)
    clear hf
    go_wp2
    refine bodyPost_ret (v := .agg #[.int .i64 (f 0), .int .i64 (f 1), .int .i64 (f 2), .int .i64 (f 3), .int .i64 (f 4)]) (by simp [results, Tryd.results26, go_sem, q0, q1, q2, q3, q4]) rfl ?_
    refine ⟨f 0, f 1, f 2, f 3, f 4, rfl, ⟨HF.out 0 (by decide), HF.out 1 (by decide), HF.out 2 (by decide), HF.out 3 (by decide), HF.out 4 (by decide)⟩, RdB.more (m := m + 7) ?_ (by omega), ?_⟩
    · exact (((((R2.out.set (by omega) _).set (by omega) _).set (by omega) _).set (by omega) _).set (by omega) _)
    · refine Kept.setCell ?_ (.inl (by simp)) _
      refine Kept.setCell ?_ (.inl (by simp)) _
      refine Kept.setCell ?_ (.inl (by simp)) _
      refine Kept.setCell ?_ (.inl (by simp)) _
      refine Kept.setCell ?_ (.inl (by simp)) _
      exact K2.out
  · have KA : Kept r w2 (w2.alloc (.cells #[.int .i64 (-1), .int .i64 0, .int .i64 10, .int .i64 901, .int .i64 7, .int .i64 2] 3)) := (Kept.refl r w2).alloc _
    go_wp2_with fail
    refine (pick_B (R2.out.alloc _) (by omega)).mono ?_
    rintro e w3 ⟨p3, rfl, hx3, hR3, hK3⟩
    have R3 : Hid (RdB w3 r ad len cap (m + 8)) := hR3.more (by omega)
    have K3 : Hid (Kept r w w3) := (K2.out.trans KA).trans hK3
    have O3 : Hid (Ord5 w3 w1.heap.size) := (O2.out.kept KA (by omega)).kept hK3 (by omega)
    have W3 : Hid (Wr5 w3 w.heap.size) := (W2.out.kept KA (by omega)).kept hK3 (by omega)
    have hl := Lits.kept hK3 (Lits.new [-1, 0, 10, 901, 7, 2] w2 3) (by omega)
    have p3l := hx3.1
    have p3h := hx3.2.1 (by decide)
    obtain ⟨zk, hcz, hsz0⟩ : ∃ z, w3.cell? ⟨w2.heap.size, p3.toNat, none⟩ = some (.int .i64 z) ∧ Small z := ⟨_, hl.2 p3 p3l p3h, lits_small _ (by decide)⟩
    have hsz : Hid (Small zk) := hsz0
    clear hl hx3 hR3 hK3 KA R2 K2 O2 W2 hsz0
    go_wp2_with fail
    refine (pick_B R3.out (by omega)).mono ?_
    rintro e w4 ⟨p4, rfl, hx4, hR4, hK4⟩
    have R4 : Hid (RdB w4 r ad len cap (m + 9)) := hR4.more (by omega)
    have K4 : Hid (Kept r w w4) := K3.out.trans hK4
    have O4 : Hid (Ord5 w4 w1.heap.size) := O3.out.kept hK4 (by omega)
    have W4 : Hid (Wr5 w4 w.heap.size) := W3.out.kept hK4 (by omega)
    have p4l := hx4.1
    have p4h := hx4.2.1 (by decide)
    clear hx4 hR4 hK4 R3 K3 O3 W3 hcz
    obtain ⟨f, hf⟩ := O4.out
    have HF : Hid (∀ i, i < 5 → Small (f i)) := fun i hi => (hf i hi).1
    have c0 := (hf 0 (by decide)).2.1
    have z0 := (hf 0 (by decide)).2.2
    have c1 := (hf 1 (by decide)).2.1
    have z1 := (hf 1 (by decide)).2.2
    have c2 := (hf 2 (by decide)).2.1
    have z2 := (hf 2 (by decide)).2.2
    have c3 := (hf 3 (by decide)).2.1
    have z3 := (hf 3 (by decide)).2.2
    have c4 := (hf 4 (by decide)).2.1
    have z4 := (hf 4 (by decide)).2.2
    obtain ⟨v0, q0, y0⟩ := W4.out 0 (by decide)
    obtain ⟨v1, q1, y1⟩ := W4.out 1 (by decide)
    obtain ⟨v2, q2, y2⟩ := W4.out 2 (by decide)
    obtain ⟨v3, q3, y3⟩ := W4.out 3 (by decide)
    obtain ⟨v4, q4, y4⟩ := W4.out 4 (by decide)
    clear hf
    have hx : p4 = 0 ∨ p4 = 1 ∨ p4 = 2 ∨ p4 = 3 ∨ p4 = 4 := by omega
    rcases hx with rfl | rfl | rfl | rfl | rfl
    · go_wp2
      refine bodyPost_ret (v := .agg #[.int .i64 (zk), .int .i64 (f 1), .int .i64 (f 2), .int .i64 (f 3), .int .i64 (f 4)]) (by simp [results, Tryd.results26, go_sem, q0, q1, q2, q3, q4]) rfl ?_
      refine ⟨zk, f 1, f 2, f 3, f 4, rfl, ⟨hsz.out, HF.out 1 (by decide), HF.out 2 (by decide), HF.out 3 (by decide), HF.out 4 (by decide)⟩, RdB.more (m := m + 9) ?_ (by omega), ?_⟩
      · exact ((((((R4.out.set (by omega) _).set (by omega) _).set (by omega) _).set (by omega) _).set (by omega) _).set (by omega) _)
      · refine Kept.setCell ?_ (.inl (by simp)) _
        refine Kept.setCell ?_ (.inl (by simp)) _
        refine Kept.setCell ?_ (.inl (by simp)) _
        refine Kept.setCell ?_ (.inl (by simp)) _
        refine Kept.setCell ?_ (.inl (by simp)) _
        refine Kept.setCell ?_ (.inl (by simp; omega)) _
        exact K4.out
    · go_wp2
      refine bodyPost_ret (v := .agg #[.int .i64 (f 0), .int .i64 (zk), .int .i64 (f 2), .int .i64 (f 3), .int .i64 (f 4)]) (by simp [results, Tryd.results26, go_sem, q0, q1, q2, q3, q4]) rfl ?_
      refine ⟨f 0, zk, f 2, f 3, f 4, rfl, ⟨HF.out 0 (by decide), hsz.out, HF.out 2 (by decide), HF.out 3 (by decide), HF.out 4 (by decide)⟩, RdB.more (m := m + 9) ?_ (by omega), ?_⟩
      · exact ((((((R4.out.set (by omega) _).set (by omega) _).set (by omega) _).set (by omega) _).set (by omega) _).set (by omega) _)
      · refine Kept.setCell ?_ (.inl (by simp)) _
        refine Kept.setCell ?_ (.inl (by simp)) _
        refine Kept.setCell ?_ (.inl (by simp)) _
        refine Kept.setCell ?_ (.inl (by simp)) _
        refine Kept.setCell ?_ (.inl (by simp)) _
        refine Kept.setCell ?_ (.inl (by simp; omega)) _
        exact K4.out
    · go_wp2
      refine bodyPost_ret (v := .agg #[.int .i64 (f 0), .int .i64 (f 1), .int .i64 (zk), .int .i64 (f 3), .int .i64 (f 4)]) (by simp [results, Tryd.results26, go_sem, q0, q1, q2, q3, q4]) rfl ?_
      refine ⟨f 0, f 1, zk, f 3, f 4, rfl, ⟨HF.out 0 (by decide), HF.out 1 (by decide), hsz.out, HF.out 3 (by decide), HF.out 4 (by decide)⟩, RdB.more (m := m + 9) ?_ (by omega), ?_⟩
      · exact ((((((R4.out.set (by omega) _).set (by omega) _).set (by omega) _).set (by omega) _).set (by omega) _).set (by omega) _)
      · refine Kept.setCell ?_ (.inl (by simp)) _
        refine Kept.setCell ?_ (.inl (by simp)) _
        refine Kept.setCell ?_ (.inl (by simp)) _
        refine Kept.setCell ?_ (.inl (by simp)) _
        refine Kept.setCell ?_ (.inl (by simp)) _
        refine Kept.setCell ?_ (.inl (by simp; omega)) _
        exact K4.out
    · go_wp2
      refine bodyPost_ret (v := .agg #[.int .i64 (f 0), .int .i64 (f 1), .int .i64 (f 2), .int .i64 (zk), .int .i64 (f 4)]) (by simp [results, Tryd.results26, go_sem, q0, q1, q2, q3, q4]) rfl ?_
      refine ⟨f 0, f 1, f 2, zk, f 4, rfl, ⟨HF.out 0 (by decide), HF.out 1 (by decide), HF.out 2 (by decide), hsz.out, HF.out 4 (by decide)⟩, RdB.more (m := m + 9) ?_ (by omega), ?_⟩
      · exact ((((((R4.out.set (by omega) _).set (by omega) _).set (by omega) _).set (by omega) _).set (by omega) _).set (by omega) _)
      · refine Kept.setCell ?_ (.inl (by simp)) _
        refine Kept.setCell ?_ (.inl (by simp)) _
        refine Kept.setCell ?_ (.inl (by simp)) _
        refine Kept.setCell ?_ (.inl (by simp)) _
        refine Kept.setCell ?_ (.inl (by simp)) _
        refine Kept.setCell ?_ (.inl (by simp; omega)) _
        exact K4.out
    · go_wp2
      refine bodyPost_ret (v := .agg #[.int .i64 (f 0), .int .i64 (f 1), .int .i64 (f 2), .int .i64 (f 3), .int .i64 (zk)]) (by simp [results, Tryd.results26, go_sem, q0, q1, q2, q3, q4]) rfl ?_
      refine ⟨f 0, f 1, f 2, f 3, zk, rfl, ⟨HF.out 0 (by decide), HF.out 1 (by decide), HF.out 2 (by decide), HF.out 3 (by decide), hsz.out⟩, RdB.more (m := m + 9) ?_ (by omega), ?_⟩
      · exact ((((((R4.out.set (by omega) _).set (by omega) _).set (by omega) _).set (by omega) _).set (by omega) _).set (by omega) _)
      · refine Kept.setCell ?_ (.inl (by simp)) _
        refine Kept.setCell ?_ (.inl (by simp)) _
        refine Kept.setCell ?_ (.inl (by simp)) _
        refine Kept.setCell ?_ (.inl (by simp)) _
        refine Kept.setCell ?_ (.inl (by simp)) _
        refine Kept.setCell ?_ (.inl (by simp; omega)) _
        exact K4.out
end Go.Proofs.YtmccbbanganjlaaDoor
