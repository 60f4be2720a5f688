/- The walk of l20AnyParcel: a parcel is drawn, now and then spoilt; conditions: the reader lies open. -/
import Derived.Test.YtkobiniogigloaaPar
namespace Go.Proofs.Ytkobiniogigloaa
open Go.RowKit
set_option linter.unusedVariables false

theorem small8 {a0 a1 a2 a3 a4 a5 a6 a7 : Int} (h0 : Small a0) (h1 : Small a1) (h2 : Small a2) (h3 : Small a3) (h4 : Small a4) (h5 : Small a5) (h6 : Small a6) (h7 : Small a7) : ∀ i, i < 8 → Small ([a0, a1, a2, a3, a4, a5, a6, a7].getD i 0) := by
  intro i hi
  have hi8 : i = 0 ∨ i = 1 ∨ i = 2 ∨ i = 3 ∨ i = 4 ∨ i = 5 ∨ i = 6 ∨ i = 7 := by omega
  rcases hi8 with rfl | rfl | rfl | rfl | rfl | rfl | rfl | rfl <;> assumption
theorem smN_new (W : World) (t : TypeId) (f : Nat → Int) (hf : ∀ i, i < 8 → Small (f i)) : SmN 8 (W.alloc (.cells #[.int .i64 (f 0), .int .i64 (f 1), .int .i64 (f 2), .int .i64 (f 3), .int .i64 (f 4), .int .i64 (f 5), .int .i64 (f 6), .int .i64 (f 7)] t)) W.heap.size := by
  refine ⟨f, fun i hi => ⟨hf i hi, ?_⟩⟩
  have hi8 : i = 0 ∨ i = 1 ∨ i = 2 ∨ i = 3 ∨ i = 4 ∨ i = 5 ∨ i = 6 ∨ i = 7 := by omega
  rcases hi8 with rfl | rfl | rfl | rfl | rfl | rfl | rfl | rfl <;> simp

set_option maxRecDepth 20000 in
set_option maxHeartbeats 4000000 in
theorem anyParcel_B {r : Nat} {ad : Option Addr} {len cap : Nat} {m c d nn : Int} {w : World} (h : RdB w r ad len cap m) (hm : m ≤ 900) (hc : MapOut c d) :
    Calls Try.prog 22 #[.pointer (some ⟨r, 0, none⟩), .agg #[.int .i64 c, .int .i64 d], .int .i64 nn] w fun e w' => ∃ f : Nat → Int, e = .returned (.agg #[.int .i64 (f 0), .int .i64 (f 1), .int .i64 (f 2), .int .i64 (f 3), .int .i64 (f 4), .int .i64 (f 5), .int .i64 (f 6), .int .i64 (f 7)]) ∧ (∀ i, i < 8 → Small (f i)) ∧ RdB w' r ad len cap (m + 20) ∧ Kept r w w' := by
  have hrl := h.lt
  have HC : Hid (MapOut c d) := hc
  have H : Hid (RdB w r ad len cap m) := h
  have hw0 : WrN 8 ((w.alloc (.cells #[.int .i64 c, .int .i64 d] 24)).alloc (.cells #[.int .i64 0, .int .i64 0, .int .i64 0, .int .i64 0, .int .i64 0, .int .i64 0, .int .i64 0, .int .i64 0] 43)) (w.heap.size + 1) := by have := wrN_new (w.alloc (.cells #[.int .i64 c, .int .i64 d] 24)) 43 (List.replicate 8 (.int .i64 0)); simpa using this
  have HW : Hid (WrN 8 ((w.alloc (.cells #[.int .i64 c, .int .i64 d] 24)).alloc (.cells #[.int .i64 0, .int .i64 0, .int .i64 0, .int .i64 0, .int .i64 0, .int .i64 0, .int .i64 0, .int .i64 0] 43)) (w.heap.size + 1)) := hw0
  clear h hc hw0
  go_enter Try.func22, Try.ntmps22
  go_wp2_with fail
  refine (parcel_B ((H.out.alloc _).alloc _) (by omega) HC.out).mono ?_
  rintro e w1 ⟨f, rfl, hf, R1, hK1⟩
  have K1 : Hid (Kept r w w1) := (((Kept.refl r w).alloc _).alloc _).trans hK1
  have W1 : Hid (WrN 8 w1 (w.heap.size + 1)) := HW.out.kept hK1 (by omega)
  have hz1 : w.heap.size + 1 < w1.heap.size := by have := hK1.size; simp at this; omega
  have O1 : Hid (SmN 8 (w1.alloc (.cells #[.int .i64 (f 0), .int .i64 (f 1), .int .i64 (f 2), .int .i64 (f 3), .int .i64 (f 4), .int .i64 (f 5), .int .i64 (f 6), .int .i64 (f 7)] 43)) w1.heap.size) := smN_new w1 43 f hf
  clear hK1 HW H hf
  go_wp2_with fail
  refine (pick_B (R1.alloc _) (by omega)).mono ?_
  rintro e w2 ⟨x, rfl, hx, hR2, hK2⟩
  have R2 : Hid (RdB w2 r ad len cap (m + 9)) := hR2.more (by omega)
  have K2 : Hid (Kept r w w2) := (K1.out.alloc _).trans hK2
  have O2 : Hid (SmN 8 w2 w1.heap.size) := O1.out.kept hK2 (by omega)
  have W2 : Hid (WrN 8 w2 (w.heap.size + 1)) := (W1.out.kept ((Kept.refl r w1).alloc _) (by omega)).kept hK2 (by omega)
  have hz2 : w1.heap.size < w2.heap.size := by have := hK2.size; simp at this; omega
  have hr1 : r < w1.heap.size := R1.lt
  clear hR2 hK2 hx R1 K1 O1 W1
  by_cases hx0 : 0 < x
  · obtain ⟨g, hg⟩ := O2.out
    have Hg : Hid (∀ i, i < 8 → Small (g i)) := fun i hi => (hg i hi).1
    have c0 := (hg 0 (by decide)).2.1
    have c1 := (hg 1 (by decide)).2.1
    have c2 := (hg 2 (by decide)).2.1
    have c3 := (hg 3 (by decide)).2.1
    have c4 := (hg 4 (by decide)).2.1
    have c5 := (hg 5 (by decide)).2.1
    have c6 := (hg 6 (by decide)).2.1
    have c7 := (hg 7 (by decide)).2.1
    have z0 := (hg 0 (by decide)).2.2
    have z1 := (hg 1 (by decide)).2.2
    have z2 := (hg 2 (by decide)).2.2
    have z3 := (hg 3 (by decide)).2.2
    have z4 := (hg 4 (by decide)).2.2
    have z5 := (hg 5 (by decide)).2.2
    have z6 := (hg 6 (by decide)).2.2
    have z7 := (hg 7 (by decide)).2.2
    obtain ⟨v0, q0, y0⟩ := W2.out 0 (by decide)
    obtain ⟨v1, q1, y1⟩ := W2.out 1 (by decide)
    obtain ⟨v2, q2, y2⟩ := W2.out 2 (by decide)
    obtain ⟨v3, q3, y3⟩ := W2.out 3 (by decide)
    obtain ⟨v4, q4, y4⟩ := W2.out 4 (by decide)
    obtain ⟨v5, q5, y5⟩ := W2.out 5 (by decide)
    obtain ⟨v6, q6, y6⟩ := W2.out 6 (by decide)
    obtain ⟨v7, q7, y7⟩ := W2.out 7 (by decide)
    clear hg
    go_wp2
    refine bodyPost_ret (v := .agg #[.int .i64 (g 0), .int .i64 (g 1), .int .i64 (g 2), .int .i64 (g 3), .int .i64 (g 4), .int .i64 (g 5), .int .i64 (g 6), .int .i64 (g 7)]) (by simp [results, Try.results22, go_sem, q0, q1, q2, q3, q4, q5, q6, q7]) rfl ⟨fun j => [g 0, g 1, g 2, g 3, g 4, g 5, g 6, g 7].getD j 0, rfl, small8 (Hg.out 0 (by decide)) (Hg.out 1 (by decide)) (Hg.out 2 (by decide)) (Hg.out 3 (by decide)) (Hg.out 4 (by decide)) (Hg.out 5 (by decide)) (Hg.out 6 (by decide)) (Hg.out 7 (by decide)), (R2.out.more (by omega)).puts (l := [.int .i64 (g 0), .int .i64 (g 1), .int .i64 (g 2), .int .i64 (g 3), .int .i64 (g 4), .int .i64 (g 5), .int .i64 (g 6), .int .i64 (g 7)]) (k := 0) (by omega), K2.out.puts (l := [.int .i64 (g 0), .int .i64 (g 1), .int .i64 (g 2), .int .i64 (g 3), .int .i64 (g 4), .int .i64 (g 5), .int .i64 (g 6), .int .i64 (g 7)]) (k := 0) (by omega)⟩
  · go_wp2_with fail
    refine (pick_B R2.out (by omega)).mono ?_
    rintro e w3 ⟨x3, rfl, hx3, hR3, hK3⟩
    have R3 : Hid (RdB w3 r ad len cap (m + 10)) := hR3.more (by omega)
    have K3 : Hid (Kept r w w3) := K2.out.trans hK3
    have O3 : Hid (SmN 8 w3 w1.heap.size) := O2.out.kept hK3 (by omega)
    have W3 : Hid (WrN 8 w3 (w.heap.size + 1)) := W2.out.kept hK3 (by omega)
    have hz3 : w1.heap.size < w3.heap.size := Nat.lt_of_lt_of_le hz2 hK3.size
    have x3l := hx3.1
    have x3h := hx3.2.1 (by decide)
    have hr3 : r < w3.heap.size := R3.out.lt
    clear hR3 hK3 hx3 R2 K2 O2 W2
    have hx : x3 = 0 ∨ x3 = 1 ∨ x3 = 2 ∨ x3 = 3 := by omega
    rcases hx with rfl | rfl | rfl | rfl
    · obtain ⟨g, hg⟩ := O3.out
      have Hg : Hid (∀ i, i < 8 → Small (g i)) := fun i hi => (hg i hi).1
      have c0 := (hg 0 (by decide)).2.1
      have c1 := (hg 1 (by decide)).2.1
      have c2 := (hg 2 (by decide)).2.1
      have c3 := (hg 3 (by decide)).2.1
      have c4 := (hg 4 (by decide)).2.1
      have c5 := (hg 5 (by decide)).2.1
      have c6 := (hg 6 (by decide)).2.1
      have c7 := (hg 7 (by decide)).2.1
      have z0 := (hg 0 (by decide)).2.2
      have z1 := (hg 1 (by decide)).2.2
      have z2 := (hg 2 (by decide)).2.2
      have z3 := (hg 3 (by decide)).2.2
      have z4 := (hg 4 (by decide)).2.2
      have z5 := (hg 5 (by decide)).2.2
      have z6 := (hg 6 (by decide)).2.2
      have z7 := (hg 7 (by decide)).2.2
      obtain ⟨v0, q0, y0⟩ := W3.out 0 (by decide)
      obtain ⟨v1, q1, y1⟩ := W3.out 1 (by decide)
      obtain ⟨v2, q2, y2⟩ := W3.out 2 (by decide)
      obtain ⟨v3, q3, y3⟩ := W3.out 3 (by decide)
      obtain ⟨v4, q4, y4⟩ := W3.out 4 (by decide)
      obtain ⟨v5, q5, y5⟩ := W3.out 5 (by decide)
      obtain ⟨v6, q6, y6⟩ := W3.out 6 (by decide)
      obtain ⟨v7, q7, y7⟩ := W3.out 7 (by decide)
      clear hg
      go_wp2_with fail
      clear c0 z0 q0 y0 c1 z1 q1 y1 c2 z2 q2 y2 c3 z3 q3 y3 c4 z4 q4 y4 c5 z5 q5 y5 c6 z6 q6 y6 c7 z7 q7 y7 Hg
      refine (pick_B (R3.out.alloc _) (by omega)).mono ?_
      rintro e w4 ⟨x4, rfl, hx4, hR4, hK4⟩
      have R4 : Hid (RdB w4 r ad len cap (m + 20)) := hR4.more (by omega)
      have K4 : Hid (Kept r w w4) := (K3.out.alloc _).trans hK4
      have O4 : Hid (SmN 8 w4 w1.heap.size) := (O3.out.kept ((Kept.refl r w3).alloc _) (by omega)).kept hK4 (by omega)
      have W4 : Hid (WrN 8 w4 (w.heap.size + 1)) := (W3.out.kept ((Kept.refl r w3).alloc _) (by omega)).kept hK4 (by omega)
      have l0 : w4.cell? ⟨w3.heap.size, 0, none⟩ = some (.int .i64 (-1)) := ((kcell hK4).1 w3.heap.size 0 (by simp) (by omega)).trans (by simp)
      have l1 : w4.cell? ⟨w3.heap.size, 1, none⟩ = some (.int .i64 (5000)) := ((kcell hK4).1 w3.heap.size 1 (by simp) (by omega)).trans (by simp)
      have x4l := hx4.1
      have x4h := hx4.2.1 (by decide)
      clear hR4 hK4 hx4 R3 K3 O3 W3
      obtain ⟨g, hg⟩ := O4.out
      have Hg : Hid (∀ i, i < 8 → Small (g i)) := fun i hi => (hg i hi).1
      have c0 := (hg 0 (by decide)).2.1
      have c1 := (hg 1 (by decide)).2.1
      have c2 := (hg 2 (by decide)).2.1
      have c3 := (hg 3 (by decide)).2.1
      have c4 := (hg 4 (by decide)).2.1
      have c5 := (hg 5 (by decide)).2.1
      have c6 := (hg 6 (by decide)).2.1
      have c7 := (hg 7 (by decide)).2.1
      have z0 := (hg 0 (by decide)).2.2
      have z1 := (hg 1 (by decide)).2.2
      have z2 := (hg 2 (by decide)).2.2
      have z3 := (hg 3 (by decide)).2.2
      have z4 := (hg 4 (by decide)).2.2
      have z5 := (hg 5 (by decide)).2.2
      have z6 := (hg 6 (by decide)).2.2
      have z7 := (hg 7 (by decide)).2.2
      obtain ⟨v0, q0, y0⟩ := W4.out 0 (by decide)
      obtain ⟨v1, q1, y1⟩ := W4.out 1 (by decide)
      obtain ⟨v2, q2, y2⟩ := W4.out 2 (by decide)
      obtain ⟨v3, q3, y3⟩ := W4.out 3 (by decide)
      obtain ⟨v4, q4, y4⟩ := W4.out 4 (by decide)
      obtain ⟨v5, q5, y5⟩ := W4.out 5 (by decide)
      obtain ⟨v6, q6, y6⟩ := W4.out 6 (by decide)
      obtain ⟨v7, q7, y7⟩ := W4.out 7 (by decide)
      clear hg
      have hx : x4 = 0 ∨ x4 = 1 := by omega
      rcases hx with rfl | rfl
      · go_wp2
        refine bodyPost_ret (v := .agg #[.int .i64 (-1), .int .i64 (g 1), .int .i64 (g 2), .int .i64 (g 3), .int .i64 (g 4), .int .i64 (g 5), .int .i64 (g 6), .int .i64 (g 7)]) (by simp [results, Try.results22, go_sem, q0, q1, q2, q3, q4, q5, q6, q7]) rfl ⟨fun j => [-1, g 1, g 2, g 3, g 4, g 5, g 6, g 7].getD j 0, rfl, small8 (by unfold Small; omega) (Hg.out 1 (by decide)) (Hg.out 2 (by decide)) (Hg.out 3 (by decide)) (Hg.out 4 (by decide)) (Hg.out 5 (by decide)) (Hg.out 6 (by decide)) (Hg.out 7 (by decide)), ((R4.out.set (by omega) _).more (by omega)).puts (l := [.int .i64 (-1), .int .i64 (g 1), .int .i64 (g 2), .int .i64 (g 3), .int .i64 (g 4), .int .i64 (g 5), .int .i64 (g 6), .int .i64 (g 7)]) (k := 0) (by omega), (K4.out.setCell (.inl (by simp; omega)) _).puts (l := [.int .i64 (-1), .int .i64 (g 1), .int .i64 (g 2), .int .i64 (g 3), .int .i64 (g 4), .int .i64 (g 5), .int .i64 (g 6), .int .i64 (g 7)]) (k := 0) (by omega)⟩
      · go_wp2
        refine bodyPost_ret (v := .agg #[.int .i64 (5000), .int .i64 (g 1), .int .i64 (g 2), .int .i64 (g 3), .int .i64 (g 4), .int .i64 (g 5), .int .i64 (g 6), .int .i64 (g 7)]) (by simp [results, Try.results22, go_sem, q0, q1, q2, q3, q4, q5, q6, q7]) rfl ⟨fun j => [5000, g 1, g 2, g 3, g 4, g 5, g 6, g 7].getD j 0, rfl, small8 (by unfold Small; omega) (Hg.out 1 (by decide)) (Hg.out 2 (by decide)) (Hg.out 3 (by decide)) (Hg.out 4 (by decide)) (Hg.out 5 (by decide)) (Hg.out 6 (by decide)) (Hg.out 7 (by decide)), ((R4.out.set (by omega) _).more (by omega)).puts (l := [.int .i64 (5000), .int .i64 (g 1), .int .i64 (g 2), .int .i64 (g 3), .int .i64 (g 4), .int .i64 (g 5), .int .i64 (g 6), .int .i64 (g 7)]) (k := 0) (by omega), (K4.out.setCell (.inl (by simp; omega)) _).puts (l := [.int .i64 (5000), .int .i64 (g 1), .int .i64 (g 2), .int .i64 (g 3), .int .i64 (g 4), .int .i64 (g 5), .int .i64 (g 6), .int .i64 (g 7)]) (k := 0) (by omega)⟩
    · obtain ⟨g, hg⟩ := O3.out
      have Hg : Hid (∀ i, i < 8 → Small (g i)) := fun i hi => (hg i hi).1
      have c0 := (hg 0 (by decide)).2.1
      have c1 := (hg 1 (by decide)).2.1
      have c2 := (hg 2 (by decide)).2.1
      have c3 := (hg 3 (by decide)).2.1
      have c4 := (hg 4 (by decide)).2.1
      have c5 := (hg 5 (by decide)).2.1
      have c6 := (hg 6 (by decide)).2.1
      have c7 := (hg 7 (by decide)).2.1
      have z0 := (hg 0 (by decide)).2.2
      have z1 := (hg 1 (by decide)).2.2
      have z2 := (hg 2 (by decide)).2.2
      have z3 := (hg 3 (by decide)).2.2
      have z4 := (hg 4 (by decide)).2.2
      have z5 := (hg 5 (by decide)).2.2
      have z6 := (hg 6 (by decide)).2.2
      have z7 := (hg 7 (by decide)).2.2
      obtain ⟨v0, q0, y0⟩ := W3.out 0 (by decide)
      obtain ⟨v1, q1, y1⟩ := W3.out 1 (by decide)
      obtain ⟨v2, q2, y2⟩ := W3.out 2 (by decide)
      obtain ⟨v3, q3, y3⟩ := W3.out 3 (by decide)
      obtain ⟨v4, q4, y4⟩ := W3.out 4 (by decide)
      obtain ⟨v5, q5, y5⟩ := W3.out 5 (by decide)
      obtain ⟨v6, q6, y6⟩ := W3.out 6 (by decide)
      obtain ⟨v7, q7, y7⟩ := W3.out 7 (by decide)
      clear hg
      go_wp2_with fail
      clear c0 z0 q0 y0 c1 z1 q1 y1 c2 z2 q2 y2 c3 z3 q3 y3 c4 z4 q4 y4 c5 z5 q5 y5 c6 z6 q6 y6 c7 z7 q7 y7 Hg
      refine (pick_B (R3.out.alloc _) (by omega)).mono ?_
      rintro e w4 ⟨x4, rfl, hx4, hR4, hK4⟩
      have R4 : Hid (RdB w4 r ad len cap (m + 20)) := hR4.more (by omega)
      have K4 : Hid (Kept r w w4) := (K3.out.alloc _).trans hK4
      have O4 : Hid (SmN 8 w4 w1.heap.size) := (O3.out.kept ((Kept.refl r w3).alloc _) (by omega)).kept hK4 (by omega)
      have W4 : Hid (WrN 8 w4 (w.heap.size + 1)) := (W3.out.kept ((Kept.refl r w3).alloc _) (by omega)).kept hK4 (by omega)
      have l0 : w4.cell? ⟨w3.heap.size, 0, none⟩ = some (.int .i64 (0)) := ((kcell hK4).1 w3.heap.size 0 (by simp) (by omega)).trans (by simp)
      have l1 : w4.cell? ⟨w3.heap.size, 1, none⟩ = some (.int .i64 (3)) := ((kcell hK4).1 w3.heap.size 1 (by simp) (by omega)).trans (by simp)
      have l2 : w4.cell? ⟨w3.heap.size, 2, none⟩ = some (.int .i64 (1)) := ((kcell hK4).1 w3.heap.size 2 (by simp) (by omega)).trans (by simp)
      have l3 : w4.cell? ⟨w3.heap.size, 3, none⟩ = some (.int .i64 (2)) := ((kcell hK4).1 w3.heap.size 3 (by simp) (by omega)).trans (by simp)
      have x4l := hx4.1
      have x4h := hx4.2.1 (by decide)
      clear hR4 hK4 hx4 R3 K3 O3 W3
      obtain ⟨g, hg⟩ := O4.out
      have Hg : Hid (∀ i, i < 8 → Small (g i)) := fun i hi => (hg i hi).1
      have c0 := (hg 0 (by decide)).2.1
      have c1 := (hg 1 (by decide)).2.1
      have c2 := (hg 2 (by decide)).2.1
      have c3 := (hg 3 (by decide)).2.1
      have c4 := (hg 4 (by decide)).2.1
      have c5 := (hg 5 (by decide)).2.1
      have c6 := (hg 6 (by decide)).2.1
      have c7 := (hg 7 (by decide)).2.1
      have z0 := (hg 0 (by decide)).2.2
      have z1 := (hg 1 (by decide)).2.2
      have z2 := (hg 2 (by decide)).2.2
      have z3 := (hg 3 (by decide)).2.2
      have z4 := (hg 4 (by decide)).2.2
      have z5 := (hg 5 (by decide)).2.2
      have z6 := (hg 6 (by decide)).2.2
      have z7 := (hg 7 (by decide)).2.2
      obtain ⟨v0, q0, y0⟩ := W4.out 0 (by decide)
      obtain ⟨v1, q1, y1⟩ := W4.out 1 (by decide)
      obtain ⟨v2, q2, y2⟩ := W4.out 2 (by decide)
      obtain ⟨v3, q3, y3⟩ := W4.out 3 (by decide)
      obtain ⟨v4, q4, y4⟩ := W4.out 4 (by decide)
      obtain ⟨v5, q5, y5⟩ := W4.out 5 (by decide)
      obtain ⟨v6, q6, y6⟩ := W4.out 6 (by decide)
      obtain ⟨v7, q7, y7⟩ := W4.out 7 (by decide)
      clear hg
      have hx : x4 = 0 ∨ x4 = 1 ∨ x4 = 2 ∨ x4 = 3 := by omega
      rcases hx with rfl | rfl | rfl | rfl
      · go_wp2
        refine bodyPost_ret (v := .agg #[.int .i64 (g 0), .int .i64 (0), .int .i64 (g 2), .int .i64 (g 3), .int .i64 (g 4), .int .i64 (g 5), .int .i64 (g 6), .int .i64 (g 7)]) (by simp [results, Try.results22, go_sem, q0, q1, q2, q3, q4, q5, q6, q7]) rfl ⟨fun j => [g 0, 0, g 2, g 3, g 4, g 5, g 6, g 7].getD j 0, rfl, small8 (Hg.out 0 (by decide)) (by unfold Small; omega) (Hg.out 2 (by decide)) (Hg.out 3 (by decide)) (Hg.out 4 (by decide)) (Hg.out 5 (by decide)) (Hg.out 6 (by decide)) (Hg.out 7 (by decide)), ((R4.out.set (by omega) _).more (by omega)).puts (l := [.int .i64 (g 0), .int .i64 (0), .int .i64 (g 2), .int .i64 (g 3), .int .i64 (g 4), .int .i64 (g 5), .int .i64 (g 6), .int .i64 (g 7)]) (k := 0) (by omega), (K4.out.setCell (.inl (by simp; omega)) _).puts (l := [.int .i64 (g 0), .int .i64 (0), .int .i64 (g 2), .int .i64 (g 3), .int .i64 (g 4), .int .i64 (g 5), .int .i64 (g 6), .int .i64 (g 7)]) (k := 0) (by omega)⟩
      · go_wp2
        refine bodyPost_ret (v := .agg #[.int .i64 (g 0), .int .i64 (3), .int .i64 (g 2), .int .i64 (g 3), .int .i64 (g 4), .int .i64 (g 5), .int .i64 (g 6), .int .i64 (g 7)]) (by simp [results, Try.results22, go_sem, q0, q1, q2, q3, q4, q5, q6, q7]) rfl ⟨fun j => [g 0, 3, g 2, g 3, g 4, g 5, g 6, g 7].getD j 0, rfl, small8 (Hg.out 0 (by decide)) (by unfold Small; omega) (Hg.out 2 (by decide)) (Hg.out 3 (by decide)) (Hg.out 4 (by decide)) (Hg.out 5 (by decide)) (Hg.out 6 (by decide)) (Hg.out 7 (by decide)), ((R4.out.set (by omega) _).more (by omega)).puts (l := [.int .i64 (g 0), .int .i64 (3), .int .i64 (g 2), .int .i64 (g 3), .int .i64 (g 4), .int .i64 (g 5), .int .i64 (g 6), .int .i64 (g 7)]) (k := 0) (by omega), (K4.out.setCell (.inl (by simp; omega)) _).puts (l := [.int .i64 (g 0), .int .i64 (3), .int .i64 (g 2), .int .i64 (g 3), .int .i64 (g 4), .int .i64 (g 5), .int .i64 (g 6), .int .i64 (g 7)]) (k := 0) (by omega)⟩
      · go_wp2
        refine bodyPost_ret (v := .agg #[.int .i64 (g 0), .int .i64 (1), .int .i64 (g 2), .int .i64 (g 3), .int .i64 (g 4), .int .i64 (g 5), .int .i64 (g 6), .int .i64 (g 7)]) (by simp [results, Try.results22, go_sem, q0, q1, q2, q3, q4, q5, q6, q7]) rfl ⟨fun j => [g 0, 1, g 2, g 3, g 4, g 5, g 6, g 7].getD j 0, rfl, small8 (Hg.out 0 (by decide)) (by unfold Small; omega) (Hg.out 2 (by decide)) (Hg.out 3 (by decide)) (Hg.out 4 (by decide)) (Hg.out 5 (by decide)) (Hg.out 6 (by decide)) (Hg.out 7 (by decide)), ((R4.out.set (by omega) _).more (by omega)).puts (l := [.int .i64 (g 0), .int .i64 (1), .int .i64 (g 2), .int .i64 (g 3), .int .i64 (g 4), .int .i64 (g 5), .int .i64 (g 6), .int .i64 (g 7)]) (k := 0) (by omega), (K4.out.setCell (.inl (by simp; omega)) _).puts (l := [.int .i64 (g 0), .int .i64 (1), .int .i64 (g 2), .int .i64 (g 3), .int .i64 (g 4), .int .i64 (g 5), .int .i64 (g 6), .int .i64 (g 7)]) (k := 0) (by omega)⟩
      · go_wp2
        refine bodyPost_ret (v := .agg #[.int .i64 (g 0), .int .i64 (2), .int .i64 (g 2), .int .i64 (g 3), .int .i64 (g 4), .int .i64 (g 5), .int .i64 (g 6), .int .i64 (g 7)]) (by simp [results, Try.results22, go_sem, q0, q1, q2, q3, q4, q5, q6, q7]) rfl ⟨fun j => [g 0, 2, g 2, g 3, g 4, g 5, g 6, g 7].getD j 0, rfl, small8 (Hg.out 0 (by decide)) (by unfold Small; omega) (Hg.out 2 (by decide)) (Hg.out 3 (by decide)) (Hg.out 4 (by decide)) (Hg.out 5 (by decide)) (Hg.out 6 (by decide)) (Hg.out 7 (by decide)), ((R4.out.set (by omega) _).more (by omega)).puts (l := [.int .i64 (g 0), .int .i64 (2), .int .i64 (g 2), .int .i64 (g 3), .int .i64 (g 4), .int .i64 (g 5), .int .i64 (g 6), .int .i64 (g 7)]) (k := 0) (by omega), (K4.out.setCell (.inl (by simp; omega)) _).puts (l := [.int .i64 (g 0), .int .i64 (2), .int .i64 (g 2), .int .i64 (g 3), .int .i64 (g 4), .int .i64 (g 5), .int .i64 (g 6), .int .i64 (g 7)]) (k := 0) (by omega)⟩
    · obtain ⟨g, hg⟩ := O3.out
      have Hg : Hid (∀ i, i < 8 → Small (g i)) := fun i hi => (hg i hi).1
      have c0 := (hg 0 (by decide)).2.1
      have c1 := (hg 1 (by decide)).2.1
      have c2 := (hg 2 (by decide)).2.1
      have c3 := (hg 3 (by decide)).2.1
      have c4 := (hg 4 (by decide)).2.1
      have c5 := (hg 5 (by decide)).2.1
      have c6 := (hg 6 (by decide)).2.1
      have c7 := (hg 7 (by decide)).2.1
      have z0 := (hg 0 (by decide)).2.2
      have z1 := (hg 1 (by decide)).2.2
      have z2 := (hg 2 (by decide)).2.2
      have z3 := (hg 3 (by decide)).2.2
      have z4 := (hg 4 (by decide)).2.2
      have z5 := (hg 5 (by decide)).2.2
      have z6 := (hg 6 (by decide)).2.2
      have z7 := (hg 7 (by decide)).2.2
      obtain ⟨v0, q0, y0⟩ := W3.out 0 (by decide)
      obtain ⟨v1, q1, y1⟩ := W3.out 1 (by decide)
      obtain ⟨v2, q2, y2⟩ := W3.out 2 (by decide)
      obtain ⟨v3, q3, y3⟩ := W3.out 3 (by decide)
      obtain ⟨v4, q4, y4⟩ := W3.out 4 (by decide)
      obtain ⟨v5, q5, y5⟩ := W3.out 5 (by decide)
      obtain ⟨v6, q6, y6⟩ := W3.out 6 (by decide)
      obtain ⟨v7, q7, y7⟩ := W3.out 7 (by decide)
      clear hg
      go_wp2_with fail
      clear c0 z0 q0 y0 c1 z1 q1 y1 c2 z2 q2 y2 c3 z3 q3 y3 c4 z4 q4 y4 c5 z5 q5 y5 c6 z6 q6 y6 c7 z7 q7 y7
      refine (bad_B R3.out (by omega) ⟨Hg.out 2 (by decide), Hg.out 3 (by decide), Hg.out 4 (by decide), Hg.out 5 (by decide), Hg.out 6 (by decide)⟩).mono ?_
      rintro e w4 ⟨a0, a1, a2, a3, a4, rfl, hy, hR4, hK4⟩
      have R4 : Hid (RdB w4 r ad len cap (m + 20)) := hR4.more (by omega)
      have K4 : Hid (Kept r w w4) := K3.out.trans hK4
      have O4 : Hid (SmN 8 w4 w1.heap.size) := O3.out.kept hK4 (by omega)
      have W4 : Hid (WrN 8 w4 (w.heap.size + 1)) := W3.out.kept hK4 (by omega)
      clear hR4 hK4 R3 K3 O3 W3 Hg
      obtain ⟨u, hu⟩ := O4.out
      have Hu : Hid (∀ i, i < 8 → Small (u i)) := fun i hi => (hu i hi).1
      have c0 := (hu 0 (by decide)).2.1
      have c1 := (hu 1 (by decide)).2.1
      have c2 := (hu 2 (by decide)).2.1
      have c3 := (hu 3 (by decide)).2.1
      have c4 := (hu 4 (by decide)).2.1
      have c5 := (hu 5 (by decide)).2.1
      have c6 := (hu 6 (by decide)).2.1
      have c7 := (hu 7 (by decide)).2.1
      have z0 := (hu 0 (by decide)).2.2
      have z1 := (hu 1 (by decide)).2.2
      have z2 := (hu 2 (by decide)).2.2
      have z3 := (hu 3 (by decide)).2.2
      have z4 := (hu 4 (by decide)).2.2
      have z5 := (hu 5 (by decide)).2.2
      have z6 := (hu 6 (by decide)).2.2
      have z7 := (hu 7 (by decide)).2.2
      obtain ⟨v0, q0, y0⟩ := W4.out 0 (by decide)
      obtain ⟨v1, q1, y1⟩ := W4.out 1 (by decide)
      obtain ⟨v2, q2, y2⟩ := W4.out 2 (by decide)
      obtain ⟨v3, q3, y3⟩ := W4.out 3 (by decide)
      obtain ⟨v4, q4, y4⟩ := W4.out 4 (by decide)
      obtain ⟨v5, q5, y5⟩ := W4.out 5 (by decide)
      obtain ⟨v6, q6, y6⟩ := W4.out 6 (by decide)
      obtain ⟨v7, q7, y7⟩ := W4.out 7 (by decide)
      clear hu
      go_wp2
      refine bodyPost_ret (v := .agg #[.int .i64 (u 0), .int .i64 (u 1), .int .i64 (a0), .int .i64 (a1), .int .i64 (a2), .int .i64 (a3), .int .i64 (a4), .int .i64 (u 7)]) (by simp [results, Try.results22, go_sem, q0, q1, q2, q3, q4, q5, q6, q7]) rfl ⟨fun j => [u 0, u 1, a0, a1, a2, a3, a4, u 7].getD j 0, rfl, small8 (Hu.out 0 (by decide)) (Hu.out 1 (by decide)) hy.1 hy.2.1 hy.2.2.1 hy.2.2.2.1 hy.2.2.2.2 (Hu.out 7 (by decide)), ((((((R4.out.set (by omega) _).set (by omega) _).set (by omega) _).set (by omega) _).set (by omega) _).more (by omega)).puts (l := [.int .i64 (u 0), .int .i64 (u 1), .int .i64 (a0), .int .i64 (a1), .int .i64 (a2), .int .i64 (a3), .int .i64 (a4), .int .i64 (u 7)]) (k := 0) (by omega), (((((K4.out.setCell (.inl (by simp; omega)) _).setCell (.inl (by simp; omega)) _).setCell (.inl (by simp; omega)) _).setCell (.inl (by simp; omega)) _).setCell (.inl (by simp; omega)) _).puts (l := [.int .i64 (u 0), .int .i64 (u 1), .int .i64 (a0), .int .i64 (a1), .int .i64 (a2), .int .i64 (a3), .int .i64 (a4), .int .i64 (u 7)]) (k := 0) (by omega)⟩
    · obtain ⟨g, hg⟩ := O3.out
      have Hg : Hid (∀ i, i < 8 → Small (g i)) := fun i hi => (hg i hi).1
      have c0 := (hg 0 (by decide)).2.1
      have c1 := (hg 1 (by decide)).2.1
      have c2 := (hg 2 (by decide)).2.1
      have c3 := (hg 3 (by decide)).2.1
      have c4 := (hg 4 (by decide)).2.1
      have c5 := (hg 5 (by decide)).2.1
      have c6 := (hg 6 (by decide)).2.1
      have c7 := (hg 7 (by decide)).2.1
      have z0 := (hg 0 (by decide)).2.2
      have z1 := (hg 1 (by decide)).2.2
      have z2 := (hg 2 (by decide)).2.2
      have z3 := (hg 3 (by decide)).2.2
      have z4 := (hg 4 (by decide)).2.2
      have z5 := (hg 5 (by decide)).2.2
      have z6 := (hg 6 (by decide)).2.2
      have z7 := (hg 7 (by decide)).2.2
      obtain ⟨v0, q0, y0⟩ := W3.out 0 (by decide)
      obtain ⟨v1, q1, y1⟩ := W3.out 1 (by decide)
      obtain ⟨v2, q2, y2⟩ := W3.out 2 (by decide)
      obtain ⟨v3, q3, y3⟩ := W3.out 3 (by decide)
      obtain ⟨v4, q4, y4⟩ := W3.out 4 (by decide)
      obtain ⟨v5, q5, y5⟩ := W3.out 5 (by decide)
      obtain ⟨v6, q6, y6⟩ := W3.out 6 (by decide)
      obtain ⟨v7, q7, y7⟩ := W3.out 7 (by decide)
      clear hg
      go_wp2_with fail
      clear c0 z0 q0 y0 c1 z1 q1 y1 c2 z2 q2 y2 c3 z3 q3 y3 c4 z4 q4 y4 c5 z5 q5 y5 c6 z6 q6 y6 c7 z7 q7 y7 Hg
      refine (pick_B (R3.out.alloc _) (by omega)).mono ?_
      rintro e w4 ⟨x4, rfl, hx4, hR4, hK4⟩
      have R4 : Hid (RdB w4 r ad len cap (m + 20)) := hR4.more (by omega)
      have K4 : Hid (Kept r w w4) := (K3.out.alloc _).trans hK4
      have O4 : Hid (SmN 8 w4 w1.heap.size) := (O3.out.kept ((Kept.refl r w3).alloc _) (by omega)).kept hK4 (by omega)
      have W4 : Hid (WrN 8 w4 (w.heap.size + 1)) := (W3.out.kept ((Kept.refl r w3).alloc _) (by omega)).kept hK4 (by omega)
      have l0 : w4.cell? ⟨w3.heap.size, 0, none⟩ = some (.int .i64 (0)) := ((kcell hK4).1 w3.heap.size 0 (by simp) (by omega)).trans (by simp)
      have l1 : w4.cell? ⟨w3.heap.size, 1, none⟩ = some (.int .i64 (10)) := ((kcell hK4).1 w3.heap.size 1 (by simp) (by omega)).trans (by simp)
      have l2 : w4.cell? ⟨w3.heap.size, 2, none⟩ = some (.int .i64 (1)) := ((kcell hK4).1 w3.heap.size 2 (by simp) (by omega)).trans (by simp)
      have l3 : w4.cell? ⟨w3.heap.size, 3, none⟩ = some (.int .i64 (-1)) := ((kcell hK4).1 w3.heap.size 3 (by simp) (by omega)).trans (by simp)
      have x4l := hx4.1
      have x4h := hx4.2.1 (by decide)
      clear hR4 hK4 hx4 R3 K3 O3 W3
      obtain ⟨g, hg⟩ := O4.out
      have Hg : Hid (∀ i, i < 8 → Small (g i)) := fun i hi => (hg i hi).1
      have c0 := (hg 0 (by decide)).2.1
      have c1 := (hg 1 (by decide)).2.1
      have c2 := (hg 2 (by decide)).2.1
      have c3 := (hg 3 (by decide)).2.1
      have c4 := (hg 4 (by decide)).2.1
      have c5 := (hg 5 (by decide)).2.1
      have c6 := (hg 6 (by decide)).2.1
      have c7 := (hg 7 (by decide)).2.1
      have z0 := (hg 0 (by decide)).2.2
      have z1 := (hg 1 (by decide)).2.2
      have z2 := (hg 2 (by decide)).2.2
      have z3 := (hg 3 (by decide)).2.2
      have z4 := (hg 4 (by decide)).2.2
      have z5 := (hg 5 (by decide)).2.2
      have z6 := (hg 6 (by decide)).2.2
      have z7 := (hg 7 (by decide)).2.2
      obtain ⟨v0, q0, y0⟩ := W4.out 0 (by decide)
      obtain ⟨v1, q1, y1⟩ := W4.out 1 (by decide)
      obtain ⟨v2, q2, y2⟩ := W4.out 2 (by decide)
      obtain ⟨v3, q3, y3⟩ := W4.out 3 (by decide)
      obtain ⟨v4, q4, y4⟩ := W4.out 4 (by decide)
      obtain ⟨v5, q5, y5⟩ := W4.out 5 (by decide)
      obtain ⟨v6, q6, y6⟩ := W4.out 6 (by decide)
      obtain ⟨v7, q7, y7⟩ := W4.out 7 (by decide)
      clear hg
      have hx : x4 = 0 ∨ x4 = 1 ∨ x4 = 2 ∨ x4 = 3 := by omega
      rcases hx with rfl | rfl | rfl | rfl
      · go_wp2
        refine bodyPost_ret (v := .agg #[.int .i64 (g 0), .int .i64 (g 1), .int .i64 (g 2), .int .i64 (g 3), .int .i64 (g 4), .int .i64 (g 5), .int .i64 (g 6), .int .i64 (0)]) (by simp [results, Try.results22, go_sem, q0, q1, q2, q3, q4, q5, q6, q7]) rfl ⟨fun j => [g 0, g 1, g 2, g 3, g 4, g 5, g 6, 0].getD j 0, rfl, small8 (Hg.out 0 (by decide)) (Hg.out 1 (by decide)) (Hg.out 2 (by decide)) (Hg.out 3 (by decide)) (Hg.out 4 (by decide)) (Hg.out 5 (by decide)) (Hg.out 6 (by decide)) (by unfold Small; omega), ((R4.out.set (by omega) _).more (by omega)).puts (l := [.int .i64 (g 0), .int .i64 (g 1), .int .i64 (g 2), .int .i64 (g 3), .int .i64 (g 4), .int .i64 (g 5), .int .i64 (g 6), .int .i64 (0)]) (k := 0) (by omega), (K4.out.setCell (.inl (by simp; omega)) _).puts (l := [.int .i64 (g 0), .int .i64 (g 1), .int .i64 (g 2), .int .i64 (g 3), .int .i64 (g 4), .int .i64 (g 5), .int .i64 (g 6), .int .i64 (0)]) (k := 0) (by omega)⟩
      · go_wp2
        refine bodyPost_ret (v := .agg #[.int .i64 (g 0), .int .i64 (g 1), .int .i64 (g 2), .int .i64 (g 3), .int .i64 (g 4), .int .i64 (g 5), .int .i64 (g 6), .int .i64 (10)]) (by simp [results, Try.results22, go_sem, q0, q1, q2, q3, q4, q5, q6, q7]) rfl ⟨fun j => [g 0, g 1, g 2, g 3, g 4, g 5, g 6, 10].getD j 0, rfl, small8 (Hg.out 0 (by decide)) (Hg.out 1 (by decide)) (Hg.out 2 (by decide)) (Hg.out 3 (by decide)) (Hg.out 4 (by decide)) (Hg.out 5 (by decide)) (Hg.out 6 (by decide)) (by unfold Small; omega), ((R4.out.set (by omega) _).more (by omega)).puts (l := [.int .i64 (g 0), .int .i64 (g 1), .int .i64 (g 2), .int .i64 (g 3), .int .i64 (g 4), .int .i64 (g 5), .int .i64 (g 6), .int .i64 (10)]) (k := 0) (by omega), (K4.out.setCell (.inl (by simp; omega)) _).puts (l := [.int .i64 (g 0), .int .i64 (g 1), .int .i64 (g 2), .int .i64 (g 3), .int .i64 (g 4), .int .i64 (g 5), .int .i64 (g 6), .int .i64 (10)]) (k := 0) (by omega)⟩
      · go_wp2
        refine bodyPost_ret (v := .agg #[.int .i64 (g 0), .int .i64 (g 1), .int .i64 (g 2), .int .i64 (g 3), .int .i64 (g 4), .int .i64 (g 5), .int .i64 (g 6), .int .i64 (1)]) (by simp [results, Try.results22, go_sem, q0, q1, q2, q3, q4, q5, q6, q7]) rfl ⟨fun j => [g 0, g 1, g 2, g 3, g 4, g 5, g 6, 1].getD j 0, rfl, small8 (Hg.out 0 (by decide)) (Hg.out 1 (by decide)) (Hg.out 2 (by decide)) (Hg.out 3 (by decide)) (Hg.out 4 (by decide)) (Hg.out 5 (by decide)) (Hg.out 6 (by decide)) (by unfold Small; omega), ((R4.out.set (by omega) _).more (by omega)).puts (l := [.int .i64 (g 0), .int .i64 (g 1), .int .i64 (g 2), .int .i64 (g 3), .int .i64 (g 4), .int .i64 (g 5), .int .i64 (g 6), .int .i64 (1)]) (k := 0) (by omega), (K4.out.setCell (.inl (by simp; omega)) _).puts (l := [.int .i64 (g 0), .int .i64 (g 1), .int .i64 (g 2), .int .i64 (g 3), .int .i64 (g 4), .int .i64 (g 5), .int .i64 (g 6), .int .i64 (1)]) (k := 0) (by omega)⟩
      · go_wp2
        refine bodyPost_ret (v := .agg #[.int .i64 (g 0), .int .i64 (g 1), .int .i64 (g 2), .int .i64 (g 3), .int .i64 (g 4), .int .i64 (g 5), .int .i64 (g 6), .int .i64 (-1)]) (by simp [results, Try.results22, go_sem, q0, q1, q2, q3, q4, q5, q6, q7]) rfl ⟨fun j => [g 0, g 1, g 2, g 3, g 4, g 5, g 6, -1].getD j 0, rfl, small8 (Hg.out 0 (by decide)) (Hg.out 1 (by decide)) (Hg.out 2 (by decide)) (Hg.out 3 (by decide)) (Hg.out 4 (by decide)) (Hg.out 5 (by decide)) (Hg.out 6 (by decide)) (by unfold Small; omega), ((R4.out.set (by omega) _).more (by omega)).puts (l := [.int .i64 (g 0), .int .i64 (g 1), .int .i64 (g 2), .int .i64 (g 3), .int .i64 (g 4), .int .i64 (g 5), .int .i64 (g 6), .int .i64 (-1)]) (k := 0) (by omega), (K4.out.setCell (.inl (by simp; omega)) _).puts (l := [.int .i64 (g 0), .int .i64 (g 1), .int .i64 (g 2), .int .i64 (g 3), .int .i64 (g 4), .int .i64 (g 5), .int .i64 (g 6), .int .i64 (-1)]) (k := 0) (by omega)⟩
end Go.Proofs.Ytkobiniogigloaa
