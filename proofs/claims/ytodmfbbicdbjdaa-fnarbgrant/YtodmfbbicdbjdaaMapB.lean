/- The walk of l20Map: a map is drawn; conditions: the reader lies open. -/
import Derived.Test.YtodmfbbicdbjdaaDraw2
namespace Go.Proofs.Ytodmfbbicdbjdaa
open Go.RowKit
set_option linter.unusedVariables false

set_option maxHeartbeats 1000000 in
theorem map_any (r : Nat) (a : Option Addr) (len cap : Nat) (p : Int) (w : World) (h : Rd w r a len cap p) (h0 : 0 ≤ p) (h1 : p ≤ 100000) (hr : r < w.heap.size) :
    Calls Try.prog 26 #[.pointer (some ⟨r, 0, none⟩)] w fun e w' => ∃ c d q, e = .returned (.agg #[.int .i64 c, .int .i64 d]) ∧ MapOut c d ∧ 0 ≤ q ∧ q ≤ p + 4 ∧ Rd w' r a len cap q ∧ Kept r w w' := by
  have H : Hid (Rd w r a len cap p) := h
  have hne : ¬ w.heap.size = r := by omega
  clear h
  go_enter Try.func26, Try.ntmps26
  go_wp2_with fail
  refine (pick_kept r a len cap p 3 _ (H.out.alloc hr _) h0 (by omega)).mono ?_
  rintro e w1 ⟨x, rfl, ⟨x0, x1, _⟩, R1, K1⟩
  have x2 := x1 (by decide)
  have T1 := K1.two (b := w.heap.size) (by simp) hne (u := .int .i64 0) (v := .int .i64 0) (by simp)
  have hz1 : w.heap.size < w1.heap.size := by have := K1.size; simp at this; omega
  clear x1
  go_wp2_with fail
  refine (pick_kept r a len cap (p + 1) 3 _ R1 (by omega) (by omega)).mono ?_
  rintro e w2 ⟨y, rfl, ⟨y0, y1, _⟩, R2, K2⟩
  have y2 := y1 (by decide)
  have T2 := K2.two hz1 hne T1
  have hz2 : w.heap.size < w2.heap.size := by have := K2.size; omega
  have hne2 : ¬ w2.heap.size = r := by omega
  clear y1 T1
  go_wp2_with fail
  refine (pick_kept r a len cap (p + 1 + 1) 24 _ (R2.alloc (by omega) _) (by omega) (by omega)).mono ?_
  rintro e w3 ⟨v, rfl, ⟨v0, v1, _⟩, R3, K3⟩
  have v2 := v1 (by decide)
  have K2a : Kept r w2 w3 := ((Kept.refl r w2).alloc _).trans K3
  have T3 := K2a.two hz2 hne T2
  have M3 := K3.two (b := w2.heap.size) (by simp) hne2 (u := .int .i64 (2 + x)) (v := .int .i64 (2 + y)) (by simp)
  have hz3 : w2.heap.size < w3.heap.size := by have := K3.size; simp at this; omega
  have hne3 : ¬ w3.heap.size = r := by omega
  have hnw : ¬ w2.heap.size = w.heap.size := by omega
  have K : Hid (Kept r w w3) := (((Kept.refl r w).alloc _).trans (K1.trans K2)).trans K2a
  clear v1 T2
  by_cases g0 : v = 0
  · subst g0
    go_wp2_with fail
    refine (pick_kept r a len cap (p + 1 + 1 + 1) 4 _ (R3.alloc (by omega) _) (by omega) (by omega)).mono ?_
    rintro e w4 ⟨u, rfl, ⟨u0, u1, _⟩, R4, K4⟩
    have u2 := u1 (by decide)
    have K3a : Kept r w3 w4 := ((Kept.refl r w3).alloc _).trans K4
    have T4 := K3a.two (b := w.heap.size) (by omega) hne T3
    have M4 := K3a.two hz3 hne2 M3
    have hz4 : w3.heap.size < w4.heap.size := by have := K4.size; simp at this; omega
    clear u1 T3 M3
    obtain ⟨z, b4, z0, z1⟩ := litCell [0, 1, 5, -1] K4 hne3 u0 u2 (lo := -1) (hi := 5) (by decide)
    go_wp2
    refine bodyPost_ret (v := .agg #[.int .i64 z, .int .i64 (2 + y)]) (by simp [results, Try.results26, go_sem, T4]) rfl ⟨_, _, _, rfl, ⟨by omega, by omega, by omega, by omega⟩, ?_, ?_, R4.below ((((Below.refl _ _).setCell ?_ _).setCell ?_ _).setCell ?_ _), (((K.out.trans K3a).setCell ?_ _).setCell ?_ _).setCell ?_ _⟩
    all_goals (first | omega | (simp; done) | (simp; omega))
  · have e0 : (v == 0) = false := by simpa using g0
    by_cases g1 : v = 1
    · subst g1
      go_wp2_with fail
      refine (pick_kept r a len cap (p + 1 + 1 + 1) 4 _ (R3.alloc (by omega) _) (by omega) (by omega)).mono ?_
      rintro e w4 ⟨u, rfl, ⟨u0, u1, _⟩, R4, K4⟩
      have u2 := u1 (by decide)
      have K3a : Kept r w3 w4 := ((Kept.refl r w3).alloc _).trans K4
      have T4 := K3a.two (b := w.heap.size) (by omega) hne T3
      have M4 := K3a.two hz3 hne2 M3
      have hz4 : w3.heap.size < w4.heap.size := by have := K4.size; simp at this; omega
      clear u1 T3 M3
      obtain ⟨z, b4, z0, z1⟩ := litCell [0, 1, 9, 8] K4 hne3 u0 u2 (lo := 0) (hi := 9) (by decide)
      go_wp2
      refine bodyPost_ret (v := .agg #[.int .i64 (2 + x), .int .i64 z]) (by simp [results, Try.results26, go_sem, T4]) rfl ⟨_, _, _, rfl, ⟨by omega, by omega, by omega, by omega⟩, ?_, ?_, R4.below ((((Below.refl _ _).setCell ?_ _).setCell ?_ _).setCell ?_ _), (((K.out.trans K3a).setCell ?_ _).setCell ?_ _).setCell ?_ _⟩
      all_goals (first | omega | (simp; done) | (simp; omega))
    · have e1 : (v == 1) = false := by simpa using g1
      go_wp2
      refine bodyPost_ret (v := .agg #[.int .i64 (2 + x), .int .i64 (2 + y)]) (by simp [results, Try.results26, go_sem, T3]) rfl ⟨_, _, _, rfl, ⟨by omega, by omega, by omega, by omega⟩, ?_, ?_, R3.below (((Below.refl _ _).setCell ?_ _).setCell ?_ _), ((K.out).setCell ?_ _).setCell ?_ _⟩
      all_goals (first | omega | (simp; done) | (simp; omega))

theorem map_B {r : Nat} {a : Option Addr} {len cap : Nat} {m : Int} {w : World} (h : RdB w r a len cap m) (hm : m ≤ 100000) :
    Calls Try.prog 26 #[.pointer (some ⟨r, 0, none⟩)] w fun e w' => ∃ c d, e = .returned (.agg #[.int .i64 c, .int .i64 d]) ∧ MapOut c d ∧ RdB w' r a len cap (m + 4) ∧ Kept r w w' := by
  obtain ⟨p, h0, h1, h⟩ := h
  refine (map_any r a len cap p w h h0 (by omega) h.lt).mono ?_
  rintro e w' ⟨c, d, q, rfl, hx, q0, q1, R, K⟩
  exact ⟨c, d, rfl, hx, ⟨q, q0, by omega, R⟩, K⟩

end Go.Proofs.Ytodmfbbicdbjdaa
