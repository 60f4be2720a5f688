/- The walks of l20Any and DrawWlkText: a walker is drawn, now and then spoilt; conditions: the code is a slice of bytes. -/
import Derived.Test.YtnplclfoeedpjaaLL
namespace Go.Proofs.Ytnplclfoeedpjaa
open Go.RowKit
set_option linter.unusedVariables false

set_option maxRecDepth 20000 in
set_option maxHeartbeats 2000000 in
theorem any_B {r : Nat} {ad : Option Addr} {len cap : Nat} {m c d nn : Int} {w : World} (h : RdB w r ad len cap m) (hm : m ≤ 1000) (hc : MapOut c d) :
    Calls Try.prog 12 #[.pointer (some ⟨r, 0, none⟩), .agg #[.int .i64 c, .int .i64 d], .int .i64 nn] w fun e w' => ∃ z0 z1 z2 z3 z4, e = .returned (.agg #[.int .i64 z0, .int .i64 z1, .int .i64 z2, .int .i64 z3, .int .i64 z4]) ∧ (Small z0 ∧ Small z1 ∧ Small z2 ∧ Small z3 ∧ Small z4) ∧ Kept r w w' := by
  have H : Hid (RdB w r ad len cap m) := h
  have hrl := h.lt
  have HC : Hid (MapOut c d) := hc
  clear h hc
  go_enter Try.func12, Try.ntmps12
  go_wp2_with fail
  refine (walker_B ((H.out.alloc _).alloc _) (by omega) HC.out).mono ?_
  rintro e w1 ⟨z0, z1, z2, z3, z4, rfl, hs, R1, K1⟩
  have KA : Hid (Kept r w w1) := (((Kept.refl r w).alloc _).alloc _).trans K1
  have WA : Hid (Wr5 w1 (w.heap.size + 1)) := by
    refine Wr5.kept (w := (w.alloc _).alloc _) ?_ K1 (by omega)
    intro j hj
    refine ⟨.int .i64 0, ?_⟩
    have h5 : j = 0 ∨ j = 1 ∨ j = 2 ∨ j = 3 ∨ j = 4 := by omega
    rcases h5 with rfl | rfl | rfl | rfl | rfl <;> simp
  have hz1 : w.heap.size + 1 < w1.heap.size := by have := K1.size; simp at this; omega
  have HS : Hid (Small z0 ∧ Small z1 ∧ Small z2 ∧ Small z3 ∧ Small z4) := hs
  clear K1 H hs
  go_wp2_with fail
  refine (pick_B (R1.alloc _) (by omega)).mono ?_
  rintro e w2 ⟨q, rfl, hq, R2, K2⟩
  have KB : Hid (Kept r w w2) := (KA.out.alloc _).trans K2
  have WB : Hid (Wr5 w2 (w.heap.size + 1)) := (WA.out.kept ((Kept.refl r w1).alloc _) (by omega)).kept K2 (by omega)
  have F2 : Five w2 w1.heap.size z0 z1 z2 z3 z4 := Five.stay (w := w1.alloc (.cells #[.int .i64 z0, .int .i64 z1, .int .i64 z2, .int .i64 z3, .int .i64 z4] 25)) ⟨by simp, by simp, by simp, by simp, by simp⟩ (K2.stay (by simp) (by omega))
  have hz2 : w.heap.size + 1 < w2.heap.size := by have := K2.size; simp at this; omega
  obtain ⟨c0, c1, c2, c3, c4⟩ := F2
  clear KA WA R1 K2 hq
  by_cases hq0 : q = 0
  · subst hq0
    go_wp2_with fail
    refine (bad_B R2 (by omega) HS.out).mono ?_
    rintro e w3 ⟨y0, y1, y2, y3, y4, rfl, hy, R3, K3⟩
    have KC : Hid (Kept r w w3) := KB.out.trans K3
    have WC := WB.out.kept K3 (by omega)
    obtain ⟨v0, b0, f0⟩ := WC 0 (by decide)
    obtain ⟨v1, b1, f1⟩ := WC 1 (by decide)
    obtain ⟨v2, b2, f2⟩ := WC 2 (by decide)
    obtain ⟨v3, b3, f3⟩ := WC 3 (by decide)
    obtain ⟨v4, b4, f4⟩ := WC 4 (by decide)
    clear KB WB R2 R3 K3 WC c0 c1 c2 c3 c4
    go_wp2
    refine bodyPost_ret (v := .agg #[.int .i64 y0, .int .i64 y1, .int .i64 y2, .int .i64 y3, .int .i64 y4]) (by simp [results, Try.results12, go_sem, b0, b1, b2, b3, b4]) rfl ⟨y0, y1, y2, y3, y4, rfl, hy, KC.out.p5 (by omega) _ _ _ _ _⟩
  · have eq0 : (q == 0) = false := by simpa using hq0
    obtain ⟨v0, b0, f0⟩ := WB.out 0 (by decide)
    obtain ⟨v1, b1, f1⟩ := WB.out 1 (by decide)
    obtain ⟨v2, b2, f2⟩ := WB.out 2 (by decide)
    obtain ⟨v3, b3, f3⟩ := WB.out 3 (by decide)
    obtain ⟨v4, b4, f4⟩ := WB.out 4 (by decide)
    clear R2
    go_wp2
    refine bodyPost_ret (v := .agg #[.int .i64 z0, .int .i64 z1, .int .i64 z2, .int .i64 z3, .int .i64 z4]) (by simp [results, Try.results12, go_sem, b0, b1, b2, b3, b4]) rfl ⟨z0, z1, z2, z3, z4, rfl, HS.out, KB.out.p5 (by omega) _ _ _ _ _⟩

theorem rowAlloc {w : World} {a : Option Addr} {len cap : Nat} {zs : List Int} (h : IsRow w a len cap zs) (o : Obj) : IsRow (w.alloc o) a len cap zs := by
  rcases h with h | ⟨x, rfl, hl, hm, hz, hc, hw⟩
  · exact .inl h
  · refine .inr ⟨x, rfl, hl, hm, hz, fun i hi => ?_, hw⟩
    have hlt : (x.add i).block < w.heap.size := by
      by_cases g : (x.add i).block < w.heap.size
      · exact g
      · exfalso
        have : w.heap[(x.add i).block]? = none := by simp; omega
        have c := hc i hi
        simp [World.cell?, this] at c
    rw [(bcell' ((Below.refl _ _).alloc (by simp) _) hlt)]; exact hc i hi
theorem IsRow.below {w w' : World} {a : Option Addr} {len cap : Nat} {zs : List Int} (h : IsRow w a len cap zs) (hb : Below w.heap.size w w') : IsRow w' a len cap zs := by
  rcases h with h | ⟨x, rfl, hl, hm, hz, hc, hw⟩
  · exact .inl h
  · refine .inr ⟨x, rfl, hl, hm, hz, fun i hi => ?_, hw⟩
    have hlt : (x.add i).block < w.heap.size := by
      by_cases g : (x.add i).block < w.heap.size
      · exact g
      · exfalso
        have : w.heap[(x.add i).block]? = none := by simp; omega
        have c := hc i hi
        simp [World.cell?, this] at c
    rw [bcell' hb hlt]; exact hc i hi

end Go.Proofs.Ytnplclfoeedpjaa
