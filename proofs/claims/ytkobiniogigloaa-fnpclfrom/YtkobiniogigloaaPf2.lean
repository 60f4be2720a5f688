/- The walk of DrawPclListOk: a map, parcels and the next number are drawn; conditions: the code is a slice of bytes. -/
import Derived.Test.YtkobiniogigloaaPf1
import Derived.Test.YtkobiniogigloaaMapB
namespace Go.Proofs.Ytkobiniogigloaa
open Go.RowKit Go.Deep
set_option linter.unusedVariables false

theorem rowAlloc {w : World} {a : Option Addr} {len cap : Nat} {zs : List Int} (h : IsRow w a len cap zs) (o : Obj) : IsRow (w.alloc o) a len cap zs := by
  rcases h with h | ⟨x, rfl, hl, hm, hz, hc, hw⟩
  · exact .inl h
  · refine .inr ⟨x, rfl, hl, hm, hz, fun i hi => ?_, hw⟩
    have hlt : (x.add i).block < w.heap.size := by
      by_cases g : (x.add i).block < w.heap.size
      · exact g
      · exfalso
        have : w.heap[(x.add i).block]? = none := by simp; omega
        have c := hc i hi
        simp [World.cell?, this] at c
    rw [(bcell' ((Below.refl _ _).alloc (by simp) _) hlt)]; exact hc i hi

theorem IsRow.below {w w' : World} {a : Option Addr} {len cap : Nat} {zs : List Int} (h : IsRow w a len cap zs) (hb : Below w.heap.size w w') : IsRow w' a len cap zs := by
  rcases h with h | ⟨x, rfl, hl, hm, hz, hc, hw⟩
  · exact .inl h
  · refine .inr ⟨x, rfl, hl, hm, hz, fun i hi => ?_, hw⟩
    have hlt : (x.add i).block < w.heap.size := by
      by_cases g : (x.add i).block < w.heap.size
      · exact g
      · exfalso
        have : w.heap[(x.add i).block]? = none := by simp; omega
        have c := hc i hi
        simp [World.cell?, this] at c
    rw [bcell' hb hlt]; exact hc i hi


set_option maxRecDepth 20000 in
set_option maxHeartbeats 4000000 in
theorem draw_plist (a : Option Addr) (len cap : Nat) (zs : List Int) (w : World) (h : IsRow w a len cap zs) :
    Calls Try.prog 4 #[.slice a len cap] w fun e w' => ∃ c d v n Z nx, e = .returned (.tuple #[.agg #[.int .i64 c, .int .i64 d], v, .int .i64 nx]) ∧ W8 w' w.heap.size v n Z ∧ n ≤ 3 ∧ (-2 ≤ nx ∧ nx ≤ 5010) ∧ Below w.heap.size w w' := by
  have H : Hid (IsRow w a len cap zs) := h
  clear h
  go_enter Try.func4, Try.ntmps4
  go_wp2_with fail
  refine (open_any a len cap zs _ (rowAlloc H.out _)).mono ?_
  rintro e w1 ⟨rfl, R1, hb1, hs1⟩
  have hs1' : w1.heap.size = w.heap.size + 2 := by rw [hs1]; simp
  have hrw : (w.alloc (.cells #[.int .i64 0, .int .i64 0] 24)).heap.size = w.heap.size + 1 := by simp
  have TA : Hid (Two w1 w.heap.size (.int .i64 0) (.int .i64 0)) := by
    have h0 : Two (w.alloc (.cells #[.int .i64 0, .int .i64 0] 24)) w.heap.size (.int .i64 0) (.int .i64 0) := ⟨by simp, by simp, by simp, by simp⟩
    exact h0.below hb1
  rw [hrw] at R1 ⊢
  have B1 : Below w.heap.size w w1 := bthen ((Below.refl _ _).alloc (Nat.le_refl _) _) hb1
  have RB1 : Hid (RdB w1 (w.heap.size + 1) a (min len 2000) cap 0) := ⟨0, Int.le_refl _, Int.le_refl _, R1⟩
  clear H hb1 R1 hrw hs1
  go_wp2_with fail
  refine (map_B RB1.out (by omega)).mono ?_
  rintro e w2 ⟨c, d, rfl, hm, R2, K2⟩
  have T2 : Hid (Two w2 w.heap.size (.int .i64 0) (.int .i64 0)) := TA.out.kept K2 (by omega)
  have B2 : Hid (Below w.heap.size w w2) := B1.trans (K2.below (by omega) (by omega))
  have hz2 : w.heap.size + 2 ≤ w2.heap.size := by have := K2.size; omega
  have HM : Hid (MapOut c d) := hm
  clear TA K2 B1 RB1 hm
  obtain ⟨w3, e3⟩ : ∃ w3, w3 = w2.alloc (.cells #[.int .i64 c, .int .i64 d] 24) := ⟨_, rfl⟩
  have M3 : Hid (Two w3 w2.heap.size (.int .i64 c) (.int .i64 d)) := by rw [e3]; exact ⟨by simp, by simp, by simp, by simp⟩
  have T3 : Hid (Two w3 w.heap.size (.int .i64 0) (.int .i64 0)) := by rw [e3]; exact T2.out.alloc _
  have B3 : Hid (Below w.heap.size w w3) := by rw [e3]; exact B2.out.alloc (by omega) _
  have R3 : Hid (RdB w3 (w.heap.size + 1) a (min len 2000) cap 10) := by rw [e3]; exact (R2.more (by omega)).alloc _
  have hz3 : w2.heap.size < w3.heap.size := by rw [e3]; simp
  go_upto_region 3 with fail
  rw [← e3]
  clear e3 T2 B2 R2
  obtain ⟨m0, m1, _, _⟩ := M3.out
  go_wp2_with fail
  refine (parcels_B R3.out (by omega) HM.out).mono ?_
  rintro e w4 ⟨v, n, Z, nx, rfl, hW, hn, hS, hnx, K4⟩
  have T4 : Two w4 w.heap.size (.int .i64 0) (.int .i64 0) := T3.out.kept K4 (by omega)
  have M4 : Two w4 w2.heap.size (.int .i64 c) (.int .i64 d) := M3.out.kept K4 (by omega)
  have B4 : Hid (Below w.heap.size w w4) := B3.out.trans (K4.below (by omega) (by omega))
  have V4 : Hid (W8 w4 w3.heap.size v n Z) := hW
  have HN : Hid (-2 ≤ nx ∧ nx ≤ 5010) := hnx
  have V5 : Hid (W8 ((w4.setCell ⟨w.heap.size, 0, none⟩ (.int .i64 c)).setCell ⟨w.heap.size, 1, none⟩ (.int .i64 d)) w.heap.size v n Z) := (V4.out.kept ((set_grown w4 w.heap.size 0 (.int .i64 c)).1.trans (set_grown _ w.heap.size 1 (.int .i64 d)).1) (fun k e => by cases e; omega)).base (by omega)
  have B5 : Hid (Below w.heap.size w ((w4.setCell ⟨w.heap.size, 0, none⟩ (.int .i64 c)).setCell ⟨w.heap.size, 1, none⟩ (.int .i64 d))) := (B4.out.setCell (p := ⟨w.heap.size, 0, none⟩) (Nat.le_refl _) _).setCell (p := ⟨w.heap.size, 1, none⟩) (Nat.le_refl _) _
  obtain ⟨q0, q1, g0, g1⟩ := T4
  obtain ⟨p0, p1, _, _⟩ := M4
  clear K4 hW hS hnx T3 M3 B3 R3 m0 m1 V4 B4
  go_wp2
  refine bodyPost_ret (v := .tuple #[.agg #[.int .i64 c, .int .i64 d], v, .int .i64 nx]) (by simp [results, Try.results4, go_sem, q0, q1]) rfl ⟨c, d, v, n, Z, nx, rfl, V5.out, hn, HN.out, B5.out⟩
end Go.Proofs.Ytkobiniogigloaa
