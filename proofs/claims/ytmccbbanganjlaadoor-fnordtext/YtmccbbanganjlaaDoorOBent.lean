/- The walks of l20Bent, l20Maybe, DrawOrdText and DrawOrdRead: an order and a text are drawn; conditions: the code is a slice of bytes. -/
import Derived.Test.YtmccbbanganjlaaDoorOLaw
import Derived.Test.YtmccbbanganjlaaDoorText
import Derived.Laws.Strings
import Derived.Laws.Strings2
namespace Go.Proofs.YtmccbbanganjlaaDoor
open Go.RowKit
set_option linter.unusedVariables false

set_option maxRecDepth 20000 in
set_option maxHeartbeats 2000000 in
theorem bent_B {r : Nat} {ad : Option Addr} {len cap : Nat} {m : Int} {s : ByteArray} {w : World} (h : RdB w r ad len cap m) (hm : m ≤ 1000) (hs : s.size ≤ 200) :
    Calls Tryd.prog 53 #[.pointer (some ⟨r, 0, none⟩), .string s] w fun e w' => ∃ t : ByteArray, e = .returned (.string t) ∧ t.size ≤ 400 ∧ Kept r w w' := by
  have H : Hid (RdB w r ad len cap m) := h
  have hrl := h.lt
  clear h
  go_enter Tryd.func53, Tryd.ntmps53
  go_wp2_with fail
  refine (pick_B (n := (s.size : Int) + 1) H.out (by omega)).mono ?_
  rintro e w1 ⟨k0, rfl, hk, R1, K1⟩
  obtain ⟨k, rfl⟩ := Int.eq_ofNat_of_zero_le hk.1
  have hk1 : k ≤ s.size := by have := hk.2.1 (by omega); omega
  have KA : Hid (Kept r w w1) := K1
  clear K1 H hk
  go_wp2_with fail
  refine (pick_B R1 (by omega)).mono ?_
  rintro e w2 ⟨x, rfl, hx, R2, K2⟩
  have KB : Hid (Kept r w w2) := KA.out.trans K2
  have hx0 := hx.1
  have hx1 := hx.2.1 (by decide)
  clear K2 KA R1 hx
  go_wp2_with fail
  refine (pick_B (R2.alloc _) (by omega)).mono ?_
  rintro e w3 ⟨y, rfl, hy, R3, K3⟩
  have KC : Hid (Kept r w w3) := (KB.out.alloc _).trans K3
  have hy0 := hy.1
  have hy1 := hy.2.1 (by decide)
  obtain ⟨z, hcz, hz0, hz1⟩ : ∃ z, w3.cell? ⟨w2.heap.size, y.toNat, none⟩ = some (.int .i64 z) ∧ 0 ≤ z ∧ z < 256 := by
    have hl := (Lits.new [32, 48, 97, 45, 57, 0, x] w2 3).kept K3 (by have := KB.out.size; omega)
    refine ⟨_, hl.2 y hy0 hy1, ?_⟩
    have hall : ∀ u ∈ [32, 48, 97, 45, 57, 0, x], 0 ≤ u ∧ u < 256 := by
      intro u hu
      simp at hu
      omega
    have hlt : y.toNat < [32, 48, 97, 45, 57, 0, x].length := by simp; omega
    rw [List.getD_eq_getElem?_getD, List.getElem?_eq_getElem hlt, Option.getD_some]
    exact hall _ (List.getElem_mem hlt)
  clear K3 KB R2 hy
  have hwr : IntKind.u8.wrap z = z := by simp [IntKind.wrap, IntKind.bits, IntKind.signed]; omega
  have hcv := fun (W : World) => conv1 W z
  go_wp2_with fail
  refine (pick_B (R3.alloc _) (by omega)).mono ?_
  rintro e w4 ⟨q, rfl, hq, R4, K4⟩
  have KD : Hid (Kept r w w4) := (KC.out.alloc _).trans K4
  clear K4 KC R3 hq hcz hcv hwr
  obtain ⟨cb, hcb, hcs⟩ : ∃ cb : ByteArray, cb = ⟨#[UInt8.ofNat z.toNat]⟩ ∧ cb.size = 1 := ⟨_, rfl, rfl⟩
  rw [← hcb]
  clear hcb
  have hki : (k : Int) ≤ (s.size : Int) := by omega
  by_cases hq0 : q = 0
  · subst hq0
    go_wp2_with fail
    go_quiet (fail)
    go_wp2
    go_ret
    exact ⟨_, rfl, by simp only [ByteArray.size_append, ByteArray.size_extract]; omega, KD.out.drewN nq⟩
  · have eq0 : (q == 0) = false := by simpa using hq0
    by_cases hks : k = s.size
    · have hks' : ((k : Int) == (s.size : Int)) = true := by simp [hks]
      have HKS : Hid (k = s.size) := hks
      clear hks
      go_wp2
      go_ret
      exact ⟨_, rfl, by simp only [ByteArray.size_append]; omega, KD.out⟩
    · have hks' : ((k : Int) == (s.size : Int)) = false := by simp; omega
      have hkl : (k : Int) + 1 ≤ (s.size : Int) := by omega
      have hkl' : k + 1 ≤ s.size := by omega
      have hk1' : (0 : Int) ≤ (k : Int) + 1 := by omega
      have htn : ((k : Int) + 1).toNat = k + 1 := by omega
      have hwk : IntKind.i64.wrap ((k : Int) + 1) = (k : Int) + 1 := by rw [IntKind.wrap_i64]; omega
      clear hks
      go_wp2_with fail
      refine (pick_B R4 (by omega)).mono ?_
      rintro e w5 ⟨q2, rfl, hq2, R5, K5⟩
      have KE : Hid (Kept r w w5) := KD.out.trans K5
      clear K5 KD R4 R5 hq2
      by_cases hq3 : q2 = 0
      · subst hq3
        go_wp2_with fail
        go_quiet (fail)
        go_wp2
        go_ret
        exact ⟨_, rfl, by simp only [ByteArray.size_append, ByteArray.size_extract]; omega, KE.out.drewN nq⟩
      · have eq3 : (q2 == 0) = false := by simpa using hq3
        go_wp2_with fail
        go_quiet (fail)
        go_wp2
        go_ret
        exact ⟨_, rfl, by simp only [ByteArray.size_append, ByteArray.size_extract]; omega, KE.out.drewN nq⟩

theorem ordText_size (i a n s l : Int) : (ordText i a n s l).size ≤ 200 := by
  by_cases h : (ordText i a n s l).size = 0
  · omega
  · obtain ⟨f, h1, _⟩ := ord_back rfl h
    omega

set_option maxHeartbeats 1000000 in
theorem maybe_B {r : Nat} {ad : Option Addr} {len cap : Nat} {m : Int} {s : ByteArray} {w : World} (h : RdB w r ad len cap m) (hm : m ≤ 900) (hs : s.size ≤ 200) :
    Calls Tryd.prog 30 #[.pointer (some ⟨r, 0, none⟩), .string s] w fun e w' => ∃ t : ByteArray, e = .returned (.string t) ∧ t.size ≤ 400 ∧ Kept r w w' := by
  have H : Hid (RdB w r ad len cap m) := h
  clear h
  go_enter Tryd.func30, Tryd.ntmps30
  go_wp2_with fail
  refine (pick_B H.out (by omega)).mono ?_
  rintro e w1 ⟨q, rfl, hq, R1, K1⟩
  have KA : Hid (Kept r w w1) := K1
  clear K1 H hq
  by_cases hq0 : q = 0
  · subst hq0
    go_wp2_with fail
    refine (bent_B R1 (by omega) hs).mono ?_
    rintro e w2 ⟨t, rfl, ht, K2⟩
    have KB : Hid (Kept r w w2) := KA.out.trans K2
    clear K2 KA R1
    go_wp2
    go_ret
    exact ⟨_, rfl, ht, KB.out⟩
  · have eq0 : (q == 0) = false := by simpa using hq0
    go_wp2
    go_ret
    exact ⟨_, rfl, by omega, KA.out⟩


set_option maxRecDepth 20000 in
set_option maxHeartbeats 2000000 in
theorem draw_ordText (a : Option Addr) (len cap : Nat) (zs : List Int) (w : World) (h : IsRow w a len cap zs) :
    Calls Tryd.prog 9 #[.slice a len cap] w fun e w' => ∃ z0 z1 z2 z3 z4, e = .returned (.agg #[.int .i64 z0, .int .i64 z1, .int .i64 z2, .int .i64 z3, .int .i64 z4]) ∧ (Small z0 ∧ Small z1 ∧ Small z2 ∧ Small z3 ∧ Small z4) ∧ Below w.heap.size w w' := by
  have H : Hid (IsRow w a len cap zs) := h
  clear h
  go_enter Tryd.func9, Tryd.ntmps9
  go_wp2_with fail
  refine (open_any a len cap zs _ (rowAlloc H.out _)).mono ?_
  rintro e w1 ⟨rfl, R1, hb1, hs1⟩
  have hrw : (w.alloc (.cells #[.int .i64 0, .int .i64 0, .int .i64 0, .int .i64 0, .int .i64 0] 24)).heap.size = w.heap.size + 1 := by simp
  have hs1' : w1.heap.size = w.heap.size + 2 := by rw [hs1, hrw]
  rw [hrw] at R1 ⊢
  have B1 : Below w.heap.size w w1 := bthen ((Below.refl _ _).alloc (Nat.le_refl _) _) hb1
  have WA : Hid (Wr5 w1 w.heap.size) := by
    have hb : Below (w.heap.size + 1) (w.alloc (.cells #[.int .i64 0, .int .i64 0, .int .i64 0, .int .i64 0, .int .i64 0] 24)) w1 := by rw [← hrw]; exact hb1
    intro j hj
    refine ⟨.int .i64 0, (hb.cell (p := ⟨w.heap.size, j, none⟩) (by simp)).trans ?_, (hb.frozen (p := ⟨w.heap.size, j, none⟩) (by simp)).trans (by simp)⟩
    have h5 : j = 0 ∨ j = 1 ∨ j = 2 ∨ j = 3 ∨ j = 4 := by omega
    rcases h5 with rfl | rfl | rfl | rfl | rfl <;> simp
  have RB1 : Hid (RdB w1 (w.heap.size + 1) a (min len 2000) cap 0) := ⟨0, Int.le_refl _, Int.le_refl _, R1⟩
  clear H hb1 R1 hrw hs1
  go_wp2_with fail
  refine (anyOrder_B RB1.out (by omega)).mono ?_
  rintro e w2 ⟨z0, z1, z2, z3, z4, rfl, hs, _, K2⟩
  have B2 : Hid (Below w.heap.size w w2) := B1.trans (K2.below (by omega) (by omega))
  have WB := WA.out.kept K2 (by omega)
  obtain ⟨v0, b0, f0⟩ := WB 0 (by decide)
  obtain ⟨v1, b1, f1⟩ := WB 1 (by decide)
  obtain ⟨v2, b2, f2⟩ := WB 2 (by decide)
  obtain ⟨v3, b3, f3⟩ := WB 3 (by decide)
  obtain ⟨v4, b4, f4⟩ := WB 4 (by decide)
  clear WA RB1 K2 B1 WB
  go_wp2
  refine bodyPost_ret (v := .agg #[.int .i64 z0, .int .i64 z1, .int .i64 z2, .int .i64 z3, .int .i64 z4]) (by simp [results, Tryd.results9, go_sem, b0, b1, b2, b3, b4]) rfl ⟨z0, z1, z2, z3, z4, rfl, hs, below_put5c B2.out (Nat.le_refl _) _ _ _ _ _⟩

set_option maxHeartbeats 1000000 in
theorem draw_ordRead (a : Option Addr) (len cap : Nat) (zs : List Int) (w : World) (h : IsRow w a len cap zs) :
    Calls Tryd.prog 11 #[.slice a len cap] w fun e w' => ∃ t : ByteArray, e = .returned (.string t) ∧ t.size ≤ 400 ∧ Below w.heap.size w w' := by
  have H : Hid (IsRow w a len cap zs) := h
  clear h
  go_enter Tryd.func11, Tryd.ntmps11
  go_wp2_with fail
  refine (open_any a len cap zs _ H.out).mono ?_
  rintro e w1 ⟨rfl, R1, hb1, hs1⟩
  have RB1 : Hid (RdB w1 w.heap.size a (min len 2000) cap 0) := ⟨0, Int.le_refl _, Int.le_refl _, R1⟩
  have B1 : Hid (Below w.heap.size w w1) := hb1
  clear H hb1 R1
  go_wp2_with fail
  refine (order_B RB1.out (by omega)).mono ?_
  rintro e w2 ⟨z0, z1, z2, z3, z4, rfl, hs, R2, K2⟩
  have B2 : Hid (Below w.heap.size w w2) := B1.out.trans (K2.below (Nat.le_refl _) (by omega))
  have hz2 : w.heap.size < w2.heap.size := by have := K2.size; omega
  clear K2 B1 RB1 hs
  go_wp2_with fail
  refine (ordText_spec z0 z1 z2 z3 z4 _).mono ?_
  rintro e w3 ⟨rfl, hb3⟩
  have B3 : Hid (Below w.heap.size w w3) := bthen B2.out hb3
  have R3 : RdB w3 w.heap.size a (min len 2000) cap (0 + 6) := by
    obtain ⟨p, p0, p1, hp⟩ := R2
    exact ⟨p, p0, p1, hp.below (hb3.mono (by omega))⟩
  have hz3 : w.heap.size < w3.heap.size := Nat.lt_of_lt_of_le hz2 hb3.size
  have hts := ordText_size z0 z1 z2 z3 z4
  generalize ordText z0 z1 z2 z3 z4 = tx at hts ⊢
  clear hb3 B2 R2
  go_wp2_with fail
  refine (maybe_B R3 (by omega) hts).mono ?_
  rintro e w4 ⟨t, rfl, ht, K4⟩
  have B4 : Hid (Below w.heap.size w w4) := B3.out.trans (K4.below (Nat.le_refl _) (by omega))
  clear K4 B3 R3
  go_wp2
  go_ret
  exact ⟨_, rfl, ht, B4.out⟩
end Go.Proofs.YtmccbbanganjlaaDoor
