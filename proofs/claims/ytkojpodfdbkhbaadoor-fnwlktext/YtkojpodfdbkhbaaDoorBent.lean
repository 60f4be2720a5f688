/- The walks of l20Bent, l20Maybe and DrawWlkRead: a text is drawn; conditions: the code is a slice of bytes. -/
import Derived.Test.YtkojpodfdbkhbaaDoorAny
import Derived.Test.YtkojpodfdbkhbaaDoorText
import Derived.Laws.Strings
import Derived.Laws.Strings2
namespace Go.Proofs.YtkojpodfdbkhbaaDoor
open Go.RowKit
set_option linter.unusedVariables false

set_option maxRecDepth 20000 in
set_option maxHeartbeats 2000000 in
theorem bent_B {r : Nat} {ad : Option Addr} {len cap : Nat} {m : Int} {s : ByteArray} {w : World} (h : RdB w r ad len cap m) (hm : m ≤ 1000) (hs : s.size ≤ 200) :
    Calls Tryd.prog 26 #[.pointer (some ⟨r, 0, none⟩), .string s] w fun e w' => ∃ t : ByteArray, e = .returned (.string t) ∧ t.size ≤ 400 ∧ Kept r w w' := by
  have H : Hid (RdB w r ad len cap m) := h
  have hrl := h.lt
  clear h
  go_enter Tryd.func26, Tryd.ntmps26
  go_wp2_with fail
  refine (pick_B (n := (s.size : Int) + 1) H.out (by omega)).mono ?_
  rintro e w1 ⟨k0, rfl, hk, R1, K1⟩
  obtain ⟨k, rfl⟩ := Int.eq_ofNat_of_zero_le hk.1
  have hk1 : k ≤ s.size := by have := hk.2.1 (by omega); omega
  have KA : Hid (Kept r w w1) := K1
  clear K1 H hk
  go_wp2_with fail
  refine (pick_B R1 (by omega)).mono ?_
  rintro e w2 ⟨x, rfl, hx, R2, K2⟩
  have KB : Hid (Kept r w w2) := KA.out.trans K2
  have hx0 := hx.1
  have hx1 := hx.2.1 (by decide)
  clear K2 KA R1 hx
  go_wp2_with fail
  refine (pick_B (R2.alloc _) (by omega)).mono ?_
  rintro e w3 ⟨y, rfl, hy, R3, K3⟩
  have KC : Hid (Kept r w w3) := (KB.out.alloc _).trans K3
  have hy0 := hy.1
  have hy1 := hy.2.1 (by decide)
  obtain ⟨z, hcz, hz0, hz1⟩ : ∃ z, w3.cell? ⟨w2.heap.size, y.toNat, none⟩ = some (.int .i64 z) ∧ 0 ≤ z ∧ z < 256 := by
    have hl := (Lits.new [32, 48, 97, 45, 57, 0, x] w2 3).kept K3 (by have := KB.out.size; omega)
    refine ⟨_, hl.2 y hy0 hy1, ?_⟩
    have hall : ∀ u ∈ [32, 48, 97, 45, 57, 0, x], 0 ≤ u ∧ u < 256 := by
      intro u hu
      simp at hu
      omega
    have hlt : y.toNat < [32, 48, 97, 45, 57, 0, x].length := by simp; omega
    rw [List.getD_eq_getElem?_getD, List.getElem?_eq_getElem hlt, Option.getD_some]
    exact hall _ (List.getElem_mem hlt)
  clear K3 KB R2 hy
  have hwr : IntKind.u8.wrap z = z := by simp [IntKind.wrap, IntKind.bits, IntKind.signed]; omega
  have hcv := fun (W : World) => conv1 W z
  go_wp2_with fail
  refine (pick_B (R3.alloc _) (by omega)).mono ?_
  rintro e w4 ⟨q, rfl, hq, R4, K4⟩
  have KD : Hid (Kept r w w4) := (KC.out.alloc _).trans K4
  clear K4 KC R3 hq hcz hcv hwr
  obtain ⟨cb, hcb, hcs⟩ : ∃ cb : ByteArray, cb = ⟨#[UInt8.ofNat z.toNat]⟩ ∧ cb.size = 1 := ⟨_, rfl, rfl⟩
  rw [← hcb]
  clear hcb
  have hki : (k : Int) ≤ (s.size : Int) := by omega
  by_cases hq0 : q = 0
  · subst hq0
    go_wp2_with fail
    go_quiet (fail)
    go_wp2
    go_ret
    exact ⟨_, rfl, by simp only [ByteArray.size_append, ByteArray.size_extract]; omega, KD.out.drewN nq⟩
  · have eq0 : (q == 0) = false := by simpa using hq0
    by_cases hks : k = s.size
    · have hks' : ((k : Int) == (s.size : Int)) = true := by simp [hks]
      have HKS : Hid (k = s.size) := hks
      clear hks
      go_wp2
      go_ret
      exact ⟨_, rfl, by simp only [ByteArray.size_append]; omega, KD.out⟩
    · have hks' : ((k : Int) == (s.size : Int)) = false := by simp; omega
      have hkl : (k : Int) + 1 ≤ (s.size : Int) := by omega
      have hkl' : k + 1 ≤ s.size := by omega
      have hk1' : (0 : Int) ≤ (k : Int) + 1 := by omega
      have htn : ((k : Int) + 1).toNat = k + 1 := by omega
      have hwk : IntKind.i64.wrap ((k : Int) + 1) = (k : Int) + 1 := by rw [IntKind.wrap_i64]; omega
      clear hks
      go_wp2_with fail
      refine (pick_B R4 (by omega)).mono ?_
      rintro e w5 ⟨q2, rfl, hq2, R5, K5⟩
      have KE : Hid (Kept r w w5) := KD.out.trans K5
      clear K5 KD R4 R5 hq2
      by_cases hq3 : q2 = 0
      · subst hq3
        go_wp2_with fail
        go_quiet (fail)
        go_wp2
        go_ret
        exact ⟨_, rfl, by simp only [ByteArray.size_append, ByteArray.size_extract]; omega, KE.out.drewN nq⟩
      · have eq3 : (q2 == 0) = false := by simpa using hq3
        go_wp2_with fail
        go_quiet (fail)
        go_wp2
        go_ret
        exact ⟨_, rfl, by simp only [ByteArray.size_append, ByteArray.size_extract]; omega, KE.out.drewN nq⟩

theorem text_size (i a n s l : Int) : (textOf i a n s l).size ≤ 200 := by
  unfold textOf
  split
  · rename_i g
    obtain ⟨hb, ha⟩ := g
    simp only [boundsB, Bool.and_eq_true, inB_true] at hb
    have ha' := inB_true.1 ha
    obtain ⟨⟨i1, i2⟩, ⟨n1, n2⟩, ⟨s1, s2⟩, l1, l2⟩ := hb
    exact Nat.le_trans (X9_size i a n s l (DD_size i (by omega)) (DD_size a (by omega)) (DD_size n (by omega)) (DD_size s (by omega)) (DD_size l (by omega))) (by decide)
  · exact Nat.zero_le _

set_option maxHeartbeats 1000000 in
theorem maybe_B {r : Nat} {ad : Option Addr} {len cap : Nat} {m : Int} {s : ByteArray} {w : World} (h : RdB w r ad len cap m) (hm : m ≤ 900) (hs : s.size ≤ 200) :
    Calls Tryd.prog 15 #[.pointer (some ⟨r, 0, none⟩), .string s] w fun e w' => ∃ t : ByteArray, e = .returned (.string t) ∧ t.size ≤ 400 ∧ Kept r w w' := by
  have H : Hid (RdB w r ad len cap m) := h
  clear h
  go_enter Tryd.func15, Tryd.ntmps15
  go_wp2_with fail
  refine (pick_B H.out (by omega)).mono ?_
  rintro e w1 ⟨q, rfl, hq, R1, K1⟩
  have KA : Hid (Kept r w w1) := K1
  clear K1 H hq
  by_cases hq0 : q = 0
  · subst hq0
    go_wp2_with fail
    refine (bent_B R1 (by omega) hs).mono ?_
    rintro e w2 ⟨t, rfl, ht, K2⟩
    have KB : Hid (Kept r w w2) := KA.out.trans K2
    clear K2 KA R1
    go_wp2
    go_ret
    exact ⟨_, rfl, ht, KB.out⟩
  · have eq0 : (q == 0) = false := by simpa using hq0
    go_wp2
    go_ret
    exact ⟨_, rfl, by omega, KA.out⟩

set_option maxHeartbeats 1000000 in
theorem draw_read (a : Option Addr) (len cap : Nat) (zs : List Int) (w : World) (h : IsRow w a len cap zs) :
    Calls Tryd.prog 6 #[.slice a len cap] w fun e w' => ∃ t : ByteArray, e = .returned (.string t) ∧ t.size ≤ 400 ∧ Below w.heap.size w w' := by
  have H : Hid (IsRow w a len cap zs) := h
  clear h
  go_enter Tryd.func6, Tryd.ntmps6
  go_wp2_with fail
  refine (open_any a len cap zs _ H.out).mono ?_
  rintro e w1 ⟨rfl, R1, hb1, hs1⟩
  have RB1 : Hid (RdB w1 w.heap.size a (min len 2000) cap 0) := ⟨0, Int.le_refl _, Int.le_refl _, R1⟩
  have B1 : Hid (Below w.heap.size w w1) := hb1
  clear H hb1 R1
  go_wp2_with fail
  refine (walker_B RB1.out (by omega) ⟨by omega, by omega, by omega, by omega⟩).mono ?_
  rintro e w2 ⟨z0, z1, z2, z3, z4, rfl, hs, R2, K2⟩
  have B2 : Hid (Below w.heap.size w w2) := B1.out.trans (K2.below (Nat.le_refl _) (by omega))
  have hz2 : w.heap.size < w2.heap.size := by have := K2.size; omega
  clear K2 B1 RB1 hs
  go_wp2_with fail
  refine (text_spec z0 z1 z2 z3 z4 _).mono ?_
  rintro e w3 ⟨rfl, hb3⟩
  have B3 : Hid (Below w.heap.size w w3) := bthen B2.out hb3
  have R3 : RdB w3 w.heap.size a (min len 2000) cap (0 + 5) := by
    obtain ⟨p, p0, p1, hp⟩ := R2
    exact ⟨p, p0, p1, hp.below (hb3.mono (by omega))⟩
  have hz3 : w.heap.size < w3.heap.size := Nat.lt_of_lt_of_le hz2 hb3.size
  have hts := text_size z0 z1 z2 z3 z4
  generalize textOf z0 z1 z2 z3 z4 = tx at hts ⊢
  clear hb3 B2 R2
  go_wp2_with fail
  refine (maybe_B R3 (by omega) hts).mono ?_
  rintro e w4 ⟨t, rfl, ht, K4⟩
  have B4 : Hid (Below w.heap.size w w4) := B3.out.trans (K4.below (Nat.le_refl _) (by omega))
  clear K4 B3 R3
  go_wp2
  go_ret
  exact ⟨_, rfl, ht, B4.out⟩
end Go.Proofs.YtkojpodfdbkhbaaDoor
