/- The walks of l20Bent, l20Maybe, DrawPclText and DrawPclRead: a parcel and a text are drawn; conditions: the code is a slice of bytes. -/
import Derived.Test.YtpfemjenhnnfmaaDoorAnyP
import Derived.Test.YtpfemjenhnnfmaaDoorPReadLaw
import Derived.Test.YtpfemjenhnnfmaaDoorText
import Derived.Laws.Strings
import Derived.Laws.Strings2
namespace Go.Proofs.YtpfemjenhnnfmaaDoor
open Go.RowKit
set_option linter.unusedVariables false
set_option maxRecDepth 20000

set_option maxHeartbeats 2000000 in
theorem bent_B {r : Nat} {ad : Option Addr} {len cap : Nat} {m : Int} {s : ByteArray} {w : World} (h : RdB w r ad len cap m) (hm : m ≤ 1000) (hs : s.size ≤ 200) :
    Calls Tryd.prog 29 #[.pointer (some ⟨r, 0, none⟩), .string s] w fun e w' => ∃ t : ByteArray, e = .returned (.string t) ∧ t.size ≤ 400 ∧ Kept r w w' := by
  have H : Hid (RdB w r ad len cap m) := h
  have hrl := h.lt
  clear h
  go_enter Tryd.func29, Tryd.ntmps29
  go_wp2_with fail
  refine (pick_B (n := (s.size : Int) + 1) H.out (by omega)).mono ?_
  rintro e w1 ⟨k0, rfl, hk, R1, K1⟩
  obtain ⟨k, rfl⟩ := Int.eq_ofNat_of_zero_le hk.1
  have hk1 : k ≤ s.size := by have := hk.2.1 (by omega); omega
  have KA : Hid (Kept r w w1) := K1
  clear K1 H hk
  go_wp2_with fail
  refine (pick_B R1 (by omega)).mono ?_
  rintro e w2 ⟨x, rfl, hx, R2, K2⟩
  have KB : Hid (Kept r w w2) := KA.out.trans K2
  have hx0 := hx.1
  have hx1 := hx.2.1 (by decide)
  clear K2 KA R1 hx
  go_wp2_with fail
  refine (pick_B (R2.alloc _) (by omega)).mono ?_
  rintro e w3 ⟨y, rfl, hy, R3, K3⟩
  have KC : Hid (Kept r w w3) := (KB.out.alloc _).trans K3
  have hy0 := hy.1
  have hy1 := hy.2.1 (by decide)
  obtain ⟨z, hcz, hz0, hz1⟩ : ∃ z, w3.cell? ⟨w2.heap.size, y.toNat, none⟩ = some (.int .i64 z) ∧ 0 ≤ z ∧ z < 256 := by
    have hl := (Lits.new [32, 48, 97, 45, 57, 0, x] w2 3).kept K3 (by have := KB.out.size; omega)
    refine ⟨_, hl.2 y hy0 hy1, ?_⟩
    have hall : ∀ u ∈ [32, 48, 97, 45, 57, 0, x], 0 ≤ u ∧ u < 256 := by
      intro u hu
      simp at hu
      omega
    have hlt : y.toNat < [32, 48, 97, 45, 57, 0, x].length := by simp; omega
    rw [List.getD_eq_getElem?_getD, List.getElem?_eq_getElem hlt, Option.getD_some]
    exact hall _ (List.getElem_mem hlt)
  clear K3 KB R2 hy
  have hwr : IntKind.u8.wrap z = z := by simp [IntKind.wrap, IntKind.bits, IntKind.signed]; omega
  have hcv := fun (W : World) => conv1 W z
  go_wp2_with fail
  refine (pick_B (R3.alloc _) (by omega)).mono ?_
  rintro e w4 ⟨q, rfl, hq, R4, K4⟩
  have KD : Hid (Kept r w w4) := (KC.out.alloc _).trans K4
  clear K4 KC R3 hq hcz hcv hwr
  obtain ⟨cb, hcb, hcs⟩ : ∃ cb : ByteArray, cb = ⟨#[UInt8.ofNat z.toNat]⟩ ∧ cb.size = 1 := ⟨_, rfl, rfl⟩
  rw [← hcb]
  clear hcb
  have hki : (k : Int) ≤ (s.size : Int) := by omega
  by_cases hq0 : q = 0
  · subst hq0
    go_wp2_with fail
    go_quiet (fail)
    go_wp2
    go_ret
    exact ⟨_, rfl, by simp only [ByteArray.size_append, ByteArray.size_extract]; omega, KD.out.drewN nq⟩
  · have eq0 : (q == 0) = false := by simpa using hq0
    by_cases hks : k = s.size
    · have hks' : ((k : Int) == (s.size : Int)) = true := by simp [hks]
      have HKS : Hid (k = s.size) := hks
      clear hks
      go_wp2
      go_ret
      exact ⟨_, rfl, by simp only [ByteArray.size_append]; omega, KD.out⟩
    · have hks' : ((k : Int) == (s.size : Int)) = false := by simp; omega
      have hkl : (k : Int) + 1 ≤ (s.size : Int) := by omega
      have hkl' : k + 1 ≤ s.size := by omega
      have hk1' : (0 : Int) ≤ (k : Int) + 1 := by omega
      have htn : ((k : Int) + 1).toNat = k + 1 := by omega
      have hwk : IntKind.i64.wrap ((k : Int) + 1) = (k : Int) + 1 := by rw [IntKind.wrap_i64]; omega
      clear hks
      go_wp2_with fail
      refine (pick_B R4 (by omega)).mono ?_
      rintro e w5 ⟨q2, rfl, hq2, R5, K5⟩
      have KE : Hid (Kept r w w5) := KD.out.trans K5
      clear K5 KD R4 R5 hq2
      by_cases hq3 : q2 = 0
      · subst hq3
        go_wp2_with fail
        go_quiet (fail)
        go_wp2
        go_ret
        exact ⟨_, rfl, by simp only [ByteArray.size_append, ByteArray.size_extract]; omega, KE.out.drewN nq⟩
      · have eq3 : (q2 == 0) = false := by simpa using hq3
        go_wp2_with fail
        go_quiet (fail)
        go_wp2
        go_ret
        exact ⟨_, rfl, by simp only [ByteArray.size_append, ByteArray.size_extract]; omega, KE.out.drewN nq⟩

theorem rowAlloc {w : World} {a : Option Addr} {len cap : Nat} {zs : List Int} (h : IsRow w a len cap zs) (o : Obj) : IsRow (w.alloc o) a len cap zs := by
  rcases h with h | ⟨x, rfl, hl, hm, hz, hc, hw⟩
  · exact .inl h
  · refine .inr ⟨x, rfl, hl, hm, hz, fun i hi => ?_, hw⟩
    have hlt : (x.add i).block < w.heap.size := by
      by_cases g : (x.add i).block < w.heap.size
      · exact g
      · exfalso
        have : w.heap[(x.add i).block]? = none := by simp; omega
        have c := hc i hi
        simp [World.cell?, this] at c
    rw [(bcell' ((Below.refl _ _).alloc (by simp) _) hlt)]; exact hc i hi

theorem IsRow.below {w w' : World} {a : Option Addr} {len cap : Nat} {zs : List Int} (h : IsRow w a len cap zs) (hb : Below w.heap.size w w') : IsRow w' a len cap zs := by
  rcases h with h | ⟨x, rfl, hl, hm, hz, hc, hw⟩
  · exact .inl h
  · refine .inr ⟨x, rfl, hl, hm, hz, fun i hi => ?_, hw⟩
    have hlt : (x.add i).block < w.heap.size := by
      by_cases g : (x.add i).block < w.heap.size
      · exact g
      · exfalso
        have : w.heap[(x.add i).block]? = none := by simp; omega
        have c := hc i hi
        simp [World.cell?, this] at c
    rw [bcell' hb hlt]; exact hc i hi

theorem pclText_size (f : Nat → Int) : (pclText (f 0) (f 1) (f 2) (f 3) (f 4) (f 5) (f 6) (f 7)).size ≤ 200 := by
  by_cases h : (pclText (f 0) (f 1) (f 2) (f 3) (f 4) (f 5) (f 6) (f 7)).size = 0
  · omega
  · have := (iP_back (P := ⟨f 0, f 1, f 2, f 3, f 4, f 5, f 6, f 7⟩) (s := pclText (f 0) (f 1) (f 2) (f 3) (f 4) (f 5) (f 6) (f 7)) rfl h).2
    omega

set_option maxHeartbeats 1000000 in
theorem maybe_B {r : Nat} {ad : Option Addr} {len cap : Nat} {m : Int} {s : ByteArray} {w : World} (h : RdB w r ad len cap m) (hm : m ≤ 900) (hs : s.size ≤ 200) :
    Calls Tryd.prog 14 #[.pointer (some ⟨r, 0, none⟩), .string s] w fun e w' => ∃ t : ByteArray, e = .returned (.string t) ∧ t.size ≤ 400 ∧ Kept r w w' := by
  have H : Hid (RdB w r ad len cap m) := h
  clear h
  go_enter Tryd.func14, Tryd.ntmps14
  go_wp2_with fail
  refine (pick_B H.out (by omega)).mono ?_
  rintro e w1 ⟨q, rfl, hq, R1, K1⟩
  have KA : Hid (Kept r w w1) := K1
  clear K1 H hq
  by_cases hq0 : q = 0
  · subst hq0
    go_wp2_with fail
    refine (bent_B R1 (by omega) hs).mono ?_
    rintro e w2 ⟨t, rfl, ht, K2⟩
    have KB : Hid (Kept r w w2) := KA.out.trans K2
    clear K2 KA R1
    go_wp2
    go_ret
    exact ⟨_, rfl, ht, KB.out⟩
  · have eq0 : (q == 0) = false := by simpa using hq0
    go_wp2
    go_ret
    exact ⟨_, rfl, by omega, KA.out⟩


set_option maxHeartbeats 2000000 in
theorem draw_pclText (a : Option Addr) (len cap : Nat) (zs : List Int) (w : World) (h : IsRow w a len cap zs) :
    Calls Tryd.prog 4 #[.slice a len cap] w fun e w' => ∃ f : Nat → Int, e = .returned (.agg #[.int .i64 (f 0), .int .i64 (f 1), .int .i64 (f 2), .int .i64 (f 3), .int .i64 (f 4), .int .i64 (f 5), .int .i64 (f 6), .int .i64 (f 7)]) ∧ Below w.heap.size w w' := by
  have H : Hid (IsRow w a len cap zs) := h
  clear h
  go_enter Tryd.func4, Tryd.ntmps4
  go_wp2_with fail
  refine (open_any a len cap zs _ (rowAlloc H.out _)).mono ?_
  rintro e w1 ⟨rfl, R1, hb1, hs1⟩
  have hrw : (w.alloc (.cells #[.int .i64 0, .int .i64 0, .int .i64 0, .int .i64 0, .int .i64 0, .int .i64 0, .int .i64 0, .int .i64 0] 26)).heap.size = w.heap.size + 1 := by simp
  have hs1' : w1.heap.size = w.heap.size + 2 := by rw [hs1, hrw]
  have hwr : WrN 8 (w.alloc (.cells #[.int .i64 0, .int .i64 0, .int .i64 0, .int .i64 0, .int .i64 0, .int .i64 0, .int .i64 0, .int .i64 0] 26)) w.heap.size := by have := wrN_new w 26 (List.replicate 8 (.int .i64 0)); simpa using this
  have WA : Hid (WrN 8 w1 w.heap.size) := fun j hj => by
    obtain ⟨v, h1, h2⟩ := hwr j hj
    exact ⟨v, (hb1.cell (p := ⟨w.heap.size, j, none⟩) (by simp)).trans h1, (hb1.frozen (p := ⟨w.heap.size, j, none⟩) (by simp)).trans h2⟩
  rw [hrw] at R1 ⊢
  have B1 : Below w.heap.size w w1 := bthen ((Below.refl _ _).alloc (Nat.le_refl _) _) hb1
  have RB1 : Hid (RdB w1 (w.heap.size + 1) a (min len 2000) cap 0) := ⟨0, Int.le_refl _, Int.le_refl _, R1⟩
  clear H hb1 R1 hrw hs1 hwr
  go_wp2_with fail
  refine (anyParcel_B RB1.out (by omega) ⟨by omega, by omega, by omega, by omega⟩).mono ?_
  rintro e w2 ⟨f, rfl, _, _, K2⟩
  have B2 : Hid (Below w.heap.size w w2) := B1.trans (K2.below (by omega) (by omega))
  have WB := WA.out.kept K2 (by omega)
  obtain ⟨v0, b0, f0⟩ := WB 0 (by decide)
  obtain ⟨v1, b1, f1⟩ := WB 1 (by decide)
  obtain ⟨v2, b2, f2⟩ := WB 2 (by decide)
  obtain ⟨v3, b3, f3⟩ := WB 3 (by decide)
  obtain ⟨v4, b4, f4⟩ := WB 4 (by decide)
  obtain ⟨v5, b5, f5⟩ := WB 5 (by decide)
  obtain ⟨v6, b6, f6⟩ := WB 6 (by decide)
  obtain ⟨v7, b7, f7⟩ := WB 7 (by decide)
  clear WA RB1 K2 B1 WB
  go_wp2
  refine bodyPost_ret (v := .agg #[.int .i64 (f 0), .int .i64 (f 1), .int .i64 (f 2), .int .i64 (f 3), .int .i64 (f 4), .int .i64 (f 5), .int .i64 (f 6), .int .i64 (f 7)]) (by simp [results, Tryd.results4, go_sem, b0, b1, b2, b3, b4, b5, b6, b7]) rfl ⟨f, rfl, below_puts (Nat.le_refl _) [.int .i64 (f 0), .int .i64 (f 1), .int .i64 (f 2), .int .i64 (f 3), .int .i64 (f 4), .int .i64 (f 5), .int .i64 (f 6), .int .i64 (f 7)] 0 B2.out⟩

set_option maxHeartbeats 1000000 in
theorem draw_pclRead (a : Option Addr) (len cap : Nat) (zs : List Int) (w : World) (h : IsRow w a len cap zs) :
    Calls Tryd.prog 6 #[.slice a len cap] w fun e w' => ∃ t : ByteArray, e = .returned (.string t) ∧ t.size ≤ 400 ∧ Below w.heap.size w w' := by
  have H : Hid (IsRow w a len cap zs) := h
  clear h
  go_enter Tryd.func6, Tryd.ntmps6
  go_wp2_with fail
  refine (open_any a len cap zs _ H.out).mono ?_
  rintro e w1 ⟨rfl, R1, hb1, hs1⟩
  have RB1 : Hid (RdB w1 w.heap.size a (min len 2000) cap 0) := ⟨0, Int.le_refl _, Int.le_refl _, R1⟩
  have B1 : Hid (Below w.heap.size w w1) := hb1
  clear H hb1 R1
  go_wp2_with fail
  refine (parcel_B RB1.out (by omega) ⟨by omega, by omega, by omega, by omega⟩).mono ?_
  rintro e w2 ⟨f, rfl, hs, R2, K2⟩
  have B2 : Hid (Below w.heap.size w w2) := B1.out.trans (K2.below (Nat.le_refl _) (by omega))
  have hz2 : w.heap.size < w2.heap.size := by have := K2.size; omega
  clear K2 B1 RB1 hs
  go_wp2_with fail
  refine (pclText_spec (f 0) (f 1) (f 2) (f 3) (f 4) (f 5) (f 6) (f 7) _).mono ?_
  rintro e w3 ⟨rfl, hb3⟩
  have B3 : Hid (Below w.heap.size w w3) := bthen B2.out hb3
  have R3 : RdB w3 w.heap.size a (min len 2000) cap (0 + 8) := by
    obtain ⟨p, p0, p1, hp⟩ := R2
    exact ⟨p, p0, p1, hp.below (hb3.mono (by omega))⟩
  have hz3 : w.heap.size < w3.heap.size := Nat.lt_of_lt_of_le hz2 hb3.size
  have hts := pclText_size f
  generalize pclText (f 0) (f 1) (f 2) (f 3) (f 4) (f 5) (f 6) (f 7) = tx at hts ⊢
  clear hb3 B2 R2
  go_wp2_with fail
  refine (maybe_B R3 (by omega) hts).mono ?_
  rintro e w4 ⟨t, rfl, ht, K4⟩
  have B4 : Hid (Below w.heap.size w w4) := B3.out.trans (K4.below (Nat.le_refl _) (by omega))
  clear K4 B3 R3
  go_wp2
  go_ret
  exact ⟨_, rfl, ht, B4.out⟩
end Go.Proofs.YtpfemjenhnnfmaaDoor
