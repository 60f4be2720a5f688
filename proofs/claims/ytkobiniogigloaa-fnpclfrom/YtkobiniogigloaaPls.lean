/- The walk of l20Parcels: parcels and the next number are drawn; conditions: the reader lies open. -/
import Derived.Test.YtkobiniogigloaaW8
import Derived.LoopTactic
namespace Go.Proofs.Ytkobiniogigloaa
open Go.RowKit Go.Deep
set_option linter.unusedVariables false

set_option maxRecDepth 20000 in
set_option maxHeartbeats 4000000 in
theorem parcels_B {r : Nat} {ad : Option Addr} {len cap : Nat} {m c d : Int} {w : World} (h : RdB w r ad len cap m) (hm : m ≤ 800) (hc : MapOut c d) :
    Calls Try.prog 13 #[.pointer (some ⟨r, 0, none⟩), .agg #[.int .i64 c, .int .i64 d]] w fun e w' => ∃ v n Z nx, e = .returned (.tuple #[v, .int .i64 nx]) ∧ W8 w' w.heap.size v n Z ∧ n ≤ 3 ∧ (∀ k j, k < n → j < 8 → Small (Z k j)) ∧ (-2 ≤ nx ∧ nx ≤ 5010) ∧ Kept r w w' := by
  have H : Hid (RdB w r ad len cap m) := h
  have hrl := h.lt
  have HC : Hid (MapOut c d) := hc
  obtain ⟨i5, hi5, hz50, hz51, hz52⟩ := info_parts8
  clear h hc
  go_enter Try.func13, Try.ntmps13
  go_wp2_with fail
  have WA0 : W8 ((w.alloc (.cells #[.int .i64 c, .int .i64 d] 24)).alloc (.cells #[] 43)) (w.heap.size + 1) (.slice (some ⟨w.heap.size + 1, 0, none⟩) 0 0) 0 (fun _ _ => 0) := by
    refine ⟨w.heap.size + 1, 0, [], rfl, ?_, fun k j hk => absurd hk (by omega)⟩
    have := World.ownsRow_lit (base := w.heap.size + 1) (e := 43) (size := 8) (w.alloc (.cells #[.int .i64 c, .int .i64 d] 24)) #[] 0 (by simp) (by simp) (by simp)
    simpa using this
  have T0 : Two ((w.alloc (.cells #[.int .i64 c, .int .i64 d] 24)).alloc (.cells #[] 43)) w.heap.size (.int .i64 c) (.int .i64 d) := ⟨by rw [old_cell _ (by simp)]; simp, by rw [old_cell _ (by simp)]; simp, by rw [old_frozen _ (by simp)]; simp, by rw [old_frozen _ (by simp)]; simp⟩
  have L0 : Lits (((w.alloc (.cells #[.int .i64 c, .int .i64 d] 24)).alloc (.cells #[] 43)).alloc (.cells #[.int .i64 0, .int .i64 1, .int .i64 5, .int .i64 4998] 3)) (w.heap.size + 2) [0, 1, 5, 4998] := by have := Lits.new [0, 1, 5, 4998] ((w.alloc (.cells #[.int .i64 c, .int .i64 d] 24)).alloc (.cells #[] 43)) 3; simpa using this
  refine (pick_B (((H.out.alloc _).alloc _).alloc _) (by omega)).mono ?_
  rintro e w1 ⟨x, rfl, hx, R1, K1⟩
  have hx0 := hx.1
  have hx1 := hx.2.1 (by decide)
  have KA : Hid (Kept r w w1) := ((((Kept.refl r w).alloc _).alloc _).alloc _).trans K1
  have TA : Hid (Two w1 w.heap.size (.int .i64 c) (.int .i64 d)) := (T0.alloc _).kept K1 (by omega)
  have WA : Hid (W8 w1 (w.heap.size + 1) (.slice (some ⟨w.heap.size + 1, 0, none⟩) 0 0) 0 (fun _ _ => 0)) := (WA0.below ((Below.refl _ _).alloc (Nat.le_refl _) _)).kept K1.grown (fun k e => by cases e; omega)
  obtain ⟨z, hcz, hzl, hzh⟩ : ∃ z, w1.cell? ⟨w.heap.size + 2, x.toNat, none⟩ = some (.int .i64 z) ∧ 0 ≤ z ∧ z ≤ 4998 := by
    have hx4 : x = 0 ∨ x = 1 ∨ x = 2 ∨ x = 3 := by omega
    have hk := (Lits.kept K1 L0 (by omega)).2 x hx0 (by simpa using hx1)
    refine ⟨_, hk, ?_⟩
    rcases hx4 with rfl | rfl | rfl | rfl <;> decide
  have hz1 : w.heap.size + 2 < w1.heap.size := by have := K1.size; simp at this; omega
  clear K1 hx H WA0 T0 L0
  go_wp2_with fail
  refine (pick_B R1 (by omega)).mono ?_
  rintro e w2 ⟨y0, rfl, hy, R2, K2⟩
  have hy0 := hy.1
  have hy1 := hy.2.1 (by decide)
  have KB : Hid (Kept r w w2) := KA.out.trans K2
  have TB : Hid (Two w2 w.heap.size (.int .i64 c) (.int .i64 d)) := TA.out.kept K2 (by omega)
  have WB : Hid (W8 w2 (w.heap.size + 1) (.slice (some ⟨w.heap.size + 1, 0, none⟩) 0 0) 0 (fun _ _ => 0)) := WA.out.kept K2.grown (fun k e => by cases e; omega)
  have hz2 : w.heap.size < w2.heap.size := by have := K2.size; omega
  clear K2 hy KA TA WA R1 hcz hx0 hx1 hz1
  go_wp2_with fail
  go_loopw [6, 7, 8] (fun s t i wr => ∃ (y : Int) (v : Value) (n : Nat) (Z : Nat → Nat → Int) (q : Int), .int .i64 y = i ∧ v = s ∧ .int .i64 q = t ∧ 0 ≤ y ∧ (n : Int) + y ≤ 3 ∧ 0 ≤ q ∧ q ≤ 4998 + (n : Int) ∧ W8 wr (w.heap.size + 1) v n Z ∧ (∀ k j, k < n → j < 8 → Small (Z k j)) ∧ RdB wr r ad len cap (m + 2 + 8 * (3 - y)) ∧ Kept r w wr ∧ Two wr w.heap.size (.int .i64 c) (.int .i64 d) ∧ w.heap.size < wr.heap.size) (fun _ _ i _ => (intOf i).toNat)
  case atStart => exact ⟨y0, _, 0, _, z, rfl, rfl, rfl, hy0, by omega, hzl, by omega, WB.out, fun k j hk => absurd hk (by omega), R2.more (by omega), KB.out, TB.out, hz2⟩
  case round =>
    obtain ⟨y, v, n, Z, q, rfl, rfl, rfl, hy0, hny, hq0, hq1, hW, hS, hR, hK, hT, hsz⟩ := hrel
    have HS : Hid (∀ k j, k < n → j < 8 → Small (Z k j)) := hS
    have HW : Hid (W8 wr (w.heap.size + 1) v n Z) := hW
    have HK : Hid (Kept r w wr) := hK
    have HT : Hid (Two wr w.heap.size (.int .i64 c) (.int .i64 d)) := hT
    obtain ⟨t0, t1, _, _⟩ := hT
    clear KB TB WB R2 hS hW hK hzl hzh hz2
    by_cases hyp : 0 < y
    · go_wp2_with fail
      refine (parcel_B hR (by omega) HC.out).mono ?_
      rintro e w3 ⟨f, rfl, hf, R3, K3⟩
      have HW3 : Hid (W8 w3 (w.heap.size + 1) v n Z) := HW.out.kept K3.grown (fun k e => by cases e; omega)
      have HK3 : Hid (Kept r w w3) := HK.out.trans K3
      have HT3 : Hid (Two w3 w.heap.size (.int .i64 c) (.int .i64 d)) := HT.out.kept K3 (by omega)
      have hsz3 : w.heap.size < w3.heap.size := Nat.lt_of_lt_of_le hsz K3.size
      obtain ⟨w4, e4⟩ : ∃ w4, w4 = w3.alloc (.cells #[.int .i64 q, .int .i64 (f 1), .int .i64 (f 2), .int .i64 (f 3), .int .i64 (f 4), .int .i64 (f 5), .int .i64 (f 6), .int .i64 (f 7)] 43) := ⟨_, rfl⟩
      have hb4 : Below w3.heap.size w3 w4 := by rw [e4]; exact (Below.refl _ _).alloc (Nat.le_refl _) _
      have hs4 : w4.heap.size = w3.heap.size + 1 := by rw [e4]; simp
      have c0 : w4.cell? ⟨w3.heap.size, 0, none⟩ = some (.int .i64 q) := by rw [e4]; simp
      have c1 : w4.cell? ⟨w3.heap.size, 1, none⟩ = some (.int .i64 (f 1)) := by rw [e4]; simp
      have c2 : w4.cell? ⟨w3.heap.size, 2, none⟩ = some (.int .i64 (f 2)) := by rw [e4]; simp
      have c3 : w4.cell? ⟨w3.heap.size, 3, none⟩ = some (.int .i64 (f 3)) := by rw [e4]; simp
      have c4 : w4.cell? ⟨w3.heap.size, 4, none⟩ = some (.int .i64 (f 4)) := by rw [e4]; simp
      have c5 : w4.cell? ⟨w3.heap.size, 5, none⟩ = some (.int .i64 (f 5)) := by rw [e4]; simp
      have c6 : w4.cell? ⟨w3.heap.size, 6, none⟩ = some (.int .i64 (f 6)) := by rw [e4]; simp
      have c7 : w4.cell? ⟨w3.heap.size, 7, none⟩ = some (.int .i64 (f 7)) := by rw [e4]; simp
      have HW4 : Hid (W8 w4 (w.heap.size + 1) v n Z) := HW3.out.below hb4
      have HK4 : Hid (Kept r w w4) := HK3.out.trans (Kept.ofBelow hb4)
      have HT4 : Hid (Two w4 w.heap.size (.int .i64 c) (.int .i64 d)) := HT3.out.below hb4
      have HR4 : Hid (RdB w4 r ad len cap (m + 2 + 8 * (3 - (y - 1)))) := by
        obtain ⟨p, p0, p1, hp⟩ := R3
        exact ⟨p, p0, by omega, hp.below (hb4.mono (by omega))⟩
      have hsz4 : w.heap.size < w4.heap.size := by omega
      obtain ⟨Z1, hZ1, hZn⟩ := ext8 Z n (fun j => if j = 0 then q else f j)
      have e8 : eight Z1 n = [.int .i64 q, .int .i64 (f 1), .int .i64 (f 2), .int .i64 (f 3), .int .i64 (f 4), .int .i64 (f 5), .int .i64 (f 6), .int .i64 (f 7)] := by unfold eight; rw [hZn, hZn, hZn, hZn, hZn, hZn, hZn, hZn]; rfl
      obtain ⟨g, cp, xs, hv, ho, hcx⟩ := HW4.out
      subst hv
      have HCX : Hid (∀ k j, k < n → j < 8 → xs[k * 8 + j]? = some (.int .i64 (Z k j))) := hcx
      have HXL : Hid (xs.length = n * 8) := ho.1
      have HSM : Hid (∀ k j, k < n + 1 → j < 8 → Small (Z1 k j)) := by
        intro k j hk hj
        by_cases hkn : k = n
        · subst hkn
          rw [hZn]
          by_cases hj0 : j = 0
          · simp only [hj0, if_true]; unfold Small; omega
          · simp only [hj0, if_false]; exact hf j hj
        · rw [hZ1 k j hkn]; exact HS.out k j (by omega) hj
      have HZ1 : Hid (∀ k j, k ≠ n → Z1 k j = Z k j) := hZ1
      have HE8 : Hid (eight Z1 n = [.int .i64 q, .int .i64 (f 1), .int .i64 (f 2), .int .i64 (f 3), .int .i64 (f 4), .int .i64 (f 5), .int .i64 (f 6), .int .i64 (f 7)]) := e8
      clear hcx HW3 HK3 HT3 K3 R3 hR HW HK HT HW4 hf hZn t0 t1 hZ1 e8 HS
      go_upto_region 8 with fail
      rw [← e4]
      clear e4 hb4 hs4
      go_wp2_with (at_builtin; refine wpList_append_own _ rfl _ _ 25 rfl (w.heap.size + 1) 43 i5 (.agg #[.int .i64 0, .int .i64 0, .int .i64 0, .int .i64 0, .int .i64 0, .int .i64 0, .int .i64 0, .int .i64 0]) 8 64 Try.underlying25 hi5 hz50 hz51 hz52 rfl (by decide) _ _ _ rfl (ho.alloc _) ⟨w4.heap.size, 0, none⟩ 1 1 [.int .i64 q, .int .i64 (f 1), .int .i64 (f 2), .int .i64 (f 3), .int .i64 (f 4), .int .i64 (f 5), .int .i64 (f 6), .int .i64 (f 7)] rfl rfl ?d1 ?d2 ?d3 ?d4 ?d5 ?_)
      case d1 =>
        intro j u hj
        match j, hj with
        | 0, hj => simp at hj; subst hj; simp [Addr.add]
        | 1, hj => simp at hj; subst hj; simp [Addr.add]
        | 2, hj => simp at hj; subst hj; simp [Addr.add]
        | 3, hj => simp at hj; subst hj; simp [Addr.add]
        | 4, hj => simp at hj; subst hj; simp [Addr.add]
        | 5, hj => simp at hj; subst hj; simp [Addr.add]
        | 6, hj => simp at hj; subst hj; simp [Addr.add]
        | 7, hj => simp at hj; subst hj; simp [Addr.add]
        | j + 8, hj => simp at hj
      case d2 => intro u hu; simp at hu; rcases hu with rfl | rfl | rfl | rfl | rfl | rfl | rfl | rfl <;> rfl
      case d3 => unfold maxLen; omega
      case d4 => omega
      case d5 => simp; omega
      · intro v' w5 hown' hg5 hnil
        have hall := (World.grownBy_alloc w4 _ _).trans hg5
        have HW5 : Hid (W8 w5 (w.heap.size + 1) v' (n + 1) Z1) := w8_more (by rw [HE8.out]; exact hown') HXL.out (fun e => by simp [e] at hnil) (fun k j hk hj => by rw [HZ1.out k j (by omega)]; exact HCX.out k j hk hj)
        have hlt : ∀ k, (Value.slice (some ⟨g, 0, none⟩) n cp).ownBlock = some k → w.heap.size + 1 ≤ k := fun k e => (ho.lt k e).1
        have HK5 : Hid (Kept r w w5) := by
          refine ⟨hall.os.trans HK4.out.os, hall.tape.trans HK4.out.tape, hall.output.trans HK4.out.output, Nat.le_trans HK4.out.size hall.size, fun k hk hn => ?_⟩
          refine (hall.block k (Nat.lt_of_lt_of_le hk HK4.out.size) (fun e => ?_)).trans (HK4.out.block k hk hn)
          have := hlt k e.symm
          omega
        have hbl : Below (w.heap.size) w4 w5 := ⟨hall.os, hall.tape, hall.output, hall.size, fun k hk => hall.block k (by omega) (fun e => by have := hlt k e.symm; omega)⟩
        have hR5 : RdB w5 r ad len cap (m + 2 + 8 * (3 - (y - 1))) := HR4.out.below (hbl.mono (by omega))
        have HT5 : Hid (Two w5 w.heap.size (.int .i64 c) (.int .i64 d)) := by
          have hbw : w5.heap[w.heap.size]? = w4.heap[w.heap.size]? := hall.block _ hsz4 (fun e => by have h1 := (ho.lt _ e.symm).1; omega)
          exact ⟨(World.cell?_of_block hbw).trans HT4.out.1, (World.cell?_of_block hbw).trans HT4.out.2.1, (World.frozen?_of_block hbw).trans HT4.out.2.2.1, (World.frozen?_of_block hbw).trans HT4.out.2.2.2⟩
        have hsz5 : w.heap.size < w5.heap.size := Nat.lt_of_lt_of_le hsz4 hall.size
        clear hown' hg5 hnil hall ho HK4 HT4 HR4 hlt hbl HCX HXL HZ1 HE8 c0 c1 c2 c3 c4 c5 c6 c7
        go_wp2
        go_roundw
        case rel => exact ⟨y - 1, _, n + 1, Z1, q + 1, by go_num, rfl, by go_num, by omega, by omega, by omega, by omega, HW5.out, HSM.out, hR5, HK5.out, HT5.out, hsz5⟩
        case measure => simp [intOf]; omega
    · have hy : y = 0 := by omega
      subst hy
      clear hyp
      go_wp2_with fail
      refine (pick_B hR (by omega)).mono ?_
      rintro e w3 ⟨x3, rfl, hx3, R3, K3⟩
      have HW3 : Hid (W8 w3 (w.heap.size + 1) v n Z) := HW.out.kept K3.grown (fun k e => by cases e; omega)
      have HK3 : Hid (Kept r w w3) := HK.out.trans K3
      have HT3 : Hid (Two w3 w.heap.size (.int .i64 c) (.int .i64 d)) := HT.out.kept K3 (by omega)
      have hsz3 : w.heap.size < w3.heap.size := Nat.lt_of_lt_of_le hsz K3.size
      have hr3 : r < w3.heap.size := R3.lt
      have x3l := hx3.1
      clear K3 hx3 hR HW HK HT t0 t1
      have hx : x3 = 0 ∨ x3 = 1 ∨ x3 = 2 ∨ 3 ≤ x3 := by omega
      rcases hx with rfl | rfl | rfl | hx
      · go_wp2_with fail
        refine (pick_B (R3.alloc _) (by omega)).mono ?_
        rintro e w4 ⟨x4, rfl, hx4, R4, K4⟩
        have HW4 : Hid (W8 w4 (w.heap.size + 1) v n Z) := (HW3.out.below ((Below.refl _ _).alloc (Nat.le_refl _) _)).kept K4.grown (fun k e => by cases e; omega)
        have HK4 : Hid (Kept r w w4) := (HK3.out.alloc _).trans K4
        have l0 : w4.cell? ⟨w3.heap.size, 0, none⟩ = some (.int .i64 (1)) := ((kcell K4).1 w3.heap.size 0 (by simp) (by omega)).trans (by simp)
        have l1 : w4.cell? ⟨w3.heap.size, 1, none⟩ = some (.int .i64 (-1)) := ((kcell K4).1 w3.heap.size 1 (by simp) (by omega)).trans (by simp)
        have x4l := hx4.1
        have x4h := hx4.2.1 (by decide)
        clear hx4 R4 K4 R3 HW3 HK3
        have hx : x4 = 0 ∨ x4 = 1 := by omega
        rcases hx with rfl | rfl
        · go_wp2
          refine bodyPost_ret (v := .tuple #[v, .int .i64 (q + 1)]) (by simp [results, Try.results13, go_sem]) rfl ⟨_, n, Z, _, rfl, HW4.out.base (by omega), by omega, HS.out, ⟨by omega, by omega⟩, HK4.out⟩
        · go_wp2
          refine bodyPost_ret (v := .tuple #[v, .int .i64 (q + (-1))]) (by simp [results, Try.results13, go_sem]) rfl ⟨_, n, Z, _, rfl, HW4.out.base (by omega), by omega, HS.out, ⟨by omega, by omega⟩, HK4.out⟩
      · obtain ⟨g, cp, hv, hbg, hgl, hcl, hfr⟩ := HW3.out.cells
        subst hv
        by_cases hn0 : 0 < n
        · have hn0' : (0 : Int) < (n : Int) := by omega
          obtain ⟨t0, t1, _, _⟩ := HT3.out
          clear hcl hfr
          go_wp2_with fail
          refine (anyParcel_B R3 (by omega) HC.out).mono ?_
          rintro e w4 ⟨f, rfl, hf, R4, K4⟩
          have HW4 : Hid (W8 w4 (w.heap.size + 1) (.slice (some ⟨g, 0, none⟩) n cp) n Z) := HW3.out.kept K4.grown (fun k e => by cases e; omega)
          have HK4 : Hid (Kept r w w4) := HK3.out.trans K4
          obtain ⟨g', cp', hv', _, hg4, hc4, hf4⟩ := HW4.out.cells
          cases hv'
          have c0 : w4.cell? ⟨g, 0, none⟩ = some (.int .i64 (Z 0 0)) := by have := hc4 0 0 hn0 (by omega); simpa using this
          have c1 : w4.cell? ⟨g, 1, none⟩ = some (.int .i64 (Z 0 1)) := by have := hc4 0 1 hn0 (by omega); simpa using this
          have c2 : w4.cell? ⟨g, 2, none⟩ = some (.int .i64 (Z 0 2)) := by have := hc4 0 2 hn0 (by omega); simpa using this
          have c3 : w4.cell? ⟨g, 3, none⟩ = some (.int .i64 (Z 0 3)) := by have := hc4 0 3 hn0 (by omega); simpa using this
          have c4 : w4.cell? ⟨g, 4, none⟩ = some (.int .i64 (Z 0 4)) := by have := hc4 0 4 hn0 (by omega); simpa using this
          have c5 : w4.cell? ⟨g, 5, none⟩ = some (.int .i64 (Z 0 5)) := by have := hc4 0 5 hn0 (by omega); simpa using this
          have c6 : w4.cell? ⟨g, 6, none⟩ = some (.int .i64 (Z 0 6)) := by have := hc4 0 6 hn0 (by omega); simpa using this
          have c7 : w4.cell? ⟨g, 7, none⟩ = some (.int .i64 (Z 0 7)) := by have := hc4 0 7 hn0 (by omega); simpa using this
          have f0 := hf4 0
          have f1 := hf4 1
          have f2 := hf4 2
          have f3 := hf4 3
          have f4 := hf4 4
          have f5 := hf4 5
          have f6 := hf4 6
          have f7 := hf4 7
          obtain ⟨Z1, hZ1, hZn⟩ := ext8 Z 0 f
          have e8 : eight Z1 0 = [.int .i64 (f 0), .int .i64 (f 1), .int .i64 (f 2), .int .i64 (f 3), .int .i64 (f 4), .int .i64 (f 5), .int .i64 (f 6), .int .i64 (f 7)] := by unfold eight; rw [hZn, hZn, hZn, hZn, hZn, hZn, hZn, hZn]
          have HW5 : Hid (W8 (puts g (eight Z1 0) 0 w4) (w.heap.size + 1) (.slice (some ⟨g, 0, none⟩) n cp) n Z1) := HW4.out.put0 hn0 (fun i j hi => hZ1 i j hi)
          have HK5 : Hid (Kept r w (puts g (eight Z1 0) 0 w4)) := HK4.out.puts (by omega)
          rw [e8] at HW5 HK5
          have HSM : Hid (∀ k j, k < n → j < 8 → Small (Z1 k j)) := by
            intro k j hk hj
            by_cases hkn : k = 0
            · subst hkn; rw [hZn]; exact hf j hj
            · rw [hZ1 k j hkn]; exact HS.out k j hk hj
          clear hc4 hf4 R3 R4 K4 HW3 HK3 HT3 HW4 HK4 hZ1 hZn e8 HS t0 t1
          go_wp2
          refine bodyPost_ret (v := .tuple #[.slice (some ⟨g, 0, none⟩) n cp, .int .i64 q]) (by simp [results, Try.results13, go_sem]) rfl ⟨_, n, Z1, _, rfl, HW5.out.base (by omega), by omega, HSM.out, ⟨by omega, by omega⟩, HK5.out⟩
        · have hn0' : ¬ (0 : Int) < (n : Int) := by omega
          go_wp2
          refine bodyPost_ret (v := .tuple #[.slice (some ⟨g, 0, none⟩) n cp, .int .i64 q]) (by simp [results, Try.results13, go_sem]) rfl ⟨_, n, Z, _, rfl, HW3.out.base (by omega), by omega, HS.out, ⟨by omega, by omega⟩, HK3.out⟩
      · go_wp2_with fail
        refine (pick_B (R3.alloc _) (by omega)).mono ?_
        rintro e w4 ⟨x4, rfl, hx4, R4, K4⟩
        have HW4 : Hid (W8 w4 (w.heap.size + 1) v n Z) := (HW3.out.below ((Below.refl _ _).alloc (Nat.le_refl _) _)).kept K4.grown (fun k e => by cases e; omega)
        have HK4 : Hid (Kept r w w4) := (HK3.out.alloc _).trans K4
        have l0 : w4.cell? ⟨w3.heap.size, 0, none⟩ = some (.int .i64 (-1)) := ((kcell K4).1 w3.heap.size 0 (by simp) (by omega)).trans (by simp)
        have l1 : w4.cell? ⟨w3.heap.size, 1, none⟩ = some (.int .i64 (5001)) := ((kcell K4).1 w3.heap.size 1 (by simp) (by omega)).trans (by simp)
        have x4l := hx4.1
        have x4h := hx4.2.1 (by decide)
        clear hx4 R4 K4 R3 HW3 HK3
        have hx : x4 = 0 ∨ x4 = 1 := by omega
        rcases hx with rfl | rfl
        · go_wp2
          refine bodyPost_ret (v := .tuple #[v, .int .i64 (-1)]) (by simp [results, Try.results13, go_sem]) rfl ⟨_, n, Z, _, rfl, HW4.out.base (by omega), by omega, HS.out, ⟨by omega, by omega⟩, HK4.out⟩
        · go_wp2
          refine bodyPost_ret (v := .tuple #[v, .int .i64 (5001)]) (by simp [results, Try.results13, go_sem]) rfl ⟨_, n, Z, _, rfl, HW4.out.base (by omega), by omega, HS.out, ⟨by omega, by omega⟩, HK4.out⟩
      · have e0 : (x3 == 0) = false := by simp; omega
        have e1 : (x3 == 1) = false := by simp; omega
        have e2 : (x3 == 2) = false := by simp; omega
        go_wp2
        refine bodyPost_ret (v := .tuple #[v, .int .i64 q]) (by simp [results, Try.results13, go_sem]) rfl ⟨_, n, Z, _, rfl, HW3.out.base (by omega), by omega, HS.out, ⟨by omega, by omega⟩, HK3.out⟩
end Go.Proofs.Ytkobiniogigloaa
