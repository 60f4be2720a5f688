/- The walk of l20List: walkers are drawn; conditions: the reader lies open. -/
import Derived.Test.YtnplclfoeedpjaaWk
namespace Go.Proofs.Ytnplclfoeedpjaa
open Go.RowKit Go.Deep Go.Maps
set_option linter.unusedVariables false

theorem exists_ext (Z : Nat → Nat → Int) (n : Nat) (z0 z1 z2 z3 z4 : Int) : ∃ Z' : Nat → Nat → Int, (∀ k j, k < n → Z' k j = Z k j) ∧ Z' n 0 = z0 ∧ Z' n 1 = z1 ∧ Z' n 2 = z2 ∧ Z' n 3 = z3 ∧ Z' n 4 = z4 :=
  ⟨fun k j => if k < n then Z k j else [z0, z1, z2, z3, z4].getD j 0, fun k j hk => if_pos hk, by simp, by simp, by simp, by simp, by simp⟩

theorem five_cases {p : Nat → Prop} (h0 : p 0) (h1 : p 1) (h2 : p 2) (h3 : p 3) (h4 : p 4) (j : Nat) (hj : j < 5) : p j := by
  have h5 : j = 0 ∨ j = 1 ∨ j = 2 ∨ j = 3 ∨ j = 4 := by omega
  rcases h5 with rfl | rfl | rfl | rfl | rfl <;> assumption

theorem below_put5 {B : Nat} {a w : World} (h : Below B a w) {b : Nat} (hb : B ≤ b) (k : Nat) (Z : Nat → Nat → Int) : Below B a (put5 w b k Z) :=
  ((((h.setCell (p := ⟨b, k * 5, none⟩) hb _).setCell (p := ⟨b, k * 5 + 1, none⟩) hb _).setCell (p := ⟨b, k * 5 + 2, none⟩) hb _).setCell (p := ⟨b, k * 5 + 3, none⟩) hb _).setCell (p := ⟨b, k * 5 + 4, none⟩) hb _
theorem kept_put5 {r : Nat} {a w : World} (h : Kept r a w) {b : Nat} (hb : a.heap.size ≤ b) (k : Nat) (Z : Nat → Nat → Int) : Kept r a (put5 w b k Z) :=
  ((((h.setCell (q := ⟨b, k * 5, none⟩) (.inl hb) _).setCell (q := ⟨b, k * 5 + 1, none⟩) (.inl hb) _).setCell (q := ⟨b, k * 5 + 2, none⟩) (.inl hb) _).setCell (q := ⟨b, k * 5 + 3, none⟩) (.inl hb) _).setCell (q := ⟨b, k * 5 + 4, none⟩) (.inl hb) _
theorem RdB.below {w w' : World} {r : Nat} {a : Option Addr} {len cap : Nat} {m : Int} (h : RdB w r a len cap m) (hb : Below (r + 1) w w') : RdB w' r a len cap m := by
  obtain ⟨p, h0, h1, h⟩ := h; exact ⟨p, h0, h1, h.below hb⟩

set_option maxRecDepth 20000 in
set_option maxHeartbeats 4000000 in
theorem list_B {r : Nat} {ad : Option Addr} {len cap : Nat} {m c d nn : Int} {w : World} (h : RdB w r ad len cap m) (hm : m ≤ 1000) (hc : MapOut c d) :
    Calls Try.prog 11 #[.pointer (some ⟨r, 0, none⟩), .agg #[.int .i64 c, .int .i64 d], .int .i64 nn] w fun e w' => ∃ v n Z, e = .returned v ∧ Wk w' w.heap.size v n Z ∧ n ≤ 6 ∧ (∀ k j, k < n → j < 5 → Small (Z k j)) ∧ RdB w' r ad len cap (m + 50) ∧ Kept r w w' := by
  have H : Hid (RdB w r ad len cap m) := h
  have hrl := h.lt
  have HC : Hid (MapOut c d) := hc
  obtain ⟨i5, hi5, hz50, hz51, hz52⟩ := info_parts Try.info25
  clear h hc
  go_enter Try.func11, Try.ntmps11
  go_wp2_with fail
  refine (pick_B ((H.out.alloc _).alloc _) (by omega)).mono ?_
  rintro e w1 ⟨x, rfl, hx, R1, K1⟩
  have hx0 := hx.1
  have hx1 := hx.2.1 (by decide)
  have KA : Hid (Kept r w w1) := (((Kept.refl r w).alloc _).alloc _).trans K1
  have TA : Hid (Two w1 w.heap.size (.int .i64 c) (.int .i64 d)) := K1.two (b := w.heap.size) (by simp <;> omega) (by omega) ⟨by rw [old_cell _ (by simp)]; simp, by rw [old_cell _ (by simp)]; simp, by rw [old_frozen _ (by simp)]; simp, by rw [old_frozen _ (by simp)]; simp⟩
  have WA : Hid (Wk w1 w.heap.size (.slice (some ⟨w.heap.size + 1, 0, none⟩) 0 0) 0 (fun _ _ => 0)) := by
    refine Wk.kept (w := (w.alloc _).alloc _) ⟨w.heap.size + 1, 0, [], rfl, ?_, fun k j hk => absurd hk (by omega)⟩ K1.grown (fun k e => by cases e; exact hrl)
    have := World.ownsRow_lit (base := w.heap.size) (e := 25) (size := 5) (w.alloc (.cells #[.int .i64 c, .int .i64 d] 37)) #[] 0 (by simp) (by simp) (by simp)
    simpa using this
  have hz1 : w.heap.size + 1 < w1.heap.size := by have := K1.size; simp at this; omega
  clear K1 hx H
  go_wp2_with fail
  go_loopw [7, 8] (fun s i wr => ∃ (y : Int) (v : Value) (n : Nat) (Z : Nat → Nat → Int), .int .i64 y = i ∧ v = s ∧ 0 ≤ y ∧ (n : Int) + y ≤ 5 ∧ Wk wr w.heap.size v n Z ∧ (∀ k j, k < n → j < 5 → Small (Z k j)) ∧ RdB wr r ad len cap (m + 1 + 5 * (5 - y)) ∧ Kept r w wr ∧ Two wr w.heap.size (.int .i64 c) (.int .i64 d) ∧ w.heap.size < wr.heap.size) (fun _ i _ => (intOf i).toNat)
  case atStart => exact ⟨x, _, 0, _, rfl, rfl, hx0, by omega, WA.out, fun k j hk => absurd hk (by omega), R1.more (by omega), KA.out, TA.out, by omega⟩
  case round =>
    obtain ⟨y, v, n, Z, rfl, rfl, hy0, hny, hW, hS, hR, hK, hT, hsz⟩ := hrel
    have HS : Hid (∀ k j, k < n → j < 5 → Small (Z k j)) := hS
    obtain ⟨g, cp, hv, hbg, hgl, hcl, hfr⟩ := hW.cells
    subst hv
    have HCL : Hid (∀ k j, k < n → j < 5 → wr.cell? ⟨g, 0 + k * 5 + j, none⟩ = some (.int .i64 (Z k j))) := hcl
    have HW : Hid (Wk wr w.heap.size (.slice (some ⟨g, 0, none⟩) n cp) n Z) := hW
    have HK : Hid (Kept r w wr) := hK
    have HT : Hid (Two wr w.heap.size (.int .i64 c) (.int .i64 d)) := hT
    obtain ⟨t0, t1, _, _⟩ := hT
    have HF : Hid (∀ j, wr.frozen? ⟨g, j, none⟩ = false) := hfr
    clear KA TA WA R1 hS hW hcl hK hfr
    by_cases hy : 0 < y
    · go_wp2_with fail
      refine (walker_B hR (by omega) HC.out).mono ?_
      rintro e w2 ⟨z0, z1, z2, z3, z4, rfl, hs, R2, K2⟩
      obtain ⟨Z', hlow, e0, e1, e2, e3, e4⟩ := exists_ext Z n z0 z1 z2 z3 z4
      have hcl2 : ∀ k j, k < n → j < 5 → w2.cell? ⟨g, 0 + k * 5 + j, none⟩ = some (.int .i64 (Z' k j)) := fun k j hk hj => by
        rw [hlow k j hk]
        exact ((kcell K2).1 g _ hgl (by omega)).trans (HCL.out k j hk hj)
      have hg2 : g < w2.heap.size := Nat.lt_of_lt_of_le hgl K2.size
      have hcon := put_spec g 0 n cp Z' (by omega) w2 hg2 hcl2
      rw [e0, e1, e2, e3, e4] at hcon
      have HSM : Hid (∀ k j, k < n + 1 → j < 5 → Small (Z' k j)) := by
        intro k j hk hj
        by_cases hkn : k < n
        · rw [hlow k j hkn]; exact HS.out k j hkn hj
        · have : k = n := by omega
          subst this
          exact five_cases (p := fun j => Small (Z' k j)) (by rw [e0]; exact hs.1) (by rw [e1]; exact hs.2.1) (by rw [e2]; exact hs.2.2.1) (by rw [e3]; exact hs.2.2.2.1) (by rw [e4]; exact hs.2.2.2.2) j hj
      have HCON : Hid (Calls Try.prog 7 #[.slice (some ⟨g, 0, none⟩) n cp, .agg #[.int .i64 z0, .int .i64 z1, .int .i64 z2, .int .i64 z3, .int .i64 z4]] w2 fun e w' => ∃ v, e = .returned v ∧ Walks w' w2.heap.size v (putL Z' n) Z' ∧ Below w2.heap.size w2 w') := hcon
      have HT2 : Hid (Two w2 w.heap.size (.int .i64 c) (.int .i64 d)) := HT.out.kept K2 (by omega)
      have HK2 : Hid (Kept r w w2) := HK.out.trans K2
      have hsz2 : w.heap.size < w2.heap.size := Nat.lt_of_lt_of_le hsz K2.size
      clear hcon hlow e0 e1 e2 e3 e4 hcl2 K2 hR t0 t1 HT HK HW HCL HF hs HS
      go_wp2_with fail
      refine HCON.out.mono ?_
      rintro e w3 ⟨v', rfl, hw3, hb3⟩
      have HW3 : Hid (Wk w3 w.heap.size v' (putL Z' n).length (fun k j => Z' (putL Z' n)[k]! j)) := hw3.wk.base (by omega)
      have HSM3 : Hid (∀ k j, k < (putL Z' n).length → j < 5 → Small (Z' (putL Z' n)[k]! j)) := fun k j hk hj => by
        refine HSM.out _ j (putL_mem (Z := Z') ?_) hj
        rw [getElem!_pos _ k hk]
        exact List.getElem_mem hk
      have HT3 : Hid (Two w3 w.heap.size (.int .i64 c) (.int .i64 d)) := HT2.out.below hb3
      have HK3 : Hid (Kept r w w3) := HK2.out.trans (Kept.ofBelow hb3)
      have hR3 : RdB w3 r ad len cap (m + 1 + 5 * (5 - (y - 1))) := by
        obtain ⟨p, p0, p1, hp⟩ := R2
        exact ⟨p, p0, by omega, hp.below (hb3.mono (by omega))⟩
      have hsz3 : w.heap.size < w3.heap.size := Nat.lt_of_lt_of_le hsz2 hb3.size
      have hln : (((putL Z' n).length : Nat) : Int) + (y - 1) ≤ 5 := by have := putL_len Z' n; omega
      clear hw3 hb3 HT2 HK2 R2 HCON HSM
      go_wp2
      go_roundw
      case rel => exact ⟨y - 1, _, _, _, by go_num, rfl, by omega, hln, HW3.out, HSM3.out, hR3, HK3.out, HT3.out, hsz3⟩
      case measure => simp [intOf]; omega
    · have hyz : y = 0 := by omega
      subst hyz
      clear hy
      go_wp2_with fail
      refine (pick_B hR (by omega)).mono ?_
      rintro e w2 ⟨q, rfl, hq, R2, K2⟩
      have HW2 : Hid (Wk w2 w.heap.size (.slice (some ⟨g, 0, none⟩) n cp) n Z) := HW.out.kept K2.grown (fun k e => by cases e; exact hrl)
      have HK2 : Hid (Kept r w w2) := HK.out.trans K2
      have hg2 : g < w2.heap.size := Nat.lt_of_lt_of_le hgl K2.size
      clear HW HK HT t0 t1 HCL HF K2 hR hq
      by_cases hq0 : q = 0
      · subst hq0
        by_cases hn0 : 0 < n
        · have hn0' : (0 : Int) < (n : Int) := by omega
          go_wp2_with fail
          refine (pick_B (n := (n : Int)) R2 (by omega)).mono ?_
          rintro e w3 ⟨k0, rfl, hk, R3, K3⟩
          obtain ⟨k, rfl⟩ := Int.eq_ofNat_of_zero_le hk.1
          have hkn : k < n := by have := hk.2.1 (by omega); omega
          have hkn' : (k : Int) < (n : Int) := by omega
          have HW3 : Hid (Wk w3 w.heap.size (.slice (some ⟨g, 0, none⟩) n cp) n Z) := HW2.out.kept K3.grown (fun k e => by cases e; exact hrl)
          have HK3 : Hid (Kept r w w3) := HK2.out.trans K3
          have hg3 : g < w3.heap.size := Nat.lt_of_lt_of_le hg2 K3.size
          obtain ⟨g', cp', hv', _, _, hc3, hf3⟩ := HW3.out.cells
          cases hv'
          have c0 : w3.cell? ⟨g, k * 5, none⟩ = some (.int .i64 (Z k 0)) := by have := hc3 k 0 hkn (by omega); simpa using this
          have c1 : w3.cell? ⟨g, k * 5 + 1, none⟩ = some (.int .i64 (Z k 1)) := by have := hc3 k 1 hkn (by omega); simpa using this
          have c2 : w3.cell? ⟨g, k * 5 + 2, none⟩ = some (.int .i64 (Z k 2)) := by have := hc3 k 2 hkn (by omega); simpa using this
          have c3 : w3.cell? ⟨g, k * 5 + 3, none⟩ = some (.int .i64 (Z k 3)) := by have := hc3 k 3 hkn (by omega); simpa using this
          have c4 : w3.cell? ⟨g, k * 5 + 4, none⟩ = some (.int .i64 (Z k 4)) := by have := hc3 k 4 hkn (by omega); simpa using this
          have HF3 : Hid (∀ j, w3.frozen? ⟨g, j, none⟩ = false) := hf3
          clear hc3 hf3 HW2 HK2 K3 R2 hk
          go_wp2_with fail
          refine (bad_B R3 (by omega) ⟨HS.out k 0 hkn (by omega), HS.out k 1 hkn (by omega), HS.out k 2 hkn (by omega), HS.out k 3 hkn (by omega), HS.out k 4 hkn (by omega)⟩).mono ?_
          rintro e w4 ⟨y0, y1, y2, y3, y4, rfl, hys, R4, K4⟩
          replace c0 := ((kcell K4).1 g (k * 5) hg3 (by omega)).trans c0
          replace c1 := ((kcell K4).1 g (k * 5 + 1) hg3 (by omega)).trans c1
          replace c2 := ((kcell K4).1 g (k * 5 + 2) hg3 (by omega)).trans c2
          replace c3 := ((kcell K4).1 g (k * 5 + 3) hg3 (by omega)).trans c3
          replace c4 := ((kcell K4).1 g (k * 5 + 4) hg3 (by omega)).trans c4
          have f0 : w4.frozen? ⟨g, k * 5, none⟩ = false := ((kcell K4).2 g (k * 5) hg3 (by omega)).trans (HF3.out _)
          have f1 : w4.frozen? ⟨g, k * 5 + 1, none⟩ = false := ((kcell K4).2 g (k * 5 + 1) hg3 (by omega)).trans (HF3.out _)
          have f2 : w4.frozen? ⟨g, k * 5 + 2, none⟩ = false := ((kcell K4).2 g (k * 5 + 2) hg3 (by omega)).trans (HF3.out _)
          have f3 : w4.frozen? ⟨g, k * 5 + 3, none⟩ = false := ((kcell K4).2 g (k * 5 + 3) hg3 (by omega)).trans (HF3.out _)
          have f4 : w4.frozen? ⟨g, k * 5 + 4, none⟩ = false := ((kcell K4).2 g (k * 5 + 4) hg3 (by omega)).trans (HF3.out _)
          have HW4 : Hid (Wk w4 w.heap.size (.slice (some ⟨g, 0, none⟩) n cp) n Z) := HW3.out.kept K4.grown (fun k e => by cases e; exact hrl)
          have HK4 : Hid (Kept r w w4) := HK3.out.trans K4
          obtain ⟨Z', hZ', z0, z1, z2, z3, z4⟩ : ∃ Z' : Nat → Nat → Int, (∀ i j, i ≠ k → Z' i j = Z i j) ∧ Z' k 0 = y0 ∧ Z' k 1 = y1 ∧ Z' k 2 = y2 ∧ Z' k 3 = y3 ∧ Z' k 4 = y4 :=
            ⟨fun i j => if i = k then [y0, y1, y2, y3, y4].getD j 0 else Z i j, fun i j hi => if_neg hi, by simp, by simp, by simp, by simp, by simp⟩
          have HW5 : Hid (Wk (put5 w4 g k Z') w.heap.size (.slice (some ⟨g, 0, none⟩) n cp) n Z') := HW4.out.put hkn hZ'
          have HSZ : Hid (∀ i j, i < n → j < 5 → Small (Z' i j)) := by
            intro i j hi hj
            by_cases e : i = k
            · subst e
              exact five_cases (p := fun j => Small (Z' i j)) (by rw [z0]; exact hys.1) (by rw [z1]; exact hys.2.1) (by rw [z2]; exact hys.2.2.1) (by rw [z3]; exact hys.2.2.2.1) (by rw [z4]; exact hys.2.2.2.2) j hj
            · rw [hZ' i j e]; exact HS.out i j hi hj
          have HR5 : Hid (RdB (put5 w4 g k Z') r ad len cap (m + 1 + 25 + 1 + 1 + 2)) := (R4.more (by omega)).below (below_put5 (Below.refl _ _) (by omega) k Z')
          have HK5 : Hid (Kept r w (put5 w4 g k Z')) := kept_put5 HK4.out hbg k Z'
          have EP : Hid (put5 w4 g k Z' = ((((w4.setCell ⟨g, k * 5, none⟩ (.int .i64 y0)).setCell ⟨g, k * 5 + 1, none⟩ (.int .i64 y1)).setCell ⟨g, k * 5 + 2, none⟩ (.int .i64 y2)).setCell ⟨g, k * 5 + 3, none⟩ (.int .i64 y3)).setCell ⟨g, k * 5 + 4, none⟩ (.int .i64 y4)) := by
            unfold Hid put5
            rw [z0, z1, z2, z3, z4]
          clear HW3 HK3 K4 R3 R4 HF3 hys HK4 hZ' z0 z1 z2 z3 z4 HS HW4
          go_wp2_with fail
          rw [← EP.out]
          generalize put5 w4 g k Z' = w5 at *
          refine (pick_B HR5.out (by omega)).mono ?_
          rintro e w6 ⟨q2, rfl, hq2, R6, K6⟩
          have HW6 : Hid (Wk w6 w.heap.size (.slice (some ⟨g, 0, none⟩) n cp) n Z') := HW5.out.kept K6.grown (fun k e => by cases e; exact hrl)
          have HK6 : Hid (Kept r w w6) := HK5.out.trans K6
          have HR6 : Hid (RdB w6 r ad len cap (m + 50)) := R6.more (by omega)
          have hz6 : r < w6.heap.size := R6.lt
          clear HW5 HK5 K6 HR5 EP R6 hq2 c0 c1 c2 c3 c4 f0 f1 f2 f3 f4
          by_cases hq3 : q2 = 0
          · subst hq3
            obtain ⟨g', cp', hv', _, hg6, hc6, _⟩ := HW6.out.cells
            cases hv'
            have c0 : w6.cell? ⟨g, 0, none⟩ = some (.int .i64 (Z' 0 0)) := by have := hc6 0 0 hn0 (by omega); simpa using this
            have c1 : w6.cell? ⟨g, 1, none⟩ = some (.int .i64 (Z' 0 1)) := by have := hc6 0 1 hn0 (by omega); simpa using this
            have c2 : w6.cell? ⟨g, 2, none⟩ = some (.int .i64 (Z' 0 2)) := by have := hc6 0 2 hn0 (by omega); simpa using this
            have c3 : w6.cell? ⟨g, 3, none⟩ = some (.int .i64 (Z' 0 3)) := by have := hc6 0 3 hn0 (by omega); simpa using this
            have c4 : w6.cell? ⟨g, 4, none⟩ = some (.int .i64 (Z' 0 4)) := by have := hc6 0 4 hn0 (by omega); simpa using this
            obtain ⟨g', cp', xs, hv', ho, hcx⟩ := HW6.out
            cases hv'
            have HCX : Hid (∀ k j, k < n → j < 5 → xs[k * 5 + j]? = some (.int .i64 (Z' k j))) := hcx
            have HXL : Hid (xs.length = n * 5) := ho.1
            clear hc6 hcx HW6
            go_wp2_with (at_builtin; refine wpList_append_own _ rfl _ _ 23 rfl w.heap.size 25 i5 (.agg #[.int .i64 0, .int .i64 0, .int .i64 0, .int .i64 0, .int .i64 0]) 5 40 Try.underlying23 hi5 hz50 hz51 hz52 rfl (by decide) _ _ _ rfl (ho.alloc _) ⟨w6.heap.size, 0, none⟩ 1 1 (five Z' 0) rfl rfl (five_cells _ Z' 0 25) (five_one1 Z' 0) ?d3 ?d4 ?d5 ?_)
            case d3 => unfold maxLen; omega
            case d4 => omega
            case d5 => simp; omega
            · intro v' w7 hown' hg7 hnil
              have hall := (World.grownBy_alloc w6 _ _).trans hg7
              obtain ⟨Z3, hl3, e0, e1, e2, e3, e4⟩ := exists_ext Z' n (Z' 0 0) (Z' 0 1) (Z' 0 2) (Z' 0 3) (Z' 0 4)
              have e5 : five Z3 n = five Z' 0 := by unfold five; rw [e0, e1, e2, e3, e4]
              have HW7 : Hid (Wk w7 w.heap.size v' (n + 1) Z3) := wk_more (by rw [e5]; exact hown') HXL.out (fun e => by simp [e] at hnil) (fun k j hk hj => by rw [hl3 k j hk]; exact HCX.out k j hk hj)
              have HS7 : Hid (∀ k j, k < n + 1 → j < 5 → Small (Z3 k j)) := by
                intro i j hi hj
                by_cases hin : i < n
                · rw [hl3 i j hin]; exact HSZ.out i j hin hj
                · have : i = n := by omega
                  subst this
                  exact five_cases (p := fun j => Small (Z3 i j)) (by rw [e0]; exact HSZ.out 0 0 hn0 (by omega)) (by rw [e1]; exact HSZ.out 0 1 hn0 (by omega)) (by rw [e2]; exact HSZ.out 0 2 hn0 (by omega)) (by rw [e3]; exact HSZ.out 0 3 hn0 (by omega)) (by rw [e4]; exact HSZ.out 0 4 hn0 (by omega)) j hj
              have HK7 : Hid (Kept r w w7) := by
                refine ⟨hall.os.trans HK6.out.os, hall.tape.trans HK6.out.tape, hall.output.trans HK6.out.output, Nat.le_trans HK6.out.size hall.size, fun k hk hn => ?_⟩
                refine (hall.block k (Nat.lt_of_lt_of_le hk HK6.out.size) (fun e => ?_)).trans (HK6.out.block k hk hn)
                have := (ho.lt k e.symm).1
                omega
              have HR7 : Hid (RdB w7 r ad len cap (m + 50)) := HR6.out.below ⟨hall.os, hall.tape, hall.output, hall.size, fun k hk => hall.block k (by omega) (fun e => by have := (ho.lt k e.symm).1; omega)⟩
              clear hown' hg7 hnil hall ho HR6 c0 c1 c2 c3 c4 HCX HXL HSZ HK6 hl3 e0 e1 e2 e3 e4 e5
              go_wp2
              go_ret
              exact ⟨_, n + 1, Z3, rfl, HW7.out, by omega, HS7.out, HR7.out, HK7.out⟩
          · have eq3 : (q2 == 0) = false := by simpa using hq3
            go_wp2
            go_ret
            exact ⟨_, n, Z', rfl, HW6.out, by omega, HSZ.out, HR6.out, HK6.out⟩
        · have hn0' : ¬ (0 : Int) < (n : Int) := by omega
          go_wp2
          go_ret
          exact ⟨_, n, Z, rfl, HW2.out, by omega, HS.out, R2.more (by omega), HK2.out⟩
      · have eq0 : (q == 0) = false := by simpa using hq0
        go_wp2
        go_ret
        exact ⟨_, n, Z, rfl, HW2.out, by omega, HS.out, R2.more (by omega), HK2.out⟩
end Go.Proofs.Ytnplclfoeedpjaa
