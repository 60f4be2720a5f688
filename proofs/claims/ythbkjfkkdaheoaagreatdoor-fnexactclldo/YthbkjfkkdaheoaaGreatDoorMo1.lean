/- WlkOut and WlkPut of the model, where one has the number; conditions: the walkers lie in memory. -/
import Derived.Test.YthbkjfkkdaheoaaGreatDoorMo3
namespace Go.Proofs.YthbkjfkkdaheoaaGreatDoor
open Go.RowKit Go.Deep
set_option linter.unusedVariables false
def cnt (m k : Nat) : Nat := if m < k then k - 1 else k
theorem cnt_zero (m : Nat) : cnt m 0 = 0 := by simp [cnt]
theorem cnt_le (m k : Nat) : cnt m k ≤ k := by unfold cnt; split <;> omega
theorem cnt_same {m k : Nat} (h : k = m) : cnt m (k + 1) = cnt m k := by subst h; simp [cnt]
theorem cnt_end {m n : Nat} (h : m < n) : cnt m n = n - 1 := by simp [cnt, h]
theorem cnt_step {Z : Nat → Nat → Int} {m k : Nat} (h : ¬ k = m) : cnt m (k + 1) = cnt m k + 1 ∧ (List.range (cnt m k + 1)).flatMap (five5 (delW Z m)) = (List.range (cnt m k)).flatMap (five5 (delW Z m)) ++ five5 Z k := by
  refine ⟨by unfold cnt; split <;> split <;> omega, ?_⟩
  rw [range_more]
  congr 1
  unfold cnt delW five5
  by_cases e : m < k
  · simp only [if_pos e]; rw [if_neg (show ¬ k - 1 < m by omega), show k - 1 + 1 = k by omega]
  · simp only [if_neg e]; rw [if_pos (show k < m by omega)]
set_option maxHeartbeats 1000000 in
set_option maxRecDepth 20000 in
theorem out_one (z : Int) (a : Option Addr) (b n cap m : Nat) (Z : Nat → Nat → Int) (hn : n ≤ 1048576) (w : World) (hb : n ≠ 0 → b < w.heap.size) (ha : n ≠ 0 → a = some ⟨b, 0, none⟩) (hm : m < n) (hz : Z m 0 = z) (hF : ∀ j, j < n → ¬ j = m → ¬ Z j 0 = z) (hr : ∀ k j, k < n → j < 5 → w.cell? ⟨b, k * 5 + j, none⟩ = some (.int .i64 (Z k j))) :
    Calls Tryz.prog 119 #[.slice a n cap, .int .i64 z] w fun e w' => ∃ v, e = .returned v ∧ v ≠ .slice none 0 0 ∧ w'.ownsRow w.heap.size 54 5 v (n - 1) ((List.range (n - 1)).flatMap (five5 (delW Z m))) ∧ Below w.heap.size w w' := by
  have HR : Hid (∀ k j, k < n → j < 5 → w.cell? ⟨b, k * 5 + j, none⟩ = some (.int .i64 (Z k j))) := hr
  have HA : Hid (n ≠ 0 → a = some ⟨b, 0, none⟩) := ha
  have HB : Hid (n ≠ 0 → b < w.heap.size) := hb
  have HM : Hid (∀ j, j < n → ¬ j = m → ¬ Z j 0 = z) := hF
  have HZ : Hid (Z m 0 = z) := hz
  clear hr ha hb hF hz
  obtain ⟨i5, hi5, hz50, hz51, hz52⟩ := info5
  go_enter Tryz.func119, Tryz.ntmps119
  go_wp2
  go_loopw [5, 6] (fun s i wr => ∃ (k : Nat) (v : Value), k ≤ n ∧ .int .i64 k = i ∧ v = s ∧ v ≠ .slice none 0 0 ∧ wr.ownsRow w.heap.size 54 5 v (cnt m k) ((List.range (cnt m k)).flatMap (five5 (delW Z m))) ∧ w.heap.size ≤ wr.heap.size ∧ Below w.heap.size w wr) (fun _ i _ => n - (intOf i).toNat)
  case atStart => exact ⟨0, _, Nat.zero_le _, rfl, rfl, by simp, by rw [cnt_zero]; exact World.ownsRow_lit w #[] 0 (Nat.le_refl _) (by simp) (by simp), by simp, (Below.refl _ _).alloc (by simp) _⟩
  case round =>
    obtain ⟨k, v, hk, rfl, rfl, hnn, ho, hsz, hbel⟩ := hrel
    by_cases hkn : k < n
    · have hkn' : (k : Int) < (n : Int) := by omega
      obtain rfl := HA.out (by omega)
      have hb := HB.out (by omega)
      have c0 : wr.cell? ⟨b, k * 5, none⟩ = some (.int .i64 (Z k 0)) := (hbel.cell (by exact hb)).trans (HR.out k 0 hkn (by omega))
      have c1 : wr.cell? ⟨b, k * 5 + 1, none⟩ = some (.int .i64 (Z k 1)) := (hbel.cell (by exact hb)).trans (HR.out k 1 hkn (by omega))
      have c2 : wr.cell? ⟨b, k * 5 + 2, none⟩ = some (.int .i64 (Z k 2)) := (hbel.cell (by exact hb)).trans (HR.out k 2 hkn (by omega))
      have c3 : wr.cell? ⟨b, k * 5 + 3, none⟩ = some (.int .i64 (Z k 3)) := (hbel.cell (by exact hb)).trans (HR.out k 3 hkn (by omega))
      have c4 : wr.cell? ⟨b, k * 5 + 4, none⟩ = some (.int .i64 (Z k 4)) := (hbel.cell (by exact hb)).trans (HR.out k 4 hkn (by omega))
      by_cases hkm : k = m
      · have ez : (Z k 0 == z) = true := by rw [hkm]; simpa using HZ.out
        have HO : Hid (wr.ownsRow w.heap.size 54 5 v (cnt m (k + 1)) ((List.range (cnt m (k + 1))).flatMap (five5 (delW Z m)))) := by rw [cnt_same hkm]; exact ho
        have HNN : Hid (v ≠ .slice none 0 0) := hnn
        clear hnn HA HB ho hkm
        go_wp2
        go_roundw
        case rel => exact ⟨k + 1, _, by omega, by go_num, rfl, HNN.out, HO.out, hsz, hbel⟩
        case measure => simp [intOf]; omega
      · skip
        have ez : (Z k 0 == z) = false := by simpa using HM.out k hkn hkm
        have hcb := cnt_le m k
        have HCN : Hid (¬ k = m) := hkm
        clear hkm
        have HNN : Hid (v ≠ .slice none 0 0) := hnn
        clear hnn HA HB
        go_wp2_with (at_builtin; refine wpList_append_own _ rfl _ _ 32 rfl w.heap.size 54 i5 (.agg #[.int .i64 0, .int .i64 0, .int .i64 0, .int .i64 0, .int .i64 0]) 5 40 Tryz.underlying32 hi5 hz50 hz51 hz52 rfl (by decide) _ _ _ rfl (ho.alloc _) ⟨wr.heap.size, 0, none⟩ 1 1 (five5 Z k) rfl rfl (five5_box _ Z k 54) (five5_one1 Z k) ?d3 ?d4 ?d5 ?_)
        case d3 => unfold maxLen; omega
        case d4 => omega
        case d5 => simp; omega
        · intro v' w2 hown' hg2 hnil
          have hall := (World.grownBy_alloc wr _ _).trans hg2
          have HO : Hid (w2.ownsRow w.heap.size 54 5 v' (cnt m (k + 1)) ((List.range (cnt m (k + 1))).flatMap (five5 (delW Z m)))) := by
            unfold Hid
            rw [(cnt_step (Z := Z) HCN.out).1, (cnt_step (Z := Z) HCN.out).2]
            exact hown'
          have HNN' : Hid (v' ≠ .slice none 0 0) := hnil
          have hs2 : w.heap.size ≤ w2.heap.size := Nat.le_trans hsz hall.size
          have hb2 : Below w.heap.size w w2 := hbel.grown hall hsz (fun kk e => (ho.lt kk e).1)
          clear hown' hg2 hnil hall ho c0 c1 c2 c3 c4 HNN
          go_wp2
          go_roundw
          case rel => exact ⟨k + 1, _, by omega, by go_num, rfl, HNN'.out, HO.out, hs2, hb2⟩
          case measure => simp [intOf]; omega
    · have hkn' : k = n := by omega
      subst hkn'
      have HO : Hid (wr.ownsRow w.heap.size 54 5 v (k - 1) ((List.range (k - 1)).flatMap (five5 (delW Z m)))) := by rw [← cnt_end hm]; exact ho
      have HNN : Hid (v ≠ .slice none 0 0) := hnn
      clear ho hnn HA
      go_wp2
      go_ret
      exact ⟨_, rfl, HNN.out, HO.out, hbel⟩
set_option maxRecDepth 20000 in
set_option maxHeartbeats 4000000 in
theorem put_rest (vl : Value) (n : Nat) (Z : Nat → Nat → Int) (Zp : Nat → Int) (hn : n + 1 ≤ 1048576) (w : World) (hup : ∀ i j, i < j → j < n → Z i 0 < Z j 0) (hF : Noone Z n (Zp 0)) (HC0 : ∀ ob : Obj, Calls Tryz.prog 119 #[vl, .int .i64 (Zp 0)] (w.alloc ob) fun e w' => ∃ v, e = .returned v ∧ v ≠ .slice none 0 0 ∧ w'.ownsRow (w.alloc ob).heap.size 54 5 v n ((List.range n).flatMap (five5 Z)) ∧ Below (w.alloc ob).heap.size (w.alloc ob) w') :
    Calls Tryz.prog 81 #[vl, .agg #[.int .i64 (Zp 0), .int .i64 (Zp 1), .int .i64 (Zp 2), .int .i64 (Zp 3), .int .i64 (Zp 4)]] w fun e w' => ∃ v, e = .returned v ∧ w'.ownsRow w.heap.size 54 5 v (n + 1) ((List.range (n + 1)).flatMap (five5 (insW Z n (Zp 0) Zp))) ∧ Below w.heap.size w w' := by
  obtain ⟨i5, hi5, hz50, hz51, hz52⟩ := info5
  have HB0 : Hid (∀ o : Obj, Below w.heap.size w (w.alloc o)) := fun o => (Below.refl _ _).alloc (Nat.le_refl _) o
  have HC : Hid (∀ ob : Obj, Calls Tryz.prog 119 #[vl, .int .i64 (Zp 0)] (w.alloc ob) fun e w' => ∃ v, e = .returned v ∧ v ≠ .slice none 0 0 ∧ w'.ownsRow (w.alloc ob).heap.size 54 5 v n ((List.range n).flatMap (five5 Z)) ∧ Below (w.alloc ob).heap.size (w.alloc ob) w') := HC0
  have HLO : Hid (∀ k, k < posW Z (Zp 0) n → decide (Zp 0 < Z k 0) = false) := fun k hk => decide_eq_false (by have := posW_lt Z (Zp 0) n hup k hk; omega)
  have HHI : Hid (∀ k, posW Z (Zp 0) n = k → k < n → decide (Zp 0 < Z k 0) = true) := fun k h1 h2 => decide_eq_true (by have := posW_ge Z (Zp 0) n k (by omega) h2; have := hF k h2; omega)
  have HPL : Hid (posW Z (Zp 0) n ≤ n) := posW_le Z (Zp 0) n
  clear hup hF HC0
  go_enter Tryz.func81, Tryz.ntmps81
  go_wp2_with fail
  refine (HC.out _).mono ?_
  rintro e w1 ⟨v, rfl, hnv, hW, hb1⟩
  have HX : Hid (∀ j, j < 5 → w1.cell? ⟨w.heap.size, j, none⟩ = some (.int .i64 (Zp j))) := fun j hj => (hb1.cell (p := ⟨w.heap.size, j, none⟩) (by simp)).trans (by
    have : j = 0 ∨ j = 1 ∨ j = 2 ∨ j = 3 ∨ j = 4 := by omega
    rcases this with rfl | rfl | rfl | rfl | rfl <;> simp)
  have hs1 : w.heap.size < w1.heap.size := by have := hb1.size; simp at this; omega
  have B1 : Below w.heap.size w w1 := (HB0.out _).trans (hb1.mono (by simp))
  obtain ⟨g, hRW, _⟩ := rw_of_own hW
  obtain ⟨g0, c, hv⟩ : ∃ g0 c, v = .slice (some g0) n c := by
    rcases hRW with ⟨rfl, a, c, rfl⟩ | ⟨c, rfl, _⟩
    · rcases hW.2 with ⟨e, _⟩ | ⟨g, c, _, e, _⟩
      · exact absurd e hnv
      · exact ⟨_, _, e⟩
    · exact ⟨_, _, rfl⟩
  subst hv
  have HR : Hid (∀ k j, k < n → j < 5 → g0 = ⟨g, 0, none⟩ ∧ g < w1.heap.size ∧ w1.cell? ⟨g, k * 5 + j, none⟩ = some (.int .i64 (Z k j))) := fun k j hk hj => by
    rcases hRW with ⟨e, _⟩ | ⟨c', e, _, h2, h3, h4⟩
    · omega
    · simp only [Value.slice.injEq, Option.some.injEq, true_and] at e
      exact ⟨e.1, by omega, h4.2 k j hk hj⟩
  clear hW hb1 HC HB0 hRW hnv
  go_wp2
  go_loopw [6, 7, 8] (fun s d i wr => ∃ (k : Nat) (v : Value), k ≤ n ∧ .int .i64 k = i ∧ v = s ∧ .bool (decide (posW Z (Zp 0) n < k)) = d ∧ v ≠ .slice none 0 0 ∧ wr.ownsRow w1.heap.size 54 5 v (upto (posW Z (Zp 0) n) k) ((List.range (upto (posW Z (Zp 0) n) k)).flatMap (five5 (insW Z n (Zp 0) Zp))) ∧ w1.heap.size ≤ wr.heap.size ∧ Below w1.heap.size w1 wr) (fun _ _ i _ => n - (intOf i).toNat)
  case atStart => exact ⟨0, _, Nat.zero_le _, rfl, rfl, by simp, by simp, World.ownsRow_lit w1 #[] 0 (Nat.le_refl _) (by simp) (by simp), by simp, (Below.refl _ _).alloc (by simp) _⟩
  case round =>
    obtain ⟨k, v, hk, rfl, rfl, rfl, hnn, ho, hsz, hbel⟩ := hrel
    have x0 : wr.cell? ⟨w.heap.size, 0, none⟩ = some (.int .i64 (Zp 0)) := (hbel.cell (by exact hs1)).trans <| HX.out 0 (by omega)
    have x1 : wr.cell? ⟨w.heap.size, 1, none⟩ = some (.int .i64 (Zp 1)) := (hbel.cell (by exact hs1)).trans <| HX.out 1 (by omega)
    have x2 : wr.cell? ⟨w.heap.size, 2, none⟩ = some (.int .i64 (Zp 2)) := (hbel.cell (by exact hs1)).trans <| HX.out 2 (by omega)
    have x3 : wr.cell? ⟨w.heap.size, 3, none⟩ = some (.int .i64 (Zp 3)) := (hbel.cell (by exact hs1)).trans <| HX.out 3 (by omega)
    have x4 : wr.cell? ⟨w.heap.size, 4, none⟩ = some (.int .i64 (Zp 4)) := (hbel.cell (by exact hs1)).trans <| HX.out 4 (by omega)
    have HNN : Hid (v ≠ .slice none 0 0) := hnn
    have HPN : Hid (upto (posW Z (Zp 0) n) k ≤ k + 1) := upto_le _ k
    clear hnn
    by_cases hkn : k < n
    · have hkn' : (k : Int) < (n : Int) := by omega
      obtain ⟨rfl, hgl, _⟩ := HR.out k 0 hkn (by omega)
      have c0 : wr.cell? ⟨g, k * 5, none⟩ = some (.int .i64 (Z k 0)) := (hbel.cell (by exact hgl)).trans (HR.out k 0 hkn (by omega)).2.2
      have c1 : wr.cell? ⟨g, k * 5 + 1, none⟩ = some (.int .i64 (Z k 1)) := (hbel.cell (by exact hgl)).trans (HR.out k 1 hkn (by omega)).2.2
      have c2 : wr.cell? ⟨g, k * 5 + 2, none⟩ = some (.int .i64 (Z k 2)) := (hbel.cell (by exact hgl)).trans (HR.out k 2 hkn (by omega)).2.2
      have c3 : wr.cell? ⟨g, k * 5 + 3, none⟩ = some (.int .i64 (Z k 3)) := (hbel.cell (by exact hgl)).trans (HR.out k 3 hkn (by omega)).2.2
      have c4 : wr.cell? ⟨g, k * 5 + 4, none⟩ = some (.int .i64 (Z k 4)) := (hbel.cell (by exact hgl)).trans (HR.out k 4 hkn (by omega)).2.2
      rcases Nat.lt_trichotomy k (posW Z (Zp 0) n) with hlt | heq | hgt
      · have hd : decide (posW Z (Zp 0) n < k) = false := decide_eq_false (by omega)
        have hd2 : decide (Zp 0 < Z k 0) = false := HLO.out k hlt
        rw [hd]
        have HLT : Hid (k < posW Z (Zp 0) n) := hlt
        clear hlt hd
        go_wp2_with fail
        go_quiet (fail)
        go_wp2_with (at_builtin; refine wpList_append_own _ rfl _ _ 32 rfl w1.heap.size 54 i5 (.agg #[.int .i64 0, .int .i64 0, .int .i64 0, .int .i64 0, .int .i64 0]) 5 40 Tryz.underlying32 hi5 hz50 hz51 hz52 rfl (by decide) _ _ _ rfl (ho.alloc _) ⟨wr.heap.size, 0, none⟩ 1 1 (five5 Z k) rfl rfl (five5_box _ Z k 54) (five5_one1 Z k) ?d3 ?d4 ?d5 ?_)
        case d3 => have := HPN.out; unfold maxLen; omega
        case d4 => have := HPN.out; omega
        case d5 => simp; omega
        · intro v' w2 hown' hg2 hnil
          have hall0 := (World.grownBy_alloc (wr.drewN nq) _ _).trans hg2
          have hall : wr.grownBy w2 v.ownBlock := ⟨hall0.os, hall0.tape, hall0.output, hall0.size, hall0.block⟩
          clear hall0
          have HO : Hid (w2.ownsRow w1.heap.size 54 5 v' (upto (posW Z (Zp 0) n) (k + 1)) ((List.range (upto (posW Z (Zp 0) n) (k + 1))).flatMap (five5 (insW Z n (Zp 0) Zp)))) := by
            unfold Hid
            rw [(upto_lt HLT.out).1, (upto_lt HLT.out).2]
            exact hown'
          have HNN' : Hid (v' ≠ .slice none 0 0) := by
            intro e
            have h0 := HNN.out
            simp [e] at hnil
          have hs2 : w1.heap.size ≤ w2.heap.size := Nat.le_trans hsz hall.size
          have hb2 : Below w1.heap.size w1 w2 := hbel.grown hall hsz (fun kk e => (ho.lt kk e).1)
          clear hown' hg2 hnil hall ho c0 c1 c2 c3 c4 HNN x0 x1 x2 x3 x4
          go_wp2
          go_roundw
          case rel => exact ⟨k + 1, _, by omega, by go_num, rfl, by have := HLT.out; rw [decide_eq_false (by omega)], HNN'.out, HO.out, hs2, hb2⟩
          case measure => simp [intOf]; omega
      · have hd : decide (posW Z (Zp 0) n < k) = false := decide_eq_false (by omega)
        have hd2 : decide (Zp 0 < Z k 0) = true := HHI.out k heq.symm hkn
        rw [hd]
        have HEQ : Hid (k = posW Z (Zp 0) n) := heq
        clear heq hd
        go_wp2_with fail
        go_quiet (fail)
        go_wp2_with (at_builtin; refine wpList_append_own _ rfl _ _ 32 rfl w1.heap.size 54 i5 (.agg #[.int .i64 0, .int .i64 0, .int .i64 0, .int .i64 0, .int .i64 0]) 5 40 Tryz.underlying32 hi5 hz50 hz51 hz52 rfl (by decide) _ _ _ rfl (ho.alloc _) ⟨wr.heap.size, 0, none⟩ 1 1 (five5 (fun _ => Zp) 0) rfl rfl (five5_box _ (fun _ => Zp) 0 54) (five5_one1 (fun _ => Zp) 0) ?d3 ?d4 ?d5 ?_)
        case d3 => have := HPN.out; unfold maxLen; omega
        case d4 => have := HPN.out; omega
        case d5 => simp; omega
        · intro v1 w2 hown' hg2 hnil
          have hall0 := (World.grownBy_alloc (wr.drewN nq) _ _).trans hg2
          have hall : wr.grownBy w2 v.ownBlock := ⟨hall0.os, hall0.tape, hall0.output, hall0.size, hall0.block⟩
          clear hall0
          have HO1 : w2.ownsRow w1.heap.size 54 5 v1 (upto (posW Z (Zp 0) n) k + 1) ((List.range (upto (posW Z (Zp 0) n) k)).flatMap (five5 (insW Z n (Zp 0) Zp)) ++ five5 (fun _ => Zp) 0) := hown'
          have HNN1 : Hid (v1 ≠ .slice none 0 0) := by
            intro e
            have h0 := HNN.out
            simp [e] at hnil
          have hs2 : w1.heap.size ≤ w2.heap.size := Nat.le_trans hsz hall.size
          have hb2 : Below w1.heap.size w1 w2 := hbel.grown hall hsz (fun kk e => (ho.lt kk e).1)
          clear c0 c1 c2 c3 c4
          have c0 : w2.cell? ⟨g, k * 5, none⟩ = some (.int .i64 (Z k 0)) := (hb2.cell (by exact hgl)).trans (HR.out k 0 hkn (by omega)).2.2
          have c1 : w2.cell? ⟨g, k * 5 + 1, none⟩ = some (.int .i64 (Z k 1)) := (hb2.cell (by exact hgl)).trans (HR.out k 1 hkn (by omega)).2.2
          have c2 : w2.cell? ⟨g, k * 5 + 2, none⟩ = some (.int .i64 (Z k 2)) := (hb2.cell (by exact hgl)).trans (HR.out k 2 hkn (by omega)).2.2
          have c3 : w2.cell? ⟨g, k * 5 + 3, none⟩ = some (.int .i64 (Z k 3)) := (hb2.cell (by exact hgl)).trans (HR.out k 3 hkn (by omega)).2.2
          have c4 : w2.cell? ⟨g, k * 5 + 4, none⟩ = some (.int .i64 (Z k 4)) := (hb2.cell (by exact hgl)).trans (HR.out k 4 hkn (by omega)).2.2
          clear hown' hg2 hnil hall ho HNN x0 x1 x2 x3 x4 hbel hsz hd2
          go_wp2_with (at_builtin; refine wpList_append_own _ rfl _ _ 32 rfl w1.heap.size 54 i5 (.agg #[.int .i64 0, .int .i64 0, .int .i64 0, .int .i64 0, .int .i64 0]) 5 40 Tryz.underlying32 hi5 hz50 hz51 hz52 rfl (by decide) _ _ _ rfl (HO1.alloc _) ⟨w2.heap.size, 0, none⟩ 1 1 (five5 Z k) rfl rfl (five5_box _ Z k 54) (five5_one1 Z k) ?d3 ?d4 ?d5 ?_)
          case d3 => have := HPN.out; unfold maxLen; omega
          case d4 => have := HPN.out; omega
          case d5 => simp; omega
          · intro v' w3 hown' hg3 hnil
            have hall := (World.grownBy_alloc w2 _ _).trans hg3
            have HO : Hid (w3.ownsRow w1.heap.size 54 5 v' (upto (posW Z (Zp 0) n) (k + 1)) ((List.range (upto (posW Z (Zp 0) n) (k + 1))).flatMap (five5 (insW Z n (Zp 0) Zp)))) := by
              unfold Hid
              rw [(upto_eq HEQ.out).1, (upto_eq HEQ.out).2, List.append_assoc]
              exact hown'
            have HNN' : Hid (v' ≠ .slice none 0 0) := by
              intro e
              have h0 := HNN1.out
              simp [e] at hnil
            have hs3 : w1.heap.size ≤ w3.heap.size := Nat.le_trans hs2 hall.size
            have hb3 : Below w1.heap.size w1 w3 := hb2.grown hall hs2 (fun kk e => (HO1.lt kk e).1)
            clear hown' hg3 hnil hall HO1 c0 c1 c2 c3 c4 HNN1
            go_wp2
            go_roundw
            case rel => exact ⟨k + 1, _, by omega, by go_num, rfl, by have := HEQ.out; rw [decide_eq_true (by omega)], HNN'.out, HO.out, hs3, hb3⟩
            case measure => simp [intOf]; omega
      · have hd : decide (posW Z (Zp 0) n < k) = true := decide_eq_true hgt
        rw [hd]
        have HGT : Hid (posW Z (Zp 0) n < k) := hgt
        clear hgt hd
        go_wp2_with fail
        go_quiet (fail)
        go_wp2_with (at_builtin; refine wpList_append_own _ rfl _ _ 32 rfl w1.heap.size 54 i5 (.agg #[.int .i64 0, .int .i64 0, .int .i64 0, .int .i64 0, .int .i64 0]) 5 40 Tryz.underlying32 hi5 hz50 hz51 hz52 rfl (by decide) _ _ _ rfl (ho.alloc _) ⟨wr.heap.size, 0, none⟩ 1 1 (five5 Z k) rfl rfl (five5_box _ Z k 54) (five5_one1 Z k) ?d3 ?d4 ?d5 ?_)
        case d3 => have := HPN.out; unfold maxLen; omega
        case d4 => have := HPN.out; omega
        case d5 => simp; omega
        · intro v' w2 hown' hg2 hnil
          have hall0 := (World.grownBy_alloc (wr.drewN nq) _ _).trans hg2
          have hall : wr.grownBy w2 v.ownBlock := ⟨hall0.os, hall0.tape, hall0.output, hall0.size, hall0.block⟩
          clear hall0
          have HO : Hid (w2.ownsRow w1.heap.size 54 5 v' (upto (posW Z (Zp 0) n) (k + 1)) ((List.range (upto (posW Z (Zp 0) n) (k + 1))).flatMap (five5 (insW Z n (Zp 0) Zp)))) := by
            unfold Hid
            rw [(upto_gt HGT.out).1, (upto_gt HGT.out).2]
            exact hown'
          have HNN' : Hid (v' ≠ .slice none 0 0) := by
            intro e
            have h0 := HNN.out
            simp [e] at hnil
          have hs2 : w1.heap.size ≤ w2.heap.size := Nat.le_trans hsz hall.size
          have hb2 : Below w1.heap.size w1 w2 := hbel.grown hall hsz (fun kk e => (ho.lt kk e).1)
          clear hown' hg2 hnil hall ho c0 c1 c2 c3 c4 HNN x0 x1 x2 x3 x4
          go_wp2
          go_roundw
          case rel => exact ⟨k + 1, _, by omega, by go_num, rfl, by have := HGT.out; rw [decide_eq_true (by omega)], HNN'.out, HO.out, hs2, hb2⟩
          case measure => simp [intOf]; omega
    · have hkn' : k = n := by omega
      subst hkn'
      by_cases hsp : posW Z (Zp 0) k < k
      · have hd : decide (posW Z (Zp 0) k < k) = true := decide_eq_true hsp
        rw [hd]
        have HW : Hid (wr.ownsRow w.heap.size 54 5 v (k + 1) ((List.range (k + 1)).flatMap (five5 (insW Z k (Zp 0) Zp)))) := by
          have e : upto (posW Z (Zp 0) k) k = k + 1 := if_pos hsp
          rw [e] at ho
          exact ownsRow_base ho (Nat.le_of_lt hs1)
        have hbb : Below w.heap.size w wr := B1.trans (hbel.mono (Nat.le_of_lt hs1))
        clear ho hsp hd
        go_wp2
        go_ret
        exact ⟨_, rfl, HW.out, hbb⟩
      · have hd : decide (posW Z (Zp 0) k < k) = false := decide_eq_false hsp
        rw [hd]
        have HSP : Hid (¬ posW Z (Zp 0) k < k) := hsp
        rw [(upto_end hsp).1] at ho
        clear hsp hd
        go_wp2_with (at_builtin; refine wpList_append_own _ rfl _ _ 32 rfl w1.heap.size 54 i5 (.agg #[.int .i64 0, .int .i64 0, .int .i64 0, .int .i64 0, .int .i64 0]) 5 40 Tryz.underlying32 hi5 hz50 hz51 hz52 rfl (by decide) _ _ _ rfl (ho.alloc _) ⟨wr.heap.size, 0, none⟩ 1 1 (five5 (fun _ => Zp) 0) rfl rfl (five5_box _ (fun _ => Zp) 0 54) (five5_one1 (fun _ => Zp) 0) ?d3 ?d4 ?d5 ?_)
        case d3 => unfold maxLen; omega
        case d4 => omega
        case d5 => simp; omega
        · intro v' w2 hown' hg2 hnil
          have hall := (World.grownBy_alloc wr _ _).trans hg2
          have HW : Hid (w2.ownsRow w.heap.size 54 5 v' (k + 1) ((List.range (k + 1)).flatMap (five5 (insW Z k (Zp 0) Zp)))) := by
            rw [(upto_end HSP.out).2]
            exact ownsRow_base hown' (Nat.le_of_lt hs1)
          have hb2 : Below w1.heap.size w1 w2 := hbel.grown hall hsz (fun kk e => (ho.lt kk e).1)
          have hbb : Below w.heap.size w w2 := B1.trans (hb2.mono (Nat.le_of_lt hs1))
          clear hown' hg2 hnil hall ho HNN x0 x1 x2 x3 x4
          go_wp2
          go_ret
          exact ⟨_, rfl, HW.out, hbb⟩
theorem put_over (a : Option Addr) (b n cap m : Nat) (Z : Nat → Nat → Int) (Zp : Nat → Int) (hn : n ≤ 1048576) (w : World) (hb : n ≠ 0 → b < w.heap.size) (ha : n ≠ 0 → a = some ⟨b, 0, none⟩) (hup : Rise Z n) (hm : m < n) (hz : Z m 0 = Zp 0) (hr : ∀ k j, k < n → j < 5 → w.cell? ⟨b, k * 5 + j, none⟩ = some (.int .i64 (Z k j))) :
    Calls Tryz.prog 81 #[.slice a n cap, .agg #[.int .i64 (Zp 0), .int .i64 (Zp 1), .int .i64 (Zp 2), .int .i64 (Zp 3), .int .i64 (Zp 4)]] w fun e w' => ∃ v, e = .returned v ∧ w'.ownsRow w.heap.size 54 5 v n ((List.range n).flatMap (five5 (updW Z m Zp))) ∧ Below w.heap.size w w' := by
  have HB0 : ∀ o : Obj, Below w.heap.size w (w.alloc o) := fun o => (Below.refl _ _).alloc (Nat.le_refl _) o
  have hno : Noone (delW Z m) (n - 1) (Zp 0) := fun j hj e => by
    unfold delW at e
    split at e
    · have := hup.one (show j < n by omega) hm (by omega); omega
    · have := hup.one (show j + 1 < n by omega) hm (by omega); omega
  refine (put_rest (.slice a n cap) (n - 1) (delW Z m) Zp (by omega) w hup.del hno (fun ob => out_one (Zp 0) a b n cap m Z hn (w.alloc ob) (fun h => by have := hb h; simp; omega) ha hm hz (fun j hj hne e => hne (hup.one hj hm (by omega))) (fun k j h1 h2 => ((HB0 ob).cell (p := ⟨b, _, none⟩) (hb (by omega))).trans (hr k j h1 h2)))).mono ?_
  rintro e w' ⟨v, rfl, h1, h2⟩
  refine ⟨v, rfl, ?_, h2⟩
  have hn1 : n - 1 + 1 = n := by omega
  rw [hn1] at h1
  have h0 : ∀ k ∈ List.range n, five5 (insW (delW Z m) (n - 1) (Zp 0) Zp) k = five5 (updW Z m Zp) k := fun k hk => five5_eq (by rw [← hz]; exact ins_del hup hm k (List.mem_range.1 hk))
  rw [List.flatMap_def, List.map_congr_left h0, ← List.flatMap_def] at h1
  exact h1
end Go.Proofs.YthbkjfkkdaheoaaGreatDoor
