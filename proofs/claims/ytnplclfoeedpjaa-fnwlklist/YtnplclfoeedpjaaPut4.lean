/- The walk of the model's WlkPut; conditions: the list lies in memory as a row of structs of five integers. -/
import Derived.Test.YtnplclfoeedpjaaPut3
import Derived.BigQuiet
namespace Go.Proofs.Ytnplclfoeedpjaa
open Go.RowKit Go.Deep Go.Maps
set_option linter.unusedVariables false

/-- What the model has written behind k rounds. -/
def pre (Z : Nat → Nat → Int) (n : Nat) (L : List Nat) (k : Nat) : List Nat := if k ≤ spot Z n L then L.take k else L.take (spot Z n L) ++ n :: (L.take k).drop (spot Z n L)

theorem take_next {L : List Nat} {k : Nat} (hk : k < L.length) : L.take (k + 1) = L.take k ++ [L[k]!] := by
  rw [List.take_succ_eq_append_getElem hk, getElem!_pos L k hk]
theorem pre_lt {Z : Nat → Nat → Int} {n : Nat} {L : List Nat} {k : Nat} (hk : k < L.length) (h : k < spot Z n L) : pre Z n L (k + 1) = pre Z n L k ++ [L[k]!] := by
  unfold pre
  rw [if_pos (by omega), if_pos (by omega), take_next hk]
theorem pre_eq {Z : Nat → Nat → Int} {n : Nat} {L : List Nat} {k : Nat} (hk : k < L.length) (h : k = spot Z n L) : pre Z n L (k + 1) = pre Z n L k ++ [n] ++ [L[k]!] := by
  unfold pre
  rw [if_neg (by omega), if_pos (by omega), take_next hk, ← h, List.drop_append_of_le_length (by simp; omega), List.drop_of_length_le (by simp; omega)]
  simp
theorem pre_gt {Z : Nat → Nat → Int} {n : Nat} {L : List Nat} {k : Nat} (hk : k < L.length) (h : spot Z n L < k) : pre Z n L (k + 1) = pre Z n L k ++ [L[k]!] := by
  unfold pre
  rw [if_neg (by omega), if_neg (by omega), take_next hk, List.drop_append_of_le_length (by simp; omega)]
  simp
theorem pre_done {Z : Nat → Nat → Int} {n : Nat} {L : List Nat} (h : spot Z n L < L.length) : pre Z n L L.length = putAt Z n L := by
  unfold pre putAt
  rw [if_neg (by omega), List.take_length]
theorem pre_not {Z : Nat → Nat → Int} {n : Nat} {L : List Nat} (h : ¬ spot Z n L < L.length) : pre Z n L L.length ++ [n] = putAt Z n L := by
  have := spot_le Z n L
  unfold pre putAt
  rw [if_pos (by omega), show spot Z n L = L.length by omega, List.drop_length]
theorem pre_len {Z : Nat → Nat → Int} {n : Nat} {L : List Nat} (k : Nat) : (pre Z n L k).length ≤ k + 1 := by
  have := spot_le Z n L
  unfold pre
  split
  · simp; omega
  · simp; omega

theorem five_cells (w : World) (Z : Nat → Nat → Int) (k : Nat) (t : TypeId) : ∀ j u, (five Z k)[j]? = some u → (w.alloc (.cells #[.int .i64 (Z k 0), .int .i64 (Z k 1), .int .i64 (Z k 2), .int .i64 (Z k 3), .int .i64 (Z k 4)] t)).cell? ((⟨w.heap.size, 0, none⟩ : Addr).add j) = some u := by
  intro j u hj
  match j, hj with
  | 0, hj => simp [five] at hj; subst hj; simp [Addr.add]
  | 1, hj => simp [five] at hj; subst hj; simp [Addr.add]
  | 2, hj => simp [five] at hj; subst hj; simp [Addr.add]
  | 3, hj => simp [five] at hj; subst hj; simp [Addr.add]
  | 4, hj => simp [five] at hj; subst hj; simp [Addr.add]
  | j + 5, hj => simp [five] at hj
theorem five_one1 (Z : Nat → Nat → Int) (k : Nat) : ∀ u ∈ five Z k, u.oneCell' = true := fun u hu => five_one Z [k] u (by simpa using hu)

set_option maxRecDepth 20000 in
set_option maxHeartbeats 4000000 in
theorem put_spec (b o n cap : Nat) (Z : Nat → Nat → Int) (hn : n ≤ 1048576) (w : World) (hb : b < w.heap.size)
    (hr : ∀ k j, k < n → j < 5 → w.cell? ⟨b, o + k * 5 + j, none⟩ = some (.int .i64 (Z k j))) :
    Calls Try.prog 7 #[.slice (some ⟨b, o, none⟩) n cap, .agg #[.int .i64 (Z n 0), .int .i64 (Z n 1), .int .i64 (Z n 2), .int .i64 (Z n 3), .int .i64 (Z n 4)]] w fun e w' => ∃ v, e = .returned v ∧ Walks w' w.heap.size v (putL Z n) Z ∧ Below w.heap.size w w' := by
  obtain ⟨i5, hi5, hz50, hz51, hz52⟩ := info_parts Try.info25
  have hb0 : ∀ o : Obj, Below w.heap.size w (w.alloc o) := fun o => (Below.refl _ _).alloc (Nat.le_refl _) o
  have HB0 : Hid (∀ o : Obj, Below w.heap.size w (w.alloc o)) := hb0
  have HC : Hid (∀ ob : Obj, Calls Try.prog 16 #[.slice (some ⟨b, o, none⟩) n cap, .int .i64 (Z n 0)] (w.alloc ob) fun e w' => ∃ v, e = .returned v ∧ Walks w' (w.heap.size + 1) v (rest Z n (Z n 0)) Z ∧ Below (w.heap.size + 1) (w.alloc ob) w') := fun ob => by
    have := out_spec (Z n 0) b o n cap Z hn (w.alloc ob) (by simp; omega) (cells_below hr hb (hb0 ob))
    simpa using this
  have hLn : (rest Z n (Z n 0)).length ≤ 1048576 := Nat.le_trans (rest_len Z n (Z n 0)) hn
  have HLn : Hid ((rest Z n (Z n 0)).length ≤ 1048576) := hLn
  clear hr hb0 hLn
  go_enter Try.func7, Try.ntmps7
  go_wp2_with fail
  refine (HC.out _).mono ?_
  rintro e w1 ⟨v, rfl, hW, hb1⟩
  have x0 : w1.cell? ⟨w.heap.size, 0, none⟩ = some (.int .i64 (Z n 0)) := (hb1.cell (p := ⟨w.heap.size, 0, none⟩) (by simp)).trans (by simp)
  have x1 : w1.cell? ⟨w.heap.size, 1, none⟩ = some (.int .i64 (Z n 1)) := (hb1.cell (p := ⟨w.heap.size, 1, none⟩) (by simp)).trans (by simp)
  have x2 : w1.cell? ⟨w.heap.size, 2, none⟩ = some (.int .i64 (Z n 2)) := (hb1.cell (p := ⟨w.heap.size, 2, none⟩) (by simp)).trans (by simp)
  have x3 : w1.cell? ⟨w.heap.size, 3, none⟩ = some (.int .i64 (Z n 3)) := (hb1.cell (p := ⟨w.heap.size, 3, none⟩) (by simp)).trans (by simp)
  have x4 : w1.cell? ⟨w.heap.size, 4, none⟩ = some (.int .i64 (Z n 4)) := (hb1.cell (p := ⟨w.heap.size, 4, none⟩) (by simp)).trans (by simp)
  have hs1 : w.heap.size < w1.heap.size := by have := hb1.size; simp at this; omega
  have B1 : Below w.heap.size w w1 := (HB0.out _).trans (hb1.mono (Nat.le_succ _))
  obtain ⟨L, hL⟩ : ∃ L, L = rest Z n (Z n 0) := ⟨_, rfl⟩
  have HPL : Hid (putL Z n = putAt Z n L) := by rw [hL]; rfl
  rw [← hL] at hW HLn
  obtain ⟨g, c, hv, hbg, hgl, hown⟩ := hW.own
  subst hv
  have HR : Hid (∀ k j, k < L.length → j < 5 → w1.cell? ⟨g, k * 5 + j, none⟩ = some (.int .i64 (Z L[k]! j))) := fun k j hk hj => hown.2 k j hk hj
  have HS : Hid (spot Z n L ≤ L.length) := spot_le Z n L
  have HX : Hid (w1.cell? ⟨w.heap.size, 0, none⟩ = some (.int .i64 (Z n 0)) ∧ w1.cell? ⟨w.heap.size, 1, none⟩ = some (.int .i64 (Z n 1)) ∧ w1.cell? ⟨w.heap.size, 2, none⟩ = some (.int .i64 (Z n 2)) ∧ w1.cell? ⟨w.heap.size, 3, none⟩ = some (.int .i64 (Z n 3)) ∧ w1.cell? ⟨w.heap.size, 4, none⟩ = some (.int .i64 (Z n 4))) := ⟨x0, x1, x2, x3, x4⟩
  clear hW hb1 HC hL HB0 hown x0 x1 x2 x3 x4 hbg
  go_wp2
  go_loopw [6, 7, 8] (fun s d i wr => ∃ (k : Nat) (v : Value), k ≤ L.length ∧ .int .i64 k = i ∧ v = s ∧ .bool (decide (spot Z n L < k)) = d ∧ v ≠ .slice none 0 0 ∧ wr.ownsRow w1.heap.size 25 5 v (pre Z n L k).length ((pre Z n L k).flatMap (five Z)) ∧ w1.heap.size ≤ wr.heap.size ∧ Below w1.heap.size w1 wr) (fun _ _ i _ => L.length - (intOf i).toNat)
  case atStart => exact ⟨0, _, Nat.zero_le _, rfl, rfl, by simp, by simp, World.ownsRow_lit w1 #[] 0 (Nat.le_refl _) (by simp) (by simp), by simp, (Below.refl _ _).alloc (by simp) _⟩
  case round =>
    obtain ⟨k, v, hk, rfl, rfl, rfl, hnn, ho, hsz, hbel⟩ := hrel
    have x0 : wr.cell? ⟨w.heap.size, 0, none⟩ = some (.int .i64 (Z n 0)) := (hbel.cell (by exact hs1)).trans HX.out.1
    have x1 : wr.cell? ⟨w.heap.size, 1, none⟩ = some (.int .i64 (Z n 1)) := (hbel.cell (by exact hs1)).trans HX.out.2.1
    have x2 : wr.cell? ⟨w.heap.size, 2, none⟩ = some (.int .i64 (Z n 2)) := (hbel.cell (by exact hs1)).trans HX.out.2.2.1
    have x3 : wr.cell? ⟨w.heap.size, 3, none⟩ = some (.int .i64 (Z n 3)) := (hbel.cell (by exact hs1)).trans HX.out.2.2.2.1
    have x4 : wr.cell? ⟨w.heap.size, 4, none⟩ = some (.int .i64 (Z n 4)) := (hbel.cell (by exact hs1)).trans HX.out.2.2.2.2
    have HNN : Hid (v ≠ .slice none 0 0) := hnn
    have hll : L.length ≤ 1048576 := HLn.out
    have HPN : Hid ((pre Z n L k).length ≤ k + 1) := pre_len k
    clear hnn
    by_cases hkn : k < L.length
    · have hkn' : (k : Int) < (L.length : Int) := by omega
      obtain ⟨p, hp⟩ : ∃ p, L[k]! = p := ⟨_, rfl⟩
      have HP0 : Hid (L[k]! = p) := hp
      have HP1 : Hid (k = spot Z n L → Z n 0 < Z p 0) := fun e => by rw [← hp, e]; exact spot_at (by rw [← e]; exact hkn)
      have HP2 : Hid (k < spot Z n L → decide (Z n 0 < Z p 0) = false) := fun e => by rw [← hp]; exact decide_eq_false (spot_lt e)
      have c0 : wr.cell? ⟨g, k * 5, none⟩ = some (.int .i64 (Z p 0)) := (hbel.cell (by exact hgl)).trans (by rw [← hp]; exact HR.out k 0 hkn (by omega))
      have c1 : wr.cell? ⟨g, k * 5 + 1, none⟩ = some (.int .i64 (Z p 1)) := (hbel.cell (by exact hgl)).trans (by rw [← hp]; exact HR.out k 1 hkn (by omega))
      have c2 : wr.cell? ⟨g, k * 5 + 2, none⟩ = some (.int .i64 (Z p 2)) := (hbel.cell (by exact hgl)).trans (by rw [← hp]; exact HR.out k 2 hkn (by omega))
      have c3 : wr.cell? ⟨g, k * 5 + 3, none⟩ = some (.int .i64 (Z p 3)) := (hbel.cell (by exact hgl)).trans (by rw [← hp]; exact HR.out k 3 hkn (by omega))
      have c4 : wr.cell? ⟨g, k * 5 + 4, none⟩ = some (.int .i64 (Z p 4)) := (hbel.cell (by exact hgl)).trans (by rw [← hp]; exact HR.out k 4 hkn (by omega))
      clear hp
      rcases Nat.lt_trichotomy k (spot Z n L) with hlt | heq | hgt
      · have hd : decide (spot Z n L < k) = false := decide_eq_false (by omega)
        have hd2 : decide (Z n 0 < Z p 0) = false := HP2.out hlt
        rw [hd]
        have HLT : Hid (k < spot Z n L) := hlt
        clear hlt hd
        go_wp2_with fail
        go_quiet (fail)
        go_wp2_with (at_builtin; refine wpList_append_own _ rfl _ _ 23 rfl w1.heap.size 25 i5 (.agg #[.int .i64 0, .int .i64 0, .int .i64 0, .int .i64 0, .int .i64 0]) 5 40 Try.underlying23 hi5 hz50 hz51 hz52 rfl (by decide) _ _ _ rfl (ho.alloc _) ⟨wr.heap.size, 0, none⟩ 1 1 (five Z p) rfl rfl (five_cells _ Z p 25) (five_one1 Z p) ?d3 ?d4 ?d5 ?_)
        case d3 => have := HPN.out; have := HLn.out; unfold maxLen; omega
        case d4 => have := HPN.out; have := HLn.out; omega
        case d5 => simp; omega
        · intro v' w2 hown' hg2 hnil
          have hall0 := (World.grownBy_alloc (wr.drewN nq) _ _).trans hg2
          have hall : wr.grownBy w2 v.ownBlock := ⟨hall0.os, hall0.tape, hall0.output, hall0.size, hall0.block⟩
          clear hall0
          have HO : Hid (w2.ownsRow w1.heap.size 25 5 v' (pre Z n L (k + 1)).length ((pre Z n L (k + 1)).flatMap (five Z))) := by
            unfold Hid
            rw [pre_lt hkn HLT.out, HP0.out, List.length_append, List.flatMap_append]
            simpa using hown'
          have HNN' : Hid (v' ≠ .slice none 0 0) := by
            intro e
            have h0 := HNN.out
            simp [e] at hnil
          have hs2 : w1.heap.size ≤ w2.heap.size := Nat.le_trans hsz hall.size
          have hb2 : Below w1.heap.size w1 w2 := hbel.grown hall hsz (fun kk e => (ho.lt kk e).1)
          clear hown' hg2 hnil hall ho c0 c1 c2 c3 c4 HNN x0 x1 x2 x3 x4
          go_wp2
          go_roundw
          case rel => exact ⟨k + 1, _, by omega, by go_num, rfl, by have := HLT.out; rw [decide_eq_false (by omega)], HNN'.out, HO.out, hs2, hb2⟩
          case measure => simp [intOf]; omega
      · have hd : decide (spot Z n L < k) = false := decide_eq_false (by omega)
        have hd2 : decide (Z n 0 < Z p 0) = true := decide_eq_true (HP1.out heq)
        rw [hd]
        have HEQ : Hid (k = spot Z n L) := heq
        clear heq hd
        go_wp2_with fail
        go_quiet (fail)
        go_wp2_with (at_builtin; refine wpList_append_own _ rfl _ _ 23 rfl w1.heap.size 25 i5 (.agg #[.int .i64 0, .int .i64 0, .int .i64 0, .int .i64 0, .int .i64 0]) 5 40 Try.underlying23 hi5 hz50 hz51 hz52 rfl (by decide) _ _ _ rfl (ho.alloc _) ⟨wr.heap.size, 0, none⟩ 1 1 (five Z n) rfl rfl (five_cells _ Z n 25) (five_one1 Z n) ?d3 ?d4 ?d5 ?_)
        case d3 => have := HPN.out; have := HLn.out; unfold maxLen; omega
        case d4 => have := HPN.out; have := HLn.out; omega
        case d5 => simp; omega
        · intro v1 w2 hown' hg2 hnil
          have hall0 := (World.grownBy_alloc (wr.drewN nq) _ _).trans hg2
          have hall : wr.grownBy w2 v.ownBlock := ⟨hall0.os, hall0.tape, hall0.output, hall0.size, hall0.block⟩
          clear hall0
          have HO1 : w2.ownsRow w1.heap.size 25 5 v1 ((pre Z n L k).length + 1) ((pre Z n L k).flatMap (five Z) ++ five Z n) := hown'
          have HNN1 : Hid (v1 ≠ .slice none 0 0) := by
            intro e
            have h0 := HNN.out
            simp [e] at hnil
          have hs2 : w1.heap.size ≤ w2.heap.size := Nat.le_trans hsz hall.size
          have hb2 : Below w1.heap.size w1 w2 := hbel.grown hall hsz (fun kk e => (ho.lt kk e).1)
          have c0 : w2.cell? ⟨g, k * 5, none⟩ = some (.int .i64 (Z p 0)) := (hb2.cell (by exact hgl)).trans (by rw [← HP0.out]; exact HR.out k 0 hkn (by omega))
          have c1 : w2.cell? ⟨g, k * 5 + 1, none⟩ = some (.int .i64 (Z p 1)) := (hb2.cell (by exact hgl)).trans (by rw [← HP0.out]; exact HR.out k 1 hkn (by omega))
          have c2 : w2.cell? ⟨g, k * 5 + 2, none⟩ = some (.int .i64 (Z p 2)) := (hb2.cell (by exact hgl)).trans (by rw [← HP0.out]; exact HR.out k 2 hkn (by omega))
          have c3 : w2.cell? ⟨g, k * 5 + 3, none⟩ = some (.int .i64 (Z p 3)) := (hb2.cell (by exact hgl)).trans (by rw [← HP0.out]; exact HR.out k 3 hkn (by omega))
          have c4 : w2.cell? ⟨g, k * 5 + 4, none⟩ = some (.int .i64 (Z p 4)) := (hb2.cell (by exact hgl)).trans (by rw [← HP0.out]; exact HR.out k 4 hkn (by omega))
          clear hown' hg2 hnil hall ho HNN x0 x1 x2 x3 x4 hbel hsz hd2
          go_wp2_with (at_builtin; refine wpList_append_own _ rfl _ _ 23 rfl w1.heap.size 25 i5 (.agg #[.int .i64 0, .int .i64 0, .int .i64 0, .int .i64 0, .int .i64 0]) 5 40 Try.underlying23 hi5 hz50 hz51 hz52 rfl (by decide) _ _ _ rfl (HO1.alloc _) ⟨w2.heap.size, 0, none⟩ 1 1 (five Z p) rfl rfl (five_cells _ Z p 25) (five_one1 Z p) ?d3 ?d4 ?d5 ?_)
          case d3 => have := HPN.out; have := HLn.out; unfold maxLen; omega
          case d4 => have := HPN.out; have := HLn.out; omega
          case d5 => simp; omega
          · intro v' w3 hown' hg3 hnil
            have hall := (World.grownBy_alloc w2 _ _).trans hg3
            have HO : Hid (w3.ownsRow w1.heap.size 25 5 v' (pre Z n L (k + 1)).length ((pre Z n L (k + 1)).flatMap (five Z))) := by
              unfold Hid
              rw [pre_eq hkn HEQ.out, HP0.out, List.length_append, List.length_append, List.flatMap_append, List.flatMap_append]
              simpa using hown'
            have HNN' : Hid (v' ≠ .slice none 0 0) := by
              intro e
              have h0 := HNN1.out
              simp [e] at hnil
            have hs3 : w1.heap.size ≤ w3.heap.size := Nat.le_trans hs2 hall.size
            have hb3 : Below w1.heap.size w1 w3 := hb2.grown hall hs2 (fun kk e => (HO1.lt kk e).1)
            clear hown' hg3 hnil hall HO1 c0 c1 c2 c3 c4 HNN1
            go_wp2
            go_roundw
            case rel => exact ⟨k + 1, _, by omega, by go_num, rfl, by have := HEQ.out; rw [decide_eq_true (by omega)], HNN'.out, HO.out, hs3, hb3⟩
            case measure => simp [intOf]; omega
      · have hd : decide (spot Z n L < k) = true := decide_eq_true hgt
        rw [hd]
        have HGT : Hid (spot Z n L < k) := hgt
        clear hgt hd
        go_wp2_with fail
        go_quiet (fail)
        go_wp2_with (at_builtin; refine wpList_append_own _ rfl _ _ 23 rfl w1.heap.size 25 i5 (.agg #[.int .i64 0, .int .i64 0, .int .i64 0, .int .i64 0, .int .i64 0]) 5 40 Try.underlying23 hi5 hz50 hz51 hz52 rfl (by decide) _ _ _ rfl (ho.alloc _) ⟨wr.heap.size, 0, none⟩ 1 1 (five Z p) rfl rfl (five_cells _ Z p 25) (five_one1 Z p) ?d3 ?d4 ?d5 ?_)
        case d3 => have := HPN.out; have := HLn.out; unfold maxLen; omega
        case d4 => have := HPN.out; have := HLn.out; omega
        case d5 => simp; omega
        · intro v' w2 hown' hg2 hnil
          have hall0 := (World.grownBy_alloc (wr.drewN nq) _ _).trans hg2
          have hall : wr.grownBy w2 v.ownBlock := ⟨hall0.os, hall0.tape, hall0.output, hall0.size, hall0.block⟩
          clear hall0
          have HO : Hid (w2.ownsRow w1.heap.size 25 5 v' (pre Z n L (k + 1)).length ((pre Z n L (k + 1)).flatMap (five Z))) := by
            unfold Hid
            rw [pre_gt hkn HGT.out, HP0.out, List.length_append, List.flatMap_append]
            simpa using hown'
          have HNN' : Hid (v' ≠ .slice none 0 0) := by
            intro e
            have h0 := HNN.out
            simp [e] at hnil
          have hs2 : w1.heap.size ≤ w2.heap.size := Nat.le_trans hsz hall.size
          have hb2 : Below w1.heap.size w1 w2 := hbel.grown hall hsz (fun kk e => (ho.lt kk e).1)
          clear hown' hg2 hnil hall ho c0 c1 c2 c3 c4 HNN x0 x1 x2 x3 x4
          go_wp2
          go_roundw
          case rel => exact ⟨k + 1, _, by omega, by go_num, rfl, by have := HGT.out; rw [decide_eq_true (by omega)], HNN'.out, HO.out, hs2, hb2⟩
          case measure => simp [intOf]; omega
    · have hkn' : k = L.length := by omega
      subst hkn'
      have close : ∀ (v' : Value) (w' : World), v' ≠ .slice none 0 0 → w'.ownsRow w1.heap.size 25 5 v' (putAt Z n L).length ((putAt Z n L).flatMap (five Z)) → Walks w' w.heap.size v' (putL Z n) Z := fun v' w' h1 h2 => by
        rw [HPL.out]
        rcases h2.2 with ⟨e, _⟩ | ⟨g, c, _, e, _⟩
        · exact absurd e h1
        · exact walks_base ⟨g, c, e, h2⟩ (Nat.le_of_lt hs1)
      have HCL : Hid (∀ (v' : Value) (w' : World), v' ≠ .slice none 0 0 → w'.ownsRow w1.heap.size 25 5 v' (putAt Z n L).length ((putAt Z n L).flatMap (five Z)) → Walks w' w.heap.size v' (putL Z n) Z) := close
      clear close
      by_cases hsp : spot Z n L < L.length
      · have hd : decide (spot Z n L < L.length) = true := decide_eq_true hsp
        rw [hd]
        have HW : Hid (Walks wr w.heap.size v (putL Z n) Z) := HCL.out v wr HNN.out (by rw [← pre_done hsp]; exact ho)
        have hbb : Below w.heap.size w wr := B1.trans (hbel.mono (Nat.le_of_lt hs1))
        clear ho hsp hd
        go_wp2
        go_ret
        exact ⟨_, rfl, HW.out, hbb⟩
      · have hd : decide (spot Z n L < L.length) = false := decide_eq_false hsp
        rw [hd]
        have HSP : Hid (¬ spot Z n L < L.length) := hsp
        clear hsp hd
        go_wp2_with (at_builtin; refine wpList_append_own _ rfl _ _ 23 rfl w1.heap.size 25 i5 (.agg #[.int .i64 0, .int .i64 0, .int .i64 0, .int .i64 0, .int .i64 0]) 5 40 Try.underlying23 hi5 hz50 hz51 hz52 rfl (by decide) _ _ _ rfl (ho.alloc _) ⟨wr.heap.size, 0, none⟩ 1 1 (five Z n) rfl rfl (five_cells _ Z n 25) (five_one1 Z n) ?d3 ?d4 ?d5 ?_)
        case d3 => have := HPN.out; have := HLn.out; unfold maxLen; omega
        case d4 => have := HPN.out; have := HLn.out; omega
        case d5 => simp; omega
        · intro v' w2 hown' hg2 hnil
          have hall := (World.grownBy_alloc wr _ _).trans hg2
          have HNN' : v' ≠ .slice none 0 0 := by
            intro e
            have h0 := HNN.out
            simp [e] at hnil
          have HW : Hid (Walks w2 w.heap.size v' (putL Z n) Z) := HCL.out v' w2 HNN' (by
            rw [← pre_not HSP.out, List.length_append, List.flatMap_append]
            simpa using hown')
          have hb2 : Below w1.heap.size w1 w2 := hbel.grown hall hsz (fun kk e => (ho.lt kk e).1)
          have hbb : Below w.heap.size w w2 := B1.trans (hb2.mono (Nat.le_of_lt hs1))
          clear hown' hg2 hnil hall ho HNN x0 x1 x2 x3 x4 HNN'
          go_wp2
          go_ret
          exact ⟨_, rfl, HW.out, hbb⟩
end Go.Proofs.Ytnplclfoeedpjaa
