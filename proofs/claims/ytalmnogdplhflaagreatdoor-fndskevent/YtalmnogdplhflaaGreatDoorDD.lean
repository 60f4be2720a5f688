/- lineNumbers of the program; conditions: those typed. -/
import Derived.Test.YtalmnogdplhflaaGreatDoorDC
namespace Go.Proofs.YtalmnogdplhflaaGreatDoor
open Go.RowKit
set_option linter.unusedVariables false
set_option maxRecDepth 20000
theorem Tryz.info3k : (Tryz.prog.info? 3).map (fun i => (i.zero, i.size, i.bytes)) = some (some (.int .i64 0), 1, 8) := by kernel_rfl
theorem ints_snoc (A : List Int) (n : Int) : ints (A ++ [n]) = ints A ++ [.int .i64 n] := by simp [ints]
theorem row_below {w w' : World} {base e size n : Nat} {v : Value} {xs : List Value} (h : w.ownsRow base e size v n xs) (hb : Below w.heap.size w w') : w'.ownsRow base e size v n xs :=
  h.kept (w' := w') (row := none) ⟨hb.os, hb.tape, hb.output, hb.size, fun k hk _ => hb.block k hk⟩ (by cases hv : v.ownBlock <;> simp)
/-- A word that is a number, held against what its number is written as. -/
theorem isNum_dd (l : List UInt8) (h0 : 0 ≤ atoiV l) (h1 : atoiV l ≤ 99999) : isNum l = decide (DD (atoiV l) = ⟨l.toArray⟩) := by
  unfold isNum
  rw [Lib.itoa, if_neg (by omega)]
  by_cases h : Lib.decDigits (atoiV l).toNat = l
  · have : DD (atoiV l) = ⟨l.toArray⟩ := by unfold DD; rw [h]
    simp [h0, h1, h, this]
  · have : ¬ DD (atoiV l) = ⟨l.toArray⟩ := by
      intro e
      apply h
      have := congrArg (fun x : ByteArray => x.data.toList) e
      simpa [DD] using this
    simp [h, this]
theorem isNum_out (l : List UInt8) (h : ¬ (0 ≤ atoiV l ∧ atoiV l ≤ 99999)) : isNum l = false := by
  unfold isNum
  rw [decide_eq_false_iff_not]
  exact fun e => h ⟨e.1, e.2.1⟩
theorem nums_no {ps : List ByteArray} {t : List UInt8} (hps : ps.map (fun x => x.data.toList) = words t) {k : Nat} {x : ByteArray} (hx : ps[k]? = some x) (h : isNum x.data.toList = false) : numsOf t = [] := by
  unfold numsOf
  rw [if_neg]
  intro e
  have hm : x.data.toList ∈ words t := by rw [← hps]; exact List.mem_map.2 ⟨x, List.mem_of_getElem? hx, rfl⟩
  have := List.all_eq_true.1 e _ hm
  rw [h] at this
  cases this
theorem nums_all {ps : List ByteArray} {t : List UInt8} (hps : ps.map (fun x => x.data.toList) = words t) (h : ∀ (k : Nat) (x : ByteArray), ps[k]? = some x → isNum x.data.toList = true) : numsOf t = ps.map fun x => atoiV x.data.toList := by
  unfold numsOf
  rw [if_pos]
  · rw [← hps, List.map_map]; rfl
  · rw [← hps, List.all_eq_true]
    intro l hl
    obtain ⟨x, hx, rfl⟩ := List.mem_map.1 hl
    obtain ⟨k, hk⟩ := List.getElem?_of_mem hx
    exact h k x hk
set_option maxHeartbeats 4000000 in
theorem line_numbers (t : ByteArray) (ht : t.size ≤ 100) (w : World) (hE : Env w) :
    Calls Tryz.prog 13 #[.string t] w fun e w' => ∃ v, e = .returned v ∧ w'.ownsRow w.heap.size 3 1 v (numsOf t.data.toList).length (ints (numsOf t.data.toList)) ∧ Below w.heap.size w w' := by
  obtain ⟨i0, hi, hz0, hz1, hz2⟩ := info_parts Tryz.info3k
  have HE := hid hE
  clear hE
  go_enter Tryz.func13, Tryz.ntmps13
  go_wp2_with fail
  refine (split_eq t ht _ HE.out).mono ?_
  rintro e w1 ⟨ps, hps, rfl, e1⟩
  have hb1 : Below w.heap.size w w1 := by rw [e1]; exact (Below.refl _ _).alloc (Nat.le_refl _) _
  have hcell : ∀ (k : Nat) (x : ByteArray), ps[k]? = some x → w1.cell? ⟨w.heap.size, k, none⟩ = some (.string x) := by
    intro k x hx
    rw [e1]
    simp [hx]
  have hlt : w.heap.size < w1.heap.size := by rw [e1]; simp
  have hpl : ps.length ≤ 101 := by
    have h1 := wlen t.data.toList
    rw [size_len, ← hps, List.length_map] at h1
    omega
  have hxs : ∀ (k : Nat) (x : ByteArray), ps[k]? = some x → x.size ≤ 100 := by
    intro k x hx
    have hm : x.data.toList ∈ words t.data.toList := by rw [← hps]; exact List.mem_map.2 ⟨x, List.mem_of_getElem? hx, rfl⟩
    have := word_len t.data.toList _ hm
    rw [size_len, size_len] at this
    omega
  have HE1 := hid (HE.out.on hb1)
  have HPS := hid hps
  have HB1 := hid hb1
  have HC := hid hcell
  have HX := hid hxs
  clear e1 hps hb1 hcell hxs HE
  go_wp2
  go_loopw [3, 10] (fun v i wr => ∃ k : Nat, k ≤ ps.length ∧ .int .i64 k = i ∧ Hid (∀ (j : Nat) (x : ByteArray), j < k → ps[j]? = some x → isNum x.data.toList = true) ∧ wr.ownsRow w1.heap.size 3 1 v k (ints ((ps.take k).map fun x => atoiV x.data.toList)) ∧ Hid (Below w1.heap.size w1 wr)) (fun _ i _ => ps.length - (intOf i).toNat)
  case atStart => exact ⟨0, Nat.zero_le _, rfl, fun j x h => absurd h (Nat.not_lt_zero _), World.ownsRow_nil _ _ _ _, Below.refl _ _⟩
  case round =>
    obtain ⟨k, hk, rfl, hall, hown, hbel⟩ := hrel
    by_cases hks : k < ps.length
    · obtain ⟨x, hx⟩ : ∃ x, ps[k]? = some x := ⟨_, List.getElem?_eq_getElem hks⟩
      have hxk := HX.out k x hx
      have hcx : wr.cell? ⟨w.heap.size, k, none⟩ = some (.string x) := (hbel.out.cell (p := ⟨w.heap.size, k, none⟩) hlt).trans (HC.out k x hx)
      have hks' : (k : Int) < (ps.length : Int) := by omega
      have HO := hid hown
      have HXK := hid hx
      clear hown hx
      go_wp2_with fail
      refine (loose x (by omega) _ (HE1.out.on hbel.out)).mono ?_
      rintro e w2 ⟨rfl, hb2⟩
      have HB2 := hid (bthen hbel.out hb2)
      have HO2 := hid (row_below HO.out hb2)
      clear hb2 hcx hbel HO
      by_cases hin : 0 ≤ atoiV x.data.toList ∧ atoiV x.data.toList ≤ 99999
      · obtain ⟨n0, n1⟩ := hin
        go_wp2_with fail
        refine (within_yes _ n0 n1 _).mono ?_
        rintro e w3 ⟨rfl, rfl⟩
        go_wp2_with fail
        refine (itoa_tab _ n0 (by omega) _ ((HE1.out.on HB2.out).tab _ (Below.refl _ _))).mono ?_
        rintro e w4 ⟨rfl, hb4⟩
        have HB4 := hid (bthen HB2.out hb4)
        have HO4 := hid (row_below HO2.out hb4)
        clear hb4 HO2
        have HN : Hid (((DD (atoiV x.data.toList)).toList == x.toList) = isNum x.data.toList) := by
          unfold Hid
          rw [list_eq, isNum_dd _ n0 n1]
        cases hnum : isNum x.data.toList with
        | false =>
          have hne : ((DD (atoiV x.data.toList)).toList == x.toList) = false := HN.out.trans hnum
          have HR : Hid (numsOf t.data.toList = []) := nums_no HPS.out HXK.out hnum
          go_wp2
          go_ret
          exact ⟨_, rfl, by rw [HR.out]; exact World.ownsRow_nil _ _ _ _, bthen HB1.out HB4.out⟩
        | true =>
          have hne : ((DD (atoiV x.data.toList)).toList == x.toList) = true := HN.out.trans hnum
          have hown := HO4.out
          have hbel := HB4.out
          go_wp2_with (at_builtin; refine wpList_append_own _ rfl _ _ 37 rfl w1.heap.size 3 i0 (.int .i64 0) 1 8 Tryz.underlying37 hi hz0 hz1 hz2 rfl (by decide) _ _ _ rfl (hown.alloc _) ⟨w4.heap.size, 0, none⟩ 1 1 [.int .i64 (atoiV x.data.toList)] rfl rfl ?c1 ?c2 ?c3 ?c4 ?c5 ?_)
          case c1 =>
            intro j u hj
            match j, hj with
            | 0, hj => simp at hj; subst hj; simp [Addr.add]
          case c2 => intro u hu; simp at hu; subst hu; rfl
          case c3 => unfold maxLen; omega
          case c4 => omega
          case c5 => have := hbel.size; simp; omega
          · intro v' w5 hown' hgrow _
            have hbel1 : Below w1.heap.size w1 w5 := (hbel.alloc hbel.size _).grown hgrow (by have := hbel.size; simp; omega) (fun kk e => (hown.lt kk e).1)
            have HB5 := hid hbel1
            have HO5 := hid hown'
            clear hgrow hown hbel hown' hbel1
            go_wp2
            go_roundw
            case rel =>
              refine ⟨k + 1, by omega, by go_num, fun j y hj hy => ?_, ?_, HB5.out⟩
              · by_cases hjk : j = k
                · subst hjk
                  have : y = x := Option.some.inj (hy.symm.trans HXK.out)
                  rw [this]; exact hnum
                · exact hall.out j y (by omega) hy
              · have e : ps.take (k + 1) = ps.take k ++ [x] := by rw [List.take_add_one, HXK.out]; rfl
                rw [e, List.map_append, List.map_cons, List.map_nil, ints_snoc, List.map_take]
                exact HO5.out
            case measure => simp [intOf]; omega
      · have HR : Hid (numsOf t.data.toList = []) := nums_no HPS.out HXK.out (isNum_out _ hin)
        go_wp2_with fail
        refine (within_no _ hin _).mono ?_
        rintro e w3 ⟨rfl, rfl⟩
        go_wp2
        go_ret
        exact ⟨_, rfl, by rw [HR.out]; exact World.ownsRow_nil _ _ _ _, bthen HB1.out HB2.out⟩
    · obtain rfl : k = ps.length := by omega
      have HR : Hid (numsOf t.data.toList = ps.map fun x => atoiV x.data.toList) := nums_all HPS.out (fun j y hy => hall.out j y (List.getElem?_eq_some_iff.1 hy).1 hy)
      have HO := hid hown
      clear hown
      go_wp2
      go_ret
      refine ⟨_, rfl, ?_, bthen HB1.out hbel.out⟩
      rw [HR.out, List.length_map]
      have h := HO.out
      rw [List.take_length] at h
      exact ⟨h.1, h.2.imp id (fun ⟨g, cap, cur, a, b, c⟩ => ⟨g, cap, cur, a, Nat.le_trans (Nat.le_of_lt hlt) b, c⟩)⟩
end Go.Proofs.YtalmnogdplhflaaGreatDoor
