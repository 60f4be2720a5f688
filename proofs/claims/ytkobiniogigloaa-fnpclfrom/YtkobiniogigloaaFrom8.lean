/- The walks of PclFrom, the program's and the model's: the parcels from a number on, as they stood, in memory of the call's own; conditions: the list lies in memory as a row of parcels. -/
import Derived.Test.YtkobiniogigloaaLaw8
import Derived.Laws.AppendOwn
namespace Go.Proofs.Ytkobiniogigloaa
open Go.RowKit Go.Deep
set_option linter.unusedVariables false

def eight (Z : Nat → Nat → Int) (k : Nat) : List Value := [.int .i64 (Z k 0), .int .i64 (Z k 1), .int .i64 (Z k 2), .int .i64 (Z k 3), .int .i64 (Z k 4), .int .i64 (Z k 5), .int .i64 (Z k 6), .int .i64 (Z k 7)]
/-- The places of those from the number z on. -/
def rest (Z : Nat → Nat → Int) (n : Nat) (z : Int) : List Nat := (List.range n).filter (fun k => decide (z ≤ Z k 0))
/-- A slice of the call's own (nil, where there is none) that holds the parcels L of Z. -/
def Walks (w : World) (base : Nat) (v : Value) (L : List Nat) (Z : Nat → Nat → Int) : Prop := w.ownsRow base 43 8 v L.length (L.flatMap (eight Z))

theorem info_parts8 : ∃ i, Try.prog.info? 43 = some i ∧ i.zero = some (.agg #[.int .i64 0, .int .i64 0, .int .i64 0, .int .i64 0, .int .i64 0, .int .i64 0, .int .i64 0, .int .i64 0]) ∧ i.size = 8 ∧ i.bytes = 64 := by
  obtain ⟨i, hi, hzz⟩ := Option.map_eq_some_iff.1 Try.info43
  simp only [Prod.mk.injEq] at hzz
  exact ⟨i, hi, hzz.1, hzz.2.1, hzz.2.2⟩

theorem rest_next (Z : Nat → Nat → Int) (k : Nat) (z : Int) : rest Z (k + 1) z = rest Z k z ++ (if z ≤ Z k 0 then [k] else []) := by
  unfold rest
  rw [List.range_succ, List.filter_append]
  congr 1
  by_cases h : z ≤ Z k 0 <;> simp [h]
theorem rest_len (Z : Nat → Nat → Int) (k : Nat) (z : Int) : (rest Z k z).length ≤ k := by
  have := (List.filter_sublist (p := fun k => decide (z ≤ Z k 0)) (l := List.range k)).length_le
  rw [List.length_range] at this
  exact this

set_option maxHeartbeats 1000000 in
set_option maxRecDepth 20000 in
theorem from_spec (z : Int) (b o n cap : Nat) (Z : Nat → Nat → Int) (hn : n ≤ 1048576) (w : World) (hb : b < w.heap.size)
    (hr : ∀ k j, k < n → j < 8 → w.cell? ⟨b, o + k * 8 + j, none⟩ = some (.int .i64 (Z k j))) :
    Calls Try.prog 10 #[.slice (some ⟨b, o, none⟩) n cap, .int .i64 z] w fun e w' => ∃ v, e = .returned v ∧ Walks w' w.heap.size v (rest Z n z) Z ∧ Below w.heap.size w w' := by
  have HR : Hid (∀ k j, k < n → j < 8 → w.cell? ⟨b, o + k * 8 + j, none⟩ = some (.int .i64 (Z k j))) := hr
  clear hr
  obtain ⟨i5, hi5, hz50, hz51, hz52⟩ := info_parts8
  go_enter Try.func10, Try.ntmps10
  go_wp2
  go_loopw [5, 6] (fun s i wr => ∃ (k : Nat) (v : Value), k ≤ n ∧ .int .i64 k = i ∧ v = s ∧ v ≠ .slice none 0 0 ∧ wr.ownsRow w.heap.size 43 8 v (rest Z k z).length ((rest Z k z).flatMap (eight Z)) ∧ w.heap.size ≤ wr.heap.size ∧ Below w.heap.size w wr) (fun _ i _ => n - (intOf i).toNat)
  case atStart => exact ⟨0, _, Nat.zero_le _, rfl, rfl, by simp, World.ownsRow_lit w #[] 0 (Nat.le_refl _) (by simp) (by simp), by simp, (Below.refl _ _).alloc (by simp) _⟩
  case round =>
    obtain ⟨k, v, hk, rfl, rfl, hnn, ho, hsz, hbel⟩ := hrel
    by_cases hkn : k < n
    · have hkn' : (k : Int) < (n : Int) := by omega
      have c0 : wr.cell? ⟨b, o + k * 8, none⟩ = some (.int .i64 (Z k 0)) := (hbel.cell (by exact hb)).trans (HR.out k 0 hkn (by omega))
      have c1 : wr.cell? ⟨b, o + k * 8 + 1, none⟩ = some (.int .i64 (Z k 1)) := (hbel.cell (by exact hb)).trans (HR.out k 1 hkn (by omega))
      have c2 : wr.cell? ⟨b, o + k * 8 + 2, none⟩ = some (.int .i64 (Z k 2)) := (hbel.cell (by exact hb)).trans (HR.out k 2 hkn (by omega))
      have c3 : wr.cell? ⟨b, o + k * 8 + 3, none⟩ = some (.int .i64 (Z k 3)) := (hbel.cell (by exact hb)).trans (HR.out k 3 hkn (by omega))
      have c4 : wr.cell? ⟨b, o + k * 8 + 4, none⟩ = some (.int .i64 (Z k 4)) := (hbel.cell (by exact hb)).trans (HR.out k 4 hkn (by omega))
      have c5 : wr.cell? ⟨b, o + k * 8 + 5, none⟩ = some (.int .i64 (Z k 5)) := (hbel.cell (by exact hb)).trans (HR.out k 5 hkn (by omega))
      have c6 : wr.cell? ⟨b, o + k * 8 + 6, none⟩ = some (.int .i64 (Z k 6)) := (hbel.cell (by exact hb)).trans (HR.out k 6 hkn (by omega))
      have c7 : wr.cell? ⟨b, o + k * 8 + 7, none⟩ = some (.int .i64 (Z k 7)) := (hbel.cell (by exact hb)).trans (HR.out k 7 hkn (by omega))
      have HLEN : Hid ((rest Z k z).length ≤ k) := rest_len Z k z
      by_cases hz : ¬ z ≤ Z k 0
      · have ez : Z k 0 < z := by omega
        have HO : Hid (wr.ownsRow w.heap.size 43 8 v (rest Z (k + 1) z).length ((rest Z (k + 1) z).flatMap (eight Z))) := by
          unfold Hid
          rw [rest_next, if_neg hz, List.append_nil]
          exact ho
        have HNN : Hid (v ≠ .slice none 0 0) := hnn
        clear ho hz hnn
        go_wp2
        go_roundw
        case rel => exact ⟨k + 1, _, by omega, by go_num, rfl, HNN.out, HO.out, hsz, hbel⟩
        case measure => simp [intOf]; omega
      · have ez : z ≤ Z k 0 := by omega
        have HZ : Hid (z ≤ Z k 0) := ez
        have HNN : Hid (v ≠ .slice none 0 0) := hnn
        clear hz hnn
        go_wp2_with (at_builtin; refine wpList_append_own _ rfl _ _ 25 rfl w.heap.size 43 i5 (.agg #[.int .i64 0, .int .i64 0, .int .i64 0, .int .i64 0, .int .i64 0, .int .i64 0, .int .i64 0, .int .i64 0]) 8 64 Try.underlying25 hi5 hz50 hz51 hz52 rfl (by decide) _ _ _ rfl (ho.alloc _) ⟨wr.heap.size, 0, none⟩ 1 1 (eight Z k) rfl rfl ?d1 ?d2 ?d3 ?d4 ?d5 ?_)
        case d1 =>
          intro j u hj
          match j, hj with
          | 0, hj => simp [eight] at hj; subst hj; simp [Addr.add]
          | 1, hj => simp [eight] at hj; subst hj; simp [Addr.add]
          | 2, hj => simp [eight] at hj; subst hj; simp [Addr.add]
          | 3, hj => simp [eight] at hj; subst hj; simp [Addr.add]
          | 4, hj => simp [eight] at hj; subst hj; simp [Addr.add]
          | 5, hj => simp [eight] at hj; subst hj; simp [Addr.add]
          | 6, hj => simp [eight] at hj; subst hj; simp [Addr.add]
          | 7, hj => simp [eight] at hj; subst hj; simp [Addr.add]
          | j + 8, hj => simp [eight] at hj
        case d2 => intro u hu; simp [eight] at hu; rcases hu with rfl | rfl | rfl | rfl | rfl | rfl | rfl | rfl <;> rfl
        case d3 => have := HLEN.out; unfold maxLen; omega
        case d4 => have := HLEN.out; omega
        case d5 => simp; omega
        · intro v' w2 hown' hg2 hnil
          have hall := (World.grownBy_alloc wr _ _).trans hg2
          have HO : Hid (w2.ownsRow w.heap.size 43 8 v' (rest Z (k + 1) z).length ((rest Z (k + 1) z).flatMap (eight Z))) := by
            unfold Hid
            rw [rest_next, if_pos HZ.out, List.length_append, List.flatMap_append]
            simpa using hown'
          have HNN' : Hid (v' ≠ .slice none 0 0) := hnil
          have hs2 : w.heap.size ≤ w2.heap.size := Nat.le_trans hsz hall.size
          have hb2 : Below w.heap.size w w2 := hbel.grown hall hsz (fun kk e => (ho.lt kk e).1)
          clear hown' hg2 hnil hall ho c0 c1 c2 c3 c4 c5 c6 c7 HZ HNN
          go_wp2
          go_roundw
          case rel => exact ⟨k + 1, _, by omega, by go_num, rfl, HNN'.out, HO.out, hs2, hb2⟩
          case measure => simp [intOf]; omega
    · have hkn' : k = n := by omega
      subst hkn'
      have HO : Hid (wr.ownsRow w.heap.size 43 8 v (rest Z k z).length ((rest Z k z).flatMap (eight Z))) := ho
      have HW : Hid (Walks wr w.heap.size v (rest Z k z) Z) := ho
      clear ho hnn
      go_wp2
      go_ret
      exact ⟨_, rfl, HW.out, hbel⟩

set_option maxHeartbeats 1000000 in
set_option maxRecDepth 20000 in
theorem from_impl (z : Int) (b o n cap : Nat) (Z : Nat → Nat → Int) (hn : n ≤ 1048576) (w : World) (hb : b < w.heap.size)
    (hr : ∀ k j, k < n → j < 8 → w.cell? ⟨b, o + k * 8 + j, none⟩ = some (.int .i64 (Z k j))) :
    Calls Try.prog 8 #[.slice (some ⟨b, o, none⟩) n cap, .int .i64 z] w fun e w' => ∃ v, e = .returned v ∧ Walks w' w.heap.size v (rest Z n z) Z ∧ Below w.heap.size w w' := by
  have HR : Hid (∀ k j, k < n → j < 8 → w.cell? ⟨b, o + k * 8 + j, none⟩ = some (.int .i64 (Z k j))) := hr
  clear hr
  obtain ⟨i5, hi5, hz50, hz51, hz52⟩ := info_parts8
  go_enter Try.func8, Try.ntmps8
  go_wp2
  go_loopw [5, 10] (fun s i wr => ∃ (k : Nat) (v : Value), k ≤ n ∧ .int .i64 k = i ∧ v = s ∧ wr.ownsRow w.heap.size 43 8 v (rest Z k z).length ((rest Z k z).flatMap (eight Z)) ∧ w.heap.size ≤ wr.heap.size ∧ Below w.heap.size w wr) (fun _ i _ => n - (intOf i).toNat)
  case atStart => exact ⟨0, _, Nat.zero_le _, rfl, rfl, World.ownsRow_nil _ _ _ _, Nat.le_refl _, Below.refl _ _⟩
  case round =>
    obtain ⟨k, v, hk, rfl, rfl, ho, hsz, hbel⟩ := hrel
    by_cases hkn : k < n
    · have hkn' : (k : Int) < (n : Int) := by omega
      have c0 : wr.cell? ⟨b, o + k * 8, none⟩ = some (.int .i64 (Z k 0)) := (hbel.cell (by exact hb)).trans (HR.out k 0 hkn (by omega))
      have c1 : wr.cell? ⟨b, o + k * 8 + 1, none⟩ = some (.int .i64 (Z k 1)) := (hbel.cell (by exact hb)).trans (HR.out k 1 hkn (by omega))
      have c2 : wr.cell? ⟨b, o + k * 8 + 2, none⟩ = some (.int .i64 (Z k 2)) := (hbel.cell (by exact hb)).trans (HR.out k 2 hkn (by omega))
      have c3 : wr.cell? ⟨b, o + k * 8 + 3, none⟩ = some (.int .i64 (Z k 3)) := (hbel.cell (by exact hb)).trans (HR.out k 3 hkn (by omega))
      have c4 : wr.cell? ⟨b, o + k * 8 + 4, none⟩ = some (.int .i64 (Z k 4)) := (hbel.cell (by exact hb)).trans (HR.out k 4 hkn (by omega))
      have c5 : wr.cell? ⟨b, o + k * 8 + 5, none⟩ = some (.int .i64 (Z k 5)) := (hbel.cell (by exact hb)).trans (HR.out k 5 hkn (by omega))
      have c6 : wr.cell? ⟨b, o + k * 8 + 6, none⟩ = some (.int .i64 (Z k 6)) := (hbel.cell (by exact hb)).trans (HR.out k 6 hkn (by omega))
      have c7 : wr.cell? ⟨b, o + k * 8 + 7, none⟩ = some (.int .i64 (Z k 7)) := (hbel.cell (by exact hb)).trans (HR.out k 7 hkn (by omega))
      have HLEN : Hid ((rest Z k z).length ≤ k) := rest_len Z k z
      by_cases hz : ¬ z ≤ Z k 0
      · have ez : Z k 0 < z := by omega
        have HO : Hid ((wr.alloc (.cells #[.int .i64 (Z k 0), .int .i64 (Z k 1), .int .i64 (Z k 2), .int .i64 (Z k 3), .int .i64 (Z k 4), .int .i64 (Z k 5), .int .i64 (Z k 6), .int .i64 (Z k 7)] 43)).ownsRow w.heap.size 43 8 v (rest Z (k + 1) z).length ((rest Z (k + 1) z).flatMap (eight Z))) := by
          unfold Hid
          rw [rest_next, if_neg hz, List.append_nil]
          exact ho.alloc _
        clear ho hz
        go_wp2
        go_roundw
        case rel => exact ⟨k + 1, _, by omega, by go_num, rfl, HO.out, by simp; omega, hbel.alloc hsz _⟩
        case measure => simp [intOf]; omega
      · have ez : z ≤ Z k 0 := by omega
        have HZ : Hid (z ≤ Z k 0) := ez
        clear hz
        go_wp2_with (at_builtin; refine wpList_append_own _ rfl _ _ 25 rfl w.heap.size 43 i5 (.agg #[.int .i64 0, .int .i64 0, .int .i64 0, .int .i64 0, .int .i64 0, .int .i64 0, .int .i64 0, .int .i64 0]) 8 64 Try.underlying25 hi5 hz50 hz51 hz52 rfl (by decide) _ _ _ rfl ((ho.alloc _).alloc _) ⟨wr.heap.size + 1, 0, none⟩ 1 1 (eight Z k) rfl rfl ?d1 ?d2 ?d3 ?d4 ?d5 ?_)
        case d1 =>
          intro j u hj
          match j, hj with
          | 0, hj => simp [eight] at hj; subst hj; simp [Addr.add]
          | 1, hj => simp [eight] at hj; subst hj; simp [Addr.add]
          | 2, hj => simp [eight] at hj; subst hj; simp [Addr.add]
          | 3, hj => simp [eight] at hj; subst hj; simp [Addr.add]
          | 4, hj => simp [eight] at hj; subst hj; simp [Addr.add]
          | 5, hj => simp [eight] at hj; subst hj; simp [Addr.add]
          | 6, hj => simp [eight] at hj; subst hj; simp [Addr.add]
          | 7, hj => simp [eight] at hj; subst hj; simp [Addr.add]
          | j + 8, hj => simp [eight] at hj
        case d2 => intro u hu; simp [eight] at hu; rcases hu with rfl | rfl | rfl | rfl | rfl | rfl | rfl | rfl <;> rfl
        case d3 => have := HLEN.out; unfold maxLen; omega
        case d4 => have := HLEN.out; omega
        case d5 => simp; omega
        · intro v' w2 hown' hg2 hnil
          have hall := ((World.grownBy_alloc wr _ _).trans (World.grownBy_alloc _ _ _)).trans hg2
          have HO : Hid (w2.ownsRow w.heap.size 43 8 v' (rest Z (k + 1) z).length ((rest Z (k + 1) z).flatMap (eight Z))) := by
            unfold Hid
            rw [rest_next, if_pos HZ.out, List.length_append, List.flatMap_append]
            simpa using hown'
          have hs2 : w.heap.size ≤ w2.heap.size := Nat.le_trans hsz hall.size
          have hb2 : Below w.heap.size w w2 := hbel.grown hall hsz (fun kk e => (ho.lt kk e).1)
          clear hown' hg2 hnil hall ho c0 c1 c2 c3 c4 c5 c6 c7 HZ
          go_wp2
          go_roundw
          case rel => exact ⟨k + 1, _, by omega, by go_num, rfl, HO.out, hs2, hb2⟩
          case measure => simp [intOf]; omega
    · have hkn' : k = n := by omega
      subst hkn'
      have HW : Hid (Walks wr w.heap.size v (rest Z k z) Z) := ho
      clear ho
      go_wp2
      go_ret
      exact ⟨_, rfl, HW.out, hbel⟩
end Go.Proofs.Ytkobiniogigloaa
