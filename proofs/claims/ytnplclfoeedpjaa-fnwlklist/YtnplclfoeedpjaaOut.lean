/- The walks of WlkOut, the program's and the model's: the walkers of other numbers, as they stood, in memory of the call's own; conditions: the list lies in memory as a row of structs of five integers. -/
import Derived.Test.YtnplclfoeedpjaaOrd
namespace Go.Proofs.Ytnplclfoeedpjaa
open Go.RowKit Go.Deep Go.Maps
set_option linter.unusedVariables false

theorem ownsRow_base {w : World} {base base' : Nat} {e : TypeId} {size : Nat} {v : Value} {n : Nat} {xs : List Value} (h : w.ownsRow base e size v n xs) (hb : base' ≤ base) : w.ownsRow base' e size v n xs := by
  refine ⟨h.1, ?_⟩
  rcases h.2 with h | ⟨g, cap, cur, hv, hg, r⟩
  · exact .inl h
  · exact .inr ⟨g, cap, cur, hv, Nat.le_trans hb hg, r⟩

/-- A slice of the call's own, not nil, that holds the walkers L of Z. -/
def Walks (w : World) (base : Nat) (v : Value) (L : List Nat) (Z : Nat → Nat → Int) : Prop :=
  ∃ g cap, v = .slice (some ⟨g, 0, none⟩) L.length cap ∧ w.ownsRow base 25 5 v L.length (L.flatMap (five Z))

theorem out_impl_cap (z : Int) (b o n cap : Nat) (Z : Nat → Nat → Int) (hn : n ≤ 1048576) (w : World) (hb : b < w.heap.size) (hzw : (Lit.int .i64 z).wf = true)
    (hr : ∀ k j, k < n → j < 5 → w.cell? ⟨b, o + k * 5 + j, none⟩ = some (.int .i64 (Z k j))) (hwf : ∀ k j, k < n → j < 5 → (Lit.int .i64 (Z k j)).wf = true) :
    Calls Try.prog 9 #[.slice (some ⟨b, o, none⟩) n cap, .int .i64 z] w fun e w' => ∃ v, e = .returned v ∧ (Walks w' w.heap.size v (rest Z n z) Z ∧ ∃ g, v = .slice (some ⟨g, 0, none⟩) (rest Z n z).length (rest Z n z).length) ∧ Below w.heap.size w w' := by
  have hcon := byNumber (.bool true) b o n cap Z hn w hb hr hwf
  clear hr hwf
  go_enter Try.func9, Try.ntmps9
  go_wp2_with fail
  refine hcon.mono ?_
  rintro e w1 ⟨rfl, hG, hs1, hb1⟩
  clear hcon
  go_wp2_with (at_delete; refine wpList_drop_own _ rfl _ _ rfl w.heap.size (grp Z n) z rfl rfl hG hzw ?_)
  intro w2 hG2 hg2
  have HG2 : Hid (Gr w2 w.heap.size (grp' Z n z)) := hG2
  have hb2 : Below w.heap.size w w2 := hb1.grown hg2 (by omega) (fun k e => by cases e; exact Nat.le_refl _)
  have hs2 : w.heap.size < w2.heap.size := by have := hg2.size; omega
  clear hG hG2 hg2 hb1
  go_wp2_with fail
  refine (inOrder w.heap.size n z Z hn w2 HG2.out).mono ?_
  rintro e w3 ⟨g, c, hc, rfl, ho, hb3⟩
  have HCC : Hid (c = (rest Z n z).length) := hc
  clear hc
  have HO : Hid (w3.ownsRow w.heap.size 25 5 (.slice (some ⟨g, 0, none⟩) (rest Z n z).length c) (rest Z n z).length ((rest Z n z).flatMap (five Z))) := ownsRow_base ho (Nat.le_of_lt hs2)
  have hb4 : Below w.heap.size w w3 := bthen hb2 hb3
  clear ho hb3 hb2 HG2
  go_wp2
  go_ret
  exact ⟨_, rfl, ⟨⟨g, c, rfl, HO.out⟩, g, by rw [HCC.out]; rfl⟩, hb4⟩

theorem out_impl (z : Int) (b o n cap : Nat) (Z : Nat → Nat → Int) (hn : n ≤ 1048576) (w : World) (hb : b < w.heap.size) (hzw : (Lit.int .i64 z).wf = true)
    (hr : ∀ k j, k < n → j < 5 → w.cell? ⟨b, o + k * 5 + j, none⟩ = some (.int .i64 (Z k j))) (hwf : ∀ k j, k < n → j < 5 → (Lit.int .i64 (Z k j)).wf = true) :
    Calls Try.prog 9 #[.slice (some ⟨b, o, none⟩) n cap, .int .i64 z] w fun e w' => ∃ v, e = .returned v ∧ Walks w' w.heap.size v (rest Z n z) Z ∧ Below w.heap.size w w' :=
  (out_impl_cap z b o n cap Z hn w hb hzw hr hwf).mono fun _ _ ⟨v, h1, h2, h3⟩ => ⟨v, h1, h2.1, h3⟩

theorem rest_next (Z : Nat → Nat → Int) (k : Nat) (z : Int) : rest Z (k + 1) z = rest Z k z ++ (if Z k 0 ≠ z then [k] else []) := by
  unfold rest
  rw [List.range_succ, List.filter_append]
  congr 1
  by_cases h : Z k 0 = z <;> simp [h]
theorem rest_len (Z : Nat → Nat → Int) (k : Nat) (z : Int) : (rest Z k z).length ≤ k := by
  have := (List.filter_sublist (p := fun k => decide (Z k 0 ≠ z)) (l := List.range k)).length_le
  rw [List.length_range] at this
  exact this

set_option maxHeartbeats 1000000 in
set_option maxRecDepth 20000 in
theorem out_spec (z : Int) (b o n cap : Nat) (Z : Nat → Nat → Int) (hn : n ≤ 1048576) (w : World) (hb : b < w.heap.size)
    (hr : ∀ k j, k < n → j < 5 → w.cell? ⟨b, o + k * 5 + j, none⟩ = some (.int .i64 (Z k j))) :
    Calls Try.prog 16 #[.slice (some ⟨b, o, none⟩) n cap, .int .i64 z] w fun e w' => ∃ v, e = .returned v ∧ Walks w' w.heap.size v (rest Z n z) Z ∧ Below w.heap.size w w' := by
  have HR : Hid (∀ k j, k < n → j < 5 → w.cell? ⟨b, o + k * 5 + j, none⟩ = some (.int .i64 (Z k j))) := hr
  clear hr
  obtain ⟨i5, hi5, hz50, hz51, hz52⟩ := info_parts Try.info25
  go_enter Try.func16, Try.ntmps16
  go_wp2
  go_loopw [5, 6] (fun s i wr => ∃ (k : Nat) (v : Value), k ≤ n ∧ .int .i64 k = i ∧ v = s ∧ v ≠ .slice none 0 0 ∧ wr.ownsRow w.heap.size 25 5 v (rest Z k z).length ((rest Z k z).flatMap (five Z)) ∧ w.heap.size ≤ wr.heap.size ∧ Below w.heap.size w wr) (fun _ i _ => n - (intOf i).toNat)
  case atStart => exact ⟨0, _, Nat.zero_le _, rfl, rfl, by simp, World.ownsRow_lit w #[] 0 (Nat.le_refl _) (by simp) (by simp), by simp, (Below.refl _ _).alloc (by simp) _⟩
  case round =>
    obtain ⟨k, v, hk, rfl, rfl, hnn, ho, hsz, hbel⟩ := hrel
    by_cases hkn : k < n
    · have hkn' : (k : Int) < (n : Int) := by omega
      have c0 : wr.cell? ⟨b, o + k * 5, none⟩ = some (.int .i64 (Z k 0)) := (hbel.cell (by exact hb)).trans (HR.out k 0 hkn (by omega))
      have c1 : wr.cell? ⟨b, o + k * 5 + 1, none⟩ = some (.int .i64 (Z k 1)) := (hbel.cell (by exact hb)).trans (HR.out k 1 hkn (by omega))
      have c2 : wr.cell? ⟨b, o + k * 5 + 2, none⟩ = some (.int .i64 (Z k 2)) := (hbel.cell (by exact hb)).trans (HR.out k 2 hkn (by omega))
      have c3 : wr.cell? ⟨b, o + k * 5 + 3, none⟩ = some (.int .i64 (Z k 3)) := (hbel.cell (by exact hb)).trans (HR.out k 3 hkn (by omega))
      have c4 : wr.cell? ⟨b, o + k * 5 + 4, none⟩ = some (.int .i64 (Z k 4)) := (hbel.cell (by exact hb)).trans (HR.out k 4 hkn (by omega))
      have HLEN : Hid ((rest Z k z).length ≤ k) := rest_len Z k z
      by_cases hz : Z k 0 = z
      · have ez : (Z k 0 == z) = true := by simp [hz]
        have HO : Hid (wr.ownsRow w.heap.size 25 5 v (rest Z (k + 1) z).length ((rest Z (k + 1) z).flatMap (five Z))) := by
          unfold Hid
          rw [rest_next, if_neg (by simp [hz]), List.append_nil]
          exact ho
        have HNN : Hid (v ≠ .slice none 0 0) := hnn
        clear ho hz hnn
        go_wp2
        go_roundw
        case rel => exact ⟨k + 1, _, by omega, by go_num, rfl, HNN.out, HO.out, hsz, hbel⟩
        case measure => simp [intOf]; omega
      · have ez : (Z k 0 == z) = false := by simp [hz]
        have HZ : Hid (¬ Z k 0 = z) := hz
        have HNN : Hid (v ≠ .slice none 0 0) := hnn
        clear hz hnn
        go_wp2_with (at_builtin; refine wpList_append_own _ rfl _ _ 23 rfl w.heap.size 25 i5 (.agg #[.int .i64 0, .int .i64 0, .int .i64 0, .int .i64 0, .int .i64 0]) 5 40 Try.underlying23 hi5 hz50 hz51 hz52 rfl (by decide) _ _ _ rfl (ho.alloc _) ⟨wr.heap.size, 0, none⟩ 1 1 (five Z k) rfl rfl ?d1 ?d2 ?d3 ?d4 ?d5 ?_)
        case d1 =>
          intro j u hj
          match j, hj with
          | 0, hj => simp [five] at hj; subst hj; simp [Addr.add]
          | 1, hj => simp [five] at hj; subst hj; simp [Addr.add]
          | 2, hj => simp [five] at hj; subst hj; simp [Addr.add]
          | 3, hj => simp [five] at hj; subst hj; simp [Addr.add]
          | 4, hj => simp [five] at hj; subst hj; simp [Addr.add]
          | j + 5, hj => simp [five] at hj
        case d2 => intro u hu; simp [five] at hu; rcases hu with rfl | rfl | rfl | rfl | rfl <;> rfl
        case d3 => have := HLEN.out; unfold maxLen; omega
        case d4 => have := HLEN.out; omega
        case d5 => simp; omega
        · intro v' w2 hown' hg2 hnil
          have hall := (World.grownBy_alloc wr _ _).trans hg2
          have HO : Hid (w2.ownsRow w.heap.size 25 5 v' (rest Z (k + 1) z).length ((rest Z (k + 1) z).flatMap (five Z))) := by
            unfold Hid
            rw [rest_next, if_pos HZ.out, List.length_append, List.flatMap_append]
            simpa using hown'
          have HNN' : Hid (v' ≠ .slice none 0 0) := hnil
          have hs2 : w.heap.size ≤ w2.heap.size := Nat.le_trans hsz hall.size
          have hb2 : Below w.heap.size w w2 := hbel.grown hall hsz (fun kk e => (ho.lt kk e).1)
          clear hown' hg2 hnil hall ho c0 c1 c2 c3 c4 HZ HNN
          go_wp2
          go_roundw
          case rel => exact ⟨k + 1, _, by omega, by go_num, rfl, HNN'.out, HO.out, hs2, hb2⟩
          case measure => simp [intOf]; omega
    · have hkn' : k = n := by omega
      subst hkn'
      have HO : Hid (wr.ownsRow w.heap.size 25 5 v (rest Z k z).length ((rest Z k z).flatMap (five Z))) := ho
      have HW : Hid (Walks wr w.heap.size v (rest Z k z) Z) := by
        rcases ho.2 with ⟨e, _⟩ | ⟨g, c, _, e, _⟩
        · exact absurd e hnn
        · exact ⟨g, c, e, ho⟩
      clear ho hnn
      go_wp2
      go_ret
      exact ⟨_, rfl, HW.out, hbel⟩
end Go.Proofs.Ytnplclfoeedpjaa
