/- LogRead: both answer the same; conditions: those typed. -/
import Derived.Test.YtgioecjnghllhaaGreatDoorLIi
import Derived.Deep.DeepCutAuto
import Derived.Deep.MidRow
namespace Go.Proofs.YtgioecjnghllhaaGreatDoor
open Go.RowKit Go.Deep
set_option linter.unusedVariables false
set_option maxRecDepth 100000
theorem blank_or : ∀ l : List UInt8, (∀ b ∈ l, b ≠ 32) ∨ ∃ x r, l = x ++ 32 :: r ∧ ∀ b ∈ x, b ≠ 32
  | [] => .inl (by simp)
  | b :: l => by
    by_cases hb : b = 32
    · exact .inr ⟨[], l, by simp [hb], by simp⟩
    · rcases blank_or l with h | ⟨x, r, e, h⟩
      · left; intro c hc
        rcases List.mem_cons.1 hc with rfl | hc
        · exact hb
        · exact h c hc
      · right
        refine ⟨b :: x, r, by simp [e], fun c hc => ?_⟩
        rcases List.mem_cons.1 hc with rfl | hc
        · exact hb
        · exact h c hc
theorem index_none : ∀ (x : List UInt8), (∀ b ∈ x, b ≠ 32) → Lib.index x [32] = -1
  | [], _ => by simp [Lib.index]
  | b :: x, h => by
    have ih := index_none x (fun c hc => h c (by simp [hc]))
    have hb : ¬ b = 32 := h b (by simp)
    have hb' : (32 == b) = false := by simp; exact fun e => hb e.symm
    have hp : [32].isPrefixOf (b :: x) = false := by simp [List.isPrefixOf, hb']
    unfold Lib.index
    rw [hp, ih]
    simp
theorem cut_none (x : List UInt8) (h : ∀ b ∈ x, b ≠ 32) : Lib.cut x [32] = (x, [], false) := by
  unfold Lib.cut
  rw [index_none x h, if_neg (by omega)]
theorem rest_none : ∀ (x : List UInt8), (∀ b ∈ x, b ≠ 32) → restF x = []
  | [], _ => rfl
  | b :: x, h => by
    rw [restF, if_neg (h b (by simp)), rest_none x (fun c hc => h c (by simp [hc]))]
theorem rv_congr {k k' : Int} {r r' : Nat → Int} (hk : k = k') (h : ∀ i : Nat, 1 ≤ i → i ≤ 15 → r i = r' i) : RV k r = RV k' r' := by
  subst hk
  unfold RV
  rw [h 1 (by omega) (by omega), h 2 (by omega) (by omega), h 3 (by omega) (by omega), h 4 (by omega) (by omega), h 5 (by omega) (by omega), h 6 (by omega) (by omega), h 7 (by omega) (by omega), h 8 (by omega) (by omega), h 9 (by omega) (by omega), h 10 (by omega) (by omega), h 11 (by omega) (by omega), h 12 (by omega) (by omega), h 13 (by omega) (by omega), h 14 (by omega) (by omega), h 15 (by omega) (by omega)]
theorem text_congr {k k' : Int} {r r' : Nat → Int} (hk : k = k') (h : ∀ i : Nat, 1 ≤ i → i ≤ 15 → r i = r' i) : modText k r = modText k' r' := by
  subst hk
  unfold modText noO noP
  rw [h 1 (by omega) (by omega), h 2 (by omega) (by omega), h 3 (by omega) (by omega), h 4 (by omega) (by omega), h 5 (by omega) (by omega), h 6 (by omega) (by omega), h 7 (by omega) (by omega), h 8 (by omega) (by omega), h 9 (by omega) (by omega), h 10 (by omega) (by omega), h 11 (by omega) (by omega), h 12 (by omega) (by omega), h 13 (by omega) (by omega), h 14 (by omega) (by omega), h 15 (by omega) (by omega)]
theorem zero_text (r : Nat → Int) : modText 0 r = ⟨#[]⟩ := by
  unfold modText
  rw [if_neg (by omega), if_neg (by omega), if_neg (by omega)]
theorem digits5n (n : Int) (h0 : 1 ≤ n) (h1 : n ≤ 5000) : numF (Lib.decDigits n.toNat) = n ∧ ∀ b ∈ Lib.decDigits n.toNat, b ≠ 32 := by
  by_cases h : n ≤ 4999
  · exact ⟨(good_digits4 n (by omega) h).2.2.2, (good_digits4 n (by omega) h).1⟩
  · obtain rfl : n = 5000 := by omega
    exact ⟨by decide +kernel, by decide +kernel⟩
/-- A side that reads a text: what it answers is checked against the text. -/
def Reads (f : Nat) (s : ByteArray) (C : World → Prop) : Prop := ∃ (k : Int) (r : Nat → Int), IsOf s k r ∧ ∀ w, C w → Calls Tryz.prog f #[.string s] w fun e w' => ((modText k r = s ∧ e = .returned (.tuple #[RV k r, .bool true])) ∨ (¬ modText k r = s ∧ e = .returned (.tuple #[.agg #[.int .i64 0, .int .i64 0, .int .i64 0, .int .i64 0, .int .i64 0, .int .i64 0, .int .i64 0, .int .i64 0, .int .i64 0, .int .i64 0, .int .i64 0, .int .i64 0, .int .i64 0, .int .i64 0, .int .i64 0, .int .i64 0], .bool false]))) ∧ Below w.heap.size w w'
theorem reads_impl (s : ByteArray) (he : s.toList.isEmpty = false) (h : s.size ≤ 100) : Reads 5 s Env := by
  obtain ⟨k, r, hi, hL⟩ := looseRec s h
  exact ⟨k, r, hi, fun w hE => im_read s he h k r hL w hE⟩
theorem no_text {s : ByteArray} (h : ∀ (k : Int) (r : Nat → Int), modText k r = s → s.size = 0) : IsOf s 0 (fun _ => 0) := fun k r e h0 => absurd (h k r e) h0
theorem reads_no {s : ByteArray} (h0 : ¬ s.size = 0) (h : ∀ (k : Int) (r : Nat → Int), modText k r = s → s.size = 0) (hc : ∀ w, Calls Tryz.prog 4 #[.string s] w fun e w' => e = .returned (.tuple #[.agg #[.int .i64 0, .int .i64 0, .int .i64 0, .int .i64 0, .int .i64 0, .int .i64 0, .int .i64 0, .int .i64 0, .int .i64 0, .int .i64 0, .int .i64 0, .int .i64 0, .int .i64 0, .int .i64 0, .int .i64 0, .int .i64 0], .bool false]) ∧ Below w.heap.size w w') : Reads 4 s (fun _ => True) := by
  refine ⟨0, fun _ => 0, no_text h, fun w _ => (hc w).mono ?_⟩
  rintro e w' ⟨rfl, hb⟩
  refine ⟨.inr ⟨fun e => h0 ?_, rfl⟩, hb⟩
  rw [zero_text] at e
  rw [← e]; rfl
theorem reads_of {s : ByteArray} {k : Int} {r : Nat → Int} {v : Value} (hi : IsOf s k r) (hv : v = RV k r) (hc : ∀ w, Calls Tryz.prog 4 #[.string s] w fun e w' => ((modText k r = s ∧ e = .returned (.tuple #[v, .bool true])) ∨ (¬ modText k r = s ∧ e = .returned (.tuple #[.agg #[.int .i64 0, .int .i64 0, .int .i64 0, .int .i64 0, .int .i64 0, .int .i64 0, .int .i64 0, .int .i64 0, .int .i64 0, .int .i64 0, .int .i64 0, .int .i64 0, .int .i64 0, .int .i64 0, .int .i64 0, .int .i64 0], .bool false]))) ∧ Below w.heap.size w w') : Reads 4 s (fun _ => True) := by
  subst hv
  exact ⟨k, r, hi, fun w _ => hc w⟩
theorem isOf_ack2 {s : ByteArray} {y q : List UInt8} (e : s.data.toList = [97, 99, 107] ++ 32 :: (y ++ 32 :: q)) (hy : ∀ b ∈ y, b ≠ 32) (n : Int) (hn : ∀ z : Int, 1 ≤ z → z ≤ 5000 → q = Lib.decDigits z.toNat → n = z) : IsOf s 3 (rA (sideF ⟨y.toArray⟩) n) := by
  intro k r h h0
  have hc := cut_ack e
  rcases rec_forms h h0 with ⟨d, e'⟩ | ⟨d, e'⟩ | ⟨d, e'⟩
  · exact absurd (of_cut hc (cut_do e')).1 (by decide)
  · exact absurd (of_cut hc (cut_in e')).1 (by decide)
  · obtain ⟨_, eX⟩ := of_cut hc (cut_ack e')
    have hcw : Lib.cut (y ++ 32 :: q) [32] = ((wordOf (r 6)).data.toList, Lib.decDigits (r 15).toNat, true) := by rw [eX]; exact cut_word d.2.2.1 _
    obtain ⟨ea, eb⟩ := of_cut (cut_app y q hy) hcw
    have ha : (⟨y.toArray⟩ : ByteArray) = wordOf (r 6) := by rw [show y = _ from ea]
    rw [ha, (side_word d.2.2.1).1, hn (r 15) d.2.2.2.2.1 d.2.2.2.2.2 eb]
    exact ⟨d.1.symm, all_ack d.2.1 d.2.2.2.1⟩
theorem wordB1 {s : ByteArray} {x y : List UInt8} {ws : List (List UInt8)} (h : words s.data.toList = x :: y :: ws) : wordB s 1 = ⟨y.toArray⟩ := by
  unfold wordB
  rw [h]; rfl
theorem uF2 {s : ByteArray} (hs : s.size ≤ 100) {x y z : List UInt8} {ws : List (List UInt8)} (h : words s.data.toList = x :: y :: z :: ws) : uF s 2 = numF z := by
  unfold uF
  rw [if_pos hs, h]; rfl
theorem reads_spec (s : ByteArray) (he : s.toList.isEmpty = false) (hs : s.size ≤ 100) (hz : ¬ s.size = 0) : Reads 4 s (fun _ => True) := by
  have hs' : (s.size : Int) ≤ 100 := by omega
  by_cases h3 : 3 ≤ (words s.data.toList).length
  · rcases blank_or s.data.toList with hn | ⟨x, r1, e, hx⟩
    · rw [words_last _ hn] at h3; simp at h3
    have hw : words s.data.toList = x :: words r1 := by rw [e, words_app x r1 hx]
    rcases blank_or r1 with hn | ⟨y, q, e1, hy⟩
    · rw [hw, words_last _ hn] at h3; simp at h3
    subst e1
    have hw2 : words s.data.toList = x :: y :: words q := by rw [hw, words_app y q hy]
    have h0 : (words s.data.toList)[0]? = some x := by rw [hw]; rfl
    have hc : Lib.cut s.data.toList [32] = (x, y ++ 32 :: q, true) := by rw [e]; exact cut_app x _ hx
    have hd : Lib.cut (y ++ 32 :: q) [32] = (y, q, true) := cut_app y q hy
    have hr1 : restF s.data.toList = y ++ 32 :: q := by rw [e, rest_app x _ hx]
    have hr2 : restF (restF s.data.toList) = q := by rw [hr1, rest_app y q hy]
    by_cases k1 : x = [100, 111]
    · subst k1
      have hX : (⟨(restF s.data.toList).toArray⟩ : ByteArray) = ⟨(y ++ 32 :: q).toArray⟩ := by rw [hr1]
      by_cases hy' : ∃ p0 p1 p2 p3 p4 : Int, ordText p0 p1 p2 p3 p4 = ⟨(y ++ 32 :: q).toArray⟩ ∧ ¬ (⟨(y ++ 32 :: q).toArray⟩ : ByteArray).size = 0
      · obtain ⟨p0, p1, p2, p3, p4, ho, hoz⟩ := hy'
        refine reads_of (k := 1) (r := rO p0 p1 p2 p3 p4) (isOf_do hc (fun q0 q1 q2 q3 q4 e' n' => ?_)) (v := .agg #[.int .i64 1, .int .i64 p0, .int .i64 p1, .int .i64 p2, .int .i64 p3, .int .i64 p4, .int .i64 0, .int .i64 0, .int .i64 0, .int .i64 0, .int .i64 0, .int .i64 0, .int .i64 0, .int .i64 0, .int .i64 0, .int .i64 0]) rfl (fun w => sp_do_yes s hs' he h3 p0 p1 p2 p3 p4 (fun w => ?_) (modText 1 (rO p0 p1 p2 p3 p4)) (fun w => logText_spec 1 (rO p0 p1 p2 p3 p4) w) h0 w)
        · have := ord_inj (ho.trans e'.symm) (by rw [e']; exact n')
          exact this
        · rw [hX]; exact so_yes ho hoz w
      · have hn : ∀ p0 p1 p2 p3 p4 : Int, ordText p0 p1 p2 p3 p4 = ⟨(y ++ 32 :: q).toArray⟩ → (⟨(y ++ 32 :: q).toArray⟩ : ByteArray).size = 0 := fun p0 p1 p2 p3 p4 h => Classical.byContradiction fun hz => hy' ⟨p0, p1, p2, p3, p4, h, hz⟩
        refine reads_no hz (fun k r h => Classical.byContradiction fun h0' => ?_) (fun w => sp_do_no s hs' he h3 0 0 0 0 0 (fun w => by rw [hX]; exact so_no hn w) s rfl h0 w)
        rcases rec_forms h h0' with ⟨d, e'⟩ | ⟨d, e'⟩ | ⟨d, e'⟩
        · obtain ⟨_, eX⟩ := of_cut hc (cut_do e')
          have hX2 : ordR r = ⟨(y ++ 32 :: q).toArray⟩ := by rw [eX]
          have := hn _ _ _ _ _ hX2
          rw [← hX2] at this
          exact ordText_size_pos d.2.1 this
        · exact absurd (of_cut hc (cut_in e')).1 (by decide)
        · exact absurd (of_cut hc (cut_ack e')).1 (by decide)
    by_cases k2 : x = [105, 110]
    · subst k2
      have hX : (⟨(restF (restF s.data.toList)).toArray⟩ : ByteArray) = ⟨q.toArray⟩ := by rw [hr2]
      by_cases hy' : ∃ P : Pcl, P.text = ⟨q.toArray⟩ ∧ ¬ (⟨q.toArray⟩ : ByteArray).size = 0
      · obtain ⟨P, ho, hoz⟩ := hy'
        have hi := isOf_in (P := P) hc hd (fun Q e' n' => (iP_back ho hoz).1.symm.trans (iP_back e' n').1)
        refine reads_of (k := 2) (r := rI (sideF ⟨y.toArray⟩) P) hi (v := .agg #[.int .i64 2, .int .i64 0, .int .i64 0, .int .i64 0, .int .i64 0, .int .i64 0, .int .i64 (sideF (wordB s 1)), .int .i64 P.pn, .int .i64 P.pk, .int .i64 P.i, .int .i64 P.a, .int .i64 P.n, .int .i64 P.s, .int .i64 P.l, .int .i64 P.pc, .int .i64 0]) (by rw [wordB1 hw2]; rfl) (fun w => sp_in_yes s hs' he h3 P (fun w => by rw [hX]; exact sread_yes ho hoz w) (modText 2 (rI (sideF ⟨y.toArray⟩) P)) (fun w => by rw [wordB1 hw2]; exact logText_spec 2 (rI (sideF ⟨y.toArray⟩) P) w) h0 w)
      · have hn : ∀ P : Pcl, P.text = ⟨q.toArray⟩ → (⟨q.toArray⟩ : ByteArray).size = 0 := fun P h => Classical.byContradiction fun hz => hy' ⟨P, h, hz⟩
        refine reads_no hz (fun k r h => Classical.byContradiction fun h0' => ?_) (fun w => sp_in_no s hs' he h3 nullP (fun w => by rw [hX]; exact sread_no hn w) s rfl h0 w)
        rcases rec_forms h h0' with ⟨d, e'⟩ | ⟨d, e'⟩ | ⟨d, e'⟩
        · exact absurd (of_cut hc (cut_do e')).1 (by decide)
        · obtain ⟨_, eX⟩ := of_cut hc (cut_in e')
          have hcw : Lib.cut (y ++ 32 :: q) [32] = ((wordOf (r 6)).data.toList, (pclR r).text.data.toList, true) := by rw [eX]; exact cut_word d.2.2.1 _
          obtain ⟨_, eb⟩ := of_cut hd hcw
          have hX2 : (pclR r).text = ⟨q.toArray⟩ := by rw [eb]
          have := hn _ hX2
          rw [← hX2] at this
          exact d.2.2.2.1 this
        · exact absurd (of_cut hc (cut_ack e')).1 (by decide)
    by_cases k3 : x = [97, 99, 107]
    · subst k3
      obtain ⟨z, ws, ez⟩ := words_cons q
      have hw3 : words s.data.toList = [97, 99, 107] :: y :: z :: ws := by rw [hw2, ez]
      refine reads_of (k := 3) (r := rA (sideF ⟨y.toArray⟩) (uF s 2)) (isOf_ack2 e hy _ (fun c c1 c2 eq => ?_)) (v := .agg #[.int .i64 3, .int .i64 0, .int .i64 0, .int .i64 0, .int .i64 0, .int .i64 0, .int .i64 (sideF (wordB s 1)), .int .i64 0, .int .i64 0, .int .i64 0, .int .i64 0, .int .i64 0, .int .i64 0, .int .i64 0, .int .i64 0, .int .i64 (uF s 2)]) (by rw [wordB1 hw2]; rfl) (fun w => sp_ack s hs' he h3 (modText 3 (rA (sideF ⟨y.toArray⟩) (uF s 2))) (fun w => by rw [wordB1 hw2]; exact logText_spec 3 (rA (sideF ⟨y.toArray⟩) (uF s 2)) w) h0 w)
      obtain ⟨d1, d2⟩ := digits5n c c1 c2
      rw [uF2 hs hw3]
      rw [eq, words_last _ d2] at ez
      cases ez
      exact d1
    · refine reads_of (k := 0) (r := fun _ => 0) (isOf_none hc k1 k2 k3 0 _) (v := .agg #[.int .i64 0, .int .i64 0, .int .i64 0, .int .i64 0, .int .i64 0, .int .i64 0, .int .i64 0, .int .i64 0, .int .i64 0, .int .i64 0, .int .i64 0, .int .i64 0, .int .i64 0, .int .i64 0, .int .i64 0, .int .i64 0]) rfl (fun w => sp_else s hs' he h3 (modText 0 (fun _ => 0)) (fun w => logText_spec 0 (fun _ => 0) w) x k1 k2 k3 h0 w)
  · refine reads_no hz (fun k r h => Classical.byContradiction fun h0' => ?_) (fun w => sp_few s hs' (by omega) w)
    apply h3
    rcases rec_forms h h0' with ⟨d, e'⟩ | ⟨d, e'⟩ | ⟨d, e'⟩
    · rw [e', words_app [100, 111] _ (by decide)]
      have hp := ordText_size_pos d.2.1
      obtain ⟨f, _, h3', _⟩ := ord_back (show ordText (r 1) (r 2) (r 3) (r 4) (r 5) = ordR r from rfl) hp
      simp
      omega
    · rw [e', words_app [105, 110] _ (by decide), words_app _ _ (side_word d.2.2.1).2.1]
      obtain ⟨a, b, e''⟩ := words_cons (pclR r).text.data.toList
      rw [e'']; simp
    · rw [e', words_app [97, 99, 107] _ (by decide), words_app _ _ (side_word d.2.2.1).2.1]
      obtain ⟨a, b, e''⟩ := words_cons (Lib.decDigits (r 15).toNat)
      rw [e'']; simp
def Same (s : ByteArray) : Prop := ∃ (k : Int) (r : Nat → Int) (b : Bool), (∀ w : World, Calls Tryz.prog 4 #[.string s] w fun e w' => e = .returned (.tuple #[RV k r, .bool b]) ∧ Below w.heap.size w w') ∧ (∀ w : World, Env w → Calls Tryz.prog 5 #[.string s] w fun e w' => e = .returned (.tuple #[RV k r, .bool b]) ∧ Below w.heap.size w w')
theorem reads_yes {f : Nat} {s : ByteArray} {C : World → Prop} (h : Reads f s C) {k : Int} {r : Nat → Int} (e : modText k r = s) (h0 : ¬ s.size = 0) (w : World) (hC : C w) : Calls Tryz.prog f #[.string s] w fun e w' => e = .returned (.tuple #[RV k r, .bool true]) ∧ Below w.heap.size w w' := by
  obtain ⟨k', r', hi, hc⟩ := h
  obtain ⟨ek, er⟩ := hi k r e h0
  refine (hc w hC).mono ?_
  rintro _ w' ⟨⟨_, rfl⟩ | ⟨hn, _⟩, hb⟩
  · exact ⟨by rw [rv_congr ek er], hb⟩
  · exact absurd ((text_congr ek er).trans e) hn
theorem reads_none {f : Nat} {s : ByteArray} {C : World → Prop} (h : Reads f s C) (hn : ∀ (k : Int) (r : Nat → Int), ¬ modText k r = s) (w : World) (hC : C w) : Calls Tryz.prog f #[.string s] w fun e w' => e = .returned (.tuple #[RV 0 (fun _ => 0), .bool false]) ∧ Below w.heap.size w w' := by
  obtain ⟨k', r', hi, hc⟩ := h
  refine (hc w hC).mono ?_
  rintro _ w' ⟨⟨h1, _⟩ | ⟨_, rfl⟩, hb⟩
  · exact absurd h1 (hn _ _)
  · exact ⟨rfl, hb⟩
theorem same_all (s : ByteArray) : Same s := by
  by_cases hz : s.size = 0
  · have hs := text_of_size hz
    exact ⟨0, fun _ => 0, false, fun w => sp_few s (by omega) (by rw [hs]; simp [words]) w, fun w _ => im_empty s hs w⟩
  have he : s.toList.isEmpty = false := by
    rw [ByteArray.toList_eq]
    cases hl : s.data.toList with
    | nil => exact absurd (by rw [← size_len, hl]; rfl) hz
    | cons a b => rfl
  by_cases hs : s.size ≤ 100
  · have h1 := reads_spec s he hs hz
    have h2 := reads_impl s he hs
    by_cases hy : ∃ (k : Int) (r : Nat → Int), modText k r = s
    · obtain ⟨k, r, e⟩ := hy
      exact ⟨k, r, true, fun w => reads_yes h1 e hz w trivial, fun w hE => reads_yes h2 e hz w hE⟩
    · have hn : ∀ (k : Int) (r : Nat → Int), ¬ modText k r = s := fun k r e => hy ⟨k, r, e⟩
      exact ⟨0, fun _ => 0, false, fun w => reads_none h1 hn w trivial, fun w hE => reads_none h2 hn w hE⟩
  · exact ⟨0, fun _ => 0, false, fun w => sp_long s (by omega) w, fun w _ => im_long s he (by omega) w⟩
end Go.Proofs.YtgioecjnghllhaaGreatDoor
