/- What a record's text looks like, kind by kind; conditions: those typed. -/
import Derived.Test.YtgioecjnghllhaaGreatDoorLE7
namespace Go.Proofs.YtgioecjnghllhaaGreatDoor
open Go.RowKit
set_option linter.unusedVariables false
def ordR (r : Nat → Int) : ByteArray := ordText (r 1) (r 2) (r 3) (r 4) (r 5)
def pclR (r : Nat → Int) : Pcl := ⟨r 7, r 8, r 9, r 10, r 11, r 12, r 13, r 14⟩
/-- A record that is an order, a parcel that came, an answer. -/
def isDo (k : Int) (r : Nat → Int) : Prop := k = 1 ∧ ordB (r 1) (r 2) (r 3) (r 4) (r 5) = true ∧ r 6 = 0 ∧ noP r = true ∧ r 15 = 0
def isIn (k : Int) (r : Nat → Int) : Prop := k = 2 ∧ noO r = true ∧ sideB (r 6) = true ∧ ¬ (pclR r).text.size = 0 ∧ r 15 = 0
def isAck (k : Int) (r : Nat → Int) : Prop := k = 3 ∧ noO r = true ∧ sideB (r 6) = true ∧ noP r = true ∧ 1 ≤ r 15 ∧ r 15 ≤ 5000
theorem size_of_empty {s : ByteArray} (h : (!s.toList.isEmpty) = true) : ¬ s.size = 0 := by
  intro e
  rw [text_of_size e] at h
  exact absurd h (by decide +kernel)
theorem rec_forms {k : Int} {r : Nat → Int} {s : ByteArray} (h : modText k r = s) (h0 : ¬ s.size = 0) :
    (isDo k r ∧ s.data.toList = [100, 111] ++ 32 :: (ordR r).data.toList)
    ∨ (isIn k r ∧ s.data.toList = [105, 110] ++ 32 :: ((wordOf (r 6)).data.toList ++ 32 :: (pclR r).text.data.toList))
    ∨ (isAck k r ∧ s.data.toList = [97, 99, 107] ++ 32 :: ((wordOf (r 6)).data.toList ++ 32 :: Lib.decDigits (r 15).toNat)) := by
  unfold modText at h
  split at h
  · rename_i e1
    split at h
    · rename_i c
      simp only [Bool.and_eq_true, beq_iff_eq] at c
      exact .inl ⟨⟨e1, c.1, c.2.1, c.2.2.1, c.2.2.2⟩, by rw [← h]; simp [ordR, ByteArray.data_append]⟩
    · exact absurd (by rw [← h]; rfl) h0
  · split at h
    · rename_i e2
      split at h
      · rename_i c
        simp only [Bool.and_eq_true, beq_iff_eq] at c
        exact .inr (.inl ⟨⟨e2, c.1, c.2.1, size_of_empty c.2.2.1, c.2.2.2⟩, by rw [← h]; simp [pclR, Pcl.text, SP, ByteArray.data_append]⟩)
      · exact absurd (by rw [← h]; rfl) h0
    · split at h
      · rename_i e3
        split at h
        · rename_i c
          simp only [Bool.and_eq_true] at c
          have q := inB_true.1 c.2.2.2
          exact .inr (.inr ⟨⟨e3, c.1, c.2.1, c.2.2.1, q.1, q.2⟩, by rw [← h]; simp [DD, SP, ByteArray.data_append]⟩)
        · exact absurd (by rw [← h]; rfl) h0
      · exact absurd (by rw [← h]; rfl) h0
/-- What a reader's answer must be at a text that some record has. -/
def IsOf (s : ByteArray) (k : Int) (r : Nat → Int) : Prop := ∀ (k' : Int) (r' : Nat → Int), modText k' r' = s → ¬ s.size = 0 → k = k' ∧ ∀ i : Nat, 1 ≤ i → i ≤ 15 → r i = r' i
def rO (p0 p1 p2 p3 p4 : Int) : Nat → Int := fun i => if i = 1 then p0 else if i = 2 then p1 else if i = 3 then p2 else if i = 4 then p3 else if i = 5 then p4 else 0
def rI (q : Int) (P : Pcl) : Nat → Int := fun i => if i = 6 then q else if i = 7 then P.pn else if i = 8 then P.pk else if i = 9 then P.i else if i = 10 then P.a else if i = 11 then P.n else if i = 12 then P.s else if i = 13 then P.l else if i = 14 then P.pc else 0
def rA (q n : Int) : Nat → Int := fun i => if i = 6 then q else if i = 15 then n else 0
theorem cut_do {s : ByteArray} {X : List UInt8} (h : s.data.toList = [100, 111] ++ 32 :: X) : Lib.cut s.data.toList [32] = ([100, 111], X, true) := by rw [h]; exact cut_app _ _ (by decide)
theorem cut_in {s : ByteArray} {X : List UInt8} (h : s.data.toList = [105, 110] ++ 32 :: X) : Lib.cut s.data.toList [32] = ([105, 110], X, true) := by rw [h]; exact cut_app _ _ (by decide)
theorem cut_ack {s : ByteArray} {X : List UInt8} (h : s.data.toList = [97, 99, 107] ++ 32 :: X) : Lib.cut s.data.toList [32] = ([97, 99, 107], X, true) := by rw [h]; exact cut_app _ _ (by decide)
theorem cut_word {t : Int} (h : sideB t = true) (X : List UInt8) : Lib.cut ((wordOf t).data.toList ++ 32 :: X) [32] = ((wordOf t).data.toList, X, true) := cut_app _ _ (side_word h).2.1
theorem of_cut {L : List UInt8 × List UInt8 × Bool} {A B a b : List UInt8} {F f : Bool} (h : L = (A, B, F)) (e : L = (a, b, f)) : A = a ∧ B = b := by rw [h] at e; cases e; exact ⟨rfl, rfl⟩
theorem all_do {r : Nat → Int} (h6 : r 6 = 0) (hP : noP r = true) (h15 : r 15 = 0) : ∀ i : Nat, 1 ≤ i → i ≤ 15 → rO (r 1) (r 2) (r 3) (r 4) (r 5) i = r i := by
  intro i a b
  simp only [noP, Bool.and_eq_true, beq_iff_eq] at hP
  have : i = 1 ∨ i = 2 ∨ i = 3 ∨ i = 4 ∨ i = 5 ∨ i = 6 ∨ i = 7 ∨ i = 8 ∨ i = 9 ∨ i = 10 ∨ i = 11 ∨ i = 12 ∨ i = 13 ∨ i = 14 ∨ i = 15 := by omega
  rcases this with rfl | rfl | rfl | rfl | rfl | rfl | rfl | rfl | rfl | rfl | rfl | rfl | rfl | rfl | rfl <;> simp [rO, hP, h6, h15]
theorem all_in {r : Nat → Int} (hO : noO r = true) (h15 : r 15 = 0) : ∀ i : Nat, 1 ≤ i → i ≤ 15 → rI (r 6) (pclR r) i = r i := by
  intro i a b
  simp only [noO, Bool.and_eq_true, beq_iff_eq] at hO
  have : i = 1 ∨ i = 2 ∨ i = 3 ∨ i = 4 ∨ i = 5 ∨ i = 6 ∨ i = 7 ∨ i = 8 ∨ i = 9 ∨ i = 10 ∨ i = 11 ∨ i = 12 ∨ i = 13 ∨ i = 14 ∨ i = 15 := by omega
  rcases this with rfl | rfl | rfl | rfl | rfl | rfl | rfl | rfl | rfl | rfl | rfl | rfl | rfl | rfl | rfl <;> simp [rI, pclR, hO, h15]
theorem all_ack {r : Nat → Int} (hO : noO r = true) (hP : noP r = true) : ∀ i : Nat, 1 ≤ i → i ≤ 15 → rA (r 6) (r 15) i = r i := by
  intro i a b
  simp only [noO, noP, Bool.and_eq_true, beq_iff_eq] at hO hP
  have : i = 1 ∨ i = 2 ∨ i = 3 ∨ i = 4 ∨ i = 5 ∨ i = 6 ∨ i = 7 ∨ i = 8 ∨ i = 9 ∨ i = 10 ∨ i = 11 ∨ i = 12 ∨ i = 13 ∨ i = 14 ∨ i = 15 := by omega
  rcases this with rfl | rfl | rfl | rfl | rfl | rfl | rfl | rfl | rfl | rfl | rfl | rfl | rfl | rfl | rfl <;> simp [rA, hO, hP]
theorem digits5 (n : Int) (h0 : 1 ≤ n) (h1 : n ≤ 5000) : atoiV (Lib.decDigits n.toNat) = n := by
  by_cases h : n ≤ 4999
  · exact (good_digits4 n (by omega) h).2.2.1
  · obtain rfl : n = 5000 := by omega
    decide +kernel
theorem ba_of (x : ByteArray) : (⟨x.data.toList.toArray⟩ : ByteArray) = x := eta x
theorem isOf_do {s : ByteArray} {X : List UInt8} {f : Bool} {p0 p1 p2 p3 p4 : Int} (hc : Lib.cut s.data.toList [32] = ([100, 111], X, f))
    (hp : ∀ q0 q1 q2 q3 q4 : Int, ordText q0 q1 q2 q3 q4 = ⟨X.toArray⟩ → ¬ (⟨X.toArray⟩ : ByteArray).size = 0 → p0 = q0 ∧ p1 = q1 ∧ p2 = q2 ∧ p3 = q3 ∧ p4 = q4) : IsOf s 1 (rO p0 p1 p2 p3 p4) := by
  intro k r h h0
  rcases rec_forms h h0 with ⟨d, e⟩ | ⟨d, e⟩ | ⟨d, e⟩
  · obtain ⟨_, eX⟩ := of_cut hc (cut_do e)
    have hX : (⟨X.toArray⟩ : ByteArray) = ordR r := by rw [show X = _ from eX]
    obtain ⟨rfl, rfl, rfl, rfl, rfl⟩ := hp (r 1) (r 2) (r 3) (r 4) (r 5) hX.symm (by rw [hX]; exact ordText_size_pos d.2.1)
    exact ⟨d.1.symm, all_do d.2.2.1 d.2.2.2.1 d.2.2.2.2⟩
  · exact absurd (of_cut hc (cut_in e)).1 (by decide)
  · exact absurd (of_cut hc (cut_ack e)).1 (by decide)
theorem isOf_in {s : ByteArray} {X Da Db : List UInt8} {f g : Bool} {P : Pcl} (hc : Lib.cut s.data.toList [32] = ([105, 110], X, f)) (hd : Lib.cut X [32] = (Da, Db, g))
    (hp : ∀ Q : Pcl, Q.text = ⟨Db.toArray⟩ → ¬ (⟨Db.toArray⟩ : ByteArray).size = 0 → P = Q) : IsOf s 2 (rI (sideF ⟨Da.toArray⟩) P) := by
  intro k r h h0
  rcases rec_forms h h0 with ⟨d, e⟩ | ⟨d, e⟩ | ⟨d, e⟩
  · exact absurd (of_cut hc (cut_do e)).1 (by decide)
  · obtain ⟨_, eX⟩ := of_cut hc (cut_in e)
    have eX' : X = (wordOf (r 6)).data.toList ++ 32 :: (pclR r).text.data.toList := eX
    subst eX'
    obtain ⟨ea, eb⟩ := of_cut hd (cut_word d.2.2.1 _)
    have ha : (⟨Da.toArray⟩ : ByteArray) = wordOf (r 6) := by rw [show Da = _ from ea]
    have hb : (⟨Db.toArray⟩ : ByteArray) = (pclR r).text := by rw [show Db = _ from eb]
    have hP := hp (pclR r) hb.symm (by rw [hb]; exact d.2.2.2.1)
    subst hP
    rw [ha, (side_word d.2.2.1).1]
    exact ⟨d.1.symm, all_in d.2.1 d.2.2.2.2⟩
  · exact absurd (of_cut hc (cut_ack e)).1 (by decide)
theorem isOf_ack {s : ByteArray} {X Da Db : List UInt8} {f g : Bool} (hc : Lib.cut s.data.toList [32] = ([97, 99, 107], X, f)) (hd : Lib.cut X [32] = (Da, Db, g)) :
    IsOf s 3 (rA (sideF ⟨Da.toArray⟩) (atoiV Db)) := by
  intro k r h h0
  rcases rec_forms h h0 with ⟨d, e⟩ | ⟨d, e⟩ | ⟨d, e⟩
  · exact absurd (of_cut hc (cut_do e)).1 (by decide)
  · exact absurd (of_cut hc (cut_in e)).1 (by decide)
  · obtain ⟨_, eX⟩ := of_cut hc (cut_ack e)
    have eX' : X = (wordOf (r 6)).data.toList ++ 32 :: Lib.decDigits (r 15).toNat := eX
    subst eX'
    obtain ⟨ea, eb⟩ := of_cut hd (cut_word d.2.2.1 _)
    have ha : (⟨Da.toArray⟩ : ByteArray) = wordOf (r 6) := by rw [show Da = _ from ea]
    rw [ha, (side_word d.2.2.1).1, show Db = _ from eb, digits5 _ d.2.2.2.2.1 d.2.2.2.2.2]
    exact ⟨d.1.symm, all_ack d.2.1 d.2.2.2.1⟩
theorem isOf_none {s : ByteArray} {A X : List UInt8} {f : Bool} (hc : Lib.cut s.data.toList [32] = (A, X, f)) (h1 : ¬ A = [100, 111]) (h2 : ¬ A = [105, 110]) (h3 : ¬ A = [97, 99, 107]) (k0 : Int) (r0 : Nat → Int) : IsOf s k0 r0 := by
  intro k r h h0
  rcases rec_forms h h0 with ⟨d, e⟩ | ⟨d, e⟩ | ⟨d, e⟩
  · exact absurd (of_cut hc (cut_do e)).1 h1
  · exact absurd (of_cut hc (cut_in e)).1 h2
  · exact absurd (of_cut hc (cut_ack e)).1 h3
/-- OrdRead and PclRead of the program at any text: what they answer is the order, the parcel of that text, where it has one. -/
theorem ord_any (X : ByteArray) : ∃ (p0 p1 p2 p3 p4 : Int) (b : Bool), (∀ q0 q1 q2 q3 q4 : Int, ordText q0 q1 q2 q3 q4 = X → ¬ X.size = 0 → p0 = q0 ∧ p1 = q1 ∧ p2 = q2 ∧ p3 = q3 ∧ p4 = q4)
    ∧ ∀ w, Env w → Calls Tryz.prog 28 #[.string X] w fun e w' => e = .returned (.tuple #[.agg #[.int .i64 p0, .int .i64 p1, .int .i64 p2, .int .i64 p3, .int .i64 p4], .bool b]) ∧ Below w.heap.size w w' := by
  by_cases h : ∃ q0 q1 q2 q3 q4 : Int, ordText q0 q1 q2 q3 q4 = X ∧ ¬ X.size = 0
  · obtain ⟨q0, q1, q2, q3, q4, e, n⟩ := h
    refine ⟨q0, q1, q2, q3, q4, true, fun p0 p1 p2 p3 p4 e' n' => ?_, fun w hE => io_yes e n w hE⟩
    subst e'
    exact ord_inj e n
  · exact ⟨0, 0, 0, 0, 0, false, fun q0 q1 q2 q3 q4 e n => absurd ⟨q0, q1, q2, q3, q4, e, n⟩ h, fun w hE => io_no (fun p0 p1 p2 p3 p4 e => Classical.byContradiction fun n => h ⟨p0, p1, p2, p3, p4, e, n⟩) w hE⟩
theorem pcl_any (X : ByteArray) : ∃ (P : Pcl) (b : Bool), (∀ Q : Pcl, Q.text = X → ¬ X.size = 0 → P = Q)
    ∧ ∀ w, Env w → Calls Tryz.prog 29 #[.string X] w fun e w' => e = .returned (.tuple #[P.val, .bool b]) ∧ Below w.heap.size w w' := by
  by_cases h : ∃ Q : Pcl, Q.text = X ∧ ¬ X.size = 0
  · obtain ⟨Q, e, n⟩ := h
    exact ⟨Q, true, fun R e' n' => ((iP_back e n).1.symm.trans (iP_back e' n').1), fun w hE => iread_yes e n w hE⟩
  · exact ⟨nullP, false, fun Q e n => absurd ⟨Q, e, n⟩ h, fun w hE => iread_no (fun Q e => Classical.byContradiction fun n => h ⟨Q, e, n⟩) w hE⟩
end Go.Proofs.YtgioecjnghllhaaGreatDoor
