/- The walk of the law FnExactOrdRead: it answers true; conditions: the library's variables are as its text lays them. -/
import Derived.Test.YtmccbbanganjlaaDoorOAgree
namespace Go.Proofs.YtmccbbanganjlaaDoor
open Go.RowKit
set_option linter.unusedVariables false

theorem text_of_size {s : ByteArray} (h : s.size = 0) : s = ⟨#[]⟩ := by
  cases s with | mk d => cases d with | mk l => simp [ByteArray.size] at h; simp [h]

theorem oread_long (s : ByteArray) (h : (100 : Int) < (s.size : Int)) (w : World) :
    Calls Tryd.prog 12 #[.string s] w fun e w' => e = .returned (.tuple #[.agg #[.int .i64 0, .int .i64 0, .int .i64 0, .int .i64 0, .int .i64 0], .bool false]) ∧ Below w.heap.size w w' := by
  go_enter Tryd.func12, Tryd.ntmps12
  go_wp2
  all_goals first
    | exact bodyPost_ret (v := .tuple #[.agg #[.int .i64 0, .int .i64 0, .int .i64 0, .int .i64 0, .int .i64 0], .bool false]) (by simp [results, Tryd.results12, go_sem]) rfl ⟨rfl, (Below.refl _ _).alloc (by simp) _⟩
    | (exfalso; simp_all; done)

theorem ord_back {s : ByteArray} {p0 p1 p2 p3 p4 : Int} (h : ordText p0 p1 p2 p3 p4 = s) (h0 : ¬ s.size = 0) :
    ∃ f, s.size ≤ 100 ∧ 3 ≤ (words s.data.toList).length ∧ readerOf (wordB s 2) = some f ∧ (oW s = p0 ∧ oS s = p1 ∧ oK s f = p2 ∧ oT s f = p3 ∧ oN s f = p4) ∧ (uF s 0 = p0 ∧ uF s 1 = p1 ∧ ordK f = p2 ∧ sT s f = p3 ∧ sN s f = p4) := by
  unfold ordText at h
  split at h
  · rename_i hb
    obtain ⟨hw, hq, hk⟩ := ordB_true hb
    have hc : p2 = 1 ∨ p2 = 2 ∨ p2 = 3 ∨ p2 = 4 ∨ p2 = 5 ∨ p2 = 6 := by
      by_cases h1 : p2 = 1 ∨ p2 = 2 ∨ p2 = 3 ∨ p2 = 4 ∨ p2 = 5 ∨ p2 = 6
      · exact h1
      · have n1 : p2 ≠ 1 := by omega
        have n2 : p2 ≠ 2 := by omega
        have n3 : p2 ≠ 3 := by omega
        have n4 : p2 ≠ 4 := by omega
        have n5 : p2 ≠ 5 := by omega
        have n6 : p2 ≠ 6 := by omega
        simp [kindB, n1, n2, n3, n4, n5, n6] at hk
    clear hb
    rcases hc with rfl | rfl | rfl | rfl | rfl | rfl
    · have hk' : sideB p3 = true ∧ p4 = 0 := by simpa [kindB, inB, and_assoc] using hk
      obtain ⟨hd, h4⟩ := hk'
      obtain ⟨a, b, c, ⟨d1, d2, d3, d4⟩, e1, e2, e3, e4⟩ := back_step (s := s) (du := p3) (n := p4) hw hq hd (by rw [← h]; simp [OH, OH1, OH2, tailOf, tstep, DD, ByteArray.data_append])
      exact ⟨55, a, b, c, ⟨d1, d2, rfl, by simp_all, by simp_all⟩, e1, e2, rfl, by simp_all, by simp_all⟩
    · have hk' : 1 ≤ p3 ∧ p3 ≤ 9 ∧ ¬ p3 = p0 ∧ 1 ≤ p4 ∧ p4 ≤ 9 := by simpa [kindB, inB, and_assoc] using hk
      obtain ⟨d1, d2, _, n1, n2⟩ := hk'
      obtain ⟨a, b, c, ⟨d1, d2, d3, d4⟩, e1, e2, e3, e4⟩ := back_give (s := s) (du := p3) (n := p4) hw hq ⟨d1, d2⟩ ⟨n1, n2⟩ (by rw [← h]; simp [OH, OH1, OH2, tailOf, tgive, DD, ByteArray.data_append])
      exact ⟨57, a, b, c, ⟨d1, d2, rfl, by simp_all, by simp_all⟩, e1, e2, rfl, by simp_all, by simp_all⟩
    · have hk' : p3 = 0 ∧ 1 ≤ p4 ∧ p4 ≤ 9 := by simpa [kindB, inB, and_assoc] using hk
      obtain ⟨h3, n1, n2⟩ := hk'
      obtain ⟨a, b, c, ⟨d1, d2, d3, d4⟩, e1, e2, e3, e4⟩ := back_drop (s := s) (du := p3) (n := p4) hw hq ⟨n1, n2⟩ (by rw [← h]; simp [OH, OH1, OH2, tailOf, tdrop, DD, ByteArray.data_append])
      exact ⟨58, a, b, c, ⟨d1, d2, rfl, by simp_all, by simp_all⟩, e1, e2, rfl, by simp_all, by simp_all⟩
    · have hk' : p3 = 0 ∧ 1 ≤ p4 ∧ p4 ≤ 9 := by simpa [kindB, inB, and_assoc] using hk
      obtain ⟨h3, n1, n2⟩ := hk'
      obtain ⟨a, b, c, ⟨d1, d2, d3, d4⟩, e1, e2, e3, e4⟩ := back_pick (s := s) (du := p3) (n := p4) hw hq ⟨n1, n2⟩ (by rw [← h]; simp [OH, OH1, OH2, tailOf, tpick, DD, ByteArray.data_append])
      exact ⟨59, a, b, c, ⟨d1, d2, rfl, by simp_all, by simp_all⟩, e1, e2, rfl, by simp_all, by simp_all⟩
    · have hk' : sideB p3 = true ∧ 1 ≤ p4 ∧ p4 ≤ 9 := by simpa [kindB, inB, and_assoc] using hk
      obtain ⟨hd, n1, n2⟩ := hk'
      obtain ⟨a, b, c, ⟨d1, d2, d3, d4⟩, e1, e2, e3, e4⟩ := back_throw (s := s) (du := p3) (n := p4) hw hq hd ⟨n1, n2⟩ (by rw [← h]; simp [OH, OH1, OH2, tailOf, tthrow, DD, ByteArray.data_append])
      exact ⟨60, a, b, c, ⟨d1, d2, rfl, by simp_all, by simp_all⟩, e1, e2, rfl, by simp_all, by simp_all⟩
    · have hk' : p3 = 0 ∧ p4 = 0 := by simpa [kindB, inB, and_assoc] using hk
      obtain ⟨h3, h4⟩ := hk'
      obtain ⟨a, b, c, ⟨d1, d2, d3, d4⟩, e1, e2, e3, e4⟩ := back_rest (s := s) (du := p3) (n := p4) hw hq (by rw [← h]; simp [OH, OH1, OH2, tailOf, trest, DD, ByteArray.data_append])
      exact ⟨61, a, b, c, ⟨d1, d2, rfl, by simp_all, by simp_all⟩, e1, e2, rfl, by simp_all, by simp_all⟩
  · exact absurd (by rw [← h]; rfl) h0

theorem io_yes {s : ByteArray} {p0 p1 p2 p3 p4 : Int} (h : ordText p0 p1 p2 p3 p4 = s) (h0 : ¬ s.size = 0) (w : World) (hE : Env w) :
    Calls Tryd.prog 12 #[.string s] w fun e w' => e = .returned (.tuple #[.agg #[.int .i64 p0, .int .i64 p1, .int .i64 p2, .int .i64 p3, .int .i64 p4], .bool true]) ∧ Below w.heap.size w w' := by
  obtain ⟨f, hle, h3, hf, ⟨a0, a1, a2, a3, a4⟩, _⟩ := ord_back h h0
  refine (oread_some s (by omega) f hf w hE).mono ?_
  rw [a0, a1, a2, a3, a4]
  rintro e w' ⟨⟨_, rfl⟩ | ⟨hn, _⟩, hb⟩
  · exact ⟨rfl, hb⟩
  · exact absurd (by rw [h]) hn
theorem io_no {s : ByteArray} (h : ∀ p0 p1 p2 p3 p4 : Int, ordText p0 p1 p2 p3 p4 = s → s.size = 0) (w : World) (hE : Env w) :
    Calls Tryd.prog 12 #[.string s] w fun e w' => e = .returned (.tuple #[.agg #[.int .i64 0, .int .i64 0, .int .i64 0, .int .i64 0, .int .i64 0], .bool false]) ∧ Below w.heap.size w w' := by
  by_cases hle : s.size ≤ 100
  · cases hf : readerOf (wordB s 2) with
    | none => exact oread_none s (by omega) hf w hE
    | some f =>
      have h0 : ¬ s.size = 0 := by
        intro e
        rw [text_of_size e] at hf
        exact absurd hf (by simp only [wordB, words]; decide +kernel +revert)
      refine (oread_some s (by omega) f hf w hE).mono ?_
      rintro e w' ⟨⟨hy, _⟩ | ⟨_, rfl⟩, hb⟩
      · exact absurd (h _ _ _ _ _ (text_inj hy)) h0
      · exact ⟨rfl, hb⟩
  · exact oread_long s (by omega) w

theorem so_yes {s : ByteArray} {p0 p1 p2 p3 p4 : Int} (h : ordText p0 p1 p2 p3 p4 = s) (h0 : ¬ s.size = 0) (w : World) :
    Calls Tryd.prog 13 #[.string s] w fun e w' => e = .returned (.tuple #[.agg #[.int .i64 p0, .int .i64 p1, .int .i64 p2, .int .i64 p3, .int .i64 p4], .bool true]) ∧ Below w.heap.size w w' := by
  obtain ⟨f, hle, h3, hf, _, b0, b1, b2, b3, b4⟩ := ord_back h h0
  refine (soread_main s (by omega) h3 p0 p1 p2 p3 p4 (fun base g n cap w hn ho => ?_) w).mono ?_
  · have := what_any s (by omega) h3 base g n cap hn f hf (uF s 0) (uF s 1) w ho
    rw [b2, b3, b4] at this
    refine this.mono ?_
    rintro e w' ⟨rfl, hb⟩
    exact ⟨by rw [b0, b1], hb⟩
  · rintro e w' ⟨⟨_, rfl⟩ | ⟨hn, _⟩, hb⟩
    · exact ⟨rfl, hb⟩
    · exact absurd (by rw [h]) hn
theorem so_no {s : ByteArray} (h : ∀ p0 p1 p2 p3 p4 : Int, ordText p0 p1 p2 p3 p4 = s → s.size = 0) (w : World) :
    Calls Tryd.prog 13 #[.string s] w fun e w' => e = .returned (.tuple #[.agg #[.int .i64 0, .int .i64 0, .int .i64 0, .int .i64 0, .int .i64 0], .bool false]) ∧ Below w.heap.size w w' := by
  by_cases hle : s.size ≤ 100
  · by_cases h3 : 3 ≤ (words s.data.toList).length
    · have h0 : ¬ s.size = 0 := by
        intro e
        rw [text_of_size e] at h3
        simp [words] at h3
      cases hf : readerOf (wordB s 2) with
      | none =>
        refine (soread_main s (by omega) h3 0 0 0 0 0 (fun base g n cap w hn ho => what_else s (by omega) h3 base g n cap hn hf _ _ w ho) w).mono ?_
        rintro e w' ⟨⟨hy, _⟩ | ⟨_, rfl⟩, hb⟩
        · exact absurd (h _ _ _ _ _ (text_inj hy)) h0
        · exact ⟨rfl, hb⟩
      | some f =>
        refine (soread_main s (by omega) h3 _ _ _ _ _ (fun base g n cap w hn ho => what_any s (by omega) h3 base g n cap hn f hf _ _ w ho) w).mono ?_
        rintro e w' ⟨⟨hy, _⟩ | ⟨_, rfl⟩, hb⟩
        · exact absurd (h _ _ _ _ _ (text_inj hy)) h0
        · exact ⟨rfl, hb⟩
    · exact soread_few s (by omega) (by omega) w
  · exact soread_long s (by omega) w

theorem eqOrdOrder (p0 p1 p2 p3 p4 : Int) (w : World) :
    Calls Tryd.prog 19 #[.agg #[.int .i64 p0, .int .i64 p1, .int .i64 p2, .int .i64 p3, .int .i64 p4], .agg #[.int .i64 p0, .int .i64 p1, .int .i64 p2, .int .i64 p3, .int .i64 p4]] w fun e w' => e = .returned (.bool true) ∧ Below w.heap.size w w' := by
  go_enter Tryd.func19, Tryd.ntmps19
  go_wp2
  go_ret
  exact ⟨rfl, by repeat (first | exact Below.refl _ _ | refine bthen ?_ (by assumption) | apply Below.drew | apply bdrewN | refine Below.alloc ?_ (by simp) _)⟩

theorem law_ordRead (s : ByteArray) (w : World) (hE : Env w) :
    Calls Tryd.prog 6 #[.string s] w fun e w' => e = .returned (.bool true) ∧ Below w.heap.size w w' := by
  have HE : Hid (Env w) := hE
  clear hE
  by_cases hbig : (1048576 : Int) < (s.size : Int)
  · go_enter Tryd.func6, Tryd.ntmps6
    go_wp2
    go_ret
    exact ⟨rfl, by repeat (first | exact Below.refl _ _ | refine Below.alloc ?_ (by simp <;> omega) _)⟩
  obtain ⟨p0, p1, p2, p3, p4, b, hsp, him⟩ : ∃ (p0 p1 p2 p3 p4 : Int) (b : Bool), (∀ w : World, Calls Tryd.prog 13 #[.string s] w fun e w' => e = .returned (.tuple #[.agg #[.int .i64 p0, .int .i64 p1, .int .i64 p2, .int .i64 p3, .int .i64 p4], .bool b]) ∧ Below w.heap.size w w') ∧ (∀ w : World, Env w → Calls Tryd.prog 12 #[.string s] w fun e w' => e = .returned (.tuple #[.agg #[.int .i64 p0, .int .i64 p1, .int .i64 p2, .int .i64 p3, .int .i64 p4], .bool b]) ∧ Below w.heap.size w w') := by
    by_cases hy : ∃ p0 p1 p2 p3 p4 : Int, ordText p0 p1 p2 p3 p4 = s ∧ ¬ s.size = 0
    · obtain ⟨p0, p1, p2, p3, p4, h, h0⟩ := hy
      exact ⟨p0, p1, p2, p3, p4, true, fun w => so_yes h h0 w, fun w hE => io_yes h h0 w hE⟩
    · have hn : ∀ p0 p1 p2 p3 p4 : Int, ordText p0 p1 p2 p3 p4 = s → s.size = 0 := fun p0 p1 p2 p3 p4 h => Classical.byContradiction fun h0 => hy ⟨p0, p1, p2, p3, p4, h, h0⟩
      exact ⟨0, 0, 0, 0, 0, false, fun w => so_no hn w, fun w hE => io_no hn w hE⟩
  have HS : Hid (∀ w : World, Calls Tryd.prog 13 #[.string s] w fun e w' => e = .returned (.tuple #[.agg #[.int .i64 p0, .int .i64 p1, .int .i64 p2, .int .i64 p3, .int .i64 p4], .bool b]) ∧ Below w.heap.size w w') := hsp
  have HI : Hid (∀ w : World, Env w → Calls Tryd.prog 12 #[.string s] w fun e w' => e = .returned (.tuple #[.agg #[.int .i64 p0, .int .i64 p1, .int .i64 p2, .int .i64 p3, .int .i64 p4], .bool b]) ∧ Below w.heap.size w w') := him
  have HQ : Hid (∀ w : World, Calls Tryd.prog 19 #[.agg #[.int .i64 p0, .int .i64 p1, .int .i64 p2, .int .i64 p3, .int .i64 p4], .agg #[.int .i64 p0, .int .i64 p1, .int .i64 p2, .int .i64 p3, .int .i64 p4]] w fun e w' => e = .returned (.bool true) ∧ Below w.heap.size w w') := fun w => eqOrdOrder _ _ _ _ _ w
  clear hsp him
  have hbig' : (s.size : Int) ≤ 1048576 := by omega
  clear hbig
  go_enter Tryd.func6, Tryd.ntmps6
  go_wp2_with fail
  refine (HS.out _).mono ?_
  rintro e w1 ⟨rfl, hb1⟩
  have BA : Below w.heap.size w (w1.alloc (.cells #[.int .i64 p0, .int .i64 p1, .int .i64 p2, .int .i64 p3, .int .i64 p4] 24)) := hb1.alloc hb1.size _
  go_wp2_with fail
  refine (HI.out _ (HE.out.on BA)).mono ?_
  rintro e w2 ⟨rfl, hb2⟩
  obtain ⟨hc2, hf2⟩ := bcell hb2
  have q0 : w2.cell? ⟨w1.heap.size, 0, none⟩ = some (.int .i64 p0) := (hc2 _ 0 (by simp)).trans (by simp)
  have q1 : w2.cell? ⟨w1.heap.size, 1, none⟩ = some (.int .i64 p1) := (hc2 _ 1 (by simp)).trans (by simp)
  have q2 : w2.cell? ⟨w1.heap.size, 2, none⟩ = some (.int .i64 p2) := (hc2 _ 2 (by simp)).trans (by simp)
  have q3 : w2.cell? ⟨w1.heap.size, 3, none⟩ = some (.int .i64 p3) := (hc2 _ 3 (by simp)).trans (by simp)
  have q4 : w2.cell? ⟨w1.heap.size, 4, none⟩ = some (.int .i64 p4) := (hc2 _ 4 (by simp)).trans (by simp)
  have hlt : w1.heap.size < w2.heap.size := Nat.lt_of_lt_of_le (by simp) hb2.size
  have hne : w1.heap.size ≠ w2.heap.size := by omega
  have hne' : w2.heap.size ≠ w1.heap.size := by omega
  have cz : ∀ (X : World) (ob : Obj) (o : Nat), X.heap.size = w2.heap.size → (X.alloc ob).cell? ⟨w1.heap.size, o, none⟩ = X.cell? ⟨w1.heap.size, o, none⟩ := fun X ob o hX => ((Below.refl _ _).alloc (Nat.le_refl _) _ : Below X.heap.size X (X.alloc ob)).cell (p := ⟨w1.heap.size, o, none⟩) (by rw [hX]; exact hlt)
  have B2 : Hid (Below w.heap.size w (w2.alloc (.cells #[.int .i64 p0, .int .i64 p1, .int .i64 p2, .int .i64 p3, .int .i64 p4] 24))) := (bthen BA hb2).alloc (bthen BA hb2).size _
  clear hc2 hf2 hb2 BA hb1
  go_wp2_with fail
  refine (HQ.out _).mono ?_
  rintro e w3 ⟨rfl, hb3⟩
  cases b
  all_goals
    go_wp2
    go_ret
    exact ⟨rfl, bthen B2.out hb3⟩
end Go.Proofs.YtmccbbanganjlaaDoor
