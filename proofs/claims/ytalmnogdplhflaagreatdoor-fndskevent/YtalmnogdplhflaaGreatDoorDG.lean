/- DskEvent: both answer the same; conditions: those typed. -/
import Derived.Test.YtalmnogdplhflaaGreatDoorDE
import Derived.Test.YtalmnogdplhflaaGreatDoorDF
import Derived.Deep.DeepCutAuto
namespace Go.Proofs.YtalmnogdplhflaaGreatDoor
open Go.RowKit Go.Deep
set_option linter.unusedVariables false
set_option maxRecDepth 20000
theorem int_cell {w : World} {base g n cap : Nat} {ns : List Int} (ho : w.ownsRow base 3 1 (.slice (some ⟨g, 0, none⟩) n cap) ns.length (ints ns)) (k : Nat) (z : Int) (h : ns[k]? = some z) : w.cell? ⟨g, k, none⟩ = some (.int .i64 z) := by
  have hc := ho.cells (g := g) rfl k (.int .i64 z) (by simp [ints, h])
  rwa [show (⟨g, 0, none⟩ : Addr).add k = ⟨g, k, none⟩ by unfold Addr.add; split <;> simp_all] at hc
theorem num_two (k a b : Int) (hk : k = 1 ∨ k = 7) (ns : List Int) (hns : ns = [a, b]) (base : Nat) (v : Value) (w : World) (ho : w.ownsRow base 3 1 v ns.length (ints ns)) :
    Calls Tryz.prog 12 #[.int .i64 k, v] w fun e w' => e = .returned (.tuple #[.agg #[.int .i64 (k), .int .i64 (a), .int .i64 (0), .int .i64 (b), .int .i64 (0)], .bool true]) ∧ Below w.heap.size w w' := by
  subst hns
  rcases ho.2 with ⟨_, h⟩ | ⟨g, cap, cur, rfl, _, _, hcap, _⟩
  · simp at h
  · exact nev_two_yes k a b hk g cap (by simpa using hcap) w (int_cell ho 0 a rfl) (int_cell ho 1 b rfl)
theorem num_one (k a : Int) (hk : k = 3 ∨ k = 4 ∨ k = 5 ∨ k = 6 ∨ k = 8 ∨ k = 9) (ns : List Int) (hns : ns = [a]) (base : Nat) (v : Value) (w : World) (ho : w.ownsRow base 3 1 v ns.length (ints ns)) :
    Calls Tryz.prog 12 #[.int .i64 k, v] w fun e w' => e = .returned (.tuple #[.agg #[.int .i64 (k), .int .i64 (a), .int .i64 (0), .int .i64 (0), .int .i64 (0)], .bool true]) ∧ Below w.heap.size w w' := by
  subst hns
  rcases ho.2 with ⟨_, h⟩ | ⟨g, cap, cur, rfl, _, _, hcap, _⟩
  · simp at h
  · exact nev_one_yes k a hk g cap w (int_cell ho 0 a rfl)
theorem num_no (k : Int) (ns : List Int) (hk : k = 0 ∨ ((k = 1 ∨ k = 7) ∧ ¬ ns.length = 2) ∨ ((k = 3 ∨ k = 4 ∨ k = 5 ∨ k = 6 ∨ k = 8 ∨ k = 9) ∧ ¬ ns.length = 1)) (base : Nat) (v : Value) (w : World) (ho : w.ownsRow base 3 1 v ns.length (ints ns)) :
    Calls Tryz.prog 12 #[.int .i64 k, v] w fun e w' => e = .returned (.tuple #[.agg #[.int .i64 0, .int .i64 0, .int .i64 0, .int .i64 0, .int .i64 0], .bool false]) ∧ Below w.heap.size w w' := by
  obtain ⟨a, n, cap, rfl, hn⟩ : ∃ a n cap, v = .slice a n cap ∧ n = ns.length := by
    rcases ho.2 with ⟨rfl, h⟩ | ⟨g, cap, cur, rfl, _⟩
    · exact ⟨_, _, _, rfl, h.symm⟩
    · exact ⟨_, _, _, rfl, rfl⟩
  rcases hk with rfl | ⟨hk, hl⟩ | ⟨hk, hl⟩
  · exact nev_zero a n cap w
  · exact nev_two_no k hk a n cap (by omega) w
  · exact nev_one_no k hk a n cap (by omega) w
theorem kind_in (x : ByteArray) : kindOf x = 2 ∨ kindOf x = 0 ∨ (kindOf x = 1 ∨ kindOf x = 7) ∨ (kindOf x = 3 ∨ kindOf x = 4 ∨ kindOf x = 5 ∨ kindOf x = 6 ∨ kindOf x = 8 ∨ kindOf x = 9) := by
  unfold kindOf
  repeat' split
  all_goals simp
theorem kind_lit (x : List UInt8) (h : ¬ known x = true) : kindOf ⟨x.toArray⟩ = 0 := by
  have q : ∀ y : List UInt8, (x == y) = false → ¬ (⟨x.toArray⟩ : ByteArray) = ⟨y.toArray⟩ := by
    intro y hy e
    have : x = y := by have := congrArg (fun z : ByteArray => z.data.toList) e; simpa using this
    rw [this] at hy
    simp at hy
  simp only [known, Bool.or_eq_true, not_or, Bool.not_eq_true] at h
  obtain ⟨⟨⟨⟨⟨⟨⟨⟨h0, h1⟩, h2⟩, h3⟩, h4⟩, h5⟩, h6⟩, h7⟩, h8⟩ := h
  unfold kindOf
  rw [if_neg (q _ h0), if_neg (q _ h1), if_neg (q _ h2), if_neg (q _ h3), if_neg (q _ h4), if_neg (q _ h5), if_neg (q _ h6), if_neg (q _ h7), if_neg (q _ h8)]
/-- What both answer. -/
def Same (s : ByteArray) : Prop := ∃ (v0 v1 v2 v3 v4 : Int) (b : Bool), (∀ w : World, Calls Tryz.prog 6 #[.string s] w fun e w' => e = .returned (.tuple #[.agg #[.int .i64 v0, .int .i64 v1, .int .i64 v2, .int .i64 v3, .int .i64 v4], .bool b]) ∧ Below w.heap.size w w') ∧ (∀ w : World, Env w → Calls Tryz.prog 5 #[.string s] w fun e w' => e = .returned (.tuple #[.agg #[.int .i64 v0, .int .i64 v1, .int .i64 v2, .int .i64 v3, .int .i64 v4], .bool b]) ∧ Below w.heap.size w w')
theorem same_no {s : ByteArray} (h1 : ∀ w : World, Calls Tryz.prog 6 #[.string s] w fun e w' => e = .returned (.tuple #[.agg #[.int .i64 0, .int .i64 0, .int .i64 0, .int .i64 0, .int .i64 0], .bool false]) ∧ Below w.heap.size w w') (h2 : ∀ w : World, Env w → Calls Tryz.prog 5 #[.string s] w fun e w' => e = .returned (.tuple #[.agg #[.int .i64 0, .int .i64 0, .int .i64 0, .int .i64 0, .int .i64 0], .bool false]) ∧ Below w.heap.size w w') : Same s := ⟨0, 0, 0, 0, 0, false, h1, h2⟩
theorem mid_text (y q : List UInt8) : (((⟨y.toArray⟩ : ByteArray) ++ MID) ++ ⟨q.toArray⟩).data.toList = y ++ 32 :: 49 :: 32 :: q := by
  simp [MID, ByteArray.data_append]
/-- An order that is asked for, of which nothing is told. -/
theorem ask_none (s : ByteArray) (hs : s.size ≤ 100) (Ca Cb : List UInt8) (Cf : Bool) (hc : Lib.cut s.data.toList [32] = (Ca, Cb, Cf)) (hk : kindOf ⟨Ca.toArray⟩ = 2) (hb : ∀ b ∈ Cb, b ≠ 32) (w : World) (hE : Env w) :
    Calls Tryz.prog 5 #[.string s] w fun e w' => e = .returned (.tuple #[.agg #[.int .i64 0, .int .i64 0, .int .i64 0, .int .i64 0, .int .i64 0], .bool false]) ∧ Below w.heap.size w w' := by
  have hX : ((⟨(Lib.cut Cb [32]).1.toArray⟩ : ByteArray) ++ ⟨#[32, 49, 32]⟩) ++ ⟨(Lib.cut Cb [32]).2.1.toArray⟩ = (⟨Cb.toArray⟩ ++ MID) ++ ⟨([] : List UInt8).toArray⟩ := by rw [cut_none Cb hb]; rfl
  have hT : (((⟨Cb.toArray⟩ : ByteArray) ++ MID) ++ ⟨([] : List UInt8).toArray⟩).data.toList = Cb ++ 32 :: [49, 32] := mid_text Cb []
  generalize ((⟨Cb.toArray⟩ : ByteArray) ++ MID) ++ ⟨([] : List UInt8).toArray⟩ = X at hX hT
  exact im_ask s hs Ca Cb Cf hc 2 hk rfl 0 0 0 0 0 false X hX (fun w hE => io_no (no_ord hb hT) w hE) w hE
theorem same_two {s : ByteArray} (hs : s.size ≤ 100) (hs' : (s.size : Int) ≤ 100) {x r : List UInt8} (hw : words s.data.toList = x :: words r) (hc : Lib.cut s.data.toList [32] = (x, r, true)) (k : Int) (hk : kindOf ⟨x.toArray⟩ = k) (k17 : k = 1 ∨ k = 7)
    (hsp : ∀ w : World, Calls Tryz.prog 6 #[.string s] w fun e w' => ((twoB (words s.data.toList) 2 ∧ e = .returned (.tuple #[.agg #[.int .i64 (k), .int .i64 (atF (words s.data.toList) 1), .int .i64 (0), .int .i64 (atF (words s.data.toList) 2), .int .i64 (0)], .bool true])) ∨ (¬ twoB (words s.data.toList) 2 ∧ e = .returned (.tuple #[.agg #[.int .i64 0, .int .i64 0, .int .i64 0, .int .i64 0, .int .i64 0], .bool false]))) ∧ Below w.heap.size w w') : Same s := by
  by_cases h : twoB (words s.data.toList) 2
  · refine ⟨k, atF (words s.data.toList) 1, 0, atF (words s.data.toList) 2, 0, true, fun w => ?_, fun w hE => ?_⟩
    · refine (hsp w).mono ?_
      rintro e w' ⟨⟨_, rfl⟩ | ⟨hn, _⟩, hb⟩
      · exact ⟨rfl, hb⟩
      · exact absurd h hn
    · refine im_num s hs x r true hc k hk (by omega) _ _ _ _ _ _ (fun base v w ho => num_two k _ _ k17 _ ?_ base v w ho) w hE
      rw [hw] at h ⊢
      exact two_yes h
  · refine same_no (fun w => ?_) (fun w hE => ?_)
    · refine (hsp w).mono ?_
      rintro e w' ⟨⟨hn, _⟩ | ⟨_, rfl⟩, hb⟩
      · exact absurd hn h
      · exact ⟨rfl, hb⟩
    · refine im_num s hs x r true hc k hk (by omega) _ _ _ _ _ _ (fun base v w ho => num_no k _ (.inr (.inl ⟨k17, ?_⟩)) base v w ho) w hE
      rw [hw] at h
      exact two_no h
theorem same_one {s : ByteArray} (hs : s.size ≤ 100) (hs' : (s.size : Int) ≤ 100) {x r : List UInt8} (hw : words s.data.toList = x :: words r) (hc : Lib.cut s.data.toList [32] = (x, r, true)) (k : Int) (hk : kindOf ⟨x.toArray⟩ = k) (k39 : k = 3 ∨ k = 4 ∨ k = 5 ∨ k = 6 ∨ k = 8 ∨ k = 9)
    (hsp : ∀ w : World, Calls Tryz.prog 6 #[.string s] w fun e w' => ((twoB (words s.data.toList) 1 ∧ e = .returned (.tuple #[.agg #[.int .i64 (k), .int .i64 (atF (words s.data.toList) 1), .int .i64 (0), .int .i64 (0), .int .i64 (0)], .bool true])) ∨ (¬ twoB (words s.data.toList) 1 ∧ e = .returned (.tuple #[.agg #[.int .i64 0, .int .i64 0, .int .i64 0, .int .i64 0, .int .i64 0], .bool false]))) ∧ Below w.heap.size w w') : Same s := by
  by_cases h : twoB (words s.data.toList) 1
  · refine ⟨k, atF (words s.data.toList) 1, 0, 0, 0, true, fun w => ?_, fun w hE => ?_⟩
    · refine (hsp w).mono ?_
      rintro e w' ⟨⟨_, rfl⟩ | ⟨hn, _⟩, hb⟩
      · exact ⟨rfl, hb⟩
      · exact absurd h hn
    · refine im_num s hs x r true hc k hk (by omega) _ _ _ _ _ _ (fun base v w ho => num_one k _ k39 _ ?_ base v w ho) w hE
      rw [hw] at h ⊢
      exact one_yes h
  · refine same_no (fun w => ?_) (fun w hE => ?_)
    · refine (hsp w).mono ?_
      rintro e w' ⟨⟨hn, _⟩ | ⟨_, rfl⟩, hb⟩
      · exact absurd hn h
      · exact ⟨rfl, hb⟩
    · refine im_num s hs x r true hc k hk (by omega) _ _ _ _ _ _ (fun base v w ho => num_no k _ (.inr (.inr ⟨k39, ?_⟩)) base v w ho) w hE
      rw [hw] at h
      exact one_no h
theorem same_ask {s : ByteArray} (hs : s.size ≤ 100) (hs' : (s.size : Int) ≤ 100) {r : List UInt8} (e : s.data.toList = [97, 115, 107] ++ 32 :: r) (hw : words s.data.toList = [97, 115, 107] :: words r) (hc : Lib.cut s.data.toList [32] = ([97, 115, 107], r, true)) : Same s := by
  have h0 : (words s.data.toList)[0]? = some [97, 115, 107] := by rw [hw]; rfl
  have hk : kindOf ⟨([97, 115, 107] : List UInt8).toArray⟩ = 2 := by decide +kernel
  have hpos : 0 < (words r).length := by obtain ⟨a, b, e⟩ := words_cons r; rw [e]; simp
  have h2 : 2 ≤ (words s.data.toList).length := by rw [hw]; simp; omega
  rcases blank_or r with hn | ⟨y, q, e2, hy⟩
  · refine same_no (fun w => sp_ask_few s hs' h2 (by rw [hw, words_last r hn]; simp) h0 w) (fun w hE => ask_none s hs _ _ _ hc hk hn w hE)
  · subst e2
    have hw2 : words s.data.toList = [97, 115, 107] :: y :: words q := by rw [hw, words_app y q hy]
    have hq0 : 0 < (words q).length := by obtain ⟨a, b, e⟩ := words_cons q; rw [e]; simp
    have h3 : 3 ≤ (words s.data.toList).length := by rw [hw2]; simp; omega
    have h1 : (words s.data.toList)[1]? = some y := by rw [hw2]; rfl
    have hr : restF (restF s.data.toList) = q := by rw [e, rest_app [97, 115, 107] _ (by decide), rest_app y q hy]
    have hX : ((⟨(Lib.cut (y ++ 32 :: q) [32]).1.toArray⟩ : ByteArray) ++ ⟨#[32, 49, 32]⟩) ++ ⟨(Lib.cut (y ++ 32 :: q) [32]).2.1.toArray⟩ = (⟨y.toArray⟩ ++ MID) ++ ⟨q.toArray⟩ := by rw [cut_app y q hy]; rfl
    generalize hXX : ((⟨y.toArray⟩ : ByteArray) ++ MID) ++ ⟨q.toArray⟩ = X at hX
    by_cases hy' : ∃ p0 p1 p2 p3 p4 : Int, ordText p0 p1 p2 p3 p4 = X ∧ ¬ X.size = 0
    · obtain ⟨p0, p1, p2, p3, p4, h, hz⟩ := hy'
      exact ⟨2, p0, p2, p3, p4, true, fun w => sp_ask s hs' h2 h3 y q h1 hr p0 p1 p2 p3 p4 true X hXX (fun w => so_yes h hz w) h0 w, fun w hE => im_ask s hs _ _ _ hc 2 hk rfl p0 p1 p2 p3 p4 true X hX (fun w hE => io_yes h hz w hE) w hE⟩
    · have hn : ∀ p0 p1 p2 p3 p4 : Int, ordText p0 p1 p2 p3 p4 = X → X.size = 0 := fun p0 p1 p2 p3 p4 h => Classical.byContradiction fun hz => hy' ⟨p0, p1, p2, p3, p4, h, hz⟩
      exact same_no (fun w => sp_ask s hs' h2 h3 y q h1 hr 0 0 0 0 0 false X hXX (fun w => so_no hn w) h0 w) (fun w hE => im_ask s hs _ _ _ hc 2 hk rfl 0 0 0 0 0 false X hX (fun w hE => io_no hn w hE) w hE)
theorem same_all (s : ByteArray) : Same s := by
  by_cases hs : s.size ≤ 100
  · have hs' : (s.size : Int) ≤ 100 := by omega
    rcases blank_or s.data.toList with hn | ⟨x, r, e, hx⟩
    · have hc := cut_none _ hn
      refine same_no (fun w => sp_few s hs' (by rw [words_last _ hn]; simp) w) (fun w hE => ?_)
      rcases kind_in ⟨s.data.toList.toArray⟩ with h | h | h | h
      · exact ask_none s hs _ _ _ hc h (by simp) w hE
      · exact im_num s hs _ _ _ hc 0 h (by omega) _ _ _ _ _ _ (fun base v w ho => num_no 0 _ (.inl rfl) base v w ho) w hE
      · exact im_num s hs _ _ _ hc _ rfl (by omega) _ _ _ _ _ _ (fun base v w ho => num_no _ _ (.inr (.inl ⟨h, by rw [nums_nil]; simp⟩)) base v w ho) w hE
      · exact im_num s hs _ _ _ hc _ rfl (by omega) _ _ _ _ _ _ (fun base v w ho => num_no _ _ (.inr (.inr ⟨h, by rw [nums_nil]; simp⟩)) base v w ho) w hE
    · have hw : words s.data.toList = x :: words r := by rw [e, words_app x r hx]
      have hc : Lib.cut s.data.toList [32] = (x, r, true) := by rw [e]; exact cut_app x r hx
      have hpos : 0 < (words r).length := by obtain ⟨a, b, e⟩ := words_cons r; rw [e]; simp
      have h2 : 2 ≤ (words s.data.toList).length := by rw [hw]; simp; omega
      have h0 : (words s.data.toList)[0]? = some x := by rw [hw]; rfl
      by_cases hk : known x = true
      · simp only [known, Bool.or_eq_true, beq_iff_eq] at hk
        rcases hk with ((((((((rfl | rfl) | rfl) | rfl) | rfl) | rfl) | rfl) | rfl) | rfl)
        · exact same_two hs hs' hw hc 1 (by decide +kernel) (by omega) (fun w => sp_grant s hs' h2 h0 w)
        · exact same_ask hs hs' e hw hc
        · exact same_one hs hs' hw hc 3 (by decide +kernel) (by omega) (fun w => sp_say s hs' h2 h0 w)
        · exact same_one hs hs' hw hc 4 (by decide +kernel) (by omega) (fun w => sp_bring s hs' h2 h0 w)
        · exact same_one hs hs' hw hc 5 (by decide +kernel) (by omega) (fun w => sp_lose s hs' h2 h0 w)
        · exact same_one hs hs' hw hc 6 (by decide +kernel) (by omega) (fun w => sp_twice s hs' h2 h0 w)
        · exact same_two hs hs' hw hc 7 (by decide +kernel) (by omega) (fun w => sp_tick s hs' h2 h0 w)
        · exact same_one hs hs' hw hc 8 (by decide +kernel) (by omega) (fun w => sp_fall s hs' h2 h0 w)
        · exact same_one hs hs' hw hc 9 (by decide +kernel) (by omega) (fun w => sp_rise s hs' h2 h0 w)
      · exact same_no (fun w => sp_else s hs' h2 x hk h0 w) (fun w hE => im_num s hs x r true hc 0 (kind_lit x hk) (by omega) _ _ _ _ _ _ (fun base v w ho => num_no 0 _ (.inl rfl) base v w ho) w hE)
  · exact same_no (fun w => sp_long s (by omega) w) (fun w hE => im_long s (by omega) w)
end Go.Proofs.YtalmnogdplhflaaGreatDoor
