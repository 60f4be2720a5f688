/- The walk of the law FnExactPclRead: it answers true; conditions: the library's variables are as its text lays them. -/
import Derived.Test.YtmccbbanganjlaaDoorPAgree
import Derived.Test.YtmccbbanganjlaaDoorPRead5
namespace Go.Proofs.YtmccbbanganjlaaDoor
open Go.RowKit
set_option linter.unusedVariables false

theorem nonempty_of_size {s : ByteArray} (h : ¬ s.size = 0) : s.toList.isEmpty = false := by
  cases e : s.toList.isEmpty
  · rfl
  · exact absurd (by
      have h1 : s.toList = [] := by simpa using e
      have h2 : s = ⟨#[]⟩ := text_inj (by rw [h1]; decide +kernel)
      rw [h2]; rfl) h

theorem iread_yes {P : Pcl} {s : ByteArray} (h : P.text = s) (h0 : ¬ s.size = 0) (w : World) (hE : Env w) :
    Calls Tryd.prog 24 #[.string s] w fun e w' => e = .returned (.tuple #[P.val, .bool true]) ∧ Below w.heap.size w w' := by
  obtain ⟨hi, hle⟩ := iP_back h h0
  refine (pread_main s (nonempty_of_size h0) (by omega) w hE).mono ?_
  rw [hi]
  rintro e w' ⟨⟨_, rfl⟩ | ⟨hn, _⟩, hb⟩
  · exact ⟨rfl, hb⟩
  · exact absurd (by rw [h]) hn
theorem iread_no {s : ByteArray} (h : ∀ P : Pcl, P.text = s → s.size = 0) (w : World) (hE : Env w) :
    Calls Tryd.prog 24 #[.string s] w fun e w' => e = .returned (.tuple #[nullP.val, .bool false]) ∧ Below w.heap.size w w' := by
  by_cases h0 : s.size = 0
  · rw [empty_of_size h0]; exact pread_zero w
  by_cases hle : s.size ≤ 100
  · refine (pread_main s (nonempty_of_size h0) (by omega) w hE).mono ?_
    rintro e w' ⟨⟨hy, _⟩ | ⟨_, rfl⟩, hb⟩
    · exact absurd (h _ (text_inj hy)) h0
    · exact ⟨rfl, hb⟩
  · exact pread_long s (nonempty_of_size h0) (by omega) w

theorem sread_yes {P : Pcl} {s : ByteArray} (h : P.text = s) (h0 : ¬ s.size = 0) (w : World) :
    Calls Tryd.prog 23 #[.string s] w fun e w' => e = .returned (.tuple #[P.val, .bool true]) ∧ Below w.heap.size w w' := by
  obtain ⟨hle, h3, ⟨hw, R, hR, hv, hP⟩ | ⟨hw, hP⟩⟩ := sP_back h h0
  · refine (sread_good s (by omega) h3 hw R hR hv w).mono ?_
    rw [← hP]
    rintro e w' ⟨⟨_, rfl⟩ | ⟨hn, _⟩, hb⟩
    · exact ⟨rfl, hb⟩
    · exact absurd (by rw [h]) hn
  · refine (sread_coins s (by omega) h3 hw w).mono ?_
    rw [← hP]
    rintro e w' ⟨⟨_, rfl⟩ | ⟨hn, _⟩, hb⟩
    · exact ⟨rfl, hb⟩
    · exact absurd (by rw [h]) hn
theorem sread_no {s : ByteArray} (h : ∀ P : Pcl, P.text = s → s.size = 0) (w : World) :
    Calls Tryd.prog 23 #[.string s] w fun e w' => e = .returned (.tuple #[nullP.val, .bool false]) ∧ Below w.heap.size w w' := by
  by_cases hle : s.size ≤ 100
  · by_cases h3 : 3 ≤ (words s.data.toList).length
    · have h0 : ¬ s.size = 0 := by
        intro e
        rw [empty_of_size e] at h3
        simp [words] at h3
      by_cases hw : (words s.data.toList).getD 1 [] = WALKER
      · by_cases hv : vOk ⟨(restF s.data.toList).toArray⟩
        · refine (sread_good s (by omega) h3 hw _ rfl hv w).mono ?_
          rintro e w' ⟨⟨hy, _⟩ | ⟨_, rfl⟩, hb⟩
          · exact absurd (h _ (text_inj hy)) h0
          · exact ⟨rfl, hb⟩
        · exact sread_bad s (by omega) h3 hw hv w
      · refine (sread_coins s (by omega) h3 hw w).mono ?_
        rintro e w' ⟨⟨hy, _⟩ | ⟨_, rfl⟩, hb⟩
        · exact absurd (h _ (text_inj hy)) h0
        · exact ⟨rfl, hb⟩
    · exact sread_few s (by omega) (by omega) w
  · exact sread_long s (by omega) w

theorem eqWalker8 (i a n s l : Int) (w : World) :
    Calls Tryd.prog 50 #[.agg #[.int .i64 i, .int .i64 a, .int .i64 n, .int .i64 s, .int .i64 l], .agg #[.int .i64 i, .int .i64 a, .int .i64 n, .int .i64 s, .int .i64 l]] w fun e w' => e = .returned (.bool true) ∧ Below w.heap.size w w' := by
  go_enter Tryd.func50, Tryd.ntmps50
  go_wp2
  go_ret
  exact ⟨rfl, by repeat (first | exact Below.refl _ _ | refine bthen ?_ (by assumption) | apply Below.drew | apply bdrewN | refine Below.alloc ?_ (by simp) _)⟩

set_option maxHeartbeats 1000000 in
theorem eqParcel (P : Pcl) (w : World) :
    Calls Tryd.prog 25 #[P.val, P.val] w fun e w' => e = .returned (.bool true) ∧ Below w.heap.size w w' := by
  obtain ⟨pn, pk, i, a, n, s, l, pc⟩ := P
  simp only [Pcl.val]
  go_enter Tryd.func25, Tryd.ntmps25
  go_wp2_with (go_at_call 50; refine (eqWalker8 _ _ _ _ _ _).mono ?_; rintro e w1 ⟨rfl, hb⟩; obtain ⟨hc, hf⟩ := bcell hb)
  go_ret
  exact ⟨rfl, by repeat (first | exact Below.refl _ _ | refine bthen ?_ (by assumption) | refine Below.alloc ?_ (by simp <;> omega) _)⟩

theorem law_pclRead (s : ByteArray) (w : World) (hE : Env w) :
    Calls Tryd.prog 8 #[.string s] w fun e w' => e = .returned (.bool true) ∧ Below w.heap.size w w' := by
  have HE : Hid (Env w) := hE
  clear hE
  by_cases hbig : (1048576 : Int) < (s.size : Int)
  · go_enter Tryd.func8, Tryd.ntmps8
    go_wp2
    go_ret
    exact ⟨rfl, by repeat (first | exact Below.refl _ _ | refine Below.alloc ?_ (by simp <;> omega) _)⟩
  obtain ⟨P, b, hsp, him⟩ : ∃ (P : Pcl) (b : Bool), (∀ w : World, Calls Tryd.prog 23 #[.string s] w fun e w' => e = .returned (.tuple #[P.val, .bool b]) ∧ Below w.heap.size w w') ∧ (∀ w : World, Env w → Calls Tryd.prog 24 #[.string s] w fun e w' => e = .returned (.tuple #[P.val, .bool b]) ∧ Below w.heap.size w w') := by
    by_cases hy : ∃ P : Pcl, P.text = s ∧ ¬ s.size = 0
    · obtain ⟨P, h, h0⟩ := hy
      exact ⟨P, true, fun w => sread_yes h h0 w, fun w hE => iread_yes h h0 w hE⟩
    · have hn : ∀ P : Pcl, P.text = s → s.size = 0 := fun P h => Classical.byContradiction fun h0 => hy ⟨P, h, h0⟩
      exact ⟨nullP, false, fun w => sread_no hn w, fun w hE => iread_no hn w hE⟩
  have HS : Hid (∀ w : World, Calls Tryd.prog 23 #[.string s] w fun e w' => e = .returned (.tuple #[P.val, .bool b]) ∧ Below w.heap.size w w') := hsp
  have HI : Hid (∀ w : World, Env w → Calls Tryd.prog 24 #[.string s] w fun e w' => e = .returned (.tuple #[P.val, .bool b]) ∧ Below w.heap.size w w') := him
  have HQ : Hid (∀ w : World, Calls Tryd.prog 25 #[P.val, P.val] w fun e w' => e = .returned (.bool true) ∧ Below w.heap.size w w') := fun w => eqParcel P w
  clear hsp him
  obtain ⟨pn, pk, i, a, n, s1, l, pc⟩ := P
  simp only [Pcl.val] at HS HI HQ
  have hbig' : (s.size : Int) ≤ 1048576 := by omega
  clear hbig
  go_enter Tryd.func8, Tryd.ntmps8
  go_wp2_with fail
  refine (HS.out _).mono ?_
  rintro e w1 ⟨rfl, hb1⟩
  have BA : Below w.heap.size w (w1.alloc (.cells #[.int .i64 pn, .int .i64 pk, .int .i64 i, .int .i64 a, .int .i64 n, .int .i64 s1, .int .i64 l, .int .i64 pc] 44)) := hb1.alloc hb1.size _
  go_wp2_with fail
  refine (HI.out _ (HE.out.on BA)).mono ?_
  rintro e w2 ⟨rfl, hb2⟩
  obtain ⟨hc2, hf2⟩ := bcell hb2
  have p0 : w2.cell? ⟨w1.heap.size, 0, none⟩ = some (.int .i64 pn) := (hc2 _ 0 (by simp)).trans (by simp)
  have p1 : w2.cell? ⟨w1.heap.size, 1, none⟩ = some (.int .i64 pk) := (hc2 _ 1 (by simp)).trans (by simp)
  have p2 : w2.cell? ⟨w1.heap.size, 2, none⟩ = some (.int .i64 i) := (hc2 _ 2 (by simp)).trans (by simp)
  have p3 : w2.cell? ⟨w1.heap.size, 3, none⟩ = some (.int .i64 a) := (hc2 _ 3 (by simp)).trans (by simp)
  have p4 : w2.cell? ⟨w1.heap.size, 4, none⟩ = some (.int .i64 n) := (hc2 _ 4 (by simp)).trans (by simp)
  have p5 : w2.cell? ⟨w1.heap.size, 5, none⟩ = some (.int .i64 s1) := (hc2 _ 5 (by simp)).trans (by simp)
  have p6 : w2.cell? ⟨w1.heap.size, 6, none⟩ = some (.int .i64 l) := (hc2 _ 6 (by simp)).trans (by simp)
  have p7 : w2.cell? ⟨w1.heap.size, 7, none⟩ = some (.int .i64 pc) := (hc2 _ 7 (by simp)).trans (by simp)
  have hlt : w1.heap.size < w2.heap.size := Nat.lt_of_lt_of_le (by simp) hb2.size
  have hne : w1.heap.size ≠ w2.heap.size := by omega
  have hne' : w2.heap.size ≠ w1.heap.size := by omega
  have cz : ∀ (X : World) (ob : Obj) (o : Nat), X.heap.size = w2.heap.size → (X.alloc ob).cell? ⟨w1.heap.size, o, none⟩ = X.cell? ⟨w1.heap.size, o, none⟩ := fun X ob o hX => ((Below.refl _ _).alloc (Nat.le_refl _) _ : Below X.heap.size X (X.alloc ob)).cell (p := ⟨w1.heap.size, o, none⟩) (by rw [hX]; exact hlt)
  have B2 : Hid (Below w.heap.size w (w2.alloc (.cells #[.int .i64 pn, .int .i64 pk, .int .i64 i, .int .i64 a, .int .i64 n, .int .i64 s1, .int .i64 l, .int .i64 pc] 44))) := (bthen BA hb2).alloc (bthen BA hb2).size _
  clear hc2 hf2 hb2 BA hb1
  go_wp2_with fail
  refine (HQ.out _).mono ?_
  rintro e w3 ⟨rfl, hb3⟩
  cases b
  all_goals
    go_wp2
    go_ret
    exact ⟨rfl, bthen B2.out hb3⟩
end Go.Proofs.YtmccbbanganjlaaDoor
