/- numbersBehind of the program; conditions: those typed. -/
import Derived.Test.YtlmoeacpkkkkcaaGreatDoorTD
namespace Go.Proofs.YtlmoeacpkkkkcaaGreatDoor
open Go.RowKit Go.Deep
set_option linter.unusedVariables false
set_option maxRecDepth 20000
/-- The numbers behind a word, so many; none, if the line is no such one. -/
def behindOf (line word : ByteArray) (n : Nat) : List Int :=
  if line.size ≤ 100 ∧ (⟨(Lib.cut line.data.toList [32]).1.toArray⟩ : ByteArray) = word ∧ (numsOf (Lib.cut line.data.toList [32]).2.1).length = n then numsOf (Lib.cut line.data.toList [32]).2.1 else []
set_option maxHeartbeats 2000000 in
theorem behind (line word : ByteArray) (n : Nat) (hl : line.size ≤ 1048576) (h0 : 0 < n) (hn : n ≤ 2) (w : World) (hE : Env w) :
    Calls Tryz.prog 40 #[.string line, .string word, .int .i64 (n : Int)] w fun e w' => ((behindOf line word n = [] ∧ e = .returned (.slice none 0 0)) ∨ ∃ g cap, (behindOf line word n).length = n ∧ e = .returned (.slice (some ⟨g, 0, none⟩) n cap) ∧ w'.ownsRow w.heap.size 3 1 (.slice (some ⟨g, 0, none⟩) n cap) n (ints (behindOf line word n))) ∧ Below w.heap.size w w' := by
  have HE := hid hE
  obtain ⟨⟨m, hm⟩, _⟩ := HE.out _ (Below.refl _ _)
  have HM := hid hm
  clear hE hm
  obtain ⟨l1, l2⟩ := cut_len line.data.toList
  rw [size_len] at l1 l2
  obtain ⟨Ca, Cb, Cf, hc⟩ : ∃ Ca Cb Cf, Lib.cut line.data.toList [32] = (Ca, Cb, Cf) := ⟨_, _, _, rfl⟩
  rw [hc] at l1 l2
  simp only at l1 l2
  have HC := hid hc
  obtain ⟨L, hL⟩ : ∃ L, L = behindOf line word n := ⟨_, rfl⟩
  have HL : Hid (L = if line.size ≤ 100 ∧ (⟨Ca.toArray⟩ : ByteArray) = word ∧ (numsOf Cb).length = n then numsOf Cb else []) := by
    unfold Hid
    rw [hL]; unfold behindOf; rw [hc]
  rw [← hL]
  clear hL hc
  go_enter Tryz.func40, Tryz.ntmps40
  go_wp2_with fail
  refine (Tryz.strings_Cut line ⟨#[32]⟩ m _ (by omega) HM.out).mono ?_
  rintro e w1 ⟨rfl, nd, e1⟩
  have hb1 : Below w.heap.size w w1 := by rw [e1]; exact bdrewN (Below.refl _ _) nd
  clear e1
  rw [show (⟨#[32]⟩ : ByteArray).data.toList = [32] from rfl, HC.out]
  by_cases hs : line.size ≤ 100
  · have hs' : ¬ (100 : Int) < (line.size : Int) := by omega
    by_cases hw : (⟨Ca.toArray⟩ : ByteArray) = word
    · have hw2 : ((⟨Ca.toArray⟩ : ByteArray).toList == word.toList) = true := by rw [hw]; simp
      have hw3 : (Ca == word.toList) = true := by rw [← hw, ByteArray.toList_eq]; simp
      have HW := hid hw
      clear hw
      go_wp2_with fail
      refine (line_numbers ⟨Cb.toArray⟩ (by simp [ByteArray.size]; omega) _ (HE.out.on hb1)).mono ?_
      rintro e w2 ⟨v, rfl, ho, hb2⟩
      rw [show (⟨Cb.toArray⟩ : ByteArray).data.toList = Cb from rfl] at ho
      have HB := hid (bthen hb1 hb2)
      have hz1 := hb1.size
      clear hb1 hb2
      by_cases hk : (numsOf Cb).length = n
      · have e : L = numsOf Cb := by rw [HL.out, if_pos ⟨hs, HW.out, hk⟩]
        rcases ho.2 with ⟨_, h⟩ | ⟨g, cap, cur, rfl, _⟩
        · omega
        · have HO := hid ho
          have HK := hid hk
          have HEL := hid e
          have hk2 : (((numsOf Cb).length : Int) == (n : Int)) = true := by rw [hk]; simp
          clear ho hk e
          go_wp2
          go_ret
          refine ⟨.inr ⟨g, cap, by rw [HEL.out]; exact HK.out, by first | rfl | (rw [HK.out]; rfl), ?_⟩, HB.out⟩
          have h := HO.out
          rw [HEL.out]
          rw [HK.out] at h
          exact ⟨h.1, h.2.imp id (fun ⟨g, cap, cur, a, b, c⟩ => ⟨g, cap, cur, a, Nat.le_trans hz1 b, c⟩)⟩
      · have e : L = [] := by rw [HL.out, if_neg (fun q => hk q.2.2)]
        have hk2 : (((numsOf Cb).length : Int) == (n : Int)) = false := by rw [beq_eq_false_iff_ne]; omega
        rcases ho.2 with ⟨rfl, h⟩ | ⟨g, cap, cur, rfl, _⟩
        · have hk3 : (((0 : Nat) : Int) == (n : Int)) = false := by rw [beq_eq_false_iff_ne]; omega
          clear ho
          go_wp2
          go_ret
          exact ⟨.inl ⟨e, rfl⟩, HB.out⟩
        · clear ho
          go_wp2
          go_ret
          exact ⟨.inl ⟨e, rfl⟩, HB.out⟩
    · have hw2 : ((⟨Ca.toArray⟩ : ByteArray).toList == word.toList) = false := by rw [list_eq]; exact decide_eq_false hw
      have hw3 : (Ca == word.toList) = false := by
        rw [ByteArray.toList_eq, beq_eq_false_iff_ne]
        intro q
        apply hw
        rw [q]
      have e : L = [] := by rw [HL.out, if_neg (fun q => hw q.2.1)]
      go_wp2
      go_ret
      exact ⟨.inl ⟨e, rfl⟩, hb1⟩
  · have hs' : (100 : Int) < (line.size : Int) := by omega
    have e : L = [] := by rw [HL.out, if_neg (fun q => hs q.1)]
    go_wp2
    go_ret
    exact ⟨.inl ⟨e, rfl⟩, hb1⟩
end Go.Proofs.YtlmoeacpkkkkcaaGreatDoor
