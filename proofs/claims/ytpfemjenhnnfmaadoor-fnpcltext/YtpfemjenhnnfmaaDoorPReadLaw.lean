/- The walk of the law FnExactPclRead: it answers true; conditions: the library's variables are as its text lays them. -/
import Derived.Test.YtpfemjenhnnfmaaDoorPAgree
import Derived.Test.YtpfemjenhnnfmaaDoorPRead5
namespace Go.Proofs.YtpfemjenhnnfmaaDoor
open Go.RowKit
set_option linter.unusedVariables false

theorem nonempty_of_size {s : ByteArray} (h : ¬ s.size = 0) : s.toList.isEmpty = false := by
  cases e : s.toList.isEmpty
  · rfl
  · exact absurd (by
      have h1 : s.toList = [] := by simpa using e
      have h2 : s = ⟨#[]⟩ := text_inj (by rw [h1]; decide +kernel)
      rw [h2]; rfl) h

theorem iread_yes {P : Pcl} {s : ByteArray} (h : P.text = s) (h0 : ¬ s.size = 0) (w : World) (hE : Env w) :
    Calls Tryd.prog 7 #[.string s] w fun e w' => e = .returned (.tuple #[P.val, .bool true]) ∧ Below w.heap.size w w' := by
  obtain ⟨hi, hle⟩ := iP_back h h0
  refine (pread_main s (nonempty_of_size h0) (by omega) w hE).mono ?_
  rw [hi]
  rintro e w' ⟨⟨_, rfl⟩ | ⟨hn, _⟩, hb⟩
  · exact ⟨rfl, hb⟩
  · exact absurd (by rw [h]) hn
theorem iread_no {s : ByteArray} (h : ∀ P : Pcl, P.text = s → s.size = 0) (w : World) (hE : Env w) :
    Calls Tryd.prog 7 #[.string s] w fun e w' => e = .returned (.tuple #[nullP.val, .bool false]) ∧ Below w.heap.size w w' := by
  by_cases h0 : s.size = 0
  · rw [empty_of_size h0]; exact pread_zero w
  by_cases hle : s.size ≤ 100
  · refine (pread_main s (nonempty_of_size h0) (by omega) w hE).mono ?_
    rintro e w' ⟨⟨hy, _⟩ | ⟨_, rfl⟩, hb⟩
    · exact absurd (h _ (text_inj hy)) h0
    · exact ⟨rfl, hb⟩
  · exact pread_long s (nonempty_of_size h0) (by omega) w

theorem sread_yes {P : Pcl} {s : ByteArray} (h : P.text = s) (h0 : ¬ s.size = 0) (w : World) :
    Calls Tryd.prog 8 #[.string s] w fun e w' => e = .returned (.tuple #[P.val, .bool true]) ∧ Below w.heap.size w w' := by
  obtain ⟨hle, h3, ⟨hw, R, hR, hv, hP⟩ | ⟨hw, hP⟩⟩ := sP_back h h0
  · refine (sread_good s (by omega) h3 hw R hR hv w).mono ?_
    rw [← hP]
    rintro e w' ⟨⟨_, rfl⟩ | ⟨hn, _⟩, hb⟩
    · exact ⟨rfl, hb⟩
    · exact absurd (by rw [h]) hn
  · refine (sread_coins s (by omega) h3 hw w).mono ?_
    rw [← hP]
    rintro e w' ⟨⟨_, rfl⟩ | ⟨hn, _⟩, hb⟩
    · exact ⟨rfl, hb⟩
    · exact absurd (by rw [h]) hn
theorem sread_no {s : ByteArray} (h : ∀ P : Pcl, P.text = s → s.size = 0) (w : World) :
    Calls Tryd.prog 8 #[.string s] w fun e w' => e = .returned (.tuple #[nullP.val, .bool false]) ∧ Below w.heap.size w w' := by
  by_cases hle : s.size ≤ 100
  · by_cases h3 : 3 ≤ (words s.data.toList).length
    · have h0 : ¬ s.size = 0 := by
        intro e
        rw [empty_of_size e] at h3
        simp [words] at h3
      by_cases hw : (words s.data.toList).getD 1 [] = WALKER
      · by_cases hv : vOk ⟨(restF s.data.toList).toArray⟩
        · refine (sread_good s (by omega) h3 hw _ rfl hv w).mono ?_
          rintro e w' ⟨⟨hy, _⟩ | ⟨_, rfl⟩, hb⟩
          · exact absurd (h _ (text_inj hy)) h0
          · exact ⟨rfl, hb⟩
        · exact sread_bad s (by omega) h3 hw hv w
      · refine (sread_coins s (by omega) h3 hw w).mono ?_
        rintro e w' ⟨⟨hy, _⟩ | ⟨_, rfl⟩, hb⟩
        · exact absurd (h _ (text_inj hy)) h0
        · exact ⟨rfl, hb⟩
    · exact sread_few s (by omega) (by omega) w
  · exact sread_long s (by omega) w

end Go.Proofs.YtpfemjenhnnfmaaDoor
