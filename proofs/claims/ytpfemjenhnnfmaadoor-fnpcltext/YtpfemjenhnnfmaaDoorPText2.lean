/- The walk of the model's PclText and of the law FnExactPclText; conditions: the table of powers of ten lies as the text lays it. -/
import Derived.Test.YtpfemjenhnnfmaaDoorPText
namespace Go.Proofs.YtpfemjenhnnfmaaDoor
open Go.RowKit
set_option linter.unusedVariables false

set_option maxHeartbeats 2000000 in
theorem pclText_spec (pn pk i a n s l pc : Int) (w : World) :
    Calls Tryd.prog 9 #[.agg #[.int .i64 pn, .int .i64 pk, .int .i64 i, .int .i64 a, .int .i64 n, .int .i64 s, .int .i64 l, .int .i64 pc]] w fun e w' => e = .returned (.string (pclText pn pk i a n s l pc)) ∧ Below w.heap.size w w' := by
  have he : (⟨#[]⟩ : ByteArray).toList = [] := by decide +kernel
  cases h1 : inB pn 0 4999
  · have HQ : Hid (pclText pn pk i a n s l pc = ⟨#[]⟩) := by show pclText pn pk i a n s l pc = _; simp [pclText, h1]
    clear he
    go_enter Tryd.func9, Tryd.ntmps9
    go_wp2_with (first
      | (go_at_call 23; refine (in_spec _ _ _ _).mono ?_; rintro e w' ⟨rfl, rfl⟩)
      | (go_at_call 24; refine (text_spec _ _ _ _ _ _).mono ?_; rintro e w' ⟨rfl, hb⟩; (first | (replace B0 := bthen B0 hb) | (have B0 := hb)); obtain ⟨hc, hf⟩ := bcell B0)
      | (go_at_call 25; refine (digits_D _ (by omega) (by omega) _).mono ?_; rintro e w' ⟨rfl, hb⟩; (first | (replace B0 := bthen B0 hb) | (have B0 := hb)); obtain ⟨hc, hf⟩ := bcell B0))
    go_ret
    exact ⟨by rw [HQ.out]; rfl, by repeat (first | exact Below.refl _ _ | refine bthen ?_ (by assumption) | apply Below.drew | apply bdrewN | refine Below.alloc ?_ (by simp <;> omega) _)⟩
  have hpn : 0 ≤ pn ∧ pn ≤ 4999 := by simpa [inB] using h1
  have zd : (DD pn).size ≤ 6 := DD_size pn (by omega)
  have zsp : SP.size = 1 := by decide +kernel
  by_cases hk1 : pk = 1
  · subst hk1
    cases h2 : (pc == 0)
    · have HQ : Hid (pclText pn 1 i a n s l pc = ⟨#[]⟩) := by
        show pclText pn 1 i a n s l pc = _
        have : pc ≠ 0 := by simpa using h2
        simp [pclText, cargoText, this, he]
      clear he
      go_enter Tryd.func9, Tryd.ntmps9
      go_wp2_with (first
      | (go_at_call 23; refine (in_spec _ _ _ _).mono ?_; rintro e w' ⟨rfl, rfl⟩)
      | (go_at_call 24; refine (text_spec _ _ _ _ _ _).mono ?_; rintro e w' ⟨rfl, hb⟩; (first | (replace B0 := bthen B0 hb) | (have B0 := hb)); obtain ⟨hc, hf⟩ := bcell B0)
      | (go_at_call 25; refine (digits_D _ (by omega) (by omega) _).mono ?_; rintro e w' ⟨rfl, hb⟩; (first | (replace B0 := bthen B0 hb) | (have B0 := hb)); obtain ⟨hc, hf⟩ := bcell B0))
      go_ret
      exact ⟨by rw [HQ.out]; rfl, by repeat (first | exact Below.refl _ _ | refine bthen ?_ (by assumption) | apply Below.drew | apply bdrewN | refine Below.alloc ?_ (by simp <;> omega) _)⟩
    · have hpc : pc = 0 := by simpa using h2
      subst hpc
      clear h2
      have zt := text_size i a n s l
      cases h3 : (textOf i a n s l).toList.isEmpty
      · have HQ : Hid (pclText pn 1 i a n s l 0 = (DD pn ++ SP) ++ textOf i a n s l) := by
          show pclText pn 1 i a n s l 0 = _
          have h3' : (textOf i a n s l).toList ≠ [] := by simpa using h3
          simp [pclText, cargoText, h1, h3']
        have c1 : ∀ w : World, (Op.stringOp .add (DD pn) SP).run Tryd.prog w = .ok (.string (DD pn ++ SP)) w := cat _ _ (by omega) (by omega)
        have c2 : ∀ w : World, (Op.stringOp .add (DD pn ++ SP) (textOf i a n s l)).run Tryd.prog w = .ok (.string ((DD pn ++ SP) ++ textOf i a n s l)) w := cat _ _ (by rw [ByteArray.size_append]; omega) (by omega)
        clear he
        go_enter Tryd.func9, Tryd.ntmps9
        go_wp2_with (first
      | (go_at_call 23; refine (in_spec _ _ _ _).mono ?_; rintro e w' ⟨rfl, rfl⟩)
      | (go_at_call 24; refine (text_spec _ _ _ _ _ _).mono ?_; rintro e w' ⟨rfl, hb⟩; (first | (replace B0 := bthen B0 hb) | (have B0 := hb)); obtain ⟨hc, hf⟩ := bcell B0)
      | (go_at_call 25; refine (digits_D _ (by omega) (by omega) _).mono ?_; rintro e w' ⟨rfl, hb⟩; (first | (replace B0 := bthen B0 hb) | (have B0 := hb)); obtain ⟨hc, hf⟩ := bcell B0))
        go_region_held3 (fun w' => (∀ b o, b < w.heap.size + 1 → w'.cell? ⟨b, o, none⟩ = (w.alloc (.cells #[.int .i64 pn, .int .i64 1, .int .i64 i, .int .i64 a, .int .i64 n, .int .i64 s, .int .i64 l, .int .i64 0] 26)).cell? ⟨b, o, none⟩) ∧ w.heap.size + 1 ≤ w'.heap.size) (first | (refine keepS ?_ (by assumption); assumption) | exact ⟨fun _ _ _ => rfl, by simp⟩ | exact keepS ⟨fun _ _ _ => rfl, by simp⟩ B0.drew | exact keepS ⟨fun _ _ _ => rfl, by simp⟩ B0 | assumption) (first | (go_at_call 25; refine (digits_D _ (by omega) (by omega) _).mono ?_; rintro e w' ⟨rfl, hb⟩) | (go_at_call 24; refine (text_spec _ _ _ _ _ _).mono ?_; rintro e w' ⟨rfl, hb⟩))
        go_wp2
        go_ret
        exact ⟨by rw [HQ.out]; rfl, by repeat (first | exact Below.refl _ _ | refine bthen ?_ (by assumption) | apply Below.drew | apply bdrewN | refine Below.alloc ?_ (by simp <;> omega) _)⟩
      · have HQ : Hid (pclText pn 1 i a n s l 0 = ⟨#[]⟩) := by
          show pclText pn 1 i a n s l 0 = _
          have h3' : (textOf i a n s l).toList = [] := by simpa using h3
          simp [pclText, cargoText, h3']
        clear he
        go_enter Tryd.func9, Tryd.ntmps9
        go_wp2_with (first
      | (go_at_call 23; refine (in_spec _ _ _ _).mono ?_; rintro e w' ⟨rfl, rfl⟩)
      | (go_at_call 24; refine (text_spec _ _ _ _ _ _).mono ?_; rintro e w' ⟨rfl, hb⟩; (first | (replace B0 := bthen B0 hb) | (have B0 := hb)); obtain ⟨hc, hf⟩ := bcell B0)
      | (go_at_call 25; refine (digits_D _ (by omega) (by omega) _).mono ?_; rintro e w' ⟨rfl, hb⟩; (first | (replace B0 := bthen B0 hb) | (have B0 := hb)); obtain ⟨hc, hf⟩ := bcell B0))
        go_ret
        exact ⟨by rw [HQ.out]; rfl, by repeat (first | exact Below.refl _ _ | refine bthen ?_ (by assumption) | apply Below.drew | apply bdrewN | refine Below.alloc ?_ (by simp <;> omega) _)⟩
  · by_cases h2 : pk = 2 ∧ noWalker i a n s l = true ∧ inB pc 1 9 = true
    · obtain ⟨rfl, hw, h3⟩ := h2
      have hz : i = 0 ∧ a = 0 ∧ n = 0 ∧ s = 0 ∧ l = 0 := by simpa [noWalker] using hw
      obtain ⟨rfl, rfl, rfl, rfl, rfl⟩ := hz
      have hpc : 1 ≤ pc ∧ pc ≤ 9 := by simpa [inB] using h3
      have zc : (DD pc).size ≤ 6 := DD_size pc (by omega)
      have zl : (⟨#[32, 99, 111, 105, 110, 115, 32]⟩ : ByteArray).size = 7 := by decide +kernel
      have HQ : Hid (pclText pn 2 0 0 0 0 0 pc = (DD pn ++ (⟨#[32, 99, 111, 105, 110, 115, 32]⟩ : ByteArray)) ++ DD pc) := by
        show pclText pn 2 0 0 0 0 0 pc = _
        have hc : cargoText 2 0 0 0 0 0 pc = (⟨#[99, 111, 105, 110, 115, 32]⟩ : ByteArray) ++ DD pc := by simp [cargoText, noWalker, coinsText, h3]
        have hne : ((⟨#[99, 111, 105, 110, 115, 32]⟩ : ByteArray) ++ DD pc).toList ≠ [] := by
          intro e
          have := congrArg List.length e
          have hs : ((⟨#[99, 111, 105, 110, 115, 32]⟩ : ByteArray) ++ DD pc).size = 6 + (DD pc).size := by rw [ByteArray.size_append]; rfl
          rw [ByteArray.toList_eq] at this
          simp only [List.length_nil, Array.length_toList] at this
          have : ((⟨#[99, 111, 105, 110, 115, 32]⟩ : ByteArray) ++ DD pc).size = 0 := this
          omega
        have e7 : (⟨#[32, 99, 111, 105, 110, 115, 32]⟩ : ByteArray) = SP ++ (⟨#[99, 111, 105, 110, 115, 32]⟩ : ByteArray) := by decide +kernel
        unfold pclText
        rw [hc, if_pos ⟨h1, hne⟩, e7]
        simp [ByteArray.append_assoc]
      have c1 : ∀ w : World, (Op.stringOp .add (DD pn) (⟨#[32, 99, 111, 105, 110, 115, 32]⟩ : ByteArray)).run Tryd.prog w = .ok (.string (DD pn ++ (⟨#[32, 99, 111, 105, 110, 115, 32]⟩ : ByteArray))) w := cat _ _ (by omega) (by omega)
      have c2 : ∀ w : World, (Op.stringOp .add (DD pn ++ (⟨#[32, 99, 111, 105, 110, 115, 32]⟩ : ByteArray)) (DD pc)).run Tryd.prog w = .ok (.string ((DD pn ++ (⟨#[32, 99, 111, 105, 110, 115, 32]⟩ : ByteArray)) ++ DD pc)) w := cat _ _ (by rw [ByteArray.size_append]; omega) (by omega)
      clear he hw
      go_enter Tryd.func9, Tryd.ntmps9
      go_wp2_with (first
      | (go_at_call 23; refine (in_spec _ _ _ _).mono ?_; rintro e w' ⟨rfl, rfl⟩)
      | (go_at_call 24; refine (text_spec _ _ _ _ _ _).mono ?_; rintro e w' ⟨rfl, hb⟩; (first | (replace B0 := bthen B0 hb) | (have B0 := hb)); obtain ⟨hc, hf⟩ := bcell B0)
      | (go_at_call 25; refine (digits_D _ (by omega) (by omega) _).mono ?_; rintro e w' ⟨rfl, hb⟩; (first | (replace B0 := bthen B0 hb) | (have B0 := hb)); obtain ⟨hc, hf⟩ := bcell B0))
      go_region_held3 (fun w' => (∀ b o, b < w.heap.size + 1 → w'.cell? ⟨b, o, none⟩ = (w.alloc (.cells #[.int .i64 pn, .int .i64 2, .int .i64 0, .int .i64 0, .int .i64 0, .int .i64 0, .int .i64 0, .int .i64 pc] 26)).cell? ⟨b, o, none⟩) ∧ w.heap.size + 1 ≤ w'.heap.size) (first | (refine keepS ?_ (by assumption); assumption) | exact ⟨fun _ _ _ => rfl, by simp⟩ | exact keepS ⟨fun _ _ _ => rfl, by simp⟩ B0.drew | exact keepS ⟨fun _ _ _ => rfl, by simp⟩ B0 | assumption) (first | (go_at_call 25; refine (digits_D _ (by omega) (by omega) _).mono ?_; rintro e w' ⟨rfl, hb⟩))
      go_wp2
      go_ret
      exact ⟨by rw [HQ.out]; rfl, by repeat (first | exact Below.refl _ _ | refine bthen ?_ (by assumption) | apply Below.drew | apply bdrewN | refine Below.alloc ?_ (by simp <;> omega) _)⟩
    · have HQ : Hid (pclText pn pk i a n s l pc = ⟨#[]⟩) := by
        show pclText pn pk i a n s l pc = _
        by_cases g : pk = 2 ∧ noWalker i a n s l = true
        · have hf : inB pc 1 9 = false := by
            cases e : inB pc 1 9
            · rfl
            · exact absurd ⟨g.1, g.2, e⟩ h2
          simp [pclText, cargoText, g, coinsText, hf, he]
        · simp [pclText, cargoText, hk1, g, he]
      have hk1' : (pk == 1) = false := by simpa using hk1
      have H2 : Hid (¬ (pk = 2 ∧ noWalker i a n s l = true ∧ inB pc 1 9 = true)) := h2
      clear he h2 hk1
      go_enter Tryd.func9, Tryd.ntmps9
      go_wp2_with (first
      | (go_at_call 23; refine (in_spec _ _ _ _).mono ?_; rintro e w' ⟨rfl, rfl⟩)
      | (go_at_call 24; refine (text_spec _ _ _ _ _ _).mono ?_; rintro e w' ⟨rfl, hb⟩; (first | (replace B0 := bthen B0 hb) | (have B0 := hb)); obtain ⟨hc, hf⟩ := bcell B0)
      | (go_at_call 25; refine (digits_D _ (by omega) (by omega) _).mono ?_; rintro e w' ⟨rfl, hb⟩; (first | (replace B0 := bthen B0 hb) | (have B0 := hb)); obtain ⟨hc, hf⟩ := bcell B0))
      all_goals first
        | (go_ret; exact ⟨by rw [HQ.out]; rfl, by repeat (first | exact Below.refl _ _ | refine bthen ?_ (by assumption) | apply Below.drew | apply bdrewN | refine Below.alloc ?_ (by simp <;> omega) _)⟩)
        | (exfalso; exact H2.out (by simp_all [noWalker]))

end Go.Proofs.YtpfemjenhnnfmaaDoor
