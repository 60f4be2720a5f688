/- LogText of the model, kind 2; conditions: those typed. -/
import Derived.Test.YtbiccpmaoagalaaDoorLT8
import Derived.Deep.RegionHeld3
import Derived.Deep.QuietTactic
import Derived.BigQuiet
import Derived.Deep.Cut
namespace Go.Proofs.YtbiccpmaoagalaaDoor
open Go.RowKit Go.Deep
set_option linter.unusedVariables false

set_option maxRecDepth 20000 in
set_option maxHeartbeats 4000000 in
theorem logText_spec2 (r : Nat → Int) (w : World) :
    Calls Tryd.prog 4 #[.agg #[.int .i64 2, .int .i64 (r 1), .int .i64 (r 2), .int .i64 (r 3), .int .i64 (r 4), .int .i64 (r 5), .int .i64 (r 6), .int .i64 (r 7), .int .i64 (r 8), .int .i64 (r 9), .int .i64 (r 10), .int .i64 (r 11), .int .i64 (r 12), .int .i64 (r 13), .int .i64 (r 14), .int .i64 (r 15)]] w fun e w' => e = .returned (.string (modText 2 r)) ∧ Below w.heap.size w w' := by
  cases h2 : inB (r 6) 0 1
  · have HQ : Hid (modText 2 r = ⟨#[]⟩) := by show modText 2 r = _; simp [modText, h2]
    go_enter Tryd.func4, Tryd.ntmps4
    go_wp2_with (go_at_call 9; refine (in_spec _ _ _ _).mono ?_; rintro e w' ⟨rfl, rfl⟩; (try rw [h2]))
    all_goals (go_ret; exact ⟨by rw [HQ.out]; rfl, by repeat (first | exact Below.refl _ _ | assumption | refine bthen ?_ (by assumption) | apply Below.drew | apply bdrewN | refine Below.alloc ?_ (by simp <;> omega) _)⟩)
  cases h3 : (pclText (r 7) (r 8) (r 9) (r 10) (r 11) (r 12) (r 13) (r 14)).toList.isEmpty
  rotate_left
  · have HQ : Hid (modText 2 r = ⟨#[]⟩) := by show modText 2 r = _; simp [modText, h3]
    go_enter Tryd.func4, Tryd.ntmps4
    go_wp2_with (first | (go_at_call 9; refine (in_spec _ _ _ _).mono ?_; rintro e w' ⟨rfl, rfl⟩; (try rw [h2])) | (go_at_call 10; refine (pclText_spec _ _ _ _ _ _ _ _ _).mono ?_; rintro e w' ⟨rfl, hb⟩; (first | (replace B0 := bthen B0 hb) | (have B0 := hb)); obtain ⟨hc, hf⟩ := bcell B0))
    all_goals (go_ret; exact ⟨by rw [HQ.out]; rfl, by repeat (first | exact Below.refl _ _ | assumption | refine bthen ?_ (by assumption) | apply Below.drew | apply bdrewN | refine Below.alloc ?_ (by simp <;> omega) _)⟩)
  have zp := pclText_size (r 7) (r 8) (r 9) (r 10) (r 11) (r 12) (r 13) (r 14)
  have zw := word_size (r 6)
  have zsp : SP.size = 1 := by decide +kernel
  have zi : (⟨#[105, 110, 32]⟩ : ByteArray).size = 3 := by decide +kernel
  have c1 : ∀ w : World, (Op.stringOp .add (⟨#[105, 110, 32]⟩ : ByteArray) (wordOf (r 6))).run Tryd.prog w = .ok (.string ((⟨#[105, 110, 32]⟩ : ByteArray) ++ wordOf (r 6))) w := cat _ _ (by omega) (by omega)
  have c2 : ∀ w : World, (Op.stringOp .add ((⟨#[105, 110, 32]⟩ : ByteArray) ++ wordOf (r 6)) SP).run Tryd.prog w = .ok (.string (((⟨#[105, 110, 32]⟩ : ByteArray) ++ wordOf (r 6)) ++ SP)) w := cat _ _ (by simp only [ByteArray.size_append]; omega) (by omega)
  have c3 : ∀ w : World, (Op.stringOp .add (((⟨#[105, 110, 32]⟩ : ByteArray) ++ wordOf (r 6)) ++ SP) (pclText (r 7) (r 8) (r 9) (r 10) (r 11) (r 12) (r 13) (r 14))).run Tryd.prog w = .ok (.string ((((⟨#[105, 110, 32]⟩ : ByteArray) ++ wordOf (r 6)) ++ SP) ++ (pclText (r 7) (r 8) (r 9) (r 10) (r 11) (r 12) (r 13) (r 14)))) w := cat _ _ (by simp only [ByteArray.size_append]; omega) (by omega)
  have H2 : Hid (inB (r 6) 0 1 = true) := h2
  have H3 : Hid ((pclText (r 7) (r 8) (r 9) (r 10) (r 11) (r 12) (r 13) (r 14)).toList.isEmpty = false) := h3
  clear zp zw zsp zi
  by_cases hq : noO r = true ∧ r 15 = 0
  · obtain ⟨hq1, hq2⟩ := hq
    have HQ : Hid (modText 2 r = (((⟨#[105, 110, 32]⟩ : ByteArray) ++ wordOf (r 6)) ++ SP) ++ (pclText (r 7) (r 8) (r 9) (r 10) (r 11) (r 12) (r 13) (r 14))) := by show modText 2 r = _; simp only [modText, hq1, h2, h3, hq2]; rfl
    have hz : r 1 = 0 ∧ r 2 = 0 ∧ r 3 = 0 ∧ r 4 = 0 ∧ r 5 = 0 := by simpa [noO] using hq1
    obtain ⟨g1, g2, g3, g4, g5⟩ := hz
    clear hq1
    simp only [g1, g2, g3, g4, g5, hq2]
    clear hq2 g1 g2 g3 g4 g5
    go_enter Tryd.func4, Tryd.ntmps4
    go_wp2_with (first | (go_at_call 9; refine (in_spec _ _ _ _).mono ?_; rintro e w' ⟨rfl, rfl⟩; (try rw [h2])) | (go_at_call 10; refine (pclText_spec _ _ _ _ _ _ _ _ _).mono ?_; rintro e w' ⟨rfl, hb⟩; (first | (replace B0 := bthen B0 hb) | (have B0 := hb)); obtain ⟨hc, hf⟩ := bcell B0))
    go_region_held3 (fun w' => (∀ b o, b < w.heap.size + 1 → w'.cell? ⟨b, o, none⟩ = (w.alloc (.cells #[.int .i64 2, .int .i64 0, .int .i64 0, .int .i64 0, .int .i64 0, .int .i64 0, .int .i64 (r 6), .int .i64 (r 7), .int .i64 (r 8), .int .i64 (r 9), .int .i64 (r 10), .int .i64 (r 11), .int .i64 (r 12), .int .i64 (r 13), .int .i64 (r 14), .int .i64 0] 36)).cell? ⟨b, o, none⟩) ∧ w.heap.size + 1 ≤ w'.heap.size) (first | (refine keepS ?_ (by assumption); assumption) | exact ⟨fun _ _ _ => rfl, by simp⟩ | exact keepS ⟨fun _ _ _ => rfl, by simp⟩ B0.drew | exact keepS ⟨fun _ _ _ => rfl, by simp⟩ B0 | assumption) (first | (go_at_call 11; refine (side_spec _ H2.out _).mono ?_; rintro e w' ⟨rfl, hb⟩) | (go_at_call 10; refine (pclText_spec _ _ _ _ _ _ _ _ _).mono ?_; rintro e w' ⟨rfl, hb⟩))
    go_wp2
    go_ret
    exact ⟨by rw [HQ.out]; rfl, by repeat (first | exact Below.refl _ _ | assumption | refine bthen ?_ (by assumption) | apply Below.drew | apply bdrewN | refine Below.alloc ?_ (by simp <;> omega) _)⟩
  · have HQ : Hid (modText 2 r = ⟨#[]⟩) := by
      show modText 2 r = _
      have : (noO r && r 15 == 0) = false := by
        cases hn : noO r
        · rfl
        · simp [hn] at hq; simp [hq]
      simp only [modText]
      cases hn : noO r
      · simp
      · simp [hn] at this; simp [this]
    have HN : Hid (¬ (noO r = true ∧ r 15 = 0)) := hq
    clear hq
    go_enter Tryd.func4, Tryd.ntmps4
    go_wp2_with (first | (go_at_call 9; refine (in_spec _ _ _ _).mono ?_; rintro e w' ⟨rfl, rfl⟩; (try rw [h2])) | (go_at_call 10; refine (pclText_spec _ _ _ _ _ _ _ _ _).mono ?_; rintro e w' ⟨rfl, hb⟩; (first | (replace B0 := bthen B0 hb) | (have B0 := hb)); obtain ⟨hc, hf⟩ := bcell B0))
    all_goals (first | (go_ret; exact ⟨by rw [HQ.out]; rfl, by repeat (first | exact Below.refl _ _ | assumption | refine bthen ?_ (by assumption) | apply Below.drew | apply bdrewN | refine Below.alloc ?_ (by simp <;> omega) _)⟩) | (exfalso; exact HN.out ⟨by simp_all [noO], by simp_all⟩))

end Go.Proofs.YtbiccpmaoagalaaDoor
