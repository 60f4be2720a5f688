/- LogText of the model, kind 3; conditions: those typed. -/
import Derived.Test.YtbiccpmaoagalaaDoorLT8
import Derived.Deep.RegionHeld3
import Derived.Deep.QuietTactic
import Derived.BigQuiet
import Derived.Deep.Cut
namespace Go.Proofs.YtbiccpmaoagalaaDoor
open Go.RowKit Go.Deep
set_option linter.unusedVariables false

set_option maxRecDepth 20000 in
set_option maxHeartbeats 4000000 in
theorem logText_spec3 (r : Nat → Int) (w : World) :
    Calls Tryd.prog 4 #[.agg #[.int .i64 3, .int .i64 (r 1), .int .i64 (r 2), .int .i64 (r 3), .int .i64 (r 4), .int .i64 (r 5), .int .i64 (r 6), .int .i64 (r 7), .int .i64 (r 8), .int .i64 (r 9), .int .i64 (r 10), .int .i64 (r 11), .int .i64 (r 12), .int .i64 (r 13), .int .i64 (r 14), .int .i64 (r 15)]] w fun e w' => e = .returned (.string (modText 3 r)) ∧ Below w.heap.size w w' := by
  cases h2 : inB (r 6) 0 1
  · have HQ : Hid (modText 3 r = ⟨#[]⟩) := by show modText 3 r = _; simp [modText, h2]
    go_enter Tryd.func4, Tryd.ntmps4
    go_wp2_with (go_at_call 9; refine (in_spec _ _ _ _).mono ?_; rintro e w' ⟨rfl, rfl⟩; (try rw [h2]))
    all_goals (go_ret; exact ⟨by rw [HQ.out]; rfl, by repeat (first | exact Below.refl _ _ | assumption | refine bthen ?_ (by assumption) | apply Below.drew | apply bdrewN | refine Below.alloc ?_ (by simp <;> omega) _)⟩)
  cases h3 : inB (r 15) 1 5000
  · have HQ : Hid (modText 3 r = ⟨#[]⟩) := by show modText 3 r = _; simp [modText, h3]
    go_enter Tryd.func4, Tryd.ntmps4
    go_wp2_with (go_at_call 9; refine (in_spec _ _ _ _).mono ?_; rintro e w' ⟨rfl, rfl⟩; (first | rw [h2] | rw [h3]))
    all_goals (go_ret; exact ⟨by rw [HQ.out]; rfl, by repeat (first | exact Below.refl _ _ | assumption | refine bthen ?_ (by assumption) | apply Below.drew | apply bdrewN | refine Below.alloc ?_ (by simp <;> omega) _)⟩)
  have hn1 : 1 ≤ r 15 ∧ r 15 ≤ 5000 := by simpa [inB] using h3
  have zd := DD_size (r 15) (by omega)
  have zw := word_size (r 6)
  have zsp : SP.size = 1 := by decide +kernel
  have zi : (⟨#[97, 99, 107, 32]⟩ : ByteArray).size = 4 := by decide +kernel
  have c1 : ∀ w : World, (Op.stringOp .add (⟨#[97, 99, 107, 32]⟩ : ByteArray) (wordOf (r 6))).run Tryd.prog w = .ok (.string ((⟨#[97, 99, 107, 32]⟩ : ByteArray) ++ wordOf (r 6))) w := cat _ _ (by omega) (by omega)
  have c2 : ∀ w : World, (Op.stringOp .add ((⟨#[97, 99, 107, 32]⟩ : ByteArray) ++ wordOf (r 6)) SP).run Tryd.prog w = .ok (.string (((⟨#[97, 99, 107, 32]⟩ : ByteArray) ++ wordOf (r 6)) ++ SP)) w := cat _ _ (by simp only [ByteArray.size_append]; omega) (by omega)
  have c3 : ∀ w : World, (Op.stringOp .add (((⟨#[97, 99, 107, 32]⟩ : ByteArray) ++ wordOf (r 6)) ++ SP) (DD (r 15))).run Tryd.prog w = .ok (.string ((((⟨#[97, 99, 107, 32]⟩ : ByteArray) ++ wordOf (r 6)) ++ SP) ++ DD (r 15))) w := cat _ _ (by simp only [ByteArray.size_append]; omega) (by omega)
  have H2 : Hid (inB (r 6) 0 1 = true) := h2
  have HN1 : Hid (1 ≤ r 15 ∧ r 15 ≤ 5000) := hn1
  clear zd zw zsp zi hn1
  by_cases hq : noO r = true ∧ noP r = true
  · obtain ⟨hq1, hq2⟩ := hq
    have HQ : Hid (modText 3 r = (((⟨#[97, 99, 107, 32]⟩ : ByteArray) ++ wordOf (r 6)) ++ SP) ++ DD (r 15)) := by show modText 3 r = _; simp only [modText, hq1, h2, h3, hq2]; rfl
    have hz : r 1 = 0 ∧ r 2 = 0 ∧ r 3 = 0 ∧ r 4 = 0 ∧ r 5 = 0 := by simpa [noO] using hq1
    have hy : r 7 = 0 ∧ r 8 = 0 ∧ r 9 = 0 ∧ r 10 = 0 ∧ r 11 = 0 ∧ r 12 = 0 ∧ r 13 = 0 ∧ r 14 = 0 := by simpa [noP] using hq2
    obtain ⟨g1, g2, g3, g4, g5⟩ := hz
    obtain ⟨g7, g8, g9, g10, g11, g12, g13, g14⟩ := hy
    clear hq1 hq2
    simp only [g1, g2, g3, g4, g5, g7, g8, g9, g10, g11, g12, g13, g14]
    clear g1 g2 g3 g4 g5 g7 g8 g9 g10 g11 g12 g13 g14
    go_enter Tryd.func4, Tryd.ntmps4
    go_wp2_with (go_at_call 9; refine (in_spec _ _ _ _).mono ?_; rintro e w' ⟨rfl, rfl⟩; (first | rw [h2] | rw [h3]))
    go_region_held3 (fun w' => (∀ b o, b < w.heap.size + 1 → w'.cell? ⟨b, o, none⟩ = (w.alloc (.cells #[.int .i64 3, .int .i64 0, .int .i64 0, .int .i64 0, .int .i64 0, .int .i64 0, .int .i64 (r 6), .int .i64 0, .int .i64 0, .int .i64 0, .int .i64 0, .int .i64 0, .int .i64 0, .int .i64 0, .int .i64 0, .int .i64 (r 15)] 36)).cell? ⟨b, o, none⟩) ∧ w.heap.size + 1 ≤ w'.heap.size) (first | (refine keepS ?_ (by assumption); assumption) | exact ⟨fun _ _ _ => rfl, by simp⟩ | exact keepS ⟨fun _ _ _ => rfl, by simp⟩ B0.drew | exact keepS ⟨fun _ _ _ => rfl, by simp⟩ B0 | assumption) (first | (go_at_call 11; refine (side_spec _ H2.out _).mono ?_; rintro e w' ⟨rfl, hb⟩) | (go_at_call 12; refine (digits_D _ (by have := HN1.out; omega) (by have := HN1.out; omega) _).mono ?_; rintro e w' ⟨rfl, hb⟩))
    go_wp2
    go_ret
    exact ⟨by rw [HQ.out]; rfl, by repeat (first | exact Below.refl _ _ | assumption | refine bthen ?_ (by assumption) | apply Below.drew | apply bdrewN | refine Below.alloc ?_ (by simp <;> omega) _)⟩
  · have HQ : Hid (modText 3 r = ⟨#[]⟩) := by
      show modText 3 r = _
      simp only [modText]
      cases hn : noO r
      · simp
      · simp [hn] at hq; simp [hq]
    have HN : Hid (¬ (noO r = true ∧ noP r = true)) := hq
    clear hq
    go_enter Tryd.func4, Tryd.ntmps4
    go_wp2_with (go_at_call 9; refine (in_spec _ _ _ _).mono ?_; rintro e w' ⟨rfl, rfl⟩; (first | rw [h2] | rw [h3]))
    all_goals (first | (go_ret; exact ⟨by rw [HQ.out]; rfl, by repeat (first | exact Below.refl _ _ | assumption | refine bthen ?_ (by assumption) | apply Below.drew | apply bdrewN | refine Below.alloc ?_ (by simp <;> omega) _)⟩) | (exfalso; exact HN.out ⟨by simp_all [noO], by simp_all [noP]⟩))

end Go.Proofs.YtbiccpmaoagalaaDoor
