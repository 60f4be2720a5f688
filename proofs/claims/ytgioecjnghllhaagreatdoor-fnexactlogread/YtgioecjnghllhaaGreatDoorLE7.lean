/- What is carried: LogText of both sides; conditions: those typed. -/
import Derived.WalkKit
import Derived.ProofKit
import Derived.OpenShut
import Derived.Below
import Derived.BigQuiet
import Derived.Deep.OwnRows
import Derived.Laws.AppendOwn
import Derived.WalkSpells
import Derived.LoopTactic
import Derived.Lib.ItoaNum
import Derived.Lib.AppendIntMem
import Derived.Deep.RegionHeld3
import Derived.Deep.QuietTactic
import Derived.Deep.Cut
import Derived.Test.YtgioecjnghllhaaGreatDoorLE2
import Derived.Test.YtgioecjnghllhaaGreatDoorLE3
import Derived.Test.YtgioecjnghllhaaGreatDoorLE4
import Derived.Test.YtgioecjnghllhaaGreatDoorLE5
import Derived.Test.YtgioecjnghllhaaGreatDoorLE6
namespace Go.Proofs.YtgioecjnghllhaaGreatDoor
open Go.RowKit Go.Deep
set_option linter.unusedVariables false
def noO (r : Nat → Int) : Bool := (r 1 == 0 && (r 2 == 0 && (r 3 == 0 && (r 4 == 0 && (r 5 == 0)))))
def noP (r : Nat → Int) : Bool := (r 7 == 0 && (r 8 == 0 && (r 9 == 0 && (r 10 == 0 && (r 11 == 0 && (r 12 == 0 && (r 13 == 0 && (r 14 == 0))))))))
def modText (k : Int) (r : Nat → Int) : ByteArray :=
  if k = 1 then (if (ordB (r 1) (r 2) (r 3) (r 4) (r 5) && (r 6 == 0 && (noP r && r 15 == 0))) = true then (⟨#[100, 111, 32]⟩ : ByteArray) ++ (ordText (r 1) (r 2) (r 3) (r 4) (r 5)) else ⟨#[]⟩)
  else if k = 2 then (if (noO r && (inB (r 6) 0 1 && (!(pclText (r 7) (r 8) (r 9) (r 10) (r 11) (r 12) (r 13) (r 14)).toList.isEmpty && r 15 == 0))) = true then (((⟨#[105, 110, 32]⟩ : ByteArray) ++ wordOf (r 6)) ++ SP) ++ (pclText (r 7) (r 8) (r 9) (r 10) (r 11) (r 12) (r 13) (r 14)) else ⟨#[]⟩)
  else if k = 3 then (if (noO r && (inB (r 6) 0 1 && (noP r && inB (r 15) 1 5000))) = true then (((⟨#[97, 99, 107, 32]⟩ : ByteArray) ++ wordOf (r 6)) ++ SP) ++ DD (r 15) else ⟨#[]⟩)
  else ⟨#[]⟩
set_option maxRecDepth 20000 in
set_option maxHeartbeats 4000000 in
theorem logText_spec1 (r : Nat → Int) (w : World) :
    Calls Tryz.prog 13 #[.agg #[.int .i64 1, .int .i64 (r 1), .int .i64 (r 2), .int .i64 (r 3), .int .i64 (r 4), .int .i64 (r 5), .int .i64 (r 6), .int .i64 (r 7), .int .i64 (r 8), .int .i64 (r 9), .int .i64 (r 10), .int .i64 (r 11), .int .i64 (r 12), .int .i64 (r 13), .int .i64 (r 14), .int .i64 (r 15)]] w fun e w' => e = .returned (.string (modText 1 r)) ∧ Below w.heap.size w w' := by
  cases h1 : ordB (r 1) (r 2) (r 3) (r 4) (r 5)
  · have HQ : Hid (modText 1 r = ⟨#[]⟩) := by show modText 1 r = _; simp [modText, h1]
    go_enter Tryz.func13, Tryz.ntmps13
    go_wp2_with (go_at_call 19; refine (ordOk_spec _ _ _ _ _ _).mono ?_; rintro e w' ⟨rfl, hb⟩; (try rw [h1]); (first | (replace B0 := bthen B0 hb) | (have B0 := hb)); obtain ⟨hc, hf⟩ := bcell B0)
    all_goals (go_ret; exact ⟨by rw [HQ.out]; rfl, by repeat (first | exact Below.refl _ _ | assumption | refine bthen ?_ (by assumption) | apply Below.drew | apply bdrewN | refine Below.alloc ?_ (by simp <;> omega) _)⟩)
  have zo := ordText_size (r 1) (r 2) (r 3) (r 4) (r 5)
  have c1 : ∀ w : World, (Op.stringOp .add (⟨#[100, 111, 32]⟩ : ByteArray) (ordText (r 1) (r 2) (r 3) (r 4) (r 5))).run Tryz.prog w = .ok (.string ((⟨#[100, 111, 32]⟩ : ByteArray) ++ (ordText (r 1) (r 2) (r 3) (r 4) (r 5)))) w := cat _ _ (by decide +kernel) (by omega)
  have H1 : Hid (ordB (r 1) (r 2) (r 3) (r 4) (r 5) = true) := h1
  clear zo
  go_enter Tryz.func13, Tryz.ntmps13
  go_wp2_with (first | (go_at_call 19; refine (ordOk_spec _ _ _ _ _ _).mono ?_; rintro e w' ⟨rfl, hb⟩; (try rw [h1]); (first | (replace B0 := bthen B0 hb) | (have B0 := hb)); obtain ⟨hc, hf⟩ := bcell B0) | (go_at_call 20; refine (ordText_spec _ _ _ _ _ _).mono ?_; rintro e w' ⟨rfl, hb⟩; (first | (replace B0 := bthen B0 hb) | (have B0 := hb)); obtain ⟨hc, hf⟩ := bcell B0))
  all_goals (go_ret; exact ⟨by have h1 := H1.out; simp_all [modText, noP], by repeat (first | exact Below.refl _ _ | assumption | refine bthen ?_ (by assumption) | apply Below.drew | apply bdrewN | refine Below.alloc ?_ (by simp <;> omega) _)⟩)
end Go.Proofs.YtgioecjnghllhaaGreatDoor
namespace Go.Proofs.YtgioecjnghllhaaGreatDoor
open Go.RowKit Go.Deep
set_option linter.unusedVariables false
set_option maxRecDepth 20000 in
set_option maxHeartbeats 4000000 in
theorem logText_spec2 (r : Nat → Int) (w : World) :
    Calls Tryz.prog 13 #[.agg #[.int .i64 2, .int .i64 (r 1), .int .i64 (r 2), .int .i64 (r 3), .int .i64 (r 4), .int .i64 (r 5), .int .i64 (r 6), .int .i64 (r 7), .int .i64 (r 8), .int .i64 (r 9), .int .i64 (r 10), .int .i64 (r 11), .int .i64 (r 12), .int .i64 (r 13), .int .i64 (r 14), .int .i64 (r 15)]] w fun e w' => e = .returned (.string (modText 2 r)) ∧ Below w.heap.size w w' := by
  cases h2 : inB (r 6) 0 1
  · have HQ : Hid (modText 2 r = ⟨#[]⟩) := by show modText 2 r = _; simp [modText, h2]
    go_enter Tryz.func13, Tryz.ntmps13
    go_wp2_with (go_at_call 24; refine (in_spec _ _ _ _).mono ?_; rintro e w' ⟨rfl, rfl⟩; (try rw [h2]))
    all_goals (go_ret; exact ⟨by rw [HQ.out]; rfl, by repeat (first | exact Below.refl _ _ | assumption | refine bthen ?_ (by assumption) | apply Below.drew | apply bdrewN | refine Below.alloc ?_ (by simp <;> omega) _)⟩)
  cases h3 : (pclText (r 7) (r 8) (r 9) (r 10) (r 11) (r 12) (r 13) (r 14)).toList.isEmpty
  rotate_left
  · have HQ : Hid (modText 2 r = ⟨#[]⟩) := by show modText 2 r = _; simp [modText, h3]
    go_enter Tryz.func13, Tryz.ntmps13
    go_wp2_with (first | (go_at_call 24; refine (in_spec _ _ _ _).mono ?_; rintro e w' ⟨rfl, rfl⟩; (try rw [h2])) | (go_at_call 22; refine (pclText_spec _ _ _ _ _ _ _ _ _).mono ?_; rintro e w' ⟨rfl, hb⟩; (first | (replace B0 := bthen B0 hb) | (have B0 := hb)); obtain ⟨hc, hf⟩ := bcell B0))
    all_goals (go_ret; exact ⟨by rw [HQ.out]; rfl, by repeat (first | exact Below.refl _ _ | assumption | refine bthen ?_ (by assumption) | apply Below.drew | apply bdrewN | refine Below.alloc ?_ (by simp <;> omega) _)⟩)
  have zp := pclText_size (r 7) (r 8) (r 9) (r 10) (r 11) (r 12) (r 13) (r 14)
  have zw := word_size (r 6)
  have zsp : SP.size = 1 := by decide +kernel
  have zi : (⟨#[105, 110, 32]⟩ : ByteArray).size = 3 := by decide +kernel
  have c1 : ∀ w : World, (Op.stringOp .add (⟨#[105, 110, 32]⟩ : ByteArray) (wordOf (r 6))).run Tryz.prog w = .ok (.string ((⟨#[105, 110, 32]⟩ : ByteArray) ++ wordOf (r 6))) w := cat _ _ (by omega) (by omega)
  have c2 : ∀ w : World, (Op.stringOp .add ((⟨#[105, 110, 32]⟩ : ByteArray) ++ wordOf (r 6)) SP).run Tryz.prog w = .ok (.string (((⟨#[105, 110, 32]⟩ : ByteArray) ++ wordOf (r 6)) ++ SP)) w := cat _ _ (by simp only [ByteArray.size_append]; omega) (by omega)
  have c3 : ∀ w : World, (Op.stringOp .add (((⟨#[105, 110, 32]⟩ : ByteArray) ++ wordOf (r 6)) ++ SP) (pclText (r 7) (r 8) (r 9) (r 10) (r 11) (r 12) (r 13) (r 14))).run Tryz.prog w = .ok (.string ((((⟨#[105, 110, 32]⟩ : ByteArray) ++ wordOf (r 6)) ++ SP) ++ (pclText (r 7) (r 8) (r 9) (r 10) (r 11) (r 12) (r 13) (r 14)))) w := cat _ _ (by simp only [ByteArray.size_append]; omega) (by omega)
  have H2 : Hid (inB (r 6) 0 1 = true) := h2
  have H3 : Hid ((pclText (r 7) (r 8) (r 9) (r 10) (r 11) (r 12) (r 13) (r 14)).toList.isEmpty = false) := h3
  clear zp zw zsp zi
  by_cases hq : noO r = true ∧ r 15 = 0
  · obtain ⟨hq1, hq2⟩ := hq
    have HQ : Hid (modText 2 r = (((⟨#[105, 110, 32]⟩ : ByteArray) ++ wordOf (r 6)) ++ SP) ++ (pclText (r 7) (r 8) (r 9) (r 10) (r 11) (r 12) (r 13) (r 14))) := by show modText 2 r = _; simp only [modText, hq1, h2, h3, hq2]; rfl
    have hz : r 1 = 0 ∧ r 2 = 0 ∧ r 3 = 0 ∧ r 4 = 0 ∧ r 5 = 0 := by simpa [noO] using hq1
    obtain ⟨g1, g2, g3, g4, g5⟩ := hz
    clear hq1
    simp only [g1, g2, g3, g4, g5, hq2]
    clear hq2 g1 g2 g3 g4 g5
    go_enter Tryz.func13, Tryz.ntmps13
    go_wp2_with (first | (go_at_call 24; refine (in_spec _ _ _ _).mono ?_; rintro e w' ⟨rfl, rfl⟩; (try rw [h2])) | (go_at_call 22; refine (pclText_spec _ _ _ _ _ _ _ _ _).mono ?_; rintro e w' ⟨rfl, hb⟩; (first | (replace B0 := bthen B0 hb) | (have B0 := hb)); obtain ⟨hc, hf⟩ := bcell B0))
    go_region_held3 (fun w' => (∀ b o, b < w.heap.size + 1 → w'.cell? ⟨b, o, none⟩ = (w.alloc (.cells #[.int .i64 2, .int .i64 0, .int .i64 0, .int .i64 0, .int .i64 0, .int .i64 0, .int .i64 (r 6), .int .i64 (r 7), .int .i64 (r 8), .int .i64 (r 9), .int .i64 (r 10), .int .i64 (r 11), .int .i64 (r 12), .int .i64 (r 13), .int .i64 (r 14), .int .i64 0] 29)).cell? ⟨b, o, none⟩) ∧ w.heap.size + 1 ≤ w'.heap.size) (first | (refine keepS ?_ (by assumption); assumption) | exact ⟨fun _ _ _ => rfl, by simp⟩ | exact keepS ⟨fun _ _ _ => rfl, by simp⟩ B0.drew | exact keepS ⟨fun _ _ _ => rfl, by simp⟩ B0 | assumption) (first | (go_at_call 25; refine (side_spec _ H2.out _).mono ?_; rintro e w' ⟨rfl, hb⟩) | (go_at_call 22; refine (pclText_spec _ _ _ _ _ _ _ _ _).mono ?_; rintro e w' ⟨rfl, hb⟩))
    go_wp2
    go_ret
    exact ⟨by rw [HQ.out]; rfl, by repeat (first | exact Below.refl _ _ | assumption | refine bthen ?_ (by assumption) | apply Below.drew | apply bdrewN | refine Below.alloc ?_ (by simp <;> omega) _)⟩
  · have HQ : Hid (modText 2 r = ⟨#[]⟩) := by
      show modText 2 r = _
      have : (noO r && r 15 == 0) = false := by
        cases hn : noO r
        · rfl
        · simp [hn] at hq; simp [hq]
      simp only [modText]
      cases hn : noO r
      · simp
      · simp [hn] at this; simp [this]
    have HN : Hid (¬ (noO r = true ∧ r 15 = 0)) := hq
    clear hq
    go_enter Tryz.func13, Tryz.ntmps13
    go_wp2_with (first | (go_at_call 24; refine (in_spec _ _ _ _).mono ?_; rintro e w' ⟨rfl, rfl⟩; (try rw [h2])) | (go_at_call 22; refine (pclText_spec _ _ _ _ _ _ _ _ _).mono ?_; rintro e w' ⟨rfl, hb⟩; (first | (replace B0 := bthen B0 hb) | (have B0 := hb)); obtain ⟨hc, hf⟩ := bcell B0))
    all_goals (first | (go_ret; exact ⟨by rw [HQ.out]; rfl, by repeat (first | exact Below.refl _ _ | assumption | refine bthen ?_ (by assumption) | apply Below.drew | apply bdrewN | refine Below.alloc ?_ (by simp <;> omega) _)⟩) | (exfalso; exact HN.out ⟨by simp_all [noO], by simp_all⟩))
end Go.Proofs.YtgioecjnghllhaaGreatDoor
namespace Go.Proofs.YtgioecjnghllhaaGreatDoor
open Go.RowKit Go.Deep
set_option linter.unusedVariables false
set_option maxRecDepth 20000 in
set_option maxHeartbeats 4000000 in
theorem logText_spec3 (r : Nat → Int) (w : World) :
    Calls Tryz.prog 13 #[.agg #[.int .i64 3, .int .i64 (r 1), .int .i64 (r 2), .int .i64 (r 3), .int .i64 (r 4), .int .i64 (r 5), .int .i64 (r 6), .int .i64 (r 7), .int .i64 (r 8), .int .i64 (r 9), .int .i64 (r 10), .int .i64 (r 11), .int .i64 (r 12), .int .i64 (r 13), .int .i64 (r 14), .int .i64 (r 15)]] w fun e w' => e = .returned (.string (modText 3 r)) ∧ Below w.heap.size w w' := by
  cases h2 : inB (r 6) 0 1
  · have HQ : Hid (modText 3 r = ⟨#[]⟩) := by show modText 3 r = _; simp [modText, h2]
    go_enter Tryz.func13, Tryz.ntmps13
    go_wp2_with (go_at_call 24; refine (in_spec _ _ _ _).mono ?_; rintro e w' ⟨rfl, rfl⟩; (try rw [h2]))
    all_goals (go_ret; exact ⟨by rw [HQ.out]; rfl, by repeat (first | exact Below.refl _ _ | assumption | refine bthen ?_ (by assumption) | apply Below.drew | apply bdrewN | refine Below.alloc ?_ (by simp <;> omega) _)⟩)
  cases h3 : inB (r 15) 1 5000
  · have HQ : Hid (modText 3 r = ⟨#[]⟩) := by show modText 3 r = _; simp [modText, h3]
    go_enter Tryz.func13, Tryz.ntmps13
    go_wp2_with (go_at_call 24; refine (in_spec _ _ _ _).mono ?_; rintro e w' ⟨rfl, rfl⟩; (first | rw [h2] | rw [h3]))
    all_goals (go_ret; exact ⟨by rw [HQ.out]; rfl, by repeat (first | exact Below.refl _ _ | assumption | refine bthen ?_ (by assumption) | apply Below.drew | apply bdrewN | refine Below.alloc ?_ (by simp <;> omega) _)⟩)
  have hn1 : 1 ≤ r 15 ∧ r 15 ≤ 5000 := by simpa [inB] using h3
  have zd := DD_size (r 15) (by omega)
  have zw := word_size (r 6)
  have zsp : SP.size = 1 := by decide +kernel
  have zi : (⟨#[97, 99, 107, 32]⟩ : ByteArray).size = 4 := by decide +kernel
  have c1 : ∀ w : World, (Op.stringOp .add (⟨#[97, 99, 107, 32]⟩ : ByteArray) (wordOf (r 6))).run Tryz.prog w = .ok (.string ((⟨#[97, 99, 107, 32]⟩ : ByteArray) ++ wordOf (r 6))) w := cat _ _ (by omega) (by omega)
  have c2 : ∀ w : World, (Op.stringOp .add ((⟨#[97, 99, 107, 32]⟩ : ByteArray) ++ wordOf (r 6)) SP).run Tryz.prog w = .ok (.string (((⟨#[97, 99, 107, 32]⟩ : ByteArray) ++ wordOf (r 6)) ++ SP)) w := cat _ _ (by simp only [ByteArray.size_append]; omega) (by omega)
  have c3 : ∀ w : World, (Op.stringOp .add (((⟨#[97, 99, 107, 32]⟩ : ByteArray) ++ wordOf (r 6)) ++ SP) (DD (r 15))).run Tryz.prog w = .ok (.string ((((⟨#[97, 99, 107, 32]⟩ : ByteArray) ++ wordOf (r 6)) ++ SP) ++ DD (r 15))) w := cat _ _ (by simp only [ByteArray.size_append]; omega) (by omega)
  have H2 : Hid (inB (r 6) 0 1 = true) := h2
  have HN1 : Hid (1 ≤ r 15 ∧ r 15 ≤ 5000) := hn1
  clear zd zw zsp zi hn1
  by_cases hq : noO r = true ∧ noP r = true
  · obtain ⟨hq1, hq2⟩ := hq
    have HQ : Hid (modText 3 r = (((⟨#[97, 99, 107, 32]⟩ : ByteArray) ++ wordOf (r 6)) ++ SP) ++ DD (r 15)) := by show modText 3 r = _; simp only [modText, hq1, h2, h3, hq2]; rfl
    have hz : r 1 = 0 ∧ r 2 = 0 ∧ r 3 = 0 ∧ r 4 = 0 ∧ r 5 = 0 := by simpa [noO] using hq1
    have hy : r 7 = 0 ∧ r 8 = 0 ∧ r 9 = 0 ∧ r 10 = 0 ∧ r 11 = 0 ∧ r 12 = 0 ∧ r 13 = 0 ∧ r 14 = 0 := by simpa [noP] using hq2
    obtain ⟨g1, g2, g3, g4, g5⟩ := hz
    obtain ⟨g7, g8, g9, g10, g11, g12, g13, g14⟩ := hy
    clear hq1 hq2
    simp only [g1, g2, g3, g4, g5, g7, g8, g9, g10, g11, g12, g13, g14]
    clear g1 g2 g3 g4 g5 g7 g8 g9 g10 g11 g12 g13 g14
    go_enter Tryz.func13, Tryz.ntmps13
    go_wp2_with (go_at_call 24; refine (in_spec _ _ _ _).mono ?_; rintro e w' ⟨rfl, rfl⟩; (first | rw [h2] | rw [h3]))
    go_region_held3 (fun w' => (∀ b o, b < w.heap.size + 1 → w'.cell? ⟨b, o, none⟩ = (w.alloc (.cells #[.int .i64 3, .int .i64 0, .int .i64 0, .int .i64 0, .int .i64 0, .int .i64 0, .int .i64 (r 6), .int .i64 0, .int .i64 0, .int .i64 0, .int .i64 0, .int .i64 0, .int .i64 0, .int .i64 0, .int .i64 0, .int .i64 (r 15)] 29)).cell? ⟨b, o, none⟩) ∧ w.heap.size + 1 ≤ w'.heap.size) (first | (refine keepS ?_ (by assumption); assumption) | exact ⟨fun _ _ _ => rfl, by simp⟩ | exact keepS ⟨fun _ _ _ => rfl, by simp⟩ B0.drew | exact keepS ⟨fun _ _ _ => rfl, by simp⟩ B0 | assumption) (first | (go_at_call 25; refine (side_spec _ H2.out _).mono ?_; rintro e w' ⟨rfl, hb⟩) | (go_at_call 26; refine (digits_D _ (by have := HN1.out; omega) (by have := HN1.out; omega) _).mono ?_; rintro e w' ⟨rfl, hb⟩))
    go_wp2
    go_ret
    exact ⟨by rw [HQ.out]; rfl, by repeat (first | exact Below.refl _ _ | assumption | refine bthen ?_ (by assumption) | apply Below.drew | apply bdrewN | refine Below.alloc ?_ (by simp <;> omega) _)⟩
  · have HQ : Hid (modText 3 r = ⟨#[]⟩) := by
      show modText 3 r = _
      simp only [modText]
      cases hn : noO r
      · simp
      · simp [hn] at hq; simp [hq]
    have HN : Hid (¬ (noO r = true ∧ noP r = true)) := hq
    clear hq
    go_enter Tryz.func13, Tryz.ntmps13
    go_wp2_with (go_at_call 24; refine (in_spec _ _ _ _).mono ?_; rintro e w' ⟨rfl, rfl⟩; (first | rw [h2] | rw [h3]))
    all_goals (first | (go_ret; exact ⟨by rw [HQ.out]; rfl, by repeat (first | exact Below.refl _ _ | assumption | refine bthen ?_ (by assumption) | apply Below.drew | apply bdrewN | refine Below.alloc ?_ (by simp <;> omega) _)⟩) | (exfalso; exact HN.out ⟨by simp_all [noO], by simp_all [noP]⟩))
end Go.Proofs.YtgioecjnghllhaaGreatDoor
namespace Go.Proofs.YtgioecjnghllhaaGreatDoor
open Go.RowKit Go.Deep
set_option linter.unusedVariables false
theorem ba_ext {a b : ByteArray} (h : a.data.toList = b.data.toList) : a = b := by
  cases a with
  | mk x =>
    cases b with
    | mk y =>
      have : x = y := Array.toList_inj.1 h
      rw [this]
theorem sent2 (a b : ByteArray) (ea : a.toList.isEmpty = false) : sentB [a, b] = if b.toList.isEmpty = true then ⟨#[]⟩ else (a ++ SP) ++ b := by
  cases eb : b.toList.isEmpty
  · have h : sentB [a, b] = ⟨(Lib.join [a.data.toList, b.data.toList] [32]).toArray⟩ := by simp [sentB, ea, eb]
    rw [h, if_neg (by simp)]
    apply ba_ext
    simp [Lib.join, List.intercalate, ByteArray.data_append]
  · simp [sentB, ea, eb]
theorem sent3 (a b c : ByteArray) (ea : a.toList.isEmpty = false) : sentB [a, b, c] = if (b.toList.isEmpty || c.toList.isEmpty) = true then ⟨#[]⟩ else (((a ++ SP) ++ b) ++ SP) ++ c := by
  cases eb : b.toList.isEmpty
  · cases ec : c.toList.isEmpty
    · have h : sentB [a, b, c] = ⟨(Lib.join [a.data.toList, b.data.toList, c.data.toList] [32]).toArray⟩ := by simp [sentB, ea, eb, ec]
      rw [h, if_neg (by simp)]
      apply ba_ext
      simp [Lib.join, List.intercalate, ByteArray.data_append]
    · simp [sentB, ea, eb, ec]
  · simp [sentB, ea, eb]
theorem word_empty (s : Int) : (wordOf s).toList.isEmpty = !inB s 0 1 := by
  unfold wordOf
  by_cases h0 : s = 0
  · subst h0; decide +kernel
  by_cases h1 : s = 1
  · subst h1; decide +kernel
  rw [if_neg h0, if_neg h1]
  have : inB s 0 1 = false := by
    cases h : inB s 0 1
    · rfl
    · simp [inB] at h; omega
  rw [this]
  decide +kernel
theorem dd_empty (n : Int) : (DD n).toList.isEmpty = false := by
  unfold DD
  rw [ByteArray.toList_eq]
  unfold Lib.decDigits
  split <;> simp
theorem ord_empty (p0 p1 p2 p3 p4 : Int) : (ordText p0 p1 p2 p3 p4).toList.isEmpty = !ordB p0 p1 p2 p3 p4 := by
  cases h : ordB p0 p1 p2 p3 p4
  · have e : ordText p0 p1 p2 p3 p4 = ⟨#[]⟩ := by simp [ordText, h]
    rw [e]; decide +kernel
  · have hp := ordText_size_pos h
    rw [ByteArray.toList_eq]
    cases hq : (ordText p0 p1 p2 p3 p4).data.toList.isEmpty
    · rfl
    · exact absurd (by rw [List.isEmpty_iff] at hq; rw [← ByteArray.size_data, ← Array.length_toList, hq]; rfl) hp
theorem eqK1_eq (r : Nat → Int) : eqK1 r = (r 6 == 0 && (noP r && r 15 == 0)) := by simp only [eqK1, noP, Bool.and_assoc]
theorem eqK2_eq (r : Nat → Int) : eqK2 r = (noO r && r 15 == 0) := by simp only [eqK2, noO, Bool.and_assoc]
theorem eqK3_eq (r : Nat → Int) : eqK3 r = (noO r && noP r) := by simp only [eqK3, noO, noP, Bool.and_assoc]
theorem text_agree (k : Int) (r : Nat → Int) : logText k r = modText k r := by
  unfold logText modText
  by_cases h1 : k = 1
  · rw [if_pos h1, if_pos h1, eqK1_eq, sent2 _ _ (by decide +kernel), ord_empty]
    have e : ((⟨#[100, 111]⟩ : ByteArray) ++ SP) = (⟨#[100, 111, 32]⟩ : ByteArray) := by decide +kernel
    rw [e]
    generalize (r 6 == 0 && (noP r && r 15 == 0)) = x
    cases ordB (r 1) (r 2) (r 3) (r 4) (r 5) <;> cases x <;> simp
  rw [if_neg h1, if_neg h1]
  by_cases h2 : k = 2
  · rw [if_pos h2, if_pos h2, eqK2_eq, sent3 _ _ _ (by decide +kernel), word_empty]
    have e : ((⟨#[105, 110]⟩ : ByteArray) ++ SP) = (⟨#[105, 110, 32]⟩ : ByteArray) := by decide +kernel
    rw [e]
    generalize (r 15 == 0) = x
    cases noO r <;> cases x <;> cases inB (r 6) 0 1 <;> cases (pclText (r 7) (r 8) (r 9) (r 10) (r 11) (r 12) (r 13) (r 14)).toList.isEmpty <;> simp
  rw [if_neg h2, if_neg h2]
  by_cases h3 : k = 3
  · rw [if_pos h3, if_pos h3, eqK3_eq, sent3 _ _ _ (by decide +kernel), word_empty, dd_empty]
    have e : ((⟨#[97, 99, 107]⟩ : ByteArray) ++ SP) = (⟨#[97, 99, 107, 32]⟩ : ByteArray) := by decide +kernel
    rw [e]
    cases noO r <;> cases noP r <;> cases inB (r 6) 0 1 <;> cases inB (r 15) 1 5000 <;> simp
  rw [if_neg h3, if_neg h3]
end Go.Proofs.YtgioecjnghllhaaGreatDoor
namespace Go.Proofs.YtgioecjnghllhaaGreatDoor
open Go.RowKit Go.Deep
set_option linter.unusedVariables false
theorem logText_impl (k : Int) (r : Nat → Int) (w : World) (ht : Lib.TabBelow Tryz.prog w.heap.size w "internal/strconv.uint64pow10" .u64 Lib.pow10Tab) :
    Calls Tryz.prog 15 #[.agg #[.int .i64 k, .int .i64 (r 1), .int .i64 (r 2), .int .i64 (r 3), .int .i64 (r 4), .int .i64 (r 5), .int .i64 (r 6), .int .i64 (r 7), .int .i64 (r 8), .int .i64 (r 9), .int .i64 (r 10), .int .i64 (r 11), .int .i64 (r 12), .int .i64 (r 13), .int .i64 (r 14), .int .i64 (r 15)]] w fun e w' => e = .returned (.string (modText k r)) ∧ Below w.heap.size w w' := by
  rw [← text_agree]
  by_cases h1 : k = 1
  · subst h1; exact logText_impl1 r w ht
  by_cases h2 : k = 2
  · subst h2; exact logText_impl2 r w ht
  by_cases h3 : k = 3
  · subst h3
    cases hk : eqK3 r
    · exact logText_impl30 r hk w ht
    cases hN : inB (r 15) 1 5000
    · exact logText_impl31 r hk hN w ht
    · exact logText_impl32 r hk hN w ht
  have hv : logText k r = ⟨#[]⟩ := by simp [logText, h1, h2, h3]
  rw [hv]
  have q1 : (k == 1) = false := by simp [h1]
  have q2 : (k == 2) = false := by simp [h2]
  have q3 : (k == 3) = false := by simp [h3]
  cases hk : eqK0 k r
  · exact logText_impl0f k q1 q2 q3 r hk w
  · exact logText_impl0t k q1 q2 q3 r hk w
set_option maxRecDepth 20000 in
set_option maxHeartbeats 2000000 in
theorem logText_spec0 (k : Int) (q1 : (k == 1) = false) (q2 : (k == 2) = false) (q3 : (k == 3) = false) (r : Nat → Int) (w : World) :
    Calls Tryz.prog 13 #[.agg #[.int .i64 k, .int .i64 (r 1), .int .i64 (r 2), .int .i64 (r 3), .int .i64 (r 4), .int .i64 (r 5), .int .i64 (r 6), .int .i64 (r 7), .int .i64 (r 8), .int .i64 (r 9), .int .i64 (r 10), .int .i64 (r 11), .int .i64 (r 12), .int .i64 (r 13), .int .i64 (r 14), .int .i64 (r 15)]] w fun e w' => e = .returned (.string ⟨#[]⟩) ∧ Below w.heap.size w w' := by
  go_enter Tryz.func13, Tryz.ntmps13
  go_wp2
  go_ret
  exact ⟨rfl, by repeat (first | exact Below.refl _ _ | assumption | refine bthen ?_ (by assumption) | apply Below.drew | apply bdrewN | refine Below.alloc ?_ (by simp <;> omega) _)⟩
theorem logText_spec (k : Int) (r : Nat → Int) (w : World) :
    Calls Tryz.prog 13 #[.agg #[.int .i64 k, .int .i64 (r 1), .int .i64 (r 2), .int .i64 (r 3), .int .i64 (r 4), .int .i64 (r 5), .int .i64 (r 6), .int .i64 (r 7), .int .i64 (r 8), .int .i64 (r 9), .int .i64 (r 10), .int .i64 (r 11), .int .i64 (r 12), .int .i64 (r 13), .int .i64 (r 14), .int .i64 (r 15)]] w fun e w' => e = .returned (.string (modText k r)) ∧ Below w.heap.size w w' := by
  by_cases h1 : k = 1
  · subst h1; exact logText_spec1 r w
  by_cases h2 : k = 2
  · subst h2; exact logText_spec2 r w
  by_cases h3 : k = 3
  · subst h3; exact logText_spec3 r w
  have hv : modText k r = ⟨#[]⟩ := by simp [modText, h1, h2, h3]
  rw [hv]
  exact logText_spec0 k (by simp [h1]) (by simp [h2]) (by simp [h3]) r w
end Go.Proofs.YtgioecjnghllhaaGreatDoor
