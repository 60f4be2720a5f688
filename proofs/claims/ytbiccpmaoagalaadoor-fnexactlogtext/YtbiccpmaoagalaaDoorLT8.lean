/- LogText of the model, kind 1; conditions: those typed. -/
import Derived.Test.YtbiccpmaoagalaaDoorLT3
import Derived.Deep.RegionHeld3
import Derived.Deep.QuietTactic
import Derived.BigQuiet
import Derived.Deep.Cut
namespace Go.Proofs.YtbiccpmaoagalaaDoor
open Go.RowKit Go.Deep
set_option linter.unusedVariables false

def noO (r : Nat → Int) : Bool := (r 1 == 0 && (r 2 == 0 && (r 3 == 0 && (r 4 == 0 && (r 5 == 0)))))
def noP (r : Nat → Int) : Bool := (r 7 == 0 && (r 8 == 0 && (r 9 == 0 && (r 10 == 0 && (r 11 == 0 && (r 12 == 0 && (r 13 == 0 && (r 14 == 0))))))))
def modText (k : Int) (r : Nat → Int) : ByteArray :=
  if k = 1 then (if (ordB (r 1) (r 2) (r 3) (r 4) (r 5) && (r 6 == 0 && (noP r && r 15 == 0))) = true then (⟨#[100, 111, 32]⟩ : ByteArray) ++ (ordText (r 1) (r 2) (r 3) (r 4) (r 5)) else ⟨#[]⟩)
  else if k = 2 then (if (noO r && (inB (r 6) 0 1 && (!(pclText (r 7) (r 8) (r 9) (r 10) (r 11) (r 12) (r 13) (r 14)).toList.isEmpty && r 15 == 0))) = true then (((⟨#[105, 110, 32]⟩ : ByteArray) ++ wordOf (r 6)) ++ SP) ++ (pclText (r 7) (r 8) (r 9) (r 10) (r 11) (r 12) (r 13) (r 14)) else ⟨#[]⟩)
  else if k = 3 then (if (noO r && (inB (r 6) 0 1 && (noP r && inB (r 15) 1 5000))) = true then (((⟨#[97, 99, 107, 32]⟩ : ByteArray) ++ wordOf (r 6)) ++ SP) ++ DD (r 15) else ⟨#[]⟩)
  else ⟨#[]⟩

set_option maxRecDepth 20000 in
set_option maxHeartbeats 4000000 in
theorem logText_spec1 (r : Nat → Int) (w : World) :
    Calls Tryd.prog 4 #[.agg #[.int .i64 1, .int .i64 (r 1), .int .i64 (r 2), .int .i64 (r 3), .int .i64 (r 4), .int .i64 (r 5), .int .i64 (r 6), .int .i64 (r 7), .int .i64 (r 8), .int .i64 (r 9), .int .i64 (r 10), .int .i64 (r 11), .int .i64 (r 12), .int .i64 (r 13), .int .i64 (r 14), .int .i64 (r 15)]] w fun e w' => e = .returned (.string (modText 1 r)) ∧ Below w.heap.size w w' := by
  cases h1 : ordB (r 1) (r 2) (r 3) (r 4) (r 5)
  · have HQ : Hid (modText 1 r = ⟨#[]⟩) := by show modText 1 r = _; simp [modText, h1]
    go_enter Tryd.func4, Tryd.ntmps4
    go_wp2_with (go_at_call 7; refine (ordOk_spec _ _ _ _ _ _).mono ?_; rintro e w' ⟨rfl, hb⟩; (try rw [h1]); (first | (replace B0 := bthen B0 hb) | (have B0 := hb)); obtain ⟨hc, hf⟩ := bcell B0)
    all_goals (go_ret; exact ⟨by rw [HQ.out]; rfl, by repeat (first | exact Below.refl _ _ | assumption | refine bthen ?_ (by assumption) | apply Below.drew | apply bdrewN | refine Below.alloc ?_ (by simp <;> omega) _)⟩)
  have zo := ordText_size (r 1) (r 2) (r 3) (r 4) (r 5)
  have c1 : ∀ w : World, (Op.stringOp .add (⟨#[100, 111, 32]⟩ : ByteArray) (ordText (r 1) (r 2) (r 3) (r 4) (r 5))).run Tryd.prog w = .ok (.string ((⟨#[100, 111, 32]⟩ : ByteArray) ++ (ordText (r 1) (r 2) (r 3) (r 4) (r 5)))) w := cat _ _ (by decide +kernel) (by omega)
  have H1 : Hid (ordB (r 1) (r 2) (r 3) (r 4) (r 5) = true) := h1
  clear zo
  go_enter Tryd.func4, Tryd.ntmps4
  go_wp2_with (first | (go_at_call 7; refine (ordOk_spec _ _ _ _ _ _).mono ?_; rintro e w' ⟨rfl, hb⟩; (try rw [h1]); (first | (replace B0 := bthen B0 hb) | (have B0 := hb)); obtain ⟨hc, hf⟩ := bcell B0) | (go_at_call 8; refine (ordText_spec _ _ _ _ _ _).mono ?_; rintro e w' ⟨rfl, hb⟩; (first | (replace B0 := bthen B0 hb) | (have B0 := hb)); obtain ⟨hc, hf⟩ := bcell B0))
  all_goals (go_ret; exact ⟨by have h1 := H1.out; simp_all [modText, noP], by repeat (first | exact Below.refl _ _ | assumption | refine bthen ?_ (by assumption) | apply Below.drew | apply bdrewN | refine Below.alloc ?_ (by simp <;> omega) _)⟩)

end Go.Proofs.YtbiccpmaoagalaaDoor
