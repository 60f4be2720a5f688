/- The walks of the program's readers of deeds; conditions: the library's variables are as its text lays them. -/
import Derived.Test.YtmccbbanganjlaaDoorORead1
namespace Go.Proofs.YtmccbbanganjlaaDoor
open Go.RowKit
set_option linter.unusedVariables false

def sideF (x : ByteArray) : Int := if x = wordOf 0 then 0 else if x = wordOf 1 then 1 else -1

theorem list_eq {x y : ByteArray} : (x.toList == y.toList) = decide (x = y) := by
  by_cases h : x = y
  · simp [h]
  · have : ¬ x.toList = y.toList := fun e => h (text_inj e)
    simp [h, this]

theorem looseSide (x : ByteArray) (w : World) :
    Calls Tryd.prog 56 #[.string x] w fun e w' => e = .returned (.int .i64 (sideF x)) ∧ w' = w := by
  go_enter Tryd.func56, Tryd.ntmps56
  go_wp2_with (go_at_call 72; refine (word_impl _ _).mono ?_; rintro e w' ⟨rfl, rfl⟩)
  all_goals (go_ret; exact ⟨by simp_all [list_eq, sideF], rfl⟩)

/-- The deed that a reader makes of two words. -/
def deedR (f : Nat) (a b : ByteArray) : Value :=
  if f = 55 then .iface 92 (.agg #[.int .i64 (sideF a)]) else if f = 57 then .iface 94 (.agg #[.int .i64 (atoiV a.data.toList), .int .i64 (atoiV b.data.toList)]) else if f = 58 then .iface 96 (.agg #[.int .i64 (atoiV a.data.toList)]) else
  if f = 59 then .iface 97 (.agg #[.int .i64 (atoiV a.data.toList)]) else if f = 60 then .iface 99 (.agg #[.int .i64 (sideF a), .int .i64 (atoiV b.data.toList)]) else .iface 101 (.agg #[])

theorem read_step (a b : ByteArray) (w : World) : Calls Tryd.prog 55 #[.string a, .string b] w fun e w' => e = .returned (deedR 55 a b) ∧ Below w.heap.size w w' := by
  go_enter Tryd.func55, Tryd.ntmps55
  go_wp2_with (go_at_call 56; refine (looseSide _ _).mono ?_; rintro e w' ⟨rfl, rfl⟩)
  go_ret
  exact ⟨rfl, by repeat (first | exact Below.refl _ _ | refine Below.alloc ?_ (by simp <;> omega) _)⟩

theorem read_give (a b : ByteArray) (ha : a.size ≤ 1000) (hb : b.size ≤ 1000) (w : World) (hE : Env w) : Calls Tryd.prog 57 #[.string a, .string b] w fun e w' => e = .returned (deedR 57 a b) ∧ Below w.heap.size w w' := by
  have HE : Hid (Env w) := hE
  clear hE
  go_enter Tryd.func57, Tryd.ntmps57
  go_wp2_with fail
  refine (loose a ha _ HE.out).mono ?_
  rintro e w1 ⟨rfl, hb1⟩
  go_wp2_with fail
  refine (loose b hb _ (HE.out.on hb1)).mono ?_
  rintro e w2 ⟨rfl, hb2⟩
  go_wp2
  go_ret
  exact ⟨rfl, bthen hb1 hb2⟩

theorem read_drop (a b : ByteArray) (ha : a.size ≤ 1000) (w : World) (hE : Env w) : Calls Tryd.prog 58 #[.string a, .string b] w fun e w' => e = .returned (deedR 58 a b) ∧ Below w.heap.size w w' := by
  have HE : Hid (Env w) := hE
  clear hE
  go_enter Tryd.func58, Tryd.ntmps58
  go_wp2_with fail
  refine (loose a ha _ HE.out).mono ?_
  rintro e w1 ⟨rfl, hb1⟩
  go_wp2
  go_ret
  exact ⟨rfl, hb1⟩

theorem read_pick (a b : ByteArray) (ha : a.size ≤ 1000) (w : World) (hE : Env w) : Calls Tryd.prog 59 #[.string a, .string b] w fun e w' => e = .returned (deedR 59 a b) ∧ Below w.heap.size w w' := by
  have HE : Hid (Env w) := hE
  clear hE
  go_enter Tryd.func59, Tryd.ntmps59
  go_wp2_with fail
  refine (loose a ha _ HE.out).mono ?_
  rintro e w1 ⟨rfl, hb1⟩
  go_wp2
  go_ret
  exact ⟨rfl, hb1⟩

theorem read_throw (a b : ByteArray) (hb : b.size ≤ 1000) (w : World) (hE : Env w) : Calls Tryd.prog 60 #[.string a, .string b] w fun e w' => e = .returned (deedR 60 a b) ∧ Below w.heap.size w w' := by
  have HE : Hid (Env w) := hE
  clear hE
  go_enter Tryd.func60, Tryd.ntmps60
  go_wp2_with (go_at_call 56; refine (looseSide _ _).mono ?_; rintro e w' ⟨rfl, hw'⟩; subst hw')
  refine (loose b hb _ HE.out).mono ?_
  rintro e w1 ⟨rfl, hb1⟩
  go_wp2
  go_ret
  exact ⟨rfl, hb1⟩

theorem read_rest (a b : ByteArray) (w : World) : Calls Tryd.prog 61 #[.string a, .string b] w fun e w' => e = .returned (deedR 61 a b) ∧ Below w.heap.size w w' := by
  go_enter Tryd.func61, Tryd.ntmps61
  go_wp2
  go_ret
  exact ⟨rfl, by repeat (first | exact Below.refl _ _ | refine Below.alloc ?_ (by simp <;> omega) _)⟩

/-- Whichever reader a word names: what it makes of two words. -/
theorem read_any (x a b : ByteArray) (f : Nat) (h : readerOf x = some f) (ha : a.size ≤ 1000) (hb : b.size ≤ 1000) (w : World) (hE : Env w) : Calls Tryd.prog f #[.string a, .string b] w fun e w' => e = .returned (deedR f a b) ∧ Below w.heap.size w w' := by
  unfold readerOf at h
  repeat' split at h
  all_goals first
    | (simp only [Option.some.injEq] at h; subst h; first | exact read_step a b w | exact read_give a b ha hb w hE | exact read_drop a b ha w hE | exact read_pick a b ha w hE | exact read_throw a b hb w hE | exact read_rest a b w)
    | (simp at h; done)

theorem reader_call (x : ByteArray) (f : Nat) (h : readerOf x = some f) (a : Array Value) (w : World) : (callFunc f a).run Tryd.prog w = .ok (.enter f a) w := by
  unfold readerOf at h
  repeat' split at h
  all_goals first
    | (simp only [Option.some.injEq] at h; subst h; kernel_rfl)
    | (simp at h; done)
end Go.Proofs.YtmccbbanganjlaaDoor
