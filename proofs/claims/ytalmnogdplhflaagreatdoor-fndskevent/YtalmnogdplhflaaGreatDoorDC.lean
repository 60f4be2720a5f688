/- DskEvent of the program: its table of words, its numbers; conditions: those typed. -/
import Derived.Test.YtalmnogdplhflaaGreatDoorDA
import Derived.Test.YtalmnogdplhflaaGreatDoorBase
namespace Go.Proofs.YtalmnogdplhflaaGreatDoor
open Go.RowKit
set_option linter.unusedVariables false
set_option maxRecDepth 20000
theorem run_lookup1_ok {P : Program} (w : World) (mty kt et : TypeId) (r clock : Nat) (es : Array MapEntry) (s : ByteArray) (i : Nat) (v : Value) (hm : P.underlying mty = some (.map kt et)) (hk : P.underlying kt = some .string) (hb : w.heap[r]? = some (.map es clock))
    (hf : Instr.findNow .string (.string s) es.toList 0 = some (some (i, v))) :
    (Instr.lookup mty (.map (some r)) (.string s) false).run P w = .ok v w := by
  have hc : (Instr.checkKey es.isEmpty 10000 kt (.string s)).run P w = .ok () w := MapKept.run_checkKey (k := .string s) hk (by simp [MapKept.IsKey]) _ 9999
  simp [Instr.lookup, run_underlying hm, MapKept.run_getObj_map hb, hc, MapKept.run_findKey hk hf, Result.andThen]
theorem run_lookup1_no {P : Program} (w : World) (mty kt et : TypeId) (r clock : Nat) (es : Array MapEntry) (s : ByteArray) (z : Value) (hm : P.underlying mty = some (.map kt et)) (hk : P.underlying kt = some .string) (hb : w.heap[r]? = some (.map es clock))
    (hf : Instr.findNow .string (.string s) es.toList 0 = some none) (hz : (zeroValue et).run P w = .ok z w) :
    (Instr.lookup mty (.map (some r)) (.string s) false).run P w = .ok z w := by
  have hc : (Instr.checkKey es.isEmpty 10000 kt (.string s)).run P w = .ok () w := MapKept.run_checkKey (k := .string s) hk (by simp [MapKept.IsKey]) _ 9999
  simp [Instr.lookup, run_underlying hm, MapKept.run_getObj_map hb, hc, MapKept.run_findKey hk hf, Result.andThen, hz]
theorem updK (w : World) (es : Array MapEntry) (c : Nat) (s : ByteArray) (v : Value) (hf : Instr.findNow .string (.string s) es.toList 0 = some none) :
    (Instr.mapUpdate 34 (.map (some w.heap.size)) (.string s) v).run Tryz.prog (w.alloc (.map es c)) = .ok () (w.alloc (.map (es.push { key := .string s, val := v, born := c }) (c + 1))) := by
  have hb : (w.alloc (.map es c)).heap[w.heap.size]? = some (.map es c) := (MapKept.heap_alloc w _).1
  rw [run_mapUpdate_new _ 34 9 3 w.heap.size c es s v Tryz.underlying34 Tryz.underlying9 hb hf]
  have e : (w.alloc (.map es c)).heap.setIfInBounds w.heap.size (.map (es.push { key := .string s, val := v, born := c }) (c + 1)) = (w.alloc (.map (es.push { key := .string s, val := v, born := c }) (c + 1))).heap := by
    show (w.heap.push _).setIfInBounds w.heap.size _ = w.heap.push _
    apply Array.ext'
    simp
  rw [e]
  rfl
def TK0 : Array MapEntry := #[]
def TK1 : Array MapEntry := #[⟨.string ⟨#[103, 114, 97, 110, 116]⟩, .int .i64 1, 0⟩]
def TK2 : Array MapEntry := #[⟨.string ⟨#[103, 114, 97, 110, 116]⟩, .int .i64 1, 0⟩, ⟨.string ⟨#[97, 115, 107]⟩, .int .i64 2, 1⟩]
def TK3 : Array MapEntry := #[⟨.string ⟨#[103, 114, 97, 110, 116]⟩, .int .i64 1, 0⟩, ⟨.string ⟨#[97, 115, 107]⟩, .int .i64 2, 1⟩, ⟨.string ⟨#[115, 97, 121]⟩, .int .i64 3, 2⟩]
def TK4 : Array MapEntry := #[⟨.string ⟨#[103, 114, 97, 110, 116]⟩, .int .i64 1, 0⟩, ⟨.string ⟨#[97, 115, 107]⟩, .int .i64 2, 1⟩, ⟨.string ⟨#[115, 97, 121]⟩, .int .i64 3, 2⟩, ⟨.string ⟨#[98, 114, 105, 110, 103]⟩, .int .i64 4, 3⟩]
def TK5 : Array MapEntry := #[⟨.string ⟨#[103, 114, 97, 110, 116]⟩, .int .i64 1, 0⟩, ⟨.string ⟨#[97, 115, 107]⟩, .int .i64 2, 1⟩, ⟨.string ⟨#[115, 97, 121]⟩, .int .i64 3, 2⟩, ⟨.string ⟨#[98, 114, 105, 110, 103]⟩, .int .i64 4, 3⟩, ⟨.string ⟨#[108, 111, 115, 101]⟩, .int .i64 5, 4⟩]
def TK6 : Array MapEntry := #[⟨.string ⟨#[103, 114, 97, 110, 116]⟩, .int .i64 1, 0⟩, ⟨.string ⟨#[97, 115, 107]⟩, .int .i64 2, 1⟩, ⟨.string ⟨#[115, 97, 121]⟩, .int .i64 3, 2⟩, ⟨.string ⟨#[98, 114, 105, 110, 103]⟩, .int .i64 4, 3⟩, ⟨.string ⟨#[108, 111, 115, 101]⟩, .int .i64 5, 4⟩, ⟨.string ⟨#[116, 119, 105, 99, 101]⟩, .int .i64 6, 5⟩]
def TK7 : Array MapEntry := #[⟨.string ⟨#[103, 114, 97, 110, 116]⟩, .int .i64 1, 0⟩, ⟨.string ⟨#[97, 115, 107]⟩, .int .i64 2, 1⟩, ⟨.string ⟨#[115, 97, 121]⟩, .int .i64 3, 2⟩, ⟨.string ⟨#[98, 114, 105, 110, 103]⟩, .int .i64 4, 3⟩, ⟨.string ⟨#[108, 111, 115, 101]⟩, .int .i64 5, 4⟩, ⟨.string ⟨#[116, 119, 105, 99, 101]⟩, .int .i64 6, 5⟩, ⟨.string ⟨#[116, 105, 99, 107]⟩, .int .i64 7, 6⟩]
def TK8 : Array MapEntry := #[⟨.string ⟨#[103, 114, 97, 110, 116]⟩, .int .i64 1, 0⟩, ⟨.string ⟨#[97, 115, 107]⟩, .int .i64 2, 1⟩, ⟨.string ⟨#[115, 97, 121]⟩, .int .i64 3, 2⟩, ⟨.string ⟨#[98, 114, 105, 110, 103]⟩, .int .i64 4, 3⟩, ⟨.string ⟨#[108, 111, 115, 101]⟩, .int .i64 5, 4⟩, ⟨.string ⟨#[116, 119, 105, 99, 101]⟩, .int .i64 6, 5⟩, ⟨.string ⟨#[116, 105, 99, 107]⟩, .int .i64 7, 6⟩, ⟨.string ⟨#[102, 97, 108, 108]⟩, .int .i64 8, 7⟩]
def TK9 : Array MapEntry := #[⟨.string ⟨#[103, 114, 97, 110, 116]⟩, .int .i64 1, 0⟩, ⟨.string ⟨#[97, 115, 107]⟩, .int .i64 2, 1⟩, ⟨.string ⟨#[115, 97, 121]⟩, .int .i64 3, 2⟩, ⟨.string ⟨#[98, 114, 105, 110, 103]⟩, .int .i64 4, 3⟩, ⟨.string ⟨#[108, 111, 115, 101]⟩, .int .i64 5, 4⟩, ⟨.string ⟨#[116, 119, 105, 99, 101]⟩, .int .i64 6, 5⟩, ⟨.string ⟨#[116, 105, 99, 107]⟩, .int .i64 7, 6⟩, ⟨.string ⟨#[102, 97, 108, 108]⟩, .int .i64 8, 7⟩, ⟨.string ⟨#[114, 105, 115, 101]⟩, .int .i64 9, 8⟩]

theorem kinds (w : World) :
    Calls Tryz.prog 10 #[] w fun e w' => e = .returned (.map (some w.heap.size)) ∧ w' = w.alloc (.map TK9 9) := by
  have h0 : ∀ w : World, (Instr.makeMap 34 none).run Tryz.prog w = .ok (.map (some w.heap.size)) (w.alloc (.map TK0 0)) := fun w => run_makeMap_plain (P := Tryz.prog) w 34
  have h1 : ∀ w : World, (Instr.mapUpdate 34 (.map (some w.heap.size)) (.string ⟨#[103, 114, 97, 110, 116]⟩) (.int .i64 1)).run Tryz.prog (w.alloc (.map TK0 0)) = .ok () (w.alloc (.map TK1 1)) := fun w => updK w _ _ _ _ (by kernel_rfl)
  have h2 : ∀ w : World, (Instr.mapUpdate 34 (.map (some w.heap.size)) (.string ⟨#[97, 115, 107]⟩) (.int .i64 2)).run Tryz.prog (w.alloc (.map TK1 1)) = .ok () (w.alloc (.map TK2 2)) := fun w => updK w _ _ _ _ (by kernel_rfl)
  have h3 : ∀ w : World, (Instr.mapUpdate 34 (.map (some w.heap.size)) (.string ⟨#[115, 97, 121]⟩) (.int .i64 3)).run Tryz.prog (w.alloc (.map TK2 2)) = .ok () (w.alloc (.map TK3 3)) := fun w => updK w _ _ _ _ (by kernel_rfl)
  have h4 : ∀ w : World, (Instr.mapUpdate 34 (.map (some w.heap.size)) (.string ⟨#[98, 114, 105, 110, 103]⟩) (.int .i64 4)).run Tryz.prog (w.alloc (.map TK3 3)) = .ok () (w.alloc (.map TK4 4)) := fun w => updK w _ _ _ _ (by kernel_rfl)
  have h5 : ∀ w : World, (Instr.mapUpdate 34 (.map (some w.heap.size)) (.string ⟨#[108, 111, 115, 101]⟩) (.int .i64 5)).run Tryz.prog (w.alloc (.map TK4 4)) = .ok () (w.alloc (.map TK5 5)) := fun w => updK w _ _ _ _ (by kernel_rfl)
  have h6 : ∀ w : World, (Instr.mapUpdate 34 (.map (some w.heap.size)) (.string ⟨#[116, 119, 105, 99, 101]⟩) (.int .i64 6)).run Tryz.prog (w.alloc (.map TK5 5)) = .ok () (w.alloc (.map TK6 6)) := fun w => updK w _ _ _ _ (by kernel_rfl)
  have h7 : ∀ w : World, (Instr.mapUpdate 34 (.map (some w.heap.size)) (.string ⟨#[116, 105, 99, 107]⟩) (.int .i64 7)).run Tryz.prog (w.alloc (.map TK6 6)) = .ok () (w.alloc (.map TK7 7)) := fun w => updK w _ _ _ _ (by kernel_rfl)
  have h8 : ∀ w : World, (Instr.mapUpdate 34 (.map (some w.heap.size)) (.string ⟨#[102, 97, 108, 108]⟩) (.int .i64 8)).run Tryz.prog (w.alloc (.map TK7 7)) = .ok () (w.alloc (.map TK8 8)) := fun w => updK w _ _ _ _ (by kernel_rfl)
  have h9 : ∀ w : World, (Instr.mapUpdate 34 (.map (some w.heap.size)) (.string ⟨#[114, 105, 115, 101]⟩) (.int .i64 9)).run Tryz.prog (w.alloc (.map TK8 8)) = .ok () (w.alloc (.map TK9 9)) := fun w => updK w _ _ _ _ (by kernel_rfl)
  go_enter Tryz.func10, Tryz.ntmps10
  go_wp2
  go_ret
  exact ⟨rfl, rfl⟩
/-- Which kind a word names; 0, if none. -/
def kindOf (x : ByteArray) : Int := if x = (⟨#[103, 114, 97, 110, 116]⟩ : ByteArray) then 1 else if x = (⟨#[97, 115, 107]⟩ : ByteArray) then 2 else if x = (⟨#[115, 97, 121]⟩ : ByteArray) then 3 else if x = (⟨#[98, 114, 105, 110, 103]⟩ : ByteArray) then 4 else if x = (⟨#[108, 111, 115, 101]⟩ : ByteArray) then 5 else if x = (⟨#[116, 119, 105, 99, 101]⟩ : ByteArray) then 6 else if x = (⟨#[116, 105, 99, 107]⟩ : ByteArray) then 7 else if x = (⟨#[102, 97, 108, 108]⟩ : ByteArray) then 8 else if x = (⟨#[114, 105, 115, 101]⟩ : ByteArray) then 9 else 0
theorem look_kind (w : World) (b : Nat) (hb : w.heap[b]? = some (.map TK9 9)) (x : ByteArray) :
    (Instr.lookup 34 (.map (some b)) (.string x) false).run Tryz.prog w = .ok (.int .i64 (kindOf x)) w := by
  have hf : Instr.findNow .string (.string x) TK9.toList 0 = some none ∧ kindOf x = 0 ∨ ∃ i, Instr.findNow .string (.string x) TK9.toList 0 = some (some (i, .int .i64 (kindOf x))) := by
    show Instr.findNow .string (.string x) [⟨.string ⟨#[103, 114, 97, 110, 116]⟩, .int .i64 1, 0⟩, ⟨.string ⟨#[97, 115, 107]⟩, .int .i64 2, 1⟩, ⟨.string ⟨#[115, 97, 121]⟩, .int .i64 3, 2⟩, ⟨.string ⟨#[98, 114, 105, 110, 103]⟩, .int .i64 4, 3⟩, ⟨.string ⟨#[108, 111, 115, 101]⟩, .int .i64 5, 4⟩, ⟨.string ⟨#[116, 119, 105, 99, 101]⟩, .int .i64 6, 5⟩, ⟨.string ⟨#[116, 105, 99, 107]⟩, .int .i64 7, 6⟩, ⟨.string ⟨#[102, 97, 108, 108]⟩, .int .i64 8, 7⟩, ⟨.string ⟨#[114, 105, 115, 101]⟩, .int .i64 9, 8⟩] 0 = _ ∧ _ ∨ ∃ i, Instr.findNow .string (.string x) [⟨.string ⟨#[103, 114, 97, 110, 116]⟩, .int .i64 1, 0⟩, ⟨.string ⟨#[97, 115, 107]⟩, .int .i64 2, 1⟩, ⟨.string ⟨#[115, 97, 121]⟩, .int .i64 3, 2⟩, ⟨.string ⟨#[98, 114, 105, 110, 103]⟩, .int .i64 4, 3⟩, ⟨.string ⟨#[108, 111, 115, 101]⟩, .int .i64 5, 4⟩, ⟨.string ⟨#[116, 119, 105, 99, 101]⟩, .int .i64 6, 5⟩, ⟨.string ⟨#[116, 105, 99, 107]⟩, .int .i64 7, 6⟩, ⟨.string ⟨#[102, 97, 108, 108]⟩, .int .i64 8, 7⟩, ⟨.string ⟨#[114, 105, 115, 101]⟩, .int .i64 9, 8⟩] 0 = _
    rw [find_step, find_step, find_step, find_step, find_step, find_step, find_step, find_step, find_step]
    unfold kindOf
    by_cases h0 : x = (⟨#[103, 114, 97, 110, 116]⟩ : ByteArray)
    · rw [if_pos h0, if_pos h0]; exact .inr ⟨_, rfl⟩
    rw [if_neg h0, if_neg h0]
    by_cases h1 : x = (⟨#[97, 115, 107]⟩ : ByteArray)
    · rw [if_pos h1, if_pos h1]; exact .inr ⟨_, rfl⟩
    rw [if_neg h1, if_neg h1]
    by_cases h2 : x = (⟨#[115, 97, 121]⟩ : ByteArray)
    · rw [if_pos h2, if_pos h2]; exact .inr ⟨_, rfl⟩
    rw [if_neg h2, if_neg h2]
    by_cases h3 : x = (⟨#[98, 114, 105, 110, 103]⟩ : ByteArray)
    · rw [if_pos h3, if_pos h3]; exact .inr ⟨_, rfl⟩
    rw [if_neg h3, if_neg h3]
    by_cases h4 : x = (⟨#[108, 111, 115, 101]⟩ : ByteArray)
    · rw [if_pos h4, if_pos h4]; exact .inr ⟨_, rfl⟩
    rw [if_neg h4, if_neg h4]
    by_cases h5 : x = (⟨#[116, 119, 105, 99, 101]⟩ : ByteArray)
    · rw [if_pos h5, if_pos h5]; exact .inr ⟨_, rfl⟩
    rw [if_neg h5, if_neg h5]
    by_cases h6 : x = (⟨#[116, 105, 99, 107]⟩ : ByteArray)
    · rw [if_pos h6, if_pos h6]; exact .inr ⟨_, rfl⟩
    rw [if_neg h6, if_neg h6]
    by_cases h7 : x = (⟨#[102, 97, 108, 108]⟩ : ByteArray)
    · rw [if_pos h7, if_pos h7]; exact .inr ⟨_, rfl⟩
    rw [if_neg h7, if_neg h7]
    by_cases h8 : x = (⟨#[114, 105, 115, 101]⟩ : ByteArray)
    · rw [if_pos h8, if_pos h8]; exact .inr ⟨_, rfl⟩
    rw [if_neg h8, if_neg h8]
    exact .inl ⟨rfl, rfl⟩
  rcases hf with ⟨hf, e⟩ | ⟨i, hf⟩
  · rw [e]
    exact run_lookup1_no w 34 9 3 b 9 TK9 x _ Tryz.underlying34 Tryz.underlying9 hb hf (by kernel_rfl)
  · exact run_lookup1_ok w 34 9 3 b 9 TK9 x i _ Tryz.underlying34 Tryz.underlying9 hb hf
/-- A row of numbers. -/
def ints (ns : List Int) : List Value := ns.map fun n => .int .i64 n
theorem within_yes (n : Int) (h0 : 0 ≤ n) (h1 : n ≤ 99999) (w : World) : Calls Tryz.prog 28 #[.int .i64 n, .int .i64 0, .int .i64 99999] w fun e w' => e = .returned (.bool true) ∧ w' = w := by
  go_enter Tryz.func28, Tryz.ntmps28
  go_wp2
  go_ret
  exact ⟨rfl, rfl⟩
theorem within_no (n : Int) (h : ¬ (0 ≤ n ∧ n ≤ 99999)) (w : World) : Calls Tryz.prog 28 #[.int .i64 n, .int .i64 0, .int .i64 99999] w fun e w' => e = .returned (.bool false) ∧ w' = w := by
  by_cases h0 : 0 ≤ n
  · have h1 : ¬ n ≤ 99999 := fun e => h ⟨h0, e⟩
    go_enter Tryz.func28, Tryz.ntmps28
    go_wp2
    go_ret
    exact ⟨by simp, rfl⟩
  · go_enter Tryz.func28, Tryz.ntmps28
    go_wp2
    go_ret
    exact ⟨by simp, rfl⟩
theorem nev_two_no (k : Int) (hk : k = 1 ∨ k = 7) (v : Option Addr) (n cap : Nat) (hn : ¬ n = 2) (w : World) :
    Calls Tryz.prog 12 #[.int .i64 k, .slice v n cap] w fun e w' => e = .returned (.tuple #[.agg #[.int .i64 0, .int .i64 0, .int .i64 0, .int .i64 0, .int .i64 0], .bool false]) ∧ Below w.heap.size w w' := by
  have hb : ((n : Int) == 2) = false := by rw [beq_eq_false_iff_ne]; omega
  rcases hk with rfl | rfl
  all_goals
    go_enter Tryz.func12, Tryz.ntmps12
    go_wp2
    exact bodyPost_ret (v := (.tuple #[.agg #[.int .i64 0, .int .i64 0, .int .i64 0, .int .i64 0, .int .i64 0], .bool false])) (by simp [results, Tryz.results12, go_sem]) rfl ⟨rfl, by repeat (first | exact Below.refl _ _ | refine Below.alloc ?_ (by simp) _ | refine Below.setCell ?_ (by simp) _)⟩
theorem nev_one_no (k : Int) (hk : k = 3 ∨ k = 4 ∨ k = 5 ∨ k = 6 ∨ k = 8 ∨ k = 9) (v : Option Addr) (n cap : Nat) (hn : ¬ n = 1) (w : World) :
    Calls Tryz.prog 12 #[.int .i64 k, .slice v n cap] w fun e w' => e = .returned (.tuple #[.agg #[.int .i64 0, .int .i64 0, .int .i64 0, .int .i64 0, .int .i64 0], .bool false]) ∧ Below w.heap.size w w' := by
  have hb : ((n : Int) == 1) = false := by rw [beq_eq_false_iff_ne]; omega
  rcases hk with rfl | rfl | rfl | rfl | rfl | rfl
  all_goals
    go_enter Tryz.func12, Tryz.ntmps12
    go_wp2
    exact bodyPost_ret (v := (.tuple #[.agg #[.int .i64 0, .int .i64 0, .int .i64 0, .int .i64 0, .int .i64 0], .bool false])) (by simp [results, Tryz.results12, go_sem]) rfl ⟨rfl, by repeat (first | exact Below.refl _ _ | refine Below.alloc ?_ (by simp) _ | refine Below.setCell ?_ (by simp) _)⟩
theorem nev_zero (v : Option Addr) (n cap : Nat) (w : World) :
    Calls Tryz.prog 12 #[.int .i64 0, .slice v n cap] w fun e w' => e = .returned (.tuple #[.agg #[.int .i64 0, .int .i64 0, .int .i64 0, .int .i64 0, .int .i64 0], .bool false]) ∧ Below w.heap.size w w' := by
  go_enter Tryz.func12, Tryz.ntmps12
  go_wp2
  exact bodyPost_ret (v := (.tuple #[.agg #[.int .i64 0, .int .i64 0, .int .i64 0, .int .i64 0, .int .i64 0], .bool false])) (by simp [results, Tryz.results12, go_sem]) rfl ⟨rfl, by repeat (first | exact Below.refl _ _ | refine Below.alloc ?_ (by simp) _ | refine Below.setCell ?_ (by simp) _)⟩
end Go.Proofs.YtalmnogdplhflaaGreatDoor
