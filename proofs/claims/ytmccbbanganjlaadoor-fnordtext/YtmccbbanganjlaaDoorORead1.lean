/- The walks of the program's table of readers: made, looked up; conditions: none. -/
import Derived.Test.YtmccbbanganjlaaDoorOText3
import Derived.Test.YtmccbbanganjlaaDoorRead4
import Derived.WideMake
namespace Go.Proofs.YtmccbbanganjlaaDoor
open Go.RowKit
set_option linter.unusedVariables false

theorem run_mapUpdate_new {P : Program} (w : World) (mty kt et : TypeId) (r clock : Nat) (es : Array MapEntry) (s : ByteArray) (val : Value) (hm : P.underlying mty = some (.map kt et)) (hk : P.underlying kt = some .string) (hb : w.heap[r]? = some (.map es clock))
    (hf : Instr.findNow .string (.string s) es.toList 0 = some none) :
    (Instr.mapUpdate mty (.map (some r)) (.string s) val).run P w = .ok () { w with heap := w.heap.setIfInBounds r (.map (es.push { key := .string s, val := val, born := clock }) (clock + 1)) } := by
  have hc : (Instr.checkKey false 10000 kt (.string s)).run P w = .ok () w := MapKept.run_checkKey (k := .string s) hk (by simp [MapKept.IsKey]) false 9999
  simp [Instr.mapUpdate, run_underlying hm, MapKept.run_getObj_map hb, hc, MapKept.run_findKey hk hf, MapKept.run_setObj_map _ hb, Result.andThen]

theorem run_lookup_ok {P : Program} (w : World) (mty kt et : TypeId) (r clock : Nat) (es : Array MapEntry) (s : ByteArray) (i : Nat) (v : Value) (hm : P.underlying mty = some (.map kt et)) (hk : P.underlying kt = some .string) (hb : w.heap[r]? = some (.map es clock))
    (hf : Instr.findNow .string (.string s) es.toList 0 = some (some (i, v))) :
    (Instr.lookup mty (.map (some r)) (.string s) true).run P w = .ok (.tuple #[v, .bool true]) w := by
  have hc : (Instr.checkKey es.isEmpty 10000 kt (.string s)).run P w = .ok () w := MapKept.run_checkKey (k := .string s) hk (by simp [MapKept.IsKey]) _ 9999
  simp [Instr.lookup, run_underlying hm, MapKept.run_getObj_map hb, hc, MapKept.run_findKey hk hf, Result.andThen]

theorem run_lookup_no {P : Program} (w : World) (mty kt et : TypeId) (r clock : Nat) (es : Array MapEntry) (s : ByteArray) (z : Value) (hm : P.underlying mty = some (.map kt et)) (hk : P.underlying kt = some .string) (hb : w.heap[r]? = some (.map es clock))
    (hf : Instr.findNow .string (.string s) es.toList 0 = some none) (hz : (zeroValue et).run P w = .ok z w) :
    (Instr.lookup mty (.map (some r)) (.string s) true).run P w = .ok (.tuple #[z, .bool false]) w := by
  have hc : (Instr.checkKey es.isEmpty 10000 kt (.string s)).run P w = .ok () w := MapKept.run_checkKey (k := .string s) hk (by simp [MapKept.IsKey]) _ 9999
  simp [Instr.lookup, run_underlying hm, MapKept.run_getObj_map hb, hc, MapKept.run_findKey hk hf, Result.andThen, hz]

theorem upd (w : World) (es : Array MapEntry) (c : Nat) (s : ByteArray) (v : Value) (hf : Instr.findNow .string (.string s) es.toList 0 = some none) :
    (Instr.mapUpdate 64 (.map (some w.heap.size)) (.string s) v).run Tryd.prog (w.alloc (.map es c)) = .ok () (w.alloc (.map (es.push { key := .string s, val := v, born := c }) (c + 1))) := by
  have hb : (w.alloc (.map es c)).heap[w.heap.size]? = some (.map es c) := (MapKept.heap_alloc w _).1
  rw [run_mapUpdate_new _ 64 9 62 w.heap.size c es s v Tryd.underlying64 Tryd.underlying9 hb hf]
  have e : (w.alloc (.map es c)).heap.setIfInBounds w.heap.size (.map (es.push { key := .string s, val := v, born := c }) (c + 1)) = (w.alloc (.map (es.push { key := .string s, val := v, born := c }) (c + 1))).heap := by
    show (w.heap.push _).setIfInBounds w.heap.size _ = w.heap.push _
    apply Array.ext'
    simp
  rw [e]
  rfl

/-- The table of readers, as it lies in memory. -/
def TAB : Array MapEntry := #[⟨.string ⟨#[115, 116, 101, 112]⟩, .func (.func 55) #[] #[], 0⟩, ⟨.string ⟨#[103, 105, 118, 101]⟩, .func (.func 57) #[] #[], 1⟩, ⟨.string ⟨#[100, 114, 111, 112]⟩, .func (.func 58) #[] #[], 2⟩, ⟨.string ⟨#[112, 105, 99, 107]⟩, .func (.func 59) #[] #[], 3⟩, ⟨.string ⟨#[116, 104, 114, 111, 119]⟩, .func (.func 60) #[] #[], 4⟩, ⟨.string ⟨#[114, 101, 115, 116]⟩, .func (.func 61) #[] #[], 5⟩]

set_option maxRecDepth 20000 in
theorem readers (w : World) :
    Calls Tryd.prog 33 #[] w fun e w' => e = .returned (.map (some w.heap.size)) ∧ w' = w.alloc (.map TAB 6) := by
  have h0 := fun w : World => run_makeMap_plain (P := Tryd.prog) w 64
  have h1 : ∀ w : World, (Instr.mapUpdate 64 (.map (some w.heap.size)) (.string ⟨#[115, 116, 101, 112]⟩) (.func (.func 55) #[] #[])).run Tryd.prog (w.alloc (.map #[] 0)) = .ok () (w.alloc (.map #[⟨.string ⟨#[115, 116, 101, 112]⟩, .func (.func 55) #[] #[], 0⟩] 1)) := fun w => upd w _ _ _ _ (by kernel_rfl)
  have h2 : ∀ w : World, (Instr.mapUpdate 64 (.map (some w.heap.size)) (.string ⟨#[103, 105, 118, 101]⟩) (.func (.func 57) #[] #[])).run Tryd.prog (w.alloc (.map #[⟨.string ⟨#[115, 116, 101, 112]⟩, .func (.func 55) #[] #[], 0⟩] 1)) = .ok () (w.alloc (.map #[⟨.string ⟨#[115, 116, 101, 112]⟩, .func (.func 55) #[] #[], 0⟩, ⟨.string ⟨#[103, 105, 118, 101]⟩, .func (.func 57) #[] #[], 1⟩] 2)) := fun w => upd w _ _ _ _ (by kernel_rfl)
  have h3 : ∀ w : World, (Instr.mapUpdate 64 (.map (some w.heap.size)) (.string ⟨#[100, 114, 111, 112]⟩) (.func (.func 58) #[] #[])).run Tryd.prog (w.alloc (.map #[⟨.string ⟨#[115, 116, 101, 112]⟩, .func (.func 55) #[] #[], 0⟩, ⟨.string ⟨#[103, 105, 118, 101]⟩, .func (.func 57) #[] #[], 1⟩] 2)) = .ok () (w.alloc (.map #[⟨.string ⟨#[115, 116, 101, 112]⟩, .func (.func 55) #[] #[], 0⟩, ⟨.string ⟨#[103, 105, 118, 101]⟩, .func (.func 57) #[] #[], 1⟩, ⟨.string ⟨#[100, 114, 111, 112]⟩, .func (.func 58) #[] #[], 2⟩] 3)) := fun w => upd w _ _ _ _ (by kernel_rfl)
  have h4 : ∀ w : World, (Instr.mapUpdate 64 (.map (some w.heap.size)) (.string ⟨#[112, 105, 99, 107]⟩) (.func (.func 59) #[] #[])).run Tryd.prog (w.alloc (.map #[⟨.string ⟨#[115, 116, 101, 112]⟩, .func (.func 55) #[] #[], 0⟩, ⟨.string ⟨#[103, 105, 118, 101]⟩, .func (.func 57) #[] #[], 1⟩, ⟨.string ⟨#[100, 114, 111, 112]⟩, .func (.func 58) #[] #[], 2⟩] 3)) = .ok () (w.alloc (.map #[⟨.string ⟨#[115, 116, 101, 112]⟩, .func (.func 55) #[] #[], 0⟩, ⟨.string ⟨#[103, 105, 118, 101]⟩, .func (.func 57) #[] #[], 1⟩, ⟨.string ⟨#[100, 114, 111, 112]⟩, .func (.func 58) #[] #[], 2⟩, ⟨.string ⟨#[112, 105, 99, 107]⟩, .func (.func 59) #[] #[], 3⟩] 4)) := fun w => upd w _ _ _ _ (by kernel_rfl)
  have h5 : ∀ w : World, (Instr.mapUpdate 64 (.map (some w.heap.size)) (.string ⟨#[116, 104, 114, 111, 119]⟩) (.func (.func 60) #[] #[])).run Tryd.prog (w.alloc (.map #[⟨.string ⟨#[115, 116, 101, 112]⟩, .func (.func 55) #[] #[], 0⟩, ⟨.string ⟨#[103, 105, 118, 101]⟩, .func (.func 57) #[] #[], 1⟩, ⟨.string ⟨#[100, 114, 111, 112]⟩, .func (.func 58) #[] #[], 2⟩, ⟨.string ⟨#[112, 105, 99, 107]⟩, .func (.func 59) #[] #[], 3⟩] 4)) = .ok () (w.alloc (.map #[⟨.string ⟨#[115, 116, 101, 112]⟩, .func (.func 55) #[] #[], 0⟩, ⟨.string ⟨#[103, 105, 118, 101]⟩, .func (.func 57) #[] #[], 1⟩, ⟨.string ⟨#[100, 114, 111, 112]⟩, .func (.func 58) #[] #[], 2⟩, ⟨.string ⟨#[112, 105, 99, 107]⟩, .func (.func 59) #[] #[], 3⟩, ⟨.string ⟨#[116, 104, 114, 111, 119]⟩, .func (.func 60) #[] #[], 4⟩] 5)) := fun w => upd w _ _ _ _ (by kernel_rfl)
  have h6 : ∀ w : World, (Instr.mapUpdate 64 (.map (some w.heap.size)) (.string ⟨#[114, 101, 115, 116]⟩) (.func (.func 61) #[] #[])).run Tryd.prog (w.alloc (.map #[⟨.string ⟨#[115, 116, 101, 112]⟩, .func (.func 55) #[] #[], 0⟩, ⟨.string ⟨#[103, 105, 118, 101]⟩, .func (.func 57) #[] #[], 1⟩, ⟨.string ⟨#[100, 114, 111, 112]⟩, .func (.func 58) #[] #[], 2⟩, ⟨.string ⟨#[112, 105, 99, 107]⟩, .func (.func 59) #[] #[], 3⟩, ⟨.string ⟨#[116, 104, 114, 111, 119]⟩, .func (.func 60) #[] #[], 4⟩] 5)) = .ok () (w.alloc (.map #[⟨.string ⟨#[115, 116, 101, 112]⟩, .func (.func 55) #[] #[], 0⟩, ⟨.string ⟨#[103, 105, 118, 101]⟩, .func (.func 57) #[] #[], 1⟩, ⟨.string ⟨#[100, 114, 111, 112]⟩, .func (.func 58) #[] #[], 2⟩, ⟨.string ⟨#[112, 105, 99, 107]⟩, .func (.func 59) #[] #[], 3⟩, ⟨.string ⟨#[116, 104, 114, 111, 119]⟩, .func (.func 60) #[] #[], 4⟩, ⟨.string ⟨#[114, 101, 115, 116]⟩, .func (.func 61) #[] #[], 5⟩] 6)) := fun w => upd w _ _ _ _ (by kernel_rfl)
  go_enter Tryd.func33, Tryd.ntmps33
  go_wp2
  go_ret
  exact ⟨rfl, rfl⟩

theorem beq_ba (x y : ByteArray) : (x == y) = decide (x = y) := by
  cases x with | mk a =>
  cases y with | mk b =>
  show (a == b) = _
  by_cases h : a = b
  · simp [h]
  · simp [h]

theorem find_step (x y : ByteArray) (v : Value) (b i : Nat) (es : List MapEntry) : Instr.findNow .string (.string x) (⟨.string y, v, b⟩ :: es) i = if x = y then some (some (i, v)) else Instr.findNow .string (.string x) es (i + 1) := by
  have e : Instr.findNow .string (.string x) (⟨.string y, v, b⟩ :: es) i = (match (some (x == y) : Option Bool) with | some true => some (some (i, v)) | some false => Instr.findNow .string (.string x) es (i + 1) | none => none) := rfl
  rw [e, beq_ba]
  by_cases h : x = y
  · rw [decide_eq_true h, if_pos h]
  · rw [decide_eq_false h, if_neg h]

/-- Which reader a word names. -/
def readerOf (x : ByteArray) : Option Nat :=
  if x = (⟨#[115, 116, 101, 112]⟩ : ByteArray) then some 55 else if x = (⟨#[103, 105, 118, 101]⟩ : ByteArray) then some 57 else if x = (⟨#[100, 114, 111, 112]⟩ : ByteArray) then some 58 else if x = (⟨#[112, 105, 99, 107]⟩ : ByteArray) then some 59 else if x = (⟨#[116, 104, 114, 111, 119]⟩ : ByteArray) then some 60 else if x = (⟨#[114, 101, 115, 116]⟩ : ByteArray) then some 61 else none

theorem look_yes (w : World) (b : Nat) (hb : w.heap[b]? = some (.map TAB 6)) (x : ByteArray) (f : Nat) (h : readerOf x = some f) :
    (Instr.lookup 64 (.map (some b)) (.string x) true).run Tryd.prog w = .ok (.tuple #[.func (.func f) #[] #[], .bool true]) w := by
  have hf : ∃ i, Instr.findNow .string (.string x) TAB.toList 0 = some (some (i, .func (.func f) #[] #[])) := by
    show ∃ i, Instr.findNow .string (.string x) [⟨.string ⟨#[115, 116, 101, 112]⟩, .func (.func 55) #[] #[], 0⟩, ⟨.string ⟨#[103, 105, 118, 101]⟩, .func (.func 57) #[] #[], 1⟩, ⟨.string ⟨#[100, 114, 111, 112]⟩, .func (.func 58) #[] #[], 2⟩, ⟨.string ⟨#[112, 105, 99, 107]⟩, .func (.func 59) #[] #[], 3⟩, ⟨.string ⟨#[116, 104, 114, 111, 119]⟩, .func (.func 60) #[] #[], 4⟩, ⟨.string ⟨#[114, 101, 115, 116]⟩, .func (.func 61) #[] #[], 5⟩] 0 = _
    rw [find_step, find_step, find_step, find_step, find_step, find_step]
    unfold readerOf at h
    repeat' split at h
    all_goals first
      | (simp only [Option.some.injEq] at h; subst h; simp [*]; done)
      | (simp at h; done)
  obtain ⟨i, hf⟩ := hf
  exact run_lookup_ok w 64 9 62 b 6 TAB x i _ Tryd.underlying64 Tryd.underlying9 hb hf

theorem look_no (w : World) (b : Nat) (hb : w.heap[b]? = some (.map TAB 6)) (x : ByteArray) (h : readerOf x = none) :
    (Instr.lookup 64 (.map (some b)) (.string x) true).run Tryd.prog w = .ok (.tuple #[.nilFunc, .bool false]) w := by
  have hf : Instr.findNow .string (.string x) TAB.toList 0 = some none := by
    show Instr.findNow .string (.string x) [⟨.string ⟨#[115, 116, 101, 112]⟩, .func (.func 55) #[] #[], 0⟩, ⟨.string ⟨#[103, 105, 118, 101]⟩, .func (.func 57) #[] #[], 1⟩, ⟨.string ⟨#[100, 114, 111, 112]⟩, .func (.func 58) #[] #[], 2⟩, ⟨.string ⟨#[112, 105, 99, 107]⟩, .func (.func 59) #[] #[], 3⟩, ⟨.string ⟨#[116, 104, 114, 111, 119]⟩, .func (.func 60) #[] #[], 4⟩, ⟨.string ⟨#[114, 101, 115, 116]⟩, .func (.func 61) #[] #[], 5⟩] 0 = _
    rw [find_step, find_step, find_step, find_step, find_step, find_step]
    unfold readerOf at h
    repeat' split at h
    all_goals first
      | (simp at h; done)
      | (simp [*]; rfl)
  exact run_lookup_no w 64 9 62 b 6 TAB x _ Tryd.underlying64 Tryd.underlying9 hb hf (by kernel_rfl)

theorem sameNow_string (x y : ByteArray) : Instr.sameNow .string (.string x) (.string y) = some (x == y) := by rfl

end Go.Proofs.YtmccbbanganjlaaDoor
