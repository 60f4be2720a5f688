/- Records of sixteen cells, read and written as one; conditions: those typed. -/
import Derived.Test.YtgioecjnghllhaaGreatDoorBase
import Derived.Deep.DeepCutAuto
import Derived.Deep.MidRow
namespace Go.Proofs.YtgioecjnghllhaaGreatDoor
open Go.RowKit Go.Deep
set_option linter.unusedVariables false
set_option maxRecDepth 100000
theorem Bk.range {W : World} {b : Nat} {l : List Value} (h : Bk W b l) : W.rangeAt b 0 l := by
  intro j v hv
  obtain ⟨hj, rfl⟩ := List.getElem?_eq_some_iff.1 hv
  rw [Nat.zero_add]
  have g := (h.2 j hj).1
  rw [g, List.getD_eq_getElem?_getD, hv]; rfl
theorem put_cells (b : Nat) : ∀ (l : List Value) (k : Nat) (W : World), W.setCells b k l = putL b l k W
  | [], _, _ => rfl
  | v :: l, k, W => by rw [World.setCells, putL, put_cells b l]
def load29 (v : Value) : Sem Value := Instr.loadAt 29 v
theorem load29_eq (v : Value) : Instr.loadAt 29 v = load29 v := rfl
def store29 (p v : Value) : Sem Unit := Instr.storeAt 29 p v
theorem store29_eq (p v : Value) : Instr.storeAt 29 p v = store29 p v := rfl
theorem load29_bk {w : World} {b : Nat} {l : List Value} (h : Bk w b l) (hl : l.length = 16) : (load29 (.pointer (some ⟨b, 0, none⟩))).run Tryz.prog w = .ok (.agg l.toArray) w :=
  run_loadAt_mid w b 0 29 l _ (Bk.range h) Tryz.underlying29 rfl (by rw [hl]; kernel_rfl)
theorem store29_bk {w : World} {b : Nat} {l' : List Value} (h : Bk w b l') (hl : l'.length = 16) (cells : Array Value) (hs : cells.size = 16) (h1 : cells.all (·.oneCell') = true) :
    (store29 (.pointer (some ⟨b, 0, none⟩)) (.agg cells)).run Tryz.prog w = .ok () (putL b cells.toList 0 w) := by
  rw [← put_cells]
  refine run_storeAt_mid w b 0 29 cells (fun j hj => ?_) (by rw [hs]; kernel_rfl) h1
  rw [Nat.zero_add]
  have g := h.2 j (by omega)
  exact ⟨by rw [g.1]; rfl, g.2⟩
theorem results_mid {P : Program} {fn : Func} {p : Tmp} {ty : TypeId} (h : fn.results = #[.cell p ty]) (tmps : Array Value) (w : World) (b : Nat) (cs : List Value) (d : TypeDesc)
    (hp : tmps.getD p undef = .pointer (some ⟨b, 0, none⟩)) (hc : w.rangeAt b 0 cs) (hu : P.underlying ty = some d) (hd : d.isRow = true) (hi : (P.info? ty).map (·.size) = some cs.length) :
    (results fn tmps).run P w = .ok (.agg cs.toArray) w := by
  have hp' : tmps[p]?.getD undef = .pointer (some ⟨b, 0, none⟩) := by simpa using hp
  simp [results, h, hp', asAddr, run_loadVar_mid w b 0 ty cs d hc hu hd hi]
theorem results_mid2 {P : Program} {fn : Func} {p q : Tmp} {ty : TypeId} (h : fn.results = #[.cell p ty, .tmp q]) (tmps : Array Value) (w : World) (b : Nat) (cs : List Value) (d : TypeDesc) (v : Value)
    (hp : tmps.getD p undef = .pointer (some ⟨b, 0, none⟩)) (hq : tmps.getD q undef = v) (hc : w.rangeAt b 0 cs) (hu : P.underlying ty = some d) (hd : d.isRow = true) (hi : (P.info? ty).map (·.size) = some cs.length) :
    (results fn tmps).run P w = .ok (.tuple #[.agg cs.toArray, v]) w := by
  have hp' : tmps[p]?.getD undef = .pointer (some ⟨b, 0, none⟩) := by simpa using hp
  have hq' : tmps[q]?.getD undef = v := by simpa using hq
  simp [results, h, hp', hq', asAddr, run_loadVar_mid w b 0 ty cs d hc hu hd hi]
end Go.Proofs.YtgioecjnghllhaaGreatDoor
