/- Records of sixteen cells, read as one; conditions: those typed. -/
import Derived.Test.YtngaboipleimcaaGreatDoorIn4
import Derived.Deep.MidRow
set_option linter.unusedVariables false
set_option maxRecDepth 100000
namespace Go.Proofs.YtngaboipleimcaaGreatDoor
open Go.RowKit Go.Deep
theorem Bk.range {W:World} {b:Nat} {l:List Value} (h:Bk W b l):W.rangeAt b 0 l:=by
 intro j v hv
 obtain ⟨hj,rfl⟩:=List.getElem?_eq_some_iff.1 hv
 rw [Nat.zero_add]
 have g:=(h.2 j hj).1
 rw [g,List.getD_eq_getElem?_getD,hv];rfl
def xB (v:Value):Sem Value:=Instr.loadAt 52 v
theorem uH (v:Value):Instr.loadAt 52 v=xB v:=rfl
theorem iK {w:World} {b:Nat} {l:List Value} (h:Bk w b l) (hl:l.length=16):(xB (zP b 0)).run Tryz.prog w=.ok (.agg l.toArray) w :=
 run_loadAt_mid w b 0 52 l _ (Bk.range h) Tryz.underlying52 rfl (by rw [hl];kernel_rfl)
def Jj (v:Value):Sem Value:=Instr.loadAt 36 v
theorem Ji (v:Value):Instr.loadAt 36 v=Jj v:=rfl
theorem Jc {w:World} {b:Nat} {l:List Value} (h:Bk w b l) (hl:l.length=16):(Jj (zP b 0)).run Tryz.prog w=.ok (.agg l.toArray) w :=
 run_loadAt_mid w b 0 36 l _ (Bk.range h) Tryz.underlying36 rfl (by rw [hl];kernel_rfl)
