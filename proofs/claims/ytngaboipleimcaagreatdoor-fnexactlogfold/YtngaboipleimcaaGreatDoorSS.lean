/- Stores: their size, their copy, and that two of the same are the same; conditions: the store lies in memory. -/
import Derived.Test.YtngaboipleimcaaGreatDoorSR
import Derived.Test.YtngaboipleimcaaGreatDoorCB
import Derived.Test.YtngaboipleimcaaGreatDoorLB4
set_option linter.unusedVariables false
set_option maxRecDepth 20000
namespace Go.Proofs.YtngaboipleimcaaGreatDoor
open Go.RowKit Go.Deep
theorem gq.set {lo B j:Nat} {w:World} {v u:Value} {V:CV} (h:gq lo w v V) (hB:B<lo):gq lo (w.setCell (zA B j) u) v V:=by
 obtain ⟨bW,bO,bX,bI,hi,q0,q1,q2,q3,q4,q5,e,g1,g2,g3,g4⟩:=h
 exact ⟨bW,bO,bX,bI,hi,q0,q1,q2,q3,by rw [ay];exact q4,q5,e,gQ g1 (by omega),ig g2 (by omega),dU g3 (by omega),dU g4 (by omega)⟩
theorem gq.below {lo:Nat} {w w':World} {v:Value} {V:CV} (h:gq lo w v V) (hb:Below w.heap.size w w'):gq lo w' v V:=by
 obtain ⟨bW,bO,bX,bI,hi,q0,q1,q2,q3,q4,q5,e,g1,g2,g3,g4⟩:=h
 have hz:=hb.size
 exact ⟨bW,bO,bX,bI,hi,q0,q1,q2,q3,by omega,q5,e,own_below g1 (by omega) hb,mX g2 (by omega) hb,bV g3 (by omega) hb,bV g4 (by omega) hb⟩
theorem P16.iL {w w':World} {a:Option Addr} {n:Nat} {Z:Nat→Nat→Int} (h:P16.qA w a n Z) (hb:Below w.heap.size w w'):P16.qA w' a n Z:=by
 rcases h with rfl | ⟨b,o,rfl,hlt,hr⟩
 ·exact .inl rfl
 ·exact .inr ⟨b,o,rfl,Hg hlt hb.size,fun k j hk hj=>(hb.cell (p:=⟨b,_,none⟩) hlt).trans (hr k j hk hj)⟩
theorem gq.low {lo lo':Nat} {w:World} {v:Value} {V:CV} (h:gq lo w v V) (hl:lo'≤lo):gq lo' w v V:=by
 obtain ⟨bW,bO,bX,bI,hi,q0,q1,q2,q3,q4,q5,e,g1,g2,g3,g4⟩:=h
 exact ⟨bW,bO,bX,bI,hi,by omega,q1,q2,q3,q4,q5,e,g1,g2,g3,g4⟩
abbrev z8:List Value:=[zI 0,zI 0,.slice none 0 0,zI 0,.slice none 0 0,.slice none 0 0,.slice none 0 0,.slice none 0 0]
theorem GK (a:Option Addr) (n cap:Nat) (z:Int) (hz:0≤z∧z≤1048576) (hn:(n:Int)≤9223372036854775807) (w:World) :
 Hz 18 #[.slice a n cap,zI z] w fun e w'=>e=.returned (zI (if (n:Int)≤z then z-n else -1))∧Below w.heap.size w w':=by
 by_cases h:(n:Int)≤z
 ·go_enter Tryz.func18,Tryz.ntmps18
  go_wp2
  all_goals (go_ret;exact ⟨by simp <;> omega,Hr _ _⟩)
 ·go_enter Tryz.func18,Tryz.ntmps18
  go_wp2
  all_goals (go_ret;exact ⟨by simp <;> omega,Hr _ _⟩)
