/- HldOk of both sides, and the copies of a hold; conditions: the hold lies in memory of its own. -/
import Derived.Test.YtngaboipleimcabGreatDoorLB4
import Derived.Test.YtngaboipleimcabGreatDoorHB
import Derived.Test.YtngaboipleimcabGreatDoorFO
set_option linter.unusedVariables false
set_option maxRecDepth 20000
namespace Go.Proofs.YtngaboipleimcabGreatDoor
open Go.RowKit Go.Deep
attribute [local go_sem ↓] uH
attribute [local go_sem ↓] uH
theorem Jb (a:Int) (w:World):Hz 29 #[zI a] w fun e w'=>e=.returned (.bool (inB a 1 900))/\w'=w:=by
 by_cases h:0<a
 ·go_enter Tryz.func29,Tryz.ntmps29;go_wp2_with (go_at_call 55;refine (lU _ _).mono ?_;rintro e w' ⟨rfl,rfl⟩);go_ret
  exact ⟨by
   have e:inB a 0 900=inB a 1 900:=by
    unfold inB;congr 1;simp;omega
   rw [e]
   rfl,rfl⟩
 have e:inB a 1 900=false:=by
  unfold inB;simp;omega
 rw [e];go_enter Tryz.func29,Tryz.ntmps29;go_wp2_with fail;go_ret;exact ⟨rfl,rfl⟩
theorem Jj.of {lo hi:Nat} {w:World} {v:Value} {V:CV} (g p:Int) (h:aV lo hi w v V) (h1:lo<=hi) (h2:hi<=w.heap.size):∃ a1 k1 a2 k2 a3 k3 a4 k4,v=.agg (zD V a1 k1 a2 k2 a3 k3 a4 k4).toArray/\Jj lo hi w (.agg [zI g,zI p,zI V.c,.slice a1 V.nW k1,zI V.g,.slice a2 V.nO k2,.slice a3 V.nX k3,.slice a4 V.nI k4].toArray) g p V:=by
 obtain ⟨a1,k1,a2,k2,a3,k3,a4,k4,rfl,_,_,_,_⟩:=h.at;exact ⟨a1,k1,a2,k2,a3,k3,a4,k4,rfl,a1,k1,a2,k2,a3,k3,a4,k4,rfl,h,h1,h2⟩
theorem Jj.zero {lo hi:Nat} {w:World} (h1:lo<=hi) (h2:hi<=w.heap.size):Jj lo hi w (.agg Ja.toArray) 0 0 CV.zero:=
 ⟨none,0,none,0,none,0,none,0,rfl,iH lo hi w,h1,h2⟩
