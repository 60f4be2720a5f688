/- The walk of CllOk, the program's; conditions: the cell lies in memory of its own. -/
import Derived.Test.YtngaboipleimcaaGreatDoorCOk3
set_option linter.unusedVariables false
set_option maxHeartbeats 8000000
namespace Go.Proofs.YtngaboipleimcaaGreatDoor
open Go.RowKit Go.Deep
def bD (c d:Int) (V:CV):Bool :=
 hasB c d V.c && (allB c d V.W V.nW && (inB V.g 0 900 && (V.nO == 2 && (V.nX == 2 && (V.nI == 2 && (iM (fun k=>!(aQ c d (V.W k 1) != V.c)) V.nW && (dN c d V.c 0 (V.N 0) (V.O 0) (V.X 0) (V.I 0) && dN c d V.c 1 (V.N 1) (V.O 1) (V.X 1) (V.I 1))))))))
theorem iI {w:World} {bO bX bI:Nat} {N:Nat→Nat} {O:Nat→Nat→Nat→Int} {X I:Nat→Int} (gO:nM w bO 2 N O 2) (gX:fZ w bX 2 X 2) (gI:fZ w bI 2 I 2) (s:Nat) (hs:s<2) :
 ∃ g,g<w.heap.size∧w.cell? (zA bO s)=some (zS g (N s) (N s))∧w.cell? (zA bX s)=some (zI (X s))∧w.cell? (zA bI s)=some (zI (I s))∧∀ k j,k<N s→j<8→w.cell? (zA g (0+k * 8+j))=some (zI (O s k j)):=by
 obtain ⟨_,xs,_,h3⟩:=gO
 obtain ⟨_,a2,a3,a4⟩:=h3 s hs
 exact ⟨xs s,a2,a3,gX.2 s hs,gI.2 s hs,P8.aZ a4⟩
theorem oh (c d:Int) (v:Value) (V:CV) (lo:Nat) (hs:V.short 1048576) (w:World) (h:eH lo w v V) :
 Hz 48 #[.agg #[zI c,zI d],v] w fun e w'=>e=.returned (.bool (bD c d V))∧Below w.heap.size w w':=by
 obtain ⟨bW,bO,bX,bI,q0,q1,q2,q3,q4,rfl,gW0,gO0,gX0,gI0⟩:=h
 obtain ⟨VC,nW,W,VG,nO,N,O,nX,X,nI,I⟩:=V
 simp only at gW0 gO0 gX0 gI0
 obtain ⟨sW,sO,sN,sX,sI⟩:=hs
 simp only at sW sO sN sX sI
 have gW:Hid (Own5 w bW nW W nW):=gW0
 have gO:Hid (nM w bO nO N O nO):=gO0
 have gX:Hid (fZ w bX nX X nX):=gX0
 have gI:Hid (fZ w bI nI I nI):=gI0
 have HN:Hid (∀ k,k<nO→N k≤1048576):=sN
 have lW:bW<w.heap.size:=by omega
 have lO:bO<w.heap.size:=by omega
 have lX:bX<w.heap.size:=by omega
 have lI:bI<w.heap.size:=by omega
 clear gW0 gO0 gX0 gI0 sN q0 q1 q2 q3 q4
 cases h1:hasB c d VC
 ·have E:Hid (bD c d ⟨VC,nW,W,VG,nO,N,O,nX,X,nI,I⟩=false):=by show bD c d ⟨VC,nW,W,VG,nO,N,O,nX,X,nI,I⟩=false;simp only [bD];rw [h1];rfl
  go_enter Tryz.func48,Tryz.ntmps48
  go_wp2_with fail
  obtain ⟨w0,e0,z0,B0,A0,M0⟩:=qG w c d (zI VC) (zS bW nW nW) (zI VG) (zS bO nO nO) (zS bX nX nX) (zS bI nI nI)
  rw [←e0]
  clear e0
  refine (gV _ _ _ _).mono ?_
  rintro e w1 ⟨rfl,hb1⟩
  rw [h1]
  have B1:=hid (ah B0.out hb1)
  have A1:=hid (A0.out.below (by omega) hb1)
  have M1:=hid (bH (by omega) hb1 M0.out)
  have z1:w.heap.size+2≤w1.heap.size:=Hq z0 hb1.size
  clear hb1 A0 M0 B0
  go_wp2
  go_ret
  exact ⟨by rw [E.out];rfl,B1.out⟩
 cases h2:(iM (fun k=>!(aQ c d (W k 1) != VC)) nW && allB c d W nW)
 ·have E:Hid (bD c d ⟨VC,nW,W,VG,nO,N,O,nX,X,nI,I⟩=false):=by show bD c d ⟨VC,nW,W,VG,nO,N,O,nX,X,nI,I⟩=false;simp only [bD];rcases Bool.and_eq_false_iff.1 h2 with g | g <;> rw [g] <;> simp
  go_enter Tryz.func48,Tryz.ntmps48
  go_wp2_with fail
  obtain ⟨w0,e0,z0,B0,A0,M0⟩:=qG w c d (zI VC) (zS bW nW nW) (zI VG) (zS bO nO nO) (zS bX nX nX) (zS bI nI nI)
  rw [←e0]
  clear e0
  refine (gV _ _ _ _).mono ?_
  rintro e w1 ⟨rfl,hb1⟩
  rw [h1]
  have B1:=hid (ah B0.out hb1)
  have A1:=hid (A0.out.below (by omega) hb1)
  have M1:=hid (bH (by omega) hb1 M0.out)
  have z1:w.heap.size+2≤w1.heap.size:=Hq z0 hb1.size
  clear hb1 A0 M0 B0
  obtain ⟨a0,a1,a2,a3,a4,a5⟩:=A1.out.a6
  have m0:=M1.out.1
  have m1:=M1.out.2
  have lA:w.heap.size+1<w1.heap.size:=by omega
  have lM:w.heap.size<w1.heap.size:=by omega
  go_wp2_with fail
  refine (dV c d VC VG bW 0 nW nW W _ _ _ sW _ (by omega) (fun k j h1 h2=>(B1.out.cell (p:=⟨bW,_,none⟩) lW).trans (aZ gW.out k j h1 h2))).mono ?_
  rintro e w2 ⟨rfl,hb2⟩
  rw [h2]
  clear a0 a1 a2 a3 a4 a5 m0 m1 lA lM
  have B2:=hid (ah B1.out hb2)
  have A2:=hid (A1.out.below (by omega) hb2)
  have M2:=hid (bH (by omega) hb2 M1.out)
  have z2:w.heap.size+2≤w2.heap.size:=Hq z1 hb2.size
  clear hb2 A1 M1 B1
  obtain ⟨a0,a1,a2,a3,a4,a5⟩:=A2.out.a6
  have m0:=M2.out.1
  have m1:=M2.out.2
  have lA:w.heap.size+1<w2.heap.size:=by omega
  have lM:w.heap.size<w2.heap.size:=by omega
  go_wp2
  go_ret
  exact ⟨by rw [E.out];rfl,B2.out⟩
 cases h3:inB VG 0 900
 ·have E:Hid (bD c d ⟨VC,nW,W,VG,nO,N,O,nX,X,nI,I⟩=false):=by show bD c d ⟨VC,nW,W,VG,nO,N,O,nX,X,nI,I⟩=false;simp only [bD];rw [h3];simp
  go_enter Tryz.func48,Tryz.ntmps48
  go_wp2_with fail
  obtain ⟨w0,e0,z0,B0,A0,M0⟩:=qG w c d (zI VC) (zS bW nW nW) (zI VG) (zS bO nO nO) (zS bX nX nX) (zS bI nI nI)
  rw [←e0]
  clear e0
  refine (gV _ _ _ _).mono ?_
  rintro e w1 ⟨rfl,hb1⟩
  rw [h1]
  have B1:=hid (ah B0.out hb1)
  have A1:=hid (A0.out.below (by omega) hb1)
  have M1:=hid (bH (by omega) hb1 M0.out)
  have z1:w.heap.size+2≤w1.heap.size:=Hq z0 hb1.size
  clear hb1 A0 M0 B0
  obtain ⟨a0,a1,a2,a3,a4,a5⟩:=A1.out.a6
  have m0:=M1.out.1
  have m1:=M1.out.2
  have lA:w.heap.size+1<w1.heap.size:=by omega
  have lM:w.heap.size<w1.heap.size:=by omega
  go_wp2_with fail
  refine (dV c d VC VG bW 0 nW nW W _ _ _ sW _ (by omega) (fun k j h1 h2=>(B1.out.cell (p:=⟨bW,_,none⟩) lW).trans (aZ gW.out k j h1 h2))).mono ?_
  rintro e w2 ⟨rfl,hb2⟩
  rw [h2]
  clear a0 a1 a2 a3 a4 a5 m0 m1 lA lM
  have B2:=hid (ah B1.out hb2)
  have A2:=hid (A1.out.below (by omega) hb2)
  have M2:=hid (bH (by omega) hb2 M1.out)
  have z2:w.heap.size+2≤w2.heap.size:=Hq z1 hb2.size
  clear hb2 A1 M1 B1
  obtain ⟨a0,a1,a2,a3,a4,a5⟩:=A2.out.a6
  have m0:=M2.out.1
  have m1:=M2.out.2
  have lA:w.heap.size+1<w2.heap.size:=by omega
  have lM:w.heap.size<w2.heap.size:=by omega
  go_wp2_with fail
  refine (dn _ _ _ _).mono ?_
  rintro e w3 ⟨rfl,e3⟩
  rw [e3,h3]
  clear e3 w3
  go_wp2
  go_ret
  exact ⟨by rw [E.out];rfl,B2.out⟩
 by_cases gO2:¬ nO=2
 ·have gO2':((nO:Int) == 2)=false:=by simp;omega
  have E:Hid (bD c d ⟨VC,nW,W,VG,nO,N,O,nX,X,nI,I⟩=false):=by show bD c d ⟨VC,nW,W,VG,nO,N,O,nX,X,nI,I⟩=false;simp only [bD];simp [gO2]
  clear gO2
  go_enter Tryz.func48,Tryz.ntmps48
  go_wp2_with fail
  obtain ⟨w0,e0,z0,B0,A0,M0⟩:=qG w c d (zI VC) (zS bW nW nW) (zI VG) (zS bO nO nO) (zS bX nX nX) (zS bI nI nI)
  rw [←e0]
  clear e0
  refine (gV _ _ _ _).mono ?_
  rintro e w1 ⟨rfl,hb1⟩
  rw [h1]
  have B1:=hid (ah B0.out hb1)
  have A1:=hid (A0.out.below (by omega) hb1)
  have M1:=hid (bH (by omega) hb1 M0.out)
  have z1:w.heap.size+2≤w1.heap.size:=Hq z0 hb1.size
  clear hb1 A0 M0 B0
  obtain ⟨a0,a1,a2,a3,a4,a5⟩:=A1.out.a6
  have m0:=M1.out.1
  have m1:=M1.out.2
  have lA:w.heap.size+1<w1.heap.size:=by omega
  have lM:w.heap.size<w1.heap.size:=by omega
  go_wp2_with fail
  refine (dV c d VC VG bW 0 nW nW W _ _ _ sW _ (by omega) (fun k j h1 h2=>(B1.out.cell (p:=⟨bW,_,none⟩) lW).trans (aZ gW.out k j h1 h2))).mono ?_
  rintro e w2 ⟨rfl,hb2⟩
  rw [h2]
  clear a0 a1 a2 a3 a4 a5 m0 m1 lA lM
  have B2:=hid (ah B1.out hb2)
  have A2:=hid (A1.out.below (by omega) hb2)
  have M2:=hid (bH (by omega) hb2 M1.out)
  have z2:w.heap.size+2≤w2.heap.size:=Hq z1 hb2.size
  clear hb2 A1 M1 B1
  obtain ⟨a0,a1,a2,a3,a4,a5⟩:=A2.out.a6
  have m0:=M2.out.1
  have m1:=M2.out.2
  have lA:w.heap.size+1<w2.heap.size:=by omega
  have lM:w.heap.size<w2.heap.size:=by omega
  go_wp2_with fail
  refine (dn _ _ _ _).mono ?_
  rintro e w3 ⟨rfl,e3⟩
  rw [e3,h3]
  clear e3 w3
  go_wp2
  go_ret
  exact ⟨by rw [E.out];rfl,B2.out⟩
 by_cases gX2:¬ nX=2
 ·have gX2':((nX:Int) == 2)=false:=by simp;omega
  have E:Hid (bD c d ⟨VC,nW,W,VG,nO,N,O,nX,X,nI,I⟩=false):=by show bD c d ⟨VC,nW,W,VG,nO,N,O,nX,X,nI,I⟩=false;simp only [bD];simp [gX2]
  have gO2':((nO:Int) == 2)=true:=by simp;omega
  clear gX2 gO2
  go_enter Tryz.func48,Tryz.ntmps48
  go_wp2_with fail
  obtain ⟨w0,e0,z0,B0,A0,M0⟩:=qG w c d (zI VC) (zS bW nW nW) (zI VG) (zS bO nO nO) (zS bX nX nX) (zS bI nI nI)
  rw [←e0]
  clear e0
  refine (gV _ _ _ _).mono ?_
  rintro e w1 ⟨rfl,hb1⟩
  rw [h1]
  have B1:=hid (ah B0.out hb1)
  have A1:=hid (A0.out.below (by omega) hb1)
  have M1:=hid (bH (by omega) hb1 M0.out)
  have z1:w.heap.size+2≤w1.heap.size:=Hq z0 hb1.size
  clear hb1 A0 M0 B0
  obtain ⟨a0,a1,a2,a3,a4,a5⟩:=A1.out.a6
  have m0:=M1.out.1
  have m1:=M1.out.2
  have lA:w.heap.size+1<w1.heap.size:=by omega
  have lM:w.heap.size<w1.heap.size:=by omega
  go_wp2_with fail
  refine (dV c d VC VG bW 0 nW nW W _ _ _ sW _ (by omega) (fun k j h1 h2=>(B1.out.cell (p:=⟨bW,_,none⟩) lW).trans (aZ gW.out k j h1 h2))).mono ?_
  rintro e w2 ⟨rfl,hb2⟩
  rw [h2]
  clear a0 a1 a2 a3 a4 a5 m0 m1 lA lM
  have B2:=hid (ah B1.out hb2)
  have A2:=hid (A1.out.below (by omega) hb2)
  have M2:=hid (bH (by omega) hb2 M1.out)
  have z2:w.heap.size+2≤w2.heap.size:=Hq z1 hb2.size
  clear hb2 A1 M1 B1
  obtain ⟨a0,a1,a2,a3,a4,a5⟩:=A2.out.a6
  have m0:=M2.out.1
  have m1:=M2.out.2
  have lA:w.heap.size+1<w2.heap.size:=by omega
  have lM:w.heap.size<w2.heap.size:=by omega
  go_wp2_with fail
  refine (dn _ _ _ _).mono ?_
  rintro e w3 ⟨rfl,e3⟩
  rw [e3,h3]
  clear e3 w3
  go_wp2
  go_ret
  exact ⟨by rw [E.out];rfl,B2.out⟩
 by_cases gI2:¬ nI=2
 ·have gI2':((nI:Int) == 2)=false:=by simp;omega
  have E:Hid (bD c d ⟨VC,nW,W,VG,nO,N,O,nX,X,nI,I⟩=false):=by show bD c d ⟨VC,nW,W,VG,nO,N,O,nX,X,nI,I⟩=false;simp only [bD];simp [gI2]
  have gO2':((nO:Int) == 2)=true:=by simp;omega
  have gX2':((nX:Int) == 2)=true:=by simp;omega
  clear gI2 gX2 gO2
  go_enter Tryz.func48,Tryz.ntmps48
  go_wp2_with fail
  obtain ⟨w0,e0,z0,B0,A0,M0⟩:=qG w c d (zI VC) (zS bW nW nW) (zI VG) (zS bO nO nO) (zS bX nX nX) (zS bI nI nI)
  rw [←e0]
  clear e0
  refine (gV _ _ _ _).mono ?_
  rintro e w1 ⟨rfl,hb1⟩
  rw [h1]
  have B1:=hid (ah B0.out hb1)
  have A1:=hid (A0.out.below (by omega) hb1)
  have M1:=hid (bH (by omega) hb1 M0.out)
  have z1:w.heap.size+2≤w1.heap.size:=Hq z0 hb1.size
  clear hb1 A0 M0 B0
  obtain ⟨a0,a1,a2,a3,a4,a5⟩:=A1.out.a6
  have m0:=M1.out.1
  have m1:=M1.out.2
  have lA:w.heap.size+1<w1.heap.size:=by omega
  have lM:w.heap.size<w1.heap.size:=by omega
  go_wp2_with fail
  refine (dV c d VC VG bW 0 nW nW W _ _ _ sW _ (by omega) (fun k j h1 h2=>(B1.out.cell (p:=⟨bW,_,none⟩) lW).trans (aZ gW.out k j h1 h2))).mono ?_
  rintro e w2 ⟨rfl,hb2⟩
  rw [h2]
  clear a0 a1 a2 a3 a4 a5 m0 m1 lA lM
  have B2:=hid (ah B1.out hb2)
  have A2:=hid (A1.out.below (by omega) hb2)
  have M2:=hid (bH (by omega) hb2 M1.out)
  have z2:w.heap.size+2≤w2.heap.size:=Hq z1 hb2.size
  clear hb2 A1 M1 B1
  obtain ⟨a0,a1,a2,a3,a4,a5⟩:=A2.out.a6
  have m0:=M2.out.1
  have m1:=M2.out.2
  have lA:w.heap.size+1<w2.heap.size:=by omega
  have lM:w.heap.size<w2.heap.size:=by omega
  go_wp2_with fail
  refine (dn _ _ _ _).mono ?_
  rintro e w3 ⟨rfl,e3⟩
  rw [e3,h3]
  clear e3 w3
  go_wp2
  go_ret
  exact ⟨by rw [E.out];rfl,B2.out⟩
 obtain rfl:nO=2:=by omega
 obtain rfl:nX=2:=by omega
 obtain rfl:nI=2:=by omega
 clear gO2 gX2 gI2
 cases h4:dN c d VC 0 (N 0) (O 0) (X 0) (I 0)
 ·have E:Hid (bD c d ⟨VC,nW,W,VG,2,N,O,2,X,2,I⟩=false):=by show bD c d ⟨VC,nW,W,VG,2,N,O,2,X,2,I⟩=false;simp only [bD];rw [h4];simp
  go_enter Tryz.func48,Tryz.ntmps48
  go_wp2_with fail
  obtain ⟨w0,e0,z0,B0,A0,M0⟩:=qG w c d (zI VC) (zS bW nW nW) (zI VG) (zS bO 2 2) (zS bX 2 2) (zS bI 2 2)
  rw [←e0]
  clear e0
  refine (gV _ _ _ _).mono ?_
  rintro e w1 ⟨rfl,hb1⟩
  rw [h1]
  have B1:=hid (ah B0.out hb1)
  have A1:=hid (A0.out.below (by omega) hb1)
  have M1:=hid (bH (by omega) hb1 M0.out)
  have z1:w.heap.size+2≤w1.heap.size:=Hq z0 hb1.size
  clear hb1 A0 M0 B0
  obtain ⟨a0,a1,a2,a3,a4,a5⟩:=A1.out.a6
  have m0:=M1.out.1
  have m1:=M1.out.2
  have lA:w.heap.size+1<w1.heap.size:=by omega
  have lM:w.heap.size<w1.heap.size:=by omega
  go_wp2_with fail
  refine (dV c d VC VG bW 0 nW nW W _ _ _ sW _ (by omega) (fun k j h1 h2=>(B1.out.cell (p:=⟨bW,_,none⟩) lW).trans (aZ gW.out k j h1 h2))).mono ?_
  rintro e w2 ⟨rfl,hb2⟩
  rw [h2]
  clear a0 a1 a2 a3 a4 a5 m0 m1 lA lM
  have B2:=hid (ah B1.out hb2)
  have A2:=hid (A1.out.below (by omega) hb2)
  have M2:=hid (bH (by omega) hb2 M1.out)
  have z2:w.heap.size+2≤w2.heap.size:=Hq z1 hb2.size
  clear hb2 A1 M1 B1
  obtain ⟨a0,a1,a2,a3,a4,a5⟩:=A2.out.a6
  have m0:=M2.out.1
  have m1:=M2.out.2
  have lA:w.heap.size+1<w2.heap.size:=by omega
  have lM:w.heap.size<w2.heap.size:=by omega
  go_wp2_with fail
  refine (dn _ _ _ _).mono ?_
  rintro e w3 ⟨rfl,e3⟩
  rw [e3,h3]
  clear e3 w3
  go_wp2_with fail
  obtain ⟨g,fg,fO,fX,fI,fr⟩:=iI (fU gO.out lO B2.out) (bV gX.out lX B2.out) (bV gI.out lI B2.out) 0 (by decide)
  refine (jw c d VC VG _ bO bX bI 2 2 2 0 g (N 0) (N 0) (O 0) (X 0) (I 0) 0 (.inl ⟨rfl,rfl⟩) (HN.out 0 (by decide)) _ (by omega) (by omega) (by omega) fg fO fX fI fr).mono ?_
  rintro e w3 ⟨rfl,hb3⟩
  clear g fg fO fX fI fr
  rw [h4]
  clear a0 a1 a2 a3 a4 a5 m0 m1 lA lM
  have B3:=hid (ah B2.out hb3)
  have A3:=hid (A2.out.below (by omega) hb3)
  have M3:=hid (bH (by omega) hb3 M2.out)
  have z3:w.heap.size+2≤w3.heap.size:=Hq z2 hb3.size
  clear hb3 A2 M2 B2
  obtain ⟨a0,a1,a2,a3,a4,a5⟩:=A3.out.a6
  have m0:=M3.out.1
  have m1:=M3.out.2
  have lA:w.heap.size+1<w3.heap.size:=by omega
  have lM:w.heap.size<w3.heap.size:=by omega
  go_wp2
  go_ret
  exact ⟨by rw [E.out];rfl,B3.out⟩
 cases h5:dN c d VC 1 (N 1) (O 1) (X 1) (I 1)
 ·have E:Hid (bD c d ⟨VC,nW,W,VG,2,N,O,2,X,2,I⟩=false):=by show bD c d ⟨VC,nW,W,VG,2,N,O,2,X,2,I⟩=false;simp only [bD];rw [h5];simp
  go_enter Tryz.func48,Tryz.ntmps48
  go_wp2_with fail
  obtain ⟨w0,e0,z0,B0,A0,M0⟩:=qG w c d (zI VC) (zS bW nW nW) (zI VG) (zS bO 2 2) (zS bX 2 2) (zS bI 2 2)
  rw [←e0]
  clear e0
  refine (gV _ _ _ _).mono ?_
  rintro e w1 ⟨rfl,hb1⟩
  rw [h1]
  have B1:=hid (ah B0.out hb1)
  have A1:=hid (A0.out.below (by omega) hb1)
  have M1:=hid (bH (by omega) hb1 M0.out)
  have z1:w.heap.size+2≤w1.heap.size:=Hq z0 hb1.size
  clear hb1 A0 M0 B0
  obtain ⟨a0,a1,a2,a3,a4,a5⟩:=A1.out.a6
  have m0:=M1.out.1
  have m1:=M1.out.2
  have lA:w.heap.size+1<w1.heap.size:=by omega
  have lM:w.heap.size<w1.heap.size:=by omega
  go_wp2_with fail
  refine (dV c d VC VG bW 0 nW nW W _ _ _ sW _ (by omega) (fun k j h1 h2=>(B1.out.cell (p:=⟨bW,_,none⟩) lW).trans (aZ gW.out k j h1 h2))).mono ?_
  rintro e w2 ⟨rfl,hb2⟩
  rw [h2]
  clear a0 a1 a2 a3 a4 a5 m0 m1 lA lM
  have B2:=hid (ah B1.out hb2)
  have A2:=hid (A1.out.below (by omega) hb2)
  have M2:=hid (bH (by omega) hb2 M1.out)
  have z2:w.heap.size+2≤w2.heap.size:=Hq z1 hb2.size
  clear hb2 A1 M1 B1
  obtain ⟨a0,a1,a2,a3,a4,a5⟩:=A2.out.a6
  have m0:=M2.out.1
  have m1:=M2.out.2
  have lA:w.heap.size+1<w2.heap.size:=by omega
  have lM:w.heap.size<w2.heap.size:=by omega
  go_wp2_with fail
  refine (dn _ _ _ _).mono ?_
  rintro e w3 ⟨rfl,e3⟩
  rw [e3,h3]
  clear e3 w3
  go_wp2_with fail
  obtain ⟨g,fg,fO,fX,fI,fr⟩:=iI (fU gO.out lO B2.out) (bV gX.out lX B2.out) (bV gI.out lI B2.out) 0 (by decide)
  refine (jw c d VC VG _ bO bX bI 2 2 2 0 g (N 0) (N 0) (O 0) (X 0) (I 0) 0 (.inl ⟨rfl,rfl⟩) (HN.out 0 (by decide)) _ (by omega) (by omega) (by omega) fg fO fX fI fr).mono ?_
  rintro e w3 ⟨rfl,hb3⟩
  clear g fg fO fX fI fr
  rw [h4]
  clear a0 a1 a2 a3 a4 a5 m0 m1 lA lM
  have B3:=hid (ah B2.out hb3)
  have A3:=hid (A2.out.below (by omega) hb3)
  have M3:=hid (bH (by omega) hb3 M2.out)
  have z3:w.heap.size+2≤w3.heap.size:=Hq z2 hb3.size
  clear hb3 A2 M2 B2
  obtain ⟨a0,a1,a2,a3,a4,a5⟩:=A3.out.a6
  have m0:=M3.out.1
  have m1:=M3.out.2
  have lA:w.heap.size+1<w3.heap.size:=by omega
  have lM:w.heap.size<w3.heap.size:=by omega
  go_wp2_with fail
  obtain ⟨g,fg,fO,fX,fI,fr⟩:=iI (fU gO.out lO B3.out) (bV gX.out lX B3.out) (bV gI.out lI B3.out) 1 (by decide)
  refine (jw c d VC VG _ bO bX bI 2 2 2 1 g (N 1) (N 1) (O 1) (X 1) (I 1) 1 (.inr ⟨rfl,rfl⟩) (HN.out 1 (by decide)) _ (by omega) (by omega) (by omega) fg fO fX fI fr).mono ?_
  rintro e w4 ⟨rfl,hb4⟩
  clear g fg fO fX fI fr
  rw [h5]
  clear a0 a1 a2 a3 a4 a5 m0 m1 lA lM
  have B4:=hid (ah B3.out hb4)
  have A4:=hid (A3.out.below (by omega) hb4)
  have M4:=hid (bH (by omega) hb4 M3.out)
  have z4:w.heap.size+2≤w4.heap.size:=Hq z3 hb4.size
  clear hb4 A3 M3 B3
  go_wp2
  go_ret
  exact ⟨by rw [E.out];rfl,B4.out⟩
 have E:Hid (bD c d ⟨VC,nW,W,VG,2,N,O,2,X,2,I⟩=true):=by
  show bD c d ⟨VC,nW,W,VG,2,N,O,2,X,2,I⟩=true
  obtain ⟨g1,g2⟩:=Bool.and_eq_true_iff.1 h2
  simp only [bD]
  rw [h1,g1,g2,h3,h4,h5];rfl
 go_enter Tryz.func48,Tryz.ntmps48
 go_wp2_with fail
 obtain ⟨w0,e0,z0,B0,A0,M0⟩:=qG w c d (zI VC) (zS bW nW nW) (zI VG) (zS bO 2 2) (zS bX 2 2) (zS bI 2 2)
 rw [←e0]
 clear e0
 refine (gV _ _ _ _).mono ?_
 rintro e w1 ⟨rfl,hb1⟩
 rw [h1]
 have B1:=hid (ah B0.out hb1)
 have A1:=hid (A0.out.below (by omega) hb1)
 have M1:=hid (bH (by omega) hb1 M0.out)
 have z1:w.heap.size+2≤w1.heap.size:=Hq z0 hb1.size
 clear hb1 A0 M0 B0
 obtain ⟨a0,a1,a2,a3,a4,a5⟩:=A1.out.a6
 have m0:=M1.out.1
 have m1:=M1.out.2
 have lA:w.heap.size+1<w1.heap.size:=by omega
 have lM:w.heap.size<w1.heap.size:=by omega
 go_wp2_with fail
 refine (dV c d VC VG bW 0 nW nW W _ _ _ sW _ (by omega) (fun k j h1 h2=>(B1.out.cell (p:=⟨bW,_,none⟩) lW).trans (aZ gW.out k j h1 h2))).mono ?_
 rintro e w2 ⟨rfl,hb2⟩
 rw [h2]
 clear a0 a1 a2 a3 a4 a5 m0 m1 lA lM
 have B2:=hid (ah B1.out hb2)
 have A2:=hid (A1.out.below (by omega) hb2)
 have M2:=hid (bH (by omega) hb2 M1.out)
 have z2:w.heap.size+2≤w2.heap.size:=Hq z1 hb2.size
 clear hb2 A1 M1 B1
 obtain ⟨a0,a1,a2,a3,a4,a5⟩:=A2.out.a6
 have m0:=M2.out.1
 have m1:=M2.out.2
 have lA:w.heap.size+1<w2.heap.size:=by omega
 have lM:w.heap.size<w2.heap.size:=by omega
 go_wp2_with fail
 refine (dn _ _ _ _).mono ?_
 rintro e w3 ⟨rfl,e3⟩
 rw [e3,h3]
 clear e3 w3
 go_wp2_with fail
 obtain ⟨g,fg,fO,fX,fI,fr⟩:=iI (fU gO.out lO B2.out) (bV gX.out lX B2.out) (bV gI.out lI B2.out) 0 (by decide)
 refine (jw c d VC VG _ bO bX bI 2 2 2 0 g (N 0) (N 0) (O 0) (X 0) (I 0) 0 (.inl ⟨rfl,rfl⟩) (HN.out 0 (by decide)) _ (by omega) (by omega) (by omega) fg fO fX fI fr).mono ?_
 rintro e w3 ⟨rfl,hb3⟩
 clear g fg fO fX fI fr
 rw [h4]
 clear a0 a1 a2 a3 a4 a5 m0 m1 lA lM
 have B3:=hid (ah B2.out hb3)
 have A3:=hid (A2.out.below (by omega) hb3)
 have M3:=hid (bH (by omega) hb3 M2.out)
 have z3:w.heap.size+2≤w3.heap.size:=Hq z2 hb3.size
 clear hb3 A2 M2 B2
 obtain ⟨a0,a1,a2,a3,a4,a5⟩:=A3.out.a6
 have m0:=M3.out.1
 have m1:=M3.out.2
 have lA:w.heap.size+1<w3.heap.size:=by omega
 have lM:w.heap.size<w3.heap.size:=by omega
 go_wp2_with fail
 obtain ⟨g,fg,fO,fX,fI,fr⟩:=iI (fU gO.out lO B3.out) (bV gX.out lX B3.out) (bV gI.out lI B3.out) 1 (by decide)
 refine (jw c d VC VG _ bO bX bI 2 2 2 1 g (N 1) (N 1) (O 1) (X 1) (I 1) 1 (.inr ⟨rfl,rfl⟩) (HN.out 1 (by decide)) _ (by omega) (by omega) (by omega) fg fO fX fI fr).mono ?_
 rintro e w4 ⟨rfl,hb4⟩
 clear g fg fO fX fI fr
 rw [h5]
 clear a0 a1 a2 a3 a4 a5 m0 m1 lA lM
 have B4:=hid (ah B3.out hb4)
 have A4:=hid (A3.out.below (by omega) hb4)
 have M4:=hid (bH (by omega) hb4 M3.out)
 have z4:w.heap.size+2≤w4.heap.size:=Hq z3 hb4.size
 clear hb4 A3 M3 B3
 go_wp2
 go_ret
 exact ⟨by rw [E.out];rfl,B4.out⟩
