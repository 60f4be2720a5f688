/- The walk of CllOk, the program's; conditions: the cell lies in memory of its own. -/
import Derived.Test.YtngaboipleimcabGreatDoorCOk3
set_option linter.unusedVariables false
set_option maxHeartbeats 8000000
namespace Go.Proofs.YtngaboipleimcabGreatDoor
open Go.RowKit Go.Deep
def bD (c d:Int) (V:CV):Bool :=
 hasB c d V.c && (allB c d V.W V.nW && (inB V.g 0 900 && (V.nO == 2 && (V.nX == 2 && (V.nI == 2 && (iM (fun k=>!(aQ c d (V.W k 1) != V.c)) V.nW && (dN c d V.c 0 (V.N 0) (V.O 0) (V.X 0) (V.I 0) && dN c d V.c 1 (V.N 1) (V.O 1) (V.X 1) (V.I 1))))))))
theorem iI {w:World} {bO bX bI:Nat} {N:Nat->Nat} {O:Nat->Nat->Nat->Int} {X I:Nat->Int} (gO:nM w bO 2 N O 2) (gX:fZ w bX 2 X 2) (gI:fZ w bI 2 I 2) (s:Nat) (hs:s<2) :
 ∃ g,g<w.heap.size/\w.cell? (zA bO s)=some (zS g (N s) (N s))/\w.cell? (zA bX s)=some (zI (X s))/\w.cell? (zA bI s)=some (zI (I s))/\∀ k j,k<N s->j<8->w.cell? (zA g (0+k * 8+j))=some (zI (O s k j)):=by
 obtain ⟨_,xs,_,h3⟩:=gO;obtain ⟨_,a2,a3,a4⟩:=h3 s hs;exact ⟨xs s,a2,a3,gX.2 s hs,gI.2 s hs,P8.aZ a4⟩
theorem oh (c d:Int) (v:Value) (V:CV) (lo:Nat) (hs:V.short 1048576) (w:World) (h:eH lo w v V) :
 Hz 75 #[.agg #[zI c,zI d],v] w fun e w'=>e=.returned (.bool (bD c d V))/\Below w.heap.size w w':=by
 obtain ⟨bW,bO,bX,bI,q0,q1,q2,q3,q4,rfl,ai,ag,ae,af⟩:=h;obtain ⟨VC,nW,W,VG,nO,N,O,nX,X,nI,I⟩:=V;simp only at ai ag ae af;obtain ⟨sW,sO,sN,sX,sI⟩:=hs;simp only at sW sO sN sX sI;have gW:bY (Own5 w bW nW W nW):=ai;have gO:bY (nM w bO nO N O nO):=ag;have gX:bY (fZ w bX nX X nX):=ae;have gI:bY (fZ w bI nI I nI):=af;have HN:bY (∀ k,k<nO->N k<=1048576):=sN;have lW:bW<w.heap.size:=by omega
 have lO:bO<w.heap.size:=by omega
 have lX:bX<w.heap.size:=by omega
 have lI:bI<w.heap.size:=by omega
 clear ai ag ae af sN q0 q1 q2 q3 q4;go_enter Tryz.func75,Tryz.ntmps75;go_wp2_with fail;obtain ⟨w0,e0,z0,B0,A0,M0⟩:=qG w c d (zI VC) (zS bW nW nW) (zI VG) (zS bO nO nO) (zS bX nX nX) (zS bI nI nI);rw [<-e0];clear e0;refine (gV _ _ _ _).mono ?_;rintro e w1 ⟨rfl,ab⟩;have B1:=fQ (ah B0.o ab);have A1:=fQ (A0.o.q (by omega) ab);have M1:=fQ (bH (by omega) ab M0.o);have z1:w.heap.size+2<=w1.heap.size:=Hq z0 ab.size;clear ab A0 M0 B0;cases h1:hasB c d VC
 ·have E:bY (bD c d ⟨VC,nW,W,VG,nO,N,O,nX,X,nI,I⟩=false):=by show bD c d ⟨VC,nW,W,VG,nO,N,O,nX,X,nI,I⟩=false;simp only [bD];rw [h1];rfl
  go_wp2;go_ret;exact ⟨by rw [E.o];rfl,B1.o⟩
 have a0:=A1.o.a6;have m0:=M1.o.1;have m1:=M1.o.2;have lA:w.heap.size+1<w1.heap.size:=by omega
 have lM:w.heap.size<w1.heap.size:=by omega
 go_wp2_with fail;refine (dV c d VC VG bW 0 nW nW W _ _ _ sW _ (by omega) (fun k j h1 h2=>(B1.o.cell (p:=⟨bW,_,none⟩) lW).trans (aZ gW.o k j h1 h2))).mono ?_;rintro e w2 ⟨rfl,aa⟩;clear a0 m0 m1 lA lM;have B2:=fQ (ah B1.o aa);have A2:=fQ (A1.o.q (by omega) aa);have M2:=fQ (bH (by omega) aa M1.o);have z2:w.heap.size+2<=w2.heap.size:=Hq z1 aa.size;clear aa A1 M1 B1;cases h2:(iM (fun k=>!(aQ c d (W k 1) != VC)) nW && allB c d W nW)
 ·have E:bY (bD c d ⟨VC,nW,W,VG,nO,N,O,nX,X,nI,I⟩=false):=by show bD c d ⟨VC,nW,W,VG,nO,N,O,nX,X,nI,I⟩=false;simp only [bD];rcases Bool.and_eq_false_iff.1 h2 with g | g <;> rw [g] <;> simp
  go_wp2;go_ret;exact ⟨by rw [E.o];rfl,B2.o⟩
 have a0:=A2.o.a6;have m0:=M2.o.1;have m1:=M2.o.2;have lA:w.heap.size+1<w2.heap.size:=by omega
 have lM:w.heap.size<w2.heap.size:=by omega
 go_wp2_with fail;refine (dn _ _ _ _).mono ?_;rintro e w3 ⟨rfl,e3⟩;rw [e3];clear e3 w3;cases h3:inB VG 0 900
 ·have E:bY (bD c d ⟨VC,nW,W,VG,nO,N,O,nX,X,nI,I⟩=false):=by show bD c d ⟨VC,nW,W,VG,nO,N,O,nX,X,nI,I⟩=false;simp only [bD];rw [h3];simp
  go_wp2;go_ret;exact ⟨by rw [E.o];rfl,B2.o⟩
 by_cases ak:¬ nO=2
 ·have an:((nO:Int) == 2)=false:=by simp;omega
  have E:bY (bD c d ⟨VC,nW,W,VG,nO,N,O,nX,X,nI,I⟩=false):=by show bD c d ⟨VC,nW,W,VG,nO,N,O,nX,X,nI,I⟩=false;simp only [bD];simp [ak]
  go_wp2;go_ret;exact ⟨by rw [E.o];rfl,B2.o⟩
 obtain rfl:nO=2:=by omega
 clear ak;by_cases am:¬ nX=2
 ·have ao:((nX:Int) == 2)=false:=by simp;omega
  have E:bY (bD c d ⟨VC,nW,W,VG,2,N,O,nX,X,nI,I⟩=false):=by show bD c d ⟨VC,nW,W,VG,2,N,O,nX,X,nI,I⟩=false;simp only [bD];simp [am]
  go_wp2;go_ret;exact ⟨by rw [E.o];rfl,B2.o⟩
 obtain rfl:nX=2:=by omega
 clear am;by_cases al:¬ nI=2
 ·have ap:((nI:Int) == 2)=false:=by simp;omega
  have E:bY (bD c d ⟨VC,nW,W,VG,2,N,O,2,X,nI,I⟩=false):=by show bD c d ⟨VC,nW,W,VG,2,N,O,2,X,nI,I⟩=false;simp only [bD];simp [al]
  go_wp2;go_ret;exact ⟨by rw [E.o];rfl,B2.o⟩
 obtain rfl:nI=2:=by omega
 clear al;go_wp2_with fail;obtain ⟨g,fg,fO,fX,fI,fr⟩:=iI (fU gO.o lO B2.o) (bV gX.o lX B2.o) (bV gI.o lI B2.o) 0 (by decide);refine (jw c d VC VG _ bO bX bI 2 2 2 0 g (N 0) (N 0) (O 0) (X 0) (I 0) 0 (.inl ⟨rfl,rfl⟩) (HN.o 0 (by decide)) _ (by omega) (by omega) (by omega) fg fO fX fI fr).mono ?_;rintro e w3 ⟨rfl,ac⟩;clear g fg fO fX fI fr a0 m0 m1 lA lM;have B3:=fQ (ah B2.o ac);have A3:=fQ (A2.o.q (by omega) ac);have M3:=fQ (bH (by omega) ac M2.o);have z3:w.heap.size+2<=w3.heap.size:=Hq z2 ac.size;clear ac A2 M2 B2;cases h4:dN c d VC 0 (N 0) (O 0) (X 0) (I 0)
 ·have E:bY (bD c d ⟨VC,nW,W,VG,2,N,O,2,X,2,I⟩=false):=by show bD c d ⟨VC,nW,W,VG,2,N,O,2,X,2,I⟩=false;simp only [bD];rw [h4];simp
  go_wp2;go_ret;exact ⟨by rw [E.o];rfl,B3.o⟩
 have a0:=A3.o.a6;have m0:=M3.o.1;have m1:=M3.o.2;have lA:w.heap.size+1<w3.heap.size:=by omega
 have lM:w.heap.size<w3.heap.size:=by omega
 go_wp2_with fail;obtain ⟨g,fg,fO,fX,fI,fr⟩:=iI (fU gO.o lO B3.o) (bV gX.o lX B3.o) (bV gI.o lI B3.o) 1 (by decide);refine (jw c d VC VG _ bO bX bI 2 2 2 1 g (N 1) (N 1) (O 1) (X 1) (I 1) 1 (.inr ⟨rfl,rfl⟩) (HN.o 1 (by decide)) _ (by omega) (by omega) (by omega) fg fO fX fI fr).mono ?_;rintro e w4 ⟨rfl,ad⟩;clear g fg fO fX fI fr a0 m0 m1 lA lM;have B4:=fQ (ah B3.o ad);have A4:=fQ (A3.o.q (by omega) ad);have M4:=fQ (bH (by omega) ad M3.o);have z4:w.heap.size+2<=w4.heap.size:=Hq z3 ad.size;clear ad A3 M3 B3;cases h5:dN c d VC 1 (N 1) (O 1) (X 1) (I 1)
 ·have E:bY (bD c d ⟨VC,nW,W,VG,2,N,O,2,X,2,I⟩=false):=by show bD c d ⟨VC,nW,W,VG,2,N,O,2,X,2,I⟩=false;simp only [bD];rw [h5];simp
  go_wp2;go_ret;exact ⟨by rw [E.o];rfl,B4.o⟩
 have E:bY (bD c d ⟨VC,nW,W,VG,2,N,O,2,X,2,I⟩=true):=by
  show bD c d ⟨VC,nW,W,VG,2,N,O,2,X,2,I⟩=true;obtain ⟨g1,g2⟩:=Bool.and_eq_true_iff.1 h2;simp only [bD];rw [h1,g1,g2,h3,h4,h5];rfl
 go_wp2;go_ret;exact ⟨by rw [E.o];rfl,B4.o⟩
