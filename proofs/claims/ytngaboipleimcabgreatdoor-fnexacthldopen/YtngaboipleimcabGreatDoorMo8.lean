/- l5Step of the model; conditions: the cell lies in memory. -/
import Derived.Test.YtngaboipleimcabGreatDoorMo7
set_option linter.unusedVariables false
set_option maxHeartbeats 4000000
set_option maxRecDepth 20000
namespace Go.Proofs.YtngaboipleimcabGreatDoor
open Go.RowKit Go.Deep
def zl (Z:Nat->Int):Nat->Int:=zq Z (Z 3) 1
def stepM (c d:Int) (V:CV) (m:Nat) (t:Int):CV × Int :=
 if aQ c d (V.W m 1+bn t)=-1∨(¬ aQ c d (V.W m 1+bn t)=V.c/\¬ V.X t.toNat<5000) then (V,2)
 else if aQ c d (V.W m 1+bn t)=V.c then (V.setW m (za (V.W m) (V.W m 1+bn t)),1)
 else ((V.outW m).send t.toNat (pw (V.X t.toNat) (za (zl (V.W m)) (V.W m 1+bn t))),1)
theorem vJ (lo m:Nat) (Ok:Nat->Prop) (v:Value) (V:CV) (c d:Int) (q:Nat) (hq:q<V.nX) (hqO:q<V.nO) (hN:V.N q<=2000000) (hX:-1<=V.X q/\V.X q<=5000) (hq2:q<2) (hnW:V.nW<=1048576) (hr:dJ V.W V.nW) (hm:m<V.nW) (hA:0<=V.W m 1/\V.W m 1<=31) (w:World) (h:Md lo Ok w v V) :
 Hz 142 #[.agg #[zI c,zI d],v,.agg (zF (V.W m)).toArray,zI (q:Int)] w fun e w'=>Kd lo Ok w w' e (stepM c d V m (q:Int)):=by
 have hs:q=0∨q=1:=by omega
 rcases hs with rfl | rfl
 case' _=>have mk0:=trivial
 all_goals
  obtain ⟨gW,cW,gO,cO,gX,cX,gI,cI,rfl,_,_,llo⟩:=h.form
  go_enter Tryz.func142,Tryz.ntmps142
  go_upto_region 1 with fail
  obtain ⟨w0,e0,hb0,M0,C0,W0,R0,-⟩:=zV w [zI c,zI d] 44 (zC V gW cW gO cO gX cX gI cI) 36 (zF (V.W m)) 67 zN 36
  rw [<-e0]
  clear e0
  have rr1:w.heap.size+4<=w0.heap.size:=R0.1
  have B1:bY (Below w.heap.size w w0):=hb0
  have M2:bY (Bk w0 w.heap.size [zI c,zI d]):=M0
  have C3:bY (Bk w0 (w.heap.size+1) (zC V gW cW gO cO gX cX gI cI)):=C0
  have W4:bY (Bk w0 (w.heap.size+1+1) (zF (V.W m))):=W0
  have R5:bY (Bk w0 (w.heap.size+1+1+1) zN):=R0
  have D6:bY (Md lo (fun x=>Ok x/\x<w.heap.size) w0 (.agg (zC V gW cW gO cO gX cX gI cI).toArray) V):=(h.in (fun x hx ho=>⟨ho,hx⟩)).q hb0
  have Z7:bY (w.heap.size+4<=w0.heap.size):=rr1
  clear hb0 h M0 C0 W0 R0
  obtain ⟨yM0,yM1⟩:=M2.o.a2
  have hlM:w.heap.size<w0.heap.size:=M2.o.1
  have yW0:=W4.o.a5
  have zW0:=W4.o.f5
  have hlW:(w.heap.size+1+1)<w0.heap.size:=W4.o.1
  go_wp2_with fail
  clear yM0 yM1 hlM yW0 zW0 hlW
  first | (guard_hyp mk0;refine (dD c d (V.W m 1 - 1) _).mono ?_) | (refine (dD c d (V.W m 1+1) _).mono ?_)
  rintro e w1 ⟨rfl,hb1⟩
  have y_w1:w0.heap.size<=w1.heap.size:=hb1.size
  have B8:=fQ (ah B1.o hb1)
  have M8:=fQ (M2.o.q hb1)
  have C8:=fQ (C3.o.q hb1)
  have W8:=fQ (W4.o.q hb1)
  have R8:=fQ (R5.o.q hb1)
  have D8:=fQ (D6.o.q hb1)
  have Z8:bY (w.heap.size+4<=w1.heap.size):=Hq Z7.o hb1.size
  clear B1 M2 C3 W4 R5 D6 Z7
  have z1:=hb1.size
  clear hb1
  first
  | guard_hyp mk0
    have eat:V.W m 1+bn ((0:Nat):Int)=V.W m 1 - 1:=by simp [bn] <;> omega
    obtain ⟨ct,ect⟩:∃ ct,ct=aQ c d (V.W m 1 - 1):=⟨_,rfl⟩
    have ECT:bY (ct=aQ c d (V.W m 1 - 1)):=ect
  | have eat:V.W m 1+bn ((1:Nat):Int)=V.W m 1+1:=by simp [bn] <;> omega
    obtain ⟨ct,ect⟩:∃ ct,ct=aQ c d (V.W m 1+1):=⟨_,rfl⟩
    have ECT:bY (ct=aQ c d (V.W m 1+1)):=ect
  rw [<-ect]
  clear ect
  by_cases h1:ct=-1
  ·have e1:(ct == -1)=true:=by simp [h1]
   first | (guard_hyp mk0;have ER:bY (stepM c d V m ((0:Nat):Int)=(V,2)):=by unfold bY stepM;rw [eat,<-ECT.o];rw [if_pos (.inl h1)]) | (have ER:bY (stepM c d V m ((1:Nat):Int)=(V,2)):=by unfold bY stepM;rw [eat,<-ECT.o];rw [if_pos (.inl h1)])
   have yC0:=C8.o.a6;have hlC:(w.heap.size+1)<w1.heap.size:=C8.o.1;obtain ⟨yR0,yR1,yR2,yR3,yR4,yR5⟩:=R8.o.a6;have zR0:=R8.o.f6;have hlR:(w.heap.size+1+1+1)<w1.heap.size:=R8.o.1;go_wp2;refine Hw (v:=.tuple #[.agg (zC V gW cW gO cO gX cX gI cI).toArray,zI 2]) (by simp [results,Tryz.results142,go_sem,yR0,yR1,yR2,yR3,yR4,yR5]) rfl ?_;have hzz:=au w1 ((w.heap.size+1+1+1)) (.int .i64 V.c) (.slice (some ⟨gW,0,none⟩) V.nW cW) (.int .i64 V.g) (.slice (some ⟨gO,0,none⟩) V.nO cO) (.slice (some ⟨gX,0,none⟩) V.nX cX) (.slice (some ⟨gI,0,none⟩) V.nI cI);have rz:=Z8.o;refine ⟨_,w.heap.size,by rw [ER.o],Ho _,?_,?_,?_⟩
   ·show _<=(aG _ _ _ _ _ _ _ _).heap.size;omega
   ·rw [ER.o];show Md lo _ (aG w1 ((w.heap.size+1+1+1)) (zI V.c) (zS gW V.nW cW) (zI V.g) (zS gO V.nO cO) (zS gX V.nX cX) (zS gI V.nI cI)) _ _;exact (D8.o.sm (Hl hzz.symm) (fun x hx ho=>aH (fun e=>by have:=ho.2;omega) (zI V.c) (zS gW V.nW cW) (zI V.g) (zS gO V.nO cO) (zS gX V.nX cX) (zS gI V.nI cI))).in (fun x _ ho=>.inl ho)
   exact Fr.of (ax B8.o (by omega) (zI V.c) (zS gW V.nW cW) (zI V.g) (zS gO V.nO cO) (zS gX V.nX cX) (zS gI V.nI cI)) llo
  have e1:(ct == -1)=false:=by simp [h1]
  by_cases h2:ct=V.c
  ·have e2:(ct == V.c)=true:=by simp [h2]
   first | (guard_hyp mk0;have ER:bY (stepM c d V m ((0:Nat):Int)=(V.setW m (za (V.W m) (V.W m 1 - 1)),1)):=by unfold bY stepM;rw [eat,<-ECT.o];rw [if_neg (fun h=>by rcases h with h | h;exact h1 h;exact h.1 h2),if_pos h2]) | (have ER:bY (stepM c d V m ((1:Nat):Int)=(V.setW m (za (V.W m) (V.W m 1+1)),1)):=by unfold bY stepM;rw [eat,<-ECT.o];rw [if_neg (fun h=>by rcases h with h | h;exact h1 h;exact h.1 h2),if_pos h2])
   have yC0:=C8.o.a6;have hlC:(w.heap.size+1)<w1.heap.size:=C8.o.1;have yW0:=W8.o.a5;have zW0:=W8.o.f5;have hlW:(w.heap.size+1+1)<w1.heap.size:=W8.o.1;go_upto_region 8 with fail;clear yC0 hlC yW0 zW0 hlW;first | (guard_hyp mk0;obtain ⟨w2,e2x⟩:∃ X,X=w1.setCell (zA (w.heap.size+1+1) 1) (zI (V.W m 1 - 1)):=⟨_,rfl⟩) | (obtain ⟨w2,e2x⟩:∃ X,X=w1.setCell (zA (w.heap.size+1+1) 1) (zI (V.W m 1+1)):=⟨_,rfl⟩)
   have e2xz:w2.heap.size=w1.heap.size:=by rw [e2x];exact ay
   have B9:bY (Below w.heap.size w w2):=by unfold bY;rw [e2x];exact B8.o.setCell (by show w.heap.size<=(w.heap.size+1+1);omega) _
   have M9:bY (Bk w2 w.heap.size [zI c,zI d]):=by unfold bY;rw [e2x];exact M8.o.far (by omega)
   have C9:bY (Bk w2 (w.heap.size+1) (zC V gW cW gO cO gX cX gI cI)):=by unfold bY;rw [e2x];exact C8.o.far (by omega)
   first | (guard_hyp mk0;have W9:bY (Bk w2 ((w.heap.size+1+1)) [zI (V.W m 0),zI (V.W m 1 - 1),zI (V.W m 2),zI (V.W m 3),zI (V.W m 4)]):=by unfold bY;rw [e2x];exact W8.o.set (j:=1) (by simp)) | (have W9:bY (Bk w2 ((w.heap.size+1+1)) [zI (V.W m 0),zI (V.W m 1+1),zI (V.W m 2),zI (V.W m 3),zI (V.W m 4)]):=by unfold bY;rw [e2x];exact W8.o.set (j:=1) (by simp))
   have R9:bY (Bk w2 (w.heap.size+1+1+1) zN):=by unfold bY;rw [e2x];exact R8.o.far (by omega)
   have D9:=fQ (D8.o.sm (w':=w2) (by omega) (fun x hx ho=>by rw [e2x];exact cZ (fun e=>by first | (have:=ho.2;omega) | (rcases ho with h | h <;> omega))));have Z9:bY (w.heap.size+4<=w2.heap.size):=by unfold bY;rw [e2xz];exact Z8.o
   rw [<-e2x];clear e2x B8 M8 C8 W8 R8 D8 Z8;have yC0:=C9.o.a6;have hlC:(w.heap.size+1)<w2.heap.size:=C9.o.1;have yW0:=W9.o.a5;have hlW:(w.heap.size+1+1)<w2.heap.size:=W9.o.1;go_wp2_with fail;clear yC0 hlC yW0 hlW;obtain ⟨r0,er0⟩:∃ r,r=w2.heap.size:=⟨_,rfl⟩;have lbM:w.heap.size<r0:=by rw [er0];exact M9.o.1
   have lbC:(w.heap.size+1)<r0:=by rw [er0];exact C9.o.1
   have lbW:(w.heap.size+1+1)<r0:=by rw [er0];exact W9.o.1
   have lbR:(w.heap.size+1+1+1)<r0:=by rw [er0];exact R9.o.1
   have lr0:r0<=w2.heap.size:=Hl er0;have lr1:w2.heap.size<=r0:=Hl er0.symm;clear er0;obtain ⟨_,_,_,_,_,_,_,_,ef,hgW,hcW,_⟩:=D9.o.form;have ef:=kV ef;simp only [Value.slice.injEq,Option.some.injEq,Addr.mk.injEq,and_true,true_and] at ef;obtain ⟨⟨rfl,rfl⟩,_⟩:=ef;first | (guard_hyp mk0;refine (jh (some (zA gW 0)) gW V.nW cW m V.W (za (V.W m) (V.W m 1 - 1)) hnW _ (fun _=>hgW) (fun _=>rfl) hr hm rfl hcW).mono ?_) | (refine (jh (some (zA gW 0)) gW V.nW cW m V.W (za (V.W m) (V.W m 1+1)) hnW _ (fun _=>hgW) (fun _=>rfl) hr hm rfl hcW).mono ?_)
   rintro e w5 ⟨v2,rfl,ho2,hb2⟩;obtain ⟨a2,n2,c2,rfl⟩:=bP ho2;have hv2:Value.slice a2 n2 c2≠Value.slice none 0 0:=fun e=>by rw [e] at ho2;rcases ho2.2 with ⟨_,h⟩ | ⟨_,_,_,h,_⟩;omega;cases h
   first | (guard_hyp mk0;have DPUT:bY (Md lo (fun x=>(Ok x/\x<w.heap.size)∨r0<=x) w5 (.agg #[zI V.c,.slice a2 n2 c2,zI V.g,zS gO V.nO cO,zS gX V.nX cX,zS gI V.nI cI]) (V.setW m (za (V.W m) (V.W m 1 - 1)))):=((D9.o.in (fun x _ ho=>.inl ho)).q hb2).wk (fun x h1 _=>.inr (by omega)) ((D9.o.in (fun x hx _=>hx)).q hb2) ho2 hv2) | (have DPUT:bY (Md lo (fun x=>(Ok x/\x<w.heap.size)∨r0<=x) w5 (.agg #[zI V.c,.slice a2 n2 c2,zI V.g,zS gO V.nO cO,zS gX V.nX cX,zS gI V.nI cI]) (V.setW m (za (V.W m) (V.W m 1+1)))):=((D9.o.in (fun x _ ho=>.inl ho)).q hb2).wk (fun x h1 _=>.inr (by omega)) ((D9.o.in (fun x hx _=>hx)).q hb2) ho2 hv2)
   have lz2:r0<=w5.heap.size:=Hq lr0 hb2.size;have y_w5:w2.heap.size<=w5.heap.size:=hb2.size;have B10:=fQ (ah B9.o hb2);have M10:=fQ (M9.o.q hb2);have C10:=fQ (C9.o.q hb2);have W10:=fQ (W9.o.q hb2);have R10:=fQ (R9.o.q hb2);have D10:=fQ (D9.o.q hb2);have Z10:bY (w.heap.size+4<=w5.heap.size):=Hq Z9.o hb2.size;clear B9 M9 C9 W9 R9 D9 Z9;clear hb2 ho2 hv2 hgW hcW lr0 lr1;clear Z10;have Z11:bY (r0<=w5.heap.size):=lz2;clear lz2;clear D10;first | (guard_hyp mk0;have D12:bY (Md lo (fun x=>(Ok x/\x<w.heap.size)∨r0<=x) w5 (.agg #[zI V.c,.slice a2 n2 c2,zI V.g,zS gO V.nO cO,zS gX V.nX cX,zS gI V.nI cI]) (V.setW m (za (V.W m) (V.W m 1 - 1)))):=DPUT.o) | (have D12:bY (Md lo (fun x=>(Ok x/\x<w.heap.size)∨r0<=x) w5 (.agg #[zI V.c,.slice a2 n2 c2,zI V.g,zS gO V.nO cO,zS gX V.nX cX,zS gI V.nI cI]) (V.setW m (za (V.W m) (V.W m 1+1)))):=DPUT.o)
   have yC0:=C10.o.a6;have zC0:=C10.o.f6;have hlC:(w.heap.size+1)<w5.heap.size:=C10.o.1;go_upto_region 10 with fail;clear yC0 zC0 hlC;obtain ⟨w6,e6x⟩:∃ X,X=w5.setCell (zA (w.heap.size+1) 1) (.slice a2 n2 c2):=⟨_,rfl⟩;have e6xz:w6.heap.size=w5.heap.size:=by rw [e6x];exact ay
   have B13:bY (Below w.heap.size w w6):=by unfold bY;rw [e6x];exact B10.o.setCell (by show w.heap.size<=(w.heap.size+1);omega) _
   have M13:bY (Bk w6 w.heap.size [zI c,zI d]):=by unfold bY;rw [e6x];exact M10.o.far (by omega)
   have C13:bY (Bk w6 ((w.heap.size+1)) [zI V.c,.slice a2 n2 c2,zI V.g,zS gO V.nO cO,zS gX V.nX cX,zS gI V.nI cI]):=by unfold bY;rw [e6x];exact C10.o.set (j:=1) (by simp)
   first | (guard_hyp mk0;have W13:bY (Bk w6 ((w.heap.size+1+1)) [zI (V.W m 0),zI (V.W m 1 - 1),zI (V.W m 2),zI (V.W m 3),zI (V.W m 4)]):=by unfold bY;rw [e6x];exact W10.o.far (by omega)) | (have W13:bY (Bk w6 ((w.heap.size+1+1)) [zI (V.W m 0),zI (V.W m 1+1),zI (V.W m 2),zI (V.W m 3),zI (V.W m 4)]):=by unfold bY;rw [e6x];exact W10.o.far (by omega))
   have R13:bY (Bk w6 (w.heap.size+1+1+1) zN):=by unfold bY;rw [e6x];exact R10.o.far (by omega)
   have Z13:bY (r0<=w6.heap.size):=by unfold bY;rw [e6xz];exact Z11.o
   have D13:=fQ (D12.o.sm (w':=w6) (by omega) (fun x hx ho=>by rw [e6x];exact cZ (fun e=>by first | (have:=ho.2;omega) | (rcases ho with h | h <;> omega))));rw [<-e6x];clear e6x B10 M10 C10 W10 R10 Z11 D12;have yC0:=C13.o.a6;have hlC:(w.heap.size+1)<w6.heap.size:=C13.o.1;obtain ⟨yR0,yR1,yR2,yR3,yR4,yR5⟩:=R13.o.a6;have zR0:=R13.o.f6;have hlR:(w.heap.size+1+1+1)<w6.heap.size:=R13.o.1;go_wp2;refine Hw (v:=.tuple #[.agg #[zI V.c,.slice a2 n2 c2,zI V.g,zS gO V.nO cO,zS gX V.nX cX,zS gI V.nI cI],zI 1]) (by simp [results,Tryz.results142,go_sem,yR0,yR1,yR2,yR3,yR4,yR5]) rfl ?_;have hzz:=au w6 ((w.heap.size+1+1+1)) (.int .i64 V.c) (.slice a2 n2 c2) (.int .i64 V.g) (.slice (some ⟨gO,0,none⟩) V.nO cO) (.slice (some ⟨gX,0,none⟩) V.nX cX) (.slice (some ⟨gI,0,none⟩) V.nI cI);have rz:=Z13.o;refine ⟨_,r0,by rw [ER.o],by omega,?_,?_,?_⟩
   ·show _<=(aG _ _ _ _ _ _ _ _).heap.size;omega
   ·rw [ER.o];show Md lo _ (aG w6 ((w.heap.size+1+1+1)) (zI V.c) (.slice a2 n2 c2) (zI V.g) (zS gO V.nO cO) (zS gX V.nX cX) (zS gI V.nI cI)) _ _;exact D13.o.sm (Hl hzz.symm) (fun x hx ho=>aH (fun e=>by rcases ho with h | h <;> omega) (zI V.c) (.slice a2 n2 c2) (zI V.g) (zS gO V.nO cO) (zS gX V.nX cX) (zS gI V.nI cI))
   exact Fr.of (ax B13.o (by omega) (zI V.c) (.slice a2 n2 c2) (zI V.g) (zS gO V.nO cO) (zS gX V.nX cX) (zS gI V.nI cI)) llo
  have e2:(ct == V.c)=false:=by simp [h2]
  have yC0:=C8.o.a6
  have hlC:(w.heap.size+1)<w1.heap.size:=C8.o.1
  have yW0:=W8.o.a5
  have zW0:=W8.o.f5
  have hlW:(w.heap.size+1+1)<w1.heap.size:=W8.o.1
  go_upto_region 8 with fail
  clear yC0 hlC yW0 zW0 hlW
  first | (guard_hyp mk0;obtain ⟨w2,e2x⟩:∃ X,X=w1.setCell (zA (w.heap.size+1+1) 1) (zI (V.W m 1 - 1)):=⟨_,rfl⟩) | (obtain ⟨w2,e2x⟩:∃ X,X=w1.setCell (zA (w.heap.size+1+1) 1) (zI (V.W m 1+1)):=⟨_,rfl⟩)
  have e2xz:w2.heap.size=w1.heap.size:=by rw [e2x];exact ay
  have B9:bY (Below w.heap.size w w2):=by unfold bY;rw [e2x];exact B8.o.setCell (by show w.heap.size<=(w.heap.size+1+1);omega) _
  have M9:bY (Bk w2 w.heap.size [zI c,zI d]):=by unfold bY;rw [e2x];exact M8.o.far (by omega)
  have C9:bY (Bk w2 (w.heap.size+1) (zC V gW cW gO cO gX cX gI cI)):=by unfold bY;rw [e2x];exact C8.o.far (by omega)
  first | (guard_hyp mk0;have W9:bY (Bk w2 ((w.heap.size+1+1)) [zI (V.W m 0),zI (V.W m 1 - 1),zI (V.W m 2),zI (V.W m 3),zI (V.W m 4)]):=by unfold bY;rw [e2x];exact W8.o.set (j:=1) (by simp)) | (have W9:bY (Bk w2 ((w.heap.size+1+1)) [zI (V.W m 0),zI (V.W m 1+1),zI (V.W m 2),zI (V.W m 3),zI (V.W m 4)]):=by unfold bY;rw [e2x];exact W8.o.set (j:=1) (by simp))
  have R9:bY (Bk w2 (w.heap.size+1+1+1) zN):=by unfold bY;rw [e2x];exact R8.o.far (by omega)
  have D9:=fQ (D8.o.sm (w':=w2) (by omega) (fun x hx ho=>by rw [e2x];exact cZ (fun e=>by first | (have:=ho.2;omega) | (rcases ho with h | h <;> omega))))
  have Z9:bY (w.heap.size+4<=w2.heap.size):=by unfold bY;rw [e2xz];exact Z8.o
  rw [<-e2x]
  clear e2x B8 M8 C8 W8 R8 D8 Z8
  have yC0:=C9.o.a6
  have hlC:(w.heap.size+1)<w2.heap.size:=C9.o.1
  have yW0:=W9.o.a5
  have zW0:=W9.o.f5
  have hlW:(w.heap.size+1+1)<w2.heap.size:=W9.o.1
  go_upto_region 12 with fail
  clear yC0 hlC yW0 zW0 hlW
  obtain ⟨w2b,e2y⟩:∃ X,X=w2.setCell (zA (w.heap.size+1+1) 4) (zI 1):=⟨_,rfl⟩
  have e2yz:w2b.heap.size=w2.heap.size:=by rw [e2y];exact ay
  have B10:bY (Below w.heap.size w w2b):=by unfold bY;rw [e2y];exact B9.o.setCell (by show w.heap.size<=(w.heap.size+1+1);omega) _
  have M10:bY (Bk w2b w.heap.size [zI c,zI d]):=by unfold bY;rw [e2y];exact M9.o.far (by omega)
  have C10:bY (Bk w2b (w.heap.size+1) (zC V gW cW gO cO gX cX gI cI)):=by unfold bY;rw [e2y];exact C9.o.far (by omega)
  first | (guard_hyp mk0;have W10:bY (Bk w2b ((w.heap.size+1+1)) [zI (V.W m 0),zI (V.W m 1 - 1),zI (V.W m 2),zI (V.W m 3),zI 1]):=by unfold bY;rw [e2y];exact W9.o.set (j:=4) (by simp)) | (have W10:bY (Bk w2b ((w.heap.size+1+1)) [zI (V.W m 0),zI (V.W m 1+1),zI (V.W m 2),zI (V.W m 3),zI 1]):=by unfold bY;rw [e2y];exact W9.o.set (j:=4) (by simp))
  have R10:bY (Bk w2b (w.heap.size+1+1+1) zN):=by unfold bY;rw [e2y];exact R9.o.far (by omega)
  have D10:=fQ (D9.o.sm (w':=w2b) (by omega) (fun x hx ho=>by rw [e2y];exact cZ (fun e=>by first | (have:=ho.2;omega) | (rcases ho with h | h <;> omega))))
  have Z10:bY (w.heap.size+4<=w2b.heap.size):=by unfold bY;rw [e2yz];exact Z9.o
  rw [<-e2y]
  clear e2y B9 M9 C9 W9 R9 D9 Z9
  have yC0:=C10.o.a6
  have hlC:(w.heap.size+1)<w2b.heap.size:=C10.o.1
  have yW0:=W10.o.a5
  have hlW:(w.heap.size+1+1)<w2b.heap.size:=W10.o.1
  go_wp2_with fail
  clear yC0 hlC yW0 hlW
  first | (guard_hyp mk0;by_cases hx5:V.X 0=5000) | (by_cases hx5:V.X 1=5000)
  ·first | (guard_hyp mk0;refine (uM lo 0 (fun x=>Ok x/\x<w.heap.size) _ V (pw (V.X 0) (za (zl (V.W m)) (V.W m 1 - 1))) 0 hq hqO hx5 _ D10.o).mono ?_) | (refine (uM lo 1 (fun x=>Ok x/\x<w.heap.size) _ V (pw (V.X 1) (za (zl (V.W m)) (V.W m 1+1))) 0 hq hqO hx5 _ D10.o).mono ?_)
   rintro e w3 ⟨rfl,hb3⟩;have y_w3:w2b.heap.size<=w3.heap.size:=hb3.size;have B11:=fQ (ah B10.o hb3);have M11:=fQ (M10.o.q hb3);have C11:=fQ (C10.o.q hb3);have W11:=fQ (W10.o.q hb3);have R11:=fQ (R10.o.q hb3);have D11:=fQ (D10.o.q hb3);have Z11:bY (w.heap.size+4<=w3.heap.size):=Hq Z10.o hb3.size;clear B10 M10 C10 W10 R10 D10 Z10;have z3:=hb3.size;clear hb3;go_upto_region 13 with fail;obtain ⟨w4,e4⟩:∃ X,X=w3.alloc (.cells (zC V gW cW gO cO gX cX gI cI).toArray 36):=⟨_,rfl⟩;rw [<-e4];have hb4:Below w3.heap.size w3 w4:=by rw [e4];exact (Hr _ _).alloc (Ho _) _
   have Y4:Bk w4 w3.heap.size (zC V gW cW gO cO gX cX gI cI):=by rw [e4];exact aU w3 36 (zC V gW cW gO cO gX cX gI cI)
   clear e4;obtain ⟨yb,eyb⟩:∃ b,b=w3.heap.size:=⟨_,rfl⟩;rw [<-eyb] at Y4 ⊢;have y_w4:w3.heap.size<=w4.heap.size:=hb4.size;have B12:=fQ (ah B11.o hb4);have M12:=fQ (M11.o.q hb4);have C12:=fQ (C11.o.q hb4);have W12:=fQ (W11.o.q hb4);have R12:=fQ (R11.o.q hb4);have D12:=fQ (D11.o.q hb4);have Z12:bY (w.heap.size+4<=w4.heap.size):=Hq Z11.o hb4.size;clear B11 M11 C11 W11 R11 D11 Z11;have Y13:bY (Bk w4 yb (zC V gW cW gO cO gX cX gI cI)):=Y4;have ly1:yb<=w3.heap.size:=Hl eyb;have ly2:w3.heap.size<=yb:=Hl eyb.symm;clear hb4 Y4 eyb;first | (guard_hyp mk0;have ER:bY (stepM c d V m ((0:Nat):Int)=(V,2)):=by unfold bY;rw [show (stepM c d V m ((0:Nat):Int)=(V,2))=(stepM c d V m ((0:Nat):Int)=(V,2)) from rfl];unfold stepM;rw [eat,<-ECT.o,if_pos (.inr ⟨h2,by show ¬ V.X 0<5000;omega⟩)]) | (have ER:bY (stepM c d V m ((1:Nat):Int)=(V,2)):=by unfold bY;rw [show (stepM c d V m ((1:Nat):Int)=(V,2))=(stepM c d V m ((1:Nat):Int)=(V,2)) from rfl];unfold stepM;rw [eat,<-ECT.o,if_pos (.inr ⟨h2,by show ¬ V.X 1<5000;omega⟩)])
   have yC0:=C12.o.a6;have hlC:(w.heap.size+1)<w4.heap.size:=C12.o.1;obtain ⟨yR0,yR1,yR2,yR3,yR4,yR5⟩:=R12.o.a6;have zR0:=R12.o.f6;have hlR:(w.heap.size+1+1+1)<w4.heap.size:=R12.o.1;go_wp2;refine Hw (v:=.tuple #[.agg (zC V gW cW gO cO gX cX gI cI).toArray,zI 2]) (by simp [results,Tryz.results142,go_sem,yR0,yR1,yR2,yR3,yR4,yR5]) rfl ?_;have hzz:=au w4 ((w.heap.size+1+1+1)) (.int .i64 V.c) (.slice (some ⟨gW,0,none⟩) V.nW cW) (.int .i64 V.g) (.slice (some ⟨gO,0,none⟩) V.nO cO) (.slice (some ⟨gX,0,none⟩) V.nX cX) (.slice (some ⟨gI,0,none⟩) V.nI cI);have rz:=Z12.o;refine ⟨_,w.heap.size,by rw [ER.o],Ho _,?_,?_,?_⟩
   ·show _<=(aG _ _ _ _ _ _ _ _).heap.size;omega
   ·rw [ER.o];show Md lo _ (aG w4 ((w.heap.size+1+1+1)) (zI V.c) (zS gW V.nW cW) (zI V.g) (zS gO V.nO cO) (zS gX V.nX cX) (zS gI V.nI cI)) _ _;exact (D12.o.sm (Hl hzz.symm) (fun x hx ho=>aH (fun e=>by have:=ho.2;omega) (zI V.c) (zS gW V.nW cW) (zI V.g) (zS gO V.nO cO) (zS gX V.nX cX) (zS gI V.nI cI))).in (fun x _ ho=>.inl ho)
   exact Fr.of (ax B12.o (by omega) (zI V.c) (zS gW V.nW cW) (zI V.g) (zS gO V.nO cO) (zS gX V.nX cX) (zS gI V.nI cI)) llo
  obtain ⟨s1,es1⟩:∃ z,z=w2b.heap.size:=⟨_,rfl⟩
  have ls1:w.heap.size+4<=s1:=by rw [es1];exact Z10.o
  first | (guard_hyp mk0;refine (sD lo 0 (fun x=>Ok x/\x<w.heap.size) _ V (pw (V.X 0) (za (zl (V.W m)) (V.W m 1 - 1))) 0 hq hqO hN hX hx5 rfl _ D10.o).mono ?_) | (refine (sD lo 1 (fun x=>Ok x/\x<w.heap.size) _ V (pw (V.X 1) (za (zl (V.W m)) (V.W m 1+1))) 0 hq hqO hN hX hx5 rfl _ D10.o).mono ?_)
  rintro e w3 ⟨rfl,r1,k1,k2,hD3,hF3⟩
  rw [<-es1] at k1 hD3
  first | (guard_hyp mk0;have DQ:bY (Md lo (fun x=>((Ok x/\x<w.heap.size)/\x<s1)∨r1<=x) w3 (.agg (zC V gW cW gO cO gX cX gI cI).toArray) (V.send 0 (pw (V.X 0) (za (zl (V.W m)) (V.W m 1 - 1))))):=hD3) | (have DQ:bY (Md lo (fun x=>((Ok x/\x<w.heap.size)/\x<s1)∨r1<=x) w3 (.agg (zC V gW cW gO cO gX cX gI cI).toArray) (V.send 1 (pw (V.X 1) (za (zl (V.W m)) (V.W m 1+1))))):=hD3)
  clear hD3 es1
  have M11:=fQ (M10.o.sm hF3.2.1 (hF3.2.2 _ M10.o.1 (fun h=>by have:=h.2;omega)))
  have C11:=fQ (C10.o.sm hF3.2.1 (hF3.2.2 _ C10.o.1 (fun h=>by have:=h.2;omega)))
  have W11:=fQ (W10.o.sm hF3.2.1 (hF3.2.2 _ W10.o.1 (fun h=>by have:=h.2;omega)))
  have R11:=fQ (R10.o.sm hF3.2.1 (hF3.2.2 _ R10.o.1 (fun h=>by have:=h.2;omega)))
  have FR11:bY (Fr lo Ok w w3):=⟨(B10.o.mono llo).trans hF3.1,Hq B10.o.size hF3.2.1,fun x hx hno=>(aj B10.o hx).trans (hF3.2.2 x (Hg hx B10.o.size) (fun h=>hno h.1))⟩
  clear B10 M10 C10 W10 R10 D10 Z10
  have F12:bY (Fr lo Ok w w3):=FR11.o
  clear FR11
  have z3:=hF3.2.1
  clear hF3
  go_upto_region 13 with fail
  obtain ⟨w4,e4⟩:∃ X,X=w3.alloc (.cells (zC V gW cW gO cO gX cX gI cI).toArray 36):=⟨_,rfl⟩
  rw [<-e4]
  have hb4:Below w3.heap.size w3 w4:=by rw [e4];exact (Hr _ _).alloc (Ho _) _
  have Y4:Bk w4 w3.heap.size (zC V gW cW gO cO gX cX gI cI):=by rw [e4];exact aU w3 36 (zC V gW cW gO cO gX cX gI cI)
  clear e4
  obtain ⟨yb,eyb⟩:∃ b,b=w3.heap.size:=⟨_,rfl⟩
  rw [<-eyb] at Y4 ⊢
  first | (guard_hyp mk0;have DY:bY (Md lo (fun x=>(Ok x/\x<w.heap.size)∨(r1<=x/\x<yb)) w4 (.agg (zC V gW cW gO cO gX cX gI cI).toArray) (V.send 0 (pw (V.X 0) (za (zl (V.W m)) (V.W m 1 - 1))))):=(DQ.o.in (fun x hx ho=>by rcases ho with h | h;exact .inl h.1;exact .inr ⟨h,by omega⟩)).q hb4) | (have DY:bY (Md lo (fun x=>(Ok x/\x<w.heap.size)∨(r1<=x/\x<yb)) w4 (.agg (zC V gW cW gO cO gX cX gI cI).toArray) (V.send 1 (pw (V.X 1) (za (zl (V.W m)) (V.W m 1+1))))):=(DQ.o.in (fun x hx ho=>by rcases ho with h | h;exact .inl h.1;exact .inr ⟨h,by omega⟩)).q hb4)
  clear DQ
  have y_w4:w3.heap.size<=w4.heap.size:=hb4.size
  have M13:=fQ (M11.o.q hb4)
  have C13:=fQ (C11.o.q hb4)
  have W13:=fQ (W11.o.q hb4)
  have R13:=fQ (R11.o.q hb4)
  have F13:bY (Fr lo Ok w w4):=Fr.then F12.o llo hb4
  clear M11 C11 W11 R11 F12
  have Y14:bY (Bk w4 yb (zC V gW cW gO cO gX cX gI cI)):=Y4
  have ly1:yb<=w3.heap.size:=Hl eyb
  have ly2:w3.heap.size<=yb:=Hl eyb.symm
  clear hb4 Y4 eyb
  first | (guard_hyp mk0;have D15:bY (Md lo (fun x=>(Ok x/\x<w.heap.size)∨(r1<=x/\x<yb)) w4 (.agg (zC V gW cW gO cO gX cX gI cI).toArray) (V.send 0 (pw (V.X 0) (za (zl (V.W m)) (V.W m 1 - 1))))):=DY.o) | (have D15:bY (Md lo (fun x=>(Ok x/\x<w.heap.size)∨(r1<=x/\x<yb)) w4 (.agg (zC V gW cW gO cO gX cX gI cI).toArray) (V.send 1 (pw (V.X 1) (za (zl (V.W m)) (V.W m 1+1))))):=DY.o)
  clear DY
  have yW0:=W13.o.a5
  have hlW:(w.heap.size+1+1)<w4.heap.size:=W13.o.1
  have yY0:=Y14.o.a6
  have hlY:yb<w4.heap.size:=Y14.o.1
  first | (guard_hyp mk0;have ER:bY (stepM c d V m ((0:Nat):Int)=((V.outW m).send 0 (pw (V.X 0) (za (zl (V.W m)) (V.W m 1 - 1))),1)):=by unfold bY stepM;rw [eat,<-ECT.o];rw [if_neg (fun h=>by rcases h with h | h;exact h1 h;exact h.2 (by show V.X 0<5000;omega)),if_neg h2];rfl) | (have ER:bY (stepM c d V m ((1:Nat):Int)=((V.outW m).send 1 (pw (V.X 1) (za (zl (V.W m)) (V.W m 1+1))),1)):=by unfold bY stepM;rw [eat,<-ECT.o];rw [if_neg (fun h=>by rcases h with h | h;exact h1 h;exact h.2 (by show V.X 1<5000;omega)),if_neg h2];rfl)
  go_wp2_with fail
  clear yW0 hlW yY0 hlY
  obtain ⟨r2,er2⟩:∃ r,r=w4.heap.size:=⟨_,rfl⟩
  have lbM:w.heap.size<r2:=by rw [er2];exact M13.o.1
  have lbC:(w.heap.size+1)<r2:=by rw [er2];exact C13.o.1
  have lbW:(w.heap.size+1+1)<r2:=by rw [er2];exact W13.o.1
  have lbR:(w.heap.size+1+1+1)<r2:=by rw [er2];exact R13.o.1
  have lbY:yb<r2:=by rw [er2];exact Y14.o.1
  have lr0:r2<=w4.heap.size:=Hl er2
  have lr1:w4.heap.size<=r2:=Hl er2.symm
  clear er2
  obtain ⟨hgW,hcW⟩:=D15.o.FU
  refine (vg (V.W m 0) (some (zA gW 0)) gW V.nW cW m V.W hnW _ (fun _=>hgW) (fun _=>rfl) hm rfl (fun j hj hne e=>hne (hr.one hj hm e)) hcW).mono ?_
  rintro e w7 ⟨v7,rfl,hv7,ho7,hb7⟩
  obtain ⟨a7,n7,c7,rfl⟩:=bP ho7
  have hz7:=hb7.size
  first | (guard_hyp mk0;have DPUT:bY (Md lo (fun x=>(Ok x/\x<w.heap.size)∨(r1<=x/\x<yb)∨r2<=x) w7 (.agg #[zI V.c,.slice a7 n7 c7,zI V.g,zS gO V.nO cO,zS gX V.nX cX,zS gI V.nI cI]) ((V.outW m).send 0 (pw (V.X 0) (za (zl (V.W m)) (V.W m 1 - 1))))):=((D15.o.in (fun x _ ho=>by rcases ho with h | h;exact .inl h;exact .inr (.inl h))).q hb7).wk (fun x h1 _=>.inr (.inr (by omega))) ((D15.o.in (fun x hx _=>hx)).q hb7) ho7 hv7) | (have DPUT:bY (Md lo (fun x=>(Ok x/\x<w.heap.size)∨(r1<=x/\x<yb)∨r2<=x) w7 (.agg #[zI V.c,.slice a7 n7 c7,zI V.g,zS gO V.nO cO,zS gX V.nX cX,zS gI V.nI cI]) ((V.outW m).send 1 (pw (V.X 1) (za (zl (V.W m)) (V.W m 1+1))))):=((D15.o.in (fun x _ ho=>by rcases ho with h | h;exact .inl h;exact .inr (.inl h))).q hb7).wk (fun x h1 _=>.inr (.inr (by omega))) ((D15.o.in (fun x hx _=>hx)).q hb7) ho7 hv7)
  have y_w7:w4.heap.size<=w7.heap.size:=hb7.size
  have M16:=fQ (M13.o.q hb7)
  have C16:=fQ (C13.o.q hb7)
  have W16:=fQ (W13.o.q hb7)
  have R16:=fQ (R13.o.q hb7)
  have F16:bY (Fr lo Ok w w7):=Fr.then F13.o llo hb7
  have Y16:=fQ (Y14.o.q hb7)
  have D16:=fQ (D15.o.q hb7)
  clear M13 C13 W13 R13 F13 Y14 D15
  clear hb7 ho7 hv7 hgW hcW
  clear D16
  first | (guard_hyp mk0;have D17:bY (Md lo (fun x=>(Ok x/\x<w.heap.size)∨(r1<=x/\x<yb)∨r2<=x) w7 (.agg #[zI V.c,.slice a7 n7 c7,zI V.g,zS gO V.nO cO,zS gX V.nX cX,zS gI V.nI cI]) ((V.outW m).send 0 (pw (V.X 0) (za (zl (V.W m)) (V.W m 1 - 1))))):=DPUT.o) | (have D17:bY (Md lo (fun x=>(Ok x/\x<w.heap.size)∨(r1<=x/\x<yb)∨r2<=x) w7 (.agg #[zI V.c,.slice a7 n7 c7,zI V.g,zS gO V.nO cO,zS gX V.nX cX,zS gI V.nI cI]) ((V.outW m).send 1 (pw (V.X 1) (za (zl (V.W m)) (V.W m 1+1))))):=DPUT.o)
  clear DPUT
  have Z18:bY (r2<=w7.heap.size):=by show r2<=w7.heap.size;omega
  have yY0:=Y16.o.a6
  have zY0:=Y16.o.f6
  have hlY:yb<w7.heap.size:=Y16.o.1
  go_upto_region 16 with fail
  clear yY0 zY0 hlY
  obtain ⟨w8,e8x⟩:∃ X,X=w7.setCell (zA yb 1) (.slice a7 n7 c7):=⟨_,rfl⟩
  have e8xz:w8.heap.size=w7.heap.size:=by rw [e8x];exact ay
  have M19:bY (Bk w8 w.heap.size [zI c,zI d]):=by unfold bY;rw [e8x];exact M16.o.far (by omega)
  have C19:bY (Bk w8 (w.heap.size+1) (zC V gW cW gO cO gX cX gI cI)):=by unfold bY;rw [e8x];exact C16.o.far (by omega)
  first | (guard_hyp mk0;have W19:bY (Bk w8 ((w.heap.size+1+1)) [zI (V.W m 0),zI (V.W m 1 - 1),zI (V.W m 2),zI (V.W m 3),zI 1]):=by unfold bY;rw [e8x];exact W16.o.far (by omega)) | (have W19:bY (Bk w8 ((w.heap.size+1+1)) [zI (V.W m 0),zI (V.W m 1+1),zI (V.W m 2),zI (V.W m 3),zI 1]):=by unfold bY;rw [e8x];exact W16.o.far (by omega))
  have R19:bY (Bk w8 (w.heap.size+1+1+1) zN):=by unfold bY;rw [e8x];exact R16.o.far (by omega)
  have F19:bY (Fr lo Ok w w8):=by unfold bY;rw [e8x];exact F16.o.set llo (by omega) _
  have Y19:bY (Bk w8 (yb) [zI V.c,.slice a7 n7 c7,zI V.g,zS gO V.nO cO,zS gX V.nX cX,zS gI V.nI cI]):=by unfold bY;rw [e8x];exact Y16.o.set (j:=1) (by simp)
  have D19:=fQ (D17.o.sm (w':=w8) (by omega) (fun x hx ho=>by rw [e8x];exact cZ (fun e=>by first | (have:=ho.2;omega) | (rcases ho with h | h <;> omega) | (rcases ho with h | h | h <;> omega))))
  have Z19:bY (r2<=w8.heap.size):=by unfold bY;rw [e8xz];exact Z18.o
  rw [<-e8x]
  clear e8x M16 C16 W16 R16 F16 Y16 D17 Z18
  have yY0:=Y19.o.a6
  have hlY:yb<w8.heap.size:=Y19.o.1
  obtain ⟨yR0,yR1,yR2,yR3,yR4,yR5⟩:=R19.o.a6
  have zR0:=R19.o.f6
  have hlR:(w.heap.size+1+1+1)<w8.heap.size:=R19.o.1
  go_wp2
  refine Hw (v:=.tuple #[.agg #[zI V.c,.slice a7 n7 c7,zI V.g,zS gO V.nO cO,zS gX V.nX cX,zS gI V.nI cI],zI 1]) (by simp [results,Tryz.results142,go_sem,yR0,yR1,yR2,yR3,yR4,yR5]) rfl ?_
  have hzz:=au w8 ((w.heap.size+1+1+1)) (.int .i64 V.c) (.slice a7 n7 c7) (.int .i64 V.g) (.slice (some ⟨gO,0,none⟩) V.nO cO) (.slice (some ⟨gX,0,none⟩) V.nX cX) (.slice (some ⟨gI,0,none⟩) V.nI cI)
  have rz:=Z19.o
  refine ⟨_,w.heap.size,by rw [ER.o],Ho _,?_,?_,?_⟩
  ·show _<=(aG _ _ _ _ _ _ _ _).heap.size
   omega
  ·rw [ER.o]
   show Md lo _ (aG w8 ((w.heap.size+1+1+1)) (zI V.c) (.slice a7 n7 c7) (zI V.g) (zS gO V.nO cO) (zS gX V.nX cX) (zS gI V.nI cI)) _ _;exact (D19.o.sm (Hl hzz.symm) (fun x hx ho=>aH (fun e=>by first | (have:=ho.2;omega) | (rcases ho with h | h <;> omega) | (rcases ho with h | h | h <;> omega)) (zI V.c) (.slice a7 n7 c7) (zI V.g) (zS gO V.nO cO) (zS gX V.nX cX) (zS gI V.nI cI))).in (fun x _ ho=>by rcases ho with h | h | h;exact .inl h;exact .inr (by omega);exact .inr (by omega))
  exact (F19.o).six llo (by omega) (zI V.c) (.slice a7 n7 c7) (zI V.g) (zS gO V.nO cO) (zS gX V.nX cX) (zS gI V.nI cI)
