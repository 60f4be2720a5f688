/- What is carried: lemmas on lists, cells and draws; conditions: those typed. -/
import Derived.Test.YtngaboipleimcabGreatDoorMo11
set_option linter.unusedVariables false
set_option maxHeartbeats 8000000
set_option maxRecDepth 20000
namespace Go.Proofs.YtngaboipleimcabGreatDoor
open Go.RowKit Go.Deep
theorem aV.wk2 {lo hi base n g:Nat} {w w':World} {x0 x1 x2 x3 x4 x5 v:Value} {V:CV} {Z:Nat->Nat->Int} (h:aV lo hi w (.agg #[x0,x1,x2,x3,x4,x5]) V) (hO:V.nO≠0) (hX:V.nX≠0) (hI:V.nI≠0) (hn:n≠0) (h1:hi<=base) (h2:base<=w'.heap.size) (k:∀ b,lo<=b->b<hi->Sm w w' b) (hR:RW base w'.heap.size w' v n Z g) :
 aV lo w'.heap.size w' (.agg #[zI V.c,v,zI V.g,x3,x4,x5]) { V with nW:=n,W:=Z }:=by
 obtain ⟨vW,vO,vX,vI,gW,gO,gX,gI,sl,xs,e,rW,rO,rX,rI,⟨d1,d2,d3,d4,d5,d6⟩,hx1,hx2⟩:=h;obtain ⟨rfl,rfl,rfl,rfl⟩:=kV e;have hh:hi<=w'.heap.size:=Hq h1 h2;have lX:=rX.in hX;have lI:=rI.in hI;have lg:=hR.in hn;rcases rO with ⟨e,_⟩ | ⟨co,e1,l1,l2,l3,hc⟩
 ·exact absurd e hO
 subst e1;have hlo:lo<=base:=by omega
 have lx:∀ j,j<V.nO->V.N j≠0->xs j<hi:=fun j hj e=>((hc j hj).2.in e).2;refine jL (V:={ V with nW:=n,W:=Z }) (gW:=g) (gO:=gO) (gX:=gX) (gI:=gI) (sl:=sl) (xs:=xs) (hR.go hlo (Ho _) (Ho _) (fun _ _ _=>Sm.refl _ _)) l1 (by omega) (Ho _) (fun j hj=>⟨(k gO l1 l2 j).1.trans (hc j hj).1,(hc j hj).2.go (Ho _) hh (Ho _) (fun _=>k _)⟩) (rX.go (Ho _) hh (Ho _) (fun _=>k _)) (rI.go (Ho _) hh (Ho _) (fun _=>k _)) (fun _=>by omega) (fun _ _=>by omega) (fun _ _=>by omega) (fun _=>d4) (fun _=>d5) (fun _ _=>d6) (fun j hj e=>⟨fun _=>by have:=lx j hj e;omega,(hx1 j hj).2.1,fun _=>(hx1 j hj).2.2.1,fun _=>(hx1 j hj).2.2.2⟩) (fun i j hij hj _ _=>hx2 i j (Nat.lt_trans hij hj) hj (Nat.ne_of_lt hij))
theorem yP (c d pn pi pa pm ps pl pc:Int) (v:Value) (V:CV) (lo q:Nat) (h1:bD c d V=true) (hs0:V.short 1048576) (hn0:V.nW+1<=1048576) (hq:q<V.nI) (hI:0<=V.I q/\V.I q<=5000) (hg:0<=V.g/\V.g<=900) (hpc:0<=pc/\pc<=900) (w:World) (h:dL w v V) :
 Hz 100 #[.agg #[zI c,zI d],v,zI (q:Int),.agg #[zI pn,zI 1,zI pi,zI pa,zI pm,zI ps,zI pl,zI pc]] w fun e w'=>(∃ u,e=.returned (.tuple #[u,.bool (takeB c d V (dA V.W V.nW) q pn 1 pi pa pc)])/\aV w.heap.size w'.heap.size w' u (CV.inn c d V q pn 1 pi pa pm ps pl pc))/\Below w.heap.size w w':=by
 obtain ⟨aW9,bO,bX,bI,cW,cO,cX,cI,q2,q3,q4,rfl,g1,g2,g3,g4⟩:=h;have CP:bY (dL w (.agg (zG V aW9 cW bO cO bX cX bI cI).toArray) V):=⟨aW9,bO,bX,bI,cW,cO,cX,cI,q2,q3,q4,rfl,g1,g2,g3,g4⟩;have hs:bY (V.short 1048576):=hs0;have hnW:bY (V.nW+1<=1048576):=hn0;clear g1 g2 g3 g4 hs0 hn0 q2 q3 q4;go_enter Tryz.func100,Tryz.ntmps100;go_wp2_with fail;obtain ⟨w0,e0,B0,M0,-,P0,R0,z0⟩:=F8 w [zI c,zI d] 44 (zG V aW9 cW bO cO bX cX bI cI) 36 [zI pn,zI 1,zI pi,zI pa,zI pm,zI ps,zI pl,zI pc] 69 zN 36;rw [<-e0];clear e0;refine (fC _ V hs.o _ (CP.o.q B0.o)).mono ?_;rintro e w1 ⟨⟨v1,rfl,hO,hT,_⟩,hb1⟩;obtain ⟨aW,kW,aO,kO,aX,kX,aI,kI,rfl,_,_,_,_⟩:=hO.at;clear hT;have z1:w0.heap.size<=w1.heap.size:=hb1.size;have HO:bY (aV w0.heap.size w1.heap.size w1 (.agg (zD V aW kW aO kO aX kX aI kI).toArray) V):=hO;clear hO;have HB1:bY (Below w0.heap.size w0 w1):=hb1;clear hb1;go_wp2_with fail;obtain ⟨w2,e2⟩:∃ w2,w2=w1.alloc (.cells (zD V aW kW aO kO aX kX aI kI).toArray 36):=⟨_,rfl⟩;have k2:Below w1.heap.size w1 w2:=by rw [e2];exact (Hr _ _).alloc (Ho _) _
 have X2:Bk w2 w1.heap.size (zD V aW kW aO kO aX kX aI kI):=by rw [e2];exact aU w1 36 (zD V aW kW aO kO aX kX aI kI)
 have z2:w1.heap.size<w2.heap.size:=X2.1;rw [<-e2];clear e2;have k02:Below w0.heap.size w0 w2:=ah HB1.o k2;have B1:=fQ (ah B0.o k02);have M2:=fQ (M0.o.q k02);have P3:=fQ (P0.o.q k02);have R4:=fQ (R0.o.q k02);have O2:=HO.o.q (Ho _) k2;clear B0 M0 P0 R0 HO HB1 k2 k02;obtain ⟨gI,rfl,g1,g2,g3,iq,fq,hset⟩:=O2.ins hq;clear hset;generalize w1.heap.size=x8 at *;generalize w0.heap.size=l0 at *;have X5:bY (Bk w2 x8 [zI V.c,.slice aW V.nW kW,zI V.g,.slice aO V.nO kO,.slice aX V.nX kX,zS gI V.nI kI]):=X2;have O6:bY (aV l0 x8 w2 (.agg #[zI V.c,.slice aW V.nW kW,zI V.g,.slice aO V.nO kO,.slice aX V.nX kX,zS gI V.nI kI]) V):=O2;have I7:bY (w2.cell? (zA gI q)=some (zI (V.I q))/\w2.frozen? (zA gI q)=false):=⟨iq,fq⟩;clear X2 O2 iq fq;have hq':(q:Int)<V.nI:=by omega
 cases hne:(pn != V.I q)
 ·rcases rP V.W pi V.nW with hno | ⟨m,hm⟩
  ·have HNO:bY (pK V.W V.nW pi):=hno;clear hno;have hmp:dA V.W V.nW pi=none:=by
    cases e:dA V.W V.nW pi
    ·rfl
    obtain ⟨m,h1,h2⟩:=uX V.nW (show (dA V.W V.nW pi).isSome=true by rw [e];rfl);exact absurd h2 (HNO.o m h1)
   have ht0:bY (takeB c d V (dA V.W V.nW) q pn 1 pi pa pc=(aQ c d pa == V.c)):=by unfold bY;simp [takeB,hne,mg,hmp]
   clear hmp;cases hce:(aQ c d pa != V.c)
   case' _=>have mk0:=trivial
   all_goals
    first | have ht:bY (takeB c d V (dA V.W V.nW) q pn 1 pi pa pc=true):=by unfold bY;rw [ht0.o];simpa using hce | have ht:bY (takeB c d V (dA V.W V.nW) q pn 1 pi pa pc=false):=by unfold bY;rw [ht0.o];simpa using hce
    have yP0:=P3.o.a8
    have hlP:(w.heap.size+1+1)<w2.heap.size:=P3.o.1
    obtain ⟨yX0,yX1,yX2,yX3,yX4,yX5⟩:=X5.o.a6
    have hlX:x8<w2.heap.size:=X5.o.1
    have iq:=I7.o.1
    have fq:=I7.o.2
    have lg:gI<w2.heap.size:=by have:=X5.o.1;omega
    go_upto_region 2 with fail
    go_quiet (fail)
    obtain ⟨w3,e3⟩:∃ W,W=w2.drewN nq:=⟨_,rfl⟩
    rw [<-e3]
    have k3:Below w2.heap.size w2 w3:=by rw [e3];exact bZ (Hr _ _) _
    have kz:w2.heap.size<=w3.heap.size:=k3.size
    clear e3
    clear yP0 hlP yX0 yX1 yX2 yX3 yX4 yX5 hlX iq fq lg
    have y_w3:w2.heap.size<=w3.heap.size:=k3.size
    have B8:=fQ (ah B1.o k3)
    have M8:=fQ (M2.o.q k3)
    have P8:=fQ (P3.o.q k3)
    have R8:=fQ (R4.o.q k3)
    have X8:=fQ (X5.o.q k3)
    have O8:=fQ (O6.o.q (by omega) k3)
    have I8:bY (w3.cell? (zA gI q)=some (zI (V.I q))/\w3.frozen? (zA gI q)=false):=⟨(k3.cell (p:=(zA gI q)) (by show gI<_;omega)).trans I7.o.1,(k3.frozen (p:=(zA gI q)) (by show gI<_;omega)).trans I7.o.2⟩
    clear B1 M2 P3 R4 X5 O6 I7
    clear k3
    have yP0:=P8.o.a8
    have hlP:(w.heap.size+1+1)<w3.heap.size:=P8.o.1
    obtain ⟨yX0,yX1,yX2,yX3,yX4,yX5⟩:=X8.o.a6
    have hlX:x8<w3.heap.size:=X8.o.1
    go_wp2_with fail
    obtain ⟨gW,ha,hgl,hrow⟩:=O8.o.row
    refine (o8 pi aW gW V.nW kW V.W (by have:=hnW.o;omega) _ hgl ha HNO.o hrow).mono ?_
    rintro e w4 ⟨rfl,hb4⟩
    clear ha hgl hrow
    have kz4:w3.heap.size<=w4.heap.size:=hb4.size
    clear yP0 hlP yX0 yX1 yX2 yX3 yX4 yX5 hlX
    have y_w4:w3.heap.size<=w4.heap.size:=hb4.size
    have B9:=fQ (ah B8.o hb4)
    have M9:=fQ (M8.o.q hb4)
    have P9:=fQ (P8.o.q hb4)
    have R9:=fQ (R8.o.q hb4)
    have X9:=fQ (X8.o.q hb4)
    have O9:=fQ (O8.o.q (by omega) hb4)
    have I9:bY (w4.cell? (zA gI q)=some (zI (V.I q))/\w4.frozen? (zA gI q)=false):=⟨(hb4.cell (p:=(zA gI q)) (by show gI<_;omega)).trans I8.o.1,(hb4.frozen (p:=(zA gI q)) (by show gI<_;omega)).trans I8.o.2⟩
    clear B8 M8 P8 R8 X8 O8 I8
    clear hb4
    go_upto_region 9 with fail
    obtain ⟨w5,e5⟩:∃ W,W=w4.alloc (.cells z5.toArray 67):=⟨_,rfl⟩
    rw [<-e5]
    have hb5:Below w4.heap.size w4 w5:=by rw [e5];exact (Hr _ _).alloc (Ho _) _
    have kz5:w4.heap.size<=w5.heap.size:=hb5.size
    clear e5
    have y_w5:w4.heap.size<=w5.heap.size:=hb5.size
    have B10:=fQ (ah B9.o hb5)
    have M10:=fQ (M9.o.q hb5)
    have P10:=fQ (P9.o.q hb5)
    have R10:=fQ (R9.o.q hb5)
    have X10:=fQ (X9.o.q hb5)
    have O10:=fQ (O9.o.q (by omega) hb5)
    have I10:bY (w5.cell? (zA gI q)=some (zI (V.I q))/\w5.frozen? (zA gI q)=false):=⟨(hb5.cell (p:=(zA gI q)) (by show gI<_;omega)).trans I9.o.1,(hb5.frozen (p:=(zA gI q)) (by show gI<_;omega)).trans I9.o.2⟩
    clear B9 M9 P9 R9 X9 O9 I9
    clear hb5
    have yP0:=P10.o.a8
    have hlP:(w.heap.size+1+1)<w5.heap.size:=P10.o.1
    obtain ⟨yX0,yX1,yX2,yX3,yX4,yX5⟩:=X10.o.a6
    have hlX:x8<w5.heap.size:=X10.o.1
    obtain ⟨yM0,yM1⟩:=M10.o.a2
    have hlM:w.heap.size<w5.heap.size:=M10.o.1
    refine Hu (S:=fun w'=>Below (w5.heap.size) w5 w') (by kernel_rfl) ((Hr _ _).drew) ?_
    intro af
    obtain ⟨X0,hX0⟩:∃ X,X=w5.drew:=⟨_,rfl⟩
    have hz0:w5.heap.size<=X0.heap.size:=by rw [hX0];exact Ho _
    rw [<-hX0] at af ⊢
    clear hX0
    refine bF 0 (.bool false) rfl ?_
    refine bF 1 (.bool false) rfl ?_
    refine bF 2 (.agg #[zI c,zI d]) rfl ?_
    refine bF 3 (zP (w.heap.size+1+1) 2) rfl ?_
    refine bF 7 (zP x8 0) rfl ?_
    refine bF 4 (zP (w.heap.size+1+1) 3) rfl ?_
    refine bF 8 (zI V.c) rfl ?_
    refine bF 5 (zI pa) rfl ?_
    refine di 6 rfl fun K hK=>?_
    go_simp
    go_wp2_with fail
    refine (dD c d pa _).mono ?_
    rintro e xc ⟨rfl,hxc⟩
    have hsz_xc:=hxc.size
    refine hK.out _ _ (bJ af (by omega) hxc) (fun ai=>?_)
    clear hK K af
    have af:=ai
    clear ai
    try simp only [aT]
    first | (guard_hyp mk0;refine bF 9 (.bool false) rfl ?_) | refine bF 9 (.bool true) rfl ?_
    try simp only [aT]
    first | (guard_hyp mk0;refine bF 10 (.bool false) rfl ?_) | refine bF 10 (.bool true) rfl ?_
    try simp only [aT]
    refine Hy (by kernel_rfl) ?_ _
    have kzc:w5.heap.size<=xc.heap.size:=af.size
    clear yP0 hlP yX0 yX1 yX2 yX3 yX4 yX5 hlX yM0 yM1 hlM
    have y_xc:w5.heap.size<=xc.heap.size:=af.size
    have B11:=fQ (ah B10.o af)
    have M11:=fQ (M10.o.q af)
    have P11:=fQ (P10.o.q af)
    have R11:=fQ (R10.o.q af)
    have X11:=fQ (X10.o.q af)
    have O11:=fQ (O10.o.q (by omega) af)
    have I11:bY (xc.cell? (zA gI q)=some (zI (V.I q))/\xc.frozen? (zA gI q)=false):=⟨(af.cell (p:=(zA gI q)) (by show gI<_;omega)).trans I10.o.1,(af.frozen (p:=(zA gI q)) (by show gI<_;omega)).trans I10.o.2⟩
    clear B10 M10 P10 R10 X10 O10 I10
    clear af
   ·have yP0:=P11.o.a8;have hlP:(w.heap.size+1+1)<xc.heap.size:=P11.o.1;obtain ⟨yX0,yX1,yX2,yX3,yX4,yX5⟩:=X11.o.a6;have hlX:x8<xc.heap.size:=X11.o.1;go_wp2_with fail;obtain ⟨gW,ha,hgl,hrow⟩:=O11.o.row;refine (Eg aW gW V.nW kW V.W (zp pi pa pm ps pl) hnW.o _ hgl ha (fB h1) HNO.o hrow).mono ?_;rintro e w7 ⟨v7,rfl,hown,hb7⟩;clear ha hgl hrow;have kz7:xc.heap.size<=w7.heap.size:=hb7.size;obtain ⟨gN,hR,_⟩:=gZ hown;obtain ⟨aN,kN,rfl,hN⟩:=hR.is;obtain rfl:=hN (by omega);clear hN;have lN:=hR.in (by omega);have HRN:bY (RW xc.heap.size w7.heap.size w7 (zS gN (V.nW+1) kN) (V.nW+1) (dK V.W V.nW pi (zp pi pa pm ps pl)) gN):=hR;clear hown hR;clear yP0 hlP yX0 yX1 yX2 yX3 yX4 yX5 hlX;have y_w7:xc.heap.size<=w7.heap.size:=hb7.size;have B12:=fQ (ah B11.o hb7);have M12:=fQ (M11.o.q hb7);have P12:=fQ (P11.o.q hb7);have R12:=fQ (R11.o.q hb7);have X12:=fQ (X11.o.q hb7);have O12:=fQ (O11.o.q (by omega) hb7);have I12:bY (w7.cell? (zA gI q)=some (zI (V.I q))/\w7.frozen? (zA gI q)=false):=⟨(hb7.cell (p:=(zA gI q)) (by show gI<_;omega)).trans I11.o.1,(hb7.frozen (p:=(zA gI q)) (by show gI<_;omega)).trans I11.o.2⟩;clear B11 M11 P11 R11 X11 O11 I11;clear hb7;obtain ⟨yX0,yX1,yX2,yX3,yX4,yX5⟩:=X12.o.a6;have zX0:=X12.o.f6;have hlX:x8<w7.heap.size:=X12.o.1;go_upto_region 12 with fail;clear yX0 zX0 yX1 yX2 yX3 yX4 yX5 hlX;obtain ⟨w8,e8⟩:∃ W,W=w7.setCell (zA x8 1) (zS gN (V.nW+1) kN):=⟨_,rfl⟩;rw [<-e8];have z8:w8.heap.size=w7.heap.size:=by rw [e8];exact ay
    have s8:∀ b,¬ b=x8->Sm w7 w8 b:=by rw [e8];exact fun b hb=>cZ hb
    have B8:bY (Below w.heap.size w w8):=by rw [e8];exact B12.o.setCell (by show w.heap.size<=x8;omega) _
    have X8:bY (Bk w8 x8 [zI V.c,zS gN (V.nW+1) kN,zI V.g,.slice aO V.nO kO,.slice aX V.nX kX,zS gI V.nI kI]):=by rw [e8];exact X12.o.G7
    have R8:=fQ (R12.o.sm (W':=w8) (Hl z8.symm) (s8 _ (by omega)));have O8:bY (aV l0 w8.heap.size w8 (.agg #[zI V.c,zS gN (V.nW+1) kN,zI V.g,.slice aO V.nO kO,.slice aX V.nX kX,zS gI V.nI kI]) ({ V with nW:=V.nW+1,W:=dK V.W V.nW pi (zp pi pa pm ps pl) }:CV)):=by
     obtain ⟨e1,e2,e3⟩:=dH h1;exact O12.o.wk2 (base:=xc.heap.size) (by omega) (by omega) (by omega) (by omega) (by omega) (by omega) (fun b _ hb=>s8 b (by omega)) (HRN.o.go (Ho _) (Hl z8.symm) (Ho _) (fun _ _ _=>s8 _ (by omega)))
    have I8:bY (w8.cell? (zA gI q)=some (zI (V.I q))/\w8.frozen? (zA gI q)=false):=⟨(s8 gI (by omega) q).1.trans I12.o.1,(s8 gI (by omega) q).2.trans I12.o.2⟩;clear e8 s8 HRN;obtain ⟨yX0,yX1,yX2,yX3,yX4,yX5⟩:=X8.o.a6;have hlX:x8<w8.heap.size:=X8.o.1;have iq:=I8.o.1;have fq:=I8.o.2;have lg:gI<w8.heap.size:=by have:=X8.o.1;omega
    have SE:bY (∀ z,aV l0 w8.heap.size (w8.setCell (zA gI q) (zI z)) (.agg #[zI V.c,zS gN (V.nW+1) kN,zI V.g,.slice aO V.nO kO,.slice aX V.nX kX,zS gI V.nI kI]) { ({ V with nW:=V.nW+1,W:=dK V.W V.nW pi (zp pi pa pm ps pl) }:CV) with I:=jo ({ V with nW:=V.nW+1,W:=dK V.W V.nW pi (zp pi pa pm ps pl) }:CV).I q z }):=fun z=>by
     obtain ⟨gJ,eJ,_,_,_,_,_,hset⟩:=aV.ins (q:=q) (V:=({ V with nW:=V.nW+1,W:=dK V.W V.nW pi (zp pi pa pm ps pl) }:CV)) O8.o hq;simp only [Option.some.injEq,Addr.mk.injEq,and_true] at eJ;subst eJ;exact hset z
    go_upto_region 12 with fail;go_region;clear yX0 yX1 yX2 yX3 yX4 yX5 hlX iq fq lg;obtain ⟨w9,e5⟩:∃ W,W=(w8.setCell (zA gI q) (zI (V.I q+1))).drew:=⟨_,rfl⟩;rw [<-e5];have z5:w9.heap.size=w8.heap.size:=by rw [e5];exact ay
    have s5:∀ b,¬ b=gI->Sm w8 w9 b:=by rw [e5];exact fun b hb=>cZ hb
    have B5:bY (Below w.heap.size w w9):=by rw [e5];exact (B8.o.setCell (by show w.heap.size<=gI;omega) _).drew
    have X5:=fQ (X8.o.sm (W':=w9) (Hl z5.symm) (s5 _ (by omega)));have R5:=fQ (R8.o.sm (W':=w9) (Hl z5.symm) (s5 _ (by omega)));have O5:bY (aV l0 w8.heap.size w9 (.agg #[zI V.c,zS gN (V.nW+1) kN,zI V.g,.slice aO V.nO kO,.slice aX V.nX kX,zS gI V.nI kI]) { (({ V with nW:=V.nW+1,W:=dK V.W V.nW pi (zp pi pa pm ps pl) }:CV):CV) with I:=jo V.I q (V.I q+1) }):=by rw [e5];exact (SE.o (V.I q+1)).drew
    clear e5 s5 SE;obtain ⟨yX0,yX1,yX2,yX3,yX4,yX5⟩:=X5.o.a6;have hlX:x8<w9.heap.size:=X5.o.1;obtain ⟨yR0,yR1,yR2,yR3,yR4,yR5⟩:=R5.o.a6;have zR0:=R5.o.f6;have hlR:(w.heap.size+1+1+1)<w9.heap.size:=R5.o.1;go_wp2;refine Hw (v:=.tuple #[.agg #[zI V.c,zS gN (V.nW+1) kN,zI V.g,.slice aO V.nO kO,.slice aX V.nX kX,zS gI V.nI kI],.bool true]) (by simp [results,Tryz.results100,go_sem,yR0,yR1,yR2,yR3,yR4,yR5]) rfl ?_;have hzz:=au w9 (w.heap.size+1+1+1) (.int .i64 V.c) (.slice (some ⟨gN,0,none⟩) (V.nW+1) kN) (.int .i64 V.g) (.slice aO V.nO kO) (.slice aX V.nX kX) (.slice (some ⟨gI,0,none⟩) V.nI kI);have hzw:w8.heap.size<=w9.heap.size:=by have:=X5.o.1;omega
    refine ⟨⟨.agg #[zI V.c,zS gN (V.nW+1) kN,zI V.g,.slice aO V.nO kO,.slice aX V.nX kX,zS gI V.nI kI],by rw [ht.o],?_⟩,ax B5.o (by omega) _ _ _ _ _ _⟩;rw [xN ht.o];show aV w.heap.size (aG w9 (w.heap.size+1+1+1) (zI V.c) (zS gN (V.nW+1) kN) (zI V.g) (.slice aO V.nO kO) (.slice aX V.nX kX) (zS gI V.nI kI)).heap.size (aG w9 (w.heap.size+1+1+1) (zI V.c) (zS gN (V.nW+1) kN) (zI V.g) (.slice aO V.nO kO) (.slice aX V.nX kX) (zS gI V.nI kI)) _ _;rw [hzz];exact O5.o.more (by omega) hzw (Hl hzz.symm) (fun y h1 h2=>aH (by omega) (zI V.c) (zS gN (V.nW+1) kN) (zI V.g) (.slice aO V.nO kO) (.slice aX V.nX kX) (zS gI V.nI kI))
   obtain ⟨yX0,yX1,yX2,yX3,yX4,yX5⟩:=X11.o.a6;have hlX:x8<xc.heap.size:=X11.o.1;obtain ⟨yR0,yR1,yR2,yR3,yR4,yR5⟩:=R11.o.a6;have zR0:=R11.o.f6;have hlR:(w.heap.size+1+1+1)<xc.heap.size:=R11.o.1;go_wp2;refine Hw (v:=.tuple #[.agg #[zI V.c,.slice aW V.nW kW,zI V.g,.slice aO V.nO kO,.slice aX V.nX kX,zS gI V.nI kI],.bool false]) (by simp [results,Tryz.results100,go_sem,yR0,yR1,yR2,yR3,yR4,yR5]) rfl ?_;have hzz:=au xc (w.heap.size+1+1+1) (.int .i64 V.c) (.slice aW V.nW kW) (.int .i64 V.g) (.slice aO V.nO kO) (.slice aX V.nX kX) (.slice (some ⟨gI,0,none⟩) V.nI kI);have hzw:x8<=xc.heap.size:=by have:=X11.o.1;omega
   refine ⟨⟨.agg #[zI V.c,.slice aW V.nW kW,zI V.g,.slice aO V.nO kO,.slice aX V.nX kX,zS gI V.nI kI],by rw [ht.o],?_⟩,ax B11.o (by omega) _ _ _ _ _ _⟩;rw [rY (pm:=pm) (ps:=ps) (pl:=pl) ht.o];show aV w.heap.size (aG xc (w.heap.size+1+1+1) (zI V.c) (.slice aW V.nW kW) (zI V.g) (.slice aO V.nO kO) (.slice aX V.nX kX) (zS gI V.nI kI)).heap.size (aG xc (w.heap.size+1+1+1) (zI V.c) (.slice aW V.nW kW) (zI V.g) (.slice aO V.nO kO) (.slice aX V.nX kX) (zS gI V.nI kI)) _ _;rw [hzz];exact O11.o.more (by omega) hzw (Hl hzz.symm) (fun y h1 h2=>aH (by omega) (zI V.c) (.slice aW V.nW kW) (zI V.g) (.slice aO V.nO kO) (.slice aX V.nX kX) (zS gI V.nI kI))
  have HMm:bY (First V.W V.nW pi m):=hm;have hmp:(dA V.W V.nW pi).isSome=true:=by rw [<-hm.2.1,Fh h1 m hm.1];rfl
  have ht:bY (takeB c d V (dA V.W V.nW) q pn 1 pi pa pc=false):=by unfold bY;simp [takeB,hne,mg,hmp]
  clear hmp hm;have yP0:=P3.o.a8;have hlP:(w.heap.size+1+1)<w2.heap.size:=P3.o.1;have yX0:w2.cell? (zA x8 0)=some (zI V.c):=(X5.o.2 0 (by simp)).1;have yX1:w2.cell? (zA x8 1)=some (.slice aW V.nW kW):=(X5.o.2 1 (by simp)).1;have yX2:w2.cell? (zA x8 2)=some (zI V.g):=(X5.o.2 2 (by simp)).1;have yX3:w2.cell? (zA x8 3)=some (.slice aO V.nO kO):=(X5.o.2 3 (by simp)).1;have yX4:w2.cell? (zA x8 4)=some (.slice aX V.nX kX):=(X5.o.2 4 (by simp)).1;have yX5:w2.cell? (zA x8 5)=some (zS gI V.nI kI):=(X5.o.2 5 (by simp)).1;have hlX:x8<w2.heap.size:=X5.o.1;have iq:=I7.o.1;have fq:=I7.o.2;have lg:gI<w2.heap.size:=by have:=X5.o.1;omega
  go_upto_region 2 with fail;go_quiet (fail);obtain ⟨w3,e3⟩:∃ W,W=w2.drewN nq:=⟨_,rfl⟩;rw [<-e3];have k3:Below w2.heap.size w2 w3:=by rw [e3];exact bZ (Hr _ _) _
  have kz:w2.heap.size<=w3.heap.size:=k3.size;clear e3;clear yP0 hlP yX0 yX1 yX2 yX3 yX4 yX5 hlX iq fq lg;have y_w3:w2.heap.size<=w3.heap.size:=k3.size;have B8:=fQ (ah B1.o k3);have M8:=fQ (M2.o.q k3);have P8:=fQ (P3.o.q k3);have R8:=fQ (R4.o.q k3);have X8:bY (Bk w3 x8 [zI V.c,.slice aW V.nW kW,zI V.g,.slice aO V.nO kO,.slice aX V.nX kX,zS gI V.nI kI]):=X5.o.q k3;have O8:=fQ (O6.o.q (by omega) k3);have I8:bY (w3.cell? (zA gI q)=some (zI (V.I q))/\w3.frozen? (zA gI q)=false):=⟨(k3.cell (p:=(zA gI q)) (by show gI<_;omega)).trans I7.o.1,(k3.frozen (p:=(zA gI q)) (by show gI<_;omega)).trans I7.o.2⟩;clear B1 M2 P3 R4 X5 O6 I7;clear k3;have yP0:=P8.o.a8;have hlP:(w.heap.size+1+1)<w3.heap.size:=P8.o.1;obtain ⟨yX0,yX1,yX2,yX3,yX4,yX5⟩:=X8.o.a6;have hlX:x8<w3.heap.size:=X8.o.1;go_wp2_with fail;obtain ⟨gW,ha,hgl,hrow⟩:=O8.o.row;refine (pG pi aW gW V.nW kW m V.W (by have:=hnW.o;omega) _ hgl ha HMm.o hrow).mono ?_;rintro e w4 ⟨rfl,hb4⟩;clear ha hgl hrow;have kz4:w3.heap.size<=w4.heap.size:=hb4.size;clear yP0 hlP yX0 yX1 yX2 yX3 yX4 yX5 hlX;have y_w4:w3.heap.size<=w4.heap.size:=hb4.size;have B9:=fQ (ah B8.o hb4);have M9:=fQ (M8.o.q hb4);have P9:=fQ (P8.o.q hb4);have R9:=fQ (R8.o.q hb4);have X9:=fQ (X8.o.q hb4);have O9:=fQ (O8.o.q (by omega) hb4);have I9:bY (w4.cell? (zA gI q)=some (zI (V.I q))/\w4.frozen? (zA gI q)=false):=⟨(hb4.cell (p:=(zA gI q)) (by show gI<_;omega)).trans I8.o.1,(hb4.frozen (p:=(zA gI q)) (by show gI<_;omega)).trans I8.o.2⟩;clear B8 M8 P8 R8 X8 O8 I8;clear hb4;go_upto_region 9 with fail;obtain ⟨w5,e5⟩:∃ W,W=w4.alloc (.cells (zF (V.W m)).toArray 67):=⟨_,rfl⟩;rw [<-e5];have hb5:Below w4.heap.size w4 w5:=by rw [e5];exact (Hr _ _).alloc (Ho _) _
  have kz5:w4.heap.size<=w5.heap.size:=hb5.size;clear e5;have y_w5:w4.heap.size<=w5.heap.size:=hb5.size;have B10:=fQ (ah B9.o hb5);have M10:=fQ (M9.o.q hb5);have P10:=fQ (P9.o.q hb5);have R10:=fQ (R9.o.q hb5);have X10:=fQ (X9.o.q hb5);have O10:=fQ (O9.o.q (by omega) hb5);have I10:bY (w5.cell? (zA gI q)=some (zI (V.I q))/\w5.frozen? (zA gI q)=false):=⟨(hb5.cell (p:=(zA gI q)) (by show gI<_;omega)).trans I9.o.1,(hb5.frozen (p:=(zA gI q)) (by show gI<_;omega)).trans I9.o.2⟩;clear B9 M9 P9 R9 X9 O9 I9;clear hb5;have yP0:=P10.o.a8;have hlP:(w.heap.size+1+1)<w5.heap.size:=P10.o.1;obtain ⟨yX0,yX1,yX2,yX3,yX4,yX5⟩:=X10.o.a6;have hlX:x8<w5.heap.size:=X10.o.1;obtain ⟨yM0,yM1⟩:=M10.o.a2;have hlM:w.heap.size<w5.heap.size:=M10.o.1;go_quiet (fail);obtain ⟨w6,e3⟩:∃ W,W=w5.drewN nq:=⟨_,rfl⟩;rw [<-e3];have k3:Below w5.heap.size w5 w6:=by rw [e3];exact bZ (Hr _ _) _
  have kz:w5.heap.size<=w6.heap.size:=k3.size;clear e3;clear yP0 hlP yX0 yX1 yX2 yX3 yX4 yX5 hlX yM0 yM1 hlM;have y_w6:w5.heap.size<=w6.heap.size:=k3.size;have B11:=fQ (ah B10.o k3);have M11:=fQ (M10.o.q k3);have P11:=fQ (P10.o.q k3);have R11:=fQ (R10.o.q k3);have X11:=fQ (X10.o.q k3);have O11:=fQ (O10.o.q (by omega) k3);have I11:bY (w6.cell? (zA gI q)=some (zI (V.I q))/\w6.frozen? (zA gI q)=false):=⟨(k3.cell (p:=(zA gI q)) (by show gI<_;omega)).trans I10.o.1,(k3.frozen (p:=(zA gI q)) (by show gI<_;omega)).trans I10.o.2⟩;clear B10 M10 P10 R10 X10 O10 I10;clear k3;obtain ⟨yX0,yX1,yX2,yX3,yX4,yX5⟩:=X11.o.a6;have hlX:x8<w6.heap.size:=X11.o.1;obtain ⟨yR0,yR1,yR2,yR3,yR4,yR5⟩:=R11.o.a6;have zR0:=R11.o.f6;have hlR:(w.heap.size+1+1+1)<w6.heap.size:=R11.o.1;go_wp2;refine Hw (v:=.tuple #[.agg #[zI V.c,.slice aW V.nW kW,zI V.g,.slice aO V.nO kO,.slice aX V.nX kX,zS gI V.nI kI],.bool false]) (by simp [results,Tryz.results100,go_sem,yR0,yR1,yR2,yR3,yR4,yR5]) rfl ?_;have hzz:=au w6 (w.heap.size+1+1+1) (.int .i64 V.c) (.slice aW V.nW kW) (.int .i64 V.g) (.slice aO V.nO kO) (.slice aX V.nX kX) (.slice (some ⟨gI,0,none⟩) V.nI kI);have hzw:x8<=w6.heap.size:=by have:=X11.o.1;omega
  refine ⟨⟨.agg #[zI V.c,.slice aW V.nW kW,zI V.g,.slice aO V.nO kO,.slice aX V.nX kX,zS gI V.nI kI],by rw [ht.o],?_⟩,ax B11.o (by omega) _ _ _ _ _ _⟩;rw [rY (pm:=pm) (ps:=ps) (pl:=pl) ht.o];show aV w.heap.size (aG w6 (w.heap.size+1+1+1) (zI V.c) (.slice aW V.nW kW) (zI V.g) (.slice aO V.nO kO) (.slice aX V.nX kX) (zS gI V.nI kI)).heap.size (aG w6 (w.heap.size+1+1+1) (zI V.c) (.slice aW V.nW kW) (zI V.g) (.slice aO V.nO kO) (.slice aX V.nX kX) (zS gI V.nI kI)) _ _;rw [hzz];exact O11.o.more (by omega) hzw (Hl hzz.symm) (fun y h1 h2=>aH (by omega) (zI V.c) (.slice aW V.nW kW) (zI V.g) (.slice aO V.nO kO) (.slice aX V.nX kX) (zS gI V.nI kI))
 have ht:bY (takeB c d V (dA V.W V.nW) q pn 1 pi pa pc=false):=by unfold bY;simp [takeB,hne]
 have yP0:=P3.o.a8;have hlP:(w.heap.size+1+1)<w2.heap.size:=P3.o.1;have yX0:w2.cell? (zA x8 0)=some (zI V.c):=(X5.o.2 0 (by simp)).1;have yX1:w2.cell? (zA x8 1)=some (.slice aW V.nW kW):=(X5.o.2 1 (by simp)).1;have yX2:w2.cell? (zA x8 2)=some (zI V.g):=(X5.o.2 2 (by simp)).1;have yX3:w2.cell? (zA x8 3)=some (.slice aO V.nO kO):=(X5.o.2 3 (by simp)).1;have yX4:w2.cell? (zA x8 4)=some (.slice aX V.nX kX):=(X5.o.2 4 (by simp)).1;have yX5:w2.cell? (zA x8 5)=some (zS gI V.nI kI):=(X5.o.2 5 (by simp)).1;have hlX:x8<w2.heap.size:=X5.o.1;have iq:=I7.o.1;have fq:=I7.o.2;have lg:gI<w2.heap.size:=by have:=X5.o.1;omega
 go_upto_region 2 with fail;go_quiet (fail);obtain ⟨w3,e3⟩:∃ W,W=w2.drewN nq:=⟨_,rfl⟩;rw [<-e3];have k3:Below w2.heap.size w2 w3:=by rw [e3];exact bZ (Hr _ _) _
 have kz:w2.heap.size<=w3.heap.size:=k3.size;clear e3;clear yP0 hlP yX0 yX1 yX2 yX3 yX4 yX5 hlX iq fq lg;have y_w3:w2.heap.size<=w3.heap.size:=k3.size;have B8:=fQ (ah B1.o k3);have M8:=fQ (M2.o.q k3);have P8:=fQ (P3.o.q k3);have R8:=fQ (R4.o.q k3);have X8:bY (Bk w3 x8 [zI V.c,.slice aW V.nW kW,zI V.g,.slice aO V.nO kO,.slice aX V.nX kX,zS gI V.nI kI]):=X5.o.q k3;have O8:=fQ (O6.o.q (by omega) k3);have I8:bY (w3.cell? (zA gI q)=some (zI (V.I q))/\w3.frozen? (zA gI q)=false):=⟨(k3.cell (p:=(zA gI q)) (by show gI<_;omega)).trans I7.o.1,(k3.frozen (p:=(zA gI q)) (by show gI<_;omega)).trans I7.o.2⟩;clear B1 M2 P3 R4 X5 O6 I7;clear k3;obtain ⟨yX0,yX1,yX2,yX3,yX4,yX5⟩:=X8.o.a6;have hlX:x8<w3.heap.size:=X8.o.1;obtain ⟨yR0,yR1,yR2,yR3,yR4,yR5⟩:=R8.o.a6;have zR0:=R8.o.f6;have hlR:(w.heap.size+1+1+1)<w3.heap.size:=R8.o.1;go_wp2;refine Hw (v:=.tuple #[.agg #[zI V.c,.slice aW V.nW kW,zI V.g,.slice aO V.nO kO,.slice aX V.nX kX,zS gI V.nI kI],.bool false]) (by simp [results,Tryz.results100,go_sem,yR0,yR1,yR2,yR3,yR4,yR5]) rfl ?_;have hzz:=au w3 (w.heap.size+1+1+1) (.int .i64 V.c) (.slice aW V.nW kW) (.int .i64 V.g) (.slice aO V.nO kO) (.slice aX V.nX kX) (.slice (some ⟨gI,0,none⟩) V.nI kI);have hzw:x8<=w3.heap.size:=by have:=X8.o.1;omega
 refine ⟨⟨.agg #[zI V.c,.slice aW V.nW kW,zI V.g,.slice aO V.nO kO,.slice aX V.nX kX,zS gI V.nI kI],by rw [ht.o],?_⟩,ax B8.o (by omega) _ _ _ _ _ _⟩;rw [rY (pm:=pm) (ps:=ps) (pl:=pl) ht.o];show aV w.heap.size (aG w3 (w.heap.size+1+1+1) (zI V.c) (.slice aW V.nW kW) (zI V.g) (.slice aO V.nO kO) (.slice aX V.nX kX) (zS gI V.nI kI)).heap.size (aG w3 (w.heap.size+1+1+1) (zI V.c) (.slice aW V.nW kW) (zI V.g) (.slice aO V.nO kO) (.slice aX V.nX kX) (zS gI V.nI kI)) _ _;rw [hzz];exact O8.o.more (by omega) hzw (Hl hzz.symm) (fun y h1 h2=>aH (by omega) (zI V.c) (.slice aW V.nW kW) (zI V.g) (.slice aO V.nO kO) (.slice aX V.nX kX) (zS gI V.nI kI))
theorem Au (c d pn pk pi pa pm ps pl pc:Int) (v:Value) (V:CV) (lo q:Nat) (hk:pk=1∨pk=2) (h1:bD c d V=true) (hs0:V.short 1048576) (hn0:V.nW+1<=1048576) (hq:q<V.nI) (hI:0<=V.I q/\V.I q<=5000) (hg:0<=V.g/\V.g<=900) (hpc:0<=pc/\pc<=900) (w:World) (h:dL w v V) :
 Hz 100 #[.agg #[zI c,zI d],v,zI (q:Int),.agg #[zI pn,zI pk,zI pi,zI pa,zI pm,zI ps,zI pl,zI pc]] w fun e w'=>(∃ u,e=.returned (.tuple #[u,.bool (takeB c d V (dA V.W V.nW) q pn pk pi pa pc)])/\aV w.heap.size w'.heap.size w' u (CV.inn c d V q pn pk pi pa pm ps pl pc))/\Below w.heap.size w w':=by
 rcases hk with rfl | rfl
 ·exact yP c d pn pi pa pm ps pl pc v V lo q h1 hs0 hn0 hq hI hg hpc w h
 exact xW c d pn pi pa pm ps pl pc v V lo q h1 hs0 hn0 hq hI hg hpc w h
