/- What is carried: lemmas on lists, cells and draws; conditions: those typed. -/
import Derived.Test.YtngaboipleimcabGreatDoorMo11
set_option linter.unusedVariables false
set_option maxHeartbeats 8000000
set_option maxRecDepth 20000
namespace Go.Proofs.YtngaboipleimcabGreatDoor
open Go.RowKit Go.Deep
theorem aV.wk2 {lo hi base n g:Nat} {w w':World} {x0 x1 x2 x3 x4 x5 v:Value} {V:CV} {Z:Nat->Nat->Int} (h:aV lo hi w (.agg #[x0,x1,x2,x3,x4,x5]) V) (hO:V.nO≠0) (hX:V.nX≠0) (hI:V.nI≠0) (hn:n≠0) (h1:hi<=base) (h2:base<=w'.heap.size) (k:∀ b,lo<=b->b<hi->Sm w w' b) (hR:RW base w'.heap.size w' v n Z g) :
 aV lo w'.heap.size w' (.agg #[zI V.c,v,zI V.g,x3,x4,x5]) { V with nW:=n,W:=Z }:=by
 obtain ⟨vW,vO,vX,vI,gW,gO,gX,gI,sl,xs,e,rW,rO,rX,rI,⟨d1,d2,d3,d4,d5,d6⟩,aa,ac⟩:=h;obtain ⟨rfl,rfl,rfl,rfl⟩:=kV e;have hh:hi<=w'.heap.size:=Hq h1 h2;have lX:=rX.in hX;have lI:=rI.in hI;have lg:=hR.in hn;rcases rO with ⟨e,_⟩ | ⟨co,e1,l1,l2,l3,hc⟩
 ·exact absurd e hO
 subst e1;have ad:lo<=base:=by omega
 have lx:∀ j,j<V.nO->V.N j≠0->xs j<hi:=fun j hj e=>((hc j hj).2.in e).2;refine jL (V:={ V with nW:=n,W:=Z }) (gW:=g) (gO:=gO) (gX:=gX) (gI:=gI) (sl:=sl) (xs:=xs) (hR.go ad (Ho _) (Ho _) (fun _ _ _=>Sm.refl _ _)) l1 (by omega) (Ho _) (fun j hj=>⟨(k gO l1 l2 j).1.trans (hc j hj).1,(hc j hj).2.go (Ho _) hh (Ho _) (fun _=>k _)⟩) (rX.go (Ho _) hh (Ho _) (fun _=>k _)) (rI.go (Ho _) hh (Ho _) (fun _=>k _)) (fun _=>by omega) (fun _ _=>by omega) (fun _ _=>by omega) (fun _=>d4) (fun _=>d5) (fun _ _=>d6) (fun j hj e=>⟨fun _=>by have:=lx j hj e;omega,(aa j hj).2.1,fun _=>(aa j hj).2.2.1,fun _=>(aa j hj).2.2.2⟩) (fun i j ab hj _ _=>ac i j (Nat.lt_trans ab hj) hj (Nat.ne_of_lt ab))
theorem yP (c d pn pi pa pm ps pl pc:Int) (v:Value) (V:CV) (lo q:Nat) (h1:bD c d V=true) (bS:V.short 1048576) (b6:V.nW+1<=1048576) (hq:q<V.nI) (hI:0<=V.I q/\V.I q<=5000) (hg:0<=V.g/\V.g<=900) (cn:0<=pc/\pc<=900) (w:World) (h:dL w v V) :
 Hz 100 #[.agg #[zI c,zI d],v,zI (q:Int),.agg #[zI pn,zI 1,zI pi,zI pa,zI pm,zI ps,zI pl,zI pc]] w fun e w'=>(∃ u,e=.returned (.tuple #[u,.bool (takeB c d V (dA V.W V.nW) q pn 1 pi pa pc)])/\aV w.heap.size w'.heap.size w' u (CV.inn c d V q pn 1 pi pa pm ps pl pc))/\Below w.heap.size w w':=by
 obtain ⟨bw,bO,bX,bI,cW,cO,cX,cI,q2,q3,q4,rfl,g1,g2,g3,g4⟩:=h;have CP:bY (dL w (.agg (zG V bw cW bO cO bX cX bI cI).toArray) V):=⟨bw,bO,bX,bI,cW,cO,cX,cI,q2,q3,q4,rfl,g1,g2,g3,g4⟩;have hs:bY (V.short 1048576):=bS;have bR:bY (V.nW+1<=1048576):=b6;clear g1 g2 g3 g4 bS b6 q2 q3 q4;go_enter Tryz.func100,Tryz.ntmps100;go_wp2_with fail;obtain ⟨w0,e0,B0,M0,-,P0,R0,z0⟩:=F8 w [zI c,zI d] 44 (zG V bw cW bO cO bX cX bI cI) 36 [zI pn,zI 1,zI pi,zI pa,zI pm,zI ps,zI pl,zI pc] 69 zN 36;rw [<-e0];clear e0;refine (fC _ V hs.o _ (CP.o.q B0.o)).mono ?_;rintro e w1 ⟨⟨v1,rfl,hO,hT,_⟩,bA⟩;obtain ⟨aW,kW,aO,kO,aX,kX,aI,kI,rfl,_,_,_,_⟩:=hO.at;clear hT;have z1:w0.heap.size<=w1.heap.size:=bA.size;have HO:bY (aV w0.heap.size w1.heap.size w1 (.agg (zD V aW kW aO kO aX kX aI kI).toArray) V):=hO;clear hO;have b0:bY (Below w0.heap.size w0 w1):=bA;clear bA;go_wp2_with fail;obtain ⟨w2,e2⟩:∃ w2,w2=w1.alloc (.cells (zD V aW kW aO kO aX kX aI kI).toArray 36):=⟨_,rfl⟩;have k2:Below w1.heap.size w1 w2:=by rw [e2];exact (Hr _ _).alloc (Ho _) _
 have X2:Bk w2 w1.heap.size (zD V aW kW aO kO aX kX aI kI):=by rw [e2];exact aU w1 36 (zD V aW kW aO kO aX kX aI kI)
 have z2:w1.heap.size<w2.heap.size:=X2.1;rw [<-e2];clear e2;have bk:Below w0.heap.size w0 w2:=ah b0.o k2;have B1:=fQ (ah B0.o bk);have M2:=fQ (M0.o.q bk);have P3:=fQ (P0.o.q bk);have R4:=fQ (R0.o.q bk);have O2:=HO.o.q (Ho _) k2;clear B0 M0 P0 R0 HO b0 k2 bk;obtain ⟨gI,rfl,g1,g2,g3,iq,fq,a0⟩:=O2.ins hq;clear a0;generalize w1.heap.size=x8 at *;generalize w0.heap.size=l0 at *;have X5:bY (Bk w2 x8 [zI V.c,.slice aW V.nW kW,zI V.g,.slice aO V.nO kO,.slice aX V.nX kX,zS gI V.nI kI]):=X2;have O6:bY (aV l0 x8 w2 (.agg #[zI V.c,.slice aW V.nW kW,zI V.g,.slice aO V.nO kO,.slice aX V.nX kX,zS gI V.nI kI]) V):=O2;have I7:bY (w2.cell? (zA gI q)=some (zI (V.I q))/\w2.frozen? (zA gI q)=false):=⟨iq,fq⟩;clear X2 O2 iq fq;have cm:(q:Int)<V.nI:=by omega
 cases bv:(pn != V.I q)
 ·rcases rP V.W pi V.nW with b5 | ⟨m,hm⟩
  ·have bC:bY (pK V.W V.nW pi):=b5;clear b5;have be:dA V.W V.nW pi=none:=by
    cases e:dA V.W V.nW pi
    ·rfl
    obtain ⟨m,h1,h2⟩:=uX V.nW (show (dA V.W V.nW pi).isSome=true by rw [e];rfl);exact absurd h2 (bC.o m h1)
   have bW:bY (takeB c d V (dA V.W V.nW) q pn 1 pi pa pc=(aQ c d pa == V.c)):=by unfold bY;simp [takeB,bv,mg,be]
   clear be;cases b3:(aQ c d pa != V.c)
   case' _=>have b4:=trivial
   all_goals
    first | have ht:bY (takeB c d V (dA V.W V.nW) q pn 1 pi pa pc=true):=by unfold bY;rw [bW.o];simpa using b3 | have ht:bY (takeB c d V (dA V.W V.nW) q pn 1 pi pa pc=false):=by unfold bY;rw [bW.o];simpa using b3
    have ao:=P3.o.a8
    have ap:(w.heap.size+1+1)<w2.heap.size:=P3.o.1
    obtain ⟨ae,am,ad,ac,ak,aa⟩:=X5.o.a6
    have al:x8<w2.heap.size:=X5.o.1
    have iq:=I7.o.1
    have fq:=I7.o.2
    have lg:gI<w2.heap.size:=by have:=X5.o.1;omega
    go_upto_region 2 with fail
    go_quiet (fail)
    obtain ⟨w3,e3⟩:∃ W,W=w2.drewN nq:=⟨_,rfl⟩
    rw [<-e3]
    have k3:Below w2.heap.size w2 w3:=by rw [e3];exact bZ (Hr _ _) _
    have kz:w2.heap.size<=w3.heap.size:=k3.size
    clear e3
    clear ao ap ae am ad ac ak aa al iq fq lg
    have bh:w2.heap.size<=w3.heap.size:=k3.size
    have B8:=fQ (ah B1.o k3)
    have M8:=fQ (M2.o.q k3)
    have P8:=fQ (P3.o.q k3)
    have R8:=fQ (R4.o.q k3)
    have X8:=fQ (X5.o.q k3)
    have O8:=fQ (O6.o.q (by omega) k3)
    have I8:bY (w3.cell? (zA gI q)=some (zI (V.I q))/\w3.frozen? (zA gI q)=false):=⟨(k3.cell (p:=(zA gI q)) (by show gI<_;omega)).trans I7.o.1,(k3.frozen (p:=(zA gI q)) (by show gI<_;omega)).trans I7.o.2⟩
    clear B1 M2 P3 R4 X5 O6 I7
    clear k3
    have ao:=P8.o.a8
    have ap:(w.heap.size+1+1)<w3.heap.size:=P8.o.1
    obtain ⟨ae,am,ad,ac,ak,aa⟩:=X8.o.a6
    have al:x8<w3.heap.size:=X8.o.1
    go_wp2_with fail
    obtain ⟨gW,ha,aL,an⟩:=O8.o.row
    refine (o8 pi aW gW V.nW kW V.W (by have:=bR.o;omega) _ aL ha bC.o an).mono ?_
    rintro e w4 ⟨rfl,ag⟩
    clear ha aL an
    have ce:w3.heap.size<=w4.heap.size:=ag.size
    clear ao ap ae am ad ac ak aa al
    have bz:w3.heap.size<=w4.heap.size:=ag.size
    have B9:=fQ (ah B8.o ag)
    have M9:=fQ (M8.o.q ag)
    have P9:=fQ (P8.o.q ag)
    have R9:=fQ (R8.o.q ag)
    have X9:=fQ (X8.o.q ag)
    have O9:=fQ (O8.o.q (by omega) ag)
    have I9:bY (w4.cell? (zA gI q)=some (zI (V.I q))/\w4.frozen? (zA gI q)=false):=⟨(ag.cell (p:=(zA gI q)) (by show gI<_;omega)).trans I8.o.1,(ag.frozen (p:=(zA gI q)) (by show gI<_;omega)).trans I8.o.2⟩
    clear B8 M8 P8 R8 X8 O8 I8
    clear ag
    go_upto_region 9 with fail
    obtain ⟨w5,e5⟩:∃ W,W=w4.alloc (.cells z5.toArray 67):=⟨_,rfl⟩
    rw [<-e5]
    have ab:Below w4.heap.size w4 w5:=by rw [e5];exact (Hr _ _).alloc (Ho _) _
    have b8:w4.heap.size<=w5.heap.size:=ab.size
    clear e5
    have bu:w4.heap.size<=w5.heap.size:=ab.size
    have bm:=fQ (ah B9.o ab)
    have az:=fQ (M9.o.q ab)
    have aE:=fQ (P9.o.q ab)
    have bi:=fQ (R9.o.q ab)
    have aw:=fQ (X9.o.q ab)
    have bl:=fQ (O9.o.q (by omega) ab)
    have bb:bY (w5.cell? (zA gI q)=some (zI (V.I q))/\w5.frozen? (zA gI q)=false):=⟨(ab.cell (p:=(zA gI q)) (by show gI<_;omega)).trans I9.o.1,(ab.frozen (p:=(zA gI q)) (by show gI<_;omega)).trans I9.o.2⟩
    clear B9 M9 P9 R9 X9 O9 I9
    clear ab
    have ao:=aE.o.a8
    have ap:(w.heap.size+1+1)<w5.heap.size:=aE.o.1
    obtain ⟨ae,am,ad,ac,ak,aa⟩:=aw.o.a6
    have al:x8<w5.heap.size:=aw.o.1
    obtain ⟨bB,bL⟩:=az.o.a2
    have bt:w.heap.size<w5.heap.size:=az.o.1
    refine Hu (S:=fun w'=>Below (w5.heap.size) w5 w') (by kernel_rfl) ((Hr _ _).drew) ?_
    intro af
    obtain ⟨X0,br⟩:∃ X,X=w5.drew:=⟨_,rfl⟩
    have co:w5.heap.size<=X0.heap.size:=by rw [br];exact Ho _
    rw [<-br] at af ⊢
    clear br
    refine bF 0 (.bool false) rfl ?_
    refine bF 1 (.bool false) rfl ?_
    refine bF 2 (.agg #[zI c,zI d]) rfl ?_
    refine bF 3 (zP (w.heap.size+1+1) 2) rfl ?_
    refine bF 7 (zP x8 0) rfl ?_
    refine bF 4 (zP (w.heap.size+1+1) 3) rfl ?_
    refine bF 8 (zI V.c) rfl ?_
    refine bF 5 (zI pa) rfl ?_
    refine di 6 rfl fun K hK=>?_
    go_simp
    go_wp2_with fail
    refine (dD c d pa _).mono ?_
    rintro e xc ⟨rfl,b1⟩
    have bs:=b1.size
    refine hK.out _ _ (bJ af (by omega) b1) (fun ai=>?_)
    clear hK K af
    have af:=ai
    clear ai
    try simp only [aT]
    first | (guard_hyp b4;refine bF 9 (.bool false) rfl ?_) | refine bF 9 (.bool true) rfl ?_
    try simp only [aT]
    first | (guard_hyp b4;refine bF 10 (.bool false) rfl ?_) | refine bF 10 (.bool true) rfl ?_
    try simp only [aT]
    refine Hy (by kernel_rfl) ?_ _
    have cj:w5.heap.size<=xc.heap.size:=af.size
    clear ao ap ae am ad ac ak aa al bB bL bt
    have cc:w5.heap.size<=xc.heap.size:=af.size
    have bd:=fQ (ah bm.o af)
    have bx:=fQ (az.o.q af)
    have bj:=fQ (aE.o.q af)
    have aD:=fQ (bi.o.q af)
    have av:=fQ (aw.o.q af)
    have bc:=fQ (bl.o.q (by omega) af)
    have bp:bY (xc.cell? (zA gI q)=some (zI (V.I q))/\xc.frozen? (zA gI q)=false):=⟨(af.cell (p:=(zA gI q)) (by show gI<_;omega)).trans bb.o.1,(af.frozen (p:=(zA gI q)) (by show gI<_;omega)).trans bb.o.2⟩
    clear bm az aE bi aw bl bb
    clear af
   ·have ao:=bj.o.a8;have ap:(w.heap.size+1+1)<xc.heap.size:=bj.o.1;obtain ⟨ae,am,ad,ac,ak,aa⟩:=av.o.a6;have al:x8<xc.heap.size:=av.o.1;go_wp2_with fail;obtain ⟨gW,ha,aL,an⟩:=bc.o.row;refine (Eg aW gW V.nW kW V.W (zp pi pa pm ps pl) bR.o _ aL ha (fB h1) bC.o an).mono ?_;rintro e w7 ⟨v7,rfl,bo,ar⟩;clear ha aL an;have ci:xc.heap.size<=w7.heap.size:=ar.size;obtain ⟨gN,hR,_⟩:=gZ bo;obtain ⟨aN,kN,rfl,hN⟩:=hR.is;obtain rfl:=hN (by omega);clear hN;have lN:=hR.in (by omega);have b7:bY (RW xc.heap.size w7.heap.size w7 (zS gN (V.nW+1) kN) (V.nW+1) (dK V.W V.nW pi (zp pi pa pm ps pl)) gN):=hR;clear bo hR;clear ao ap ae am ad ac ak aa al;have cb:xc.heap.size<=w7.heap.size:=ar.size;have ca:=fQ (ah bd.o ar);have ck:=fQ (bx.o.q ar);have cl:=fQ (bj.o.q ar);have b9:=fQ (aD.o.q ar);have bq:=fQ (av.o.q ar);have ch:=fQ (bc.o.q (by omega) ar);have b2:bY (w7.cell? (zA gI q)=some (zI (V.I q))/\w7.frozen? (zA gI q)=false):=⟨(ar.cell (p:=(zA gI q)) (by show gI<_;omega)).trans bp.o.1,(ar.frozen (p:=(zA gI q)) (by show gI<_;omega)).trans bp.o.2⟩;clear bd bx bj aD av bc bp;clear ar;obtain ⟨ae,am,ad,ac,ak,aa⟩:=bq.o.a6;have cf:=bq.o.f6;have al:x8<w7.heap.size:=bq.o.1;go_upto_region 12 with fail;clear ae cf am ad ac ak aa al;obtain ⟨w8,e8⟩:∃ W,W=w7.setCell (zA x8 1) (zS gN (V.nW+1) kN):=⟨_,rfl⟩;rw [<-e8];have z8:w8.heap.size=w7.heap.size:=by rw [e8];exact ay
    have s8:∀ b,¬ b=x8->Sm w7 w8 b:=by rw [e8];exact fun b hb=>cZ hb
    have B8:bY (Below w.heap.size w w8):=by rw [e8];exact ca.o.setCell (by show w.heap.size<=x8;omega) _
    have X8:bY (Bk w8 x8 [zI V.c,zS gN (V.nW+1) kN,zI V.g,.slice aO V.nO kO,.slice aX V.nX kX,zS gI V.nI kI]):=by rw [e8];exact bq.o.G7
    have R8:=fQ (b9.o.sm (W':=w8) (Hl z8.symm) (s8 _ (by omega)));have O8:bY (aV l0 w8.heap.size w8 (.agg #[zI V.c,zS gN (V.nW+1) kN,zI V.g,.slice aO V.nO kO,.slice aX V.nX kX,zS gI V.nI kI]) ({ V with nW:=V.nW+1,W:=dK V.W V.nW pi (zp pi pa pm ps pl) }:CV)):=by
     obtain ⟨e1,e2,e3⟩:=dH h1;exact ch.o.wk2 (base:=xc.heap.size) (by omega) (by omega) (by omega) (by omega) (by omega) (by omega) (fun b _ hb=>s8 b (by omega)) (b7.o.go (Ho _) (Hl z8.symm) (Ho _) (fun _ _ _=>s8 _ (by omega)))
    have I8:bY (w8.cell? (zA gI q)=some (zI (V.I q))/\w8.frozen? (zA gI q)=false):=⟨(s8 gI (by omega) q).1.trans b2.o.1,(s8 gI (by omega) q).2.trans b2.o.2⟩;clear e8 s8 b7;obtain ⟨ae,am,ad,ac,ak,aa⟩:=X8.o.a6;have al:x8<w8.heap.size:=X8.o.1;have iq:=I8.o.1;have fq:=I8.o.2;have lg:gI<w8.heap.size:=by have:=X8.o.1;omega
    have SE:bY (∀ z,aV l0 w8.heap.size (w8.setCell (zA gI q) (zI z)) (.agg #[zI V.c,zS gN (V.nW+1) kN,zI V.g,.slice aO V.nO kO,.slice aX V.nX kX,zS gI V.nI kI]) { ({ V with nW:=V.nW+1,W:=dK V.W V.nW pi (zp pi pa pm ps pl) }:CV) with I:=jo ({ V with nW:=V.nW+1,W:=dK V.W V.nW pi (zp pi pa pm ps pl) }:CV).I q z }):=fun z=>by
     obtain ⟨gJ,eJ,_,_,_,_,_,a0⟩:=aV.ins (q:=q) (V:=({ V with nW:=V.nW+1,W:=dK V.W V.nW pi (zp pi pa pm ps pl) }:CV)) O8.o hq;simp only [Option.some.injEq,Addr.mk.injEq,and_true] at eJ;subst eJ;exact a0 z
    go_upto_region 12 with fail;go_region;clear ae am ad ac ak aa al iq fq lg;obtain ⟨w9,e5⟩:∃ W,W=(w8.setCell (zA gI q) (zI (V.I q+1))).drew:=⟨_,rfl⟩;rw [<-e5];have z5:w9.heap.size=w8.heap.size:=by rw [e5];exact ay
    have s5:∀ b,¬ b=gI->Sm w8 w9 b:=by rw [e5];exact fun b hb=>cZ hb
    have B5:bY (Below w.heap.size w w9):=by rw [e5];exact (B8.o.setCell (by show w.heap.size<=gI;omega) _).drew
    have X5:=fQ (X8.o.sm (W':=w9) (Hl z5.symm) (s5 _ (by omega)));have R5:=fQ (R8.o.sm (W':=w9) (Hl z5.symm) (s5 _ (by omega)));have O5:bY (aV l0 w8.heap.size w9 (.agg #[zI V.c,zS gN (V.nW+1) kN,zI V.g,.slice aO V.nO kO,.slice aX V.nX kX,zS gI V.nI kI]) { (({ V with nW:=V.nW+1,W:=dK V.W V.nW pi (zp pi pa pm ps pl) }:CV):CV) with I:=jo V.I q (V.I q+1) }):=by rw [e5];exact (SE.o (V.I q+1)).drew
    clear e5 s5 SE;obtain ⟨ae,am,ad,ac,ak,aa⟩:=X5.o.a6;have al:x8<w9.heap.size:=X5.o.1;obtain ⟨ba,a7,a4,aR,aM,a3⟩:=R5.o.a6;have bN:=R5.o.f6;have bE:(w.heap.size+1+1+1)<w9.heap.size:=R5.o.1;go_wp2;refine Hw (v:=.tuple #[.agg #[zI V.c,zS gN (V.nW+1) kN,zI V.g,.slice aO V.nO kO,.slice aX V.nX kX,zS gI V.nI kI],.bool true]) (by simp [results,Tryz.results100,go_sem,ba,a7,a4,aR,aM,a3]) rfl ?_;have aq:=au w9 (w.heap.size+1+1+1) (.int .i64 V.c) (.slice (some ⟨gN,0,none⟩) (V.nW+1) kN) (.int .i64 V.g) (.slice aO V.nO kO) (.slice aX V.nX kX) (.slice (some ⟨gI,0,none⟩) V.nI kI);have a1:w8.heap.size<=w9.heap.size:=by have:=X5.o.1;omega
    refine ⟨⟨.agg #[zI V.c,zS gN (V.nW+1) kN,zI V.g,.slice aO V.nO kO,.slice aX V.nX kX,zS gI V.nI kI],by rw [ht.o],?_⟩,ax B5.o (by omega) _ _ _ _ _ _⟩;rw [xN ht.o];show aV w.heap.size (aG w9 (w.heap.size+1+1+1) (zI V.c) (zS gN (V.nW+1) kN) (zI V.g) (.slice aO V.nO kO) (.slice aX V.nX kX) (zS gI V.nI kI)).heap.size (aG w9 (w.heap.size+1+1+1) (zI V.c) (zS gN (V.nW+1) kN) (zI V.g) (.slice aO V.nO kO) (.slice aX V.nX kX) (zS gI V.nI kI)) _ _;rw [aq];exact O5.o.more (by omega) a1 (Hl aq.symm) (fun y h1 h2=>aH (by omega) (zI V.c) (zS gN (V.nW+1) kN) (zI V.g) (.slice aO V.nO kO) (.slice aX V.nX kX) (zS gI V.nI kI))
   obtain ⟨ae,am,ad,ac,ak,aa⟩:=av.o.a6;have al:x8<xc.heap.size:=av.o.1;obtain ⟨ba,a7,a4,aR,aM,a3⟩:=aD.o.a6;have bN:=aD.o.f6;have bE:(w.heap.size+1+1+1)<xc.heap.size:=aD.o.1;go_wp2;refine Hw (v:=.tuple #[.agg #[zI V.c,.slice aW V.nW kW,zI V.g,.slice aO V.nO kO,.slice aX V.nX kX,zS gI V.nI kI],.bool false]) (by simp [results,Tryz.results100,go_sem,ba,a7,a4,aR,aM,a3]) rfl ?_;have aq:=au xc (w.heap.size+1+1+1) (.int .i64 V.c) (.slice aW V.nW kW) (.int .i64 V.g) (.slice aO V.nO kO) (.slice aX V.nX kX) (.slice (some ⟨gI,0,none⟩) V.nI kI);have a1:x8<=xc.heap.size:=by have:=av.o.1;omega
   refine ⟨⟨.agg #[zI V.c,.slice aW V.nW kW,zI V.g,.slice aO V.nO kO,.slice aX V.nX kX,zS gI V.nI kI],by rw [ht.o],?_⟩,ax bd.o (by omega) _ _ _ _ _ _⟩;rw [rY (pm:=pm) (ps:=ps) (pl:=pl) ht.o];show aV w.heap.size (aG xc (w.heap.size+1+1+1) (zI V.c) (.slice aW V.nW kW) (zI V.g) (.slice aO V.nO kO) (.slice aX V.nX kX) (zS gI V.nI kI)).heap.size (aG xc (w.heap.size+1+1+1) (zI V.c) (.slice aW V.nW kW) (zI V.g) (.slice aO V.nO kO) (.slice aX V.nX kX) (zS gI V.nI kI)) _ _;rw [aq];exact bc.o.more (by omega) a1 (Hl aq.symm) (fun y h1 h2=>aH (by omega) (zI V.c) (.slice aW V.nW kW) (zI V.g) (.slice aO V.nO kO) (.slice aX V.nX kX) (zS gI V.nI kI))
  have cg:bY (First V.W V.nW pi m):=hm;have be:(dA V.W V.nW pi).isSome=true:=by rw [<-hm.2.1,Fh h1 m hm.1];rfl
  have ht:bY (takeB c d V (dA V.W V.nW) q pn 1 pi pa pc=false):=by unfold bY;simp [takeB,bv,mg,be]
  clear be hm;have ao:=P3.o.a8;have ap:(w.heap.size+1+1)<w2.heap.size:=P3.o.1;have ae:w2.cell? (zA x8 0)=some (zI V.c):=(X5.o.2 0 (by simp)).1;have am:w2.cell? (zA x8 1)=some (.slice aW V.nW kW):=(X5.o.2 1 (by simp)).1;have ad:w2.cell? (zA x8 2)=some (zI V.g):=(X5.o.2 2 (by simp)).1;have ac:w2.cell? (zA x8 3)=some (.slice aO V.nO kO):=(X5.o.2 3 (by simp)).1;have ak:w2.cell? (zA x8 4)=some (.slice aX V.nX kX):=(X5.o.2 4 (by simp)).1;have aa:w2.cell? (zA x8 5)=some (zS gI V.nI kI):=(X5.o.2 5 (by simp)).1;have al:x8<w2.heap.size:=X5.o.1;have iq:=I7.o.1;have fq:=I7.o.2;have lg:gI<w2.heap.size:=by have:=X5.o.1;omega
  go_upto_region 2 with fail;go_quiet (fail);obtain ⟨w3,e3⟩:∃ W,W=w2.drewN nq:=⟨_,rfl⟩;rw [<-e3];have k3:Below w2.heap.size w2 w3:=by rw [e3];exact bZ (Hr _ _) _
  have kz:w2.heap.size<=w3.heap.size:=k3.size;clear e3;clear ao ap ae am ad ac ak aa al iq fq lg;have bh:w2.heap.size<=w3.heap.size:=k3.size;have B8:=fQ (ah B1.o k3);have M8:=fQ (M2.o.q k3);have P8:=fQ (P3.o.q k3);have R8:=fQ (R4.o.q k3);have X8:bY (Bk w3 x8 [zI V.c,.slice aW V.nW kW,zI V.g,.slice aO V.nO kO,.slice aX V.nX kX,zS gI V.nI kI]):=X5.o.q k3;have O8:=fQ (O6.o.q (by omega) k3);have I8:bY (w3.cell? (zA gI q)=some (zI (V.I q))/\w3.frozen? (zA gI q)=false):=⟨(k3.cell (p:=(zA gI q)) (by show gI<_;omega)).trans I7.o.1,(k3.frozen (p:=(zA gI q)) (by show gI<_;omega)).trans I7.o.2⟩;clear B1 M2 P3 R4 X5 O6 I7;clear k3;have ao:=P8.o.a8;have ap:(w.heap.size+1+1)<w3.heap.size:=P8.o.1;obtain ⟨ae,am,ad,ac,ak,aa⟩:=X8.o.a6;have al:x8<w3.heap.size:=X8.o.1;go_wp2_with fail;obtain ⟨gW,ha,aL,an⟩:=O8.o.row;refine (pG pi aW gW V.nW kW m V.W (by have:=bR.o;omega) _ aL ha cg.o an).mono ?_;rintro e w4 ⟨rfl,ag⟩;clear ha aL an;have ce:w3.heap.size<=w4.heap.size:=ag.size;clear ao ap ae am ad ac ak aa al;have bz:w3.heap.size<=w4.heap.size:=ag.size;have B9:=fQ (ah B8.o ag);have M9:=fQ (M8.o.q ag);have P9:=fQ (P8.o.q ag);have R9:=fQ (R8.o.q ag);have X9:=fQ (X8.o.q ag);have O9:=fQ (O8.o.q (by omega) ag);have I9:bY (w4.cell? (zA gI q)=some (zI (V.I q))/\w4.frozen? (zA gI q)=false):=⟨(ag.cell (p:=(zA gI q)) (by show gI<_;omega)).trans I8.o.1,(ag.frozen (p:=(zA gI q)) (by show gI<_;omega)).trans I8.o.2⟩;clear B8 M8 P8 R8 X8 O8 I8;clear ag;go_upto_region 9 with fail;obtain ⟨w5,e5⟩:∃ W,W=w4.alloc (.cells (zF (V.W m)).toArray 67):=⟨_,rfl⟩;rw [<-e5];have ab:Below w4.heap.size w4 w5:=by rw [e5];exact (Hr _ _).alloc (Ho _) _
  have b8:w4.heap.size<=w5.heap.size:=ab.size;clear e5;have bu:w4.heap.size<=w5.heap.size:=ab.size;have bm:=fQ (ah B9.o ab);have az:=fQ (M9.o.q ab);have aE:=fQ (P9.o.q ab);have bi:=fQ (R9.o.q ab);have aw:=fQ (X9.o.q ab);have bl:=fQ (O9.o.q (by omega) ab);have bb:bY (w5.cell? (zA gI q)=some (zI (V.I q))/\w5.frozen? (zA gI q)=false):=⟨(ab.cell (p:=(zA gI q)) (by show gI<_;omega)).trans I9.o.1,(ab.frozen (p:=(zA gI q)) (by show gI<_;omega)).trans I9.o.2⟩;clear B9 M9 P9 R9 X9 O9 I9;clear ab;have ao:=aE.o.a8;have ap:(w.heap.size+1+1)<w5.heap.size:=aE.o.1;obtain ⟨ae,am,ad,ac,ak,aa⟩:=aw.o.a6;have al:x8<w5.heap.size:=aw.o.1;obtain ⟨bB,bL⟩:=az.o.a2;have bt:w.heap.size<w5.heap.size:=az.o.1;go_quiet (fail);obtain ⟨w6,e3⟩:∃ W,W=w5.drewN nq:=⟨_,rfl⟩;rw [<-e3];have k3:Below w5.heap.size w5 w6:=by rw [e3];exact bZ (Hr _ _) _
  have kz:w5.heap.size<=w6.heap.size:=k3.size;clear e3;clear ao ap ae am ad ac ak aa al bB bL bt;have cd:w5.heap.size<=w6.heap.size:=k3.size;have bd:=fQ (ah bm.o k3);have bx:=fQ (az.o.q k3);have bj:=fQ (aE.o.q k3);have aD:=fQ (bi.o.q k3);have av:=fQ (aw.o.q k3);have bc:=fQ (bl.o.q (by omega) k3);have bp:bY (w6.cell? (zA gI q)=some (zI (V.I q))/\w6.frozen? (zA gI q)=false):=⟨(k3.cell (p:=(zA gI q)) (by show gI<_;omega)).trans bb.o.1,(k3.frozen (p:=(zA gI q)) (by show gI<_;omega)).trans bb.o.2⟩;clear bm az aE bi aw bl bb;clear k3;obtain ⟨ae,am,ad,ac,ak,aa⟩:=av.o.a6;have al:x8<w6.heap.size:=av.o.1;obtain ⟨ba,a7,a4,aR,aM,a3⟩:=aD.o.a6;have bN:=aD.o.f6;have bE:(w.heap.size+1+1+1)<w6.heap.size:=aD.o.1;go_wp2;refine Hw (v:=.tuple #[.agg #[zI V.c,.slice aW V.nW kW,zI V.g,.slice aO V.nO kO,.slice aX V.nX kX,zS gI V.nI kI],.bool false]) (by simp [results,Tryz.results100,go_sem,ba,a7,a4,aR,aM,a3]) rfl ?_;have aq:=au w6 (w.heap.size+1+1+1) (.int .i64 V.c) (.slice aW V.nW kW) (.int .i64 V.g) (.slice aO V.nO kO) (.slice aX V.nX kX) (.slice (some ⟨gI,0,none⟩) V.nI kI);have a1:x8<=w6.heap.size:=by have:=av.o.1;omega
  refine ⟨⟨.agg #[zI V.c,.slice aW V.nW kW,zI V.g,.slice aO V.nO kO,.slice aX V.nX kX,zS gI V.nI kI],by rw [ht.o],?_⟩,ax bd.o (by omega) _ _ _ _ _ _⟩;rw [rY (pm:=pm) (ps:=ps) (pl:=pl) ht.o];show aV w.heap.size (aG w6 (w.heap.size+1+1+1) (zI V.c) (.slice aW V.nW kW) (zI V.g) (.slice aO V.nO kO) (.slice aX V.nX kX) (zS gI V.nI kI)).heap.size (aG w6 (w.heap.size+1+1+1) (zI V.c) (.slice aW V.nW kW) (zI V.g) (.slice aO V.nO kO) (.slice aX V.nX kX) (zS gI V.nI kI)) _ _;rw [aq];exact bc.o.more (by omega) a1 (Hl aq.symm) (fun y h1 h2=>aH (by omega) (zI V.c) (.slice aW V.nW kW) (zI V.g) (.slice aO V.nO kO) (.slice aX V.nX kX) (zS gI V.nI kI))
 have ht:bY (takeB c d V (dA V.W V.nW) q pn 1 pi pa pc=false):=by unfold bY;simp [takeB,bv]
 have ao:=P3.o.a8;have ap:(w.heap.size+1+1)<w2.heap.size:=P3.o.1;have ae:w2.cell? (zA x8 0)=some (zI V.c):=(X5.o.2 0 (by simp)).1;have am:w2.cell? (zA x8 1)=some (.slice aW V.nW kW):=(X5.o.2 1 (by simp)).1;have ad:w2.cell? (zA x8 2)=some (zI V.g):=(X5.o.2 2 (by simp)).1;have ac:w2.cell? (zA x8 3)=some (.slice aO V.nO kO):=(X5.o.2 3 (by simp)).1;have ak:w2.cell? (zA x8 4)=some (.slice aX V.nX kX):=(X5.o.2 4 (by simp)).1;have aa:w2.cell? (zA x8 5)=some (zS gI V.nI kI):=(X5.o.2 5 (by simp)).1;have al:x8<w2.heap.size:=X5.o.1;have iq:=I7.o.1;have fq:=I7.o.2;have lg:gI<w2.heap.size:=by have:=X5.o.1;omega
 go_upto_region 2 with fail;go_quiet (fail);obtain ⟨w3,e3⟩:∃ W,W=w2.drewN nq:=⟨_,rfl⟩;rw [<-e3];have k3:Below w2.heap.size w2 w3:=by rw [e3];exact bZ (Hr _ _) _
 have kz:w2.heap.size<=w3.heap.size:=k3.size;clear e3;clear ao ap ae am ad ac ak aa al iq fq lg;have bh:w2.heap.size<=w3.heap.size:=k3.size;have B8:=fQ (ah B1.o k3);have M8:=fQ (M2.o.q k3);have P8:=fQ (P3.o.q k3);have R8:=fQ (R4.o.q k3);have X8:bY (Bk w3 x8 [zI V.c,.slice aW V.nW kW,zI V.g,.slice aO V.nO kO,.slice aX V.nX kX,zS gI V.nI kI]):=X5.o.q k3;have O8:=fQ (O6.o.q (by omega) k3);have I8:bY (w3.cell? (zA gI q)=some (zI (V.I q))/\w3.frozen? (zA gI q)=false):=⟨(k3.cell (p:=(zA gI q)) (by show gI<_;omega)).trans I7.o.1,(k3.frozen (p:=(zA gI q)) (by show gI<_;omega)).trans I7.o.2⟩;clear B1 M2 P3 R4 X5 O6 I7;clear k3;obtain ⟨ae,am,ad,ac,ak,aa⟩:=X8.o.a6;have al:x8<w3.heap.size:=X8.o.1;obtain ⟨ba,a7,a4,aR,aM,a3⟩:=R8.o.a6;have bN:=R8.o.f6;have bE:(w.heap.size+1+1+1)<w3.heap.size:=R8.o.1;go_wp2;refine Hw (v:=.tuple #[.agg #[zI V.c,.slice aW V.nW kW,zI V.g,.slice aO V.nO kO,.slice aX V.nX kX,zS gI V.nI kI],.bool false]) (by simp [results,Tryz.results100,go_sem,ba,a7,a4,aR,aM,a3]) rfl ?_;have aq:=au w3 (w.heap.size+1+1+1) (.int .i64 V.c) (.slice aW V.nW kW) (.int .i64 V.g) (.slice aO V.nO kO) (.slice aX V.nX kX) (.slice (some ⟨gI,0,none⟩) V.nI kI);have a1:x8<=w3.heap.size:=by have:=X8.o.1;omega
 refine ⟨⟨.agg #[zI V.c,.slice aW V.nW kW,zI V.g,.slice aO V.nO kO,.slice aX V.nX kX,zS gI V.nI kI],by rw [ht.o],?_⟩,ax B8.o (by omega) _ _ _ _ _ _⟩;rw [rY (pm:=pm) (ps:=ps) (pl:=pl) ht.o];show aV w.heap.size (aG w3 (w.heap.size+1+1+1) (zI V.c) (.slice aW V.nW kW) (zI V.g) (.slice aO V.nO kO) (.slice aX V.nX kX) (zS gI V.nI kI)).heap.size (aG w3 (w.heap.size+1+1+1) (zI V.c) (.slice aW V.nW kW) (zI V.g) (.slice aO V.nO kO) (.slice aX V.nX kX) (zS gI V.nI kI)) _ _;rw [aq];exact O8.o.more (by omega) a1 (Hl aq.symm) (fun y h1 h2=>aH (by omega) (zI V.c) (.slice aW V.nW kW) (zI V.g) (.slice aO V.nO kO) (.slice aX V.nX kX) (zS gI V.nI kI))
theorem Au (c d pn pk pi pa pm ps pl pc:Int) (v:Value) (V:CV) (lo q:Nat) (hk:pk=1∨pk=2) (h1:bD c d V=true) (ab:V.short 1048576) (ac:V.nW+1<=1048576) (hq:q<V.nI) (hI:0<=V.I q/\V.I q<=5000) (hg:0<=V.g/\V.g<=900) (aa:0<=pc/\pc<=900) (w:World) (h:dL w v V) :
 Hz 100 #[.agg #[zI c,zI d],v,zI (q:Int),.agg #[zI pn,zI pk,zI pi,zI pa,zI pm,zI ps,zI pl,zI pc]] w fun e w'=>(∃ u,e=.returned (.tuple #[u,.bool (takeB c d V (dA V.W V.nW) q pn pk pi pa pc)])/\aV w.heap.size w'.heap.size w' u (CV.inn c d V q pn pk pi pa pm ps pl pc))/\Below w.heap.size w w':=by
 rcases hk with rfl | rfl
 ·exact yP c d pn pi pa pm ps pl pc v V lo q h1 ab ac hq hI hg aa w h
 exact xW c d pn pi pa pm ps pl pc v V lo q h1 ab ac hq hI hg aa w h
