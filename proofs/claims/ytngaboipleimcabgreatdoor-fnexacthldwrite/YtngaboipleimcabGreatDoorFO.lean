/- StoOk of the model; conditions: the store lies in memory. -/
import Derived.Test.YtngaboipleimcabGreatDoorGH
import Derived.Test.YtngaboipleimcabGreatDoorFS
set_option linter.unusedVariables false
set_option maxHeartbeats 8000000
set_option maxRecDepth 20000
namespace Go.Proofs.YtngaboipleimcabGreatDoor
open Go.RowKit Go.Deep
theorem eH.f {lo:Nat} {w:World} {V:CV} {bW bO bX bI:Nat} (h:eH lo w (.agg (zC V bW V.nW bO V.nO bX V.nX bI V.nI).toArray) V):Jf w V (some (zA bW 0)) bO bX bI:=by
 obtain ⟨ac,ab,ad,aa,q0,q1,q2,q3,q4,e,g1,g2,g3,g4⟩:=h;obtain ⟨e1,e2,e3,e4⟩:=kV e;simp only [Value.slice.injEq,Option.some.injEq,Addr.mk.injEq,and_true] at e1 e2 e3 e4;subst e1 e2 e3 e4;refine ⟨by omega,by omega,by omega,mP g1 (by omega),fun _=>⟨_,rfl⟩,fun k hk=>?_,g3.2,g4.2⟩;obtain ⟨_,xs,_,h3⟩:=g2;obtain ⟨_,a2,a3,a4⟩:=h3 k hk;exact ⟨xs k,_,a2,a3,P8.aZ a4⟩
theorem Kz (c d:Int) (V:CV) (lo bW bO bX bI bR nR:Nat) (Z:Nat->Nat->Int) (ag:V.short 1048576) (aL:nR<=1048576) (w:World) (ab:eH lo w (.agg (zC V bW V.nW bO V.nO bX V.nX bI V.nI).toArray) V) (aE:bR<w.heap.size) (af:∀ k j,k<nR->j<16->w.cell? ⟨bR,0+k * 16+j,none⟩=some (.int .i64 (Z k j))) (h1:¬ (bD c d V=true/\nR<=250)) :
 Hz 51 #[.agg #[zI c,zI d],.agg (zC V bW V.nW bO V.nO bX V.nX bI V.nI).toArray,zS bR nR nR] w fun e w'=>(∃ u,e=.returned (.tuple #[u,zI ((foldM c d V nR Z).2:Int)])/\aV w.heap.size w'.heap.size w' u (foldM c d V nR Z).1)/\Below w.heap.size w w':=by
 have hs:=fQ ag;have HR:=fQ af;have CP:=fQ ab;have HL:=fQ h1;have ER:bY (foldM c d V nR Z=(CV.zero,0)):=by unfold bY foldM;rw [if_neg h1]
 clear ag ab h1 af;go_enter Tryz.func51,Tryz.ntmps51;go_wp2_with fail;obtain ⟨w0,e0,ae,ad,aa,ac,aM⟩:=FZ w [zI c,zI d] 44 (zC V bW V.nW bO V.nO bX V.nX bI V.nI) 36 zN 36;rw [<-e0];clear e0;have B1:=fQ ae;have M2:=fQ ad;have C3:=fQ aa;have Q5:=fQ ac;clear ae ad aa ac;obtain ⟨ap,av⟩:=M2.o.a2;have ai:(w.heap.size)<w0.heap.size:=M2.o.1;have aw:=C3.o.a6;have al:(w.heap.size+1)<w0.heap.size:=C3.o.1;go_wp2_with fail;clear ap av ai aw al;refine (lV c d _ V lo hs.o _ (CP.o.q B1.o)).mono ?_;rintro e w1 ⟨rfl,hb⟩;have B6:=fQ (ah B1.o hb);have M6:=fQ (M2.o.q hb);have C6:=fQ (C3.o.q hb);have Q6:=fQ (Q5.o.q hb);clear B1 M2 C3 Q5;have ar:w0.heap.size<=w1.heap.size:=hb.size;clear hb;obtain ⟨ao,az,am,an,aq,ak⟩:=Q6.o.a6;have aI:=Q6.o.f6;have aD:(w.heap.size+1+1)<w1.heap.size:=Q6.o.1;cases h2:bD c d V;all_goals
  have h3:bD c d V=true->(250:Int)<nR:=fun h=>by have:=HL.o;simp only [h,true_and] at this;omega
  first | (have h4:=h3 h2;go_wp2) | go_wp2
  refine Hw (v:=.tuple #[.agg zN.toArray,zI 0]) (by simp [results,Tryz.results51,go_sem,ao,az,am,an,aq,ak]) rfl ?_
  exact ⟨⟨_,by rw [ER.o];rfl,by rw [ER.o];exact iH _ _ _⟩,ax B6.o (by omega) _ _ _ _ _ _⟩
theorem sJ (c d:Int) (V:CV) (lo bW bO bX bI bR nR:Nat) (Z:Nat->Nat->Int) (ae:V.short 1048576) (ac:nR<=1048576) (w:World) (aa:eH lo w (.agg (zC V bW V.nW bO V.nO bX V.nX bI V.nI).toArray) V) (ab:bR<w.heap.size) (ad:∀ k j,k<nR->j<16->w.cell? ⟨bR,0+k * 16+j,none⟩=some (.int .i64 (Z k j))) :
 Hz 51 #[.agg #[zI c,zI d],.agg (zC V bW V.nW bO V.nO bX V.nX bI V.nI).toArray,zS bR nR nR] w fun e w'=>(∃ u,e=.returned (.tuple #[u,zI ((foldM c d V nR Z).2:Int)])/\aV w.heap.size w'.heap.size w' u (foldM c d V nR Z).1)/\Below w.heap.size w w':=by
 by_cases h:bD c d V=true/\nR<=250
 ·exact Kw c d V (some (zA bW 0)) V.nW bO V.nO bX V.nX bI V.nI (some (zA bR 0)) bR nR nR Z ae ac w aa.f (fun _=>⟨rfl,ab,ad⟩) h.1 (by omega)
 exact Kz c d V lo bW bO bX bI bR nR Z ae ac w aa ab ad h
theorem Aj (n a b:Int) (w:World):Hz 24 #[zI n,zI a,zI b] w fun e w'=>e=.returned (.bool (inB n a b))/\w'=w:=by
 go_enter Tryz.func24,Tryz.ntmps24;by_cases h1:a<=n <;> by_cases h2:n<=b <;> (go_wp2;exact Hw (v:=.bool (inB n a b)) (by simp [results,Tryz.results24,go_sem,inB,h1,h2]) rfl ⟨rfl,rfl⟩)
theorem xQ (c d a:Int) (V:CV) (lo bW bO bX bI bR nR:Nat) (Z:Nat->Nat->Int) (ae:V.short 1048576) (ai:nR<=1048576) (w:World) (ac:eH lo w (.agg (zC V bW V.nW bO V.nO bX V.nX bI V.nI).toArray) V) (ag:bR<w.heap.size) (ad:∀ k j,k<nR->j<16->w.cell? ⟨bR,0+k * 16+j,none⟩=some (.int .i64 (Z k j))) :
 Hz 23 #[.agg #[zI c,zI d],.agg [zI a,zI V.c,zS bW V.nW V.nW,zI V.g,zS bO V.nO V.nO,zS bX V.nX V.nX,zS bI V.nI V.nI,zS bR nR nR].toArray] w fun e w'=>e=.returned (.bool (mF c d a V nR Z))/\Below w.heap.size w w':=by
 have hs:=fQ ae;have HR:=fQ ad;have CP:=fQ ac;clear ae ac ad;go_enter Tryz.func23,Tryz.ntmps23;go_wp2_with fail;obtain ⟨w0,e0,B1,M1,S1,al⟩:=EX w [zI c,zI d] 44 [zI a,zI V.c,zS bW V.nW V.nW,zI V.g,zS bO V.nO V.nO,zS bX V.nX V.nX,zS bI V.nI V.nI,zS bR nR nR] 41;rw [<-e0];clear e0;refine (Aj a 0 900 _).mono ?_;rintro e wq ⟨rfl,hw⟩;obtain rfl:=hw.symm;cases h1:inB a 0 900
 ·have HN:=fQ h1;clear h1;go_wp2;go_ret;exact ⟨by simp [mF,HN.o],B1.o⟩
 have H1:=fQ h1;clear h1;have y0:=S1.o.a8;have ab:(w.heap.size+1)<w0.heap.size:=S1.o.1;obtain ⟨m0,m1⟩:=M1.o.a2;have aa:w.heap.size<w0.heap.size:=M1.o.1;go_wp2_with fail;clear y0 ab m0 m1 aa;refine (lV c d _ V lo hs.o _ (CP.o.q B1.o)).mono ?_;rintro e w1 ⟨rfl,hb⟩;have am:=hb.size;have B2:=fQ (ah B1.o hb);have M2:=fQ (M1.o.q hb);have S2:=fQ (S1.o.q hb);clear B1 M1 S1 hb;cases h2:bD c d V
 ·have HN:=fQ h2;clear h2;go_wp2;go_ret;exact ⟨by simp [mF,HN.o],B2.o⟩
 have H2:=fQ h2;clear h2;have y0:=S2.o.a8;have ab:(w.heap.size+1)<w1.heap.size:=S2.o.1;obtain ⟨m0,m1⟩:=M2.o.a2;have aa:w.heap.size<w1.heap.size:=M2.o.1;by_cases h3:(250:Int)<nR
 ·go_wp2;go_ret;exact ⟨by simp [mF];omega,B2.o⟩
 go_wp2_with fail;clear y0 ab m0 m1 aa;refine (sJ c d V lo bW bO bX bI bR nR Z hs.o ai _ (CP.o.q B2.o) (by omega) (fun k j e1 e2=>(B2.o.cell (p:=⟨bR,0+k * 16+j,none⟩) ag).trans (HR.o k j e1 e2))).mono ?_;rintro e w2 ⟨⟨u,rfl,hO⟩,hb⟩;obtain ⟨a1,k1,a2,k2,a3,k3,a4,k4,rfl,_,_,_,_⟩:=hO.at;have ak:=hb.size;have B3:=fQ (ah B2.o hb);have M3:=fQ (M2.o.q hb);have S3:=fQ (S2.o.q hb);clear B2 M2 S2 hb hO;have EF:bY ((foldM c d V nR Z).2=gm c d V Z nR):=by unfold bY foldM;rw [if_pos ⟨H2.o,by omega⟩]
 rw [EF.o];have ES:bY (mF c d a V nR Z=decide (gm c d V Z nR=nR)):=by unfold bY mF;rw [H1.o,H2.o];simp;omega
 generalize (foldM c d V nR Z).1=Un at *;have y0:=S3.o.a8;have ab:(w.heap.size+1)<w2.heap.size:=S3.o.1;obtain ⟨m0,m1⟩:=M3.o.a2;have aa:w.heap.size<w2.heap.size:=M3.o.1;by_cases hF:gm c d V Z nR=nR
 ·have af:((gm c d V Z nR:Nat):Int)=(nR:Int):=by omega
  have HF:=fQ hF;clear hF;go_wp2;go_ret;exact ⟨by rw [ES.o,HF.o];simp,B3.o.alloc (by omega) _⟩
 have af:¬ ((gm c d V Z nR:Nat):Int)=(nR:Int):=by omega
 have HF:=fQ hF;clear hF;go_wp2;go_ret;exact ⟨by rw [ES.o];simp [HF.o];omega,B3.o.alloc (by omega) _⟩
