/- l5Step of the model; conditions: the cell lies in memory. -/
import Derived.Test.YtngaboipleimcabGreatDoorMo7
set_option linter.unusedVariables false
set_option maxHeartbeats 4000000
set_option maxRecDepth 20000
namespace Go.Proofs.YtngaboipleimcabGreatDoor
open Go.RowKit Go.Deep
def zl (Z:Nat->Int):Nat->Int:=zq Z (Z 3) 1
def stepM (c d:Int) (V:CV) (m:Nat) (t:Int):CV × Int :=
 if aQ c d (V.W m 1+bn t)=-1∨(¬ aQ c d (V.W m 1+bn t)=V.c/\¬ V.X t.toNat<5000) then (V,2)
 else if aQ c d (V.W m 1+bn t)=V.c then (V.setW m (za (V.W m) (V.W m 1+bn t)),1)
 else ((V.outW m).send t.toNat (pw (V.X t.toNat) (za (zl (V.W m)) (V.W m 1+bn t))),1)
theorem vJ (lo m:Nat) (Ok:Nat->Prop) (v:Value) (V:CV) (c d:Int) (q:Nat) (hq:q<V.nX) (bE:q<V.nO) (hN:V.N q<=2000000) (hX:-1<=V.X q/\V.X q<=5000) (cV:q<2) (ca:V.nW<=1048576) (hr:dJ V.W V.nW) (hm:m<V.nW) (hA:0<=V.W m 1/\V.W m 1<=31) (w:World) (h:Md lo Ok w v V) :
 Hz 142 #[.agg #[zI c,zI d],v,.agg (zF (V.W m)).toArray,zI (q:Int)] w fun e w'=>Kd lo Ok w w' e (stepM c d V m (q:Int)):=by
 have hs:q=0∨q=1:=by omega
 rcases hs with rfl | rfl
 case' _=>have aa:=trivial
 all_goals
  obtain ⟨gW,cW,gO,cO,gX,cX,gI,cI,rfl,_,_,aR⟩:=h.form
  go_enter Tryz.func142,Tryz.ntmps142
  go_upto_region 1 with fail
  obtain ⟨w0,e0,b2,M0,C0,W0,R0,-⟩:=zV w [zI c,zI d] 44 (zC V gW cW gO cO gX cX gI cI) 36 (zF (V.W m)) 67 zN 36
  rw [<-e0]
  clear e0
  have cL:w.heap.size+4<=w0.heap.size:=R0.1
  have B1:bY (Below w.heap.size w w0):=b2
  have M2:bY (Bk w0 w.heap.size [zI c,zI d]):=M0
  have C3:bY (Bk w0 (w.heap.size+1) (zC V gW cW gO cO gX cX gI cI)):=C0
  have W4:bY (Bk w0 (w.heap.size+1+1) (zF (V.W m))):=W0
  have R5:bY (Bk w0 (w.heap.size+1+1+1) zN):=R0
  have D6:bY (Md lo (fun x=>Ok x/\x<w.heap.size) w0 (.agg (zC V gW cW gO cO gX cX gI cI).toArray) V):=(h.in (fun x hx ho=>⟨ho,hx⟩)).q b2
  have Z7:bY (w.heap.size+4<=w0.heap.size):=cL
  clear b2 h M0 C0 W0 R0
  obtain ⟨cH,cK⟩:=M2.o.a2
  have cx:w.heap.size<w0.heap.size:=M2.o.1
  have an:=W4.o.a5
  have bh:=W4.o.f5
  have am:(w.heap.size+1+1)<w0.heap.size:=W4.o.1
  go_wp2_with fail
  clear cH cK cx an bh am
  first | (guard_hyp aa;refine (dD c d (V.W m 1 - 1) _).mono ?_) | (refine (dD c d (V.W m 1+1) _).mono ?_)
  rintro e w1 ⟨rfl,aw⟩
  have cy:w0.heap.size<=w1.heap.size:=aw.size
  have B8:=fQ (ah B1.o aw)
  have M8:=fQ (M2.o.q aw)
  have C8:=fQ (C3.o.q aw)
  have W8:=fQ (W4.o.q aw)
  have R8:=fQ (R5.o.q aw)
  have D8:=fQ (D6.o.q aw)
  have Z8:bY (w.heap.size+4<=w1.heap.size):=Hq Z7.o aw.size
  clear B1 M2 C3 W4 R5 D6 Z7
  have z1:=aw.size
  clear aw
  first
  | guard_hyp aa
    have aE:V.W m 1+bn ((0:Nat):Int)=V.W m 1 - 1:=by simp [bn] <;> omega
    obtain ⟨ct,bB⟩:∃ ct,ct=aQ c d (V.W m 1 - 1):=⟨_,rfl⟩
    have aI:bY (ct=aQ c d (V.W m 1 - 1)):=bB
  | have aE:V.W m 1+bn ((1:Nat):Int)=V.W m 1+1:=by simp [bn] <;> omega
    obtain ⟨ct,bB⟩:∃ ct,ct=aQ c d (V.W m 1+1):=⟨_,rfl⟩
    have aI:bY (ct=aQ c d (V.W m 1+1)):=bB
  rw [<-bB]
  clear bB
  by_cases h1:ct=-1
  ·have e1:(ct == -1)=true:=by simp [h1]
   first | (guard_hyp aa;have ER:bY (stepM c d V m ((0:Nat):Int)=(V,2)):=by unfold bY stepM;rw [aE,<-aI.o];rw [if_pos (.inl h1)]) | (have ER:bY (stepM c d V m ((1:Nat):Int)=(V,2)):=by unfold bY stepM;rw [aE,<-aI.o];rw [if_pos (.inl h1)])
   have ag:=C8.o.a6;have ai:(w.heap.size+1)<w1.heap.size:=C8.o.1;obtain ⟨bj,bi,bd,a3,a0,bb⟩:=R8.o.a6;have b8:=R8.o.f6;have b5:(w.heap.size+1+1+1)<w1.heap.size:=R8.o.1;go_wp2;refine Hw (v:=.tuple #[.agg (zC V gW cW gO cO gX cX gI cI).toArray,zI 2]) (by simp [results,Tryz.results142,go_sem,bj,bi,bd,a3,a0,bb]) rfl ?_;have ba:=au w1 ((w.heap.size+1+1+1)) (.int .i64 V.c) (.slice (some ⟨gW,0,none⟩) V.nW cW) (.int .i64 V.g) (.slice (some ⟨gO,0,none⟩) V.nO cO) (.slice (some ⟨gX,0,none⟩) V.nX cX) (.slice (some ⟨gI,0,none⟩) V.nI cI);have rz:=Z8.o;refine ⟨_,w.heap.size,by rw [ER.o],Ho _,?_,?_,?_⟩
   ·show _<=(aG _ _ _ _ _ _ _ _).heap.size;omega
   ·rw [ER.o];show Md lo _ (aG w1 ((w.heap.size+1+1+1)) (zI V.c) (zS gW V.nW cW) (zI V.g) (zS gO V.nO cO) (zS gX V.nX cX) (zS gI V.nI cI)) _ _;exact (D8.o.sm (Hl ba.symm) (fun x hx ho=>aH (fun e=>by have:=ho.2;omega) (zI V.c) (zS gW V.nW cW) (zI V.g) (zS gO V.nO cO) (zS gX V.nX cX) (zS gI V.nI cI))).in (fun x _ ho=>.inl ho)
   exact Fr.of (ax B8.o (by omega) (zI V.c) (zS gW V.nW cW) (zI V.g) (zS gO V.nO cO) (zS gX V.nX cX) (zS gI V.nI cI)) aR
  have e1:(ct == -1)=false:=by simp [h1]
  by_cases h2:ct=V.c
  ·have e2:(ct == V.c)=true:=by simp [h2]
   first | (guard_hyp aa;have ER:bY (stepM c d V m ((0:Nat):Int)=(V.setW m (za (V.W m) (V.W m 1 - 1)),1)):=by unfold bY stepM;rw [aE,<-aI.o];rw [if_neg (fun h=>by rcases h with h | h;exact h1 h;exact h.1 h2),if_pos h2]) | (have ER:bY (stepM c d V m ((1:Nat):Int)=(V.setW m (za (V.W m) (V.W m 1+1)),1)):=by unfold bY stepM;rw [aE,<-aI.o];rw [if_neg (fun h=>by rcases h with h | h;exact h1 h;exact h.1 h2),if_pos h2])
   have ag:=C8.o.a6;have ai:(w.heap.size+1)<w1.heap.size:=C8.o.1;have an:=W8.o.a5;have bh:=W8.o.f5;have am:(w.heap.size+1+1)<w1.heap.size:=W8.o.1;go_upto_region 8 with fail;clear ag ai an bh am;first | (guard_hyp aa;obtain ⟨w2,ab⟩:∃ X,X=w1.setCell (zA (w.heap.size+1+1) 1) (zI (V.W m 1 - 1)):=⟨_,rfl⟩) | (obtain ⟨w2,ab⟩:∃ X,X=w1.setCell (zA (w.heap.size+1+1) 1) (zI (V.W m 1+1)):=⟨_,rfl⟩)
   have a4:w2.heap.size=w1.heap.size:=by rw [ab];exact ay
   have B9:bY (Below w.heap.size w w2):=by unfold bY;rw [ab];exact B8.o.setCell (by show w.heap.size<=(w.heap.size+1+1);omega) _
   have M9:bY (Bk w2 w.heap.size [zI c,zI d]):=by unfold bY;rw [ab];exact M8.o.far (by omega)
   have C9:bY (Bk w2 (w.heap.size+1) (zC V gW cW gO cO gX cX gI cI)):=by unfold bY;rw [ab];exact C8.o.far (by omega)
   first | (guard_hyp aa;have W9:bY (Bk w2 ((w.heap.size+1+1)) [zI (V.W m 0),zI (V.W m 1 - 1),zI (V.W m 2),zI (V.W m 3),zI (V.W m 4)]):=by unfold bY;rw [ab];exact W8.o.set (j:=1) (by simp)) | (have W9:bY (Bk w2 ((w.heap.size+1+1)) [zI (V.W m 0),zI (V.W m 1+1),zI (V.W m 2),zI (V.W m 3),zI (V.W m 4)]):=by unfold bY;rw [ab];exact W8.o.set (j:=1) (by simp))
   have R9:bY (Bk w2 (w.heap.size+1+1+1) zN):=by unfold bY;rw [ab];exact R8.o.far (by omega)
   have D9:=fQ (D8.o.sm (w':=w2) (by omega) (fun x hx ho=>by rw [ab];exact cZ (fun e=>by first | (have:=ho.2;omega) | (rcases ho with h | h <;> omega))));have Z9:bY (w.heap.size+4<=w2.heap.size):=by unfold bY;rw [a4];exact Z8.o
   rw [<-ab];clear ab B8 M8 C8 W8 R8 D8 Z8;have ag:=C9.o.a6;have ai:(w.heap.size+1)<w2.heap.size:=C9.o.1;have an:=W9.o.a5;have am:(w.heap.size+1+1)<w2.heap.size:=W9.o.1;go_wp2_with fail;clear ag ai an am;obtain ⟨r0,bc⟩:∃ r,r=w2.heap.size:=⟨_,rfl⟩;have cA:w.heap.size<r0:=by rw [bc];exact M9.o.1
   have cs:(w.heap.size+1)<r0:=by rw [bc];exact C9.o.1
   have cq:(w.heap.size+1+1)<r0:=by rw [bc];exact W9.o.1
   have cP:(w.heap.size+1+1+1)<r0:=by rw [bc];exact R9.o.1
   have bR:r0<=w2.heap.size:=Hl bc;have cn:w2.heap.size<=r0:=Hl bc.symm;clear bc;obtain ⟨_,_,_,_,_,_,_,_,ef,bp,bl,_⟩:=D9.o.form;have ef:=kV ef;simp only [Value.slice.injEq,Option.some.injEq,Addr.mk.injEq,and_true,true_and] at ef;obtain ⟨⟨rfl,rfl⟩,_⟩:=ef;first | (guard_hyp aa;refine (jh (some (zA gW 0)) gW V.nW cW m V.W (za (V.W m) (V.W m 1 - 1)) ca _ (fun _=>bp) (fun _=>rfl) hr hm rfl bl).mono ?_) | (refine (jh (some (zA gW 0)) gW V.nW cW m V.W (za (V.W m) (V.W m 1+1)) ca _ (fun _=>bp) (fun _=>rfl) hr hm rfl bl).mono ?_)
   rintro e w5 ⟨v2,rfl,bm,ae⟩;obtain ⟨a2,n2,c2,rfl⟩:=bP bm;have b0:Value.slice a2 n2 c2≠Value.slice none 0 0:=fun e=>by rw [e] at bm;rcases bm.2 with ⟨_,h⟩ | ⟨_,_,_,h,_⟩;omega;cases h
   first | (guard_hyp aa;have ad:bY (Md lo (fun x=>(Ok x/\x<w.heap.size)∨r0<=x) w5 (.agg #[zI V.c,.slice a2 n2 c2,zI V.g,zS gO V.nO cO,zS gX V.nX cX,zS gI V.nI cI]) (V.setW m (za (V.W m) (V.W m 1 - 1)))):=((D9.o.in (fun x _ ho=>.inl ho)).q ae).wk (fun x h1 _=>.inr (by omega)) ((D9.o.in (fun x hx _=>hx)).q ae) bm b0) | (have ad:bY (Md lo (fun x=>(Ok x/\x<w.heap.size)∨r0<=x) w5 (.agg #[zI V.c,.slice a2 n2 c2,zI V.g,zS gO V.nO cO,zS gX V.nX cX,zS gI V.nI cI]) (V.setW m (za (V.W m) (V.W m 1+1)))):=((D9.o.in (fun x _ ho=>.inl ho)).q ae).wk (fun x h1 _=>.inr (by omega)) ((D9.o.in (fun x hx _=>hx)).q ae) bm b0)
   have cl:r0<=w5.heap.size:=Hq bR ae.size;have cD:w2.heap.size<=w5.heap.size:=ae.size;have aD:=fQ (ah B9.o ae);have aO:=fQ (M9.o.q ae);have ao:=fQ (C9.o.q ae);have ap:=fQ (W9.o.q ae);have aW:=fQ (R9.o.q ae);have aM:=fQ (D9.o.q ae);have bo:bY (w.heap.size+4<=w5.heap.size):=Hq Z9.o ae.size;clear B9 M9 C9 W9 R9 D9 Z9;clear ae bm b0 bp bl bR cn;clear bo;have br:bY (r0<=w5.heap.size):=cl;clear cl;clear aM;first | (guard_hyp aa;have bt:bY (Md lo (fun x=>(Ok x/\x<w.heap.size)∨r0<=x) w5 (.agg #[zI V.c,.slice a2 n2 c2,zI V.g,zS gO V.nO cO,zS gX V.nX cX,zS gI V.nI cI]) (V.setW m (za (V.W m) (V.W m 1 - 1)))):=ad.o) | (have bt:bY (Md lo (fun x=>(Ok x/\x<w.heap.size)∨r0<=x) w5 (.agg #[zI V.c,.slice a2 n2 c2,zI V.g,zS gO V.nO cO,zS gX V.nX cX,zS gI V.nI cI]) (V.setW m (za (V.W m) (V.W m 1+1)))):=ad.o)
   have ag:=ao.o.a6;have cJ:=ao.o.f6;have ai:(w.heap.size+1)<w5.heap.size:=ao.o.1;go_upto_region 10 with fail;clear ag cJ ai;obtain ⟨w6,ar⟩:∃ X,X=w5.setCell (zA (w.heap.size+1) 1) (.slice a2 n2 c2):=⟨_,rfl⟩;have bW:w6.heap.size=w5.heap.size:=by rw [ar];exact ay
   have cQ:bY (Below w.heap.size w w6):=by unfold bY;rw [ar];exact aD.o.setCell (by show w.heap.size<=(w.heap.size+1);omega) _
   have bN:bY (Bk w6 w.heap.size [zI c,zI d]):=by unfold bY;rw [ar];exact aO.o.far (by omega)
   have bk:bY (Bk w6 ((w.heap.size+1)) [zI V.c,.slice a2 n2 c2,zI V.g,zS gO V.nO cO,zS gX V.nX cX,zS gI V.nI cI]):=by unfold bY;rw [ar];exact ao.o.set (j:=1) (by simp)
   first | (guard_hyp aa;have be:bY (Bk w6 ((w.heap.size+1+1)) [zI (V.W m 0),zI (V.W m 1 - 1),zI (V.W m 2),zI (V.W m 3),zI (V.W m 4)]):=by unfold bY;rw [ar];exact ap.o.far (by omega)) | (have be:bY (Bk w6 ((w.heap.size+1+1)) [zI (V.W m 0),zI (V.W m 1+1),zI (V.W m 2),zI (V.W m 3),zI (V.W m 4)]):=by unfold bY;rw [ar];exact ap.o.far (by omega))
   have a1:bY (Bk w6 (w.heap.size+1+1+1) zN):=by unfold bY;rw [ar];exact aW.o.far (by omega)
   have cw:bY (r0<=w6.heap.size):=by unfold bY;rw [bW];exact br.o
   have cM:=fQ (bt.o.sm (w':=w6) (by omega) (fun x hx ho=>by rw [ar];exact cZ (fun e=>by first | (have:=ho.2;omega) | (rcases ho with h | h <;> omega))));rw [<-ar];clear ar aD aO ao ap aW br bt;have ag:=bk.o.a6;have ai:(w.heap.size+1)<w6.heap.size:=bk.o.1;obtain ⟨bj,bi,bd,a3,a0,bb⟩:=a1.o.a6;have b8:=a1.o.f6;have b5:(w.heap.size+1+1+1)<w6.heap.size:=a1.o.1;go_wp2;refine Hw (v:=.tuple #[.agg #[zI V.c,.slice a2 n2 c2,zI V.g,zS gO V.nO cO,zS gX V.nX cX,zS gI V.nI cI],zI 1]) (by simp [results,Tryz.results142,go_sem,bj,bi,bd,a3,a0,bb]) rfl ?_;have ba:=au w6 ((w.heap.size+1+1+1)) (.int .i64 V.c) (.slice a2 n2 c2) (.int .i64 V.g) (.slice (some ⟨gO,0,none⟩) V.nO cO) (.slice (some ⟨gX,0,none⟩) V.nX cX) (.slice (some ⟨gI,0,none⟩) V.nI cI);have rz:=cw.o;refine ⟨_,r0,by rw [ER.o],by omega,?_,?_,?_⟩
   ·show _<=(aG _ _ _ _ _ _ _ _).heap.size;omega
   ·rw [ER.o];show Md lo _ (aG w6 ((w.heap.size+1+1+1)) (zI V.c) (.slice a2 n2 c2) (zI V.g) (zS gO V.nO cO) (zS gX V.nX cX) (zS gI V.nI cI)) _ _;exact cM.o.sm (Hl ba.symm) (fun x hx ho=>aH (fun e=>by rcases ho with h | h <;> omega) (zI V.c) (.slice a2 n2 c2) (zI V.g) (zS gO V.nO cO) (zS gX V.nX cX) (zS gI V.nI cI))
   exact Fr.of (ax cQ.o (by omega) (zI V.c) (.slice a2 n2 c2) (zI V.g) (zS gO V.nO cO) (zS gX V.nX cX) (zS gI V.nI cI)) aR
  have e2:(ct == V.c)=false:=by simp [h2]
  have ag:=C8.o.a6
  have ai:(w.heap.size+1)<w1.heap.size:=C8.o.1
  have an:=W8.o.a5
  have bh:=W8.o.f5
  have am:(w.heap.size+1+1)<w1.heap.size:=W8.o.1
  go_upto_region 8 with fail
  clear ag ai an bh am
  first | (guard_hyp aa;obtain ⟨w2,ab⟩:∃ X,X=w1.setCell (zA (w.heap.size+1+1) 1) (zI (V.W m 1 - 1)):=⟨_,rfl⟩) | (obtain ⟨w2,ab⟩:∃ X,X=w1.setCell (zA (w.heap.size+1+1) 1) (zI (V.W m 1+1)):=⟨_,rfl⟩)
  have a4:w2.heap.size=w1.heap.size:=by rw [ab];exact ay
  have B9:bY (Below w.heap.size w w2):=by unfold bY;rw [ab];exact B8.o.setCell (by show w.heap.size<=(w.heap.size+1+1);omega) _
  have M9:bY (Bk w2 w.heap.size [zI c,zI d]):=by unfold bY;rw [ab];exact M8.o.far (by omega)
  have C9:bY (Bk w2 (w.heap.size+1) (zC V gW cW gO cO gX cX gI cI)):=by unfold bY;rw [ab];exact C8.o.far (by omega)
  first | (guard_hyp aa;have W9:bY (Bk w2 ((w.heap.size+1+1)) [zI (V.W m 0),zI (V.W m 1 - 1),zI (V.W m 2),zI (V.W m 3),zI (V.W m 4)]):=by unfold bY;rw [ab];exact W8.o.set (j:=1) (by simp)) | (have W9:bY (Bk w2 ((w.heap.size+1+1)) [zI (V.W m 0),zI (V.W m 1+1),zI (V.W m 2),zI (V.W m 3),zI (V.W m 4)]):=by unfold bY;rw [ab];exact W8.o.set (j:=1) (by simp))
  have R9:bY (Bk w2 (w.heap.size+1+1+1) zN):=by unfold bY;rw [ab];exact R8.o.far (by omega)
  have D9:=fQ (D8.o.sm (w':=w2) (by omega) (fun x hx ho=>by rw [ab];exact cZ (fun e=>by first | (have:=ho.2;omega) | (rcases ho with h | h <;> omega))))
  have Z9:bY (w.heap.size+4<=w2.heap.size):=by unfold bY;rw [a4];exact Z8.o
  rw [<-ab]
  clear ab B8 M8 C8 W8 R8 D8 Z8
  have ag:=C9.o.a6
  have ai:(w.heap.size+1)<w2.heap.size:=C9.o.1
  have an:=W9.o.a5
  have bh:=W9.o.f5
  have am:(w.heap.size+1+1)<w2.heap.size:=W9.o.1
  go_upto_region 12 with fail
  clear ag ai an bh am
  obtain ⟨ak,av⟩:∃ X,X=w2.setCell (zA (w.heap.size+1+1) 4) (zI 1):=⟨_,rfl⟩
  have b6:ak.heap.size=w2.heap.size:=by rw [av];exact ay
  have aD:bY (Below w.heap.size w ak):=by unfold bY;rw [av];exact B9.o.setCell (by show w.heap.size<=(w.heap.size+1+1);omega) _
  have aO:bY (Bk ak w.heap.size [zI c,zI d]):=by unfold bY;rw [av];exact M9.o.far (by omega)
  have ao:bY (Bk ak (w.heap.size+1) (zC V gW cW gO cO gX cX gI cI)):=by unfold bY;rw [av];exact C9.o.far (by omega)
  first | (guard_hyp aa;have ap:bY (Bk ak ((w.heap.size+1+1)) [zI (V.W m 0),zI (V.W m 1 - 1),zI (V.W m 2),zI (V.W m 3),zI 1]):=by unfold bY;rw [av];exact W9.o.set (j:=4) (by simp)) | (have ap:bY (Bk ak ((w.heap.size+1+1)) [zI (V.W m 0),zI (V.W m 1+1),zI (V.W m 2),zI (V.W m 3),zI 1]):=by unfold bY;rw [av];exact W9.o.set (j:=4) (by simp))
  have aW:bY (Bk ak (w.heap.size+1+1+1) zN):=by unfold bY;rw [av];exact R9.o.far (by omega)
  have aM:=fQ (D9.o.sm (w':=ak) (by omega) (fun x hx ho=>by rw [av];exact cZ (fun e=>by first | (have:=ho.2;omega) | (rcases ho with h | h <;> omega))))
  have bo:bY (w.heap.size+4<=ak.heap.size):=by unfold bY;rw [b6];exact Z9.o
  rw [<-av]
  clear av B9 M9 C9 W9 R9 D9 Z9
  have ag:=ao.o.a6
  have ai:(w.heap.size+1)<ak.heap.size:=ao.o.1
  have an:=ap.o.a5
  have am:(w.heap.size+1+1)<ak.heap.size:=ap.o.1
  go_wp2_with fail
  clear ag ai an am
  first | (guard_hyp aa;by_cases bu:V.X 0=5000) | (by_cases bu:V.X 1=5000)
  ·first | (guard_hyp aa;refine (uM lo 0 (fun x=>Ok x/\x<w.heap.size) _ V (pw (V.X 0) (za (zl (V.W m)) (V.W m 1 - 1))) 0 hq bE bu _ aM.o).mono ?_) | (refine (uM lo 1 (fun x=>Ok x/\x<w.heap.size) _ V (pw (V.X 1) (za (zl (V.W m)) (V.W m 1+1))) 0 hq bE bu _ aM.o).mono ?_)
   rintro e w3 ⟨rfl,az⟩;have cC:ak.heap.size<=w3.heap.size:=az.size;have cd:=fQ (ah aD.o az);have bx:=fQ (aO.o.q az);have bA:=fQ (ao.o.q az);have bz:=fQ (ap.o.q az);have bv:=fQ (aW.o.q az);have co:=fQ (aM.o.q az);have br:bY (w.heap.size+4<=w3.heap.size):=Hq bo.o az.size;clear aD aO ao ap aW aM bo;have z3:=az.size;clear az;go_upto_region 13 with fail;obtain ⟨w4,e4⟩:∃ X,X=w3.alloc (.cells (zC V gW cW gO cO gX cX gI cI).toArray 36):=⟨_,rfl⟩;rw [<-e4];have ac:Below w3.heap.size w3 w4:=by rw [e4];exact (Hr _ _).alloc (Ho _) _
   have Y4:Bk w4 w3.heap.size (zC V gW cW gO cO gX cX gI cI):=by rw [e4];exact aU w3 36 (zC V gW cW gO cO gX cX gI cI)
   clear e4;obtain ⟨yb,aL⟩:∃ b,b=w3.heap.size:=⟨_,rfl⟩;rw [<-aL] at Y4 ⊢;have b4:w3.heap.size<=w4.heap.size:=ac.size;have cv:=fQ (ah cd.o ac);have c0:=fQ (bx.o.q ac);have cf:=fQ (bA.o.q ac);have cY:=fQ (bz.o.q ac);have bS:=fQ (bv.o.q ac);have bt:=fQ (co.o.q ac);have cS:bY (w.heap.size+4<=w4.heap.size):=Hq br.o ac.size;clear cd bx bA bz bv co br;have c6:bY (Bk w4 yb (zC V gW cW gO cO gX cX gI cI)):=Y4;have cT:yb<=w3.heap.size:=Hl aL;have cF:w3.heap.size<=yb:=Hl aL.symm;clear ac Y4 aL;first | (guard_hyp aa;have ER:bY (stepM c d V m ((0:Nat):Int)=(V,2)):=by unfold bY;rw [show (stepM c d V m ((0:Nat):Int)=(V,2))=(stepM c d V m ((0:Nat):Int)=(V,2)) from rfl];unfold stepM;rw [aE,<-aI.o,if_pos (.inr ⟨h2,by show ¬ V.X 0<5000;omega⟩)]) | (have ER:bY (stepM c d V m ((1:Nat):Int)=(V,2)):=by unfold bY;rw [show (stepM c d V m ((1:Nat):Int)=(V,2))=(stepM c d V m ((1:Nat):Int)=(V,2)) from rfl];unfold stepM;rw [aE,<-aI.o,if_pos (.inr ⟨h2,by show ¬ V.X 1<5000;omega⟩)])
   have ag:=cf.o.a6;have ai:(w.heap.size+1)<w4.heap.size:=cf.o.1;obtain ⟨bj,bi,bd,a3,a0,bb⟩:=bS.o.a6;have b8:=bS.o.f6;have b5:(w.heap.size+1+1+1)<w4.heap.size:=bS.o.1;go_wp2;refine Hw (v:=.tuple #[.agg (zC V gW cW gO cO gX cX gI cI).toArray,zI 2]) (by simp [results,Tryz.results142,go_sem,bj,bi,bd,a3,a0,bb]) rfl ?_;have ba:=au w4 ((w.heap.size+1+1+1)) (.int .i64 V.c) (.slice (some ⟨gW,0,none⟩) V.nW cW) (.int .i64 V.g) (.slice (some ⟨gO,0,none⟩) V.nO cO) (.slice (some ⟨gX,0,none⟩) V.nX cX) (.slice (some ⟨gI,0,none⟩) V.nI cI);have rz:=cS.o;refine ⟨_,w.heap.size,by rw [ER.o],Ho _,?_,?_,?_⟩
   ·show _<=(aG _ _ _ _ _ _ _ _).heap.size;omega
   ·rw [ER.o];show Md lo _ (aG w4 ((w.heap.size+1+1+1)) (zI V.c) (zS gW V.nW cW) (zI V.g) (zS gO V.nO cO) (zS gX V.nX cX) (zS gI V.nI cI)) _ _;exact (bt.o.sm (Hl ba.symm) (fun x hx ho=>aH (fun e=>by have:=ho.2;omega) (zI V.c) (zS gW V.nW cW) (zI V.g) (zS gO V.nO cO) (zS gX V.nX cX) (zS gI V.nI cI))).in (fun x _ ho=>.inl ho)
   exact Fr.of (ax cv.o (by omega) (zI V.c) (zS gW V.nW cW) (zI V.g) (zS gO V.nO cO) (zS gX V.nX cX) (zS gI V.nI cI)) aR
  obtain ⟨s1,b7⟩:∃ z,z=ak.heap.size:=⟨_,rfl⟩
  have c1:w.heap.size+4<=s1:=by rw [b7];exact bo.o
  first | (guard_hyp aa;refine (sD lo 0 (fun x=>Ok x/\x<w.heap.size) _ V (pw (V.X 0) (za (zl (V.W m)) (V.W m 1 - 1))) 0 hq bE hN hX bu rfl _ aM.o).mono ?_) | (refine (sD lo 1 (fun x=>Ok x/\x<w.heap.size) _ V (pw (V.X 1) (za (zl (V.W m)) (V.W m 1+1))) 0 hq bE hN hX bu rfl _ aM.o).mono ?_)
  rintro e w3 ⟨rfl,r1,k1,k2,bC,al⟩
  rw [<-b7] at k1 bC
  first | (guard_hyp aa;have DQ:bY (Md lo (fun x=>((Ok x/\x<w.heap.size)/\x<s1)∨r1<=x) w3 (.agg (zC V gW cW gO cO gX cX gI cI).toArray) (V.send 0 (pw (V.X 0) (za (zl (V.W m)) (V.W m 1 - 1))))):=bC) | (have DQ:bY (Md lo (fun x=>((Ok x/\x<w.heap.size)/\x<s1)∨r1<=x) w3 (.agg (zC V gW cW gO cO gX cX gI cI).toArray) (V.send 1 (pw (V.X 1) (za (zl (V.W m)) (V.W m 1+1))))):=bC)
  clear bC b7
  have bx:=fQ (aO.o.sm al.2.1 (al.2.2 _ aO.o.1 (fun h=>by have:=h.2;omega)))
  have bA:=fQ (ao.o.sm al.2.1 (al.2.2 _ ao.o.1 (fun h=>by have:=h.2;omega)))
  have bz:=fQ (ap.o.sm al.2.1 (al.2.2 _ ap.o.1 (fun h=>by have:=h.2;omega)))
  have bv:=fQ (aW.o.sm al.2.1 (al.2.2 _ aW.o.1 (fun h=>by have:=h.2;omega)))
  have bq:bY (Fr lo Ok w w3):=⟨(aD.o.mono aR).trans al.1,Hq aD.o.size al.2.1,fun x hx cG=>(aj aD.o hx).trans (al.2.2 x (Hg hx aD.o.size) (fun h=>cG h.1))⟩
  clear aD aO ao ap aW aM bo
  have cj:bY (Fr lo Ok w w3):=bq.o
  clear bq
  have z3:=al.2.1
  clear al
  go_upto_region 13 with fail
  obtain ⟨w4,e4⟩:∃ X,X=w3.alloc (.cells (zC V gW cW gO cO gX cX gI cI).toArray 36):=⟨_,rfl⟩
  rw [<-e4]
  have ac:Below w3.heap.size w3 w4:=by rw [e4];exact (Hr _ _).alloc (Ho _) _
  have Y4:Bk w4 w3.heap.size (zC V gW cW gO cO gX cX gI cI):=by rw [e4];exact aU w3 36 (zC V gW cW gO cO gX cX gI cI)
  clear e4
  obtain ⟨yb,aL⟩:∃ b,b=w3.heap.size:=⟨_,rfl⟩
  rw [<-aL] at Y4 ⊢
  first | (guard_hyp aa;have DY:bY (Md lo (fun x=>(Ok x/\x<w.heap.size)∨(r1<=x/\x<yb)) w4 (.agg (zC V gW cW gO cO gX cX gI cI).toArray) (V.send 0 (pw (V.X 0) (za (zl (V.W m)) (V.W m 1 - 1))))):=(DQ.o.in (fun x hx ho=>by rcases ho with h | h;exact .inl h.1;exact .inr ⟨h,by omega⟩)).q ac) | (have DY:bY (Md lo (fun x=>(Ok x/\x<w.heap.size)∨(r1<=x/\x<yb)) w4 (.agg (zC V gW cW gO cO gX cX gI cI).toArray) (V.send 1 (pw (V.X 1) (za (zl (V.W m)) (V.W m 1+1))))):=(DQ.o.in (fun x hx ho=>by rcases ho with h | h;exact .inl h.1;exact .inr ⟨h,by omega⟩)).q ac)
  clear DQ
  have b4:w3.heap.size<=w4.heap.size:=ac.size
  have bN:=fQ (bx.o.q ac)
  have bk:=fQ (bA.o.q ac)
  have be:=fQ (bz.o.q ac)
  have a1:=fQ (bv.o.q ac)
  have cc:bY (Fr lo Ok w w4):=Fr.then cj.o aR ac
  clear bx bA bz bv cj
  have bw:bY (Bk w4 yb (zC V gW cW gO cO gX cX gI cI)):=Y4
  have cT:yb<=w3.heap.size:=Hl aL
  have cF:w3.heap.size<=yb:=Hl aL.symm
  clear ac Y4 aL
  first | (guard_hyp aa;have aX:bY (Md lo (fun x=>(Ok x/\x<w.heap.size)∨(r1<=x/\x<yb)) w4 (.agg (zC V gW cW gO cO gX cX gI cI).toArray) (V.send 0 (pw (V.X 0) (za (zl (V.W m)) (V.W m 1 - 1))))):=DY.o) | (have aX:bY (Md lo (fun x=>(Ok x/\x<w.heap.size)∨(r1<=x/\x<yb)) w4 (.agg (zC V gW cW gO cO gX cX gI cI).toArray) (V.send 1 (pw (V.X 1) (za (zl (V.W m)) (V.W m 1+1))))):=DY.o)
  clear DY
  have an:=be.o.a5
  have am:(w.heap.size+1+1)<w4.heap.size:=be.o.1
  have bI:=bw.o.a6
  have bL:yb<w4.heap.size:=bw.o.1
  first | (guard_hyp aa;have ER:bY (stepM c d V m ((0:Nat):Int)=((V.outW m).send 0 (pw (V.X 0) (za (zl (V.W m)) (V.W m 1 - 1))),1)):=by unfold bY stepM;rw [aE,<-aI.o];rw [if_neg (fun h=>by rcases h with h | h;exact h1 h;exact h.2 (by show V.X 0<5000;omega)),if_neg h2];rfl) | (have ER:bY (stepM c d V m ((1:Nat):Int)=((V.outW m).send 1 (pw (V.X 1) (za (zl (V.W m)) (V.W m 1+1))),1)):=by unfold bY stepM;rw [aE,<-aI.o];rw [if_neg (fun h=>by rcases h with h | h;exact h1 h;exact h.2 (by show V.X 1<5000;omega)),if_neg h2];rfl)
  go_wp2_with fail
  clear an am bI bL
  obtain ⟨r2,aN⟩:∃ r,r=w4.heap.size:=⟨_,rfl⟩
  have cA:w.heap.size<r2:=by rw [aN];exact bN.o.1
  have cs:(w.heap.size+1)<r2:=by rw [aN];exact bk.o.1
  have cq:(w.heap.size+1+1)<r2:=by rw [aN];exact be.o.1
  have cP:(w.heap.size+1+1+1)<r2:=by rw [aN];exact a1.o.1
  have c3:yb<r2:=by rw [aN];exact bw.o.1
  have bR:r2<=w4.heap.size:=Hl aN
  have cn:w4.heap.size<=r2:=Hl aN.symm
  clear aN
  obtain ⟨bp,bl⟩:=aX.o.FU
  refine (vg (V.W m 0) (some (zA gW 0)) gW V.nW cW m V.W ca _ (fun _=>bp) (fun _=>rfl) hm rfl (fun j hj cE e=>cE (hr.one hj hm e)) bl).mono ?_
  rintro e w7 ⟨v7,rfl,bX,bO,af⟩
  obtain ⟨a7,n7,c7,rfl⟩:=bP bO
  have c4:=af.size
  first | (guard_hyp aa;have ad:bY (Md lo (fun x=>(Ok x/\x<w.heap.size)∨(r1<=x/\x<yb)∨r2<=x) w7 (.agg #[zI V.c,.slice a7 n7 c7,zI V.g,zS gO V.nO cO,zS gX V.nX cX,zS gI V.nI cI]) ((V.outW m).send 0 (pw (V.X 0) (za (zl (V.W m)) (V.W m 1 - 1))))):=((aX.o.in (fun x _ ho=>by rcases ho with h | h;exact .inl h;exact .inr (.inl h))).q af).wk (fun x h1 _=>.inr (.inr (by omega))) ((aX.o.in (fun x hx _=>hx)).q af) bO bX) | (have ad:bY (Md lo (fun x=>(Ok x/\x<w.heap.size)∨(r1<=x/\x<yb)∨r2<=x) w7 (.agg #[zI V.c,.slice a7 n7 c7,zI V.g,zS gO V.nO cO,zS gX V.nX cX,zS gI V.nI cI]) ((V.outW m).send 1 (pw (V.X 1) (za (zl (V.W m)) (V.W m 1+1))))):=((aX.o.in (fun x _ ho=>by rcases ho with h | h;exact .inl h;exact .inr (.inl h))).q af).wk (fun x h1 _=>.inr (.inr (by omega))) ((aX.o.in (fun x hx _=>hx)).q af) bO bX)
  have cB:w4.heap.size<=w7.heap.size:=af.size
  have ck:=fQ (bN.o.q af)
  have ci:=fQ (bk.o.q af)
  have b1:=fQ (be.o.q af)
  have cm:=fQ (a1.o.q af)
  have ch:bY (Fr lo Ok w w7):=Fr.then cc.o aR af
  have bs:=fQ (bw.o.q af)
  have cN:=fQ (aX.o.q af)
  clear bN bk be a1 cc bw aX
  clear af bO bX bp bl
  clear cN
  first | (guard_hyp aa;have b9:bY (Md lo (fun x=>(Ok x/\x<w.heap.size)∨(r1<=x/\x<yb)∨r2<=x) w7 (.agg #[zI V.c,.slice a7 n7 c7,zI V.g,zS gO V.nO cO,zS gX V.nX cX,zS gI V.nI cI]) ((V.outW m).send 0 (pw (V.X 0) (za (zl (V.W m)) (V.W m 1 - 1))))):=ad.o) | (have b9:bY (Md lo (fun x=>(Ok x/\x<w.heap.size)∨(r1<=x/\x<yb)∨r2<=x) w7 (.agg #[zI V.c,.slice a7 n7 c7,zI V.g,zS gO V.nO cO,zS gX V.nX cX,zS gI V.nI cI]) ((V.outW m).send 1 (pw (V.X 1) (za (zl (V.W m)) (V.W m 1+1))))):=ad.o)
  clear ad
  have cg:bY (r2<=w7.heap.size):=by show r2<=w7.heap.size;omega
  have bI:=bs.o.a6
  have cp:=bs.o.f6
  have bL:yb<w7.heap.size:=bs.o.1
  go_upto_region 16 with fail
  clear bI cp bL
  obtain ⟨w8,aq⟩:∃ X,X=w7.setCell (zA yb 1) (.slice a7 n7 c7):=⟨_,rfl⟩
  have b3:w8.heap.size=w7.heap.size:=by rw [aq];exact ay
  have c5:bY (Bk w8 w.heap.size [zI c,zI d]):=by unfold bY;rw [aq];exact ck.o.far (by omega)
  have c8:bY (Bk w8 (w.heap.size+1) (zC V gW cW gO cO gX cX gI cI)):=by unfold bY;rw [aq];exact ci.o.far (by omega)
  first | (guard_hyp aa;have cr:bY (Bk w8 ((w.heap.size+1+1)) [zI (V.W m 0),zI (V.W m 1 - 1),zI (V.W m 2),zI (V.W m 3),zI 1]):=by unfold bY;rw [aq];exact b1.o.far (by omega)) | (have cr:bY (Bk w8 ((w.heap.size+1+1)) [zI (V.W m 0),zI (V.W m 1+1),zI (V.W m 2),zI (V.W m 3),zI 1]):=by unfold bY;rw [aq];exact b1.o.far (by omega))
  have cb:bY (Bk w8 (w.heap.size+1+1+1) zN):=by unfold bY;rw [aq];exact cm.o.far (by omega)
  have cU:bY (Fr lo Ok w w8):=by unfold bY;rw [aq];exact ch.o.set aR (by omega) _
  have ce:bY (Bk w8 (yb) [zI V.c,.slice a7 n7 c7,zI V.g,zS gO V.nO cO,zS gX V.nX cX,zS gI V.nI cI]):=by unfold bY;rw [aq];exact bs.o.set (j:=1) (by simp)
  have cR:=fQ (b9.o.sm (w':=w8) (by omega) (fun x hx ho=>by rw [aq];exact cZ (fun e=>by first | (have:=ho.2;omega) | (rcases ho with h | h <;> omega) | (rcases ho with h | h | h <;> omega))))
  have cz:bY (r2<=w8.heap.size):=by unfold bY;rw [b3];exact cg.o
  rw [<-aq]
  clear aq ck ci b1 cm ch bs b9 cg
  have bI:=ce.o.a6
  have bL:yb<w8.heap.size:=ce.o.1
  obtain ⟨bj,bi,bd,a3,a0,bb⟩:=cb.o.a6
  have b8:=cb.o.f6
  have b5:(w.heap.size+1+1+1)<w8.heap.size:=cb.o.1
  go_wp2
  refine Hw (v:=.tuple #[.agg #[zI V.c,.slice a7 n7 c7,zI V.g,zS gO V.nO cO,zS gX V.nX cX,zS gI V.nI cI],zI 1]) (by simp [results,Tryz.results142,go_sem,bj,bi,bd,a3,a0,bb]) rfl ?_
  have ba:=au w8 ((w.heap.size+1+1+1)) (.int .i64 V.c) (.slice a7 n7 c7) (.int .i64 V.g) (.slice (some ⟨gO,0,none⟩) V.nO cO) (.slice (some ⟨gX,0,none⟩) V.nX cX) (.slice (some ⟨gI,0,none⟩) V.nI cI)
  have rz:=cz.o
  refine ⟨_,w.heap.size,by rw [ER.o],Ho _,?_,?_,?_⟩
  ·show _<=(aG _ _ _ _ _ _ _ _).heap.size
   omega
  ·rw [ER.o]
   show Md lo _ (aG w8 ((w.heap.size+1+1+1)) (zI V.c) (.slice a7 n7 c7) (zI V.g) (zS gO V.nO cO) (zS gX V.nX cX) (zS gI V.nI cI)) _ _;exact (cR.o.sm (Hl ba.symm) (fun x hx ho=>aH (fun e=>by first | (have:=ho.2;omega) | (rcases ho with h | h <;> omega) | (rcases ho with h | h | h <;> omega)) (zI V.c) (.slice a7 n7 c7) (zI V.g) (zS gO V.nO cO) (zS gX V.nX cX) (zS gI V.nI cI))).in (fun x _ ho=>by rcases ho with h | h | h;exact .inl h;exact .inr (by omega);exact .inr (by omega))
  exact (cU.o).six aR (by omega) (zI V.c) (.slice a7 n7 c7) (zI V.g) (zS gO V.nO cO) (zS gX V.nX cX) (zS gI V.nI cI)
