/- A cell of the model while an order is done in it: what may be written lies apart; conditions: none. -/
import Derived.Test.YtngaboipleimcabGreatDoorIn6
set_option linter.unusedVariables false
set_option maxHeartbeats 4000000
set_option maxRecDepth 20000
namespace Go.Proofs.YtngaboipleimcabGreatDoor
open Go.RowKit Go.Deep Go.Maps
theorem ownsRow_base {w:World} {base base':Nat} {e:TypeId} {size:Nat} {v:Value} {n:Nat} {xs:List Value} (h:w.ownsRow base e size v n xs) (hb:base'<=base):w.ownsRow base' e size v n xs:=by
 refine ⟨h.1,?_⟩;rcases h.2 with h | ⟨g,cap,cur,hv,hg,r⟩
 ·exact .inl h
 exact .inr ⟨g,cap,cur,hv,Hq hb hg,r⟩
def upto (p k:Nat):Nat:=if p<k then k+1 else k
theorem yY (p k:Nat):upto p k<=k+1:=by unfold upto;split <;> omega
theorem kU {Z Y:Nat->Nat->Int} {i j:Nat} (h:Z i=Y j):aP Z i=aP Y j:=by simp [aP,h]
theorem qQ {Z:Nat->Nat->Int} {n k:Nat} {Zp:Nat->Int} (h:k<bK Z (Zp 0) n):upto (bK Z (Zp 0) n) (k+1)=upto (bK Z (Zp 0) n) k+1/\(List.range (upto (bK Z (Zp 0) n) k+1)).flatMap (aP (dK Z n (Zp 0) Zp))=(List.range (upto (bK Z (Zp 0) n) k)).flatMap (aP (dK Z n (Zp 0) Zp))++aP Z k:=by
 have e:upto (bK Z (Zp 0) n) k=k:=if_neg (by omega);have e2:upto (bK Z (Zp 0) n) (k+1)=k+1:=if_neg (by omega);rw [e,e2,iU];exact ⟨rfl,by rw [kU (show (dK Z n (Zp 0) Zp) k=Z k from if_pos h)]⟩
theorem qU {Z:Nat->Nat->Int} {n k:Nat} {Zp:Nat->Int} (h:bK Z (Zp 0) n<k):upto (bK Z (Zp 0) n) (k+1)=upto (bK Z (Zp 0) n) k+1/\(List.range (upto (bK Z (Zp 0) n) k+1)).flatMap (aP (dK Z n (Zp 0) Zp))=(List.range (upto (bK Z (Zp 0) n) k)).flatMap (aP (dK Z n (Zp 0) Zp))++aP Z k:=by
 have e:upto (bK Z (Zp 0) n) k=k+1:=if_pos h;have e2:upto (bK Z (Zp 0) n) (k+1)=k+1+1:=if_pos (by omega);rw [e,e2,iU];refine ⟨rfl,?_⟩;rw [kU (Z:=(dK Z n (Zp 0) Zp)) (Y:=Z) (i:=k+1) (j:=k) ?_];unfold dK;rw [if_neg (by omega),if_neg (by omega)];rfl
theorem qL {Z:Nat->Nat->Int} {n k:Nat} {Zp:Nat->Int} (h:k=bK Z (Zp 0) n):upto (bK Z (Zp 0) n) (k+1)=upto (bK Z (Zp 0) n) k+1+1/\(List.range (upto (bK Z (Zp 0) n) k+1+1)).flatMap (aP (dK Z n (Zp 0) Zp))=(List.range (upto (bK Z (Zp 0) n) k)).flatMap (aP (dK Z n (Zp 0) Zp))++aP (fun _=>Zp) 0++aP Z k:=by
 have e:upto (bK Z (Zp 0) n) k=k:=if_neg (by omega);have e2:upto (bK Z (Zp 0) n) (k+1)=k+1+1:=if_pos (by omega);rw [e,e2,iU,iU];refine ⟨rfl,?_⟩;rw [kU (Y:=Z) (j:=k) (show (dK Z n (Zp 0) Zp) (k+1)=Z k from ?_),kU (Z:=(dK Z n (Zp 0) Zp)) (Y:=fun _=>Zp) (i:=k) (j:=0) ?_]
 ·unfold dK;rw [if_neg (by omega),if_pos h]
 unfold dK;rw [if_neg (by omega),if_neg (by omega)];rfl
theorem oM {Z:Nat->Nat->Int} {n:Nat} {Zp:Nat->Int} (h:¬ bK Z (Zp 0) n<n):upto (bK Z (Zp 0) n) n=n/\(List.range (n+1)).flatMap (aP (dK Z n (Zp 0) Zp))=(List.range n).flatMap (aP (dK Z n (Zp 0) Zp))++aP (fun _=>Zp) 0:=by
 have hl:=jU Z (Zp 0) n;refine ⟨if_neg h,?_⟩;rw [iU,kU (Z:=(dK Z n (Zp 0) Zp)) (Y:=fun _=>Zp) (i:=n) (j:=0) ?_];unfold dK;rw [if_neg (by omega),if_pos (by omega)]
theorem Eg (a:Option Addr) (b n cap:Nat) (Z:Nat->Nat->Int) (Zp:Nat->Int) (hn:n+1<=1048576) (w:World) (hb:n≠0->b<w.heap.size) (ha:n≠0->a=some (zA b 0)) (hup:∀ i j,i<j->j<n->Z i 0<Z j 0) (hF:pK Z n (Zp 0)) (hr:∀ k j,k<n->j<5->w.cell? (zA b (k * 5+j))=some (zI (Z k j))) :
 Hz 119 #[.slice a n cap,.agg (zF Zp).toArray] w fun e w'=>∃ v,e=.returned v/\w'.ownsRow w.heap.size 67 5 v (n+1) ((List.range (n+1)).flatMap (aP (dK Z n (Zp 0) Zp)))/\Below w.heap.size w w':=by
 obtain ⟨i5,hi5,hz50,hz51,hz52⟩:=info5;have HB0:bY (∀ o:Obj,Below w.heap.size w (w.alloc o)):=fun o=>(Hr _ _).alloc (Ho _) o;have HC:bY (∀ ob:Obj,Hz 141 #[.slice a n cap,zI (Zp 0)] (w.alloc ob) fun e w'=>∃ v,e=.returned v/\v≠.slice none 0 0/\w'.ownsRow (w.alloc ob).heap.size 67 5 v n ((List.range n).flatMap (aP Z))/\Below (w.alloc ob).heap.size (w.alloc ob) w'):=fun ob =>
  DU (Zp 0) a b n cap Z (by omega) (w.alloc ob) (fun h=>by have:=hb h;simp;omega) ha hF (fun k j h1 h2=>((HB0.o ob).cell (p:=⟨b,_,none⟩) (hb (by omega))).trans (hr k j h1 h2))
 have HLO:bY (∀ k,k<bK Z (Zp 0) n->decide (Zp 0<Z k 0)=false):=fun k hk=>decide_eq_false (by have:=oN Z (Zp 0) n hup k hk;omega);have HHI:bY (∀ k,bK Z (Zp 0) n=k->k<n->decide (Zp 0<Z k 0)=true):=fun k h1 h2=>decide_eq_true (by have:=oJ Z (Zp 0) n k (by omega) h2;have:=hF k h2;omega);have HPL:bY (bK Z (Zp 0) n<=n):=jU Z (Zp 0) n;clear hr hb ha hup hF;go_enter Tryz.func119,Tryz.ntmps119;go_wp2_with fail;refine (HC.o _).mono ?_;rintro e w1 ⟨v,rfl,hnv,hW,hb1⟩
 have HX:bY (∀ j,j<5->w1.cell? (zA w.heap.size j)=some (zI (Zp j))):=fun j hj=>(hb1.cell (p:=(zA w.heap.size j)) (by simp)).trans (by
  have:j=0∨j=1∨j=2∨j=3∨j=4:=by omega
  rcases this with rfl | rfl | rfl | rfl | rfl <;> simp)
 have hs1:w.heap.size<w1.heap.size:=by have:=hb1.size;simp at this;omega
 have B1:Below w.heap.size w w1:=(HB0.o _).trans (hb1.mono (by simp));obtain ⟨g,hRW,_⟩:=gZ hW;obtain ⟨g0,c,hv⟩:∃ g0 c,v=.slice (some g0) n c:=by
  rcases hRW with ⟨rfl,a,c,rfl⟩ | ⟨c,rfl,_⟩
  ·rcases hW.2 with ⟨e,_⟩ | ⟨g,c,_,e,_⟩
   ·exact absurd e hnv
   exact ⟨_,_,e⟩
  exact ⟨_,_,rfl⟩
 subst hv;have HR:bY (∀ k j,k<n->j<5->g0=(zA g 0)/\g<w1.heap.size/\w1.cell? (zA g (k * 5+j))=some (zI (Z k j))):=fun k j hk hj=>by
  rcases hRW with ⟨e,_⟩ | ⟨c',e,_,h2,h3,h4⟩
  ·omega
  simp only [Value.slice.injEq,Option.some.injEq,true_and] at e;exact ⟨e.1,by omega,h4.2 k j hk hj⟩
 clear hW hb1 HC HB0 hRW hnv;go_wp2;go_loopw [6,7,8] (fun s d i wr=>∃ (k:Nat) (v:Value),k<=n/\zI k=i/\v=s/\.bool (decide (bK Z (Zp 0) n<k))=d/\v≠.slice none 0 0/\wr.ownsRow w1.heap.size 67 5 v (upto (bK Z (Zp 0) n) k) ((List.range (upto (bK Z (Zp 0) n) k)).flatMap (aP (dK Z n (Zp 0) Zp)))/\w1.heap.size<=wr.heap.size/\Below w1.heap.size w1 wr) (fun _ _ i _=>n - (intOf i).toNat)
 case atStart=>exact ⟨0,_,Nat.zero_le _,rfl,rfl,by simp,by simp,World.ownsRow_lit w1 #[] 0 (Ho _) (by simp) (by simp),by simp,(Hr _ _).alloc (by simp) _⟩
 case round =>
  obtain ⟨k,v,hk,rfl,rfl,rfl,hnn,ho,hsz,hbel⟩:=hrel;have x0:wr.cell? (zA w.heap.size 0)=some (zI (Zp 0)):=(hbel.cell (by exact hs1)).trans <| HX.o 0 (by omega);have x1:wr.cell? (zA w.heap.size 1)=some (zI (Zp 1)):=(hbel.cell (by exact hs1)).trans <| HX.o 1 (by omega);have x2:wr.cell? (zA w.heap.size 2)=some (zI (Zp 2)):=(hbel.cell (by exact hs1)).trans <| HX.o 2 (by omega);have x3:wr.cell? (zA w.heap.size 3)=some (zI (Zp 3)):=(hbel.cell (by exact hs1)).trans <| HX.o 3 (by omega);have x4:wr.cell? (zA w.heap.size 4)=some (zI (Zp 4)):=(hbel.cell (by exact hs1)).trans <| HX.o 4 (by omega);have HNN:bY (v≠.slice none 0 0):=hnn;have HPN:bY (upto (bK Z (Zp 0) n) k<=k+1):=yY _ k;clear hnn;by_cases hkn:k<n
  ·have hkn':(k:Int)<(n:Int):=by omega
   obtain ⟨rfl,hgl,_⟩:=HR.o k 0 hkn (by omega);have c0:=cq5 (fun j hj=>(hbel.cell (by exact hgl)).trans (HR.o k j hkn (by omega)).2.2);rcases Nat.lt_trichotomy k (bK Z (Zp 0) n) with hlt | heq | hgt
   ·have hd:decide (bK Z (Zp 0) n<k)=false:=decide_eq_false (by omega);have hd2:decide (Zp 0<Z k 0)=false:=HLO.o k hlt;rw [hd];have HLT:bY (k<bK Z (Zp 0) n):=hlt;clear hlt hd;go_wp2_with fail;go_quiet (fail);go_wp2_with (at_builtin;refine wpList_append_own _ rfl _ _ 33 rfl w1.heap.size 67 i5 (.agg z5.toArray) 5 40 Tryz.underlying33 hi5 hz50 hz51 hz52 rfl (by decide) _ _ _ rfl (ho.alloc _) (zA wr.heap.size 0) 1 1 (aP Z k) rfl rfl (fH _ Z k 67) (dZ Z k) ?d3 ?d4 ?d5 ?_)
    case d3=>have:=HPN.o;unfold maxLen;omega
    case d4=>have:=HPN.o;omega
    case d5=>simp;omega
    ·intro v' w2 hown' hg2 hnil;have hall0:=(World.grownBy_alloc (wr.drewN nq) _ _).trans hg2;have hall:wr.grownBy w2 v.ownBlock:=⟨hall0.os,hall0.tape,hall0.output,hall0.size,hall0.block⟩;clear hall0;have HO:bY (w2.ownsRow w1.heap.size 67 5 v' (upto (bK Z (Zp 0) n) (k+1)) ((List.range (upto (bK Z (Zp 0) n) (k+1))).flatMap (aP (dK Z n (Zp 0) Zp)))):=by
      unfold bY;rw [(qQ HLT.o).1,(qQ HLT.o).2];exact hown'
     have HNN':bY (v'≠.slice none 0 0):=by
      intro e;have h0:=HNN.o;simp [e] at hnil
     have hs2:w1.heap.size<=w2.heap.size:=Hq hsz hall.size;have hb2:Below w1.heap.size w1 w2:=hbel.grown hall hsz (fun kk e=>(ho.lt kk e).1);clear hown' hg2 hnil hall ho c0 HNN x0 x1 x2 x3 x4;go_wp2;go_roundw
     case rel=>exact ⟨k+1,_,by omega,by go_num,rfl,by have:=HLT.o;rw [decide_eq_false (by omega)],HNN'.o,HO.o,hs2,hb2⟩
     case measure=>simp [intOf];omega
   ·have hd:decide (bK Z (Zp 0) n<k)=false:=decide_eq_false (by omega);have hd2:decide (Zp 0<Z k 0)=true:=HHI.o k heq.symm hkn;rw [hd];have HEQ:bY (k=bK Z (Zp 0) n):=heq;clear heq hd;go_wp2_with fail;go_quiet (fail);go_wp2_with (at_builtin;refine wpList_append_own _ rfl _ _ 33 rfl w1.heap.size 67 i5 (.agg z5.toArray) 5 40 Tryz.underlying33 hi5 hz50 hz51 hz52 rfl (by decide) _ _ _ rfl (ho.alloc _) (zA wr.heap.size 0) 1 1 (aP (fun _=>Zp) 0) rfl rfl (fH _ (fun _=>Zp) 0 67) (dZ (fun _=>Zp) 0) ?d3 ?d4 ?d5 ?_)
    case d3=>have:=HPN.o;unfold maxLen;omega
    case d4=>have:=HPN.o;omega
    case d5=>simp;omega
    ·intro v1 w2 hown' hg2 hnil;have hall0:=(World.grownBy_alloc (wr.drewN nq) _ _).trans hg2;have hall:wr.grownBy w2 v.ownBlock:=⟨hall0.os,hall0.tape,hall0.output,hall0.size,hall0.block⟩;clear hall0;have HO1:w2.ownsRow w1.heap.size 67 5 v1 (upto (bK Z (Zp 0) n) k+1) ((List.range (upto (bK Z (Zp 0) n) k)).flatMap (aP (dK Z n (Zp 0) Zp))++aP (fun _=>Zp) 0):=hown';have HNN1:bY (v1≠.slice none 0 0):=by
      intro e;have h0:=HNN.o;simp [e] at hnil
     have hs2:w1.heap.size<=w2.heap.size:=Hq hsz hall.size;have hb2:Below w1.heap.size w1 w2:=hbel.grown hall hsz (fun kk e=>(ho.lt kk e).1);clear c0;have c0:=cq5 (fun j hj=>(hb2.cell (by exact hgl)).trans (HR.o k j hkn (by omega)).2.2);clear hown' hg2 hnil hall ho HNN x0 x1 x2 x3 x4 hbel hsz hd2;go_wp2_with (at_builtin;refine wpList_append_own _ rfl _ _ 33 rfl w1.heap.size 67 i5 (.agg z5.toArray) 5 40 Tryz.underlying33 hi5 hz50 hz51 hz52 rfl (by decide) _ _ _ rfl (HO1.alloc _) (zA w2.heap.size 0) 1 1 (aP Z k) rfl rfl (fH _ Z k 67) (dZ Z k) ?d3 ?d4 ?d5 ?_)
     case d3=>have:=HPN.o;unfold maxLen;omega
     case d4=>have:=HPN.o;omega
     case d5=>simp;omega
     ·intro v' w3 hown' hg3 hnil;have hall:=(World.grownBy_alloc w2 _ _).trans hg3;have HO:bY (w3.ownsRow w1.heap.size 67 5 v' (upto (bK Z (Zp 0) n) (k+1)) ((List.range (upto (bK Z (Zp 0) n) (k+1))).flatMap (aP (dK Z n (Zp 0) Zp)))):=by
       unfold bY;rw [(qL HEQ.o).1,(qL HEQ.o).2,List.append_assoc];exact hown'
      have HNN':bY (v'≠.slice none 0 0):=by
       intro e;have h0:=HNN1.o;simp [e] at hnil
      have hs3:w1.heap.size<=w3.heap.size:=Hq hs2 hall.size;have hb3:Below w1.heap.size w1 w3:=hb2.grown hall hs2 (fun kk e=>(HO1.lt kk e).1);clear hown' hg3 hnil hall HO1 c0 HNN1;go_wp2;go_roundw
      case rel=>exact ⟨k+1,_,by omega,by go_num,rfl,by have:=HEQ.o;rw [decide_eq_true (by omega)],HNN'.o,HO.o,hs3,hb3⟩
      case measure=>simp [intOf];omega
   have hd:decide (bK Z (Zp 0) n<k)=true:=decide_eq_true hgt;rw [hd];have HGT:bY (bK Z (Zp 0) n<k):=hgt;clear hgt hd;go_wp2_with fail;go_quiet (fail);go_wp2_with (at_builtin;refine wpList_append_own _ rfl _ _ 33 rfl w1.heap.size 67 i5 (.agg z5.toArray) 5 40 Tryz.underlying33 hi5 hz50 hz51 hz52 rfl (by decide) _ _ _ rfl (ho.alloc _) (zA wr.heap.size 0) 1 1 (aP Z k) rfl rfl (fH _ Z k 67) (dZ Z k) ?d3 ?d4 ?d5 ?_)
   case d3=>have:=HPN.o;unfold maxLen;omega
   case d4=>have:=HPN.o;omega
   case d5=>simp;omega
   ·intro v' w2 hown' hg2 hnil;have hall0:=(World.grownBy_alloc (wr.drewN nq) _ _).trans hg2;have hall:wr.grownBy w2 v.ownBlock:=⟨hall0.os,hall0.tape,hall0.output,hall0.size,hall0.block⟩;clear hall0;have HO:bY (w2.ownsRow w1.heap.size 67 5 v' (upto (bK Z (Zp 0) n) (k+1)) ((List.range (upto (bK Z (Zp 0) n) (k+1))).flatMap (aP (dK Z n (Zp 0) Zp)))):=by
     unfold bY;rw [(qU HGT.o).1,(qU HGT.o).2];exact hown'
    have HNN':bY (v'≠.slice none 0 0):=by
     intro e;have h0:=HNN.o;simp [e] at hnil
    have hs2:w1.heap.size<=w2.heap.size:=Hq hsz hall.size;have hb2:Below w1.heap.size w1 w2:=hbel.grown hall hsz (fun kk e=>(ho.lt kk e).1);clear hown' hg2 hnil hall ho c0 HNN x0 x1 x2 x3 x4;go_wp2;go_roundw
    case rel=>exact ⟨k+1,_,by omega,by go_num,rfl,by have:=HGT.o;rw [decide_eq_true (by omega)],HNN'.o,HO.o,hs2,hb2⟩
    case measure=>simp [intOf];omega
  have hkn':k=n:=by omega
  subst hkn';by_cases hsp:bK Z (Zp 0) k<k
  ·have hd:decide (bK Z (Zp 0) k<k)=true:=decide_eq_true hsp;rw [hd];have HW:bY (wr.ownsRow w.heap.size 67 5 v (k+1) ((List.range (k+1)).flatMap (aP (dK Z k (Zp 0) Zp)))):=by
    have e:upto (bK Z (Zp 0) k) k=k+1:=if_pos hsp;rw [e] at ho;exact ownsRow_base ho (Nat.le_of_lt hs1)
   have hbb:Below w.heap.size w wr:=B1.trans (hbel.mono (Nat.le_of_lt hs1));clear ho hsp hd;go_wp2;go_ret;exact ⟨_,rfl,HW.o,hbb⟩
  have hd:decide (bK Z (Zp 0) k<k)=false:=decide_eq_false hsp;rw [hd];have HSP:bY (¬ bK Z (Zp 0) k<k):=hsp;rw [(oM hsp).1] at ho;clear hsp hd;go_wp2_with (at_builtin;refine wpList_append_own _ rfl _ _ 33 rfl w1.heap.size 67 i5 (.agg z5.toArray) 5 40 Tryz.underlying33 hi5 hz50 hz51 hz52 rfl (by decide) _ _ _ rfl (ho.alloc _) (zA wr.heap.size 0) 1 1 (aP (fun _=>Zp) 0) rfl rfl (fH _ (fun _=>Zp) 0 67) (dZ (fun _=>Zp) 0) ?d3 ?d4 ?d5 ?_)
  case d3=>unfold maxLen;omega
  case d4=>omega
  case d5=>simp;omega
  ·intro v' w2 hown' hg2 hnil;have hall:=(World.grownBy_alloc wr _ _).trans hg2;have HW:bY (w2.ownsRow w.heap.size 67 5 v' (k+1) ((List.range (k+1)).flatMap (aP (dK Z k (Zp 0) Zp)))):=by
    rw [(oM HSP.o).2];exact ownsRow_base hown' (Nat.le_of_lt hs1)
   have hb2:Below w1.heap.size w1 w2:=hbel.grown hall hsz (fun kk e=>(ho.lt kk e).1);have hbb:Below w.heap.size w w2:=B1.trans (hb2.mono (Nat.le_of_lt hs1));clear hown' hg2 hnil hall ho HNN x0 x1 x2 x3 x4;go_wp2;go_ret;exact ⟨_,rfl,HW.o,hbb⟩
theorem aV.more {lo lo' hi hi':Nat} {w w':World} {v:Value} {V:CV} (h:aV lo hi w v V) (h0:lo'<=lo) (h1:hi<=hi') (h2:hi'<=w'.heap.size) (k:∀ b,lo<=b->b<hi->Sm w w' b):aV lo' hi' w' v V:=by
 obtain ⟨vW,vO,vX,vI,gW,gO,gX,gI,sl,xs,e,rW,rO,rX,rI,hd,hx1,hx2⟩:=h;refine ⟨vW,vO,vX,vI,gW,gO,gX,gI,sl,xs,e,rW.go h0 h1 h2 (fun _=>k _),?_,rX.go h0 h1 h2 (fun _=>k _),rI.go h0 h1 h2 (fun _=>k _),hd,hx1,hx2⟩;rcases rO with r | ⟨co,e1,l1,l2,l3,hc⟩
 ·exact .inl r
 exact .inr ⟨co,e1,by omega,by omega,h2,fun j hj=>⟨(k gO l1 l2 j).1.trans (hc j hj).1,(hc j hj).2.go h0 h1 h2 (fun _=>k _)⟩⟩
theorem aV.gr {lo hi:Nat} {w:World} {x0 x1 x2 x3 x4 x5:Value} {V:CV} (h:aV lo hi w (.agg #[x0,x1,x2,x3,x4,x5]) V) (z:Int):aV lo hi w (.agg #[zI V.c,x1,zI z,x3,x4,x5]) { V with g:=z }:=by
 obtain ⟨vW,vO,vX,vI,gW,gO,gX,gI,sl,xs,e,rW,rO,rX,rI,hd,hx1,hx2⟩:=h;obtain ⟨rfl,rfl,rfl,rfl⟩:=kV e;exact ⟨_,_,_,_,gW,gO,gX,gI,sl,xs,rfl,rW,rO,rX,rI,hd,hx1,hx2⟩
theorem aV.ins {lo hi:Nat} {w:World} {x0 x1 x2 x3 x4:Value} {aI:Option Addr} {kI q:Nat} {V:CV} (h:aV lo hi w (.agg #[x0,x1,x2,x3,x4,.slice aI V.nI kI]) V) (hq:q<V.nI) :
 ∃ gI,aI=some (zA gI 0)/\lo<=gI/\gI<hi/\hi<=w.heap.size/\w.cell? (zA gI q)=some (zI (V.I q))/\w.frozen? (zA gI q)=false/\∀ z,aV lo hi (w.setCell (zA gI q) (zI z)) (.agg #[x0,x1,x2,x3,x4,.slice aI V.nI kI]) { V with I:=jo V.I q z }:=by
 obtain ⟨vW,vO,vX,vI,gW,gO,gX,gI,sl,xs,e,rW,rO,rX,rI,⟨d1,d2,d3,d4,d5,d6⟩,hx1,hx2⟩:=h;have e':=e;obtain ⟨rfl,rfl,rfl,rfl⟩:=kV e;rcases rI with ⟨e,_⟩ | ⟨cI,eI,i1,i2,i3,i4⟩
 ·omega
 simp only [Value.slice.injEq,true_and] at eI;obtain ⟨rfl,rfl⟩:=eI;refine ⟨gI,rfl,i1,i2,i3,i4.2 q hq,(i4.1 q hq).2,fun z=>?_⟩;have hz:hi<=(w.setCell (zA gI q) (zI z)).heap.size:=by rw [ay];exact i3
 have k:∀ g,¬ g=gI->Sm w (w.setCell (zA gI q) (zI z)) g:=fun g hg=>cZ hg;refine ⟨_,_,_,_,gW,gO,gX,gI,sl,xs,e',rW.go (Ho _) (Ho _) hz (fun _ _ _=>k _ d3),?_,rX.go (Ho _) (Ho _) hz (fun _ _ _=>k _ d6),.inr ⟨_,rfl,i1,i2,hz,rq i4 hq⟩,⟨d1,d2,d3,d4,d5,d6⟩,hx1,hx2⟩;rcases rO with r | ⟨co,e1,l1,l2,l3,hc⟩
 ·exact .inl r
 exact .inr ⟨co,e1,l1,l2,hz,fun j hj=>⟨(k gO d5 j).1.trans (hc j hj).1,(hc j hj).2.go (Ho _) (Ho _) hz (fun _ _ _=>k _ (hx1 j hj).2.2.2)⟩⟩
theorem aV.wk {lo hi base n:Nat} {w w':World} {x0 x1 x2 x3 x4 x5 v:Value} {V:CV} {Z:Nat->Nat->Int} (h:aV lo hi w (.agg #[x0,x1,x2,x3,x4,x5]) V) (hO:V.nO≠0) (hX:V.nX≠0) (hI:V.nI≠0) (hn:n≠0) (h1:hi<=base) (h2:base<=w'.heap.size) (k:∀ b,lo<=b->b<hi->Sm w w' b) (ho:w'.ownsRow base 67 5 v n ((List.range n).flatMap (aP Z))) :
 aV lo w'.heap.size w' (.agg #[zI V.c,v,zI V.g,x3,x4,x5]) { V with nW:=n,W:=Z }:=by
 obtain ⟨vW,vO,vX,vI,gW,gO,gX,gI,sl,xs,e,rW,rO,rX,rI,⟨d1,d2,d3,d4,d5,d6⟩,hx1,hx2⟩:=h;obtain ⟨rfl,rfl,rfl,rfl⟩:=kV e;obtain ⟨g,hR,_⟩:=gZ ho;have hh:hi<=w'.heap.size:=Hq h1 h2;have lX:=rX.in hX;have lI:=rI.in hI;have lg:=hR.in hn;rcases rO with ⟨e,_⟩ | ⟨co,e1,l1,l2,l3,hc⟩
 ·exact absurd e hO
 subst e1;have hlo:lo<=base:=by omega
 have lx:∀ j,j<V.nO->V.N j≠0->xs j<hi:=fun j hj e=>((hc j hj).2.in e).2;refine jL (V:={ V with nW:=n,W:=Z }) (gW:=g) (gO:=gO) (gX:=gX) (gI:=gI) (sl:=sl) (xs:=xs) (hR.go hlo (Ho _) (Ho _) (fun _ _ _=>Sm.refl _ _)) l1 (by omega) (Ho _) (fun j hj=>⟨(k gO l1 l2 j).1.trans (hc j hj).1,(hc j hj).2.go (Ho _) hh (Ho _) (fun _=>k _)⟩) (rX.go (Ho _) hh (Ho _) (fun _=>k _)) (rI.go (Ho _) hh (Ho _) (fun _=>k _)) (fun _=>by omega) (fun _ _=>by omega) (fun _ _=>by omega) (fun _=>d4) (fun _=>d5) (fun _ _=>d6) (fun j hj e=>⟨fun _=>by have:=lx j hj e;omega,(hx1 j hj).2.1,fun _=>(hx1 j hj).2.2.1,fun _=>(hx1 j hj).2.2.2⟩) (fun i j hij hj _ _=>hx2 i j (Nat.lt_trans hij hj) hj (Nat.ne_of_lt hij))
theorem aV.row {lo hi:Nat} {w:World} {x0 x2 x3 x4 x5:Value} {aW:Option Addr} {kW:Nat} {V:CV} (h:aV lo hi w (.agg #[x0,.slice aW V.nW kW,x2,x3,x4,x5]) V):∃ g,(V.nW≠0->aW=some (zA g 0))/\(V.nW≠0->g<w.heap.size)/\∀ k j,k<V.nW->j<5->w.cell? (zA g (k * 5+j))=some (zI (V.W k j)):=by
 obtain ⟨vW,vO,vX,vI,gW,gO,gX,gI,sl,xs,e,rW,rO,rX,rI,hd,hx1,hx2⟩:=h;obtain ⟨rfl,rfl,rfl,rfl⟩:=kV e;rcases rW with ⟨e,_⟩ | ⟨c,e,l1,l2,l3,h4⟩
 ·exact ⟨gW,fun h=>absurd e h,fun h=>absurd e h,fun k j hk=>by omega⟩
 simp only [Value.slice.injEq,true_and] at e;exact ⟨gW,fun _=>e.1,fun _=>by omega,fun k j hk hj=>h4.2 k j hk hj⟩
theorem Six.put {w:World} {g:Nat} {x0 x1 x2 x3 x4 x5:Value} (h:Six w g [x0,x1,x2,x3,x4,x5]):(∀ v,Six (w.setCell (zA g 1) v) g [x0,v,x2,x3,x4,x5])/\∀ v,Six (w.setCell (zA g 2) v) g [x0,x1,v,x3,x4,x5]:=by
 refine ⟨fun v i hi=>?_,fun v i hi=>?_⟩
 ·rw [aB];refine ⟨?_,(h i hi).2⟩;by_cases e:i=1
  ·subst e;rw [fP (by rw [(h 1 (by decide)).1];rfl)];rfl
  rw [aJ (fun q=>e q.2.symm),(h i hi).1];match i,hi,e with
  | 0,_,_=>rfl
  | 2,_,_=>rfl
  | 3,_,_=>rfl
  | 4,_,_=>rfl
  | 5,_,_=>rfl
 rw [aB];refine ⟨?_,(h i hi).2⟩;by_cases e:i=2
 ·subst e;rw [fP (by rw [(h 2 (by decide)).1];rfl)];rfl
 rw [aJ (fun q=>e q.2.symm),(h i hi).1];match i,hi,e with
 | 0,_,_=>rfl
 | 1,_,_=>rfl
 | 3,_,_=>rfl
 | 4,_,_=>rfl
 | 5,_,_=>rfl
def Fr (lo:Nat) (Ok:Nat->Prop) (w w':World):Prop:=Below lo w w'/\w.heap.size<=w'.heap.size/\∀ x,x<w.heap.size->¬ Ok x->Sm w w' x
theorem Fr.of {lo:Nat} {Ok:Nat->Prop} {w w':World} (h:Below w.heap.size w w') (hl:lo<=w.heap.size):Fr lo Ok w w':=⟨h.mono hl,h.size,fun x hx _=>aj h hx⟩
def Md (lo:Nat) (Ok:Nat->Prop) (w:World) (v:Value) (V:CV):Prop :=
 ∃ (gW cW gO cO gX cX gI cI:Nat) (sl:Nat->Value) (xs:Nat->Nat),
  v=.agg (zC V gW cW gO cO gX cX gI cI).toArray /\
  (gW<w.heap.size/\∀ k j,k<V.nW->j<5->w.cell? (zA gW (k * 5+j))=some (zI (V.W k j))) /\
  (∀ k,k<V.nO->w.cell? (zA gO k)=some (sl k)/\w.frozen? (zA gO k)=false/\qp lo w.heap.size w (sl k) (V.N k) (V.O k) (xs k)) /\
  (lo<=gO/\gO<w.heap.size/\lo<=gX/\gX<w.heap.size/\gI<w.heap.size/\¬ gO=gX/\¬ gO=gI/\¬ gX=gI) /\
  fZ w gX V.nX V.X V.nX/\(∀ i,i<V.nI->w.cell? (zA gI i)=some (zI (V.I i))) /\
  (V.nW≠0->¬ gW=gO/\¬ gW=gX/\Ok gW)/\(∀ k,k<V.nO->V.N k≠0->(¬ xs k=gO/\¬ xs k=gX/\¬ xs k=gI)/\(V.nW≠0->¬ xs k=gW)/\Ok (xs k)) /\
  (∀ i j,i<j->j<V.nO->V.N i≠0->V.N j≠0->¬ xs i=xs j)/\(Ok gO/\Ok gX/\Ok gI)
theorem qp.go {lo hi lo' hi':Nat} {w w':World} {v:Value} {n:Nat} {Z:Nat->Nat->Int} {g:Nat} (h:qp lo hi w v n Z g) (h0:lo'<=lo) (h1:hi<=hi') (h2:hi'<=w'.heap.size) (k:n≠0->lo<=g->g<hi->Sm w w' g):qp lo' hi' w' v n Z g :=
 ⟨(jT.go ⟨h.1,h.2.1⟩ h0 h1 h2 k).1,(jT.go ⟨h.1,h.2.1⟩ h0 h1 h2 k).2,by obtain ⟨y,l,c,e,hy⟩:=h.2.2;exact ⟨y,l,c,e,by omega⟩⟩
theorem Md.in {lo:Nat} {Ok:Nat->Prop} {w:World} {v:Value} {V:CV} (h:Md lo Ok w v V) {Ok':Nat->Prop} (k:∀ x,x<w.heap.size->Ok x->Ok' x):Md lo Ok' w v V:=by
 obtain ⟨gW,cW,gO,cO,gX,cX,gI,cI,sl,xs,e,⟨hW1,hW2⟩,hO,⟨l1,l2,l3,l4,l5,n1,n2,n3⟩,hX,hI,d1,hx1,hx2,⟨o1,o2,o3⟩⟩:=h
 exact ⟨gW,cW,gO,cO,gX,cX,gI,cI,sl,xs,e,⟨hW1,hW2⟩,hO,⟨l1,l2,l3,l4,l5,n1,n2,n3⟩,hX,hI,fun e=>⟨(d1 e).1,(d1 e).2.1,k _ hW1 (d1 e).2.2⟩,fun i hi e=>⟨(hx1 i hi e).1,(hx1 i hi e).2.1,k _ (by
  rcases (hO i hi).2.2.1 with ⟨e1,_⟩ | ⟨_,_,_,h2,_⟩
  ·exact absurd e1 e
  exact h2) (hx1 i hi e).2.2⟩,hx2,⟨k _ l2 o1,k _ l4 o2,k _ l5 o3⟩⟩
theorem Md.sm {lo:Nat} {Ok:Nat->Prop} {w w':World} {v:Value} {V:CV} (h:Md lo Ok w v V) (hz:w.heap.size<=w'.heap.size) (k:∀ x,x<w.heap.size->Ok x->Sm w w' x):Md lo Ok w' v V:=by
 obtain ⟨gW,cW,gO,cO,gX,cX,gI,cI,sl,xs,e,⟨hW1,hW2⟩,hO,⟨l1,l2,l3,l4,l5,n1,n2,n3⟩,hX,hI,d1,hx1,hx2,⟨o1,o2,o3⟩⟩:=h;exact ⟨gW,cW,gO,cO,gX,cX,gI,cI,sl,xs,e,⟨by omega,fun i j a b=>(k gW hW1 (d1 (by omega)).2.2 _).1.trans (hW2 i j a b)⟩,fun i hi=>⟨(k gO l2 o1 i).1.trans (hO i hi).1,(k gO l2 o1 i).2.trans (hO i hi).2.1,(hO i hi).2.2.go (Ho _) hz (Ho _) (fun e _ h=>k _ h (hx1 i hi e).2.2)⟩,⟨l1,by omega,l3,by omega,by omega,n1,n2,n3⟩,qZ hX (k gX l4 o2),fun i hi=>(k gI l5 o3 i).1.trans (hI i hi),d1,hx1,hx2,⟨o1,o2,o3⟩⟩
theorem Md.q {lo:Nat} {Ok:Nat->Prop} {w w':World} {v:Value} {V:CV} (h:Md lo Ok w v V) (hb:Below w.heap.size w w'):Md lo Ok w' v V:=h.sm hb.size (fun x hx _=>aj hb hx)
theorem Md.src {lo:Nat} {Ok:Nat->Prop} {w:World} {v:Value} {V:CV} (h:Md lo Ok w v V):wO w v V:=by
 obtain ⟨gW,cW,gO,cO,gX,cX,gI,cI,sl,xs,e,⟨hW1,hW2⟩,hO,⟨l1,l2,l3,l4,l5,n1,n2,n3⟩,hX,hI,d1,hx1,hx2,_⟩:=h;refine ⟨gW,gO,gX,gI,cW,cO,cX,cI,hW1,l2,l4,l5,e,fun k j a b=>by rw [Nat.zero_add];exact hW2 k j a b,fun k hk=>?_,hX.2,hI⟩;obtain ⟨h1,h2,h3⟩:=hO k hk;obtain ⟨y,l,c,h4,hy⟩:=h3.2.2;rcases h3.1 with ⟨h5,a',c',h6⟩ | ⟨c',h6,h7,h8,h9,h10⟩
 ·have el:l=0:=by rw [h4] at h6;simp only [Value.slice.injEq] at h6;exact h6.2.1
  subst el;exact ⟨y,c,hy,by rw [h1,h4,h5],fun i j a b=>by omega⟩
 exact ⟨xs k,c',h8,by rw [h1,h6],fun i j a b=>by rw [Nat.zero_add];exact h10.2 i j a b⟩
theorem Md.gr {lo:Nat} {Ok:Nat->Prop} {w:World} {x0 x1 x2 x3 x4 x5:Value} {V:CV} (h:Md lo Ok w (.agg #[x0,x1,x2,x3,x4,x5]) V) (z:Int):Md lo Ok w (.agg #[x0,x1,zI z,x3,x4,x5]) (V.sU z):=by
 obtain ⟨gW,cW,gO,cO,gX,cX,gI,cI,sl,xs,e,h⟩:=h;simp only [Value.agg.injEq] at e;have e:=congrArg Array.toList e;simp at e;obtain ⟨rfl,rfl,rfl,rfl,rfl,rfl⟩:=e;exact ⟨gW,cW,gO,cO,gX,cX,gI,cI,sl,xs,rfl,h⟩
theorem Md.wk {lo base n:Nat} {Ok:Nat->Prop} {w:World} {x0 x1 x2 x3 x4 x5 v:Value} {V:CV} {Z:Nat->Nat->Int} (h:Md lo Ok w (.agg #[x0,x1,x2,x3,x4,x5]) V) (h1:∀ x,base<=x->x<w.heap.size->Ok x) (h3:Md lo (fun x=>x<base) w (.agg #[x0,x1,x2,x3,x4,x5]) V) (ho:w.ownsRow base 67 5 v n ((List.range n).flatMap (aP Z))) (hv:v≠.slice none 0 0) :
 Md lo Ok w (.agg #[x0,v,x2,x3,x4,x5]) (V.with n Z):=by
 obtain ⟨gW0,cW0,gO0,cO0,gX0,cX0,gI0,cI0,sl0,xs0,e0,hW0,hO0,_,_,_,_,hx0,_,⟨o1,o2,o3⟩⟩:=h;obtain ⟨gW,cW,gO,cO,gX,cX,gI,cI,sl,xs,e,hW,hO,⟨l1,l2,l3,l4,l5,n1,n2,n3⟩,hX,hI,d1,hx1,hx2,⟨p1,p2,p3⟩⟩:=h3;simp only [Value.agg.injEq] at e e0;have e:=congrArg Array.toList e;have e0:=congrArg Array.toList e0;simp at e e0;obtain ⟨rfl,rfl,rfl,rfl,rfl,rfl⟩:=e;obtain ⟨_,_,_,⟨rfl,_⟩,⟨rfl,_⟩,⟨rfl,_⟩⟩:=e0;obtain ⟨g,rW,_⟩:=gZ ho;rcases ho.2 with ⟨e1,_⟩ | ⟨g2,cap,cur,e1,a1,a2,_⟩
 ·exact absurd e1 hv
 subst e1;have lt:g2<w.heap.size:=(Array.getElem?_eq_some_iff.1 a2).1;have hg:n≠0->g=g2:=fun hn=>by
  rcases rW with ⟨e,_⟩ | ⟨c,e,_⟩
  ·exact absurd e hn
  simp only [Value.slice.injEq,Option.some.injEq,Addr.mk.injEq,and_true,true_and] at e;exact e.1.symm
 have xsame:∀ k,k<V.nO->V.N k≠0->xs0 k=xs k:=fun k hk e=>by
  have h5:=(hO0 k hk).1;rw [(hO k hk).1] at h5;rcases (hO k hk).2.2.1 with ⟨e1,_⟩ | ⟨c,e1,_⟩
  ·exact absurd e1 e
  exact ((hO0 k hk).2.2.1.blk e ((Option.some.inj h5).symm.trans e1)).symm
 refine ⟨g2,cap,_,_,_,_,_,_,sl,xs,rfl,⟨lt,fun k j hk hj=>?_⟩,hO,⟨l1,l2,l3,l4,l5,n1,n2,n3⟩,hX,hI,fun _=>⟨by omega,by omega,h1 _ a1 lt⟩,fun k hk e=>⟨(hx1 k hk e).1,fun _=>by have:=(hx1 k hk e).2.2;omega,by rw [<-xsame k hk e];exact (hx0 k hk e).2.2⟩,hx2,⟨o1,o2,o3⟩⟩;have hk':k<n:=hk;rcases rW with ⟨e,_⟩ | ⟨c,e,_,_,_,r⟩
 ·omega
 have:=hg (by omega);subst this;exact r.2 k j hk' hj
theorem RO.Fv {lo hi:Nat} {w:World} {v:Value} {n:Nat} {N:Nat->Nat} {O:Nat->Nat->Nat->Int} {g:Nat} {sl:Nat->Value} {xs:Nat->Nat} (h:RO lo hi w v n N O g sl xs) (e:n≠0):∃ c,v=zS g n c/\lo<=g/\g<hi/\hi<=w.heap.size/\∀ k,k<n->w.cell? (zA g k)=some (sl k)/\RP lo hi w (sl k) (N k) (O k) (xs k):=by
 rcases h with h | h
 ·exact absurd h.1 e
 exact h
theorem RI.Fv {lo hi:Nat} {w:World} {v:Value} {n:Nat} {X:Nat->Int} {g:Nat} (h:RI lo hi w v n X g) (e:n≠0):∃ c,v=zS g n c/\lo<=g/\g<hi/\hi<=w.heap.size/\fZ w g n X n:=by
 rcases h with h | h
 ·exact absurd h.1 e
 exact h
theorem RW.Fv {lo hi:Nat} {w:World} {v:Value} {n:Nat} {Z:Nat->Nat->Int} {g:Nat} (h:RW lo hi w v n Z g) (e:n≠0):∃ c,v=zS g n c/\lo<=g/\g<hi/\hi<=w.heap.size/\Own5 w g n Z n:=by
 rcases h with h | h
 ·exact absurd h.1 e
 exact h
theorem Md.E5 {lo hi:Nat} {w:World} {v:Value} {V:CV} (h:aV lo hi w v V) (hT:mV lo hi w v) (hF:Full w v) (hh:hi=w.heap.size) (e1:V.nW≠0) (e2:V.nO≠0) (e3:V.nX≠0) (e4:V.nI≠0):Md lo (fun x=>lo<=x/\x<hi) w v V:=by
 subst hh;obtain ⟨vW,vO,vX,vI,gW,gO,gX,gI,sl,xs,e,rW,rO,rX,rI,⟨d1,d2,d3,d4,d5,d6⟩,hx1,hx2⟩:=h;obtain ⟨cW,rfl,a1,a2,a3,a4⟩:=rW.Fv e1;obtain ⟨cO,rfl,b1,b2,b3,b4⟩:=rO.Fv e2;obtain ⟨cX,rfl,c1,c2,c3,c4⟩:=rX.Fv e3;obtain ⟨cI,rfl,f1,f2,f3,f4⟩:=rI.Fv e4;obtain ⟨t1,t2,t3,t4⟩:=hT _ _ _ gO V.nO cO _ _ e;have hF:=hF _ _ _ gO V.nO cO _ _ e;refine ⟨gW,cW,gO,cO,gX,cX,gI,cI,sl,xs,e,⟨by omega,fun k j a b=>by have:=aZ a4 k j a b;rw [Nat.zero_add] at this;exact this⟩,fun k hk=>⟨(b4 k hk).1,t3 k hk,(b4 k hk).2,?_,?_⟩,⟨b1,b2,c1,c2,by omega,d4,d5,d6⟩,c4,f4.2,fun _=>⟨d1,d2,a1,a2⟩,fun k hk en=>⟨⟨(hx1 k hk).2.1,(hx1 k hk).2.2.1,(hx1 k hk).2.2.2⟩,fun _=>(hx1 k hk).1,RP.in (b4 k hk).2 en⟩,fun i j hij hj _ _=>hx2 i j (by omega) hj (by omega),⟨⟨b1,b2⟩,⟨c1,c2⟩,⟨f1,f2⟩⟩⟩
 ·obtain ⟨a,c,e5⟩:=(b4 k hk).2.shape';exact t4 k _ a (V.N k) c hk (b4 k hk).1 e5
 obtain ⟨y,l,c,e5,e6⟩:=hF k hk;rw [(b4 k hk).1] at e5;exact ⟨y,l,c,Option.some.inj e5,by omega⟩
theorem Md.post {lo:Nat} {Ok:Nat->Prop} {w:World} {x0 x1 x2 x5:Value} {gO cO gX cX nO nX:Nat} {V:CV} (h:Md lo Ok w (.agg #[x0,x1,x2,zS gO nO cO,zS gX nX cX,x5]) V) {q:Nat} (hq:q<V.nO) (hqX:q<V.nX) :
 ∃ v xq,w.cell? (zA gO q)=some v/\w.frozen? (zA gO q)=false/\lo<=gO/\gO<w.heap.size/\qp lo w.heap.size w v (V.N q) (V.O q) xq/\(V.N q≠0->¬ xq=gO/\¬ xq=gX/\lo<=xq/\xq<w.heap.size/\Ok xq)/\(lo<=gX/\gX<w.heap.size/\¬ gO=gX/\Ok gO/\Ok gX)/\w.cell? (zA gX q)=some (zI (V.X q))/\w.frozen? (zA gX q)=false /\
  ∀ (w':World) (v':Value) (z:Int) (Z':Nat->Nat->Int) (g':Nat),w.heap.size<=w'.heap.size->(∀ x,x<w.heap.size->Ok x->¬ x=gO->¬ x=gX->(V.N q≠0->¬ x=xq)->Sm w w' x)->(∀ j,w'.cell? (zA gO j)=(if j=q then some v' else w.cell? (zA gO j))/\w'.frozen? (zA gO j)=w.frozen? (zA gO j))->(∀ j,w'.cell? (zA gX j)=(if j=q then some (zI z) else w.cell? (zA gX j))/\w'.frozen? (zA gX j)=w.frozen? (zA gX j)) ->
   qp lo w'.heap.size w' v' (V.N q+1) Z' g'->((V.N q≠0/\g'=xq)∨(w.heap.size<=g'/\Ok g')) ->
   Md lo Ok w' (.agg #[x0,x1,x2,zS gO nO cO,zS gX nX cX,x5]) { V with N:=fun i=>if i=q then V.N q+1 else V.N i,O:=fun i=>if i=q then Z' else V.O i,X:=jo V.X q z }:=by
 obtain ⟨gW,cW,gO',cO',gX',cX',gI,cI,sl,xs,e,⟨hW1,hW2⟩,hO,⟨l1,l2,l3,l4,l5,n1,n2,n3⟩,hX,hI,d1,hx1,hx2,⟨o1,o2,o3⟩⟩:=h;have e':=e;simp only [Value.agg.injEq] at e';have e':=congrArg Array.toList e';simp at e';obtain ⟨_,_,_,⟨rfl,_⟩,⟨rfl,_⟩,_⟩:=e';have inP:∀ k,k<V.nO->V.N k≠0->lo<=xs k/\xs k<w.heap.size:=fun k hk e=>by
  rcases (hO k hk).2.2.1 with ⟨e1,_⟩ | ⟨_,_,h1,h2,_⟩
  ·exact absurd e1 e
  exact ⟨h1,h2⟩
 refine ⟨sl q,xs q,(hO q hq).1,(hO q hq).2.1,l1,l2,(hO q hq).2.2,fun e=>⟨(hx1 q hq e).1.1,(hx1 q hq e).1.2.1,(inP q hq e).1,(inP q hq e).2,(hx1 q hq e).2.2⟩,⟨l3,l4,n1,o1,o2⟩,hX.2 q hqX,(hX.1 q hqX).2,fun w' v' z Z' g' hz hsm hcO hcX hR hg=>?_⟩;have k:∀ x,x<w.heap.size->Ok x->¬ x=gO->¬ x=gX->(V.N q≠0->¬ x=xs q)->Sm w w' x:=hsm;have kO':∀ j,¬ j=q->w'.cell? (zA gO j)=w.cell? (zA gO j):=fun j hj=>by rw [(hcO j).1,if_neg hj]
 have kF:∀ j,w'.frozen? (zA gO j)=w.frozen? (zA gO j):=fun j=>(hcO j).2;have cq:w'.cell? (zA gO q)=some v':=by rw [(hcO q).1,if_pos rfl]
 have hX':fZ w' gX V.nX (jo V.X q z) V.nX:=⟨fun i hi=>by
  rw [(hcX i).1,(hcX i).2];refine ⟨?_,(hX.1 i hi).2⟩;by_cases e:i=q
  ·rw [if_pos e];rfl
  ·rw [if_neg e];exact (hX.1 i hi).1,fun i hi=>by
  rw [(hcX i).1];unfold jo;by_cases e:i=q
  ·rw [if_pos e,if_pos e]
  rw [if_neg e,if_neg e];exact hX.2 i hi⟩
 have gs:¬ g'=gO:=by
  rcases hg with ⟨e,rfl⟩ | h
  ·exact (hx1 q hq e).1.1
  omega
 have apart:∀ x,x<w.heap.size->(V.N q≠0->¬ xs q=x)->¬ g'=x:=fun x h1 h2=>by
  rcases hg with ⟨e,rfl⟩ | h
  ·exact h2 e
  omega
 refine ⟨gW,cW,gO,cO',gX,cX',gI,cI,fun i=>if i=q then v' else sl i,fun i=>if i=q then g' else xs i,e,⟨by omega,fun i j a b=>(k gW hW1 (d1 (by have a':i<V.nW:=a;omega)).2.2 (d1 (by have a':i<V.nW:=a;omega)).1 (d1 (by have a':i<V.nW:=a;omega)).2.1 (fun e e'=>(hx1 q hq e).2.1 (by have a':i<V.nW:=a;omega) e'.symm) _).1.trans (hW2 i j a b)⟩,
  fun j hj=>?_,⟨l1,by omega,l3,by omega,by omega,n1,n2,n3⟩,hX',fun i hi=>(k gI l5 o3 (fun e=>n2 e.symm) (fun e=>n3 e.symm) (fun e e'=>(hx1 q hq e).1.2.2 e'.symm) i).1.trans (hI i hi),d1,fun j hj e=>?_,fun i j hij hj e1 e2=>?_,⟨o1,o2,o3⟩⟩
 ·dsimp only;by_cases e:j=q
  ·subst e;rw [if_pos rfl,if_pos rfl,if_pos rfl,if_pos rfl];exact ⟨cq,(kF j).trans (hO j hj).2.1,hR⟩
  rw [if_neg e,if_neg e,if_neg e,if_neg e];refine ⟨(kO' j e).trans (hO j hj).1,(kF j).trans (hO j hj).2.1,(hO j hj).2.2.go (Ho _) (by omega) (Ho _) (fun e1 _ h=>k (xs j) h (hx1 j hj e1).2.2 (hx1 j hj e1).1.1 (hx1 j hj e1).1.2.1 (fun e2=>?_))⟩;rcases Nat.lt_or_gt_of_ne e with a | a
  ·exact hx2 j q a hq e1 e2
  exact fun e'=>hx2 q j a hj e2 e1 e'.symm
 ·dsimp only at e ⊢;by_cases e2:j=q
  ·subst e2;rw [if_pos rfl];exact ⟨⟨gs,apart gX (by omega) (fun e=>(hx1 j hj e).1.2.1),apart gI l5 (fun e=>(hx1 j hj e).1.2.2)⟩,fun eW=>apart gW hW1 (fun e=>(hx1 j hj e).2.1 eW),by rcases hg with ⟨e,rfl⟩ | h;exact (hx1 j hj e).2.2;exact h.2⟩
  rw [if_neg e2] at e ⊢;exact hx1 j hj e
 dsimp only at e1 e2 ⊢;by_cases a:i=q
 ·subst a;rw [if_pos rfl,if_neg (show ¬ j=i by omega)];rw [if_neg (show ¬ j=i by omega)] at e2;exact apart (xs j) (by have:=inP j hj e2;omega) (fun e=>hx2 i j hij hj e e2)
 rw [if_neg a] at e1 ⊢;by_cases b':j=q
 ·subst b';rw [if_pos rfl];exact fun e'=>apart (xs i) (by have:=inP i (by omega) e1;omega) (fun e e3=>hx2 i j hij hj e1 e e3.symm) e'.symm
 rw [if_neg b'] at e2 ⊢;exact hx2 i j hij hj e1 e2
