/- What is carried: lemmas on lists, cells and draws; conditions: those typed. -/
import Derived.Test.YtngaboipleimcabGreatDoorLA1
set_option linter.unusedVariables false
set_option maxHeartbeats 8000000
set_option maxRecDepth 20000
namespace Go.Proofs.YtngaboipleimcabGreatDoor
namespace P8
open Go.RowKit Go.Deep
theorem Ba (z:Int) (b o n cap:Nat) (Z:Nat->Nat->Int) (hn:n<=1048576) (w:World) (hb:b<w.heap.size)
 (hr:∀ k j,k<n->j<8->w.cell? (zA b (o+k * 8+j))=some (zI (Z k j))) :
 Hz 121 #[.slice (some (zA b o)) n cap,zI z] w fun e w'=>∃ v,e=.returned v/\lu w' w.heap.size v (rest Z n z) Z/\Below w.heap.size w w':=by
 have HR:bY (∀ k j,k<n->j<8->w.cell? (zA b (o+k * 8+j))=some (zI (Z k j))):=hr;clear hr;obtain ⟨i5,hi5,hz50,hz51,hz52⟩:=qC;go_enter Tryz.func121,Tryz.ntmps121;go_wp2;go_loopw [5,6] (fun s i wr=>∃ (k:Nat) (v:Value),k<=n/\zI k=i/\v=s/\v≠.slice none 0 0/\wr.ownsRow w.heap.size 69 8 v (rest Z k z).length ((rest Z k z).flatMap (eight Z))/\w.heap.size<=wr.heap.size/\Below w.heap.size w wr) (fun _ i _=>n - (intOf i).toNat)
 case atStart=>exact ⟨0,_,Nat.zero_le _,rfl,rfl,by simp,World.ownsRow_lit w #[] 0 (Ho _) (by simp) (by simp),by simp,(Hr _ _).alloc (by simp) _⟩
 case round =>
  obtain ⟨k,v,hk,rfl,rfl,hnn,ho,hsz,hbel⟩:=hrel;by_cases hkn:k<n
  ·have hkn':(k:Int)<(n:Int):=by omega
   have c0:=cq8 (fun j hj=>(hbel.cell (by exact hb)).trans (HR.o k j hkn (by omega)));have HLEN:bY ((rest Z k z).length<=k):=vU Z k z;by_cases hz:¬ z<=Z k 0
   ·have ez:Z k 0<z:=by omega
    have HO:bY (wr.ownsRow w.heap.size 69 8 v (rest Z (k+1) z).length ((rest Z (k+1) z).flatMap (eight Z))):=by
     unfold bY;rw [jG,if_neg hz,List.append_nil];exact ho
    have HNN:bY (v≠.slice none 0 0):=hnn;clear ho hz hnn;go_wp2;go_roundw
    case rel=>exact ⟨k+1,_,by omega,by go_num,rfl,HNN.o,HO.o,hsz,hbel⟩
    case measure=>simp [intOf];omega
   have ez:z<=Z k 0:=by omega
   have HZ:bY (z<=Z k 0):=ez;have HNN:bY (v≠.slice none 0 0):=hnn;clear hz hnn;go_wp2_with (at_builtin;refine wpList_append_own _ rfl _ _ 127 rfl w.heap.size 69 i5 (.agg #[zI 0,zI 0,zI 0,zI 0,zI 0,zI 0,zI 0,zI 0]) 8 64 Tryz.underlying127 hi5 hz50 hz51 hz52 rfl (by decide) _ _ _ rfl (ho.alloc _) (zA wr.heap.size 0) 1 1 (eight Z k) rfl rfl ?d1 ?d2 ?d3 ?d4 ?d5 ?_)
   case d1 =>
    intro j u hj;match j,hj with
    | 0,hj=>simp [eight] at hj;subst hj;simp [Addr.add]
    | 1,hj=>simp [eight] at hj;subst hj;simp [Addr.add]
    | 2,hj=>simp [eight] at hj;subst hj;simp [Addr.add]
    | 3,hj=>simp [eight] at hj;subst hj;simp [Addr.add]
    | 4,hj=>simp [eight] at hj;subst hj;simp [Addr.add]
    | 5,hj=>simp [eight] at hj;subst hj;simp [Addr.add]
    | 6,hj=>simp [eight] at hj;subst hj;simp [Addr.add]
    | 7,hj=>simp [eight] at hj;subst hj;simp [Addr.add]
    | j+8,hj=>simp [eight] at hj
   case d2=>intro u hu;simp [eight] at hu;rcases hu with rfl | rfl | rfl | rfl | rfl | rfl | rfl | rfl <;> rfl
   case d3=>have:=HLEN.o;unfold maxLen;omega
   case d4=>have:=HLEN.o;omega
   case d5=>simp;omega
   ·intro v' w2 hown' hg2 hnil;have hall:=(World.grownBy_alloc wr _ _).trans hg2;have HO:bY (w2.ownsRow w.heap.size 69 8 v' (rest Z (k+1) z).length ((rest Z (k+1) z).flatMap (eight Z))):=by
     unfold bY;rw [jG,if_pos HZ.o,List.length_append,List.flatMap_append];simpa using hown'
    have HNN':bY (v'≠.slice none 0 0):=hnil;have hs2:w.heap.size<=w2.heap.size:=Hq hsz hall.size;have hb2:Below w.heap.size w w2:=hbel.grown hall hsz (fun kk e=>(ho.lt kk e).1);clear hown' hg2 hnil hall ho c0 HZ HNN;go_wp2;go_roundw
    case rel=>exact ⟨k+1,_,by omega,by go_num,rfl,HNN'.o,HO.o,hs2,hb2⟩
    case measure=>simp [intOf];omega
  have hkn':k=n:=by omega
  subst hkn';have HO:bY (wr.ownsRow w.heap.size 69 8 v (rest Z k z).length ((rest Z k z).flatMap (eight Z))):=ho;have HW:bY (lu wr w.heap.size v (rest Z k z) Z):=ho;clear ho hnn;go_wp2;go_ret;exact ⟨_,rfl,HW.o,hbel⟩
end P8
open Go.RowKit Go.Deep
theorem yG (v:Value) (V:CV) (lo q:Nat) (z:Int) (hs0:V.short 1048576) (hqO:q<V.nO) (hqX:q<V.nX) (hX0:0<=V.X q) (hX1:V.X q<=5000) (hat0:∀ k,k<V.N q->V.O q k 0=V.X q - V.N q+k) (w:World) (h:dL w v V) :
 Hz 101 #[v,zI (q:Int),zI z] w fun e w'=>(∃ u t,e=.returned (.tuple #[u,.bool t])/\t=jk V q z/\aV w.heap.size w'.heap.size w' u (V.after q z))/\Below w.heap.size w w':=by
 obtain ⟨aW9,bO,bX,bI,cW,cO,cX,cI,q2,q3,q4,rfl,g1,g2,g3,g4⟩:=h;have CP:bY (dL w (.agg (zG V aW9 cW bO cO bX cX bI cI).toArray) V):=⟨aW9,bO,bX,bI,cW,cO,cX,cI,q2,q3,q4,rfl,g1,g2,g3,g4⟩;have hs:bY (V.short 1048576):=hs0;have hat:bY (∀ k,k<V.N q->V.O q k 0=V.X q - V.N q+k):=hat0;have hNq:V.N q<=1048576:=hs0.2.2.1 q hqO;clear g1 g2 g3 g4 hs0 hat0 q2 q3 q4;have hwr:IntKind.i64.wrap (V.X q - V.N q)=V.X q - V.N q:=by rw [IntKind.wrap_i64];omega
 have hq1:(q:Int)<V.nO:=by omega
 have hq2:(q:Int)<V.nX:=by omega
 go_enter Tryz.func101,Tryz.ntmps101;go_wp2_with fail;obtain ⟨w0,e0⟩:∃ w0,w0=((w.alloc (.cells (zG V aW9 cW bO cO bX cX bI cI).toArray 36)).alloc (.cells zN.toArray 36)):=⟨_,rfl⟩;have z0:w.heap.size+2<=w0.heap.size:=by rw [e0];simp
 have B0:bY (Below w.heap.size w w0):=by rw [e0];exact ((Hr _ _).alloc (by simp) _).alloc (by simp) _
 have R0:bY (Six w0 (w.heap.size+1) zN):=by rw [e0];have h:=fM (w.alloc (.cells (zG V aW9 cW bO cO bX cX bI cI).toArray 36)) 36 (zI 0) (.slice none 0 0) (zI 0) (.slice none 0 0) (.slice none 0 0) (.slice none 0 0);rw [World.size_alloc] at h;exact h
 rw [<-e0];clear e0;refine (fC _ V hs.o _ (CP.o.q B0.o)).mono ?_;rintro e w1 ⟨⟨v1,rfl,hO,hT,_⟩,hb1⟩;obtain ⟨aW,kW,aO,kO,aX,kX,aI,kI,rfl,_,_,_,_⟩:=hO.at;have B1:=fQ (ah B0.o hb1);have R1:=fQ (R0.o.q (by omega) hb1);have z1:w0.heap.size<=w1.heap.size:=hb1.size;have HO:bY (aV w0.heap.size w1.heap.size w1 (.agg (zD V aW kW aO kO aX kX aI kI).toArray) V):=hO;have HT:bY (mV w0.heap.size w1.heap.size w1 (.agg (zD V aW kW aO kO aX kX aI kI).toArray)):=hT;clear hO hT hb1 B0 R0;go_wp2_with fail;obtain ⟨w2,e2⟩:∃ w2,w2=w1.alloc (.cells (zD V aW kW aO kO aX kX aI kI).toArray 36):=⟨_,rfl⟩;have k2:Below w1.heap.size w1 w2:=by rw [e2];exact (Hr _ _).alloc (Ho _) _
 have X2:bY (Six w2 w1.heap.size (zD V aW kW aO kO aX kX aI kI)):=by rw [e2];exact fM w1 36 (zI V.c) (.slice aW V.nW kW) (zI V.g) (.slice aO V.nO kO) (.slice aX V.nX kX) (.slice aI V.nI kI)
 have z2:w1.heap.size<w2.heap.size:=by rw [e2];simp
 rw [<-e2];clear e2;have B2:=fQ (ah B1.o k2);have R2:=fQ (R1.o.q (by omega) k2);have O2:=HO.o.q (Ho _) k2;have T2:=HT.o.sm (fun b _ hb=>aj k2 hb);clear B1 R1 HO HT k2;generalize w1.heap.size=x8 at *;generalize w0.heap.size=l0 at *;have OWX:bY (aV l0 x8 w2 (.agg (zD V aW kW aO kO aX kX aI kI).toArray) V):=O2;obtain ⟨vW,vO,vX,vI,gW,gO,gX,gI,sl,xs,e,rW,rO,rX,rI,hd,hx1,hx2⟩:=O2;obtain ⟨rfl,rfl,rfl,rfl⟩:=kV e;rcases rO with ⟨e0,_⟩ | ⟨co,e1,l1,l2,l3,hc1⟩
 ·exact absurd e0 (by omega)
 simp only [Value.slice.injEq,true_and] at e1;obtain ⟨rfl,rfl⟩:=e1;obtain ⟨_,_,ex,hax⟩:=rX.is;simp only [Value.slice.injEq,true_and] at ex;obtain ⟨rfl,rfl⟩:=ex;obtain rfl:=hax (by omega);have OW:bY (aV l0 x8 w2 (.agg #[zI V.c,.slice aW V.nW kW,zI V.g,zS gO V.nO kO,zS gX V.nX kX,.slice aI V.nI kI]) V):=OWX.o;clear OWX;have lX:l0<=gX/\gX<x8:=rX.in (by omega);have OX:fZ w2 gX V.nX V.X V.nX:=by rcases rX with h | ⟨_,_,_,_,_,h⟩;omega;exact h
 obtain ⟨qa,qc,eq,hqa⟩:=(hc1 q hqO).2.is;have oq:w2.cell? (zA gO q)=some (.slice qa (V.N q) qc):=by rw [<-eq];exact (hc1 q hqO).1
 have fq:w2.frozen? (zA gO q)=false:=(T2 _ _ _ gO V.nO kO _ _ rfl).2.2.1 q hqO;have xq:w2.cell? (zA gX q)=some (zI (V.X q)):=OX.2 q hqX;have HP:bY (RP l0 x8 w2 (.slice qa (V.N q) qc) (V.N q) (V.O q) (xs q)):=by rw [<-eq];exact (hc1 q hqO).2
 have RWH:bY (RW l0 x8 w2 (.slice aW V.nW kW) V.nW V.W gW):=rW;have RXH:bY (RI l0 x8 w2 (zS gX V.nX kX) V.nX V.X gX):=rX;have RIH:bY (RI l0 x8 w2 (.slice aI V.nI kI) V.nI V.I gI):=rI;have CH:bY (∀ k,k<V.nO->w2.cell? (zA gO k)=some (sl k)/\RP l0 x8 w2 (sl k) (V.N k) (V.O k) (xs k)):=hc1;have DH:bY _:=hd;have H1:bY _:=hx1;have H2:bY _:=hx2;have HQA:bY (V.N q≠0->qa=some (zA (xs q) 0)):=hqa;clear rW rX rI hc1 hd hx1 hx2 T2 OX e eq hqa hax;have a0:w2.cell? (zA x8 0)=some (zI V.c):=(X2.o 0 (by decide)).1;have a1:w2.cell? (zA x8 1)=some (.slice aW V.nW kW):=(X2.o 1 (by decide)).1;have a2:w2.cell? (zA x8 2)=some (zI V.g):=(X2.o 2 (by decide)).1;have a3:w2.cell? (zA x8 3)=some (zS gO V.nO kO):=(X2.o 3 (by decide)).1;have a4:w2.cell? (zA x8 4)=some (zS gX V.nX kX):=(X2.o 4 (by decide)).1;have a5:w2.cell? (zA x8 5)=some (.slice aI V.nI kI):=(X2.o 5 (by decide)).1;obtain ⟨r0,r1,r2,r3,r4,r5⟩:=R2.o.a6;have f0:=R2.o.f6;have lx:x8<w2.heap.size:=by omega
 have lr:w.heap.size+1<w2.heap.size:=by omega
 have lgX:gX<w2.heap.size:=by omega
 have lgO:gO<w2.heap.size:=by omega
 have hxr:¬ x8=w.heap.size+1:=by omega
 by_cases hz:V.X q<z
 ·have hA:jk V q z=false:=by simp [jk,hz]
  refine Hu (S:=fun w'=>(∀ b o,b<w2.heap.size->w'.cell? (zA b o)=w2.cell? (zA b o))/\w2.heap.size<=w'.heap.size) (by kernel_rfl) ⟨fun _ _ _=>rfl,Ho _⟩ ?_;intro af;refine aA 0 (zI z) rfl ?_;refine aA 1 (zP x8 4) rfl ?_;refine dY 2 (zS gX V.nX kX) rfl ?_ ?_
  ·intro wx hSw;have y4:=(hSw.1 x8 4 lx).trans a4;clear hSw;go_simp
  refine aA 3 (zI (q:Int)) rfl ?_;refine aA 4 (zP gX q) rfl ?_;refine dY 5 (zI (V.X q)) rfl ?_ ?_
  ·intro wx hSw;have yx:=(hSw.1 gX q lgX).trans xq;clear hSw;go_simp
  refine aA 6 (.bool true) rfl ?_;refine aA 7 (.bool true) rfl ?_;refine bU 8 rfl ?_;refine bU 9 rfl ?_;refine bU 10 rfl ?_;refine bU 11 rfl ?_;refine bU 12 rfl ?_;refine bU 13 rfl ?_;refine bU 14 rfl ?_;refine bU 15 rfl ?_;refine bU 16 rfl ?_;refine bU 17 rfl ?_;refine bU 18 rfl ?_;refine bU 19 rfl ?_;refine bU 20 rfl ?_;refine bU 21 rfl ?_;refine aA 22 (.bool true) rfl ?_;refine Hy (by kernel_rfl) ?_ _;clear af;obtain ⟨w3,e3⟩:∃ w3,w3=w2.drew:=⟨_,rfl⟩;rw [<-e3];have k3:Below w2.heap.size w2 w3:=by rw [e3];exact (Hr _ _).drew
  have lx3:x8<w3.heap.size:=by rw [e3];exact lx
  have lr3:w.heap.size+1<w3.heap.size:=by rw [e3];exact lr
  have hz9:w3.heap.size=w2.heap.size:=by rw [e3];rfl
  have HZ9:bY (w3.heap.size=w2.heap.size):=hz9;clear e3 hz9 xq oq fq hwr;have A_w3:bY (Six w3 x8 [zI V.c,.slice aW V.nW kW,zI V.g,zS gO V.nO kO,zS gX V.nX kX,.slice aI V.nI kI]):=fun i hi=>by have h:=(fun g (hg:g<w2.heap.size)=>aj k3 hg) x8 lx i;rw [h.1,h.2];exact X2.o i hi
  have R_w3:bY (Six w3 (w.heap.size+1) zN):=fun i hi=>by have h:=(fun g (hg:g<w2.heap.size)=>aj k3 hg) (w.heap.size+1) lr i;rw [h.1,h.2];exact R2.o i hi
  clear a0 a1 a2 a3 a4 a5 r0 f0 r1 r2 r3 r4 r5;obtain ⟨a0,a1,a2,a3,a4,a5⟩:=A_w3.o.a6;obtain ⟨r0,r1,r2,r3,r4,r5⟩:=R_w3.o.a6;have f0:=R_w3.o.f6;have K3:bY (Below w2.heap.size w2 w3):=k3;clear k3;go_wp2;refine Hw (v:=.tuple #[.agg #[zI V.c,.slice aW V.nW kW,zI V.g,zS gO V.nO kO,zS gX V.nX kX,.slice aI V.nI kI],.bool false]) (by simp [results,Tryz.results101,go_sem,r0,r1,r2,r3,r4,r5]) rfl ?_;have hzz:=au w3 (w.heap.size+1) (.int .i64 V.c) (.slice aW V.nW kW) (.int .i64 V.g) (.slice (some ⟨gO,0,none⟩) V.nO kO) (.slice (some ⟨gX,0,none⟩) V.nX kX) (.slice aI V.nI kI);have hz9:=HZ9.o;refine ⟨⟨_,_,rfl,hA.symm,?_⟩,ax (ah B2.o K3.o) (Ht _) _ _ _ _ _ _⟩;rw [show V.after q z=V by simp [CV.after,hA]];show aV w.heap.size (aG w3 (w.heap.size+1) (zI V.c) (.slice aW V.nW kW) (zI V.g) (zS gO V.nO kO) (zS gX V.nX kX) (.slice aI V.nI kI)).heap.size (aG w3 (w.heap.size+1) (zI V.c) (.slice aW V.nW kW) (zI V.g) (zS gO V.nO kO) (zS gX V.nX kX) (.slice aI V.nI kI)) _ _;rw [hzz];exact OW.o.more (by omega) (by omega) (Hl hzz.symm) (fun y h1 h2=>Sm.trans (aj K3.o (by omega)) (aH (by omega) (zI V.c) (.slice aW V.nW kW) (zI V.g) (zS gO V.nO kO) (zS gX V.nX kX) (.slice aI V.nI kI)))
 have hz1:decide (V.X q<z)=false:=by simp;omega
 have hone:=DV hat.o (z:=z) (by omega);by_cases hz2:z<=V.X q - V.N q
 ·have hA:jk V q z=false:=by simp [jk];exact fun _=>hone.2 hz2
  clear hz hone;refine Hu (S:=fun w'=>(∀ b o,b<w2.heap.size->w'.cell? (zA b o)=w2.cell? (zA b o))/\w2.heap.size<=w'.heap.size) (by kernel_rfl) ⟨fun _ _ _=>rfl,Ho _⟩ ?_;intro af;refine aA 0 (zI z) rfl ?_;refine aA 1 (zP x8 4) rfl ?_;refine dY 2 (zS gX V.nX kX) rfl ?_ ?_
  ·intro wx hSw;have y4:=(hSw.1 x8 4 lx).trans a4;clear hSw;go_simp
  refine aA 3 (zI (q:Int)) rfl ?_;refine aA 4 (zP gX q) rfl ?_;refine dY 5 (zI (V.X q)) rfl ?_ ?_
  ·intro wx hSw;have yx:=(hSw.1 gX q lgX).trans xq;clear hSw;go_simp
  refine aA 6 (.bool false) rfl ?_;refine aA 7 (.bool false) rfl ?_;refine aA 8 (zI z) rfl ?_;refine aA 9 (zP x8 4) rfl ?_;refine dY 10 (zS gX V.nX kX) rfl ?_ ?_
  ·intro wx hSw;have y4:=(hSw.1 x8 4 lx).trans a4;clear hSw;go_simp
  refine aA 11 (zI (q:Int)) rfl ?_;refine aA 12 (zP gX q) rfl ?_;refine dY 13 (zI (V.X q)) rfl ?_ ?_
  ·intro wx hSw;have yx:=(hSw.1 gX q lgX).trans xq;clear hSw;go_simp
  refine aA 14 (zP x8 3) rfl ?_;refine dY 15 (zS gO V.nO kO) rfl ?_ ?_
  ·intro wx hSw;have y3:=(hSw.1 x8 3 lx).trans a3;clear hSw;go_simp
  refine aA 16 (zI (q:Int)) rfl ?_;refine aA 17 (zP gO q) rfl ?_;refine dY 18 (.slice qa (V.N q) qc) rfl ?_ ?_
  ·intro wx hSw;have yo:=(hSw.1 gO q lgO).trans oq;clear hSw;go_simp
  refine aA 19 (zI (V.N q:Int)) rfl ?_;refine aA 20 (zI (V.X q - V.N q)) rfl ?_;refine aA 21 (.bool true) rfl ?_;refine aA 22 (.bool true) rfl ?_;refine Hy (by kernel_rfl) ?_ _;clear af;obtain ⟨w3,e3⟩:∃ w3,w3=w2.drew:=⟨_,rfl⟩;rw [<-e3];have k3:Below w2.heap.size w2 w3:=by rw [e3];exact (Hr _ _).drew
  have lx3:x8<w3.heap.size:=by rw [e3];exact lx
  have lr3:w.heap.size+1<w3.heap.size:=by rw [e3];exact lr
  have hz9:w3.heap.size=w2.heap.size:=by rw [e3];rfl
  have HZ9:bY (w3.heap.size=w2.heap.size):=hz9;clear e3 hz9 xq oq fq hwr;have A_w3:bY (Six w3 x8 [zI V.c,.slice aW V.nW kW,zI V.g,zS gO V.nO kO,zS gX V.nX kX,.slice aI V.nI kI]):=fun i hi=>by have h:=(fun g (hg:g<w2.heap.size)=>aj k3 hg) x8 lx i;rw [h.1,h.2];exact X2.o i hi
  have R_w3:bY (Six w3 (w.heap.size+1) zN):=fun i hi=>by have h:=(fun g (hg:g<w2.heap.size)=>aj k3 hg) (w.heap.size+1) lr i;rw [h.1,h.2];exact R2.o i hi
  clear a0 a1 a2 a3 a4 a5 r0 f0 r1 r2 r3 r4 r5;obtain ⟨a0,a1,a2,a3,a4,a5⟩:=A_w3.o.a6;obtain ⟨r0,r1,r2,r3,r4,r5⟩:=R_w3.o.a6;have f0:=R_w3.o.f6;have K3:bY (Below w2.heap.size w2 w3):=k3;clear k3;go_wp2;refine Hw (v:=.tuple #[.agg #[zI V.c,.slice aW V.nW kW,zI V.g,zS gO V.nO kO,zS gX V.nX kX,.slice aI V.nI kI],.bool false]) (by simp [results,Tryz.results101,go_sem,r0,r1,r2,r3,r4,r5]) rfl ?_;have hzz:=au w3 (w.heap.size+1) (.int .i64 V.c) (.slice aW V.nW kW) (.int .i64 V.g) (.slice (some ⟨gO,0,none⟩) V.nO kO) (.slice (some ⟨gX,0,none⟩) V.nX kX) (.slice aI V.nI kI);have hz9:=HZ9.o;refine ⟨⟨_,_,rfl,hA.symm,?_⟩,ax (ah B2.o K3.o) (Ht _) _ _ _ _ _ _⟩;rw [show V.after q z=V by simp [CV.after,hA]];show aV w.heap.size (aG w3 (w.heap.size+1) (zI V.c) (.slice aW V.nW kW) (zI V.g) (zS gO V.nO kO) (zS gX V.nX kX) (.slice aI V.nI kI)).heap.size (aG w3 (w.heap.size+1) (zI V.c) (.slice aW V.nW kW) (zI V.g) (zS gO V.nO kO) (zS gX V.nX kX) (.slice aI V.nI kI)) _ _;rw [hzz];exact OW.o.more (by omega) (by omega) (Hl hzz.symm) (fun y h1 h2=>Sm.trans (aj K3.o (by omega)) (aH (by omega) (zI V.c) (.slice aW V.nW kW) (zI V.g) (zS gO V.nO kO) (zS gX V.nX kX) (.slice aI V.nI kI)))
 have hA:jk V q z=true:=by
  simp only [jk,hz1,Bool.false_or,Bool.not_eq_true',decide_eq_false_iff_not];exact fun e=>hz2 (hone.1 e)
 have hN0:V.N q≠0:=fun e=>by omega
 have hz3:decide (z<=V.X q - V.N q)=false:=by simp;omega
 clear hz hone hz2;refine Hu (S:=fun w'=>(∀ b o,b<w2.heap.size->w'.cell? (zA b o)=w2.cell? (zA b o))/\w2.heap.size<=w'.heap.size) (by kernel_rfl) ⟨fun _ _ _=>rfl,Ho _⟩ ?_;intro af;refine aA 0 (zI z) rfl ?_;refine aA 1 (zP x8 4) rfl ?_;refine dY 2 (zS gX V.nX kX) rfl ?_ ?_
 ·intro wx hSw;have y4:=(hSw.1 x8 4 lx).trans a4;clear hSw;go_simp
 refine aA 3 (zI (q:Int)) rfl ?_;refine aA 4 (zP gX q) rfl ?_;refine dY 5 (zI (V.X q)) rfl ?_ ?_
 ·intro wx hSw;have yx:=(hSw.1 gX q lgX).trans xq;clear hSw;go_simp
 refine aA 6 (.bool false) rfl ?_;refine aA 7 (.bool false) rfl ?_;refine aA 8 (zI z) rfl ?_;refine aA 9 (zP x8 4) rfl ?_;refine dY 10 (zS gX V.nX kX) rfl ?_ ?_
 ·intro wx hSw;have y4:=(hSw.1 x8 4 lx).trans a4;clear hSw;go_simp
 refine aA 11 (zI (q:Int)) rfl ?_;refine aA 12 (zP gX q) rfl ?_;refine dY 13 (zI (V.X q)) rfl ?_ ?_
 ·intro wx hSw;have yx:=(hSw.1 gX q lgX).trans xq;clear hSw;go_simp
 refine aA 14 (zP x8 3) rfl ?_;refine dY 15 (zS gO V.nO kO) rfl ?_ ?_
 ·intro wx hSw;have y3:=(hSw.1 x8 3 lx).trans a3;clear hSw;go_simp
 refine aA 16 (zI (q:Int)) rfl ?_;refine aA 17 (zP gO q) rfl ?_;refine dY 18 (.slice qa (V.N q) qc) rfl ?_ ?_
 ·intro wx hSw;have yo:=(hSw.1 gO q lgO).trans oq;clear hSw;go_simp
 refine aA 19 (zI (V.N q:Int)) rfl ?_;refine aA 20 (zI (V.X q - V.N q)) rfl ?_;refine aA 21 (.bool false) rfl ?_;refine aA 22 (.bool false) rfl ?_;refine Hy (by kernel_rfl) ?_ _;clear af;obtain ⟨w3,e3⟩:∃ w3,w3=w2.drew:=⟨_,rfl⟩;rw [<-e3];have k3:Below w2.heap.size w2 w3:=by rw [e3];exact (Hr _ _).drew
 have lx3:x8<w3.heap.size:=by rw [e3];exact lx
 have lr3:w.heap.size+1<w3.heap.size:=by rw [e3];exact lr
 have lgO3:gO<w3.heap.size:=by rw [e3];exact lgO
 have HZ9:bY (w3.heap.size=w2.heap.size):=by rw [e3];rfl
 have oq3:w3.cell? (zA gO q)=some (.slice qa (V.N q) qc):=(k3.cell (p:=(zA gO q)) lgO).trans oq;have fq3:w3.frozen? (zA gO q)=false:=(k3.frozen (p:=(zA gO q)) lgO).trans fq;have hxO:¬ x8=gO:=by omega
 clear e3 xq oq fq hwr;have A_w3:bY (Six w3 x8 [zI V.c,.slice aW V.nW kW,zI V.g,zS gO V.nO kO,zS gX V.nX kX,.slice aI V.nI kI]):=fun i hi=>by have h:=(fun g (hg:g<w2.heap.size)=>aj k3 hg) x8 lx i;rw [h.1,h.2];exact X2.o i hi
 have R_w3:bY (Six w3 (w.heap.size+1) zN):=fun i hi=>by have h:=(fun g (hg:g<w2.heap.size)=>aj k3 hg) (w.heap.size+1) lr i;rw [h.1,h.2];exact R2.o i hi
 clear a0 a1 a2 a3 a4 a5 r0 f0 r1 r2 r3 r4 r5;obtain ⟨a0,a1,a2,a3,a4,a5⟩:=A_w3.o.a6;obtain ⟨r0,r1,r2,r3,r4,r5⟩:=R_w3.o.a6;have f0:=R_w3.o.f6;have K3:bY (Below w2.heap.size w2 w3):=k3;clear k3;obtain rfl:=HQA.o hN0;have OQ:bY (P8.iQ w2 (xs q) (V.N q) (V.O q) (V.N q)):=by rcases HP.o with h | ⟨_,_,_,_,_,h⟩;exact absurd h.1 hN0;exact h
 have lq:l0<=xs q/\xs q<x8:=HP.o.in hN0;go_wp2_with fail;refine Hu (S:=fun w'=>(∀ b o,b<w3.heap.size->¬ b=gO->w'.cell? (zA b o)=w3.cell? (zA b o))/\w3.heap.size<=w'.heap.size) (by kernel_rfl) ⟨fun _ _ _ _=>rfl,Ho _⟩ ?_;intro af;refine aA 0 (zP x8 3) rfl ?_;refine dY 1 (zS gO V.nO kO) rfl ?_ ?_
 ·intro wx hSw;have y3:=(hSw.1 x8 3 lx3 hxO).trans a3;clear hSw;go_simp
 refine aA 2 (zI (q:Int)) rfl ?_;refine aA 3 (zP x8 3) rfl ?_;refine dY 4 (zS gO V.nO kO) rfl ?_ ?_
 ·intro wx hSw;have y3:=(hSw.1 x8 3 lx3 hxO).trans a3;clear hSw;go_simp
 refine aA 5 (zI (q:Int)) rfl ?_;refine aA 6 (zP gO q) rfl ?_;refine aA 8 (zI z) rfl ?_;refine di 7 rfl fun K hK=>?_;go_simp;refine hK.out _ _ af (fun ai=>?_);clear hK K af;have af:=ai;clear ai;try simp only [aT]
 refine di 9 rfl fun K hK=>?_;go_simp;go_wp2_with fail;refine (P8.Ba z (xs q) 0 (V.N q) qc (V.O q) hNq w3.drew (by have:=HZ9.o;show xs q<w3.heap.size;omega) (fun k j h1 h2=>(K3.o.cell (p:=⟨xs q,_,none⟩) (by show xs q<_;omega)).trans (P8.aZ OQ.o k j h1 h2))).mono ?_;rintro e w4 ⟨u,rfl,hu,hb4⟩;obtain ⟨g9,uc,ua,hue,hg9,hRP⟩:=Dk (lo:=w3.heap.size) hu (Ho _);subst hue;obtain ⟨r,hr⟩:∃ r,r=(P8.rest (V.O q) (V.N q) z).length:=⟨_,rfl⟩;rw [<-hr];have HR:bY (r=(P8.rest (V.O q) (V.N q) z).length):=hr;have HRP:bY _:=hRP;have hb5:Below w3.heap.size w3 w4:=ah ((Hr _ _).drew) hb4;have z4:w3.heap.size<=w4.heap.size:=hb5.size;have hg9b:w3.heap.size<=g9:=hg9;clear hr hu hRP hg9;refine hK.out _ _ ⟨fun b o h1 h2=>hb5.cell (p:=(zA b o)) h1,z4⟩ (fun ai=>?_);clear hK K af;have af:=ai;clear ai;try simp only [aT]
 have oq4:w4.cell? (zA gO q)=some (zS (xs q) (V.N q) qc):=(hb5.cell (p:=(zA gO q)) lgO3).trans oq3;have fq4:w4.frozen? (zA gO q)=false:=(hb5.frozen (p:=(zA gO q)) lgO3).trans fq3;have lgO4:gO<w4.heap.size:=by omega
 clear oq3 fq3;refine aA 10 (zP gO q) rfl ?_;refine di 11 rfl fun K hK=>?_;clear af;go_simp;refine hK.out _ _ ⟨fun b o h1 h2=>(aJ (fun e=>h2 e.1.symm)).trans (hb5.cell (p:=(zA b o)) h1),by rw [ay];exact z4⟩ (fun ai=>?_);clear hK K ai;try simp only [aT]
 refine Hy (by kernel_rfl) ?_ _;obtain ⟨w5,e5⟩:∃ w5,w5=(w4.setCell (zA gO q) (.slice ua r uc)):=⟨_,rfl⟩;rw [<-e5];have s5:∀ g,g<w2.heap.size->¬ g=gO->Sm w2 w5 g:=fun g h1 h2=>by rw [e5];exact ((aj K3.o h1).trans (aj hb5 (by have:=HZ9.o;omega))).trans (fun o=>⟨aJ (fun e=>h2 e.1.symm),aB⟩)
 have S5:bY (∀ g,g<w2.heap.size->¬ g=gO->Sm w2 w5 g):=s5;have z5:bY (w5.heap.size=w4.heap.size):=by rw [e5];exact ay
 have B5:bY (Below w.heap.size w w5):=by rw [e5];exact (ah (ah B2.o K3.o) hb5).setCell (by show w.heap.size<=gO;omega) _
 have G5:bY (∀ k,k<V.nO->w5.cell? (zA gO k)=some (if k=q then .slice ua r uc else sl k)):=fun k hk=>by
  rw [e5];by_cases e:k=q
  ·subst e;rw [if_pos rfl];exact fP (by rw [oq4];rfl)
  rw [if_neg e,aJ (fun h=>e h.2.symm),hb5.cell (p:=(zA gO k)) lgO3,K3.o.cell (p:=(zA gO k)) lgO];exact (CH.o k hk).1
 have P5:bY (RP w3.heap.size w4.heap.size w5 (.slice ua r uc) r (fun i j=>V.O q (P8.rest (V.O q) (V.N q) z)[i]! j) g9):=by
  have h:=HRP.o;rw [<-HR.o] at h;exact RP.go h (Ho _) (Ho _) (by rw [z5.o];exact Ho _) (fun _ h1 _=>by rw [e5];exact fun o=>⟨aJ (fun e=>by have:=e.1;omega),aB⟩)
 have lx5:x8<w5.heap.size:=by rw [z5.o];omega
 have lr5:w.heap.size+1<w5.heap.size:=by rw [z5.o];omega
 clear e5 oq4 fq4 hb5 hb4 s5;have A_w5:bY (Six w5 x8 [zI V.c,.slice aW V.nW kW,zI V.g,zS gO V.nO kO,zS gX V.nX kX,.slice aI V.nI kI]):=fun i hi=>by have h:=S5.o x8 lx hxO i;rw [h.1,h.2];exact X2.o i hi
 have R_w5:bY (Six w5 (w.heap.size+1) zN):=fun i hi=>by have h:=S5.o (w.heap.size+1) lr (by omega) i;rw [h.1,h.2];exact R2.o i hi
 clear a0 a1 a2 a3 a4 a5 r0 f0 r1 r2 r3 r4 r5;obtain ⟨a0,a1,a2,a3,a4,a5⟩:=A_w5.o.a6;obtain ⟨r0,r1,r2,r3,r4,r5⟩:=R_w5.o.a6;have f0:=R_w5.o.f6;go_wp2;refine Hw (v:=.tuple #[.agg #[zI V.c,.slice aW V.nW kW,zI V.g,zS gO V.nO kO,zS gX V.nX kX,.slice aI V.nI kI],.bool true]) (by simp [results,Tryz.results101,go_sem,r0,r1,r2,r3,r4,r5]) rfl ?_;have hzz:=au w5 (w.heap.size+1) (.int .i64 V.c) (.slice aW V.nW kW) (.int .i64 V.g) (.slice (some ⟨gO,0,none⟩) V.nO kO) (.slice (some ⟨gX,0,none⟩) V.nX kX) (.slice aI V.nI kI);have hz9:=HZ9.o;have hz5:=z5.o;refine ⟨⟨_,_,rfl,hA.symm,?_⟩,ax B5.o (Ht _) _ _ _ _ _ _⟩;rw [show V.after q z=V.sZ q z by simp [CV.after,hA]];show aV w.heap.size (aG w5 (w.heap.size+1) (zI V.c) (.slice aW V.nW kW) (zI V.g) (zS gO V.nO kO) (zS gX V.nX kX) (.slice aI V.nI kI)).heap.size (aG w5 (w.heap.size+1) (zI V.c) (.slice aW V.nW kW) (zI V.g) (zS gO V.nO kO) (zS gX V.nX kX) (.slice aI V.nI kI)) _ _;rw [hzz];have hF:∀ g,¬ g=w.heap.size+1->Sm w5 (aG w5 (w.heap.size+1) (zI V.c) (.slice aW V.nW kW) (zI V.g) (zS gO V.nO kO) (zS gX V.nX kX) (.slice aI V.nI kI)) g:=fun g h=>aH (fun e=>h e.symm) (zI V.c) (.slice aW V.nW kW) (zI V.g) (zS gO V.nO kO) (zS gX V.nX kX) (.slice aI V.nI kI);have hSw:∀ g,g<x8->l0<=g->¬ g=gO->Sm w2 (aG w5 (w.heap.size+1) (zI V.c) (.slice aW V.nW kW) (zI V.g) (zS gO V.nO kO) (zS gX V.nX kX) (.slice aI V.nI kI)) g:=fun g h1 h2 h3=>(S5.o g (by omega) h3).trans (hF g (by omega));obtain ⟨d1,d2,d3,d4,d5,d6⟩:=DH.o;have e0:(V.sZ q z).N q=r:=by rw [HR.o];simp [CV.sZ]
 have e1:∀ k,¬ k=q->(V.sZ q z).N k=V.N k:=fun k hk=>by simp [CV.sZ,hk]
 have e2:∀ k,¬ k=q->(V.sZ q z).O k=V.O k:=fun k hk=>by simp [CV.sZ,hk]
 have e3:(V.sZ q z).O q=fun i j=>V.O q (P8.rest (V.O q) (V.N q) z)[i]! j:=by simp [CV.sZ]
 have hlt:∀ k,k<V.nO->V.N k≠0->l0<=xs k/\xs k<x8:=fun k hk e=>(CH.o k hk).2.in e;refine jL (V:=V.sZ q z) (gW:=gW) (gO:=gO) (gX:=gX) (gI:=gI) (sl:=fun k=>if k=q then .slice ua r uc else sl k) (xs:=fun k=>if k=q then g9 else xs k) (RWH.o.go (by omega) (by omega) (Hl hzz.symm) (fun _ h1 h2=>hSw _ h2 h1 d1)) (by omega) (by omega) (Hl hzz.symm) (fun k hk=>⟨(hF gO (by omega) k).1.trans (G5.o k hk),?_⟩) (RXH.o.go (by omega) (by omega) (Hl hzz.symm) (fun _ h1 h2=>hSw _ h2 h1 (fun e=>d4 e.symm))) (RIH.o.go (by omega) (by omega) (Hl hzz.symm) (fun _ h1 h2=>hSw _ h2 h1 (fun e=>d5 e.symm))) (fun _=>d1) (fun _ _=>d2) (fun _ _=>d3) (fun _=>d4) (fun _=>d5) (fun _ _=>d6) (fun k hk e=>?_) (fun i j hij hj n1 n2=>?_)
 ·by_cases e:k=q
  ·subst e;simp only [if_true];rw [e0,e3];exact P5.o.go (by omega) (by omega) (Hl hzz.symm) (fun _ h1 h2=>hF g9 (by omega))
  simp only [if_neg e];rw [e1 k e,e2 k e];exact (CH.o k hk).2.go (by omega) (by omega) (Hl hzz.symm) (fun _ h1 h2=>hSw _ h2 h1 (H1.o k hk).2.1)
 ·by_cases e':k=q
  ·subst e';simp only [if_true];exact ⟨fun h=>by have:=RWH.o.in h;omega,by omega,fun h=>by have:=RXH.o.in h;omega,fun h=>by have:=RIH.o.in h;omega⟩
  simp only [if_neg e'];have h:=H1.o k hk;exact ⟨fun _=>h.1,h.2.1,fun _=>h.2.2.1,fun _=>h.2.2.2⟩
 have hj2:j<V.nO:=hj;by_cases ei:i=q
 ·subst ei;have ej:¬ j=i:=by omega
  simp only [if_true,if_neg ej];rw [e1 j ej] at n2;have:=hlt j hj2 n2;omega
 simp only [if_neg ei];rw [e1 i ei] at n1;by_cases ej:j=q
 ·subst ej;simp only [if_true];have:=hlt i (by omega) n1;omega
 simp only [if_neg ej];exact H2.o i j (by omega) hj2 (by omega)
