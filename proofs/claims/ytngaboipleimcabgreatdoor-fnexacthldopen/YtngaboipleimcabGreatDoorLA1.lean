/- What is carried: lemmas on lists, cells and draws; conditions: those typed. -/
import Derived.Test.YtngaboipleimcabGreatDoorMo11
set_option linter.unusedVariables false
set_option maxHeartbeats 4000000
set_option maxRecDepth 20000
namespace Go.Proofs.YtngaboipleimcabGreatDoor
namespace P8
open Go.RowKit Go.Deep
theorem AL (z:Int) (b o n cap:Nat) (Z:Nat->Nat->Int) (hn:n<=1048576) (w:World) (hb:b<w.heap.size)
 (hr:∀ k j,k<n->j<8->w.cell? (zA b (o+k * 8+j))=some (zI (Z k j))) :
 Hz 153 #[.slice (some (zA b o)) n cap,zI z] w fun e w'=>∃ v,e=.returned v/\lu w' w.heap.size v (rest Z n z) Z/\((rest Z n z).length=0->v=.slice none 0 0)/\Below w.heap.size w w':=by
 have HR:bY (∀ k j,k<n->j<8->w.cell? (zA b (o+k * 8+j))=some (zI (Z k j))):=hr;clear hr;obtain ⟨i5,hi5,hz50,hz51,hz52⟩:=qC;go_enter Tryz.func153,Tryz.ntmps153;go_wp2;go_loopw [5,10] (fun s i wr=>∃ (k:Nat) (v:Value),k<=n/\zI k=i/\v=s/\wr.ownsRow w.heap.size 69 8 v (rest Z k z).length ((rest Z k z).flatMap (eight Z))/\bY ((rest Z k z).length=0->v=.slice none 0 0)/\w.heap.size<=wr.heap.size/\Below w.heap.size w wr) (fun _ i _=>n - (intOf i).toNat)
 case atStart=>exact ⟨0,_,Nat.zero_le _,rfl,rfl,World.ownsRow_nil _ _ _ _,fun _=>rfl,Ho _,Hr _ _⟩
 case round =>
  obtain ⟨k,v,hk,rfl,rfl,ho,hnl,hsz,hbel⟩:=hrel;by_cases hkn:k<n
  ·have hkn':(k:Int)<(n:Int):=by omega
   have c0:=cq8 (fun j hj=>(hbel.cell (by exact hb)).trans (HR.o k j hkn (by omega)));have HLEN:bY ((rest Z k z).length<=k):=vU Z k z;by_cases hz:¬ z<=Z k 0
   ·have ez:Z k 0<z:=by omega
    have HO:bY ((wr.alloc (.cells (zE (Z k)).toArray 69)).ownsRow w.heap.size 69 8 v (rest Z (k+1) z).length ((rest Z (k+1) z).flatMap (eight Z))):=by
     unfold bY;rw [jG,if_neg hz,List.append_nil];exact ho.alloc _
    have HN:bY ((rest Z (k+1) z).length=0->v=.slice none 0 0):=by
     unfold bY;rw [jG,if_neg hz,List.append_nil];exact hnl.o
    clear ho hz;go_wp2;go_roundw
    case rel=>exact ⟨k+1,_,by omega,by go_num,rfl,HO.o,HN,by simp;omega,hbel.alloc hsz _⟩
    case measure=>simp [intOf];omega
   have ez:z<=Z k 0:=by omega
   have HZ:bY (z<=Z k 0):=ez;clear hz;go_wp2_with (at_builtin;refine wpList_append_own _ rfl _ _ 127 rfl w.heap.size 69 i5 (.agg #[zI 0,zI 0,zI 0,zI 0,zI 0,zI 0,zI 0,zI 0]) 8 64 Tryz.underlying127 hi5 hz50 hz51 hz52 rfl (by decide) _ _ _ rfl ((ho.alloc _).alloc _) (zA (wr.heap.size+1) 0) 1 1 (eight Z k) rfl rfl ?d1 ?d2 ?d3 ?d4 ?d5 ?_)
   case d1 =>
    intro j u hj;match j,hj with
    | 0,hj=>simp [eight] at hj;subst hj;simp [Addr.add]
    | 1,hj=>simp [eight] at hj;subst hj;simp [Addr.add]
    | 2,hj=>simp [eight] at hj;subst hj;simp [Addr.add]
    | 3,hj=>simp [eight] at hj;subst hj;simp [Addr.add]
    | 4,hj=>simp [eight] at hj;subst hj;simp [Addr.add]
    | 5,hj=>simp [eight] at hj;subst hj;simp [Addr.add]
    | 6,hj=>simp [eight] at hj;subst hj;simp [Addr.add]
    | 7,hj=>simp [eight] at hj;subst hj;simp [Addr.add]
    | j+8,hj=>simp [eight] at hj
   case d2=>intro u hu;simp [eight] at hu;rcases hu with rfl | rfl | rfl | rfl | rfl | rfl | rfl | rfl <;> rfl
   case d3=>have:=HLEN.o;unfold maxLen;omega
   case d4=>have:=HLEN.o;omega
   case d5=>simp;omega
   ·intro v' w2 hown' hg2 hnil;have hall:=((World.grownBy_alloc wr _ _).trans (World.grownBy_alloc _ _ _)).trans hg2;have HO:bY (w2.ownsRow w.heap.size 69 8 v' (rest Z (k+1) z).length ((rest Z (k+1) z).flatMap (eight Z))):=by
     unfold bY;rw [jG,if_pos HZ.o,List.length_append,List.flatMap_append];simpa using hown'
    have HN:bY ((rest Z (k+1) z).length=0->v'=.slice none 0 0):=by
     unfold bY;rw [jG,if_pos HZ.o];intro h;simp at h
    have hs2:w.heap.size<=w2.heap.size:=Hq hsz hall.size;have hb2:Below w.heap.size w w2:=hbel.grown hall hsz (fun kk e=>(ho.lt kk e).1);clear hown' hg2 hnil hall ho c0 HZ;go_wp2;go_roundw
    case rel=>exact ⟨k+1,_,by omega,by go_num,rfl,HO.o,HN,hs2,hb2⟩
    case measure=>simp [intOf];omega
  have hkn':k=n:=by omega
  subst hkn';have HW:bY (lu wr w.heap.size v (rest Z k z) Z):=ho;clear ho;go_wp2;go_ret;exact ⟨_,rfl,HW.o,hnl.o,hbel⟩
end P8
open Go.RowKit Go.Deep
theorem Dk {w:World} {base lo:Nat} {v:Value} {L:List Nat} {Z:Nat->Nat->Int} (h:w.ownsRow base 69 8 v L.length (L.flatMap (P8.eight Z))) (hlo:lo<=base):∃ g c a,v=.slice a L.length c/\base<=g/\RP lo w.heap.size w v L.length (fun k j=>Z L[k]! j) g:=by
 rcases h.2 with ⟨e,hl⟩ | ⟨g,cap,cur,hv,_⟩
 ·exact ⟨base,0,none,by rw [e,hl],Ho _,.inl ⟨hl,none,0,e⟩⟩
 have ho:w.ownsRow base 69 8 (zS g L.length cap) L.length (L.flatMap (P8.eight Z)):=by rw [hv] at h;exact h
 refine ⟨g,cap,_,hv,(ho.lt g rfl).1,.inr ⟨cap,hv,Hq hlo (ho.lt g rfl).1,(ho.lt g rfl).2,Ho _,fun i hi=>⟨?_,ho.frozenAt i⟩,fun k j hk hj=>?_⟩⟩
 ·rw [ho.cellAt i hi];have:i<(L.flatMap (P8.eight Z)).length:=by rw [ho.1];exact hi
  rw [List.getElem?_eq_getElem this];rfl
 rw [ho.cellAt (k * 8+j) (by omega),P8.sF (m:=8) (P8.eight Z) (fun _=>rfl) L k j hk hj];match j,hj with
 | 0,_=>rfl
 | 1,_=>rfl
 | 2,_=>rfl
 | 3,_=>rfl
 | 4,_=>rfl
 | 5,_=>rfl
 | 6,_=>rfl
 | 7,_=>rfl
theorem yh (z:Int) (a:Option Addr) (c:Nat) (w:World) :
 Hz 153 #[.slice a 0 c,zI z] w fun e w'=>e=.returned (.slice none 0 0)/\w'=w:=by
 go_enter Tryz.func153,Tryz.ntmps153;go_wp2;go_loopw [5,10] (fun s i wr=>s=.slice none 0 0/\i=zI 0/\wr=w) (fun _ _ _=>0)
 case atStart=>exact ⟨rfl,rfl,rfl⟩
 case round =>
  obtain ⟨rfl,rfl,rfl⟩:=hrel;go_wp2;go_ret;exact ⟨rfl,rfl⟩
theorem Dh (z:Int) (lo hi:Nat) (v:Value) (n:Nat) (Z:Nat->Nat->Int) (g:Nat) (hn:n<=1048576) (w:World) (h:RP lo hi w v n Z g) :
 Hz 153 #[v,zI z] w fun e w'=>(∃ u,e=.returned u/\P8.lu w' w.heap.size u (P8.rest Z n z) Z/\((P8.rest Z n z).length=0->u=.slice none 0 0))/\Below w.heap.size w w':=by
 rcases h with ⟨rfl,a,c,rfl⟩ | ⟨c,rfl,h1,h2,h3,h4⟩
 ·refine (yh z a c w).mono ?_;rintro e w' ⟨rfl,rfl⟩;exact ⟨⟨_,rfl,World.ownsRow_nil _ _ _ _,fun _=>rfl⟩,Hr _ _⟩
 refine (P8.AL z g 0 n c Z hn w (by omega) (P8.aZ h4)).mono ?_;rintro e w' ⟨u,rfl,hu,hn0,hb⟩;exact ⟨⟨u,rfl,hu,hn0⟩,hb⟩
theorem FH {w:World} {base n:Nat} {v:Value} {xs:List Value} (h:w.ownsRow base 69 8 v n xs) (h0:n=0->∃ a,v=.slice a 0 0):Rm base w.heap.size w v n:=by
 refine ⟨h0,fun g' c e hn=>?_⟩;rcases h.2 with ⟨e1,hl⟩ | ⟨g2,cap,cur,hv,a1,a2,a3,a4,a5,_⟩
 ·exact absurd hl hn
 rw [hv] at e;simp only [Value.slice.injEq,Option.some.injEq,Addr.mk.injEq,true_and,and_true] at e;obtain ⟨rfl,rfl⟩:=e;have lt:g2<w.heap.size:=(Array.getElem?_eq_some_iff.1 a2).1;refine ⟨a3,a4,a1,lt,fun i hi=>?_⟩;have hs:i<cur.size:=by rw [a5];exact hi
 exact ⟨by simp [World.cell?,a2,hs],by simp [World.frozen?,a2]⟩
theorem xM (c d:Int) (s b:Nat) (lo:Lo) (V:CV) (n:Nat) (M:Int->Option (Nat->Int)) (q:Nat) (z:Int) (hs0:V.N q<=1048576) (hqO:q<V.nO) (hqX:q<V.nX) (w:World) (h:Sc w c d s b lo V n M) :
 Hz 131 #[zP s 0,zI (q:Int),zI z] w fun e w'=>e=.returned (.bool (jk V q z))/\Sc w' c d s b lo (V.after q z) n M/\Bl b lo w w':=by
 have hK1:=h.kk;have SC:bY (Sc w c d s b lo V n M):=h;obtain ⟨aW,kW,kO,aX,kX,aI,kI,gW,gO,gX,gI,sl,xs,hN,rW,rX,rI,hO,hM,⟨l1,l2,l3,l4,l5,l6,l7,l8⟩,hd,hx1,hx2,hkk⟩:=h;have hlo:lo.l<=w.heap.size:=by omega
 obtain ⟨qa,qc,eq,_⟩:=(hO q hqO).2.2.is;obtain ⟨_,_,ex,hax⟩:=rX.is;simp only [Value.slice.injEq,true_and] at ex;obtain ⟨rfl,rfl⟩:=ex;obtain rfl:=hax (by omega);have lX:lo.l<=gX/\gX<w.heap.size:=rX.in (by omega);have OX:bY (fZ w gX V.nX V.X V.nX):=by rcases rX with h | ⟨_,_,_,_,_,h⟩;omega;exact h
 have HP:bY (RP lo.l w.heap.size w (.slice qa (V.N q) qc) (V.N q) (V.O q) (xs q)):=by rw [<-eq];exact (hO q hqO).2.2.1
 have NI:bY (qH w s [zI c,zI d,zI V.c,.slice aW V.nW kW,zI V.g,zS gO V.nO kO,zS gX V.nX kX,.slice aI V.nI kI,.map (some b)]):=hN;have n5:w.cell? (zA s 5)=some (zS gO V.nO kO):=(hN 5 (by decide)).1;have oq:w.cell? (zA gO q)=some (.slice qa (V.N q) qc):=by rw [<-eq];exact (hO q hqO).1
 have fq:w.frozen? (zA gO q)=false:=(hO q hqO).2.1;have hq1:(q:Int)<V.nO:=by omega
 have hq2:(q:Int)<V.nX:=by omega
 have RWH:bY (RW lo.l w.heap.size w (.slice aW V.nW kW) V.nW V.W gW):=rW;have RXH:bY (RI lo.l w.heap.size w (zS gX V.nX kX) V.nX V.X gX):=rX;have RIH:bY (RI lo.l w.heap.size w (.slice aI V.nI kI) V.nI V.I gI):=rI;have OH:bY _:=hO;have MH:bY (Wm w b n M):=hM;have DH:bY _:=hd;have X1:bY _:=hx1;have X2:bY _:=hx2;clear hN rW rX rI hO hM hd hx1 hx2;go_enter Tryz.func131,Tryz.ntmps131;go_wp2_with fail;refine (Dh z lo.l w.heap.size _ (V.N q) (V.O q) (xs q) hs0 w HP.o).mono ?_;rintro e w1 ⟨⟨u,rfl,hu,hu0⟩,hb1⟩;have HM1:=fQ (FH hu (fun e=>⟨none,hu0 e⟩));obtain ⟨g',uc,ua,hue,hg',hRP⟩:=Dk (lo:=w.heap.size) hu (Ho _);subst hue;clear hu0;have z1:w.heap.size<=w1.heap.size:=hb1.size;have S1:=fQ (SC.o.q hb1);have n6:w1.cell? (zA s 6)=some (zS gX V.nX kX):=(hb1.cell (p:=(zA s 6)) l4).trans (NI.o 6 (by decide)).1;have n5':w1.cell? (zA s 5)=some (zS gO V.nO kO):=(hb1.cell (p:=(zA s 5)) l4).trans n5;have xq:w1.cell? (zA gX q)=some (zI (V.X q)):=(hb1.cell (p:=(zA gX q)) lX.2).trans (OX.o.2 q hqX);have ls:s<w1.heap.size:=by omega
 have lgX:gX<w1.heap.size:=by omega
 have lgO:gO<w1.heap.size:=by omega
 have HB1:bY (Below w.heap.size w w1):=hb1;have HRP:bY _:=hRP;obtain ⟨r,hr⟩:∃ r,r=(P8.rest (V.O q) (V.N q) z).length:=⟨_,rfl⟩;rw [<-hr] at HM1 ⊢;have HR:bY (r=(P8.rest (V.O q) (V.N q) z).length):=hr;clear hr hu hRP hb1 n5;by_cases hz:V.X q<z
 ·have hA:jk V q z=false:=by simp [jk,hz]
  go_wp2;go_ret;exact ⟨by rw [hA];rfl,by rw [show V.after q z=V by simp [CV.after,hA]];exact S1.o,Bl.up HB1.o ⟨hlo,hK1⟩⟩
 have hz1:decide (V.X q<z)=false:=by simp;omega
 by_cases hrr:(r:Int)=(V.N q:Int)
 ·have hA:jk V q z=false:=by have:=HR.o;simp [jk];omega
  go_wp2;go_ret;exact ⟨by rw [hA];rfl,by rw [show V.after q z=V by simp [CV.after,hA]];exact S1.o,Bl.up HB1.o ⟨hlo,hK1⟩⟩
 have hA:jk V q z=true:=by have:=HR.o;simp [jk];omega
 have oq':w1.cell? (zA gO q)=some (.slice qa (V.N q) qc):=(HB1.o.cell (p:=(zA gO q)) l2).trans oq;have fq':w1.frozen? (zA gO q)=false:=(HB1.o.frozen (p:=(zA gO q)) l2).trans fq;clear oq fq;have hr1:((r:Int) == (V.N q:Int))=false:=by simp;omega
 clear hrr hz;go_wp2;go_ret;refine ⟨by rw [hA];rfl,?_,(Bl.up HB1.o ⟨hlo,hK1⟩).setCell ⟨l1,hkk.O⟩ _⟩;rw [show V.after q z=V.sZ q z by simp [CV.after,hA]];have hS:∀ x,¬ gO=x->Sm w1 (w1.setCell (zA gO q) (.slice ua r uc)) x:=fun x hx o=>⟨aJ (fun e=>hx e.1),aB⟩
 have hSw:∀ x,x<w.heap.size->¬ gO=x->Sm w (w1.setCell (zA gO q) (.slice ua r uc)) x:=fun x h1 h2=>(aj HB1.o h1).trans (hS x h2);have hz2:(w1.setCell (zA gO q) (.slice ua r uc)).heap.size=w1.heap.size:=ay;have hz3:(w1.setCell ⟨gO,q,none⟩ (.slice ua r uc)).heap.size=w1.heap.size:=hz2;obtain ⟨d1,d2,d3,d4,d5,d6⟩:=DH.o;have e0:(V.sZ q z).N q=r:=by rw [HR.o];simp [CV.sZ]
 have e1:∀ k,¬ k=q->(V.sZ q z).N k=V.N k:=fun k hk=>by simp [CV.sZ,hk]
 have e2:∀ k,¬ k=q->(V.sZ q z).O k=V.O k:=fun k hk=>by simp [CV.sZ,hk]
 have e3:(V.sZ q z).O q=fun i j=>V.O q (P8.rest (V.O q) (V.N q) z)[i]! j:=by simp [CV.sZ]
 have hR2:RP w.heap.size w1.heap.size w1 (.slice ua r uc) r ((V.sZ q z).O q) g':=by rw [e3,HR.o];exact HRP.o
 have inX:=fun e=>RXH.o.in e;have inW:=fun e=>RWH.o.in e;have inI:=fun e=>RIH.o.in e
 refine ⟨aW,kW,kO,_,kX,aI,kI,gW,gO,gX,gI,fun k=>if k=q then .slice ua r uc else sl k,fun k=>if k=q then g' else xs k,NI.o.sm (hSw s l4 (fun e=>l7 e)),
  RWH.o.go (Ho _) (by omega) (Ho _) (fun e _ h=>hSw _ h (fun h=>(d1 e).2.2 h.symm)),RXH.o.go (Ho _) (by omega) (Ho _) (fun e _ h=>hSw _ h (d2 e).2.2),RIH.o.go (Ho _) (by omega) (Ho _) (fun e _ h=>hSw _ h (d3 e).2.2),
  fun k hk=>?_,?_,⟨l1,by omega,l3,by omega,l5,l6,l7,l8⟩,⟨d1,d2,d3,d4,d5,d6⟩,fun k hk e=>?_,fun i j hij hj n1 n2=>?_,?_⟩
 ·by_cases e:k=q
  ·subst e;simp only [if_true];refine ⟨fP (by rw [oq'];rfl),aB.trans fq',?_⟩;rw [e0];exact jT.go ⟨hR2,HM1.o⟩ (by omega) (by omega) (Ho _) (fun _ h1 h2=>hS _ (by omega))
  have hk':k<V.nO:=hk;obtain ⟨u1,u2,u3⟩:=OH.o k hk';simp only [if_neg e];rw [e1 k e,e2 k e];refine ⟨(aJ (fun h=>e h.2.symm)).trans ((HB1.o.cell (p:=(zA gO k)) l2).trans u1),aB.trans ((HB1.o.frozen (p:=(zA gO k)) l2).trans u2),u3.go (Ho _) (by omega) (Ho _) (fun e' _ h=>hSw _ h (fun h'=>(X1.o k hk' e').1.2.2 h'.symm))⟩
 ·have m1:Wm w1 b n M:=MH.o.q MH.o.lt HB1.o;obtain ⟨es,clock,hb,r⟩:=m1;exact ⟨es,clock,(Below.heap_setCell w1 (zA gO q) _ b (fun e=>l8 e.symm)).trans hb,r⟩
 ·by_cases e':k=q
  ·subst e';simp only [if_true];exact ⟨⟨by omega,by have:=MH.o.lt;omega,by omega⟩,fun h=>by have:=inW h;omega,fun h=>by have:=inX h;omega,fun h=>by have:=inI h;omega⟩
  simp only [if_neg e'];rw [e1 k e'] at e;exact X1.o k hk e
 ·have hlt:∀ k,k<V.nO->V.N k≠0->xs k<w.heap.size:=fun k hk e=>((OH.o k hk).2.2.in e).2;have hj':j<V.nO:=hj;by_cases ei:i=q
  ·subst ei;have ej:¬ j=i:=by omega
   simp only [if_true,if_neg ej];rw [e1 j ej] at n2;have:=hlt j hj' n2;omega
  simp only [if_neg ei];rw [e1 i ei] at n1;by_cases ej:j=q
  ·subst ej;simp only [if_true];have:=hlt i (by omega) n1;omega
  simp only [if_neg ej];rw [e1 j ej] at n2;exact X2.o i j hij hj' n1 n2
 refine ⟨⟨hkk.k.1,by omega⟩,hkk.s,hkk.b,hkk.O,hkk.W,hkk.X,hkk.I,fun k hk e=>?_⟩;by_cases e':k=q
 ·subst e';simp only [if_true];exact .inr (by omega)
 simp only [if_neg e'];rw [e1 k e'] at e;exact hkk.x k hk e
