/- The library's maps.Keys, slices.Sorted and slices.Sort of ints, at this translation, laid by the guide's own command in plain words; conditions: none. -/
import Derived.Test.YtngaboipleimcabGreatDoorWm
import Derived.Shelf.SlIterI.Nil
import Derived.Shelf.SortM.Plain
import Derived.Shelf.SortM.SortNone
import Derived.Shelf.SlGeneric
import Derived.Ground.GgzProg
import Derived.Ground.SlgmProg
import Derived.Test.YtngaboipleimcabGreatDoorProg
namespace Go.Proofs.YtngaboipleimcabGreatDoor
open Go.RowKit Go.Deep
set_option linter.unusedVariables false
def qH (w:World) (s:Nat) (l:List Value):Prop:=∀ i,i<9->w.cell? (zA s i)=some (l.getD i undef)/\w.frozen? (zA s i)=false
def He (w:World) (c d:Int) (s b lc hc:Nat) (V:CV) (n:Nat) (M:Int->Option (Nat->Int)):Prop :=
 (∃ aW kW aO kO aX kX aI kI,qH w s [zI c,zI d,zI V.c,.slice aW V.nW kW,zI V.g,.slice aO V.nO kO,.slice aX V.nX kX,.slice aI V.nI kI,.map (some b)]/\aV lc hc w (.agg (zD V aW kW aO kO aX kX aI kI).toArray) V/\mV lc hc w (.agg (zD V aW kW aO kO aX kX aI kI).toArray))/\Wm w b n M/\s<w.heap.size/\¬ s=b/\lc<=hc/\hc<=w.heap.size/\(b<lc∨hc<=b)/\(s<lc∨hc<=s)
theorem wR (W:World) (t:TypeId) (v0 v1 v2 v3 v4 v5 v6 v7 v8:Value):qH (W.alloc (.cells #[v0,v1,v2,v3,v4,v5,v6,v7,v8] t)) W.heap.size [v0,v1,v2,v3,v4,v5,v6,v7,v8]:=by
 intro i hi;have:i=0∨i=1∨i=2∨i=3∨i=4∨i=5∨i=6∨i=7∨i=8:=by omega
 rcases this with rfl | rfl | rfl | rfl | rfl | rfl | rfl | rfl | rfl <;> exact ⟨by simp,by simp⟩
set_option maxHeartbeats 8000000 in
theorem LZ (c d:Int) (v:Value) (V:CV) (hs0:V.short 1048576) (hwf0:∀ k,k<V.nW->(Lit.int .i64 (V.W k 0)).wf=true) (w:World) (h:dL w v V) :
 Hz 88 #[.agg #[zI c,zI d],v] w fun e w'=>∃ s b lc hc,e=.returned (zP s 0)/\He w' c d s b lc hc V V.nW (dA V.W V.nW)/\w.heap.size<=s/\w.heap.size<=b/\w.heap.size<=lc/\Below w.heap.size w w':=by
 have hmm:=@run_makeMap Tryz.prog;obtain ⟨xW,bO,bX,bI,cW,cO,cX,cI,l2,l3,l4,rfl,g1,g2,g3,g4⟩:=h;have CP:bY (dL w (.agg (zG V xW cW bO cO bX cX bI cI).toArray) V):=⟨xW,bO,bX,bI,cW,cO,cX,cI,l2,l3,l4,rfl,g1,g2,g3,g4⟩;have gW:=fQ g1;have hs:bY (V.short 1048576):=hs0;have hwf:bY (∀ k,k<V.nW->(Lit.int .i64 (V.W k 0)).wf=true):=hwf0;have hnW:V.nW<=1048576:=hs0.1;clear g1 g2 g3 g4 hs0 hwf0 l2 l3 l4;go_enter Tryz.func88,Tryz.ntmps88;go_wp2_with fail;obtain ⟨w0,e0⟩:∃ w0,w0=((w.alloc (.cells #[zI c,zI d] 44)).alloc (.cells (zG V xW cW bO cO bX cX bI cI).toArray 36)):=⟨_,rfl⟩;have z0:w.heap.size+2<=w0.heap.size:=by rw [e0];simp
 have z0b:w0.heap.size<=w.heap.size+2:=by rw [e0];simp
 have B0:bY (Below w.heap.size w w0):=by rw [e0];exact ((Hr _ _).alloc (by simp) _).alloc (by simp) _
 have A0:bY (Six w0 (w.heap.size+1) (zG V xW cW bO cO bX cX bI cI)):=by rw [e0];exact oP w #[zI c,zI d] 44 36 (zI V.c) (.slice xW V.nW cW) (zI V.g) (zS bO V.nO cO) (zS bX V.nX cX) (zS bI V.nI cI)
 have m0:w0.cell? (zA w.heap.size 0)=some (zI c):=by rw [e0];simp
 have m1:w0.cell? (zA w.heap.size 1)=some (zI d):=by rw [e0];simp
 obtain ⟨a0,a1,a2,a3,a4,a5⟩:=A0.o.a6;rw [<-e0];clear e0;refine Hu (S:=fun w'=>Below w0.heap.size w0 w') (by kernel_rfl) ((Hr _ _).drew) ?_;intro af;refine dY 0 (.agg #[zI c,zI d]) rfl ?_ ?_
 ·intro wx hSw;have xm0:=(hSw.cell (p:=(zA w.heap.size 0)) (by show w.heap.size<_;omega)).trans m0;have xm1:=(hSw.cell (p:=(zA w.heap.size 1)) (by show w.heap.size<_;omega)).trans m1;go_simp
 refine dY 1 (.agg (zG V xW cW bO cO bX cX bI cI).toArray) rfl ?_ ?_
 ·intro wx hSw;have xa0:=(hSw.cell (p:=(zA (w.heap.size+1) 0)) (by show w.heap.size+1<_;omega)).trans a0;have xa1:=(hSw.cell (p:=(zA (w.heap.size+1) 1)) (by show w.heap.size+1<_;omega)).trans a1;have xa2:=(hSw.cell (p:=(zA (w.heap.size+1) 2)) (by show w.heap.size+1<_;omega)).trans a2;have xa3:=(hSw.cell (p:=(zA (w.heap.size+1) 3)) (by show w.heap.size+1<_;omega)).trans a3;have xa4:=(hSw.cell (p:=(zA (w.heap.size+1) 4)) (by show w.heap.size+1<_;omega)).trans a4;have xa5:=(hSw.cell (p:=(zA (w.heap.size+1) 5)) (by show w.heap.size+1<_;omega)).trans a5;go_simp
 clear m0 m1 a0 a1 a2 a3 a4 a5;refine y9 [2,3] ?_;refine AllReadyH.cons rfl (fun K hK=>?ga) (AllReadyH.cons rfl (fun K hK=>?gb) AllReadyH.nil)
 case' ga=>
  go_simp;go_wp2_with fail;refine (LP _ V hs.o _ (CP.o.q (B0.o.drew))).mono ?_;rintro e w1 ⟨⟨v1,rfl,hO,hT⟩,hb1⟩;obtain ⟨aW,kW,aO,kO,aX,kX,aI,kI,rfl,_,_,_,_⟩:=hO.at;have hbx:Below w0.heap.size w0 w1:=ah ((Hr _ _).drew) hb1;have hz1:w0.heap.size<=w1.heap.size:=hbx.size;refine hK.out _ _ hbx (fun ai=>?_);clear hK K af;have af:=ai;clear ai;try simp only [aT]
  refine di 3 rfl fun K hK=>?_;go_simp;refine hK.out _ _ (af.alloc hz1 _) (fun ai=>?_);clear hK K af;have af:=ai;clear ai;try simp only [aT]
  refine aA 4 (.agg #[zI c,zI d,zI V.c,.slice aW V.nW kW,zI V.g,.slice aO V.nO kO,.slice aX V.nX kX,.slice aI V.nI kI,.map (some w1.heap.size)]) rfl ?_;refine di 5 rfl fun K hK=>?_;go_simp;refine hK.out _ _ (af.alloc (by simp;omega) _) (fun ai=>?_);clear hK K af;have af:=ai;clear ai;try simp only [aT]
  refine aA 6 (zP (w1.heap.size+1) 0) rfl ?_;refine Hy (by kernel_rfl) ?_ _;obtain ⟨W,s,b,lc,hc,eW,es,eb,OW0,TW0,NW0,MW0,BW0,KW0,hsb,hlh,hhW,hsW,hbW,hbo,hso,hlc,hbw,hsw⟩:∃ W s b lc hc,W=((w1.alloc (.map #[] 0)).alloc (.cells #[zI c,zI d,zI V.c,.slice aW V.nW kW,zI V.g,.slice aO V.nO kO,.slice aX V.nX kX,.slice aI V.nI kI,.map (some w1.heap.size)] 135))/\s=w1.heap.size+1/\b=w1.heap.size/\aV lc hc W (.agg (zD V aW kW aO kO aX kX aI kI).toArray) V/\mV lc hc W (.agg (zD V aW kW aO kO aX kX aI kI).toArray)/\qH W s [zI c,zI d,zI V.c,.slice aW V.nW kW,zI V.g,.slice aO V.nO kO,.slice aX V.nX kX,.slice aI V.nI kI,.map (some b)]/\Wm W b 0 (dA V.W 0)/\Below w.heap.size w W/\(∀ x,x<w.heap.size+2->Sm w0 W x)/\¬ s=b/\lc<=hc/\hc<=W.heap.size/\s<W.heap.size/\b<W.heap.size/\(b<lc∨hc<=b)/\(s<lc∨hc<=s)/\w.heap.size+2<=lc/\w.heap.size+2<=b/\w.heap.size+2<=s :=
   ⟨_,_,_,w0.heap.size,w1.heap.size,rfl,rfl,rfl,hO.q (Ho _) (((Hr _ _).alloc (Ho _) _).alloc (by simp) _),mV.sm hT (fun x _ hx=>aj (((Hr _ _).alloc (Ho _) _).alloc (by simp) _) hx),(by have h:=wR (w1.alloc (.map #[] 0)) 135 (zI c) (zI d) (zI V.c) (.slice aW V.nW kW) (zI V.g) (.slice aO V.nO kO) (.slice aX V.nX kX) (.slice aI V.nI kI) (.map (some w1.heap.size));rw [World.size_alloc] at h;exact h),(Wm.new w1).q (k:=w1.heap.size+1) (by omega) ((Hr _ _).alloc (by simp) _),(ah B0.o af),fun x hx=>aj af (by omega),by omega,by omega,by simp <;> omega,by simp <;> omega,by simp <;> omega,by omega,by omega,by omega,by omega,by omega⟩
  rw [<-eW,<-es,<-eb];clear eW es eb af hmm;clear hO hb1 hbx hT
 case' gb=>
  go_simp;refine hK.out _ _ (af.alloc (Ho _) _) (fun ai=>?_);clear hK K af;have af:=ai;clear ai;try simp only [aT]
  refine di 2 rfl fun K hK=>?_;go_simp;go_wp2_with fail;refine (LP _ V hs.o _ (CP.o.q (ah B0.o af))).mono ?_;rintro e w1 ⟨⟨v1,rfl,hO,hT⟩,hb1⟩;obtain ⟨aW,kW,aO,kO,aX,kX,aI,kI,rfl,_,_,_,_⟩:=hO.at;have hz1:w0.heap.size+1<=w1.heap.size:=by have:=hb1.size;simpa using this
  have hM1:Wm w1 w0.heap.size 0 (dA V.W 0):=(Wm.new w0.drew).q (by show w0.heap.size<_;simp) hb1;have hO2:aV (w0.heap.size+1) w1.heap.size w1 (.agg (zD V aW kW aO kO aX kX aI kI).toArray) V:=by have e:(w0.alloc (.map #[] 0)).drew.heap.size=w0.heap.size+1:=World.size_alloc w0 _;rw [e] at hO;exact hO
  have hT2:mV (w0.heap.size+1) w1.heap.size w1 (.agg (zD V aW kW aO kO aX kX aI kI).toArray):=by have e:(w0.alloc (.map #[] 0)).drew.heap.size=w0.heap.size+1:=World.size_alloc w0 _;rw [e] at hT;exact hT
  refine hK.out _ _ (ah af hb1) (fun ai=>?_);clear hK K af;have af:=ai;clear ai;try simp only [aT]
  refine aA 4 (.agg #[zI c,zI d,zI V.c,.slice aW V.nW kW,zI V.g,.slice aO V.nO kO,.slice aX V.nX kX,.slice aI V.nI kI,.map (some w0.heap.size)]) rfl ?_;refine di 5 rfl fun K hK=>?_;go_simp;refine hK.out _ _ (af.alloc (by omega) _) (fun ai=>?_);clear hK K af;have af:=ai;clear ai;try simp only [aT]
  refine aA 6 (zP w1.heap.size 0) rfl ?_;refine Hy (by kernel_rfl) ?_ _;obtain ⟨W,s,b,lc,hc,eW,es,eb,OW0,TW0,NW0,MW0,BW0,KW0,hsb,hlh,hhW,hsW,hbW,hbo,hso,hlc,hbw,hsw⟩:∃ W s b lc hc,W=(w1.alloc (.cells #[zI c,zI d,zI V.c,.slice aW V.nW kW,zI V.g,.slice aO V.nO kO,.slice aX V.nX kX,.slice aI V.nI kI,.map (some w0.heap.size)] 135))/\s=w1.heap.size/\b=w0.heap.size/\aV lc hc W (.agg (zD V aW kW aO kO aX kX aI kI).toArray) V/\mV lc hc W (.agg (zD V aW kW aO kO aX kX aI kI).toArray)/\qH W s [zI c,zI d,zI V.c,.slice aW V.nW kW,zI V.g,.slice aO V.nO kO,.slice aX V.nX kX,.slice aI V.nI kI,.map (some b)]/\Wm W b 0 (dA V.W 0)/\Below w.heap.size w W/\(∀ x,x<w.heap.size+2->Sm w0 W x)/\¬ s=b/\lc<=hc/\hc<=W.heap.size/\s<W.heap.size/\b<W.heap.size/\(b<lc∨hc<=b)/\(s<lc∨hc<=s)/\w.heap.size+2<=lc/\w.heap.size+2<=b/\w.heap.size+2<=s :=
   ⟨_,_,_,w0.heap.size+1,w1.heap.size,rfl,rfl,rfl,hO2.q (Ho _) ((Hr _ _).alloc (Ho _) _),mV.sm hT2 (fun x _ hx=>aj ((Hr _ _).alloc (Ho _) _) hx),wR w1 135 (zI c) (zI d) (zI V.c) (.slice aW V.nW kW) (zI V.g) (.slice aO V.nO kO) (.slice aX V.nX kX) (.slice aI V.nI kI) (.map (some w0.heap.size)),hM1.q hM1.lt ((Hr _ _).alloc (Ho _) _),(ah B0.o af),fun x hx=>aj af (by omega),by omega,by omega,by simp <;> omega,by simp <;> omega,by simp <;> omega,by omega,by omega,by omega,by omega,by omega⟩
  rw [<-eW,<-es,<-eb];clear eW es eb af hmm;clear hO hb1 hO2 hM1 hT hT2
 all_goals
  have TW:bY _:=TW0
  clear TW0
  have OW:bY _:=OW0
  have NW:bY _:=NW0
  have MW:bY _:=MW0
  have BW:bY _:=BW0
  have KW:bY _:=KW0
  clear OW0 NW0 MW0 BW0 KW0
  have q1:W.cell? (zA (w.heap.size+1) 1)=some (.slice xW V.nW cW):=((KW.o (w.heap.size+1) (by omega)) 1).1.trans (A0.o 1 (by decide)).1
  have lq:w.heap.size+1<W.heap.size:=by omega
  go_wp2_with fail
  clear q1 lq
  go_loopw [17] (fun i wr=>∃ k:Nat,k<=V.nW/\i=zI k/\Wm wr b k (dA V.W k)/\W.grownBy wr (some b)) (fun i _=>V.nW - (intOf i).toNat)
  case atStart=>exact ⟨0,Nat.zero_le _,rfl,MW.o,⟨rfl,rfl,rfl,Ho _,fun _ _ _=>rfl⟩⟩
  case round =>
   obtain ⟨k,hk,rfl,hM,hG⟩:=hrel;have HMk:bY (Wm wr b k (dA V.W k)):=hM;have HG:bY (W.grownBy wr (some b)):=hG;have hzr:W.heap.size<=wr.heap.size:=hG.size;clear hM hG;by_cases hkn:k<V.nW
   ·have hkn':(k:Int)<V.nW:=by omega
    obtain ⟨bW,oW,rfl,lW,hr⟩:=gW.o.resolve_left (by omega);have c0:=cq5 (fun j hj=>((bG HG.o (b:=bW) (by omega) (by simp;omega)) _).1.trans (((aj BW.o lW) _).1.trans (hr k j hkn (by omega))));clear hr;have lbW:bW<wr.heap.size:=by omega
    have n8:wr.cell? (zA s 8)=some (.map (some b)):=((bG HG.o (b:=s) (by omega) (by simp;omega)) 8).1.trans (NW.o 8 (by decide)).1;have ls:s<wr.heap.size:=by omega
    go_wp2_with fail;obtain ⟨w5,e5⟩:∃ w5,w5=wr.alloc (.cells (zF (V.W k)).toArray 67):=⟨_,rfl⟩;have hb5:Below wr.heap.size wr w5:=by rw [e5];exact (Hr _ _).alloc (Ho _) _
    have d0:w5.cell? (zA wr.heap.size 0)=some (zI (V.W k 0)):=by rw [e5];simp
    have d1:w5.cell? (zA wr.heap.size 1)=some (zI (V.W k 1)):=by rw [e5];simp
    have d2:w5.cell? (zA wr.heap.size 2)=some (zI (V.W k 2)):=by rw [e5];simp
    have d3:w5.cell? (zA wr.heap.size 3)=some (zI (V.W k 3)):=by rw [e5];simp
    have d4:w5.cell? (zA wr.heap.size 4)=some (zI (V.W k 4)):=by rw [e5];simp
    have n9:w5.cell? (zA s 8)=some (.map (some b)):=(hb5.cell (p:=(zA s 8)) ls).trans n8;have hs5:wr.heap.size<w5.heap.size:=by rw [e5];simp
    have ls5:s<w5.heap.size:=by omega
    rw [<-e5];clear e5 c0 n8 lbW ls;have M5:Wm w5.drew b k (dA V.W k):=HMk.o.q (Hg HMk.o.lt (Ho _)) (hb5.drew);obtain ⟨w6,hupd,hM6,hg6⟩:=M5.put (hwf.o k hkn) (V.W k);refine Hu (S:=fun w'=>(∀ g o,g<w5.heap.size->¬ g=b->w'.cell? (zA g o)=w5.cell? (zA g o))/\w5.heap.size<=w'.heap.size) (by kernel_rfl) ⟨fun _ _ _ _=>rfl,Ho _⟩ ?_;intro af;refine aA 0 (zP s 0) rfl ?_;refine dY 1 (zP s 0) rfl ?_ ?_
    ·intro wx hSw;have x8:=(hSw.1 s 8 ls5 hsb).trans n9;have xl:=Hg ls5 hSw.2;go_simp
    refine aA 2 (zP s 8) rfl ?_;refine dY 3 (.map (some b)) rfl ?_ ?_
    ·intro wx hSw;have x8:=(hSw.1 s 8 ls5 hsb).trans n9;go_simp
    refine aA 4 (zP wr.heap.size 0) rfl ?_;refine dY 5 (zI (V.W k 0)) rfl ?_ ?_
    ·intro wx hSw;have x0:=(hSw.1 wr.heap.size 0 hs5 (by omega)).trans d0;go_simp
    refine dY 6 (wv (V.W k)) rfl ?_ ?_
    ·intro wx hSw;have x0:=(hSw.1 wr.heap.size 0 hs5 (by omega)).trans d0;have x1:=(hSw.1 wr.heap.size 1 hs5 (by omega)).trans d1;have x2:=(hSw.1 wr.heap.size 2 hs5 (by omega)).trans d2;have x3:=(hSw.1 wr.heap.size 3 hs5 (by omega)).trans d3;have x4:=(hSw.1 wr.heap.size 4 hs5 (by omega)).trans d4;unfold wv;go_simp
    refine di 7 rfl fun K hK=>?_;clear af;go_simp;refine hK.out _ _ ⟨fun g o hg hne=>(bG hg6 (b:=g) hg (by simp;exact hne) o).1,hg6.size⟩ (fun ai=>?_);clear hK K ai;try simp only [aT]
    refine Hy (by kernel_rfl) ?_ _;have hgn:bY (W.grownBy w6 (some b)):=(HG.o.trans (P8.mr hb5)).trans ⟨hg6.os,hg6.tape,hg6.output,hg6.size,hg6.block⟩;have HM6:bY (Wm w6 b (k+1) (dA V.W (k+1))):=hM6;clear hM6 hg6 hupd M5 d0 d1 d2 d3 d4 n9 ls5 hb5 HG HMk;go_wp2;go_roundw
    case rel=>exact ⟨k+1,by omega,by go_num,HM6.o,hgn.o⟩
    case measure=>simp [intOf];omega
   have hkk:k=V.nW:=by omega
   subst hkk;go_wp2;go_ret;have hsm:∀ x,x<W.heap.size->¬ x=b->Sm W wr x:=fun x h1 h2=>bG HG.o h1 (by simp;exact h2);refine ⟨s,b,lc,hc,rfl,⟨⟨aW,kW,aO,kO,aX,kX,aI,kI,fun i hi=>?_,aV.sm OW.o hzr (fun x h1 h2=>hsm x (by omega) (by omega)),mV.sm TW.o (fun x h1 h2=>hsm x (by omega) (by omega))⟩,HMk.o,by omega,hsb,hlh,by omega,hbo,hso⟩,by omega,by omega,by omega,?_⟩
   ·have h1:=hsm s hsW hsb i;rw [h1.1,h1.2];exact NW.o i hi
   exact BW.o.grown HG.o BW.o.size (fun kk e=>by cases e;omega)
theorem uj (n:Nat) (Z:Nat->Nat->Int):((List.range n).flatMap (aP Z)).length=n * 5:=by
 induction n with
 | zero=>simp
 | succ n ih=>rw [List.range_succ,List.flatMap_append,List.length_append,ih];simp [aP,Nat.succ_mul]
theorem vK {w:World} {b o n:Nat} {Z:Nat->Nat->Int} (hr:∀ k j,k<n->j<5->w.cell? (zA b (o+k * 5+j))=some (zI (Z k j))):∀ j u,((List.range n).flatMap (aP Z))[j]? = some u->w.cell? (((zA b o):Addr).add j)=some u:=by
 intro j u hj;have hlt:j<n * 5:=by
  have:=(List.getElem?_eq_some_iff.1 hj).1;rw [uj] at this;exact this
 rw [flat_get (aP Z) (fun _=>rfl) (by decide) n j hlt] at hj;have hq:j / 5<n:=Nat.div_lt_of_lt_mul (by omega);have hr':=hr (j / 5) (j % 5) hq (Nat.mod_lt _ (by decide));rw [iR,show o+j=o+j / 5 * 5+j % 5 by omega,hr',<-hj];have:j % 5<5:=Nat.mod_lt _ (by decide);generalize j % 5=q at this ⊢;match q,this with
 | 0,_=>rfl
 | 1,_=>rfl
 | 2,_=>rfl
 | 3,_=>rfl
 | 4,_=>rfl
theorem AQ (n:Nat) (Z:Nat->Nat->Int):∀ u ∈ (List.range n).flatMap (aP Z),u.oneCell'=true:=by
 intro u hu;obtain ⟨k,_,hk⟩:=List.mem_flatMap.1 hu;simp [aP] at hk;rcases hk with rfl | rfl | rfl | rfl | rfl <;> rfl
theorem lG (n:Nat) (Z:Nat->Nat->Int):((List.range n).flatMap (P8.eight Z)).length=n * 8:=by
 induction n with
 | zero=>simp
 | succ n ih=>rw [List.range_succ,List.flatMap_append,List.length_append,ih];simp [P8.eight,Nat.succ_mul]
theorem lS {w:World} {b o n:Nat} {Z:Nat->Nat->Int} (hr:∀ k j,k<n->j<8->w.cell? (zA b (o+k * 8+j))=some (zI (Z k j))):∀ j u,((List.range n).flatMap (P8.eight Z))[j]? = some u->w.cell? (((zA b o):Addr).add j)=some u:=by
 intro j u hj;have hlt:j<n * 8:=by
  have:=(List.getElem?_eq_some_iff.1 hj).1;rw [lG] at this;exact this
 rw [flat_get (P8.eight Z) (fun _=>rfl) (by decide) n j hlt] at hj;have hq:j / 8<n:=Nat.div_lt_of_lt_mul (by omega);have hr':=hr (j / 8) (j % 8) hq (Nat.mod_lt _ (by decide));rw [iR,show o+j=o+j / 8 * 8+j % 8 by omega,hr',<-hj];have:j % 8<8:=Nat.mod_lt _ (by decide);generalize j % 8=q at this ⊢;match q,this with
 | 0,_=>rfl
 | 1,_=>rfl
 | 2,_=>rfl
 | 3,_=>rfl
 | 4,_=>rfl
 | 5,_=>rfl
 | 6,_=>rfl
 | 7,_=>rfl
theorem sK (n:Nat) (Z:Nat->Nat->Int):∀ u ∈ (List.range n).flatMap (P8.eight Z),u.oneCell'=true:=by
 intro u hu;obtain ⟨k,_,hk⟩:=List.mem_flatMap.1 hu;simp [P8.eight] at hk;rcases hk with rfl | rfl | rfl | rfl | rfl | rfl | rfl | rfl <;> rfl
theorem kS (n:Nat) (X:Nat->Int):((List.range n).flatMap (one1 X)).length=n * 1:=by
 induction n with
 | zero=>simp
 | succ n ih=>rw [List.range_succ,List.flatMap_append,List.length_append,ih];simp [one1,Nat.succ_mul]
theorem ku {w:World} {b o n:Nat} {X:Nat->Int} (hr:∀ k,k<n->w.cell? (zA b (o+k))=some (zI (X k))):∀ j u,((List.range n).flatMap (one1 X))[j]? = some u->w.cell? (((zA b o):Addr).add j)=some u:=by
 intro j u hj;have hlt:j<n * 1:=by
  have:=(List.getElem?_eq_some_iff.1 hj).1;rw [kS] at this;exact this
 rw [flat_get (m:=1) (one1 X) (fun _=>rfl) (by decide) n j hlt,Nat.div_one,Nat.mod_one] at hj;rw [iR,hr j (by omega),<-hj];rfl
theorem ng (n:Nat) (X:Nat->Int):∀ u ∈ (List.range n).flatMap (one1 X),u.oneCell'=true:=by
 intro u hu;obtain ⟨k,_,hk⟩:=List.mem_flatMap.1 hu;simp [one1] at hk;subst hk;rfl
theorem jL {lo hi:Nat} {w:World} {V:CV} {vW vX vI:Value} {gW gO gX gI cO:Nat} {sl:Nat->Value} {xs:Nat->Nat} (rW:RW lo hi w vW V.nW V.W gW) (hO1:lo<=gO) (hO2:gO<hi) (hhi:hi<=w.heap.size)
 (rO:∀ k,k<V.nO->w.cell? (zA gO k)=some (sl k)/\RP lo hi w (sl k) (V.N k) (V.O k) (xs k)) (rX:RI lo hi w vX V.nX V.X gX) (rI:RI lo hi w vI V.nI V.I gI)
 (d1:V.nW≠0->gW≠gO) (d2:V.nW≠0->V.nX≠0->gW≠gX) (d3:V.nW≠0->V.nI≠0->gW≠gI) (d4:V.nX≠0->gO≠gX) (d5:V.nI≠0->gO≠gI) (d6:V.nX≠0->V.nI≠0->gX≠gI)
 (hx:∀ k,k<V.nO->V.N k≠0->(V.nW≠0->xs k≠gW)/\xs k≠gO/\(V.nX≠0->xs k≠gX)/\(V.nI≠0->xs k≠gI)) (hxx:∀ i j,i<j->j<V.nO->V.N i≠0->V.N j≠0->xs i≠xs j) :
 aV lo hi w (.agg #[zI V.c,vW,zI V.g,zS gO V.nO cO,vX,vI]) V:=by
 obtain ⟨pW,rW',cW⟩:=rW.pick hi;obtain ⟨pX,rX',cX⟩:=rX.pick (hi+1);obtain ⟨pI,rI',cI⟩:=rI.pick (hi+2);refine ⟨vW,_,vX,vI,pW,gO,pX,pI,sl,fun k=>if V.N k=0 then hi+3+k else xs k,rfl,rW',.inr ⟨cO,rfl,hO1,hO2,hhi,fun k hk=>⟨(rO k hk).1,((rO k hk).2.pick (hi+3+k)).1⟩⟩,rX',rI',?_,fun k hk=>?_,fun i j hi' hj' hne=>?_⟩
 ·refine ⟨?_,?_,?_,?_,?_,?_⟩
  ·rcases cW with ⟨_,rfl⟩ | ⟨e,rfl,_⟩
   ·omega
   have:=d1 e;omega
  ·rcases cW with ⟨_,rfl⟩ | ⟨e,rfl,_⟩ <;> rcases cX with ⟨_,rfl⟩ | ⟨e2,rfl,_⟩ <;> first | omega | exact d2 e e2
  ·rcases cW with ⟨_,rfl⟩ | ⟨e,rfl,_⟩ <;> rcases cI with ⟨_,rfl⟩ | ⟨e2,rfl,_⟩ <;> first | omega | exact d3 e e2
  ·rcases cX with ⟨_,rfl⟩ | ⟨e2,rfl,_⟩ <;> first | omega | (have:=d4 e2;omega)
  ·rcases cI with ⟨_,rfl⟩ | ⟨e2,rfl,_⟩ <;> first | omega | (have:=d5 e2;omega)
  rcases cX with ⟨_,rfl⟩ | ⟨e,rfl,_⟩ <;> rcases cI with ⟨_,rfl⟩ | ⟨e2,rfl,_⟩ <;> first | omega | (have:=d6 e e2;omega)
 ·have hb:=((rO k hk).2.pick (hi+3+k)).2;dsimp only;by_cases e0:V.N k=0
  ·rw [if_pos e0];refine ⟨?_,by omega,?_,?_⟩
   ·rcases cW with ⟨_,rfl⟩ | ⟨e,rfl,_⟩ <;> omega
   ·rcases cX with ⟨_,rfl⟩ | ⟨e,rfl,_⟩ <;> omega
   rcases cI with ⟨_,rfl⟩ | ⟨e,rfl,_⟩ <;> omega
  rw [if_neg e0];have h1:=hb e0;obtain ⟨h1b,h2,h3,h4⟩:=hx k hk e0;refine ⟨?_,by omega,?_,?_⟩
  ·rcases cW with ⟨_,rfl⟩ | ⟨e,rfl,_⟩ <;> first | omega | exact h1b e
  ·rcases cX with ⟨_,rfl⟩ | ⟨e,rfl,_⟩ <;> first | omega | (have:=h3 e;omega)
  rcases cI with ⟨_,rfl⟩ | ⟨e,rfl,_⟩ <;> first | omega | (have:=h4 e;omega)
 have b1:=((rO i hi').2.pick (hi+3+i)).2;have b2:=((rO j hj').2.pick (hi+3+j)).2;dsimp only;by_cases e1:V.N i=0
 ·rw [if_pos e1];by_cases e2:V.N j=0
  ·rw [if_pos e2];omega
  rw [if_neg e2];have:=b2 e2;omega
 rw [if_neg e1];have:=b1 e1;by_cases e2:V.N j=0
 ·rw [if_pos e2];omega
 rw [if_neg e2];rcases Nat.lt_or_gt_of_ne hne with h | h
 ·have:=hxx i j h hj' e1 e2;omega
 have:=hxx j i h hi' e2 e1;omega
set_option maxHeartbeats 1000000 in
theorem rC (b o n cap:Nat) (Z:Nat->Nat->Int) (hn:n<=1048576) (w:World) (hb:b<w.heap.size) (hr:∀ k j,k<n->j<5->w.cell? (zA b (o+k * 5+j))=some (zI (Z k j))) :
 Hz 102 #[.slice (some (zA b o)) n cap] w fun e w'=>(∃ v,e=.returned v/\w'.ownsRow w.heap.size 67 5 v n ((List.range n).flatMap (aP Z)))/\Below w.heap.size w w':=by
 have kb:Below w.heap.size w (w.alloc (.cells #[] 67)):=(Hr _ _).alloc (Ho _) _;have HC:bY (∀ j u,((List.range n).flatMap (aP Z))[j]? = some u->(w.alloc (.cells #[] 67)).cell? (((zA b o):Addr).add j)=some u):=vK (fun k j a1 a2=>(kb.cell (p:=⟨b,_,none⟩) hb).trans (hr k j a1 a2));have H1:bY (∀ u ∈ (List.range n).flatMap (aP Z),u.oneCell'=true):=AQ n Z;have HL:bY (((List.range n).flatMap (aP Z)).length=n * 5):=uj n Z;have KB:bY (Below w.heap.size w (w.alloc (.cells #[] 67))):=kb;clear hr kb;obtain ⟨i5,hi5,hzz⟩:=Option.map_eq_some_iff.1 Tryz.Jl;simp only [Prod.mk.injEq] at hzz;obtain ⟨hz50,hz51,hz52⟩:=hzz;go_enter Tryz.func102,Tryz.ntmps102;go_wp2_with (at_builtin;refine wpList_append_own _ rfl _ _ 33 rfl w.heap.size 67 i5 (.agg z5.toArray) 5 40 Tryz.underlying33 hi5 hz50 hz51 hz52 rfl (by decide) _ 0 [] rfl (World.ownsRow_lit w #[] 0 (Ho _) (by simp) (by simp)) (zA b o) n cap ((List.range n).flatMap (aP Z)) rfl HL.o HC.o H1.o (by unfold maxLen;omega) (by omega) (by simp) ?_);intro v' w2 hown hg hnil;have hb2:Below w.heap.size w w2:=KB.o.grown hg (by simp) (fun kk e=>by cases e;exact Ho _);have HO:bY (w2.ownsRow w.heap.size 67 5 v' n ((List.range n).flatMap (aP Z))):=by unfold bY;simpa using hown
 clear hown hg hnil;go_wp2;go_ret;exact ⟨⟨_,rfl,HO.o⟩,hb2⟩
theorem RP.zero {lo hi lo' hi':Nat} {w w':World} {v:Value} {n:Nat} {Z:Nat->Nat->Int} {g:Nat} (h:RP lo hi w v n Z g) (e:n=0):RP lo' hi' w' v n Z g:=by
 rcases h with ⟨_,a,c,h⟩ | ⟨c,h,_⟩
 ·exact .inl ⟨e,a,c,h⟩
 exact .inl ⟨e,_,c,by rw [h,e]⟩
theorem RP.shape {lo hi:Nat} {w:World} {v:Value} {n:Nat} {Z:Nat->Nat->Int} {g:Nat} (h:RP lo hi w v n Z g):∃ a l c,v=.slice a l c:=by
 rcases h with ⟨_,a,c,h⟩ | ⟨c,h,_⟩
 ·exact ⟨_,_,_,h⟩
 exact ⟨_,_,_,h⟩
theorem own_ne {w:World} {base k:Nat} {s:Value} {sl:Nat->Value} (h:w.ownsRow base 127 1 s k ((List.range k).map sl)) (hk:0<k) (hs:∃ a l c,sl 0=.slice a l c) {lo hi:Nat} {v:Value} {n:Nat} {Z:Nat->Nat->Int} {g:Nat} (r:RP lo hi w v n Z g) (hn:n≠0):s.ownBlock≠some g:=by
 intro e;obtain ⟨a,l,c,hsl⟩:=hs;have h0:=h.cells e 0 (sl 0) (by rw [List.getElem?_map,List.getElem?_range hk];rfl);rcases r with ⟨r,_⟩ | ⟨_,_,_,_,_,r⟩
 ·exact absurd r hn
 have h1:=r.2 0 0 (by omega) (by omega);rw [iR,Nat.add_zero] at h0;rw [show 0 * 8+0=0 from rfl,h0,hsl] at h1;cases h1
theorem su {α:Type} (k:Nat) (sl:Nat->α) (x:α):(List.range (k+1)).map (fun j=>if j=k then x else sl j)=(List.range k).map sl++[x]:=by
 rw [List.range_succ,List.map_append,List.map_cons,List.map_nil,if_pos rfl];congr 1;apply List.map_congr_left;intro j hj;rw [if_neg (by have:=List.mem_range.1 hj;omega)]
theorem jT.zero {lo hi lo' hi':Nat} {w w':World} {v:Value} {n:Nat} {Z:Nat->Nat->Int} {g:Nat} (h:jT lo hi w v n Z g) (e:n=0):jT lo' hi' w' v n Z g:=⟨h.1.zero e,h.2.1,fun _ _ _ hn=>absurd e hn⟩
theorem jr {P:Program} {w:World} {ops:Array Oper} {rest:List Oper} {o:Oper} {a:Act} {Q:Exit->Act->World->Prop} (hgd:o.guard=none) (s x:Operand) (t:TypeId)
 (ho:o.op=.call { callee:=.builtin .append,args:=#[s,x],argTypes:=#[t,t] })
 (base:Nat) (e:TypeId) (i:TypeInfo) (z:Value) (size bytes:Nat) (ht:P.underlying t=some (.slice e)) (hi:P.info? e=some i) (hz:i.zero=some z)
 (hsize:i.size=size) (hby:i.bytes=bytes) (hzs:z.cells.size=size) (hsz:0<size)
 (v:Value) (n:Nat) (xs:List Value) (hs:a.eval s=v) (hown:w.ownsRow base e size v n xs)
 (ad:Addr) (m c:Nat) (news:List Value) (hx:a.eval x=.slice (some ad) m c) (hl:news.length=m * size) (hnews:∀ j u,news[j]? = some u->w.cell? (ad.add j)=some u) (h1:∀ u ∈ news,u.oneCell'=true)
 (h63:n+m<=maxLen) (hbytes:(n+m) * bytes<=140737488355328) (hbase:base<=w.heap.size)
 (h:∀ v' w',w'.ownsRow base e size v' (n+m) (xs++news)->w.grownBy w' v.ownBlock->(m=0->v'=v)->wpList P ops Q rest (a.put o.dst v') w'):wpList P ops Q (o :: rest) a w:=by
 by_cases hm:m=0
 ·subst hm;have hl0:news=[]:=List.length_eq_zero_iff.1 (by simpa using hl);subst hl0;have hr:(Builtin.append_ #[t,t] o.type #[v,.slice (some ad) 0 c]).run P w=.ok v w:=by
   have hf:=run_firstCells_some (P:=P) w i.size 0 ad 0 c [] (by simp) hnews;rcases hown.2 with ⟨e1,_⟩ | ⟨g,cap,cur,e1,_,_,hc,_⟩
   ·subst e1;simp [Builtin.append_,run_underlying ht,sizeOf,typeInfo,hi,Builtin.lenOf,hf]
   subst e1;simp [Builtin.append_,run_underlying ht,sizeOf,typeInfo,hi,Builtin.lenOf,hf,hc,storeCells]
  refine wpList_plain hgd fun K hK=>?_;unfold Oper.wp execOp;simp only [ho,resolve,invoke,builtin,Sem.run_bind,Sem.run_pure,Result.andThen_ok,List.map_toArray,List.map_cons,List.map_nil,hs,hx,hr];exact hK _ _ (h v w (by simpa using hown) ⟨rfl,rfl,rfl,Ho _,fun _ _ _=>rfl⟩ (fun _=>rfl))
 exact wpList_append_own w hgd s x t ho base e i z size bytes ht hi hz hsize hby hzs hsz v n xs hs hown ad m c news hx hl hnews h1 h63 hbytes hbase (fun v' w' h2 h3 _=>h v' w' h2 h3 (fun e=>absurd e hm))
theorem Eu {c d next:Int} {m:Nat} {Z:Nat->Nat->Int} {n:Nat} (h:P8.jP c d next m Z n=true):∀ k,k<n->Z k 0=next - m+k:=fun k hk=>by
 cases e:P8.fV c d next m Z k
 ·rw [P8.kT hk e] at h
  cases h
 simp [P8.fV] at e
 exact e.2
theorem Cf {c d next:Int} {n:Nat} {Z:Nat->Nat->Int} (h:P8.eP c d next n Z=true):(n:Int)<=next/\∀ k,k<n->Z k 0=next - n+k:=by
 simp only [P8.eP,Bool.and_eq_true,decide_eq_true_eq] at h;exact ⟨h.2.2.1,Eu h.2.2.2⟩
theorem Ci {Z:Nat->Nat->Int} {n:Nat} {z next:Int} (h:∀ k,k<n->Z k 0=next - n+k):(P8.rest Z n z).length=n↔n=0∨z<=next - n:=by
 have e:(P8.rest Z n z).length=n↔∀ k ∈ List.range n,decide (z<=Z k 0)=true:=by
  have:=List.length_filter_eq_length_iff (p:=fun k=>decide (z<=Z k 0)) (l:=List.range n);rw [List.length_range] at this;exact this
 rw [e];constructor
 ·intro q;by_cases h0:n=0
  ·exact .inl h0
  have:=q 0 (List.mem_range.2 (by omega));rw [h 0 (by omega)] at this;simp at this;exact .inr this
 intro q k hk;have hk:=List.mem_range.1 hk;rw [h k hk];rcases q with q | q
 ·omega
 simp;omega
theorem DV {Z:Nat->Nat->Int} {n:Nat} {z next:Int} (h:∀ k,k<n->Z k 0=next - n+k) (hz:¬ z > next):((P8.rest Z n z).length=n)↔z<=next - n:=by
 rw [Ci h];constructor
 ·rintro (q | q)
  ·subst q;simp;omega
  exact q
 exact .inr
def CV.sZ (V:CV) (s:Nat) (z:Int):CV :=
 { V with N:=fun k=>if k=s then (P8.rest (V.O s) (V.N s) z).length else V.N k,O:=fun k=>if k=s then fun i j=>V.O s (P8.rest (V.O s) (V.N s) z)[i]! j else V.O k }
def jk (V:CV) (q:Nat) (z:Int):Bool:=!(decide (V.X q<z) || decide ((P8.rest (V.O q) (V.N q) z).length=V.N q))
def CV.after (V:CV) (q:Nat) (z:Int):CV:=if jk V q z then V.sZ q z else V
theorem RW.go {lo hi lo' hi':Nat} {w w':World} {v:Value} {n:Nat} {Z:Nat->Nat->Int} {g:Nat} (h:RW lo hi w v n Z g) (h0:lo'<=lo) (h1:hi<=hi') (h2:hi'<=w'.heap.size) (k:n≠0->lo<=g->g<hi->Sm w w' g):RW lo' hi' w' v n Z g:=by
 by_cases e:n=0
 ·rcases h with h | ⟨c,a1,_⟩
  ·exact .inl h
  exact .inl ⟨e,_,c,by rw [a1,e]⟩
 rcases h with h | ⟨c,a1,a2,a3,a4,a5⟩
 ·exact absurd h.1 e
 exact .inr ⟨c,a1,by omega,by omega,h2,uY a5 (k e a2 a3)⟩
theorem RW.in {lo hi:Nat} {w:World} {v:Value} {n:Nat} {Z:Nat->Nat->Int} {g:Nat} (h:RW lo hi w v n Z g) (e:n≠0):lo<=g/\g<hi:=by
 rcases h with h | ⟨c,a1,a2,a3,_⟩
 ·exact absurd h.1 e
 exact ⟨a2,a3⟩
theorem RW.is {lo hi:Nat} {w:World} {v:Value} {n:Nat} {Z:Nat->Nat->Int} {g:Nat} (h:RW lo hi w v n Z g):∃ a c,v=.slice a n c/\(n≠0->a=some (zA g 0)):=by
 rcases h with ⟨e,a,c,h⟩ | ⟨c,h,_⟩
 ·exact ⟨a,c,by rw [h,e],fun h=>absurd e h⟩
 exact ⟨_,c,h,fun _=>rfl⟩
theorem RP.go {lo hi lo' hi':Nat} {w w':World} {v:Value} {n:Nat} {Z:Nat->Nat->Int} {g:Nat} (h:RP lo hi w v n Z g) (h0:lo'<=lo) (h1:hi<=hi') (h2:hi'<=w'.heap.size) (k:n≠0->lo<=g->g<hi->Sm w w' g):RP lo' hi' w' v n Z g:=by
 by_cases e:n=0
 ·rcases h with h | ⟨c,a1,_⟩
  ·exact .inl h
  exact .inl ⟨e,_,c,by rw [a1,e]⟩
 rcases h with h | ⟨c,a1,a2,a3,a4,a5⟩
 ·exact absurd h.1 e
 exact .inr ⟨c,a1,by omega,by omega,h2,nK a5 (k e a2 a3)⟩
theorem RP.in {lo hi:Nat} {w:World} {v:Value} {n:Nat} {Z:Nat->Nat->Int} {g:Nat} (h:RP lo hi w v n Z g) (e:n≠0):lo<=g/\g<hi:=by
 rcases h with h | ⟨c,a1,a2,a3,_⟩
 ·exact absurd h.1 e
 exact ⟨a2,a3⟩
theorem RP.is {lo hi:Nat} {w:World} {v:Value} {n:Nat} {Z:Nat->Nat->Int} {g:Nat} (h:RP lo hi w v n Z g):∃ a c,v=.slice a n c/\(n≠0->a=some (zA g 0)):=by
 rcases h with ⟨e,a,c,h⟩ | ⟨c,h,_⟩
 ·exact ⟨a,c,by rw [h,e],fun h=>absurd e h⟩
 exact ⟨_,c,h,fun _=>rfl⟩
theorem jT.go {lo hi lo' hi':Nat} {w w':World} {v:Value} {n:Nat} {Z:Nat->Nat->Int} {g:Nat} (h:jT lo hi w v n Z g) (h0:lo'<=lo) (h1:hi<=hi') (h2:hi'<=w'.heap.size) (k:n≠0->lo<=g->g<hi->Sm w w' g):jT lo' hi' w' v n Z g :=
 ⟨h.1.go h0 h1 h2 k,h.2.sm h0 h1 (fun g' c e hn a b=>by have e2:=h.1.blk hn e;subst e2;exact k hn a b)⟩
theorem jT.in {lo hi:Nat} {w:World} {v:Value} {n:Nat} {Z:Nat->Nat->Int} {g:Nat} (h:jT lo hi w v n Z g) (e:n≠0):lo<=g/\g<hi:=h.1.in e
theorem jT.is {lo hi:Nat} {w:World} {v:Value} {n:Nat} {Z:Nat->Nat->Int} {g:Nat} (h:jT lo hi w v n Z g):∃ a c,v=.slice a n c/\(n≠0->a=some (zA g 0)):=h.1.is
theorem RI.go {lo hi lo' hi':Nat} {w w':World} {v:Value} {n:Nat} {Z:Nat->Int} {g:Nat} (h:RI lo hi w v n Z g) (h0:lo'<=lo) (h1:hi<=hi') (h2:hi'<=w'.heap.size) (k:n≠0->lo<=g->g<hi->Sm w w' g):RI lo' hi' w' v n Z g:=by
 by_cases e:n=0
 ·rcases h with h | ⟨c,a1,_⟩
  ·exact .inl h
  exact .inl ⟨e,_,c,by rw [a1,e]⟩
 rcases h with h | ⟨c,a1,a2,a3,a4,a5⟩
 ·exact absurd h.1 e
 exact .inr ⟨c,a1,by omega,by omega,h2,qZ a5 (k e a2 a3)⟩
theorem RI.in {lo hi:Nat} {w:World} {v:Value} {n:Nat} {Z:Nat->Int} {g:Nat} (h:RI lo hi w v n Z g) (e:n≠0):lo<=g/\g<hi:=by
 rcases h with h | ⟨c,a1,a2,a3,_⟩
 ·exact absurd h.1 e
 exact ⟨a2,a3⟩
theorem RI.is {lo hi:Nat} {w:World} {v:Value} {n:Nat} {Z:Nat->Int} {g:Nat} (h:RI lo hi w v n Z g):∃ a c,v=.slice a n c/\(n≠0->a=some (zA g 0)):=by
 rcases h with ⟨e,a,c,h⟩ | ⟨c,h,_⟩
 ·exact ⟨a,c,by rw [h,e],fun h=>absurd e h⟩
 exact ⟨_,c,h,fun _=>rfl⟩
/-- A scene's bound: it lies from block l on, and not within k0 .. k1. -/
structure Lo where
 l:Nat
 k0:Nat
 k1:Nat
structure KK (lo:Lo) (w:World) (s b gW gO gX gI nW nX nI nO:Nat) (N xs:Nat->Nat):Prop where
 k:lo.k0<=lo.k1/\lo.k1<=w.heap.size
 s:s<lo.k0∨lo.k1<=s
 b:b<lo.k0∨lo.k1<=b
 O:gO<lo.k0∨lo.k1<=gO
 W:nW≠0->gW<lo.k0∨lo.k1<=gW
 X:nX≠0->gX<lo.k0∨lo.k1<=gX
 I:nI≠0->gI<lo.k0∨lo.k1<=gI
 x:∀ k,k<nO->N k≠0->xs k<lo.k0∨lo.k1<=xs k
theorem KK.up {lo:Lo} {w w':World} {s b gW gO gX gI nW nX nI nO:Nat} {N xs:Nat->Nat} (h:KK lo w s b gW gO gX gI nW nX nI nO N xs) (hz:w.heap.size<=w'.heap.size):KK lo w' s b gW gO gX gI nW nX nI nO N xs:=⟨⟨h.k.1,Hq h.k.2 hz⟩,h.s,h.b,h.O,h.W,h.X,h.I,h.x⟩
def Sc (w:World) (c d:Int) (s b:Nat) (lo:Lo) (V:CV) (n:Nat) (M:Int->Option (Nat->Int)):Prop :=
 ∃ (aW:Option Addr) (kW kO:Nat) (aX:Option Addr) (kX:Nat) (aI:Option Addr) (kI gW gO gX gI:Nat) (sl:Nat->Value) (xs:Nat->Nat),
  qH w s [zI c,zI d,zI V.c,.slice aW V.nW kW,zI V.g,zS gO V.nO kO,.slice aX V.nX kX,.slice aI V.nI kI,.map (some b)]/\RW lo.l w.heap.size w (.slice aW V.nW kW) V.nW V.W gW/\RI lo.l w.heap.size w (.slice aX V.nX kX) V.nX V.X gX/\RI lo.l w.heap.size w (.slice aI V.nI kI) V.nI V.I gI /\
  (∀ k,k<V.nO->w.cell? (zA gO k)=some (sl k)/\w.frozen? (zA gO k)=false/\jT lo.l w.heap.size w (sl k) (V.N k) (V.O k) (xs k))/\Wm w b n M /\
  (lo.l<=gO/\gO<w.heap.size/\lo.l<=s/\s<w.heap.size/\lo.l<=b/\¬ s=b/\¬ gO=s/\¬ gO=b) /\
  ((V.nW≠0->¬ gW=s/\¬ gW=b/\¬ gW=gO)/\(V.nX≠0->¬ gX=s/\¬ gX=b/\¬ gO=gX)/\(V.nI≠0->¬ gI=s/\¬ gI=b/\¬ gO=gI)/\(V.nW≠0->V.nX≠0->¬ gW=gX)/\(V.nW≠0->V.nI≠0->¬ gW=gI)/\(V.nX≠0->V.nI≠0->¬ gX=gI)) /\
  (∀ k,k<V.nO->V.N k≠0->(¬ xs k=s/\¬ xs k=b/\¬ xs k=gO)/\(V.nW≠0->¬ xs k=gW)/\(V.nX≠0->¬ xs k=gX)/\(V.nI≠0->¬ xs k=gI)) /\
  (∀ i j,i<j->j<V.nO->V.N i≠0->V.N j≠0->¬ xs i=xs j)/\KK lo w s b gW gO gX gI V.nW V.nX V.nI V.nO V.N xs
theorem Sc.kk {w:World} {c d:Int} {s b:Nat} {lo:Lo} {V:CV} {n:Nat} {M:Int->Option (Nat->Int)} (h:Sc w c d s b lo V n M):lo.k1<=w.heap.size:=by
 obtain ⟨aW,kW,kO,aX,kX,aI,kI,gW,gO,gX,gI,sl,xs,_,_,_,_,_,_,_,_,_,_,hkk⟩:=h;exact hkk.k.2
theorem He.sc {w:World} {c d:Int} {s b lc hc lo:Nat} {V:CV} {n:Nat} {M:Int->Option (Nat->Int)} (h:He w c d s b lc hc V n M) (h0:V.nO≠0) (h1:lo<=lc) (h2:lo<=s) (h3:lo<=b):Sc w c d s b ⟨lo,w.heap.size,w.heap.size⟩ V n M:=by
 obtain ⟨⟨aW,kW,aO,kO,aX,kX,aI,kI,hN,hO,hT⟩,hM,hsw,hsb,hlh,hhw,hbo,hso⟩:=h;obtain ⟨vW,vO,vX,vI,gW,gO,gX,gI,sl,xs,e,rW,rO,rX,rI,hd,hx1,hx2⟩:=hO;obtain ⟨rfl,rfl,rfl,rfl⟩:=kV e;rcases rO with ⟨e0,_⟩ | ⟨co,e1,l1,l2,_,hc1⟩
 ·exact absurd e0 h0
 simp only [Value.slice.injEq,true_and] at e1;obtain ⟨rfl,rfl⟩:=e1;obtain ⟨t1,t2,t3,t4⟩:=hT _ _ _ gO V.nO kO _ _ rfl;have sm:∀ g,Sm w w g:=fun g=>Sm.refl w g;refine ⟨aW,kW,kO,aX,kX,aI,kI,gW,gO,gX,gI,sl,xs,hN,rW.go h1 hhw (Ho _) (fun _ _ _=>sm _),rX.go h1 hhw (Ho _) (fun _ _ _=>sm _),rI.go h1 hhw (Ho _) (fun _ _ _=>sm _),fun k hk=>⟨(hc1 k hk).1,t3 k hk,jT.go ⟨(hc1 k hk).2,by obtain ⟨a2,c2,e2⟩:=(hc1 k hk).2.shape';exact t4 k _ a2 (V.N k) c2 hk (hc1 k hk).1 e2⟩ h1 hhw (Ho _) (fun _ _ _=>sm _)⟩,hM,⟨by show lo<=gO;omega,by omega,h2,hsw,h3,hsb,by omega,by omega⟩,⟨fun e=>?_,fun e=>?_,fun e=>?_,fun _ _=>hd.2.1,fun _ _=>hd.2.2.1,fun _ _=>hd.2.2.2.2.2⟩,fun k hk e=>?_,fun i j hij hj _ _=>hx2 i j (by omega) hj (by omega),?_⟩
 ·have:=rW.in e;exact ⟨by omega,by omega,hd.1⟩
 ·have:=rX.in e;exact ⟨by omega,by omega,hd.2.2.2.1⟩
 ·have:=rI.in e;exact ⟨by omega,by omega,hd.2.2.2.2.1⟩
 ·have:=(hc1 k hk).2.in e;have h:=hx1 k hk;exact ⟨⟨by omega,by omega,h.2.1⟩,fun _=>h.1,fun _=>h.2.2.1,fun _=>h.2.2.2⟩
 exact ⟨⟨Ho _,Ho _⟩,.inl hsw,.inl hM.lt,.inl (by show gO<w.heap.size;omega),fun e=>.inl (by have:=rW.in e;show gW<w.heap.size;omega),fun e=>.inl (by have:=rX.in e;show gX<w.heap.size;omega),fun e=>.inl (by have:=rI.in e;show gI<w.heap.size;omega),fun k hk e=>.inl (by have:=(hc1 k hk).2.in e;show xs k<w.heap.size;omega)⟩
theorem qH.sm {w w':World} {s:Nat} {l:List Value} (h:qH w s l) (k:Sm w w' s):qH w' s l:=fun i hi=>by rw [(k i).1,(k i).2];exact h i hi
theorem Sc.q {w w':World} {c d:Int} {s b:Nat} {lo:Lo} {V:CV} {n:Nat} {M:Int->Option (Nat->Int)} (h:Sc w c d s b lo V n M) (hb:Below w.heap.size w w'):Sc w' c d s b lo V n M:=by
 obtain ⟨aW,kW,kO,aX,kX,aI,kI,gW,gO,gX,gI,sl,xs,hN,rW,rX,rI,hO,hM,⟨l1,l2,l3,l4,l5,l6,l7,l8⟩,hd,hx1,hx2,hkk⟩:=h;have hz:=hb.size
 exact ⟨aW,kW,kO,aX,kX,aI,kI,gW,gO,gX,gI,sl,xs,hN.sm (aj hb l4),rW.go (Ho _) hz (Ho _) (fun _ _ h=>aj hb h),rX.go (Ho _) hz (Ho _) (fun _ _ h=>aj hb h),rI.go (Ho _) hz (Ho _) (fun _ _ h=>aj hb h),
  fun k hk=>⟨(aj hb l2 k).1.trans (hO k hk).1,(aj hb l2 k).2.trans (hO k hk).2.1,(hO k hk).2.2.go (Ho _) hz (Ho _) (fun _ _ h=>aj hb h)⟩,hM.q hM.lt hb,⟨l1,by omega,l3,by omega,l5,l6,l7,l8⟩,hd,hx1,hx2,hkk.up hz⟩
theorem Sc.reach {w w':World} {c d:Int} {s b l:Nat} {V:CV} {n:Nat} {M:Int->Option (Nat->Int)} (h:Sc w c d s b ⟨l,w.heap.size,w.heap.size⟩ V n M) (hb:Below w.heap.size w w'):Sc w' c d s b ⟨l,w.heap.size,w'.heap.size⟩ V n M:=by
 obtain ⟨aW,kW,kO,aX,kX,aI,kI,gW,gO,gX,gI,sl,xs,hN,rW,rX,rI,hO,hM,⟨l1,l2,l3,l4,l5,l6,l7,l8⟩,hd,hx1,hx2,hkk⟩:=h;have hz:=hb.size
 exact ⟨aW,kW,kO,aX,kX,aI,kI,gW,gO,gX,gI,sl,xs,hN.sm (aj hb l4),rW.go (Ho _) hz (Ho _) (fun _ _ h=>aj hb h),rX.go (Ho _) hz (Ho _) (fun _ _ h=>aj hb h),rI.go (Ho _) hz (Ho _) (fun _ _ h=>aj hb h),
  fun k hk=>⟨(aj hb l2 k).1.trans (hO k hk).1,(aj hb l2 k).2.trans (hO k hk).2.1,(hO k hk).2.2.go (Ho _) hz (Ho _) (fun _ _ h=>aj hb h)⟩,hM.q hM.lt hb,⟨l1,by omega,l3,by omega,l5,l6,l7,l8⟩,hd,hx1,hx2,⟨hz,Ho _⟩,.inl l4,.inl hM.lt,.inl l2,fun e=>.inl (rW.in e).2,fun e=>.inl (rX.in e).2,fun e=>.inl (rI.in e).2,fun k hk e=>.inl ((hO k hk).2.2.in e).2⟩
end Go.Proofs.YtngaboipleimcabGreatDoor
namespace Go.Proofs
open Go.Shelf
def Tryz.keysA_ren:Go.Shelf.Ren:=⟨fun | 7=>117 | 10=>140 | n=>n,fun | 23=>133 | 26=>3 | 3=>67 | 28=>162 | 0=>0 | 27=>161 | 33=>83 | 4=>4 | n=>n,fun | n=>n⟩
theorem Tryz.keysA:Go.Proofs.SlLaysZI.n7 Tryz.prog Tryz.keysA_ren:={
 mixed:=by kernel_rfl
 f7:=⟨Tryz.f117.name,by decide,Tryz.func117.trans (congrArg some (by kernel_rfl))⟩
 f10:=⟨Tryz.f140.name,by decide,Tryz.func140.trans (congrArg some (by kernel_rfl))⟩
 t0:=Tryz.underlying0
 a0:=Tryz.isAgg0
 z0:=Tryz.sizeOf0
 v0:=Tryz.zeroValue0
 t4:=Tryz.underlying4
 a4:=Tryz.isAgg4
 z4:=Tryz.sizeOf4
 v4:=Tryz.zeroValue4
 t23:=Tryz.underlying133
 a23:=Tryz.isAgg133
 z23:=Tryz.sizeOf133
 v23:=Tryz.zeroValue133
 t26:=Tryz.underlying3
 a26:=Tryz.isAgg3
 z26:=Tryz.sizeOf3
 v26:=Tryz.zeroValue3
 t27:=Tryz.underlying161
 a27:=Tryz.isAgg161
 z27:=Tryz.sizeOf161
 v27:=Tryz.zeroValue161
 t28:=Tryz.underlying162
 a28:=Tryz.isAgg162
 z28:=Tryz.sizeOf162
 v28:=Tryz.zeroValue162
 t33:=Tryz.underlying83
 a33:=Tryz.isAgg83
 z33:=Tryz.sizeOf83
 v33:=Tryz.zeroValue83 }
def Tryz.sortedA_ren:Go.Shelf.Ren:=⟨fun | 6=>116 | 8=>138 | 9=>139 | 11=>158 | 13=>160 | 12=>159 | 23=>181 | 24=>182 | 14=>172 | 15=>173 | 16=>174 | 17=>175 | 18=>176 | 19=>177 | 20=>178 | 21=>179 | 22=>180 | 25=>193 | 26=>194 | 27=>195 | 28=>196 | 29=>197 | 30=>198 | 31=>203 | n=>n,fun | 26=>3 | 28=>162 | 24=>26 | 0=>0 | 3=>3 | 37=>196 | 48=>232 | 50=>234 | 4=>4 | 40=>226 | 39=>225 | 45=>152 | 5=>5 | 9=>9 | 51=>250 | 55=>254 | 57=>270 | 58=>271 | 33=>83 | n=>n,fun | n=>n⟩
theorem Tryz.sortedA:Go.Proofs.SlLaysZI.n6 Tryz.prog Tryz.sortedA_ren:={
 mixed:=by kernel_rfl
 f6:=⟨Tryz.f116.name,by decide,Tryz.func116.trans (congrArg some (by kernel_rfl))⟩
 f8:=⟨Tryz.f138.name,by decide,Tryz.func138.trans (congrArg some (by kernel_rfl))⟩
 f11:=⟨Tryz.f158.name,by decide,Tryz.func158.trans (congrArg some (by kernel_rfl))⟩
 t0:=Tryz.underlying0
 a0:=Tryz.isAgg0
 z0:=Tryz.sizeOf0
 v0:=Tryz.zeroValue0
 t24:=Tryz.underlying26
 a24:=Tryz.isAgg26
 z24:=Tryz.sizeOf26
 v24:=Tryz.zeroValue26
 t26:=Tryz.underlying3
 a26:=Tryz.isAgg3
 z26:=Tryz.sizeOf3
 v26:=Tryz.zeroValue3
 t28:=Tryz.underlying162
 a28:=Tryz.isAgg162
 z28:=Tryz.sizeOf162
 v28:=Tryz.zeroValue162
 i26:=by kernel_rfl }
def Tryz.AB:Go.Shelf.Ren:=⟨fun | 5=>139 | 8=>160 | 7=>159 | 19=>181 | 20=>182 | 10=>172 | 11=>173 | 12=>174 | 13=>175 | 14=>176 | 15=>177 | 16=>178 | 17=>179 | 18=>180 | 30=>193 | 31=>194 | 32=>195 | 33=>196 | 34=>197 | 35=>198 | 40=>203 | n=>n,fun | 23=>26 | 25=>3 | 3=>3 | 32=>196 | 22=>26 | 0=>0 | 44=>232 | 46=>234 | 4=>4 | 36=>226 | 35=>225 | 41=>152 | 5=>5 | 9=>9 | 53=>250 | 57=>254 | 63=>270 | 64=>271 | n=>n,fun | n=>n⟩
theorem Tryz.sortA:Go.Proofs.SlLaysM.n5 Tryz.prog Tryz.AB:={
 mixed:=by kernel_rfl
 f5:=⟨Tryz.f139.name,by decide,Tryz.func139.trans (congrArg some (by kernel_rfl))⟩
 f7:=⟨Tryz.f159.name,by decide,Tryz.func159.trans (congrArg some (by kernel_rfl))⟩
 f8:=Tryz.func160.trans (congrArg some (by kernel_rfl))
 f10:=⟨Tryz.f172.name,by decide,Tryz.func172.trans (congrArg some (by kernel_rfl))⟩
 f11:=⟨Tryz.f173.name,by decide,Tryz.func173.trans (congrArg some (by kernel_rfl))⟩
 f12:=⟨Tryz.f174.name,by decide,Tryz.func174.trans (congrArg some (by kernel_rfl))⟩
 f13:=⟨Tryz.f175.name,by decide,Tryz.func175.trans (congrArg some (by kernel_rfl))⟩
 f14:=⟨Tryz.f176.name,by decide,Tryz.func176.trans (congrArg some (by kernel_rfl))⟩
 f15:=⟨Tryz.f177.name,by decide,Tryz.func177.trans (congrArg some (by kernel_rfl))⟩
 f16:=⟨Tryz.f178.name,by decide,Tryz.func178.trans (congrArg some (by kernel_rfl))⟩
 f17:=⟨Tryz.f179.name,by decide,Tryz.func179.trans (congrArg some (by kernel_rfl))⟩
 f18:=⟨Tryz.f180.name,by decide,Tryz.func180.trans (congrArg some (by kernel_rfl))⟩
 f19:=Tryz.func181.trans (congrArg some (by kernel_rfl))
 f20:=Tryz.func182.trans (congrArg some (by kernel_rfl))
 f30:=⟨Tryz.f193.name,by decide,Tryz.func193.trans (congrArg some (by kernel_rfl))⟩
 f31:=Tryz.func194.trans (congrArg some (by kernel_rfl))
 f32:=Tryz.func195.trans (congrArg some (by kernel_rfl))
 f33:=⟨Tryz.f196.name,by decide,Tryz.func196.trans (congrArg some (by kernel_rfl))⟩
 f34:=⟨Tryz.f197.name,by decide,Tryz.func197.trans (congrArg some (by kernel_rfl))⟩
 f35:=⟨Tryz.f198.name,by decide,Tryz.func198.trans (congrArg some (by kernel_rfl))⟩
 f40:=⟨Tryz.f203.name,by decide,Tryz.func203.trans (congrArg some (by kernel_rfl))⟩
 t0:=Tryz.underlying0
 a0:=Tryz.isAgg0
 z0:=Tryz.sizeOf0
 v0:=Tryz.zeroValue0
 t3:=Tryz.underlying3
 a3:=Tryz.isAgg3
 z3:=Tryz.sizeOf3
 v3:=Tryz.zeroValue3
 t4:=Tryz.underlying4
 a4:=Tryz.isAgg4
 z4:=Tryz.sizeOf4
 v4:=Tryz.zeroValue4
 t5:=Tryz.underlying5
 a5:=Tryz.isAgg5
 z5:=Tryz.sizeOf5
 v5:=Tryz.zeroValue5
 t9:=Tryz.underlying9
 a9:=Tryz.isAgg9
 z9:=Tryz.sizeOf9
 v9:=Tryz.zeroValue9
 t22:=Tryz.underlying26
 a22:=Tryz.isAgg26
 z22:=Tryz.sizeOf26
 v22:=Tryz.zeroValue26
 t23:=Tryz.underlying26
 a23:=Tryz.isAgg26
 z23:=Tryz.sizeOf26
 v23:=Tryz.zeroValue26
 t25:=Tryz.underlying3
 a25:=Tryz.isAgg3
 z25:=Tryz.sizeOf3
 v25:=Tryz.zeroValue3
 t32:=Tryz.underlying196
 a32:=Tryz.isAgg196
 z32:=Tryz.sizeOf196
 v32:=Tryz.zeroValue196
 t35:=Tryz.underlying225
 a35:=Tryz.isAgg225
 z35:=Tryz.sizeOf225
 v35:=Tryz.zeroValue225
 t36:=Tryz.underlying226
 a36:=Tryz.isAgg226
 z36:=Tryz.sizeOf226
 v36:=Tryz.zeroValue226
 t41:=Tryz.underlying152
 a41:=Tryz.isAgg152
 z41:=Tryz.sizeOf152
 v41:=Tryz.zeroValue152
 t44:=Tryz.underlying232
 a44:=Tryz.isAgg232
 z44:=Tryz.sizeOf232
 v44:=Tryz.zeroValue232
 t46:=Tryz.underlying234
 a46:=Tryz.isAgg234
 z46:=Tryz.sizeOf234
 v46:=Tryz.zeroValue234
 t53:=Tryz.underlying250
 a53:=Tryz.isAgg250
 z53:=Tryz.sizeOf250
 v53:=Tryz.zeroValue250
 t57:=Tryz.underlying254
 a57:=Tryz.isAgg254
 z57:=Tryz.sizeOf254
 v57:=Tryz.zeroValue254
 t63:=Tryz.underlying270
 a63:=Tryz.isAgg270
 z63:=Tryz.sizeOf270
 v63:=Tryz.zeroValue270
 t64:=Tryz.underlying271
 a64:=Tryz.isAgg271
 z64:=Tryz.sizeOf271
 v64:=Tryz.zeroValue271 }
