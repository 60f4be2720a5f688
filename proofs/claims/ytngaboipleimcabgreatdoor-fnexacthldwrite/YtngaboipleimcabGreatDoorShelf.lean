/- The library's maps.Keys, slices.Sorted and slices.Sort of ints, at this translation, laid by the guide's own command in plain words; conditions: none. -/
import Derived.Test.YtngaboipleimcabGreatDoorWm
import Derived.Shelf.SlIterI.Nil
import Derived.Shelf.SortM.Plain
import Derived.Shelf.SortM.SortNone
import Derived.Shelf.SlGeneric
import Derived.Ground.GgzProg
import Derived.Ground.SlgmProg
import Derived.Test.YtngaboipleimcabGreatDoorProg
namespace Go.Proofs.YtngaboipleimcabGreatDoor
open Go.RowKit Go.Deep
set_option linter.unusedVariables false
def qH (w:World) (s:Nat) (l:List Value):Prop:=∀ i,i<9->w.cell? (zA s i)=some (l.getD i undef)/\w.frozen? (zA s i)=false
def He (w:World) (c d:Int) (s b lc hc:Nat) (V:CV) (n:Nat) (M:Int->Option (Nat->Int)):Prop :=
 (∃ aW kW aO kO aX kX aI kI,qH w s [zI c,zI d,zI V.c,.slice aW V.nW kW,zI V.g,.slice aO V.nO kO,.slice aX V.nX kX,.slice aI V.nI kI,.map (some b)]/\aV lc hc w (.agg (zD V aW kW aO kO aX kX aI kI).toArray) V/\mV lc hc w (.agg (zD V aW kW aO kO aX kX aI kI).toArray))/\Wm w b n M/\s<w.heap.size/\¬ s=b/\lc<=hc/\hc<=w.heap.size/\(b<lc∨hc<=b)/\(s<lc∨hc<=s)
theorem wR (W:World) (t:TypeId) (v0 v1 v2 v3 v4 v5 v6 v7 v8:Value):qH (W.alloc (.cells #[v0,v1,v2,v3,v4,v5,v6,v7,v8] t)) W.heap.size [v0,v1,v2,v3,v4,v5,v6,v7,v8]:=by
 intro i hi;have:i=0∨i=1∨i=2∨i=3∨i=4∨i=5∨i=6∨i=7∨i=8:=by omega
 rcases this with rfl | rfl | rfl | rfl | rfl | rfl | rfl | rfl | rfl <;> exact ⟨by simp,by simp⟩
set_option maxHeartbeats 8000000 in
theorem Ee (c d:Int) (v:Value) (V:CV) (lo:Nat) (aR:V.short 1048576) (aE:∀ k,k<V.nW->(Lit.int .i64 (V.W k 0)).wf=true) (w:World) (h:eH lo w v V) :
 Hz 88 #[.agg #[zI c,zI d],v] w fun e w'=>∃ s b lc hc,e=.returned (zP s 0)/\He w' c d s b lc hc V V.nW (dA V.W V.nW)/\w.heap.size<=s/\w.heap.size<=b/\w.heap.size<=lc/\Below w.heap.size w w':=by
 have bm:=@run_makeMap Tryz.prog;obtain ⟨bW,bO,bX,bI,q0,q1,q2,q3,q4,rfl,g1,g2,g3,g4⟩:=h;have CP:bY (eH lo w (.agg (zC V bW V.nW bO V.nO bX V.nX bI V.nI).toArray) V):=⟨bW,bO,bX,bI,q0,q1,q2,q3,q4,rfl,g1,g2,g3,g4⟩;have gW:bY (Own5 w bW V.nW V.W V.nW):=g1;have hs:bY (V.short 1048576):=aR;have bl:bY (∀ k,k<V.nW->(Lit.int .i64 (V.W k 0)).wf=true):=aE;have lW:bW<w.heap.size:=by omega
 have bR:V.nW<=1048576:=aR.1;clear g1 g2 g3 g4 aR aE q0 q1 q2 q3 q4;go_enter Tryz.func88,Tryz.ntmps88;go_wp2_with fail;obtain ⟨w0,e0⟩:∃ w0,w0=((w.alloc (.cells #[zI c,zI d] 44)).alloc (.cells (zC V bW V.nW bO V.nO bX V.nX bI V.nI).toArray 36)):=⟨_,rfl⟩;have z0:w.heap.size+2<=w0.heap.size:=by rw [e0];simp
 have bE:w0.heap.size<=w.heap.size+2:=by rw [e0];simp
 have B0:bY (Below w.heap.size w w0):=by rw [e0];exact ((Hr _ _).alloc (by simp) _).alloc (by simp) _
 have A0:bY (Six w0 (w.heap.size+1) (zC V bW V.nW bO V.nO bX V.nX bI V.nI)):=by rw [e0];exact oP w #[zI c,zI d] 44 36 (zI V.c) (zS bW V.nW V.nW) (zI V.g) (zS bO V.nO V.nO) (zS bX V.nX V.nX) (zS bI V.nI V.nI)
 have m0:w0.cell? (zA w.heap.size 0)=some (zI c):=by rw [e0];simp
 have m1:w0.cell? (zA w.heap.size 1)=some (zI d):=by rw [e0];simp
 obtain ⟨a0,a1,a2,a3,a4,a5⟩:=A0.o.a6;rw [<-e0];clear e0;refine Hu (S:=fun w'=>Below w0.heap.size w0 w') (by kernel_rfl) ((Hr _ _).drew) ?_;intro af;refine dY 0 (.agg #[zI c,zI d]) rfl ?_ ?_
 ·intro wx aa;have bN:=(aa.cell (p:=(zA w.heap.size 0)) (by show w.heap.size<_;omega)).trans m0;have bA:=(aa.cell (p:=(zA w.heap.size 1)) (by show w.heap.size<_;omega)).trans m1;go_simp
 refine dY 1 (.agg (zC V bW V.nW bO V.nO bX V.nX bI V.nI).toArray) rfl ?_ ?_
 ·intro wx aa;have bz:=(aa.cell (p:=(zA (w.heap.size+1) 0)) (by show w.heap.size+1<_;omega)).trans a0;have bw:=(aa.cell (p:=(zA (w.heap.size+1) 1)) (by show w.heap.size+1<_;omega)).trans a1;have bB:=(aa.cell (p:=(zA (w.heap.size+1) 2)) (by show w.heap.size+1<_;omega)).trans a2;have bC:=(aa.cell (p:=(zA (w.heap.size+1) 3)) (by show w.heap.size+1<_;omega)).trans a3;have bx:=(aa.cell (p:=(zA (w.heap.size+1) 4)) (by show w.heap.size+1<_;omega)).trans a4;have bL:=(aa.cell (p:=(zA (w.heap.size+1) 5)) (by show w.heap.size+1<_;omega)).trans a5;go_simp
 clear m0 m1 a0 a1 a2 a3 a4 a5;refine y9 [2,3] ?_;refine AllReadyH.cons rfl (fun K hK=>?_) (AllReadyH.cons rfl (fun K hK=>?_) AllReadyH.nil)
 ·go_simp;go_wp2_with fail;refine (Ez _ V lo hs.o _ (CP.o.q (B0.o.drew))).mono ?_;rintro e w1 ⟨⟨v1,rfl,hO,hT⟩,am⟩;obtain ⟨aW,kW,aO,kO,aX,kX,aI,kI,rfl,_,_,_,_⟩:=hO.at;have a7:Below w0.heap.size w0 w1:=ah ((Hr _ _).drew) am;have bp:w0.heap.size<=w1.heap.size:=a7.size;refine hK.out _ _ a7 (fun ai=>?_);clear hK K af;have af:=ai;clear ai;try simp only [aT]
  refine di 3 rfl fun K hK=>?_;go_simp;refine hK.out _ _ (af.alloc bp _) (fun ai=>?_);clear hK K af;have af:=ai;clear ai;try simp only [aT]
  refine aA 4 (.agg #[zI c,zI d,zI V.c,.slice aW V.nW kW,zI V.g,.slice aO V.nO kO,.slice aX V.nX kX,.slice aI V.nI kI,.map (some w1.heap.size)]) rfl ?_;refine di 5 rfl fun K hK=>?_;go_simp;refine hK.out _ _ (af.alloc (by simp;omega) _) (fun ai=>?_);clear hK K af;have af:=ai;clear ai;try simp only [aT]
  refine aA 6 (zP (w1.heap.size+1) 0) rfl ?_;refine Hy (by kernel_rfl) ?_ _;obtain ⟨W,s,b,lc,hc,eW,es,eb,ar,aq,az,ap,aw,av,al,aN,bu,aM,br,ba,bh,bs,bt,bv⟩:∃ W s b lc hc,W=((w1.alloc (.map #[] 0)).alloc (.cells #[zI c,zI d,zI V.c,.slice aW V.nW kW,zI V.g,.slice aO V.nO kO,.slice aX V.nX kX,.slice aI V.nI kI,.map (some w1.heap.size)] 135))/\s=w1.heap.size+1/\b=w1.heap.size/\aV lc hc W (.agg (zD V aW kW aO kO aX kX aI kI).toArray) V/\mV lc hc W (.agg (zD V aW kW aO kO aX kX aI kI).toArray)/\qH W s [zI c,zI d,zI V.c,.slice aW V.nW kW,zI V.g,.slice aO V.nO kO,.slice aX V.nX kX,.slice aI V.nI kI,.map (some b)]/\Wm W b 0 (dA V.W 0)/\Below w.heap.size w W/\(∀ x,x<w.heap.size+2->Sm w0 W x)/\¬ s=b/\lc<=hc/\hc<=W.heap.size/\s<W.heap.size/\b<W.heap.size/\(b<lc∨hc<=b)/\(s<lc∨hc<=s)/\w.heap.size+2<=lc/\w.heap.size+2<=b/\w.heap.size+2<=s :=
   ⟨_,_,_,w0.heap.size,w1.heap.size,rfl,rfl,rfl,hO.q (Ho _) (((Hr _ _).alloc (Ho _) _).alloc (by simp) _),mV.sm hT (fun x _ hx=>aj (((Hr _ _).alloc (Ho _) _).alloc (by simp) _) hx),(by have h:=wR (w1.alloc (.map #[] 0)) 135 (zI c) (zI d) (zI V.c) (.slice aW V.nW kW) (zI V.g) (.slice aO V.nO kO) (.slice aX V.nX kX) (.slice aI V.nI kI) (.map (some w1.heap.size));rw [World.size_alloc] at h;exact h),(Wm.new w1).q (k:=w1.heap.size+1) (by omega) ((Hr _ _).alloc (by simp) _),(ah B0.o af),fun x hx=>aj af (by omega),by omega,by omega,by simp <;> omega,by simp <;> omega,by simp <;> omega,by omega,by omega,by omega,by omega,by omega⟩
  rw [<-eW,<-es,<-eb];clear eW es eb af bm;have TW:bY _:=aq;clear aq;have OW:bY _:=ar;have NW:bY _:=az;have MW:bY _:=ap;have BW:bY _:=aw;have KW:bY _:=av;clear ar az ap aw av;clear hO am a7 hT;have q1:W.cell? (zA (w.heap.size+1) 1)=some (zS bW V.nW V.nW):=((KW.o (w.heap.size+1) (by omega)) 1).1.trans (A0.o 1 (by decide)).1;have lq:w.heap.size+1<W.heap.size:=by omega
  go_wp2_with fail;clear q1 lq;go_loopw [17] (fun i wr=>∃ k:Nat,k<=V.nW/\i=zI k/\Wm wr b k (dA V.W k)/\W.grownBy wr (some b)) (fun i _=>V.nW - (intOf i).toNat)
  case atStart=>exact ⟨0,Nat.zero_le _,rfl,MW.o,⟨rfl,rfl,rfl,Ho _,fun _ _ _=>rfl⟩⟩
  case round =>
   obtain ⟨k,hk,rfl,hM,hG⟩:=hrel;have ak:bY (Wm wr b k (dA V.W k)):=hM;have HG:bY (W.grownBy wr (some b)):=hG;have bd:W.heap.size<=wr.heap.size:=hG.size;clear hM hG;by_cases ad:k<V.nW
   ·have bc:(k:Int)<V.nW:=by omega
    have c0:wr.cell? (zA bW (k * 5))=some (zI (V.W k 0)):=by have h1:=(bG HG.o (b:=bW) (by omega) (by simp;omega)) (k * 5+0);have h2:=(aj BW.o lW) (k * 5+0);have h3:=aZ gW.o k 0 ad (by omega);rw [Nat.zero_add] at h3;exact (h1.1.trans h2.1).trans h3
    have c1:wr.cell? (zA bW (k * 5+1))=some (zI (V.W k 1)):=by have h1:=(bG HG.o (b:=bW) (by omega) (by simp;omega)) (k * 5+1);have h2:=(aj BW.o lW) (k * 5+1);have h3:=aZ gW.o k 1 ad (by omega);rw [Nat.zero_add] at h3;exact (h1.1.trans h2.1).trans h3
    have c2:wr.cell? (zA bW (k * 5+2))=some (zI (V.W k 2)):=by have h1:=(bG HG.o (b:=bW) (by omega) (by simp;omega)) (k * 5+2);have h2:=(aj BW.o lW) (k * 5+2);have h3:=aZ gW.o k 2 ad (by omega);rw [Nat.zero_add] at h3;exact (h1.1.trans h2.1).trans h3
    have c3:wr.cell? (zA bW (k * 5+3))=some (zI (V.W k 3)):=by have h1:=(bG HG.o (b:=bW) (by omega) (by simp;omega)) (k * 5+3);have h2:=(aj BW.o lW) (k * 5+3);have h3:=aZ gW.o k 3 ad (by omega);rw [Nat.zero_add] at h3;exact (h1.1.trans h2.1).trans h3
    have c4:wr.cell? (zA bW (k * 5+4))=some (zI (V.W k 4)):=by have h1:=(bG HG.o (b:=bW) (by omega) (by simp;omega)) (k * 5+4);have h2:=(aj BW.o lW) (k * 5+4);have h3:=aZ gW.o k 4 ad (by omega);rw [Nat.zero_add] at h3;exact (h1.1.trans h2.1).trans h3
    have aL:bW<wr.heap.size:=by omega
    have n8:wr.cell? (zA s 8)=some (.map (some b)):=((bG HG.o (b:=s) (by omega) (by simp;omega)) 8).1.trans (NW.o 8 (by decide)).1;have ls:s<wr.heap.size:=by omega
    go_wp2_with fail;obtain ⟨w5,e5⟩:∃ w5,w5=wr.alloc (.cells (zF (V.W k)).toArray 67):=⟨_,rfl⟩;have ae:Below wr.heap.size wr w5:=by rw [e5];exact (Hr _ _).alloc (Ho _) _
    have d0:w5.cell? (zA wr.heap.size 0)=some (zI (V.W k 0)):=by rw [e5];simp
    have d1:w5.cell? (zA wr.heap.size 1)=some (zI (V.W k 1)):=by rw [e5];simp
    have d2:w5.cell? (zA wr.heap.size 2)=some (zI (V.W k 2)):=by rw [e5];simp
    have d3:w5.cell? (zA wr.heap.size 3)=some (zI (V.W k 3)):=by rw [e5];simp
    have d4:w5.cell? (zA wr.heap.size 4)=some (zI (V.W k 4)):=by rw [e5];simp
    have n9:w5.cell? (zA s 8)=some (.map (some b)):=(ae.cell (p:=(zA s 8)) ls).trans n8;have ac:wr.heap.size<w5.heap.size:=by rw [e5];simp
    have ag:s<w5.heap.size:=by omega
    rw [<-e5];clear e5 c0 c1 c2 c3 c4 n8 aL ls;have M5:Wm w5.drew b k (dA V.W k):=ak.o.q (Hg ak.o.lt (Ho _)) (ae.drew);obtain ⟨w6,ao,aD,ab⟩:=M5.put (bl.o k ad) (V.W k);refine Hu (S:=fun w'=>(∀ g o,g<w5.heap.size->¬ g=b->w'.cell? (zA g o)=w5.cell? (zA g o))/\w5.heap.size<=w'.heap.size) (by kernel_rfl) ⟨fun _ _ _ _=>rfl,Ho _⟩ ?_;intro af;refine aA 0 (zP s 0) rfl ?_;refine dY 1 (zP s 0) rfl ?_ ?_
    ·intro wx aa;have x8:=(aa.1 s 8 ag al).trans n9;have xl:=Hg ag aa.2;go_simp
    refine aA 2 (zP s 8) rfl ?_;refine dY 3 (.map (some b)) rfl ?_ ?_
    ·intro wx aa;have x8:=(aa.1 s 8 ag al).trans n9;go_simp
    refine aA 4 (zP wr.heap.size 0) rfl ?_;refine dY 5 (zI (V.W k 0)) rfl ?_ ?_
    ·intro wx aa;have x0:=(aa.1 wr.heap.size 0 ac (by omega)).trans d0;go_simp
    refine dY 6 (wv (V.W k)) rfl ?_ ?_
    ·intro wx aa;have x0:=(aa.1 wr.heap.size 0 ac (by omega)).trans d0;have x1:=(aa.1 wr.heap.size 1 ac (by omega)).trans d1;have x2:=(aa.1 wr.heap.size 2 ac (by omega)).trans d2;have x3:=(aa.1 wr.heap.size 3 ac (by omega)).trans d3;have x4:=(aa.1 wr.heap.size 4 ac (by omega)).trans d4;unfold wv;go_simp
    refine di 7 rfl fun K hK=>?_;clear af;go_simp;refine hK.out _ _ ⟨fun g o hg bb=>(bG ab (b:=g) hg (by simp;exact bb) o).1,ab.size⟩ (fun ai=>?_);clear hK K ai;try simp only [aT]
    refine Hy (by kernel_rfl) ?_ _;have bk:bY (W.grownBy w6 (some b)):=(HG.o.trans (P8.mr ae)).trans ⟨ab.os,ab.tape,ab.output,ab.size,ab.block⟩;have bi:bY (Wm w6 b (k+1) (dA V.W (k+1))):=aD;clear aD ab ao M5 d0 d1 d2 d3 d4 n9 ag ae HG ak;go_wp2;go_roundw
    case rel=>exact ⟨k+1,by omega,by go_num,bi.o,bk.o⟩
    case measure=>simp [intOf];omega
   have bj:k=V.nW:=by omega
   subst bj;go_wp2;go_ret;have an:∀ x,x<W.heap.size->¬ x=b->Sm W wr x:=fun x h1 h2=>bG HG.o h1 (by simp;exact h2);refine ⟨s,b,lc,hc,rfl,⟨⟨aW,kW,aO,kO,aX,kX,aI,kI,fun i hi=>?_,aV.sm OW.o bd (fun x h1 h2=>an x (by omega) (by omega)),mV.sm TW.o (fun x h1 h2=>an x (by omega) (by omega))⟩,ak.o,by omega,al,aN,by omega,ba,bh⟩,by omega,by omega,by omega,?_⟩
   ·have h1:=an s aM al i;rw [h1.1,h1.2];exact NW.o i hi
   exact BW.o.grown HG.o BW.o.size (fun kk e=>by cases e;omega)
 go_simp;refine hK.out _ _ (af.alloc (Ho _) _) (fun ai=>?_);clear hK K af;have af:=ai;clear ai;try simp only [aT]
 refine di 2 rfl fun K hK=>?_;go_simp;go_wp2_with fail;refine (Ez _ V lo hs.o _ (CP.o.q (ah B0.o af))).mono ?_;rintro e w1 ⟨⟨v1,rfl,hO,hT⟩,am⟩;obtain ⟨aW,kW,aO,kO,aX,kX,aI,kI,rfl,_,_,_,_⟩:=hO.at;have bp:w0.heap.size+1<=w1.heap.size:=by have:=am.size;simpa using this
 have be:Wm w1 w0.heap.size 0 (dA V.W 0):=(Wm.new w0.drew).q (by show w0.heap.size<_;simp) am;have bo:aV (w0.heap.size+1) w1.heap.size w1 (.agg (zD V aW kW aO kO aX kX aI kI).toArray) V:=by have e:(w0.alloc (.map #[] 0)).drew.heap.size=w0.heap.size+1:=World.size_alloc w0 _;rw [e] at hO;exact hO
 have bq:mV (w0.heap.size+1) w1.heap.size w1 (.agg (zD V aW kW aO kO aX kX aI kI).toArray):=by have e:(w0.alloc (.map #[] 0)).drew.heap.size=w0.heap.size+1:=World.size_alloc w0 _;rw [e] at hT;exact hT
 refine hK.out _ _ (ah af am) (fun ai=>?_);clear hK K af;have af:=ai;clear ai;try simp only [aT]
 refine aA 4 (.agg #[zI c,zI d,zI V.c,.slice aW V.nW kW,zI V.g,.slice aO V.nO kO,.slice aX V.nX kX,.slice aI V.nI kI,.map (some w0.heap.size)]) rfl ?_;refine di 5 rfl fun K hK=>?_;go_simp;refine hK.out _ _ (af.alloc (by omega) _) (fun ai=>?_);clear hK K af;have af:=ai;clear ai;try simp only [aT]
 refine aA 6 (zP w1.heap.size 0) rfl ?_;refine Hy (by kernel_rfl) ?_ _;obtain ⟨W,s,b,lc,hc,eW,es,eb,ar,aq,az,ap,aw,av,al,aN,bu,aM,br,ba,bh,bs,bt,bv⟩:∃ W s b lc hc,W=(w1.alloc (.cells #[zI c,zI d,zI V.c,.slice aW V.nW kW,zI V.g,.slice aO V.nO kO,.slice aX V.nX kX,.slice aI V.nI kI,.map (some w0.heap.size)] 135))/\s=w1.heap.size/\b=w0.heap.size/\aV lc hc W (.agg (zD V aW kW aO kO aX kX aI kI).toArray) V/\mV lc hc W (.agg (zD V aW kW aO kO aX kX aI kI).toArray)/\qH W s [zI c,zI d,zI V.c,.slice aW V.nW kW,zI V.g,.slice aO V.nO kO,.slice aX V.nX kX,.slice aI V.nI kI,.map (some b)]/\Wm W b 0 (dA V.W 0)/\Below w.heap.size w W/\(∀ x,x<w.heap.size+2->Sm w0 W x)/\¬ s=b/\lc<=hc/\hc<=W.heap.size/\s<W.heap.size/\b<W.heap.size/\(b<lc∨hc<=b)/\(s<lc∨hc<=s)/\w.heap.size+2<=lc/\w.heap.size+2<=b/\w.heap.size+2<=s :=
  ⟨_,_,_,w0.heap.size+1,w1.heap.size,rfl,rfl,rfl,bo.q (Ho _) ((Hr _ _).alloc (Ho _) _),mV.sm bq (fun x _ hx=>aj ((Hr _ _).alloc (Ho _) _) hx),wR w1 135 (zI c) (zI d) (zI V.c) (.slice aW V.nW kW) (zI V.g) (.slice aO V.nO kO) (.slice aX V.nX kX) (.slice aI V.nI kI) (.map (some w0.heap.size)),be.q be.lt ((Hr _ _).alloc (Ho _) _),(ah B0.o af),fun x hx=>aj af (by omega),by omega,by omega,by simp <;> omega,by simp <;> omega,by simp <;> omega,by omega,by omega,by omega,by omega,by omega⟩
 rw [<-eW,<-es,<-eb];clear eW es eb af bm;have TW:bY _:=aq;clear aq;have OW:bY _:=ar;have NW:bY _:=az;have MW:bY _:=ap;have BW:bY _:=aw;have KW:bY _:=av;clear ar az ap aw av;clear hO am bo be hT bq;have q1:W.cell? (zA (w.heap.size+1) 1)=some (zS bW V.nW V.nW):=((KW.o (w.heap.size+1) (by omega)) 1).1.trans (A0.o 1 (by decide)).1;have lq:w.heap.size+1<W.heap.size:=by omega
 go_wp2_with fail;clear q1 lq;go_loopw [17] (fun i wr=>∃ k:Nat,k<=V.nW/\i=zI k/\Wm wr b k (dA V.W k)/\W.grownBy wr (some b)) (fun i _=>V.nW - (intOf i).toNat)
 case atStart=>exact ⟨0,Nat.zero_le _,rfl,MW.o,⟨rfl,rfl,rfl,Ho _,fun _ _ _=>rfl⟩⟩
 case round =>
  obtain ⟨k,hk,rfl,hM,hG⟩:=hrel;have ak:bY (Wm wr b k (dA V.W k)):=hM;have HG:bY (W.grownBy wr (some b)):=hG;have bd:W.heap.size<=wr.heap.size:=hG.size;clear hM hG;by_cases ad:k<V.nW
  ·have bc:(k:Int)<V.nW:=by omega
   have c0:wr.cell? (zA bW (k * 5))=some (zI (V.W k 0)):=by have h1:=(bG HG.o (b:=bW) (by omega) (by simp;omega)) (k * 5+0);have h2:=(aj BW.o lW) (k * 5+0);have h3:=aZ gW.o k 0 ad (by omega);rw [Nat.zero_add] at h3;exact (h1.1.trans h2.1).trans h3
   have c1:wr.cell? (zA bW (k * 5+1))=some (zI (V.W k 1)):=by have h1:=(bG HG.o (b:=bW) (by omega) (by simp;omega)) (k * 5+1);have h2:=(aj BW.o lW) (k * 5+1);have h3:=aZ gW.o k 1 ad (by omega);rw [Nat.zero_add] at h3;exact (h1.1.trans h2.1).trans h3
   have c2:wr.cell? (zA bW (k * 5+2))=some (zI (V.W k 2)):=by have h1:=(bG HG.o (b:=bW) (by omega) (by simp;omega)) (k * 5+2);have h2:=(aj BW.o lW) (k * 5+2);have h3:=aZ gW.o k 2 ad (by omega);rw [Nat.zero_add] at h3;exact (h1.1.trans h2.1).trans h3
   have c3:wr.cell? (zA bW (k * 5+3))=some (zI (V.W k 3)):=by have h1:=(bG HG.o (b:=bW) (by omega) (by simp;omega)) (k * 5+3);have h2:=(aj BW.o lW) (k * 5+3);have h3:=aZ gW.o k 3 ad (by omega);rw [Nat.zero_add] at h3;exact (h1.1.trans h2.1).trans h3
   have c4:wr.cell? (zA bW (k * 5+4))=some (zI (V.W k 4)):=by have h1:=(bG HG.o (b:=bW) (by omega) (by simp;omega)) (k * 5+4);have h2:=(aj BW.o lW) (k * 5+4);have h3:=aZ gW.o k 4 ad (by omega);rw [Nat.zero_add] at h3;exact (h1.1.trans h2.1).trans h3
   have aL:bW<wr.heap.size:=by omega
   have n8:wr.cell? (zA s 8)=some (.map (some b)):=((bG HG.o (b:=s) (by omega) (by simp;omega)) 8).1.trans (NW.o 8 (by decide)).1;have ls:s<wr.heap.size:=by omega
   go_wp2_with fail;obtain ⟨w5,e5⟩:∃ w5,w5=wr.alloc (.cells (zF (V.W k)).toArray 67):=⟨_,rfl⟩;have ae:Below wr.heap.size wr w5:=by rw [e5];exact (Hr _ _).alloc (Ho _) _
   have d0:w5.cell? (zA wr.heap.size 0)=some (zI (V.W k 0)):=by rw [e5];simp
   have d1:w5.cell? (zA wr.heap.size 1)=some (zI (V.W k 1)):=by rw [e5];simp
   have d2:w5.cell? (zA wr.heap.size 2)=some (zI (V.W k 2)):=by rw [e5];simp
   have d3:w5.cell? (zA wr.heap.size 3)=some (zI (V.W k 3)):=by rw [e5];simp
   have d4:w5.cell? (zA wr.heap.size 4)=some (zI (V.W k 4)):=by rw [e5];simp
   have n9:w5.cell? (zA s 8)=some (.map (some b)):=(ae.cell (p:=(zA s 8)) ls).trans n8;have ac:wr.heap.size<w5.heap.size:=by rw [e5];simp
   have ag:s<w5.heap.size:=by omega
   rw [<-e5];clear e5 c0 c1 c2 c3 c4 n8 aL ls;have M5:Wm w5.drew b k (dA V.W k):=ak.o.q (Hg ak.o.lt (Ho _)) (ae.drew);obtain ⟨w6,ao,aD,ab⟩:=M5.put (bl.o k ad) (V.W k);refine Hu (S:=fun w'=>(∀ g o,g<w5.heap.size->¬ g=b->w'.cell? (zA g o)=w5.cell? (zA g o))/\w5.heap.size<=w'.heap.size) (by kernel_rfl) ⟨fun _ _ _ _=>rfl,Ho _⟩ ?_;intro af;refine aA 0 (zP s 0) rfl ?_;refine dY 1 (zP s 0) rfl ?_ ?_
   ·intro wx aa;have x8:=(aa.1 s 8 ag al).trans n9;have xl:=Hg ag aa.2;go_simp
   refine aA 2 (zP s 8) rfl ?_;refine dY 3 (.map (some b)) rfl ?_ ?_
   ·intro wx aa;have x8:=(aa.1 s 8 ag al).trans n9;go_simp
   refine aA 4 (zP wr.heap.size 0) rfl ?_;refine dY 5 (zI (V.W k 0)) rfl ?_ ?_
   ·intro wx aa;have x0:=(aa.1 wr.heap.size 0 ac (by omega)).trans d0;go_simp
   refine dY 6 (wv (V.W k)) rfl ?_ ?_
   ·intro wx aa;have x0:=(aa.1 wr.heap.size 0 ac (by omega)).trans d0;have x1:=(aa.1 wr.heap.size 1 ac (by omega)).trans d1;have x2:=(aa.1 wr.heap.size 2 ac (by omega)).trans d2;have x3:=(aa.1 wr.heap.size 3 ac (by omega)).trans d3;have x4:=(aa.1 wr.heap.size 4 ac (by omega)).trans d4;unfold wv;go_simp
   refine di 7 rfl fun K hK=>?_;clear af;go_simp;refine hK.out _ _ ⟨fun g o hg bb=>(bG ab (b:=g) hg (by simp;exact bb) o).1,ab.size⟩ (fun ai=>?_);clear hK K ai;try simp only [aT]
   refine Hy (by kernel_rfl) ?_ _;have bk:bY (W.grownBy w6 (some b)):=(HG.o.trans (P8.mr ae)).trans ⟨ab.os,ab.tape,ab.output,ab.size,ab.block⟩;have bi:bY (Wm w6 b (k+1) (dA V.W (k+1))):=aD;clear aD ab ao M5 d0 d1 d2 d3 d4 n9 ag ae HG ak;go_wp2;go_roundw
   case rel=>exact ⟨k+1,by omega,by go_num,bi.o,bk.o⟩
   case measure=>simp [intOf];omega
  have bj:k=V.nW:=by omega
  subst bj;go_wp2;go_ret;have an:∀ x,x<W.heap.size->¬ x=b->Sm W wr x:=fun x h1 h2=>bG HG.o h1 (by simp;exact h2);refine ⟨s,b,lc,hc,rfl,⟨⟨aW,kW,aO,kO,aX,kX,aI,kI,fun i hi=>?_,aV.sm OW.o bd (fun x h1 h2=>an x (by omega) (by omega)),mV.sm TW.o (fun x h1 h2=>an x (by omega) (by omega))⟩,ak.o,by omega,al,aN,by omega,ba,bh⟩,by omega,by omega,by omega,?_⟩
  ·have h1:=an s aM al i;rw [h1.1,h1.2];exact NW.o i hi
  exact BW.o.grown HG.o BW.o.size (fun kk e=>by cases e;omega)
theorem uj (n:Nat) (Z:Nat->Nat->Int):((List.range n).flatMap (aP Z)).length=n * 5:=by
 induction n with
 | zero=>simp
 | succ n ih=>rw [List.range_succ,List.flatMap_append,List.length_append,ih];simp [aP,Nat.succ_mul]
theorem vK {w:World} {b o n:Nat} {Z:Nat->Nat->Int} (hr:∀ k j,k<n->j<5->w.cell? (zA b (o+k * 5+j))=some (zI (Z k j))):∀ j u,((List.range n).flatMap (aP Z))[j]? = some u->w.cell? (((zA b o):Addr).add j)=some u:=by
 intro j u hj;have aa:j<n * 5:=by
  have:=(List.getElem?_eq_some_iff.1 hj).1;rw [uj] at this;exact this
 rw [flat_get (aP Z) (fun _=>rfl) (by decide) n j aa] at hj;have hq:j / 5<n:=Nat.div_lt_of_lt_mul (by omega);have ab:=hr (j / 5) (j % 5) hq (Nat.mod_lt _ (by decide));rw [iR,show o+j=o+j / 5 * 5+j % 5 by omega,ab,<-hj];have:j % 5<5:=Nat.mod_lt _ (by decide);generalize j % 5=q at this ⊢;match q,this with
 | 0,_=>rfl
 | 1,_=>rfl
 | 2,_=>rfl
 | 3,_=>rfl
 | 4,_=>rfl
theorem AQ (n:Nat) (Z:Nat->Nat->Int):∀ u ∈ (List.range n).flatMap (aP Z),u.oneCell'=true:=by
 intro u hu;obtain ⟨k,_,hk⟩:=List.mem_flatMap.1 hu;simp [aP] at hk;rcases hk with rfl | rfl | rfl | rfl | rfl <;> rfl
theorem lG (n:Nat) (Z:Nat->Nat->Int):((List.range n).flatMap (P8.eight Z)).length=n * 8:=by
 induction n with
 | zero=>simp
 | succ n ih=>rw [List.range_succ,List.flatMap_append,List.length_append,ih];simp [P8.eight,Nat.succ_mul]
theorem lS {w:World} {b o n:Nat} {Z:Nat->Nat->Int} (hr:∀ k j,k<n->j<8->w.cell? (zA b (o+k * 8+j))=some (zI (Z k j))):∀ j u,((List.range n).flatMap (P8.eight Z))[j]? = some u->w.cell? (((zA b o):Addr).add j)=some u:=by
 intro j u hj;have aa:j<n * 8:=by
  have:=(List.getElem?_eq_some_iff.1 hj).1;rw [lG] at this;exact this
 rw [flat_get (P8.eight Z) (fun _=>rfl) (by decide) n j aa] at hj;have hq:j / 8<n:=Nat.div_lt_of_lt_mul (by omega);have ab:=hr (j / 8) (j % 8) hq (Nat.mod_lt _ (by decide));rw [iR,show o+j=o+j / 8 * 8+j % 8 by omega,ab,<-hj];have:j % 8<8:=Nat.mod_lt _ (by decide);generalize j % 8=q at this ⊢;match q,this with
 | 0,_=>rfl
 | 1,_=>rfl
 | 2,_=>rfl
 | 3,_=>rfl
 | 4,_=>rfl
 | 5,_=>rfl
 | 6,_=>rfl
 | 7,_=>rfl
theorem sK (n:Nat) (Z:Nat->Nat->Int):∀ u ∈ (List.range n).flatMap (P8.eight Z),u.oneCell'=true:=by
 intro u hu;obtain ⟨k,_,hk⟩:=List.mem_flatMap.1 hu;simp [P8.eight] at hk;rcases hk with rfl | rfl | rfl | rfl | rfl | rfl | rfl | rfl <;> rfl
theorem kS (n:Nat) (X:Nat->Int):((List.range n).flatMap (one1 X)).length=n * 1:=by
 induction n with
 | zero=>simp
 | succ n ih=>rw [List.range_succ,List.flatMap_append,List.length_append,ih];simp [one1,Nat.succ_mul]
theorem ku {w:World} {b o n:Nat} {X:Nat->Int} (hr:∀ k,k<n->w.cell? (zA b (o+k))=some (zI (X k))):∀ j u,((List.range n).flatMap (one1 X))[j]? = some u->w.cell? (((zA b o):Addr).add j)=some u:=by
 intro j u hj;have aa:j<n * 1:=by
  have:=(List.getElem?_eq_some_iff.1 hj).1;rw [kS] at this;exact this
 rw [flat_get (m:=1) (one1 X) (fun _=>rfl) (by decide) n j aa,Nat.div_one,Nat.mod_one] at hj;rw [iR,hr j (by omega),<-hj];rfl
theorem ng (n:Nat) (X:Nat->Int):∀ u ∈ (List.range n).flatMap (one1 X),u.oneCell'=true:=by
 intro u hu;obtain ⟨k,_,hk⟩:=List.mem_flatMap.1 hu;simp [one1] at hk;subst hk;rfl
theorem jL {lo hi:Nat} {w:World} {V:CV} {vW vX vI:Value} {gW gO gX gI cO:Nat} {sl:Nat->Value} {xs:Nat->Nat} (rW:RW lo hi w vW V.nW V.W gW) (al:lo<=gO) (ag:gO<hi) (am:hi<=w.heap.size)
 (rO:∀ k,k<V.nO->w.cell? (zA gO k)=some (sl k)/\RP lo hi w (sl k) (V.N k) (V.O k) (xs k)) (rX:RI lo hi w vX V.nX V.X gX) (rI:RI lo hi w vI V.nI V.I gI)
 (d1:V.nW≠0->gW≠gO) (d2:V.nW≠0->V.nX≠0->gW≠gX) (d3:V.nW≠0->V.nI≠0->gW≠gI) (d4:V.nX≠0->gO≠gX) (d5:V.nI≠0->gO≠gI) (d6:V.nX≠0->V.nI≠0->gX≠gI)
 (hx:∀ k,k<V.nO->V.N k≠0->(V.nW≠0->xs k≠gW)/\xs k≠gO/\(V.nX≠0->xs k≠gX)/\(V.nI≠0->xs k≠gI)) (ab:∀ i j,i<j->j<V.nO->V.N i≠0->V.N j≠0->xs i≠xs j) :
 aV lo hi w (.agg #[zI V.c,vW,zI V.g,zS gO V.nO cO,vX,vI]) V:=by
 obtain ⟨pW,ai,cW⟩:=rW.pick hi;obtain ⟨pX,ae,cX⟩:=rX.pick (hi+1);obtain ⟨pI,af,cI⟩:=rI.pick (hi+2);refine ⟨vW,_,vX,vI,pW,gO,pX,pI,sl,fun k=>if V.N k=0 then hi+3+k else xs k,rfl,ai,.inr ⟨cO,rfl,al,ag,am,fun k hk=>⟨(rO k hk).1,((rO k hk).2.pick (hi+3+k)).1⟩⟩,ae,af,?_,fun k hk=>?_,fun i j ac aa ak=>?_⟩
 ·refine ⟨?_,?_,?_,?_,?_,?_⟩
  ·rcases cW with ⟨_,rfl⟩ | ⟨e,rfl,_⟩
   ·omega
   have:=d1 e;omega
  ·rcases cW with ⟨_,rfl⟩ | ⟨e,rfl,_⟩ <;> rcases cX with ⟨_,rfl⟩ | ⟨e2,rfl,_⟩ <;> first | omega | exact d2 e e2
  ·rcases cW with ⟨_,rfl⟩ | ⟨e,rfl,_⟩ <;> rcases cI with ⟨_,rfl⟩ | ⟨e2,rfl,_⟩ <;> first | omega | exact d3 e e2
  ·rcases cX with ⟨_,rfl⟩ | ⟨e2,rfl,_⟩ <;> first | omega | (have:=d4 e2;omega)
  ·rcases cI with ⟨_,rfl⟩ | ⟨e2,rfl,_⟩ <;> first | omega | (have:=d5 e2;omega)
  rcases cX with ⟨_,rfl⟩ | ⟨e,rfl,_⟩ <;> rcases cI with ⟨_,rfl⟩ | ⟨e2,rfl,_⟩ <;> first | omega | (have:=d6 e e2;omega)
 ·have hb:=((rO k hk).2.pick (hi+3+k)).2;dsimp only;by_cases e0:V.N k=0
  ·rw [if_pos e0];refine ⟨?_,by omega,?_,?_⟩
   ·rcases cW with ⟨_,rfl⟩ | ⟨e,rfl,_⟩ <;> omega
   ·rcases cX with ⟨_,rfl⟩ | ⟨e,rfl,_⟩ <;> omega
   rcases cI with ⟨_,rfl⟩ | ⟨e,rfl,_⟩ <;> omega
  rw [if_neg e0];have h1:=hb e0;obtain ⟨ad,h2,h3,h4⟩:=hx k hk e0;refine ⟨?_,by omega,?_,?_⟩
  ·rcases cW with ⟨_,rfl⟩ | ⟨e,rfl,_⟩ <;> first | omega | exact ad e
  ·rcases cX with ⟨_,rfl⟩ | ⟨e,rfl,_⟩ <;> first | omega | (have:=h3 e;omega)
  rcases cI with ⟨_,rfl⟩ | ⟨e,rfl,_⟩ <;> first | omega | (have:=h4 e;omega)
 have b1:=((rO i ac).2.pick (hi+3+i)).2;have b2:=((rO j aa).2.pick (hi+3+j)).2;dsimp only;by_cases e1:V.N i=0
 ·rw [if_pos e1];by_cases e2:V.N j=0
  ·rw [if_pos e2];omega
  rw [if_neg e2];have:=b2 e2;omega
 rw [if_neg e1];have:=b1 e1;by_cases e2:V.N j=0
 ·rw [if_pos e2];omega
 rw [if_neg e2];rcases Nat.lt_or_gt_of_ne ak with h | h
 ·have:=ab i j h aa e1 e2;omega
 have:=ab j i h ac e2 e1;omega
set_option maxHeartbeats 1000000 in
theorem rC (b o n ag:Nat) (Z:Nat->Nat->Int) (hn:n<=1048576) (w:World) (hb:b<w.heap.size) (hr:∀ k j,k<n->j<5->w.cell? (zA b (o+k * 5+j))=some (zI (Z k j))) :
 Hz 102 #[.slice (some (zA b o)) n ag] w fun e w'=>(∃ v,e=.returned v/\w'.ownsRow w.heap.size 67 5 v n ((List.range n).flatMap (aP Z)))/\Below w.heap.size w w':=by
 have kb:Below w.heap.size w (w.alloc (.cells #[] 67)):=(Hr _ _).alloc (Ho _) _;have HC:bY (∀ j u,((List.range n).flatMap (aP Z))[j]? = some u->(w.alloc (.cells #[] 67)).cell? (((zA b o):Addr).add j)=some u):=vK (fun k j a1 a2=>(kb.cell (p:=⟨b,_,none⟩) hb).trans (hr k j a1 a2));have H1:bY (∀ u ∈ (List.range n).flatMap (aP Z),u.oneCell'=true):=AQ n Z;have HL:bY (((List.range n).flatMap (aP Z)).length=n * 5):=uj n Z;have KB:bY (Below w.heap.size w (w.alloc (.cells #[] 67))):=kb;clear hr kb;obtain ⟨i5,ak,af⟩:=Option.map_eq_some_iff.1 Tryz.Jl;simp only [Prod.mk.injEq] at af;obtain ⟨ac,ab,ad⟩:=af;go_enter Tryz.func102,Tryz.ntmps102;go_wp2_with (at_builtin;refine wpList_append_own _ rfl _ _ 33 rfl w.heap.size 67 i5 (.agg z5.toArray) 5 40 Tryz.underlying33 ak ac ab ad rfl (by decide) _ 0 [] rfl (World.ownsRow_lit w #[] 0 (Ho _) (by simp) (by simp)) (zA b o) n ag ((List.range n).flatMap (aP Z)) rfl HL.o HC.o H1.o (by unfold maxLen;omega) (by omega) (by simp) ?_);intro v' w2 aa hg ae;have ai:Below w.heap.size w w2:=KB.o.grown hg (by simp) (fun kk e=>by cases e;exact Ho _);have HO:bY (w2.ownsRow w.heap.size 67 5 v' n ((List.range n).flatMap (aP Z))):=by unfold bY;simpa using aa
 clear aa hg ae;go_wp2;go_ret;exact ⟨⟨_,rfl,HO.o⟩,ai⟩
theorem RP.zero {lo hi aa ab:Nat} {w w':World} {v:Value} {n:Nat} {Z:Nat->Nat->Int} {g:Nat} (h:RP lo hi w v n Z g) (e:n=0):RP aa ab w' v n Z g:=by
 rcases h with ⟨_,a,c,h⟩ | ⟨c,h,_⟩
 ·exact .inl ⟨e,a,c,h⟩
 exact .inl ⟨e,_,c,by rw [h,e]⟩
theorem RP.shape {lo hi:Nat} {w:World} {v:Value} {n:Nat} {Z:Nat->Nat->Int} {g:Nat} (h:RP lo hi w v n Z g):∃ a l c,v=.slice a l c:=by
 rcases h with ⟨_,a,c,h⟩ | ⟨c,h,_⟩
 ·exact ⟨_,_,_,h⟩
 exact ⟨_,_,_,h⟩
theorem own_ne {w:World} {base k:Nat} {s:Value} {sl:Nat->Value} (h:w.ownsRow base 127 1 s k ((List.range k).map sl)) (hk:0<k) (hs:∃ a l c,sl 0=.slice a l c) {lo hi:Nat} {v:Value} {n:Nat} {Z:Nat->Nat->Int} {g:Nat} (r:RP lo hi w v n Z g) (hn:n≠0):s.ownBlock≠some g:=by
 intro e;obtain ⟨a,l,c,aa⟩:=hs;have h0:=h.cells e 0 (sl 0) (by rw [List.getElem?_map,List.getElem?_range hk];rfl);rcases r with ⟨r,_⟩ | ⟨_,_,_,_,_,r⟩
 ·exact absurd r hn
 have h1:=r.2 0 0 (by omega) (by omega);rw [iR,Nat.add_zero] at h0;rw [show 0 * 8+0=0 from rfl,h0,aa] at h1;cases h1
theorem su {α:Type} (k:Nat) (sl:Nat->α) (x:α):(List.range (k+1)).map (fun j=>if j=k then x else sl j)=(List.range k).map sl++[x]:=by
 rw [List.range_succ,List.map_append,List.map_cons,List.map_nil,if_pos rfl];congr 1;apply List.map_congr_left;intro j hj;rw [if_neg (by have:=List.mem_range.1 hj;omega)]
theorem jT.zero {lo hi aa ab:Nat} {w w':World} {v:Value} {n:Nat} {Z:Nat->Nat->Int} {g:Nat} (h:jT lo hi w v n Z g) (e:n=0):jT aa ab w' v n Z g:=⟨h.1.zero e,h.2.1,fun _ _ _ hn=>absurd e hn⟩
theorem jr {P:Program} {w:World} {al:Array Oper} {rest:List Oper} {o:Oper} {a:Act} {Q:Exit->Act->World->Prop} (ak:o.guard=none) (s x:Operand) (t:TypeId)
 (ho:o.op=.call { callee:=.builtin .append,args:=#[s,x],argTypes:=#[t,t] })
 (base:Nat) (e:TypeId) (i:TypeInfo) (z:Value) (size ab:Nat) (ht:P.underlying t=some (.slice e)) (hi:P.info? e=some i) (hz:i.zero=some z)
 (ag:i.size=size) (an:i.bytes=ab) (am:z.cells.size=size) (aq:0<size)
 (v:Value) (n:Nat) (xs:List Value) (hs:a.eval s=v) (ae:w.ownsRow base e size v n xs)
 (ad:Addr) (m c:Nat) (aa:List Value) (hx:a.eval x=.slice (some ad) m c) (hl:aa.length=m * size) (ac:∀ j u,aa[j]? = some u->w.cell? (ad.add j)=some u) (h1:∀ u ∈ aa,u.oneCell'=true)
 (ap:n+m<=maxLen) (af:(n+m) * ab<=140737488355328) (ai:base<=w.heap.size)
 (h:∀ v' w',w'.ownsRow base e size v' (n+m) (xs++aa)->w.grownBy w' v.ownBlock->(m=0->v'=v)->wpList P al Q rest (a.put o.dst v') w'):wpList P al Q (o :: rest) a w:=by
 by_cases hm:m=0
 ·subst hm;have ao:aa=[]:=List.length_eq_zero_iff.1 (by simpa using hl);subst ao;have hr:(Builtin.append_ #[t,t] o.type #[v,.slice (some ad) 0 c]).run P w=.ok v w:=by
   have hf:=run_firstCells_some (P:=P) w i.size 0 ad 0 c [] (by simp) ac;rcases ae.2 with ⟨e1,_⟩ | ⟨g,av,ar,e1,_,_,hc,_⟩
   ·subst e1;simp [Builtin.append_,run_underlying ht,sizeOf,typeInfo,hi,Builtin.lenOf,hf]
   subst e1;simp [Builtin.append_,run_underlying ht,sizeOf,typeInfo,hi,Builtin.lenOf,hf,hc,storeCells]
  refine wpList_plain ak fun K hK=>?_;unfold Oper.wp execOp;simp only [ho,resolve,invoke,builtin,Sem.run_bind,Sem.run_pure,Result.andThen_ok,List.map_toArray,List.map_cons,List.map_nil,hs,hx,hr];exact hK _ _ (h v w (by simpa using ae) ⟨rfl,rfl,rfl,Ho _,fun _ _ _=>rfl⟩ (fun _=>rfl))
 exact wpList_append_own w ak s x t ho base e i z size ab ht hi hz ag an am aq v n xs hs ae ad m c aa hx hl ac h1 ap af ai (fun v' w' h2 h3 _=>h v' w' h2 h3 (fun e=>absurd e hm))
set_option maxRecDepth 20000 in
set_option maxRecDepth 20000 in
set_option maxHeartbeats 4000000 in
theorem Ij (v:Value) (V:CV) (lo:Nat) (hs:V.short 1048576) (w:World) (h:eH lo w v V) :
 Hz 71 #[v] w fun e w'=>(∃ v',e=.returned v'/\aV w.heap.size w'.heap.size w' v' V/\mV w.heap.size w'.heap.size w' v')/\Below w.heap.size w w':=by
 obtain ⟨bW,bO,bX,bI,q0,q1,q2,q3,q4,rfl,oW,oO,oX,oI⟩:=h;obtain ⟨tW,tO,tN,tX,tI⟩:=hs;have HW:bY (Own5 w bW V.nW V.W V.nW):=oW;have HO:bY (nM w bO V.nO V.N V.O V.nO):=oO;have HX:bY (fZ w bX V.nX V.X V.nX):=oX;have HI:bY (fZ w bI V.nI V.I V.nI):=oI;have HN:bY (∀ k,k<V.nO->V.N k<=1048576):=tN;clear oW oO oX oI tN;obtain ⟨j8,b0,ac⟩:=Option.map_eq_some_iff.1 P8.Tryz.Jd;simp only [Prod.mk.injEq] at ac;obtain ⟨aR,bd,bc⟩:=ac;obtain ⟨j6,bN,ac⟩:=Option.map_eq_some_iff.1 Tryz.Jk;simp only [Prod.mk.injEq] at ac;obtain ⟨aN,ba,bb⟩:=ac;obtain ⟨j3,bl,ac⟩:=Option.map_eq_some_iff.1 Tryz.info3;simp only [Prod.mk.injEq] at ac;obtain ⟨ar,ap,aq⟩:=ac;go_enter Tryz.func71,Tryz.ntmps71;go_wp2_with fail;obtain ⟨w0,e0⟩:∃ w0,w0=(w.alloc (.cells (zC V bW V.nW bO V.nO bX V.nX bI V.nI).toArray 36)).alloc (.cells zN.toArray 36):=⟨_,rfl⟩;have z0:w.heap.size+2<=w0.heap.size:=by rw [e0];simp
 have B0:bY (Below w.heap.size w w0):=by rw [e0];exact ((Hr _ _).alloc (by simp) _).alloc (by simp) _
 have A0:bY (Six w0 w.heap.size (zC V bW V.nW bO V.nO bX V.nX bI V.nI)):=by rw [e0];exact (fM w 36 (zI V.c) (zS bW V.nW V.nW) (zI V.g) (zS bO V.nO V.nO) (zS bX V.nX V.nX) (zS bI V.nI V.nI)).q (by simp) ((Hr _ _).alloc (by simp) _)
 have R0:bY (Six w0 (w.heap.size+1) zN):=by rw [e0];exact oP w (zC V bW V.nW bO V.nO bX V.nX bI V.nI).toArray 36 36 _ _ _ _ _ _
 rw [<-e0];clear e0;refine (rC bW 0 V.nW V.nW V.W tW _ (by omega) (fun k j a1 a2=>(B0.o.cell (p:=⟨bW,_,none⟩) (by show bW<_;omega)).trans (aZ HW.o k j a1 a2))).mono ?_;rintro e w1 ⟨⟨v1,rfl,ho⟩,hb⟩;obtain ⟨wa,wl,wc,ak⟩:=bP ho;subst ak;obtain ⟨gW,bo,_⟩:=gZ ho;have A1:=fQ (A0.o.q (by omega) hb);have R1:=fQ (R0.o.q (by omega) hb);have B1:=fQ (ah B0.o hb);have z1:w0.heap.size<=w1.heap.size:=hb.size;have bm:bY (RW w0.heap.size w1.heap.size w1 (.slice wa wl wc) V.nW V.W gW):=bo;clear bo ho hb A0 R0 B0;obtain ⟨a0,a1,a2,a3,a4,a5⟩:=A1.o.a6;have f0:=A1.o.f6;have l1:w.heap.size<w1.heap.size:=by omega
 go_wp2;clear a0 a1 a2 a3 a4 a5 f0 l1;obtain ⟨w2,e2⟩:∃ x,x=w1.setCell (zA w.heap.size 1) (.slice wa wl wc):=⟨_,rfl⟩;rw [<-e2];have A2:Six w2 w.heap.size [zI V.c,.slice wa wl wc,zI V.g,zS bO V.nO V.nO,zS bX V.nX V.nX,zS bI V.nI V.nI]:=by rw [e2];exact A1.o.set (j:=1) (v:=.slice wa wl wc) rfl (by decide)
 have R2:Six w2 (w.heap.size+1) zN:=by rw [e2];exact R1.o.far (by omega)
 have B2:Below w.heap.size w w2:=by rw [e2];exact B1.o.setCell (by simp) _
 have z2:w2.heap.size=w1.heap.size:=by rw [e2,ay]
 have S2:∀ x,¬ x=w.heap.size->Sm w1 w2 x:=fun x hx o=>by rw [e2];exact ⟨aJ (fun e=>hx e.1.symm),aB⟩
 clear e2 A1 R1 B1;obtain ⟨w3,e3⟩:∃ x,x=w2.alloc (.cells #[] 127):=⟨_,rfl⟩;rw [<-e3];have k3:Below w2.heap.size w2 w3:=by rw [e3];exact (Hr _ _).alloc (Ho _) _
 have z3:w3.heap.size=w2.heap.size+1:=by rw [e3];simp
 have O3:bY (w3.ownsRow w1.heap.size 127 1 (zS w1.heap.size 0 0) 0 []):=by unfold bY;rw [e3,<-z2];exact World.ownsRow_lit w2 #[] 0 (Ho _) (by simp) (by simp)
 clear e3;have A3:bY (Six w3 w.heap.size [zI V.c,.slice wa wl wc,zI V.g,zS bO V.nO V.nO,zS bX V.nX V.nX,zS bI V.nI V.nI]):=A2.q (by omega) k3;have R3:bY (Six w3 (w.heap.size+1) zN):=R2.q (by omega) k3;have B3:bY (Below w.heap.size w w3):=ah B2 k3;have W3:bY (RW w0.heap.size w1.heap.size w3 (.slice wa wl wc) V.nW V.W gW):=bm.o.move (Ho _) (Ho _) (by omega) (fun q1 q2=>(S2 gW (by omega)).trans (aj k3 (by omega)));clear A2 R2 B2 S2 bm k3;have z4:w1.heap.size+1<=w3.heap.size:=by omega
 have cb:w3.heap.size<=w1.heap.size+1:=by omega
 clear z2 z3;generalize w1.heap.size=gB at *;go_loopw [3,4] (fun s i wr=>∃ (k:Nat) (sl:Nat->Value) (xs:Nat->Nat),k<=V.nO/\i=zI k/\s≠.slice none 0 0/\(∀ x,x<gB->Sm w3 wr x)/\wr.ownsRow gB 127 1 s k ((List.range k).map sl)/\(∀ j,j<k->jT gB wr.heap.size wr (sl j) (V.N j) (V.O j) (xs j))/\(∀ i j,i<j->j<k->V.N i≠0->V.N j≠0->xs i≠xs j)/\w3.heap.size<=wr.heap.size/\Below w.heap.size w wr) (fun _ i _=>V.nO - (intOf i).toNat)
 case atStart=>exact ⟨0,fun _=>undef,fun _=>0,Nat.zero_le _,rfl,by simp,fun x _=>Sm.refl _ _,O3.o,fun _ h=>absurd h (by omega),fun _ _ _ h=>absurd h (by omega),Ho _,B3.o⟩
 case round =>
  obtain ⟨k,sl,xs,hk,rfl,bq,br,aa,be,aL,cd,av⟩:=hrel;obtain ⟨oa,ol,oc,ak⟩:=bP aa;subst ak;have SM:bY (∀ x,x<gB->Sm w3 wr x):=br;have OW:bY (wr.ownsRow gB 127 1 (.slice oa ol oc) k ((List.range k).map sl)):=aa;have DN:bY (∀ j,j<k->jT gB wr.heap.size wr (sl j) (V.N j) (V.O j) (xs j)):=be;have XX:bY (∀ i j,i<j->j<k->V.N i≠0->V.N j≠0->xs i≠xs j):=aL;have BL:bY (Below w.heap.size w wr):=av;have NN:bY (Value.slice oa ol oc≠Value.slice none 0 0):=bq;clear br aa be aL av bq;have A4:bY (Six wr w.heap.size [zI V.c,.slice wa wl wc,zI V.g,zS bO V.nO V.nO,zS bX V.nX V.nX,zS bI V.nI V.nI]):=fun i hi=>by have h1:=SM.o w.heap.size (by omega) i;rw [h1.1,h1.2];exact A3.o i hi
  obtain ⟨a0,a1,a2,a3,a4,a5⟩:=A4.o.a6;have f0:=A4.o.f6;have l1:w.heap.size<wr.heap.size:=by omega
  by_cases bh:k<V.nO
  ·have a7:(k:Int)<V.nO:=by omega
   obtain ⟨yk,b8,bS,bt⟩:∃ yk,yk<w.heap.size/\wr.cell? (zA bO k)=some (zS yk (V.N k) (V.N k))/\bY (∀ i j,i<V.N k->j<8->wr.cell? (zA yk (0+i * 8+j))=some (zI (V.O k i j))):=by
    obtain ⟨_,ys,_,hy⟩:=HO.o;obtain ⟨_,y2,y3,y4⟩:=hy k bh;exact ⟨ys k,y2,(BL.o.cell (p:=(zA bO k)) (by show bO<_;omega)).trans y3,fun i j a1 a2=>(BL.o.cell (p:=⟨ys k,_,none⟩) y2).trans (P8.aZ y4 i j a1 a2)⟩
   have lb:bO<wr.heap.size:=by omega
   have b4:=HN.o k bh;have kb:Below wr.heap.size wr (wr.alloc (.cells #[] 69)):=(Hr _ _).alloc (Ho _) _;have HC:bY (∀ j u,((List.range (V.N k)).flatMap (P8.eight (V.O k)))[j]? = some u->(wr.alloc (.cells #[] 69)).cell? (((zA yk 0):Addr).add j)=some u):=lS (fun i j a1 a2=>(kb.cell (p:=⟨yk,_,none⟩) (by show yk<_;omega)).trans (bt.o i j a1 a2));have H1:bY (∀ u ∈ (List.range (V.N k)).flatMap (P8.eight (V.O k)),u.oneCell'=true):=sK _ _;have HL:bY (((List.range (V.N k)).flatMap (P8.eight (V.O k))).length=V.N k * 8):=lG _ _;have KB:bY (Below wr.heap.size wr (wr.alloc (.cells #[] 69))):=kb;clear kb;go_wp2_with (at_builtin;refine jr rfl _ _ 127 rfl wr.heap.size 69 j8 (.agg #[zI 0,zI 0,zI 0,zI 0,zI 0,zI 0,zI 0,zI 0]) 8 64 Tryz.underlying127 b0 aR bd bc rfl (by decide) _ 0 [] rfl (World.ownsRow_lit wr #[] 0 (Ho _) (by simp) (by simp)) (zA yk 0) (V.N k) (V.N k) ((List.range (V.N k)).flatMap (P8.eight (V.O k))) rfl HL.o HC.o H1.o (by unfold maxLen;omega) (by omega) (by simp) ?_);intro v4 w4 ae bv an;obtain ⟨pa,pl,pc,ak⟩:=bP ae;subst ak;have P4:w4.ownsRow wr.heap.size 69 8 (.slice pa pl pc) (V.N k) ((List.range (V.N k)).flatMap (P8.eight (V.O k))):=by simpa using ae
   have aE:Below wr.heap.size wr w4:=KB.o.grown bv (by simp) (fun kk e=>by cases e;exact Ho _);obtain ⟨g,bj,_⟩:=nY P4 (fun e=>⟨_,an e⟩);have aX:bY (jT wr.heap.size w4.heap.size w4 (.slice pa pl pc) (V.N k) (V.O k) g):=bj;have K4:bY (Below wr.heap.size wr w4):=aE;have s4:wr.heap.size<=w4.heap.size:=aE.size;have bw:bY (w4.ownsRow gB 127 1 (.slice oa ol oc) k ((List.range k).map sl)):=World.ownsRow.kept OW.o (P8.jg aE) (by cases e:(Value.slice oa ol oc).ownBlock <;> simp);clear ae bv an bj P4 aE HC H1 HL KB a0 a1 a2 a3 a4 a5 f0 bS bt;have bi:=bw.o.alloc (.cells #[.slice pa pl pc] 127);go_wp2_with (at_builtin;refine wpList_append_own _ rfl _ _ 34 rfl gB 127 j6 (.slice none 0 0) 1 24 Tryz.underlying34 bN aN ba bb rfl (by decide) _ _ _ rfl bi (zA w4.heap.size 0) 1 1 [.slice pa pl pc] rfl rfl ?d1 ?d2 ?d3 ?d4 ?d5 ?_)
   case d1=>intro j u hj;match j,hj with | 0,hj=>(simp at hj;subst hj;simp [Addr.add]) | j+1,hj=>simp at hj
   case d2=>intro u hu;simp at hu;subst hu;rfl
   case d3=>unfold maxLen;omega
   case d4=>omega
   case d5=>simp;omega
   ·intro v' w5 af bp ad;obtain ⟨ua,ul,uc,aL⟩:=bP af;subst aL;have al:∀ kk,(Value.slice oa ol oc).ownBlock=some kk->gB<=kk/\kk<wr.heap.size:=fun kk e=>OW.o.lt kk e;have am:=(World.grownBy_alloc w4 (.cells #[.slice pa pl pc] 127) (Value.slice oa ol oc).ownBlock).trans bp;have s5:w4.heap.size<=w5.heap.size:=am.size;have aw:∀ x,x<w4.heap.size->(Value.slice oa ol oc).ownBlock≠some x->Sm w4 w5 x:=fun x h1 h2=>bG am h1 (fun e=>h2 e.symm);have b1:bY (∀ x,x<gB->Sm w3 w5 x):=fun x hx=>((SM.o x hx).trans (aj K4.o (by omega))).trans (aw x (by omega) (fun e=>by have:=al x e;omega));have bC:bY (w5.ownsRow gB 127 1 (.slice ua ul uc) (k+1) ((List.range (k+1)).map (fun j=>if j=k then (.slice pa pl pc) else sl j))):=by
     unfold bY;rw [su];exact af
    have bR:bY (Value.slice ua ul uc≠Value.slice none 0 0):=fun e=>ad e;have bB:bY (∀ j,j<k+1->jT gB w5.heap.size w5 ((fun j=>if j=k then (.slice pa pl pc) else sl j) j) (V.N j) (V.O j) ((fun j=>if j=k then g else xs j) j)):=fun j hj=>by
     dsimp only;by_cases e:j=k
     ·subst e;rw [if_pos rfl,if_pos rfl];exact (aX.o.move s5 (Ho _) (fun q1 q2=>aw g q2 (fun e=>by have:=al g e;omega))).low (by omega)
     rw [if_neg e,if_neg e];have u2:=DN.o j (by omega);by_cases e0:V.N j=0
     ·exact u2.zero e0
     exact u2.move (by omega) (Ho _) (fun q1 q2=>(aj K4.o q2).trans (aw (xs j) (by omega) (own_ne OW.o (by omega) (DN.o 0 (by omega)).1.shape u2.1 e0)))
    have bE:bY (∀ i j,i<j->j<k+1->V.N i≠0->V.N j≠0->(fun j=>if j=k then g else xs j) i≠(fun j=>if j=k then g else xs j) j):=fun i j bs hj n1 n2=>by
     dsimp only;by_cases e:j=k
     ·subst e;rw [if_pos rfl,if_neg (by omega)];have u1:=(DN.o i bs).1;have u2:=aX.o.1;rcases u1 with ⟨h,_⟩ | ⟨_,_,_,h1,_⟩
      ·exact absurd h n1
      rcases u2 with ⟨h,_⟩ | ⟨_,_,h2,_⟩
      ·exact absurd h n2
      omega
     rw [if_neg e,if_neg (by omega)];exact XX.o i j bs (by omega) n1 n2
    have bA:bY (Below w.heap.size w w5):=(ah BL.o K4.o).grown am (by omega) (fun kk e=>by have:=al kk e;omega);have z5:w3.heap.size<=w5.heap.size:=by omega
    clear af bp ad am al aw bi SM OW bw DN XX BL NN aX K4 A4;go_wp2;go_roundw
    case rel=>exact ⟨k+1,_,_,by omega,by go_num,bR.o,b1.o,bC.o,bB.o,bE.o,z5,bA.o⟩
    case measure=>simp [intOf];omega
  have bu:k=V.nO:=by omega
  have R4:bY (Six wr (w.heap.size+1) zN):=fun i hi=>by have h1:=SM.o (w.heap.size+1) (by omega) i;rw [h1.1,h1.2];exact R3.o i hi
  have W4:bY (RW w0.heap.size gB wr (.slice wa wl wc) V.nW V.W gW):=W3.o.move (Ho _) (Ho _) (by omega) (fun q1 q2=>SM.o gW q2);obtain ⟨gO,cO,bz,b9,b5,bx,FR⟩:∃ gO cO,Value.slice oa ol oc=zS gO V.nO cO/\gB<=gO/\gO<wr.heap.size/\bY (∀ j,j<V.nO->wr.cell? (zA gO j)=some (sl j))/\bY (∀ j,wr.frozen? (zA gO j)=false):=by
   rcases OW.o.2 with ⟨e,_⟩ | ⟨g,bL,b7,hv,_⟩
   ·exact absurd e NN.o
   have ho:=OW.o;rw [hv] at ho;refine ⟨g,bL,by rw [hv,bu],(ho.lt g rfl).1,(ho.lt g rfl).2,fun j hj=>?_,fun j=>ho.frozenAt j⟩;rw [ho.cellAt j (by omega),List.getElem?_map,List.getElem?_range (by omega)];rfl
  injection bz with e1 e2 e3;subst e1 e2 e3;have DD:bY (∀ j,j<V.nO->jT gB wr.heap.size wr (sl j) (V.N j) (V.O j) (xs j)/\(V.N j≠0->xs j≠gO)):=fun j hj=>⟨DN.o j (by omega),fun e0 e=>own_ne OW.o (by omega) (DN.o 0 (by omega)).1.shape (DN.o j (by omega)).1 e0 (by rw [e];rfl)⟩
  have XD:bY (∀ i j,i<j->j<V.nO->V.N i≠0->V.N j≠0->xs i≠xs j):=fun i j h1 h2=>XX.o i j h1 (by omega);have a7:¬ (k:Int)<V.nO:=by omega
  clear DN XX OW NN bu A3 R3 W3 O3 B3;have ai:((wr.setCell (zA w.heap.size 3) (zS gO V.nO oc)).alloc (.cells #[] 3)).heap.size=wr.heap.size+1:=by simp [World.setCell]
  have kw:Below w.heap.size w ((wr.setCell (zA w.heap.size 3) (zS gO V.nO oc)).alloc (.cells #[] 3)):=(BL.o.setCell (by simp) _).alloc (by rw [ay];omega) _;have HC:bY (∀ j u,((List.range V.nX).flatMap (one1 V.X))[j]? = some u->((wr.setCell (zA w.heap.size 3) (zS gO V.nO oc)).alloc (.cells #[] 3)).cell? (((zA bX 0):Addr).add j)=some u):=ku (fun i hi=>(kw.cell (p:=⟨bX,_,none⟩) (by show bX<_;omega)).trans (by rw [Nat.zero_add];exact HX.o.2 i hi));have H1:bY (∀ u ∈ (List.range V.nX).flatMap (one1 V.X),u.oneCell'=true):=ng _ _;have HL:bY (((List.range V.nX).flatMap (one1 V.X)).length=V.nX * 1):=kS _ _;have ag:((wr.setCell (zA w.heap.size 3) (zS gO V.nO oc)).alloc (.cells #[] 3)).ownsRow wr.heap.size 3 1 (zS wr.heap.size 0 0) 0 []:=by have q:=World.ownsRow_lit (base:=wr.heap.size) (e:=3) (size:=1) (wr.setCell (zA w.heap.size 3) (zS gO V.nO oc)) #[] 0 (by rw [ay];exact Ho _) (by simp) (by simp);rw [ay] at q;exact q
  have KW:bY (Below w.heap.size w ((wr.setCell (zA w.heap.size 3) (zS gO V.nO oc)).alloc (.cells #[] 3))):=kw;clear kw;have l9:w.heap.size<wr.heap.size:=by omega
  go_wp2_with (at_builtin;refine wpList_append_own _ rfl _ _ 26 rfl wr.heap.size 3 j3 (zI 0) 1 8 Tryz.underlying26 bl ar ap aq rfl (by decide) _ 0 [] rfl ag (zA bX 0) V.nX V.nX ((List.range V.nX).flatMap (one1 V.X)) rfl HL.o HC.o H1.o (by unfold maxLen;omega) (by omega) (by simp) ?_);intro v5 w5 aa hg ad;obtain ⟨xa,xl,xc,ak⟩:=bP aa;subst ak;have ab:w5.ownsRow wr.heap.size 3 1 (.slice xa xl xc) V.nX ((List.range V.nX).flatMap (one1 V.X)):=by simpa using aa
  obtain ⟨gX,ao,_⟩:=jD ab;have X5:bY (RI wr.heap.size w5.heap.size w5 (.slice xa xl xc) V.nX V.X gX):=ao;have K5:bY (∀ x,x<wr.heap.size->¬ x=w.heap.size->Sm wr w5 x):=fun x hx aW=>(Sm.trans (b:=(wr.setCell (zA w.heap.size 3) (zS gO V.nO oc))) (fun o=>⟨aJ (fun e=>aW e.1.symm),aB⟩) (aj (n:=wr.heap.size) ((Hr _ _).alloc (by rw [ay];exact Ho _) _) hx)).trans (bG hg (by rw [ai];omega) (fun e=>by injection e with e;replace e:x=wr.heap.size:=e;omega));have b6:wr.heap.size<=w5.heap.size:=by have:=hg.size;rw [ai] at this;omega
  have B5:bY (Below w.heap.size w w5):=KW.o.grown hg (by rw [ai];omega) (fun kk e=>by cases e;show w.heap.size<=wr.heap.size;omega);have A5:bY (Six w5 w.heap.size [zI V.c,.slice wa wl wc,zI V.g,zS gO V.nO oc,zS bX V.nX V.nX,zS bI V.nI V.nI]):=fun i hi=>by have h1:=bG hg (b:=w.heap.size) (by rw [ai];omega) (fun e=>by injection e with e;replace e:w.heap.size=wr.heap.size:=e;omega) i;rw [h1.1,h1.2];exact ((A4.o.set (j:=3) (v:=zS gO V.nO oc) rfl (by decide)).q (by rw [ay];omega) ((Hr _ _).alloc (Ho _) _)) i hi
  have R5:bY (Six w5 (w.heap.size+1) zN):=fun i hi=>by have h1:=K5.o (w.heap.size+1) (by omega) (by omega) i;rw [h1.1,h1.2];exact R4.o i hi
  clear aa ab hg ad ao HC H1 HL ag KW l9 ai A4 R4 a0 a1 a2 a3 a4 a5 f0;have ai:((w5.setCell (zA w.heap.size 4) (.slice xa xl xc)).alloc (.cells #[] 3)).heap.size=w5.heap.size+1:=by simp [World.setCell]
  have kw:Below w.heap.size w ((w5.setCell (zA w.heap.size 4) (.slice xa xl xc)).alloc (.cells #[] 3)):=(B5.o.setCell (by simp) _).alloc (by rw [ay];omega) _;have HC:bY (∀ j u,((List.range V.nI).flatMap (one1 V.I))[j]? = some u->((w5.setCell (zA w.heap.size 4) (.slice xa xl xc)).alloc (.cells #[] 3)).cell? (((zA bI 0):Addr).add j)=some u):=ku (fun i hi=>(kw.cell (p:=⟨bI,_,none⟩) (by show bI<_;omega)).trans (by rw [Nat.zero_add];exact HI.o.2 i hi));have H1:bY (∀ u ∈ (List.range V.nI).flatMap (one1 V.I),u.oneCell'=true):=ng _ _;have HL:bY (((List.range V.nI).flatMap (one1 V.I)).length=V.nI * 1):=kS _ _;have ag:((w5.setCell (zA w.heap.size 4) (.slice xa xl xc)).alloc (.cells #[] 3)).ownsRow w5.heap.size 3 1 (zS w5.heap.size 0 0) 0 []:=by have q:=World.ownsRow_lit (base:=w5.heap.size) (e:=3) (size:=1) (w5.setCell (zA w.heap.size 4) (.slice xa xl xc)) #[] 0 (by rw [ay];exact Ho _) (by simp) (by simp);rw [ay] at q;exact q
  have KW:bY (Below w.heap.size w ((w5.setCell (zA w.heap.size 4) (.slice xa xl xc)).alloc (.cells #[] 3))):=kw;clear kw;obtain ⟨a0,a1,a2,a3,a4,a5⟩:=A5.o.a6;have f0:=A5.o.f6;have l9:w.heap.size<w5.heap.size:=by omega
  go_wp2_with (at_builtin;refine wpList_append_own _ rfl _ _ 26 rfl w5.heap.size 3 j3 (zI 0) 1 8 Tryz.underlying26 bl ar ap aq rfl (by decide) _ 0 [] rfl ag (zA bI 0) V.nI V.nI ((List.range V.nI).flatMap (one1 V.I)) rfl HL.o HC.o H1.o (by unfold maxLen;omega) (by omega) (by simp) ?_);intro v5 w7 aa hg ad;obtain ⟨ia,il,ic,ak⟩:=bP aa;subst ak;have ab:w7.ownsRow w5.heap.size 3 1 (.slice ia il ic) V.nI ((List.range V.nI).flatMap (one1 V.I)):=by simpa using aa
  obtain ⟨gI,ao,_⟩:=jD ab;have I7:bY (RI w5.heap.size w7.heap.size w7 (.slice ia il ic) V.nI V.I gI):=ao;have K7:bY (∀ x,x<w5.heap.size->¬ x=w.heap.size->Sm w5 w7 x):=fun x hx aW=>(Sm.trans (b:=(w5.setCell (zA w.heap.size 4) (.slice xa xl xc))) (fun o=>⟨aJ (fun e=>aW e.1.symm),aB⟩) (aj (n:=w5.heap.size) ((Hr _ _).alloc (by rw [ay];exact Ho _) _) hx)).trans (bG hg (by rw [ai];omega) (fun e=>by injection e with e;replace e:x=w5.heap.size:=e;omega));have b3:w5.heap.size<=w7.heap.size:=by have:=hg.size;rw [ai] at this;omega
  have B7:bY (Below w.heap.size w w7):=KW.o.grown hg (by rw [ai];omega) (fun kk e=>by cases e;show w.heap.size<=w5.heap.size;omega);have A7:bY (Six w7 w.heap.size [zI V.c,.slice wa wl wc,zI V.g,zS gO V.nO oc,.slice xa xl xc,zS bI V.nI V.nI]):=fun i hi=>by have h1:=bG hg (b:=w.heap.size) (by rw [ai];omega) (fun e=>by injection e with e;replace e:w.heap.size=w5.heap.size:=e;omega) i;rw [h1.1,h1.2];exact ((A5.o.set (j:=4) (v:=.slice xa xl xc) rfl (by decide)).q (by rw [ay];omega) ((Hr _ _).alloc (Ho _) _)) i hi
  have R7:bY (Six w7 (w.heap.size+1) zN):=fun i hi=>by have h1:=K7.o (w.heap.size+1) (by omega) (by omega) i;rw [h1.1,h1.2];exact R5.o i hi
  clear aa ab hg ad ao HC H1 HL ag KW l9 ai A5 R5 a0 a1 a2 a3 a4 a5 f0;obtain ⟨a0,a1,a2,a3,a4,a5⟩:=A7.o.a6;have f0:=A7.o.f6;obtain ⟨r0,r1,r2,r3,r4,r5⟩:=R7.o.a6;obtain ⟨q0,q1,q2,q3,q4,q5⟩:=R7.o.f6;have b2:w.heap.size+1<w7.heap.size:=by omega
  have cc:w.heap.size<w7.heap.size:=by omega
  go_wp2;refine Hw (v:=.agg #[zI V.c,.slice wa wl wc,zI V.g,zS gO V.nO oc,.slice xa xl xc,.slice ia il ic]) (by simp [results,Tryz.results71,go_sem,r0,r1,r2,r3,r4,r5]) rfl ?_;have ac:(aG (w7.setCell (zA w.heap.size 5) (.slice ia il ic)) (w.heap.size+1) (zI V.c) (.slice wa wl wc) (zI V.g) (zS gO V.nO oc) (.slice xa xl xc) (.slice ia il ic)).heap.size=w7.heap.size:=by rw [au,ay]
  have bk:Below w.heap.size w (aG (w7.setCell (zA w.heap.size 5) (.slice ia il ic)) (w.heap.size+1) (zI V.c) (.slice wa wl wc) (zI V.g) (zS gO V.nO oc) (.slice xa xl xc) (.slice ia il ic)):=ax (B7.o.setCell (by simp) _) (Ht w.heap.size) (zI V.c) (.slice wa wl wc) (zI V.g) (zS gO V.nO oc) (.slice xa xl xc) (.slice ia il ic);have SF:∀ x,¬ x=w.heap.size+1->¬ x=w.heap.size->Sm w7 (aG (w7.setCell (zA w.heap.size 5) (.slice ia il ic)) (w.heap.size+1) (zI V.c) (.slice wa wl wc) (zI V.g) (zS gO V.nO oc) (.slice xa xl xc) (.slice ia il ic)) x:=fun x h1 h2=>Sm.trans (fun o=>⟨aJ (fun e=>h2 e.1.symm),aB⟩) (aH (fun e=>h1 e.symm) (zI V.c) (.slice wa wl wc) (zI V.g) (zS gO V.nO oc) (.slice xa xl xc) (.slice ia il ic));refine ⟨⟨_,rfl,?_,?_⟩,bk⟩
  ·show aV w.heap.size (aG (w7.setCell (zA w.heap.size 5) (.slice ia il ic)) (w.heap.size+1) (zI V.c) (.slice wa wl wc) (zI V.g) (zS gO V.nO oc) (.slice xa xl xc) (.slice ia il ic)).heap.size (aG (w7.setCell (zA w.heap.size 5) (.slice ia il ic)) (w.heap.size+1) (zI V.c) (.slice wa wl wc) (zI V.g) (zS gO V.nO oc) (.slice xa xl xc) (.slice ia il ic)) _ _;rw [ac];clear r0 r1 r2 r3 r4 r5 q0 q1 q2 q3 q4 q5 a0 a1 a2 a3 a4 a5 f0 bk;have S5:∀ x,x<w5.heap.size->w0.heap.size<=x->Sm w5 (aG (w7.setCell (zA w.heap.size 5) (.slice ia il ic)) (w.heap.size+1) (zI V.c) (.slice wa wl wc) (zI V.g) (zS gO V.nO oc) (.slice xa xl xc) (.slice ia il ic)) x:=fun x h1 h2=>(K7.o x h1 (by omega)).trans (SF x (by omega) (by omega));have S3:∀ x,x<wr.heap.size->w0.heap.size<=x->Sm wr (aG (w7.setCell (zA w.heap.size 5) (.slice ia il ic)) (w.heap.size+1) (zI V.c) (.slice wa wl wc) (zI V.g) (zS gO V.nO oc) (.slice xa xl xc) (.slice ia il ic)) x:=fun x h1 h2=>(K5.o x h1 (by omega)).trans (S5 x (by omega) h2);have az:V.nW≠0->gW<gB:=fun e=>by rcases W4.o with ⟨h,_⟩ | ⟨_,_,_,h,_⟩;exact absurd h e;exact h
   have aD:V.nX≠0->wr.heap.size<=gX/\gX<w5.heap.size:=fun e=>by rcases X5.o with ⟨h,_⟩ | ⟨_,_,h,h2,_⟩;exact absurd h e;exact ⟨h,h2⟩
   have aI:V.nI≠0->w5.heap.size<=gI/\gI<w7.heap.size:=fun e=>by rcases I7.o with ⟨h,_⟩ | ⟨_,_,h,h2,_⟩;exact absurd h e;exact ⟨h,h2⟩
   have aM:∀ k,k<V.nO->V.N k≠0->gB<=xs k/\xs k<wr.heap.size:=fun k hk e=>by rcases (DD.o k hk).1.1 with ⟨h,_⟩ | ⟨_,_,h,h2,_⟩;exact absurd h e;exact ⟨h,h2⟩
   refine jL (gW:=gW) (gO:=gO) (gX:=gX) (gI:=gI) (sl:=sl) (xs:=xs) (W4.o.move (by omega) (by omega) (Hl ac.symm) (fun q1 q2=>S3 gW (by omega) q1)) (by omega) (by omega) (Hl ac.symm) (fun k hk=>⟨(S3 gO (by omega) (by omega) k).1.trans (bx.o k hk),((DD.o k hk).1.1.move (by omega) (Hl ac.symm) (fun q1 q2=>S3 _ q2 (by omega))).low (by omega)⟩) (X5.o.move (by omega) (by omega) (Hl ac.symm) (fun q1 q2=>S5 gX q2 (by omega))) (I7.o.move (by omega) (Ho _) (Hl ac.symm) (fun q1 q2=>SF gI (by omega) (by omega))) (fun e=>by have:=az e;omega) (fun e e2=>by have:=az e;have:=aD e2;omega) (fun e e2=>by have:=az e;have:=aI e2;omega) (fun e=>by have:=aD e;omega) (fun e=>by have:=aI e;omega) (fun e e2=>by have:=aD e;have:=aI e2;omega) (fun k hk e=>⟨fun e2=>by have:=aM k hk e;have:=az e2;omega,(DD.o k hk).2 e,fun e2=>by have:=aM k hk e;have:=aD e2;omega,fun e2=>by have:=aM k hk e;have:=aI e2;omega⟩) XD.o
  have S5:∀ x,x<w5.heap.size->w0.heap.size<=x->Sm w5 (aG (w7.setCell (zA w.heap.size 5) (.slice ia il ic)) (w.heap.size+1) (zI V.c) (.slice wa wl wc) (zI V.g) (zS gO V.nO oc) (.slice xa xl xc) (.slice ia il ic)) x:=fun x h1 h2=>(K7.o x h1 (by omega)).trans (SF x (by omega) (by omega));have S3:∀ x,x<wr.heap.size->w0.heap.size<=x->Sm wr (aG (w7.setCell (zA w.heap.size 5) (.slice ia il ic)) (w.heap.size+1) (zI V.c) (.slice wa wl wc) (zI V.g) (zS gO V.nO oc) (.slice xa xl xc) (.slice ia il ic)) x:=fun x h1 h2=>(K5.o x h1 (by omega)).trans (S5 x (by omega) h2);intro x0 x1 x2 g n k x4 x5 e;have e3:=(kV e).2.1;simp only [Value.slice.injEq,Option.some.injEq,Addr.mk.injEq] at e3;obtain ⟨⟨rfl,_,_⟩,rfl,_⟩:=e3;refine ⟨by omega,?_,fun j hj=>(S3 _ (by omega) (by omega) j).2.trans (FR.o j),fun j u' a' m' c' hj hu aO=>?_⟩
  ·have h1:=ac;simp only [aG] at h1;show _<(aG _ _ _ _ _ _ _ _).heap.size;rw [au];show _<(w7.setCell _ _).heap.size;rw [ay];omega
  have hc:=(S3 _ (by omega) (by omega) j).1.trans (bx.o j hj);obtain rfl:=Option.some.inj (hc.symm.trans hu);have em:m'=V.N j:=by
   obtain ⟨a2,c2,e2⟩:=(DD.o j hj).1.1.shape';rw [e2] at aO;simp only [Value.slice.injEq] at aO;exact aO.2.1.symm
  subst em;refine (DD.o j hj).1.2.sm (by omega) ?_ (fun g' c3 e' ca q1 q2=>S3 _ q2 (by omega));show _<=(aG _ _ _ _ _ _ _ _).heap.size;rw [au];show _<=(w7.setCell _ _).heap.size;rw [ay];omega
theorem Eu {c d aa:Int} {m:Nat} {Z:Nat->Nat->Int} {n:Nat} (h:P8.jP c d aa m Z n=true):∀ k,k<n->Z k 0=aa - m+k:=fun k hk=>by
 cases e:P8.fV c d aa m Z k
 ·rw [P8.kT hk e] at h
  cases h
 simp [P8.fV] at e
 exact e.2
theorem Cf {c d aa:Int} {n:Nat} {Z:Nat->Nat->Int} (h:P8.eP c d aa n Z=true):(n:Int)<=aa/\∀ k,k<n->Z k 0=aa - n+k:=by
 simp only [P8.eP,Bool.and_eq_true,decide_eq_true_eq] at h;exact ⟨h.2.2.1,Eu h.2.2.2⟩
theorem Ci {Z:Nat->Nat->Int} {n:Nat} {z aa:Int} (h:∀ k,k<n->Z k 0=aa - n+k):(P8.rest Z n z).length=n↔n=0∨z<=aa - n:=by
 have e:(P8.rest Z n z).length=n↔∀ k ∈ List.range n,decide (z<=Z k 0)=true:=by
  have:=List.length_filter_eq_length_iff (p:=fun k=>decide (z<=Z k 0)) (l:=List.range n);rw [List.length_range] at this;exact this
 rw [e];constructor
 ·intro q;by_cases h0:n=0
  ·exact .inl h0
  have:=q 0 (List.mem_range.2 (by omega));rw [h 0 (by omega)] at this;simp at this;exact .inr this
 intro q k hk;have hk:=List.mem_range.1 hk;rw [h k hk];rcases q with q | q
 ·omega
 simp;omega
theorem DV {Z:Nat->Nat->Int} {n:Nat} {z aa:Int} (h:∀ k,k<n->Z k 0=aa - n+k) (hz:¬ z > aa):((P8.rest Z n z).length=n)↔z<=aa - n:=by
 rw [Ci h];constructor
 ·rintro (q | q)
  ·subst q;simp;omega
  exact q
 exact .inr
def CV.sZ (V:CV) (s:Nat) (z:Int):CV :=
 { V with N:=fun k=>if k=s then (P8.rest (V.O s) (V.N s) z).length else V.N k,O:=fun k=>if k=s then fun i j=>V.O s (P8.rest (V.O s) (V.N s) z)[i]! j else V.O k }
def jk (V:CV) (q:Nat) (z:Int):Bool:=!(decide (V.X q<z) || decide ((P8.rest (V.O q) (V.N q) z).length=V.N q))
def CV.after (V:CV) (q:Nat) (z:Int):CV:=if jk V q z then V.sZ q z else V
theorem RW.go {lo hi ab aa:Nat} {w w':World} {v:Value} {n:Nat} {Z:Nat->Nat->Int} {g:Nat} (h:RW lo hi w v n Z g) (h0:ab<=lo) (h1:hi<=aa) (h2:aa<=w'.heap.size) (k:n≠0->lo<=g->g<hi->Sm w w' g):RW ab aa w' v n Z g:=by
 by_cases e:n=0
 ·rcases h with h | ⟨c,a1,_⟩
  ·exact .inl h
  exact .inl ⟨e,_,c,by rw [a1,e]⟩
 rcases h with h | ⟨c,a1,a2,a3,a4,a5⟩
 ·exact absurd h.1 e
 exact .inr ⟨c,a1,by omega,by omega,h2,uY a5 (k e a2 a3)⟩
theorem RW.in {lo hi:Nat} {w:World} {v:Value} {n:Nat} {Z:Nat->Nat->Int} {g:Nat} (h:RW lo hi w v n Z g) (e:n≠0):lo<=g/\g<hi:=by
 rcases h with h | ⟨c,a1,a2,a3,_⟩
 ·exact absurd h.1 e
 exact ⟨a2,a3⟩
theorem RW.is {lo hi:Nat} {w:World} {v:Value} {n:Nat} {Z:Nat->Nat->Int} {g:Nat} (h:RW lo hi w v n Z g):∃ a c,v=.slice a n c/\(n≠0->a=some (zA g 0)):=by
 rcases h with ⟨e,a,c,h⟩ | ⟨c,h,_⟩
 ·exact ⟨a,c,by rw [h,e],fun h=>absurd e h⟩
 exact ⟨_,c,h,fun _=>rfl⟩
theorem RP.go {lo hi ab aa:Nat} {w w':World} {v:Value} {n:Nat} {Z:Nat->Nat->Int} {g:Nat} (h:RP lo hi w v n Z g) (h0:ab<=lo) (h1:hi<=aa) (h2:aa<=w'.heap.size) (k:n≠0->lo<=g->g<hi->Sm w w' g):RP ab aa w' v n Z g:=by
 by_cases e:n=0
 ·rcases h with h | ⟨c,a1,_⟩
  ·exact .inl h
  exact .inl ⟨e,_,c,by rw [a1,e]⟩
 rcases h with h | ⟨c,a1,a2,a3,a4,a5⟩
 ·exact absurd h.1 e
 exact .inr ⟨c,a1,by omega,by omega,h2,nK a5 (k e a2 a3)⟩
theorem RP.in {lo hi:Nat} {w:World} {v:Value} {n:Nat} {Z:Nat->Nat->Int} {g:Nat} (h:RP lo hi w v n Z g) (e:n≠0):lo<=g/\g<hi:=by
 rcases h with h | ⟨c,a1,a2,a3,_⟩
 ·exact absurd h.1 e
 exact ⟨a2,a3⟩
theorem RP.is {lo hi:Nat} {w:World} {v:Value} {n:Nat} {Z:Nat->Nat->Int} {g:Nat} (h:RP lo hi w v n Z g):∃ a c,v=.slice a n c/\(n≠0->a=some (zA g 0)):=by
 rcases h with ⟨e,a,c,h⟩ | ⟨c,h,_⟩
 ·exact ⟨a,c,by rw [h,e],fun h=>absurd e h⟩
 exact ⟨_,c,h,fun _=>rfl⟩
theorem jT.go {lo hi ab aa:Nat} {w w':World} {v:Value} {n:Nat} {Z:Nat->Nat->Int} {g:Nat} (h:jT lo hi w v n Z g) (h0:ab<=lo) (h1:hi<=aa) (h2:aa<=w'.heap.size) (k:n≠0->lo<=g->g<hi->Sm w w' g):jT ab aa w' v n Z g :=
 ⟨h.1.go h0 h1 h2 k,h.2.sm h0 h1 (fun g' c e hn a b=>by have e2:=h.1.blk hn e;subst e2;exact k hn a b)⟩
theorem jT.in {lo hi:Nat} {w:World} {v:Value} {n:Nat} {Z:Nat->Nat->Int} {g:Nat} (h:jT lo hi w v n Z g) (e:n≠0):lo<=g/\g<hi:=h.1.in e
theorem jT.is {lo hi:Nat} {w:World} {v:Value} {n:Nat} {Z:Nat->Nat->Int} {g:Nat} (h:jT lo hi w v n Z g):∃ a c,v=.slice a n c/\(n≠0->a=some (zA g 0)):=h.1.is
theorem RI.go {lo hi ab aa:Nat} {w w':World} {v:Value} {n:Nat} {Z:Nat->Int} {g:Nat} (h:RI lo hi w v n Z g) (h0:ab<=lo) (h1:hi<=aa) (h2:aa<=w'.heap.size) (k:n≠0->lo<=g->g<hi->Sm w w' g):RI ab aa w' v n Z g:=by
 by_cases e:n=0
 ·rcases h with h | ⟨c,a1,_⟩
  ·exact .inl h
  exact .inl ⟨e,_,c,by rw [a1,e]⟩
 rcases h with h | ⟨c,a1,a2,a3,a4,a5⟩
 ·exact absurd h.1 e
 exact .inr ⟨c,a1,by omega,by omega,h2,qZ a5 (k e a2 a3)⟩
theorem RI.in {lo hi:Nat} {w:World} {v:Value} {n:Nat} {Z:Nat->Int} {g:Nat} (h:RI lo hi w v n Z g) (e:n≠0):lo<=g/\g<hi:=by
 rcases h with h | ⟨c,a1,a2,a3,_⟩
 ·exact absurd h.1 e
 exact ⟨a2,a3⟩
theorem RI.is {lo hi:Nat} {w:World} {v:Value} {n:Nat} {Z:Nat->Int} {g:Nat} (h:RI lo hi w v n Z g):∃ a c,v=.slice a n c/\(n≠0->a=some (zA g 0)):=by
 rcases h with ⟨e,a,c,h⟩ | ⟨c,h,_⟩
 ·exact ⟨a,c,by rw [h,e],fun h=>absurd e h⟩
 exact ⟨_,c,h,fun _=>rfl⟩
/-- A scene's bound: it lies from block l on, and not within k0 .. k1. -/
structure Lo where
 l:Nat
 k0:Nat
 k1:Nat
structure KK (lo:Lo) (w:World) (s b gW gO gX gI nW nX nI nO:Nat) (N xs:Nat->Nat):Prop where
 k:lo.k0<=lo.k1/\lo.k1<=w.heap.size
 s:s<lo.k0∨lo.k1<=s
 b:b<lo.k0∨lo.k1<=b
 O:gO<lo.k0∨lo.k1<=gO
 W:nW≠0->gW<lo.k0∨lo.k1<=gW
 X:nX≠0->gX<lo.k0∨lo.k1<=gX
 I:nI≠0->gI<lo.k0∨lo.k1<=gI
 x:∀ k,k<nO->N k≠0->xs k<lo.k0∨lo.k1<=xs k
theorem KK.up {lo:Lo} {w w':World} {s b gW gO gX gI nW nX nI nO:Nat} {N xs:Nat->Nat} (h:KK lo w s b gW gO gX gI nW nX nI nO N xs) (hz:w.heap.size<=w'.heap.size):KK lo w' s b gW gO gX gI nW nX nI nO N xs:=⟨⟨h.k.1,Hq h.k.2 hz⟩,h.s,h.b,h.O,h.W,h.X,h.I,h.x⟩
def Sc (w:World) (c d:Int) (s b:Nat) (lo:Lo) (V:CV) (n:Nat) (M:Int->Option (Nat->Int)):Prop :=
 ∃ (aW:Option Addr) (kW kO:Nat) (aX:Option Addr) (kX:Nat) (aI:Option Addr) (kI gW gO gX gI:Nat) (sl:Nat->Value) (xs:Nat->Nat),
  qH w s [zI c,zI d,zI V.c,.slice aW V.nW kW,zI V.g,zS gO V.nO kO,.slice aX V.nX kX,.slice aI V.nI kI,.map (some b)]/\RW lo.l w.heap.size w (.slice aW V.nW kW) V.nW V.W gW/\RI lo.l w.heap.size w (.slice aX V.nX kX) V.nX V.X gX/\RI lo.l w.heap.size w (.slice aI V.nI kI) V.nI V.I gI /\
  (∀ k,k<V.nO->w.cell? (zA gO k)=some (sl k)/\w.frozen? (zA gO k)=false/\jT lo.l w.heap.size w (sl k) (V.N k) (V.O k) (xs k))/\Wm w b n M /\
  (lo.l<=gO/\gO<w.heap.size/\lo.l<=s/\s<w.heap.size/\lo.l<=b/\¬ s=b/\¬ gO=s/\¬ gO=b) /\
  ((V.nW≠0->¬ gW=s/\¬ gW=b/\¬ gW=gO)/\(V.nX≠0->¬ gX=s/\¬ gX=b/\¬ gO=gX)/\(V.nI≠0->¬ gI=s/\¬ gI=b/\¬ gO=gI)/\(V.nW≠0->V.nX≠0->¬ gW=gX)/\(V.nW≠0->V.nI≠0->¬ gW=gI)/\(V.nX≠0->V.nI≠0->¬ gX=gI)) /\
  (∀ k,k<V.nO->V.N k≠0->(¬ xs k=s/\¬ xs k=b/\¬ xs k=gO)/\(V.nW≠0->¬ xs k=gW)/\(V.nX≠0->¬ xs k=gX)/\(V.nI≠0->¬ xs k=gI)) /\
  (∀ i j,i<j->j<V.nO->V.N i≠0->V.N j≠0->¬ xs i=xs j)/\KK lo w s b gW gO gX gI V.nW V.nX V.nI V.nO V.N xs
theorem Sc.kk {w:World} {c d:Int} {s b:Nat} {lo:Lo} {V:CV} {n:Nat} {M:Int->Option (Nat->Int)} (h:Sc w c d s b lo V n M):lo.k1<=w.heap.size:=by
 obtain ⟨aW,kW,kO,aX,kX,aI,kI,gW,gO,gX,gI,sl,xs,_,_,_,_,_,_,_,_,_,_,aa⟩:=h;exact aa.k.2
theorem He.sc {w:World} {c d:Int} {s b lc hc lo:Nat} {V:CV} {n:Nat} {M:Int->Option (Nat->Int)} (h:He w c d s b lc hc V n M) (h0:V.nO≠0) (h1:lo<=lc) (h2:lo<=s) (h3:lo<=b):Sc w c d s b ⟨lo,w.heap.size,w.heap.size⟩ V n M:=by
 obtain ⟨⟨aW,kW,aO,kO,aX,kX,aI,kI,hN,hO,hT⟩,hM,ac,af,al,ab,ai,ak⟩:=h;obtain ⟨vW,vO,vX,vI,gW,gO,gX,gI,sl,xs,e,rW,rO,rX,rI,hd,ad,ae⟩:=hO;obtain ⟨rfl,rfl,rfl,rfl⟩:=kV e;rcases rO with ⟨e0,_⟩ | ⟨co,e1,l1,l2,_,aa⟩
 ·exact absurd e0 h0
 simp only [Value.slice.injEq,true_and] at e1;obtain ⟨rfl,rfl⟩:=e1;obtain ⟨t1,t2,t3,t4⟩:=hT _ _ _ gO V.nO kO _ _ rfl;have sm:∀ g,Sm w w g:=fun g=>Sm.refl w g;refine ⟨aW,kW,kO,aX,kX,aI,kI,gW,gO,gX,gI,sl,xs,hN,rW.go h1 ab (Ho _) (fun _ _ _=>sm _),rX.go h1 ab (Ho _) (fun _ _ _=>sm _),rI.go h1 ab (Ho _) (fun _ _ _=>sm _),fun k hk=>⟨(aa k hk).1,t3 k hk,jT.go ⟨(aa k hk).2,by obtain ⟨a2,c2,e2⟩:=(aa k hk).2.shape';exact t4 k _ a2 (V.N k) c2 hk (aa k hk).1 e2⟩ h1 ab (Ho _) (fun _ _ _=>sm _)⟩,hM,⟨by show lo<=gO;omega,by omega,h2,ac,h3,af,by omega,by omega⟩,⟨fun e=>?_,fun e=>?_,fun e=>?_,fun _ _=>hd.2.1,fun _ _=>hd.2.2.1,fun _ _=>hd.2.2.2.2.2⟩,fun k hk e=>?_,fun i j ag hj _ _=>ae i j (by omega) hj (by omega),?_⟩
 ·have:=rW.in e;exact ⟨by omega,by omega,hd.1⟩
 ·have:=rX.in e;exact ⟨by omega,by omega,hd.2.2.2.1⟩
 ·have:=rI.in e;exact ⟨by omega,by omega,hd.2.2.2.2.1⟩
 ·have:=(aa k hk).2.in e;have h:=ad k hk;exact ⟨⟨by omega,by omega,h.2.1⟩,fun _=>h.1,fun _=>h.2.2.1,fun _=>h.2.2.2⟩
 exact ⟨⟨Ho _,Ho _⟩,.inl ac,.inl hM.lt,.inl (by show gO<w.heap.size;omega),fun e=>.inl (by have:=rW.in e;show gW<w.heap.size;omega),fun e=>.inl (by have:=rX.in e;show gX<w.heap.size;omega),fun e=>.inl (by have:=rI.in e;show gI<w.heap.size;omega),fun k hk e=>.inl (by have:=(aa k hk).2.in e;show xs k<w.heap.size;omega)⟩
theorem qH.sm {w w':World} {s:Nat} {l:List Value} (h:qH w s l) (k:Sm w w' s):qH w' s l:=fun i hi=>by rw [(k i).1,(k i).2];exact h i hi
theorem Sc.q {w w':World} {c d:Int} {s b:Nat} {lo:Lo} {V:CV} {n:Nat} {M:Int->Option (Nat->Int)} (h:Sc w c d s b lo V n M) (hb:Below w.heap.size w w'):Sc w' c d s b lo V n M:=by
 obtain ⟨aW,kW,kO,aX,kX,aI,kI,gW,gO,gX,gI,sl,xs,hN,rW,rX,rI,hO,hM,⟨l1,l2,l3,l4,l5,l6,l7,l8⟩,hd,aa,ab,ac⟩:=h;have hz:=hb.size
 exact ⟨aW,kW,kO,aX,kX,aI,kI,gW,gO,gX,gI,sl,xs,hN.sm (aj hb l4),rW.go (Ho _) hz (Ho _) (fun _ _ h=>aj hb h),rX.go (Ho _) hz (Ho _) (fun _ _ h=>aj hb h),rI.go (Ho _) hz (Ho _) (fun _ _ h=>aj hb h),
  fun k hk=>⟨(aj hb l2 k).1.trans (hO k hk).1,(aj hb l2 k).2.trans (hO k hk).2.1,(hO k hk).2.2.go (Ho _) hz (Ho _) (fun _ _ h=>aj hb h)⟩,hM.q hM.lt hb,⟨l1,by omega,l3,by omega,l5,l6,l7,l8⟩,hd,aa,ab,ac.up hz⟩
theorem Sc.reach {w w':World} {c d:Int} {s b l:Nat} {V:CV} {n:Nat} {M:Int->Option (Nat->Int)} (h:Sc w c d s b ⟨l,w.heap.size,w.heap.size⟩ V n M) (hb:Below w.heap.size w w'):Sc w' c d s b ⟨l,w.heap.size,w'.heap.size⟩ V n M:=by
 obtain ⟨aW,kW,kO,aX,kX,aI,kI,gW,gO,gX,gI,sl,xs,hN,rW,rX,rI,hO,hM,⟨l1,l2,l3,l4,l5,l6,l7,l8⟩,hd,aa,ab,ac⟩:=h;have hz:=hb.size
 exact ⟨aW,kW,kO,aX,kX,aI,kI,gW,gO,gX,gI,sl,xs,hN.sm (aj hb l4),rW.go (Ho _) hz (Ho _) (fun _ _ h=>aj hb h),rX.go (Ho _) hz (Ho _) (fun _ _ h=>aj hb h),rI.go (Ho _) hz (Ho _) (fun _ _ h=>aj hb h),
  fun k hk=>⟨(aj hb l2 k).1.trans (hO k hk).1,(aj hb l2 k).2.trans (hO k hk).2.1,(hO k hk).2.2.go (Ho _) hz (Ho _) (fun _ _ h=>aj hb h)⟩,hM.q hM.lt hb,⟨l1,by omega,l3,by omega,l5,l6,l7,l8⟩,hd,aa,ab,⟨hz,Ho _⟩,.inl l4,.inl hM.lt,.inl l2,fun e=>.inl (rW.in e).2,fun e=>.inl (rX.in e).2,fun e=>.inl (rI.in e).2,fun k hk e=>.inl ((hO k hk).2.2.in e).2⟩
end Go.Proofs.YtngaboipleimcabGreatDoor
namespace Go.Proofs
open Go.Shelf
def Tryz.keysA_ren:Go.Shelf.Ren:=⟨fun | 7=>117 | 10=>140 | n=>n,fun | 23=>133 | 26=>3 | 3=>67 | 28=>162 | 0=>0 | 27=>161 | 33=>83 | 4=>4 | n=>n,fun | n=>n⟩
theorem Tryz.keysA:Go.Proofs.SlLaysZI.n7 Tryz.prog Tryz.keysA_ren:={
 mixed:=by kernel_rfl
 f7:=⟨Tryz.f117.name,by decide,Tryz.func117.trans (congrArg some (by kernel_rfl))⟩
 f10:=⟨Tryz.f140.name,by decide,Tryz.func140.trans (congrArg some (by kernel_rfl))⟩
 t0:=Tryz.underlying0
 a0:=Tryz.isAgg0
 z0:=Tryz.sizeOf0
 v0:=Tryz.zeroValue0
 t4:=Tryz.underlying4
 a4:=Tryz.isAgg4
 z4:=Tryz.sizeOf4
 v4:=Tryz.zeroValue4
 t23:=Tryz.underlying133
 a23:=Tryz.isAgg133
 z23:=Tryz.sizeOf133
 v23:=Tryz.zeroValue133
 t26:=Tryz.underlying3
 a26:=Tryz.isAgg3
 z26:=Tryz.sizeOf3
 v26:=Tryz.zeroValue3
 t27:=Tryz.underlying161
 a27:=Tryz.isAgg161
 z27:=Tryz.sizeOf161
 v27:=Tryz.zeroValue161
 t28:=Tryz.underlying162
 a28:=Tryz.isAgg162
 z28:=Tryz.sizeOf162
 v28:=Tryz.zeroValue162
 t33:=Tryz.underlying83
 a33:=Tryz.isAgg83
 z33:=Tryz.sizeOf83
 v33:=Tryz.zeroValue83 }
def Tryz.sortedA_ren:Go.Shelf.Ren:=⟨fun | 6=>116 | 8=>138 | 9=>139 | 11=>158 | 13=>160 | 12=>159 | 23=>181 | 24=>182 | 14=>172 | 15=>173 | 16=>174 | 17=>175 | 18=>176 | 19=>177 | 20=>178 | 21=>179 | 22=>180 | 25=>193 | 26=>194 | 27=>195 | 28=>196 | 29=>197 | 30=>198 | 31=>203 | n=>n,fun | 26=>3 | 28=>162 | 24=>26 | 0=>0 | 3=>3 | 37=>196 | 48=>232 | 50=>234 | 4=>4 | 40=>226 | 39=>225 | 45=>152 | 5=>5 | 9=>9 | 51=>250 | 55=>254 | 57=>270 | 58=>271 | 33=>83 | n=>n,fun | n=>n⟩
theorem Tryz.sortedA:Go.Proofs.SlLaysZI.n6 Tryz.prog Tryz.sortedA_ren:={
 mixed:=by kernel_rfl
 f6:=⟨Tryz.f116.name,by decide,Tryz.func116.trans (congrArg some (by kernel_rfl))⟩
 f8:=⟨Tryz.f138.name,by decide,Tryz.func138.trans (congrArg some (by kernel_rfl))⟩
 f11:=⟨Tryz.f158.name,by decide,Tryz.func158.trans (congrArg some (by kernel_rfl))⟩
 t0:=Tryz.underlying0
 a0:=Tryz.isAgg0
 z0:=Tryz.sizeOf0
 v0:=Tryz.zeroValue0
 t24:=Tryz.underlying26
 a24:=Tryz.isAgg26
 z24:=Tryz.sizeOf26
 v24:=Tryz.zeroValue26
 t26:=Tryz.underlying3
 a26:=Tryz.isAgg3
 z26:=Tryz.sizeOf3
 v26:=Tryz.zeroValue3
 t28:=Tryz.underlying162
 a28:=Tryz.isAgg162
 z28:=Tryz.sizeOf162
 v28:=Tryz.zeroValue162
 i26:=by kernel_rfl }
def Tryz.AB:Go.Shelf.Ren:=⟨fun | 5=>139 | 8=>160 | 7=>159 | 19=>181 | 20=>182 | 10=>172 | 11=>173 | 12=>174 | 13=>175 | 14=>176 | 15=>177 | 16=>178 | 17=>179 | 18=>180 | 30=>193 | 31=>194 | 32=>195 | 33=>196 | 34=>197 | 35=>198 | 40=>203 | n=>n,fun | 23=>26 | 25=>3 | 3=>3 | 32=>196 | 22=>26 | 0=>0 | 44=>232 | 46=>234 | 4=>4 | 36=>226 | 35=>225 | 41=>152 | 5=>5 | 9=>9 | 53=>250 | 57=>254 | 63=>270 | 64=>271 | n=>n,fun | n=>n⟩
theorem Tryz.sortA:Go.Proofs.SlLaysM.n5 Tryz.prog Tryz.AB:={
 mixed:=by kernel_rfl
 f5:=⟨Tryz.f139.name,by decide,Tryz.func139.trans (congrArg some (by kernel_rfl))⟩
 f7:=⟨Tryz.f159.name,by decide,Tryz.func159.trans (congrArg some (by kernel_rfl))⟩
 f8:=Tryz.func160.trans (congrArg some (by kernel_rfl))
 f10:=⟨Tryz.f172.name,by decide,Tryz.func172.trans (congrArg some (by kernel_rfl))⟩
 f11:=⟨Tryz.f173.name,by decide,Tryz.func173.trans (congrArg some (by kernel_rfl))⟩
 f12:=⟨Tryz.f174.name,by decide,Tryz.func174.trans (congrArg some (by kernel_rfl))⟩
 f13:=⟨Tryz.f175.name,by decide,Tryz.func175.trans (congrArg some (by kernel_rfl))⟩
 f14:=⟨Tryz.f176.name,by decide,Tryz.func176.trans (congrArg some (by kernel_rfl))⟩
 f15:=⟨Tryz.f177.name,by decide,Tryz.func177.trans (congrArg some (by kernel_rfl))⟩
 f16:=⟨Tryz.f178.name,by decide,Tryz.func178.trans (congrArg some (by kernel_rfl))⟩
 f17:=⟨Tryz.f179.name,by decide,Tryz.func179.trans (congrArg some (by kernel_rfl))⟩
 f18:=⟨Tryz.f180.name,by decide,Tryz.func180.trans (congrArg some (by kernel_rfl))⟩
 f19:=Tryz.func181.trans (congrArg some (by kernel_rfl))
 f20:=Tryz.func182.trans (congrArg some (by kernel_rfl))
 f30:=⟨Tryz.f193.name,by decide,Tryz.func193.trans (congrArg some (by kernel_rfl))⟩
 f31:=Tryz.func194.trans (congrArg some (by kernel_rfl))
 f32:=Tryz.func195.trans (congrArg some (by kernel_rfl))
 f33:=⟨Tryz.f196.name,by decide,Tryz.func196.trans (congrArg some (by kernel_rfl))⟩
 f34:=⟨Tryz.f197.name,by decide,Tryz.func197.trans (congrArg some (by kernel_rfl))⟩
 f35:=⟨Tryz.f198.name,by decide,Tryz.func198.trans (congrArg some (by kernel_rfl))⟩
 f40:=⟨Tryz.f203.name,by decide,Tryz.func203.trans (congrArg some (by kernel_rfl))⟩
 t0:=Tryz.underlying0
 a0:=Tryz.isAgg0
 z0:=Tryz.sizeOf0
 v0:=Tryz.zeroValue0
 t3:=Tryz.underlying3
 a3:=Tryz.isAgg3
 z3:=Tryz.sizeOf3
 v3:=Tryz.zeroValue3
 t4:=Tryz.underlying4
 a4:=Tryz.isAgg4
 z4:=Tryz.sizeOf4
 v4:=Tryz.zeroValue4
 t5:=Tryz.underlying5
 a5:=Tryz.isAgg5
 z5:=Tryz.sizeOf5
 v5:=Tryz.zeroValue5
 t9:=Tryz.underlying9
 a9:=Tryz.isAgg9
 z9:=Tryz.sizeOf9
 v9:=Tryz.zeroValue9
 t22:=Tryz.underlying26
 a22:=Tryz.isAgg26
 z22:=Tryz.sizeOf26
 v22:=Tryz.zeroValue26
 t23:=Tryz.underlying26
 a23:=Tryz.isAgg26
 z23:=Tryz.sizeOf26
 v23:=Tryz.zeroValue26
 t25:=Tryz.underlying3
 a25:=Tryz.isAgg3
 z25:=Tryz.sizeOf3
 v25:=Tryz.zeroValue3
 t32:=Tryz.underlying196
 a32:=Tryz.isAgg196
 z32:=Tryz.sizeOf196
 v32:=Tryz.zeroValue196
 t35:=Tryz.underlying225
 a35:=Tryz.isAgg225
 z35:=Tryz.sizeOf225
 v35:=Tryz.zeroValue225
 t36:=Tryz.underlying226
 a36:=Tryz.isAgg226
 z36:=Tryz.sizeOf226
 v36:=Tryz.zeroValue226
 t41:=Tryz.underlying152
 a41:=Tryz.isAgg152
 z41:=Tryz.sizeOf152
 v41:=Tryz.zeroValue152
 t44:=Tryz.underlying232
 a44:=Tryz.isAgg232
 z44:=Tryz.sizeOf232
 v44:=Tryz.zeroValue232
 t46:=Tryz.underlying234
 a46:=Tryz.isAgg234
 z46:=Tryz.sizeOf234
 v46:=Tryz.zeroValue234
 t53:=Tryz.underlying250
 a53:=Tryz.isAgg250
 z53:=Tryz.sizeOf250
 v53:=Tryz.zeroValue250
 t57:=Tryz.underlying254
 a57:=Tryz.isAgg254
 z57:=Tryz.sizeOf254
 v57:=Tryz.zeroValue254
 t63:=Tryz.underlying270
 a63:=Tryz.isAgg270
 z63:=Tryz.sizeOf270
 v63:=Tryz.zeroValue270
 t64:=Tryz.underlying271
 a64:=Tryz.isAgg271
 z64:=Tryz.sizeOf271
 v64:=Tryz.zeroValue271 }
