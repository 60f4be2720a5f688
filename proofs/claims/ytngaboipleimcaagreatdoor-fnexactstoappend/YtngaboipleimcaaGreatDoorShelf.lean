/- The library's maps.Keys, slices.Sorted and slices.Sort of ints, at this translation, laid by the guide's own command in plain words; conditions: none. -/
import Derived.Test.YtngaboipleimcaaGreatDoorWm
import Derived.Shelf.SlIterI.Nil
import Derived.Shelf.SortM.Plain
import Derived.Shelf.SortM.SortNone
import Derived.Shelf.SlGeneric
import Derived.Ground.GgzProg
import Derived.Ground.SlgmProg
import Derived.Test.YtngaboipleimcaaGreatDoorProg
namespace Go.Proofs.YtngaboipleimcaaGreatDoor
open Go.RowKit Go.Deep
set_option linter.unusedVariables false
def qH (w:World) (s:Nat) (l:List Value):Prop:=∀ i,i<9→w.cell? (zA s i)=some (l.getD i undef)∧w.frozen? (zA s i)=false
def He (w:World) (c d:Int) (s b lc hc:Nat) (V:CV) (n:Nat) (M:Int→Option (Nat→Int)):Prop :=
 (∃ aW kW aO kO aX kX aI kI,qH w s [zI c,zI d,zI V.c,.slice aW V.nW kW,zI V.g,.slice aO V.nO kO,.slice aX V.nX kX,.slice aI V.nI kI,.map (some b)]∧aV lc hc w (.agg (zD V aW kW aO kO aX kX aI kI).toArray) V∧mV lc hc w (.agg (zD V aW kW aO kO aX kX aI kI).toArray))∧Wm w b n M∧s<w.heap.size∧¬ s=b∧lc≤hc∧hc≤w.heap.size∧(b<lc∨hc≤b)∧(s<lc∨hc≤s)
theorem wR (W:World) (t:TypeId) (v0 v1 v2 v3 v4 v5 v6 v7 v8:Value):qH (W.alloc (.cells #[v0,v1,v2,v3,v4,v5,v6,v7,v8] t)) W.heap.size [v0,v1,v2,v3,v4,v5,v6,v7,v8]:=by
 intro i hi
 have:i=0∨i=1∨i=2∨i=3∨i=4∨i=5∨i=6∨i=7∨i=8:=by omega
 rcases this with rfl | rfl | rfl | rfl | rfl | rfl | rfl | rfl | rfl <;> exact ⟨by simp,by simp⟩
set_option maxHeartbeats 8000000 in
theorem Ee (c d:Int) (v:Value) (V:CV) (lo:Nat) (hs0:V.short 1048576) (hwf0:∀ k,k<V.nW→(Lit.int .i64 (V.W k 0)).wf=true) (w:World) (h:eH lo w v V) :
 Hz 50 #[.agg #[zI c,zI d],v] w fun e w'=>∃ s b lc hc,e=.returned (zP s 0)∧He w' c d s b lc hc V V.nW (dA V.W V.nW)∧w.heap.size≤s∧w.heap.size≤b∧w.heap.size≤lc∧Below w.heap.size w w':=by
 have hmm:=@run_makeMap Tryz.prog
 obtain ⟨bW,bO,bX,bI,q0,q1,q2,q3,q4,rfl,g1,g2,g3,g4⟩:=h
 have CP:Hid (eH lo w (.agg (zC V bW V.nW bO V.nO bX V.nX bI V.nI).toArray) V):=⟨bW,bO,bX,bI,q0,q1,q2,q3,q4,rfl,g1,g2,g3,g4⟩
 have gW:Hid (Own5 w bW V.nW V.W V.nW):=g1
 have hs:Hid (V.short 1048576):=hs0
 have hwf:Hid (∀ k,k<V.nW→(Lit.int .i64 (V.W k 0)).wf=true):=hwf0
 have lW:bW<w.heap.size:=by omega
 have hnW:V.nW≤1048576:=hs0.1
 clear g1 g2 g3 g4 hs0 hwf0 q0 q1 q2 q3 q4
 go_enter Tryz.func50,Tryz.ntmps50
 go_wp2_with fail
 obtain ⟨w0,e0⟩:∃ w0,w0=((w.alloc (.cells #[zI c,zI d] 44)).alloc (.cells (zC V bW V.nW bO V.nO bX V.nX bI V.nI).toArray 41)):=⟨_,rfl⟩
 have z0:w.heap.size+2≤w0.heap.size:=by rw [e0];simp
 have z0b:w0.heap.size≤w.heap.size+2:=by rw [e0];simp
 have B0:Hid (Below w.heap.size w w0):=by rw [e0];exact ((Hr _ _).alloc (by simp) _).alloc (by simp) _
 have A0:Hid (Six w0 (w.heap.size+1) (zC V bW V.nW bO V.nO bX V.nX bI V.nI)):=by rw [e0];exact oP w #[zI c,zI d] 44 41 (zI V.c) (zS bW V.nW V.nW) (zI V.g) (zS bO V.nO V.nO) (zS bX V.nX V.nX) (zS bI V.nI V.nI)
 have m0:w0.cell? (zA w.heap.size 0)=some (zI c):=by rw [e0];simp
 have m1:w0.cell? (zA w.heap.size 1)=some (zI d):=by rw [e0];simp
 obtain ⟨a0,a1,a2,a3,a4,a5⟩:=A0.out.a6
 rw [←e0]
 clear e0
 refine Hu (S:=fun w'=>Below w0.heap.size w0 w') (by kernel_rfl) ((Hr _ _).drew) ?_
 intro af
 refine dY 0 (.agg #[zI c,zI d]) rfl ?_ ?_
 ·intro wx hSw;have xm0:=(hSw.cell (p:=(zA w.heap.size 0)) (by show w.heap.size<_;omega)).trans m0;have xm1:=(hSw.cell (p:=(zA w.heap.size 1)) (by show w.heap.size<_;omega)).trans m1;go_simp
 try simp only [aT]
 refine dY 1 (.agg (zC V bW V.nW bO V.nO bX V.nX bI V.nI).toArray) rfl ?_ ?_
 ·intro wx hSw;have xa0:=(hSw.cell (p:=(zA (w.heap.size+1) 0)) (by show w.heap.size+1<_;omega)).trans a0;have xa1:=(hSw.cell (p:=(zA (w.heap.size+1) 1)) (by show w.heap.size+1<_;omega)).trans a1;have xa2:=(hSw.cell (p:=(zA (w.heap.size+1) 2)) (by show w.heap.size+1<_;omega)).trans a2;have xa3:=(hSw.cell (p:=(zA (w.heap.size+1) 3)) (by show w.heap.size+1<_;omega)).trans a3;have xa4:=(hSw.cell (p:=(zA (w.heap.size+1) 4)) (by show w.heap.size+1<_;omega)).trans a4;have xa5:=(hSw.cell (p:=(zA (w.heap.size+1) 5)) (by show w.heap.size+1<_;omega)).trans a5;go_simp
 try simp only [aT]
 clear m0 m1 a0 a1 a2 a3 a4 a5
 refine y9 [2,3] ?_
 refine AllReadyH.cons rfl (fun K hK=>?_) (AllReadyH.cons rfl (fun K hK=>?_) AllReadyH.nil)
 ·go_simp
  go_wp2_with fail
  refine (Ez _ V lo hs.out _ (CP.out.below (B0.out.drew))).mono ?_
  rintro e w1 ⟨⟨v1,rfl,hO,hT⟩,hb1⟩
  obtain ⟨aW,kW,aO,kO,aX,kX,aI,kI,rfl,_,_,_,_⟩:=hO.at
  have hbx:Below w0.heap.size w0 w1:=ah ((Hr _ _).drew) hb1
  have hz1:w0.heap.size≤w1.heap.size:=hbx.size
  refine hK.out _ _ hbx (fun ai=>?_)
  clear hK K af
  have af:=ai
  clear ai
  try simp only [aT]
  refine di 3 rfl fun K hK=>?_
  go_simp
  refine hK.out _ _ (af.alloc hz1 _) (fun ai=>?_)
  clear hK K af
  have af:=ai
  clear ai
  try simp only [aT]
  refine aA 4 (.agg #[zI c,zI d,zI V.c,.slice aW V.nW kW,zI V.g,.slice aO V.nO kO,.slice aX V.nX kX,.slice aI V.nI kI,.map (some w1.heap.size)]) rfl ?_
  refine di 5 rfl fun K hK=>?_
  go_simp
  refine hK.out _ _ (af.alloc (by simp;omega) _) (fun ai=>?_)
  clear hK K af
  have af:=ai
  clear ai
  try simp only [aT]
  refine aA 6 (zP (w1.heap.size+1) 0) rfl ?_
  refine Hy (by kernel_rfl) ?_ _
  obtain ⟨W,s,b,lc,hc,eW,es,eb,OW0,TW0,NW0,MW0,BW0,KW0,hsb,hlh,hhW,hsW,hbW,hbo,hso,hlc,hbw,hsw⟩:∃ W s b lc hc,W=((w1.alloc (.map #[] 0)).alloc (.cells #[zI c,zI d,zI V.c,.slice aW V.nW kW,zI V.g,.slice aO V.nO kO,.slice aX V.nX kX,.slice aI V.nI kI,.map (some w1.heap.size)] 133))∧s=w1.heap.size+1∧b=w1.heap.size∧aV lc hc W (.agg (zD V aW kW aO kO aX kX aI kI).toArray) V∧mV lc hc W (.agg (zD V aW kW aO kO aX kX aI kI).toArray)∧qH W s [zI c,zI d,zI V.c,.slice aW V.nW kW,zI V.g,.slice aO V.nO kO,.slice aX V.nX kX,.slice aI V.nI kI,.map (some b)]∧Wm W b 0 (dA V.W 0)∧Below w.heap.size w W∧(∀ x,x<w.heap.size+2→Sm w0 W x)∧¬ s=b∧lc≤hc∧hc≤W.heap.size∧s<W.heap.size∧b<W.heap.size∧(b<lc∨hc≤b)∧(s<lc∨hc≤s)∧w.heap.size+2≤lc∧w.heap.size+2≤b∧w.heap.size+2≤s :=
   ⟨_,_,_,w0.heap.size,w1.heap.size,rfl,rfl,rfl,hO.below (Ho _) (((Hr _ _).alloc (Ho _) _).alloc (by simp) _),mV.sm hT (fun x _ hx=>aj (((Hr _ _).alloc (Ho _) _).alloc (by simp) _) hx),(by have h:=wR (w1.alloc (.map #[] 0)) 133 (zI c) (zI d) (zI V.c) (.slice aW V.nW kW) (zI V.g) (.slice aO V.nO kO) (.slice aX V.nX kX) (.slice aI V.nI kI) (.map (some w1.heap.size));rw [World.size_alloc] at h;exact h),(Wm.new w1).below (k:=w1.heap.size+1) (by omega) ((Hr _ _).alloc (by simp) _),(ah B0.out af),fun x hx=>aj af (by omega),by omega,by omega,by simp <;> omega,by simp <;> omega,by simp <;> omega,by omega,by omega,by omega,by omega,by omega⟩
  rw [←eW,←es,←eb]
  clear eW es eb af hmm
  have TW:Hid _:=TW0
  clear TW0
  have OW:Hid _:=OW0
  have NW:Hid _:=NW0
  have MW:Hid _:=MW0
  have BW:Hid _:=BW0
  have KW:Hid _:=KW0
  clear OW0 NW0 MW0 BW0 KW0
  clear hO hb1 hbx hT
  have q1:W.cell? (zA (w.heap.size+1) 1)=some (zS bW V.nW V.nW):=((KW.out (w.heap.size+1) (by omega)) 1).1.trans (A0.out 1 (by decide)).1
  have lq:w.heap.size+1<W.heap.size:=by omega
  go_wp2_with fail
  clear q1 lq
  go_loopw [17] (fun i wr=>∃ k:Nat,k≤V.nW∧i=zI k∧Wm wr b k (dA V.W k)∧W.grownBy wr (some b)) (fun i _=>V.nW - (intOf i).toNat)
  case atStart=>exact ⟨0,Nat.zero_le _,rfl,MW.out,⟨rfl,rfl,rfl,Ho _,fun _ _ _=>rfl⟩⟩
  case round =>
   obtain ⟨k,hk,rfl,hM,hG⟩:=hrel
   have HMk:Hid (Wm wr b k (dA V.W k)):=hM
   have HG:Hid (W.grownBy wr (some b)):=hG
   have hzr:W.heap.size≤wr.heap.size:=hG.size
   clear hM hG
   by_cases hkn:k<V.nW
   ·have hkn':(k:Int)<V.nW:=by omega
    have c0:wr.cell? (zA bW (k * 5))=some (zI (V.W k 0)):=by have h1:=(bG HG.out (b:=bW) (by omega) (by simp;omega)) (k * 5+0);have h2:=(aj BW.out lW) (k * 5+0);have h3:=aZ gW.out k 0 hkn (by omega);rw [Nat.zero_add] at h3;exact (h1.1.trans h2.1).trans h3
    have c1:wr.cell? (zA bW (k * 5+1))=some (zI (V.W k 1)):=by have h1:=(bG HG.out (b:=bW) (by omega) (by simp;omega)) (k * 5+1);have h2:=(aj BW.out lW) (k * 5+1);have h3:=aZ gW.out k 1 hkn (by omega);rw [Nat.zero_add] at h3;exact (h1.1.trans h2.1).trans h3
    have c2:wr.cell? (zA bW (k * 5+2))=some (zI (V.W k 2)):=by have h1:=(bG HG.out (b:=bW) (by omega) (by simp;omega)) (k * 5+2);have h2:=(aj BW.out lW) (k * 5+2);have h3:=aZ gW.out k 2 hkn (by omega);rw [Nat.zero_add] at h3;exact (h1.1.trans h2.1).trans h3
    have c3:wr.cell? (zA bW (k * 5+3))=some (zI (V.W k 3)):=by have h1:=(bG HG.out (b:=bW) (by omega) (by simp;omega)) (k * 5+3);have h2:=(aj BW.out lW) (k * 5+3);have h3:=aZ gW.out k 3 hkn (by omega);rw [Nat.zero_add] at h3;exact (h1.1.trans h2.1).trans h3
    have c4:wr.cell? (zA bW (k * 5+4))=some (zI (V.W k 4)):=by have h1:=(bG HG.out (b:=bW) (by omega) (by simp;omega)) (k * 5+4);have h2:=(aj BW.out lW) (k * 5+4);have h3:=aZ gW.out k 4 hkn (by omega);rw [Nat.zero_add] at h3;exact (h1.1.trans h2.1).trans h3
    have lbW:bW<wr.heap.size:=by omega
    have n8:wr.cell? (zA s 8)=some (.map (some b)):=((bG HG.out (b:=s) (by omega) (by simp;omega)) 8).1.trans (NW.out 8 (by decide)).1
    have ls:s<wr.heap.size:=by omega
    go_wp2_with fail
    obtain ⟨w5,e5⟩:∃ w5,w5=wr.alloc (.cells (zF (V.W k)).toArray 48):=⟨_,rfl⟩
    have hb5:Below wr.heap.size wr w5:=by rw [e5];exact (Hr _ _).alloc (Ho _) _
    have d0:w5.cell? (zA wr.heap.size 0)=some (zI (V.W k 0)):=by rw [e5];simp
    have d1:w5.cell? (zA wr.heap.size 1)=some (zI (V.W k 1)):=by rw [e5];simp
    have d2:w5.cell? (zA wr.heap.size 2)=some (zI (V.W k 2)):=by rw [e5];simp
    have d3:w5.cell? (zA wr.heap.size 3)=some (zI (V.W k 3)):=by rw [e5];simp
    have d4:w5.cell? (zA wr.heap.size 4)=some (zI (V.W k 4)):=by rw [e5];simp
    have n9:w5.cell? (zA s 8)=some (.map (some b)):=(hb5.cell (p:=(zA s 8)) ls).trans n8
    have hs5:wr.heap.size<w5.heap.size:=by rw [e5];simp
    have ls5:s<w5.heap.size:=by omega
    rw [←e5]
    clear e5 c0 c1 c2 c3 c4 n8 lbW ls
    have M5:Wm w5.drew b k (dA V.W k):=HMk.out.below (Hg HMk.out.lt (Ho _)) (hb5.drew)
    obtain ⟨w6,hupd,hM6,hg6⟩:=M5.put (hwf.out k hkn) (V.W k)
    refine Hu (S:=fun w'=>(∀ g o,g<w5.heap.size→¬ g=b→w'.cell? (zA g o)=w5.cell? (zA g o))∧w5.heap.size≤w'.heap.size) (by kernel_rfl) ⟨fun _ _ _ _=>rfl,Ho _⟩ ?_
    intro af
    refine aA 0 (zP s 0) rfl ?_
    refine dY 1 (zP s 0) rfl ?_ ?_
    ·intro wx hSw;have x8:=(hSw.1 s 8 ls5 hsb).trans n9;have xl:=Hg ls5 hSw.2;go_simp
    try simp only [aT]
    refine aA 2 (zP s 8) rfl ?_
    refine dY 3 (.map (some b)) rfl ?_ ?_
    ·intro wx hSw;have x8:=(hSw.1 s 8 ls5 hsb).trans n9;go_simp
    try simp only [aT]
    refine aA 4 (zP wr.heap.size 0) rfl ?_
    refine dY 5 (zI (V.W k 0)) rfl ?_ ?_
    ·intro wx hSw;have x0:=(hSw.1 wr.heap.size 0 hs5 (by omega)).trans d0;go_simp
    try simp only [aT]
    refine dY 6 (wv (V.W k)) rfl ?_ ?_
    ·intro wx hSw;have x0:=(hSw.1 wr.heap.size 0 hs5 (by omega)).trans d0;have x1:=(hSw.1 wr.heap.size 1 hs5 (by omega)).trans d1;have x2:=(hSw.1 wr.heap.size 2 hs5 (by omega)).trans d2;have x3:=(hSw.1 wr.heap.size 3 hs5 (by omega)).trans d3;have x4:=(hSw.1 wr.heap.size 4 hs5 (by omega)).trans d4;unfold wv;go_simp
    try simp only [aT]
    refine di 7 rfl fun K hK=>?_
    clear af
    go_simp
    refine hK.out _ _ ⟨fun g o hg hne=>(bG hg6 (b:=g) hg (by simp;exact hne) o).1,hg6.size⟩ (fun ai=>?_)
    clear hK K ai
    try simp only [aT]
    refine Hy (by kernel_rfl) ?_ _
    have hgn:Hid (W.grownBy w6 (some b)):=(HG.out.trans (P8.mr hb5)).trans ⟨hg6.os,hg6.tape,hg6.output,hg6.size,hg6.block⟩
    have HM6:Hid (Wm w6 b (k+1) (dA V.W (k+1))):=hM6
    clear hM6 hg6 hupd M5 d0 d1 d2 d3 d4 n9 ls5 hb5 HG HMk
    go_wp2
    go_roundw
    case rel=>exact ⟨k+1,by omega,by go_num,HM6.out,hgn.out⟩
    case measure=>simp [intOf];omega
   ·have hkk:k=V.nW:=by omega
    subst hkk
    go_wp2
    go_ret
    have hsm:∀ x,x<W.heap.size→¬ x=b→Sm W wr x:=fun x h1 h2=>bG HG.out h1 (by simp;exact h2)
    refine ⟨s,b,lc,hc,rfl,⟨⟨aW,kW,aO,kO,aX,kX,aI,kI,fun i hi=>?_,aV.sm OW.out hzr (fun x h1 h2=>hsm x (by omega) (by omega)),mV.sm TW.out (fun x h1 h2=>hsm x (by omega) (by omega))⟩,HMk.out,by omega,hsb,hlh,by omega,hbo,hso⟩,by omega,by omega,by omega,?_⟩
    ·have h1:=hsm s hsW hsb i;rw [h1.1,h1.2];exact NW.out i hi
    ·exact BW.out.grown HG.out BW.out.size (fun kk e=>by cases e;omega)
 ·go_simp
  refine hK.out _ _ (af.alloc (Ho _) _) (fun ai=>?_)
  clear hK K af
  have af:=ai
  clear ai
  try simp only [aT]
  refine di 2 rfl fun K hK=>?_
  go_simp
  go_wp2_with fail
  refine (Ez _ V lo hs.out _ (CP.out.below (ah B0.out af))).mono ?_
  rintro e w1 ⟨⟨v1,rfl,hO,hT⟩,hb1⟩
  obtain ⟨aW,kW,aO,kO,aX,kX,aI,kI,rfl,_,_,_,_⟩:=hO.at
  have hz1:w0.heap.size+1≤w1.heap.size:=by have:=hb1.size;simpa using this
  have hM1:Wm w1 w0.heap.size 0 (dA V.W 0):=(Wm.new w0.drew).below (by show w0.heap.size<_;simp) hb1
  have hO2:aV (w0.heap.size+1) w1.heap.size w1 (.agg (zD V aW kW aO kO aX kX aI kI).toArray) V:=by have e:(w0.alloc (.map #[] 0)).drew.heap.size=w0.heap.size+1:=World.size_alloc w0 _;rw [e] at hO;exact hO
  have hT2:mV (w0.heap.size+1) w1.heap.size w1 (.agg (zD V aW kW aO kO aX kX aI kI).toArray):=by have e:(w0.alloc (.map #[] 0)).drew.heap.size=w0.heap.size+1:=World.size_alloc w0 _;rw [e] at hT;exact hT
  refine hK.out _ _ (ah af hb1) (fun ai=>?_)
  clear hK K af
  have af:=ai
  clear ai
  try simp only [aT]
  refine aA 4 (.agg #[zI c,zI d,zI V.c,.slice aW V.nW kW,zI V.g,.slice aO V.nO kO,.slice aX V.nX kX,.slice aI V.nI kI,.map (some w0.heap.size)]) rfl ?_
  refine di 5 rfl fun K hK=>?_
  go_simp
  refine hK.out _ _ (af.alloc (by omega) _) (fun ai=>?_)
  clear hK K af
  have af:=ai
  clear ai
  try simp only [aT]
  refine aA 6 (zP w1.heap.size 0) rfl ?_
  refine Hy (by kernel_rfl) ?_ _
  obtain ⟨W,s,b,lc,hc,eW,es,eb,OW0,TW0,NW0,MW0,BW0,KW0,hsb,hlh,hhW,hsW,hbW,hbo,hso,hlc,hbw,hsw⟩:∃ W s b lc hc,W=(w1.alloc (.cells #[zI c,zI d,zI V.c,.slice aW V.nW kW,zI V.g,.slice aO V.nO kO,.slice aX V.nX kX,.slice aI V.nI kI,.map (some w0.heap.size)] 133))∧s=w1.heap.size∧b=w0.heap.size∧aV lc hc W (.agg (zD V aW kW aO kO aX kX aI kI).toArray) V∧mV lc hc W (.agg (zD V aW kW aO kO aX kX aI kI).toArray)∧qH W s [zI c,zI d,zI V.c,.slice aW V.nW kW,zI V.g,.slice aO V.nO kO,.slice aX V.nX kX,.slice aI V.nI kI,.map (some b)]∧Wm W b 0 (dA V.W 0)∧Below w.heap.size w W∧(∀ x,x<w.heap.size+2→Sm w0 W x)∧¬ s=b∧lc≤hc∧hc≤W.heap.size∧s<W.heap.size∧b<W.heap.size∧(b<lc∨hc≤b)∧(s<lc∨hc≤s)∧w.heap.size+2≤lc∧w.heap.size+2≤b∧w.heap.size+2≤s :=
   ⟨_,_,_,w0.heap.size+1,w1.heap.size,rfl,rfl,rfl,hO2.below (Ho _) ((Hr _ _).alloc (Ho _) _),mV.sm hT2 (fun x _ hx=>aj ((Hr _ _).alloc (Ho _) _) hx),wR w1 133 (zI c) (zI d) (zI V.c) (.slice aW V.nW kW) (zI V.g) (.slice aO V.nO kO) (.slice aX V.nX kX) (.slice aI V.nI kI) (.map (some w0.heap.size)),hM1.below hM1.lt ((Hr _ _).alloc (Ho _) _),(ah B0.out af),fun x hx=>aj af (by omega),by omega,by omega,by simp <;> omega,by simp <;> omega,by simp <;> omega,by omega,by omega,by omega,by omega,by omega⟩
  rw [←eW,←es,←eb]
  clear eW es eb af hmm
  have TW:Hid _:=TW0
  clear TW0
  have OW:Hid _:=OW0
  have NW:Hid _:=NW0
  have MW:Hid _:=MW0
  have BW:Hid _:=BW0
  have KW:Hid _:=KW0
  clear OW0 NW0 MW0 BW0 KW0
  clear hO hb1 hO2 hM1 hT hT2
  have q1:W.cell? (zA (w.heap.size+1) 1)=some (zS bW V.nW V.nW):=((KW.out (w.heap.size+1) (by omega)) 1).1.trans (A0.out 1 (by decide)).1
  have lq:w.heap.size+1<W.heap.size:=by omega
  go_wp2_with fail
  clear q1 lq
  go_loopw [17] (fun i wr=>∃ k:Nat,k≤V.nW∧i=zI k∧Wm wr b k (dA V.W k)∧W.grownBy wr (some b)) (fun i _=>V.nW - (intOf i).toNat)
  case atStart=>exact ⟨0,Nat.zero_le _,rfl,MW.out,⟨rfl,rfl,rfl,Ho _,fun _ _ _=>rfl⟩⟩
  case round =>
   obtain ⟨k,hk,rfl,hM,hG⟩:=hrel
   have HMk:Hid (Wm wr b k (dA V.W k)):=hM
   have HG:Hid (W.grownBy wr (some b)):=hG
   have hzr:W.heap.size≤wr.heap.size:=hG.size
   clear hM hG
   by_cases hkn:k<V.nW
   ·have hkn':(k:Int)<V.nW:=by omega
    have c0:wr.cell? (zA bW (k * 5))=some (zI (V.W k 0)):=by have h1:=(bG HG.out (b:=bW) (by omega) (by simp;omega)) (k * 5+0);have h2:=(aj BW.out lW) (k * 5+0);have h3:=aZ gW.out k 0 hkn (by omega);rw [Nat.zero_add] at h3;exact (h1.1.trans h2.1).trans h3
    have c1:wr.cell? (zA bW (k * 5+1))=some (zI (V.W k 1)):=by have h1:=(bG HG.out (b:=bW) (by omega) (by simp;omega)) (k * 5+1);have h2:=(aj BW.out lW) (k * 5+1);have h3:=aZ gW.out k 1 hkn (by omega);rw [Nat.zero_add] at h3;exact (h1.1.trans h2.1).trans h3
    have c2:wr.cell? (zA bW (k * 5+2))=some (zI (V.W k 2)):=by have h1:=(bG HG.out (b:=bW) (by omega) (by simp;omega)) (k * 5+2);have h2:=(aj BW.out lW) (k * 5+2);have h3:=aZ gW.out k 2 hkn (by omega);rw [Nat.zero_add] at h3;exact (h1.1.trans h2.1).trans h3
    have c3:wr.cell? (zA bW (k * 5+3))=some (zI (V.W k 3)):=by have h1:=(bG HG.out (b:=bW) (by omega) (by simp;omega)) (k * 5+3);have h2:=(aj BW.out lW) (k * 5+3);have h3:=aZ gW.out k 3 hkn (by omega);rw [Nat.zero_add] at h3;exact (h1.1.trans h2.1).trans h3
    have c4:wr.cell? (zA bW (k * 5+4))=some (zI (V.W k 4)):=by have h1:=(bG HG.out (b:=bW) (by omega) (by simp;omega)) (k * 5+4);have h2:=(aj BW.out lW) (k * 5+4);have h3:=aZ gW.out k 4 hkn (by omega);rw [Nat.zero_add] at h3;exact (h1.1.trans h2.1).trans h3
    have lbW:bW<wr.heap.size:=by omega
    have n8:wr.cell? (zA s 8)=some (.map (some b)):=((bG HG.out (b:=s) (by omega) (by simp;omega)) 8).1.trans (NW.out 8 (by decide)).1
    have ls:s<wr.heap.size:=by omega
    go_wp2_with fail
    obtain ⟨w5,e5⟩:∃ w5,w5=wr.alloc (.cells (zF (V.W k)).toArray 48):=⟨_,rfl⟩
    have hb5:Below wr.heap.size wr w5:=by rw [e5];exact (Hr _ _).alloc (Ho _) _
    have d0:w5.cell? (zA wr.heap.size 0)=some (zI (V.W k 0)):=by rw [e5];simp
    have d1:w5.cell? (zA wr.heap.size 1)=some (zI (V.W k 1)):=by rw [e5];simp
    have d2:w5.cell? (zA wr.heap.size 2)=some (zI (V.W k 2)):=by rw [e5];simp
    have d3:w5.cell? (zA wr.heap.size 3)=some (zI (V.W k 3)):=by rw [e5];simp
    have d4:w5.cell? (zA wr.heap.size 4)=some (zI (V.W k 4)):=by rw [e5];simp
    have n9:w5.cell? (zA s 8)=some (.map (some b)):=(hb5.cell (p:=(zA s 8)) ls).trans n8
    have hs5:wr.heap.size<w5.heap.size:=by rw [e5];simp
    have ls5:s<w5.heap.size:=by omega
    rw [←e5]
    clear e5 c0 c1 c2 c3 c4 n8 lbW ls
    have M5:Wm w5.drew b k (dA V.W k):=HMk.out.below (Hg HMk.out.lt (Ho _)) (hb5.drew)
    obtain ⟨w6,hupd,hM6,hg6⟩:=M5.put (hwf.out k hkn) (V.W k)
    refine Hu (S:=fun w'=>(∀ g o,g<w5.heap.size→¬ g=b→w'.cell? (zA g o)=w5.cell? (zA g o))∧w5.heap.size≤w'.heap.size) (by kernel_rfl) ⟨fun _ _ _ _=>rfl,Ho _⟩ ?_
    intro af
    refine aA 0 (zP s 0) rfl ?_
    refine dY 1 (zP s 0) rfl ?_ ?_
    ·intro wx hSw;have x8:=(hSw.1 s 8 ls5 hsb).trans n9;have xl:=Hg ls5 hSw.2;go_simp
    try simp only [aT]
    refine aA 2 (zP s 8) rfl ?_
    refine dY 3 (.map (some b)) rfl ?_ ?_
    ·intro wx hSw;have x8:=(hSw.1 s 8 ls5 hsb).trans n9;go_simp
    try simp only [aT]
    refine aA 4 (zP wr.heap.size 0) rfl ?_
    refine dY 5 (zI (V.W k 0)) rfl ?_ ?_
    ·intro wx hSw;have x0:=(hSw.1 wr.heap.size 0 hs5 (by omega)).trans d0;go_simp
    try simp only [aT]
    refine dY 6 (wv (V.W k)) rfl ?_ ?_
    ·intro wx hSw;have x0:=(hSw.1 wr.heap.size 0 hs5 (by omega)).trans d0;have x1:=(hSw.1 wr.heap.size 1 hs5 (by omega)).trans d1;have x2:=(hSw.1 wr.heap.size 2 hs5 (by omega)).trans d2;have x3:=(hSw.1 wr.heap.size 3 hs5 (by omega)).trans d3;have x4:=(hSw.1 wr.heap.size 4 hs5 (by omega)).trans d4;unfold wv;go_simp
    try simp only [aT]
    refine di 7 rfl fun K hK=>?_
    clear af
    go_simp
    refine hK.out _ _ ⟨fun g o hg hne=>(bG hg6 (b:=g) hg (by simp;exact hne) o).1,hg6.size⟩ (fun ai=>?_)
    clear hK K ai
    try simp only [aT]
    refine Hy (by kernel_rfl) ?_ _
    have hgn:Hid (W.grownBy w6 (some b)):=(HG.out.trans (P8.mr hb5)).trans ⟨hg6.os,hg6.tape,hg6.output,hg6.size,hg6.block⟩
    have HM6:Hid (Wm w6 b (k+1) (dA V.W (k+1))):=hM6
    clear hM6 hg6 hupd M5 d0 d1 d2 d3 d4 n9 ls5 hb5 HG HMk
    go_wp2
    go_roundw
    case rel=>exact ⟨k+1,by omega,by go_num,HM6.out,hgn.out⟩
    case measure=>simp [intOf];omega
   ·have hkk:k=V.nW:=by omega
    subst hkk
    go_wp2
    go_ret
    have hsm:∀ x,x<W.heap.size→¬ x=b→Sm W wr x:=fun x h1 h2=>bG HG.out h1 (by simp;exact h2)
    refine ⟨s,b,lc,hc,rfl,⟨⟨aW,kW,aO,kO,aX,kX,aI,kI,fun i hi=>?_,aV.sm OW.out hzr (fun x h1 h2=>hsm x (by omega) (by omega)),mV.sm TW.out (fun x h1 h2=>hsm x (by omega) (by omega))⟩,HMk.out,by omega,hsb,hlh,by omega,hbo,hso⟩,by omega,by omega,by omega,?_⟩
    ·have h1:=hsm s hsW hsb i;rw [h1.1,h1.2];exact NW.out i hi
    ·exact BW.out.grown HG.out BW.out.size (fun kk e=>by cases e;omega)
theorem uj (n:Nat) (Z:Nat→Nat→Int):((List.range n).flatMap (aP Z)).length=n * 5:=by
 induction n with
 | zero=>simp
 | succ n ih=>rw [List.range_succ,List.flatMap_append,List.length_append,ih];simp [aP,Nat.succ_mul]
theorem vK {w:World} {b o n:Nat} {Z:Nat→Nat→Int} (hr:∀ k j,k<n→j<5→w.cell? (zA b (o+k * 5+j))=some (zI (Z k j))):∀ j u,((List.range n).flatMap (aP Z))[j]? = some u→w.cell? (((zA b o):Addr).add j)=some u:=by
 intro j u hj
 have hlt:j<n * 5:=by
  have:=(List.getElem?_eq_some_iff.1 hj).1
  rw [uj] at this;exact this
 rw [flat_get (aP Z) (fun _=>rfl) (by decide) n j hlt] at hj
 have hq:j / 5<n:=Nat.div_lt_of_lt_mul (by omega)
 have hr':=hr (j / 5) (j % 5) hq (Nat.mod_lt _ (by decide))
 rw [iR,show o+j=o+j / 5 * 5+j % 5 by omega,hr',←hj]
 have:j % 5<5:=Nat.mod_lt _ (by decide)
 generalize j % 5=q at this ⊢
 match q,this with
 | 0,_=>rfl
 | 1,_=>rfl
 | 2,_=>rfl
 | 3,_=>rfl
 | 4,_=>rfl
theorem AQ (n:Nat) (Z:Nat→Nat→Int):∀ u ∈ (List.range n).flatMap (aP Z),u.oneCell'=true:=by
 intro u hu
 obtain ⟨k,_,hk⟩:=List.mem_flatMap.1 hu
 simp [aP] at hk
 rcases hk with rfl | rfl | rfl | rfl | rfl <;> rfl
theorem lG (n:Nat) (Z:Nat→Nat→Int):((List.range n).flatMap (P8.eight Z)).length=n * 8:=by
 induction n with
 | zero=>simp
 | succ n ih=>rw [List.range_succ,List.flatMap_append,List.length_append,ih];simp [P8.eight,Nat.succ_mul]
theorem lS {w:World} {b o n:Nat} {Z:Nat→Nat→Int} (hr:∀ k j,k<n→j<8→w.cell? (zA b (o+k * 8+j))=some (zI (Z k j))):∀ j u,((List.range n).flatMap (P8.eight Z))[j]? = some u→w.cell? (((zA b o):Addr).add j)=some u:=by
 intro j u hj
 have hlt:j<n * 8:=by
  have:=(List.getElem?_eq_some_iff.1 hj).1
  rw [lG] at this;exact this
 rw [flat_get (P8.eight Z) (fun _=>rfl) (by decide) n j hlt] at hj
 have hq:j / 8<n:=Nat.div_lt_of_lt_mul (by omega)
 have hr':=hr (j / 8) (j % 8) hq (Nat.mod_lt _ (by decide))
 rw [iR,show o+j=o+j / 8 * 8+j % 8 by omega,hr',←hj]
 have:j % 8<8:=Nat.mod_lt _ (by decide)
 generalize j % 8=q at this ⊢
 match q,this with
 | 0,_=>rfl
 | 1,_=>rfl
 | 2,_=>rfl
 | 3,_=>rfl
 | 4,_=>rfl
 | 5,_=>rfl
 | 6,_=>rfl
 | 7,_=>rfl
theorem sK (n:Nat) (Z:Nat→Nat→Int):∀ u ∈ (List.range n).flatMap (P8.eight Z),u.oneCell'=true:=by
 intro u hu
 obtain ⟨k,_,hk⟩:=List.mem_flatMap.1 hu
 simp [P8.eight] at hk
 rcases hk with rfl | rfl | rfl | rfl | rfl | rfl | rfl | rfl <;> rfl
theorem kS (n:Nat) (X:Nat→Int):((List.range n).flatMap (one1 X)).length=n * 1:=by
 induction n with
 | zero=>simp
 | succ n ih=>rw [List.range_succ,List.flatMap_append,List.length_append,ih];simp [one1,Nat.succ_mul]
theorem ku {w:World} {b o n:Nat} {X:Nat→Int} (hr:∀ k,k<n→w.cell? (zA b (o+k))=some (zI (X k))):∀ j u,((List.range n).flatMap (one1 X))[j]? = some u→w.cell? (((zA b o):Addr).add j)=some u:=by
 intro j u hj
 have hlt:j<n * 1:=by
  have:=(List.getElem?_eq_some_iff.1 hj).1
  rw [kS] at this;exact this
 rw [flat_get (m:=1) (one1 X) (fun _=>rfl) (by decide) n j hlt,Nat.div_one,Nat.mod_one] at hj
 rw [iR,hr j (by omega),←hj]
 rfl
theorem ng (n:Nat) (X:Nat→Int):∀ u ∈ (List.range n).flatMap (one1 X),u.oneCell'=true:=by
 intro u hu
 obtain ⟨k,_,hk⟩:=List.mem_flatMap.1 hu
 simp [one1] at hk
 subst hk;rfl
theorem jL {lo hi:Nat} {w:World} {V:CV} {vW vX vI:Value} {gW gO gX gI cO:Nat} {sl:Nat→Value} {xs:Nat→Nat} (rW:RW lo hi w vW V.nW V.W gW) (hO1:lo≤gO) (hO2:gO<hi) (hhi:hi≤w.heap.size)
 (rO:∀ k,k<V.nO→w.cell? (zA gO k)=some (sl k)∧RP lo hi w (sl k) (V.N k) (V.O k) (xs k)) (rX:RI lo hi w vX V.nX V.X gX) (rI:RI lo hi w vI V.nI V.I gI)
 (d1:V.nW≠0→gW≠gO) (d2:V.nW≠0→V.nX≠0→gW≠gX) (d3:V.nW≠0→V.nI≠0→gW≠gI) (d4:V.nX≠0→gO≠gX) (d5:V.nI≠0→gO≠gI) (d6:V.nX≠0→V.nI≠0→gX≠gI)
 (hx:∀ k,k<V.nO→V.N k≠0→(V.nW≠0→xs k≠gW)∧xs k≠gO∧(V.nX≠0→xs k≠gX)∧(V.nI≠0→xs k≠gI)) (hxx:∀ i j,i<j→j<V.nO→V.N i≠0→V.N j≠0→xs i≠xs j) :
 aV lo hi w (.agg #[zI V.c,vW,zI V.g,zS gO V.nO cO,vX,vI]) V:=by
 obtain ⟨pW,rW',cW⟩:=rW.pick hi
 obtain ⟨pX,rX',cX⟩:=rX.pick (hi+1)
 obtain ⟨pI,rI',cI⟩:=rI.pick (hi+2)
 refine ⟨vW,_,vX,vI,pW,gO,pX,pI,sl,fun k=>if V.N k=0 then hi+3+k else xs k,rfl,rW',.inr ⟨cO,rfl,hO1,hO2,hhi,fun k hk=>⟨(rO k hk).1,((rO k hk).2.pick (hi+3+k)).1⟩⟩,rX',rI',?_,fun k hk=>?_,fun i j hi' hj' hne=>?_⟩
 ·refine ⟨?_,?_,?_,?_,?_,?_⟩
  ·rcases cW with ⟨_,rfl⟩ | ⟨e,rfl,_⟩
   ·omega
   ·have:=d1 e;omega
  ·rcases cW with ⟨_,rfl⟩ | ⟨e,rfl,_⟩ <;> rcases cX with ⟨_,rfl⟩ | ⟨e2,rfl,_⟩ <;> first | omega | exact d2 e e2
  ·rcases cW with ⟨_,rfl⟩ | ⟨e,rfl,_⟩ <;> rcases cI with ⟨_,rfl⟩ | ⟨e2,rfl,_⟩ <;> first | omega | exact d3 e e2
  ·rcases cX with ⟨_,rfl⟩ | ⟨e2,rfl,_⟩ <;> first | omega | (have:=d4 e2;omega)
  ·rcases cI with ⟨_,rfl⟩ | ⟨e2,rfl,_⟩ <;> first | omega | (have:=d5 e2;omega)
  ·rcases cX with ⟨_,rfl⟩ | ⟨e,rfl,_⟩ <;> rcases cI with ⟨_,rfl⟩ | ⟨e2,rfl,_⟩ <;> first | omega | (have:=d6 e e2;omega)
 ·have hb:=((rO k hk).2.pick (hi+3+k)).2
  dsimp only
  by_cases e0:V.N k=0
  ·rw [if_pos e0]
   refine ⟨?_,by omega,?_,?_⟩
   ·rcases cW with ⟨_,rfl⟩ | ⟨e,rfl,_⟩ <;> omega
   ·rcases cX with ⟨_,rfl⟩ | ⟨e,rfl,_⟩ <;> omega
   ·rcases cI with ⟨_,rfl⟩ | ⟨e,rfl,_⟩ <;> omega
  ·rw [if_neg e0]
   have h1:=hb e0
   obtain ⟨h1b,h2,h3,h4⟩:=hx k hk e0
   refine ⟨?_,by omega,?_,?_⟩
   ·rcases cW with ⟨_,rfl⟩ | ⟨e,rfl,_⟩ <;> first | omega | exact h1b e
   ·rcases cX with ⟨_,rfl⟩ | ⟨e,rfl,_⟩ <;> first | omega | (have:=h3 e;omega)
   ·rcases cI with ⟨_,rfl⟩ | ⟨e,rfl,_⟩ <;> first | omega | (have:=h4 e;omega)
 ·have b1:=((rO i hi').2.pick (hi+3+i)).2
  have b2:=((rO j hj').2.pick (hi+3+j)).2
  dsimp only
  by_cases e1:V.N i=0
  ·rw [if_pos e1]
   by_cases e2:V.N j=0
   ·rw [if_pos e2];omega
   ·rw [if_neg e2];have:=b2 e2;omega
  ·rw [if_neg e1]
   have:=b1 e1
   by_cases e2:V.N j=0
   ·rw [if_pos e2];omega
   ·rw [if_neg e2]
    rcases Nat.lt_or_gt_of_ne hne with h | h
    ·have:=hxx i j h hj' e1 e2;omega
    ·have:=hxx j i h hi' e2 e1;omega
set_option maxHeartbeats 1000000 in
theorem rC (b o n cap:Nat) (Z:Nat→Nat→Int) (hn:n≤1048576) (w:World) (hb:b<w.heap.size) (hr:∀ k j,k<n→j<5→w.cell? (zA b (o+k * 5+j))=some (zI (Z k j))) :
 Hz 106 #[.slice (some (zA b o)) n cap] w fun e w'=>(∃ v,e=.returned v∧w'.ownsRow w.heap.size 48 5 v n ((List.range n).flatMap (aP Z)))∧Below w.heap.size w w':=by
 have kb:Below w.heap.size w (w.alloc (.cells #[] 48)):=(Hr _ _).alloc (Ho _) _
 have HC:Hid (∀ j u,((List.range n).flatMap (aP Z))[j]? = some u→(w.alloc (.cells #[] 48)).cell? (((zA b o):Addr).add j)=some u):=vK (fun k j a1 a2=>(kb.cell (p:=⟨b,_,none⟩) hb).trans (hr k j a1 a2))
 have H1:Hid (∀ u ∈ (List.range n).flatMap (aP Z),u.oneCell'=true):=AQ n Z
 have HL:Hid (((List.range n).flatMap (aP Z)).length=n * 5):=uj n Z
 have KB:Hid (Below w.heap.size w (w.alloc (.cells #[] 48))):=kb
 clear hr kb
 obtain ⟨i5,hi5,hzz⟩:=Option.map_eq_some_iff.1 Tryz.rJ
 simp only [Prod.mk.injEq] at hzz
 obtain ⟨hz50,hz51,hz52⟩:=hzz
 go_enter Tryz.func106,Tryz.ntmps106
 go_wp2_with (at_builtin;refine wpList_append_own _ rfl _ _ 38 rfl w.heap.size 48 i5 (.agg z5.toArray) 5 40 Tryz.underlying38 hi5 hz50 hz51 hz52 rfl (by decide) _ 0 [] rfl (World.ownsRow_lit w #[] 0 (Ho _) (by simp) (by simp)) (zA b o) n cap ((List.range n).flatMap (aP Z)) rfl HL.out HC.out H1.out (by unfold maxLen;omega) (by omega) (by simp) ?_)
 intro v' w2 hown hg hnil
 have hb2:Below w.heap.size w w2:=KB.out.grown hg (by simp) (fun kk e=>by cases e;exact Ho _)
 have HO:Hid (w2.ownsRow w.heap.size 48 5 v' n ((List.range n).flatMap (aP Z))):=by unfold Hid;simpa using hown
 clear hown hg hnil
 go_wp2
 go_ret
 exact ⟨⟨_,rfl,HO.out⟩,hb2⟩
theorem RP.zero {lo hi lo' hi':Nat} {w w':World} {v:Value} {n:Nat} {Z:Nat→Nat→Int} {g:Nat} (h:RP lo hi w v n Z g) (e:n=0):RP lo' hi' w' v n Z g:=by
 rcases h with ⟨_,a,c,h⟩ | ⟨c,h,_⟩
 ·exact .inl ⟨e,a,c,h⟩
 ·exact .inl ⟨e,_,c,by rw [h,e]⟩
theorem RP.shape {lo hi:Nat} {w:World} {v:Value} {n:Nat} {Z:Nat→Nat→Int} {g:Nat} (h:RP lo hi w v n Z g):∃ a l c,v=.slice a l c:=by
 rcases h with ⟨_,a,c,h⟩ | ⟨c,h,_⟩
 ·exact ⟨_,_,_,h⟩
 ·exact ⟨_,_,_,h⟩
theorem own_ne {w:World} {base k:Nat} {s:Value} {sl:Nat→Value} (h:w.ownsRow base 125 1 s k ((List.range k).map sl)) (hk:0<k) (hs:∃ a l c,sl 0=.slice a l c) {lo hi:Nat} {v:Value} {n:Nat} {Z:Nat→Nat→Int} {g:Nat} (r:RP lo hi w v n Z g) (hn:n≠0):s.ownBlock≠some g:=by
 intro e
 obtain ⟨a,l,c,hsl⟩:=hs
 have h0:=h.cells e 0 (sl 0) (by rw [List.getElem?_map,List.getElem?_range hk];rfl)
 rcases r with ⟨r,_⟩ | ⟨_,_,_,_,_,r⟩
 ·exact absurd r hn
 ·have h1:=r.2 0 0 (by omega) (by omega)
  rw [iR,Nat.add_zero] at h0
  rw [show 0 * 8+0=0 from rfl,h0,hsl] at h1
  cases h1
theorem su {α:Type} (k:Nat) (sl:Nat→α) (x:α):(List.range (k+1)).map (fun j=>if j=k then x else sl j)=(List.range k).map sl++[x]:=by
 rw [List.range_succ,List.map_append,List.map_cons,List.map_nil,if_pos rfl]
 congr 1
 apply List.map_congr_left
 intro j hj
 rw [if_neg (by have:=List.mem_range.1 hj;omega)]
theorem jT.zero {lo hi lo' hi':Nat} {w w':World} {v:Value} {n:Nat} {Z:Nat→Nat→Int} {g:Nat} (h:jT lo hi w v n Z g) (e:n=0):jT lo' hi' w' v n Z g:=⟨h.1.zero e,h.2.1,fun _ _ _ hn=>absurd e hn⟩
theorem jr {P:Program} {w:World} {ops:Array Oper} {rest:List Oper} {o:Oper} {a:Act} {Q:Exit→Act→World→Prop} (hgd:o.guard=none) (s x:Operand) (t:TypeId)
 (ho:o.op=.call { callee:=.builtin .append,args:=#[s,x],argTypes:=#[t,t] })
 (base:Nat) (e:TypeId) (i:TypeInfo) (z:Value) (size bytes:Nat) (ht:P.underlying t=some (.slice e)) (hi:P.info? e=some i) (hz:i.zero=some z)
 (hsize:i.size=size) (hby:i.bytes=bytes) (hzs:z.cells.size=size) (hsz:0<size)
 (v:Value) (n:Nat) (xs:List Value) (hs:a.eval s=v) (hown:w.ownsRow base e size v n xs)
 (ad:Addr) (m c:Nat) (news:List Value) (hx:a.eval x=.slice (some ad) m c) (hl:news.length=m * size) (hnews:∀ j u,news[j]? = some u→w.cell? (ad.add j)=some u) (h1:∀ u ∈ news,u.oneCell'=true)
 (h63:n+m≤maxLen) (hbytes:(n+m) * bytes≤140737488355328) (hbase:base≤w.heap.size)
 (h:∀ v' w',w'.ownsRow base e size v' (n+m) (xs++news)→w.grownBy w' v.ownBlock→(m=0→v'=v)→wpList P ops Q rest (a.put o.dst v') w'):wpList P ops Q (o :: rest) a w:=by
 by_cases hm:m=0
 ·subst hm
  have hl0:news=[]:=List.length_eq_zero_iff.1 (by simpa using hl)
  subst hl0
  have hr:(Builtin.append_ #[t,t] o.type #[v,.slice (some ad) 0 c]).run P w=.ok v w:=by
   have hf:=run_firstCells_some (P:=P) w i.size 0 ad 0 c [] (by simp) hnews
   rcases hown.2 with ⟨e1,_⟩ | ⟨g,cap,cur,e1,_,_,hc,_⟩
   ·subst e1
    simp [Builtin.append_,run_underlying ht,sizeOf,typeInfo,hi,Builtin.lenOf,hf]
   ·subst e1
    simp [Builtin.append_,run_underlying ht,sizeOf,typeInfo,hi,Builtin.lenOf,hf,hc,storeCells]
  refine wpList_plain hgd fun K hK=>?_
  unfold Oper.wp execOp
  simp only [ho,resolve,invoke,builtin,Sem.run_bind,Sem.run_pure,Result.andThen_ok,List.map_toArray,List.map_cons,List.map_nil,hs,hx,hr]
  exact hK _ _ (h v w (by simpa using hown) ⟨rfl,rfl,rfl,Ho _,fun _ _ _=>rfl⟩ (fun _=>rfl))
 ·exact wpList_append_own w hgd s x t ho base e i z size bytes ht hi hz hsize hby hzs hsz v n xs hs hown ad m c news hx hl hnews h1 h63 hbytes hbase (fun v' w' h2 h3 _=>h v' w' h2 h3 (fun e=>absurd e hm))
theorem Eu {c d next:Int} {m:Nat} {Z:Nat→Nat→Int} {n:Nat} (h:P8.jP c d next m Z n=true):∀ k,k<n→Z k 0=next - m+k:=fun k hk=>by
 cases e:P8.fV c d next m Z k
 ·rw [P8.kT hk e] at h
  cases h
 ·simp [P8.fV] at e
  exact e.2
theorem Cf {c d next:Int} {n:Nat} {Z:Nat→Nat→Int} (h:P8.eP c d next n Z=true):(n:Int)≤next∧∀ k,k<n→Z k 0=next - n+k:=by
 simp only [P8.eP,Bool.and_eq_true,decide_eq_true_eq] at h
 exact ⟨h.2.2.1,Eu h.2.2.2⟩
theorem Ci {Z:Nat→Nat→Int} {n:Nat} {z next:Int} (h:∀ k,k<n→Z k 0=next - n+k):(P8.rest Z n z).length=n↔n=0∨z≤next - n:=by
 have e:(P8.rest Z n z).length=n↔∀ k ∈ List.range n,decide (z≤Z k 0)=true:=by
  have:=List.length_filter_eq_length_iff (p:=fun k=>decide (z≤Z k 0)) (l:=List.range n)
  rw [List.length_range] at this
  exact this
 rw [e]
 constructor
 ·intro q
  by_cases h0:n=0
  ·exact .inl h0
  ·have:=q 0 (List.mem_range.2 (by omega))
   rw [h 0 (by omega)] at this
   simp at this
   exact .inr this
 ·intro q k hk
  have hk:=List.mem_range.1 hk
  rw [h k hk]
  rcases q with q | q
  ·omega
  ·simp;omega
theorem DV {Z:Nat→Nat→Int} {n:Nat} {z next:Int} (h:∀ k,k<n→Z k 0=next - n+k) (hz:¬ z > next):((P8.rest Z n z).length=n)↔z≤next - n:=by
 rw [Ci h]
 constructor
 ·rintro (q | q)
  ·subst q;simp;omega
  ·exact q
 ·exact .inr
def CV.sZ (V:CV) (s:Nat) (z:Int):CV :=
 { V with N:=fun k=>if k=s then (P8.rest (V.O s) (V.N s) z).length else V.N k,O:=fun k=>if k=s then fun i j=>V.O s (P8.rest (V.O s) (V.N s) z)[i]! j else V.O k }
def jk (V:CV) (q:Nat) (z:Int):Bool:=!(decide (V.X q<z) || decide ((P8.rest (V.O q) (V.N q) z).length=V.N q))
def CV.after (V:CV) (q:Nat) (z:Int):CV:=if jk V q z then V.sZ q z else V
theorem RW.go {lo hi lo' hi':Nat} {w w':World} {v:Value} {n:Nat} {Z:Nat→Nat→Int} {g:Nat} (h:RW lo hi w v n Z g) (h0:lo'≤lo) (h1:hi≤hi') (h2:hi'≤w'.heap.size) (k:n≠0→lo≤g→g<hi→Sm w w' g):RW lo' hi' w' v n Z g:=by
 by_cases e:n=0
 ·rcases h with h | ⟨c,a1,_⟩
  ·exact .inl h
  ·exact .inl ⟨e,_,c,by rw [a1,e]⟩
 ·rcases h with h | ⟨c,a1,a2,a3,a4,a5⟩
  ·exact absurd h.1 e
  ·exact .inr ⟨c,a1,by omega,by omega,h2,uY a5 (k e a2 a3)⟩
theorem RW.in {lo hi:Nat} {w:World} {v:Value} {n:Nat} {Z:Nat→Nat→Int} {g:Nat} (h:RW lo hi w v n Z g) (e:n≠0):lo≤g∧g<hi:=by
 rcases h with h | ⟨c,a1,a2,a3,_⟩
 ·exact absurd h.1 e
 ·exact ⟨a2,a3⟩
theorem RW.is {lo hi:Nat} {w:World} {v:Value} {n:Nat} {Z:Nat→Nat→Int} {g:Nat} (h:RW lo hi w v n Z g):∃ a c,v=.slice a n c∧(n≠0→a=some (zA g 0)):=by
 rcases h with ⟨e,a,c,h⟩ | ⟨c,h,_⟩
 ·exact ⟨a,c,by rw [h,e],fun h=>absurd e h⟩
 ·exact ⟨_,c,h,fun _=>rfl⟩
theorem RP.go {lo hi lo' hi':Nat} {w w':World} {v:Value} {n:Nat} {Z:Nat→Nat→Int} {g:Nat} (h:RP lo hi w v n Z g) (h0:lo'≤lo) (h1:hi≤hi') (h2:hi'≤w'.heap.size) (k:n≠0→lo≤g→g<hi→Sm w w' g):RP lo' hi' w' v n Z g:=by
 by_cases e:n=0
 ·rcases h with h | ⟨c,a1,_⟩
  ·exact .inl h
  ·exact .inl ⟨e,_,c,by rw [a1,e]⟩
 ·rcases h with h | ⟨c,a1,a2,a3,a4,a5⟩
  ·exact absurd h.1 e
  ·exact .inr ⟨c,a1,by omega,by omega,h2,nK a5 (k e a2 a3)⟩
theorem RP.in {lo hi:Nat} {w:World} {v:Value} {n:Nat} {Z:Nat→Nat→Int} {g:Nat} (h:RP lo hi w v n Z g) (e:n≠0):lo≤g∧g<hi:=by
 rcases h with h | ⟨c,a1,a2,a3,_⟩
 ·exact absurd h.1 e
 ·exact ⟨a2,a3⟩
theorem RP.is {lo hi:Nat} {w:World} {v:Value} {n:Nat} {Z:Nat→Nat→Int} {g:Nat} (h:RP lo hi w v n Z g):∃ a c,v=.slice a n c∧(n≠0→a=some (zA g 0)):=by
 rcases h with ⟨e,a,c,h⟩ | ⟨c,h,_⟩
 ·exact ⟨a,c,by rw [h,e],fun h=>absurd e h⟩
 ·exact ⟨_,c,h,fun _=>rfl⟩
theorem jT.go {lo hi lo' hi':Nat} {w w':World} {v:Value} {n:Nat} {Z:Nat→Nat→Int} {g:Nat} (h:jT lo hi w v n Z g) (h0:lo'≤lo) (h1:hi≤hi') (h2:hi'≤w'.heap.size) (k:n≠0→lo≤g→g<hi→Sm w w' g):jT lo' hi' w' v n Z g :=
 ⟨h.1.go h0 h1 h2 k,h.2.sm h0 h1 (fun g' c e hn a b=>by have e2:=h.1.blk hn e;subst e2;exact k hn a b)⟩
theorem jT.in {lo hi:Nat} {w:World} {v:Value} {n:Nat} {Z:Nat→Nat→Int} {g:Nat} (h:jT lo hi w v n Z g) (e:n≠0):lo≤g∧g<hi:=h.1.in e
theorem jT.is {lo hi:Nat} {w:World} {v:Value} {n:Nat} {Z:Nat→Nat→Int} {g:Nat} (h:jT lo hi w v n Z g):∃ a c,v=.slice a n c∧(n≠0→a=some (zA g 0)):=h.1.is
theorem RI.go {lo hi lo' hi':Nat} {w w':World} {v:Value} {n:Nat} {Z:Nat→Int} {g:Nat} (h:RI lo hi w v n Z g) (h0:lo'≤lo) (h1:hi≤hi') (h2:hi'≤w'.heap.size) (k:n≠0→lo≤g→g<hi→Sm w w' g):RI lo' hi' w' v n Z g:=by
 by_cases e:n=0
 ·rcases h with h | ⟨c,a1,_⟩
  ·exact .inl h
  ·exact .inl ⟨e,_,c,by rw [a1,e]⟩
 ·rcases h with h | ⟨c,a1,a2,a3,a4,a5⟩
  ·exact absurd h.1 e
  ·exact .inr ⟨c,a1,by omega,by omega,h2,qZ a5 (k e a2 a3)⟩
theorem RI.in {lo hi:Nat} {w:World} {v:Value} {n:Nat} {Z:Nat→Int} {g:Nat} (h:RI lo hi w v n Z g) (e:n≠0):lo≤g∧g<hi:=by
 rcases h with h | ⟨c,a1,a2,a3,_⟩
 ·exact absurd h.1 e
 ·exact ⟨a2,a3⟩
theorem RI.is {lo hi:Nat} {w:World} {v:Value} {n:Nat} {Z:Nat→Int} {g:Nat} (h:RI lo hi w v n Z g):∃ a c,v=.slice a n c∧(n≠0→a=some (zA g 0)):=by
 rcases h with ⟨e,a,c,h⟩ | ⟨c,h,_⟩
 ·exact ⟨a,c,by rw [h,e],fun h=>absurd e h⟩
 ·exact ⟨_,c,h,fun _=>rfl⟩
/-- A scene's bound: it lies from block l on, and not within k0 .. k1. -/
structure Lo where
 l:Nat
 k0:Nat
 k1:Nat
structure KK (lo:Lo) (w:World) (s b gW gO gX gI nW nX nI nO:Nat) (N xs:Nat→Nat):Prop where
 k:lo.k0≤lo.k1∧lo.k1≤w.heap.size
 s:s<lo.k0∨lo.k1≤s
 b:b<lo.k0∨lo.k1≤b
 O:gO<lo.k0∨lo.k1≤gO
 W:nW≠0→gW<lo.k0∨lo.k1≤gW
 X:nX≠0→gX<lo.k0∨lo.k1≤gX
 I:nI≠0→gI<lo.k0∨lo.k1≤gI
 x:∀ k,k<nO→N k≠0→xs k<lo.k0∨lo.k1≤xs k
theorem KK.up {lo:Lo} {w w':World} {s b gW gO gX gI nW nX nI nO:Nat} {N xs:Nat→Nat} (h:KK lo w s b gW gO gX gI nW nX nI nO N xs) (hz:w.heap.size≤w'.heap.size):KK lo w' s b gW gO gX gI nW nX nI nO N xs:=⟨⟨h.k.1,Hq h.k.2 hz⟩,h.s,h.b,h.O,h.W,h.X,h.I,h.x⟩
def Sc (w:World) (c d:Int) (s b:Nat) (lo:Lo) (V:CV) (n:Nat) (M:Int→Option (Nat→Int)):Prop :=
 ∃ (aW:Option Addr) (kW kO:Nat) (aX:Option Addr) (kX:Nat) (aI:Option Addr) (kI gW gO gX gI:Nat) (sl:Nat→Value) (xs:Nat→Nat),
  qH w s [zI c,zI d,zI V.c,.slice aW V.nW kW,zI V.g,zS gO V.nO kO,.slice aX V.nX kX,.slice aI V.nI kI,.map (some b)]∧RW lo.l w.heap.size w (.slice aW V.nW kW) V.nW V.W gW∧RI lo.l w.heap.size w (.slice aX V.nX kX) V.nX V.X gX∧RI lo.l w.heap.size w (.slice aI V.nI kI) V.nI V.I gI ∧
  (∀ k,k<V.nO→w.cell? (zA gO k)=some (sl k)∧w.frozen? (zA gO k)=false∧jT lo.l w.heap.size w (sl k) (V.N k) (V.O k) (xs k))∧Wm w b n M ∧
  (lo.l≤gO∧gO<w.heap.size∧lo.l≤s∧s<w.heap.size∧lo.l≤b∧¬ s=b∧¬ gO=s∧¬ gO=b) ∧
  ((V.nW≠0→¬ gW=s∧¬ gW=b∧¬ gW=gO)∧(V.nX≠0→¬ gX=s∧¬ gX=b∧¬ gO=gX)∧(V.nI≠0→¬ gI=s∧¬ gI=b∧¬ gO=gI)∧(V.nW≠0→V.nX≠0→¬ gW=gX)∧(V.nW≠0→V.nI≠0→¬ gW=gI)∧(V.nX≠0→V.nI≠0→¬ gX=gI)) ∧
  (∀ k,k<V.nO→V.N k≠0→(¬ xs k=s∧¬ xs k=b∧¬ xs k=gO)∧(V.nW≠0→¬ xs k=gW)∧(V.nX≠0→¬ xs k=gX)∧(V.nI≠0→¬ xs k=gI)) ∧
  (∀ i j,i<j→j<V.nO→V.N i≠0→V.N j≠0→¬ xs i=xs j)∧KK lo w s b gW gO gX gI V.nW V.nX V.nI V.nO V.N xs
theorem Sc.kk {w:World} {c d:Int} {s b:Nat} {lo:Lo} {V:CV} {n:Nat} {M:Int→Option (Nat→Int)} (h:Sc w c d s b lo V n M):lo.k1≤w.heap.size:=by
 obtain ⟨aW,kW,kO,aX,kX,aI,kI,gW,gO,gX,gI,sl,xs,_,_,_,_,_,_,_,_,_,_,hkk⟩:=h
 exact hkk.k.2
theorem He.sc {w:World} {c d:Int} {s b lc hc lo:Nat} {V:CV} {n:Nat} {M:Int→Option (Nat→Int)} (h:He w c d s b lc hc V n M) (h0:V.nO≠0) (h1:lo≤lc) (h2:lo≤s) (h3:lo≤b):Sc w c d s b ⟨lo,w.heap.size,w.heap.size⟩ V n M:=by
 obtain ⟨⟨aW,kW,aO,kO,aX,kX,aI,kI,hN,hO,hT⟩,hM,hsw,hsb,hlh,hhw,hbo,hso⟩:=h
 obtain ⟨vW,vO,vX,vI,gW,gO,gX,gI,sl,xs,e,rW,rO,rX,rI,hd,hx1,hx2⟩:=hO
 obtain ⟨rfl,rfl,rfl,rfl⟩:=kV e
 rcases rO with ⟨e0,_⟩ | ⟨co,e1,l1,l2,_,hc1⟩
 ·exact absurd e0 h0
 simp only [Value.slice.injEq,true_and] at e1
 obtain ⟨rfl,rfl⟩:=e1
 obtain ⟨t1,t2,t3,t4⟩:=hT _ _ _ gO V.nO kO _ _ rfl
 have sm:∀ g,Sm w w g:=fun g=>Sm.refl w g
 refine ⟨aW,kW,kO,aX,kX,aI,kI,gW,gO,gX,gI,sl,xs,hN,rW.go h1 hhw (Ho _) (fun _ _ _=>sm _),rX.go h1 hhw (Ho _) (fun _ _ _=>sm _),rI.go h1 hhw (Ho _) (fun _ _ _=>sm _),fun k hk=>⟨(hc1 k hk).1,t3 k hk,jT.go ⟨(hc1 k hk).2,by obtain ⟨a2,c2,e2⟩:=(hc1 k hk).2.shape';exact t4 k _ a2 (V.N k) c2 hk (hc1 k hk).1 e2⟩ h1 hhw (Ho _) (fun _ _ _=>sm _)⟩,hM,⟨by show lo≤gO;omega,by omega,h2,hsw,h3,hsb,by omega,by omega⟩,⟨fun e=>?_,fun e=>?_,fun e=>?_,fun _ _=>hd.2.1,fun _ _=>hd.2.2.1,fun _ _=>hd.2.2.2.2.2⟩,fun k hk e=>?_,fun i j hij hj _ _=>hx2 i j (by omega) hj (by omega),?_⟩
 ·have:=rW.in e;exact ⟨by omega,by omega,hd.1⟩
 ·have:=rX.in e;exact ⟨by omega,by omega,hd.2.2.2.1⟩
 ·have:=rI.in e;exact ⟨by omega,by omega,hd.2.2.2.2.1⟩
 ·have:=(hc1 k hk).2.in e
  have h:=hx1 k hk
  exact ⟨⟨by omega,by omega,h.2.1⟩,fun _=>h.1,fun _=>h.2.2.1,fun _=>h.2.2.2⟩
 ·exact ⟨⟨Ho _,Ho _⟩,.inl hsw,.inl hM.lt,.inl (by show gO<w.heap.size;omega),fun e=>.inl (by have:=rW.in e;show gW<w.heap.size;omega),fun e=>.inl (by have:=rX.in e;show gX<w.heap.size;omega),fun e=>.inl (by have:=rI.in e;show gI<w.heap.size;omega),fun k hk e=>.inl (by have:=(hc1 k hk).2.in e;show xs k<w.heap.size;omega)⟩
theorem qH.sm {w w':World} {s:Nat} {l:List Value} (h:qH w s l) (k:Sm w w' s):qH w' s l:=fun i hi=>by rw [(k i).1,(k i).2];exact h i hi
theorem Sc.below {w w':World} {c d:Int} {s b:Nat} {lo:Lo} {V:CV} {n:Nat} {M:Int→Option (Nat→Int)} (h:Sc w c d s b lo V n M) (hb:Below w.heap.size w w'):Sc w' c d s b lo V n M:=by
 obtain ⟨aW,kW,kO,aX,kX,aI,kI,gW,gO,gX,gI,sl,xs,hN,rW,rX,rI,hO,hM,⟨l1,l2,l3,l4,l5,l6,l7,l8⟩,hd,hx1,hx2,hkk⟩:=h
 have hz:=hb.size
 exact ⟨aW,kW,kO,aX,kX,aI,kI,gW,gO,gX,gI,sl,xs,hN.sm (aj hb l4),rW.go (Ho _) hz (Ho _) (fun _ _ h=>aj hb h),rX.go (Ho _) hz (Ho _) (fun _ _ h=>aj hb h),rI.go (Ho _) hz (Ho _) (fun _ _ h=>aj hb h),
  fun k hk=>⟨(aj hb l2 k).1.trans (hO k hk).1,(aj hb l2 k).2.trans (hO k hk).2.1,(hO k hk).2.2.go (Ho _) hz (Ho _) (fun _ _ h=>aj hb h)⟩,hM.below hM.lt hb,⟨l1,by omega,l3,by omega,l5,l6,l7,l8⟩,hd,hx1,hx2,hkk.up hz⟩
theorem Sc.reach {w w':World} {c d:Int} {s b l:Nat} {V:CV} {n:Nat} {M:Int→Option (Nat→Int)} (h:Sc w c d s b ⟨l,w.heap.size,w.heap.size⟩ V n M) (hb:Below w.heap.size w w'):Sc w' c d s b ⟨l,w.heap.size,w'.heap.size⟩ V n M:=by
 obtain ⟨aW,kW,kO,aX,kX,aI,kI,gW,gO,gX,gI,sl,xs,hN,rW,rX,rI,hO,hM,⟨l1,l2,l3,l4,l5,l6,l7,l8⟩,hd,hx1,hx2,hkk⟩:=h
 have hz:=hb.size
 exact ⟨aW,kW,kO,aX,kX,aI,kI,gW,gO,gX,gI,sl,xs,hN.sm (aj hb l4),rW.go (Ho _) hz (Ho _) (fun _ _ h=>aj hb h),rX.go (Ho _) hz (Ho _) (fun _ _ h=>aj hb h),rI.go (Ho _) hz (Ho _) (fun _ _ h=>aj hb h),
  fun k hk=>⟨(aj hb l2 k).1.trans (hO k hk).1,(aj hb l2 k).2.trans (hO k hk).2.1,(hO k hk).2.2.go (Ho _) hz (Ho _) (fun _ _ h=>aj hb h)⟩,hM.below hM.lt hb,⟨l1,by omega,l3,by omega,l5,l6,l7,l8⟩,hd,hx1,hx2,⟨hz,Ho _⟩,.inl l4,.inl hM.lt,.inl l2,fun e=>.inl (rW.in e).2,fun e=>.inl (rX.in e).2,fun e=>.inl (rI.in e).2,fun k hk e=>.inl ((hO k hk).2.2.in e).2⟩
end Go.Proofs.YtngaboipleimcaaGreatDoor
namespace Go.Proofs
open Go.Shelf
