/- The library's maps.Keys, slices.Sorted and slices.Sort of ints, at this translation, laid by the guide's own command in plain words; conditions: none. -/
import Derived.Test.YtngaboipleimcaaGreatDoorWm
import Derived.Shelf.SlIterI.Nil
import Derived.Shelf.SortM.Plain
import Derived.Shelf.SortM.SortNone
import Derived.Shelf.SlGeneric
import Derived.Ground.GgzProg
import Derived.Ground.SlgmProg
import Derived.Test.YtngaboipleimcaaGreatDoorProg
namespace Go.Proofs.YtngaboipleimcaaGreatDoor
open Go.RowKit Go.Deep
set_option linter.unusedVariables false
def Nine (w:World) (s:Nat) (l:List Value):Prop:=∀ i,i<9→w.cell? (zA s i)=some (l.getD i undef)∧w.frozen? (zA s i)=false
def Scn (w:World) (c d:Int) (s b lc hc:Nat) (V:CV) (n:Nat) (M:Int→Option (Nat→Int)):Prop :=
 (∃ aW kW aO kO aX kX aI kI,Nine w s [zI c,zI d,zI V.c,.slice aW V.nW kW,zI V.g,.slice aO V.nO kO,.slice aX V.nX kX,.slice aI V.nI kI,.map (some b)]∧OwnC lc hc w (.agg (zD V aW kW aO kO aX kX aI kI).toArray) V∧Thaw lc hc w (.agg (zD V aW kW aO kO aX kX aI kI).toArray))∧Wm w b n M∧s<w.heap.size∧¬ s=b∧lc≤hc∧hc≤w.heap.size∧(b<lc∨hc≤b)∧(s<lc∨hc≤s)
theorem nine_new (W:World) (t:TypeId) (v0 v1 v2 v3 v4 v5 v6 v7 v8:Value):Nine (W.alloc (.cells #[v0,v1,v2,v3,v4,v5,v6,v7,v8] t)) W.heap.size [v0,v1,v2,v3,v4,v5,v6,v7,v8]:=by
 intro i hi
 have:i=0∨i=1∨i=2∨i=3∨i=4∨i=5∨i=6∨i=7∨i=8:=by omega
 rcases this with rfl | rfl | rfl | rfl | rfl | rfl | rfl | rfl | rfl <;> exact ⟨by simp,by simp⟩
set_option maxHeartbeats 8000000 in
theorem sceneOf (c d:Int) (v:Value) (V:CV) (lo:Nat) (hs0:V.short 1048576) (hwf0:∀ k,k<V.nW→(Lit.int .i64 (V.W k 0)).wf=true) (w:World) (h:CopyAt lo w v V) :
 Calls Tryz.prog 50 #[.agg #[zI c,zI d],v] w fun e w'=>∃ s b lc hc,e=.returned (zP s 0)∧Scn w' c d s b lc hc V V.nW (mapW V.W V.nW)∧w.heap.size≤s∧w.heap.size≤b∧w.heap.size≤lc∧Below w.heap.size w w':=by
 have hmm:=@run_makeMap Tryz.prog
 obtain ⟨bW,bO,bX,bI,q0,q1,q2,q3,q4,rfl,g1,g2,g3,g4⟩:=h
 have CP:Hid (CopyAt lo w (.agg (zC V bW V.nW bO V.nO bX V.nX bI V.nI).toArray) V):=⟨bW,bO,bX,bI,q0,q1,q2,q3,q4,rfl,g1,g2,g3,g4⟩
 have gW:Hid (Own5 w bW V.nW V.W V.nW):=g1
 have hs:Hid (V.short 1048576):=hs0
 have hwf:Hid (∀ k,k<V.nW→(Lit.int .i64 (V.W k 0)).wf=true):=hwf0
 have lW:bW<w.heap.size:=by omega
 have hnW:V.nW≤1048576:=hs0.1
 clear g1 g2 g3 g4 hs0 hwf0 q0 q1 q2 q3 q4
 go_enter Tryz.func50,Tryz.ntmps50
 go_wp2_with fail
 obtain ⟨w0,e0⟩:∃ w0,w0=((w.alloc (.cells #[zI c,zI d] 44)).alloc (.cells (zC V bW V.nW bO V.nO bX V.nX bI V.nI).toArray 41)):=⟨_,rfl⟩
 have z0:w.heap.size+2≤w0.heap.size:=by rw [e0];simp
 have z0b:w0.heap.size≤w.heap.size+2:=by rw [e0];simp
 have B0:Hid (Below w.heap.size w w0):=by rw [e0];exact ((Below.refl _ _).alloc (by simp) _).alloc (by simp) _
 have A0:Hid (Six w0 (w.heap.size+1) (zC V bW V.nW bO V.nO bX V.nX bI V.nI)):=by rw [e0];exact six_box2 w #[zI c,zI d] 44 41 (zI V.c) (zS bW V.nW V.nW) (zI V.g) (zS bO V.nO V.nO) (zS bX V.nX V.nX) (zS bI V.nI V.nI)
 have m0:w0.cell? (zA w.heap.size 0)=some (zI c):=by rw [e0];simp
 have m1:w0.cell? (zA w.heap.size 1)=some (zI d):=by rw [e0];simp
 obtain ⟨a0,a1,a2,a3,a4,a5⟩:=A0.out.a6
 rw [←e0]
 clear e0
 refine wp_region_held_drew (S:=fun w'=>Below w0.heap.size w0 w') (by kernel_rfl) ((Below.refl _ _).drew) ?_
 intro hHeld
 refine tkl 0 (.agg #[zI c,zI d]) rfl ?_ ?_
 ·intro wx hSw;have xm0:=(hSw.cell (p:=(zA w.heap.size 0)) (by show w.heap.size<_;omega)).trans m0;have xm1:=(hSw.cell (p:=(zA w.heap.size 1)) (by show w.heap.size<_;omega)).trans m1;go_simp
 try simp only [aT]
 refine tkl 1 (.agg (zC V bW V.nW bO V.nO bX V.nX bI V.nI).toArray) rfl ?_ ?_
 ·intro wx hSw;have xa0:=(hSw.cell (p:=(zA (w.heap.size+1) 0)) (by show w.heap.size+1<_;omega)).trans a0;have xa1:=(hSw.cell (p:=(zA (w.heap.size+1) 1)) (by show w.heap.size+1<_;omega)).trans a1;have xa2:=(hSw.cell (p:=(zA (w.heap.size+1) 2)) (by show w.heap.size+1<_;omega)).trans a2;have xa3:=(hSw.cell (p:=(zA (w.heap.size+1) 3)) (by show w.heap.size+1<_;omega)).trans a3;have xa4:=(hSw.cell (p:=(zA (w.heap.size+1) 4)) (by show w.heap.size+1<_;omega)).trans a4;have xa5:=(hSw.cell (p:=(zA (w.heap.size+1) 5)) (by show w.heap.size+1<_;omega)).trans a5;go_simp
 try simp only [aT]
 clear m0 m1 a0 a1 a2 a3 a4 a5
 refine rdy [2,3] ?_
 refine AllReadyH.cons rfl (fun K hK=>?_) (AllReadyH.cons rfl (fun K hK=>?_) AllReadyH.nil)
 ·go_simp
  go_wp2_with fail
  refine (copyC _ V lo hs.out _ (CP.out.below (B0.out.drew))).mono ?_
  rintro e w1 ⟨⟨v1,rfl,hO,hT⟩,hb1⟩
  obtain ⟨aW,kW,aO,kO,aX,kX,aI,kI,rfl,_,_,_,_⟩:=hO.at
  have hbx:Below w0.heap.size w0 w1:=bthen ((Below.refl _ _).drew) hb1
  have hz1:w0.heap.size≤w1.heap.size:=hbx.size
  refine hK.out _ _ hbx (fun hNew=>?_)
  clear hK K hHeld
  have hHeld:=hNew
  clear hNew
  try simp only [aT]
  refine rd1 3 rfl fun K hK=>?_
  go_simp
  refine hK.out _ _ (hHeld.alloc hz1 _) (fun hNew=>?_)
  clear hK K hHeld
  have hHeld:=hNew
  clear hNew
  try simp only [aT]
  refine tka 4 (.agg #[zI c,zI d,zI V.c,.slice aW V.nW kW,zI V.g,.slice aO V.nO kO,.slice aX V.nX kX,.slice aI V.nI kI,.map (some w1.heap.size)]) rfl ?_
  try simp only [aT]
  refine rd1 5 rfl fun K hK=>?_
  go_simp
  refine hK.out _ _ (hHeld.alloc (by simp;omega) _) (fun hNew=>?_)
  clear hK K hHeld
  have hHeld:=hNew
  clear hNew
  try simp only [aT]
  refine tka 6 (zP (w1.heap.size+1) 0) rfl ?_
  try simp only [aT]
  refine wpAnyH_done (by kernel_rfl) ?_ _
  obtain ⟨W,s,b,lc,hc,eW,es,eb,OW0,TW0,NW0,MW0,BW0,KW0,hsb,hlh,hhW,hsW,hbW,hbo,hso,hlc,hbw,hsw⟩:∃ W s b lc hc,W=((w1.alloc (.map #[] 0)).alloc (.cells #[zI c,zI d,zI V.c,.slice aW V.nW kW,zI V.g,.slice aO V.nO kO,.slice aX V.nX kX,.slice aI V.nI kI,.map (some w1.heap.size)] 133))∧s=w1.heap.size+1∧b=w1.heap.size∧OwnC lc hc W (.agg (zD V aW kW aO kO aX kX aI kI).toArray) V∧Thaw lc hc W (.agg (zD V aW kW aO kO aX kX aI kI).toArray)∧Nine W s [zI c,zI d,zI V.c,.slice aW V.nW kW,zI V.g,.slice aO V.nO kO,.slice aX V.nX kX,.slice aI V.nI kI,.map (some b)]∧Wm W b 0 (mapW V.W 0)∧Below w.heap.size w W∧(∀ x,x<w.heap.size+2→Sm w0 W x)∧¬ s=b∧lc≤hc∧hc≤W.heap.size∧s<W.heap.size∧b<W.heap.size∧(b<lc∨hc≤b)∧(s<lc∨hc≤s)∧w.heap.size+2≤lc∧w.heap.size+2≤b∧w.heap.size+2≤s :=
   ⟨_,_,_,w0.heap.size,w1.heap.size,rfl,rfl,rfl,hO.below (Nat.le_refl _) (((Below.refl _ _).alloc (Nat.le_refl _) _).alloc (by simp) _),Thaw.sm hT (fun x _ hx=>sm_below (((Below.refl _ _).alloc (Nat.le_refl _) _).alloc (by simp) _) hx),(by have h:=nine_new (w1.alloc (.map #[] 0)) 133 (zI c) (zI d) (zI V.c) (.slice aW V.nW kW) (zI V.g) (.slice aO V.nO kO) (.slice aX V.nX kX) (.slice aI V.nI kI) (.map (some w1.heap.size));rw [World.size_alloc] at h;exact h),(Wm.new w1).below (k:=w1.heap.size+1) (by omega) ((Below.refl _ _).alloc (by simp) _),(bthen B0.out hHeld),fun x hx=>sm_below hHeld (by omega),by omega,by omega,by simp <;> omega,by simp <;> omega,by simp <;> omega,by omega,by omega,by omega,by omega,by omega⟩
  rw [←eW,←es,←eb]
  clear eW es eb hHeld hmm
  have TW:Hid _:=TW0
  clear TW0
  have OW:Hid _:=OW0
  have NW:Hid _:=NW0
  have MW:Hid _:=MW0
  have BW:Hid _:=BW0
  have KW:Hid _:=KW0
  clear OW0 NW0 MW0 BW0 KW0
  clear hO hb1 hbx hT
  have q1:W.cell? (zA (w.heap.size+1) 1)=some (zS bW V.nW V.nW):=((KW.out (w.heap.size+1) (by omega)) 1).1.trans (A0.out 1 (by decide)).1
  have lq:w.heap.size+1<W.heap.size:=by omega
  go_wp2_with fail
  clear q1 lq
  go_loopw [17] (fun i wr=>∃ k:Nat,k≤V.nW∧i=zI k∧Wm wr b k (mapW V.W k)∧W.grownBy wr (some b)) (fun i _=>V.nW - (intOf i).toNat)
  case atStart=>exact ⟨0,Nat.zero_le _,rfl,MW.out,⟨rfl,rfl,rfl,Nat.le_refl _,fun _ _ _=>rfl⟩⟩
  case round =>
   obtain ⟨k,hk,rfl,hM,hG⟩:=hrel
   have HMk:Hid (Wm wr b k (mapW V.W k)):=hM
   have HG:Hid (W.grownBy wr (some b)):=hG
   have hzr:W.heap.size≤wr.heap.size:=hG.size
   clear hM hG
   by_cases hkn:k<V.nW
   ·have hkn':(k:Int)<V.nW:=by omega
    have c0:wr.cell? (zA bW (k * 5))=some (zI (V.W k 0)):=by have h1:=(sm_grown HG.out (b:=bW) (by omega) (by simp;omega)) (k * 5+0);have h2:=(sm_below BW.out lW) (k * 5+0);have h3:=own_row gW.out k 0 hkn (by omega);rw [Nat.zero_add] at h3;exact (h1.1.trans h2.1).trans h3
    have c1:wr.cell? (zA bW (k * 5+1))=some (zI (V.W k 1)):=by have h1:=(sm_grown HG.out (b:=bW) (by omega) (by simp;omega)) (k * 5+1);have h2:=(sm_below BW.out lW) (k * 5+1);have h3:=own_row gW.out k 1 hkn (by omega);rw [Nat.zero_add] at h3;exact (h1.1.trans h2.1).trans h3
    have c2:wr.cell? (zA bW (k * 5+2))=some (zI (V.W k 2)):=by have h1:=(sm_grown HG.out (b:=bW) (by omega) (by simp;omega)) (k * 5+2);have h2:=(sm_below BW.out lW) (k * 5+2);have h3:=own_row gW.out k 2 hkn (by omega);rw [Nat.zero_add] at h3;exact (h1.1.trans h2.1).trans h3
    have c3:wr.cell? (zA bW (k * 5+3))=some (zI (V.W k 3)):=by have h1:=(sm_grown HG.out (b:=bW) (by omega) (by simp;omega)) (k * 5+3);have h2:=(sm_below BW.out lW) (k * 5+3);have h3:=own_row gW.out k 3 hkn (by omega);rw [Nat.zero_add] at h3;exact (h1.1.trans h2.1).trans h3
    have c4:wr.cell? (zA bW (k * 5+4))=some (zI (V.W k 4)):=by have h1:=(sm_grown HG.out (b:=bW) (by omega) (by simp;omega)) (k * 5+4);have h2:=(sm_below BW.out lW) (k * 5+4);have h3:=own_row gW.out k 4 hkn (by omega);rw [Nat.zero_add] at h3;exact (h1.1.trans h2.1).trans h3
    have lbW:bW<wr.heap.size:=by omega
    have n8:wr.cell? (zA s 8)=some (.map (some b)):=((sm_grown HG.out (b:=s) (by omega) (by simp;omega)) 8).1.trans (NW.out 8 (by decide)).1
    have ls:s<wr.heap.size:=by omega
    go_wp2_with fail
    obtain ⟨w5,e5⟩:∃ w5,w5=wr.alloc (.cells (zF (V.W k)).toArray 48):=⟨_,rfl⟩
    have hb5:Below wr.heap.size wr w5:=by rw [e5];exact (Below.refl _ _).alloc (Nat.le_refl _) _
    have d0:w5.cell? (zA wr.heap.size 0)=some (zI (V.W k 0)):=by rw [e5];simp
    have d1:w5.cell? (zA wr.heap.size 1)=some (zI (V.W k 1)):=by rw [e5];simp
    have d2:w5.cell? (zA wr.heap.size 2)=some (zI (V.W k 2)):=by rw [e5];simp
    have d3:w5.cell? (zA wr.heap.size 3)=some (zI (V.W k 3)):=by rw [e5];simp
    have d4:w5.cell? (zA wr.heap.size 4)=some (zI (V.W k 4)):=by rw [e5];simp
    have n9:w5.cell? (zA s 8)=some (.map (some b)):=(hb5.cell (p:=(zA s 8)) ls).trans n8
    have hs5:wr.heap.size<w5.heap.size:=by rw [e5];simp
    have ls5:s<w5.heap.size:=by omega
    rw [←e5]
    clear e5 c0 c1 c2 c3 c4 n8 lbW ls
    have M5:Wm w5.drew b k (mapW V.W k):=HMk.out.below (Nat.lt_of_lt_of_le HMk.out.lt (Nat.le_refl _)) (hb5.drew)
    obtain ⟨w6,hupd,hM6,hg6⟩:=M5.put (hwf.out k hkn) (V.W k)
    refine wp_region_held_drew (S:=fun w'=>(∀ g o,g<w5.heap.size→¬ g=b→w'.cell? (zA g o)=w5.cell? (zA g o))∧w5.heap.size≤w'.heap.size) (by kernel_rfl) ⟨fun _ _ _ _=>rfl,Nat.le_refl _⟩ ?_
    intro hHeld
    refine tka 0 (zP s 0) rfl ?_
    try simp only [aT]
    refine tkl 1 (zP s 0) rfl ?_ ?_
    ·intro wx hSw;have x8:=(hSw.1 s 8 ls5 hsb).trans n9;have xl:=Nat.lt_of_lt_of_le ls5 hSw.2;go_simp
    try simp only [aT]
    refine tka 2 (zP s 8) rfl ?_
    try simp only [aT]
    refine tkl 3 (.map (some b)) rfl ?_ ?_
    ·intro wx hSw;have x8:=(hSw.1 s 8 ls5 hsb).trans n9;go_simp
    try simp only [aT]
    refine tka 4 (zP wr.heap.size 0) rfl ?_
    try simp only [aT]
    refine tkl 5 (zI (V.W k 0)) rfl ?_ ?_
    ·intro wx hSw;have x0:=(hSw.1 wr.heap.size 0 hs5 (by omega)).trans d0;go_simp
    try simp only [aT]
    refine tkl 6 (wv (V.W k)) rfl ?_ ?_
    ·intro wx hSw;have x0:=(hSw.1 wr.heap.size 0 hs5 (by omega)).trans d0;have x1:=(hSw.1 wr.heap.size 1 hs5 (by omega)).trans d1;have x2:=(hSw.1 wr.heap.size 2 hs5 (by omega)).trans d2;have x3:=(hSw.1 wr.heap.size 3 hs5 (by omega)).trans d3;have x4:=(hSw.1 wr.heap.size 4 hs5 (by omega)).trans d4;unfold wv;go_simp
    try simp only [aT]
    refine rd1 7 rfl fun K hK=>?_
    clear hHeld
    go_simp
    refine hK.out _ _ ⟨fun g o hg hne=>(sm_grown hg6 (b:=g) hg (by simp;exact hne) o).1,hg6.size⟩ (fun hNew=>?_)
    clear hK K hNew
    try simp only [aT]
    refine wpAnyH_done (by kernel_rfl) ?_ _
    have hgn:Hid (W.grownBy w6 (some b)):=(HG.out.trans (P8.grown_of_below2 hb5)).trans ⟨hg6.os,hg6.tape,hg6.output,hg6.size,hg6.block⟩
    have HM6:Hid (Wm w6 b (k+1) (mapW V.W (k+1))):=hM6
    clear hM6 hg6 hupd M5 d0 d1 d2 d3 d4 n9 ls5 hb5 HG HMk
    go_wp2
    go_roundw
    case rel=>exact ⟨k+1,by omega,by go_num,HM6.out,hgn.out⟩
    case measure=>simp [intOf];omega
   ·have hkk:k=V.nW:=by omega
    subst hkk
    go_wp2
    go_ret
    have hsm:∀ x,x<W.heap.size→¬ x=b→Sm W wr x:=fun x h1 h2=>sm_grown HG.out h1 (by simp;exact h2)
    refine ⟨s,b,lc,hc,rfl,⟨⟨aW,kW,aO,kO,aX,kX,aI,kI,fun i hi=>?_,OwnC.sm OW.out hzr (fun x h1 h2=>hsm x (by omega) (by omega)),Thaw.sm TW.out (fun x h1 h2=>hsm x (by omega) (by omega))⟩,HMk.out,by omega,hsb,hlh,by omega,hbo,hso⟩,by omega,by omega,by omega,?_⟩
    ·have h1:=hsm s hsW hsb i;rw [h1.1,h1.2];exact NW.out i hi
    ·exact BW.out.grown HG.out BW.out.size (fun kk e=>by cases e;omega)
 ·go_simp
  refine hK.out _ _ (hHeld.alloc (Nat.le_refl _) _) (fun hNew=>?_)
  clear hK K hHeld
  have hHeld:=hNew
  clear hNew
  try simp only [aT]
  refine rd1 2 rfl fun K hK=>?_
  go_simp
  go_wp2_with fail
  refine (copyC _ V lo hs.out _ (CP.out.below (bthen B0.out hHeld))).mono ?_
  rintro e w1 ⟨⟨v1,rfl,hO,hT⟩,hb1⟩
  obtain ⟨aW,kW,aO,kO,aX,kX,aI,kI,rfl,_,_,_,_⟩:=hO.at
  have hz1:w0.heap.size+1≤w1.heap.size:=by have:=hb1.size;simpa using this
  have hM1:Wm w1 w0.heap.size 0 (mapW V.W 0):=(Wm.new w0.drew).below (by show w0.heap.size<_;simp) hb1
  have hO2:OwnC (w0.heap.size+1) w1.heap.size w1 (.agg (zD V aW kW aO kO aX kX aI kI).toArray) V:=by have e:(w0.alloc (.map #[] 0)).drew.heap.size=w0.heap.size+1:=World.size_alloc w0 _;rw [e] at hO;exact hO
  have hT2:Thaw (w0.heap.size+1) w1.heap.size w1 (.agg (zD V aW kW aO kO aX kX aI kI).toArray):=by have e:(w0.alloc (.map #[] 0)).drew.heap.size=w0.heap.size+1:=World.size_alloc w0 _;rw [e] at hT;exact hT
  refine hK.out _ _ (bthen hHeld hb1) (fun hNew=>?_)
  clear hK K hHeld
  have hHeld:=hNew
  clear hNew
  try simp only [aT]
  refine tka 4 (.agg #[zI c,zI d,zI V.c,.slice aW V.nW kW,zI V.g,.slice aO V.nO kO,.slice aX V.nX kX,.slice aI V.nI kI,.map (some w0.heap.size)]) rfl ?_
  try simp only [aT]
  refine rd1 5 rfl fun K hK=>?_
  go_simp
  refine hK.out _ _ (hHeld.alloc (by omega) _) (fun hNew=>?_)
  clear hK K hHeld
  have hHeld:=hNew
  clear hNew
  try simp only [aT]
  refine tka 6 (zP w1.heap.size 0) rfl ?_
  try simp only [aT]
  refine wpAnyH_done (by kernel_rfl) ?_ _
  obtain ⟨W,s,b,lc,hc,eW,es,eb,OW0,TW0,NW0,MW0,BW0,KW0,hsb,hlh,hhW,hsW,hbW,hbo,hso,hlc,hbw,hsw⟩:∃ W s b lc hc,W=(w1.alloc (.cells #[zI c,zI d,zI V.c,.slice aW V.nW kW,zI V.g,.slice aO V.nO kO,.slice aX V.nX kX,.slice aI V.nI kI,.map (some w0.heap.size)] 133))∧s=w1.heap.size∧b=w0.heap.size∧OwnC lc hc W (.agg (zD V aW kW aO kO aX kX aI kI).toArray) V∧Thaw lc hc W (.agg (zD V aW kW aO kO aX kX aI kI).toArray)∧Nine W s [zI c,zI d,zI V.c,.slice aW V.nW kW,zI V.g,.slice aO V.nO kO,.slice aX V.nX kX,.slice aI V.nI kI,.map (some b)]∧Wm W b 0 (mapW V.W 0)∧Below w.heap.size w W∧(∀ x,x<w.heap.size+2→Sm w0 W x)∧¬ s=b∧lc≤hc∧hc≤W.heap.size∧s<W.heap.size∧b<W.heap.size∧(b<lc∨hc≤b)∧(s<lc∨hc≤s)∧w.heap.size+2≤lc∧w.heap.size+2≤b∧w.heap.size+2≤s :=
   ⟨_,_,_,w0.heap.size+1,w1.heap.size,rfl,rfl,rfl,hO2.below (Nat.le_refl _) ((Below.refl _ _).alloc (Nat.le_refl _) _),Thaw.sm hT2 (fun x _ hx=>sm_below ((Below.refl _ _).alloc (Nat.le_refl _) _) hx),nine_new w1 133 (zI c) (zI d) (zI V.c) (.slice aW V.nW kW) (zI V.g) (.slice aO V.nO kO) (.slice aX V.nX kX) (.slice aI V.nI kI) (.map (some w0.heap.size)),hM1.below hM1.lt ((Below.refl _ _).alloc (Nat.le_refl _) _),(bthen B0.out hHeld),fun x hx=>sm_below hHeld (by omega),by omega,by omega,by simp <;> omega,by simp <;> omega,by simp <;> omega,by omega,by omega,by omega,by omega,by omega⟩
  rw [←eW,←es,←eb]
  clear eW es eb hHeld hmm
  have TW:Hid _:=TW0
  clear TW0
  have OW:Hid _:=OW0
  have NW:Hid _:=NW0
  have MW:Hid _:=MW0
  have BW:Hid _:=BW0
  have KW:Hid _:=KW0
  clear OW0 NW0 MW0 BW0 KW0
  clear hO hb1 hO2 hM1 hT hT2
  have q1:W.cell? (zA (w.heap.size+1) 1)=some (zS bW V.nW V.nW):=((KW.out (w.heap.size+1) (by omega)) 1).1.trans (A0.out 1 (by decide)).1
  have lq:w.heap.size+1<W.heap.size:=by omega
  go_wp2_with fail
  clear q1 lq
  go_loopw [17] (fun i wr=>∃ k:Nat,k≤V.nW∧i=zI k∧Wm wr b k (mapW V.W k)∧W.grownBy wr (some b)) (fun i _=>V.nW - (intOf i).toNat)
  case atStart=>exact ⟨0,Nat.zero_le _,rfl,MW.out,⟨rfl,rfl,rfl,Nat.le_refl _,fun _ _ _=>rfl⟩⟩
  case round =>
   obtain ⟨k,hk,rfl,hM,hG⟩:=hrel
   have HMk:Hid (Wm wr b k (mapW V.W k)):=hM
   have HG:Hid (W.grownBy wr (some b)):=hG
   have hzr:W.heap.size≤wr.heap.size:=hG.size
   clear hM hG
   by_cases hkn:k<V.nW
   ·have hkn':(k:Int)<V.nW:=by omega
    have c0:wr.cell? (zA bW (k * 5))=some (zI (V.W k 0)):=by have h1:=(sm_grown HG.out (b:=bW) (by omega) (by simp;omega)) (k * 5+0);have h2:=(sm_below BW.out lW) (k * 5+0);have h3:=own_row gW.out k 0 hkn (by omega);rw [Nat.zero_add] at h3;exact (h1.1.trans h2.1).trans h3
    have c1:wr.cell? (zA bW (k * 5+1))=some (zI (V.W k 1)):=by have h1:=(sm_grown HG.out (b:=bW) (by omega) (by simp;omega)) (k * 5+1);have h2:=(sm_below BW.out lW) (k * 5+1);have h3:=own_row gW.out k 1 hkn (by omega);rw [Nat.zero_add] at h3;exact (h1.1.trans h2.1).trans h3
    have c2:wr.cell? (zA bW (k * 5+2))=some (zI (V.W k 2)):=by have h1:=(sm_grown HG.out (b:=bW) (by omega) (by simp;omega)) (k * 5+2);have h2:=(sm_below BW.out lW) (k * 5+2);have h3:=own_row gW.out k 2 hkn (by omega);rw [Nat.zero_add] at h3;exact (h1.1.trans h2.1).trans h3
    have c3:wr.cell? (zA bW (k * 5+3))=some (zI (V.W k 3)):=by have h1:=(sm_grown HG.out (b:=bW) (by omega) (by simp;omega)) (k * 5+3);have h2:=(sm_below BW.out lW) (k * 5+3);have h3:=own_row gW.out k 3 hkn (by omega);rw [Nat.zero_add] at h3;exact (h1.1.trans h2.1).trans h3
    have c4:wr.cell? (zA bW (k * 5+4))=some (zI (V.W k 4)):=by have h1:=(sm_grown HG.out (b:=bW) (by omega) (by simp;omega)) (k * 5+4);have h2:=(sm_below BW.out lW) (k * 5+4);have h3:=own_row gW.out k 4 hkn (by omega);rw [Nat.zero_add] at h3;exact (h1.1.trans h2.1).trans h3
    have lbW:bW<wr.heap.size:=by omega
    have n8:wr.cell? (zA s 8)=some (.map (some b)):=((sm_grown HG.out (b:=s) (by omega) (by simp;omega)) 8).1.trans (NW.out 8 (by decide)).1
    have ls:s<wr.heap.size:=by omega
    go_wp2_with fail
    obtain ⟨w5,e5⟩:∃ w5,w5=wr.alloc (.cells (zF (V.W k)).toArray 48):=⟨_,rfl⟩
    have hb5:Below wr.heap.size wr w5:=by rw [e5];exact (Below.refl _ _).alloc (Nat.le_refl _) _
    have d0:w5.cell? (zA wr.heap.size 0)=some (zI (V.W k 0)):=by rw [e5];simp
    have d1:w5.cell? (zA wr.heap.size 1)=some (zI (V.W k 1)):=by rw [e5];simp
    have d2:w5.cell? (zA wr.heap.size 2)=some (zI (V.W k 2)):=by rw [e5];simp
    have d3:w5.cell? (zA wr.heap.size 3)=some (zI (V.W k 3)):=by rw [e5];simp
    have d4:w5.cell? (zA wr.heap.size 4)=some (zI (V.W k 4)):=by rw [e5];simp
    have n9:w5.cell? (zA s 8)=some (.map (some b)):=(hb5.cell (p:=(zA s 8)) ls).trans n8
    have hs5:wr.heap.size<w5.heap.size:=by rw [e5];simp
    have ls5:s<w5.heap.size:=by omega
    rw [←e5]
    clear e5 c0 c1 c2 c3 c4 n8 lbW ls
    have M5:Wm w5.drew b k (mapW V.W k):=HMk.out.below (Nat.lt_of_lt_of_le HMk.out.lt (Nat.le_refl _)) (hb5.drew)
    obtain ⟨w6,hupd,hM6,hg6⟩:=M5.put (hwf.out k hkn) (V.W k)
    refine wp_region_held_drew (S:=fun w'=>(∀ g o,g<w5.heap.size→¬ g=b→w'.cell? (zA g o)=w5.cell? (zA g o))∧w5.heap.size≤w'.heap.size) (by kernel_rfl) ⟨fun _ _ _ _=>rfl,Nat.le_refl _⟩ ?_
    intro hHeld
    refine tka 0 (zP s 0) rfl ?_
    try simp only [aT]
    refine tkl 1 (zP s 0) rfl ?_ ?_
    ·intro wx hSw;have x8:=(hSw.1 s 8 ls5 hsb).trans n9;have xl:=Nat.lt_of_lt_of_le ls5 hSw.2;go_simp
    try simp only [aT]
    refine tka 2 (zP s 8) rfl ?_
    try simp only [aT]
    refine tkl 3 (.map (some b)) rfl ?_ ?_
    ·intro wx hSw;have x8:=(hSw.1 s 8 ls5 hsb).trans n9;go_simp
    try simp only [aT]
    refine tka 4 (zP wr.heap.size 0) rfl ?_
    try simp only [aT]
    refine tkl 5 (zI (V.W k 0)) rfl ?_ ?_
    ·intro wx hSw;have x0:=(hSw.1 wr.heap.size 0 hs5 (by omega)).trans d0;go_simp
    try simp only [aT]
    refine tkl 6 (wv (V.W k)) rfl ?_ ?_
    ·intro wx hSw;have x0:=(hSw.1 wr.heap.size 0 hs5 (by omega)).trans d0;have x1:=(hSw.1 wr.heap.size 1 hs5 (by omega)).trans d1;have x2:=(hSw.1 wr.heap.size 2 hs5 (by omega)).trans d2;have x3:=(hSw.1 wr.heap.size 3 hs5 (by omega)).trans d3;have x4:=(hSw.1 wr.heap.size 4 hs5 (by omega)).trans d4;unfold wv;go_simp
    try simp only [aT]
    refine rd1 7 rfl fun K hK=>?_
    clear hHeld
    go_simp
    refine hK.out _ _ ⟨fun g o hg hne=>(sm_grown hg6 (b:=g) hg (by simp;exact hne) o).1,hg6.size⟩ (fun hNew=>?_)
    clear hK K hNew
    try simp only [aT]
    refine wpAnyH_done (by kernel_rfl) ?_ _
    have hgn:Hid (W.grownBy w6 (some b)):=(HG.out.trans (P8.grown_of_below2 hb5)).trans ⟨hg6.os,hg6.tape,hg6.output,hg6.size,hg6.block⟩
    have HM6:Hid (Wm w6 b (k+1) (mapW V.W (k+1))):=hM6
    clear hM6 hg6 hupd M5 d0 d1 d2 d3 d4 n9 ls5 hb5 HG HMk
    go_wp2
    go_roundw
    case rel=>exact ⟨k+1,by omega,by go_num,HM6.out,hgn.out⟩
    case measure=>simp [intOf];omega
   ·have hkk:k=V.nW:=by omega
    subst hkk
    go_wp2
    go_ret
    have hsm:∀ x,x<W.heap.size→¬ x=b→Sm W wr x:=fun x h1 h2=>sm_grown HG.out h1 (by simp;exact h2)
    refine ⟨s,b,lc,hc,rfl,⟨⟨aW,kW,aO,kO,aX,kX,aI,kI,fun i hi=>?_,OwnC.sm OW.out hzr (fun x h1 h2=>hsm x (by omega) (by omega)),Thaw.sm TW.out (fun x h1 h2=>hsm x (by omega) (by omega))⟩,HMk.out,by omega,hsb,hlh,by omega,hbo,hso⟩,by omega,by omega,by omega,?_⟩
    ·have h1:=hsm s hsW hsb i;rw [h1.1,h1.2];exact NW.out i hi
    ·exact BW.out.grown HG.out BW.out.size (fun kk e=>by cases e;omega)
theorem five5_len (n:Nat) (Z:Nat→Nat→Int):((List.range n).flatMap (five5 Z)).length=n * 5:=by
 induction n with
 | zero=>simp
 | succ n ih=>rw [List.range_succ,List.flatMap_append,List.length_append,ih];simp [five5,Nat.succ_mul]
theorem five5_cells {w:World} {b o n:Nat} {Z:Nat→Nat→Int} (hr:∀ k j,k<n→j<5→w.cell? (zA b (o+k * 5+j))=some (zI (Z k j))):∀ j u,((List.range n).flatMap (five5 Z))[j]? = some u→w.cell? (((zA b o):Addr).add j)=some u:=by
 intro j u hj
 have hlt:j<n * 5:=by
  have:=(List.getElem?_eq_some_iff.1 hj).1
  rw [five5_len] at this;exact this
 rw [flat_get (five5 Z) (fun _=>rfl) (by decide) n j hlt] at hj
 have hq:j / 5<n:=Nat.div_lt_of_lt_mul (by omega)
 have hr':=hr (j / 5) (j % 5) hq (Nat.mod_lt _ (by decide))
 rw [add_none,show o+j=o+j / 5 * 5+j % 5 by omega,hr',←hj]
 have:j % 5<5:=Nat.mod_lt _ (by decide)
 generalize j % 5=q at this ⊢
 match q,this with
 | 0,_=>rfl
 | 1,_=>rfl
 | 2,_=>rfl
 | 3,_=>rfl
 | 4,_=>rfl
theorem five5_one (n:Nat) (Z:Nat→Nat→Int):∀ u ∈ (List.range n).flatMap (five5 Z),u.oneCell'=true:=by
 intro u hu
 obtain ⟨k,_,hk⟩:=List.mem_flatMap.1 hu
 simp [five5] at hk
 rcases hk with rfl | rfl | rfl | rfl | rfl <;> rfl
theorem eight8_len (n:Nat) (Z:Nat→Nat→Int):((List.range n).flatMap (P8.eight Z)).length=n * 8:=by
 induction n with
 | zero=>simp
 | succ n ih=>rw [List.range_succ,List.flatMap_append,List.length_append,ih];simp [P8.eight,Nat.succ_mul]
theorem eight8_cells {w:World} {b o n:Nat} {Z:Nat→Nat→Int} (hr:∀ k j,k<n→j<8→w.cell? (zA b (o+k * 8+j))=some (zI (Z k j))):∀ j u,((List.range n).flatMap (P8.eight Z))[j]? = some u→w.cell? (((zA b o):Addr).add j)=some u:=by
 intro j u hj
 have hlt:j<n * 8:=by
  have:=(List.getElem?_eq_some_iff.1 hj).1
  rw [eight8_len] at this;exact this
 rw [flat_get (P8.eight Z) (fun _=>rfl) (by decide) n j hlt] at hj
 have hq:j / 8<n:=Nat.div_lt_of_lt_mul (by omega)
 have hr':=hr (j / 8) (j % 8) hq (Nat.mod_lt _ (by decide))
 rw [add_none,show o+j=o+j / 8 * 8+j % 8 by omega,hr',←hj]
 have:j % 8<8:=Nat.mod_lt _ (by decide)
 generalize j % 8=q at this ⊢
 match q,this with
 | 0,_=>rfl
 | 1,_=>rfl
 | 2,_=>rfl
 | 3,_=>rfl
 | 4,_=>rfl
 | 5,_=>rfl
 | 6,_=>rfl
 | 7,_=>rfl
theorem eight8_one (n:Nat) (Z:Nat→Nat→Int):∀ u ∈ (List.range n).flatMap (P8.eight Z),u.oneCell'=true:=by
 intro u hu
 obtain ⟨k,_,hk⟩:=List.mem_flatMap.1 hu
 simp [P8.eight] at hk
 rcases hk with rfl | rfl | rfl | rfl | rfl | rfl | rfl | rfl <;> rfl
theorem one11_len (n:Nat) (X:Nat→Int):((List.range n).flatMap (one1 X)).length=n * 1:=by
 induction n with
 | zero=>simp
 | succ n ih=>rw [List.range_succ,List.flatMap_append,List.length_append,ih];simp [one1,Nat.succ_mul]
theorem one11_cells {w:World} {b o n:Nat} {X:Nat→Int} (hr:∀ k,k<n→w.cell? (zA b (o+k))=some (zI (X k))):∀ j u,((List.range n).flatMap (one1 X))[j]? = some u→w.cell? (((zA b o):Addr).add j)=some u:=by
 intro j u hj
 have hlt:j<n * 1:=by
  have:=(List.getElem?_eq_some_iff.1 hj).1
  rw [one11_len] at this;exact this
 rw [flat_get (m:=1) (one1 X) (fun _=>rfl) (by decide) n j hlt,Nat.div_one,Nat.mod_one] at hj
 rw [add_none,hr j (by omega),←hj]
 rfl
theorem one11_one (n:Nat) (X:Nat→Int):∀ u ∈ (List.range n).flatMap (one1 X),u.oneCell'=true:=by
 intro u hu
 obtain ⟨k,_,hk⟩:=List.mem_flatMap.1 hu
 simp [one1] at hk
 subst hk;rfl
theorem ownC_any {lo hi:Nat} {w:World} {V:CV} {vW vX vI:Value} {gW gO gX gI cO:Nat} {sl:Nat→Value} {xs:Nat→Nat} (rW:RW lo hi w vW V.nW V.W gW) (hO1:lo≤gO) (hO2:gO<hi) (hhi:hi≤w.heap.size)
 (rO:∀ k,k<V.nO→w.cell? (zA gO k)=some (sl k)∧RP lo hi w (sl k) (V.N k) (V.O k) (xs k)) (rX:RI lo hi w vX V.nX V.X gX) (rI:RI lo hi w vI V.nI V.I gI)
 (d1:V.nW≠0→gW≠gO) (d2:V.nW≠0→V.nX≠0→gW≠gX) (d3:V.nW≠0→V.nI≠0→gW≠gI) (d4:V.nX≠0→gO≠gX) (d5:V.nI≠0→gO≠gI) (d6:V.nX≠0→V.nI≠0→gX≠gI)
 (hx:∀ k,k<V.nO→V.N k≠0→(V.nW≠0→xs k≠gW)∧xs k≠gO∧(V.nX≠0→xs k≠gX)∧(V.nI≠0→xs k≠gI)) (hxx:∀ i j,i<j→j<V.nO→V.N i≠0→V.N j≠0→xs i≠xs j) :
 OwnC lo hi w (.agg #[zI V.c,vW,zI V.g,zS gO V.nO cO,vX,vI]) V:=by
 obtain ⟨pW,rW',cW⟩:=rW.pick hi
 obtain ⟨pX,rX',cX⟩:=rX.pick (hi+1)
 obtain ⟨pI,rI',cI⟩:=rI.pick (hi+2)
 refine ⟨vW,_,vX,vI,pW,gO,pX,pI,sl,fun k=>if V.N k=0 then hi+3+k else xs k,rfl,rW',.inr ⟨cO,rfl,hO1,hO2,hhi,fun k hk=>⟨(rO k hk).1,((rO k hk).2.pick (hi+3+k)).1⟩⟩,rX',rI',?_,fun k hk=>?_,fun i j hi' hj' hne=>?_⟩
 ·refine ⟨?_,?_,?_,?_,?_,?_⟩
  ·rcases cW with ⟨_,rfl⟩ | ⟨e,rfl,_⟩
   ·omega
   ·have:=d1 e;omega
  ·rcases cW with ⟨_,rfl⟩ | ⟨e,rfl,_⟩ <;> rcases cX with ⟨_,rfl⟩ | ⟨e2,rfl,_⟩ <;> first | omega | exact d2 e e2
  ·rcases cW with ⟨_,rfl⟩ | ⟨e,rfl,_⟩ <;> rcases cI with ⟨_,rfl⟩ | ⟨e2,rfl,_⟩ <;> first | omega | exact d3 e e2
  ·rcases cX with ⟨_,rfl⟩ | ⟨e2,rfl,_⟩ <;> first | omega | (have:=d4 e2;omega)
  ·rcases cI with ⟨_,rfl⟩ | ⟨e2,rfl,_⟩ <;> first | omega | (have:=d5 e2;omega)
  ·rcases cX with ⟨_,rfl⟩ | ⟨e,rfl,_⟩ <;> rcases cI with ⟨_,rfl⟩ | ⟨e2,rfl,_⟩ <;> first | omega | (have:=d6 e e2;omega)
 ·have hb:=((rO k hk).2.pick (hi+3+k)).2
  dsimp only
  by_cases e0:V.N k=0
  ·rw [if_pos e0]
   refine ⟨?_,by omega,?_,?_⟩
   ·rcases cW with ⟨_,rfl⟩ | ⟨e,rfl,_⟩ <;> omega
   ·rcases cX with ⟨_,rfl⟩ | ⟨e,rfl,_⟩ <;> omega
   ·rcases cI with ⟨_,rfl⟩ | ⟨e,rfl,_⟩ <;> omega
  ·rw [if_neg e0]
   have h1:=hb e0
   obtain ⟨h1b,h2,h3,h4⟩:=hx k hk e0
   refine ⟨?_,by omega,?_,?_⟩
   ·rcases cW with ⟨_,rfl⟩ | ⟨e,rfl,_⟩ <;> first | omega | exact h1b e
   ·rcases cX with ⟨_,rfl⟩ | ⟨e,rfl,_⟩ <;> first | omega | (have:=h3 e;omega)
   ·rcases cI with ⟨_,rfl⟩ | ⟨e,rfl,_⟩ <;> first | omega | (have:=h4 e;omega)
 ·have b1:=((rO i hi').2.pick (hi+3+i)).2
  have b2:=((rO j hj').2.pick (hi+3+j)).2
  dsimp only
  by_cases e1:V.N i=0
  ·rw [if_pos e1]
   by_cases e2:V.N j=0
   ·rw [if_pos e2];omega
   ·rw [if_neg e2];have:=b2 e2;omega
  ·rw [if_neg e1]
   have:=b1 e1
   by_cases e2:V.N j=0
   ·rw [if_pos e2];omega
   ·rw [if_neg e2]
    rcases Nat.lt_or_gt_of_ne hne with h | h
    ·have:=hxx i j h hj' e1 e2;omega
    ·have:=hxx j i h hi' e2 e1;omega
set_option maxHeartbeats 1000000 in
theorem copyW_spec (b o n cap:Nat) (Z:Nat→Nat→Int) (hn:n≤1048576) (w:World) (hb:b<w.heap.size) (hr:∀ k j,k<n→j<5→w.cell? (zA b (o+k * 5+j))=some (zI (Z k j))) :
 Calls Tryz.prog 106 #[.slice (some (zA b o)) n cap] w fun e w'=>(∃ v,e=.returned v∧w'.ownsRow w.heap.size 48 5 v n ((List.range n).flatMap (five5 Z)))∧Below w.heap.size w w':=by
 have kb:Below w.heap.size w (w.alloc (.cells #[] 48)):=(Below.refl _ _).alloc (Nat.le_refl _) _
 have HC:Hid (∀ j u,((List.range n).flatMap (five5 Z))[j]? = some u→(w.alloc (.cells #[] 48)).cell? (((zA b o):Addr).add j)=some u):=five5_cells (fun k j a1 a2=>(kb.cell (p:=⟨b,_,none⟩) hb).trans (hr k j a1 a2))
 have H1:Hid (∀ u ∈ (List.range n).flatMap (five5 Z),u.oneCell'=true):=five5_one n Z
 have HL:Hid (((List.range n).flatMap (five5 Z)).length=n * 5):=five5_len n Z
 have KB:Hid (Below w.heap.size w (w.alloc (.cells #[] 48))):=kb
 clear hr kb
 obtain ⟨i5,hi5,hzz⟩:=Option.map_eq_some_iff.1 Tryz.info48
 simp only [Prod.mk.injEq] at hzz
 obtain ⟨hz50,hz51,hz52⟩:=hzz
 go_enter Tryz.func106,Tryz.ntmps106
 go_wp2_with (at_builtin;refine wpList_append_own _ rfl _ _ 38 rfl w.heap.size 48 i5 (.agg z5.toArray) 5 40 Tryz.underlying38 hi5 hz50 hz51 hz52 rfl (by decide) _ 0 [] rfl (World.ownsRow_lit w #[] 0 (Nat.le_refl _) (by simp) (by simp)) (zA b o) n cap ((List.range n).flatMap (five5 Z)) rfl HL.out HC.out H1.out (by unfold maxLen;omega) (by omega) (by simp) ?_)
 intro v' w2 hown hg hnil
 have hb2:Below w.heap.size w w2:=KB.out.grown hg (by simp) (fun kk e=>by cases e;exact Nat.le_refl _)
 have HO:Hid (w2.ownsRow w.heap.size 48 5 v' n ((List.range n).flatMap (five5 Z))):=by unfold Hid;simpa using hown
 clear hown hg hnil
 go_wp2
 go_ret
 exact ⟨⟨_,rfl,HO.out⟩,hb2⟩
theorem RP.zero {lo hi lo' hi':Nat} {w w':World} {v:Value} {n:Nat} {Z:Nat→Nat→Int} {g:Nat} (h:RP lo hi w v n Z g) (e:n=0):RP lo' hi' w' v n Z g:=by
 rcases h with ⟨_,a,c,h⟩ | ⟨c,h,_⟩
 ·exact .inl ⟨e,a,c,h⟩
 ·exact .inl ⟨e,_,c,by rw [h,e]⟩
theorem RP.shape {lo hi:Nat} {w:World} {v:Value} {n:Nat} {Z:Nat→Nat→Int} {g:Nat} (h:RP lo hi w v n Z g):∃ a l c,v=.slice a l c:=by
 rcases h with ⟨_,a,c,h⟩ | ⟨c,h,_⟩
 ·exact ⟨_,_,_,h⟩
 ·exact ⟨_,_,_,h⟩
theorem own_ne {w:World} {base k:Nat} {s:Value} {sl:Nat→Value} (h:w.ownsRow base 125 1 s k ((List.range k).map sl)) (hk:0<k) (hs:∃ a l c,sl 0=.slice a l c) {lo hi:Nat} {v:Value} {n:Nat} {Z:Nat→Nat→Int} {g:Nat} (r:RP lo hi w v n Z g) (hn:n≠0):s.ownBlock≠some g:=by
 intro e
 obtain ⟨a,l,c,hsl⟩:=hs
 have h0:=h.cells e 0 (sl 0) (by rw [List.getElem?_map,List.getElem?_range hk];rfl)
 rcases r with ⟨r,_⟩ | ⟨_,_,_,_,_,r⟩
 ·exact absurd r hn
 ·have h1:=r.2 0 0 (by omega) (by omega)
  rw [add_none,Nat.add_zero] at h0
  rw [show 0 * 8+0=0 from rfl,h0,hsl] at h1
  cases h1
theorem map_ext_if {α:Type} (k:Nat) (sl:Nat→α) (x:α):(List.range (k+1)).map (fun j=>if j=k then x else sl j)=(List.range k).map sl++[x]:=by
 rw [List.range_succ,List.map_append,List.map_cons,List.map_nil,if_pos rfl]
 congr 1
 apply List.map_congr_left
 intro j hj
 rw [if_neg (by have:=List.mem_range.1 hj;omega)]
theorem RPR.zero {lo hi lo' hi':Nat} {w w':World} {v:Value} {n:Nat} {Z:Nat→Nat→Int} {g:Nat} (h:RPR lo hi w v n Z g) (e:n=0):RPR lo' hi' w' v n Z g:=⟨h.1.zero e,h.2.1,fun _ _ _ hn=>absurd e hn⟩
theorem wpList_append_own_no {P:Program} {w:World} {ops:Array Oper} {rest:List Oper} {o:Oper} {a:Act} {Q:Exit→Act→World→Prop} (hgd:o.guard=none) (s x:Operand) (t:TypeId)
 (ho:o.op=.call { callee:=.builtin .append,args:=#[s,x],argTypes:=#[t,t] })
 (base:Nat) (e:TypeId) (i:TypeInfo) (z:Value) (size bytes:Nat) (ht:P.underlying t=some (.slice e)) (hi:P.info? e=some i) (hz:i.zero=some z)
 (hsize:i.size=size) (hby:i.bytes=bytes) (hzs:z.cells.size=size) (hsz:0<size)
 (v:Value) (n:Nat) (xs:List Value) (hs:a.eval s=v) (hown:w.ownsRow base e size v n xs)
 (ad:Addr) (m c:Nat) (news:List Value) (hx:a.eval x=.slice (some ad) m c) (hl:news.length=m * size) (hnews:∀ j u,news[j]? = some u→w.cell? (ad.add j)=some u) (h1:∀ u ∈ news,u.oneCell'=true)
 (h63:n+m≤maxLen) (hbytes:(n+m) * bytes≤140737488355328) (hbase:base≤w.heap.size)
 (h:∀ v' w',w'.ownsRow base e size v' (n+m) (xs++news)→w.grownBy w' v.ownBlock→(m=0→v'=v)→wpList P ops Q rest (a.put o.dst v') w'):wpList P ops Q (o :: rest) a w:=by
 by_cases hm:m=0
 ·subst hm
  have hl0:news=[]:=List.length_eq_zero_iff.1 (by simpa using hl)
  subst hl0
  have hr:(Builtin.append_ #[t,t] o.type #[v,.slice (some ad) 0 c]).run P w=.ok v w:=by
   have hf:=run_firstCells_some (P:=P) w i.size 0 ad 0 c [] (by simp) hnews
   rcases hown.2 with ⟨e1,_⟩ | ⟨g,cap,cur,e1,_,_,hc,_⟩
   ·subst e1
    simp [Builtin.append_,run_underlying ht,sizeOf,typeInfo,hi,Builtin.lenOf,hf]
   ·subst e1
    simp [Builtin.append_,run_underlying ht,sizeOf,typeInfo,hi,Builtin.lenOf,hf,hc,storeCells]
  refine wpList_plain hgd fun K hK=>?_
  unfold Oper.wp execOp
  simp only [ho,resolve,invoke,builtin,Sem.run_bind,Sem.run_pure,Result.andThen_ok,List.map_toArray,List.map_cons,List.map_nil,hs,hx,hr]
  exact hK _ _ (h v w (by simpa using hown) ⟨rfl,rfl,rfl,Nat.le_refl _,fun _ _ _=>rfl⟩ (fun _=>rfl))
 ·exact wpList_append_own w hgd s x t ho base e i z size bytes ht hi hz hsize hby hzs hsz v n xs hs hown ad m c news hx hl hnews h1 h63 hbytes hbase (fun v' w' h2 h3 _=>h v' w' h2 h3 (fun e=>absurd e hm))
set_option maxRecDepth 20000 in
set_option maxRecDepth 20000 in
set_option maxHeartbeats 4000000 in
theorem copyC_spec (v:Value) (V:CV) (lo:Nat) (hs:V.short 1048576) (w:World) (h:CopyAt lo w v V) :
 Calls Tryz.prog 62 #[v] w fun e w'=>(∃ v',e=.returned v'∧OwnC w.heap.size w'.heap.size w' v' V∧Thaw w.heap.size w'.heap.size w' v')∧Below w.heap.size w w':=by
 obtain ⟨bW,bO,bX,bI,q0,q1,q2,q3,q4,rfl,oW,oO,oX,oI⟩:=h
 obtain ⟨tW,tO,tN,tX,tI⟩:=hs
 have HW:Hid (Own5 w bW V.nW V.W V.nW):=oW
 have HO:Hid (OwnO w bO V.nO V.N V.O V.nO):=oO
 have HX:Hid (Own1 w bX V.nX V.X V.nX):=oX
 have HI:Hid (Own1 w bI V.nI V.I V.nI):=oI
 have HN:Hid (∀ k,k<V.nO→V.N k≤1048576):=tN
 clear oW oO oX oI tN
 obtain ⟨j8,hj8,hzz⟩:=Option.map_eq_some_iff.1 P8.Tryz.info50
 simp only [Prod.mk.injEq] at hzz
 obtain ⟨hk80,hk81,hk82⟩:=hzz
 obtain ⟨j6,hj6,hzz⟩:=Option.map_eq_some_iff.1 Tryz.info125
 simp only [Prod.mk.injEq] at hzz
 obtain ⟨hk60,hk61,hk62⟩:=hzz
 obtain ⟨j3,hj3,hzz⟩:=Option.map_eq_some_iff.1 Tryz.info3
 simp only [Prod.mk.injEq] at hzz
 obtain ⟨hk30,hk31,hk32⟩:=hzz
 go_enter Tryz.func62,Tryz.ntmps62
 go_wp2_with fail
 obtain ⟨w0,e0⟩:∃ w0,w0=(w.alloc (.cells (zC V bW V.nW bO V.nO bX V.nX bI V.nI).toArray 41)).alloc (.cells zN.toArray 41):=⟨_,rfl⟩
 have z0:w.heap.size+2≤w0.heap.size:=by rw [e0];simp
 have B0:Hid (Below w.heap.size w w0):=by rw [e0];exact ((Below.refl _ _).alloc (by simp) _).alloc (by simp) _
 have A0:Hid (Six w0 w.heap.size (zC V bW V.nW bO V.nO bX V.nX bI V.nI)):=by rw [e0];exact (six_new w 41 (zI V.c) (zS bW V.nW V.nW) (zI V.g) (zS bO V.nO V.nO) (zS bX V.nX V.nX) (zS bI V.nI V.nI)).below (by simp) ((Below.refl _ _).alloc (by simp) _)
 have R0:Hid (Six w0 (w.heap.size+1) zN):=by rw [e0];exact six_box2 w (zC V bW V.nW bO V.nO bX V.nX bI V.nI).toArray 41 41 _ _ _ _ _ _
 rw [←e0]
 clear e0
 refine (copyW_spec bW 0 V.nW V.nW V.W tW _ (by omega) (fun k j a1 a2=>(B0.out.cell (p:=⟨bW,_,none⟩) (by show bW<_;omega)).trans (own_row HW.out k j a1 a2))).mono ?_
 rintro e w1 ⟨⟨v1,rfl,ho⟩,hb⟩
 obtain ⟨wa,wl,wc,hvv⟩:=own_shape ho
 subst hvv
 obtain ⟨gW,RW1,_⟩:=rw_of_own ho
 have A1:=hid (A0.out.below (by omega) hb)
 have R1:=hid (R0.out.below (by omega) hb)
 have B1:=hid (bthen B0.out hb)
 have z1:w0.heap.size≤w1.heap.size:=hb.size
 have HRW:Hid (RW w0.heap.size w1.heap.size w1 (.slice wa wl wc) V.nW V.W gW):=RW1
 clear RW1 ho hb A0 R0 B0
 obtain ⟨a0,a1,a2,a3,a4,a5⟩:=A1.out.a6
 obtain ⟨f0,f1,f2,f3,f4,f5⟩:=A1.out.f6
 have l1:w.heap.size<w1.heap.size:=by omega
 go_wp2
 clear a0 a1 a2 a3 a4 a5 f0 f1 f2 f3 f4 f5 l1
 obtain ⟨w2,e2⟩:∃ x,x=w1.setCell (zA w.heap.size 1) (.slice wa wl wc):=⟨_,rfl⟩
 rw [←e2]
 have A2:Six w2 w.heap.size [zI V.c,.slice wa wl wc,zI V.g,zS bO V.nO V.nO,zS bX V.nX V.nX,zS bI V.nI V.nI]:=by rw [e2];exact A1.out.set (j:=1) (v:=.slice wa wl wc) rfl (by decide)
 have R2:Six w2 (w.heap.size+1) zN:=by rw [e2];exact R1.out.far (by omega)
 have B2:Below w.heap.size w w2:=by rw [e2];exact B1.out.setCell (by simp) _
 have z2:w2.heap.size=w1.heap.size:=by rw [e2,set_size]
 have S2:∀ x,¬ x=w.heap.size→Sm w1 w2 x:=fun x hx o=>by rw [e2];exact ⟨set_out (fun e=>hx e.1.symm),set_frozen⟩
 clear e2 A1 R1 B1
 obtain ⟨w3,e3⟩:∃ x,x=w2.alloc (.cells #[] 125):=⟨_,rfl⟩
 rw [←e3]
 have k3:Below w2.heap.size w2 w3:=by rw [e3];exact (Below.refl _ _).alloc (Nat.le_refl _) _
 have z3:w3.heap.size=w2.heap.size+1:=by rw [e3];simp
 have O3:Hid (w3.ownsRow w1.heap.size 125 1 (zS w1.heap.size 0 0) 0 []):=by unfold Hid;rw [e3,←z2];exact World.ownsRow_lit w2 #[] 0 (Nat.le_refl _) (by simp) (by simp)
 clear e3
 have A3:Hid (Six w3 w.heap.size [zI V.c,.slice wa wl wc,zI V.g,zS bO V.nO V.nO,zS bX V.nX V.nX,zS bI V.nI V.nI]):=A2.below (by omega) k3
 have R3:Hid (Six w3 (w.heap.size+1) zN):=R2.below (by omega) k3
 have B3:Hid (Below w.heap.size w w3):=bthen B2 k3
 have W3:Hid (RW w0.heap.size w1.heap.size w3 (.slice wa wl wc) V.nW V.W gW):=HRW.out.move (Nat.le_refl _) (Nat.le_refl _) (by omega) (fun q1 q2=>(S2 gW (by omega)).trans (sm_below k3 (by omega)))
 clear A2 R2 B2 S2 HRW k3
 have z4:w1.heap.size+1≤w3.heap.size:=by omega
 have z4b:w3.heap.size≤w1.heap.size+1:=by omega
 clear z2 z3
 generalize w1.heap.size=gB at *
 go_loopw [3,4] (fun s i wr=>∃ (k:Nat) (sl:Nat→Value) (xs:Nat→Nat),k≤V.nO∧i=zI k∧s≠.slice none 0 0∧(∀ x,x<gB→Sm w3 wr x)∧wr.ownsRow gB 125 1 s k ((List.range k).map sl)∧(∀ j,j<k→RPR gB wr.heap.size wr (sl j) (V.N j) (V.O j) (xs j))∧(∀ i j,i<j→j<k→V.N i≠0→V.N j≠0→xs i≠xs j)∧w3.heap.size≤wr.heap.size∧Below w.heap.size w wr) (fun _ i _=>V.nO - (intOf i).toNat)
 case atStart=>exact ⟨0,fun _=>undef,fun _=>0,Nat.zero_le _,rfl,by simp,fun x _=>Sm.refl _ _,O3.out,fun _ h=>absurd h (by omega),fun _ _ _ h=>absurd h (by omega),Nat.le_refl _,B3.out⟩
 case round =>
  obtain ⟨k,sl,xs,hk,rfl,hnn,hsm,hown,hdn,hxx,hsz,hbel⟩:=hrel
  obtain ⟨oa,ol,oc,hvv⟩:=own_shape hown
  subst hvv
  have SM:Hid (∀ x,x<gB→Sm w3 wr x):=hsm
  have OW:Hid (wr.ownsRow gB 125 1 (.slice oa ol oc) k ((List.range k).map sl)):=hown
  have DN:Hid (∀ j,j<k→RPR gB wr.heap.size wr (sl j) (V.N j) (V.O j) (xs j)):=hdn
  have XX:Hid (∀ i j,i<j→j<k→V.N i≠0→V.N j≠0→xs i≠xs j):=hxx
  have BL:Hid (Below w.heap.size w wr):=hbel
  have NN:Hid (Value.slice oa ol oc≠Value.slice none 0 0):=hnn
  clear hsm hown hdn hxx hbel hnn
  have A4:Hid (Six wr w.heap.size [zI V.c,.slice wa wl wc,zI V.g,zS bO V.nO V.nO,zS bX V.nX V.nX,zS bI V.nI V.nI]):=fun i hi=>by have h1:=SM.out w.heap.size (by omega) i;rw [h1.1,h1.2];exact A3.out i hi
  obtain ⟨a0,a1,a2,a3,a4,a5⟩:=A4.out.a6
  obtain ⟨f0,f1,f2,f3,f4,f5⟩:=A4.out.f6
  have l1:w.heap.size<wr.heap.size:=by omega
  by_cases hkn:k<V.nO
  ·have hkn':(k:Int)<V.nO:=by omega
   obtain ⟨yk,hyk,hck,hrk⟩:∃ yk,yk<w.heap.size∧wr.cell? (zA bO k)=some (zS yk (V.N k) (V.N k))∧Hid (∀ i j,i<V.N k→j<8→wr.cell? (zA yk (0+i * 8+j))=some (zI (V.O k i j))):=by
    obtain ⟨_,ys,_,hy⟩:=HO.out
    obtain ⟨_,y2,y3,y4⟩:=hy k hkn
    exact ⟨ys k,y2,(BL.out.cell (p:=(zA bO k)) (by show bO<_;omega)).trans y3,fun i j a1 a2=>(BL.out.cell (p:=⟨ys k,_,none⟩) y2).trans (P8.own_row y4 i j a1 a2)⟩
   have lb:bO<wr.heap.size:=by omega
   have hnk:=HN.out k hkn
   have kb:Below wr.heap.size wr (wr.alloc (.cells #[] 50)):=(Below.refl _ _).alloc (Nat.le_refl _) _
   have HC:Hid (∀ j u,((List.range (V.N k)).flatMap (P8.eight (V.O k)))[j]? = some u→(wr.alloc (.cells #[] 50)).cell? (((zA yk 0):Addr).add j)=some u):=eight8_cells (fun i j a1 a2=>(kb.cell (p:=⟨yk,_,none⟩) (by show yk<_;omega)).trans (hrk.out i j a1 a2))
   have H1:Hid (∀ u ∈ (List.range (V.N k)).flatMap (P8.eight (V.O k)),u.oneCell'=true):=eight8_one _ _
   have HL:Hid (((List.range (V.N k)).flatMap (P8.eight (V.O k))).length=V.N k * 8):=eight8_len _ _
   have KB:Hid (Below wr.heap.size wr (wr.alloc (.cells #[] 50))):=kb
   clear kb
   go_wp2_with (at_builtin;refine wpList_append_own_no rfl _ _ 125 rfl wr.heap.size 50 j8 (.agg #[zI 0,zI 0,zI 0,zI 0,zI 0,zI 0,zI 0,zI 0]) 8 64 Tryz.underlying125 hj8 hk80 hk81 hk82 rfl (by decide) _ 0 [] rfl (World.ownsRow_lit wr #[] 0 (Nat.le_refl _) (by simp) (by simp)) (zA yk 0) (V.N k) (V.N k) ((List.range (V.N k)).flatMap (P8.eight (V.O k))) rfl HL.out HC.out H1.out (by unfold maxLen;omega) (by omega) (by simp) ?_)
   intro v4 w4 hown4 hg4 hnil4
   obtain ⟨pa,pl,pc,hvv⟩:=own_shape hown4
   subst hvv
   have P4:w4.ownsRow wr.heap.size 50 8 (.slice pa pl pc) (V.N k) ((List.range (V.N k)).flatMap (P8.eight (V.O k))):=by simpa using hown4
   have hb4:Below wr.heap.size wr w4:=KB.out.grown hg4 (by simp) (fun kk e=>by cases e;exact Nat.le_refl _)
   obtain ⟨g,hRP,_⟩:=rpr_of_own P4 (fun e=>⟨_,hnil4 e⟩)
   have RPk:Hid (RPR wr.heap.size w4.heap.size w4 (.slice pa pl pc) (V.N k) (V.O k) g):=hRP
   have K4:Hid (Below wr.heap.size wr w4):=hb4
   have s4:wr.heap.size≤w4.heap.size:=hb4.size
   have OW4:Hid (w4.ownsRow gB 125 1 (.slice oa ol oc) k ((List.range k).map sl)):=World.ownsRow.kept OW.out (P8.grown_of_below hb4) (by cases e:(Value.slice oa ol oc).ownBlock <;> simp)
   clear hown4 hg4 hnil4 hRP P4 hb4 HC H1 HL KB a0 a1 a2 a3 a4 a5 f0 f1 f2 f3 f4 f5 hck hrk
   have HW4:=OW4.out.alloc (.cells #[.slice pa pl pc] 125)
   go_wp2_with (at_builtin;refine wpList_append_own _ rfl _ _ 39 rfl gB 125 j6 (.slice none 0 0) 1 24 Tryz.underlying39 hj6 hk60 hk61 hk62 rfl (by decide) _ _ _ rfl HW4 (zA w4.heap.size 0) 1 1 [.slice pa pl pc] rfl rfl ?d1 ?d2 ?d3 ?d4 ?d5 ?_)
   case d1=>intro j u hj;match j,hj with | 0,hj=>(simp at hj;subst hj;simp [Addr.add]) | j+1,hj=>simp at hj
   case d2=>intro u hu;simp at hu;subst hu;rfl
   case d3=>unfold maxLen;omega
   case d4=>omega
   case d5=>simp;omega
   ·intro v' w5 hown' hg5 hnil
    obtain ⟨ua,ul,uc,hxx⟩:=own_shape hown'
    subst hxx
    have hlow:∀ kk,(Value.slice oa ol oc).ownBlock=some kk→gB≤kk∧kk<wr.heap.size:=fun kk e=>OW.out.lt kk e
    have hall:=(World.grownBy_alloc w4 (.cells #[.slice pa pl pc] 125) (Value.slice oa ol oc).ownBlock).trans hg5
    have s5:w4.heap.size≤w5.heap.size:=hall.size
    have S45:∀ x,x<w4.heap.size→(Value.slice oa ol oc).ownBlock≠some x→Sm w4 w5 x:=fun x h1 h2=>sm_grown hall h1 (fun e=>h2 e.symm)
    have SM5:Hid (∀ x,x<gB→Sm w3 w5 x):=fun x hx=>((SM.out x hx).trans (sm_below K4.out (by omega))).trans (S45 x (by omega) (fun e=>by have:=hlow x e;omega))
    have OW5:Hid (w5.ownsRow gB 125 1 (.slice ua ul uc) (k+1) ((List.range (k+1)).map (fun j=>if j=k then (.slice pa pl pc) else sl j))):=by
     unfold Hid
     rw [map_ext_if]
     exact hown'
    have NN5:Hid (Value.slice ua ul uc≠Value.slice none 0 0):=fun e=>hnil e
    have DN5:Hid (∀ j,j<k+1→RPR gB w5.heap.size w5 ((fun j=>if j=k then (.slice pa pl pc) else sl j) j) (V.N j) (V.O j) ((fun j=>if j=k then g else xs j) j)):=fun j hj=>by
     dsimp only
     by_cases e:j=k
     ·subst e
      rw [if_pos rfl,if_pos rfl]
      exact (RPk.out.move s5 (Nat.le_refl _) (fun q1 q2=>S45 g q2 (fun e=>by have:=hlow g e;omega))).low (by omega)
     ·rw [if_neg e,if_neg e]
      have u2:=DN.out j (by omega)
      by_cases e0:V.N j=0
      ·exact u2.zero e0
      ·exact u2.move (by omega) (Nat.le_refl _) (fun q1 q2=>(sm_below K4.out q2).trans (S45 (xs j) (by omega) (own_ne OW.out (by omega) (DN.out 0 (by omega)).1.shape u2.1 e0)))
    have XX5:Hid (∀ i j,i<j→j<k+1→V.N i≠0→V.N j≠0→(fun j=>if j=k then g else xs j) i≠(fun j=>if j=k then g else xs j) j):=fun i j hij hj n1 n2=>by
     dsimp only
     by_cases e:j=k
     ·subst e
      rw [if_pos rfl,if_neg (by omega)]
      have u1:=(DN.out i hij).1
      have u2:=RPk.out.1
      rcases u1 with ⟨h,_⟩ | ⟨_,_,_,h1,_⟩
      ·exact absurd h n1
      ·rcases u2 with ⟨h,_⟩ | ⟨_,_,h2,_⟩
       ·exact absurd h n2
       ·omega
     ·rw [if_neg e,if_neg (by omega)]
      exact XX.out i j hij (by omega) n1 n2
    have BL5:Hid (Below w.heap.size w w5):=(bthen BL.out K4.out).grown hall (by omega) (fun kk e=>by have:=hlow kk e;omega)
    have z5:w3.heap.size≤w5.heap.size:=by omega
    clear hown' hg5 hnil hall hlow S45 HW4 SM OW OW4 DN XX BL NN RPk K4 A4
    go_wp2
    go_roundw
    case rel=>exact ⟨k+1,_,_,by omega,by go_num,NN5.out,SM5.out,OW5.out,DN5.out,XX5.out,z5,BL5.out⟩
    case measure=>simp [intOf];omega
  ·have hkk:k=V.nO:=by omega
   have R4:Hid (Six wr (w.heap.size+1) zN):=fun i hi=>by have h1:=SM.out (w.heap.size+1) (by omega) i;rw [h1.1,h1.2];exact R3.out i hi
   have W4:Hid (RW w0.heap.size gB wr (.slice wa wl wc) V.nW V.W gW):=W3.out.move (Nat.le_refl _) (Nat.le_refl _) (by omega) (fun q1 q2=>SM.out gW q2)
   obtain ⟨gO,cO,hgO,hOl,hOh,hOc,FR⟩:∃ gO cO,Value.slice oa ol oc=zS gO V.nO cO∧gB≤gO∧gO<wr.heap.size∧Hid (∀ j,j<V.nO→wr.cell? (zA gO j)=some (sl j))∧Hid (∀ j,wr.frozen? (zA gO j)=false):=by
    rcases OW.out.2 with ⟨e,_⟩ | ⟨g,cap,cur,hv,_⟩
    ·exact absurd e NN.out
    ·have ho:=OW.out
     rw [hv] at ho
     refine ⟨g,cap,by rw [hv,hkk],(ho.lt g rfl).1,(ho.lt g rfl).2,fun j hj=>?_,fun j=>ho.frozenAt j⟩
     rw [ho.cellAt j (by omega),List.getElem?_map,List.getElem?_range (by omega)]
     rfl
   injection hgO with e1 e2 e3
   subst e1 e2 e3
   have DD:Hid (∀ j,j<V.nO→RPR gB wr.heap.size wr (sl j) (V.N j) (V.O j) (xs j)∧(V.N j≠0→xs j≠gO)):=fun j hj=>⟨DN.out j (by omega),fun e0 e=>own_ne OW.out (by omega) (DN.out 0 (by omega)).1.shape (DN.out j (by omega)).1 e0 (by rw [e];rfl)⟩
   have XD:Hid (∀ i j,i<j→j<V.nO→V.N i≠0→V.N j≠0→xs i≠xs j):=fun i j h1 h2=>XX.out i j h1 (by omega)
   have hkn':¬ (k:Int)<V.nO:=by omega
   clear DN XX OW NN hkk A3 R3 W3 O3 B3
   have hsA:((wr.setCell (zA w.heap.size 3) (zS gO V.nO oc)).alloc (.cells #[] 3)).heap.size=wr.heap.size+1:=by simp [World.setCell]
   have kw:Below w.heap.size w ((wr.setCell (zA w.heap.size 3) (zS gO V.nO oc)).alloc (.cells #[] 3)):=(BL.out.setCell (by simp) _).alloc (by rw [set_size];omega) _
   have HC:Hid (∀ j u,((List.range V.nX).flatMap (one1 V.X))[j]? = some u→((wr.setCell (zA w.heap.size 3) (zS gO V.nO oc)).alloc (.cells #[] 3)).cell? (((zA bX 0):Addr).add j)=some u):=one11_cells (fun i hi=>(kw.cell (p:=⟨bX,_,none⟩) (by show bX<_;omega)).trans (by rw [Nat.zero_add];exact HX.out.2 i hi))
   have H1:Hid (∀ u ∈ (List.range V.nX).flatMap (one1 V.X),u.oneCell'=true):=one11_one _ _
   have HL:Hid (((List.range V.nX).flatMap (one1 V.X)).length=V.nX * 1):=one11_len _ _
   have HLit:((wr.setCell (zA w.heap.size 3) (zS gO V.nO oc)).alloc (.cells #[] 3)).ownsRow wr.heap.size 3 1 (zS wr.heap.size 0 0) 0 []:=by have q:=World.ownsRow_lit (base:=wr.heap.size) (e:=3) (size:=1) (wr.setCell (zA w.heap.size 3) (zS gO V.nO oc)) #[] 0 (by rw [set_size];exact Nat.le_refl _) (by simp) (by simp);rw [set_size] at q;exact q
   have KW:Hid (Below w.heap.size w ((wr.setCell (zA w.heap.size 3) (zS gO V.nO oc)).alloc (.cells #[] 3))):=kw
   clear kw
   have l9:w.heap.size<wr.heap.size:=by omega
   go_wp2_with (at_builtin;refine wpList_append_own _ rfl _ _ 26 rfl wr.heap.size 3 j3 (zI 0) 1 8 Tryz.underlying26 hj3 hk30 hk31 hk32 rfl (by decide) _ 0 [] rfl HLit (zA bX 0) V.nX V.nX ((List.range V.nX).flatMap (one1 V.X)) rfl HL.out HC.out H1.out (by unfold maxLen;omega) (by omega) (by simp) ?_)
   intro v5 w5 hown hg hnil
   obtain ⟨xa,xl,xc,hvv⟩:=own_shape hown
   subst hvv
   have hown2:w5.ownsRow wr.heap.size 3 1 (.slice xa xl xc) V.nX ((List.range V.nX).flatMap (one1 V.X)):=by simpa using hown
   obtain ⟨gX,hRI,_⟩:=ri_of_own hown2
   have X5:Hid (RI wr.heap.size w5.heap.size w5 (.slice xa xl xc) V.nX V.X gX):=hRI
   have K5:Hid (∀ x,x<wr.heap.size→¬ x=w.heap.size→Sm wr w5 x):=fun x hx hne=>(Sm.trans (b:=(wr.setCell (zA w.heap.size 3) (zS gO V.nO oc))) (fun o=>⟨set_out (fun e=>hne e.1.symm),set_frozen⟩) (sm_below (n:=wr.heap.size) ((Below.refl _ _).alloc (by rw [set_size];exact Nat.le_refl _) _) hx)).trans (sm_grown hg (by rw [hsA];omega) (fun e=>by injection e with e;replace e:x=wr.heap.size:=e;omega))
   have Sw5:wr.heap.size≤w5.heap.size:=by have:=hg.size;rw [hsA] at this;omega
   have B5:Hid (Below w.heap.size w w5):=KW.out.grown hg (by rw [hsA];omega) (fun kk e=>by cases e;show w.heap.size≤wr.heap.size;omega)
   have A5:Hid (Six w5 w.heap.size [zI V.c,.slice wa wl wc,zI V.g,zS gO V.nO oc,zS bX V.nX V.nX,zS bI V.nI V.nI]):=fun i hi=>by have h1:=sm_grown hg (b:=w.heap.size) (by rw [hsA];omega) (fun e=>by injection e with e;replace e:w.heap.size=wr.heap.size:=e;omega) i;rw [h1.1,h1.2];exact ((A4.out.set (j:=3) (v:=zS gO V.nO oc) rfl (by decide)).below (by rw [set_size];omega) ((Below.refl _ _).alloc (Nat.le_refl _) _)) i hi
   have R5:Hid (Six w5 (w.heap.size+1) zN):=fun i hi=>by have h1:=K5.out (w.heap.size+1) (by omega) (by omega) i;rw [h1.1,h1.2];exact R4.out i hi
   clear hown hown2 hg hnil hRI HC H1 HL HLit KW l9 hsA A4 R4 a0 a1 a2 a3 a4 a5 f0 f1 f2 f3 f4 f5
   have hsA:((w5.setCell (zA w.heap.size 4) (.slice xa xl xc)).alloc (.cells #[] 3)).heap.size=w5.heap.size+1:=by simp [World.setCell]
   have kw:Below w.heap.size w ((w5.setCell (zA w.heap.size 4) (.slice xa xl xc)).alloc (.cells #[] 3)):=(B5.out.setCell (by simp) _).alloc (by rw [set_size];omega) _
   have HC:Hid (∀ j u,((List.range V.nI).flatMap (one1 V.I))[j]? = some u→((w5.setCell (zA w.heap.size 4) (.slice xa xl xc)).alloc (.cells #[] 3)).cell? (((zA bI 0):Addr).add j)=some u):=one11_cells (fun i hi=>(kw.cell (p:=⟨bI,_,none⟩) (by show bI<_;omega)).trans (by rw [Nat.zero_add];exact HI.out.2 i hi))
   have H1:Hid (∀ u ∈ (List.range V.nI).flatMap (one1 V.I),u.oneCell'=true):=one11_one _ _
   have HL:Hid (((List.range V.nI).flatMap (one1 V.I)).length=V.nI * 1):=one11_len _ _
   have HLit:((w5.setCell (zA w.heap.size 4) (.slice xa xl xc)).alloc (.cells #[] 3)).ownsRow w5.heap.size 3 1 (zS w5.heap.size 0 0) 0 []:=by have q:=World.ownsRow_lit (base:=w5.heap.size) (e:=3) (size:=1) (w5.setCell (zA w.heap.size 4) (.slice xa xl xc)) #[] 0 (by rw [set_size];exact Nat.le_refl _) (by simp) (by simp);rw [set_size] at q;exact q
   have KW:Hid (Below w.heap.size w ((w5.setCell (zA w.heap.size 4) (.slice xa xl xc)).alloc (.cells #[] 3))):=kw
   clear kw
   obtain ⟨a0,a1,a2,a3,a4,a5⟩:=A5.out.a6
   obtain ⟨f0,f1,f2,f3,f4,f5⟩:=A5.out.f6
   have l9:w.heap.size<w5.heap.size:=by omega
   go_wp2_with (at_builtin;refine wpList_append_own _ rfl _ _ 26 rfl w5.heap.size 3 j3 (zI 0) 1 8 Tryz.underlying26 hj3 hk30 hk31 hk32 rfl (by decide) _ 0 [] rfl HLit (zA bI 0) V.nI V.nI ((List.range V.nI).flatMap (one1 V.I)) rfl HL.out HC.out H1.out (by unfold maxLen;omega) (by omega) (by simp) ?_)
   intro v5 w7 hown hg hnil
   obtain ⟨ia,il,ic,hvv⟩:=own_shape hown
   subst hvv
   have hown2:w7.ownsRow w5.heap.size 3 1 (.slice ia il ic) V.nI ((List.range V.nI).flatMap (one1 V.I)):=by simpa using hown
   obtain ⟨gI,hRI,_⟩:=ri_of_own hown2
   have I7:Hid (RI w5.heap.size w7.heap.size w7 (.slice ia il ic) V.nI V.I gI):=hRI
   have K7:Hid (∀ x,x<w5.heap.size→¬ x=w.heap.size→Sm w5 w7 x):=fun x hx hne=>(Sm.trans (b:=(w5.setCell (zA w.heap.size 4) (.slice xa xl xc))) (fun o=>⟨set_out (fun e=>hne e.1.symm),set_frozen⟩) (sm_below (n:=w5.heap.size) ((Below.refl _ _).alloc (by rw [set_size];exact Nat.le_refl _) _) hx)).trans (sm_grown hg (by rw [hsA];omega) (fun e=>by injection e with e;replace e:x=w5.heap.size:=e;omega))
   have Sw7:w5.heap.size≤w7.heap.size:=by have:=hg.size;rw [hsA] at this;omega
   have B7:Hid (Below w.heap.size w w7):=KW.out.grown hg (by rw [hsA];omega) (fun kk e=>by cases e;show w.heap.size≤w5.heap.size;omega)
   have A7:Hid (Six w7 w.heap.size [zI V.c,.slice wa wl wc,zI V.g,zS gO V.nO oc,.slice xa xl xc,zS bI V.nI V.nI]):=fun i hi=>by have h1:=sm_grown hg (b:=w.heap.size) (by rw [hsA];omega) (fun e=>by injection e with e;replace e:w.heap.size=w5.heap.size:=e;omega) i;rw [h1.1,h1.2];exact ((A5.out.set (j:=4) (v:=.slice xa xl xc) rfl (by decide)).below (by rw [set_size];omega) ((Below.refl _ _).alloc (Nat.le_refl _) _)) i hi
   have R7:Hid (Six w7 (w.heap.size+1) zN):=fun i hi=>by have h1:=K7.out (w.heap.size+1) (by omega) (by omega) i;rw [h1.1,h1.2];exact R5.out i hi
   clear hown hown2 hg hnil hRI HC H1 HL HLit KW l9 hsA A5 R5 a0 a1 a2 a3 a4 a5 f0 f1 f2 f3 f4 f5
   obtain ⟨a0,a1,a2,a3,a4,a5⟩:=A7.out.a6
   obtain ⟨f0,f1,f2,f3,f4,f5⟩:=A7.out.f6
   obtain ⟨r0,r1,r2,r3,r4,r5⟩:=R7.out.a6
   obtain ⟨q0,q1,q2,q3,q4,q5⟩:=R7.out.f6
   have l1b:w.heap.size+1<w7.heap.size:=by omega
   have l1c:w.heap.size<w7.heap.size:=by omega
   go_wp2
   refine bodyPost_ret (v:=.agg #[zI V.c,.slice wa wl wc,zI V.g,zS gO V.nO oc,.slice xa xl xc,.slice ia il ic]) (by simp [results,Tryz.results62,go_sem,r0,r1,r2,r3,r4,r5]) rfl ?_
   have hzz:(put6 (w7.setCell (zA w.heap.size 5) (.slice ia il ic)) (w.heap.size+1) (zI V.c) (.slice wa wl wc) (zI V.g) (zS gO V.nO oc) (.slice xa xl xc) (.slice ia il ic)).heap.size=w7.heap.size:=by rw [size_put6,set_size]
   have hbb:Below w.heap.size w (put6 (w7.setCell (zA w.heap.size 5) (.slice ia il ic)) (w.heap.size+1) (zI V.c) (.slice wa wl wc) (zI V.g) (zS gO V.nO oc) (.slice xa xl xc) (.slice ia il ic)):=below_put6 (B7.out.setCell (by simp) _) (Nat.le_succ w.heap.size) (zI V.c) (.slice wa wl wc) (zI V.g) (zS gO V.nO oc) (.slice xa xl xc) (.slice ia il ic)
   have SF:∀ x,¬ x=w.heap.size+1→¬ x=w.heap.size→Sm w7 (put6 (w7.setCell (zA w.heap.size 5) (.slice ia il ic)) (w.heap.size+1) (zI V.c) (.slice wa wl wc) (zI V.g) (zS gO V.nO oc) (.slice xa xl xc) (.slice ia il ic)) x:=fun x h1 h2=>Sm.trans (fun o=>⟨set_out (fun e=>h2 e.1.symm),set_frozen⟩) (sm_put6 (fun e=>h1 e.symm) (zI V.c) (.slice wa wl wc) (zI V.g) (zS gO V.nO oc) (.slice xa xl xc) (.slice ia il ic))
   refine ⟨⟨_,rfl,?_,?_⟩,hbb⟩
   ·show OwnC w.heap.size (put6 (w7.setCell (zA w.heap.size 5) (.slice ia il ic)) (w.heap.size+1) (zI V.c) (.slice wa wl wc) (zI V.g) (zS gO V.nO oc) (.slice xa xl xc) (.slice ia il ic)).heap.size (put6 (w7.setCell (zA w.heap.size 5) (.slice ia il ic)) (w.heap.size+1) (zI V.c) (.slice wa wl wc) (zI V.g) (zS gO V.nO oc) (.slice xa xl xc) (.slice ia il ic)) _ _
    rw [hzz]
    clear r0 r1 r2 r3 r4 r5 q0 q1 q2 q3 q4 q5 a0 a1 a2 a3 a4 a5 f0 f1 f2 f3 f4 f5 hbb
    have S5:∀ x,x<w5.heap.size→w0.heap.size≤x→Sm w5 (put6 (w7.setCell (zA w.heap.size 5) (.slice ia il ic)) (w.heap.size+1) (zI V.c) (.slice wa wl wc) (zI V.g) (zS gO V.nO oc) (.slice xa xl xc) (.slice ia il ic)) x:=fun x h1 h2=>(K7.out x h1 (by omega)).trans (SF x (by omega) (by omega))
    have S3:∀ x,x<wr.heap.size→w0.heap.size≤x→Sm wr (put6 (w7.setCell (zA w.heap.size 5) (.slice ia il ic)) (w.heap.size+1) (zI V.c) (.slice wa wl wc) (zI V.g) (zS gO V.nO oc) (.slice xa xl xc) (.slice ia il ic)) x:=fun x h1 h2=>(K5.out x h1 (by omega)).trans (S5 x (by omega) h2)
    have bWl:V.nW≠0→gW<gB:=fun e=>by rcases W4.out with ⟨h,_⟩ | ⟨_,_,_,h,_⟩;exact absurd h e;exact h
    have bXl:V.nX≠0→wr.heap.size≤gX∧gX<w5.heap.size:=fun e=>by rcases X5.out with ⟨h,_⟩ | ⟨_,_,h,h2,_⟩;exact absurd h e;exact ⟨h,h2⟩
    have bIl:V.nI≠0→w5.heap.size≤gI∧gI<w7.heap.size:=fun e=>by rcases I7.out with ⟨h,_⟩ | ⟨_,_,h,h2,_⟩;exact absurd h e;exact ⟨h,h2⟩
    have bPl:∀ k,k<V.nO→V.N k≠0→gB≤xs k∧xs k<wr.heap.size:=fun k hk e=>by rcases (DD.out k hk).1.1 with ⟨h,_⟩ | ⟨_,_,h,h2,_⟩;exact absurd h e;exact ⟨h,h2⟩
    refine ownC_any (gW:=gW) (gO:=gO) (gX:=gX) (gI:=gI) (sl:=sl) (xs:=xs) (W4.out.move (by omega) (by omega) (Nat.le_of_eq hzz.symm) (fun q1 q2=>S3 gW (by omega) q1)) (by omega) (by omega) (Nat.le_of_eq hzz.symm) (fun k hk=>⟨(S3 gO (by omega) (by omega) k).1.trans (hOc.out k hk),((DD.out k hk).1.1.move (by omega) (Nat.le_of_eq hzz.symm) (fun q1 q2=>S3 _ q2 (by omega))).low (by omega)⟩) (X5.out.move (by omega) (by omega) (Nat.le_of_eq hzz.symm) (fun q1 q2=>S5 gX q2 (by omega))) (I7.out.move (by omega) (Nat.le_refl _) (Nat.le_of_eq hzz.symm) (fun q1 q2=>SF gI (by omega) (by omega))) (fun e=>by have:=bWl e;omega) (fun e e2=>by have:=bWl e;have:=bXl e2;omega) (fun e e2=>by have:=bWl e;have:=bIl e2;omega) (fun e=>by have:=bXl e;omega) (fun e=>by have:=bIl e;omega) (fun e e2=>by have:=bXl e;have:=bIl e2;omega) (fun k hk e=>⟨fun e2=>by have:=bPl k hk e;have:=bWl e2;omega,(DD.out k hk).2 e,fun e2=>by have:=bPl k hk e;have:=bXl e2;omega,fun e2=>by have:=bPl k hk e;have:=bIl e2;omega⟩) XD.out
   ·have S5:∀ x,x<w5.heap.size→w0.heap.size≤x→Sm w5 (put6 (w7.setCell (zA w.heap.size 5) (.slice ia il ic)) (w.heap.size+1) (zI V.c) (.slice wa wl wc) (zI V.g) (zS gO V.nO oc) (.slice xa xl xc) (.slice ia il ic)) x:=fun x h1 h2=>(K7.out x h1 (by omega)).trans (SF x (by omega) (by omega))
    have S3:∀ x,x<wr.heap.size→w0.heap.size≤x→Sm wr (put6 (w7.setCell (zA w.heap.size 5) (.slice ia il ic)) (w.heap.size+1) (zI V.c) (.slice wa wl wc) (zI V.g) (zS gO V.nO oc) (.slice xa xl xc) (.slice ia il ic)) x:=fun x h1 h2=>(K5.out x h1 (by omega)).trans (S5 x (by omega) h2)
    intro x0 x1 x2 g n k x4 x5 e
    have e3:=(agg6 e).2.1
    simp only [Value.slice.injEq,Option.some.injEq,Addr.mk.injEq] at e3
    obtain ⟨⟨rfl,_,_⟩,rfl,_⟩:=e3
    refine ⟨by omega,?_,fun j hj=>(S3 _ (by omega) (by omega) j).2.trans (FR.out j),fun j u' a' m' c' hj hu hs'=>?_⟩
    ·have h1:=hzz
     simp only [put6] at h1
     show _<(put6 _ _ _ _ _ _ _ _).heap.size
     rw [size_put6]
     show _<(w7.setCell _ _).heap.size
     rw [set_size]
     omega
    ·have hc:=(S3 _ (by omega) (by omega) j).1.trans (hOc.out j hj)
     obtain rfl:=Option.some.inj (hc.symm.trans hu)
     have em:m'=V.N j:=by
      obtain ⟨a2,c2,e2⟩:=(DD.out j hj).1.1.shape'
      rw [e2] at hs'
      simp only [Value.slice.injEq] at hs'
      exact hs'.2.1.symm
     subst em
     refine (DD.out j hj).1.2.sm (by omega) ?_ (fun g' c3 e' hn' q1 q2=>S3 _ q2 (by omega))
     show _≤(put6 _ _ _ _ _ _ _ _).heap.size
     rw [size_put6]
     show _≤(w7.setCell _ _).heap.size
     rw [set_size]
     omega
theorem allP_at {c d next:Int} {m:Nat} {Z:Nat→Nat→Int} {n:Nat} (h:P8.allP c d next m Z n=true):∀ k,k<n→Z k 0=next - m+k:=fun k hk=>by
 cases e:P8.goodP c d next m Z k
 ·rw [P8.allP_stop hk e] at h
  cases h
 ·simp [P8.goodP] at e
  exact e.2
theorem listP_at {c d next:Int} {n:Nat} {Z:Nat→Nat→Int} (h:P8.listP c d next n Z=true):(n:Int)≤next∧∀ k,k<n→Z k 0=next - n+k:=by
 simp only [P8.listP,Bool.and_eq_true,decide_eq_true_eq] at h
 exact ⟨h.2.2.1,allP_at h.2.2.2⟩
theorem rest_all {Z:Nat→Nat→Int} {n:Nat} {z next:Int} (h:∀ k,k<n→Z k 0=next - n+k):(P8.rest Z n z).length=n↔n=0∨z≤next - n:=by
 have e:(P8.rest Z n z).length=n↔∀ k ∈ List.range n,decide (z≤Z k 0)=true:=by
  have:=List.length_filter_eq_length_iff (p:=fun k=>decide (z≤Z k 0)) (l:=List.range n)
  rw [List.length_range] at this
  exact this
 rw [e]
 constructor
 ·intro q
  by_cases h0:n=0
  ·exact .inl h0
  ·have:=q 0 (List.mem_range.2 (by omega))
   rw [h 0 (by omega)] at this
   simp at this
   exact .inr this
 ·intro q k hk
  have hk:=List.mem_range.1 hk
  rw [h k hk]
  rcases q with q | q
  ·omega
  ·simp;omega
theorem ack_one {Z:Nat→Nat→Int} {n:Nat} {z next:Int} (h:∀ k,k<n→Z k 0=next - n+k) (hz:¬ z > next):((P8.rest Z n z).length=n)↔z≤next - n:=by
 rw [rest_all h]
 constructor
 ·rintro (q | q)
  ·subst q;simp;omega
  ·exact q
 ·exact .inr
def CV.ack (V:CV) (s:Nat) (z:Int):CV :=
 { V with N:=fun k=>if k=s then (P8.rest (V.O s) (V.N s) z).length else V.N k,O:=fun k=>if k=s then fun i j=>V.O s (P8.rest (V.O s) (V.N s) z)[i]! j else V.O k }
def ackB (V:CV) (q:Nat) (z:Int):Bool:=!(decide (V.X q<z) || decide ((P8.rest (V.O q) (V.N q) z).length=V.N q))
def CV.after (V:CV) (q:Nat) (z:Int):CV:=if ackB V q z then V.ack q z else V
theorem RW.go {lo hi lo' hi':Nat} {w w':World} {v:Value} {n:Nat} {Z:Nat→Nat→Int} {g:Nat} (h:RW lo hi w v n Z g) (h0:lo'≤lo) (h1:hi≤hi') (h2:hi'≤w'.heap.size) (k:n≠0→lo≤g→g<hi→Sm w w' g):RW lo' hi' w' v n Z g:=by
 by_cases e:n=0
 ·rcases h with h | ⟨c,a1,_⟩
  ·exact .inl h
  ·exact .inl ⟨e,_,c,by rw [a1,e]⟩
 ·rcases h with h | ⟨c,a1,a2,a3,a4,a5⟩
  ·exact absurd h.1 e
  ·exact .inr ⟨c,a1,by omega,by omega,h2,own5_sm a5 (k e a2 a3)⟩
theorem RW.in {lo hi:Nat} {w:World} {v:Value} {n:Nat} {Z:Nat→Nat→Int} {g:Nat} (h:RW lo hi w v n Z g) (e:n≠0):lo≤g∧g<hi:=by
 rcases h with h | ⟨c,a1,a2,a3,_⟩
 ·exact absurd h.1 e
 ·exact ⟨a2,a3⟩
theorem RW.is {lo hi:Nat} {w:World} {v:Value} {n:Nat} {Z:Nat→Nat→Int} {g:Nat} (h:RW lo hi w v n Z g):∃ a c,v=.slice a n c∧(n≠0→a=some (zA g 0)):=by
 rcases h with ⟨e,a,c,h⟩ | ⟨c,h,_⟩
 ·exact ⟨a,c,by rw [h,e],fun h=>absurd e h⟩
 ·exact ⟨_,c,h,fun _=>rfl⟩
theorem RP.go {lo hi lo' hi':Nat} {w w':World} {v:Value} {n:Nat} {Z:Nat→Nat→Int} {g:Nat} (h:RP lo hi w v n Z g) (h0:lo'≤lo) (h1:hi≤hi') (h2:hi'≤w'.heap.size) (k:n≠0→lo≤g→g<hi→Sm w w' g):RP lo' hi' w' v n Z g:=by
 by_cases e:n=0
 ·rcases h with h | ⟨c,a1,_⟩
  ·exact .inl h
  ·exact .inl ⟨e,_,c,by rw [a1,e]⟩
 ·rcases h with h | ⟨c,a1,a2,a3,a4,a5⟩
  ·exact absurd h.1 e
  ·exact .inr ⟨c,a1,by omega,by omega,h2,own8_sm a5 (k e a2 a3)⟩
theorem RP.in {lo hi:Nat} {w:World} {v:Value} {n:Nat} {Z:Nat→Nat→Int} {g:Nat} (h:RP lo hi w v n Z g) (e:n≠0):lo≤g∧g<hi:=by
 rcases h with h | ⟨c,a1,a2,a3,_⟩
 ·exact absurd h.1 e
 ·exact ⟨a2,a3⟩
theorem RP.is {lo hi:Nat} {w:World} {v:Value} {n:Nat} {Z:Nat→Nat→Int} {g:Nat} (h:RP lo hi w v n Z g):∃ a c,v=.slice a n c∧(n≠0→a=some (zA g 0)):=by
 rcases h with ⟨e,a,c,h⟩ | ⟨c,h,_⟩
 ·exact ⟨a,c,by rw [h,e],fun h=>absurd e h⟩
 ·exact ⟨_,c,h,fun _=>rfl⟩
theorem RPR.go {lo hi lo' hi':Nat} {w w':World} {v:Value} {n:Nat} {Z:Nat→Nat→Int} {g:Nat} (h:RPR lo hi w v n Z g) (h0:lo'≤lo) (h1:hi≤hi') (h2:hi'≤w'.heap.size) (k:n≠0→lo≤g→g<hi→Sm w w' g):RPR lo' hi' w' v n Z g :=
 ⟨h.1.go h0 h1 h2 k,h.2.sm h0 h1 (fun g' c e hn a b=>by have e2:=h.1.blk hn e;subst e2;exact k hn a b)⟩
theorem RPR.in {lo hi:Nat} {w:World} {v:Value} {n:Nat} {Z:Nat→Nat→Int} {g:Nat} (h:RPR lo hi w v n Z g) (e:n≠0):lo≤g∧g<hi:=h.1.in e
theorem RPR.is {lo hi:Nat} {w:World} {v:Value} {n:Nat} {Z:Nat→Nat→Int} {g:Nat} (h:RPR lo hi w v n Z g):∃ a c,v=.slice a n c∧(n≠0→a=some (zA g 0)):=h.1.is
theorem RI.go {lo hi lo' hi':Nat} {w w':World} {v:Value} {n:Nat} {Z:Nat→Int} {g:Nat} (h:RI lo hi w v n Z g) (h0:lo'≤lo) (h1:hi≤hi') (h2:hi'≤w'.heap.size) (k:n≠0→lo≤g→g<hi→Sm w w' g):RI lo' hi' w' v n Z g:=by
 by_cases e:n=0
 ·rcases h with h | ⟨c,a1,_⟩
  ·exact .inl h
  ·exact .inl ⟨e,_,c,by rw [a1,e]⟩
 ·rcases h with h | ⟨c,a1,a2,a3,a4,a5⟩
  ·exact absurd h.1 e
  ·exact .inr ⟨c,a1,by omega,by omega,h2,own1_sm a5 (k e a2 a3)⟩
theorem RI.in {lo hi:Nat} {w:World} {v:Value} {n:Nat} {Z:Nat→Int} {g:Nat} (h:RI lo hi w v n Z g) (e:n≠0):lo≤g∧g<hi:=by
 rcases h with h | ⟨c,a1,a2,a3,_⟩
 ·exact absurd h.1 e
 ·exact ⟨a2,a3⟩
theorem RI.is {lo hi:Nat} {w:World} {v:Value} {n:Nat} {Z:Nat→Int} {g:Nat} (h:RI lo hi w v n Z g):∃ a c,v=.slice a n c∧(n≠0→a=some (zA g 0)):=by
 rcases h with ⟨e,a,c,h⟩ | ⟨c,h,_⟩
 ·exact ⟨a,c,by rw [h,e],fun h=>absurd e h⟩
 ·exact ⟨_,c,h,fun _=>rfl⟩
def Sc (w:World) (c d:Int) (s b lo:Nat) (V:CV) (n:Nat) (M:Int→Option (Nat→Int)):Prop :=
 ∃ (aW:Option Addr) (kW kO:Nat) (aX:Option Addr) (kX:Nat) (aI:Option Addr) (kI gW gO gX gI:Nat) (sl:Nat→Value) (xs:Nat→Nat),
  Nine w s [zI c,zI d,zI V.c,.slice aW V.nW kW,zI V.g,zS gO V.nO kO,.slice aX V.nX kX,.slice aI V.nI kI,.map (some b)]∧RW lo w.heap.size w (.slice aW V.nW kW) V.nW V.W gW∧RI lo w.heap.size w (.slice aX V.nX kX) V.nX V.X gX∧RI lo w.heap.size w (.slice aI V.nI kI) V.nI V.I gI ∧
  (∀ k,k<V.nO→w.cell? (zA gO k)=some (sl k)∧w.frozen? (zA gO k)=false∧RPR lo w.heap.size w (sl k) (V.N k) (V.O k) (xs k))∧Wm w b n M ∧
  (lo≤gO∧gO<w.heap.size∧lo≤s∧s<w.heap.size∧lo≤b∧¬ s=b∧¬ gO=s∧¬ gO=b) ∧
  ((V.nW≠0→¬ gW=s∧¬ gW=b∧¬ gW=gO)∧(V.nX≠0→¬ gX=s∧¬ gX=b∧¬ gO=gX)∧(V.nI≠0→¬ gI=s∧¬ gI=b∧¬ gO=gI)∧(V.nW≠0→V.nX≠0→¬ gW=gX)∧(V.nW≠0→V.nI≠0→¬ gW=gI)∧(V.nX≠0→V.nI≠0→¬ gX=gI)) ∧
  (∀ k,k<V.nO→V.N k≠0→(¬ xs k=s∧¬ xs k=b∧¬ xs k=gO)∧(V.nW≠0→¬ xs k=gW)∧(V.nX≠0→¬ xs k=gX)∧(V.nI≠0→¬ xs k=gI)) ∧
  (∀ i j,i<j→j<V.nO→V.N i≠0→V.N j≠0→¬ xs i=xs j)
theorem Scn.sc {w:World} {c d:Int} {s b lc hc lo:Nat} {V:CV} {n:Nat} {M:Int→Option (Nat→Int)} (h:Scn w c d s b lc hc V n M) (h0:V.nO≠0) (h1:lo≤lc) (h2:lo≤s) (h3:lo≤b):Sc w c d s b lo V n M:=by
 obtain ⟨⟨aW,kW,aO,kO,aX,kX,aI,kI,hN,hO,hT⟩,hM,hsw,hsb,hlh,hhw,hbo,hso⟩:=h
 obtain ⟨vW,vO,vX,vI,gW,gO,gX,gI,sl,xs,e,rW,rO,rX,rI,hd,hx1,hx2⟩:=hO
 obtain ⟨rfl,rfl,rfl,rfl⟩:=agg6 e
 rcases rO with ⟨e0,_⟩ | ⟨co,e1,l1,l2,_,hc1⟩
 ·exact absurd e0 h0
 simp only [Value.slice.injEq,true_and] at e1
 obtain ⟨rfl,rfl⟩:=e1
 obtain ⟨t1,t2,t3,t4⟩:=hT _ _ _ gO V.nO kO _ _ rfl
 have sm:∀ g,Sm w w g:=fun g=>Sm.refl w g
 refine ⟨aW,kW,kO,aX,kX,aI,kI,gW,gO,gX,gI,sl,xs,hN,rW.go h1 hhw (Nat.le_refl _) (fun _ _ _=>sm _),rX.go h1 hhw (Nat.le_refl _) (fun _ _ _=>sm _),rI.go h1 hhw (Nat.le_refl _) (fun _ _ _=>sm _),fun k hk=>⟨(hc1 k hk).1,t3 k hk,RPR.go ⟨(hc1 k hk).2,by obtain ⟨a2,c2,e2⟩:=(hc1 k hk).2.shape';exact t4 k _ a2 (V.N k) c2 hk (hc1 k hk).1 e2⟩ h1 hhw (Nat.le_refl _) (fun _ _ _=>sm _)⟩,hM,⟨by omega,by omega,h2,hsw,h3,hsb,by omega,by omega⟩,⟨fun e=>?_,fun e=>?_,fun e=>?_,fun _ _=>hd.2.1,fun _ _=>hd.2.2.1,fun _ _=>hd.2.2.2.2.2⟩,fun k hk e=>?_,fun i j hij hj _ _=>hx2 i j (by omega) hj (by omega)⟩
 ·have:=rW.in e;exact ⟨by omega,by omega,hd.1⟩
 ·have:=rX.in e;exact ⟨by omega,by omega,hd.2.2.2.1⟩
 ·have:=rI.in e;exact ⟨by omega,by omega,hd.2.2.2.2.1⟩
 ·have:=(hc1 k hk).2.in e
  have h:=hx1 k hk
  exact ⟨⟨by omega,by omega,h.2.1⟩,fun _=>h.1,fun _=>h.2.2.1,fun _=>h.2.2.2⟩
theorem Nine.sm {w w':World} {s:Nat} {l:List Value} (h:Nine w s l) (k:Sm w w' s):Nine w' s l:=fun i hi=>by rw [(k i).1,(k i).2];exact h i hi
theorem Sc.below {w w':World} {c d:Int} {s b lo:Nat} {V:CV} {n:Nat} {M:Int→Option (Nat→Int)} (h:Sc w c d s b lo V n M) (hb:Below w.heap.size w w'):Sc w' c d s b lo V n M:=by
 obtain ⟨aW,kW,kO,aX,kX,aI,kI,gW,gO,gX,gI,sl,xs,hN,rW,rX,rI,hO,hM,⟨l1,l2,l3,l4,l5,l6,l7,l8⟩,hd,hx1,hx2⟩:=h
 have hz:=hb.size
 exact ⟨aW,kW,kO,aX,kX,aI,kI,gW,gO,gX,gI,sl,xs,hN.sm (sm_below hb l4),rW.go (Nat.le_refl _) hz (Nat.le_refl _) (fun _ _ h=>sm_below hb h),rX.go (Nat.le_refl _) hz (Nat.le_refl _) (fun _ _ h=>sm_below hb h),rI.go (Nat.le_refl _) hz (Nat.le_refl _) (fun _ _ h=>sm_below hb h),
  fun k hk=>⟨(sm_below hb l2 k).1.trans (hO k hk).1,(sm_below hb l2 k).2.trans (hO k hk).2.1,(hO k hk).2.2.go (Nat.le_refl _) hz (Nat.le_refl _) (fun _ _ h=>sm_below hb h)⟩,hM.below hM.lt hb,⟨l1,by omega,l3,by omega,l5,l6,l7,l8⟩,hd,hx1,hx2⟩
end Go.Proofs.YtngaboipleimcaaGreatDoor
namespace Go.Proofs
open Go.Shelf
def Tryz.keysA_ren:Go.Shelf.Ren:=⟨fun | 7=>133 | 10=>154 | n=>n,fun | 23=>131 | 26=>3 | 3=>48 | 28=>167 | 0=>0 | 27=>166 | 33=>109 | 4=>4 | n=>n,fun | n=>n⟩
theorem Tryz.keysA:Go.Proofs.SlLaysZI.n7 Tryz.prog Tryz.keysA_ren:={
 mixed:=by kernel_rfl
 f7:=⟨Tryz.f133.name,by decide,Tryz.func133.trans (congrArg some (by kernel_rfl))⟩
 f10:=⟨Tryz.f154.name,by decide,Tryz.func154.trans (congrArg some (by kernel_rfl))⟩
 t0:=Tryz.underlying0
 a0:=Tryz.isAgg0
 z0:=Tryz.sizeOf0
 v0:=Tryz.zeroValue0
 t4:=Tryz.underlying4
 a4:=Tryz.isAgg4
 z4:=Tryz.sizeOf4
 v4:=Tryz.zeroValue4
 t23:=Tryz.underlying131
 a23:=Tryz.isAgg131
 z23:=Tryz.sizeOf131
 v23:=Tryz.zeroValue131
 t26:=Tryz.underlying3
 a26:=Tryz.isAgg3
 z26:=Tryz.sizeOf3
 v26:=Tryz.zeroValue3
 t27:=Tryz.underlying166
 a27:=Tryz.isAgg166
 z27:=Tryz.sizeOf166
 v27:=Tryz.zeroValue166
 t28:=Tryz.underlying167
 a28:=Tryz.isAgg167
 z28:=Tryz.sizeOf167
 v28:=Tryz.zeroValue167
 t33:=Tryz.underlying109
 a33:=Tryz.isAgg109
 z33:=Tryz.sizeOf109
 v33:=Tryz.zeroValue109 }
def Tryz.sortedA_ren:Go.Shelf.Ren:=⟨fun | 6=>132 | 8=>152 | 9=>153 | 11=>168 | 13=>170 | 12=>169 | 23=>184 | 24=>185 | 14=>175 | 15=>176 | 16=>177 | 17=>178 | 18=>179 | 19=>180 | 20=>181 | 21=>182 | 22=>183 | 25=>186 | 26=>187 | 27=>188 | 28=>189 | 29=>190 | 30=>191 | 31=>192 | n=>n,fun | 26=>3 | 28=>167 | 24=>26 | 0=>0 | 3=>3 | 37=>224 | 48=>247 | 50=>249 | 4=>4 | 40=>241 | 39=>240 | 45=>95 | 5=>5 | 9=>9 | 51=>250 | 55=>254 | 57=>256 | 58=>257 | 33=>109 | n=>n,fun | n=>n⟩
theorem Tryz.sortedA:Go.Proofs.SlLaysZI.n6 Tryz.prog Tryz.sortedA_ren:={
 mixed:=by kernel_rfl
 f6:=⟨Tryz.f132.name,by decide,Tryz.func132.trans (congrArg some (by kernel_rfl))⟩
 f8:=⟨Tryz.f152.name,by decide,Tryz.func152.trans (congrArg some (by kernel_rfl))⟩
 f11:=⟨Tryz.f168.name,by decide,Tryz.func168.trans (congrArg some (by kernel_rfl))⟩
 t0:=Tryz.underlying0
 a0:=Tryz.isAgg0
 z0:=Tryz.sizeOf0
 v0:=Tryz.zeroValue0
 t24:=Tryz.underlying26
 a24:=Tryz.isAgg26
 z24:=Tryz.sizeOf26
 v24:=Tryz.zeroValue26
 t26:=Tryz.underlying3
 a26:=Tryz.isAgg3
 z26:=Tryz.sizeOf3
 v26:=Tryz.zeroValue3
 t28:=Tryz.underlying167
 a28:=Tryz.isAgg167
 z28:=Tryz.sizeOf167
 v28:=Tryz.zeroValue167
 i26:=by kernel_rfl }
def Tryz.sortA_ren:Go.Shelf.Ren:=⟨fun | 5=>153 | 8=>170 | 7=>169 | 19=>184 | 20=>185 | 10=>175 | 11=>176 | 12=>177 | 13=>178 | 14=>179 | 15=>180 | 16=>181 | 17=>182 | 18=>183 | 30=>186 | 31=>187 | 32=>188 | 33=>189 | 34=>190 | 35=>191 | 40=>192 | n=>n,fun | 23=>26 | 25=>3 | 3=>3 | 32=>224 | 22=>26 | 0=>0 | 44=>247 | 46=>249 | 4=>4 | 36=>241 | 35=>240 | 41=>95 | 5=>5 | 9=>9 | 53=>250 | 57=>254 | 63=>256 | 64=>257 | n=>n,fun | n=>n⟩
theorem Tryz.sortA:Go.Proofs.SlLaysM.n5 Tryz.prog Tryz.sortA_ren:={
 mixed:=by kernel_rfl
 f5:=⟨Tryz.f153.name,by decide,Tryz.func153.trans (congrArg some (by kernel_rfl))⟩
 f7:=⟨Tryz.f169.name,by decide,Tryz.func169.trans (congrArg some (by kernel_rfl))⟩
 f8:=Tryz.func170.trans (congrArg some (by kernel_rfl))
 f10:=⟨Tryz.f175.name,by decide,Tryz.func175.trans (congrArg some (by kernel_rfl))⟩
 f11:=⟨Tryz.f176.name,by decide,Tryz.func176.trans (congrArg some (by kernel_rfl))⟩
 f12:=⟨Tryz.f177.name,by decide,Tryz.func177.trans (congrArg some (by kernel_rfl))⟩
 f13:=⟨Tryz.f178.name,by decide,Tryz.func178.trans (congrArg some (by kernel_rfl))⟩
 f14:=⟨Tryz.f179.name,by decide,Tryz.func179.trans (congrArg some (by kernel_rfl))⟩
 f15:=⟨Tryz.f180.name,by decide,Tryz.func180.trans (congrArg some (by kernel_rfl))⟩
 f16:=⟨Tryz.f181.name,by decide,Tryz.func181.trans (congrArg some (by kernel_rfl))⟩
 f17:=⟨Tryz.f182.name,by decide,Tryz.func182.trans (congrArg some (by kernel_rfl))⟩
 f18:=⟨Tryz.f183.name,by decide,Tryz.func183.trans (congrArg some (by kernel_rfl))⟩
 f19:=Tryz.func184.trans (congrArg some (by kernel_rfl))
 f20:=Tryz.func185.trans (congrArg some (by kernel_rfl))
 f30:=⟨Tryz.f186.name,by decide,Tryz.func186.trans (congrArg some (by kernel_rfl))⟩
 f31:=Tryz.func187.trans (congrArg some (by kernel_rfl))
 f32:=Tryz.func188.trans (congrArg some (by kernel_rfl))
 f33:=⟨Tryz.f189.name,by decide,Tryz.func189.trans (congrArg some (by kernel_rfl))⟩
 f34:=⟨Tryz.f190.name,by decide,Tryz.func190.trans (congrArg some (by kernel_rfl))⟩
 f35:=⟨Tryz.f191.name,by decide,Tryz.func191.trans (congrArg some (by kernel_rfl))⟩
 f40:=⟨Tryz.f192.name,by decide,Tryz.func192.trans (congrArg some (by kernel_rfl))⟩
 t0:=Tryz.underlying0
 a0:=Tryz.isAgg0
 z0:=Tryz.sizeOf0
 v0:=Tryz.zeroValue0
 t3:=Tryz.underlying3
 a3:=Tryz.isAgg3
 z3:=Tryz.sizeOf3
 v3:=Tryz.zeroValue3
 t4:=Tryz.underlying4
 a4:=Tryz.isAgg4
 z4:=Tryz.sizeOf4
 v4:=Tryz.zeroValue4
 t5:=Tryz.underlying5
 a5:=Tryz.isAgg5
 z5:=Tryz.sizeOf5
 v5:=Tryz.zeroValue5
 t9:=Tryz.underlying9
 a9:=Tryz.isAgg9
 z9:=Tryz.sizeOf9
 v9:=Tryz.zeroValue9
 t22:=Tryz.underlying26
 a22:=Tryz.isAgg26
 z22:=Tryz.sizeOf26
 v22:=Tryz.zeroValue26
 t23:=Tryz.underlying26
 a23:=Tryz.isAgg26
 z23:=Tryz.sizeOf26
 v23:=Tryz.zeroValue26
 t25:=Tryz.underlying3
 a25:=Tryz.isAgg3
 z25:=Tryz.sizeOf3
 v25:=Tryz.zeroValue3
 t32:=Tryz.underlying224
 a32:=Tryz.isAgg224
 z32:=Tryz.sizeOf224
 v32:=Tryz.zeroValue224
 t35:=Tryz.underlying240
 a35:=Tryz.isAgg240
 z35:=Tryz.sizeOf240
 v35:=Tryz.zeroValue240
 t36:=Tryz.underlying241
 a36:=Tryz.isAgg241
 z36:=Tryz.sizeOf241
 v36:=Tryz.zeroValue241
 t41:=Tryz.underlying95
 a41:=Tryz.isAgg95
 z41:=Tryz.sizeOf95
 v41:=Tryz.zeroValue95
 t44:=Tryz.underlying247
 a44:=Tryz.isAgg247
 z44:=Tryz.sizeOf247
 v44:=Tryz.zeroValue247
 t46:=Tryz.underlying249
 a46:=Tryz.isAgg249
 z46:=Tryz.sizeOf249
 v46:=Tryz.zeroValue249
 t53:=Tryz.underlying250
 a53:=Tryz.isAgg250
 z53:=Tryz.sizeOf250
 v53:=Tryz.zeroValue250
 t57:=Tryz.underlying254
 a57:=Tryz.isAgg254
 z57:=Tryz.sizeOf254
 v57:=Tryz.zeroValue254
 t63:=Tryz.underlying256
 a63:=Tryz.isAgg256
 z63:=Tryz.sizeOf256
 v63:=Tryz.zeroValue256
 t64:=Tryz.underlying257
 a64:=Tryz.isAgg257
 z64:=Tryz.sizeOf257
 v64:=Tryz.zeroValue257 }
