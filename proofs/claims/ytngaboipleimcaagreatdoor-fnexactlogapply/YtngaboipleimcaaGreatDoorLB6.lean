/- The law FnExactLogApply: it answers true; conditions: the cell lies in memory; the library's variable reads as it is laid. -/
import Derived.Test.YtngaboipleimcaaGreatDoorCToB
namespace Go.Proofs.YtngaboipleimcaaGreatDoor
open Go.RowKit Go.Deep
set_option linter.unusedVariables false
attribute [local go_sem ↓] load36_eq
theorem st_sum (s:Nat) (N:Nat→Nat):∀ k,st s N k=s+sumN N k * 8
 | 0=>by simp [st,sumN]
 | k+1=>by simp only [st,sumN,st_sum s N k];omega
theorem sum_le (N:Nat→Nat):∀ n k,k≤n→sumN N k≤sumN N n
 | 0,k,h=>by obtain rfl:k=0:=by omega
             exact Nat.le_refl _
 | n+1,k,h=>by
  by_cases e:k=n+1
  ·subst e;exact Nat.le_refl _
  ·have:=sum_le N n k (by omega);simp only [sumN];omega
theorem few_sum {V:CV} (h:V.short 1048576) (hs:sumN V.N V.nO≤1048576):V.few:=by
 refine ⟨h,fun k hk=>?_⟩
 rw [st_sum]
 have:=sum_le V.N V.nO k hk
 have:=h.1
 unfold CV.s1
 omega
def Sf (U:CV):Prop:=U.short 1048576∧U.nO≤2
theorem kindV_sf {c d:Int} {U:CV} {m:Nat} {k t n:Int} (hs:U.short 1000000) (h2:U.nO≤2):Sf (kindV c d U m k t n).1:=by
 have s0:U.short 1048576:=hs.more (by omega)
 have s1:∀ m:Nat,(U.outW m).short 1000000:=fun m=>⟨Nat.le_trans (Nat.sub_le _ _) hs.1,hs.2⟩
 unfold kindV stepV giveV dropV pickV throwV
 repeat' split
 all_goals first
  | exact ⟨s0,h2⟩
  | exact ⟨short_send (s1 m) _ _,h2⟩
  | exact ⟨short_send (U:=U.setW m (zc (U.W m) (-n))) hs _ _,h2⟩
theorem applyR_few {c d:Int} {R:Nat→Int} {V:CV} (h:V.short 1048576):(applyR c d V R).1.short 1048576∧(applyR c d V R).1.few:=by
 unfold applyR
 split
 ·have h0:CV.zero.short 1048576:=⟨by show 0≤1048576;omega,by show 0≤1048576;omega,fun _ h=>absurd h (by show ¬ _<0;omega),by show 0≤1048576;omega,by show 0≤1048576;omega⟩
  exact ⟨h0,CV.few_of h0 (by show 0≤2;omega)⟩
 ·rename_i hn
  have hV:cllB c d V=true:=by cases e:cllB c d V;exact absurd (.inl e) hn;rfl
  have hL:logR c d R=true:=by cases e:logR c d R;exact absurd (.inr e) hn;rfl
  have h2:=cllB_two hV
  have h9:=cllB_nine hV
  have hs:V.short 1000000:=⟨by omega,by omega,fun q hq=>by have:=(cllB_X hV q (by omega)).2;omega,by omega,by omega⟩
  have e0:Sf V:=⟨h,by omega⟩
  have hf:Sf (applyV c d V R).1:=by
   unfold applyV
   rw [if_neg (show ¬ logR c d R=false by rw [hL];simp)]
   split
   ·split
    ·show Sf (doV c d V (R 1) (R 2) (R 3) (R 4) (R 5)).1
     unfold doV freshV
     repeat' split
     all_goals first
      | exact e0
      | exact kindV_sf (U:=V.setW _ _) hs (by show V.nO≤2;omega)
    ·exact e0
   ·split
    ·exact e0
    ·split
     ·show Sf (CV.inn c d V (R 6).toNat (R 7) (R 8) (R 9) (R 10) (R 11) (R 12) (R 13) (R 14))
      unfold CV.inn
      split
      ·split
       ·exact ⟨⟨by show V.nW+1≤1048576;omega,h.2⟩,e0.2⟩
       ·exact e0
      ·exact e0
     ·show Sf (V.after (R 6).toNat (R 15))
      unfold CV.after
      split
      ·refine ⟨⟨h.1,h.2.1,fun k hk=>?_,h.2.2.2.1,h.2.2.2.2⟩,e0.2⟩
       show (if k=(R 6).toNat then _ else V.N k)≤_
       split
       ·rename_i e
        subst e
        exact Nat.le_trans (P8.rest_len _ _ _) (h.2.2.1 _ hk)
       ·exact h.2.2.1 k hk
      ·exact e0
  exact ⟨hf.1,CV.few_of hf.1 hf.2⟩
set_option maxRecDepth 20000 in
set_option maxHeartbeats 3000000 in
theorem law_logApply (c d:Int) (v:Value) (V:CV) (R:Nat→Int) (hs:V.short maxLen) (hwf0:∀ k,k<V.nW→(Lit.int .i64 (V.W k 0)).wf=true) (hwR0:∀ j,j<16→(Lit.int .i64 (R j)).wf=true) (w:World)
 (hg00:w.cell? (zA 0 0)=some (.iface 226 (.agg #[zP 1 199]))) (h:CellAt w v V) :
 Calls Tryz.prog 3 #[.agg #[zI c,zI d],v,.agg (zR R).toArray] w fun e w'=>e=.returned (.bool true)∧Below w.heap.size w w':=by
 obtain ⟨aW,kW,aO,kO,aX,kX,aI,kI,rfl,rW,rO,rX,rI⟩:=h
 have H0:Hid (CellAt w (.agg (zD V aW kW aO kO aX kX aI kI).toArray) V):=⟨aW,kW,aO,kO,aX,kX,aI,kI,rfl,rW,rO,rX,rI⟩
 have HS0:Hid (V.short maxLen):=hs
 have hwf:Hid (∀ k,k<V.nW→(Lit.int .i64 (V.W k 0)).wf=true):=hwf0
 have hwR:Hid (∀ j,j<16→(Lit.int .i64 (R j)).wf=true):=hwR0
 have hg0:Hid (w.cell? (zA 0 0)=some (.iface 226 (.agg #[zP 1 199]))):=hg00
 have hpos:0<w.heap.size:=World.block_lt_of_cell? w (zA 0 0) hg00
 clear rW rO rX rI hs hwf0 hwR0 hg00
 obtain ⟨U,eU⟩:∃ U,(applyR c d V R).1=U:=⟨_,rfl⟩
 obtain ⟨TZ,eZ⟩:∃ t,(applyR c d V R).2.1=t:=⟨_,rfl⟩
 obtain ⟨TB,eT⟩:∃ t,(applyR c d V R).2.2=t:=⟨_,rfl⟩
 have EU:Hid ((applyR c d V R).1=U):=eU
 have EZ:Hid ((applyR c d V R).2.1=TZ):=eZ
 have ET:Hid ((applyR c d V R).2.2=TB):=eT
 clear eU eT eZ
 go_enter Tryz.func3,Tryz.ntmps3
 go_wp2_with fail
 obtain ⟨w0,e0,B1,M2,A3,Q4,-⟩:=bxh3 w [zI c,zI d] 23 (zD V aW kW aO kO aX kX aI kI) 28 (zR R) 36
 rw [←e0]
 clear e0
 have y0:w.heap.size+2<w0.heap.size:=Q4.out.1
 refine (szCell2 _ V HS0.out _ (cellAt_below H0.out B1.out)).mono ?_
 rintro e w1 ⟨⟨r,rfl,hr⟩,hb1⟩
 have y_w1:w0.heap.size≤w1.heap.size:=hb1.size
 have B5:=hid (bthen B1.out hb1)
 have M5:=hid (M2.out.below hb1)
 have A5:=hid (A3.out.below hb1)
 have Q5:=hid (Q4.out.below hb1)
 clear B1 M2 A3 Q4
 clear hb1
 rcases hr with hr | ⟨hr,hV,hSm⟩
 ·go_wp2
  go_ret
  exact ⟨rfl,B5.out⟩
 have hr2:¬ r<0:=by omega
 have HV:Hid (V.short 1048576):=hV
 have HF:Hid V.few:=few_sum hV hSm
 have HU:Hid (U.short 1048576∧U.few):=by rw [←EU.out];exact applyR_few hV
 clear hV hSm
 go_upto_region 5 with fail
 go_cut [8,9,10] (fun s t u wx=>∃ g l h a1W k1W a1O k1O a1X k1X a1I k1I,zP g 0=s∧zI TZ=t∧.bool TB=u∧Bk wx g (zD U a1W k1W a1O k1O a1X k1X a1I k1I)∧OwnC l h wx (.agg (zD U a1W k1W a1O k1O a1X k1X a1I k1I).toArray) U∧(w1.heap.size≤g∧g<wx.heap.size∧w1.heap.size≤l∧l≤h∧h≤wx.heap.size∧(g<l∨h≤g))∧Below w1.heap.size w1 wx)
 case first =>
  obtain ⟨yM0,yM1⟩:=M5.out.a2
  have hlM:w.heap.size<w1.heap.size:=M5.out.1
  obtain ⟨yA0,yA1,yA2,yA3,yA4,yA5⟩:=A5.out.a6
  have hlA:(w.heap.size+1)<w1.heap.size:=A5.out.1
  refine wp_region_held_drew (S:=fun w'=>Below (w1.heap.size) w1 w') (by kernel_rfl) ((Below.refl _ _).drew) ?_
  intro hHeld
  obtain ⟨X0,hX0⟩:∃ X,X=w1.drew:=⟨_,rfl⟩
  have hz0:w1.heap.size≤X0.heap.size:=by rw [hX0];exact Nat.le_refl _
  rw [←hX0] at hHeld ⊢
  clear hX0
  refine tkb 0 (.agg #[zI c,zI d]) rfl ?_
  try simp only [aT]
  refine tkb 2 (.agg (zD V aW kW aO kO aX kX aI kI).toArray) rfl ?_
  try simp only [aT]
  refine tkl 4 (.agg (zR R).toArray) rfl ?_ ?_
  ·intro wx hSw;obtain ⟨hcS,hfS⟩:=bcellN hSw;have hl:=load36_bk (Q5.out.below hSw) rfl;go_simp
  try simp only [aT]
  refine rdy [1,11] ?_
  refine (AllReadyH.cons rfl (fun K hK=>?_) (AllReadyH.cons rfl (fun K hK=>?_) AllReadyH.nil))
  ·go_simp
   go_wp2_with fail
   refine (toMap _ _ _).mono ?_
   rintro e xm ⟨rfl,hxm⟩
   have hsz_xm:=hxm.size
   refine hK.out _ _ (bthenN hHeld (by omega) hxm) (fun hNew=>?_)
   clear hK K hHeld
   have hHeld:=hNew
   clear hNew
   try simp only [aT]
   refine rdy [3,11] ?_
   refine (AllReadyH.cons rfl (fun K hK=>?_) (AllReadyH.cons rfl (fun K hK=>?_) AllReadyH.nil))
   ·go_simp
    go_wp2_with fail
    refine (toCell _ V HV.out _ (cellAt_below H0.out (bthen B5.out hHeld))).mono ?_
    rintro e xt ⟨⟨vt,rfl,hC⟩,hxt⟩
    have hsz_xt:=hxt.size
    refine hK.out _ _ (bthenN hHeld (by omega) hxt) (fun hNew=>?_)
    clear hK K hHeld
    have hHeld:=hNew
    clear hNew
    try simp only [aT]
    refine rdy [5,11] ?_
    refine (AllReadyH.cons rfl (fun K hK=>?_) (AllReadyH.cons rfl (fun K hK=>?_) AllReadyH.nil))
    ·go_simp
     go_wp2_with fail
     refine (toRec _ _ _ _ _ _ _ _ _ _ _ _ _ _ _ _ _ ).mono ?_
     rintro e xp ⟨rfl,hxp⟩
     replace hC:=hC.below hxp
     have hsz_xp:=hxp.size
     refine hK.out _ _ (bthenN hHeld (by omega) hxp) (fun hNew=>?_)
     clear hK K hHeld
     have hHeld:=hNew
     clear hNew
     try simp only [aT]
     refine rdy [6,11] ?_
     refine (AllReadyH.cons rfl (fun K hK=>?_) (AllReadyH.cons rfl (fun K hK=>?_) AllReadyH.nil))
     ·go_simp
      go_wp2_with fail
      refine (logApply_spec c d _ V _ R HV.out _ hC).mono ?_
      rintro e xg ⟨⟨u,tz,tt,rfl,hz,ht,hO⟩,hxg⟩
      subst ht
      subst hz
      rw [EU.out] at hO
      rw [ET.out,EZ.out]
      obtain ⟨a1W,k1W,a1O,k1O,a1X,k1X,a1I,k1I,rfl,_,_,_,_⟩:=hO.at
      obtain ⟨lg,elg⟩:∃ l,l=xp.heap.size:=⟨_,rfl⟩
      obtain ⟨hg,ehg⟩:∃ l,l=xg.heap.size:=⟨_,rfl⟩
      rw [←elg,←ehg] at hO
      have elg1:lg≤xp.heap.size:=by omega
      have elg2:xp.heap.size≤lg:=by omega
      have ehg1:hg≤xg.heap.size:=by omega
      have ehg2:xg.heap.size≤hg:=by omega
      clear elg ehg
      have hsz_xg:=hxg.size
      refine hK.out _ _ (bthenN hHeld (by omega) hxg) (fun hNew=>?_)
      clear hK K hHeld
      have hHeld:=hNew
      clear hNew
      try simp only [aT]
      refine tkb 7 (.tuple #[.agg (zD U a1W k1W a1O k1O a1X k1X a1I k1I).toArray,zI TZ,.bool TB]) rfl ?_
      try simp only [aT]
      refine tkb 8 (.agg (zD U a1W k1W a1O k1O a1X k1X a1I k1I).toArray) rfl ?_
      try simp only [aT]
      refine tkb 9 (zI TZ) rfl ?_
      try simp only [aT]
      refine tkb 10 (.bool TB) rfl ?_
      try simp only [aT]
      refine rd1 11 rfl fun K hK=>?_
      go_simp
      obtain ⟨XC,eA⟩:∃ X,X=xg.alloc (.cells zN.toArray 41):=⟨_,rfl⟩
      rw [←eA]
      have hbA:Below xg.heap.size xg XC:=by rw [eA];exact (Below.refl _ _).alloc (Nat.le_refl _) _
      have hZC:Bk XC xg.heap.size zN:=by rw [eA];exact bk_new xg 41 zN
      have hzAC1:XC.heap.size≤xg.heap.size+1:=by rw [eA];simp
      have hzAC2:xg.heap.size+1≤XC.heap.size:=by rw [eA];simp
      clear eA
      replace hO:=hO.below (by omega) hbA
      have hsz_XC:=hbA.size
      refine hK.out _ _ (bthenN hHeld (by omega) hbA) (fun hNew=>?_)
      clear hK K hHeld
      have hHeld:=hNew
      clear hNew
      try simp only [aT]
      clear hbA
      obtain ⟨C,eC⟩:∃ g,g=xg.heap.size:=⟨_,rfl⟩
      rw [←eC] at hZC ⊢
      have eC1:C≤xg.heap.size:=by omega
      have eC2:xg.heap.size≤C:=by omega
      clear eC
      refine rd1 12 rfl fun K hK=>?_
      obtain ⟨r0,r1,r2,r3,r4,r5⟩:=hZC.a6
      obtain ⟨f0,f1,f2,f3,f4,f5⟩:=hZC.f6
      have lZC:=hZC.1
      have hkC:w1.heap.size≤C:=by omega
      go_simp
      obtain ⟨XSC,eS⟩:∃ X,X=((((((XC.setCell (zA C 0) (zI U.c)).setCell (zA C 1) (.slice a1W U.nW k1W)).setCell (zA C 2) (zI U.g)).setCell (zA C 3) (.slice a1O U.nO k1O)).setCell (zA C 4) (.slice a1X U.nX k1X)).setCell (zA C 5) (.slice a1I U.nI k1I)):=⟨_,rfl⟩
      rw [←eS]
      have hPC:Bk XSC C (zD U a1W k1W a1O k1O a1X k1X a1I k1I):=by rw [eS];exact bk_put (l:=(zD U a1W k1W a1O k1O a1X k1X a1I k1I)) hZC rfl
      have hzC1:XSC.heap.size≤XC.heap.size:=by rw [eS];exact Nat.le_of_eq (size_put C (zD U a1W k1W a1O k1O a1X k1X a1I k1I) 0 XC)
      have hzC2:XC.heap.size≤XSC.heap.size:=by rw [eS];exact Nat.le_of_eq (size_put C (zD U a1W k1W a1O k1O a1X k1X a1I k1I) 0 XC).symm
      have hmC:∀ b,¬ b=C→Sm XC XSC b:=by rw [eS];exact fun b hb=>sm_put hb (zD U a1W k1W a1O k1O a1X k1X a1I k1I) 0 XC
      have hBC:Below (w1.heap.size) w1 XSC:=by rw [eS];exact below_put hkC (zD U a1W k1W a1O k1O a1X k1X a1I k1I) 0 hHeld
      clear eS r0 f0 r1 f1 r2 f2 r3 f3 r4 f4 r5 f5
      replace hO:=hO.sm hzC2 (fun b q1 q2=>hmC b (by omega))
      refine hK.out _ _ hBC (fun hNew=>?_)
      clear hK K hHeld
      have hHeld:=hNew
      clear hNew
      try simp only [aT]
      refine tkb 13 (zI TZ) rfl ?_
      try simp only [aT]
      refine tkb 14 (.bool TB) rfl ?_
      try simp only [aT]
      refine wpAnyH_done (by kernel_rfl) ?_ _
      go_wp2
      go_meet
      case rel=>exact ⟨C,lg,hg,a1W,k1W,a1O,k1O,a1X,k1X,a1I,k1I,rfl,rfl,rfl,hPC,hO,⟨by omega,hPC.1,by omega,by omega,by omega,by omega⟩,hHeld⟩
     ·go_simp
      obtain ⟨XC,eA⟩:∃ X,X=xp.alloc (.cells zN.toArray 41):=⟨_,rfl⟩
      rw [←eA]
      have hbA:Below xp.heap.size xp XC:=by rw [eA];exact (Below.refl _ _).alloc (Nat.le_refl _) _
      have hZC:Bk XC xp.heap.size zN:=by rw [eA];exact bk_new xp 41 zN
      have hzAC1:XC.heap.size≤xp.heap.size+1:=by rw [eA];simp
      have hzAC2:xp.heap.size+1≤XC.heap.size:=by rw [eA];simp
      clear eA
      replace hC:=hC.below hbA
      have hsz_XC:=hbA.size
      refine hK.out _ _ (bthenN hHeld (by omega) hbA) (fun hNew=>?_)
      clear hK K hHeld
      have hHeld:=hNew
      clear hNew
      try simp only [aT]
      clear hbA
      obtain ⟨C,eC⟩:∃ g,g=xp.heap.size:=⟨_,rfl⟩
      rw [←eC] at hZC ⊢
      have eC1:C≤xp.heap.size:=by omega
      have eC2:xp.heap.size≤C:=by omega
      clear eC
      refine rd1 6 rfl fun K hK=>?_
      go_simp
      go_wp2_with fail
      refine (logApply_spec c d _ V _ R HV.out _ hC).mono ?_
      rintro e xg ⟨⟨u,tz,tt,rfl,hz,ht,hO⟩,hxg⟩
      subst ht
      subst hz
      rw [EU.out] at hO
      rw [ET.out,EZ.out]
      obtain ⟨a1W,k1W,a1O,k1O,a1X,k1X,a1I,k1I,rfl,_,_,_,_⟩:=hO.at
      obtain ⟨lg,elg⟩:∃ l,l=XC.heap.size:=⟨_,rfl⟩
      obtain ⟨hg,ehg⟩:∃ l,l=xg.heap.size:=⟨_,rfl⟩
      rw [←elg,←ehg] at hO
      have elg1:lg≤XC.heap.size:=by omega
      have elg2:XC.heap.size≤lg:=by omega
      have ehg1:hg≤xg.heap.size:=by omega
      have ehg2:xg.heap.size≤hg:=by omega
      clear elg ehg
      replace hZC:=hZC.below hxg
      have hsz_xg:=hxg.size
      refine hK.out _ _ (bthenN hHeld (by omega) hxg) (fun hNew=>?_)
      clear hK K hHeld
      have hHeld:=hNew
      clear hNew
      try simp only [aT]
      refine tkb 7 (.tuple #[.agg (zD U a1W k1W a1O k1O a1X k1X a1I k1I).toArray,zI TZ,.bool TB]) rfl ?_
      try simp only [aT]
      refine tkb 8 (.agg (zD U a1W k1W a1O k1O a1X k1X a1I k1I).toArray) rfl ?_
      try simp only [aT]
      refine tkb 9 (zI TZ) rfl ?_
      try simp only [aT]
      refine tkb 10 (.bool TB) rfl ?_
      try simp only [aT]
      refine rd1 12 rfl fun K hK=>?_
      obtain ⟨r0,r1,r2,r3,r4,r5⟩:=hZC.a6
      obtain ⟨f0,f1,f2,f3,f4,f5⟩:=hZC.f6
      have lZC:=hZC.1
      have hkC:w1.heap.size≤C:=by omega
      go_simp
      obtain ⟨XSC,eS⟩:∃ X,X=((((((xg.setCell (zA C 0) (zI U.c)).setCell (zA C 1) (.slice a1W U.nW k1W)).setCell (zA C 2) (zI U.g)).setCell (zA C 3) (.slice a1O U.nO k1O)).setCell (zA C 4) (.slice a1X U.nX k1X)).setCell (zA C 5) (.slice a1I U.nI k1I)):=⟨_,rfl⟩
      rw [←eS]
      have hPC:Bk XSC C (zD U a1W k1W a1O k1O a1X k1X a1I k1I):=by rw [eS];exact bk_put (l:=(zD U a1W k1W a1O k1O a1X k1X a1I k1I)) hZC rfl
      have hzC1:XSC.heap.size≤xg.heap.size:=by rw [eS];exact Nat.le_of_eq (size_put C (zD U a1W k1W a1O k1O a1X k1X a1I k1I) 0 xg)
      have hzC2:xg.heap.size≤XSC.heap.size:=by rw [eS];exact Nat.le_of_eq (size_put C (zD U a1W k1W a1O k1O a1X k1X a1I k1I) 0 xg).symm
      have hmC:∀ b,¬ b=C→Sm xg XSC b:=by rw [eS];exact fun b hb=>sm_put hb (zD U a1W k1W a1O k1O a1X k1X a1I k1I) 0 xg
      have hBC:Below (w1.heap.size) w1 XSC:=by rw [eS];exact below_put hkC (zD U a1W k1W a1O k1O a1X k1X a1I k1I) 0 hHeld
      clear eS r0 f0 r1 f1 r2 f2 r3 f3 r4 f4 r5 f5
      replace hO:=hO.sm hzC2 (fun b q1 q2=>hmC b (by omega))
      refine hK.out _ _ hBC (fun hNew=>?_)
      clear hK K hHeld
      have hHeld:=hNew
      clear hNew
      try simp only [aT]
      refine tkb 13 (zI TZ) rfl ?_
      try simp only [aT]
      refine tkb 14 (.bool TB) rfl ?_
      try simp only [aT]
      refine wpAnyH_done (by kernel_rfl) ?_ _
      go_wp2
      go_meet
      case rel=>exact ⟨C,lg,hg,a1W,k1W,a1O,k1O,a1X,k1X,a1I,k1I,rfl,rfl,rfl,hPC,hO,⟨by omega,hPC.1,by omega,by omega,by omega,by omega⟩,hHeld⟩
    ·go_simp
     obtain ⟨XC,eA⟩:∃ X,X=xt.alloc (.cells zN.toArray 41):=⟨_,rfl⟩
     rw [←eA]
     have hbA:Below xt.heap.size xt XC:=by rw [eA];exact (Below.refl _ _).alloc (Nat.le_refl _) _
     have hZC:Bk XC xt.heap.size zN:=by rw [eA];exact bk_new xt 41 zN
     have hzAC1:XC.heap.size≤xt.heap.size+1:=by rw [eA];simp
     have hzAC2:xt.heap.size+1≤XC.heap.size:=by rw [eA];simp
     clear eA
     replace hC:=hC.below hbA
     have hsz_XC:=hbA.size
     refine hK.out _ _ (bthenN hHeld (by omega) hbA) (fun hNew=>?_)
     clear hK K hHeld
     have hHeld:=hNew
     clear hNew
     try simp only [aT]
     clear hbA
     obtain ⟨C,eC⟩:∃ g,g=xt.heap.size:=⟨_,rfl⟩
     rw [←eC] at hZC ⊢
     have eC1:C≤xt.heap.size:=by omega
     have eC2:xt.heap.size≤C:=by omega
     clear eC
     refine rd1 5 rfl fun K hK=>?_
     go_simp
     go_wp2_with fail
     refine (toRec _ _ _ _ _ _ _ _ _ _ _ _ _ _ _ _ _ ).mono ?_
     rintro e xp ⟨rfl,hxp⟩
     replace hC:=hC.below hxp
     replace hZC:=hZC.below hxp
     have hsz_xp:=hxp.size
     refine hK.out _ _ (bthenN hHeld (by omega) hxp) (fun hNew=>?_)
     clear hK K hHeld
     have hHeld:=hNew
     clear hNew
     try simp only [aT]
     refine rd1 6 rfl fun K hK=>?_
     go_simp
     go_wp2_with fail
     refine (logApply_spec c d _ V _ R HV.out _ hC).mono ?_
     rintro e xg ⟨⟨u,tz,tt,rfl,hz,ht,hO⟩,hxg⟩
     subst ht
     subst hz
     rw [EU.out] at hO
     rw [ET.out,EZ.out]
     obtain ⟨a1W,k1W,a1O,k1O,a1X,k1X,a1I,k1I,rfl,_,_,_,_⟩:=hO.at
     obtain ⟨lg,elg⟩:∃ l,l=xp.heap.size:=⟨_,rfl⟩
     obtain ⟨hg,ehg⟩:∃ l,l=xg.heap.size:=⟨_,rfl⟩
     rw [←elg,←ehg] at hO
     have elg1:lg≤xp.heap.size:=by omega
     have elg2:xp.heap.size≤lg:=by omega
     have ehg1:hg≤xg.heap.size:=by omega
     have ehg2:xg.heap.size≤hg:=by omega
     clear elg ehg
     replace hZC:=hZC.below hxg
     have hsz_xg:=hxg.size
     refine hK.out _ _ (bthenN hHeld (by omega) hxg) (fun hNew=>?_)
     clear hK K hHeld
     have hHeld:=hNew
     clear hNew
     try simp only [aT]
     refine tkb 7 (.tuple #[.agg (zD U a1W k1W a1O k1O a1X k1X a1I k1I).toArray,zI TZ,.bool TB]) rfl ?_
     try simp only [aT]
     refine tkb 8 (.agg (zD U a1W k1W a1O k1O a1X k1X a1I k1I).toArray) rfl ?_
     try simp only [aT]
     refine tkb 9 (zI TZ) rfl ?_
     try simp only [aT]
     refine tkb 10 (.bool TB) rfl ?_
     try simp only [aT]
     refine rd1 12 rfl fun K hK=>?_
     obtain ⟨r0,r1,r2,r3,r4,r5⟩:=hZC.a6
     obtain ⟨f0,f1,f2,f3,f4,f5⟩:=hZC.f6
     have lZC:=hZC.1
     have hkC:w1.heap.size≤C:=by omega
     go_simp
     obtain ⟨XSC,eS⟩:∃ X,X=((((((xg.setCell (zA C 0) (zI U.c)).setCell (zA C 1) (.slice a1W U.nW k1W)).setCell (zA C 2) (zI U.g)).setCell (zA C 3) (.slice a1O U.nO k1O)).setCell (zA C 4) (.slice a1X U.nX k1X)).setCell (zA C 5) (.slice a1I U.nI k1I)):=⟨_,rfl⟩
     rw [←eS]
     have hPC:Bk XSC C (zD U a1W k1W a1O k1O a1X k1X a1I k1I):=by rw [eS];exact bk_put (l:=(zD U a1W k1W a1O k1O a1X k1X a1I k1I)) hZC rfl
     have hzC1:XSC.heap.size≤xg.heap.size:=by rw [eS];exact Nat.le_of_eq (size_put C (zD U a1W k1W a1O k1O a1X k1X a1I k1I) 0 xg)
     have hzC2:xg.heap.size≤XSC.heap.size:=by rw [eS];exact Nat.le_of_eq (size_put C (zD U a1W k1W a1O k1O a1X k1X a1I k1I) 0 xg).symm
     have hmC:∀ b,¬ b=C→Sm xg XSC b:=by rw [eS];exact fun b hb=>sm_put hb (zD U a1W k1W a1O k1O a1X k1X a1I k1I) 0 xg
     have hBC:Below (w1.heap.size) w1 XSC:=by rw [eS];exact below_put hkC (zD U a1W k1W a1O k1O a1X k1X a1I k1I) 0 hHeld
     clear eS r0 f0 r1 f1 r2 f2 r3 f3 r4 f4 r5 f5
     replace hO:=hO.sm hzC2 (fun b q1 q2=>hmC b (by omega))
     refine hK.out _ _ hBC (fun hNew=>?_)
     clear hK K hHeld
     have hHeld:=hNew
     clear hNew
     try simp only [aT]
     refine tkb 13 (zI TZ) rfl ?_
     try simp only [aT]
     refine tkb 14 (.bool TB) rfl ?_
     try simp only [aT]
     refine wpAnyH_done (by kernel_rfl) ?_ _
     go_wp2
     go_meet
     case rel=>exact ⟨C,lg,hg,a1W,k1W,a1O,k1O,a1X,k1X,a1I,k1I,rfl,rfl,rfl,hPC,hO,⟨by omega,hPC.1,by omega,by omega,by omega,by omega⟩,hHeld⟩
   ·go_simp
    obtain ⟨XC,eA⟩:∃ X,X=xm.alloc (.cells zN.toArray 41):=⟨_,rfl⟩
    rw [←eA]
    have hbA:Below xm.heap.size xm XC:=by rw [eA];exact (Below.refl _ _).alloc (Nat.le_refl _) _
    have hZC:Bk XC xm.heap.size zN:=by rw [eA];exact bk_new xm 41 zN
    have hzAC1:XC.heap.size≤xm.heap.size+1:=by rw [eA];simp
    have hzAC2:xm.heap.size+1≤XC.heap.size:=by rw [eA];simp
    clear eA
    have hsz_XC:=hbA.size
    refine hK.out _ _ (bthenN hHeld (by omega) hbA) (fun hNew=>?_)
    clear hK K hHeld
    have hHeld:=hNew
    clear hNew
    try simp only [aT]
    clear hbA
    obtain ⟨C,eC⟩:∃ g,g=xm.heap.size:=⟨_,rfl⟩
    rw [←eC] at hZC ⊢
    have eC1:C≤xm.heap.size:=by omega
    have eC2:xm.heap.size≤C:=by omega
    clear eC
    refine rd1 3 rfl fun K hK=>?_
    go_simp
    go_wp2_with fail
    refine (toCell _ V HV.out _ (cellAt_below H0.out (bthen B5.out hHeld))).mono ?_
    rintro e xt ⟨⟨vt,rfl,hC⟩,hxt⟩
    replace hZC:=hZC.below hxt
    have hsz_xt:=hxt.size
    refine hK.out _ _ (bthenN hHeld (by omega) hxt) (fun hNew=>?_)
    clear hK K hHeld
    have hHeld:=hNew
    clear hNew
    try simp only [aT]
    refine rd1 5 rfl fun K hK=>?_
    go_simp
    go_wp2_with fail
    refine (toRec _ _ _ _ _ _ _ _ _ _ _ _ _ _ _ _ _ ).mono ?_
    rintro e xp ⟨rfl,hxp⟩
    replace hZC:=hZC.below hxp
    replace hC:=hC.below hxp
    have hsz_xp:=hxp.size
    refine hK.out _ _ (bthenN hHeld (by omega) hxp) (fun hNew=>?_)
    clear hK K hHeld
    have hHeld:=hNew
    clear hNew
    try simp only [aT]
    refine rd1 6 rfl fun K hK=>?_
    go_simp
    go_wp2_with fail
    refine (logApply_spec c d _ V _ R HV.out _ hC).mono ?_
    rintro e xg ⟨⟨u,tz,tt,rfl,hz,ht,hO⟩,hxg⟩
    subst ht
    subst hz
    rw [EU.out] at hO
    rw [ET.out,EZ.out]
    obtain ⟨a1W,k1W,a1O,k1O,a1X,k1X,a1I,k1I,rfl,_,_,_,_⟩:=hO.at
    obtain ⟨lg,elg⟩:∃ l,l=xp.heap.size:=⟨_,rfl⟩
    obtain ⟨hg,ehg⟩:∃ l,l=xg.heap.size:=⟨_,rfl⟩
    rw [←elg,←ehg] at hO
    have elg1:lg≤xp.heap.size:=by omega
    have elg2:xp.heap.size≤lg:=by omega
    have ehg1:hg≤xg.heap.size:=by omega
    have ehg2:xg.heap.size≤hg:=by omega
    clear elg ehg
    replace hZC:=hZC.below hxg
    have hsz_xg:=hxg.size
    refine hK.out _ _ (bthenN hHeld (by omega) hxg) (fun hNew=>?_)
    clear hK K hHeld
    have hHeld:=hNew
    clear hNew
    try simp only [aT]
    refine tkb 7 (.tuple #[.agg (zD U a1W k1W a1O k1O a1X k1X a1I k1I).toArray,zI TZ,.bool TB]) rfl ?_
    try simp only [aT]
    refine tkb 8 (.agg (zD U a1W k1W a1O k1O a1X k1X a1I k1I).toArray) rfl ?_
    try simp only [aT]
    refine tkb 9 (zI TZ) rfl ?_
    try simp only [aT]
    refine tkb 10 (.bool TB) rfl ?_
    try simp only [aT]
    refine rd1 12 rfl fun K hK=>?_
    obtain ⟨r0,r1,r2,r3,r4,r5⟩:=hZC.a6
    obtain ⟨f0,f1,f2,f3,f4,f5⟩:=hZC.f6
    have lZC:=hZC.1
    have hkC:w1.heap.size≤C:=by omega
    go_simp
    obtain ⟨XSC,eS⟩:∃ X,X=((((((xg.setCell (zA C 0) (zI U.c)).setCell (zA C 1) (.slice a1W U.nW k1W)).setCell (zA C 2) (zI U.g)).setCell (zA C 3) (.slice a1O U.nO k1O)).setCell (zA C 4) (.slice a1X U.nX k1X)).setCell (zA C 5) (.slice a1I U.nI k1I)):=⟨_,rfl⟩
    rw [←eS]
    have hPC:Bk XSC C (zD U a1W k1W a1O k1O a1X k1X a1I k1I):=by rw [eS];exact bk_put (l:=(zD U a1W k1W a1O k1O a1X k1X a1I k1I)) hZC rfl
    have hzC1:XSC.heap.size≤xg.heap.size:=by rw [eS];exact Nat.le_of_eq (size_put C (zD U a1W k1W a1O k1O a1X k1X a1I k1I) 0 xg)
    have hzC2:xg.heap.size≤XSC.heap.size:=by rw [eS];exact Nat.le_of_eq (size_put C (zD U a1W k1W a1O k1O a1X k1X a1I k1I) 0 xg).symm
    have hmC:∀ b,¬ b=C→Sm xg XSC b:=by rw [eS];exact fun b hb=>sm_put hb (zD U a1W k1W a1O k1O a1X k1X a1I k1I) 0 xg
    have hBC:Below (w1.heap.size) w1 XSC:=by rw [eS];exact below_put hkC (zD U a1W k1W a1O k1O a1X k1X a1I k1I) 0 hHeld
    clear eS r0 f0 r1 f1 r2 f2 r3 f3 r4 f4 r5 f5
    replace hO:=hO.sm hzC2 (fun b q1 q2=>hmC b (by omega))
    refine hK.out _ _ hBC (fun hNew=>?_)
    clear hK K hHeld
    have hHeld:=hNew
    clear hNew
    try simp only [aT]
    refine tkb 13 (zI TZ) rfl ?_
    try simp only [aT]
    refine tkb 14 (.bool TB) rfl ?_
    try simp only [aT]
    refine wpAnyH_done (by kernel_rfl) ?_ _
    go_wp2
    go_meet
    case rel=>exact ⟨C,lg,hg,a1W,k1W,a1O,k1O,a1X,k1X,a1I,k1I,rfl,rfl,rfl,hPC,hO,⟨by omega,hPC.1,by omega,by omega,by omega,by omega⟩,hHeld⟩
  ·go_simp
   obtain ⟨XC,eA⟩:∃ X,X=X0.alloc (.cells zN.toArray 41):=⟨_,rfl⟩
   rw [←eA]
   have hbA:Below X0.heap.size X0 XC:=by rw [eA];exact (Below.refl _ _).alloc (Nat.le_refl _) _
   have hZC:Bk XC X0.heap.size zN:=by rw [eA];exact bk_new X0 41 zN
   have hzAC1:XC.heap.size≤X0.heap.size+1:=by rw [eA];simp
   have hzAC2:X0.heap.size+1≤XC.heap.size:=by rw [eA];simp
   clear eA
   have hsz_XC:=hbA.size
   refine hK.out _ _ (bthenN hHeld (by omega) hbA) (fun hNew=>?_)
   clear hK K hHeld
   have hHeld:=hNew
   clear hNew
   try simp only [aT]
   clear hbA
   obtain ⟨C,eC⟩:∃ g,g=X0.heap.size:=⟨_,rfl⟩
   rw [←eC] at hZC ⊢
   have eC1:C≤X0.heap.size:=by omega
   have eC2:X0.heap.size≤C:=by omega
   clear eC
   refine rd1 1 rfl fun K hK=>?_
   go_simp
   go_wp2_with fail
   refine (toMap _ _ _).mono ?_
   rintro e xm ⟨rfl,hxm⟩
   replace hZC:=hZC.below hxm
   have hsz_xm:=hxm.size
   refine hK.out _ _ (bthenN hHeld (by omega) hxm) (fun hNew=>?_)
   clear hK K hHeld
   have hHeld:=hNew
   clear hNew
   try simp only [aT]
   refine rd1 3 rfl fun K hK=>?_
   go_simp
   go_wp2_with fail
   refine (toCell _ V HV.out _ (cellAt_below H0.out (bthen B5.out hHeld))).mono ?_
   rintro e xt ⟨⟨vt,rfl,hC⟩,hxt⟩
   replace hZC:=hZC.below hxt
   have hsz_xt:=hxt.size
   refine hK.out _ _ (bthenN hHeld (by omega) hxt) (fun hNew=>?_)
   clear hK K hHeld
   have hHeld:=hNew
   clear hNew
   try simp only [aT]
   refine rd1 5 rfl fun K hK=>?_
   go_simp
   go_wp2_with fail
   refine (toRec _ _ _ _ _ _ _ _ _ _ _ _ _ _ _ _ _ ).mono ?_
   rintro e xp ⟨rfl,hxp⟩
   replace hZC:=hZC.below hxp
   replace hC:=hC.below hxp
   have hsz_xp:=hxp.size
   refine hK.out _ _ (bthenN hHeld (by omega) hxp) (fun hNew=>?_)
   clear hK K hHeld
   have hHeld:=hNew
   clear hNew
   try simp only [aT]
   refine rd1 6 rfl fun K hK=>?_
   go_simp
   go_wp2_with fail
   refine (logApply_spec c d _ V _ R HV.out _ hC).mono ?_
   rintro e xg ⟨⟨u,tz,tt,rfl,hz,ht,hO⟩,hxg⟩
   subst ht
   subst hz
   rw [EU.out] at hO
   rw [ET.out,EZ.out]
   obtain ⟨a1W,k1W,a1O,k1O,a1X,k1X,a1I,k1I,rfl,_,_,_,_⟩:=hO.at
   obtain ⟨lg,elg⟩:∃ l,l=xp.heap.size:=⟨_,rfl⟩
   obtain ⟨hg,ehg⟩:∃ l,l=xg.heap.size:=⟨_,rfl⟩
   rw [←elg,←ehg] at hO
   have elg1:lg≤xp.heap.size:=by omega
   have elg2:xp.heap.size≤lg:=by omega
   have ehg1:hg≤xg.heap.size:=by omega
   have ehg2:xg.heap.size≤hg:=by omega
   clear elg ehg
   replace hZC:=hZC.below hxg
   have hsz_xg:=hxg.size
   refine hK.out _ _ (bthenN hHeld (by omega) hxg) (fun hNew=>?_)
   clear hK K hHeld
   have hHeld:=hNew
   clear hNew
   try simp only [aT]
   refine tkb 7 (.tuple #[.agg (zD U a1W k1W a1O k1O a1X k1X a1I k1I).toArray,zI TZ,.bool TB]) rfl ?_
   try simp only [aT]
   refine tkb 8 (.agg (zD U a1W k1W a1O k1O a1X k1X a1I k1I).toArray) rfl ?_
   try simp only [aT]
   refine tkb 9 (zI TZ) rfl ?_
   try simp only [aT]
   refine tkb 10 (.bool TB) rfl ?_
   try simp only [aT]
   refine rd1 12 rfl fun K hK=>?_
   obtain ⟨r0,r1,r2,r3,r4,r5⟩:=hZC.a6
   obtain ⟨f0,f1,f2,f3,f4,f5⟩:=hZC.f6
   have lZC:=hZC.1
   have hkC:w1.heap.size≤C:=by omega
   go_simp
   obtain ⟨XSC,eS⟩:∃ X,X=((((((xg.setCell (zA C 0) (zI U.c)).setCell (zA C 1) (.slice a1W U.nW k1W)).setCell (zA C 2) (zI U.g)).setCell (zA C 3) (.slice a1O U.nO k1O)).setCell (zA C 4) (.slice a1X U.nX k1X)).setCell (zA C 5) (.slice a1I U.nI k1I)):=⟨_,rfl⟩
   rw [←eS]
   have hPC:Bk XSC C (zD U a1W k1W a1O k1O a1X k1X a1I k1I):=by rw [eS];exact bk_put (l:=(zD U a1W k1W a1O k1O a1X k1X a1I k1I)) hZC rfl
   have hzC1:XSC.heap.size≤xg.heap.size:=by rw [eS];exact Nat.le_of_eq (size_put C (zD U a1W k1W a1O k1O a1X k1X a1I k1I) 0 xg)
   have hzC2:xg.heap.size≤XSC.heap.size:=by rw [eS];exact Nat.le_of_eq (size_put C (zD U a1W k1W a1O k1O a1X k1X a1I k1I) 0 xg).symm
   have hmC:∀ b,¬ b=C→Sm xg XSC b:=by rw [eS];exact fun b hb=>sm_put hb (zD U a1W k1W a1O k1O a1X k1X a1I k1I) 0 xg
   have hBC:Below (w1.heap.size) w1 XSC:=by rw [eS];exact below_put hkC (zD U a1W k1W a1O k1O a1X k1X a1I k1I) 0 hHeld
   clear eS r0 f0 r1 f1 r2 f2 r3 f3 r4 f4 r5 f5
   replace hO:=hO.sm hzC2 (fun b q1 q2=>hmC b (by omega))
   refine hK.out _ _ hBC (fun hNew=>?_)
   clear hK K hHeld
   have hHeld:=hNew
   clear hNew
   try simp only [aT]
   refine tkb 13 (zI TZ) rfl ?_
   try simp only [aT]
   refine tkb 14 (.bool TB) rfl ?_
   try simp only [aT]
   refine wpAnyH_done (by kernel_rfl) ?_ _
   go_wp2
   go_meet
   case rel=>exact ⟨C,lg,hg,a1W,k1W,a1O,k1O,a1X,k1X,a1I,k1I,rfl,rfl,rfl,hPC,hO,⟨by omega,hPC.1,by omega,by omega,by omega,by omega⟩,hHeld⟩
 case rest =>
  obtain ⟨w2,hwn⟩:∃ wn,wn=wc:=⟨_,rfl⟩
  subst hwn
  obtain ⟨g1,l1,h1,a1W,k1W,a1O,k1O,a1X,k1X,a1I,k1I,rfl,rfl,rfl,hG,hO,⟨c11,c12,c13,c14,c15,c16⟩,hb⟩:=hcut
  have y_w2:w1.heap.size≤w2.heap.size:=hb.size
  have B6:=hid (bthen B5.out hb)
  have M6:=hid (M5.out.below hb)
  have A6:=hid (A5.out.below hb)
  have Q6:=hid (Q5.out.below hb)
  clear B5 M5 A5 Q5
  have O1_7:Hid (OwnC l1 h1 w2 (.agg (zD U a1W k1W a1O k1O a1X k1X a1I k1I).toArray) U):=hO
  have G1_8:Hid (Bk w2 g1 (zD U a1W k1W a1O k1O a1X k1X a1I k1I)):=hG
  clear hO hG hb
  obtain ⟨yA0,yA1,yA2,yA3,yA4,yA5⟩:=A6.out.a6
  have hlA:(w.heap.size+1)<w2.heap.size:=A6.out.1
  go_wp2_with fail
  refine (toCellB _ V HV.out _ (cellAt_below H0.out B6.out)).mono ?_
  rintro e w3 ⟨⟨v3,rfl,hC⟩,hb3⟩
  clear yA0 yA1 yA2 yA3 yA4 yA5 hlA
  have y_w3:w2.heap.size≤w3.heap.size:=hb3.size
  have B9:=hid (bthen B6.out hb3)
  have M9:=hid (M6.out.below hb3)
  have A9:=hid (A6.out.below hb3)
  have Q9:=hid (Q6.out.below hb3)
  have O1_9:=hid (O1_7.out.below (by omega) hb3)
  have G1_9:=hid (G1_8.out.below hb3)
  clear B6 M6 A6 Q6 O1_7 G1_8
  clear hb3
  have hOX:=hC.own
  have hCX:=hC.copy
  obtain ⟨bW,bO,bX,bI,hi9,_,_,_,_,_,_,rfl,_,_,_,_⟩:=hC
  obtain ⟨lx,elx⟩:∃ l,l=w2.heap.size:=⟨_,rfl⟩
  obtain ⟨hx,ehx⟩:∃ l,l=w3.heap.size:=⟨_,rfl⟩
  rw [←elx,←ehx] at hOX
  rw [←elx] at hCX
  have elx1:lx≤w2.heap.size:=by omega
  have elx2:w2.heap.size≤lx:=by omega
  have ehx1:hx≤w3.heap.size:=by omega
  have ehx2:w3.heap.size≤hx:=by omega
  clear elx ehx
  have HOX:Hid (OwnC lx hx w3 (.agg (zC V bW V.nW bO V.nO bX V.nX bI V.nI).toArray) V):=hOX
  have HCX:Hid (CopyAt lx w3 (.agg (zC V bW V.nW bO V.nO bX V.nX bI V.nI).toArray) V):=hCX
  clear hOX hCX
  go_upto_region 7 with fail
  obtain ⟨w4,e4,hb4,hG,-⟩:=bx1 w3 (zC V bW V.nW bO V.nO bX V.nX bI V.nI) 41
  rw [←e4]
  clear e4
  have y_w4:w3.heap.size≤w4.heap.size:=hb4.size
  have B10:=hid (bthen B9.out hb4)
  have M10:=hid (M9.out.below hb4)
  have A10:=hid (A9.out.below hb4)
  have Q10:=hid (Q9.out.below hb4)
  have O1_10:=hid (O1_9.out.below (by omega) hb4)
  have G1_10:=hid (G1_9.out.below hb4)
  clear B9 M9 A9 Q9 O1_9 G1_9
  obtain ⟨gx,egx⟩:∃ g,g=w3.heap.size:=⟨_,rfl⟩
  rw [←egx] at hG ⊢
  have eg1:gx≤w3.heap.size:=by omega
  have eg2:w3.heap.size≤gx:=by omega
  clear egx
  have OX_11:=hid (HOX.out.below (by omega) hb4)
  have C12:=hid (HCX.out.below hb4)
  have X13:Hid (Bk w4 gx (zC V bW V.nW bO V.nO bX V.nX bI V.nI)):=hG
  clear hG HOX HCX hb4
  have yx:=X13.out.1
  go_cut [12,13,14] (fun s t u wx=>∃ g l h a2W k2W a2O k2O a2X k2X a2I k2I,zP g 0=s∧zI TZ=t∧.bool TB=u∧Bk wx g (zD U a2W k2W a2O k2O a2X k2X a2I k2I)∧OwnC l h wx (.agg (zD U a2W k2W a2O k2O a2X k2X a2I k2I).toArray) U∧(w4.heap.size≤g∧g<wx.heap.size∧w4.heap.size≤l∧l≤h∧h≤wx.heap.size∧(g<l∨h≤g))∧Below w4.heap.size w4 wx)
  case first =>
   obtain ⟨yM0,yM1⟩:=M10.out.a2
   have hlM:w.heap.size<w4.heap.size:=M10.out.1
   obtain ⟨yX0,yX1,yX2,yX3,yX4,yX5⟩:=X13.out.a6
   have hlX:gx<w4.heap.size:=X13.out.1
   refine wp_region_held_drew (S:=fun w'=>Below (w4.heap.size) w4 w') (by kernel_rfl) ((Below.refl _ _).drew) ?_
   intro hHeld
   obtain ⟨X0,hX0⟩:∃ X,X=w4.drew:=⟨_,rfl⟩
   have hz0:w4.heap.size≤X0.heap.size:=by rw [hX0];exact Nat.le_refl _
   rw [←hX0] at hHeld ⊢
   clear hX0
   refine tkb 0 (.agg #[zI c,zI d]) rfl ?_
   try simp only [aT]
   refine tkb 2 (.agg (zC V bW V.nW bO V.nO bX V.nX bI V.nI).toArray) rfl ?_
   try simp only [aT]
   refine tkl 3 (.agg (zR R).toArray) rfl ?_ ?_
   ·intro wx hSw;obtain ⟨hcS,hfS⟩:=bcellN hSw;have hl:=load36_bk (Q10.out.below hSw) rfl;go_simp
   try simp only [aT]
   refine rdy [1,10] ?_
   refine (AllReadyH.cons rfl (fun K hK=>?_) (AllReadyH.cons rfl (fun K hK=>?_) AllReadyH.nil))
   ·go_simp
    go_wp2_with fail
    refine (toMap _ _ _).mono ?_
    rintro e xm ⟨rfl,hxm⟩
    have hsz_xm:=hxm.size
    refine hK.out _ _ (bthenN hHeld (by omega) hxm) (fun hNew=>?_)
    clear hK K hHeld
    have hHeld:=hNew
    clear hNew
    try simp only [aT]
    refine rdy [4,10] ?_
    refine (AllReadyH.cons rfl (fun K hK=>?_) (AllReadyH.cons rfl (fun K hK=>?_) AllReadyH.nil))
    ·go_simp
     go_wp2_with fail
     refine (toRec _ _ _ _ _ _ _ _ _ _ _ _ _ _ _ _ _ ).mono ?_
     rintro e xp ⟨rfl,hxp⟩
     have hsz_xp:=hxp.size
     refine hK.out _ _ (bthenN hHeld (by omega) hxp) (fun hNew=>?_)
     clear hK K hHeld
     have hHeld:=hNew
     clear hNew
     try simp only [aT]
     refine rdy [5,10] ?_
     refine (AllReadyH.cons rfl (fun K hK=>?_) (AllReadyH.cons rfl (fun K hK=>?_) AllReadyH.nil))
     ·go_simp
      go_wp2_with fail
      refine (logApply_impl c d _ V _ R hwR.out HV.out hwf.out _ (((bthen B10.out hHeld).cell (p:=(zA 0 0)) hpos).trans hg0.out) (C12.out.below hHeld)).mono ?_
      rintro e xg ⟨⟨u,tz,tt,rfl,hz,ht,hO⟩,hxg⟩
      subst ht
      subst hz
      rw [EU.out] at hO
      rw [ET.out,EZ.out]
      obtain ⟨a2W,k2W,a2O,k2O,a2X,k2X,a2I,k2I,rfl,_,_,_,_⟩:=hO.at
      obtain ⟨lg,elg⟩:∃ l,l=xp.heap.size:=⟨_,rfl⟩
      obtain ⟨hg,ehg⟩:∃ l,l=xg.heap.size:=⟨_,rfl⟩
      rw [←elg,←ehg] at hO
      have elg1:lg≤xp.heap.size:=by omega
      have elg2:xp.heap.size≤lg:=by omega
      have ehg1:hg≤xg.heap.size:=by omega
      have ehg2:xg.heap.size≤hg:=by omega
      clear elg ehg
      have hsz_xg:=hxg.size
      refine hK.out _ _ (bthenN hHeld (by omega) hxg) (fun hNew=>?_)
      clear hK K hHeld
      have hHeld:=hNew
      clear hNew
      try simp only [aT]
      refine tkb 6 (.tuple #[.agg (zD U a2W k2W a2O k2O a2X k2X a2I k2I).toArray,zI TZ,.bool TB]) rfl ?_
      try simp only [aT]
      refine tkb 7 (.agg (zD U a2W k2W a2O k2O a2X k2X a2I k2I).toArray) rfl ?_
      try simp only [aT]
      refine tkb 8 (zI TZ) rfl ?_
      try simp only [aT]
      refine tkb 9 (.bool TB) rfl ?_
      try simp only [aT]
      refine rd1 10 rfl fun K hK=>?_
      go_simp
      obtain ⟨XC,eA⟩:∃ X,X=xg.alloc (.cells zN.toArray 41):=⟨_,rfl⟩
      rw [←eA]
      have hbA:Below xg.heap.size xg XC:=by rw [eA];exact (Below.refl _ _).alloc (Nat.le_refl _) _
      have hZC:Bk XC xg.heap.size zN:=by rw [eA];exact bk_new xg 41 zN
      have hzAC1:XC.heap.size≤xg.heap.size+1:=by rw [eA];simp
      have hzAC2:xg.heap.size+1≤XC.heap.size:=by rw [eA];simp
      clear eA
      replace hO:=hO.below (by omega) hbA
      have hsz_XC:=hbA.size
      refine hK.out _ _ (bthenN hHeld (by omega) hbA) (fun hNew=>?_)
      clear hK K hHeld
      have hHeld:=hNew
      clear hNew
      try simp only [aT]
      clear hbA
      obtain ⟨C,eC⟩:∃ g,g=xg.heap.size:=⟨_,rfl⟩
      rw [←eC] at hZC ⊢
      have eC1:C≤xg.heap.size:=by omega
      have eC2:xg.heap.size≤C:=by omega
      clear eC
      refine rd1 11 rfl fun K hK=>?_
      obtain ⟨r0,r1,r2,r3,r4,r5⟩:=hZC.a6
      obtain ⟨f0,f1,f2,f3,f4,f5⟩:=hZC.f6
      have lZC:=hZC.1
      have hkC:w4.heap.size≤C:=by omega
      go_simp
      obtain ⟨XSC,eS⟩:∃ X,X=((((((XC.setCell (zA C 0) (zI U.c)).setCell (zA C 1) (.slice a2W U.nW k2W)).setCell (zA C 2) (zI U.g)).setCell (zA C 3) (.slice a2O U.nO k2O)).setCell (zA C 4) (.slice a2X U.nX k2X)).setCell (zA C 5) (.slice a2I U.nI k2I)):=⟨_,rfl⟩
      rw [←eS]
      have hPC:Bk XSC C (zD U a2W k2W a2O k2O a2X k2X a2I k2I):=by rw [eS];exact bk_put (l:=(zD U a2W k2W a2O k2O a2X k2X a2I k2I)) hZC rfl
      have hzC1:XSC.heap.size≤XC.heap.size:=by rw [eS];exact Nat.le_of_eq (size_put C (zD U a2W k2W a2O k2O a2X k2X a2I k2I) 0 XC)
      have hzC2:XC.heap.size≤XSC.heap.size:=by rw [eS];exact Nat.le_of_eq (size_put C (zD U a2W k2W a2O k2O a2X k2X a2I k2I) 0 XC).symm
      have hmC:∀ b,¬ b=C→Sm XC XSC b:=by rw [eS];exact fun b hb=>sm_put hb (zD U a2W k2W a2O k2O a2X k2X a2I k2I) 0 XC
      have hBC:Below (w4.heap.size) w4 XSC:=by rw [eS];exact below_put hkC (zD U a2W k2W a2O k2O a2X k2X a2I k2I) 0 hHeld
      clear eS r0 f0 r1 f1 r2 f2 r3 f3 r4 f4 r5 f5
      replace hO:=hO.sm hzC2 (fun b q1 q2=>hmC b (by omega))
      refine hK.out _ _ hBC (fun hNew=>?_)
      clear hK K hHeld
      have hHeld:=hNew
      clear hNew
      try simp only [aT]
      refine tkb 12 (zI TZ) rfl ?_
      try simp only [aT]
      refine tkb 13 (.bool TB) rfl ?_
      try simp only [aT]
      refine wpAnyH_done (by kernel_rfl) ?_ _
      go_wp2
      go_meet
      case rel=>exact ⟨C,lg,hg,a2W,k2W,a2O,k2O,a2X,k2X,a2I,k2I,rfl,rfl,rfl,hPC,hO,⟨by omega,hPC.1,by omega,by omega,by omega,by omega⟩,hHeld⟩
     ·go_simp
      obtain ⟨XC,eA⟩:∃ X,X=xp.alloc (.cells zN.toArray 41):=⟨_,rfl⟩
      rw [←eA]
      have hbA:Below xp.heap.size xp XC:=by rw [eA];exact (Below.refl _ _).alloc (Nat.le_refl _) _
      have hZC:Bk XC xp.heap.size zN:=by rw [eA];exact bk_new xp 41 zN
      have hzAC1:XC.heap.size≤xp.heap.size+1:=by rw [eA];simp
      have hzAC2:xp.heap.size+1≤XC.heap.size:=by rw [eA];simp
      clear eA
      have hsz_XC:=hbA.size
      refine hK.out _ _ (bthenN hHeld (by omega) hbA) (fun hNew=>?_)
      clear hK K hHeld
      have hHeld:=hNew
      clear hNew
      try simp only [aT]
      clear hbA
      obtain ⟨C,eC⟩:∃ g,g=xp.heap.size:=⟨_,rfl⟩
      rw [←eC] at hZC ⊢
      have eC1:C≤xp.heap.size:=by omega
      have eC2:xp.heap.size≤C:=by omega
      clear eC
      refine rd1 5 rfl fun K hK=>?_
      go_simp
      go_wp2_with fail
      refine (logApply_impl c d _ V _ R hwR.out HV.out hwf.out _ (((bthen B10.out hHeld).cell (p:=(zA 0 0)) hpos).trans hg0.out) (C12.out.below hHeld)).mono ?_
      rintro e xg ⟨⟨u,tz,tt,rfl,hz,ht,hO⟩,hxg⟩
      subst ht
      subst hz
      rw [EU.out] at hO
      rw [ET.out,EZ.out]
      obtain ⟨a2W,k2W,a2O,k2O,a2X,k2X,a2I,k2I,rfl,_,_,_,_⟩:=hO.at
      obtain ⟨lg,elg⟩:∃ l,l=XC.heap.size:=⟨_,rfl⟩
      obtain ⟨hg,ehg⟩:∃ l,l=xg.heap.size:=⟨_,rfl⟩
      rw [←elg,←ehg] at hO
      have elg1:lg≤XC.heap.size:=by omega
      have elg2:XC.heap.size≤lg:=by omega
      have ehg1:hg≤xg.heap.size:=by omega
      have ehg2:xg.heap.size≤hg:=by omega
      clear elg ehg
      replace hZC:=hZC.below hxg
      have hsz_xg:=hxg.size
      refine hK.out _ _ (bthenN hHeld (by omega) hxg) (fun hNew=>?_)
      clear hK K hHeld
      have hHeld:=hNew
      clear hNew
      try simp only [aT]
      refine tkb 6 (.tuple #[.agg (zD U a2W k2W a2O k2O a2X k2X a2I k2I).toArray,zI TZ,.bool TB]) rfl ?_
      try simp only [aT]
      refine tkb 7 (.agg (zD U a2W k2W a2O k2O a2X k2X a2I k2I).toArray) rfl ?_
      try simp only [aT]
      refine tkb 8 (zI TZ) rfl ?_
      try simp only [aT]
      refine tkb 9 (.bool TB) rfl ?_
      try simp only [aT]
      refine rd1 11 rfl fun K hK=>?_
      obtain ⟨r0,r1,r2,r3,r4,r5⟩:=hZC.a6
      obtain ⟨f0,f1,f2,f3,f4,f5⟩:=hZC.f6
      have lZC:=hZC.1
      have hkC:w4.heap.size≤C:=by omega
      go_simp
      obtain ⟨XSC,eS⟩:∃ X,X=((((((xg.setCell (zA C 0) (zI U.c)).setCell (zA C 1) (.slice a2W U.nW k2W)).setCell (zA C 2) (zI U.g)).setCell (zA C 3) (.slice a2O U.nO k2O)).setCell (zA C 4) (.slice a2X U.nX k2X)).setCell (zA C 5) (.slice a2I U.nI k2I)):=⟨_,rfl⟩
      rw [←eS]
      have hPC:Bk XSC C (zD U a2W k2W a2O k2O a2X k2X a2I k2I):=by rw [eS];exact bk_put (l:=(zD U a2W k2W a2O k2O a2X k2X a2I k2I)) hZC rfl
      have hzC1:XSC.heap.size≤xg.heap.size:=by rw [eS];exact Nat.le_of_eq (size_put C (zD U a2W k2W a2O k2O a2X k2X a2I k2I) 0 xg)
      have hzC2:xg.heap.size≤XSC.heap.size:=by rw [eS];exact Nat.le_of_eq (size_put C (zD U a2W k2W a2O k2O a2X k2X a2I k2I) 0 xg).symm
      have hmC:∀ b,¬ b=C→Sm xg XSC b:=by rw [eS];exact fun b hb=>sm_put hb (zD U a2W k2W a2O k2O a2X k2X a2I k2I) 0 xg
      have hBC:Below (w4.heap.size) w4 XSC:=by rw [eS];exact below_put hkC (zD U a2W k2W a2O k2O a2X k2X a2I k2I) 0 hHeld
      clear eS r0 f0 r1 f1 r2 f2 r3 f3 r4 f4 r5 f5
      replace hO:=hO.sm hzC2 (fun b q1 q2=>hmC b (by omega))
      refine hK.out _ _ hBC (fun hNew=>?_)
      clear hK K hHeld
      have hHeld:=hNew
      clear hNew
      try simp only [aT]
      refine tkb 12 (zI TZ) rfl ?_
      try simp only [aT]
      refine tkb 13 (.bool TB) rfl ?_
      try simp only [aT]
      refine wpAnyH_done (by kernel_rfl) ?_ _
      go_wp2
      go_meet
      case rel=>exact ⟨C,lg,hg,a2W,k2W,a2O,k2O,a2X,k2X,a2I,k2I,rfl,rfl,rfl,hPC,hO,⟨by omega,hPC.1,by omega,by omega,by omega,by omega⟩,hHeld⟩
    ·go_simp
     obtain ⟨XC,eA⟩:∃ X,X=xm.alloc (.cells zN.toArray 41):=⟨_,rfl⟩
     rw [←eA]
     have hbA:Below xm.heap.size xm XC:=by rw [eA];exact (Below.refl _ _).alloc (Nat.le_refl _) _
     have hZC:Bk XC xm.heap.size zN:=by rw [eA];exact bk_new xm 41 zN
     have hzAC1:XC.heap.size≤xm.heap.size+1:=by rw [eA];simp
     have hzAC2:xm.heap.size+1≤XC.heap.size:=by rw [eA];simp
     clear eA
     have hsz_XC:=hbA.size
     refine hK.out _ _ (bthenN hHeld (by omega) hbA) (fun hNew=>?_)
     clear hK K hHeld
     have hHeld:=hNew
     clear hNew
     try simp only [aT]
     clear hbA
     obtain ⟨C,eC⟩:∃ g,g=xm.heap.size:=⟨_,rfl⟩
     rw [←eC] at hZC ⊢
     have eC1:C≤xm.heap.size:=by omega
     have eC2:xm.heap.size≤C:=by omega
     clear eC
     refine rd1 4 rfl fun K hK=>?_
     go_simp
     go_wp2_with fail
     refine (toRec _ _ _ _ _ _ _ _ _ _ _ _ _ _ _ _ _ ).mono ?_
     rintro e xp ⟨rfl,hxp⟩
     replace hZC:=hZC.below hxp
     have hsz_xp:=hxp.size
     refine hK.out _ _ (bthenN hHeld (by omega) hxp) (fun hNew=>?_)
     clear hK K hHeld
     have hHeld:=hNew
     clear hNew
     try simp only [aT]
     refine rd1 5 rfl fun K hK=>?_
     go_simp
     go_wp2_with fail
     refine (logApply_impl c d _ V _ R hwR.out HV.out hwf.out _ (((bthen B10.out hHeld).cell (p:=(zA 0 0)) hpos).trans hg0.out) (C12.out.below hHeld)).mono ?_
     rintro e xg ⟨⟨u,tz,tt,rfl,hz,ht,hO⟩,hxg⟩
     subst ht
     subst hz
     rw [EU.out] at hO
     rw [ET.out,EZ.out]
     obtain ⟨a2W,k2W,a2O,k2O,a2X,k2X,a2I,k2I,rfl,_,_,_,_⟩:=hO.at
     obtain ⟨lg,elg⟩:∃ l,l=xp.heap.size:=⟨_,rfl⟩
     obtain ⟨hg,ehg⟩:∃ l,l=xg.heap.size:=⟨_,rfl⟩
     rw [←elg,←ehg] at hO
     have elg1:lg≤xp.heap.size:=by omega
     have elg2:xp.heap.size≤lg:=by omega
     have ehg1:hg≤xg.heap.size:=by omega
     have ehg2:xg.heap.size≤hg:=by omega
     clear elg ehg
     replace hZC:=hZC.below hxg
     have hsz_xg:=hxg.size
     refine hK.out _ _ (bthenN hHeld (by omega) hxg) (fun hNew=>?_)
     clear hK K hHeld
     have hHeld:=hNew
     clear hNew
     try simp only [aT]
     refine tkb 6 (.tuple #[.agg (zD U a2W k2W a2O k2O a2X k2X a2I k2I).toArray,zI TZ,.bool TB]) rfl ?_
     try simp only [aT]
     refine tkb 7 (.agg (zD U a2W k2W a2O k2O a2X k2X a2I k2I).toArray) rfl ?_
     try simp only [aT]
     refine tkb 8 (zI TZ) rfl ?_
     try simp only [aT]
     refine tkb 9 (.bool TB) rfl ?_
     try simp only [aT]
     refine rd1 11 rfl fun K hK=>?_
     obtain ⟨r0,r1,r2,r3,r4,r5⟩:=hZC.a6
     obtain ⟨f0,f1,f2,f3,f4,f5⟩:=hZC.f6
     have lZC:=hZC.1
     have hkC:w4.heap.size≤C:=by omega
     go_simp
     obtain ⟨XSC,eS⟩:∃ X,X=((((((xg.setCell (zA C 0) (zI U.c)).setCell (zA C 1) (.slice a2W U.nW k2W)).setCell (zA C 2) (zI U.g)).setCell (zA C 3) (.slice a2O U.nO k2O)).setCell (zA C 4) (.slice a2X U.nX k2X)).setCell (zA C 5) (.slice a2I U.nI k2I)):=⟨_,rfl⟩
     rw [←eS]
     have hPC:Bk XSC C (zD U a2W k2W a2O k2O a2X k2X a2I k2I):=by rw [eS];exact bk_put (l:=(zD U a2W k2W a2O k2O a2X k2X a2I k2I)) hZC rfl
     have hzC1:XSC.heap.size≤xg.heap.size:=by rw [eS];exact Nat.le_of_eq (size_put C (zD U a2W k2W a2O k2O a2X k2X a2I k2I) 0 xg)
     have hzC2:xg.heap.size≤XSC.heap.size:=by rw [eS];exact Nat.le_of_eq (size_put C (zD U a2W k2W a2O k2O a2X k2X a2I k2I) 0 xg).symm
     have hmC:∀ b,¬ b=C→Sm xg XSC b:=by rw [eS];exact fun b hb=>sm_put hb (zD U a2W k2W a2O k2O a2X k2X a2I k2I) 0 xg
     have hBC:Below (w4.heap.size) w4 XSC:=by rw [eS];exact below_put hkC (zD U a2W k2W a2O k2O a2X k2X a2I k2I) 0 hHeld
     clear eS r0 f0 r1 f1 r2 f2 r3 f3 r4 f4 r5 f5
     replace hO:=hO.sm hzC2 (fun b q1 q2=>hmC b (by omega))
     refine hK.out _ _ hBC (fun hNew=>?_)
     clear hK K hHeld
     have hHeld:=hNew
     clear hNew
     try simp only [aT]
     refine tkb 12 (zI TZ) rfl ?_
     try simp only [aT]
     refine tkb 13 (.bool TB) rfl ?_
     try simp only [aT]
     refine wpAnyH_done (by kernel_rfl) ?_ _
     go_wp2
     go_meet
     case rel=>exact ⟨C,lg,hg,a2W,k2W,a2O,k2O,a2X,k2X,a2I,k2I,rfl,rfl,rfl,hPC,hO,⟨by omega,hPC.1,by omega,by omega,by omega,by omega⟩,hHeld⟩
   ·go_simp
    obtain ⟨XC,eA⟩:∃ X,X=X0.alloc (.cells zN.toArray 41):=⟨_,rfl⟩
    rw [←eA]
    have hbA:Below X0.heap.size X0 XC:=by rw [eA];exact (Below.refl _ _).alloc (Nat.le_refl _) _
    have hZC:Bk XC X0.heap.size zN:=by rw [eA];exact bk_new X0 41 zN
    have hzAC1:XC.heap.size≤X0.heap.size+1:=by rw [eA];simp
    have hzAC2:X0.heap.size+1≤XC.heap.size:=by rw [eA];simp
    clear eA
    have hsz_XC:=hbA.size
    refine hK.out _ _ (bthenN hHeld (by omega) hbA) (fun hNew=>?_)
    clear hK K hHeld
    have hHeld:=hNew
    clear hNew
    try simp only [aT]
    clear hbA
    obtain ⟨C,eC⟩:∃ g,g=X0.heap.size:=⟨_,rfl⟩
    rw [←eC] at hZC ⊢
    have eC1:C≤X0.heap.size:=by omega
    have eC2:X0.heap.size≤C:=by omega
    clear eC
    refine rd1 1 rfl fun K hK=>?_
    go_simp
    go_wp2_with fail
    refine (toMap _ _ _).mono ?_
    rintro e xm ⟨rfl,hxm⟩
    replace hZC:=hZC.below hxm
    have hsz_xm:=hxm.size
    refine hK.out _ _ (bthenN hHeld (by omega) hxm) (fun hNew=>?_)
    clear hK K hHeld
    have hHeld:=hNew
    clear hNew
    try simp only [aT]
    refine rd1 4 rfl fun K hK=>?_
    go_simp
    go_wp2_with fail
    refine (toRec _ _ _ _ _ _ _ _ _ _ _ _ _ _ _ _ _ ).mono ?_
    rintro e xp ⟨rfl,hxp⟩
    replace hZC:=hZC.below hxp
    have hsz_xp:=hxp.size
    refine hK.out _ _ (bthenN hHeld (by omega) hxp) (fun hNew=>?_)
    clear hK K hHeld
    have hHeld:=hNew
    clear hNew
    try simp only [aT]
    refine rd1 5 rfl fun K hK=>?_
    go_simp
    go_wp2_with fail
    refine (logApply_impl c d _ V _ R hwR.out HV.out hwf.out _ (((bthen B10.out hHeld).cell (p:=(zA 0 0)) hpos).trans hg0.out) (C12.out.below hHeld)).mono ?_
    rintro e xg ⟨⟨u,tz,tt,rfl,hz,ht,hO⟩,hxg⟩
    subst ht
    subst hz
    rw [EU.out] at hO
    rw [ET.out,EZ.out]
    obtain ⟨a2W,k2W,a2O,k2O,a2X,k2X,a2I,k2I,rfl,_,_,_,_⟩:=hO.at
    obtain ⟨lg,elg⟩:∃ l,l=xp.heap.size:=⟨_,rfl⟩
    obtain ⟨hg,ehg⟩:∃ l,l=xg.heap.size:=⟨_,rfl⟩
    rw [←elg,←ehg] at hO
    have elg1:lg≤xp.heap.size:=by omega
    have elg2:xp.heap.size≤lg:=by omega
    have ehg1:hg≤xg.heap.size:=by omega
    have ehg2:xg.heap.size≤hg:=by omega
    clear elg ehg
    replace hZC:=hZC.below hxg
    have hsz_xg:=hxg.size
    refine hK.out _ _ (bthenN hHeld (by omega) hxg) (fun hNew=>?_)
    clear hK K hHeld
    have hHeld:=hNew
    clear hNew
    try simp only [aT]
    refine tkb 6 (.tuple #[.agg (zD U a2W k2W a2O k2O a2X k2X a2I k2I).toArray,zI TZ,.bool TB]) rfl ?_
    try simp only [aT]
    refine tkb 7 (.agg (zD U a2W k2W a2O k2O a2X k2X a2I k2I).toArray) rfl ?_
    try simp only [aT]
    refine tkb 8 (zI TZ) rfl ?_
    try simp only [aT]
    refine tkb 9 (.bool TB) rfl ?_
    try simp only [aT]
    refine rd1 11 rfl fun K hK=>?_
    obtain ⟨r0,r1,r2,r3,r4,r5⟩:=hZC.a6
    obtain ⟨f0,f1,f2,f3,f4,f5⟩:=hZC.f6
    have lZC:=hZC.1
    have hkC:w4.heap.size≤C:=by omega
    go_simp
    obtain ⟨XSC,eS⟩:∃ X,X=((((((xg.setCell (zA C 0) (zI U.c)).setCell (zA C 1) (.slice a2W U.nW k2W)).setCell (zA C 2) (zI U.g)).setCell (zA C 3) (.slice a2O U.nO k2O)).setCell (zA C 4) (.slice a2X U.nX k2X)).setCell (zA C 5) (.slice a2I U.nI k2I)):=⟨_,rfl⟩
    rw [←eS]
    have hPC:Bk XSC C (zD U a2W k2W a2O k2O a2X k2X a2I k2I):=by rw [eS];exact bk_put (l:=(zD U a2W k2W a2O k2O a2X k2X a2I k2I)) hZC rfl
    have hzC1:XSC.heap.size≤xg.heap.size:=by rw [eS];exact Nat.le_of_eq (size_put C (zD U a2W k2W a2O k2O a2X k2X a2I k2I) 0 xg)
    have hzC2:xg.heap.size≤XSC.heap.size:=by rw [eS];exact Nat.le_of_eq (size_put C (zD U a2W k2W a2O k2O a2X k2X a2I k2I) 0 xg).symm
    have hmC:∀ b,¬ b=C→Sm xg XSC b:=by rw [eS];exact fun b hb=>sm_put hb (zD U a2W k2W a2O k2O a2X k2X a2I k2I) 0 xg
    have hBC:Below (w4.heap.size) w4 XSC:=by rw [eS];exact below_put hkC (zD U a2W k2W a2O k2O a2X k2X a2I k2I) 0 hHeld
    clear eS r0 f0 r1 f1 r2 f2 r3 f3 r4 f4 r5 f5
    replace hO:=hO.sm hzC2 (fun b q1 q2=>hmC b (by omega))
    refine hK.out _ _ hBC (fun hNew=>?_)
    clear hK K hHeld
    have hHeld:=hNew
    clear hNew
    try simp only [aT]
    refine tkb 12 (zI TZ) rfl ?_
    try simp only [aT]
    refine tkb 13 (.bool TB) rfl ?_
    try simp only [aT]
    refine wpAnyH_done (by kernel_rfl) ?_ _
    go_wp2
    go_meet
    case rel=>exact ⟨C,lg,hg,a2W,k2W,a2O,k2O,a2X,k2X,a2I,k2I,rfl,rfl,rfl,hPC,hO,⟨by omega,hPC.1,by omega,by omega,by omega,by omega⟩,hHeld⟩
  case rest =>
   obtain ⟨w5,hwn⟩:∃ wn,wn=wc:=⟨_,rfl⟩
   subst hwn
   obtain ⟨g2,l2,h2,a2W,k2W,a2O,k2O,a2X,k2X,a2I,k2I,rfl,rfl,rfl,hG,hO,⟨c21,c22,c23,c24,c25,c26⟩,hb⟩:=hcut
   have y_w5:w4.heap.size≤w5.heap.size:=hb.size
   have B14:=hid (bthen B10.out hb)
   have M14:=hid (M10.out.below hb)
   have A14:=hid (A10.out.below hb)
   have Q14:=hid (Q10.out.below hb)
   have O1_14:=hid (O1_10.out.below (by omega) hb)
   have G1_14:=hid (G1_10.out.below hb)
   have OX_14:=hid (OX_11.out.below (by omega) hb)
   have C14:=hid (C12.out.below hb)
   have X14:=hid (X13.out.below hb)
   clear B10 M10 A10 Q10 O1_10 G1_10 OX_11 C12 X13
   have O2_15:Hid (OwnC l2 h2 w5 (.agg (zD U a2W k2W a2O k2O a2X k2X a2I k2I).toArray) U):=hO
   have G2_16:Hid (Bk w5 g2 (zD U a2W k2W a2O k2O a2X k2X a2I k2I)):=hG
   clear hO hG hb
   clear C14
   obtain ⟨yG1_0,yG1_1,yG1_2,yG1_3,yG1_4,yG1_5⟩:=G1_14.out.a6
   have hlG1_:g1<w5.heap.size:=G1_14.out.1
   obtain ⟨yG2_0,yG2_1,yG2_2,yG2_3,yG2_4,yG2_5⟩:=G2_16.out.a6
   have hlG2_:g2<w5.heap.size:=G2_16.out.1
   go_wp2_with fail
   refine (eqCell _ _ U (HU.out.1.more (by decide)) _ (O2_15.out.at) (O1_14.out.at)).mono ?_
   rintro e w6 ⟨rfl,hb⟩
   clear yG1_0 yG1_1 yG1_2 yG1_3 yG1_4 yG1_5 hlG1_ yG2_0 yG2_1 yG2_2 yG2_3 yG2_4 yG2_5 hlG2_
   have y_w6:w5.heap.size≤w6.heap.size:=hb.size
   have B17:=hid (bthen B14.out hb)
   have M17:=hid (M14.out.below hb)
   have A17:=hid (A14.out.below hb)
   have Q17:=hid (Q14.out.below hb)
   have O1_17:=hid (O1_14.out.below (by omega) hb)
   have G1_17:=hid (G1_14.out.below hb)
   have OX_17:=hid (OX_14.out.below (by omega) hb)
   have X17:=hid (X14.out.below hb)
   have O2_17:=hid (O2_15.out.below (by omega) hb)
   have G2_17:=hid (G2_16.out.below hb)
   clear B14 M14 A14 Q14 O1_14 G1_14 OX_14 X14 O2_15 G2_16
   clear hb
   go_upto_region 10 with fail
   obtain ⟨yX0,yX1,yX2,yX3,yX4,yX5⟩:=X17.out.a6
   have hlX:gx<w6.heap.size:=X17.out.1
   obtain ⟨yA0,yA1,yA2,yA3,yA4,yA5⟩:=A17.out.a6
   have hlA:(w.heap.size+1)<w6.heap.size:=A17.out.1
   refine wp_region_held_drew (S:=fun w'=>(∀ b o,b<w6.heap.size→w'.cell? (zA b o)=w6.cell? (zA b o))∧w6.heap.size≤w'.heap.size) (by kernel_rfl) ⟨fun _ _ _=>rfl,Nat.le_refl _⟩ ?_
   intro hHeld
   refine tka 0 (.agg (zC V bW V.nW bO V.nO bX V.nX bI V.nI).toArray) rfl ?_
   try simp only [aT]
   refine tka 1 (.agg (zD V aW kW aO kO aX kX aI kI).toArray) rfl ?_
   try simp only [aT]
   refine rd1 2 rfl fun K hK=>?_
   go_simp
   go_wp2_with fail
   refine (toCell _ V HV.out _ (cellAt_below H0.out (bthen B17.out (by repeat (first | exact Below.refl _ _ | refine bthen ?_ (by assumption) | apply Below.drew))))).mono ?_
   rintro e t1 ⟨⟨v4,rfl,hC3⟩,ht1⟩
   refine hK.out _ _ (keepS (by assumption) ht1) (fun hNew=>?_)
   clear hK K hHeld
   have hHeld:=hNew
   clear hNew
   try simp only [aT]
   refine rd1 3 rfl fun K hK=>?_
   go_simp
   go_wp2_with fail
   refine (eqCell _ _ V (HV.out.more (by decide)) _ (cellAt_below OX_17.out.at (by repeat (first | exact Below.refl _ _ | refine bthen ?_ (by assumption) | apply Below.drew))) hC3.at).mono ?_
   rintro e t2 ⟨rfl,ht2⟩
   refine hK.out _ _ (keepS (by assumption) ht2) (fun hNew=>?_)
   clear hK K hHeld
   have hHeld:=hNew
   clear hNew
   try simp only [aT]
   refine tka 4 (.bool false) rfl ?_
   try simp only [aT]
   refine wpAnyH_done (by kernel_rfl) ?_ _
   clear hHeld
   have hb7:Below w6.heap.size w6 t2:=by repeat (first | exact Below.refl _ _ | refine bthen ?_ (by assumption) | apply Below.drew)
   generalize t2=w7 at *
   clear yX0 yX1 yX2 yX3 yX4 yX5 hlX yA0 yA1 yA2 yA3 yA4 yA5 hlA
   have y_w7:w6.heap.size≤w7.heap.size:=hb7.size
   have B18:=hid (bthen B17.out hb7)
   have M18:=hid (M17.out.below hb7)
   have A18:=hid (A17.out.below hb7)
   have Q18:=hid (Q17.out.below hb7)
   have O1_18:=hid (O1_17.out.below (by omega) hb7)
   have G1_18:=hid (G1_17.out.below hb7)
   have OX_18:=hid (OX_17.out.below (by omega) hb7)
   have X18:=hid (X17.out.below hb7)
   have O2_18:=hid (O2_17.out.below (by omega) hb7)
   have G2_18:=hid (G2_17.out.below hb7)
   clear B17 M17 A17 Q17 O1_17 G1_17 OX_17 X17 O2_17 G2_17
   clear hb7 ht1 ht2 hC3
   obtain ⟨yX0,yX1,yX2,yX3,yX4,yX5⟩:=X18.out.a6
   have hlX:gx<w7.heap.size:=X18.out.1
   go_wp2_with fail
   clear yX0 yX1 yX2 yX3 yX4 yX5 hlX
   refine (markC lx hx _ V HF.out _ (by omega) (by omega) OX_18.out).mono ?_
   rintro e w8 ⟨rfl,hO,hz,hsm,hbl⟩
   have y_w8:w7.heap.size≤w8.heap.size:=hz
   have B19:Hid (Below w.heap.size w w8):=B18.out.trans (hbl.mono (by omega))
   have M19:=hid (M18.out.sm hz (hsm (w.heap.size) (by omega) (by omega)))
   have A19:=hid (A18.out.sm hz (hsm ((w.heap.size+1)) (by omega) (by omega)))
   have Q19:=hid (Q18.out.sm hz (hsm ((w.heap.size+1+1)) (by omega) (by omega)))
   have O1_19:=hid (O1_18.out.sm hz (fun b q1 q2=>hsm b (by omega) (by omega)))
   have G1_19:=hid (G1_18.out.sm hz (hsm (g1) (by omega) (by omega)))
   have X19:=hid (X18.out.sm hz (hsm (gx) (by omega) (by omega)))
   have O2_19:=hid (O2_18.out.sm hz (fun b q1 q2=>hsm b (by omega) (by omega)))
   have G2_19:=hid (G2_18.out.sm hz (hsm (g2) (by omega) (by omega)))
   clear B18 M18 A18 Q18 O1_18 G1_18 X18 O2_18 G2_18
   clear hO hz hsm hbl OX_18
   have nn8:¬ ((V.s4:Nat):Int)<0:=by omega
   obtain ⟨yG1_0,yG1_1,yG1_2,yG1_3,yG1_4,yG1_5⟩:=G1_19.out.a6
   have hlG1_:g1<w8.heap.size:=G1_19.out.1
   obtain ⟨yG2_0,yG2_1,yG2_2,yG2_3,yG2_4,yG2_5⟩:=G2_19.out.a6
   have hlG2_:g2<w8.heap.size:=G2_19.out.1
   go_wp2_with fail
   refine (eqCell _ _ U (HU.out.1.more (by decide)) _ (O2_19.out.at) (O1_19.out.at)).mono ?_
   rintro e w9 ⟨rfl,hb⟩
   clear yG1_0 yG1_1 yG1_2 yG1_3 yG1_4 yG1_5 hlG1_ yG2_0 yG2_1 yG2_2 yG2_3 yG2_4 yG2_5 hlG2_
   have y_w9:w8.heap.size≤w9.heap.size:=hb.size
   have B20:=hid (bthen B19.out hb)
   have M20:=hid (M19.out.below hb)
   have A20:=hid (A19.out.below hb)
   have Q20:=hid (Q19.out.below hb)
   have O1_20:=hid (O1_19.out.below (by omega) hb)
   have G1_20:=hid (G1_19.out.below hb)
   have X20:=hid (X19.out.below hb)
   have O2_20:=hid (O2_19.out.below (by omega) hb)
   have G2_20:=hid (G2_19.out.below hb)
   clear B19 M19 A19 Q19 O1_19 G1_19 X19 O2_19 G2_19
   clear hb
   obtain ⟨yG2_0,yG2_1,yG2_2,yG2_3,yG2_4,yG2_5⟩:=G2_20.out.a6
   have hlG2_:g2<w9.heap.size:=G2_20.out.1
   go_wp2_with fail
   clear yG2_0 yG2_1 yG2_2 yG2_3 yG2_4 yG2_5 hlG2_
   refine (markC l2 h2 _ U HU.out.2 _ (by omega) (by omega) O2_20.out).mono ?_
   rintro e w10 ⟨rfl,hO,hz,hsm,hbl⟩
   have y_w10:w9.heap.size≤w10.heap.size:=hz
   have B21:Hid (Below w.heap.size w w10):=B20.out.trans (hbl.mono (by omega))
   have M21:=hid (M20.out.sm hz (hsm (w.heap.size) (by omega) (by omega)))
   have A21:=hid (A20.out.sm hz (hsm ((w.heap.size+1)) (by omega) (by omega)))
   have Q21:=hid (Q20.out.sm hz (hsm ((w.heap.size+1+1)) (by omega) (by omega)))
   have O1_21:=hid (O1_20.out.sm hz (fun b q1 q2=>hsm b (by omega) (by omega)))
   have G1_21:=hid (G1_20.out.sm hz (hsm (g1) (by omega) (by omega)))
   have X21:=hid (X20.out.sm hz (hsm (gx) (by omega) (by omega)))
   have G2_21:=hid (G2_20.out.sm hz (hsm (g2) (by omega) (by omega)))
   clear B20 M20 A20 Q20 O1_20 G1_20 X20 G2_20
   have O2_22:Hid (OwnC l2 h2 w10 (.agg (zD U a2W k2W a2O k2O a2X k2X a2I k2I).toArray) U.marked):=hO
   clear hO hz hsm hbl O2_20
   have nn10:¬ ((U.s4:Nat):Int)<0:=by omega
   obtain ⟨yG2_0,yG2_1,yG2_2,yG2_3,yG2_4,yG2_5⟩:=G2_21.out.a6
   have hlG2_:g2<w10.heap.size:=G2_21.out.1
   go_wp2_with fail
   refine (heldC l2 h2 _ U HU.out.2 _ (by omega) O2_22.out).mono ?_
   rintro e w11 ⟨rfl,hb⟩
   clear yG2_0 yG2_1 yG2_2 yG2_3 yG2_4 yG2_5 hlG2_
   have y_w11:w10.heap.size≤w11.heap.size:=hb.size
   have B23:=hid (bthen B21.out hb)
   have M23:=hid (M21.out.below hb)
   have A23:=hid (A21.out.below hb)
   have Q23:=hid (Q21.out.below hb)
   have O1_23:=hid (O1_21.out.below (by omega) hb)
   have G1_23:=hid (G1_21.out.below hb)
   have X23:=hid (X21.out.below hb)
   have G2_23:=hid (G2_21.out.below hb)
   have O2_23:=hid (O2_22.out.below (by omega) hb)
   clear B21 M21 A21 Q21 O1_21 G1_21 X21 G2_21 O2_22
   clear hb
   go_upto_region 24 with fail
   go_cut [18,19,20] (fun s t u wx=>∃ g l h a3W k3W a3O k3O a3X k3X a3I k3I,zP g 0=s∧zI TZ=t∧.bool TB=u∧Bk wx g (zD U a3W k3W a3O k3O a3X k3X a3I k3I)∧OwnC l h wx (.agg (zD U a3W k3W a3O k3O a3X k3X a3I k3I).toArray) U∧(w11.heap.size≤g∧g<wx.heap.size∧w11.heap.size≤l∧l≤h∧h≤wx.heap.size∧(g<l∨h≤g))∧Below w11.heap.size w11 wx)
   case first =>
    obtain ⟨yM0,yM1⟩:=M23.out.a2
    have hlM:w.heap.size<w11.heap.size:=M23.out.1
    obtain ⟨yA0,yA1,yA2,yA3,yA4,yA5⟩:=A23.out.a6
    have hlA:(w.heap.size+1)<w11.heap.size:=A23.out.1
    refine wp_region_held_drew (S:=fun w'=>Below (w11.heap.size) w11 w') (by kernel_rfl) ((Below.refl _ _).drew) ?_
    intro hHeld
    obtain ⟨X0,hX0⟩:∃ X,X=w11.drew:=⟨_,rfl⟩
    have hz0:w11.heap.size≤X0.heap.size:=by rw [hX0];exact Nat.le_refl _
    rw [←hX0] at hHeld ⊢
    clear hX0
    refine tkb 0 (.agg #[zI c,zI d]) rfl ?_
    try simp only [aT]
    refine tkb 2 (.agg (zD V aW kW aO kO aX kX aI kI).toArray) rfl ?_
    try simp only [aT]
    refine tkl 4 (.agg (zR R).toArray) rfl ?_ ?_
    ·intro wx hSw;obtain ⟨hcS,hfS⟩:=bcellN hSw;have hl:=load36_bk (Q23.out.below hSw) rfl;go_simp
    try simp only [aT]
    refine rdy [1,11] ?_
    refine (AllReadyH.cons rfl (fun K hK=>?_) (AllReadyH.cons rfl (fun K hK=>?_) AllReadyH.nil))
    ·go_simp
     go_wp2_with fail
     refine (toMap _ _ _).mono ?_
     rintro e xm ⟨rfl,hxm⟩
     have hsz_xm:=hxm.size
     refine hK.out _ _ (bthenN hHeld (by omega) hxm) (fun hNew=>?_)
     clear hK K hHeld
     have hHeld:=hNew
     clear hNew
     try simp only [aT]
     refine rdy [3,11] ?_
     refine (AllReadyH.cons rfl (fun K hK=>?_) (AllReadyH.cons rfl (fun K hK=>?_) AllReadyH.nil))
     ·go_simp
      go_wp2_with fail
      refine (toCell _ V HV.out _ (cellAt_below H0.out (bthen B23.out hHeld))).mono ?_
      rintro e xt ⟨⟨vt,rfl,hC⟩,hxt⟩
      have hsz_xt:=hxt.size
      refine hK.out _ _ (bthenN hHeld (by omega) hxt) (fun hNew=>?_)
      clear hK K hHeld
      have hHeld:=hNew
      clear hNew
      try simp only [aT]
      refine rdy [5,11] ?_
      refine (AllReadyH.cons rfl (fun K hK=>?_) (AllReadyH.cons rfl (fun K hK=>?_) AllReadyH.nil))
      ·go_simp
       go_wp2_with fail
       refine (toRec _ _ _ _ _ _ _ _ _ _ _ _ _ _ _ _ _ ).mono ?_
       rintro e xp ⟨rfl,hxp⟩
       replace hC:=hC.below hxp
       have hsz_xp:=hxp.size
       refine hK.out _ _ (bthenN hHeld (by omega) hxp) (fun hNew=>?_)
       clear hK K hHeld
       have hHeld:=hNew
       clear hNew
       try simp only [aT]
       refine rdy [6,11] ?_
       refine (AllReadyH.cons rfl (fun K hK=>?_) (AllReadyH.cons rfl (fun K hK=>?_) AllReadyH.nil))
       ·go_simp
        go_wp2_with fail
        refine (logApply_impl c d _ V _ R hwR.out HV.out hwf.out _ (((bthen B23.out hHeld).cell (p:=(zA 0 0)) hpos).trans hg0.out) hC).mono ?_
        rintro e xg ⟨⟨u,tz,tt,rfl,hz,ht,hO⟩,hxg⟩
        subst ht
        subst hz
        rw [EU.out] at hO
        rw [ET.out,EZ.out]
        obtain ⟨a3W,k3W,a3O,k3O,a3X,k3X,a3I,k3I,rfl,_,_,_,_⟩:=hO.at
        obtain ⟨lg,elg⟩:∃ l,l=xp.heap.size:=⟨_,rfl⟩
        obtain ⟨hg,ehg⟩:∃ l,l=xg.heap.size:=⟨_,rfl⟩
        rw [←elg,←ehg] at hO
        have elg1:lg≤xp.heap.size:=by omega
        have elg2:xp.heap.size≤lg:=by omega
        have ehg1:hg≤xg.heap.size:=by omega
        have ehg2:xg.heap.size≤hg:=by omega
        clear elg ehg
        have hsz_xg:=hxg.size
        refine hK.out _ _ (bthenN hHeld (by omega) hxg) (fun hNew=>?_)
        clear hK K hHeld
        have hHeld:=hNew
        clear hNew
        try simp only [aT]
        refine tkb 7 (.tuple #[.agg (zD U a3W k3W a3O k3O a3X k3X a3I k3I).toArray,zI TZ,.bool TB]) rfl ?_
        try simp only [aT]
        refine tkb 8 (.agg (zD U a3W k3W a3O k3O a3X k3X a3I k3I).toArray) rfl ?_
        try simp only [aT]
        refine tkb 9 (zI TZ) rfl ?_
        try simp only [aT]
        refine tkb 10 (.bool TB) rfl ?_
        try simp only [aT]
        refine rd1 11 rfl fun K hK=>?_
        go_simp
        obtain ⟨XC,eA⟩:∃ X,X=xg.alloc (.cells zN.toArray 41):=⟨_,rfl⟩
        rw [←eA]
        have hbA:Below xg.heap.size xg XC:=by rw [eA];exact (Below.refl _ _).alloc (Nat.le_refl _) _
        have hZC:Bk XC xg.heap.size zN:=by rw [eA];exact bk_new xg 41 zN
        have hzAC1:XC.heap.size≤xg.heap.size+1:=by rw [eA];simp
        have hzAC2:xg.heap.size+1≤XC.heap.size:=by rw [eA];simp
        clear eA
        replace hO:=hO.below (by omega) hbA
        have hsz_XC:=hbA.size
        refine hK.out _ _ (bthenN hHeld (by omega) hbA) (fun hNew=>?_)
        clear hK K hHeld
        have hHeld:=hNew
        clear hNew
        try simp only [aT]
        clear hbA
        obtain ⟨C,eC⟩:∃ g,g=xg.heap.size:=⟨_,rfl⟩
        rw [←eC] at hZC ⊢
        have eC1:C≤xg.heap.size:=by omega
        have eC2:xg.heap.size≤C:=by omega
        clear eC
        refine rd1 12 rfl fun K hK=>?_
        obtain ⟨r0,r1,r2,r3,r4,r5⟩:=hZC.a6
        obtain ⟨f0,f1,f2,f3,f4,f5⟩:=hZC.f6
        have lZC:=hZC.1
        have hkC:w11.heap.size≤C:=by omega
        go_simp
        obtain ⟨XSC,eS⟩:∃ X,X=((((((XC.setCell (zA C 0) (zI U.c)).setCell (zA C 1) (.slice a3W U.nW k3W)).setCell (zA C 2) (zI U.g)).setCell (zA C 3) (.slice a3O U.nO k3O)).setCell (zA C 4) (.slice a3X U.nX k3X)).setCell (zA C 5) (.slice a3I U.nI k3I)):=⟨_,rfl⟩
        rw [←eS]
        have hPC:Bk XSC C (zD U a3W k3W a3O k3O a3X k3X a3I k3I):=by rw [eS];exact bk_put (l:=(zD U a3W k3W a3O k3O a3X k3X a3I k3I)) hZC rfl
        have hzC1:XSC.heap.size≤XC.heap.size:=by rw [eS];exact Nat.le_of_eq (size_put C (zD U a3W k3W a3O k3O a3X k3X a3I k3I) 0 XC)
        have hzC2:XC.heap.size≤XSC.heap.size:=by rw [eS];exact Nat.le_of_eq (size_put C (zD U a3W k3W a3O k3O a3X k3X a3I k3I) 0 XC).symm
        have hmC:∀ b,¬ b=C→Sm XC XSC b:=by rw [eS];exact fun b hb=>sm_put hb (zD U a3W k3W a3O k3O a3X k3X a3I k3I) 0 XC
        have hBC:Below (w11.heap.size) w11 XSC:=by rw [eS];exact below_put hkC (zD U a3W k3W a3O k3O a3X k3X a3I k3I) 0 hHeld
        clear eS r0 f0 r1 f1 r2 f2 r3 f3 r4 f4 r5 f5
        replace hO:=hO.sm hzC2 (fun b q1 q2=>hmC b (by omega))
        refine hK.out _ _ hBC (fun hNew=>?_)
        clear hK K hHeld
        have hHeld:=hNew
        clear hNew
        try simp only [aT]
        refine tkb 13 (zI TZ) rfl ?_
        try simp only [aT]
        refine tkb 14 (.bool TB) rfl ?_
        try simp only [aT]
        refine wpAnyH_done (by kernel_rfl) ?_ _
        go_wp2
        go_meet
        case rel=>exact ⟨C,lg,hg,a3W,k3W,a3O,k3O,a3X,k3X,a3I,k3I,rfl,rfl,rfl,hPC,hO,⟨by omega,hPC.1,by omega,by omega,by omega,by omega⟩,hHeld⟩
       ·go_simp
        obtain ⟨XC,eA⟩:∃ X,X=xp.alloc (.cells zN.toArray 41):=⟨_,rfl⟩
        rw [←eA]
        have hbA:Below xp.heap.size xp XC:=by rw [eA];exact (Below.refl _ _).alloc (Nat.le_refl _) _
        have hZC:Bk XC xp.heap.size zN:=by rw [eA];exact bk_new xp 41 zN
        have hzAC1:XC.heap.size≤xp.heap.size+1:=by rw [eA];simp
        have hzAC2:xp.heap.size+1≤XC.heap.size:=by rw [eA];simp
        clear eA
        replace hC:=hC.below hbA
        have hsz_XC:=hbA.size
        refine hK.out _ _ (bthenN hHeld (by omega) hbA) (fun hNew=>?_)
        clear hK K hHeld
        have hHeld:=hNew
        clear hNew
        try simp only [aT]
        clear hbA
        obtain ⟨C,eC⟩:∃ g,g=xp.heap.size:=⟨_,rfl⟩
        rw [←eC] at hZC ⊢
        have eC1:C≤xp.heap.size:=by omega
        have eC2:xp.heap.size≤C:=by omega
        clear eC
        refine rd1 6 rfl fun K hK=>?_
        go_simp
        go_wp2_with fail
        refine (logApply_impl c d _ V _ R hwR.out HV.out hwf.out _ (((bthen B23.out hHeld).cell (p:=(zA 0 0)) hpos).trans hg0.out) hC).mono ?_
        rintro e xg ⟨⟨u,tz,tt,rfl,hz,ht,hO⟩,hxg⟩
        subst ht
        subst hz
        rw [EU.out] at hO
        rw [ET.out,EZ.out]
        obtain ⟨a3W,k3W,a3O,k3O,a3X,k3X,a3I,k3I,rfl,_,_,_,_⟩:=hO.at
        obtain ⟨lg,elg⟩:∃ l,l=XC.heap.size:=⟨_,rfl⟩
        obtain ⟨hg,ehg⟩:∃ l,l=xg.heap.size:=⟨_,rfl⟩
        rw [←elg,←ehg] at hO
        have elg1:lg≤XC.heap.size:=by omega
        have elg2:XC.heap.size≤lg:=by omega
        have ehg1:hg≤xg.heap.size:=by omega
        have ehg2:xg.heap.size≤hg:=by omega
        clear elg ehg
        replace hZC:=hZC.below hxg
        have hsz_xg:=hxg.size
        refine hK.out _ _ (bthenN hHeld (by omega) hxg) (fun hNew=>?_)
        clear hK K hHeld
        have hHeld:=hNew
        clear hNew
        try simp only [aT]
        refine tkb 7 (.tuple #[.agg (zD U a3W k3W a3O k3O a3X k3X a3I k3I).toArray,zI TZ,.bool TB]) rfl ?_
        try simp only [aT]
        refine tkb 8 (.agg (zD U a3W k3W a3O k3O a3X k3X a3I k3I).toArray) rfl ?_
        try simp only [aT]
        refine tkb 9 (zI TZ) rfl ?_
        try simp only [aT]
        refine tkb 10 (.bool TB) rfl ?_
        try simp only [aT]
        refine rd1 12 rfl fun K hK=>?_
        obtain ⟨r0,r1,r2,r3,r4,r5⟩:=hZC.a6
        obtain ⟨f0,f1,f2,f3,f4,f5⟩:=hZC.f6
        have lZC:=hZC.1
        have hkC:w11.heap.size≤C:=by omega
        go_simp
        obtain ⟨XSC,eS⟩:∃ X,X=((((((xg.setCell (zA C 0) (zI U.c)).setCell (zA C 1) (.slice a3W U.nW k3W)).setCell (zA C 2) (zI U.g)).setCell (zA C 3) (.slice a3O U.nO k3O)).setCell (zA C 4) (.slice a3X U.nX k3X)).setCell (zA C 5) (.slice a3I U.nI k3I)):=⟨_,rfl⟩
        rw [←eS]
        have hPC:Bk XSC C (zD U a3W k3W a3O k3O a3X k3X a3I k3I):=by rw [eS];exact bk_put (l:=(zD U a3W k3W a3O k3O a3X k3X a3I k3I)) hZC rfl
        have hzC1:XSC.heap.size≤xg.heap.size:=by rw [eS];exact Nat.le_of_eq (size_put C (zD U a3W k3W a3O k3O a3X k3X a3I k3I) 0 xg)
        have hzC2:xg.heap.size≤XSC.heap.size:=by rw [eS];exact Nat.le_of_eq (size_put C (zD U a3W k3W a3O k3O a3X k3X a3I k3I) 0 xg).symm
        have hmC:∀ b,¬ b=C→Sm xg XSC b:=by rw [eS];exact fun b hb=>sm_put hb (zD U a3W k3W a3O k3O a3X k3X a3I k3I) 0 xg
        have hBC:Below (w11.heap.size) w11 XSC:=by rw [eS];exact below_put hkC (zD U a3W k3W a3O k3O a3X k3X a3I k3I) 0 hHeld
        clear eS r0 f0 r1 f1 r2 f2 r3 f3 r4 f4 r5 f5
        replace hO:=hO.sm hzC2 (fun b q1 q2=>hmC b (by omega))
        refine hK.out _ _ hBC (fun hNew=>?_)
        clear hK K hHeld
        have hHeld:=hNew
        clear hNew
        try simp only [aT]
        refine tkb 13 (zI TZ) rfl ?_
        try simp only [aT]
        refine tkb 14 (.bool TB) rfl ?_
        try simp only [aT]
        refine wpAnyH_done (by kernel_rfl) ?_ _
        go_wp2
        go_meet
        case rel=>exact ⟨C,lg,hg,a3W,k3W,a3O,k3O,a3X,k3X,a3I,k3I,rfl,rfl,rfl,hPC,hO,⟨by omega,hPC.1,by omega,by omega,by omega,by omega⟩,hHeld⟩
      ·go_simp
       obtain ⟨XC,eA⟩:∃ X,X=xt.alloc (.cells zN.toArray 41):=⟨_,rfl⟩
       rw [←eA]
       have hbA:Below xt.heap.size xt XC:=by rw [eA];exact (Below.refl _ _).alloc (Nat.le_refl _) _
       have hZC:Bk XC xt.heap.size zN:=by rw [eA];exact bk_new xt 41 zN
       have hzAC1:XC.heap.size≤xt.heap.size+1:=by rw [eA];simp
       have hzAC2:xt.heap.size+1≤XC.heap.size:=by rw [eA];simp
       clear eA
       replace hC:=hC.below hbA
       have hsz_XC:=hbA.size
       refine hK.out _ _ (bthenN hHeld (by omega) hbA) (fun hNew=>?_)
       clear hK K hHeld
       have hHeld:=hNew
       clear hNew
       try simp only [aT]
       clear hbA
       obtain ⟨C,eC⟩:∃ g,g=xt.heap.size:=⟨_,rfl⟩
       rw [←eC] at hZC ⊢
       have eC1:C≤xt.heap.size:=by omega
       have eC2:xt.heap.size≤C:=by omega
       clear eC
       refine rd1 5 rfl fun K hK=>?_
       go_simp
       go_wp2_with fail
       refine (toRec _ _ _ _ _ _ _ _ _ _ _ _ _ _ _ _ _ ).mono ?_
       rintro e xp ⟨rfl,hxp⟩
       replace hC:=hC.below hxp
       replace hZC:=hZC.below hxp
       have hsz_xp:=hxp.size
       refine hK.out _ _ (bthenN hHeld (by omega) hxp) (fun hNew=>?_)
       clear hK K hHeld
       have hHeld:=hNew
       clear hNew
       try simp only [aT]
       refine rd1 6 rfl fun K hK=>?_
       go_simp
       go_wp2_with fail
       refine (logApply_impl c d _ V _ R hwR.out HV.out hwf.out _ (((bthen B23.out hHeld).cell (p:=(zA 0 0)) hpos).trans hg0.out) hC).mono ?_
       rintro e xg ⟨⟨u,tz,tt,rfl,hz,ht,hO⟩,hxg⟩
       subst ht
       subst hz
       rw [EU.out] at hO
       rw [ET.out,EZ.out]
       obtain ⟨a3W,k3W,a3O,k3O,a3X,k3X,a3I,k3I,rfl,_,_,_,_⟩:=hO.at
       obtain ⟨lg,elg⟩:∃ l,l=xp.heap.size:=⟨_,rfl⟩
       obtain ⟨hg,ehg⟩:∃ l,l=xg.heap.size:=⟨_,rfl⟩
       rw [←elg,←ehg] at hO
       have elg1:lg≤xp.heap.size:=by omega
       have elg2:xp.heap.size≤lg:=by omega
       have ehg1:hg≤xg.heap.size:=by omega
       have ehg2:xg.heap.size≤hg:=by omega
       clear elg ehg
       replace hZC:=hZC.below hxg
       have hsz_xg:=hxg.size
       refine hK.out _ _ (bthenN hHeld (by omega) hxg) (fun hNew=>?_)
       clear hK K hHeld
       have hHeld:=hNew
       clear hNew
       try simp only [aT]
       refine tkb 7 (.tuple #[.agg (zD U a3W k3W a3O k3O a3X k3X a3I k3I).toArray,zI TZ,.bool TB]) rfl ?_
       try simp only [aT]
       refine tkb 8 (.agg (zD U a3W k3W a3O k3O a3X k3X a3I k3I).toArray) rfl ?_
       try simp only [aT]
       refine tkb 9 (zI TZ) rfl ?_
       try simp only [aT]
       refine tkb 10 (.bool TB) rfl ?_
       try simp only [aT]
       refine rd1 12 rfl fun K hK=>?_
       obtain ⟨r0,r1,r2,r3,r4,r5⟩:=hZC.a6
       obtain ⟨f0,f1,f2,f3,f4,f5⟩:=hZC.f6
       have lZC:=hZC.1
       have hkC:w11.heap.size≤C:=by omega
       go_simp
       obtain ⟨XSC,eS⟩:∃ X,X=((((((xg.setCell (zA C 0) (zI U.c)).setCell (zA C 1) (.slice a3W U.nW k3W)).setCell (zA C 2) (zI U.g)).setCell (zA C 3) (.slice a3O U.nO k3O)).setCell (zA C 4) (.slice a3X U.nX k3X)).setCell (zA C 5) (.slice a3I U.nI k3I)):=⟨_,rfl⟩
       rw [←eS]
       have hPC:Bk XSC C (zD U a3W k3W a3O k3O a3X k3X a3I k3I):=by rw [eS];exact bk_put (l:=(zD U a3W k3W a3O k3O a3X k3X a3I k3I)) hZC rfl
       have hzC1:XSC.heap.size≤xg.heap.size:=by rw [eS];exact Nat.le_of_eq (size_put C (zD U a3W k3W a3O k3O a3X k3X a3I k3I) 0 xg)
       have hzC2:xg.heap.size≤XSC.heap.size:=by rw [eS];exact Nat.le_of_eq (size_put C (zD U a3W k3W a3O k3O a3X k3X a3I k3I) 0 xg).symm
       have hmC:∀ b,¬ b=C→Sm xg XSC b:=by rw [eS];exact fun b hb=>sm_put hb (zD U a3W k3W a3O k3O a3X k3X a3I k3I) 0 xg
       have hBC:Below (w11.heap.size) w11 XSC:=by rw [eS];exact below_put hkC (zD U a3W k3W a3O k3O a3X k3X a3I k3I) 0 hHeld
       clear eS r0 f0 r1 f1 r2 f2 r3 f3 r4 f4 r5 f5
       replace hO:=hO.sm hzC2 (fun b q1 q2=>hmC b (by omega))
       refine hK.out _ _ hBC (fun hNew=>?_)
       clear hK K hHeld
       have hHeld:=hNew
       clear hNew
       try simp only [aT]
       refine tkb 13 (zI TZ) rfl ?_
       try simp only [aT]
       refine tkb 14 (.bool TB) rfl ?_
       try simp only [aT]
       refine wpAnyH_done (by kernel_rfl) ?_ _
       go_wp2
       go_meet
       case rel=>exact ⟨C,lg,hg,a3W,k3W,a3O,k3O,a3X,k3X,a3I,k3I,rfl,rfl,rfl,hPC,hO,⟨by omega,hPC.1,by omega,by omega,by omega,by omega⟩,hHeld⟩
     ·go_simp
      obtain ⟨XC,eA⟩:∃ X,X=xm.alloc (.cells zN.toArray 41):=⟨_,rfl⟩
      rw [←eA]
      have hbA:Below xm.heap.size xm XC:=by rw [eA];exact (Below.refl _ _).alloc (Nat.le_refl _) _
      have hZC:Bk XC xm.heap.size zN:=by rw [eA];exact bk_new xm 41 zN
      have hzAC1:XC.heap.size≤xm.heap.size+1:=by rw [eA];simp
      have hzAC2:xm.heap.size+1≤XC.heap.size:=by rw [eA];simp
      clear eA
      have hsz_XC:=hbA.size
      refine hK.out _ _ (bthenN hHeld (by omega) hbA) (fun hNew=>?_)
      clear hK K hHeld
      have hHeld:=hNew
      clear hNew
      try simp only [aT]
      clear hbA
      obtain ⟨C,eC⟩:∃ g,g=xm.heap.size:=⟨_,rfl⟩
      rw [←eC] at hZC ⊢
      have eC1:C≤xm.heap.size:=by omega
      have eC2:xm.heap.size≤C:=by omega
      clear eC
      refine rd1 3 rfl fun K hK=>?_
      go_simp
      go_wp2_with fail
      refine (toCell _ V HV.out _ (cellAt_below H0.out (bthen B23.out hHeld))).mono ?_
      rintro e xt ⟨⟨vt,rfl,hC⟩,hxt⟩
      replace hZC:=hZC.below hxt
      have hsz_xt:=hxt.size
      refine hK.out _ _ (bthenN hHeld (by omega) hxt) (fun hNew=>?_)
      clear hK K hHeld
      have hHeld:=hNew
      clear hNew
      try simp only [aT]
      refine rd1 5 rfl fun K hK=>?_
      go_simp
      go_wp2_with fail
      refine (toRec _ _ _ _ _ _ _ _ _ _ _ _ _ _ _ _ _ ).mono ?_
      rintro e xp ⟨rfl,hxp⟩
      replace hZC:=hZC.below hxp
      replace hC:=hC.below hxp
      have hsz_xp:=hxp.size
      refine hK.out _ _ (bthenN hHeld (by omega) hxp) (fun hNew=>?_)
      clear hK K hHeld
      have hHeld:=hNew
      clear hNew
      try simp only [aT]
      refine rd1 6 rfl fun K hK=>?_
      go_simp
      go_wp2_with fail
      refine (logApply_impl c d _ V _ R hwR.out HV.out hwf.out _ (((bthen B23.out hHeld).cell (p:=(zA 0 0)) hpos).trans hg0.out) hC).mono ?_
      rintro e xg ⟨⟨u,tz,tt,rfl,hz,ht,hO⟩,hxg⟩
      subst ht
      subst hz
      rw [EU.out] at hO
      rw [ET.out,EZ.out]
      obtain ⟨a3W,k3W,a3O,k3O,a3X,k3X,a3I,k3I,rfl,_,_,_,_⟩:=hO.at
      obtain ⟨lg,elg⟩:∃ l,l=xp.heap.size:=⟨_,rfl⟩
      obtain ⟨hg,ehg⟩:∃ l,l=xg.heap.size:=⟨_,rfl⟩
      rw [←elg,←ehg] at hO
      have elg1:lg≤xp.heap.size:=by omega
      have elg2:xp.heap.size≤lg:=by omega
      have ehg1:hg≤xg.heap.size:=by omega
      have ehg2:xg.heap.size≤hg:=by omega
      clear elg ehg
      replace hZC:=hZC.below hxg
      have hsz_xg:=hxg.size
      refine hK.out _ _ (bthenN hHeld (by omega) hxg) (fun hNew=>?_)
      clear hK K hHeld
      have hHeld:=hNew
      clear hNew
      try simp only [aT]
      refine tkb 7 (.tuple #[.agg (zD U a3W k3W a3O k3O a3X k3X a3I k3I).toArray,zI TZ,.bool TB]) rfl ?_
      try simp only [aT]
      refine tkb 8 (.agg (zD U a3W k3W a3O k3O a3X k3X a3I k3I).toArray) rfl ?_
      try simp only [aT]
      refine tkb 9 (zI TZ) rfl ?_
      try simp only [aT]
      refine tkb 10 (.bool TB) rfl ?_
      try simp only [aT]
      refine rd1 12 rfl fun K hK=>?_
      obtain ⟨r0,r1,r2,r3,r4,r5⟩:=hZC.a6
      obtain ⟨f0,f1,f2,f3,f4,f5⟩:=hZC.f6
      have lZC:=hZC.1
      have hkC:w11.heap.size≤C:=by omega
      go_simp
      obtain ⟨XSC,eS⟩:∃ X,X=((((((xg.setCell (zA C 0) (zI U.c)).setCell (zA C 1) (.slice a3W U.nW k3W)).setCell (zA C 2) (zI U.g)).setCell (zA C 3) (.slice a3O U.nO k3O)).setCell (zA C 4) (.slice a3X U.nX k3X)).setCell (zA C 5) (.slice a3I U.nI k3I)):=⟨_,rfl⟩
      rw [←eS]
      have hPC:Bk XSC C (zD U a3W k3W a3O k3O a3X k3X a3I k3I):=by rw [eS];exact bk_put (l:=(zD U a3W k3W a3O k3O a3X k3X a3I k3I)) hZC rfl
      have hzC1:XSC.heap.size≤xg.heap.size:=by rw [eS];exact Nat.le_of_eq (size_put C (zD U a3W k3W a3O k3O a3X k3X a3I k3I) 0 xg)
      have hzC2:xg.heap.size≤XSC.heap.size:=by rw [eS];exact Nat.le_of_eq (size_put C (zD U a3W k3W a3O k3O a3X k3X a3I k3I) 0 xg).symm
      have hmC:∀ b,¬ b=C→Sm xg XSC b:=by rw [eS];exact fun b hb=>sm_put hb (zD U a3W k3W a3O k3O a3X k3X a3I k3I) 0 xg
      have hBC:Below (w11.heap.size) w11 XSC:=by rw [eS];exact below_put hkC (zD U a3W k3W a3O k3O a3X k3X a3I k3I) 0 hHeld
      clear eS r0 f0 r1 f1 r2 f2 r3 f3 r4 f4 r5 f5
      replace hO:=hO.sm hzC2 (fun b q1 q2=>hmC b (by omega))
      refine hK.out _ _ hBC (fun hNew=>?_)
      clear hK K hHeld
      have hHeld:=hNew
      clear hNew
      try simp only [aT]
      refine tkb 13 (zI TZ) rfl ?_
      try simp only [aT]
      refine tkb 14 (.bool TB) rfl ?_
      try simp only [aT]
      refine wpAnyH_done (by kernel_rfl) ?_ _
      go_wp2
      go_meet
      case rel=>exact ⟨C,lg,hg,a3W,k3W,a3O,k3O,a3X,k3X,a3I,k3I,rfl,rfl,rfl,hPC,hO,⟨by omega,hPC.1,by omega,by omega,by omega,by omega⟩,hHeld⟩
    ·go_simp
     obtain ⟨XC,eA⟩:∃ X,X=X0.alloc (.cells zN.toArray 41):=⟨_,rfl⟩
     rw [←eA]
     have hbA:Below X0.heap.size X0 XC:=by rw [eA];exact (Below.refl _ _).alloc (Nat.le_refl _) _
     have hZC:Bk XC X0.heap.size zN:=by rw [eA];exact bk_new X0 41 zN
     have hzAC1:XC.heap.size≤X0.heap.size+1:=by rw [eA];simp
     have hzAC2:X0.heap.size+1≤XC.heap.size:=by rw [eA];simp
     clear eA
     have hsz_XC:=hbA.size
     refine hK.out _ _ (bthenN hHeld (by omega) hbA) (fun hNew=>?_)
     clear hK K hHeld
     have hHeld:=hNew
     clear hNew
     try simp only [aT]
     clear hbA
     obtain ⟨C,eC⟩:∃ g,g=X0.heap.size:=⟨_,rfl⟩
     rw [←eC] at hZC ⊢
     have eC1:C≤X0.heap.size:=by omega
     have eC2:X0.heap.size≤C:=by omega
     clear eC
     refine rd1 1 rfl fun K hK=>?_
     go_simp
     go_wp2_with fail
     refine (toMap _ _ _).mono ?_
     rintro e xm ⟨rfl,hxm⟩
     replace hZC:=hZC.below hxm
     have hsz_xm:=hxm.size
     refine hK.out _ _ (bthenN hHeld (by omega) hxm) (fun hNew=>?_)
     clear hK K hHeld
     have hHeld:=hNew
     clear hNew
     try simp only [aT]
     refine rd1 3 rfl fun K hK=>?_
     go_simp
     go_wp2_with fail
     refine (toCell _ V HV.out _ (cellAt_below H0.out (bthen B23.out hHeld))).mono ?_
     rintro e xt ⟨⟨vt,rfl,hC⟩,hxt⟩
     replace hZC:=hZC.below hxt
     have hsz_xt:=hxt.size
     refine hK.out _ _ (bthenN hHeld (by omega) hxt) (fun hNew=>?_)
     clear hK K hHeld
     have hHeld:=hNew
     clear hNew
     try simp only [aT]
     refine rd1 5 rfl fun K hK=>?_
     go_simp
     go_wp2_with fail
     refine (toRec _ _ _ _ _ _ _ _ _ _ _ _ _ _ _ _ _ ).mono ?_
     rintro e xp ⟨rfl,hxp⟩
     replace hZC:=hZC.below hxp
     replace hC:=hC.below hxp
     have hsz_xp:=hxp.size
     refine hK.out _ _ (bthenN hHeld (by omega) hxp) (fun hNew=>?_)
     clear hK K hHeld
     have hHeld:=hNew
     clear hNew
     try simp only [aT]
     refine rd1 6 rfl fun K hK=>?_
     go_simp
     go_wp2_with fail
     refine (logApply_impl c d _ V _ R hwR.out HV.out hwf.out _ (((bthen B23.out hHeld).cell (p:=(zA 0 0)) hpos).trans hg0.out) hC).mono ?_
     rintro e xg ⟨⟨u,tz,tt,rfl,hz,ht,hO⟩,hxg⟩
     subst ht
     subst hz
     rw [EU.out] at hO
     rw [ET.out,EZ.out]
     obtain ⟨a3W,k3W,a3O,k3O,a3X,k3X,a3I,k3I,rfl,_,_,_,_⟩:=hO.at
     obtain ⟨lg,elg⟩:∃ l,l=xp.heap.size:=⟨_,rfl⟩
     obtain ⟨hg,ehg⟩:∃ l,l=xg.heap.size:=⟨_,rfl⟩
     rw [←elg,←ehg] at hO
     have elg1:lg≤xp.heap.size:=by omega
     have elg2:xp.heap.size≤lg:=by omega
     have ehg1:hg≤xg.heap.size:=by omega
     have ehg2:xg.heap.size≤hg:=by omega
     clear elg ehg
     replace hZC:=hZC.below hxg
     have hsz_xg:=hxg.size
     refine hK.out _ _ (bthenN hHeld (by omega) hxg) (fun hNew=>?_)
     clear hK K hHeld
     have hHeld:=hNew
     clear hNew
     try simp only [aT]
     refine tkb 7 (.tuple #[.agg (zD U a3W k3W a3O k3O a3X k3X a3I k3I).toArray,zI TZ,.bool TB]) rfl ?_
     try simp only [aT]
     refine tkb 8 (.agg (zD U a3W k3W a3O k3O a3X k3X a3I k3I).toArray) rfl ?_
     try simp only [aT]
     refine tkb 9 (zI TZ) rfl ?_
     try simp only [aT]
     refine tkb 10 (.bool TB) rfl ?_
     try simp only [aT]
     refine rd1 12 rfl fun K hK=>?_
     obtain ⟨r0,r1,r2,r3,r4,r5⟩:=hZC.a6
     obtain ⟨f0,f1,f2,f3,f4,f5⟩:=hZC.f6
     have lZC:=hZC.1
     have hkC:w11.heap.size≤C:=by omega
     go_simp
     obtain ⟨XSC,eS⟩:∃ X,X=((((((xg.setCell (zA C 0) (zI U.c)).setCell (zA C 1) (.slice a3W U.nW k3W)).setCell (zA C 2) (zI U.g)).setCell (zA C 3) (.slice a3O U.nO k3O)).setCell (zA C 4) (.slice a3X U.nX k3X)).setCell (zA C 5) (.slice a3I U.nI k3I)):=⟨_,rfl⟩
     rw [←eS]
     have hPC:Bk XSC C (zD U a3W k3W a3O k3O a3X k3X a3I k3I):=by rw [eS];exact bk_put (l:=(zD U a3W k3W a3O k3O a3X k3X a3I k3I)) hZC rfl
     have hzC1:XSC.heap.size≤xg.heap.size:=by rw [eS];exact Nat.le_of_eq (size_put C (zD U a3W k3W a3O k3O a3X k3X a3I k3I) 0 xg)
     have hzC2:xg.heap.size≤XSC.heap.size:=by rw [eS];exact Nat.le_of_eq (size_put C (zD U a3W k3W a3O k3O a3X k3X a3I k3I) 0 xg).symm
     have hmC:∀ b,¬ b=C→Sm xg XSC b:=by rw [eS];exact fun b hb=>sm_put hb (zD U a3W k3W a3O k3O a3X k3X a3I k3I) 0 xg
     have hBC:Below (w11.heap.size) w11 XSC:=by rw [eS];exact below_put hkC (zD U a3W k3W a3O k3O a3X k3X a3I k3I) 0 hHeld
     clear eS r0 f0 r1 f1 r2 f2 r3 f3 r4 f4 r5 f5
     replace hO:=hO.sm hzC2 (fun b q1 q2=>hmC b (by omega))
     refine hK.out _ _ hBC (fun hNew=>?_)
     clear hK K hHeld
     have hHeld:=hNew
     clear hNew
     try simp only [aT]
     refine tkb 13 (zI TZ) rfl ?_
     try simp only [aT]
     refine tkb 14 (.bool TB) rfl ?_
     try simp only [aT]
     refine wpAnyH_done (by kernel_rfl) ?_ _
     go_wp2
     go_meet
     case rel=>exact ⟨C,lg,hg,a3W,k3W,a3O,k3O,a3X,k3X,a3I,k3I,rfl,rfl,rfl,hPC,hO,⟨by omega,hPC.1,by omega,by omega,by omega,by omega⟩,hHeld⟩
   case rest =>
    obtain ⟨w12,hwn⟩:∃ wn,wn=wc:=⟨_,rfl⟩
    subst hwn
    obtain ⟨g3,l3,h3,a3W,k3W,a3O,k3O,a3X,k3X,a3I,k3I,rfl,rfl,rfl,hG,hO,⟨c31,c32,c33,c34,c35,c36⟩,hb⟩:=hcut
    have y_w12:w11.heap.size≤w12.heap.size:=hb.size
    have B24:=hid (bthen B23.out hb)
    have M24:=hid (M23.out.below hb)
    have A24:=hid (A23.out.below hb)
    have Q24:=hid (Q23.out.below hb)
    have O1_24:=hid (O1_23.out.below (by omega) hb)
    have G1_24:=hid (G1_23.out.below hb)
    have X24:=hid (X23.out.below hb)
    have G2_24:=hid (G2_23.out.below hb)
    have O2_24:=hid (O2_23.out.below (by omega) hb)
    clear B23 M23 A23 Q23 O1_23 G1_23 X23 G2_23 O2_23
    have O3_25:Hid (OwnC l3 h3 w12 (.agg (zD U a3W k3W a3O k3O a3X k3X a3I k3I).toArray) U):=hO
    have G3_26:Hid (Bk w12 g3 (zD U a3W k3W a3O k3O a3X k3X a3I k3I)):=hG
    clear hO hG hb
    obtain ⟨yG1_0,yG1_1,yG1_2,yG1_3,yG1_4,yG1_5⟩:=G1_24.out.a6
    have hlG1_:g1<w12.heap.size:=G1_24.out.1
    obtain ⟨yG3_0,yG3_1,yG3_2,yG3_3,yG3_4,yG3_5⟩:=G3_26.out.a6
    have hlG3_:g3<w12.heap.size:=G3_26.out.1
    go_wp2_with fail
    refine (eqCell _ _ U (HU.out.1.more (by decide)) _ (O3_25.out.at) (O1_24.out.at)).mono ?_
    rintro e w13 ⟨rfl,hb⟩
    clear yG1_0 yG1_1 yG1_2 yG1_3 yG1_4 yG1_5 hlG1_ yG3_0 yG3_1 yG3_2 yG3_3 yG3_4 yG3_5 hlG3_
    have y_w13:w12.heap.size≤w13.heap.size:=hb.size
    have B27:=hid (bthen B24.out hb)
    have M27:=hid (M24.out.below hb)
    have A27:=hid (A24.out.below hb)
    have Q27:=hid (Q24.out.below hb)
    have O1_27:=hid (O1_24.out.below (by omega) hb)
    have G1_27:=hid (G1_24.out.below hb)
    have X27:=hid (X24.out.below hb)
    have G2_27:=hid (G2_24.out.below hb)
    have O2_27:=hid (O2_24.out.below (by omega) hb)
    have O3_27:=hid (O3_25.out.below (by omega) hb)
    have G3_27:=hid (G3_26.out.below hb)
    clear B24 M24 A24 Q24 O1_24 G1_24 X24 G2_24 O2_24 O3_25 G3_26
    clear hb
    obtain ⟨yG2_0,yG2_1,yG2_2,yG2_3,yG2_4,yG2_5⟩:=G2_27.out.a6
    have hlG2_:g2<w13.heap.size:=G2_27.out.1
    go_wp2_with fail
    refine (heldC l2 h2 _ U HU.out.2 _ (by omega) O2_27.out).mono ?_
    rintro e w14 ⟨rfl,hb⟩
    clear yG2_0 yG2_1 yG2_2 yG2_3 yG2_4 yG2_5 hlG2_
    have y_w14:w13.heap.size≤w14.heap.size:=hb.size
    have B28:=hid (bthen B27.out hb)
    have M28:=hid (M27.out.below hb)
    have A28:=hid (A27.out.below hb)
    have Q28:=hid (Q27.out.below hb)
    have O1_28:=hid (O1_27.out.below (by omega) hb)
    have G1_28:=hid (G1_27.out.below hb)
    have X28:=hid (X27.out.below hb)
    have G2_28:=hid (G2_27.out.below hb)
    have O2_28:=hid (O2_27.out.below (by omega) hb)
    have O3_28:=hid (O3_27.out.below (by omega) hb)
    have G3_28:=hid (G3_27.out.below hb)
    clear B27 M27 A27 Q27 O1_27 G1_27 X27 G2_27 O2_27 O3_27 G3_27
    clear hb
    go_wp2
    go_ret
    exact ⟨rfl,B28.out⟩
