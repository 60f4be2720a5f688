/- The program's LogFold answers as the model's; conditions: the cell and the records lie in memory. -/
import Derived.Test.YtngaboipleimcaaGreatDoorGF
import Derived.Test.YtngaboipleimcaaGreatDoorSS
import Derived.Test.YtngaboipleimcaaGreatDoorSM
import Derived.Deep.DeepCutAuto
set_option linter.unusedVariables false
set_option maxHeartbeats 8000000
set_option maxRecDepth 20000
namespace Go.Proofs.YtngaboipleimcaaGreatDoor
open Go.RowKit Go.Deep
theorem lZ {V:CV} (h:V.short 1048576):V.short 2000000:=by
 obtain ⟨h1,h2,h3,h4,h5⟩:=h
 exact ⟨by omega,by omega,fun k hk=>by have:=h3 k hk;omega,by omega,by omega⟩
theorem o5 (c d:Int) (V:CV) (Z:Nat→Nat→Int) (aW:Option Addr) (kW:Nat) (aO:Option Addr) (kO:Nat) (aX:Option Addr) (kX:Nat) (aI:Option Addr) (kI:Nat) (aR:Option Addr) (nR kR:Nat) (hs0:V.short maxLen) (hn:nR≤maxLen) (hwf0:∀ k,k<V.nW→(Lit.int .i64 (V.W k 0)).wf=true) (hwR0:∀ k j,k<nR→j<16→(Lit.int .i64 (Z k j)).wf=true) (w:World)
 (hg00:w.cell? (zA 0 0)=some (.iface 226 (.agg #[zP 1 199]))) (h0:iO w (.agg (zD V aW kW aO kO aX kX aI kI).toArray) V) (hR0:P16.qA w aR nR Z) :
 Hz 4 #[.agg #[zI c,zI d],.agg (zD V aW kW aO kO aX kX aI kI).toArray,.slice aR nR kR] w fun e w'=>e=.returned (.bool true)∧Below w.heap.size w w':=by
 unfold maxLen at hn
 have hs:=hid hs0
 have hwf:=hid hwf0
 have hwR:=hid hwR0
 have hg0:=hid hg00
 have hpos:0<w.heap.size:=World.block_lt_of_cell? w (zA 0 0) hg00
 have HC:=hid h0
 have HR:=hid hR0
 clear hs0 hwf0 hwR0 hg00 h0 hR0
 go_enter Tryz.func4,Tryz.ntmps4
 go_wp2_with fail
 obtain ⟨w0,e0,B1,M1,S1,hz0⟩:=EX w [zI c,zI d] 23 (zD V aW kW aO kO aX kX aI kI) 28
 rw [←e0]
 clear e0
 have C1:=S1
 obtain ⟨y0,y1,y2,y3,y4,y5⟩:=S1.out.a6
 have hlS:w.heap.size+1<w0.heap.size:=S1.out.1
 go_wp2_with fail
 clear y0 y1 y2 y3 y4 y5 hlS
 refine (DZ _ V hs.out _ (dw HC.out B1.out)).mono ?_
 rintro e w1 ⟨⟨r,rfl,hr⟩,hb⟩
 have kz1:=hb.size
 have B2:=hid (ah B1.out hb)
 have M2:=hid (M1.out.below hb)
 have S2:=hid (S1.out.below hb)
 clear B1 M1 S1 C1 hb
 rcases hr with hr | ⟨r0,r1,r2,r3⟩
 ·go_wp2
  go_ret
  exact ⟨rfl,B2.out⟩
 have hSs:=hid r2
 have hSm:=hid r3
 clear r2 r3 hs
 go_wp2_with fail
 refine (GK aR nR kR r ⟨r0,r1⟩ (by omega) _).mono ?_
 rintro e w1' ⟨rfl,hb⟩
 have kz1':=hb.size
 have B3:=hid (ah B2.out hb)
 have M3:=hid (M2.out.below hb)
 have S3:=hid (S2.out.below hb)
 clear B2 M2 S2 hb
 by_cases hk:(nR:Int)≤r
 case neg=>
  rw [if_neg hk]
  go_wp2
  go_ret
  exact ⟨rfl,B3.out⟩
 rw [if_pos hk]
 have hkr:0≤r-(nR:Int):=by omega
 have hkn:¬ (r-(nR:Int))<0:=by omega
 have hnR:nR≤1048576:=by omega
 obtain ⟨FM,eFM⟩:∃ F,foldM c d V nR Z=F:=⟨_,rfl⟩
 obtain ⟨U,N⟩:=FM
 have EU:=hid eFM
 have HU:Hid (U.short 1048576∧U.few):=by
  have eU:U=(foldM c d V nR Z).1:=by rw [eFM]
  unfold Hid
  rw [eU]
  unfold foldM
  split
  ·rename_i h
   exact Ep (uZ h.1 _)
  ·have hz:CV.zero.short 1048576:=⟨by decide,by decide,fun k hk=>by simp [CV.zero],by decide,by decide⟩
   exact ⟨hz,uT hz (by decide)⟩
 have HV:Hid V.few:=uT hSs.out hSm.out
 clear eFM
 have B2:=B3
 have M2:=M3
 have S2:=S3
 clear B3 M3 S3
 obtain ⟨m0,m1⟩:=M2.out.a2
 have hlM:w.heap.size<w1'.heap.size:=M2.out.1
 obtain ⟨y0,y1,y2,y3,y4,y5⟩:=S2.out.a6
 have hlS:w.heap.size+1<w1'.heap.size:=S2.out.1
 go_upto_region 8 with fail
 go_cut [8,9] (fun s t wx=>∃ C l h p1 q1 p2 q2 p3 q3 p4 q4,zP C 0=s∧zI (N:Int)=t∧Bk wx C (zD U p1 q1 p2 q2 p3 q3 p4 q4)∧aV l h wx (.agg (zD U p1 q1 p2 q2 p3 q3 p4 q4).toArray) U∧((w1'.heap.size≤C∧C<wx.heap.size)∧(w1'.heap.size≤l∧l≤h∧h≤wx.heap.size)∧(C<l∨h≤C))∧Below w1'.heap.size w1' wx)
 case first=>
  refine Hu (S:=fun w'=>Below (w1'.heap.size) w1' w') (by kernel_rfl) ((Hr _ _).drew) ?_
  intro af
  obtain ⟨X,hX⟩:∃ X,X=w1'.drew:=⟨_,rfl⟩
  have hz1:w1'.heap.size≤X.heap.size:=by rw [hX];exact Ho _
  rw [←hX] at af ⊢
  clear hX
  refine bF 0 (.agg #[zI c,zI d]) rfl ?_
  try simp only [aT]
  refine bF 2 (.agg (zD V aW kW aO kO aX kX aI kI).toArray) rfl ?_
  try simp only [aT]
  refine bF 4 (.slice aR nR kR) rfl ?_
  try simp only [aT]
  refine y9 [1,10] (AllReadyH.cons rfl (fun K hK=>?_) (AllReadyH.cons rfl (fun K hK=>?_) AllReadyH.nil))
  ·go_simp
   go_wp2_with fail
   refine (uy c d _).mono ?_
   rintro e Xc ⟨rfl,hb⟩
   have kz:=hb.size
   refine hK.out _ _ (bJ af (by omega) hb) (fun ai=>?_)
   clear hK K af
   have af:=ai
   clear ai
   try simp only [aT]
   clear hb
   refine y9 [3,10] (AllReadyH.cons rfl (fun K hK=>?_) (AllReadyH.cons rfl (fun K hK=>?_) AllReadyH.nil))
   ·go_simp
    go_wp2_with fail
    refine (DI _ V hSs.out _ (dw HC.out (ah B2.out af))).mono ?_
    rintro e Xcc ⟨⟨u,rfl,hC⟩,hb⟩
    have kz:=hb.size
    obtain ⟨bW,bO,bX,bI,hi,q0,q1,q2,q3,q4,q5,rfl,g1,g2,g3,g4⟩:=hC
    have CB:Hid (gq _ Xcc (.agg (zC V bW V.nW bO V.nO bX V.nX bI V.nI).toArray) V):=⟨bW,bO,bX,bI,hi,q0,q1,q2,q3,q4,q5,rfl,g1,g2,g3,g4⟩
    clear g1 g2 g3 g4 q0 q1 q2 q3 q4 q5
    refine hK.out _ _ (bJ af (by omega) hb) (fun ai=>?_)
    clear hK K af
    have af:=ai
    clear ai
    try simp only [aT]
    clear hb
    refine y9 [5,10] (AllReadyH.cons rfl (fun K hK=>?_) (AllReadyH.cons rfl (fun K hK=>?_) AllReadyH.nil))
    ·go_simp
     go_wp2_with fail
     refine (P16.yu aR nR kR Z hnR _ (P16.iL HR.out (ah B2.out af))).mono ?_
     rintro e Xccc ⟨rfl,g1,hl,hb⟩
     have kz:=hb.size
     replace CB:=hid (CB.out.below hb)
     have OR:=hid g1
     clear g1
     obtain ⟨bR,ebR⟩:∃ b,b=Xcc.heap.size:=⟨_,rfl⟩
     rw [←ebR] at OR hl ⊢
     have hbR:bR<Xccc.heap.size:=by omega
     clear ebR
     refine hK.out _ _ (bJ af (by omega) hb) (fun ai=>?_)
     clear hK K af
     have af:=ai
     clear ai
     try simp only [aT]
     clear hb
     refine y9 [6,10] (AllReadyH.cons rfl (fun K hK=>?_) (AllReadyH.cons rfl (fun K hK=>?_) AllReadyH.nil))
     ·go_simp
      go_wp2_with fail
      refine (sJ c d V _ bW bO bX bI bR nR Z hSs.out hnR _ CB.out.copy hbR (P16.aZ OR.out)).mono ?_
      rintro e Xcccc ⟨⟨u,rfl,hO⟩,hb⟩
      rw [EU.out] at hO
      rw [EU.out]
      have kz:=hb.size
      replace CB:=hid (CB.out.below hb)
      replace OR:=hid (P16.own_below OR.out hbR hb)
      replace hbR:=Hg hbR kz
      obtain ⟨p1,q1,p2,q2,p3,q3,p4,q4,rfl,hA,hB,hD,hE⟩:=hO.at
      have OU:=hid hO
      clear hO hA hB hD hE
      refine hK.out _ _ (bJ af (by omega) hb) (fun ai=>?_)
      clear hK K af
      have af:=ai
      clear ai
      try simp only
      clear hb
      refine bF 7 (.tuple #[.agg (zD U p1 q1 p2 q2 p3 q3 p4 q4).toArray,zI N]) rfl ?_
      try simp only [aT]
      refine bF 8 (.agg (zD U p1 q1 p2 q2 p3 q3 p4 q4).toArray) rfl ?_
      try simp only [aT]
      refine bF 9 (zI N) rfl ?_
      try simp only [aT]
      refine di 10 rfl fun K hK=>?_
      go_simp
      obtain ⟨Xcccca,eA⟩:∃ y,y=Xcccc.alloc (.cells zN.toArray 41):=⟨_,rfl⟩
      rw [←eA]
      have hb:Below Xcccc.heap.size Xcccc Xcccca:=by rw [eA];exact (Hr _ _).alloc (Ho _) _
      have Y:Hid (Bk Xcccca Xcccc.heap.size zN):=by unfold Hid;rw [eA];exact aU Xcccc 41 zN
      have kzA:Xcccc.heap.size+1≤Xcccca.heap.size:=by rw [eA];simp
      clear eA
      have kz:=hb.size
      replace OU:=hid (OU.out.below (by omega) hb)
      refine hK.out _ _ (bJ af (by omega) hb) (fun ai=>?_)
      clear hK K af
      have af:=ai
      clear ai
      try simp only [aT]
      clear hb
      obtain ⟨C,eC⟩:∃ x,x=Xcccc.heap.size:=⟨_,rfl⟩
      rw [←eC] at Y ⊢
      have C1:=Hl eC
      have C2:=Hl eC.symm
      clear eC
      obtain ⟨zQ0,zQ1,zQ2,zQ3,zQ4,zQ5⟩:=Y.out.f6
      obtain ⟨yQ0,yQ1,yQ2,yQ3,yQ4,yQ5⟩:=Y.out.a6
      have hlY:=Y.out.1
      refine di 11 rfl fun K hK=>?_
      go_simp
      obtain ⟨w6,e6⟩:∃ y,y=aG Xcccca C (zI U.c) (.slice p1 U.nW q1) (zI U.g) (.slice p2 U.nO q2) (.slice p3 U.nX q3) (.slice p4 U.nI q4):=⟨_,rfl⟩
      have hB6:Below w1'.heap.size w1' w6:=by rw [e6];exact ax af (by omega) _ _ _ _ _ _
      have hz6:w6.heap.size=Xcccca.heap.size:=by rw [e6];exact au _ _ _ _ _ _ _ _
      have Y6:Bk w6 C (zD U p1 q1 p2 q2 p3 q3 p4 q4):=by rw [e6];exact gy Y.out rfl _ _ _ _ _ _
      have O6:=OU.out.sm (w':=w6) (Hl hz6.symm) (fun b q1 q2=>by rw [e6];exact aH (by omega) _ _ _ _ _ _)
      unfold aG at e6
      rw [←e6]
      have Y7:=hid Y6
      have O7:=hid O6
      clear e6 Y6 O6 Y OU yQ0 yQ1 yQ2 yQ3 yQ4 yQ5 zQ0 zQ1 zQ2 zQ3 zQ4 zQ5 hlY
      refine hK.out _ _ hB6 (fun ai=>?_)
      clear af hK K
      have af:=ai
      clear ai
      try simp only [aT]
      refine bF 12 (zI N) rfl ?_
      try simp only [aT]
      refine Hy (by kernel_rfl) ?_ _
      go_wp2
      go_meet
      case rel=>exact ⟨C,_,_,p1,q1,p2,q2,p3,q3,p4,q4,rfl,rfl,Y7.out,O7.out,⟨⟨by omega,by omega⟩,⟨by omega,by omega,by omega⟩,by omega⟩,hB6⟩
     ·go_simp
      obtain ⟨Xccca,eA⟩:∃ y,y=Xccc.alloc (.cells zN.toArray 41):=⟨_,rfl⟩
      rw [←eA]
      have hb:Below Xccc.heap.size Xccc Xccca:=by rw [eA];exact (Hr _ _).alloc (Ho _) _
      have Y:Hid (Bk Xccca Xccc.heap.size zN):=by unfold Hid;rw [eA];exact aU Xccc 41 zN
      have kzA:Xccc.heap.size+1≤Xccca.heap.size:=by rw [eA];simp
      clear eA
      have kz:=hb.size
      replace CB:=hid (CB.out.below hb)
      replace OR:=hid (P16.own_below OR.out hbR hb)
      replace hbR:=Hg hbR kz
      refine hK.out _ _ (bJ af (by omega) hb) (fun ai=>?_)
      clear hK K af
      have af:=ai
      clear ai
      try simp only [aT]
      clear hb
      obtain ⟨C,eC⟩:∃ x,x=Xccc.heap.size:=⟨_,rfl⟩
      rw [←eC] at Y ⊢
      have C1:=Hl eC
      have C2:=Hl eC.symm
      clear eC
      refine di 6 rfl fun K hK=>?_
      go_simp
      go_wp2_with fail
      refine (sJ c d V _ bW bO bX bI bR nR Z hSs.out hnR _ CB.out.copy hbR (P16.aZ OR.out)).mono ?_
      rintro e Xcccac ⟨⟨u,rfl,hO⟩,hb⟩
      rw [EU.out] at hO
      rw [EU.out]
      have kz:=hb.size
      replace CB:=hid (CB.out.below hb)
      replace OR:=hid (P16.own_below OR.out hbR hb)
      replace hbR:=Hg hbR kz
      replace Y:=hid (Y.out.below hb)
      obtain ⟨p1,q1,p2,q2,p3,q3,p4,q4,rfl,hA,hB,hD,hE⟩:=hO.at
      have OU:=hid hO
      clear hO hA hB hD hE
      refine hK.out _ _ (bJ af (by omega) hb) (fun ai=>?_)
      clear hK K af
      have af:=ai
      clear ai
      try simp only
      clear hb
      refine bF 7 (.tuple #[.agg (zD U p1 q1 p2 q2 p3 q3 p4 q4).toArray,zI N]) rfl ?_
      try simp only [aT]
      refine bF 8 (.agg (zD U p1 q1 p2 q2 p3 q3 p4 q4).toArray) rfl ?_
      try simp only [aT]
      refine bF 9 (zI N) rfl ?_
      try simp only [aT]
      obtain ⟨zQ0,zQ1,zQ2,zQ3,zQ4,zQ5⟩:=Y.out.f6
      obtain ⟨yQ0,yQ1,yQ2,yQ3,yQ4,yQ5⟩:=Y.out.a6
      have hlY:=Y.out.1
      refine di 11 rfl fun K hK=>?_
      go_simp
      obtain ⟨w6,e6⟩:∃ y,y=aG Xcccac C (zI U.c) (.slice p1 U.nW q1) (zI U.g) (.slice p2 U.nO q2) (.slice p3 U.nX q3) (.slice p4 U.nI q4):=⟨_,rfl⟩
      have hB6:Below w1'.heap.size w1' w6:=by rw [e6];exact ax af (by omega) _ _ _ _ _ _
      have hz6:w6.heap.size=Xcccac.heap.size:=by rw [e6];exact au _ _ _ _ _ _ _ _
      have Y6:Bk w6 C (zD U p1 q1 p2 q2 p3 q3 p4 q4):=by rw [e6];exact gy Y.out rfl _ _ _ _ _ _
      have O6:=OU.out.sm (w':=w6) (Hl hz6.symm) (fun b q1 q2=>by rw [e6];exact aH (by omega) _ _ _ _ _ _)
      unfold aG at e6
      rw [←e6]
      have Y7:=hid Y6
      have O7:=hid O6
      clear e6 Y6 O6 Y OU yQ0 yQ1 yQ2 yQ3 yQ4 yQ5 zQ0 zQ1 zQ2 zQ3 zQ4 zQ5 hlY
      refine hK.out _ _ hB6 (fun ai=>?_)
      clear af hK K
      have af:=ai
      clear ai
      try simp only [aT]
      refine bF 12 (zI N) rfl ?_
      try simp only [aT]
      refine Hy (by kernel_rfl) ?_ _
      go_wp2
      go_meet
      case rel=>exact ⟨C,_,_,p1,q1,p2,q2,p3,q3,p4,q4,rfl,rfl,Y7.out,O7.out,⟨⟨by omega,by omega⟩,⟨by omega,by omega,by omega⟩,by omega⟩,hB6⟩
    ·go_simp
     obtain ⟨Xcca,eA⟩:∃ y,y=Xcc.alloc (.cells zN.toArray 41):=⟨_,rfl⟩
     rw [←eA]
     have hb:Below Xcc.heap.size Xcc Xcca:=by rw [eA];exact (Hr _ _).alloc (Ho _) _
     have Y:Hid (Bk Xcca Xcc.heap.size zN):=by unfold Hid;rw [eA];exact aU Xcc 41 zN
     have kzA:Xcc.heap.size+1≤Xcca.heap.size:=by rw [eA];simp
     clear eA
     have kz:=hb.size
     replace CB:=hid (CB.out.below hb)
     refine hK.out _ _ (bJ af (by omega) hb) (fun ai=>?_)
     clear hK K af
     have af:=ai
     clear ai
     try simp only [aT]
     clear hb
     obtain ⟨C,eC⟩:∃ x,x=Xcc.heap.size:=⟨_,rfl⟩
     rw [←eC] at Y ⊢
     have C1:=Hl eC
     have C2:=Hl eC.symm
     clear eC
     refine di 5 rfl fun K hK=>?_
     go_simp
     go_wp2_with fail
     refine (P16.yu aR nR kR Z hnR _ (P16.iL HR.out (ah B2.out af))).mono ?_
     rintro e Xccac ⟨rfl,g1,hl,hb⟩
     have kz:=hb.size
     replace CB:=hid (CB.out.below hb)
     replace Y:=hid (Y.out.below hb)
     have OR:=hid g1
     clear g1
     obtain ⟨bR,ebR⟩:∃ b,b=Xcca.heap.size:=⟨_,rfl⟩
     rw [←ebR] at OR hl ⊢
     have hbR:bR<Xccac.heap.size:=by omega
     clear ebR
     refine hK.out _ _ (bJ af (by omega) hb) (fun ai=>?_)
     clear hK K af
     have af:=ai
     clear ai
     try simp only [aT]
     clear hb
     refine di 6 rfl fun K hK=>?_
     go_simp
     go_wp2_with fail
     refine (sJ c d V _ bW bO bX bI bR nR Z hSs.out hnR _ CB.out.copy hbR (P16.aZ OR.out)).mono ?_
     rintro e Xccacc ⟨⟨u,rfl,hO⟩,hb⟩
     rw [EU.out] at hO
     rw [EU.out]
     have kz:=hb.size
     replace CB:=hid (CB.out.below hb)
     replace OR:=hid (P16.own_below OR.out hbR hb)
     replace hbR:=Hg hbR kz
     replace Y:=hid (Y.out.below hb)
     obtain ⟨p1,q1,p2,q2,p3,q3,p4,q4,rfl,hA,hB,hD,hE⟩:=hO.at
     have OU:=hid hO
     clear hO hA hB hD hE
     refine hK.out _ _ (bJ af (by omega) hb) (fun ai=>?_)
     clear hK K af
     have af:=ai
     clear ai
     try simp only
     clear hb
     refine bF 7 (.tuple #[.agg (zD U p1 q1 p2 q2 p3 q3 p4 q4).toArray,zI N]) rfl ?_
     try simp only [aT]
     refine bF 8 (.agg (zD U p1 q1 p2 q2 p3 q3 p4 q4).toArray) rfl ?_
     try simp only [aT]
     refine bF 9 (zI N) rfl ?_
     try simp only [aT]
     obtain ⟨zQ0,zQ1,zQ2,zQ3,zQ4,zQ5⟩:=Y.out.f6
     obtain ⟨yQ0,yQ1,yQ2,yQ3,yQ4,yQ5⟩:=Y.out.a6
     have hlY:=Y.out.1
     refine di 11 rfl fun K hK=>?_
     go_simp
     obtain ⟨w6,e6⟩:∃ y,y=aG Xccacc C (zI U.c) (.slice p1 U.nW q1) (zI U.g) (.slice p2 U.nO q2) (.slice p3 U.nX q3) (.slice p4 U.nI q4):=⟨_,rfl⟩
     have hB6:Below w1'.heap.size w1' w6:=by rw [e6];exact ax af (by omega) _ _ _ _ _ _
     have hz6:w6.heap.size=Xccacc.heap.size:=by rw [e6];exact au _ _ _ _ _ _ _ _
     have Y6:Bk w6 C (zD U p1 q1 p2 q2 p3 q3 p4 q4):=by rw [e6];exact gy Y.out rfl _ _ _ _ _ _
     have O6:=OU.out.sm (w':=w6) (Hl hz6.symm) (fun b q1 q2=>by rw [e6];exact aH (by omega) _ _ _ _ _ _)
     unfold aG at e6
     rw [←e6]
     have Y7:=hid Y6
     have O7:=hid O6
     clear e6 Y6 O6 Y OU yQ0 yQ1 yQ2 yQ3 yQ4 yQ5 zQ0 zQ1 zQ2 zQ3 zQ4 zQ5 hlY
     refine hK.out _ _ hB6 (fun ai=>?_)
     clear af hK K
     have af:=ai
     clear ai
     try simp only [aT]
     refine bF 12 (zI N) rfl ?_
     try simp only [aT]
     refine Hy (by kernel_rfl) ?_ _
     go_wp2
     go_meet
     case rel=>exact ⟨C,_,_,p1,q1,p2,q2,p3,q3,p4,q4,rfl,rfl,Y7.out,O7.out,⟨⟨by omega,by omega⟩,⟨by omega,by omega,by omega⟩,by omega⟩,hB6⟩
   ·go_simp
    obtain ⟨Xca,eA⟩:∃ y,y=Xc.alloc (.cells zN.toArray 41):=⟨_,rfl⟩
    rw [←eA]
    have hb:Below Xc.heap.size Xc Xca:=by rw [eA];exact (Hr _ _).alloc (Ho _) _
    have Y:Hid (Bk Xca Xc.heap.size zN):=by unfold Hid;rw [eA];exact aU Xc 41 zN
    have kzA:Xc.heap.size+1≤Xca.heap.size:=by rw [eA];simp
    clear eA
    have kz:=hb.size
    refine hK.out _ _ (bJ af (by omega) hb) (fun ai=>?_)
    clear hK K af
    have af:=ai
    clear ai
    try simp only [aT]
    clear hb
    obtain ⟨C,eC⟩:∃ x,x=Xc.heap.size:=⟨_,rfl⟩
    rw [←eC] at Y ⊢
    have C1:=Hl eC
    have C2:=Hl eC.symm
    clear eC
    refine di 3 rfl fun K hK=>?_
    go_simp
    go_wp2_with fail
    refine (DI _ V hSs.out _ (dw HC.out (ah B2.out af))).mono ?_
    rintro e Xcac ⟨⟨u,rfl,hC⟩,hb⟩
    have kz:=hb.size
    replace Y:=hid (Y.out.below hb)
    obtain ⟨bW,bO,bX,bI,hi,q0,q1,q2,q3,q4,q5,rfl,g1,g2,g3,g4⟩:=hC
    have CB:Hid (gq _ Xcac (.agg (zC V bW V.nW bO V.nO bX V.nX bI V.nI).toArray) V):=⟨bW,bO,bX,bI,hi,q0,q1,q2,q3,q4,q5,rfl,g1,g2,g3,g4⟩
    clear g1 g2 g3 g4 q0 q1 q2 q3 q4 q5
    refine hK.out _ _ (bJ af (by omega) hb) (fun ai=>?_)
    clear hK K af
    have af:=ai
    clear ai
    try simp only [aT]
    clear hb
    refine di 5 rfl fun K hK=>?_
    go_simp
    go_wp2_with fail
    refine (P16.yu aR nR kR Z hnR _ (P16.iL HR.out (ah B2.out af))).mono ?_
    rintro e Xcacc ⟨rfl,g1,hl,hb⟩
    have kz:=hb.size
    replace CB:=hid (CB.out.below hb)
    replace Y:=hid (Y.out.below hb)
    have OR:=hid g1
    clear g1
    obtain ⟨bR,ebR⟩:∃ b,b=Xcac.heap.size:=⟨_,rfl⟩
    rw [←ebR] at OR hl ⊢
    have hbR:bR<Xcacc.heap.size:=by omega
    clear ebR
    refine hK.out _ _ (bJ af (by omega) hb) (fun ai=>?_)
    clear hK K af
    have af:=ai
    clear ai
    try simp only [aT]
    clear hb
    refine di 6 rfl fun K hK=>?_
    go_simp
    go_wp2_with fail
    refine (sJ c d V _ bW bO bX bI bR nR Z hSs.out hnR _ CB.out.copy hbR (P16.aZ OR.out)).mono ?_
    rintro e Xcaccc ⟨⟨u,rfl,hO⟩,hb⟩
    rw [EU.out] at hO
    rw [EU.out]
    have kz:=hb.size
    replace CB:=hid (CB.out.below hb)
    replace OR:=hid (P16.own_below OR.out hbR hb)
    replace hbR:=Hg hbR kz
    replace Y:=hid (Y.out.below hb)
    obtain ⟨p1,q1,p2,q2,p3,q3,p4,q4,rfl,hA,hB,hD,hE⟩:=hO.at
    have OU:=hid hO
    clear hO hA hB hD hE
    refine hK.out _ _ (bJ af (by omega) hb) (fun ai=>?_)
    clear hK K af
    have af:=ai
    clear ai
    try simp only
    clear hb
    refine bF 7 (.tuple #[.agg (zD U p1 q1 p2 q2 p3 q3 p4 q4).toArray,zI N]) rfl ?_
    try simp only [aT]
    refine bF 8 (.agg (zD U p1 q1 p2 q2 p3 q3 p4 q4).toArray) rfl ?_
    try simp only [aT]
    refine bF 9 (zI N) rfl ?_
    try simp only [aT]
    obtain ⟨zQ0,zQ1,zQ2,zQ3,zQ4,zQ5⟩:=Y.out.f6
    obtain ⟨yQ0,yQ1,yQ2,yQ3,yQ4,yQ5⟩:=Y.out.a6
    have hlY:=Y.out.1
    refine di 11 rfl fun K hK=>?_
    go_simp
    obtain ⟨w6,e6⟩:∃ y,y=aG Xcaccc C (zI U.c) (.slice p1 U.nW q1) (zI U.g) (.slice p2 U.nO q2) (.slice p3 U.nX q3) (.slice p4 U.nI q4):=⟨_,rfl⟩
    have hB6:Below w1'.heap.size w1' w6:=by rw [e6];exact ax af (by omega) _ _ _ _ _ _
    have hz6:w6.heap.size=Xcaccc.heap.size:=by rw [e6];exact au _ _ _ _ _ _ _ _
    have Y6:Bk w6 C (zD U p1 q1 p2 q2 p3 q3 p4 q4):=by rw [e6];exact gy Y.out rfl _ _ _ _ _ _
    have O6:=OU.out.sm (w':=w6) (Hl hz6.symm) (fun b q1 q2=>by rw [e6];exact aH (by omega) _ _ _ _ _ _)
    unfold aG at e6
    rw [←e6]
    have Y7:=hid Y6
    have O7:=hid O6
    clear e6 Y6 O6 Y OU yQ0 yQ1 yQ2 yQ3 yQ4 yQ5 zQ0 zQ1 zQ2 zQ3 zQ4 zQ5 hlY
    refine hK.out _ _ hB6 (fun ai=>?_)
    clear af hK K
    have af:=ai
    clear ai
    try simp only [aT]
    refine bF 12 (zI N) rfl ?_
    try simp only [aT]
    refine Hy (by kernel_rfl) ?_ _
    go_wp2
    go_meet
    case rel=>exact ⟨C,_,_,p1,q1,p2,q2,p3,q3,p4,q4,rfl,rfl,Y7.out,O7.out,⟨⟨by omega,by omega⟩,⟨by omega,by omega,by omega⟩,by omega⟩,hB6⟩
  ·go_simp
   obtain ⟨Xa,eA⟩:∃ y,y=X.alloc (.cells zN.toArray 41):=⟨_,rfl⟩
   rw [←eA]
   have hb:Below X.heap.size X Xa:=by rw [eA];exact (Hr _ _).alloc (Ho _) _
   have Y:Hid (Bk Xa X.heap.size zN):=by unfold Hid;rw [eA];exact aU X 41 zN
   have kzA:X.heap.size+1≤Xa.heap.size:=by rw [eA];simp
   clear eA
   have kz:=hb.size
   refine hK.out _ _ (bJ af (by omega) hb) (fun ai=>?_)
   clear hK K af
   have af:=ai
   clear ai
   try simp only [aT]
   clear hb
   obtain ⟨C,eC⟩:∃ x,x=X.heap.size:=⟨_,rfl⟩
   rw [←eC] at Y ⊢
   have C1:=Hl eC
   have C2:=Hl eC.symm
   clear eC
   refine di 1 rfl fun K hK=>?_
   go_simp
   go_wp2_with fail
   refine (uy c d _).mono ?_
   rintro e Xac ⟨rfl,hb⟩
   have kz:=hb.size
   replace Y:=hid (Y.out.below hb)
   refine hK.out _ _ (bJ af (by omega) hb) (fun ai=>?_)
   clear hK K af
   have af:=ai
   clear ai
   try simp only [aT]
   clear hb
   refine di 3 rfl fun K hK=>?_
   go_simp
   go_wp2_with fail
   refine (DI _ V hSs.out _ (dw HC.out (ah B2.out af))).mono ?_
   rintro e Xacc ⟨⟨u,rfl,hC⟩,hb⟩
   have kz:=hb.size
   replace Y:=hid (Y.out.below hb)
   obtain ⟨bW,bO,bX,bI,hi,q0,q1,q2,q3,q4,q5,rfl,g1,g2,g3,g4⟩:=hC
   have CB:Hid (gq _ Xacc (.agg (zC V bW V.nW bO V.nO bX V.nX bI V.nI).toArray) V):=⟨bW,bO,bX,bI,hi,q0,q1,q2,q3,q4,q5,rfl,g1,g2,g3,g4⟩
   clear g1 g2 g3 g4 q0 q1 q2 q3 q4 q5
   refine hK.out _ _ (bJ af (by omega) hb) (fun ai=>?_)
   clear hK K af
   have af:=ai
   clear ai
   try simp only [aT]
   clear hb
   refine di 5 rfl fun K hK=>?_
   go_simp
   go_wp2_with fail
   refine (P16.yu aR nR kR Z hnR _ (P16.iL HR.out (ah B2.out af))).mono ?_
   rintro e Xaccc ⟨rfl,g1,hl,hb⟩
   have kz:=hb.size
   replace CB:=hid (CB.out.below hb)
   replace Y:=hid (Y.out.below hb)
   have OR:=hid g1
   clear g1
   obtain ⟨bR,ebR⟩:∃ b,b=Xacc.heap.size:=⟨_,rfl⟩
   rw [←ebR] at OR hl ⊢
   have hbR:bR<Xaccc.heap.size:=by omega
   clear ebR
   refine hK.out _ _ (bJ af (by omega) hb) (fun ai=>?_)
   clear hK K af
   have af:=ai
   clear ai
   try simp only [aT]
   clear hb
   refine di 6 rfl fun K hK=>?_
   go_simp
   go_wp2_with fail
   refine (sJ c d V _ bW bO bX bI bR nR Z hSs.out hnR _ CB.out.copy hbR (P16.aZ OR.out)).mono ?_
   rintro e Xacccc ⟨⟨u,rfl,hO⟩,hb⟩
   rw [EU.out] at hO
   rw [EU.out]
   have kz:=hb.size
   replace CB:=hid (CB.out.below hb)
   replace OR:=hid (P16.own_below OR.out hbR hb)
   replace hbR:=Hg hbR kz
   replace Y:=hid (Y.out.below hb)
   obtain ⟨p1,q1,p2,q2,p3,q3,p4,q4,rfl,hA,hB,hD,hE⟩:=hO.at
   have OU:=hid hO
   clear hO hA hB hD hE
   refine hK.out _ _ (bJ af (by omega) hb) (fun ai=>?_)
   clear hK K af
   have af:=ai
   clear ai
   try simp only
   clear hb
   refine bF 7 (.tuple #[.agg (zD U p1 q1 p2 q2 p3 q3 p4 q4).toArray,zI N]) rfl ?_
   try simp only [aT]
   refine bF 8 (.agg (zD U p1 q1 p2 q2 p3 q3 p4 q4).toArray) rfl ?_
   try simp only [aT]
   refine bF 9 (zI N) rfl ?_
   try simp only [aT]
   obtain ⟨zQ0,zQ1,zQ2,zQ3,zQ4,zQ5⟩:=Y.out.f6
   obtain ⟨yQ0,yQ1,yQ2,yQ3,yQ4,yQ5⟩:=Y.out.a6
   have hlY:=Y.out.1
   refine di 11 rfl fun K hK=>?_
   go_simp
   obtain ⟨w6,e6⟩:∃ y,y=aG Xacccc C (zI U.c) (.slice p1 U.nW q1) (zI U.g) (.slice p2 U.nO q2) (.slice p3 U.nX q3) (.slice p4 U.nI q4):=⟨_,rfl⟩
   have hB6:Below w1'.heap.size w1' w6:=by rw [e6];exact ax af (by omega) _ _ _ _ _ _
   have hz6:w6.heap.size=Xacccc.heap.size:=by rw [e6];exact au _ _ _ _ _ _ _ _
   have Y6:Bk w6 C (zD U p1 q1 p2 q2 p3 q3 p4 q4):=by rw [e6];exact gy Y.out rfl _ _ _ _ _ _
   have O6:=OU.out.sm (w':=w6) (Hl hz6.symm) (fun b q1 q2=>by rw [e6];exact aH (by omega) _ _ _ _ _ _)
   unfold aG at e6
   rw [←e6]
   have Y7:=hid Y6
   have O7:=hid O6
   clear e6 Y6 O6 Y OU yQ0 yQ1 yQ2 yQ3 yQ4 yQ5 zQ0 zQ1 zQ2 zQ3 zQ4 zQ5 hlY
   refine hK.out _ _ hB6 (fun ai=>?_)
   clear af hK K
   have af:=ai
   clear ai
   try simp only [aT]
   refine bF 12 (zI N) rfl ?_
   try simp only [aT]
   refine Hy (by kernel_rfl) ?_ _
   go_wp2
   go_meet
   case rel=>exact ⟨C,_,_,p1,q1,p2,q2,p3,q3,p4,q4,rfl,rfl,Y7.out,O7.out,⟨⟨by omega,by omega⟩,⟨by omega,by omega,by omega⟩,by omega⟩,hB6⟩
 case rest=>
  clear m0 m1 hlM
  clear y0 y1 y2 y3 y4 y5 hlS
  obtain ⟨w2,hwn⟩:∃ wn,wn=wc:=⟨_,rfl⟩
  subst hwn
  obtain ⟨C1,l1,h1,p1,q1,p2,q2,p3,q3,p4,q4,rfl,rfl,hG,hO,⟨⟨c1,c2⟩,⟨c3,c4,c5⟩,c6⟩,hb⟩:=hcut
  have kz2:=hb.size
  have B2s:Hid (w.heap.size+2≤w2.heap.size):=by unfold Hid;omega
  have B3:=hid (ah B2.out hb)
  have M3:=hid (M2.out.below hb)
  have S3:=hid (S2.out.below hb)
  have O1:=hid hO
  have G1:=hid hG
  clear B2 M2 S2 hb hO hG
  obtain ⟨y0,y1,y2,y3,y4,y5⟩:=S3.out.a6
  have hlS:w.heap.size+1<w2.heap.size:=S3.out.1
  go_wp2_with fail
  clear y0 y1 y2 y3 y4 y5 hlS
  refine (DI _ V hSs.out _ (dw HC.out B3.out)).mono ?_
  rintro e w3 ⟨⟨u,rfl,hC⟩,hb⟩
  have kz3:=hb.size
  have B4:=hid (ah B3.out hb)
  have M4:=hid (M3.out.below hb)
  have S4:=hid (S3.out.below hb)
  have O2:=hid (O1.out.below c5 hb)
  have G2:=hid (G1.out.below hb)
  obtain ⟨dW,dO,dX,dI,hi,q0,q1,q2,q3,q4,q5,rfl,g1,g2,g3,g4⟩:=hC
  have CB:Hid (gq w2.heap.size w3 (.agg (zC V dW V.nW dO V.nO dX V.nX dI V.nI).toArray) V):=⟨dW,dO,dX,dI,hi,q0,q1,q2,q3,q4,q5,rfl,g1,g2,g3,g4⟩
  have OX:=hid CB.out.own
  clear g1 g2 g3 g4 q0 q1 q2 q3 q4 q5
  clear B3 M3 S3 O1 G1 hb
  go_wp2_with fail
  obtain ⟨w4,en,hbx,hX,hz4⟩:=bx1 w3 (zC V dW V.nW dO V.nO dX V.nX dI V.nI) 41
  rw [←en]
  clear en
  refine (P16.yu aR nR kR Z hnR _ (P16.iL HR.out (ah B4.out hbx))).mono ?_
  rintro e w5 ⟨rfl,hR9,hl5,hb5⟩
  have hbz:Below w3.heap.size w3 w5:=ah hbx hb5
  have kz5:=hbz.size
  have B5:=hid (ah B4.out hbz)
  have M5:=hid (M4.out.below hbz)
  have S5:=hid (S4.out.below hbz)
  have O3:=hid (O2.out.below (by omega) hbz)
  have G3:=hid (G2.out.below hbz)
  have CB5:=hid (CB.out.below hbz)
  have OX5:=hid (OX.out.below (Ho _) hbz)
  have OR5:=hid hR9
  have X5:=hid (hX.below hb5)
  obtain ⟨dR,edR⟩:∃ x,x=w4.heap.size:=⟨_,rfl⟩
  rw [←edR] at OR5 ⊢
  have dR1:=Hl edR
  have dR2:=Hl edR.symm
  have hdR5:dR<w5.heap.size:=by omega
  clear OX B4 M4 S4 O2 G2 CB hX hbx hbz hb5 hR9 edR
  obtain ⟨xb,exb⟩:∃ x,x=w3.heap.size:=⟨_,rfl⟩
  rw [←exb] at X5 OX5 ⊢
  have xb1:=Hl exb
  have xb2:=Hl exb.symm
  clear exb
  go_upto_region 9 with fail
  go_cut [12,13] (fun s t wx=>∃ C l h s1 t1 s2 t2 s3 t3 s4 t4,zP C 0=s∧zI (N:Int)=t∧Bk wx C (zD U s1 t1 s2 t2 s3 t3 s4 t4)∧aV l h wx (.agg (zD U s1 t1 s2 t2 s3 t3 s4 t4).toArray) U∧((w5.heap.size≤C∧C<wx.heap.size)∧(w5.heap.size≤l∧l≤h∧h≤wx.heap.size)∧(C<l∨h≤C))∧Below w5.heap.size w5 wx)
  case first=>
   obtain ⟨m0,m1⟩:=M5.out.a2
   have hlM:w.heap.size<w5.heap.size:=M5.out.1
   obtain ⟨x0,x1,x2,x3,x4,x5⟩:=X5.out.a6
   have hlX:xb<w5.heap.size:=X5.out.1
   refine Hu (S:=fun w'=>Below (w5.heap.size) w5 w') (by kernel_rfl) ((Hr _ _).drew) ?_
   intro af
   obtain ⟨X,hX⟩:∃ X,X=w5.drew:=⟨_,rfl⟩
   have hz1:w5.heap.size≤X.heap.size:=by rw [hX];exact Ho _
   rw [←hX] at af ⊢
   clear hX
   refine bF 0 (.agg #[zI c,zI d]) rfl ?_
   try simp only [aT]
   refine bF 2 (.agg (zC V dW V.nW dO V.nO dX V.nX dI V.nI).toArray) rfl ?_
   try simp only [aT]
   refine bF 3 (zS dR nR nR) rfl ?_
   try simp only [aT]
   refine y9 [1,8] (AllReadyH.cons rfl (fun K hK=>?_) (AllReadyH.cons rfl (fun K hK=>?_) AllReadyH.nil))
   ·go_simp
    go_wp2_with fail
    refine (uy c d _).mono ?_
    rintro e Xc ⟨rfl,hb⟩
    have kz:=hb.size
    refine hK.out _ _ (bJ af (by omega) hb) (fun ai=>?_)
    clear hK K af
    have af:=ai
    clear ai
    try simp only [aT]
    clear hb
    refine y9 [4,8] (AllReadyH.cons rfl (fun K hK=>?_) (AllReadyH.cons rfl (fun K hK=>?_) AllReadyH.nil))
    ·go_simp
     go_wp2_with fail
     refine (lT c d V _ dW dO dX dI dR nR Z hSs.out hnR hwf.out hwR.out _ (((ah B5.out af).cell (p:=(zA 0 0)) hpos).trans hg0.out) (CB5.out.below af).copy (by omega) (P16.aZ (P16.own_below OR5.out hdR5 af))).mono ?_
     rintro e Xcc ⟨⟨u,rfl,hO⟩,hb⟩
     rw [EU.out] at hO
     rw [EU.out]
     have kz:=hb.size
     obtain ⟨s1,t1,s2,t2,s3,t3,s4,t4,rfl,hA,hB,hD,hE⟩:=hO.at
     have OU:=hid hO
     clear hO hA hB hD hE
     refine hK.out _ _ (bJ af (by omega) hb) (fun ai=>?_)
     clear hK K af
     have af:=ai
     clear ai
     try simp only
     clear hb
     refine bF 5 (.tuple #[.agg (zD U s1 t1 s2 t2 s3 t3 s4 t4).toArray,zI N]) rfl ?_
     try simp only [aT]
     refine bF 6 (.agg (zD U s1 t1 s2 t2 s3 t3 s4 t4).toArray) rfl ?_
     try simp only [aT]
     refine bF 7 (zI N) rfl ?_
     try simp only [aT]
     refine di 8 rfl fun K hK=>?_
     go_simp
     obtain ⟨Xcca,eA⟩:∃ y,y=Xcc.alloc (.cells zN.toArray 41):=⟨_,rfl⟩
     rw [←eA]
     have hb:Below Xcc.heap.size Xcc Xcca:=by rw [eA];exact (Hr _ _).alloc (Ho _) _
     have Y:Hid (Bk Xcca Xcc.heap.size zN):=by unfold Hid;rw [eA];exact aU Xcc 41 zN
     have kzA:Xcc.heap.size+1≤Xcca.heap.size:=by rw [eA];simp
     clear eA
     have kz:=hb.size
     replace OU:=hid (OU.out.below (by omega) hb)
     refine hK.out _ _ (bJ af (by omega) hb) (fun ai=>?_)
     clear hK K af
     have af:=ai
     clear ai
     try simp only [aT]
     clear hb
     obtain ⟨C,eC⟩:∃ x,x=Xcc.heap.size:=⟨_,rfl⟩
     rw [←eC] at Y ⊢
     have C1:=Hl eC
     have C2:=Hl eC.symm
     clear eC
     obtain ⟨zQ0,zQ1,zQ2,zQ3,zQ4,zQ5⟩:=Y.out.f6
     obtain ⟨yQ0,yQ1,yQ2,yQ3,yQ4,yQ5⟩:=Y.out.a6
     have hlY:=Y.out.1
     refine di 9 rfl fun K hK=>?_
     go_simp
     obtain ⟨w6,e6⟩:∃ y,y=aG Xcca C (zI U.c) (.slice s1 U.nW t1) (zI U.g) (.slice s2 U.nO t2) (.slice s3 U.nX t3) (.slice s4 U.nI t4):=⟨_,rfl⟩
     have hB6:Below w5.heap.size w5 w6:=by rw [e6];exact ax af (by omega) _ _ _ _ _ _
     have hz6:w6.heap.size=Xcca.heap.size:=by rw [e6];exact au _ _ _ _ _ _ _ _
     have Y6:Bk w6 C (zD U s1 t1 s2 t2 s3 t3 s4 t4):=by rw [e6];exact gy Y.out rfl _ _ _ _ _ _
     have O6:=OU.out.sm (w':=w6) (Hl hz6.symm) (fun b q1 q2=>by rw [e6];exact aH (by omega) _ _ _ _ _ _)
     unfold aG at e6
     rw [←e6]
     have Y7:=hid Y6
     have O7:=hid O6
     clear e6 Y6 O6 Y OU yQ0 yQ1 yQ2 yQ3 yQ4 yQ5 zQ0 zQ1 zQ2 zQ3 zQ4 zQ5 hlY
     refine hK.out _ _ hB6 (fun ai=>?_)
     clear af hK K
     have af:=ai
     clear ai
     try simp only [aT]
     refine bF 10 (zI N) rfl ?_
     try simp only [aT]
     refine Hy (by kernel_rfl) ?_ _
     go_wp2
     go_meet
     case rel=>exact ⟨C,_,_,s1,t1,s2,t2,s3,t3,s4,t4,rfl,rfl,Y7.out,O7.out,⟨⟨by omega,by omega⟩,⟨by omega,by omega,by omega⟩,by omega⟩,hB6⟩
    ·go_simp
     obtain ⟨Xca,eA⟩:∃ y,y=Xc.alloc (.cells zN.toArray 41):=⟨_,rfl⟩
     rw [←eA]
     have hb:Below Xc.heap.size Xc Xca:=by rw [eA];exact (Hr _ _).alloc (Ho _) _
     have Y:Hid (Bk Xca Xc.heap.size zN):=by unfold Hid;rw [eA];exact aU Xc 41 zN
     have kzA:Xc.heap.size+1≤Xca.heap.size:=by rw [eA];simp
     clear eA
     have kz:=hb.size
     refine hK.out _ _ (bJ af (by omega) hb) (fun ai=>?_)
     clear hK K af
     have af:=ai
     clear ai
     try simp only [aT]
     clear hb
     obtain ⟨C,eC⟩:∃ x,x=Xc.heap.size:=⟨_,rfl⟩
     rw [←eC] at Y ⊢
     have C1:=Hl eC
     have C2:=Hl eC.symm
     clear eC
     refine di 4 rfl fun K hK=>?_
     go_simp
     go_wp2_with fail
     refine (lT c d V _ dW dO dX dI dR nR Z hSs.out hnR hwf.out hwR.out _ (((ah B5.out af).cell (p:=(zA 0 0)) hpos).trans hg0.out) (CB5.out.below af).copy (by omega) (P16.aZ (P16.own_below OR5.out hdR5 af))).mono ?_
     rintro e Xcac ⟨⟨u,rfl,hO⟩,hb⟩
     rw [EU.out] at hO
     rw [EU.out]
     have kz:=hb.size
     replace Y:=hid (Y.out.below hb)
     obtain ⟨s1,t1,s2,t2,s3,t3,s4,t4,rfl,hA,hB,hD,hE⟩:=hO.at
     have OU:=hid hO
     clear hO hA hB hD hE
     refine hK.out _ _ (bJ af (by omega) hb) (fun ai=>?_)
     clear hK K af
     have af:=ai
     clear ai
     try simp only
     clear hb
     refine bF 5 (.tuple #[.agg (zD U s1 t1 s2 t2 s3 t3 s4 t4).toArray,zI N]) rfl ?_
     try simp only [aT]
     refine bF 6 (.agg (zD U s1 t1 s2 t2 s3 t3 s4 t4).toArray) rfl ?_
     try simp only [aT]
     refine bF 7 (zI N) rfl ?_
     try simp only [aT]
     obtain ⟨zQ0,zQ1,zQ2,zQ3,zQ4,zQ5⟩:=Y.out.f6
     obtain ⟨yQ0,yQ1,yQ2,yQ3,yQ4,yQ5⟩:=Y.out.a6
     have hlY:=Y.out.1
     refine di 9 rfl fun K hK=>?_
     go_simp
     obtain ⟨w6,e6⟩:∃ y,y=aG Xcac C (zI U.c) (.slice s1 U.nW t1) (zI U.g) (.slice s2 U.nO t2) (.slice s3 U.nX t3) (.slice s4 U.nI t4):=⟨_,rfl⟩
     have hB6:Below w5.heap.size w5 w6:=by rw [e6];exact ax af (by omega) _ _ _ _ _ _
     have hz6:w6.heap.size=Xcac.heap.size:=by rw [e6];exact au _ _ _ _ _ _ _ _
     have Y6:Bk w6 C (zD U s1 t1 s2 t2 s3 t3 s4 t4):=by rw [e6];exact gy Y.out rfl _ _ _ _ _ _
     have O6:=OU.out.sm (w':=w6) (Hl hz6.symm) (fun b q1 q2=>by rw [e6];exact aH (by omega) _ _ _ _ _ _)
     unfold aG at e6
     rw [←e6]
     have Y7:=hid Y6
     have O7:=hid O6
     clear e6 Y6 O6 Y OU yQ0 yQ1 yQ2 yQ3 yQ4 yQ5 zQ0 zQ1 zQ2 zQ3 zQ4 zQ5 hlY
     refine hK.out _ _ hB6 (fun ai=>?_)
     clear af hK K
     have af:=ai
     clear ai
     try simp only [aT]
     refine bF 10 (zI N) rfl ?_
     try simp only [aT]
     refine Hy (by kernel_rfl) ?_ _
     go_wp2
     go_meet
     case rel=>exact ⟨C,_,_,s1,t1,s2,t2,s3,t3,s4,t4,rfl,rfl,Y7.out,O7.out,⟨⟨by omega,by omega⟩,⟨by omega,by omega,by omega⟩,by omega⟩,hB6⟩
   ·go_simp
    obtain ⟨Xa,eA⟩:∃ y,y=X.alloc (.cells zN.toArray 41):=⟨_,rfl⟩
    rw [←eA]
    have hb:Below X.heap.size X Xa:=by rw [eA];exact (Hr _ _).alloc (Ho _) _
    have Y:Hid (Bk Xa X.heap.size zN):=by unfold Hid;rw [eA];exact aU X 41 zN
    have kzA:X.heap.size+1≤Xa.heap.size:=by rw [eA];simp
    clear eA
    have kz:=hb.size
    refine hK.out _ _ (bJ af (by omega) hb) (fun ai=>?_)
    clear hK K af
    have af:=ai
    clear ai
    try simp only [aT]
    clear hb
    obtain ⟨C,eC⟩:∃ x,x=X.heap.size:=⟨_,rfl⟩
    rw [←eC] at Y ⊢
    have C1:=Hl eC
    have C2:=Hl eC.symm
    clear eC
    refine di 1 rfl fun K hK=>?_
    go_simp
    go_wp2_with fail
    refine (uy c d _).mono ?_
    rintro e Xac ⟨rfl,hb⟩
    have kz:=hb.size
    replace Y:=hid (Y.out.below hb)
    refine hK.out _ _ (bJ af (by omega) hb) (fun ai=>?_)
    clear hK K af
    have af:=ai
    clear ai
    try simp only [aT]
    clear hb
    refine di 4 rfl fun K hK=>?_
    go_simp
    go_wp2_with fail
    refine (lT c d V _ dW dO dX dI dR nR Z hSs.out hnR hwf.out hwR.out _ (((ah B5.out af).cell (p:=(zA 0 0)) hpos).trans hg0.out) (CB5.out.below af).copy (by omega) (P16.aZ (P16.own_below OR5.out hdR5 af))).mono ?_
    rintro e Xacc ⟨⟨u,rfl,hO⟩,hb⟩
    rw [EU.out] at hO
    rw [EU.out]
    have kz:=hb.size
    replace Y:=hid (Y.out.below hb)
    obtain ⟨s1,t1,s2,t2,s3,t3,s4,t4,rfl,hA,hB,hD,hE⟩:=hO.at
    have OU:=hid hO
    clear hO hA hB hD hE
    refine hK.out _ _ (bJ af (by omega) hb) (fun ai=>?_)
    clear hK K af
    have af:=ai
    clear ai
    try simp only
    clear hb
    refine bF 5 (.tuple #[.agg (zD U s1 t1 s2 t2 s3 t3 s4 t4).toArray,zI N]) rfl ?_
    try simp only [aT]
    refine bF 6 (.agg (zD U s1 t1 s2 t2 s3 t3 s4 t4).toArray) rfl ?_
    try simp only [aT]
    refine bF 7 (zI N) rfl ?_
    try simp only [aT]
    obtain ⟨zQ0,zQ1,zQ2,zQ3,zQ4,zQ5⟩:=Y.out.f6
    obtain ⟨yQ0,yQ1,yQ2,yQ3,yQ4,yQ5⟩:=Y.out.a6
    have hlY:=Y.out.1
    refine di 9 rfl fun K hK=>?_
    go_simp
    obtain ⟨w6,e6⟩:∃ y,y=aG Xacc C (zI U.c) (.slice s1 U.nW t1) (zI U.g) (.slice s2 U.nO t2) (.slice s3 U.nX t3) (.slice s4 U.nI t4):=⟨_,rfl⟩
    have hB6:Below w5.heap.size w5 w6:=by rw [e6];exact ax af (by omega) _ _ _ _ _ _
    have hz6:w6.heap.size=Xacc.heap.size:=by rw [e6];exact au _ _ _ _ _ _ _ _
    have Y6:Bk w6 C (zD U s1 t1 s2 t2 s3 t3 s4 t4):=by rw [e6];exact gy Y.out rfl _ _ _ _ _ _
    have O6:=OU.out.sm (w':=w6) (Hl hz6.symm) (fun b q1 q2=>by rw [e6];exact aH (by omega) _ _ _ _ _ _)
    unfold aG at e6
    rw [←e6]
    have Y7:=hid Y6
    have O7:=hid O6
    clear e6 Y6 O6 Y OU yQ0 yQ1 yQ2 yQ3 yQ4 yQ5 zQ0 zQ1 zQ2 zQ3 zQ4 zQ5 hlY
    refine hK.out _ _ hB6 (fun ai=>?_)
    clear af hK K
    have af:=ai
    clear ai
    try simp only [aT]
    refine bF 10 (zI N) rfl ?_
    try simp only [aT]
    refine Hy (by kernel_rfl) ?_ _
    go_wp2
    go_meet
    case rel=>exact ⟨C,_,_,s1,t1,s2,t2,s3,t3,s4,t4,rfl,rfl,Y7.out,O7.out,⟨⟨by omega,by omega⟩,⟨by omega,by omega,by omega⟩,by omega⟩,hB6⟩
  case rest=>
   obtain ⟨w6,hwn⟩:∃ wn,wn=wc:=⟨_,rfl⟩
   subst hwn
   obtain ⟨C2,l2,h2,s1,t1,s2,t2,s3,t3,s4,t4,rfl,rfl,hG,hO,⟨⟨d1,d2⟩,⟨d3,d4,d5⟩,d6⟩,hb⟩:=hcut
   have kz6:=hb.size
   have B6:=hid (ah B5.out hb)
   have M6:=hid (M5.out.below hb)
   have S6:=hid (S5.out.below hb)
   have O4:=hid (O3.out.below (by omega) hb)
   have G4:=hid (G3.out.below hb)
   have CB6:=hid (CB5.out.below hb)
   have OR6:=hid (P16.own_below OR5.out hdR5 hb)
   have X6:=hid (X5.out.below hb)
   have OX6:=hid (OX5.out.below (by omega) hb)
   have P6:=hid hO
   have F6:=hid hG
   clear B5 M5 S5 O3 G3 CB5 OR5 X5 OX5 hb hO hG
   obtain ⟨y0,y1,y2,y3,y4,y5⟩:=G4.out.a6
   have hl1:C1<w6.heap.size:=G4.out.1
   obtain ⟨x0,x1,x2,x3,x4,x5⟩:=F6.out.a6
   have hl2:C2<w6.heap.size:=F6.out.1
   go_wp2_with fail
   refine (uP _ _ U (lZ HU.out.1) _ P6.out.at O4.out.at).mono ?_
   rintro e w7 ⟨rfl,hb⟩
   clear y0 y1 y2 y3 y4 y5 hl1
   clear x0 x1 x2 x3 x4 x5 hl2
   have kz:=hb.size
   have B_7:=hid (ah B6.out hb)
   have M_7:=hid (M6.out.below hb)
   have S_7:=hid (S6.out.below hb)
   have O_7:=hid (O4.out.below (by omega) hb)
   have G_7:=hid (G4.out.below hb)
   have CB_7:=hid (CB6.out.below hb)
   have OR_7:=hid (P16.own_below OR6.out (by omega) hb)
   have X_7:=hid (X6.out.below hb)
   have P_7:=hid (P6.out.below (by omega) hb)
   have F_7:=hid (F6.out.below hb)
   have OX_7:=hid (OX6.out.below (by omega) hb)
   clear B6 M6 S6 O4 G4 CB6 OR6 X6 P6 F6 OX6
   clear hb
   obtain ⟨y0,y1,y2,y3,y4,y5⟩:=S_7.out.a6
   have hlS:w.heap.size+1<w7.heap.size:=S_7.out.1
   obtain ⟨x0,x1,x2,x3,x4,x5⟩:=X_7.out.a6
   have hlX:xb<w7.heap.size:=X_7.out.1
   go_upto_region 12 with fail
   refine Hu (S:=fun w'=>Below (w7.heap.size) w7 w') (by kernel_rfl) ((Hr _ _).drew) ?_
   intro af
   obtain ⟨X0,hX0⟩:∃ X,X=w7.drew:=⟨_,rfl⟩
   have hz7:w7.heap.size≤X0.heap.size:=by rw [hX0];exact Ho _
   rw [←hX0] at af ⊢
   clear hX0
   refine bF 0 (.agg (zC V dW V.nW dO V.nO dX V.nX dI V.nI).toArray) rfl ?_
   try simp only [aT]
   refine bF 1 (.agg (zD V aW kW aO kO aX kX aI kI).toArray) rfl ?_
   try simp only [aT]
   refine di 2 rfl fun K hK=>?_
   go_simp
   go_wp2_with fail
   refine (DI _ V hSs.out _ (dw HC.out (ah B_7.out af))).mono ?_
   rintro e u1 ⟨⟨uu,rfl,hC⟩,hb⟩
   have ku1:=hb.size
   obtain ⟨eW,eO,eX,eI,hi,q0,q1,q2,q3,q4,q5,rfl,g1,g2,g3,g4⟩:=hC
   have CE:Hid (gq _ u1 (.agg (zC V eW V.nW eO V.nO eX V.nX eI V.nI).toArray) V):=⟨eW,eO,eX,eI,hi,q0,q1,q2,q3,q4,q5,rfl,g1,g2,g3,g4⟩
   clear g1 g2 g3 g4
   refine hK.out _ _ (bJ af (by omega) hb) (fun ai=>?_)
   clear hK K af
   have af:=ai
   clear ai
   try simp only [aT]
   clear hb
   refine di 3 rfl fun K hK=>?_
   go_simp
   go_wp2_with fail
   refine (uP _ _ V (lZ hSs.out) _ ((CB_7.out.below af).copy.at) CE.out.copy.at).mono ?_
   rintro e u2 ⟨rfl,hb⟩
   have ku2:=hb.size
   refine hK.out _ _ (bJ af (by omega) hb) (fun ai=>?_)
   clear hK K af
   have af:=ai
   clear ai
   try simp only [aT]
   clear hb CE
   refine bF 4 (.bool false) rfl ?_
   try simp only [aT]
   refine Hy (by kernel_rfl) ?_ _
   clear y0 y1 y2 y3 y4 y5 hlS
   clear x0 x1 x2 x3 x4 x5 hlX
   have kz:=af.size
   have B_8:=hid (ah B_7.out af)
   have M_8:=hid (M_7.out.below af)
   have S_8:=hid (S_7.out.below af)
   have O_8:=hid (O_7.out.below (by omega) af)
   have G_8:=hid (G_7.out.below af)
   have CB_8:=hid (CB_7.out.below af)
   have OR_8:=hid (P16.own_below OR_7.out (by omega) af)
   have X_8:=hid (X_7.out.below af)
   have P_8:=hid (P_7.out.below (by omega) af)
   have F_8:=hid (F_7.out.below af)
   have OX_8:=hid (OX_7.out.below (by omega) af)
   clear B_7 M_7 S_7 O_7 G_7 CB_7 OR_7 X_7 P_7 F_7 OX_7
   clear af
   go_wp2_with fail
   refine (P16.yu aR nR kR Z hnR _ (P16.iL HR.out B_8.out)).mono ?_
   rintro e w8 ⟨rfl,hRe,hle,hb⟩
   have RE:=hid hRe
   clear hRe
   have kz:=hb.size
   have B_9:=hid (ah B_8.out hb)
   have M_9:=hid (M_8.out.below hb)
   have S_9:=hid (S_8.out.below hb)
   have O_9:=hid (O_8.out.below (by omega) hb)
   have G_9:=hid (G_8.out.below hb)
   have CB_9:=hid (CB_8.out.below hb)
   have OR_9:=hid (P16.own_below OR_8.out (by omega) hb)
   have X_9:=hid (X_8.out.below hb)
   have P_9:=hid (P_8.out.below (by omega) hb)
   have F_9:=hid (F_8.out.below hb)
   have OX_9:=hid (OX_8.out.below (by omega) hb)
   clear B_8 M_8 S_8 O_8 G_8 CB_8 OR_8 X_8 P_8 F_8 OX_8
   clear hb
   go_wp2_with fail
   refine (P16.sH dR 0 nR _ 0 nR nR Z (by omega) _ (by omega) hle (P16.aZ OR_9.out) (P16.aZ RE.out)).mono ?_
   rintro e w9 ⟨rfl,hb⟩
   have kz:=hb.size
   have B_10:=hid (ah B_9.out hb)
   have M_10:=hid (M_9.out.below hb)
   have S_10:=hid (S_9.out.below hb)
   have O_10:=hid (O_9.out.below (by omega) hb)
   have G_10:=hid (G_9.out.below hb)
   have CB_10:=hid (CB_9.out.below hb)
   have OR_10:=hid (P16.own_below OR_9.out (by omega) hb)
   have X_10:=hid (X_9.out.below hb)
   have P_10:=hid (P_9.out.below (by omega) hb)
   have F_10:=hid (F_9.out.below hb)
   have OX_10:=hid (OX_9.out.below (by omega) hb)
   clear B_9 M_9 S_9 O_9 G_9 CB_9 OR_9 X_9 P_9 F_9 OX_9
   clear hb RE
   obtain ⟨x0,x1,x2,x3,x4,x5⟩:=X_10.out.a6
   have hlX:xb<w9.heap.size:=X_10.out.1
   go_wp2_with fail
   clear x0 x1 x2 x3 x4 x5 hlX
   refine (EI w2.heap.size xb _ V HV.out _ (by omega) (by omega) OX_10.out).mono ?_
   rintro e v1 ⟨rfl,_,kzm,hsm,hbm⟩
   have BV:Hid (Below w.heap.size w v1):=B_10.out.trans (hbm.mono (by have:=B2s.out;omega))
   have MV:=hid (M_10.out.sm kzm (hsm _ (by omega) (by omega)))
   have SV:=hid (S_10.out.sm kzm (hsm _ (by omega) (by omega)))
   have GV:=hid (G_10.out.sm kzm (hsm _ (by omega) (by omega)))
   have FV:=hid (F_10.out.sm kzm (hsm _ (by omega) (by omega)))
   have OV:=hid (O_10.out.sm kzm (fun b g1 g2=>hsm b (by omega) (by omega)))
   have PV:=hid (P_10.out.sm kzm (fun b g1 g2=>hsm b (by omega) (by omega)))
   have ORV:Hid (P16.iy v1 dR nR Z nR):=by
    have hs:=hsm dR (by omega) (.inr (by omega))
    exact ⟨fun i hi=>by rw [(hs i).1,(hs i).2];exact OR_10.out.1 i hi,fun k j hk hj=>by rw [(hs _).1];exact OR_10.out.2 k j hk hj⟩
   clear B_10 M_10 S_10 O_10 G_10 CB_10 OR_10 X_10 P_10 F_10 OX_10 hsm hbm
   go_wp2_with fail
   refine (Gl V.s4 dR nR nR Z (by omega) (FC HV.out) _ (by omega) ORV.out).mono ?_
   rintro e v2 ⟨rfl,_,hg,hz⟩
   have SG:∀ b,b<v1.heap.size→(¬ b=dR)→Sm v1 v2 b:=fun b hb hne=>bG hg hb (fun e=>by injection e with e;exact hne e)
   have kzm2:v1.heap.size≤v2.heap.size:=Hl hz.symm
   have BVa:Hid (Below w.heap.size w v2):=BV.out.grown hg (by omega) (fun kk e=>by cases e;have:=B2s.out;omega)
   have MVa:=hid (MV.out.sm kzm2 (SG _ (by omega) (by omega)))
   have SVa:=hid (SV.out.sm kzm2 (SG _ (by omega) (by omega)))
   have GVa:=hid (GV.out.sm kzm2 (SG _ (by omega) (by omega)))
   have FVa:=hid (FV.out.sm kzm2 (SG _ (by omega) (by omega)))
   have OVa:=hid (OV.out.sm kzm2 (fun b g1 g2=>SG b (by omega) (by omega)))
   have PVa:=hid (PV.out.sm kzm2 (fun b g1 g2=>SG b (by omega) (by omega)))
   clear BV MV SV GV FV OV PV SG hg ORV
   obtain ⟨zm,ezm⟩:∃ z:Nat,z=V.s4+nR * 16:=⟨_,rfl⟩
   rw [←ezm]
   have hzm:¬ ((zm:Nat):Int)<0:=by omega
   clear ezm
   obtain ⟨y0,y1,y2,y3,y4,y5⟩:=GVa.out.a6
   have hl1:C1<v2.heap.size:=GVa.out.1
   obtain ⟨x0,x1,x2,x3,x4,x5⟩:=FVa.out.a6
   have hl2:C2<v2.heap.size:=FVa.out.1
   go_wp2_with fail
   clear y0 y1 y2 y3 y4 y5 hl1
   clear x0 x1 x2 x3 x4 x5 hl2
   refine (uP _ _ U (lZ HU.out.1) _ PVa.out.at OVa.out.at).mono ?_
   rintro e v3 ⟨rfl,hb⟩
   have kz:=hb.size
   have B_11:=hid (ah BVa.out hb)
   have M_11:=hid (MVa.out.below hb)
   have S_11:=hid (SVa.out.below hb)
   have G_11:=hid (GVa.out.below hb)
   have F_11:=hid (FVa.out.below hb)
   have O_11:=hid (OVa.out.below (by omega) hb)
   have P_11:=hid (PVa.out.below (by omega) hb)
   clear BVa MVa SVa GVa FVa OVa PVa
   clear hb
   obtain ⟨x0,x1,x2,x3,x4,x5⟩:=F_11.out.a6
   have hl2:C2<v3.heap.size:=F_11.out.1
   go_wp2_with fail
   clear x0 x1 x2 x3 x4 x5 hl2
   refine (EI l2 h2 _ U HU.out.2 _ (by omega) (by omega) P_11.out).mono ?_
   rintro e v4 ⟨rfl,hPM,kzm,hsm,hbm⟩
   have BW:Hid (Below w.heap.size w v4):=B_11.out.trans (hbm.mono (by have:=B2s.out;omega))
   have MW:=hid (M_11.out.sm kzm (hsm _ (by omega) (by omega)))
   have SW:=hid (S_11.out.sm kzm (hsm _ (by omega) (by omega)))
   have GW:=hid (G_11.out.sm kzm (hsm _ (by omega) (by omega)))
   have FW:=hid (F_11.out.sm kzm (hsm _ (by omega) (by omega)))
   have OW:=hid (O_11.out.sm kzm (fun b g1 g2=>hsm b (by omega) (by omega)))
   have PW:=hid hPM
   clear B_11 M_11 S_11 G_11 F_11 O_11 P_11 hsm hbm hPM
   obtain ⟨x0,x1,x2,x3,x4,x5⟩:=FW.out.a6
   have hl2:C2<v4.heap.size:=FW.out.1
   go_wp2_with fail
   clear x0 x1 x2 x3 x4 x5 hl2
   refine (Ey l2 h2 _ U HU.out.2 _ (by omega) PW.out).mono ?_
   rintro e v5 ⟨rfl,hb⟩
   have kz:=hb.size
   have B_12:=hid (ah BW.out hb)
   have M_12:=hid (MW.out.below hb)
   have S_12:=hid (SW.out.below hb)
   have G_12:=hid (GW.out.below hb)
   have F_12:=hid (FW.out.below hb)
   have O_12:=hid (OW.out.below (by omega) hb)
   have P_12:=hid (PW.out.below (by omega) hb)
   clear BW MW SW GW FW OW PW
   clear hb
   have hq:¬ ((U.s4:Nat):Int)<0:=by omega
   obtain ⟨m0,m1⟩:=M_12.out.a2
   have hlM:w.heap.size<v5.heap.size:=M_12.out.1
   obtain ⟨y0,y1,y2,y3,y4,y5⟩:=S_12.out.a6
   have hlS:w.heap.size+1<v5.heap.size:=S_12.out.1
   go_upto_region 28 with fail
   go_cut [17,18] (fun s t wx=>∃ C l h e1 f1 e2 f2 e3 f3 e4 f4,zP C 0=s∧zI (N:Int)=t∧Bk wx C (zD U e1 f1 e2 f2 e3 f3 e4 f4)∧aV l h wx (.agg (zD U e1 f1 e2 f2 e3 f3 e4 f4).toArray) U∧((v5.heap.size≤C∧C<wx.heap.size)∧(v5.heap.size≤l∧l≤h∧h≤wx.heap.size)∧(C<l∨h≤C))∧Below v5.heap.size v5 wx)
   case first=>
    refine Hu (S:=fun w'=>Below (v5.heap.size) v5 w') (by kernel_rfl) ((Hr _ _).drew) ?_
    intro af
    obtain ⟨X,hX⟩:∃ X,X=v5.drew:=⟨_,rfl⟩
    have hz1:v5.heap.size≤X.heap.size:=by rw [hX];exact Ho _
    rw [←hX] at af ⊢
    clear hX
    refine bF 0 (.agg #[zI c,zI d]) rfl ?_
    try simp only [aT]
    refine bF 2 (.agg (zD V aW kW aO kO aX kX aI kI).toArray) rfl ?_
    try simp only [aT]
    refine bF 4 (.slice aR nR kR) rfl ?_
    try simp only [aT]
    refine y9 [1,10] (AllReadyH.cons rfl (fun K hK=>?_) (AllReadyH.cons rfl (fun K hK=>?_) AllReadyH.nil))
    ·go_simp
     go_wp2_with fail
     refine (uy c d _).mono ?_
     rintro e Xc ⟨rfl,hb⟩
     have kz:=hb.size
     refine hK.out _ _ (bJ af (by omega) hb) (fun ai=>?_)
     clear hK K af
     have af:=ai
     clear ai
     try simp only [aT]
     clear hb
     refine y9 [3,10] (AllReadyH.cons rfl (fun K hK=>?_) (AllReadyH.cons rfl (fun K hK=>?_) AllReadyH.nil))
     ·go_simp
      go_wp2_with fail
      refine (DI _ V hSs.out _ (dw HC.out (ah B_12.out af))).mono ?_
      rintro e Xcc ⟨⟨u,rfl,hC⟩,hb⟩
      have kz:=hb.size
      obtain ⟨bW,bO,bX,bI,hi,q0,q1,q2,q3,q4,q5,rfl,g1,g2,g3,g4⟩:=hC
      have CB:Hid (gq _ Xcc (.agg (zC V bW V.nW bO V.nO bX V.nX bI V.nI).toArray) V):=⟨bW,bO,bX,bI,hi,q0,q1,q2,q3,q4,q5,rfl,g1,g2,g3,g4⟩
      clear g1 g2 g3 g4 q0 q1 q2 q3 q4 q5
      refine hK.out _ _ (bJ af (by omega) hb) (fun ai=>?_)
      clear hK K af
      have af:=ai
      clear ai
      try simp only [aT]
      clear hb
      refine y9 [5,10] (AllReadyH.cons rfl (fun K hK=>?_) (AllReadyH.cons rfl (fun K hK=>?_) AllReadyH.nil))
      ·go_simp
       go_wp2_with fail
       refine (P16.yu aR nR kR Z hnR _ (P16.iL HR.out (ah B_12.out af))).mono ?_
       rintro e Xccc ⟨rfl,g1,hl,hb⟩
       have kz:=hb.size
       replace CB:=hid (CB.out.below hb)
       have OR:=hid g1
       clear g1
       obtain ⟨bR,ebR⟩:∃ b,b=Xcc.heap.size:=⟨_,rfl⟩
       rw [←ebR] at OR hl ⊢
       have hbR:bR<Xccc.heap.size:=by omega
       clear ebR
       refine hK.out _ _ (bJ af (by omega) hb) (fun ai=>?_)
       clear hK K af
       have af:=ai
       clear ai
       try simp only [aT]
       clear hb
       refine y9 [6,10] (AllReadyH.cons rfl (fun K hK=>?_) (AllReadyH.cons rfl (fun K hK=>?_) AllReadyH.nil))
       ·go_simp
        go_wp2_with fail
        refine (lT c d V _ bW bO bX bI bR nR Z hSs.out hnR hwf.out hwR.out _ (((ah B_12.out af).cell (p:=(zA 0 0)) hpos).trans hg0.out) CB.out.copy hbR (P16.aZ OR.out)).mono ?_
        rintro e Xcccc ⟨⟨u,rfl,hO⟩,hb⟩
        rw [EU.out] at hO
        rw [EU.out]
        have kz:=hb.size
        replace CB:=hid (CB.out.below hb)
        replace OR:=hid (P16.own_below OR.out hbR hb)
        replace hbR:=Hg hbR kz
        obtain ⟨e1,f1,e2,f2,e3,f3,e4,f4,rfl,hA,hB,hD,hE⟩:=hO.at
        have OU:=hid hO
        clear hO hA hB hD hE
        refine hK.out _ _ (bJ af (by omega) hb) (fun ai=>?_)
        clear hK K af
        have af:=ai
        clear ai
        try simp only
        clear hb
        refine bF 7 (.tuple #[.agg (zD U e1 f1 e2 f2 e3 f3 e4 f4).toArray,zI N]) rfl ?_
        try simp only [aT]
        refine bF 8 (.agg (zD U e1 f1 e2 f2 e3 f3 e4 f4).toArray) rfl ?_
        try simp only [aT]
        refine bF 9 (zI N) rfl ?_
        try simp only [aT]
        refine di 10 rfl fun K hK=>?_
        go_simp
        obtain ⟨Xcccca,eA⟩:∃ y,y=Xcccc.alloc (.cells zN.toArray 41):=⟨_,rfl⟩
        rw [←eA]
        have hb:Below Xcccc.heap.size Xcccc Xcccca:=by rw [eA];exact (Hr _ _).alloc (Ho _) _
        have Y:Hid (Bk Xcccca Xcccc.heap.size zN):=by unfold Hid;rw [eA];exact aU Xcccc 41 zN
        have kzA:Xcccc.heap.size+1≤Xcccca.heap.size:=by rw [eA];simp
        clear eA
        have kz:=hb.size
        replace OU:=hid (OU.out.below (by omega) hb)
        refine hK.out _ _ (bJ af (by omega) hb) (fun ai=>?_)
        clear hK K af
        have af:=ai
        clear ai
        try simp only [aT]
        clear hb
        obtain ⟨C,eC⟩:∃ x,x=Xcccc.heap.size:=⟨_,rfl⟩
        rw [←eC] at Y ⊢
        have C1:=Hl eC
        have C2:=Hl eC.symm
        clear eC
        obtain ⟨zQ0,zQ1,zQ2,zQ3,zQ4,zQ5⟩:=Y.out.f6
        obtain ⟨yQ0,yQ1,yQ2,yQ3,yQ4,yQ5⟩:=Y.out.a6
        have hlY:=Y.out.1
        refine di 11 rfl fun K hK=>?_
        go_simp
        obtain ⟨w6,e6⟩:∃ y,y=aG Xcccca C (zI U.c) (.slice e1 U.nW f1) (zI U.g) (.slice e2 U.nO f2) (.slice e3 U.nX f3) (.slice e4 U.nI f4):=⟨_,rfl⟩
        have hB6:Below v5.heap.size v5 w6:=by rw [e6];exact ax af (by omega) _ _ _ _ _ _
        have hz6:w6.heap.size=Xcccca.heap.size:=by rw [e6];exact au _ _ _ _ _ _ _ _
        have Y6:Bk w6 C (zD U e1 f1 e2 f2 e3 f3 e4 f4):=by rw [e6];exact gy Y.out rfl _ _ _ _ _ _
        have O6:=OU.out.sm (w':=w6) (Hl hz6.symm) (fun b q1 q2=>by rw [e6];exact aH (by omega) _ _ _ _ _ _)
        unfold aG at e6
        rw [←e6]
        have Y7:=hid Y6
        have O7:=hid O6
        clear e6 Y6 O6 Y OU yQ0 yQ1 yQ2 yQ3 yQ4 yQ5 zQ0 zQ1 zQ2 zQ3 zQ4 zQ5 hlY
        refine hK.out _ _ hB6 (fun ai=>?_)
        clear af hK K
        have af:=ai
        clear ai
        try simp only [aT]
        refine bF 12 (zI N) rfl ?_
        try simp only [aT]
        refine Hy (by kernel_rfl) ?_ _
        go_wp2
        go_meet
        case rel=>exact ⟨C,_,_,e1,f1,e2,f2,e3,f3,e4,f4,rfl,rfl,Y7.out,O7.out,⟨⟨by omega,by omega⟩,⟨by omega,by omega,by omega⟩,by omega⟩,hB6⟩
       ·go_simp
        obtain ⟨Xccca,eA⟩:∃ y,y=Xccc.alloc (.cells zN.toArray 41):=⟨_,rfl⟩
        rw [←eA]
        have hb:Below Xccc.heap.size Xccc Xccca:=by rw [eA];exact (Hr _ _).alloc (Ho _) _
        have Y:Hid (Bk Xccca Xccc.heap.size zN):=by unfold Hid;rw [eA];exact aU Xccc 41 zN
        have kzA:Xccc.heap.size+1≤Xccca.heap.size:=by rw [eA];simp
        clear eA
        have kz:=hb.size
        replace CB:=hid (CB.out.below hb)
        replace OR:=hid (P16.own_below OR.out hbR hb)
        replace hbR:=Hg hbR kz
        refine hK.out _ _ (bJ af (by omega) hb) (fun ai=>?_)
        clear hK K af
        have af:=ai
        clear ai
        try simp only [aT]
        clear hb
        obtain ⟨C,eC⟩:∃ x,x=Xccc.heap.size:=⟨_,rfl⟩
        rw [←eC] at Y ⊢
        have C1:=Hl eC
        have C2:=Hl eC.symm
        clear eC
        refine di 6 rfl fun K hK=>?_
        go_simp
        go_wp2_with fail
        refine (lT c d V _ bW bO bX bI bR nR Z hSs.out hnR hwf.out hwR.out _ (((ah B_12.out af).cell (p:=(zA 0 0)) hpos).trans hg0.out) CB.out.copy hbR (P16.aZ OR.out)).mono ?_
        rintro e Xcccac ⟨⟨u,rfl,hO⟩,hb⟩
        rw [EU.out] at hO
        rw [EU.out]
        have kz:=hb.size
        replace CB:=hid (CB.out.below hb)
        replace OR:=hid (P16.own_below OR.out hbR hb)
        replace hbR:=Hg hbR kz
        replace Y:=hid (Y.out.below hb)
        obtain ⟨e1,f1,e2,f2,e3,f3,e4,f4,rfl,hA,hB,hD,hE⟩:=hO.at
        have OU:=hid hO
        clear hO hA hB hD hE
        refine hK.out _ _ (bJ af (by omega) hb) (fun ai=>?_)
        clear hK K af
        have af:=ai
        clear ai
        try simp only
        clear hb
        refine bF 7 (.tuple #[.agg (zD U e1 f1 e2 f2 e3 f3 e4 f4).toArray,zI N]) rfl ?_
        try simp only [aT]
        refine bF 8 (.agg (zD U e1 f1 e2 f2 e3 f3 e4 f4).toArray) rfl ?_
        try simp only [aT]
        refine bF 9 (zI N) rfl ?_
        try simp only [aT]
        obtain ⟨zQ0,zQ1,zQ2,zQ3,zQ4,zQ5⟩:=Y.out.f6
        obtain ⟨yQ0,yQ1,yQ2,yQ3,yQ4,yQ5⟩:=Y.out.a6
        have hlY:=Y.out.1
        refine di 11 rfl fun K hK=>?_
        go_simp
        obtain ⟨w6,e6⟩:∃ y,y=aG Xcccac C (zI U.c) (.slice e1 U.nW f1) (zI U.g) (.slice e2 U.nO f2) (.slice e3 U.nX f3) (.slice e4 U.nI f4):=⟨_,rfl⟩
        have hB6:Below v5.heap.size v5 w6:=by rw [e6];exact ax af (by omega) _ _ _ _ _ _
        have hz6:w6.heap.size=Xcccac.heap.size:=by rw [e6];exact au _ _ _ _ _ _ _ _
        have Y6:Bk w6 C (zD U e1 f1 e2 f2 e3 f3 e4 f4):=by rw [e6];exact gy Y.out rfl _ _ _ _ _ _
        have O6:=OU.out.sm (w':=w6) (Hl hz6.symm) (fun b q1 q2=>by rw [e6];exact aH (by omega) _ _ _ _ _ _)
        unfold aG at e6
        rw [←e6]
        have Y7:=hid Y6
        have O7:=hid O6
        clear e6 Y6 O6 Y OU yQ0 yQ1 yQ2 yQ3 yQ4 yQ5 zQ0 zQ1 zQ2 zQ3 zQ4 zQ5 hlY
        refine hK.out _ _ hB6 (fun ai=>?_)
        clear af hK K
        have af:=ai
        clear ai
        try simp only [aT]
        refine bF 12 (zI N) rfl ?_
        try simp only [aT]
        refine Hy (by kernel_rfl) ?_ _
        go_wp2
        go_meet
        case rel=>exact ⟨C,_,_,e1,f1,e2,f2,e3,f3,e4,f4,rfl,rfl,Y7.out,O7.out,⟨⟨by omega,by omega⟩,⟨by omega,by omega,by omega⟩,by omega⟩,hB6⟩
      ·go_simp
       obtain ⟨Xcca,eA⟩:∃ y,y=Xcc.alloc (.cells zN.toArray 41):=⟨_,rfl⟩
       rw [←eA]
       have hb:Below Xcc.heap.size Xcc Xcca:=by rw [eA];exact (Hr _ _).alloc (Ho _) _
       have Y:Hid (Bk Xcca Xcc.heap.size zN):=by unfold Hid;rw [eA];exact aU Xcc 41 zN
       have kzA:Xcc.heap.size+1≤Xcca.heap.size:=by rw [eA];simp
       clear eA
       have kz:=hb.size
       replace CB:=hid (CB.out.below hb)
       refine hK.out _ _ (bJ af (by omega) hb) (fun ai=>?_)
       clear hK K af
       have af:=ai
       clear ai
       try simp only [aT]
       clear hb
       obtain ⟨C,eC⟩:∃ x,x=Xcc.heap.size:=⟨_,rfl⟩
       rw [←eC] at Y ⊢
       have C1:=Hl eC
       have C2:=Hl eC.symm
       clear eC
       refine di 5 rfl fun K hK=>?_
       go_simp
       go_wp2_with fail
       refine (P16.yu aR nR kR Z hnR _ (P16.iL HR.out (ah B_12.out af))).mono ?_
       rintro e Xccac ⟨rfl,g1,hl,hb⟩
       have kz:=hb.size
       replace CB:=hid (CB.out.below hb)
       replace Y:=hid (Y.out.below hb)
       have OR:=hid g1
       clear g1
       obtain ⟨bR,ebR⟩:∃ b,b=Xcca.heap.size:=⟨_,rfl⟩
       rw [←ebR] at OR hl ⊢
       have hbR:bR<Xccac.heap.size:=by omega
       clear ebR
       refine hK.out _ _ (bJ af (by omega) hb) (fun ai=>?_)
       clear hK K af
       have af:=ai
       clear ai
       try simp only [aT]
       clear hb
       refine di 6 rfl fun K hK=>?_
       go_simp
       go_wp2_with fail
       refine (lT c d V _ bW bO bX bI bR nR Z hSs.out hnR hwf.out hwR.out _ (((ah B_12.out af).cell (p:=(zA 0 0)) hpos).trans hg0.out) CB.out.copy hbR (P16.aZ OR.out)).mono ?_
       rintro e Xccacc ⟨⟨u,rfl,hO⟩,hb⟩
       rw [EU.out] at hO
       rw [EU.out]
       have kz:=hb.size
       replace CB:=hid (CB.out.below hb)
       replace OR:=hid (P16.own_below OR.out hbR hb)
       replace hbR:=Hg hbR kz
       replace Y:=hid (Y.out.below hb)
       obtain ⟨e1,f1,e2,f2,e3,f3,e4,f4,rfl,hA,hB,hD,hE⟩:=hO.at
       have OU:=hid hO
       clear hO hA hB hD hE
       refine hK.out _ _ (bJ af (by omega) hb) (fun ai=>?_)
       clear hK K af
       have af:=ai
       clear ai
       try simp only
       clear hb
       refine bF 7 (.tuple #[.agg (zD U e1 f1 e2 f2 e3 f3 e4 f4).toArray,zI N]) rfl ?_
       try simp only [aT]
       refine bF 8 (.agg (zD U e1 f1 e2 f2 e3 f3 e4 f4).toArray) rfl ?_
       try simp only [aT]
       refine bF 9 (zI N) rfl ?_
       try simp only [aT]
       obtain ⟨zQ0,zQ1,zQ2,zQ3,zQ4,zQ5⟩:=Y.out.f6
       obtain ⟨yQ0,yQ1,yQ2,yQ3,yQ4,yQ5⟩:=Y.out.a6
       have hlY:=Y.out.1
       refine di 11 rfl fun K hK=>?_
       go_simp
       obtain ⟨w6,e6⟩:∃ y,y=aG Xccacc C (zI U.c) (.slice e1 U.nW f1) (zI U.g) (.slice e2 U.nO f2) (.slice e3 U.nX f3) (.slice e4 U.nI f4):=⟨_,rfl⟩
       have hB6:Below v5.heap.size v5 w6:=by rw [e6];exact ax af (by omega) _ _ _ _ _ _
       have hz6:w6.heap.size=Xccacc.heap.size:=by rw [e6];exact au _ _ _ _ _ _ _ _
       have Y6:Bk w6 C (zD U e1 f1 e2 f2 e3 f3 e4 f4):=by rw [e6];exact gy Y.out rfl _ _ _ _ _ _
       have O6:=OU.out.sm (w':=w6) (Hl hz6.symm) (fun b q1 q2=>by rw [e6];exact aH (by omega) _ _ _ _ _ _)
       unfold aG at e6
       rw [←e6]
       have Y7:=hid Y6
       have O7:=hid O6
       clear e6 Y6 O6 Y OU yQ0 yQ1 yQ2 yQ3 yQ4 yQ5 zQ0 zQ1 zQ2 zQ3 zQ4 zQ5 hlY
       refine hK.out _ _ hB6 (fun ai=>?_)
       clear af hK K
       have af:=ai
       clear ai
       try simp only [aT]
       refine bF 12 (zI N) rfl ?_
       try simp only [aT]
       refine Hy (by kernel_rfl) ?_ _
       go_wp2
       go_meet
       case rel=>exact ⟨C,_,_,e1,f1,e2,f2,e3,f3,e4,f4,rfl,rfl,Y7.out,O7.out,⟨⟨by omega,by omega⟩,⟨by omega,by omega,by omega⟩,by omega⟩,hB6⟩
     ·go_simp
      obtain ⟨Xca,eA⟩:∃ y,y=Xc.alloc (.cells zN.toArray 41):=⟨_,rfl⟩
      rw [←eA]
      have hb:Below Xc.heap.size Xc Xca:=by rw [eA];exact (Hr _ _).alloc (Ho _) _
      have Y:Hid (Bk Xca Xc.heap.size zN):=by unfold Hid;rw [eA];exact aU Xc 41 zN
      have kzA:Xc.heap.size+1≤Xca.heap.size:=by rw [eA];simp
      clear eA
      have kz:=hb.size
      refine hK.out _ _ (bJ af (by omega) hb) (fun ai=>?_)
      clear hK K af
      have af:=ai
      clear ai
      try simp only [aT]
      clear hb
      obtain ⟨C,eC⟩:∃ x,x=Xc.heap.size:=⟨_,rfl⟩
      rw [←eC] at Y ⊢
      have C1:=Hl eC
      have C2:=Hl eC.symm
      clear eC
      refine di 3 rfl fun K hK=>?_
      go_simp
      go_wp2_with fail
      refine (DI _ V hSs.out _ (dw HC.out (ah B_12.out af))).mono ?_
      rintro e Xcac ⟨⟨u,rfl,hC⟩,hb⟩
      have kz:=hb.size
      replace Y:=hid (Y.out.below hb)
      obtain ⟨bW,bO,bX,bI,hi,q0,q1,q2,q3,q4,q5,rfl,g1,g2,g3,g4⟩:=hC
      have CB:Hid (gq _ Xcac (.agg (zC V bW V.nW bO V.nO bX V.nX bI V.nI).toArray) V):=⟨bW,bO,bX,bI,hi,q0,q1,q2,q3,q4,q5,rfl,g1,g2,g3,g4⟩
      clear g1 g2 g3 g4 q0 q1 q2 q3 q4 q5
      refine hK.out _ _ (bJ af (by omega) hb) (fun ai=>?_)
      clear hK K af
      have af:=ai
      clear ai
      try simp only [aT]
      clear hb
      refine di 5 rfl fun K hK=>?_
      go_simp
      go_wp2_with fail
      refine (P16.yu aR nR kR Z hnR _ (P16.iL HR.out (ah B_12.out af))).mono ?_
      rintro e Xcacc ⟨rfl,g1,hl,hb⟩
      have kz:=hb.size
      replace CB:=hid (CB.out.below hb)
      replace Y:=hid (Y.out.below hb)
      have OR:=hid g1
      clear g1
      obtain ⟨bR,ebR⟩:∃ b,b=Xcac.heap.size:=⟨_,rfl⟩
      rw [←ebR] at OR hl ⊢
      have hbR:bR<Xcacc.heap.size:=by omega
      clear ebR
      refine hK.out _ _ (bJ af (by omega) hb) (fun ai=>?_)
      clear hK K af
      have af:=ai
      clear ai
      try simp only [aT]
      clear hb
      refine di 6 rfl fun K hK=>?_
      go_simp
      go_wp2_with fail
      refine (lT c d V _ bW bO bX bI bR nR Z hSs.out hnR hwf.out hwR.out _ (((ah B_12.out af).cell (p:=(zA 0 0)) hpos).trans hg0.out) CB.out.copy hbR (P16.aZ OR.out)).mono ?_
      rintro e Xcaccc ⟨⟨u,rfl,hO⟩,hb⟩
      rw [EU.out] at hO
      rw [EU.out]
      have kz:=hb.size
      replace CB:=hid (CB.out.below hb)
      replace OR:=hid (P16.own_below OR.out hbR hb)
      replace hbR:=Hg hbR kz
      replace Y:=hid (Y.out.below hb)
      obtain ⟨e1,f1,e2,f2,e3,f3,e4,f4,rfl,hA,hB,hD,hE⟩:=hO.at
      have OU:=hid hO
      clear hO hA hB hD hE
      refine hK.out _ _ (bJ af (by omega) hb) (fun ai=>?_)
      clear hK K af
      have af:=ai
      clear ai
      try simp only
      clear hb
      refine bF 7 (.tuple #[.agg (zD U e1 f1 e2 f2 e3 f3 e4 f4).toArray,zI N]) rfl ?_
      try simp only [aT]
      refine bF 8 (.agg (zD U e1 f1 e2 f2 e3 f3 e4 f4).toArray) rfl ?_
      try simp only [aT]
      refine bF 9 (zI N) rfl ?_
      try simp only [aT]
      obtain ⟨zQ0,zQ1,zQ2,zQ3,zQ4,zQ5⟩:=Y.out.f6
      obtain ⟨yQ0,yQ1,yQ2,yQ3,yQ4,yQ5⟩:=Y.out.a6
      have hlY:=Y.out.1
      refine di 11 rfl fun K hK=>?_
      go_simp
      obtain ⟨w6,e6⟩:∃ y,y=aG Xcaccc C (zI U.c) (.slice e1 U.nW f1) (zI U.g) (.slice e2 U.nO f2) (.slice e3 U.nX f3) (.slice e4 U.nI f4):=⟨_,rfl⟩
      have hB6:Below v5.heap.size v5 w6:=by rw [e6];exact ax af (by omega) _ _ _ _ _ _
      have hz6:w6.heap.size=Xcaccc.heap.size:=by rw [e6];exact au _ _ _ _ _ _ _ _
      have Y6:Bk w6 C (zD U e1 f1 e2 f2 e3 f3 e4 f4):=by rw [e6];exact gy Y.out rfl _ _ _ _ _ _
      have O6:=OU.out.sm (w':=w6) (Hl hz6.symm) (fun b q1 q2=>by rw [e6];exact aH (by omega) _ _ _ _ _ _)
      unfold aG at e6
      rw [←e6]
      have Y7:=hid Y6
      have O7:=hid O6
      clear e6 Y6 O6 Y OU yQ0 yQ1 yQ2 yQ3 yQ4 yQ5 zQ0 zQ1 zQ2 zQ3 zQ4 zQ5 hlY
      refine hK.out _ _ hB6 (fun ai=>?_)
      clear af hK K
      have af:=ai
      clear ai
      try simp only [aT]
      refine bF 12 (zI N) rfl ?_
      try simp only [aT]
      refine Hy (by kernel_rfl) ?_ _
      go_wp2
      go_meet
      case rel=>exact ⟨C,_,_,e1,f1,e2,f2,e3,f3,e4,f4,rfl,rfl,Y7.out,O7.out,⟨⟨by omega,by omega⟩,⟨by omega,by omega,by omega⟩,by omega⟩,hB6⟩
    ·go_simp
     obtain ⟨Xa,eA⟩:∃ y,y=X.alloc (.cells zN.toArray 41):=⟨_,rfl⟩
     rw [←eA]
     have hb:Below X.heap.size X Xa:=by rw [eA];exact (Hr _ _).alloc (Ho _) _
     have Y:Hid (Bk Xa X.heap.size zN):=by unfold Hid;rw [eA];exact aU X 41 zN
     have kzA:X.heap.size+1≤Xa.heap.size:=by rw [eA];simp
     clear eA
     have kz:=hb.size
     refine hK.out _ _ (bJ af (by omega) hb) (fun ai=>?_)
     clear hK K af
     have af:=ai
     clear ai
     try simp only [aT]
     clear hb
     obtain ⟨C,eC⟩:∃ x,x=X.heap.size:=⟨_,rfl⟩
     rw [←eC] at Y ⊢
     have C1:=Hl eC
     have C2:=Hl eC.symm
     clear eC
     refine di 1 rfl fun K hK=>?_
     go_simp
     go_wp2_with fail
     refine (uy c d _).mono ?_
     rintro e Xac ⟨rfl,hb⟩
     have kz:=hb.size
     replace Y:=hid (Y.out.below hb)
     refine hK.out _ _ (bJ af (by omega) hb) (fun ai=>?_)
     clear hK K af
     have af:=ai
     clear ai
     try simp only [aT]
     clear hb
     refine di 3 rfl fun K hK=>?_
     go_simp
     go_wp2_with fail
     refine (DI _ V hSs.out _ (dw HC.out (ah B_12.out af))).mono ?_
     rintro e Xacc ⟨⟨u,rfl,hC⟩,hb⟩
     have kz:=hb.size
     replace Y:=hid (Y.out.below hb)
     obtain ⟨bW,bO,bX,bI,hi,q0,q1,q2,q3,q4,q5,rfl,g1,g2,g3,g4⟩:=hC
     have CB:Hid (gq _ Xacc (.agg (zC V bW V.nW bO V.nO bX V.nX bI V.nI).toArray) V):=⟨bW,bO,bX,bI,hi,q0,q1,q2,q3,q4,q5,rfl,g1,g2,g3,g4⟩
     clear g1 g2 g3 g4 q0 q1 q2 q3 q4 q5
     refine hK.out _ _ (bJ af (by omega) hb) (fun ai=>?_)
     clear hK K af
     have af:=ai
     clear ai
     try simp only [aT]
     clear hb
     refine di 5 rfl fun K hK=>?_
     go_simp
     go_wp2_with fail
     refine (P16.yu aR nR kR Z hnR _ (P16.iL HR.out (ah B_12.out af))).mono ?_
     rintro e Xaccc ⟨rfl,g1,hl,hb⟩
     have kz:=hb.size
     replace CB:=hid (CB.out.below hb)
     replace Y:=hid (Y.out.below hb)
     have OR:=hid g1
     clear g1
     obtain ⟨bR,ebR⟩:∃ b,b=Xacc.heap.size:=⟨_,rfl⟩
     rw [←ebR] at OR hl ⊢
     have hbR:bR<Xaccc.heap.size:=by omega
     clear ebR
     refine hK.out _ _ (bJ af (by omega) hb) (fun ai=>?_)
     clear hK K af
     have af:=ai
     clear ai
     try simp only [aT]
     clear hb
     refine di 6 rfl fun K hK=>?_
     go_simp
     go_wp2_with fail
     refine (lT c d V _ bW bO bX bI bR nR Z hSs.out hnR hwf.out hwR.out _ (((ah B_12.out af).cell (p:=(zA 0 0)) hpos).trans hg0.out) CB.out.copy hbR (P16.aZ OR.out)).mono ?_
     rintro e Xacccc ⟨⟨u,rfl,hO⟩,hb⟩
     rw [EU.out] at hO
     rw [EU.out]
     have kz:=hb.size
     replace CB:=hid (CB.out.below hb)
     replace OR:=hid (P16.own_below OR.out hbR hb)
     replace hbR:=Hg hbR kz
     replace Y:=hid (Y.out.below hb)
     obtain ⟨e1,f1,e2,f2,e3,f3,e4,f4,rfl,hA,hB,hD,hE⟩:=hO.at
     have OU:=hid hO
     clear hO hA hB hD hE
     refine hK.out _ _ (bJ af (by omega) hb) (fun ai=>?_)
     clear hK K af
     have af:=ai
     clear ai
     try simp only
     clear hb
     refine bF 7 (.tuple #[.agg (zD U e1 f1 e2 f2 e3 f3 e4 f4).toArray,zI N]) rfl ?_
     try simp only [aT]
     refine bF 8 (.agg (zD U e1 f1 e2 f2 e3 f3 e4 f4).toArray) rfl ?_
     try simp only [aT]
     refine bF 9 (zI N) rfl ?_
     try simp only [aT]
     obtain ⟨zQ0,zQ1,zQ2,zQ3,zQ4,zQ5⟩:=Y.out.f6
     obtain ⟨yQ0,yQ1,yQ2,yQ3,yQ4,yQ5⟩:=Y.out.a6
     have hlY:=Y.out.1
     refine di 11 rfl fun K hK=>?_
     go_simp
     obtain ⟨w6,e6⟩:∃ y,y=aG Xacccc C (zI U.c) (.slice e1 U.nW f1) (zI U.g) (.slice e2 U.nO f2) (.slice e3 U.nX f3) (.slice e4 U.nI f4):=⟨_,rfl⟩
     have hB6:Below v5.heap.size v5 w6:=by rw [e6];exact ax af (by omega) _ _ _ _ _ _
     have hz6:w6.heap.size=Xacccc.heap.size:=by rw [e6];exact au _ _ _ _ _ _ _ _
     have Y6:Bk w6 C (zD U e1 f1 e2 f2 e3 f3 e4 f4):=by rw [e6];exact gy Y.out rfl _ _ _ _ _ _
     have O6:=OU.out.sm (w':=w6) (Hl hz6.symm) (fun b q1 q2=>by rw [e6];exact aH (by omega) _ _ _ _ _ _)
     unfold aG at e6
     rw [←e6]
     have Y7:=hid Y6
     have O7:=hid O6
     clear e6 Y6 O6 Y OU yQ0 yQ1 yQ2 yQ3 yQ4 yQ5 zQ0 zQ1 zQ2 zQ3 zQ4 zQ5 hlY
     refine hK.out _ _ hB6 (fun ai=>?_)
     clear af hK K
     have af:=ai
     clear ai
     try simp only [aT]
     refine bF 12 (zI N) rfl ?_
     try simp only [aT]
     refine Hy (by kernel_rfl) ?_ _
     go_wp2
     go_meet
     case rel=>exact ⟨C,_,_,e1,f1,e2,f2,e3,f3,e4,f4,rfl,rfl,Y7.out,O7.out,⟨⟨by omega,by omega⟩,⟨by omega,by omega,by omega⟩,by omega⟩,hB6⟩
   case rest=>
    obtain ⟨v6,hwn⟩:∃ wn,wn=wc:=⟨_,rfl⟩
    subst hwn
    obtain ⟨C3,l3,h3,e1,f1,e2,f2,e3,f3,e4,f4,rfl,rfl,hG,hO,⟨⟨g1,g2⟩,⟨g3,g4,g5⟩,g6⟩,hb⟩:=hcut
    clear m0 m1 hlM
    clear y0 y1 y2 y3 y4 y5 hlS
    have kz:=hb.size
    have B_13:=hid (ah B_12.out hb)
    have G_13:=hid (G_12.out.below hb)
    have F_13:=hid (F_12.out.below hb)
    have O_13:=hid (O_12.out.below (by omega) hb)
    have P_13:=hid (P_12.out.below (by omega) hb)
    clear B_12 M_12 S_12 G_12 F_12 O_12 P_12
    have HX:=hid hG
    have HO:=hid hO
    clear hb hG hO
    obtain ⟨y0,y1,y2,y3,y4,y5⟩:=G_13.out.a6
    have hl1:C1<v6.heap.size:=G_13.out.1
    obtain ⟨x0,x1,x2,x3,x4,x5⟩:=HX.out.a6
    have hl2:C3<v6.heap.size:=HX.out.1
    go_wp2_with fail
    clear y0 y1 y2 y3 y4 y5 hl1
    clear x0 x1 x2 x3 x4 x5 hl2
    refine (uP _ _ U (lZ HU.out.1) _ HO.out.at O_13.out.at).mono ?_
    rintro e v7 ⟨rfl,hb⟩
    have kz:=hb.size
    have B_14:=hid (ah B_13.out hb)
    have G_14:=hid (G_13.out.below hb)
    have F_14:=hid (F_13.out.below hb)
    have O_14:=hid (O_13.out.below (by omega) hb)
    have P_14:=hid (P_13.out.below (by omega) hb)
    clear B_13 G_13 F_13 O_13 P_13
    clear hb HX HO
    obtain ⟨x0,x1,x2,x3,x4,x5⟩:=F_14.out.a6
    have hl2:C2<v7.heap.size:=F_14.out.1
    go_wp2_with fail
    clear x0 x1 x2 x3 x4 x5 hl2
    refine (Ey l2 h2 _ U HU.out.2 _ (by omega) P_14.out).mono ?_
    rintro e v8 ⟨rfl,hb⟩
    have BZ:=ah B_14.out hb
    go_wp2
    go_ret
    exact ⟨rfl,BZ⟩
