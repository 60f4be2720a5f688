/- LogFold of the program; conditions: the cell and the records lie in memory. -/
import Derived.Test.YtngaboipleimcaaGreatDoorFM
import Derived.Test.YtngaboipleimcaaGreatDoorFS
set_option linter.unusedVariables false
set_option maxHeartbeats 8000000
set_option maxRecDepth 20000
namespace Go.Proofs.YtngaboipleimcaaGreatDoor
open Go.RowKit Go.Deep
theorem lT (c d:Int) (V:CV) (lo bW bO bX bI bR nR:Nat) (Z:Nat→Nat→Int) (hs0:V.short 1048576) (hnR:nR≤1048576) (hwf0:∀ k,k<V.nW→(Lit.int .i64 (V.W k 0)).wf=true) (hwR0:∀ k j,k<nR→j<16→(Lit.int .i64 (Z k j)).wf=true) (w:World)
 (hg00:w.cell? (zA 0 0)=some (.iface 226 (.agg #[zP 1 199]))) (CP0:eH lo w (.agg (zC V bW V.nW bO V.nO bX V.nX bI V.nI).toArray) V) (hbR:bR<w.heap.size) (hR0:∀ k j,k<nR→j<16→w.cell? ⟨bR,0+k * 16+j,none⟩=some (.int .i64 (Z k j))) :
 Hz 21 #[.agg #[zI c,zI d],.agg (zC V bW V.nW bO V.nO bX V.nX bI V.nI).toArray,zS bR nR nR] w fun e w'=>(∃ u,e=.returned (.tuple #[u,zI ((foldM c d V nR Z).2:Int)])∧aV w.heap.size w'.heap.size w' u (foldM c d V nR Z).1)∧Below w.heap.size w w':=by
 have hs:=hid hs0
 have hwf:=hid hwf0
 have hwR:=hid hwR0
 have hg0:=hid hg00
 have CP:=hid CP0
 have hR:=hid hR0
 have hpos:0<w.heap.size:=World.block_lt_of_cell? w (zA 0 0) hg00
 clear hs0 hwf0 hwR0 hg00 CP0 hR0
 go_enter Tryz.func21,Tryz.ntmps21
 go_wp2_with fail
 obtain ⟨w0,e0,B1,M1,C1,Q1,hz0⟩:=Ff w [zI c,zI d] 44 (zC V bW V.nW bO V.nO bX V.nX bI V.nI) 41 zN 41
 rw [←e0]
 clear e0
 obtain ⟨yM0,yM1⟩:=M1.out.a2
 have hlM:(w.heap.size)<w0.heap.size:=M1.out.1
 obtain ⟨yC0,yC1,yC2,yC3,yC4,yC5⟩:=C1.out.a6
 have hlC:(w.heap.size+1)<w0.heap.size:=C1.out.1
 go_wp2_with fail
 clear yM0 yM1 hlM yC0 yC1 yC2 yC3 yC4 yC5 hlC
 refine (oh c d _ V lo hs.out _ (CP.out.below B1.out)).mono ?_
 rintro e w1 ⟨rfl,hb⟩
 have kz1:=hb.size
 have B2:=hid (ah B1.out hb)
 have M2:=hid (M1.out.below hb)
 have C2:=hid (C1.out.below hb)
 have Q2:=hid (Q1.out.below hb)
 clear B1 M1 C1 Q1 hb
 cases h2:bD c d V
 ·have ER:Hid (foldM c d V nR Z=(CV.zero,0)):=by unfold Hid foldM;rw [if_neg (by rw [h2];simp)]
  obtain ⟨yQ0,yQ1,yQ2,yQ3,yQ4,yQ5⟩:=Q2.out.a6
  obtain ⟨zQ0,zQ1,zQ2,zQ3,zQ4,zQ5⟩:=Q2.out.f6
  have hlQ:(w.heap.size+1+1)<w1.heap.size:=Q2.out.1
  go_wp2
  refine Hw (v:=.tuple #[.agg zN.toArray,zI 0]) (by simp [results,Tryz.results21,go_sem,yQ0,yQ1,yQ2,yQ3,yQ4,yQ5]) rfl ?_
  exact ⟨⟨_,by rw [ER.out];rfl,by rw [ER.out];exact iH _ _ _⟩,ax B2.out (by omega) _ _ _ _ _ _⟩
 by_cases h3:(250:Int)<nR
 ·have ER:Hid (foldM c d V nR Z=(CV.zero,0)):=by unfold Hid foldM;rw [if_neg (by omega)]
  obtain ⟨yQ0,yQ1,yQ2,yQ3,yQ4,yQ5⟩:=Q2.out.a6
  obtain ⟨zQ0,zQ1,zQ2,zQ3,zQ4,zQ5⟩:=Q2.out.f6
  have hlQ:(w.heap.size+1+1)<w1.heap.size:=Q2.out.1
  go_wp2
  refine Hw (v:=.tuple #[.agg zN.toArray,zI 0]) (by simp [results,Tryz.results21,go_sem,yQ0,yQ1,yQ2,yQ3,yQ4,yQ5]) rfl ?_
  exact ⟨⟨_,by rw [ER.out];rfl,by rw [ER.out];exact iH _ _ _⟩,ax B2.out (by omega) _ _ _ _ _ _⟩
 have EF:Hid (foldM c d V nR Z=(bg c d V Z (gm c d V Z nR),gm c d V Z nR)):=by unfold Hid foldM;rw [if_pos ⟨h2,by omega⟩]
 have H2:=hid h2
 clear h2
 have M1:=M2
 have C1:=C2
 obtain ⟨yM0,yM1⟩:=M1.out.a2
 have hlM:(w.heap.size)<w1.heap.size:=M1.out.1
 obtain ⟨yC0,yC1,yC2,yC3,yC4,yC5⟩:=C1.out.a6
 have hlC:(w.heap.size+1)<w1.heap.size:=C1.out.1
 go_wp2_with fail
 clear yM0 yM1 hlM yC0 yC1 yC2 yC3 yC4 yC5 hlC M1 C1
 refine (Ee c d _ V lo hs.out hwf.out _ (CP.out.below B2.out)).mono ?_
 rintro e w4 ⟨s,b,lc,hc,rfl,hSc,g1,g2,g3,hb4⟩
 have z4:=hb4.size
 have hnO:V.nO=2:=(dH H2.out).1
 have n9:=jF H2.out
 have S4:Sv w4 c d s b ⟨w1.heap.size,w4.heap.size,w4.heap.size⟩ V V.nW:=⟨V.nW,V.W,hSc.sc (by rw [hnO];decide) g3 g1 g2⟩
 have B4:=hid (ah B2.out hb4)
 have Q4:=hid (Q2.out.below hb4)
 have R4:Hid (∀ k j,k<nR→j<16→w4.cell? ⟨bR,0+k * 16+j,none⟩=some (.int .i64 (Z k j))):=fun k j h1 h2=>(B4.out.cell (p:=⟨bR,0+k * 16+j,none⟩) hbR).trans (hR.out k j h1 h2)
 have G4:Hid (w4.cell? (zA 0 0)=some (.iface 226 (.agg #[zP 1 199]))):=(B4.out.cell (p:=(zA 0 0)) hpos).trans hg0.out
 obtain ⟨l,el⟩:∃ l,l=w1.heap.size:=⟨_,rfl⟩
 rw [←el] at S4 g1 g2 g3 z4
 have hl:w.heap.size+2<l:=by omega
 have S5:=hid S4
 clear el hSc hb4 S4 hnO B2 Q2 M2 C2
 go_wp2_with fail
 refine (AZ c d s b l V V.nW H2.out bR 0 nR nR Z hnR hwR.out (by omega) _ G4.out (by omega) R4.out S5.out).mono ?_
 rintro e w5 ⟨rfl,⟨k1,hS6⟩,hb5⟩
 have kz5:=hb5.size
 have B5:Hid (Below w.heap.size w w5):=B4.out.trans (hb5.mono (by omega))
 have Q5:=hid (Q4.out.sm kz5 (aj hb5 (by omega)))
 have SV:=hid hS6
 clear B4 Q4 R4 G4 S5 hS6 hb5
 have hU:=uZ (Z:=Z) H2.out (gm c d V Z nR)
 have n9:=jF hU
 have hr:=fB hU
 obtain ⟨N,eN⟩:∃ N,N=gm c d V Z nR:=⟨_,rfl⟩
 rw [←eN] at SV EF hU n9 hr ⊢
 clear eN
 obtain ⟨Un,eU⟩:∃ U,U=bg c d V Z N:=⟨_,rfl⟩
 rw [←eU] at SV EF hr n9
 clear eU hU
 go_wp2_with fail
 refine (Et c d s b ⟨l,w4.heap.size,k1⟩ Un _ hr (by omega) (by omega) _ SV.out).mono ?_
 rintro e w2 ⟨⟨u,rfl,hO⟩,hb⟩
 have kz2:=hb.size
 obtain ⟨a1,k1,a2,k2,a3,k3,a4,k4,rfl,_,_,_,_⟩:=hO.at
 have O4:=hid hO
 have B6:Hid (Below w.heap.size w w2):=B5.out.trans (hb.mono (by show _≤l;omega))
 have Q6:=hid (Q5.out.sm kz2 (aj hb (by show _<l;omega)))
 clear B5 Q5 hO hb SV
 obtain ⟨yQ0,yQ1,yQ2,yQ3,yQ4,yQ5⟩:=Q6.out.a6
 obtain ⟨zQ0,zQ1,zQ2,zQ3,zQ4,zQ5⟩:=Q6.out.f6
 have hlQ:(w.heap.size+1+1)<w2.heap.size:=Q6.out.1
 go_wp2
 refine Hw (v:=.tuple #[.agg (zD Un a1 k1 a2 k2 a3 k3 a4 k4).toArray,zI N]) (by simp [results,Tryz.results21,go_sem,yQ0,yQ1,yQ2,yQ3,yQ4,yQ5]) rfl ?_
 have hzz:=au w2 (w.heap.size+1+1) (zI Un.c) (.slice a1 Un.nW k1) (zI Un.g) (.slice a2 Un.nO k2) (.slice a3 Un.nX k3) (.slice a4 Un.nI k4)
 refine ⟨⟨_,by rw [EF.out],?_⟩,ax B6.out (by omega) _ _ _ _ _ _⟩
 show aV w.heap.size (aG w2 (w.heap.size+1+1) (zI Un.c) (.slice a1 Un.nW k1) (zI Un.g) (.slice a2 Un.nO k2) (.slice a3 Un.nX k3) (.slice a4 Un.nI k4)).heap.size (aG w2 (w.heap.size+1+1) (zI Un.c) (.slice a1 Un.nW k1) (zI Un.g) (.slice a2 Un.nO k2) (.slice a3 Un.nX k3) (.slice a4 Un.nI k4)) _ _
 rw [hzz,EF.out]
 exact (O4.out.sm (Hl hzz.symm) (fun x g1 g2=>aH (by omega) (zI Un.c) (.slice a1 Un.nW k1) (zI Un.g) (.slice a2 Un.nO k2) (.slice a3 Un.nX k3) (.slice a4 Un.nI k4))).wide (by omega) (by omega) (by omega)
