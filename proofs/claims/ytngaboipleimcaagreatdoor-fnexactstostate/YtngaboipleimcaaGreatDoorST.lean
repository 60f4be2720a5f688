/- StoState of both; conditions: the store lies in memory. -/
import Derived.Test.YtngaboipleimcaaGreatDoorFO
set_option linter.unusedVariables false
set_option maxHeartbeats 8000000
set_option maxRecDepth 20000
namespace Go.Proofs.YtngaboipleimcaaGreatDoor
open Go.RowKit Go.Deep
def iw (c d a:Int) (V:CV) (nR:Nat) (Z:Nat→Nat→Int):CV:=if mF c d a V nR Z=true then bg c d V Z nR else CV.zero
theorem jm (c d a:Int) (V:CV) (lo bW bO bX bI bR nR:Nat) (Z:Nat→Nat→Int) (hs0:V.short 1048576) (hnR:nR≤1048576) (w:World) (CP0:eH lo w (.agg (zC V bW V.nW bO V.nO bX V.nX bI V.nI).toArray) V) (hbR:bR<w.heap.size) (hR0:∀ k j,k<nR→j<16→w.cell? ⟨bR,0+k * 16+j,none⟩=some (.int .i64 (Z k j))) :
 Hz 29 #[.agg #[zI c,zI d],.agg [zI a,zI V.c,zS bW V.nW V.nW,zI V.g,zS bO V.nO V.nO,zS bX V.nX V.nX,zS bI V.nI V.nI,zS bR nR nR].toArray] w fun e w'=>(∃ u,e=.returned u∧aV w.heap.size w'.heap.size w' u (iw c d a V nR Z))∧Below w.heap.size w w':=by
 have hs:=hid hs0
 have HR:=hid hR0
 have CP:=hid CP0
 clear hs0 CP0 hR0
 go_enter Tryz.func29,Tryz.ntmps29
 go_wp2_with fail
 obtain ⟨w0,e0,B1,M1,S1,Q1,hz0⟩:=Ff w [zI c,zI d] 44 [zI a,zI V.c,zS bW V.nW V.nW,zI V.g,zS bO V.nO V.nO,zS bX V.nX V.nX,zS bI V.nI V.nI,zS bR nR nR] 71 zN 41
 rw [←e0]
 clear e0
 refine (xQ c d a V lo bW bO bX bI bR nR Z hs.out hnR _ (CP.out.below B1.out) (by omega) (fun k j e1 e2=>(B1.out.cell (p:=⟨bR,0+k * 16+j,none⟩) hbR).trans (HR.out k j e1 e2))).mono ?_
 rintro e w1 ⟨rfl,hb⟩
 have kz1:=hb.size
 have B2:=hid (ah B1.out hb)
 have M2:=hid (M1.out.below hb)
 have S2:=hid (S1.out.below hb)
 have Q2:=hid (Q1.out.below hb)
 clear B1 M1 S1 Q1 hb
 cases h1:mF c d a V nR Z
 ·have HN:=hid h1
  clear h1
  obtain ⟨yQ0,yQ1,yQ2,yQ3,yQ4,yQ5⟩:=Q2.out.a6
  obtain ⟨zQ0,zQ1,zQ2,zQ3,zQ4,zQ5⟩:=Q2.out.f6
  have hlQ:(w.heap.size+1+1)<w1.heap.size:=Q2.out.1
  go_wp2
  refine Hw (v:=.agg zN.toArray) (by simp [results,Tryz.results29,go_sem,yQ0,yQ1,yQ2,yQ3,yQ4,yQ5]) rfl ?_
  have ER:iw c d a V nR Z=CV.zero:=by unfold iw;rw [HN.out];rfl
  exact ⟨⟨_,rfl,by rw [ER];exact iH _ _ _⟩,ax B2.out (by omega) _ _ _ _ _ _⟩
 have H1:=hid h1
 clear h1
 obtain ⟨y0,y1,y2,y3,y4,y5,y6,y7⟩:=S2.out.a8
 have hlS:(w.heap.size+1)<w1.heap.size:=S2.out.1
 obtain ⟨m0,m1⟩:=M2.out.a2
 have hlM:w.heap.size<w1.heap.size:=M2.out.1
 go_wp2_with fail
 clear y0 y1 y2 y3 y4 y5 y6 y7 hlS m0 m1 hlM
 refine (sJ c d V lo bW bO bX bI bR nR Z hs.out hnR _ (CP.out.below B2.out) (by omega) (fun k j e1 e2=>(B2.out.cell (p:=⟨bR,0+k * 16+j,none⟩) hbR).trans (HR.out k j e1 e2))).mono ?_
 rintro e w2 ⟨⟨u,rfl,hO⟩,hb⟩
 have kz2:=hb.size
 have EF:(foldM c d V nR Z).1=bg c d V Z nR:=by
  have:=H1.out
  simp only [mF,Bool.and_eq_true,decide_eq_true_eq] at this
  unfold foldM
  rw [if_pos ⟨this.2.1,this.2.2.1⟩,this.2.2.2]
 rw [EF] at hO
 have ER:Hid (iw c d a V nR Z=bg c d V Z nR):=by unfold Hid iw;rw [if_pos H1.out]
 obtain ⟨Un,eU⟩:∃ U,U=bg c d V Z nR:=⟨_,rfl⟩
 rw [←eU] at hO ER
 clear eU EF
 generalize (foldM c d V nR Z).2=zz
 obtain ⟨a1,k1,a2,k2,a3,k3,a4,k4,rfl,_,_,_,_⟩:=hO.at
 have B3:=hid (ah B2.out hb)
 have Q3:=hid (Q2.out.below hb)
 have O3:=hid hO
 clear B2 M2 S2 Q2 hb hO
 go_upto_region 4 with fail
 obtain ⟨w3,en⟩:∃ y,y=w2.alloc (.cells (zD Un a1 k1 a2 k2 a3 k3 a4 k4).toArray 41):=⟨_,rfl⟩
 have hbx:Below w2.heap.size w2 w3:=by rw [en];exact (Hr _ _).alloc (Ho _) _
 have hX:Bk w3 w2.heap.size (zD Un a1 k1 a2 k2 a3 k3 a4 k4):=by rw [en];exact aU w2 41 (zD Un a1 k1 a2 k2 a3 k3 a4 k4)
 rw [←en]
 clear en
 have kz3:=hbx.size
 have B4:=hid (ah B3.out hbx)
 have Q4:=hid (Q3.out.below hbx)
 have O4:=hid (O3.out.below (Ho _) hbx)
 have X4:=hid hX
 clear B3 Q3 O3 hX hbx
 obtain ⟨x0,x1,x2,x3,x4,x5⟩:=X4.out.a6
 have hlX:w2.heap.size<w3.heap.size:=X4.out.1
 obtain ⟨yQ0,yQ1,yQ2,yQ3,yQ4,yQ5⟩:=Q4.out.a6
 obtain ⟨zQ0,zQ1,zQ2,zQ3,zQ4,zQ5⟩:=Q4.out.f6
 have hlQ:(w.heap.size+1+1)<w3.heap.size:=Q4.out.1
 go_wp2
 refine Hw (v:=.agg (zD Un a1 k1 a2 k2 a3 k3 a4 k4).toArray) (by simp [results,Tryz.results29,go_sem,yQ0,yQ1,yQ2,yQ3,yQ4,yQ5]) rfl ?_
 have hzz:=au w3 (w.heap.size+1+1) (zI Un.c) (.slice a1 Un.nW k1) (zI Un.g) (.slice a2 Un.nO k2) (.slice a3 Un.nX k3) (.slice a4 Un.nI k4)
 refine ⟨⟨_,rfl,?_⟩,ax B4.out (by omega) _ _ _ _ _ _⟩
 show aV w.heap.size (aG w3 (w.heap.size+1+1) (zI Un.c) (.slice a1 Un.nW k1) (zI Un.g) (.slice a2 Un.nO k2) (.slice a3 Un.nX k3) (.slice a4 Un.nI k4)).heap.size (aG w3 (w.heap.size+1+1) (zI Un.c) (.slice a1 Un.nW k1) (zI Un.g) (.slice a2 Un.nO k2) (.slice a3 Un.nX k3) (.slice a4 Un.nI k4)) _ _
 rw [hzz,ER.out]
 exact (O4.out.sm (Hl hzz.symm) (fun x g1 g2=>aH (by omega) (zI Un.c) (.slice a1 Un.nW k1) (zI Un.g) (.slice a2 Un.nO k2) (.slice a3 Un.nX k3) (.slice a4 Un.nI k4))).wide (by omega) (by omega) (by omega)
theorem fQ (c d a:Int) (V:CV) (lo bW bO bX bI bR nR:Nat) (Z:Nat→Nat→Int) (hs0:V.short 1048576) (hnR:nR≤1048576) (hwf0:∀ k,k<V.nW→(Lit.int .i64 (V.W k 0)).wf=true) (hwR0:∀ k j,k<nR→j<16→(Lit.int .i64 (Z k j)).wf=true) (w:World) (hg00:w.cell? (zA 0 0)=some (.iface 226 (.agg #[zP 1 199]))) (CP0:eH lo w (.agg (zC V bW V.nW bO V.nO bX V.nX bI V.nI).toArray) V) (hbR:bR<w.heap.size) (hR0:∀ k j,k<nR→j<16→w.cell? ⟨bR,0+k * 16+j,none⟩=some (.int .i64 (Z k j))) :
 Hz 30 #[.agg #[zI c,zI d],.agg [zI a,zI V.c,zS bW V.nW V.nW,zI V.g,zS bO V.nO V.nO,zS bX V.nX V.nX,zS bI V.nI V.nI,zS bR nR nR].toArray] w fun e w'=>(∃ u,e=.returned u∧aV w.heap.size w'.heap.size w' u (iw c d a V nR Z))∧Below w.heap.size w w':=by
 have hs:=hid hs0
 have hwf:=hid hwf0
 have hwR:=hid hwR0
 have hg0:=hid hg00
 have CP:=hid CP0
 have hR:=hid hR0
 have hpos:0<w.heap.size:=World.block_lt_of_cell? w (zA 0 0) hg00
 clear hs0 hwf0 hwR0 hg00 CP0 hR0
 go_enter Tryz.func30,Tryz.ntmps30
 go_wp2_with fail
 obtain ⟨w0,e0,B1,M1,S1,Q1,hz0⟩:=Ff w [zI c,zI d] 44 [zI a,zI V.c,zS bW V.nW V.nW,zI V.g,zS bO V.nO V.nO,zS bX V.nX V.nX,zS bI V.nI V.nI,zS bR nR nR] 71 zN 41
 rw [←e0]
 clear e0
 have R1:∀ k j,k<nR→j<16→w0.cell? ⟨bR,0+k * 16+j,none⟩=some (.int .i64 (Z k j)):=fun k j h1 h2=>(B1.out.cell (p:=⟨bR,0+k * 16+j,none⟩) hbR).trans (hR.out k j h1 h2)
 have G1:w0.cell? (zA 0 0)=some (.iface 226 (.agg #[zP 1 199])):=(B1.out.cell (p:=(zA 0 0)) hpos).trans hg0.out
 have C1:=CP.out.below B1.out
 cases h1:inB a 0 900
 ·refine (xg c d a V lo bW bO bX bI bR nR Z hs.out hnR hwf.out hwR.out w0 G1 C1 (by omega) R1 h1).mono ?_
  rintro e w1 ⟨rfl,hb⟩
  have kz1:=hb.size
  have B2:=hid (ah B1.out hb)
  have Q2:=hid (Q1.out.below hb)
  have EB:Hid (mF c d a V nR Z=false):=by unfold Hid;simp [mF,h1]
  clear R1 G1 C1 hb B1 Q1
  obtain ⟨yQ0,yQ1,yQ2,yQ3,yQ4,yQ5⟩:=Q2.out.a6
  obtain ⟨zQ0,zQ1,zQ2,zQ3,zQ4,zQ5⟩:=Q2.out.f6
  have hlQ:(w.heap.size+1+1)<w1.heap.size:=Q2.out.1
  go_wp2
  refine Hw (v:=.agg zN.toArray) (by simp [results,Tryz.results30,go_sem,yQ0,yQ1,yQ2,yQ3,yQ4,yQ5]) rfl ?_
  have ER:iw c d a V nR Z=CV.zero:=by unfold iw;rw [EB.out];rfl
  exact ⟨⟨_,rfl,by rw [ER];exact iH _ _ _⟩,ax B2.out (by omega) _ _ _ _ _ _⟩
 cases h2:bD c d V
 ·refine (yN c d a V lo bW bO bX bI bR nR Z hs.out hnR hwf.out hwR.out w0 G1 C1 (by omega) R1 h1 h2).mono ?_
  rintro e w1 ⟨rfl,hb⟩
  have kz1:=hb.size
  have B2:=hid (ah B1.out hb)
  have Q2:=hid (Q1.out.below hb)
  have EB:Hid (mF c d a V nR Z=false):=by unfold Hid;simp [mF,h2]
  clear R1 G1 C1 hb B1 Q1
  obtain ⟨yQ0,yQ1,yQ2,yQ3,yQ4,yQ5⟩:=Q2.out.a6
  obtain ⟨zQ0,zQ1,zQ2,zQ3,zQ4,zQ5⟩:=Q2.out.f6
  have hlQ:(w.heap.size+1+1)<w1.heap.size:=Q2.out.1
  go_wp2
  refine Hw (v:=.agg zN.toArray) (by simp [results,Tryz.results30,go_sem,yQ0,yQ1,yQ2,yQ3,yQ4,yQ5]) rfl ?_
  have ER:iw c d a V nR Z=CV.zero:=by unfold iw;rw [EB.out];rfl
  exact ⟨⟨_,rfl,by rw [ER];exact iH _ _ _⟩,ax B2.out (by omega) _ _ _ _ _ _⟩
 by_cases h3:(250:Int)<nR
 ·refine (xZ c d a V lo bW bO bX bI bR nR Z hs.out hnR hwf.out hwR.out w0 G1 C1 (by omega) R1 h1 h2 h3).mono ?_
  rintro e w1 ⟨rfl,hb⟩
  have kz1:=hb.size
  have B2:=hid (ah B1.out hb)
  have Q2:=hid (Q1.out.below hb)
  have EB:Hid (mF c d a V nR Z=false):=by unfold Hid;simp [mF];omega
  clear R1 G1 C1 hb B1 Q1
  obtain ⟨yQ0,yQ1,yQ2,yQ3,yQ4,yQ5⟩:=Q2.out.a6
  obtain ⟨zQ0,zQ1,zQ2,zQ3,zQ4,zQ5⟩:=Q2.out.f6
  have hlQ:(w.heap.size+1+1)<w1.heap.size:=Q2.out.1
  go_wp2
  refine Hw (v:=.agg zN.toArray) (by simp [results,Tryz.results30,go_sem,yQ0,yQ1,yQ2,yQ3,yQ4,yQ5]) rfl ?_
  have ER:iw c d a V nR Z=CV.zero:=by unfold iw;rw [EB.out];rfl
  exact ⟨⟨_,rfl,by rw [ER];exact iH _ _ _⟩,ax B2.out (by omega) _ _ _ _ _ _⟩
 refine (yL c d a V lo bW bO bX bI bR nR Z hs.out hnR hwf.out hwR.out w0 G1 C1 (by omega) R1 h1 h2 h3).mono ?_
 rintro e w1 ⟨hv,hb⟩
 have kz1:=hb.size
 have B2:=hid (ah B1.out hb)
 have Q2:=hid (Q1.out.below hb)
 have EB:Hid (mF c d a V nR Z=decide (gm c d V Z nR=nR)):=by unfold Hid mF;rw [h1,h2];simp;omega
 have H2:=hid h2
 clear R1 G1 C1 hb B1 Q1 h1 h2
 by_cases hF:gm c d V Z nR=nR
 ·have HF:=hid hF
  obtain ⟨s,b,lo2,n,rfl,hlo,hSv,hn6⟩:=hv.1 hF
  have SV:=hid hSv
  clear hF hv hSv
  have ER:Hid (iw c d a V nR Z=bg c d V Z nR):=by unfold Hid iw;rw [EB.out,HF.out];simp
  go_wp2_with fail
  have hU:=uZ (Z:=Z) H2.out nR
  have n9:=jF hU
  have hr:=fB hU
  obtain ⟨Un,eU⟩:∃ U,U=bg c d V Z nR:=⟨_,rfl⟩
  rw [←eU] at SV ER hr n9
  clear eU hU
  refine (Et c d s b lo2 Un n hr hn6 (by omega) _ SV.out).mono ?_
  rintro e w2 ⟨⟨u,rfl,hO⟩,hb⟩
  have kz2:=hb.size
  obtain ⟨a1,k1,a2,k2,a3,k3,a4,k4,rfl,_,_,_,_⟩:=hO.at
  have O4:=hid hO
  have B4:Hid (Below w.heap.size w w2):=B2.out.trans (hb.mono (by omega))
  have Q4:=hid (Q2.out.sm kz2 (aj hb (by omega)))
  clear B2 Q2 hO hb SV
  obtain ⟨yQ0,yQ1,yQ2,yQ3,yQ4,yQ5⟩:=Q4.out.a6
  obtain ⟨zQ0,zQ1,zQ2,zQ3,zQ4,zQ5⟩:=Q4.out.f6
  have hlQ:(w.heap.size+1+1)<w2.heap.size:=Q4.out.1
  go_wp2
  refine Hw (v:=.agg (zD Un a1 k1 a2 k2 a3 k3 a4 k4).toArray) (by simp [results,Tryz.results30,go_sem,yQ0,yQ1,yQ2,yQ3,yQ4,yQ5]) rfl ?_
  have hzz:=au w2 (w.heap.size+1+1) (zI Un.c) (.slice a1 Un.nW k1) (zI Un.g) (.slice a2 Un.nO k2) (.slice a3 Un.nX k3) (.slice a4 Un.nI k4)
  refine ⟨⟨_,rfl,?_⟩,ax B4.out (by omega) _ _ _ _ _ _⟩
  show aV w.heap.size (aG w2 (w.heap.size+1+1) (zI Un.c) (.slice a1 Un.nW k1) (zI Un.g) (.slice a2 Un.nO k2) (.slice a3 Un.nX k3) (.slice a4 Un.nI k4)).heap.size (aG w2 (w.heap.size+1+1) (zI Un.c) (.slice a1 Un.nW k1) (zI Un.g) (.slice a2 Un.nO k2) (.slice a3 Un.nX k3) (.slice a4 Un.nI k4)) _ _
  rw [hzz,ER.out]
  exact (O4.out.sm (Hl hzz.symm) (fun x g1 g2=>aH (by omega) (zI Un.c) (.slice a1 Un.nW k1) (zI Un.g) (.slice a2 Un.nO k2) (.slice a3 Un.nX k3) (.slice a4 Un.nI k4))).wide (by omega) (by omega) (by omega)
 ·have HF:=hid hF
  obtain rfl:=hv.2 hF
  clear hF hv
  obtain ⟨yQ0,yQ1,yQ2,yQ3,yQ4,yQ5⟩:=Q2.out.a6
  obtain ⟨zQ0,zQ1,zQ2,zQ3,zQ4,zQ5⟩:=Q2.out.f6
  have hlQ:(w.heap.size+1+1)<w1.heap.size:=Q2.out.1
  go_wp2
  refine Hw (v:=.agg zN.toArray) (by simp [results,Tryz.results30,go_sem,yQ0,yQ1,yQ2,yQ3,yQ4,yQ5]) rfl ?_
  have ER:iw c d a V nR Z=CV.zero:=by unfold iw;rw [EB.out,if_neg (by simp [HF.out])]
  exact ⟨⟨_,rfl,by rw [ER];exact iH _ _ _⟩,ax B2.out (by omega) _ _ _ _ _ _⟩
