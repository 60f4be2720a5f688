/- StoFence of the model and of the program; conditions: the store lies in memory. -/
import Derived.Test.YtngaboipleimcaaGreatDoorGC
import Derived.Test.YtngaboipleimcaaGreatDoorFO
set_option linter.unusedVariables false
set_option maxHeartbeats 8000000
set_option maxRecDepth 20000
namespace Go.Proofs.YtngaboipleimcaaGreatDoor
open Go.RowKit Go.Deep
structure Fnc where
 a:Int
 V:CV
 n:Nat
 ok:Bool
def fence (c d a:Int) (V:CV) (n:Nat) (Z:Nat→Nat→Int) (g:Int):Fnc:=if mF c d a V n Z=true∧inB g 0 900=true then (if g<a then ⟨a,V,n,false⟩ else ⟨g,V,n,true⟩) else ⟨0,CV.zero,0,false⟩
theorem Ih.zero {lo hi:Nat} {w:World} {Z:Nat→Nat→Int} (h1:lo≤hi) (h2:hi≤w.heap.size):Ih lo hi w (.agg z8.toArray) 0 CV.zero 0 Z :=
 ⟨none,0,none,0,none,0,none,0,none,0,lo,lo,lo,rfl,iH lo lo w,.inl ⟨rfl,none,0,rfl⟩,Ho _,Ho _,h1,h2,.inr (Ho _)⟩
theorem Ig (c d a g:Int) (V:CV) (lo bW bO bX bI bR nR:Nat) (Z:Nat→Nat→Int) (hs0:V.short 1048576) (hnR:nR≤1048576) (w:World) (CP0:eH lo w (.agg (zC V bW V.nW bO V.nO bX V.nX bI V.nI).toArray) V) (hbR:bR<w.heap.size) (hR0:∀ k j,k<nR→j<16→w.cell? ⟨bR,0+k * 16+j,none⟩=some (.int .i64 (Z k j))) :
 Hz 32 #[.agg #[zI c,zI d],.agg [zI a,zI V.c,zS bW V.nW V.nW,zI V.g,zS bO V.nO V.nO,zS bX V.nX V.nX,zS bI V.nI V.nI,zS bR nR nR].toArray,zI g] w fun e w'=>(∃ u,e=.returned (.tuple #[u,.bool (fence c d a V nR Z g).ok])∧Ih w.heap.size w'.heap.size w' u (fence c d a V nR Z g).a (fence c d a V nR Z g).V (fence c d a V nR Z g).n Z)∧Below w.heap.size w w':=by
 have hs:=hid hs0
 have HR:=hid hR0
 have CP:=hid CP0
 clear hs0 CP0 hR0
 go_enter Tryz.func32,Tryz.ntmps32
 go_wp2_with fail
 obtain ⟨w0,e0,B1,M1,S1,Q1,hz0⟩:=Ff w [zI c,zI d] 44 [zI a,zI V.c,zS bW V.nW V.nW,zI V.g,zS bO V.nO V.nO,zS bX V.nX V.nX,zS bI V.nI V.nI,zS bR nR nR] 71 z8 71
 rw [←e0]
 clear e0
 refine (xQ c d a V lo bW bO bX bI bR nR Z hs.out hnR _ (CP.out.below B1.out) (by omega) (fun k j e1 e2=>(B1.out.cell (p:=⟨bR,0+k * 16+j,none⟩) hbR).trans (HR.out k j e1 e2))).mono ?_
 rintro e w1 ⟨rfl,hb⟩
 have kz1:=hb.size
 have B2:=hid (ah B1.out hb)
 have M2:=hid (M1.out.below hb)
 have S2:=hid (S1.out.below hb)
 have Q2:=hid (Q1.out.below hb)
 clear B1 M1 S1 Q1 hb
 cases h1:mF c d a V nR Z
 ·have H1:=hid h1
  clear h1
  have ER:Hid (fence c d a V nR Z g=⟨0,CV.zero,0,false⟩):=by unfold Hid fence;rw [if_neg (by rw [H1.out];simp)]
  obtain ⟨p0,p1,p2,p3,p4,p5,p6,p7⟩:=Q2.out.a8
  obtain ⟨t0,t1,t2,t3,t4,t5,t6,t7⟩:=Q2.out.f8
  have hlQ:(w.heap.size+1+1)<w1.heap.size:=Q2.out.1
  go_wp2
  refine Hw (v:=.tuple #[.agg [zI 0,zI 0,.slice none 0 0,zI 0,.slice none 0 0,.slice none 0 0,.slice none 0 0,.slice none 0 0].toArray,.bool false]) (by simp [results,Tryz.results32,go_sem,p0,p1,p2,p3,p4,p5,p6,p7]) rfl ?_
  have hzz:=H6 w1 (w.heap.size+1+1) (zI 0) (zI 0) (.slice none 0 0) (zI 0) (.slice none 0 0) (.slice none 0 0) (.slice none 0 0) (.slice none 0 0)
  refine ⟨⟨_,by rw [ER.out],?_⟩,HY B2.out (by omega) _ _ _ _ _ _ _ _⟩
  show Ih w.heap.size (H7 w1 (w.heap.size+1+1) (zI 0) (zI 0) (.slice none 0 0) (zI 0) (.slice none 0 0) (.slice none 0 0) (.slice none 0 0) (.slice none 0 0)).heap.size (H7 w1 (w.heap.size+1+1) (zI 0) (zI 0) (.slice none 0 0) (zI 0) (.slice none 0 0) (.slice none 0 0) (.slice none 0 0) (.slice none 0 0)) _ _ _ _ _
  rw [hzz,ER.out]
  exact Ih.zero (by omega) (Hl hzz.symm)
 have H1:=hid h1
 clear h1
 go_wp2_with fail
 refine (Aj g 0 900 _).mono ?_
 rintro e wq ⟨rfl,hw⟩
 obtain rfl:=hw.symm
 cases h2:inB g 0 900
 ·have H2:=hid h2
  clear h2
  have ER:Hid (fence c d a V nR Z g=⟨0,CV.zero,0,false⟩):=by unfold Hid fence;rw [if_neg (by rw [H2.out];simp)]
  obtain ⟨p0,p1,p2,p3,p4,p5,p6,p7⟩:=Q2.out.a8
  obtain ⟨t0,t1,t2,t3,t4,t5,t6,t7⟩:=Q2.out.f8
  have hlQ:(w.heap.size+1+1)<w1.heap.size:=Q2.out.1
  go_wp2
  refine Hw (v:=.tuple #[.agg [zI 0,zI 0,.slice none 0 0,zI 0,.slice none 0 0,.slice none 0 0,.slice none 0 0,.slice none 0 0].toArray,.bool false]) (by simp [results,Tryz.results32,go_sem,p0,p1,p2,p3,p4,p5,p6,p7]) rfl ?_
  have hzz:=H6 w1 (w.heap.size+1+1) (zI 0) (zI 0) (.slice none 0 0) (zI 0) (.slice none 0 0) (.slice none 0 0) (.slice none 0 0) (.slice none 0 0)
  refine ⟨⟨_,by rw [ER.out],?_⟩,HY B2.out (by omega) _ _ _ _ _ _ _ _⟩
  show Ih w.heap.size (H7 w1 (w.heap.size+1+1) (zI 0) (zI 0) (.slice none 0 0) (zI 0) (.slice none 0 0) (.slice none 0 0) (.slice none 0 0) (.slice none 0 0)).heap.size (H7 w1 (w.heap.size+1+1) (zI 0) (zI 0) (.slice none 0 0) (zI 0) (.slice none 0 0) (.slice none 0 0) (.slice none 0 0) (.slice none 0 0)) _ _ _ _ _
  rw [hzz,ER.out]
  exact Ih.zero (by omega) (Hl hzz.symm)
 have H2:=hid h2
 clear h2
 obtain ⟨y0,y1,y2,y3,y4,y5,y6,y7⟩:=S2.out.a8
 have hlS:w.heap.size+1<w1.heap.size:=S2.out.1
 go_wp2_with fail
 clear y0 y1 y2 y3 y4 y5 y6 y7 hlS
 refine (Iq a V lo bW bO bX bI bR nR Z hs.out hnR _ (CP.out.below B2.out) (by omega) (fun k j e1 e2=>(B2.out.cell (p:=⟨bR,0+k * 16+j,none⟩) hbR).trans (HR.out k j e1 e2))).mono ?_
 rintro e w2 ⟨⟨u,rfl,hO⟩,hb⟩
 have kz2:=hb.size
 obtain ⟨a1,k1,a2,k2,a3,k3,a4,k4,aR,kR,l,m,gg,rfl,h1,h2,h3,h4,h5,h6,h7⟩:=hO
 have OS:Hid (Ih w1.heap.size w2.heap.size w2 (.agg [zI a,zI V.c,.slice a1 V.nW k1,zI V.g,.slice a2 V.nO k2,.slice a3 V.nX k3,.slice a4 V.nI k4,.slice aR nR kR].toArray) a V nR Z):=⟨a1,k1,a2,k2,a3,k3,a4,k4,aR,kR,l,m,gg,rfl,h1,h2,h3,h4,h5,h6,h7⟩
 clear h1 h2 h3 h4 h5 h6 h7
 have B3:=hid (ah B2.out hb)
 have S3:=hid (S2.out.below hb)
 have Q3:=hid (Q2.out.below hb)
 clear B2 M2 S2 Q2 hb
 go_upto_region 4 with fail
 obtain ⟨w3,en,hbx,hX,hz3⟩:=bx1 w2 [zI a,zI V.c,.slice a1 V.nW k1,zI V.g,.slice a2 V.nO k2,.slice a3 V.nX k3,.slice a4 V.nI k4,.slice aR nR kR] 71
 rw [←en]
 clear en
 have kz3:=hbx.size
 have B4:=hid (ah B3.out hbx)
 have S4:=hid (S3.out.below hbx)
 have Q4:=hid (Q3.out.below hbx)
 have O4:=hid (OS.out.below hbx)
 have X4:=hid hX
 clear B3 S3 Q3 OS hX hbx
 obtain ⟨x0,x1,x2,x3,x4,x5,x6,x7⟩:=X4.out.a8
 have hlX:w2.heap.size<w3.heap.size:=X4.out.1
 obtain ⟨f0,f1,f2,f3,f4,f5,f6,f7⟩:=X4.out.f8
 by_cases hlt:g<a
 ·have ER:Hid (fence c d a V nR Z g=⟨a,V,nR,false⟩):=by unfold Hid fence;rw [if_pos ⟨H1.out,H2.out⟩,if_pos hlt]
  obtain ⟨p0,p1,p2,p3,p4,p5,p6,p7⟩:=Q4.out.a8
  obtain ⟨t0,t1,t2,t3,t4,t5,t6,t7⟩:=Q4.out.f8
  have hlQ:(w.heap.size+1+1)<w3.heap.size:=Q4.out.1
  go_wp2
  refine Hw (v:=.tuple #[.agg [zI a,zI V.c,.slice a1 V.nW k1,zI V.g,.slice a2 V.nO k2,.slice a3 V.nX k3,.slice a4 V.nI k4,.slice aR nR kR].toArray,.bool false]) (by simp [results,Tryz.results32,go_sem,p0,p1,p2,p3,p4,p5,p6,p7]) rfl ?_
  have hzz:=H6 w3 (w.heap.size+1+1) (zI a) (zI V.c) (.slice a1 V.nW k1) (zI V.g) (.slice a2 V.nO k2) (.slice a3 V.nX k3) (.slice a4 V.nI k4) (.slice aR nR kR)
  refine ⟨⟨_,by rw [ER.out],?_⟩,HY B4.out (by omega) _ _ _ _ _ _ _ _⟩
  show Ih w.heap.size (H7 w3 (w.heap.size+1+1) (zI a) (zI V.c) (.slice a1 V.nW k1) (zI V.g) (.slice a2 V.nO k2) (.slice a3 V.nX k3) (.slice a4 V.nI k4) (.slice aR nR kR)).heap.size (H7 w3 (w.heap.size+1+1) (zI a) (zI V.c) (.slice a1 V.nW k1) (zI V.g) (.slice a2 V.nO k2) (.slice a3 V.nX k3) (.slice a4 V.nI k4) (.slice aR nR kR)) _ _ _ _ _
  rw [hzz,ER.out]
  exact (O4.out.sm (Hl hzz.symm) (fun b q1 q2=>Ia (by omega) _ _ _ _ _ _ _ _)).wide (by omega) (by omega) (by omega)
 go_upto_region 7 with fail
 clear x0 x1 x2 x3 x4 x5 x6 x7 hlX
 clear f0 f1 f2 f3 f4 f5 f6 f7
 obtain ⟨w4,e4⟩:∃ y,y=w3.setCell (zA w2.heap.size 0) (zI g):=⟨_,rfl⟩
 rw [←e4]
 have kz4:w3.heap.size≤w4.heap.size:=by rw [e4,ay];exact Ho _
 have SM:∀ b,¬ b=w2.heap.size→Sm w3 w4 b:=fun b hb o=>by rw [e4];exact ⟨aJ (fun e=>hb e.1.symm),aB⟩
 have B5:Hid (Below w.heap.size w w4):=by unfold Hid;rw [e4];exact B4.out.setCell (by show w.heap.size≤w2.heap.size;omega) _
 have X5:Hid (Bk w4 w2.heap.size [zI g,zI V.c,.slice a1 V.nW k1,zI V.g,.slice a2 V.nO k2,.slice a3 V.nX k3,.slice a4 V.nI k4,.slice aR nR kR]):=by unfold Hid;rw [e4];exact Bk.set (j:=0) X4.out (by simp)
 have Q5:=hid (Q4.out.sm kz4 (SM _ (by omega)))
 have O5:=hid (O4.out.sm kz4 (fun b q1 q2=>SM b (by omega)))
 have O6:Hid (Ih w1.heap.size w2.heap.size w4 (.agg [zI g,zI V.c,.slice a1 V.nW k1,zI V.g,.slice a2 V.nO k2,.slice a3 V.nX k3,.slice a4 V.nI k4,.slice aR nR kR].toArray) g V nR Z):=by
  obtain ⟨a1',k1',a2',k2',a3',k3',a4',k4',aR',kR',l,m,gg,e,h⟩:=O5.out
  simp only [Value.agg.injEq,Array.mk.injEq,List.cons.injEq,Value.slice.injEq,true_and,and_true] at e
  obtain ⟨⟨rfl,rfl⟩,⟨rfl,rfl⟩,⟨rfl,rfl⟩,⟨rfl,rfl⟩,⟨rfl,rfl⟩⟩:=e
  exact ⟨a1,k1,a2,k2,a3,k3,a4,k4,aR,kR,l,m,gg,rfl,h⟩
 clear e4 SM B4 S4 X4 Q4 O4 O5
 obtain ⟨x0,x1,x2,x3,x4,x5,x6,x7⟩:=X5.out.a8
 have hlX:w2.heap.size<w4.heap.size:=X5.out.1
 have ER:Hid (fence c d a V nR Z g=⟨g,V,nR,true⟩):=by unfold Hid fence;rw [if_pos ⟨H1.out,H2.out⟩,if_neg hlt]
 obtain ⟨p0,p1,p2,p3,p4,p5,p6,p7⟩:=Q5.out.a8
 obtain ⟨t0,t1,t2,t3,t4,t5,t6,t7⟩:=Q5.out.f8
 have hlQ:(w.heap.size+1+1)<w4.heap.size:=Q5.out.1
 go_wp2
 refine Hw (v:=.tuple #[.agg [zI g,zI V.c,.slice a1 V.nW k1,zI V.g,.slice a2 V.nO k2,.slice a3 V.nX k3,.slice a4 V.nI k4,.slice aR nR kR].toArray,.bool true]) (by simp [results,Tryz.results32,go_sem,p0,p1,p2,p3,p4,p5,p6,p7]) rfl ?_
 have hzz:=H6 w4 (w.heap.size+1+1) (zI g) (zI V.c) (.slice a1 V.nW k1) (zI V.g) (.slice a2 V.nO k2) (.slice a3 V.nX k3) (.slice a4 V.nI k4) (.slice aR nR kR)
 refine ⟨⟨_,by rw [ER.out],?_⟩,HY B5.out (by omega) _ _ _ _ _ _ _ _⟩
 show Ih w.heap.size (H7 w4 (w.heap.size+1+1) (zI g) (zI V.c) (.slice a1 V.nW k1) (zI V.g) (.slice a2 V.nO k2) (.slice a3 V.nX k3) (.slice a4 V.nI k4) (.slice aR nR kR)).heap.size (H7 w4 (w.heap.size+1+1) (zI g) (zI V.c) (.slice a1 V.nW k1) (zI V.g) (.slice a2 V.nO k2) (.slice a3 V.nX k3) (.slice a4 V.nI k4) (.slice aR nR kR)) _ _ _ _ _
 rw [hzz,ER.out]
 exact (O6.out.sm (Hl hzz.symm) (fun b q1 q2=>Ia (by omega) _ _ _ _ _ _ _ _)).wide (by omega) (by omega) (by omega)
theorem Ib (c d a g:Int) (V:CV) (lo bW bO bX bI bR nR:Nat) (Z:Nat→Nat→Int) (hs0:V.short 1048576) (hnR:nR≤1048576) (hwf0:∀ k,k<V.nW→(Lit.int .i64 (V.W k 0)).wf=true) (hwR0:∀ k j,k<nR→j<16→(Lit.int .i64 (Z k j)).wf=true) (w:World) (hg00:w.cell? (zA 0 0)=some (.iface 226 (.agg #[zP 1 199]))) (CP0:eH lo w (.agg (zC V bW V.nW bO V.nO bX V.nX bI V.nI).toArray) V) (hbR:bR<w.heap.size) (hR0:∀ k j,k<nR→j<16→w.cell? ⟨bR,0+k * 16+j,none⟩=some (.int .i64 (Z k j))) :
 Hz 33 #[.agg #[zI c,zI d],.agg [zI a,zI V.c,zS bW V.nW V.nW,zI V.g,zS bO V.nO V.nO,zS bX V.nX V.nX,zS bI V.nI V.nI,zS bR nR nR].toArray,zI g] w fun e w'=>(∃ u,e=.returned (.tuple #[u,.bool (fence c d a V nR Z g).ok])∧Ih w.heap.size w'.heap.size w' u (fence c d a V nR Z g).a (fence c d a V nR Z g).V (fence c d a V nR Z g).n Z)∧Below w.heap.size w w':=by
 have hs:=hid hs0
 have HR:=hid hR0
 have CP:=hid CP0
 have hwf:=hid hwf0
 have hwR:=hid hwR0
 have hg0:=hid hg00
 have hpos:0<w.heap.size:=World.block_lt_of_cell? w (zA 0 0) hg00
 clear hwf0 hwR0 hg00
 clear hs0 CP0 hR0
 go_enter Tryz.func33,Tryz.ntmps33
 go_wp2_with fail
 obtain ⟨w0,e0,B1,M1,S1,Q1,hz0⟩:=Ff w [zI c,zI d] 44 [zI a,zI V.c,zS bW V.nW V.nW,zI V.g,zS bO V.nO V.nO,zS bX V.nX V.nX,zS bI V.nI V.nI,zS bR nR nR] 71 z8 71
 rw [←e0]
 clear e0
 refine (Ir c d a V lo bW bO bX bI bR nR Z hs.out hnR hwf.out hwR.out _ ((B1.out.cell (p:=(zA 0 0)) hpos).trans hg0.out) (CP.out.below B1.out) (by omega) (fun k j e1 e2=>(B1.out.cell (p:=⟨bR,0+k * 16+j,none⟩) hbR).trans (HR.out k j e1 e2))).mono ?_
 rintro e w1 ⟨rfl,hb⟩
 have kz1:=hb.size
 have B2:=hid (ah B1.out hb)
 have M2:=hid (M1.out.below hb)
 have S2:=hid (S1.out.below hb)
 have Q2:=hid (Q1.out.below hb)
 clear B1 M1 S1 Q1 hb
 cases h1:mF c d a V nR Z
 ·have H1:=hid h1
  clear h1
  have ER:Hid (fence c d a V nR Z g=⟨0,CV.zero,0,false⟩):=by unfold Hid fence;rw [if_neg (by rw [H1.out];simp)]
  obtain ⟨p0,p1,p2,p3,p4,p5,p6,p7⟩:=Q2.out.a8
  obtain ⟨t0,t1,t2,t3,t4,t5,t6,t7⟩:=Q2.out.f8
  have hlQ:(w.heap.size+1+1)<w1.heap.size:=Q2.out.1
  go_wp2
  refine Hw (v:=.tuple #[.agg [zI 0,zI 0,.slice none 0 0,zI 0,.slice none 0 0,.slice none 0 0,.slice none 0 0,.slice none 0 0].toArray,.bool false]) (by simp [results,Tryz.results33,go_sem,p0,p1,p2,p3,p4,p5,p6,p7]) rfl ?_
  have hzz:=H6 w1 (w.heap.size+1+1) (zI 0) (zI 0) (.slice none 0 0) (zI 0) (.slice none 0 0) (.slice none 0 0) (.slice none 0 0) (.slice none 0 0)
  refine ⟨⟨_,by rw [ER.out],?_⟩,HY B2.out (by omega) _ _ _ _ _ _ _ _⟩
  show Ih w.heap.size (H7 w1 (w.heap.size+1+1) (zI 0) (zI 0) (.slice none 0 0) (zI 0) (.slice none 0 0) (.slice none 0 0) (.slice none 0 0) (.slice none 0 0)).heap.size (H7 w1 (w.heap.size+1+1) (zI 0) (zI 0) (.slice none 0 0) (zI 0) (.slice none 0 0) (.slice none 0 0) (.slice none 0 0) (.slice none 0 0)) _ _ _ _ _
  rw [hzz,ER.out]
  exact Ih.zero (by omega) (Hl hzz.symm)
 have H1:=hid h1
 clear h1
 go_wp2_with fail
 refine (lU g _).mono ?_
 rintro e wq ⟨rfl,hw⟩
 obtain rfl:=hw.symm
 cases h2:inB g 0 900
 ·have H2:=hid h2
  clear h2
  have ER:Hid (fence c d a V nR Z g=⟨0,CV.zero,0,false⟩):=by unfold Hid fence;rw [if_neg (by rw [H2.out];simp)]
  obtain ⟨p0,p1,p2,p3,p4,p5,p6,p7⟩:=Q2.out.a8
  obtain ⟨t0,t1,t2,t3,t4,t5,t6,t7⟩:=Q2.out.f8
  have hlQ:(w.heap.size+1+1)<w1.heap.size:=Q2.out.1
  go_wp2
  refine Hw (v:=.tuple #[.agg [zI 0,zI 0,.slice none 0 0,zI 0,.slice none 0 0,.slice none 0 0,.slice none 0 0,.slice none 0 0].toArray,.bool false]) (by simp [results,Tryz.results33,go_sem,p0,p1,p2,p3,p4,p5,p6,p7]) rfl ?_
  have hzz:=H6 w1 (w.heap.size+1+1) (zI 0) (zI 0) (.slice none 0 0) (zI 0) (.slice none 0 0) (.slice none 0 0) (.slice none 0 0) (.slice none 0 0)
  refine ⟨⟨_,by rw [ER.out],?_⟩,HY B2.out (by omega) _ _ _ _ _ _ _ _⟩
  show Ih w.heap.size (H7 w1 (w.heap.size+1+1) (zI 0) (zI 0) (.slice none 0 0) (zI 0) (.slice none 0 0) (.slice none 0 0) (.slice none 0 0) (.slice none 0 0)).heap.size (H7 w1 (w.heap.size+1+1) (zI 0) (zI 0) (.slice none 0 0) (zI 0) (.slice none 0 0) (.slice none 0 0) (.slice none 0 0) (.slice none 0 0)) _ _ _ _ _
  rw [hzz,ER.out]
  exact Ih.zero (by omega) (Hl hzz.symm)
 have H2:=hid h2
 clear h2
 obtain ⟨y0,y1,y2,y3,y4,y5,y6,y7⟩:=S2.out.a8
 have hlS:w.heap.size+1<w1.heap.size:=S2.out.1
 go_wp2_with fail
 clear y0 y1 y2 y3 y4 y5 y6 y7 hlS
 refine (Ii a V lo bW bO bX bI bR nR Z hs.out hnR _ (CP.out.below B2.out) (by omega) (fun k j e1 e2=>(B2.out.cell (p:=⟨bR,0+k * 16+j,none⟩) hbR).trans (HR.out k j e1 e2))).mono ?_
 rintro e w2 ⟨⟨u,rfl,hO⟩,hb⟩
 have kz2:=hb.size
 obtain ⟨a1,k1,a2,k2,a3,k3,a4,k4,aR,kR,l,m,gg,rfl,h1,h2,h3,h4,h5,h6,h7⟩:=hO
 have OS:Hid (Ih w1.heap.size w2.heap.size w2 (.agg [zI a,zI V.c,.slice a1 V.nW k1,zI V.g,.slice a2 V.nO k2,.slice a3 V.nX k3,.slice a4 V.nI k4,.slice aR nR kR].toArray) a V nR Z):=⟨a1,k1,a2,k2,a3,k3,a4,k4,aR,kR,l,m,gg,rfl,h1,h2,h3,h4,h5,h6,h7⟩
 clear h1 h2 h3 h4 h5 h6 h7
 have B3:=hid (ah B2.out hb)
 have S3:=hid (S2.out.below hb)
 have Q3:=hid (Q2.out.below hb)
 clear B2 M2 S2 Q2 hb
 go_upto_region 4 with fail
 obtain ⟨w3,en,hbx,hX,hz3⟩:=bx1 w2 [zI a,zI V.c,.slice a1 V.nW k1,zI V.g,.slice a2 V.nO k2,.slice a3 V.nX k3,.slice a4 V.nI k4,.slice aR nR kR] 71
 rw [←en]
 clear en
 have kz3:=hbx.size
 have B4:=hid (ah B3.out hbx)
 have S4:=hid (S3.out.below hbx)
 have Q4:=hid (Q3.out.below hbx)
 have O4:=hid (OS.out.below hbx)
 have X4:=hid hX
 clear B3 S3 Q3 OS hX hbx
 obtain ⟨y0,y1,y2,y3,y4,y5,y6,y7⟩:=S4.out.a8
 have hlS:w.heap.size+1<w3.heap.size:=S4.out.1
 obtain ⟨x0,x1,x2,x3,x4,x5,x6,x7⟩:=X4.out.a8
 have hlX:w2.heap.size<w3.heap.size:=X4.out.1
 obtain ⟨f0,f1,f2,f3,f4,f5,f6,f7⟩:=X4.out.f8
 by_cases hlt:g<a
 ·have ER:Hid (fence c d a V nR Z g=⟨a,V,nR,false⟩):=by unfold Hid fence;rw [if_pos ⟨H1.out,H2.out⟩,if_pos hlt]
  obtain ⟨p0,p1,p2,p3,p4,p5,p6,p7⟩:=Q4.out.a8
  obtain ⟨t0,t1,t2,t3,t4,t5,t6,t7⟩:=Q4.out.f8
  have hlQ:(w.heap.size+1+1)<w3.heap.size:=Q4.out.1
  go_wp2
  refine Hw (v:=.tuple #[.agg [zI a,zI V.c,.slice a1 V.nW k1,zI V.g,.slice a2 V.nO k2,.slice a3 V.nX k3,.slice a4 V.nI k4,.slice aR nR kR].toArray,.bool false]) (by simp [results,Tryz.results33,go_sem,p0,p1,p2,p3,p4,p5,p6,p7]) rfl ?_
  have hzz:=H6 w3 (w.heap.size+1+1) (zI a) (zI V.c) (.slice a1 V.nW k1) (zI V.g) (.slice a2 V.nO k2) (.slice a3 V.nX k3) (.slice a4 V.nI k4) (.slice aR nR kR)
  refine ⟨⟨_,by rw [ER.out],?_⟩,HY B4.out (by omega) _ _ _ _ _ _ _ _⟩
  show Ih w.heap.size (H7 w3 (w.heap.size+1+1) (zI a) (zI V.c) (.slice a1 V.nW k1) (zI V.g) (.slice a2 V.nO k2) (.slice a3 V.nX k3) (.slice a4 V.nI k4) (.slice aR nR kR)).heap.size (H7 w3 (w.heap.size+1+1) (zI a) (zI V.c) (.slice a1 V.nW k1) (zI V.g) (.slice a2 V.nO k2) (.slice a3 V.nX k3) (.slice a4 V.nI k4) (.slice aR nR kR)) _ _ _ _ _
  rw [hzz,ER.out]
  exact (O4.out.sm (Hl hzz.symm) (fun b q1 q2=>Ia (by omega) _ _ _ _ _ _ _ _)).wide (by omega) (by omega) (by omega)
 go_upto_region 7 with fail
 clear x0 x1 x2 x3 x4 x5 x6 x7 hlX
 clear y0 y1 y2 y3 y4 y5 y6 y7 hlS
 clear f0 f1 f2 f3 f4 f5 f6 f7
 obtain ⟨w4,e4⟩:∃ y,y=w3.setCell (zA w2.heap.size 0) (zI g):=⟨_,rfl⟩
 rw [←e4]
 have kz4:w3.heap.size≤w4.heap.size:=by rw [e4,ay];exact Ho _
 have SM:∀ b,¬ b=w2.heap.size→Sm w3 w4 b:=fun b hb o=>by rw [e4];exact ⟨aJ (fun e=>hb e.1.symm),aB⟩
 have B5:Hid (Below w.heap.size w w4):=by unfold Hid;rw [e4];exact B4.out.setCell (by show w.heap.size≤w2.heap.size;omega) _
 have X5:Hid (Bk w4 w2.heap.size [zI g,zI V.c,.slice a1 V.nW k1,zI V.g,.slice a2 V.nO k2,.slice a3 V.nX k3,.slice a4 V.nI k4,.slice aR nR kR]):=by unfold Hid;rw [e4];exact Bk.set (j:=0) X4.out (by simp)
 have Q5:=hid (Q4.out.sm kz4 (SM _ (by omega)))
 have O5:=hid (O4.out.sm kz4 (fun b q1 q2=>SM b (by omega)))
 have O6:Hid (Ih w1.heap.size w2.heap.size w4 (.agg [zI g,zI V.c,.slice a1 V.nW k1,zI V.g,.slice a2 V.nO k2,.slice a3 V.nX k3,.slice a4 V.nI k4,.slice aR nR kR].toArray) g V nR Z):=by
  obtain ⟨a1',k1',a2',k2',a3',k3',a4',k4',aR',kR',l,m,gg,e,h⟩:=O5.out
  simp only [Value.agg.injEq,Array.mk.injEq,List.cons.injEq,Value.slice.injEq,true_and,and_true] at e
  obtain ⟨⟨rfl,rfl⟩,⟨rfl,rfl⟩,⟨rfl,rfl⟩,⟨rfl,rfl⟩,⟨rfl,rfl⟩⟩:=e
  exact ⟨a1,k1,a2,k2,a3,k3,a4,k4,aR,kR,l,m,gg,rfl,h⟩
 clear e4 SM B4 S4 X4 Q4 O4 O5
 obtain ⟨x0,x1,x2,x3,x4,x5,x6,x7⟩:=X5.out.a8
 have hlX:w2.heap.size<w4.heap.size:=X5.out.1
 have ER:Hid (fence c d a V nR Z g=⟨g,V,nR,true⟩):=by unfold Hid fence;rw [if_pos ⟨H1.out,H2.out⟩,if_neg hlt]
 obtain ⟨p0,p1,p2,p3,p4,p5,p6,p7⟩:=Q5.out.a8
 obtain ⟨t0,t1,t2,t3,t4,t5,t6,t7⟩:=Q5.out.f8
 have hlQ:(w.heap.size+1+1)<w4.heap.size:=Q5.out.1
 go_wp2
 refine Hw (v:=.tuple #[.agg [zI g,zI V.c,.slice a1 V.nW k1,zI V.g,.slice a2 V.nO k2,.slice a3 V.nX k3,.slice a4 V.nI k4,.slice aR nR kR].toArray,.bool true]) (by simp [results,Tryz.results33,go_sem,p0,p1,p2,p3,p4,p5,p6,p7]) rfl ?_
 have hzz:=H6 w4 (w.heap.size+1+1) (zI g) (zI V.c) (.slice a1 V.nW k1) (zI V.g) (.slice a2 V.nO k2) (.slice a3 V.nX k3) (.slice a4 V.nI k4) (.slice aR nR kR)
 refine ⟨⟨_,by rw [ER.out],?_⟩,HY B5.out (by omega) _ _ _ _ _ _ _ _⟩
 show Ih w.heap.size (H7 w4 (w.heap.size+1+1) (zI g) (zI V.c) (.slice a1 V.nW k1) (zI V.g) (.slice a2 V.nO k2) (.slice a3 V.nX k3) (.slice a4 V.nI k4) (.slice aR nR kR)).heap.size (H7 w4 (w.heap.size+1+1) (zI g) (zI V.c) (.slice a1 V.nW k1) (zI V.g) (.slice a2 V.nO k2) (.slice a3 V.nX k3) (.slice a4 V.nI k4) (.slice aR nR kR)) _ _ _ _ _
 rw [hzz,ER.out]
 exact (O6.out.sm (Hl hzz.symm) (fun b q1 q2=>Ia (by omega) _ _ _ _ _ _ _ _)).wide (by omega) (by omega) (by omega)
