/- StoOk of the model; conditions: the store lies in memory. -/
import Derived.Test.YtngaboipleimcaaGreatDoorFM
import Derived.Test.YtngaboipleimcaaGreatDoorFS
set_option linter.unusedVariables false
set_option maxHeartbeats 8000000
set_option maxRecDepth 20000
namespace Go.Proofs.YtngaboipleimcaaGreatDoor
open Go.RowKit Go.Deep
theorem Aj (n a b:Int) (w:World):Hz 65 #[zI n,zI a,zI b] w fun e w'=>e=.returned (.bool (inB n a b))∧w'=w:=by
 go_enter Tryz.func65,Tryz.ntmps65
 by_cases h1:a≤n <;> by_cases h2:n≤b <;> (go_wp2;exact Hw (v:=.bool (inB n a b)) (by simp [results,Tryz.results65,go_sem,inB,h1,h2]) rfl ⟨rfl,rfl⟩)
theorem xQ (c d a:Int) (V:CV) (lo bW bO bX bI bR nR:Nat) (Z:Nat→Nat→Int) (hs0:V.short 1048576) (hnR:nR≤1048576) (w:World) (CP0:eH lo w (.agg (zC V bW V.nW bO V.nO bX V.nX bI V.nI).toArray) V) (hbR:bR<w.heap.size) (hR0:∀ k j,k<nR→j<16→w.cell? ⟨bR,0+k * 16+j,none⟩=some (.int .i64 (Z k j))) :
 Hz 25 #[.agg #[zI c,zI d],.agg [zI a,zI V.c,zS bW V.nW V.nW,zI V.g,zS bO V.nO V.nO,zS bX V.nX V.nX,zS bI V.nI V.nI,zS bR nR nR].toArray] w fun e w'=>e=.returned (.bool (mF c d a V nR Z))∧Below w.heap.size w w':=by
 have hs:=hid hs0
 have HR:=hid hR0
 have CP:=hid CP0
 clear hs0 CP0 hR0
 go_enter Tryz.func25,Tryz.ntmps25
 go_wp2_with fail
 obtain ⟨w0,e0,B1,M1,S1,hz0⟩:=EX w [zI c,zI d] 44 [zI a,zI V.c,zS bW V.nW V.nW,zI V.g,zS bO V.nO V.nO,zS bX V.nX V.nX,zS bI V.nI V.nI,zS bR nR nR] 71
 rw [←e0]
 clear e0
 refine (Aj a 0 900 _).mono ?_
 rintro e wq ⟨rfl,hw⟩
 obtain rfl:=hw.symm
 cases h1:inB a 0 900
 ·have HN:=hid h1
  clear h1
  go_wp2
  go_ret
  exact ⟨by simp [mF,HN.out],B1.out⟩
 have H1:=hid h1
 clear h1
 obtain ⟨y0,y1,y2,y3,y4,y5,y6,y7⟩:=S1.out.a8
 have hlS:(w.heap.size+1)<w0.heap.size:=S1.out.1
 obtain ⟨m0,m1⟩:=M1.out.a2
 have hlM:w.heap.size<w0.heap.size:=M1.out.1
 go_wp2_with fail
 clear y0 y1 y2 y3 y4 y5 y6 y7 hlS m0 m1 hlM
 refine (lV c d _ V lo hs.out _ (CP.out.below B1.out)).mono ?_
 rintro e w1 ⟨rfl,hb⟩
 have kz1:=hb.size
 have B2:=hid (ah B1.out hb)
 have M2:=hid (M1.out.below hb)
 have S2:=hid (S1.out.below hb)
 clear B1 M1 S1 hb
 cases h2:bD c d V
 ·have HN:=hid h2
  clear h2
  go_wp2
  go_ret
  exact ⟨by simp [mF,HN.out],B2.out⟩
 have H2:=hid h2
 clear h2
 obtain ⟨y0,y1,y2,y3,y4,y5,y6,y7⟩:=S2.out.a8
 have hlS:(w.heap.size+1)<w1.heap.size:=S2.out.1
 obtain ⟨m0,m1⟩:=M2.out.a2
 have hlM:w.heap.size<w1.heap.size:=M2.out.1
 by_cases h3:(250:Int)<nR
 ·go_wp2
  go_ret
  exact ⟨by simp [mF];omega,B2.out⟩
 go_wp2_with fail
 clear y0 y1 y2 y3 y4 y5 y6 y7 hlS m0 m1 hlM
 refine (sJ c d V lo bW bO bX bI bR nR Z hs.out hnR _ (CP.out.below B2.out) (by omega) (fun k j e1 e2=>(B2.out.cell (p:=⟨bR,0+k * 16+j,none⟩) hbR).trans (HR.out k j e1 e2))).mono ?_
 rintro e w2 ⟨⟨u,rfl,hO⟩,hb⟩
 obtain ⟨a1,k1,a2,k2,a3,k3,a4,k4,rfl,_,_,_,_⟩:=hO.at
 have kz2:=hb.size
 have B3:=hid (ah B2.out hb)
 have M3:=hid (M2.out.below hb)
 have S3:=hid (S2.out.below hb)
 clear B2 M2 S2 hb hO
 have EF:Hid ((foldM c d V nR Z).2=gm c d V Z nR):=by unfold Hid foldM;rw [if_pos ⟨H2.out,by omega⟩]
 rw [EF.out]
 have ES:Hid (mF c d a V nR Z=decide (gm c d V Z nR=nR)):=by unfold Hid mF;rw [H1.out,H2.out];simp;omega
 generalize (foldM c d V nR Z).1=Un at *
 obtain ⟨y0,y1,y2,y3,y4,y5,y6,y7⟩:=S3.out.a8
 have hlS:(w.heap.size+1)<w2.heap.size:=S3.out.1
 obtain ⟨m0,m1⟩:=M3.out.a2
 have hlM:w.heap.size<w2.heap.size:=M3.out.1
 by_cases hF:gm c d V Z nR=nR
 ·have hF2:((gm c d V Z nR:Nat):Int)=(nR:Int):=by omega
  have HF:=hid hF
  clear hF
  go_wp2
  go_ret
  exact ⟨by rw [ES.out,HF.out];simp,B3.out.alloc (by omega) _⟩
 ·have hF2:¬ ((gm c d V Z nR:Nat):Int)=(nR:Int):=by omega
  have HF:=hid hF
  clear hF
  go_wp2
  go_ret
  exact ⟨by rw [ES.out];simp [HF.out];omega,B3.out.alloc (by omega) _⟩
