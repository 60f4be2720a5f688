/- StoOk of the model; conditions: the store lies in memory. -/
import Derived.Test.YtngaboipleimcabGreatDoorGH
import Derived.Test.YtngaboipleimcabGreatDoorFS
set_option linter.unusedVariables false
set_option maxHeartbeats 8000000
set_option maxRecDepth 20000
namespace Go.Proofs.YtngaboipleimcabGreatDoor
open Go.RowKit Go.Deep
theorem Aj (n a b:Int) (w:World):Hz 24 #[zI n,zI a,zI b] w fun e w'=>e=.returned (.bool (inB n a b))/\w'=w:=by
 go_enter Tryz.func24,Tryz.ntmps24;by_cases h1:a<=n <;> by_cases h2:n<=b <;> (go_wp2;exact Hw (v:=.bool (inB n a b)) (by simp [results,Tryz.results24,go_sem,inB,h1,h2]) rfl ⟨rfl,rfl⟩)
theorem LM {w w':World} {aR:Option Addr} {bR nR:Nat} {Z:Nat->Nat->Int} (h:nR≠0->aR=some (zA bR 0)/\bR<w.heap.size/\∀ k j,k<nR->j<16->w.cell? (zA bR (0+k * 16+j))=some (zI (Z k j))) (hb:Below w.heap.size w w'):nR≠0->aR=some (zA bR 0)/\bR<w'.heap.size/\∀ k j,k<nR->j<16->w'.cell? (zA bR (0+k * 16+j))=some (zI (Z k j)):=fun e=>by
 obtain ⟨h1,h2,h3⟩:=h e
 exact ⟨h1,Hg h2 hb.size,fun k j q1 q2=>(hb.cell (p:=zA bR (0+k * 16+j)) h2).trans (h3 k j q1 q2)⟩
theorem Ls (c d a:Int) (V:CV) (xW:Option Addr) (cW bO cO bX cX bI cI:Nat) (aR:Option Addr) (bR nR kR:Nat) (Z:Nat->Nat->Int) (hs0:V.short 1048576) (hnR:nR<=1048576) (w:World) (CP0:dL w (.agg (zG V xW cW bO cO bX cX bI cI).toArray) V) (hR0:nR≠0->aR=some (zA bR 0)/\bR<w.heap.size/\∀ k j,k<nR->j<16->w.cell? (zA bR (0+k * 16+j))=some (zI (Z k j))) :
 Hz 23 #[.agg #[zI c,zI d],.agg [zI a,zI V.c,.slice xW V.nW cW,zI V.g,zS bO V.nO cO,zS bX V.nX cX,zS bI V.nI cI,.slice aR nR kR].toArray] w fun e w'=>e=.returned (.bool (mF c d a V nR Z))/\Below w.heap.size w w':=by
 have hs:=fQ hs0;have HR:=fQ hR0;have CP:=fQ CP0;clear hs0 CP0 hR0;go_enter Tryz.func23,Tryz.ntmps23;go_wp2_with fail;obtain ⟨w0,e0,B1,M1,S1,hz0⟩:=EX w [zI c,zI d] 44 [zI a,zI V.c,.slice xW V.nW cW,zI V.g,zS bO V.nO cO,zS bX V.nX cX,zS bI V.nI cI,.slice aR nR kR] 41;rw [<-e0];clear e0;refine (Aj a 0 900 _).mono ?_;rintro e wq ⟨rfl,hw⟩;obtain rfl:=hw.symm;cases h1:inB a 0 900
 ·have HN:=fQ h1;clear h1;go_wp2;go_ret;exact ⟨by simp [mF,HN.o],B1.o⟩
 have H1:=fQ h1;clear h1;have y0:=S1.o.a8;have hlS:(w.heap.size+1)<w0.heap.size:=S1.o.1;obtain ⟨m0,m1⟩:=M1.o.a2;have hlM:w.heap.size<w0.heap.size:=M1.o.1;go_wp2_with fail;clear y0 hlS m0 m1 hlM;refine (LQ c d _ V hs.o _ (CP.o.q B1.o)).mono ?_;rintro e w1 ⟨rfl,hb⟩;have kz1:=hb.size;have B2:=fQ (ah B1.o hb);have M2:=fQ (M1.o.q hb);have S2:=fQ (S1.o.q hb);clear B1 M1 S1 hb;cases h2:bD c d V
 ·have HN:=fQ h2;clear h2;go_wp2;go_ret;exact ⟨by simp [mF,HN.o],B2.o⟩
 have H2:=fQ h2;clear h2;have y0:=S2.o.a8;have hlS:(w.heap.size+1)<w1.heap.size:=S2.o.1;obtain ⟨m0,m1⟩:=M2.o.a2;have hlM:w.heap.size<w1.heap.size:=M2.o.1;by_cases h3:(250:Int)<nR
 ·go_wp2;go_ret;exact ⟨by simp [mF];omega,B2.o⟩
 go_wp2_with fail;clear y0 hlS m0 m1 hlM;refine (Kw c d V xW cW bO cO bX cX bI cI aR bR nR kR Z hs.o hnR _ (CP.o.q B2.o) (LM HR.o B2.o) H2.o (by omega)).mono ?_;rintro e w2 ⟨⟨u,rfl,hO⟩,hb⟩;obtain ⟨a1,k1,a2,k2,a3,k3,a4,k4,rfl,_,_,_,_⟩:=hO.at;have kz2:=hb.size;have B3:=fQ (ah B2.o hb);have M3:=fQ (M2.o.q hb);have S3:=fQ (S2.o.q hb);clear B2 M2 S2 hb hO;have EF:bY ((foldM c d V nR Z).2=gm c d V Z nR):=by unfold bY foldM;rw [if_pos ⟨H2.o,by omega⟩]
 rw [EF.o];have ES:bY (mF c d a V nR Z=decide (gm c d V Z nR=nR)):=by unfold bY mF;rw [H1.o,H2.o];simp;omega
 generalize (foldM c d V nR Z).1=Un at *;have y0:=S3.o.a8;have hlS:(w.heap.size+1)<w2.heap.size:=S3.o.1;obtain ⟨m0,m1⟩:=M3.o.a2;have hlM:w.heap.size<w2.heap.size:=M3.o.1;by_cases hF:gm c d V Z nR=nR
 ·have hF2:((gm c d V Z nR:Nat):Int)=(nR:Int):=by omega
  have HF:=fQ hF;clear hF;go_wp2;go_ret;exact ⟨by rw [ES.o,HF.o];simp,B3.o.alloc (by omega) _⟩
 have hF2:¬ ((gm c d V Z nR:Nat):Int)=(nR:Int):=by omega
 have HF:=fQ hF;clear hF;go_wp2;go_ret;exact ⟨by rw [ES.o];simp [HF.o];omega,B3.o.alloc (by omega) _⟩
theorem xQ (c d a:Int) (V:CV) (lo bW bO bX bI bR nR:Nat) (Z:Nat->Nat->Int) (hs0:V.short 1048576) (hnR:nR<=1048576) (w:World) (CP0:eH lo w (.agg (zC V bW V.nW bO V.nO bX V.nX bI V.nI).toArray) V) (hbR:bR<w.heap.size) (hR0:∀ k j,k<nR->j<16->w.cell? ⟨bR,0+k * 16+j,none⟩=some (.int .i64 (Z k j))) :
 Hz 23 #[.agg #[zI c,zI d],.agg [zI a,zI V.c,zS bW V.nW V.nW,zI V.g,zS bO V.nO V.nO,zS bX V.nX V.nX,zS bI V.nI V.nI,zS bR nR nR].toArray] w fun e w'=>e=.returned (.bool (mF c d a V nR Z))/\Below w.heap.size w w':=Ls c d a V (some (zA bW 0)) V.nW bO V.nO bX V.nX bI V.nI (some (zA bR 0)) bR nR nR Z hs0 hnR w CP0.g (fun _=>⟨rfl,hbR,hR0⟩)
