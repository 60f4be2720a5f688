/- StoAppend of the model; conditions: the store lies in memory. -/
import Derived.Test.YtngaboipleimcaaGreatDoorGC
import Derived.Test.YtngaboipleimcaaGreatDoorFO
import Derived.Test.YtngaboipleimcaaGreatDoorFM
set_option linter.unusedVariables false
set_option maxHeartbeats 8000000
set_option maxRecDepth 20000
namespace Go.Proofs.YtngaboipleimcaaGreatDoor
open Go.RowKit Go.Deep
attribute [local go_sem ↓] uH
structure App where
 a:Int
 V:CV
 n:Nat
 Z:Nat→Nat→Int
 k:Int
def snoc (Z:Nat→Nat→Int) (n:Nat) (R:Nat→Int):Nat→Nat→Int:=fun k j=>if k=n then R j else Z k j
theorem RX.block {m:Nat} {w w':World} {v:Value} {n:Nat} {Z:Nat→Nat→Int} (h:RX m w v n Z) (hz:w.heap.size≤w'.heap.size) (hb:∀ g,v.ownBlock=some g→m≤g→w'.heap[g]? = w.heap[g]?):RX m w' v n Z:=by
 rcases h with h | ⟨b,h1,h2,h3,h4⟩
 ·exact .inl h
 ·refine .inr ⟨b,h1,Hq h2 hz,h3,?_⟩
  rcases h4 with h4 | ⟨g,cap,cur,rfl,g1,g2,g3⟩
  ·exact .inl h4
  ·exact .inr ⟨g,cap,cur,rfl,g1,(hb g rfl (by omega)).trans g2,g3⟩
def Ja (c d a:Int) (V:CV) (n:Nat) (Z:Nat→Nat→Int) (g p:Int) (R:Nat→Int):App :=
 if mF c d a V n Z=true then
  if g=a then
   if p=(n:Int)∧¬ (n:Int)=250 then
    if (aF c d (bg c d V Z n) R).2.2=true then ⟨a,V,n+1,snoc Z n R,1⟩ else ⟨a,V,n,Z,4⟩
   else ⟨a,V,n,Z,3⟩
  else ⟨a,V,n,Z,2⟩
 else ⟨0,CV.zero,0,Z,0⟩
theorem Ih.zero' {lo hi:Nat} {w:World} {Z:Nat→Nat→Int} (h1:lo≤hi) (h2:hi≤w.heap.size):Ih lo hi w (.agg z8.toArray) 0 CV.zero 0 Z :=
 ⟨none,0,none,0,none,0,none,0,none,0,lo,lo,lo,rfl,iH lo lo w,.inl ⟨rfl,none,0,rfl⟩,Ho _,Ho _,h1,h2,.inr (Ho _)⟩
theorem Jg (Z:Nat→Nat→Int) (n:Nat) (R:Nat→Int):(List.range (n+1)).flatMap (Ie (snoc Z n R))=(List.range n).flatMap (Ie Z)++zR R:=by
 rw [List.range_succ,List.flatMap_append]
 congr 1
 ·rw [List.flatMap_def,List.flatMap_def]
  congr 1
  apply List.map_congr_left
  intro k hk
  have:=List.mem_range.1 hk
  unfold Ie snoc
  simp only [if_neg (show ¬ k=n by omega)]
 ·simp [Ie,snoc]
theorem Jm {w:World} {ops:Array Oper} {rest:List Oper} {o:Oper} {a:Act} {Q:Exit→Act→World→Prop} (hgd:o.guard=none) (s x:Operand) (ho:o.op=.call { callee:=.builtin .append,args:=#[s,x],argTypes:=#[61,61] })
 (m:Nat) (v:Value) (n:Nat) (Z:Nat→Nat→Int) (R:Nat→Int) (hs:a.eval s=v) (hX:RX m w v n Z) (hm:m≤w.heap.size) (b0 c:Nat) (hx:a.eval x=.slice (some (zA b0 0)) 1 c) (hr:Bk w b0 (zR R)) (hn:n≤1048576)
 (h:∀ v' w' g,RR m w'.heap.size w' v' (n+1) (snoc Z n R) g→m≤g→Below m w w'→(∀ k,k<w.heap.size→¬ v.ownBlock=some k→Sm w w' k)→wpList Tryz.prog ops Q rest (a.put o.dst v') w'):wpList Tryz.prog ops Q (o :: rest) a w:=by
 obtain ⟨i5,hi5,hzz⟩:=Option.map_eq_some_iff.1 P16.Tryz.Fg
 simp only [Prod.mk.injEq] at hzz
 obtain ⟨hz50,hz51,hz52⟩:=hzz
 have HC:∀ j u,(zR R)[j]? = some u→w.cell? ((zA b0 0).add j)=some u:=fun j u hj=>by
  obtain ⟨hlt,e⟩:=List.getElem?_eq_some_iff.1 hj
  rw [iR,Nat.zero_add,(hr.2 j hlt).1,List.getD_eq_getElem?_getD,hj];rfl
 have H1:∀ u ∈ zR R,u.oneCell'=true:=by
  intro u hu;simp [zR] at hu
  rcases hu with rfl | rfl | rfl | rfl | rfl | rfl | rfl | rfl | rfl | rfl | rfl | rfl | rfl | rfl | rfl | rfl <;> rfl
 have fin:∀ (v':Value) (w':World) (base:Nat),m≤base→w'.ownsRow base 52 16 v' (n+1) ((List.range (n+1)).flatMap (Ie (snoc Z n R)))→∃ g,RR m w'.heap.size w' v' (n+1) (snoc Z n R) g∧m≤g:=by
  intro v' w' base hb ho
  obtain ⟨g,hg,_⟩:=Ik ho
  rcases hg with ⟨e,_⟩ | ⟨c,e,g1,g2,g3,g4⟩
  ·omega
  ·exact ⟨g,.inr ⟨c,e,by omega,g2,g3,g4⟩,by omega⟩
 rcases hX with ⟨rfl,b,rfl⟩ | ⟨base,h1,h2,h3⟩
 ·refine wpList_append_grows w hgd s x 61 ho 52 i5 (.agg (zR fun _=>0).toArray) 16 128 Tryz.underlying61 hi5 hz50 hz51 hz52 rfl (by decide) (some b) 0 0 [] hs (fun e=>by cases e) rfl (fun _ _ j u hj=>by simp at hj) (zA b0 0) 1 c (zR R) hx rfl HC H1 (by omega) (by unfold maxLen;omega) (by omega) ?_
  intro v' w' ho hg
  obtain ⟨g,hg1,hg2⟩:=fin v' w' w.heap.size hm (by rw [Jg];simpa using ho)
  exact h v' w' g hg1 hg2 ((Hr _ _).grown hg hm (fun kk e=>by cases e)) (fun k hk _=>bG hg hk (by simp))
 ·refine wpList_append_own w hgd s x 61 ho base 52 i5 (.agg (zR fun _=>0).toArray) 16 128 Tryz.underlying61 hi5 hz50 hz51 hz52 rfl (by decide) v n _ hs h3 (zA b0 0) 1 c (zR R) hx rfl HC H1 (by unfold maxLen;omega) (by omega) h2 ?_
  intro v' w' ho hg _
  obtain ⟨g,hg1,hg2⟩:=fin v' w' base h1 (by rw [Jg];exact ho)
  exact h v' w' g hg1 hg2 ((Hr _ _).grown hg hm (fun kk e=>by have:=(h3.lt kk e).1;omega)) (fun k hk hne=>bG hg hk (fun e=>hne e.symm))
theorem Sv.all {w:World} {c d:Int} {s b:Nat} {lo:Lo} {V:CV} {n:Nat} (h:Sv w c d s b lo V n):Sv w c d s b ⟨lo.l,w.heap.size,w.heap.size⟩ V n:=by
 obtain ⟨n0,W0,aW,kW,kO,aX,kX,aI,kI,gW,gO,gX,gI,sl,xs,hN,rW,rX,rI,hO,hM,hl,hd,hx1,hx2,hkk⟩:=h
 exact ⟨n0,W0,aW,kW,kO,aX,kX,aI,kI,gW,gO,gX,gI,sl,xs,hN,rW,rX,rI,hO,hM,hl,hd,hx1,hx2,⟨⟨Ho _,Ho _⟩,by show s<w.heap.size∨w.heap.size≤s;omega,by show b<w.heap.size∨w.heap.size≤b;omega,by show gO<w.heap.size∨w.heap.size≤gO;omega,fun _=>by show gW<w.heap.size∨w.heap.size≤gW;omega,fun _=>by show gX<w.heap.size∨w.heap.size≤gX;omega,fun _=>by show gI<w.heap.size∨w.heap.size≤gI;omega,fun k _ _=>by show xs k<w.heap.size∨w.heap.size≤xs k;omega⟩⟩
theorem Jb (c d a g p:Int) (R:Nat→Int) (V:CV) (lo bW bO bX bI bR nR:Nat) (Z:Nat→Nat→Int) (hs0:V.short 1048576) (hnR:nR≤1048576) (hwf0:∀ k,k<V.nW→(Lit.int .i64 (V.W k 0)).wf=true) (hwR0:∀ k j,k<nR→j<16→(Lit.int .i64 (Z k j)).wf=true) (hwr0:∀ j,j<16→(Lit.int .i64 (R j)).wf=true) (w:World) (hg00:w.cell? (zA 0 0)=some (.iface 226 (.agg #[zP 1 199]))) (CP0:eH lo w (.agg (zC V bW V.nW bO V.nO bX V.nX bI V.nI).toArray) V) (hbR:bR<w.heap.size) (hR0:∀ k j,k<nR→j<16→w.cell? ⟨bR,0+k * 16+j,none⟩=some (.int .i64 (Z k j))) :
 Hz 36 #[.agg #[zI c,zI d],.agg [zI a,zI V.c,zS bW V.nW V.nW,zI V.g,zS bO V.nO V.nO,zS bX V.nX V.nX,zS bI V.nI V.nI,zS bR nR nR].toArray,zI g,zI p,rv R] w fun e w'=>(∃ u,e=.returned (.tuple #[u,zI (Ja c d a V nR Z g p R).k])∧Ih w.heap.size w'.heap.size w' u (Ja c d a V nR Z g p R).a (Ja c d a V nR Z g p R).V (Ja c d a V nR Z g p R).n (Ja c d a V nR Z g p R).Z)∧Below w.heap.size w w':=by
 have hs:=hid hs0
 have HR:=hid hR0
 have CP:=hid CP0
 have hwf:=hid hwf0
 have hwR:=hid hwR0
 have hwr:=hid hwr0
 have hg0:=hid hg00
 have hpos:0<w.heap.size:=World.block_lt_of_cell? w (zA 0 0) hg00
 clear hwf0 hwR0 hwr0 hg00 hs0 CP0 hR0
 unfold rv
 go_enter Tryz.func36,Tryz.ntmps36
 go_wp2_with fail
 obtain ⟨w0,e0,B1,M1,S1,K1,Q1,hz0⟩:=F8 w [zI c,zI d] 44 [zI a,zI V.c,zS bW V.nW V.nW,zI V.g,zS bO V.nO V.nO,zS bX V.nX V.nX,zS bI V.nI V.nI,zS bR nR nR] 71 (zR R) 52 z8 71
 rw [←e0]
 clear e0
 have R1:∀ k j,k<nR→j<16→w0.cell? ⟨bR,0+k * 16+j,none⟩=some (.int .i64 (Z k j)):=fun k j h1 h2=>(B1.out.cell (p:=⟨bR,0+k * 16+j,none⟩) hbR).trans (HR.out k j h1 h2)
 have G1:w0.cell? (zA 0 0)=some (.iface 226 (.agg #[zP 1 199])):=(B1.out.cell (p:=(zA 0 0)) hpos).trans hg0.out
 have C1:=CP.out.below B1.out
 cases h1:inB a 0 900
 ·refine (xg c d a V lo bW bO bX bI bR nR Z hs.out hnR hwf.out hwR.out w0 G1 C1 (by omega) R1 h1).mono ?_
  rintro e w1 ⟨rfl,hb⟩
  have kz1:=hb.size
  have B2:=hid (ah B1.out hb)
  have Q2:=hid (Q1.out.below hb)
  have EB:Hid (mF c d a V nR Z=false):=by unfold Hid;simp [mF,h1]
  clear R1 G1 C1 hb B1 Q1 K1 M1 S1
  have ER:Hid (Ja c d a V nR Z g p R=⟨0,CV.zero,0,Z,0⟩):=by unfold Hid Ja;rw [if_neg (by rw [EB.out];simp)]
  obtain ⟨p0,p1,p2,p3,p4,p5,p6,p7⟩:=Q2.out.a8
  obtain ⟨t0,t1,t2,t3,t4,t5,t6,t7⟩:=Q2.out.f8
  have hlQ:(w.heap.size+1+1+1)<w1.heap.size:=Q2.out.1
  go_wp2
  refine Hw (v:=.tuple #[.agg [zI 0,zI 0,.slice none 0 0,zI 0,.slice none 0 0,.slice none 0 0,.slice none 0 0,.slice none 0 0].toArray,zI 0]) (by simp [results,Tryz.results36,go_sem,p0,p1,p2,p3,p4,p5,p6,p7]) rfl ?_
  have hzz:=H6 w1 (w.heap.size+1+1+1) (zI 0) (zI 0) (.slice none 0 0) (zI 0) (.slice none 0 0) (.slice none 0 0) (.slice none 0 0) (.slice none 0 0)
  refine ⟨⟨_,by rw [ER.out],?_⟩,HY B2.out (by omega) _ _ _ _ _ _ _ _⟩
  show Ih w.heap.size (H7 w1 (w.heap.size+1+1+1) (zI 0) (zI 0) (.slice none 0 0) (zI 0) (.slice none 0 0) (.slice none 0 0) (.slice none 0 0) (.slice none 0 0)).heap.size (H7 w1 (w.heap.size+1+1+1) (zI 0) (zI 0) (.slice none 0 0) (zI 0) (.slice none 0 0) (.slice none 0 0) (.slice none 0 0) (.slice none 0 0)) _ _ _ _ _
  rw [hzz,ER.out]
  exact Ih.zero' (by omega) (Hl hzz.symm)
 cases h2:bD c d V
 ·refine (yN c d a V lo bW bO bX bI bR nR Z hs.out hnR hwf.out hwR.out w0 G1 C1 (by omega) R1 h1 h2).mono ?_
  rintro e w1 ⟨rfl,hb⟩
  have kz1:=hb.size
  have B2:=hid (ah B1.out hb)
  have Q2:=hid (Q1.out.below hb)
  have EB:Hid (mF c d a V nR Z=false):=by unfold Hid;simp [mF,h2]
  clear R1 G1 C1 hb B1 Q1 K1 M1 S1
  have ER:Hid (Ja c d a V nR Z g p R=⟨0,CV.zero,0,Z,0⟩):=by unfold Hid Ja;rw [if_neg (by rw [EB.out];simp)]
  obtain ⟨p0,p1,p2,p3,p4,p5,p6,p7⟩:=Q2.out.a8
  obtain ⟨t0,t1,t2,t3,t4,t5,t6,t7⟩:=Q2.out.f8
  have hlQ:(w.heap.size+1+1+1)<w1.heap.size:=Q2.out.1
  go_wp2
  refine Hw (v:=.tuple #[.agg [zI 0,zI 0,.slice none 0 0,zI 0,.slice none 0 0,.slice none 0 0,.slice none 0 0,.slice none 0 0].toArray,zI 0]) (by simp [results,Tryz.results36,go_sem,p0,p1,p2,p3,p4,p5,p6,p7]) rfl ?_
  have hzz:=H6 w1 (w.heap.size+1+1+1) (zI 0) (zI 0) (.slice none 0 0) (zI 0) (.slice none 0 0) (.slice none 0 0) (.slice none 0 0) (.slice none 0 0)
  refine ⟨⟨_,by rw [ER.out],?_⟩,HY B2.out (by omega) _ _ _ _ _ _ _ _⟩
  show Ih w.heap.size (H7 w1 (w.heap.size+1+1+1) (zI 0) (zI 0) (.slice none 0 0) (zI 0) (.slice none 0 0) (.slice none 0 0) (.slice none 0 0) (.slice none 0 0)).heap.size (H7 w1 (w.heap.size+1+1+1) (zI 0) (zI 0) (.slice none 0 0) (zI 0) (.slice none 0 0) (.slice none 0 0) (.slice none 0 0) (.slice none 0 0)) _ _ _ _ _
  rw [hzz,ER.out]
  exact Ih.zero' (by omega) (Hl hzz.symm)
 by_cases h3:(250:Int)<nR
 ·refine (xZ c d a V lo bW bO bX bI bR nR Z hs.out hnR hwf.out hwR.out w0 G1 C1 (by omega) R1 h1 h2 h3).mono ?_
  rintro e w1 ⟨rfl,hb⟩
  have kz1:=hb.size
  have B2:=hid (ah B1.out hb)
  have Q2:=hid (Q1.out.below hb)
  have EB:Hid (mF c d a V nR Z=false):=by unfold Hid;simp [mF];omega
  clear R1 G1 C1 hb B1 Q1 K1 M1 S1
  have ER:Hid (Ja c d a V nR Z g p R=⟨0,CV.zero,0,Z,0⟩):=by unfold Hid Ja;rw [if_neg (by rw [EB.out];simp)]
  obtain ⟨p0,p1,p2,p3,p4,p5,p6,p7⟩:=Q2.out.a8
  obtain ⟨t0,t1,t2,t3,t4,t5,t6,t7⟩:=Q2.out.f8
  have hlQ:(w.heap.size+1+1+1)<w1.heap.size:=Q2.out.1
  go_wp2
  refine Hw (v:=.tuple #[.agg [zI 0,zI 0,.slice none 0 0,zI 0,.slice none 0 0,.slice none 0 0,.slice none 0 0,.slice none 0 0].toArray,zI 0]) (by simp [results,Tryz.results36,go_sem,p0,p1,p2,p3,p4,p5,p6,p7]) rfl ?_
  have hzz:=H6 w1 (w.heap.size+1+1+1) (zI 0) (zI 0) (.slice none 0 0) (zI 0) (.slice none 0 0) (.slice none 0 0) (.slice none 0 0) (.slice none 0 0)
  refine ⟨⟨_,by rw [ER.out],?_⟩,HY B2.out (by omega) _ _ _ _ _ _ _ _⟩
  show Ih w.heap.size (H7 w1 (w.heap.size+1+1+1) (zI 0) (zI 0) (.slice none 0 0) (zI 0) (.slice none 0 0) (.slice none 0 0) (.slice none 0 0) (.slice none 0 0)).heap.size (H7 w1 (w.heap.size+1+1+1) (zI 0) (zI 0) (.slice none 0 0) (zI 0) (.slice none 0 0) (.slice none 0 0) (.slice none 0 0) (.slice none 0 0)) _ _ _ _ _
  rw [hzz,ER.out]
  exact Ih.zero' (by omega) (Hl hzz.symm)
 refine (yL c d a V lo bW bO bX bI bR nR Z hs.out hnR hwf.out hwR.out w0 G1 C1 (by omega) R1 h1 h2 h3).mono ?_
 rintro e w1 ⟨hv,hb⟩
 have kz1:=hb.size
 have B2:=hid (ah B1.out hb)
 have S2:=hid (S1.out.below hb)
 have K2:=hid (K1.out.below hb)
 have Q2:=hid (Q1.out.below hb)
 have EB:Hid (mF c d a V nR Z=decide (gm c d V Z nR=nR)):=by unfold Hid mF;rw [h1,h2];simp;omega
 have H2:=hid h2
 clear R1 G1 C1 hb B1 Q1 M1 S1 K1 h1 h2
 by_cases hF:gm c d V Z nR=nR
 case neg=>
  have HF:=hid hF
  obtain rfl:=hv.2 hF
  clear hF hv
  have ER:Hid (Ja c d a V nR Z g p R=⟨0,CV.zero,0,Z,0⟩):=by unfold Hid Ja;rw [if_neg (by rw [EB.out];simp [HF.out])]
  obtain ⟨p0,p1,p2,p3,p4,p5,p6,p7⟩:=Q2.out.a8
  obtain ⟨t0,t1,t2,t3,t4,t5,t6,t7⟩:=Q2.out.f8
  have hlQ:(w.heap.size+1+1+1)<w1.heap.size:=Q2.out.1
  go_wp2
  refine Hw (v:=.tuple #[.agg [zI 0,zI 0,.slice none 0 0,zI 0,.slice none 0 0,.slice none 0 0,.slice none 0 0,.slice none 0 0].toArray,zI 0]) (by simp [results,Tryz.results36,go_sem,p0,p1,p2,p3,p4,p5,p6,p7]) rfl ?_
  have hzz:=H6 w1 (w.heap.size+1+1+1) (zI 0) (zI 0) (.slice none 0 0) (zI 0) (.slice none 0 0) (.slice none 0 0) (.slice none 0 0) (.slice none 0 0)
  refine ⟨⟨_,by rw [ER.out],?_⟩,HY B2.out (by omega) _ _ _ _ _ _ _ _⟩
  show Ih w.heap.size (H7 w1 (w.heap.size+1+1+1) (zI 0) (zI 0) (.slice none 0 0) (zI 0) (.slice none 0 0) (.slice none 0 0) (.slice none 0 0) (.slice none 0 0)).heap.size (H7 w1 (w.heap.size+1+1+1) (zI 0) (zI 0) (.slice none 0 0) (zI 0) (.slice none 0 0) (.slice none 0 0) (.slice none 0 0) (.slice none 0 0)) _ _ _ _ _
  rw [hzz,ER.out]
  exact Ih.zero' (by omega) (Hl hzz.symm)
 have HF:=hid hF
 obtain ⟨s,b,lo2,n,rfl,hlo,hSv,hn6⟩:=hv.1 hF
 have SV:=hid hSv
 have hok:Hid (mF c d a V nR Z=true):=by unfold Hid;rw [EB.out,HF.out];simp
 clear hF hv hSv
 obtain ⟨y0,y1,y2,y3,y4,y5,y6,y7⟩:=S2.out.a8
 have hlS:w.heap.size+1<w1.heap.size:=S2.out.1
 go_wp2_with fail
 clear y0 y1 y2 y3 y4 y5 y6 y7 hlS
 refine (IY a V lo bW bO bX bI bR nR Z hs.out hnR _ (CP.out.below B2.out) (by omega) (fun k j e1 e2=>(B2.out.cell (p:=⟨bR,0+k * 16+j,none⟩) hbR).trans (HR.out k j e1 e2))).mono ?_
 rintro e w2 ⟨⟨u,rfl,hO⟩,hb⟩
 have kz2:=hb.size
 obtain ⟨a1,k1,a2,k2,a3,k3,a4,k4,aR,kR,l,m,gg,rfl,h1,h2,h4,h5,h6,h7,h8,hRX,hLT,_⟩:=hO
 have OS:Hid (Ih w1.heap.size w2.heap.size w2 (.agg [zI a,zI V.c,.slice a1 V.nW k1,zI V.g,.slice a2 V.nO k2,.slice a3 V.nX k3,.slice a4 V.nI k4,.slice aR nR kR].toArray) a V nR Z):=⟨a1,k1,a2,k2,a3,k3,a4,k4,aR,kR,l,m,gg,rfl,h1,h2,h4,h5,h6,h7,.inr h8⟩
 have OW:=hid h1
 have RXM:=hid hRX
 have LT:=hid hLT
 clear h1 h2 hRX hLT
 have B3:=hid (ah B2.out hb)
 have S3:=hid (S2.out.below hb)
 have K3:=hid (K2.out.below hb)
 have Q3:=hid (Q2.out.below hb)
 have SVa:=hid (SV.out.all)
 have hb2:=hb
 clear B2 S2 K2 Q2 SV hb
 go_upto_region 5 with fail
 obtain ⟨w3,en,hbx,hX,hz3⟩:=bx1 w2 [zI a,zI V.c,.slice a1 V.nW k1,zI V.g,.slice a2 V.nO k2,.slice a3 V.nX k3,.slice a4 V.nI k4,.slice aR nR kR] 71
 rw [←en]
 clear en
 have kz3:=hbx.size
 have B4:=hid (ah B3.out hbx)
 have S4:=hid (S3.out.below hbx)
 have K4:=hid (K3.out.below hbx)
 have Q4:=hid (Q3.out.below hbx)
 have O4:=hid (OS.out.below hbx)
 have W4:=hid (OW.out.below (by omega) hbx)
 have RX4:=hid (RXM.out.below hbx)
 have X4:=hid hX
 have SV4:Hid (Sv w3 c d s b ⟨lo2.l,w1.heap.size,w3.heap.size⟩ (bg c d V Z nR) n):=Sv.reach SVa.out (ah hb2 hbx)
 have G4:Hid (w3.cell? (zA 0 0)=some (.iface 226 (.agg #[zP 1 199]))):=(B4.out.cell (p:=(zA 0 0)) hpos).trans hg0.out
 clear B3 S3 K3 Q3 OS OW RXM hX hbx
 obtain ⟨y0,y1,y2,y3,y4,y5,y6,y7⟩:=S4.out.a8
 have hlS:w.heap.size+1<w3.heap.size:=S4.out.1
 obtain ⟨x0,x1,x2,x3,x4,x5,x6,x7⟩:=X4.out.a8
 have hlX:w2.heap.size<w3.heap.size:=X4.out.1
 have hl:=iK K4.out rfl
 by_cases hga:g=a
 case neg=>
  have ER:Hid (Ja c d a V nR Z g p R=⟨a,V,nR,Z,2⟩):=by unfold Hid Ja;rw [if_pos hok.out,if_neg hga]
  obtain ⟨p0,p1,p2,p3,p4,p5,p6,p7⟩:=Q4.out.a8
  obtain ⟨t0,t1,t2,t3,t4,t5,t6,t7⟩:=Q4.out.f8
  have hlQ:(w.heap.size+1+1+1)<w3.heap.size:=Q4.out.1
  go_wp2
  refine Hw (v:=.tuple #[.agg [zI a,zI V.c,.slice a1 V.nW k1,zI V.g,.slice a2 V.nO k2,.slice a3 V.nX k3,.slice a4 V.nI k4,.slice aR nR kR].toArray,zI 2]) (by simp [results,Tryz.results36,go_sem,p0,p1,p2,p3,p4,p5,p6,p7]) rfl ?_
  have hzz:=H6 w3 (w.heap.size+1+1+1) (zI a) (zI V.c) (.slice a1 V.nW k1) (zI V.g) (.slice a2 V.nO k2) (.slice a3 V.nX k3) (.slice a4 V.nI k4) (.slice aR nR kR)
  refine ⟨⟨_,by rw [ER.out],?_⟩,HY B4.out (by omega) _ _ _ _ _ _ _ _⟩
  show Ih w.heap.size (H7 w3 (w.heap.size+1+1+1) (zI a) (zI V.c) (.slice a1 V.nW k1) (zI V.g) (.slice a2 V.nO k2) (.slice a3 V.nX k3) (.slice a4 V.nI k4) (.slice aR nR kR)).heap.size (H7 w3 (w.heap.size+1+1+1) (zI a) (zI V.c) (.slice a1 V.nW k1) (zI V.g) (.slice a2 V.nO k2) (.slice a3 V.nX k3) (.slice a4 V.nI k4) (.slice aR nR kR)) _ _ _ _ _
  rw [hzz,ER.out]
  exact (O4.out.sm (Hl hzz.symm) (fun b q1 q2=>Ia (by omega) _ _ _ _ _ _ _ _)).wide (by omega) (by omega) (by omega)
 by_cases hp1:p=(nR:Int)
 case neg=>
  have ER:Hid (Ja c d a V nR Z g p R=⟨a,V,nR,Z,3⟩):=by unfold Hid Ja;rw [if_pos hok.out,if_pos hga,if_neg (fun h=>hp1 h.1)]
  obtain ⟨p0,p1,p2,p3,p4,p5,p6,p7⟩:=Q4.out.a8
  obtain ⟨t0,t1,t2,t3,t4,t5,t6,t7⟩:=Q4.out.f8
  have hlQ:(w.heap.size+1+1+1)<w3.heap.size:=Q4.out.1
  go_wp2
  refine Hw (v:=.tuple #[.agg [zI a,zI V.c,.slice a1 V.nW k1,zI V.g,.slice a2 V.nO k2,.slice a3 V.nX k3,.slice a4 V.nI k4,.slice aR nR kR].toArray,zI 3]) (by simp [results,Tryz.results36,go_sem,p0,p1,p2,p3,p4,p5,p6,p7]) rfl ?_
  have hzz:=H6 w3 (w.heap.size+1+1+1) (zI a) (zI V.c) (.slice a1 V.nW k1) (zI V.g) (.slice a2 V.nO k2) (.slice a3 V.nX k3) (.slice a4 V.nI k4) (.slice aR nR kR)
  refine ⟨⟨_,by rw [ER.out],?_⟩,HY B4.out (by omega) _ _ _ _ _ _ _ _⟩
  show Ih w.heap.size (H7 w3 (w.heap.size+1+1+1) (zI a) (zI V.c) (.slice a1 V.nW k1) (zI V.g) (.slice a2 V.nO k2) (.slice a3 V.nX k3) (.slice a4 V.nI k4) (.slice aR nR kR)).heap.size (H7 w3 (w.heap.size+1+1+1) (zI a) (zI V.c) (.slice a1 V.nW k1) (zI V.g) (.slice a2 V.nO k2) (.slice a3 V.nX k3) (.slice a4 V.nI k4) (.slice aR nR kR)) _ _ _ _ _
  rw [hzz,ER.out]
  exact (O4.out.sm (Hl hzz.symm) (fun b q1 q2=>Ia (by omega) _ _ _ _ _ _ _ _)).wide (by omega) (by omega) (by omega)
 by_cases hp2:(nR:Int)=250
 case pos=>
  have ER:Hid (Ja c d a V nR Z g p R=⟨a,V,nR,Z,3⟩):=by unfold Hid Ja;rw [if_pos hok.out,if_pos hga,if_neg (fun h=>h.2 hp2)]
  obtain ⟨p0,p1,p2,p3,p4,p5,p6,p7⟩:=Q4.out.a8
  obtain ⟨t0,t1,t2,t3,t4,t5,t6,t7⟩:=Q4.out.f8
  have hlQ:(w.heap.size+1+1+1)<w3.heap.size:=Q4.out.1
  go_wp2
  refine Hw (v:=.tuple #[.agg [zI a,zI V.c,.slice a1 V.nW k1,zI V.g,.slice a2 V.nO k2,.slice a3 V.nX k3,.slice a4 V.nI k4,.slice aR nR kR].toArray,zI 3]) (by simp [results,Tryz.results36,go_sem,p0,p1,p2,p3,p4,p5,p6,p7]) rfl ?_
  have hzz:=H6 w3 (w.heap.size+1+1+1) (zI a) (zI V.c) (.slice a1 V.nW k1) (zI V.g) (.slice a2 V.nO k2) (.slice a3 V.nX k3) (.slice a4 V.nI k4) (.slice aR nR kR)
  refine ⟨⟨_,by rw [ER.out],?_⟩,HY B4.out (by omega) _ _ _ _ _ _ _ _⟩
  show Ih w.heap.size (H7 w3 (w.heap.size+1+1+1) (zI a) (zI V.c) (.slice a1 V.nW k1) (zI V.g) (.slice a2 V.nO k2) (.slice a3 V.nX k3) (.slice a4 V.nI k4) (.slice aR nR kR)).heap.size (H7 w3 (w.heap.size+1+1+1) (zI a) (zI V.c) (.slice a1 V.nW k1) (zI V.g) (.slice a2 V.nO k2) (.slice a3 V.nX k3) (.slice a4 V.nI k4) (.slice aR nR kR)) _ _ _ _ _
  rw [hzz,ER.out]
  exact (O4.out.sm (Hl hzz.symm) (fun b q1 q2=>Ia (by omega) _ _ _ _ _ _ _ _)).wide (by omega) (by omega) (by omega)
 go_wp2_with fail
 clear y0 y1 y2 y3 y4 y5 y6 y7 hlS
 clear x0 x1 x2 x3 x4 x5 x6 x7 hlX
 clear hl
 refine (xu c d R s b ⟨lo2.l,w1.heap.size,w3.heap.size⟩ (bg c d V Z nR) n (uZ (Z:=Z) H2.out nR) hwr.out (by show 0<lo2.l;omega) _ G4.out SV4.out).mono ?_
 rintro e w4 ⟨rfl,_,hbl⟩
 have kz4:=hbl.size
 have KP:Hid (∀ x,w1.heap.size≤x→x<w3.heap.size→w4.heap[x]? = w3.heap[x]?):=hbl.keep
 have hlow:Below lo2.l w3 w4:=hbl.low
 have smb:∀ x,w1.heap.size≤x→x<w3.heap.size→Sm w3 w4 x:=fun x h1 h2 o=>⟨World.cell?_of_block (a:=zA x o) (KP.out x h1 h2),World.frozen?_of_block (a:=zA x o) (KP.out x h1 h2)⟩
 have B5:Hid (Below w.heap.size w w4):=B4.out.trans (hlow.mono (by omega))
 have K5:=hid (K4.out.sm kz4 (aj hlow (by omega)))
 have Q5:=hid (Q4.out.sm kz4 (aj hlow (by omega)))
 have X5:=hid (X4.out.sm kz4 (smb _ (by omega) (by omega)))
 have O5:=hid (O4.out.sm kz4 (fun b q1 q2=>smb b (by omega) (by omega)))
 have W5:=hid (W4.out.sm kz4 (fun b q1 q2=>smb b (by omega) (by omega)))
 have RX5:=hid (RX4.out.block kz4 (fun x e1 e2=>KP.out x (by omega) (by have:=LT.out x e1;omega)))
 clear hbl hlow smb KP B4 K4 Q4 X4 O4 W4 RX4 SV4 G4 S4
 obtain ⟨ft,eft⟩:∃ b,b=(aF c d (bg c d V Z nR) R).2.2:=⟨_,rfl⟩
 have EF:=hid eft
 rw [←eft]
 clear eft
 obtain ⟨cc,ecc⟩:∃ b,b=(aF c d (bg c d V Z nR) R).2.1:=⟨_,rfl⟩
 rw [←ecc]
 clear ecc
 obtain ⟨x0,x1,x2,x3,x4,x5,x6,x7⟩:=X5.out.a8
 have hlX:w2.heap.size<w4.heap.size:=X5.out.1
 obtain ⟨f0,f1,f2,f3,f4,f5,f6,f7⟩:=X5.out.f8
 cases ft
 case false=>
  clear f0 f1 f2 f3 f4 f5 f6 f7
  have ER:Hid (Ja c d a V nR Z g p R=⟨a,V,nR,Z,4⟩):=by unfold Hid Ja;rw [if_pos hok.out,if_pos hga,if_pos ⟨hp1,hp2⟩,if_neg (by rw [←EF.out];simp)]
  obtain ⟨p0,p1,p2,p3,p4,p5,p6,p7⟩:=Q5.out.a8
  obtain ⟨t0,t1,t2,t3,t4,t5,t6,t7⟩:=Q5.out.f8
  have hlQ:(w.heap.size+1+1+1)<w4.heap.size:=Q5.out.1
  go_wp2
  refine Hw (v:=.tuple #[.agg [zI a,zI V.c,.slice a1 V.nW k1,zI V.g,.slice a2 V.nO k2,.slice a3 V.nX k3,.slice a4 V.nI k4,.slice aR nR kR].toArray,zI 4]) (by simp [results,Tryz.results36,go_sem,p0,p1,p2,p3,p4,p5,p6,p7]) rfl ?_
  have hzz:=H6 w4 (w.heap.size+1+1+1) (zI a) (zI V.c) (.slice a1 V.nW k1) (zI V.g) (.slice a2 V.nO k2) (.slice a3 V.nX k3) (.slice a4 V.nI k4) (.slice aR nR kR)
  refine ⟨⟨_,by rw [ER.out],?_⟩,HY B5.out (by omega) _ _ _ _ _ _ _ _⟩
  show Ih w.heap.size (H7 w4 (w.heap.size+1+1+1) (zI a) (zI V.c) (.slice a1 V.nW k1) (zI V.g) (.slice a2 V.nO k2) (.slice a3 V.nX k3) (.slice a4 V.nI k4) (.slice aR nR kR)).heap.size (H7 w4 (w.heap.size+1+1+1) (zI a) (zI V.c) (.slice a1 V.nW k1) (zI V.g) (.slice a2 V.nO k2) (.slice a3 V.nX k3) (.slice a4 V.nI k4) (.slice aR nR kR)) _ _ _ _ _
  rw [hzz,ER.out]
  exact (O5.out.sm (Hl hzz.symm) (fun b q1 q2=>Ia (by omega) _ _ _ _ _ _ _ _)).wide (by omega) (by omega) (by omega)
 obtain ⟨wA,eA,hbA,hBA,hzA⟩:=bx1 w4 (zR R) 52
 have kzA:=hbA.size
 have BA:=hid (ah B5.out hbA)
 have QA:=hid (Q5.out.below hbA)
 have XA:=hid (X5.out.below hbA)
 have WA:=hid (W5.out.below (by omega) hbA)
 have RXA:=hid (RX5.out.below hbA)
 have BKA:=hid hBA
 have lbA:w4.heap.size<wA.heap.size:=hBA.1
 have hl:=iK K5.out rfl
 go_wp2_with (at_builtin;rw [←eA];clear eA;refine Jm rfl _ _ rfl m _ nR Z R rfl RXA.out (by omega) w4.heap.size 1 rfl BKA.out hnR ?_)
 intro v' w5 gr hRR hg hbm hsm
 have kz5:=hbm.size
 obtain ⟨aS,kS,rfl⟩:=hRR.shape
 have LTX:¬ (Value.slice aR nR kR).ownBlock=some w2.heap.size:=fun e=>by have:=LT.out _ e;omega
 have X6:=hid (XA.out.sm kz5 (hsm _ (by omega) LTX))
 have Q6:=hid (QA.out.sm kz5 (aj hbm (by omega)))
 have W6:=hid (WA.out.sm kz5 (fun b q1 q2=>aj hbm (by omega)))
 have B6:Hid (Below w.heap.size w w5):=BA.out.trans (hbm.mono (by omega))
 have RR6:=hid hRR
 have hgx:¬ gr=w2.heap.size:=by
  intro e
  rcases hRR with ⟨e0,_⟩ | ⟨c,e1,h1,h2,h3,h4⟩
  ·omega
  ·have c1:=h4.2 0 2 (by omega) (by omega)
   have c2:w5.cell? (zA w2.heap.size 2)=some (.slice a1 V.nW k1):=(X6.out.2 2 (by simp)).1
   rw [e,show 0 * 16+2=2 from rfl,c2] at c1
   cases c1
 clear LTX hsm hbm hRR BA QA XA WA RXA BKA X5 Q5 K5 O5 W5 RX5 B5 hBA hbA hl x0 x1 x2 x3 x4 x5 x6 x7 hlX f0 f1 f2 f3 f4 f5 f6 f7
 obtain ⟨x0,x1,x2,x3,x4,x5,x6,x7⟩:=X6.out.a8
 have hlX:w2.heap.size<w5.heap.size:=X6.out.1
 obtain ⟨f0,f1,f2,f3,f4,f5,f6,f7⟩:=X6.out.f8
 go_upto_region 13 with fail
 clear x0 x1 x2 x3 x4 x5 x6 x7 hlX
 clear f0 f1 f2 f3 f4 f5 f6 f7
 obtain ⟨w6,e6⟩:∃ y,y=w5.setCell (zA w2.heap.size 7) (.slice aS (nR+1) kS):=⟨_,rfl⟩
 rw [←e6]
 have kz6:w5.heap.size≤w6.heap.size:=by rw [e6,ay];exact Ho _
 have SM:∀ b,¬ b=w2.heap.size→Sm w5 w6 b:=fun b hb o=>by rw [e6];exact ⟨aJ (fun e=>hb e.1.symm),aB⟩
 have B7:Hid (Below w.heap.size w w6):=by unfold Hid;rw [e6];exact B6.out.setCell (by show w.heap.size≤w2.heap.size;omega) _
 have X7:Hid (Bk w6 w2.heap.size [zI a,zI V.c,.slice a1 V.nW k1,zI V.g,.slice a2 V.nO k2,.slice a3 V.nX k3,.slice a4 V.nI k4,.slice aS (nR+1) kS]):=by unfold Hid;rw [e6];exact Bk.set (j:=7) X6.out (by simp)
 have Q7:=hid (Q6.out.sm kz6 (SM _ (by omega)))
 have W7:=hid (W6.out.sm kz6 (fun b q1 q2=>SM b (by omega)))
 have RR7:=hid (RR6.out.sm kz6 (fun _ _=>SM gr hgx))
 have O7:Hid (Ih w1.heap.size w5.heap.size w6 (.agg [zI a,zI V.c,.slice a1 V.nW k1,zI V.g,.slice a2 V.nO k2,.slice a3 V.nX k3,.slice a4 V.nI k4,.slice aS (nR+1) kS].toArray) a V (nR+1) (snoc Z nR R)):=⟨a1,k1,a2,k2,a3,k3,a4,k4,aS,kS,l,m,gr,rfl,W7.out,RR7.out.wide (by omega) (Ho _) kz6,h4,h5,by omega,kz6,.inr hg⟩
 clear e6 SM B6 X6 Q6 W6 RR6 W7 RR7
 obtain ⟨x0,x1,x2,x3,x4,x5,x6,x7⟩:=X7.out.a8
 have hlX:w2.heap.size<w6.heap.size:=X7.out.1
 have ER:Hid (Ja c d a V nR Z g p R=⟨a,V,nR+1,snoc Z nR R,1⟩):=by unfold Hid Ja;rw [if_pos hok.out,if_pos hga,if_pos ⟨hp1,hp2⟩,if_pos EF.out.symm]
 obtain ⟨p0,p1,p2,p3,p4,p5,p6,p7⟩:=Q7.out.a8
 obtain ⟨t0,t1,t2,t3,t4,t5,t6,t7⟩:=Q7.out.f8
 have hlQ:(w.heap.size+1+1+1)<w6.heap.size:=Q7.out.1
 go_wp2
 refine Hw (v:=.tuple #[.agg [zI a,zI V.c,.slice a1 V.nW k1,zI V.g,.slice a2 V.nO k2,.slice a3 V.nX k3,.slice a4 V.nI k4,.slice aS (nR+1) kS].toArray,zI 1]) (by simp [results,Tryz.results36,go_sem,p0,p1,p2,p3,p4,p5,p6,p7]) rfl ?_
 have hzz:=H6 w6 (w.heap.size+1+1+1) (zI a) (zI V.c) (.slice a1 V.nW k1) (zI V.g) (.slice a2 V.nO k2) (.slice a3 V.nX k3) (.slice a4 V.nI k4) (.slice aS (nR+1) kS)
 refine ⟨⟨_,by rw [ER.out],?_⟩,HY B7.out (by omega) _ _ _ _ _ _ _ _⟩
 show Ih w.heap.size (H7 w6 (w.heap.size+1+1+1) (zI a) (zI V.c) (.slice a1 V.nW k1) (zI V.g) (.slice a2 V.nO k2) (.slice a3 V.nX k3) (.slice a4 V.nI k4) (.slice aS (nR+1) kS)).heap.size (H7 w6 (w.heap.size+1+1+1) (zI a) (zI V.c) (.slice a1 V.nW k1) (zI V.g) (.slice a2 V.nO k2) (.slice a3 V.nX k3) (.slice a4 V.nI k4) (.slice aS (nR+1) kS)) _ _ _ _ _
 rw [hzz,ER.out]
 exact (O7.out.sm (Hl hzz.symm) (fun b q1 q2=>Ia (by omega) _ _ _ _ _ _ _ _)).wide (by omega) (by omega) (by omega)
attribute [local go_sem ↓] uH
theorem Je (c d a g p:Int) (R:Nat→Int) (V:CV) (lo bW bO bX bI bR nR:Nat) (Z:Nat→Nat→Int) (hs0:V.short 1048576) (hnR:nR≤1048576) (w:World) (CP0:eH lo w (.agg (zC V bW V.nW bO V.nO bX V.nX bI V.nI).toArray) V) (hbR:bR<w.heap.size) (hR0:∀ k j,k<nR→j<16→w.cell? ⟨bR,0+k * 16+j,none⟩=some (.int .i64 (Z k j))) :
 Hz 35 #[.agg #[zI c,zI d],.agg [zI a,zI V.c,zS bW V.nW V.nW,zI V.g,zS bO V.nO V.nO,zS bX V.nX V.nX,zS bI V.nI V.nI,zS bR nR nR].toArray,zI g,zI p,rv R] w fun e w'=>(∃ u,e=.returned (.tuple #[u,zI (Ja c d a V nR Z g p R).k])∧Ih w.heap.size w'.heap.size w' u (Ja c d a V nR Z g p R).a (Ja c d a V nR Z g p R).V (Ja c d a V nR Z g p R).n (Ja c d a V nR Z g p R).Z)∧Below w.heap.size w w':=by
 have hs:=hid hs0
 have HR:=hid hR0
 have CP:=hid CP0
 clear hs0 CP0 hR0
 unfold rv
 go_enter Tryz.func35,Tryz.ntmps35
 go_wp2_with fail
 obtain ⟨w0,e0,B1,M1,S1,K1,Q1,hz0⟩:=F8 w [zI c,zI d] 44 [zI a,zI V.c,zS bW V.nW V.nW,zI V.g,zS bO V.nO V.nO,zS bX V.nX V.nX,zS bI V.nI V.nI,zS bR nR nR] 71 (zR R) 52 z8 71
 rw [←e0]
 clear e0
 refine (xQ c d a V lo bW bO bX bI bR nR Z hs.out hnR _ (CP.out.below B1.out) (by omega) (fun k j e1 e2=>(B1.out.cell (p:=⟨bR,0+k * 16+j,none⟩) hbR).trans (HR.out k j e1 e2))).mono ?_
 rintro e w1 ⟨rfl,hb⟩
 have kz1:=hb.size
 have B2:=hid (ah B1.out hb)
 have M2:=hid (M1.out.below hb)
 have S2:=hid (S1.out.below hb)
 have K2:=hid (K1.out.below hb)
 have Q2:=hid (Q1.out.below hb)
 clear B1 M1 S1 K1 Q1 hb
 cases h1:mF c d a V nR Z
 case false=>
  have H1:=hid h1
  clear h1
  have ER:Hid (Ja c d a V nR Z g p R=⟨0,CV.zero,0,Z,0⟩):=by unfold Hid Ja;rw [if_neg (by rw [H1.out];simp)]
  obtain ⟨p0,p1,p2,p3,p4,p5,p6,p7⟩:=Q2.out.a8
  obtain ⟨t0,t1,t2,t3,t4,t5,t6,t7⟩:=Q2.out.f8
  have hlQ:(w.heap.size+1+1+1)<w1.heap.size:=Q2.out.1
  go_wp2
  refine Hw (v:=.tuple #[.agg [zI 0,zI 0,.slice none 0 0,zI 0,.slice none 0 0,.slice none 0 0,.slice none 0 0,.slice none 0 0].toArray,zI 0]) (by simp [results,Tryz.results35,go_sem,p0,p1,p2,p3,p4,p5,p6,p7]) rfl ?_
  have hzz:=H6 w1 (w.heap.size+1+1+1) (zI 0) (zI 0) (.slice none 0 0) (zI 0) (.slice none 0 0) (.slice none 0 0) (.slice none 0 0) (.slice none 0 0)
  refine ⟨⟨_,by rw [ER.out],?_⟩,HY B2.out (by omega) _ _ _ _ _ _ _ _⟩
  show Ih w.heap.size (H7 w1 (w.heap.size+1+1+1) (zI 0) (zI 0) (.slice none 0 0) (zI 0) (.slice none 0 0) (.slice none 0 0) (.slice none 0 0) (.slice none 0 0)).heap.size (H7 w1 (w.heap.size+1+1+1) (zI 0) (zI 0) (.slice none 0 0) (zI 0) (.slice none 0 0) (.slice none 0 0) (.slice none 0 0) (.slice none 0 0)) _ _ _ _ _
  rw [hzz,ER.out]
  exact Ih.zero' (by omega) (Hl hzz.symm)
 have hok:Hid (mF c d a V nR Z=true):=h1
 simp only [mF,Bool.and_eq_true,decide_eq_true_eq] at h1
 obtain ⟨_,h2,h250,hfn⟩:=h1
 have H2:=hid h2
 have HFN:=hid hfn
 clear h2 hfn
 obtain ⟨y0,y1,y2,y3,y4,y5,y6,y7⟩:=S2.out.a8
 have hlS:w.heap.size+1<w1.heap.size:=S2.out.1
 go_wp2_with fail
 clear y0 y1 y2 y3 y4 y5 y6 y7 hlS
 refine (IZ a V lo bW bO bX bI bR nR Z hs.out hnR _ (CP.out.below B2.out) (by omega) (fun k j e1 e2=>(B2.out.cell (p:=⟨bR,0+k * 16+j,none⟩) hbR).trans (HR.out k j e1 e2))).mono ?_
 rintro e w2 ⟨⟨u,rfl,hO⟩,hb⟩
 have kz2:=hb.size
 obtain ⟨a1,k1,a2,k2,a3,k3,a4,k4,aR,kR,l,m,gg,rfl,h1,h2,h4,h5,h6,h7,h8,hRX,hLT,hFU⟩:=hO
 obtain ⟨qO,qX,qI,rfl,rfl,rfl,hCF⟩:=h1.f (hFU rfl) (dH H2.out)
 have OS:Hid (Ih w1.heap.size w2.heap.size w2 (.agg [zI a,zI V.c,.slice a1 V.nW k1,zI V.g,zS qO V.nO k2,zS qX V.nX k3,zS qI V.nI k4,.slice aR nR kR].toArray) a V nR Z):=⟨a1,k1,_,k2,_,k3,_,k4,aR,kR,l,m,gg,rfl,h1,h2,h4,h5,h6,h7,.inr h8⟩
 have OW:=hid h1
 have RXM:=hid hRX
 have RRM:=hid h2
 have LT:=hid hLT
 have CF:=hid hCF
 clear h1 h2 hRX hLT hFU hCF
 have B3:=hid (ah B2.out hb)
 have M3:=hid (M2.out.below hb)
 have K3:=hid (K2.out.below hb)
 have Q3:=hid (Q2.out.below hb)
 clear B2 M2 S2 K2 Q2 hb
 go_upto_region 4 with fail
 obtain ⟨w3,en,hbx,hX,hz3⟩:=bx1 w2 [zI a,zI V.c,.slice a1 V.nW k1,zI V.g,zS qO V.nO k2,zS qX V.nX k3,zS qI V.nI k4,.slice aR nR kR] 71
 rw [←en]
 clear en
 have kz3:=hbx.size
 have B4:=hid (ah B3.out hbx)
 have M4:=hid (M3.out.below hbx)
 have K4:=hid (K3.out.below hbx)
 have Q4:=hid (Q3.out.below hbx)
 have O4:=hid (OS.out.below hbx)
 have W4:=hid (OW.out.below (by omega) hbx)
 have RX4:=hid (RXM.out.below hbx)
 have RR4:=hid (RRM.out.below h7 hbx)
 have CF4:=hid (CF.out.below hbx)
 have X4:=hid hX
 clear B3 M3 K3 Q3 OS OW RXM RRM CF hX hbx
 obtain ⟨x0,x1,x2,x3,x4,x5,x6,x7⟩:=X4.out.a8
 have hlX:w2.heap.size<w3.heap.size:=X4.out.1
 by_cases hga:g=a
 case neg=>
  have ER:Hid (Ja c d a V nR Z g p R=⟨a,V,nR,Z,2⟩):=by unfold Hid Ja;rw [if_pos hok.out,if_neg hga]
  obtain ⟨p0,p1,p2,p3,p4,p5,p6,p7⟩:=Q4.out.a8
  obtain ⟨t0,t1,t2,t3,t4,t5,t6,t7⟩:=Q4.out.f8
  have hlQ:(w.heap.size+1+1+1)<w3.heap.size:=Q4.out.1
  go_wp2
  refine Hw (v:=.tuple #[.agg [zI a,zI V.c,.slice a1 V.nW k1,zI V.g,zS qO V.nO k2,zS qX V.nX k3,zS qI V.nI k4,.slice aR nR kR].toArray,zI 2]) (by simp [results,Tryz.results35,go_sem,p0,p1,p2,p3,p4,p5,p6,p7]) rfl ?_
  have hzz:=H6 w3 (w.heap.size+1+1+1) (zI a) (zI V.c) (.slice a1 V.nW k1) (zI V.g) (zS qO V.nO k2) (zS qX V.nX k3) (zS qI V.nI k4) (.slice aR nR kR)
  refine ⟨⟨_,by rw [ER.out],?_⟩,HY B4.out (by omega) _ _ _ _ _ _ _ _⟩
  show Ih w.heap.size (H7 w3 (w.heap.size+1+1+1) (zI a) (zI V.c) (.slice a1 V.nW k1) (zI V.g) (zS qO V.nO k2) (zS qX V.nX k3) (zS qI V.nI k4) (.slice aR nR kR)).heap.size (H7 w3 (w.heap.size+1+1+1) (zI a) (zI V.c) (.slice a1 V.nW k1) (zI V.g) (zS qO V.nO k2) (zS qX V.nX k3) (zS qI V.nI k4) (.slice aR nR kR)) _ _ _ _ _
  rw [hzz,ER.out]
  exact (O4.out.sm (Hl hzz.symm) (fun b q1 q2=>Ia (by omega) _ _ _ _ _ _ _ _)).wide (by omega) (by omega) (by omega)
 by_cases hp1:p=(nR:Int)
 case neg=>
  have ER:Hid (Ja c d a V nR Z g p R=⟨a,V,nR,Z,3⟩):=by unfold Hid Ja;rw [if_pos hok.out,if_pos hga,if_neg (fun h=>hp1 h.1)]
  obtain ⟨p0,p1,p2,p3,p4,p5,p6,p7⟩:=Q4.out.a8
  obtain ⟨t0,t1,t2,t3,t4,t5,t6,t7⟩:=Q4.out.f8
  have hlQ:(w.heap.size+1+1+1)<w3.heap.size:=Q4.out.1
  go_wp2
  refine Hw (v:=.tuple #[.agg [zI a,zI V.c,.slice a1 V.nW k1,zI V.g,zS qO V.nO k2,zS qX V.nX k3,zS qI V.nI k4,.slice aR nR kR].toArray,zI 3]) (by simp [results,Tryz.results35,go_sem,p0,p1,p2,p3,p4,p5,p6,p7]) rfl ?_
  have hzz:=H6 w3 (w.heap.size+1+1+1) (zI a) (zI V.c) (.slice a1 V.nW k1) (zI V.g) (zS qO V.nO k2) (zS qX V.nX k3) (zS qI V.nI k4) (.slice aR nR kR)
  refine ⟨⟨_,by rw [ER.out],?_⟩,HY B4.out (by omega) _ _ _ _ _ _ _ _⟩
  show Ih w.heap.size (H7 w3 (w.heap.size+1+1+1) (zI a) (zI V.c) (.slice a1 V.nW k1) (zI V.g) (zS qO V.nO k2) (zS qX V.nX k3) (zS qI V.nI k4) (.slice aR nR kR)).heap.size (H7 w3 (w.heap.size+1+1+1) (zI a) (zI V.c) (.slice a1 V.nW k1) (zI V.g) (zS qO V.nO k2) (zS qX V.nX k3) (zS qI V.nI k4) (.slice aR nR kR)) _ _ _ _ _
  rw [hzz,ER.out]
  exact (O4.out.sm (Hl hzz.symm) (fun b q1 q2=>Ia (by omega) _ _ _ _ _ _ _ _)).wide (by omega) (by omega) (by omega)
 by_cases hp2:(nR:Int)=250
 case pos=>
  have hp3:p=250:=by omega
  have ER:Hid (Ja c d a V nR Z g p R=⟨a,V,nR,Z,3⟩):=by unfold Hid Ja;rw [if_pos hok.out,if_pos hga,if_neg (fun h=>h.2 hp2)]
  obtain ⟨p0,p1,p2,p3,p4,p5,p6,p7⟩:=Q4.out.a8
  obtain ⟨t0,t1,t2,t3,t4,t5,t6,t7⟩:=Q4.out.f8
  have hlQ:(w.heap.size+1+1+1)<w3.heap.size:=Q4.out.1
  go_wp2
  refine Hw (v:=.tuple #[.agg [zI a,zI V.c,.slice a1 V.nW k1,zI V.g,zS qO V.nO k2,zS qX V.nX k3,zS qI V.nI k4,.slice aR nR kR].toArray,zI 3]) (by simp [results,Tryz.results35,go_sem,p0,p1,p2,p3,p4,p5,p6,p7]) rfl ?_
  have hzz:=H6 w3 (w.heap.size+1+1+1) (zI a) (zI V.c) (.slice a1 V.nW k1) (zI V.g) (zS qO V.nO k2) (zS qX V.nX k3) (zS qI V.nI k4) (.slice aR nR kR)
  refine ⟨⟨_,by rw [ER.out],?_⟩,HY B4.out (by omega) _ _ _ _ _ _ _ _⟩
  show Ih w.heap.size (H7 w3 (w.heap.size+1+1+1) (zI a) (zI V.c) (.slice a1 V.nW k1) (zI V.g) (zS qO V.nO k2) (zS qX V.nX k3) (zS qI V.nI k4) (.slice aR nR kR)).heap.size (H7 w3 (w.heap.size+1+1+1) (zI a) (zI V.c) (.slice a1 V.nW k1) (zI V.g) (zS qO V.nO k2) (zS qX V.nX k3) (zS qI V.nI k4) (.slice aR nR kR)) _ _ _ _ _
  rw [hzz,ER.out]
  exact (O4.out.sm (Hl hzz.symm) (fun b q1 q2=>Ia (by omega) _ _ _ _ _ _ _ _)).wide (by omega) (by omega) (by omega)
 have hp3:¬ p=250:=by omega
 obtain ⟨m0,m1⟩:=M4.out.a2
 have hlM:w.heap.size<w3.heap.size:=M4.out.1
 go_wp2_with fail
 clear x0 x1 x2 x3 x4 x5 x6 x7 hlX
 clear m0 m1 hlM
 have hRR:Hid (nR≠0→aR=some (zA gg 0)∧gg<w3.heap.size∧∀ k j,k<nR→j<16→w3.cell? (zA gg (0+k * 16+j))=some (zI (Z k j))):=fun hn=>by
  rcases RR4.out with ⟨h,_⟩ | ⟨c,e1,h1,h2,h3,h4⟩
  ·exact absurd h hn
  ·simp only [Value.slice.injEq] at e1
   exact ⟨e1.1,by omega,P16.aZ h4⟩
 refine (Jo c d V a1 k1 qO k2 qX k3 qI k4 aR gg nR kR Z hs.out hnR _ CF4.out hRR.out H2.out (by omega)).mono ?_
 rintro e w4 ⟨⟨u,rfl,hO⟩,hb⟩
 have kz4:=hb.size
 have EF:(foldM c d V nR Z).1=bg c d V Z nR:=by
  unfold foldM
  rw [if_pos ⟨H2.out,h250⟩,HFN.out]
 rw [EF] at hO
 generalize (foldM c d V nR Z).2=zz
 obtain ⟨Un,eU⟩:∃ U,U=bg c d V Z nR:=⟨_,rfl⟩
 rw [←eU] at hO
 have EU:=hid eU
 clear eU EF hRR
 obtain ⟨b1,j1,b2,j2,b3,j3,b4,j4,rfl,hA,hB,hC,hD⟩:=hO.at
 clear hA hB hC hD
 have B5:=hid (ah B4.out hb)
 have M5:=hid (M4.out.below hb)
 have K5:=hid (K4.out.below hb)
 have Q5:=hid (Q4.out.below hb)
 have X5:=hid (X4.out.below hb)
 have O5:=hid (O4.out.below hb)
 have W5:=hid (W4.out.below (by omega) hb)
 have RX5:=hid (RX4.out.below hb)
 have U5:=hid hO
 clear B4 M4 K4 Q4 X4 O4 W4 RX4 RR4 CF4 hb hO
 go_upto_region 9 with fail
 obtain ⟨w5,en,hbx,hX,hz5⟩:=bx1 w4 (zD Un b1 j1 b2 j2 b3 j3 b4 j4) 41
 rw [←en]
 clear en
 have kz5:=hbx.size
 have B6:=hid (ah B5.out hbx)
 have M6:=hid (M5.out.below hbx)
 have K6:=hid (K5.out.below hbx)
 have Q6:=hid (Q5.out.below hbx)
 have X6:=hid (X5.out.below hbx)
 have O6:=hid (O5.out.below hbx)
 have W6:=hid (W5.out.below (by omega) hbx)
 have RX6:=hid (RX5.out.below hbx)
 have U6:=hid (U5.out.below (Ho _) hbx)
 have C6:=hid hX
 have HUn:Hid (bD c d Un=true):=by unfold Hid;rw [EU.out];exact uZ (Z:=Z) H2.out nR
 clear B5 M5 K5 Q5 X5 O5 W5 RX5 U5 hX hbx
 obtain ⟨y0,y1,y2,y3,y4,y5⟩:=C6.out.a6
 have hlC:w4.heap.size<w5.heap.size:=C6.out.1
 obtain ⟨m0,m1⟩:=M6.out.a2
 have hlM:w.heap.size<w5.heap.size:=M6.out.1
 have hl:=iK K6.out rfl
 go_wp2_with fail
 clear y0 y1 y2 y3 y4 y5 hlC m0 m1 hlM hl
 refine (pq c d _ Un 0 R (Dl HUn.out) HUn.out _ (U6.out.g (dH HUn.out))).mono ?_
 rintro e w6 ⟨⟨u,rfl,hO⟩,hb⟩
 have kz6:=hb.size
 obtain ⟨c1,i1,c2,i2,c3,i3,c4,i4,rfl,hA,hB,hC,hD⟩:=hO.at
 clear hA hB hC hD hO
 generalize (aF c d Un R).1=Ua
 obtain ⟨ft,eft⟩:∃ b,b=(aF c d Un R).2.2:=⟨_,rfl⟩
 have EFT:Hid (ft=(aF c d (bg c d V Z nR) R).2.2):=by unfold Hid;rw [←EU.out];exact eft
 rw [←eft]
 clear eft
 obtain ⟨cc,ecc⟩:∃ b,b=(aF c d Un R).2.1:=⟨_,rfl⟩
 rw [←ecc]
 clear ecc
 have B7:=hid (ah B6.out hb)
 have K7:=hid (K6.out.below hb)
 have Q7:=hid (Q6.out.below hb)
 have X7:=hid (X6.out.below hb)
 have O7:=hid (O6.out.below hb)
 have W7:=hid (W6.out.below (by omega) hb)
 have RX7:=hid (RX6.out.below hb)
 clear B6 M6 K6 Q6 X6 O6 W6 RX6 U6 C6 hb
 go_upto_region 10 with fail
 obtain ⟨w7,en,hbx,hX,hz7⟩:=bx1 w6 (zD Ua c1 i1 c2 i2 c3 i3 c4 i4) 41
 rw [←en]
 clear en
 have kz7:=hbx.size
 have B8:=hid (ah B7.out hbx)
 have K8:=hid (K7.out.below hbx)
 have Q8:=hid (Q7.out.below hbx)
 have X8:=hid (X7.out.below hbx)
 have O8:=hid (O7.out.below hbx)
 have W8:=hid (W7.out.below (by omega) hbx)
 have RX8:=hid (RX7.out.below hbx)
 clear B7 K7 Q7 X7 O7 W7 RX7 hX hbx
 obtain ⟨x0,x1,x2,x3,x4,x5,x6,x7⟩:=X8.out.a8
 have hlX:w2.heap.size<w7.heap.size:=X8.out.1
 obtain ⟨f0,f1,f2,f3,f4,f5,f6,f7⟩:=X8.out.f8
 cases ft
 case false=>
  clear f0 f1 f2 f3 f4 f5 f6 f7
  have ER:Hid (Ja c d a V nR Z g p R=⟨a,V,nR,Z,4⟩):=by unfold Hid Ja;rw [if_pos hok.out,if_pos hga,if_pos ⟨hp1,hp2⟩,if_neg (by rw [←EFT.out];simp)]
  obtain ⟨p0,p1,p2,p3,p4,p5,p6,p7⟩:=Q8.out.a8
  obtain ⟨t0,t1,t2,t3,t4,t5,t6,t7⟩:=Q8.out.f8
  have hlQ:(w.heap.size+1+1+1)<w7.heap.size:=Q8.out.1
  go_wp2
  refine Hw (v:=.tuple #[.agg [zI a,zI V.c,.slice a1 V.nW k1,zI V.g,zS qO V.nO k2,zS qX V.nX k3,zS qI V.nI k4,.slice aR nR kR].toArray,zI 4]) (by simp [results,Tryz.results35,go_sem,p0,p1,p2,p3,p4,p5,p6,p7]) rfl ?_
  have hzz:=H6 w7 (w.heap.size+1+1+1) (zI a) (zI V.c) (.slice a1 V.nW k1) (zI V.g) (zS qO V.nO k2) (zS qX V.nX k3) (zS qI V.nI k4) (.slice aR nR kR)
  refine ⟨⟨_,by rw [ER.out],?_⟩,HY B8.out (by omega) _ _ _ _ _ _ _ _⟩
  show Ih w.heap.size (H7 w7 (w.heap.size+1+1+1) (zI a) (zI V.c) (.slice a1 V.nW k1) (zI V.g) (zS qO V.nO k2) (zS qX V.nX k3) (zS qI V.nI k4) (.slice aR nR kR)).heap.size (H7 w7 (w.heap.size+1+1+1) (zI a) (zI V.c) (.slice a1 V.nW k1) (zI V.g) (zS qO V.nO k2) (zS qX V.nX k3) (zS qI V.nI k4) (.slice aR nR kR)) _ _ _ _ _
  rw [hzz,ER.out]
  exact (O8.out.sm (Hl hzz.symm) (fun b q1 q2=>Ia (by omega) _ _ _ _ _ _ _ _)).wide (by omega) (by omega) (by omega)
 obtain ⟨wA,eA,hbA,hBA,hzA⟩:=bx1 w7 (zR R) 52
 have kzA:=hbA.size
 have BA:=hid (ah B8.out hbA)
 have QA:=hid (Q8.out.below hbA)
 have XA:=hid (X8.out.below hbA)
 have WA:=hid (W8.out.below (by omega) hbA)
 have RXA:=hid (RX8.out.below hbA)
 have BKA:=hid hBA
 have lbA:w7.heap.size<wA.heap.size:=hBA.1
 have hl:=iK K8.out rfl
 go_wp2_with (at_builtin;rw [←eA];clear eA;refine Jm rfl _ _ rfl m _ nR Z R rfl RXA.out (by omega) w7.heap.size 1 rfl BKA.out hnR ?_)
 intro v' w8 gr hRR hg hbm hsm
 have kz5:=hbm.size
 obtain ⟨aS,kS,rfl⟩:=hRR.shape
 have LTX:¬ (Value.slice aR nR kR).ownBlock=some w2.heap.size:=fun e=>by have:=LT.out _ e;omega
 have X6:=hid (XA.out.sm kz5 (hsm _ (by omega) LTX))
 have Q6:=hid (QA.out.sm kz5 (aj hbm (by omega)))
 have W6:=hid (WA.out.sm kz5 (fun b q1 q2=>aj hbm (by omega)))
 have B6:Hid (Below w.heap.size w w8):=BA.out.trans (hbm.mono (by omega))
 have RR6:=hid hRR
 have hgx:¬ gr=w2.heap.size:=by
  intro e
  rcases hRR with ⟨e0,_⟩ | ⟨c,e1,h1,h2,h3,h4⟩
  ·omega
  ·have c1:=h4.2 0 2 (by omega) (by omega)
   have c2:w8.cell? (zA w2.heap.size 2)=some (.slice a1 V.nW k1):=(X6.out.2 2 (by simp)).1
   rw [e,show 0 * 16+2=2 from rfl,c2] at c1
   cases c1
 clear LTX hsm hbm hRR BA QA XA WA RXA BKA X8 Q8 K8 O8 W8 RX8 B8 hBA hbA hl x0 x1 x2 x3 x4 x5 x6 x7 hlX f0 f1 f2 f3 f4 f5 f6 f7
 obtain ⟨x0,x1,x2,x3,x4,x5,x6,x7⟩:=X6.out.a8
 have hlX:w2.heap.size<w8.heap.size:=X6.out.1
 obtain ⟨f0,f1,f2,f3,f4,f5,f6,f7⟩:=X6.out.f8
 go_upto_region 13 with fail
 clear x0 x1 x2 x3 x4 x5 x6 x7 hlX
 clear f0 f1 f2 f3 f4 f5 f6 f7
 obtain ⟨w9,e6⟩:∃ y,y=w8.setCell (zA w2.heap.size 7) (.slice aS (nR+1) kS):=⟨_,rfl⟩
 rw [←e6]
 have kz6:w8.heap.size≤w9.heap.size:=by rw [e6,ay];exact Ho _
 have SM:∀ b,¬ b=w2.heap.size→Sm w8 w9 b:=fun b hb o=>by rw [e6];exact ⟨aJ (fun e=>hb e.1.symm),aB⟩
 have B7:Hid (Below w.heap.size w w9):=by unfold Hid;rw [e6];exact B6.out.setCell (by show w.heap.size≤w2.heap.size;omega) _
 have X7:Hid (Bk w9 w2.heap.size [zI a,zI V.c,.slice a1 V.nW k1,zI V.g,zS qO V.nO k2,zS qX V.nX k3,zS qI V.nI k4,.slice aS (nR+1) kS]):=by unfold Hid;rw [e6];exact Bk.set (j:=7) X6.out (by simp)
 have Q7:=hid (Q6.out.sm kz6 (SM _ (by omega)))
 have W7:=hid (W6.out.sm kz6 (fun b q1 q2=>SM b (by omega)))
 have RR7:=hid (RR6.out.sm kz6 (fun _ _=>SM gr hgx))
 have O7:Hid (Ih w1.heap.size w8.heap.size w9 (.agg [zI a,zI V.c,.slice a1 V.nW k1,zI V.g,zS qO V.nO k2,zS qX V.nX k3,zS qI V.nI k4,.slice aS (nR+1) kS].toArray) a V (nR+1) (snoc Z nR R)):=⟨a1,k1,_,k2,_,k3,_,k4,aS,kS,l,m,gr,rfl,W7.out,RR7.out.wide (by omega) (Ho _) kz6,h4,h5,by omega,kz6,.inr hg⟩
 clear e6 SM B6 X6 Q6 W6 RR6 W7 RR7
 obtain ⟨x0,x1,x2,x3,x4,x5,x6,x7⟩:=X7.out.a8
 have hlX:w2.heap.size<w9.heap.size:=X7.out.1
 have ER:Hid (Ja c d a V nR Z g p R=⟨a,V,nR+1,snoc Z nR R,1⟩):=by unfold Hid Ja;rw [if_pos hok.out,if_pos hga,if_pos ⟨hp1,hp2⟩,if_pos EFT.out.symm]
 obtain ⟨p0,p1,p2,p3,p4,p5,p6,p7⟩:=Q7.out.a8
 obtain ⟨t0,t1,t2,t3,t4,t5,t6,t7⟩:=Q7.out.f8
 have hlQ:(w.heap.size+1+1+1)<w9.heap.size:=Q7.out.1
 go_wp2
 refine Hw (v:=.tuple #[.agg [zI a,zI V.c,.slice a1 V.nW k1,zI V.g,zS qO V.nO k2,zS qX V.nX k3,zS qI V.nI k4,.slice aS (nR+1) kS].toArray,zI 1]) (by simp [results,Tryz.results35,go_sem,p0,p1,p2,p3,p4,p5,p6,p7]) rfl ?_
 have hzz:=H6 w9 (w.heap.size+1+1+1) (zI a) (zI V.c) (.slice a1 V.nW k1) (zI V.g) (zS qO V.nO k2) (zS qX V.nX k3) (zS qI V.nI k4) (.slice aS (nR+1) kS)
 refine ⟨⟨_,by rw [ER.out],?_⟩,HY B7.out (by omega) _ _ _ _ _ _ _ _⟩
 show Ih w.heap.size (H7 w9 (w.heap.size+1+1+1) (zI a) (zI V.c) (.slice a1 V.nW k1) (zI V.g) (zS qO V.nO k2) (zS qX V.nX k3) (zS qI V.nI k4) (.slice aS (nR+1) kS)).heap.size (H7 w9 (w.heap.size+1+1+1) (zI a) (zI V.c) (.slice a1 V.nW k1) (zI V.g) (zS qO V.nO k2) (zS qX V.nX k3) (zS qI V.nI k4) (.slice aS (nR+1) kS)) _ _ _ _ _
 rw [hzz,ER.out]
 exact (O7.out.sm (Hl hzz.symm) (fun b q1 q2=>Ia (by omega) _ _ _ _ _ _ _ _)).wide (by omega) (by omega) (by omega)
