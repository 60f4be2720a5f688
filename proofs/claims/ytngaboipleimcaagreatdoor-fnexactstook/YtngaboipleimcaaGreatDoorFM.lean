/- LogFold of the model; conditions: the cell and the records lie in memory. -/
import Derived.Test.YtngaboipleimcaaGreatDoorLB4
import Derived.Test.YtngaboipleimcaaGreatDoorFP
namespace Go.Proofs.YtngaboipleimcaaGreatDoor
open Go.RowKit Go.Deep
set_option linter.unusedVariables false
set_option maxRecDepth 20000
attribute [local go_sem ↓] load52_eq
def foldM (c d:Int) (V:CV) (nR:Nat) (Z:Nat→Nat→Int):CV × Nat:=if cllB c d V=true∧nR≤250 then (runV c d V Z (foldN c d V Z nR),foldN c d V Z nR) else (CV.zero,0)
def LF (c d:Int) (V:CV) (Z:Nat→Nat→Int) (w:World) (xb k:Nat) (wr:World):Prop:=∃ aW kW aO kO aX kX aI kI lo hi,Bk wr xb (zD (runV c d V Z k) aW kW aO kO aX kX aI kI)∧OwnC lo hi wr (.agg (zD (runV c d V Z k) aW kW aO kO aX kX aI kI).toArray) (runV c d V Z k)∧(hi≤xb∨xb<lo)∧w.heap.size+3≤lo∧hi≤wr.heap.size∧Below w.heap.size w wr∧Bk wr w.heap.size [zI c,zI d]∧Bk wr (w.heap.size+1+1) zN∧w.heap.size+3≤xb
theorem load52_mid {w:World} {b o:Nat} {R:Nat→Int} (h:∀ j,j<16→w.cell? ⟨b,o+j,none⟩=some (zI (R j))):(load52 (zP b o)).run Tryz.prog w=.ok (rv R) w:=by
 refine run_loadAt_mid w b o 52 (zR R) _ ?_ Tryz.underlying52 rfl (by kernel_rfl)
 intro j v hv
 obtain ⟨hj,rfl⟩:=List.getElem?_eq_some_iff.1 hv
 have e:(zR R)[j]=zI (R j):=by
  have hj16:j<16:=hj
  have:j=0∨j=1∨j=2∨j=3∨j=4∨j=5∨j=6∨j=7∨j=8∨j=9∨j=10∨j=11∨j=12∨j=13∨j=14∨j=15:=by omega
  rcases this with rfl | rfl | rfl | rfl | rfl | rfl | rfl | rfl | rfl | rfl | rfl | rfl | rfl | rfl | rfl | rfl <;> rfl
 rw [h j hj,e]
theorem short_of {c d:Int} {V:CV} (h:cllB c d V=true):V.short 1048576:=by
 obtain ⟨h1,h2,h3⟩:=cllB_two h
 have h9:=cllB_nine h
 refine ⟨by omega,by omega,fun k hk=>?_,by omega,by omega⟩
 have:=(cllB_X h k (by omega)).2
 omega
theorem put6_bk {w:World} {g:Nat} {l:List Value} (h:Bk w g l) (hl:l.length=6) (v0 v1 v2 v3 v4 v5:Value):Bk (put6 w g v0 v1 v2 v3 v4 v5) g [v0,v1,v2,v3,v4,v5]:=bk_put (l:=[v0,v1,v2,v3,v4,v5]) h (by rw [hl];rfl)
set_option maxHeartbeats 8000000 in
theorem foldM_a (c d:Int) (V:CV) (lo bW bO bX bI bR nR:Nat) (Z:Nat→Nat→Int) (hs0:V.short 1048576) (hnR:nR≤1048576) (w:World) (CP0:CopyAt lo w (.agg (zC V bW V.nW bO V.nO bX V.nX bI V.nI).toArray) V) (hbR:bR<w.heap.size) (hR0:∀ k j,k<nR→j<16→w.cell? ⟨bR,0+k * 16+j,none⟩=some (.int .i64 (Z k j))) (h1:cllB c d V=false) :
 Calls Tryz.prog 19 #[.agg #[zI c,zI d],.agg (zC V bW V.nW bO V.nO bX V.nX bI V.nI).toArray,zS bR nR nR] w fun e w'=>(∃ u,e=.returned (.tuple #[u,zI ((foldM c d V nR Z).2:Int)])∧OwnC w.heap.size w'.heap.size w' u (foldM c d V nR Z).1)∧Below w.heap.size w w':=by
 have hs:=hid hs0
 have HR:=hid hR0
 have CP:=hid CP0
 have HL:=hid h1
 have ER:Hid (foldM c d V nR Z=(CV.zero,0)):=by unfold Hid foldM;rw [if_neg (by rw [h1];simp)]
 clear hs0 CP0 h1 hR0
 go_enter Tryz.func19,Tryz.ntmps19
 go_wp2_with fail
 obtain ⟨w0,e0,hB0,hM0,hC0,hQ0,hz0⟩:=bx3 w [zI c,zI d] 44 (zC V bW V.nW bO V.nO bX V.nX bI V.nI) 41 zN 41
 rw [←e0]
 clear e0
 have B1:=hid hB0
 have M2:=hid hM0
 have C3:=hid hC0
 have Q5:=hid hQ0
 clear hB0 hM0 hC0 hQ0
 obtain ⟨yM0,yM1⟩:=M2.out.a2
 have hlM:(w.heap.size)<w0.heap.size:=M2.out.1
 obtain ⟨yC0,yC1,yC2,yC3,yC4,yC5⟩:=C3.out.a6
 have hlC:(w.heap.size+1)<w0.heap.size:=C3.out.1
 go_wp2_with fail
 clear yM0 yM1 hlM yC0 yC1 yC2 yC3 yC4 yC5 hlC
 refine (cllOk_spec c d _ V lo hs.out _ (CP.out.below B1.out)).mono ?_
 rintro e w1 ⟨rfl,hb⟩
 rw [HL.out]
 have B6:=hid (bthen B1.out hb)
 have M6:=hid (M2.out.below hb)
 have C6:=hid (C3.out.below hb)
 have Q6:=hid (Q5.out.below hb)
 clear B1 M2 C3 Q5
 have zzw1:w0.heap.size≤w1.heap.size:=hb.size
 clear hb
 obtain ⟨yQ0,yQ1,yQ2,yQ3,yQ4,yQ5⟩:=Q6.out.a6
 obtain ⟨zQ0,zQ1,zQ2,zQ3,zQ4,zQ5⟩:=Q6.out.f6
 have hlQ:(w.heap.size+1+1)<w1.heap.size:=Q6.out.1
 go_wp2
 refine bodyPost_ret (v:=.tuple #[.agg zN.toArray,zI 0]) (by simp [results,Tryz.results19,go_sem,yQ0,yQ1,yQ2,yQ3,yQ4,yQ5]) rfl ?_
 exact ⟨⟨_,by rw [ER.out];rfl,by rw [ER.out];exact nothing_own _ _ _⟩,below_put6 B6.out (by omega) _ _ _ _ _ _⟩
set_option maxHeartbeats 8000000 in
theorem foldM_b (c d:Int) (V:CV) (lo bW bO bX bI bR nR:Nat) (Z:Nat→Nat→Int) (hs0:V.short 1048576) (hnR:nR≤1048576) (w:World) (CP0:CopyAt lo w (.agg (zC V bW V.nW bO V.nO bX V.nX bI V.nI).toArray) V) (hbR:bR<w.heap.size) (hR0:∀ k j,k<nR→j<16→w.cell? ⟨bR,0+k * 16+j,none⟩=some (.int .i64 (Z k j))) (h1:cllB c d V=true) (h2:(250:Int)<nR) :
 Calls Tryz.prog 19 #[.agg #[zI c,zI d],.agg (zC V bW V.nW bO V.nO bX V.nX bI V.nI).toArray,zS bR nR nR] w fun e w'=>(∃ u,e=.returned (.tuple #[u,zI ((foldM c d V nR Z).2:Int)])∧OwnC w.heap.size w'.heap.size w' u (foldM c d V nR Z).1)∧Below w.heap.size w w':=by
 have hs:=hid hs0
 have HR:=hid hR0
 have CP:=hid CP0
 have HL:=hid h1
 have ER:Hid (foldM c d V nR Z=(CV.zero,0)):=by unfold Hid foldM;rw [if_neg (by omega)]
 clear hs0 CP0 h1 hR0
 go_enter Tryz.func19,Tryz.ntmps19
 go_wp2_with fail
 obtain ⟨w0,e0,hB0,hM0,hC0,hQ0,hz0⟩:=bx3 w [zI c,zI d] 44 (zC V bW V.nW bO V.nO bX V.nX bI V.nI) 41 zN 41
 rw [←e0]
 clear e0
 have B1:=hid hB0
 have M2:=hid hM0
 have C3:=hid hC0
 have Q5:=hid hQ0
 clear hB0 hM0 hC0 hQ0
 obtain ⟨yM0,yM1⟩:=M2.out.a2
 have hlM:(w.heap.size)<w0.heap.size:=M2.out.1
 obtain ⟨yC0,yC1,yC2,yC3,yC4,yC5⟩:=C3.out.a6
 have hlC:(w.heap.size+1)<w0.heap.size:=C3.out.1
 go_wp2_with fail
 clear yM0 yM1 hlM yC0 yC1 yC2 yC3 yC4 yC5 hlC
 refine (cllOk_spec c d _ V lo hs.out _ (CP.out.below B1.out)).mono ?_
 rintro e w1 ⟨rfl,hb⟩
 rw [HL.out]
 have B6:=hid (bthen B1.out hb)
 have M6:=hid (M2.out.below hb)
 have C6:=hid (C3.out.below hb)
 have Q6:=hid (Q5.out.below hb)
 clear B1 M2 C3 Q5
 have zzw1:w0.heap.size≤w1.heap.size:=hb.size
 clear hb
 obtain ⟨yQ0,yQ1,yQ2,yQ3,yQ4,yQ5⟩:=Q6.out.a6
 obtain ⟨zQ0,zQ1,zQ2,zQ3,zQ4,zQ5⟩:=Q6.out.f6
 have hlQ:(w.heap.size+1+1)<w1.heap.size:=Q6.out.1
 go_wp2
 refine bodyPost_ret (v:=.tuple #[.agg zN.toArray,zI 0]) (by simp [results,Tryz.results19,go_sem,yQ0,yQ1,yQ2,yQ3,yQ4,yQ5]) rfl ?_
 exact ⟨⟨_,by rw [ER.out];rfl,by rw [ER.out];exact nothing_own _ _ _⟩,below_put6 B6.out (by omega) _ _ _ _ _ _⟩
set_option maxHeartbeats 8000000 in
theorem foldM_c (c d:Int) (V:CV) (lo bW bO bX bI bR nR:Nat) (Z:Nat→Nat→Int) (hs0:V.short 1048576) (hnR:nR≤1048576) (w:World) (CP0:CopyAt lo w (.agg (zC V bW V.nW bO V.nO bX V.nX bI V.nI).toArray) V) (hbR:bR<w.heap.size) (hR0:∀ k j,k<nR→j<16→w.cell? ⟨bR,0+k * 16+j,none⟩=some (.int .i64 (Z k j))) (h1:cllB c d V=true) (h2:¬ (250:Int)<nR) :
 Calls Tryz.prog 19 #[.agg #[zI c,zI d],.agg (zC V bW V.nW bO V.nO bX V.nX bI V.nI).toArray,zS bR nR nR] w fun e w'=>(∃ u,e=.returned (.tuple #[u,zI ((foldM c d V nR Z).2:Int)])∧OwnC w.heap.size w'.heap.size w' u (foldM c d V nR Z).1)∧Below w.heap.size w w':=by
 have hs:=hid hs0
 have HR:=hid hR0
 have CP:=hid CP0
 have HL:=hid h1
 have ER:Hid (foldM c d V nR Z=(runV c d V Z (foldN c d V Z nR),foldN c d V Z nR)):=by unfold Hid foldM;rw [if_pos ⟨h1,by omega⟩]
 clear hs0 CP0 h1 hR0
 go_enter Tryz.func19,Tryz.ntmps19
 go_wp2_with fail
 obtain ⟨w0,e0,hB0,hM0,hC0,hQ0,hz0⟩:=bx3 w [zI c,zI d] 44 (zC V bW V.nW bO V.nO bX V.nX bI V.nI) 41 zN 41
 rw [←e0]
 clear e0
 have B1:=hid hB0
 have M2:=hid hM0
 have C3:=hid hC0
 have Q5:=hid hQ0
 clear hB0 hM0 hC0 hQ0
 obtain ⟨yM0,yM1⟩:=M2.out.a2
 have hlM:(w.heap.size)<w0.heap.size:=M2.out.1
 obtain ⟨yC0,yC1,yC2,yC3,yC4,yC5⟩:=C3.out.a6
 have hlC:(w.heap.size+1)<w0.heap.size:=C3.out.1
 go_wp2_with fail
 clear yM0 yM1 hlM yC0 yC1 yC2 yC3 yC4 yC5 hlC
 refine (cllOk_spec c d _ V lo hs.out _ (CP.out.below B1.out)).mono ?_
 rintro e w1 ⟨rfl,hb⟩
 rw [HL.out]
 have B6:=hid (bthen B1.out hb)
 have M6:=hid (M2.out.below hb)
 have C6:=hid (C3.out.below hb)
 have Q6:=hid (Q5.out.below hb)
 clear B1 M2 C3 Q5
 have zzw1:w0.heap.size≤w1.heap.size:=hb.size
 clear hb
 obtain ⟨yC0,yC1,yC2,yC3,yC4,yC5⟩:=C6.out.a6
 have hlC:(w.heap.size+1)<w1.heap.size:=C6.out.1
 go_wp2_with fail
 clear yC0 yC1 yC2 yC3 yC4 yC5 hlC
 refine (copyG_spec _ V hs.out _ (CP.out.below B6.out).cellS.g).mono ?_
 rintro e w2 ⟨⟨u,rfl,hO,_,_⟩,hb⟩
 have B7:=hid (bthen B6.out hb)
 have M7:=hid (M6.out.below hb)
 have Q7:=hid (Q6.out.below hb)
 clear B6 M6 C6 Q6
 have zzw2:w1.heap.size≤w2.heap.size:=hb.size
 clear hb
 obtain ⟨aW,kW,aO,kO,aX,kX,aI,kI,rfl,_,_,_,_⟩:=hO.at
 have O6:=hid hO
 clear hO
 go_upto_region 5 with fail
 obtain ⟨w3,en⟩:∃ y,y=w2.alloc (.cells (zD V aW kW aO kO aX kX aI kI).toArray 41):=⟨_,rfl⟩
 have hbx:Below w2.heap.size w2 w3:=by rw [en];exact (Below.refl _ _).alloc (Nat.le_refl _) _
 have hX:Bk w3 w2.heap.size (zD V aW kW aO kO aX kX aI kI):=by rw [en];exact bk_new w2 41 (zD V aW kW aO kO aX kX aI kI)
 rw [←en]
 clear en
 have LF0:Hid (LF c d V Z w w2.heap.size 0 w3):=⟨aW,kW,aO,kO,aX,kX,aI,kI,w1.heap.size,w2.heap.size,hX,O6.out.below (Nat.le_refl _) hbx,.inl (Nat.le_refl _),by omega,hbx.size,bthen B7.out hbx,M7.out.below hbx,Q7.out.below hbx,by omega⟩
 clear B7 M7 Q7 O6 hbx hX
 obtain ⟨xb,exb⟩:∃ x,x=w2.heap.size:=⟨_,rfl⟩
 rw [←exb] at LF0 ⊢
 clear exb
 go_loopw [9] (fun i wr=>∃ k:Nat,k≤nR∧i=zI k∧Hid (∀ j,j<k→fitK c d V Z j=true)∧Hid (LF c d V Z w xb k wr)) (fun i _=>nR - (intOf i).toNat)
 case atStart=>exact ⟨0,Nat.zero_le _,rfl,fun j hj=>absurd hj (Nat.not_lt_zero _),LF0⟩
 case round=>
  obtain ⟨k,hk,rfl,HF,HX⟩:=hrel
  clear LF0
  by_cases hkn:k<nR
  ·have hkn':(k:Int)<(nR:Int):=by omega
   obtain ⟨a1,k1,a2,k2,a3,k3,a4,k4,l1,h1,X,O,hd,hl,hh,B,M,Q,hxb⟩:=HX.out
   have hU:=run_ok (Z:=Z) HL.out k
   have G:Hid (CellG wr (.agg (zD (runV c d V Z k) a1 k1 a2 k2 a3 k3 a4 k4).toArray) (runV c d V Z k)):=O.g (cllB_two hU)
   have SU:=hid (short_of hU)
   have HU:=hid hU
   have R1:Hid (∀ j,j<16→wr.cell? ⟨bR,k * 16+j,none⟩=some (zI (Z k j))):=fun j hj=>by have h:=(B.cell (p:=⟨bR,_,none⟩) (by show bR<_;omega)).trans (HR.out k j hkn hj);rw [Nat.zero_add] at h;exact h
   have X1:=hid X
   have O1:=hid O
   have B1:=hid B
   have M1:=hid M
   have Q1:=hid Q
   have hxw:xb<wr.heap.size:=X.1
   have lbR:bR<wr.heap.size:=by have:=B.size;omega
   clear X O B M Q hU HX
   obtain ⟨yM0,yM1⟩:=M1.out.a2
   have hlM:(w.heap.size)<wr.heap.size:=M1.out.1
   obtain ⟨yX0,yX1,yX2,yX3,yX4,yX5⟩:=X1.out.a6
   have hlX:xb<wr.heap.size:=X1.out.1
   go_upto_region 7 with fail
   refine wp_region_held_drew (S:=fun w'=>Below (wr.heap.size) wr w') (by kernel_rfl) ((Below.refl _ _).drew) ?_
   intro hHeld
   obtain ⟨X0,hX0⟩:∃ X,X=wr.drew:=⟨_,rfl⟩
   have hz0:wr.heap.size≤X0.heap.size:=by rw [hX0];exact Nat.le_refl _
   rw [←hX0] at hHeld ⊢
   clear hX0
   refine tkb 0 (.agg #[zI c,zI d]) rfl ?_
   try simp only [aT]
   refine tkb 1 (.agg (zD (runV c d V Z k) a1 k1 a2 k2 a3 k3 a4 k4).toArray) rfl ?_
   try simp only [aT]
   refine tkb 2 (zS bR nR nR) rfl ?_
   try simp only [aT]
   refine tkb 3 (zI k) rfl ?_
   try simp only [aT]
   refine tkb 4 (zP bR (k * 16)) rfl ?_
   try simp only [aT]
   refine tkl 5 (rv (Z k)) rfl ?_ ?_
   ·intro wx hSw
    obtain ⟨hcS,hfS⟩:=bcellN hSw
    have yR:=load52_mid (w:=wx) (b:=bR) (o:=k * 16) (R:=Z k) (fun j hj=>(hcS bR _ lbR).trans (R1.out j hj))
    (try simp only [aT])
    go_simp
   try simp only [aT]
   refine rdy [6,11] (AllReadyH.cons rfl (fun K hK=>?_) (AllReadyH.cons rfl (fun K hK=>?_) AllReadyH.nil))
   ·go_simp
    go_wp2_with fail
    refine (l6Apply_spec c d _ (runV c d V Z k) 0 (Z k) SU.out HU.out _ (G.out.below hHeld)).mono ?_
    rintro e w4 ⟨⟨u,rfl,hO⟩,hb⟩
    have hP:OwnC X0.heap.size w4.heap.size w4 u (runV c d V Z (k+1)):=hO
    clear hO
    obtain ⟨Un,eUn⟩:∃ U,U=runV c d V Z (k+1):=⟨_,rfl⟩
    rw [←eUn] at hP
    have EUn:=hid eUn
    clear eUn
    obtain ⟨ft,eft⟩:∃ b,b=(applyV c d (runV c d V Z k) (Z k)).2.2:=⟨_,rfl⟩
    have EF:Hid (ft=fitK c d V Z k):=eft
    rw [←eft]
    clear eft
    obtain ⟨cc,ecc⟩:∃ b,b=(applyV c d (runV c d V Z k) (Z k)).2.1:=⟨_,rfl⟩
    rw [←ecc]
    clear ecc
    obtain ⟨b1,j1,b2,j2,b3,j3,b4,j4,rfl,_,_,_,_⟩:=hP.at
    have kz4:X0.heap.size≤w4.heap.size:=hb.size
    have OP:=hid hP
    clear hP
    refine hK.out _ _ (bthenN hHeld (by omega) hb) (fun hNew=>?_)
    clear hK K hHeld
    have hHeld:=hNew
    clear hNew
    try simp only [aT]
    clear hb
    refine tkb 7 (.tuple #[.agg (zD Un b1 j1 b2 j2 b3 j3 b4 j4).toArray,zI cc,.bool ft]) rfl ?_
    try simp only [aT]
    refine tkb 8 (.agg (zD Un b1 j1 b2 j2 b3 j3 b4 j4).toArray) rfl ?_
    try simp only [aT]
    refine tkb 9 (zI cc) rfl ?_
    try simp only [aT]
    refine tkb 10 (.bool ft) rfl ?_
    try simp only [aT]
    refine rd1 11 rfl fun K hK=>?_
    go_simp
    obtain ⟨w5,eA⟩:∃ X,X=w4.alloc (.cells zN.toArray 41):=⟨_,rfl⟩
    rw [←eA]
    have hbA:Below w4.heap.size w4 w5:=by rw [eA];exact (Below.refl _ _).alloc (Nat.le_refl _) _
    have hZ:Bk w5 w4.heap.size zN:=by rw [eA];exact bk_new w4 41 zN
    have kzA:w4.heap.size+1≤w5.heap.size:=by rw [eA];simp
    clear eA
    have Y:=hid hZ
    clear hZ
    have l2e:=hid (OP.out.below (Nat.le_refl _) hbA)
    clear OP
    have OP:=l2e
    clear l2e
    refine hK.out _ _ (bthenN hHeld (by omega) hbA) (fun hNew=>?_)
    clear hK K hHeld
    have hHeld:=hNew
    clear hNew
    try simp only [aT]
    clear hbA
    obtain ⟨yb,eyb⟩:∃ x,x=w4.heap.size:=⟨_,rfl⟩
    rw [←eyb] at Y ⊢
    have yb1:=Nat.le_of_eq eyb
    have yb2:=Nat.le_of_eq eyb.symm
    clear eyb
    obtain ⟨l2,el2⟩:∃ x,x=X0.heap.size:=⟨_,rfl⟩
    rw [←el2] at OP
    have l21:=Nat.le_of_eq el2
    have l22:=Nat.le_of_eq el2.symm
    clear el2
    obtain ⟨h2',eh2⟩:∃ x,x=w4.heap.size:=⟨_,rfl⟩
    rw [←eh2] at OP
    have h21:=Nat.le_of_eq eh2
    have h22:=Nat.le_of_eq eh2.symm
    clear eh2
    obtain ⟨zQ0,zQ1,zQ2,zQ3,zQ4,zQ5⟩:=Y.out.f6
    obtain ⟨yQ0,yQ1,yQ2,yQ3,yQ4,yQ5⟩:=Y.out.a6
    have hlY:=Y.out.1
    refine rd1 12 rfl fun K hK=>?_
    go_simp
    obtain ⟨w6,e6⟩:∃ X,X=put6 w5 yb (zI Un.c) (.slice b1 Un.nW j1) (zI Un.g) (.slice b2 Un.nO j2) (.slice b3 Un.nX j3) (.slice b4 Un.nI j4):=⟨_,rfl⟩
    have hB6:Below wr.heap.size wr w6:=by rw [e6];exact below_put6 hHeld (by omega) _ _ _ _ _ _
    have hz6:w6.heap.size=w5.heap.size:=by rw [e6];exact size_put6 _ _ _ _ _ _ _ _
    have Y6:Hid (Bk w6 yb (zD Un b1 j1 b2 j2 b3 j3 b4 j4)):=by unfold Hid;rw [e6];exact put6_bk Y.out rfl _ _ _ _ _ _
    have O6:Hid (OwnC l2 h2' w6 (.agg (zD Un b1 j1 b2 j2 b3 j3 b4 j4).toArray) Un):=by unfold Hid;rw [e6];exact OP.out.sm (Nat.le_of_eq (size_put6 _ _ _ _ _ _ _ _).symm) (fun b q1 q2=>sm_put6 (by omega) _ _ _ _ _ _)
    unfold put6 at e6
    rw [←e6]
    clear e6 OP Y yQ0 yQ1 yQ2 yQ3 yQ4 yQ5 zQ0 zQ1 zQ2 zQ3 zQ4 zQ5 hlY
    refine hK.out _ _ hB6 (fun hNew=>?_)
    clear hK K hHeld hNew
    try simp only [aT]
    refine tkb 13 (zI cc) rfl ?_
    try simp only [aT]
    refine tkb 14 (.bool ft) rfl ?_
    try simp only [aT]
    refine wpAnyH_done (by kernel_rfl) ?_ _
    have X6:=hid (X1.out.below hB6)
    have O7:=hid (O1.out.below hh hB6)
    have B6:=hid (bthen B1.out hB6)
    have M6:=hid (M1.out.below hB6)
    have Q6:=hid (Q1.out.below hB6)
    have hwz:=hB6.size
    clear yM0 yM1 hlM yX0 yX1 yX2 yX3 yX4 yX5 hlX X1 O1 B1 M1 Q1 hB6 G R1
    obtain ⟨yX0,yX1,yX2,yX3,yX4,yX5⟩:=X6.out.a6
    obtain ⟨zX0,zX1,zX2,zX3,zX4,zX5⟩:=X6.out.f6
    have hlX:xb<w6.heap.size:=X6.out.1
    obtain ⟨yY0,yY1,yY2,yY3,yY4,yY5⟩:=Y6.out.a6
    have hlY:yb<w6.heap.size:=Y6.out.1
    obtain ⟨yQ0,yQ1,yQ2,yQ3,yQ4,yQ5⟩:=Q6.out.a6
    obtain ⟨zQ0,zQ1,zQ2,zQ3,zQ4,zQ5⟩:=Q6.out.f6
    have hlQ:(w.heap.size+1+1)<w6.heap.size:=Q6.out.1
    cases ft
    ·have ER2:Hid (foldM c d V nR Z=(runV c d V Z k,k)):=by unfold Hid;rw [ER.out,fold_stop HF.out EF.out.symm nR hkn]
     clear yY0 yY1 yY2 yY3 yY4 yY5 hlY zX0 zX1 zX2 zX3 zX4 zX5
     go_wp2
     refine bodyPost_ret (v:=.tuple #[.agg (zD (runV c d V Z k) a1 k1 a2 k2 a3 k3 a4 k4).toArray,zI k]) (by simp [results,Tryz.results19,go_sem,yQ0,yQ1,yQ2,yQ3,yQ4,yQ5]) rfl ?_
     have hzz:=size_put6 w6 (w.heap.size+1+1) (zI (runV c d V Z k).c) (.slice a1 (runV c d V Z k).nW k1) (zI (runV c d V Z k).g) (.slice a2 (runV c d V Z k).nO k2) (.slice a3 (runV c d V Z k).nX k3) (.slice a4 (runV c d V Z k).nI k4)
     refine ⟨⟨_,by rw [ER2.out],?_⟩,below_put6 B6.out (by omega) _ _ _ _ _ _⟩
     show OwnC w.heap.size (put6 w6 (w.heap.size+1+1) (zI (runV c d V Z k).c) (.slice a1 (runV c d V Z k).nW k1) (zI (runV c d V Z k).g) (.slice a2 (runV c d V Z k).nO k2) (.slice a3 (runV c d V Z k).nX k3) (.slice a4 (runV c d V Z k).nI k4)).heap.size (put6 w6 (w.heap.size+1+1) (zI (runV c d V Z k).c) (.slice a1 (runV c d V Z k).nW k1) (zI (runV c d V Z k).g) (.slice a2 (runV c d V Z k).nO k2) (.slice a3 (runV c d V Z k).nX k3) (.slice a4 (runV c d V Z k).nI k4)) _ _
     rw [hzz,ER2.out]
     exact (O7.out.sm (Nat.le_of_eq hzz.symm) (fun x g1 g2=>sm_put6 (by omega) (zI (runV c d V Z k).c) (.slice a1 (runV c d V Z k).nW k1) (zI (runV c d V Z k).g) (.slice a2 (runV c d V Z k).nO k2) (.slice a3 (runV c d V Z k).nX k3) (.slice a4 (runV c d V Z k).nI k4))).wide (by omega) (by omega) (by omega)
    ·clear yQ0 yQ1 yQ2 yQ3 yQ4 yQ5 zQ0 zQ1 zQ2 zQ3 zQ4 zQ5 hlQ
     go_wp2
     go_roundw
     case rel=>
      refine ⟨k+1,by omega,by go_num,fun j hj=>?_,?_⟩
      ·by_cases e:j<k
       ·exact HF.out j e
       ·have e2:j=k:=by omega
        subst e2
        exact EF.out.symm
      ·obtain rfl:=EUn.out
       have hzz:=size_put6 w6 xb (zI (runV c d V Z (k+1)).c) (.slice b1 (runV c d V Z (k+1)).nW j1) (zI (runV c d V Z (k+1)).g) (.slice b2 (runV c d V Z (k+1)).nO j2) (.slice b3 (runV c d V Z (k+1)).nX j3) (.slice b4 (runV c d V Z (k+1)).nI j4)
       have SS:∀ x,¬ x=xb→Sm w6 (put6 w6 xb (zI (runV c d V Z (k+1)).c) (.slice b1 (runV c d V Z (k+1)).nW j1) (zI (runV c d V Z (k+1)).g) (.slice b2 (runV c d V Z (k+1)).nO j2) (.slice b3 (runV c d V Z (k+1)).nX j3) (.slice b4 (runV c d V Z (k+1)).nI j4)) x:=fun x hx=>sm_put6 (fun e=>hx e.symm) _ _ _ _ _ _
       exact ⟨b1,j1,b2,j2,b3,j3,b4,j4,l2,h2',put6_bk X6.out rfl _ _ _ _ _ _,O6.out.sm (Nat.le_of_eq hzz.symm) (fun b q1 q2=>SS b (by omega)),.inr (by omega),by omega,by show _≤(put6 _ _ _ _ _ _ _ _).heap.size;rw [size_put6];omega,below_put6 B6.out (by omega) _ _ _ _ _ _,M6.out.sm (Nat.le_of_eq hzz.symm) (SS _ (by omega)),Q6.out.sm (Nat.le_of_eq hzz.symm) (SS _ (by omega)),hxb⟩
     case measure=>simp [intOf];omega
   ·go_simp
    obtain ⟨w4,eA⟩:∃ X,X=X0.alloc (.cells zN.toArray 41):=⟨_,rfl⟩
    rw [←eA]
    have hbA:Below X0.heap.size X0 w4:=by rw [eA];exact (Below.refl _ _).alloc (Nat.le_refl _) _
    have hZ:Bk w4 X0.heap.size zN:=by rw [eA];exact bk_new X0 41 zN
    have kzA:X0.heap.size+1≤w4.heap.size:=by rw [eA];simp
    clear eA
    have Y:=hid hZ
    clear hZ
    refine hK.out _ _ (bthenN hHeld (by omega) hbA) (fun hNew=>?_)
    clear hK K hHeld
    have hHeld:=hNew
    clear hNew
    try simp only [aT]
    clear hbA
    obtain ⟨yb,eyb⟩:∃ x,x=X0.heap.size:=⟨_,rfl⟩
    rw [←eyb] at Y ⊢
    have yb1:=Nat.le_of_eq eyb
    have yb2:=Nat.le_of_eq eyb.symm
    clear eyb
    refine rd1 6 rfl fun K hK=>?_
    go_simp
    go_wp2_with fail
    refine (l6Apply_spec c d _ (runV c d V Z k) 0 (Z k) SU.out HU.out _ (G.out.below hHeld)).mono ?_
    rintro e w5 ⟨⟨u,rfl,hO⟩,hb⟩
    have hP:OwnC w4.heap.size w5.heap.size w5 u (runV c d V Z (k+1)):=hO
    clear hO
    obtain ⟨Un,eUn⟩:∃ U,U=runV c d V Z (k+1):=⟨_,rfl⟩
    rw [←eUn] at hP
    have EUn:=hid eUn
    clear eUn
    obtain ⟨ft,eft⟩:∃ b,b=(applyV c d (runV c d V Z k) (Z k)).2.2:=⟨_,rfl⟩
    have EF:Hid (ft=fitK c d V Z k):=eft
    rw [←eft]
    clear eft
    obtain ⟨cc,ecc⟩:∃ b,b=(applyV c d (runV c d V Z k) (Z k)).2.1:=⟨_,rfl⟩
    rw [←ecc]
    clear ecc
    obtain ⟨b1,j1,b2,j2,b3,j3,b4,j4,rfl,_,_,_,_⟩:=hP.at
    have kz4:w4.heap.size≤w5.heap.size:=hb.size
    have OP:=hid hP
    clear hP
    have Y2:=hid (Y.out.below hb)
    clear Y
    have Y:=Y2
    clear Y2
    refine hK.out _ _ (bthenN hHeld (by omega) hb) (fun hNew=>?_)
    clear hK K hHeld
    have hHeld:=hNew
    clear hNew
    try simp only [aT]
    clear hb
    refine tkb 7 (.tuple #[.agg (zD Un b1 j1 b2 j2 b3 j3 b4 j4).toArray,zI cc,.bool ft]) rfl ?_
    try simp only [aT]
    refine tkb 8 (.agg (zD Un b1 j1 b2 j2 b3 j3 b4 j4).toArray) rfl ?_
    try simp only [aT]
    refine tkb 9 (zI cc) rfl ?_
    try simp only [aT]
    refine tkb 10 (.bool ft) rfl ?_
    try simp only [aT]
    obtain ⟨l2,el2⟩:∃ x,x=w4.heap.size:=⟨_,rfl⟩
    rw [←el2] at OP
    have l21:=Nat.le_of_eq el2
    have l22:=Nat.le_of_eq el2.symm
    clear el2
    obtain ⟨h2',eh2⟩:∃ x,x=w5.heap.size:=⟨_,rfl⟩
    rw [←eh2] at OP
    have h21:=Nat.le_of_eq eh2
    have h22:=Nat.le_of_eq eh2.symm
    clear eh2
    obtain ⟨zQ0,zQ1,zQ2,zQ3,zQ4,zQ5⟩:=Y.out.f6
    obtain ⟨yQ0,yQ1,yQ2,yQ3,yQ4,yQ5⟩:=Y.out.a6
    have hlY:=Y.out.1
    refine rd1 12 rfl fun K hK=>?_
    go_simp
    obtain ⟨w6,e6⟩:∃ X,X=put6 w5 yb (zI Un.c) (.slice b1 Un.nW j1) (zI Un.g) (.slice b2 Un.nO j2) (.slice b3 Un.nX j3) (.slice b4 Un.nI j4):=⟨_,rfl⟩
    have hB6:Below wr.heap.size wr w6:=by rw [e6];exact below_put6 hHeld (by omega) _ _ _ _ _ _
    have hz6:w6.heap.size=w5.heap.size:=by rw [e6];exact size_put6 _ _ _ _ _ _ _ _
    have Y6:Hid (Bk w6 yb (zD Un b1 j1 b2 j2 b3 j3 b4 j4)):=by unfold Hid;rw [e6];exact put6_bk Y.out rfl _ _ _ _ _ _
    have O6:Hid (OwnC l2 h2' w6 (.agg (zD Un b1 j1 b2 j2 b3 j3 b4 j4).toArray) Un):=by unfold Hid;rw [e6];exact OP.out.sm (Nat.le_of_eq (size_put6 _ _ _ _ _ _ _ _).symm) (fun b q1 q2=>sm_put6 (by omega) _ _ _ _ _ _)
    unfold put6 at e6
    rw [←e6]
    clear e6 OP Y yQ0 yQ1 yQ2 yQ3 yQ4 yQ5 zQ0 zQ1 zQ2 zQ3 zQ4 zQ5 hlY
    refine hK.out _ _ hB6 (fun hNew=>?_)
    clear hK K hHeld hNew
    try simp only [aT]
    refine tkb 13 (zI cc) rfl ?_
    try simp only [aT]
    refine tkb 14 (.bool ft) rfl ?_
    try simp only [aT]
    refine wpAnyH_done (by kernel_rfl) ?_ _
    have X6:=hid (X1.out.below hB6)
    have O7:=hid (O1.out.below hh hB6)
    have B6:=hid (bthen B1.out hB6)
    have M6:=hid (M1.out.below hB6)
    have Q6:=hid (Q1.out.below hB6)
    have hwz:=hB6.size
    clear yM0 yM1 hlM yX0 yX1 yX2 yX3 yX4 yX5 hlX X1 O1 B1 M1 Q1 hB6 G R1
    obtain ⟨yX0,yX1,yX2,yX3,yX4,yX5⟩:=X6.out.a6
    obtain ⟨zX0,zX1,zX2,zX3,zX4,zX5⟩:=X6.out.f6
    have hlX:xb<w6.heap.size:=X6.out.1
    obtain ⟨yY0,yY1,yY2,yY3,yY4,yY5⟩:=Y6.out.a6
    have hlY:yb<w6.heap.size:=Y6.out.1
    obtain ⟨yQ0,yQ1,yQ2,yQ3,yQ4,yQ5⟩:=Q6.out.a6
    obtain ⟨zQ0,zQ1,zQ2,zQ3,zQ4,zQ5⟩:=Q6.out.f6
    have hlQ:(w.heap.size+1+1)<w6.heap.size:=Q6.out.1
    cases ft
    ·have ER2:Hid (foldM c d V nR Z=(runV c d V Z k,k)):=by unfold Hid;rw [ER.out,fold_stop HF.out EF.out.symm nR hkn]
     clear yY0 yY1 yY2 yY3 yY4 yY5 hlY zX0 zX1 zX2 zX3 zX4 zX5
     go_wp2
     refine bodyPost_ret (v:=.tuple #[.agg (zD (runV c d V Z k) a1 k1 a2 k2 a3 k3 a4 k4).toArray,zI k]) (by simp [results,Tryz.results19,go_sem,yQ0,yQ1,yQ2,yQ3,yQ4,yQ5]) rfl ?_
     have hzz:=size_put6 w6 (w.heap.size+1+1) (zI (runV c d V Z k).c) (.slice a1 (runV c d V Z k).nW k1) (zI (runV c d V Z k).g) (.slice a2 (runV c d V Z k).nO k2) (.slice a3 (runV c d V Z k).nX k3) (.slice a4 (runV c d V Z k).nI k4)
     refine ⟨⟨_,by rw [ER2.out],?_⟩,below_put6 B6.out (by omega) _ _ _ _ _ _⟩
     show OwnC w.heap.size (put6 w6 (w.heap.size+1+1) (zI (runV c d V Z k).c) (.slice a1 (runV c d V Z k).nW k1) (zI (runV c d V Z k).g) (.slice a2 (runV c d V Z k).nO k2) (.slice a3 (runV c d V Z k).nX k3) (.slice a4 (runV c d V Z k).nI k4)).heap.size (put6 w6 (w.heap.size+1+1) (zI (runV c d V Z k).c) (.slice a1 (runV c d V Z k).nW k1) (zI (runV c d V Z k).g) (.slice a2 (runV c d V Z k).nO k2) (.slice a3 (runV c d V Z k).nX k3) (.slice a4 (runV c d V Z k).nI k4)) _ _
     rw [hzz,ER2.out]
     exact (O7.out.sm (Nat.le_of_eq hzz.symm) (fun x g1 g2=>sm_put6 (by omega) (zI (runV c d V Z k).c) (.slice a1 (runV c d V Z k).nW k1) (zI (runV c d V Z k).g) (.slice a2 (runV c d V Z k).nO k2) (.slice a3 (runV c d V Z k).nX k3) (.slice a4 (runV c d V Z k).nI k4))).wide (by omega) (by omega) (by omega)
    ·clear yQ0 yQ1 yQ2 yQ3 yQ4 yQ5 zQ0 zQ1 zQ2 zQ3 zQ4 zQ5 hlQ
     go_wp2
     go_roundw
     case rel=>
      refine ⟨k+1,by omega,by go_num,fun j hj=>?_,?_⟩
      ·by_cases e:j<k
       ·exact HF.out j e
       ·have e2:j=k:=by omega
        subst e2
        exact EF.out.symm
      ·obtain rfl:=EUn.out
       have hzz:=size_put6 w6 xb (zI (runV c d V Z (k+1)).c) (.slice b1 (runV c d V Z (k+1)).nW j1) (zI (runV c d V Z (k+1)).g) (.slice b2 (runV c d V Z (k+1)).nO j2) (.slice b3 (runV c d V Z (k+1)).nX j3) (.slice b4 (runV c d V Z (k+1)).nI j4)
       have SS:∀ x,¬ x=xb→Sm w6 (put6 w6 xb (zI (runV c d V Z (k+1)).c) (.slice b1 (runV c d V Z (k+1)).nW j1) (zI (runV c d V Z (k+1)).g) (.slice b2 (runV c d V Z (k+1)).nO j2) (.slice b3 (runV c d V Z (k+1)).nX j3) (.slice b4 (runV c d V Z (k+1)).nI j4)) x:=fun x hx=>sm_put6 (fun e=>hx e.symm) _ _ _ _ _ _
       exact ⟨b1,j1,b2,j2,b3,j3,b4,j4,l2,h2',put6_bk X6.out rfl _ _ _ _ _ _,O6.out.sm (Nat.le_of_eq hzz.symm) (fun b q1 q2=>SS b (by omega)),.inr (by omega),by omega,by show _≤(put6 _ _ _ _ _ _ _ _).heap.size;rw [size_put6];omega,below_put6 B6.out (by omega) _ _ _ _ _ _,M6.out.sm (Nat.le_of_eq hzz.symm) (SS _ (by omega)),Q6.out.sm (Nat.le_of_eq hzz.symm) (SS _ (by omega)),hxb⟩
     case measure=>simp [intOf];omega
  ·have hkn':¬ (k:Int)<(nR:Int):=by omega
   obtain rfl:nR=k:=by omega
   obtain ⟨a1,k1,a2,k2,a3,k3,a4,k4,l1,h1,X,O,hd,hl,hh,B,M,Q,hxb⟩:=HX.out
   have ER2:Hid (foldM c d V nR Z=(runV c d V Z nR,nR)):=by unfold Hid;rw [ER.out,fold_all nR HF.out]
   have O7:=hid O
   have B6:=hid B
   obtain ⟨yX0,yX1,yX2,yX3,yX4,yX5⟩:=X.a6
   have hlX:xb<wr.heap.size:=X.1
   obtain ⟨yQ0,yQ1,yQ2,yQ3,yQ4,yQ5⟩:=Q.a6
   obtain ⟨zQ0,zQ1,zQ2,zQ3,zQ4,zQ5⟩:=Q.f6
   have hlQ:(w.heap.size+1+1)<wr.heap.size:=Q.1
   have hwz:=B.size
   clear X O B M Q HX HF ER
   go_wp2
   refine bodyPost_ret (v:=.tuple #[.agg (zD (runV c d V Z nR) a1 k1 a2 k2 a3 k3 a4 k4).toArray,zI nR]) (by simp [results,Tryz.results19,go_sem,yQ0,yQ1,yQ2,yQ3,yQ4,yQ5]) rfl ?_
   have hzz:=size_put6 wr (w.heap.size+1+1) (zI (runV c d V Z nR).c) (.slice a1 (runV c d V Z nR).nW k1) (zI (runV c d V Z nR).g) (.slice a2 (runV c d V Z nR).nO k2) (.slice a3 (runV c d V Z nR).nX k3) (.slice a4 (runV c d V Z nR).nI k4)
   refine ⟨⟨_,by rw [ER2.out],?_⟩,below_put6 B6.out (by omega) _ _ _ _ _ _⟩
   show OwnC w.heap.size (put6 wr (w.heap.size+1+1) (zI (runV c d V Z nR).c) (.slice a1 (runV c d V Z nR).nW k1) (zI (runV c d V Z nR).g) (.slice a2 (runV c d V Z nR).nO k2) (.slice a3 (runV c d V Z nR).nX k3) (.slice a4 (runV c d V Z nR).nI k4)).heap.size (put6 wr (w.heap.size+1+1) (zI (runV c d V Z nR).c) (.slice a1 (runV c d V Z nR).nW k1) (zI (runV c d V Z nR).g) (.slice a2 (runV c d V Z nR).nO k2) (.slice a3 (runV c d V Z nR).nX k3) (.slice a4 (runV c d V Z nR).nI k4)) _ _
   rw [hzz,ER2.out]
   exact (O7.out.sm (Nat.le_of_eq hzz.symm) (fun x g1 g2=>sm_put6 (by omega) (zI (runV c d V Z nR).c) (.slice a1 (runV c d V Z nR).nW k1) (zI (runV c d V Z nR).g) (.slice a2 (runV c d V Z nR).nO k2) (.slice a3 (runV c d V Z nR).nX k3) (.slice a4 (runV c d V Z nR).nI k4))).wide (by omega) (by omega) (by omega)
theorem foldM_spec (c d:Int) (V:CV) (lo bW bO bX bI bR nR:Nat) (Z:Nat→Nat→Int) (hs0:V.short 1048576) (hnR:nR≤1048576) (w:World) (CP0:CopyAt lo w (.agg (zC V bW V.nW bO V.nO bX V.nX bI V.nI).toArray) V) (hbR:bR<w.heap.size) (hR0:∀ k j,k<nR→j<16→w.cell? ⟨bR,0+k * 16+j,none⟩=some (.int .i64 (Z k j))) :
 Calls Tryz.prog 19 #[.agg #[zI c,zI d],.agg (zC V bW V.nW bO V.nO bX V.nX bI V.nI).toArray,zS bR nR nR] w fun e w'=>(∃ u,e=.returned (.tuple #[u,zI ((foldM c d V nR Z).2:Int)])∧OwnC w.heap.size w'.heap.size w' u (foldM c d V nR Z).1)∧Below w.heap.size w w':=by
 cases h1:cllB c d V
 ·exact foldM_a c d V lo bW bO bX bI bR nR Z hs0 hnR w CP0 hbR hR0 h1
 by_cases h2:(250:Int)<nR
 ·exact foldM_b c d V lo bW bO bX bI bR nR Z hs0 hnR w CP0 hbR hR0 h1 h2
 ·exact foldM_c c d V lo bW bO bX bI bR nR Z hs0 hnR w CP0 hbR hR0 h1 h2
end Go.Proofs.YtngaboipleimcaaGreatDoor
