/- l5Do of the model; conditions: the cell lies in memory. -/
import Derived.Test.YtngaboipleimcaaGreatDoorIn9
set_option linter.unusedVariables false
set_option maxHeartbeats 8000000
set_option maxRecDepth 20000
namespace Go.Proofs.YtngaboipleimcaaGreatDoor
open Go.RowKit Go.Deep
theorem rE {U:CV} (h:U.short 1000000) (q:Nat) (P:Nat→Int):(U.send q P).short 1048576 :=
 ⟨Hq h.1 (by omega),Hq h.2.1 (by omega),fun i hi=>by
  show (if i=q then U.N q+1 else U.N i)≤1048576
  by_cases e:i=q
  ·subst e;rw [if_pos rfl];have:=h.2.2.1 i hi;omega
  ·rw [if_neg e];have:=h.2.2.1 i hi;omega,Hq h.2.2.2.1 (by omega),Hq h.2.2.2.2 (by omega)⟩
theorem vZ {c d:Int} {V U:CV} {m:Nat} {k t n:Int} (h:Rs V U) (hs:U.short 1000000):Rs V (dG c d U m k t n).1∧(dG c d U m k t n).1.short 1048576:=by
 have s0:U.short 1048576:=hs.more (by omega)
 have s1:∀ m:Nat,(U.outW m).short 1000000:=fun m=>⟨Hq (Nat.sub_le _ _) hs.1,hs.2⟩
 unfold dG stepM dF dQ dP bQ
 repeat' split
 all_goals first
  | exact ⟨h,s0⟩
  | exact ⟨h.set rfl,s0⟩
  | exact ⟨⟨h.1.del,Hq (Nat.sub_le _ _) h.2⟩,rE (s1 m) _ _⟩
  | exact ⟨h.set (Z:=zc (U.W m) (-n)) (m:=m) rfl,rE (U:=U.setW m (zc (U.W m) (-n))) hs _ _⟩
  | exact ⟨(h.set (m:=m) (Z:=zc (U.W m) (-n)) rfl).set (Eq.symm (kE (W:=U.W) (m:=m) (Z:=zc (U.W m) (-n)) rfl _)),s0⟩
def je (c d:Int) (V:CV) (m:Nat) (s k t n:Int):CV × Int :=
 (match kG (dG c d (V.setW m (zq (V.W m) s (V.W m 4))) m k t n).1.W (V.W m 0) (dG c d (V.setW m (zq (V.W m) s (V.W m 4))) m k t n).1.nW with
  | none=>(dG c d (V.setW m (zq (V.W m) s (V.W m 4))) m k t n).1
  | some j=>(dG c d (V.setW m (zq (V.W m) s (V.W m 4))) m k t n).1.setW j (zq ((dG c d (V.setW m (zq (V.W m) s (V.W m 4))) m k t n).1.W j) ((dG c d (V.setW m (zq (V.W m) s (V.W m 4))) m k t n).1.W j 3) (dG c d (V.setW m (zq (V.W m) s (V.W m 4))) m k t n).2),
  (dG c d (V.setW m (zq (V.W m) s (V.W m 4))) m k t n).2)
def Bv (c d:Int) (V:CV) (o s k t n:Int):CV × Int :=
 match kG V.W o V.nW with
 | none=>(V,9)
 | some m=>if s<V.W m 3 then (V,8) else if s=V.W m 3 then (V,V.W m 4) else je c d V m s k t n
theorem zH (c d o sq k t nn:Int) (v:Value) (V:CV) (lo0:Nat) (hs0:V.short 1048576) (hV:bD c d V=true) (hO:iP o sq k t nn=true) (w:World) (h:dL w v V) :
 Hz 80 #[.agg #[zI c,zI d],v,.agg #[zI o,zI sq,zI k,zI t,zI nn]] w fun e w'=>(∃ u z,e=.returned (.tuple #[u,zI z])∧z=(Bv c d V o sq k t nn).2∧aV w.heap.size w'.heap.size w' u (Bv c d V o sq k t nn).1)∧Below w.heap.size w w':=by
 have hKB:jq o k t nn=true:=by have h:=hO;simp only [iP,Bool.and_eq_true] at h;exact h.2.2
 obtain ⟨aW9,bO,bX,bI,cW,cO,cX,cI,q2,q3,q4,rfl,g1,g2,g3,g4⟩:=h
 have CP:Hid (dL w (.agg (zG V aW9 cW bO cO bX cX bI cI).toArray) V):=⟨aW9,bO,bX,bI,cW,cO,cX,cI,q2,q3,q4,rfl,g1,g2,g3,g4⟩
 clear g1 g2 g3 g4 q2 q3 q4
 have hr:dJ V.W V.nW:=fB hV
 have hnW9:=jF hV
 have hs:Hid (V.short 1048576):=hs0
 clear hs0
 go_enter Tryz.func80,Tryz.ntmps80
 go_upto_region 1 with fail
 obtain ⟨w0,e0,hb0,M0,C0,O0,R0,-⟩:=zV w [zI c,zI d] 44 (zG V aW9 cW bO cO bX cX bI cI) 41 [zI o,zI sq,zI k,zI t,zI nn] 47 zN 41
 rw [←e0]
 clear e0
 have rr1:w.heap.size+4≤w0.heap.size:=R0.1
 have B1:Hid (Below w.heap.size w w0):=hb0
 have M2:Hid (Bk w0 w.heap.size [zI c,zI d]):=M0
 have C3:Hid (Bk w0 (w.heap.size+1) (zG V aW9 cW bO cO bX cX bI cI)):=C0
 have O4:Hid (Bk w0 (w.heap.size+1+1) [zI o,zI sq,zI k,zI t,zI nn]):=O0
 have R5:Hid (Bk w0 (w.heap.size+1+1+1) zN):=R0
 clear hb0 M0 C0 O0 R0
 obtain ⟨yC0,yC1,yC2,yC3,yC4,yC5⟩:=C3.out.a6
 have hlC:(w.heap.size+1)<w0.heap.size:=C3.out.1
 go_wp2_with fail
 clear yC0 yC1 yC2 yC3 yC4 yC5 hlC
 refine (fC _ V hs.out _ (CP.out.below B1.out)).mono ?_
 rintro e w1 ⟨⟨u,rfl,hO1,hT1,hF1⟩,hb1⟩
 obtain ⟨aW,kW,aO,kO,aX,kX,aI,kI,rfl,_,_,_,_⟩:=hO1.at
 have HO1:Hid (aV w0.heap.size w1.heap.size w1 (.agg (zD V aW kW aO kO aX kX aI kI).toArray) V):=hO1
 have HT1:Hid (mV w0.heap.size w1.heap.size w1 (.agg (zD V aW kW aO kO aX kX aI kI).toArray)):=hT1
 have HF1:Hid (Full w1 (.agg (zD V aW kW aO kO aX kX aI kI).toArray)):=hF1
 have zz1:=hb1.size
 clear hO1 hT1 hF1 CP
 have y_w1:w0.heap.size≤w1.heap.size:=hb1.size
 have B6:=hid (ah B1.out hb1)
 have M6:=hid (M2.out.below hb1)
 have C6:=hid (C3.out.below hb1)
 have O6:=hid (O4.out.below hb1)
 have R6:=hid (R5.out.below hb1)
 clear B1 M2 C3 O4 R5
 clear hb1
 go_upto_region 2 with fail
 obtain ⟨w2,e2⟩:∃ X,X=w1.alloc (.cells (zD V aW kW aO kO aX kX aI kI).toArray 41):=⟨_,rfl⟩
 rw [←e2]
 have hb2:Below w1.heap.size w1 w2:=by rw [e2];exact (Hr _ _).alloc (Ho _) _
 have X2:Bk w2 w1.heap.size (zD V aW kW aO kO aX kX aI kI):=by rw [e2];exact aU w1 41 (zD V aW kW aO kO aX kX aI kI)
 clear e2
 have y_w2:w1.heap.size≤w2.heap.size:=hb2.size
 have B7:=hid (ah B6.out hb2)
 have M7:=hid (M6.out.below hb2)
 have C7:=hid (C6.out.below hb2)
 have O7:=hid (O6.out.below hb2)
 have R7:=hid (R6.out.below hb2)
 clear B6 M6 C6 O6 R6
 obtain ⟨s0,es0⟩:∃ s,s=w0.heap.size:=⟨_,rfl⟩
 obtain ⟨s1,es1⟩:∃ s,s=w1.heap.size:=⟨_,rfl⟩
 rw [←es0] at HO1 HT1 rr1 zz1
 rw [←es1] at HO1 HT1 zz1
 have DM0:Hid (V.nW≠0→Md s0 (fun x=>s0≤x∧x<s1) w2 (.agg (zD V aW kW aO kO aX kX aI kI).toArray) V):=fun e=>(Md.E5 HO1.out HT1.out HF1.out es1 e (by have:=dH hV;omega) (by have:=dH hV;omega) (by have:=dH hV;omega)).below hb2
 rw [←es1] at X2 ⊢
 have X8:Hid (Bk w2 s1 (zD V aW kW aO kO aX kX aI kI)):=X2
 have Q9:Hid (aV s0 s1 w2 (.agg (zD V aW kW aO kO aX kX aI kI).toArray) V):=HO1.out.below (Hl es1) hb2
 have Z10:Hid (s1≤w2.heap.size):=Hq (Hl es1) hb2.size
 clear HO1 HT1 HF1 hb2 X2 es0 es1
 rcases hr.get o with hex | hno
 ·obtain ⟨m,hm,hz⟩:=hex
  have HZ:Hid (V.W m 0=o):=hz
  clear hz
  have D11:Hid (Md s0 (fun x=>s0≤x∧x<s1) w2 (.agg (zD V aW kW aO kO aX kX aI kI).toArray) V):=DM0.out (by omega)
  clear DM0
  obtain ⟨yX0,yX1,yX2,yX3,yX4,yX5⟩:=X8.out.a6
  have hlX:s1<w2.heap.size:=X8.out.1
  obtain ⟨yO0,yO1,yO2,yO3,yO4⟩:=O7.out.a5
  have hlO:(w.heap.size+1+1)<w2.heap.size:=O7.out.1
  go_wp2_with fail
  clear yX0 yX1 yX2 yX3 yX4 yX5 hlX yO0 yO1 yO2 yO3 yO4 hlO
  obtain ⟨gw,hga,hgl,hgc⟩:=Q9.out.row
  refine (pG o aW gw V.nW kW m V.W (by omega) _ hgl hga ⟨hm,HZ.out,fun i hi e=>by have:=hr.one (show i<V.nW by omega) hm (e.trans HZ.out.symm);omega⟩ hgc).mono ?_
  rintro e w3 ⟨rfl,hb3⟩
  have y_w3:w2.heap.size≤w3.heap.size:=hb3.size
  have B12:=hid (ah B7.out hb3)
  have M12:=hid (M7.out.below hb3)
  have C12:=hid (C7.out.below hb3)
  have O12:=hid (O7.out.below hb3)
  have R12:=hid (R7.out.below hb3)
  have X12:=hid (X8.out.below hb3)
  have Q12:=hid (Q9.out.below Z10.out hb3)
  have Z12:Hid (s1≤w3.heap.size):=Hq Z10.out hb3.size
  have D12:=hid (D11.out.below hb3)
  clear B7 M7 C7 O7 R7 X8 Q9 Z10 D11
  clear hb3 hga hgl hgc
  have z3:=Z12.out
  go_upto_region 3 with fail
  obtain ⟨w4,e4⟩:∃ X,X=w3.alloc (.cells (zF (V.W m)).toArray 48):=⟨_,rfl⟩
  rw [←e4]
  have hb4:Below w3.heap.size w3 w4:=by rw [e4];exact (Hr _ _).alloc (Ho _) _
  have W4:Bk w4 w3.heap.size (zF (V.W m)):=by rw [e4];exact aU w3 48 (zF (V.W m))
  clear e4
  obtain ⟨wb,ewb⟩:∃ b,b=w3.heap.size:=⟨_,rfl⟩
  rw [←ewb] at W4 ⊢
  have lwb:s1<wb:=by rw [ewb];exact X12.out.1
  have y_w4:w3.heap.size≤w4.heap.size:=hb4.size
  have B13:=hid (ah B12.out hb4)
  have M13:=hid (M12.out.below hb4)
  have C13:=hid (C12.out.below hb4)
  have O13:=hid (O12.out.below hb4)
  have R13:=hid (R12.out.below hb4)
  have X13:=hid (X12.out.below hb4)
  have Q13:=hid (Q12.out.below Z12.out hb4)
  have Z13:Hid (s1≤w4.heap.size):=Hq Z12.out hb4.size
  have D13:=hid (D12.out.below hb4)
  clear B12 M12 C12 O12 R12 X12 Q12 Z12 D12
  have W14:Hid (Bk w4 wb (zF (V.W m))):=W4
  clear hb4 W4 ewb z3
  by_cases hold:sq<V.W m 3
  ·have ER:Hid (Bv c d V o sq k t nn=(V,8)):=by unfold Hid;simp only [Bv,dB V.nW hr hm HZ.out];rw [if_pos hold]
   obtain ⟨yX0,yX1,yX2,yX3,yX4,yX5⟩:=X13.out.a6
   have hlX:s1<w4.heap.size:=X13.out.1
   obtain ⟨yR0,yR1,yR2,yR3,yR4,yR5⟩:=R13.out.a6
   obtain ⟨zR0,zR1,zR2,zR3,zR4,zR5⟩:=R13.out.f6
   have hlR:(w.heap.size+1+1+1)<w4.heap.size:=R13.out.1
   obtain ⟨yW0,yW1,yW2,yW3,yW4⟩:=W14.out.a5
   have hlW:wb<w4.heap.size:=W14.out.1
   obtain ⟨yO0,yO1,yO2,yO3,yO4⟩:=O13.out.a5
   have hlO:(w.heap.size+1+1)<w4.heap.size:=O13.out.1
   go_wp2
   refine Hw (v:=.tuple #[.agg (zD V aW kW aO kO aX kX aI kI).toArray,zI (8)]) (by simp [results,Tryz.results80,go_sem,yR0,yR1,yR2,yR3,yR4,yR5]) rfl ?_
   have hzz:=au w4 (w.heap.size+1+1+1) (.int .i64 V.c) (.slice aW V.nW kW) (.int .i64 V.g) (.slice aO V.nO kO) (.slice aX V.nX kX) (.slice aI V.nI kI)
   have rz:=Z13.out
   refine ⟨⟨_,_,rfl,by rw [ER.out],?_⟩,ax B13.out (by omega) (zI V.c) (.slice aW V.nW kW) (zI V.g) (.slice aO V.nO kO) (.slice aX V.nX kX) (.slice aI V.nI kI)⟩
   rw [ER.out]
   show aV w.heap.size (aG w4 (w.heap.size+1+1+1) (zI V.c) (.slice aW V.nW kW) (zI V.g) (.slice aO V.nO kO) (.slice aX V.nX kX) (.slice aI V.nI kI)).heap.size (aG w4 (w.heap.size+1+1+1) (zI V.c) (.slice aW V.nW kW) (zI V.g) (.slice aO V.nO kO) (.slice aX V.nX kX) (.slice aI V.nI kI)) _ _
   rw [hzz]
   exact Q13.out.more (by omega) rz (Hl hzz.symm) (fun b h1 h2=>aH (by omega) (zI V.c) (.slice aW V.nW kW) (zI V.g) (.slice aO V.nO kO) (.slice aX V.nX kX) (.slice aI V.nI kI))
  ·by_cases hsame:sq=V.W m 3
   ·have hse:(sq == V.W m 3)=true:=by simp [hsame]
    have ER:Hid (Bv c d V o sq k t nn=(V,V.W m 4)):=by unfold Hid;simp only [Bv,dB V.nW hr hm HZ.out];rw [if_neg hold,if_pos hsame]
    clear hsame
    obtain ⟨yX0,yX1,yX2,yX3,yX4,yX5⟩:=X13.out.a6
    have hlX:s1<w4.heap.size:=X13.out.1
    obtain ⟨yR0,yR1,yR2,yR3,yR4,yR5⟩:=R13.out.a6
    obtain ⟨zR0,zR1,zR2,zR3,zR4,zR5⟩:=R13.out.f6
    have hlR:(w.heap.size+1+1+1)<w4.heap.size:=R13.out.1
    obtain ⟨yW0,yW1,yW2,yW3,yW4⟩:=W14.out.a5
    have hlW:wb<w4.heap.size:=W14.out.1
    obtain ⟨yO0,yO1,yO2,yO3,yO4⟩:=O13.out.a5
    have hlO:(w.heap.size+1+1)<w4.heap.size:=O13.out.1
    go_wp2
    go_region
    go_wp2
    obtain ⟨WX,eX⟩:∃ X,X=((((((w4.setCell (zA (w.heap.size+1+1+1) 0) (zI V.c)).setCell (zA (w.heap.size+1+1+1) 1) (.slice aW V.nW kW)).setCell (zA (w.heap.size+1+1+1) 2) (zI V.g)).setCell (zA (w.heap.size+1+1+1) 3) (.slice aO V.nO kO)).setCell (zA (w.heap.size+1+1+1) 4) (.slice aX V.nX kX)).setCell (zA (w.heap.size+1+1+1) 5) (.slice aI V.nI kI)):=⟨_,rfl⟩
    rw [←eX]
    have hBX:Below w.heap.size w WX:=by rw [eX];exact ax B13.out (by omega) (zI V.c) (.slice aW V.nW kW) (zI V.g) (.slice aO V.nO kO) (.slice aX V.nX kX) (.slice aI V.nI kI)
    have hzX:WX.heap.size=w4.heap.size:=by rw [eX];exact au w4 (w.heap.size+1+1+1) (zI V.c) (.slice aW V.nW kW) (zI V.g) (.slice aO V.nO kO) (.slice aX V.nX kX) (.slice aI V.nI kI)
    have hSX:∀ b,¬ b=(w.heap.size+1+1+1)→Sm w4 WX b:=by rw [eX];exact fun b hb=>aH (fun e=>hb e.symm) (zI V.c) (.slice aW V.nW kW) (zI V.g) (.slice aO V.nO kO) (.slice aX V.nX kX) (.slice aI V.nI kI)
    have hRX:Bk WX (w.heap.size+1+1+1) (zD V aW kW aO kO aX kX aI kI):=by rw [eX];exact jM (l:=(zD V aW kW aO kO aX kX aI kI)) R13.out rfl
    clear eX
    have c0:WX.cell? (zA (w.heap.size+1+1+1) 0)=some (zI V.c):=(hRX.2 0 (by simp)).1
    have c1:WX.cell? (zA (w.heap.size+1+1+1) 1)=some (.slice aW V.nW kW):=(hRX.2 1 (by simp)).1
    have c2:WX.cell? (zA (w.heap.size+1+1+1) 2)=some (zI V.g):=(hRX.2 2 (by simp)).1
    have c3:WX.cell? (zA (w.heap.size+1+1+1) 3)=some (.slice aO V.nO kO):=(hRX.2 3 (by simp)).1
    have c4:WX.cell? (zA (w.heap.size+1+1+1) 4)=some (.slice aX V.nX kX):=(hRX.2 4 (by simp)).1
    have c5:WX.cell? (zA (w.heap.size+1+1+1) 5)=some (.slice aI V.nI kI):=(hRX.2 5 (by simp)).1
    refine Hw (v:=.tuple #[.agg (zD V aW kW aO kO aX kX aI kI).toArray,zI (V.W m 4)]) (by simp [results,Tryz.results80,go_sem,c0,c1,c2,c3,c4,c5]) rfl ?_
    have rz:=Z13.out
    refine ⟨⟨_,_,rfl,by rw [ER.out],?_⟩,hBX.drew⟩
    rw [ER.out]
    show aV w.heap.size WX.heap.size WX.drew _ _
    rw [hzX]
    exact aV.drew (Q13.out.more (by omega) rz (Hl hzX.symm) (fun b h1 h2=>hSX b (by omega)))
   ·have hse:(sq == V.W m 3)=false:=by simp [hsame]
    have ER:Hid (Bv c d V o sq k t nn=je c d V m sq k t nn):=by unfold Hid;simp only [Bv,dB V.nW hr hm HZ.out];rw [if_neg hold,if_neg hsame]
    clear hsame
    have hnz:V.nW≠0:=by omega
    have lz0:s1≤w4.heap.size:=Z13.out
    obtain ⟨yO0,yO1,yO2,yO3,yO4⟩:=O13.out.a5
    have hlO:(w.heap.size+1+1)<w4.heap.size:=O13.out.1
    obtain ⟨yW0,yW1,yW2,yW3,yW4⟩:=W14.out.a5
    obtain ⟨zW0,zW1,zW2,zW3,zW4⟩:=W14.out.f5
    have hlW:wb<w4.heap.size:=W14.out.1
    go_upto_region 10 with fail
    clear yO0 yO1 yO2 yO3 yO4 hlO yW0 zW0 yW1 zW1 yW2 zW2 yW3 zW3 yW4 zW4 hlW
    obtain ⟨w5,e5x⟩:∃ X,X=w4.setCell (zA wb 3) (zI sq):=⟨_,rfl⟩
    have e5xz:w5.heap.size=w4.heap.size:=by rw [e5x];exact ay
    have B15:Hid (Below w.heap.size w w5):=by unfold Hid;rw [e5x];exact B13.out.setCell (by show w.heap.size≤wb;omega) _
    have M15:Hid (Bk w5 w.heap.size [zI c,zI d]):=by unfold Hid;rw [e5x];exact M13.out.far (by omega)
    have C15:Hid (Bk w5 (w.heap.size+1) (zG V aW9 cW bO cO bX cX bI cI)):=by unfold Hid;rw [e5x];exact C13.out.far (by omega)
    have O15:Hid (Bk w5 (w.heap.size+1+1) [zI o,zI sq,zI k,zI t,zI nn]):=by unfold Hid;rw [e5x];exact O13.out.far (by omega)
    have R15:Hid (Bk w5 (w.heap.size+1+1+1) zN):=by unfold Hid;rw [e5x];exact R13.out.far (by omega)
    have X15:Hid (Bk w5 s1 (zD V aW kW aO kO aX kX aI kI)):=by unfold Hid;rw [e5x];exact X13.out.far (by omega)
    have Q15:=hid (Q13.out.sm (w':=w5) (by omega) (fun x hx ho=>by rw [e5x];exact cZ (by omega)))
    have Z15:Hid (s1≤w5.heap.size):=by unfold Hid;rw [e5xz];exact Z13.out
    have D15:=hid (D13.out.sm (w':=w5) (by omega) (fun x hx ho=>by rw [e5x];exact cZ (by omega)))
    have W15:Hid (Bk w5 (wb) [zI (V.W m 0),zI (V.W m 1),zI (V.W m 2),zI sq,zI (V.W m 4)]):=by unfold Hid;rw [e5x];exact W14.out.set (j:=3) (by simp)
    rw [←e5x]
    clear e5x B13 M13 C13 O13 R13 X13 Q13 Z13 D13 W14
    obtain ⟨yX0,yX1,yX2,yX3,yX4,yX5⟩:=X15.out.a6
    have hlX:s1<w5.heap.size:=X15.out.1
    obtain ⟨yW0,yW1,yW2,yW3,yW4⟩:=W15.out.a5
    have hlW:wb<w5.heap.size:=W15.out.1
    go_wp2_with fail
    clear yX0 yX1 yX2 yX3 yX4 yX5 hlX yW0 yW1 yW2 yW3 yW4 hlW
    obtain ⟨r0,er0⟩:∃ r,r=w5.heap.size:=⟨_,rfl⟩
    have lbM:w.heap.size<r0:=by rw [er0];exact M15.out.1
    have lbC:(w.heap.size+1)<r0:=by rw [er0];exact C15.out.1
    have lbO:(w.heap.size+1+1)<r0:=by rw [er0];exact O15.out.1
    have lbR:(w.heap.size+1+1+1)<r0:=by rw [er0];exact R15.out.1
    have lbX:s1<r0:=by rw [er0];exact X15.out.1
    have lbW:wb<r0:=by rw [er0];exact W15.out.1
    have lr0:r0≤w5.heap.size:=Hl er0
    have lr1:w5.heap.size≤r0:=Hl er0.symm
    clear er0
    obtain ⟨gw,hga,hgl,hgc⟩:=Q15.out.row
    refine (jh aW gw V.nW kW m V.W (zq (V.W m) sq (V.W m 4)) (by omega) _ hgl hga hr hm rfl hgc).mono ?_
    rintro e w6 ⟨v2,rfl,ho2,hb2⟩
    obtain ⟨a2,n2,c2,rfl⟩:=bP ho2
    have hv2:Value.slice a2 n2 c2≠Value.slice none 0 0:=fun e=>by rw [e] at ho2;rcases ho2.2 with ⟨_,h⟩ | ⟨_,_,_,h,_⟩;omega;cases h
    have DPUT:Hid (Md s0 (fun x=>(s0≤x∧x<s1)∨r0≤x) w6 (.agg #[zI V.c,.slice a2 n2 c2,zI V.g,.slice aO V.nO kO,.slice aX V.nX kX,.slice aI V.nI kI]) (V.setW m (zq (V.W m) sq (V.W m 4)))):=((D15.out.in (fun x _ ho=>.inl ho)).below hb2).wk (fun x h1 _=>.inr (by omega)) ((D15.out.in (fun x hx _=>hx)).below hb2) ho2 hv2
    have lz2:r0≤w6.heap.size:=Hq lr0 hb2.size
    clear Q15
    clear Z15
    clear D15
    have y_w6:w5.heap.size≤w6.heap.size:=hb2.size
    have B16:=hid (ah B15.out hb2)
    have M16:=hid (M15.out.below hb2)
    have C16:=hid (C15.out.below hb2)
    have O16:=hid (O15.out.below hb2)
    have R16:=hid (R15.out.below hb2)
    have X16:=hid (X15.out.below hb2)
    have W16:=hid (W15.out.below hb2)
    clear B15 M15 C15 O15 R15 X15 W15
    clear hb2 ho2 hv2 hga hgl hgc lr0 lr1
    have D17:Hid (Md s0 (fun x=>(s0≤x∧x<s1)∨r0≤x) w6 (.agg #[zI V.c,.slice a2 n2 c2,zI V.g,.slice aO V.nO kO,.slice aX V.nX kX,.slice aI V.nI kI]) (V.setW m (zq (V.W m) sq (V.W m 4)))):=DPUT.out
    have Z18:Hid (r0≤w6.heap.size):=lz2
    clear DPUT lz2
    obtain ⟨yX0,yX1,yX2,yX3,yX4,yX5⟩:=X16.out.a6
    obtain ⟨zX0,zX1,zX2,zX3,zX4,zX5⟩:=X16.out.f6
    have hlX:s1<w6.heap.size:=X16.out.1
    go_upto_region 11 with fail
    clear yX0 zX0 yX1 zX1 yX2 zX2 yX3 zX3 yX4 zX4 yX5 zX5 hlX
    obtain ⟨w7,e7x⟩:∃ X,X=w6.setCell (zA s1 1) (.slice a2 n2 c2):=⟨_,rfl⟩
    have e7xz:w7.heap.size=w6.heap.size:=by rw [e7x];exact ay
    have B19:Hid (Below w.heap.size w w7):=by unfold Hid;rw [e7x];exact B16.out.setCell (by show w.heap.size≤s1;omega) _
    have M19:Hid (Bk w7 w.heap.size [zI c,zI d]):=by unfold Hid;rw [e7x];exact M16.out.far (by omega)
    have C19:Hid (Bk w7 (w.heap.size+1) (zG V aW9 cW bO cO bX cX bI cI)):=by unfold Hid;rw [e7x];exact C16.out.far (by omega)
    have O19:Hid (Bk w7 (w.heap.size+1+1) [zI o,zI sq,zI k,zI t,zI nn]):=by unfold Hid;rw [e7x];exact O16.out.far (by omega)
    have R19:Hid (Bk w7 (w.heap.size+1+1+1) zN):=by unfold Hid;rw [e7x];exact R16.out.far (by omega)
    have X19:Hid (Bk w7 (s1) [zI V.c,.slice a2 n2 c2,zI V.g,.slice aO V.nO kO,.slice aX V.nX kX,.slice aI V.nI kI]):=by unfold Hid;rw [e7x];exact X16.out.set (j:=1) (by simp)
    have W19:Hid (Bk w7 (wb) [zI (V.W m 0),zI (V.W m 1),zI (V.W m 2),zI sq,zI (V.W m 4)]):=by unfold Hid;rw [e7x];exact W16.out.far (by omega)
    have D19:=hid (D17.out.sm (w':=w7) (by omega) (fun x hx ho=>by rw [e7x];exact cZ (by omega)))
    have Z19:Hid (r0≤w7.heap.size):=by unfold Hid;rw [e7xz];exact Z18.out
    rw [←e7x]
    clear e7x B16 M16 C16 O16 R16 X16 W16 D17 Z18
    obtain ⟨yM0,yM1⟩:=M19.out.a2
    have hlM:w.heap.size<w7.heap.size:=M19.out.1
    obtain ⟨yX0,yX1,yX2,yX3,yX4,yX5⟩:=X19.out.a6
    have hlX:s1<w7.heap.size:=X19.out.1
    obtain ⟨yW0,yW1,yW2,yW3,yW4⟩:=W19.out.a5
    have hlW:wb<w7.heap.size:=W19.out.1
    obtain ⟨yO0,yO1,yO2,yO3,yO4⟩:=O19.out.a5
    have hlO:(w.heap.size+1+1)<w7.heap.size:=O19.out.1
    go_wp2_with fail
    clear yM0 yM1 hlM yX0 yX1 yX2 yX3 yX4 yX5 hlX yW0 yW1 yW2 yW3 yW4 hlW yO0 yO1 yO2 yO3 yO4 hlO
    have eW1:(V.setW m (zq (V.W m) sq (V.W m 4))).W m=(zq (V.W m) sq (V.W m 4)):=eu
    have hK:=wL s0 m (fun x=>(s0≤x∧x<s1)∨r0≤x) _ (V.setW m (zq (V.W m) sq (V.W m 4))) c d o sq k t nn (by show V.nW≤1048576;omega) (hr.upd rfl) hm (by rw [eW1];show jq (V.W m 0) k t nn=true;rw [HZ.out];exact hKB) (by rw [eW1];exact (nD hV m hm).1) (by rw [eW1];exact (nD hV m hm).2.1) (qK hV).1 (fun j hj _=>by
     by_cases e:j=m
     ·subst e;rw [eW1];exact (nD hV j hm).2.1
     ·have e2:(V.setW m (zq (V.W m) sq (V.W m 4))).W j=V.W j:=upd_ne e
      rw [e2];exact (nD hV j hj).2.1) (by show 2≤V.nX;have:=dH hV;omega) (by show 2≤V.nO;have:=dH hV;omega) (fun q hq=>kD hV q hq) w7 D19.out
    rw [eW1] at hK
    refine Calls.mono hK ?_
    clear hK
    rintro e w8 ⟨u2,r1,rfl,k1,k2,hD8,hF8⟩
    obtain ⟨U,eU⟩:∃ U,U=(dG c d (V.setW m (zq (V.W m) sq (V.W m 4))) m k t nn).1:=⟨_,rfl⟩
    obtain ⟨cd,ecd⟩:∃ z,z=(dG c d (V.setW m (zq (V.W m) sq (V.W m 4))) m k t nn).2:=⟨_,rfl⟩
    have EU:Hid (U=(dG c d (V.setW m (zq (V.W m) sq (V.W m 4))) m k t nn).1):=eU
    have EC:Hid (cd=(dG c d (V.setW m (zq (V.W m) sq (V.W m 4))) m k t nn).2):=ecd
    rw [←eU] at hD8
    rw [←ecd]
    clear eU ecd
    obtain ⟨hW,eW,hO2,eO,hX,eX,hI,eI,rfl,_,_,_⟩:=hD8.form
    obtain ⟨t1,et1⟩:∃ z,z=w7.heap.size:=⟨_,rfl⟩
    have lt1:r0≤t1:=by rw [et1];exact Z19.out
    rw [←et1] at k1 hD8
    have zz8:=hF8.2.1
    have bb8:=hF8.1
    have DQ:Hid (Md s0 (fun x=>(((s0≤x∧x<s1)∨r0≤x)∧x<t1)∨r1≤x) w8 (.agg (zC U hW eW hO2 eO hX eX hI eI).toArray) U):=hD8
    clear hD8 et1
    have M20:=hid (M19.out.sm hF8.2.1 (hF8.2.2 _ M19.out.1 (fun h=>by omega)))
    have C20:=hid (C19.out.sm hF8.2.1 (hF8.2.2 _ C19.out.1 (fun h=>by omega)))
    have O20:=hid (O19.out.sm hF8.2.1 (hF8.2.2 _ O19.out.1 (fun h=>by omega)))
    have R20:=hid (R19.out.sm hF8.2.1 (hF8.2.2 _ R19.out.1 (fun h=>by omega)))
    have X20:=hid (X19.out.sm hF8.2.1 (hF8.2.2 _ X19.out.1 (fun h=>by omega)))
    have W20:=hid (W19.out.sm hF8.2.1 (hF8.2.2 _ W19.out.1 (fun h=>by omega)))
    have B20:Hid (Below w.heap.size w w8):=B19.out.trans (hF8.1.mono (by omega))
    clear hF8 M19 C19 O19 R19 X19 W19 B19
    clear D19 Z19
    go_upto_region 12 with fail
    obtain ⟨w9,e9⟩:∃ X,X=w8.alloc (.cells (zC U hW eW hO2 eO hX eX hI eI).toArray 41):=⟨_,rfl⟩
    rw [←e9]
    have hb9:Below w8.heap.size w8 w9:=by rw [e9];exact (Hr _ _).alloc (Ho _) _
    have Y9:Bk w9 w8.heap.size (zC U hW eW hO2 eO hX eX hI eI):=by rw [e9];exact aU w8 41 (zC U hW eW hO2 eO hX eX hI eI)
    clear e9
    obtain ⟨yb,eyb⟩:∃ b,b=w8.heap.size:=⟨_,rfl⟩
    have DY:Hid (Md s0 (fun x=>(s0≤x∧x<s1)∨(r0≤x∧x<t1)∨(r1≤x∧x<yb)) w9 (.agg (zC U hW eW hO2 eO hX eX hI eI).toArray) U):=(DQ.out.in (fun x hx ho=>by omega)).below hb9
    rw [←eyb] at Y9 ⊢
    have ly1:yb≤w8.heap.size:=Hl eyb
    have ly2:w8.heap.size≤yb:=Hl eyb.symm
    clear DQ
    have y_w9:w8.heap.size≤w9.heap.size:=hb9.size
    have B21:=hid (ah B20.out hb9)
    have M21:=hid (M20.out.below hb9)
    have C21:=hid (C20.out.below hb9)
    have O21:=hid (O20.out.below hb9)
    have R21:=hid (R20.out.below hb9)
    have X21:=hid (X20.out.below hb9)
    have W21:=hid (W20.out.below hb9)
    clear B20 M20 C20 O20 R20 X20 W20
    have Y22:Hid (Bk w9 yb (zC U hW eW hO2 eO hX eX hI eI)):=Y9
    have D23:Hid (Md s0 (fun x=>(s0≤x∧x<s1)∨(r0≤x∧x<t1)∨(r1≤x∧x<yb)) w9 (.agg (zC U hW eW hO2 eO hX eX hI eI).toArray) U):=DY.out
    have Z24:Hid (yb<w9.heap.size):=Y9.1
    clear hb9 Y9 DY eyb
    obtain ⟨hrU,hshU⟩:=vZ (c:=c) (d:=d) (V:=V) (U:=(V.setW m (zq (V.W m) sq (V.W m 4)))) (m:=m) (k:=k) (t:=t) (n:=nn) ⟨hr.upd rfl,Ho _⟩ (show V.short 1000000 from ⟨by omega,by have:=dH hV;omega,fun q hq=>by have h2:=dH hV;have:=(kD hV q (by omega)).2;omega,by have:=dH hV;omega,by have:=dH hV;omega⟩)
    rw [←EU.out] at hrU hshU
    have hshU:Hid _:=hshU
    have hnU:U.nW≤9:=Hq hrU.2 hnW9
    rcases hrU.1.get o with hexU | hnoU
    ·obtain ⟨j,hj,hzj⟩:=hexU
     have HJ:Hid (U.W j 0=o):=hzj
     clear hzj
     obtain ⟨yY0,yY1,yY2,yY3,yY4,yY5⟩:=Y22.out.a6
     have hlY:yb<w9.heap.size:=Y22.out.1
     obtain ⟨yO0,yO1,yO2,yO3,yO4⟩:=O21.out.a5
     have hlO:(w.heap.size+1+1)<w9.heap.size:=O21.out.1
     go_wp2_with fail
     clear yY0 yY1 yY2 yY3 yY4 yY5 hlY yO0 yO1 yO2 yO3 yO4 hlO
     obtain ⟨hgl,hgc⟩:=D23.out.FU
     refine (pG o (some (zA hW 0)) hW U.nW eW j U.W (by omega) _ (fun _=>hgl) (fun _=>rfl) ⟨hj,HJ.out,fun i hi e=>by have:=hrU.1.one (show i<U.nW by omega) hj (e.trans HJ.out.symm);omega⟩ hgc).mono ?_
     rintro e wa ⟨rfl,hba⟩
     have y_wa:w9.heap.size≤wa.heap.size:=hba.size
     have B25:=hid (ah B21.out hba)
     have M25:=hid (M21.out.below hba)
     have C25:=hid (C21.out.below hba)
     have O25:=hid (O21.out.below hba)
     have R25:=hid (R21.out.below hba)
     have X25:=hid (X21.out.below hba)
     have W25:=hid (W21.out.below hba)
     have Y25:=hid (Y22.out.below hba)
     have D25:=hid (D23.out.below hba)
     have Z25:Hid (yb<wa.heap.size):=Hg Z24.out hba.size
     clear B21 M21 C21 O21 R21 X21 W21 Y22 D23 Z24
     clear hba hgl hgc
     go_upto_region 13 with fail
     obtain ⟨wb2,eb⟩:∃ X,X=wa.alloc (.cells (zF (U.W j)).toArray 48):=⟨_,rfl⟩
     rw [←eb]
     have hbb:Below wa.heap.size wa wb2:=by rw [eb];exact (Hr _ _).alloc (Ho _) _
     have Vb:Bk wb2 wa.heap.size (zF (U.W j)):=by rw [eb];exact aU wa 48 (zF (U.W j))
     clear eb
     obtain ⟨vb,evb⟩:∃ b,b=wa.heap.size:=⟨_,rfl⟩
     rw [←evb] at Vb ⊢
     have lvb:yb<vb:=by rw [evb];exact Z25.out
     have y_wb2:wa.heap.size≤wb2.heap.size:=hbb.size
     have B26:=hid (ah B25.out hbb)
     have M26:=hid (M25.out.below hbb)
     have C26:=hid (C25.out.below hbb)
     have O26:=hid (O25.out.below hbb)
     have R26:=hid (R25.out.below hbb)
     have X26:=hid (X25.out.below hbb)
     have W26:=hid (W25.out.below hbb)
     have Y26:=hid (Y25.out.below hbb)
     have D26:=hid (D25.out.below hbb)
     have Z26:Hid (yb<wb2.heap.size):=Hg Z25.out hbb.size
     clear B25 M25 C25 O25 R25 X25 W25 Y25 D25 Z25
     have V27:Hid (Bk wb2 vb (zF (U.W j))):=Vb
     clear hbb Vb evb
     obtain ⟨yV0,yV1,yV2,yV3,yV4⟩:=V27.out.a5
     obtain ⟨zV0,zV1,zV2,zV3,zV4⟩:=V27.out.f5
     have hlV:vb<wb2.heap.size:=V27.out.1
     go_upto_region 15 with fail
     clear yV0 zV0 yV1 zV1 yV2 zV2 yV3 zV3 yV4 zV4 hlV
     obtain ⟨wc2,ecx⟩:∃ X,X=wb2.setCell (zA vb 4) (zI cd):=⟨_,rfl⟩
     have ecxz:wc2.heap.size=wb2.heap.size:=by rw [ecx];exact ay
     have B28:Hid (Below w.heap.size w wc2):=by unfold Hid;rw [ecx];exact B26.out.setCell (by show w.heap.size≤vb;omega) _
     have M28:Hid (Bk wc2 w.heap.size [zI c,zI d]):=by unfold Hid;rw [ecx];exact M26.out.far (by omega)
     have C28:Hid (Bk wc2 (w.heap.size+1) (zG V aW9 cW bO cO bX cX bI cI)):=by unfold Hid;rw [ecx];exact C26.out.far (by omega)
     have O28:Hid (Bk wc2 (w.heap.size+1+1) [zI o,zI sq,zI k,zI t,zI nn]):=by unfold Hid;rw [ecx];exact O26.out.far (by omega)
     have R28:Hid (Bk wc2 (w.heap.size+1+1+1) zN):=by unfold Hid;rw [ecx];exact R26.out.far (by omega)
     have X28:Hid (Bk wc2 (s1) [zI V.c,.slice a2 n2 c2,zI V.g,.slice aO V.nO kO,.slice aX V.nX kX,.slice aI V.nI kI]):=by unfold Hid;rw [ecx];exact X26.out.far (by omega)
     have W28:Hid (Bk wc2 (wb) [zI (V.W m 0),zI (V.W m 1),zI (V.W m 2),zI sq,zI (V.W m 4)]):=by unfold Hid;rw [ecx];exact W26.out.far (by omega)
     have Y28:Hid (Bk wc2 yb (zC U hW eW hO2 eO hX eX hI eI)):=by unfold Hid;rw [ecx];exact Y26.out.far (by omega)
     have D28:=hid (D26.out.sm (w':=wc2) (by omega) (fun x hx ho=>by rw [ecx];exact cZ (by omega)))
     have Z28:Hid (yb<wc2.heap.size):=by unfold Hid;rw [ecxz];exact Z26.out
     have V28:Hid (Bk wc2 (vb) [zI (U.W j 0),zI (U.W j 1),zI (U.W j 2),zI (U.W j 3),zI cd]):=by unfold Hid;rw [ecx];exact V27.out.set (j:=4) (by simp)
     rw [←ecx]
     clear ecx B26 M26 C26 O26 R26 X26 W26 Y26 D26 Z26 V27
     obtain ⟨yY0,yY1,yY2,yY3,yY4,yY5⟩:=Y28.out.a6
     have hlY:yb<wc2.heap.size:=Y28.out.1
     obtain ⟨yV0,yV1,yV2,yV3,yV4⟩:=V28.out.a5
     have hlV:vb<wc2.heap.size:=V28.out.1
     go_wp2_with fail
     clear yY0 yY1 yY2 yY3 yY4 yY5 hlY yV0 yV1 yV2 yV3 yV4 hlV
     obtain ⟨r4,er4⟩:∃ r,r=wc2.heap.size:=⟨_,rfl⟩
     have lcM:w.heap.size<r4:=by rw [er4];exact M28.out.1
     have lcC:(w.heap.size+1)<r4:=by rw [er4];exact C28.out.1
     have lcO:(w.heap.size+1+1)<r4:=by rw [er4];exact O28.out.1
     have lcR:(w.heap.size+1+1+1)<r4:=by rw [er4];exact R28.out.1
     have lcX:s1<r4:=by rw [er4];exact X28.out.1
     have lcW:wb<r4:=by rw [er4];exact W28.out.1
     have lcY:yb<r4:=by rw [er4];exact Y28.out.1
     have lcV:vb<r4:=by rw [er4];exact V28.out.1
     have lr4:r4≤wc2.heap.size:=Hl er4
     clear er4
     obtain ⟨hgl,hgc⟩:=D28.out.FU
     refine (jh (some (zA hW 0)) hW U.nW eW j U.W (zq (U.W j) (U.W j 3) cd) (by omega) _ (fun _=>hgl) (fun _=>rfl) hrU.1 hj rfl hgc).mono ?_
     rintro e wd2 ⟨v4,rfl,ho4,hb4⟩
     obtain ⟨a4,n4,c4,rfl⟩:=bP ho4
     have hv4:Value.slice a4 n4 c4≠Value.slice none 0 0:=fun e=>by rw [e] at ho4;rcases ho4.2 with ⟨_,h⟩ | ⟨_,_,_,h,_⟩;omega;cases h
     have DP4:Hid (Md s0 (fun x=>(s0≤x∧x<s1)∨(r0≤x∧x<t1)∨(r1≤x∧x<yb)∨r4≤x) wd2 (.agg #[zI U.c,.slice a4 n4 c4,zI U.g,zS hO2 U.nO eO,zS hX U.nX eX,zS hI U.nI eI]) (U.setW j (zq (U.W j) (U.W j 3) cd))):=((D28.out.in (fun x _ ho=>by omega)).below hb4).wk (fun x h1 _=>by omega) ((D28.out.in (fun x hx _=>hx)).below hb4) ho4 hv4
     clear D28
     have y_wd2:wc2.heap.size≤wd2.heap.size:=hb4.size
     have B29:=hid (ah B28.out hb4)
     have M29:=hid (M28.out.below hb4)
     have C29:=hid (C28.out.below hb4)
     have O29:=hid (O28.out.below hb4)
     have R29:=hid (R28.out.below hb4)
     have X29:=hid (X28.out.below hb4)
     have W29:=hid (W28.out.below hb4)
     have Y29:=hid (Y28.out.below hb4)
     have Z29:Hid (yb<wd2.heap.size):=Hg Z28.out hb4.size
     have V29:=hid (V28.out.below hb4)
     clear B28 M28 C28 O28 R28 X28 W28 Y28 Z28 V28
     clear hb4 ho4 hv4 hgl hgc
     have D30:Hid (Md s0 (fun x=>(s0≤x∧x<s1)∨(r0≤x∧x<t1)∨(r1≤x∧x<yb)∨r4≤x) wd2 (.agg #[zI U.c,.slice a4 n4 c4,zI U.g,zS hO2 U.nO eO,zS hX U.nX eX,zS hI U.nI eI]) (U.setW j (zq (U.W j) (U.W j 3) cd))):=DP4.out
     clear DP4
     obtain ⟨yY0,yY1,yY2,yY3,yY4,yY5⟩:=Y29.out.a6
     obtain ⟨zY0,zY1,zY2,zY3,zY4,zY5⟩:=Y29.out.f6
     have hlY:yb<wd2.heap.size:=Y29.out.1
     go_upto_region 16 with fail
     clear yY0 zY0 yY1 zY1 yY2 zY2 yY3 zY3 yY4 zY4 yY5 zY5 hlY
     obtain ⟨we2,eex⟩:∃ X,X=wd2.setCell (zA yb 1) (.slice a4 n4 c4):=⟨_,rfl⟩
     have eexz:we2.heap.size=wd2.heap.size:=by rw [eex];exact ay
     have B31:Hid (Below w.heap.size w we2):=by unfold Hid;rw [eex];exact B29.out.setCell (by show w.heap.size≤yb;omega) _
     have M31:Hid (Bk we2 w.heap.size [zI c,zI d]):=by unfold Hid;rw [eex];exact M29.out.far (by omega)
     have C31:Hid (Bk we2 (w.heap.size+1) (zG V aW9 cW bO cO bX cX bI cI)):=by unfold Hid;rw [eex];exact C29.out.far (by omega)
     have O31:Hid (Bk we2 (w.heap.size+1+1) [zI o,zI sq,zI k,zI t,zI nn]):=by unfold Hid;rw [eex];exact O29.out.far (by omega)
     have R31:Hid (Bk we2 (w.heap.size+1+1+1) zN):=by unfold Hid;rw [eex];exact R29.out.far (by omega)
     have X31:Hid (Bk we2 (s1) [zI V.c,.slice a2 n2 c2,zI V.g,.slice aO V.nO kO,.slice aX V.nX kX,.slice aI V.nI kI]):=by unfold Hid;rw [eex];exact X29.out.far (by omega)
     have W31:Hid (Bk we2 (wb) [zI (V.W m 0),zI (V.W m 1),zI (V.W m 2),zI sq,zI (V.W m 4)]):=by unfold Hid;rw [eex];exact W29.out.far (by omega)
     have Y31:Hid (Bk we2 (yb) [zI U.c,.slice a4 n4 c4,zI U.g,zS hO2 U.nO eO,zS hX U.nX eX,zS hI U.nI eI]):=by unfold Hid;rw [eex];exact Y29.out.set (j:=1) (by simp)
     have Z31:Hid (yb<we2.heap.size):=by unfold Hid;rw [eexz];exact Z29.out
     have V31:Hid (Bk we2 (vb) [zI (U.W j 0),zI (U.W j 1),zI (U.W j 2),zI (U.W j 3),zI cd]):=by unfold Hid;rw [eex];exact V29.out.far (by omega)
     have D31:=hid (D30.out.sm (w':=we2) (by omega) (fun x hx ho=>by rw [eex];exact cZ (by omega)))
     rw [←eex]
     clear eex B29 M29 C29 O29 R29 X29 W29 Y29 Z29 V29 D30
     obtain ⟨yY0,yY1,yY2,yY3,yY4,yY5⟩:=Y31.out.a6
     have hlY:yb<we2.heap.size:=Y31.out.1
     go_wp2_with fail
     clear yY0 yY1 yY2 yY3 yY4 yY5 hlY
     refine (sQ _ (U.setW j (zq (U.W j) (U.W j 3) cd)) hshU.out _ D31.out.src).mono ?_
     rintro e wz ⟨⟨u3,rfl,hO3,_,_⟩,hbz⟩
     obtain ⟨F,eF⟩:∃ F,F=(U.setW j (zq (U.W j) (U.W j 3) cd)):=⟨_,rfl⟩
     have EF:Hid (F=(U.setW j (zq (U.W j) (U.W j 3) cd))):=eF
     rw [←eF] at hO3
     clear eF
     obtain ⟨dW,fW,dO,fO,dX,fX,dI,fI,rfl,_,_,_,_⟩:=hO3.at
     obtain ⟨sz,esz⟩:∃ z,z=we2.heap.size:=⟨_,rfl⟩
     rw [←esz] at hO3
     have lsz:w.heap.size+4≤sz:=by rw [esz];have:=Z31.out;omega
     have OZ:Hid (aV sz wz.heap.size wz (.agg (zD F dW fW dO fO dX fX dI fI).toArray) F):=hO3
     clear hO3 esz
     clear D31
     have y_wz:we2.heap.size≤wz.heap.size:=hbz.size
     have B32:=hid (ah B31.out hbz)
     have M32:=hid (M31.out.below hbz)
     have C32:=hid (C31.out.below hbz)
     have O32:=hid (O31.out.below hbz)
     have R32:=hid (R31.out.below hbz)
     have X32:=hid (X31.out.below hbz)
     have W32:=hid (W31.out.below hbz)
     have Y32:=hid (Y31.out.below hbz)
     have Z32:Hid (yb<wz.heap.size):=Hg Z31.out hbz.size
     have V32:=hid (V31.out.below hbz)
     clear B31 M31 C31 O31 R31 X31 W31 Y31 Z31 V31
     clear hbz
     obtain ⟨yR0,yR1,yR2,yR3,yR4,yR5⟩:=R32.out.a6
     obtain ⟨zR0,zR1,zR2,zR3,zR4,zR5⟩:=R32.out.f6
     have hlR:(w.heap.size+1+1+1)<wz.heap.size:=R32.out.1
     go_wp2
     refine Hw (v:=.tuple #[.agg (zD F dW fW dO fO dX fX dI fI).toArray,zI cd]) (by simp [results,Tryz.results80,go_sem,yR0,yR1,yR2,yR3,yR4,yR5]) rfl ?_
     have hzz:=au wz (w.heap.size+1+1+1) (.int .i64 F.c) (.slice dW F.nW fW) (.int .i64 F.g) (.slice dO F.nO fO) (.slice dX F.nX fX) (.slice dI F.nI fI)
     have EM:(je c d V m sq k t nn).1=(U.setW j (zq (U.W j) (U.W j 3) cd)):=by unfold je;rw [←EU.out,HZ.out,dB U.nW hrU.1 hj HJ.out,EC.out]
     have EM2:(je c d V m sq k t nn).2=cd:=EC.out.symm
     refine ⟨⟨_,_,rfl,by rw [ER.out,EM2],?_⟩,ax B32.out (by omega) (zI F.c) (.slice dW F.nW fW) (zI F.g) (.slice dO F.nO fO) (.slice dX F.nX fX) (.slice dI F.nI fI)⟩
     rw [ER.out,EM,←EF.out]
     show aV w.heap.size (aG wz (w.heap.size+1+1+1) (zI F.c) (.slice dW F.nW fW) (zI F.g) (.slice dO F.nO fO) (.slice dX F.nX fX) (.slice dI F.nI fI)).heap.size (aG wz (w.heap.size+1+1+1) (zI F.c) (.slice dW F.nW fW) (zI F.g) (.slice dO F.nO fO) (.slice dX F.nX fX) (.slice dI F.nI fI)) _ _
     rw [hzz]
     exact OZ.out.more (by omega) (Ho _) (Hl hzz.symm) (fun b h1 h2=>aH (by omega) (zI F.c) (.slice dW F.nW fW) (zI F.g) (.slice dO F.nO fO) (.slice dX F.nX fX) (.slice dI F.nI fI))
    ·obtain ⟨yY0,yY1,yY2,yY3,yY4,yY5⟩:=Y22.out.a6
     have hlY:yb<w9.heap.size:=Y22.out.1
     obtain ⟨yO0,yO1,yO2,yO3,yO4⟩:=O21.out.a5
     have hlO:(w.heap.size+1+1)<w9.heap.size:=O21.out.1
     go_wp2_with fail
     clear yY0 yY1 yY2 yY3 yY4 yY5 hlY yO0 yO1 yO2 yO3 yO4 hlO
     obtain ⟨hgl,hgc⟩:=D23.out.FU
     refine (o8 o (some (zA hW 0)) hW U.nW eW U.W (by omega) _ (fun _=>hgl) (fun _=>rfl) hnoU hgc).mono ?_
     rintro e wa ⟨rfl,hba⟩
     have y_wa:w9.heap.size≤wa.heap.size:=hba.size
     have B25:=hid (ah B21.out hba)
     have M25:=hid (M21.out.below hba)
     have C25:=hid (C21.out.below hba)
     have O25:=hid (O21.out.below hba)
     have R25:=hid (R21.out.below hba)
     have X25:=hid (X21.out.below hba)
     have W25:=hid (W21.out.below hba)
     have Y25:=hid (Y22.out.below hba)
     have D25:=hid (D23.out.below hba)
     have Z25:Hid (yb<wa.heap.size):=Hg Z24.out hba.size
     clear B21 M21 C21 O21 R21 X21 W21 Y22 D23 Z24
     clear hba hgl hgc
     go_upto_region 13 with fail
     obtain ⟨wb2,eb⟩:∃ X,X=wa.alloc (.cells z5.toArray 48):=⟨_,rfl⟩
     rw [←eb]
     have hbb:Below wa.heap.size wa wb2:=by rw [eb];exact (Hr _ _).alloc (Ho _) _
     have Vb:Bk wb2 wa.heap.size z5:=by rw [eb];exact aU wa 48 z5
     clear eb
     obtain ⟨vb,evb⟩:∃ b,b=wa.heap.size:=⟨_,rfl⟩
     rw [←evb] at Vb ⊢
     have lvb:yb<vb:=by rw [evb];exact Z25.out
     have y_wb2:wa.heap.size≤wb2.heap.size:=hbb.size
     have B26:=hid (ah B25.out hbb)
     have M26:=hid (M25.out.below hbb)
     have C26:=hid (C25.out.below hbb)
     have O26:=hid (O25.out.below hbb)
     have R26:=hid (R25.out.below hbb)
     have X26:=hid (X25.out.below hbb)
     have W26:=hid (W25.out.below hbb)
     have Y26:=hid (Y25.out.below hbb)
     have D26:=hid (D25.out.below hbb)
     have Z26:Hid (yb<wb2.heap.size):=Hg Z25.out hbb.size
     clear B25 M25 C25 O25 R25 X25 W25 Y25 D25 Z25
     have V27:Hid (Bk wb2 vb z5):=Vb
     clear hbb Vb evb
     have dummy:=0
     clear dummy
     obtain ⟨yY0,yY1,yY2,yY3,yY4,yY5⟩:=Y26.out.a6
     have hlY:yb<wb2.heap.size:=Y26.out.1
     go_wp2_with fail
     clear yY0 yY1 yY2 yY3 yY4 yY5 hlY
     refine (sQ _ U hshU.out _ D26.out.src).mono ?_
     rintro e wz ⟨⟨u3,rfl,hO3,_,_⟩,hbz⟩
     obtain ⟨F,eF⟩:∃ F,F=U:=⟨_,rfl⟩
     have EF:Hid (F=U):=eF
     rw [←eF] at hO3
     clear eF
     obtain ⟨dW,fW,dO,fO,dX,fX,dI,fI,rfl,_,_,_,_⟩:=hO3.at
     obtain ⟨sz,esz⟩:∃ z,z=wb2.heap.size:=⟨_,rfl⟩
     rw [←esz] at hO3
     have lsz:w.heap.size+4≤sz:=by rw [esz];have:=Z26.out;omega
     have OZ:Hid (aV sz wz.heap.size wz (.agg (zD F dW fW dO fO dX fX dI fI).toArray) F):=hO3
     clear hO3 esz
     clear D26
     have y_wz:wb2.heap.size≤wz.heap.size:=hbz.size
     have B28:=hid (ah B26.out hbz)
     have M28:=hid (M26.out.below hbz)
     have C28:=hid (C26.out.below hbz)
     have O28:=hid (O26.out.below hbz)
     have R28:=hid (R26.out.below hbz)
     have X28:=hid (X26.out.below hbz)
     have W28:=hid (W26.out.below hbz)
     have Y28:=hid (Y26.out.below hbz)
     have Z28:Hid (yb<wz.heap.size):=Hg Z26.out hbz.size
     have V28:=hid (V27.out.below hbz)
     clear B26 M26 C26 O26 R26 X26 W26 Y26 Z26 V27
     clear hbz
     obtain ⟨yR0,yR1,yR2,yR3,yR4,yR5⟩:=R28.out.a6
     obtain ⟨zR0,zR1,zR2,zR3,zR4,zR5⟩:=R28.out.f6
     have hlR:(w.heap.size+1+1+1)<wz.heap.size:=R28.out.1
     go_wp2
     refine Hw (v:=.tuple #[.agg (zD F dW fW dO fO dX fX dI fI).toArray,zI cd]) (by simp [results,Tryz.results80,go_sem,yR0,yR1,yR2,yR3,yR4,yR5]) rfl ?_
     have hzz:=au wz (w.heap.size+1+1+1) (.int .i64 F.c) (.slice dW F.nW fW) (.int .i64 F.g) (.slice dO F.nO fO) (.slice dX F.nX fX) (.slice dI F.nI fI)
     have EM:(je c d V m sq k t nn).1=U:=by unfold je;rw [←EU.out,HZ.out,fK U.nW hnoU]
     have EM2:(je c d V m sq k t nn).2=cd:=EC.out.symm
     refine ⟨⟨_,_,rfl,by rw [ER.out,EM2],?_⟩,ax B28.out (by omega) (zI F.c) (.slice dW F.nW fW) (zI F.g) (.slice dO F.nO fO) (.slice dX F.nX fX) (.slice dI F.nI fI)⟩
     rw [ER.out,EM,←EF.out]
     show aV w.heap.size (aG wz (w.heap.size+1+1+1) (zI F.c) (.slice dW F.nW fW) (zI F.g) (.slice dO F.nO fO) (.slice dX F.nX fX) (.slice dI F.nI fI)).heap.size (aG wz (w.heap.size+1+1+1) (zI F.c) (.slice dW F.nW fW) (zI F.g) (.slice dO F.nO fO) (.slice dX F.nX fX) (.slice dI F.nI fI)) _ _
     rw [hzz]
     exact OZ.out.more (by omega) (Ho _) (Hl hzz.symm) (fun b h1 h2=>aH (by omega) (zI F.c) (.slice dW F.nW fW) (zI F.g) (.slice dO F.nO fO) (.slice dX F.nX fX) (.slice dI F.nI fI))
 ·obtain ⟨yX0,yX1,yX2,yX3,yX4,yX5⟩:=X8.out.a6
  have hlX:s1<w2.heap.size:=X8.out.1
  obtain ⟨yO0,yO1,yO2,yO3,yO4⟩:=O7.out.a5
  have hlO:(w.heap.size+1+1)<w2.heap.size:=O7.out.1
  go_wp2_with fail
  clear yX0 yX1 yX2 yX3 yX4 yX5 hlX yO0 yO1 yO2 yO3 yO4 hlO
  obtain ⟨gw,hga,hgl,hgc⟩:=Q9.out.row
  refine (o8 o aW gw V.nW kW V.W (by omega) _ hgl hga hno hgc).mono ?_
  rintro e w3 ⟨rfl,hb3⟩
  have y_w3:w2.heap.size≤w3.heap.size:=hb3.size
  have B11:=hid (ah B7.out hb3)
  have M11:=hid (M7.out.below hb3)
  have C11:=hid (C7.out.below hb3)
  have O11:=hid (O7.out.below hb3)
  have R11:=hid (R7.out.below hb3)
  have X11:=hid (X8.out.below hb3)
  have Q11:=hid (Q9.out.below Z10.out hb3)
  have Z11:Hid (s1≤w3.heap.size):=Hq Z10.out hb3.size
  clear B7 M7 C7 O7 R7 X8 Q9 Z10
  clear hb3 hga hgl hgc
  have z3:=Z11.out
  go_upto_region 3 with fail
  obtain ⟨w4,e4⟩:∃ X,X=w3.alloc (.cells z5.toArray 48):=⟨_,rfl⟩
  rw [←e4]
  have hb4:Below w3.heap.size w3 w4:=by rw [e4];exact (Hr _ _).alloc (Ho _) _
  have W4:Bk w4 w3.heap.size z5:=by rw [e4];exact aU w3 48 z5
  clear e4
  obtain ⟨wb,ewb⟩:∃ b,b=w3.heap.size:=⟨_,rfl⟩
  rw [←ewb] at W4 ⊢
  have lwb:s1<wb:=by rw [ewb];exact X11.out.1
  have y_w4:w3.heap.size≤w4.heap.size:=hb4.size
  have B12:=hid (ah B11.out hb4)
  have M12:=hid (M11.out.below hb4)
  have C12:=hid (C11.out.below hb4)
  have O12:=hid (O11.out.below hb4)
  have R12:=hid (R11.out.below hb4)
  have X12:=hid (X11.out.below hb4)
  have Q12:=hid (Q11.out.below Z11.out hb4)
  have Z12:Hid (s1≤w4.heap.size):=Hq Z11.out hb4.size
  clear B11 M11 C11 O11 R11 X11 Q11 Z11
  have W13:Hid (Bk w4 wb z5):=W4
  clear hb4 W4 ewb z3
  have ER:Hid (Bv c d V o sq k t nn=(V,9)):=by unfold Hid;simp only [Bv,fK V.nW hno]
  obtain ⟨yX0,yX1,yX2,yX3,yX4,yX5⟩:=X12.out.a6
  have hlX:s1<w4.heap.size:=X12.out.1
  obtain ⟨yR0,yR1,yR2,yR3,yR4,yR5⟩:=R12.out.a6
  obtain ⟨zR0,zR1,zR2,zR3,zR4,zR5⟩:=R12.out.f6
  have hlR:(w.heap.size+1+1+1)<w4.heap.size:=R12.out.1
  obtain ⟨yW0,yW1,yW2,yW3,yW4⟩:=W13.out.a5
  have hlW:wb<w4.heap.size:=W13.out.1
  obtain ⟨yO0,yO1,yO2,yO3,yO4⟩:=O12.out.a5
  have hlO:(w.heap.size+1+1)<w4.heap.size:=O12.out.1
  go_wp2
  refine Hw (v:=.tuple #[.agg (zD V aW kW aO kO aX kX aI kI).toArray,zI (9)]) (by simp [results,Tryz.results80,go_sem,yR0,yR1,yR2,yR3,yR4,yR5]) rfl ?_
  have hzz:=au w4 (w.heap.size+1+1+1) (.int .i64 V.c) (.slice aW V.nW kW) (.int .i64 V.g) (.slice aO V.nO kO) (.slice aX V.nX kX) (.slice aI V.nI kI)
  have rz:=Z12.out
  refine ⟨⟨_,_,rfl,by rw [ER.out],?_⟩,ax B12.out (by omega) (zI V.c) (.slice aW V.nW kW) (zI V.g) (.slice aO V.nO kO) (.slice aX V.nX kX) (.slice aI V.nI kI)⟩
  rw [ER.out]
  show aV w.heap.size (aG w4 (w.heap.size+1+1+1) (zI V.c) (.slice aW V.nW kW) (zI V.g) (.slice aO V.nO kO) (.slice aX V.nX kX) (.slice aI V.nI kI)).heap.size (aG w4 (w.heap.size+1+1+1) (zI V.c) (.slice aW V.nW kW) (zI V.g) (.slice aO V.nO kO) (.slice aX V.nX kX) (.slice aI V.nI kI)) _ _
  rw [hzz]
  exact Q12.out.more (by omega) rz (Hl hzz.symm) (fun b h1 h2=>aH (by omega) (zI V.c) (.slice aW V.nW kW) (zI V.g) (.slice aO V.nO kO) (.slice aX V.nX kX) (.slice aI V.nI kI))
