/- l5In of the model; conditions: the cell lies in memory of its own. -/
import Derived.Test.YtngaboipleimcaaGreatDoorMo8
import Derived.Test.YtngaboipleimcaaGreatDoorFG
set_option linter.unusedVariables false
set_option maxHeartbeats 8000000
set_option maxRecDepth 20000
namespace Go.Proofs.YtngaboipleimcaaGreatDoor
open Go.RowKit Go.Deep
theorem wM (lo m:Nat) (Ok:Nat→Prop) (v:Value) (V:CV) (t nn:Int) (hnW:V.nW≤1048576) (hr:dJ V.W V.nW) (hm:m<V.nW) (hn:1≤nn∧nn≤9) (hc:0≤V.W m 2∧V.W m 2≤99) (hg:0≤V.g∧V.g≤900) (hto:¬ t=V.W m 0) (hct:∀ j,j<V.nW→V.W j 0=t→0≤V.W j 2∧V.W j 2≤99) (w:World) (h:Md lo Ok w v V) :
 Hz 137 #[v,.agg (zF (V.W m)).toArray,zI t,zI nn] w fun e w'=>Kd lo Ok w w' e (dF V m t nn):=by
 obtain ⟨gW,cW,gO,cO,gX,cX,gI,cI,rfl,_,_,llo⟩:=h.form
 go_enter Tryz.func137,Tryz.ntmps137
 go_upto_region 1 with fail
 obtain ⟨w0,e0,hb0,C0,W0,R0,-⟩:=FZ w (zC V gW cW gO cO gX cX gI cI) 41 (zF (V.W m)) 48 zN 41
 rw [←e0]
 clear e0
 have rr1:w.heap.size+3≤w0.heap.size:=R0.1
 have B1:Hid (Below w.heap.size w w0):=hb0
 have C2:Hid (Bk w0 w.heap.size (zC V gW cW gO cO gX cX gI cI)):=C0
 have W3:Hid (Bk w0 (w.heap.size+1) (zF (V.W m))):=W0
 have R4:Hid (Bk w0 (w.heap.size+1+1) zN):=R0
 have D5:Hid (Md lo (fun x=>Ok x∧x<w.heap.size) w0 (.agg (zC V gW cW gO cO gX cX gI cI).toArray) V):=(h.in (fun x hx ho=>⟨ho,hx⟩)).below hb0
 have Z6:Hid (w.heap.size+3≤w0.heap.size):=rr1
 clear hb0 h C0 W0 R0
 rcases hr.get t with hex | hno
 ·obtain ⟨j,hj,hzj⟩:=hex
  have HJ:Hid (V.W j 0=t):=hzj
  have hcj:=hct j hj hzj
  have hjm:¬ j=m:=fun e=>hto (by rw [←hzj,e])
  clear hzj
  obtain ⟨yC0,yC1,yC2,yC3,yC4,yC5⟩:=C2.out.a6
  have hlC:w.heap.size<w0.heap.size:=C2.out.1
  go_wp2_with fail
  clear yC0 yC1 yC2 yC3 yC4 yC5 hlC
  obtain ⟨_,_,_,_,_,_,_,_,ef,hgW,hcW,_⟩:=D5.out.form
  have ef:=kV ef
  simp only [Value.slice.injEq,Option.some.injEq,Addr.mk.injEq,and_true,true_and] at ef
  obtain ⟨⟨rfl,rfl⟩,_⟩:=ef
  refine (pG t (some (zA gW 0)) gW V.nW cW j V.W hnW _ (fun _=>hgW) (fun _=>rfl) ⟨hj,HJ.out,fun i hi e=>by have:=hr.one (show i<V.nW by omega) hj (e.trans HJ.out.symm);omega⟩ hcW).mono ?_
  rintro e w1 ⟨rfl,hb1⟩
  have y_w1:w0.heap.size≤w1.heap.size:=hb1.size
  have B7:=hid (ah B1.out hb1)
  have C7:=hid (C2.out.below hb1)
  have W7:=hid (W3.out.below hb1)
  have R7:=hid (R4.out.below hb1)
  have D7:=hid (D5.out.below hb1)
  have Z7:Hid (w.heap.size+3≤w1.heap.size):=Hq Z6.out hb1.size
  clear B1 C2 W3 R4 D5 Z6
  have z1:=Z7.out
  clear hb1 hgW hcW
  go_upto_region 2 with fail
  obtain ⟨w2,e2⟩:∃ X,X=w1.alloc (.cells (zF (V.W j)).toArray 48):=⟨_,rfl⟩
  rw [←e2]
  have hb2:Below w1.heap.size w1 w2:=by rw [e2];exact (Hr _ _).alloc (Ho _) _
  have J2:Bk w2 w1.heap.size (zF (V.W j)):=by rw [e2];exact aU w1 48 (zF (V.W j))
  clear e2
  obtain ⟨jb,ejb⟩:∃ b,b=w1.heap.size:=⟨_,rfl⟩
  rw [←ejb] at J2 ⊢
  have lj:w.heap.size+3≤jb:=by omega
  have y_w2:w1.heap.size≤w2.heap.size:=hb2.size
  have B8:=hid (ah B7.out hb2)
  have C8:=hid (C7.out.below hb2)
  have W8:=hid (W7.out.below hb2)
  have R8:=hid (R7.out.below hb2)
  have D8:=hid (D7.out.below hb2)
  have Z8:Hid (w.heap.size+3≤w2.heap.size):=Hq Z7.out hb2.size
  clear B7 C7 W7 R7 D7 Z7
  have J9:Hid (Bk w2 jb (zF (V.W j))):=J2
  clear hb2 J2 ejb z1
  obtain ⟨yC0,yC1,yC2,yC3,yC4,yC5⟩:=C8.out.a6
  have hlC:w.heap.size<w2.heap.size:=C8.out.1
  obtain ⟨yW0,yW1,yW2,yW3,yW4⟩:=W8.out.a5
  obtain ⟨zW0,zW1,zW2,zW3,zW4⟩:=W8.out.f5
  have hlW:(w.heap.size+1)<w2.heap.size:=W8.out.1
  obtain ⟨yJ0,yJ1,yJ2,yJ3,yJ4⟩:=J9.out.a5
  obtain ⟨zJ0,zJ1,zJ2,zJ3,zJ4⟩:=J9.out.f5
  have hlJ:jb<w2.heap.size:=J9.out.1
  by_cases hpoor:V.W m 2<nn
  ·have ER:Hid (dF V m t nn=(V,3)):=by unfold Hid;simp only [dF,dB V.nW hr hj HJ.out];rw [if_pos hpoor]
   obtain ⟨yR0,yR1,yR2,yR3,yR4,yR5⟩:=R8.out.a6
   obtain ⟨zR0,zR1,zR2,zR3,zR4,zR5⟩:=R8.out.f6
   have hlR:(w.heap.size+1+1)<w2.heap.size:=R8.out.1
   go_wp2
   refine Hw (v:=.tuple #[.agg (zC V gW cW gO cO gX cX gI cI).toArray,zI 3]) (by simp [results,Tryz.results137,go_sem,yR0,yR1,yR2,yR3,yR4,yR5]) rfl ?_
   have hzz:=au w2 ((w.heap.size+1+1)) (.int .i64 V.c) (.slice (some ⟨gW,0,none⟩) V.nW cW) (.int .i64 V.g) (.slice (some ⟨gO,0,none⟩) V.nO cO) (.slice (some ⟨gX,0,none⟩) V.nX cX) (.slice (some ⟨gI,0,none⟩) V.nI cI)
   have rz:=Z8.out
   refine ⟨_,w.heap.size,by rw [ER.out],Ho _,?_,?_,?_⟩
   ·show _≤(aG _ _ _ _ _ _ _ _).heap.size
    omega
   ·rw [ER.out]
    show Md lo _ (aG w2 ((w.heap.size+1+1)) (zI V.c) (zS gW V.nW cW) (zI V.g) (zS gO V.nO cO) (zS gX V.nX cX) (zS gI V.nI cI)) _ _
    exact (D8.out.sm (Hl hzz.symm) (fun x hx ho=>aH (fun e=>by have:=ho.2;omega) (zI V.c) (zS gW V.nW cW) (zI V.g) (zS gO V.nO cO) (zS gX V.nX cX) (zS gI V.nI cI))).in (fun x _ ho=>.inl ho)
   ·exact Fr.of (ax B8.out (by omega) (zI V.c) (zS gW V.nW cW) (zI V.g) (zS gO V.nO cO) (zS gX V.nX cX) (zS gI V.nI cI)) llo
  ·by_cases hfull:99<V.W j 2+nn
   ·have e1:¬ V.W m 2<nn:=hpoor
    have e2:V.W j 2+nn > 99:=hfull
    have ER:Hid (dF V m t nn=(V,5)):=by unfold Hid;simp only [dF,dB V.nW hr hj HJ.out];rw [if_neg hpoor,if_pos hfull]
    obtain ⟨yR0,yR1,yR2,yR3,yR4,yR5⟩:=R8.out.a6
    obtain ⟨zR0,zR1,zR2,zR3,zR4,zR5⟩:=R8.out.f6
    have hlR:(w.heap.size+1+1)<w2.heap.size:=R8.out.1
    go_wp2
    refine Hw (v:=.tuple #[.agg (zC V gW cW gO cO gX cX gI cI).toArray,zI 5]) (by simp [results,Tryz.results137,go_sem,yR0,yR1,yR2,yR3,yR4,yR5]) rfl ?_
    have hzz:=au w2 ((w.heap.size+1+1)) (.int .i64 V.c) (.slice (some ⟨gW,0,none⟩) V.nW cW) (.int .i64 V.g) (.slice (some ⟨gO,0,none⟩) V.nO cO) (.slice (some ⟨gX,0,none⟩) V.nX cX) (.slice (some ⟨gI,0,none⟩) V.nI cI)
    have rz:=Z8.out
    refine ⟨_,w.heap.size,by rw [ER.out],Ho _,?_,?_,?_⟩
    ·show _≤(aG _ _ _ _ _ _ _ _).heap.size
     omega
    ·rw [ER.out]
     show Md lo _ (aG w2 ((w.heap.size+1+1)) (zI V.c) (zS gW V.nW cW) (zI V.g) (zS gO V.nO cO) (zS gX V.nX cX) (zS gI V.nI cI)) _ _
     exact (D8.out.sm (Hl hzz.symm) (fun x hx ho=>aH (fun e=>by have:=ho.2;omega) (zI V.c) (zS gW V.nW cW) (zI V.g) (zS gO V.nO cO) (zS gX V.nX cX) (zS gI V.nI cI))).in (fun x _ ho=>.inl ho)
    ·exact Fr.of (ax B8.out (by omega) (zI V.c) (zS gW V.nW cW) (zI V.g) (zS gO V.nO cO) (zS gX V.nX cX) (zS gI V.nI cI)) llo
   ·have e1:¬ V.W m 2<nn:=hpoor
    have e2:¬ V.W j 2+nn > 99:=hfull
    have ER:Hid (dF V m t nn=((V.setW m (zc (V.W m) (-nn))).setW j (zc (V.W j) nn),1)):=by unfold Hid;simp only [dF,dB V.nW hr hj HJ.out];rw [if_neg hpoor,if_neg hfull]
    go_upto_region 10 with fail
    clear yC0 yC1 yC2 yC3 yC4 yC5 hlC yW0 zW0 yW1 zW1 yW2 zW2 yW3 zW3 yW4 zW4 hlW yJ0 zJ0 yJ1 zJ1 yJ2 zJ2 yJ3 zJ3 yJ4 zJ4 hlJ
    obtain ⟨w3,e3x⟩:∃ X,X=w2.setCell (zA (w.heap.size+1) 2) (zI (V.W m 2 - nn)):=⟨_,rfl⟩
    have e3xz:w3.heap.size=w2.heap.size:=by rw [e3x];exact ay
    have B10:Hid (Below w.heap.size w w3):=by unfold Hid;rw [e3x];exact B8.out.setCell (by show w.heap.size≤(w.heap.size+1);omega) _
    have C10:Hid (Bk w3 w.heap.size (zC V gW cW gO cO gX cX gI cI)):=by unfold Hid;rw [e3x];exact C8.out.far (by omega)
    have W10:Hid (Bk w3 ((w.heap.size+1)) [zI (V.W m 0),zI (V.W m 1),zI (V.W m 2 - nn),zI (V.W m 3),zI (V.W m 4)]):=by unfold Hid;rw [e3x];exact W8.out.set (j:=2) (by simp)
    have R10:Hid (Bk w3 (w.heap.size+1+1) zN):=by unfold Hid;rw [e3x];exact R8.out.far (by omega)
    have D10:=hid (D8.out.sm (w':=w3) (by omega) (fun x hx ho=>by rw [e3x];exact cZ (fun e=>by first | (have:=ho.2;omega) | (rcases ho with h | h <;> omega))))
    have Z10:Hid (w.heap.size+3≤w3.heap.size):=by unfold Hid;rw [e3xz];exact Z8.out
    have J10:Hid (Bk w3 jb (zF (V.W j))):=by unfold Hid;rw [e3x];exact J9.out.far (by omega)
    rw [←e3x]
    clear e3x B8 C8 W8 R8 D8 Z8 J9
    obtain ⟨w4,e4x⟩:∃ X,X=w3.setCell (zA jb 2) (zI (V.W j 2+nn)):=⟨_,rfl⟩
    have e4xz:w4.heap.size=w3.heap.size:=by rw [e4x];exact ay
    have B11:Hid (Below w.heap.size w w4):=by unfold Hid;rw [e4x];exact B10.out.setCell (by show w.heap.size≤jb;omega) _
    have C11:Hid (Bk w4 w.heap.size (zC V gW cW gO cO gX cX gI cI)):=by unfold Hid;rw [e4x];exact C10.out.far (by omega)
    have W11:Hid (Bk w4 ((w.heap.size+1)) [zI (V.W m 0),zI (V.W m 1),zI (V.W m 2 - nn),zI (V.W m 3),zI (V.W m 4)]):=by unfold Hid;rw [e4x];exact W10.out.far (by omega)
    have R11:Hid (Bk w4 (w.heap.size+1+1) zN):=by unfold Hid;rw [e4x];exact R10.out.far (by omega)
    have D11:=hid (D10.out.sm (w':=w4) (by omega) (fun x hx ho=>by rw [e4x];exact cZ (fun e=>by first | (have:=ho.2;omega) | (rcases ho with h | h <;> omega))))
    have Z11:Hid (w.heap.size+3≤w4.heap.size):=by unfold Hid;rw [e4xz];exact Z10.out
    have J11:Hid (Bk w4 (jb) [zI (V.W j 0),zI (V.W j 1),zI (V.W j 2+nn),zI (V.W j 3),zI (V.W j 4)]):=by unfold Hid;rw [e4x];exact J10.out.set (j:=2) (by simp)
    rw [←e4x]
    clear e4x B10 C10 W10 R10 D10 Z10 J10
    obtain ⟨r0,er0⟩:∃ r,r=w4.heap.size:=⟨_,rfl⟩
    have lbC:w.heap.size<r0:=by rw [er0];exact C11.out.1
    have lbW:(w.heap.size+1)<r0:=by rw [er0];exact W11.out.1
    have lbR:(w.heap.size+1+1)<r0:=by rw [er0];exact R11.out.1
    have lbJ:jb<r0:=by rw [er0];exact J11.out.1
    have lr0:r0≤w4.heap.size:=Hl er0
    have lr1:w4.heap.size≤r0:=Hl er0.symm
    clear er0
    refine Hu (S:=fun w'=>Bk w' (w.heap.size+1) [zI (V.W m 0),zI (V.W m 1),zI (V.W m 2 - nn),zI (V.W m 3),zI (V.W m 4)]∧Bk w' jb [zI (V.W j 0),zI (V.W j 1),zI (V.W j 2+nn),zI (V.W j 3),zI (V.W j 4)]) (by kernel_rfl) ⟨W11.out.below ((Hr _ _).drew),J11.out.below ((Hr _ _).drew)⟩ ?_
    intro af
    obtain ⟨X0,hX0⟩:∃ X,X=w4.drew:=⟨_,rfl⟩
    have hb0:Below w4.heap.size w4 X0:=by rw [hX0];exact (Hr _ _).drew
    rw [←hX0] at af ⊢
    clear hX0
    have y_X0:w4.heap.size≤X0.heap.size:=hb0.size
    have B12:=hid (ah B11.out hb0)
    have C12:=hid (C11.out.below hb0)
    have W12:=hid (W11.out.below hb0)
    have R12:=hid (R11.out.below hb0)
    have D12:=hid (D11.out.below hb0)
    have Z12:Hid (w.heap.size+3≤X0.heap.size):=Hq Z11.out hb0.size
    have J12:=hid (J11.out.below hb0)
    clear B11 C11 W11 R11 D11 Z11 J11
    have zx0:=hb0.size
    clear hb0
    refine dY 0 (zP w.heap.size 1) rfl ?_ ?_
    ·intro wx hSw;obtain ⟨sw,sj⟩:=hSw;have xw0:=(sw.2 0 (by simp)).1;have xj0:=(sj.2 0 (by simp)).1;have xw1:=(sw.2 1 (by simp)).1;have xj1:=(sj.2 1 (by simp)).1;have xw2:=(sw.2 2 (by simp)).1;have xj2:=(sj.2 2 (by simp)).1;have xw3:=(sw.2 3 (by simp)).1;have xj3:=(sj.2 3 (by simp)).1;have xw4:=(sw.2 4 (by simp)).1;have xj4:=(sj.2 4 (by simp)).1;simp only [List.getD,List.getElem?_cons_zero,List.getElem?_cons_succ,Option.getD_some] at xw0 xj0 xw1 xj1 xw2 xj2 xw3 xj3 xw4 xj4;have xlw:=sw.1;have xlj:=sj.1;go_simp
    try simp only [aT]
    refine dY 2 (.agg #[zI (V.W m 0),zI (V.W m 1),zI (V.W m 2 - nn),zI (V.W m 3),zI (V.W m 4)]) rfl ?_ ?_
    ·intro wx hSw;obtain ⟨sw,sj⟩:=hSw;have xw0:=(sw.2 0 (by simp)).1;have xj0:=(sj.2 0 (by simp)).1;have xw1:=(sw.2 1 (by simp)).1;have xj1:=(sj.2 1 (by simp)).1;have xw2:=(sw.2 2 (by simp)).1;have xj2:=(sj.2 2 (by simp)).1;have xw3:=(sw.2 3 (by simp)).1;have xj3:=(sj.2 3 (by simp)).1;have xw4:=(sw.2 4 (by simp)).1;have xj4:=(sj.2 4 (by simp)).1;simp only [List.getD,List.getElem?_cons_zero,List.getElem?_cons_succ,Option.getD_some] at xw0 xj0 xw1 xj1 xw2 xj2 xw3 xj3 xw4 xj4;have xlw:=sw.1;have xlj:=sj.1;go_simp
    try simp only [aT]
    refine dY 4 (.agg #[zI (V.W j 0),zI (V.W j 1),zI (V.W j 2+nn),zI (V.W j 3),zI (V.W j 4)]) rfl ?_ ?_
    ·intro wx hSw;obtain ⟨sw,sj⟩:=hSw;have xw0:=(sw.2 0 (by simp)).1;have xj0:=(sj.2 0 (by simp)).1;have xw1:=(sw.2 1 (by simp)).1;have xj1:=(sj.2 1 (by simp)).1;have xw2:=(sw.2 2 (by simp)).1;have xj2:=(sj.2 2 (by simp)).1;have xw3:=(sw.2 3 (by simp)).1;have xj3:=(sj.2 3 (by simp)).1;have xw4:=(sw.2 4 (by simp)).1;have xj4:=(sj.2 4 (by simp)).1;simp only [List.getD,List.getElem?_cons_zero,List.getElem?_cons_succ,Option.getD_some] at xw0 xj0 xw1 xj1 xw2 xj2 xw3 xj3 xw4 xj4;have xlw:=sw.1;have xlj:=sj.1;go_simp
    try simp only [aT]
    refine di 1 rfl fun K hK=>?_
    have kc:=C12.out.a6.2.1
    have kl:=C12.out.1
    go_simp
    clear kc kl
    refine hK.out _ _ af (fun ai=>?_)
    clear hK K af
    have af:=ai
    clear ai
    try simp only [aT]
    refine di 3 rfl fun K hK=>?_
    obtain ⟨_,_,_,_,_,_,_,_,ef,hgW,hcW,_⟩:=D12.out.form
    have ef:=kV ef
    simp only [Value.slice.injEq,Option.some.injEq,Addr.mk.injEq,and_true,true_and] at ef
    obtain ⟨⟨rfl,rfl⟩,_⟩:=ef
    go_simp
    go_wp2_with fail
    refine (jh (some (zA gW 0)) gW V.nW cW m V.W (zc (V.W m) (-nn)) hnW _ (fun _=>hgW) (fun _=>rfl) hr hm rfl hcW).mono ?_
    rintro e X2 ⟨v2,rfl,ho2,hb2⟩
    obtain ⟨g2,hRW2,_⟩:=gZ ho2
    obtain ⟨c2,rfl,b1,b2,b3,b4⟩:=hRW2.Fv (show V.nW≠0 by omega)
    have zx2:=hb2.size
    refine hK.out _ _ ⟨af.1.below hb2,af.2.below hb2⟩ (fun ai=>?_)
    clear hK K af
    have af:=ai
    clear ai
    try simp only [aT]
    have y_X2:X0.heap.size≤X2.heap.size:=hb2.size
    have B13:=hid (ah B12.out hb2)
    have C13:=hid (C12.out.below hb2)
    have W13:=hid (W12.out.below hb2)
    have R13:=hid (R12.out.below hb2)
    have D13:=hid (D12.out.below hb2)
    have Z13:Hid (w.heap.size+3≤X2.heap.size):=Hq Z12.out hb2.size
    have J13:=hid (J12.out.below hb2)
    clear B12 C12 W12 R12 D12 Z12 J12
    clear hb2 ho2 hRW2 hgW hcW
    refine di 5 rfl fun K hK=>?_
    have eW:dm V.W m (zc (V.W m) (-nn)) j=V.W j:=upd_ne hjm
    go_simp
    go_wp2_with fail
    refine (jh (some (zA g2 0)) g2 V.nW c2 j (dm V.W m (zc (V.W m) (-nn))) (zc (V.W j) nn) hnW _ (fun _=>by omega) (fun _=>rfl) (hr.upd rfl) hj (by rw [eW];rfl) (fun k i h1 h2=>b4.2 k i h1 h2)).mono ?_
    rintro e X3 ⟨v3,rfl,ho3,hb3⟩
    obtain ⟨a3,n3,c3,rfl⟩:=bP ho3
    have hv3:Value.slice a3 n3 c3≠Value.slice none 0 0:=fun e=>by rw [e] at ho3;rcases ho3.2 with ⟨_,h⟩ | ⟨_,_,_,h,_⟩;omega;cases h
    have zx3:=hb3.size
    refine hK.out _ _ ⟨af.1.below hb3,af.2.below hb3⟩ (fun ai=>?_)
    clear hK K af
    have af:=ai
    clear ai
    try simp only [aT]
    have DPUT:Hid (Md lo (fun x=>(Ok x∧x<w.heap.size)∨r0≤x) X3 (.agg #[zI V.c,.slice a3 n3 c3,zI V.g,zS gO V.nO cO,zS gX V.nX cX,zS gI V.nI cI]) ((V.setW m (zc (V.W m) (-nn))).setW j (zc (V.W j) nn))):=((D13.out.in (fun x _ ho=>.inl ho)).below hb3).wk (fun x h1 _=>.inr (by omega)) ((D13.out.in (fun x hx _=>hx)).below hb3) ho3 hv3
    have y_X3:X2.heap.size≤X3.heap.size:=hb3.size
    have B14:=hid (ah B13.out hb3)
    have C14:=hid (C13.out.below hb3)
    have W14:=hid (W13.out.below hb3)
    have R14:=hid (R13.out.below hb3)
    have D14:=hid (D13.out.below hb3)
    have Z14:Hid (w.heap.size+3≤X3.heap.size):=Hq Z13.out hb3.size
    have J14:=hid (J13.out.below hb3)
    clear B13 C13 W13 R13 D13 Z13 J13
    clear hb3 ho3 hv3 b1 b2 b3 b4
    refine dY 6 (zP w.heap.size 1) rfl ?_ ?_
    ·intro wx hSw;obtain ⟨sw,sj⟩:=hSw;have xw0:=(sw.2 0 (by simp)).1;have xj0:=(sj.2 0 (by simp)).1;have xw1:=(sw.2 1 (by simp)).1;have xj1:=(sj.2 1 (by simp)).1;have xw2:=(sw.2 2 (by simp)).1;have xj2:=(sj.2 2 (by simp)).1;have xw3:=(sw.2 3 (by simp)).1;have xj3:=(sj.2 3 (by simp)).1;have xw4:=(sw.2 4 (by simp)).1;have xj4:=(sj.2 4 (by simp)).1;simp only [List.getD,List.getElem?_cons_zero,List.getElem?_cons_succ,Option.getD_some] at xw0 xj0 xw1 xj1 xw2 xj2 xw3 xj3 xw4 xj4;have xlw:=sw.1;have xlj:=sj.1;go_simp
    try simp only [aT]
    clear D14
    clear Z14
    have D15:Hid (Md lo (fun x=>(Ok x∧x<w.heap.size)∨r0≤x) X3 (.agg #[zI V.c,.slice a3 n3 c3,zI V.g,zS gO V.nO cO,zS gX V.nX cX,zS gI V.nI cI]) ((V.setW m (zc (V.W m) (-nn))).setW j (zc (V.W j) nn))):=DPUT.out
    have Z16:Hid (r0≤X3.heap.size):=by show r0≤X3.heap.size;omega
    refine di 7 rfl fun K hK=>?_
    have kc:=C14.out.a6.2.1
    have kf:=C14.out.f6.2.1
    have kl:=C14.out.1
    go_simp
    clear kc kf kl
    refine hK.out _ _ ⟨af.1.far (by omega),af.2.far (by omega)⟩ (fun ai=>?_)
    clear hK K af
    have af:=ai
    clear ai
    try simp only [aT]
    refine Hy (by kernel_rfl) ?_ _
    clear af
    obtain ⟨X4,e4y⟩:∃ X,X=X3.setCell (zA w.heap.size 1) (.slice a3 n3 c3):=⟨_,rfl⟩
    have e4yz:X4.heap.size=X3.heap.size:=by rw [e4y];exact ay
    have B17:Hid (Below w.heap.size w X4):=by unfold Hid;rw [e4y];exact B14.out.setCell (by show w.heap.size≤w.heap.size;omega) _
    have C17:Hid (Bk X4 (w.heap.size) [zI V.c,.slice a3 n3 c3,zI V.g,zS gO V.nO cO,zS gX V.nX cX,zS gI V.nI cI]):=by unfold Hid;rw [e4y];exact C14.out.set (j:=1) (by simp)
    have W17:Hid (Bk X4 ((w.heap.size+1)) [zI (V.W m 0),zI (V.W m 1),zI (V.W m 2 - nn),zI (V.W m 3),zI (V.W m 4)]):=by unfold Hid;rw [e4y];exact W14.out.far (by omega)
    have R17:Hid (Bk X4 (w.heap.size+1+1) zN):=by unfold Hid;rw [e4y];exact R14.out.far (by omega)
    have J17:Hid (Bk X4 (jb) [zI (V.W j 0),zI (V.W j 1),zI (V.W j 2+nn),zI (V.W j 3),zI (V.W j 4)]):=by unfold Hid;rw [e4y];exact J14.out.far (by omega)
    have D17:=hid (D15.out.sm (w':=X4) (by omega) (fun x hx ho=>by rw [e4y];exact cZ (fun e=>by first | (have:=ho.2;omega) | (rcases ho with h | h <;> omega))))
    have Z17:Hid (r0≤X4.heap.size):=by unfold Hid;rw [e4yz];exact Z16.out
    rw [←e4y]
    clear e4y B14 C14 W14 R14 J14 D15 Z16
    obtain ⟨yC0,yC1,yC2,yC3,yC4,yC5⟩:=C17.out.a6
    have hlC:w.heap.size<X4.heap.size:=C17.out.1
    obtain ⟨yR0,yR1,yR2,yR3,yR4,yR5⟩:=R17.out.a6
    obtain ⟨zR0,zR1,zR2,zR3,zR4,zR5⟩:=R17.out.f6
    have hlR:(w.heap.size+1+1)<X4.heap.size:=R17.out.1
    go_wp2
    refine Hw (v:=.tuple #[.agg #[zI V.c,.slice a3 n3 c3,zI V.g,zS gO V.nO cO,zS gX V.nX cX,zS gI V.nI cI],zI 1]) (by simp [results,Tryz.results137,go_sem,yR0,yR1,yR2,yR3,yR4,yR5]) rfl ?_
    have hzz:=au X4 ((w.heap.size+1+1)) (.int .i64 V.c) (.slice a3 n3 c3) (.int .i64 V.g) (.slice (some ⟨gO,0,none⟩) V.nO cO) (.slice (some ⟨gX,0,none⟩) V.nX cX) (.slice (some ⟨gI,0,none⟩) V.nI cI)
    have rz:=Z17.out
    refine ⟨_,r0,by rw [ER.out],by omega,?_,?_,?_⟩
    ·show _≤(aG _ _ _ _ _ _ _ _).heap.size
     omega
    ·rw [ER.out]
     show Md lo _ (aG X4 ((w.heap.size+1+1)) (zI V.c) (.slice a3 n3 c3) (zI V.g) (zS gO V.nO cO) (zS gX V.nX cX) (zS gI V.nI cI)) _ _
     exact D17.out.sm (Hl hzz.symm) (fun x hx ho=>aH (fun e=>by rcases ho with h | h <;> omega) (zI V.c) (.slice a3 n3 c3) (zI V.g) (zS gO V.nO cO) (zS gX V.nX cX) (zS gI V.nI cI))
    ·exact Fr.of (ax B17.out (by omega) (zI V.c) (.slice a3 n3 c3) (zI V.g) (zS gO V.nO cO) (zS gX V.nX cX) (zS gI V.nI cI)) llo
 ·obtain ⟨yC0,yC1,yC2,yC3,yC4,yC5⟩:=C2.out.a6
  have hlC:w.heap.size<w0.heap.size:=C2.out.1
  go_wp2_with fail
  clear yC0 yC1 yC2 yC3 yC4 yC5 hlC
  obtain ⟨_,_,_,_,_,_,_,_,ef,hgW,hcW,_⟩:=D5.out.form
  have ef:=kV ef
  simp only [Value.slice.injEq,Option.some.injEq,Addr.mk.injEq,and_true,true_and] at ef
  obtain ⟨⟨rfl,rfl⟩,_⟩:=ef
  refine (o8 t (some (zA gW 0)) gW V.nW cW V.W hnW _ (fun _=>hgW) (fun _=>rfl) hno hcW).mono ?_
  rintro e w1 ⟨rfl,hb1⟩
  have y_w1:w0.heap.size≤w1.heap.size:=hb1.size
  have B7:=hid (ah B1.out hb1)
  have C7:=hid (C2.out.below hb1)
  have W7:=hid (W3.out.below hb1)
  have R7:=hid (R4.out.below hb1)
  have D7:=hid (D5.out.below hb1)
  have Z7:Hid (w.heap.size+3≤w1.heap.size):=Hq Z6.out hb1.size
  clear B1 C2 W3 R4 D5 Z6
  have z1:=Z7.out
  clear hb1 hgW hcW
  go_upto_region 2 with fail
  obtain ⟨w2,e2⟩:∃ X,X=w1.alloc (.cells z5.toArray 48):=⟨_,rfl⟩
  rw [←e2]
  have hb2:Below w1.heap.size w1 w2:=by rw [e2];exact (Hr _ _).alloc (Ho _) _
  have J2:Bk w2 w1.heap.size z5:=by rw [e2];exact aU w1 48 z5
  clear e2
  obtain ⟨jb,ejb⟩:∃ b,b=w1.heap.size:=⟨_,rfl⟩
  rw [←ejb] at J2 ⊢
  have lj:w.heap.size+3≤jb:=by omega
  have y_w2:w1.heap.size≤w2.heap.size:=hb2.size
  have B8:=hid (ah B7.out hb2)
  have C8:=hid (C7.out.below hb2)
  have W8:=hid (W7.out.below hb2)
  have R8:=hid (R7.out.below hb2)
  have D8:=hid (D7.out.below hb2)
  have Z8:Hid (w.heap.size+3≤w2.heap.size):=Hq Z7.out hb2.size
  clear B7 C7 W7 R7 D7 Z7
  have J9:Hid (Bk w2 jb z5):=J2
  clear hb2 J2 ejb z1
  obtain ⟨yC0,yC1,yC2,yC3,yC4,yC5⟩:=C8.out.a6
  have hlC:w.heap.size<w2.heap.size:=C8.out.1
  obtain ⟨yW0,yW1,yW2,yW3,yW4⟩:=W8.out.a5
  obtain ⟨zW0,zW1,zW2,zW3,zW4⟩:=W8.out.f5
  have hlW:(w.heap.size+1)<w2.heap.size:=W8.out.1
  obtain ⟨yJ0,yJ1,yJ2,yJ3,yJ4⟩:=J9.out.a5
  obtain ⟨zJ0,zJ1,zJ2,zJ3,zJ4⟩:=J9.out.f5
  have hlJ:jb<w2.heap.size:=J9.out.1
  have ER:Hid (dF V m t nn=(V,4)):=by unfold Hid;simp only [dF,fK V.nW hno]
  obtain ⟨yR0,yR1,yR2,yR3,yR4,yR5⟩:=R8.out.a6
  obtain ⟨zR0,zR1,zR2,zR3,zR4,zR5⟩:=R8.out.f6
  have hlR:(w.heap.size+1+1)<w2.heap.size:=R8.out.1
  go_wp2
  refine Hw (v:=.tuple #[.agg (zC V gW cW gO cO gX cX gI cI).toArray,zI 4]) (by simp [results,Tryz.results137,go_sem,yR0,yR1,yR2,yR3,yR4,yR5]) rfl ?_
  have hzz:=au w2 ((w.heap.size+1+1)) (.int .i64 V.c) (.slice (some ⟨gW,0,none⟩) V.nW cW) (.int .i64 V.g) (.slice (some ⟨gO,0,none⟩) V.nO cO) (.slice (some ⟨gX,0,none⟩) V.nX cX) (.slice (some ⟨gI,0,none⟩) V.nI cI)
  have rz:=Z8.out
  refine ⟨_,w.heap.size,by rw [ER.out],Ho _,?_,?_,?_⟩
  ·show _≤(aG _ _ _ _ _ _ _ _).heap.size
   omega
  ·rw [ER.out]
   show Md lo _ (aG w2 ((w.heap.size+1+1)) (zI V.c) (zS gW V.nW cW) (zI V.g) (zS gO V.nO cO) (zS gX V.nX cX) (zS gI V.nI cI)) _ _
   exact (D8.out.sm (Hl hzz.symm) (fun x hx ho=>aH (fun e=>by have:=ho.2;omega) (zI V.c) (zS gW V.nW cW) (zI V.g) (zS gO V.nO cO) (zS gX V.nX cX) (zS gI V.nI cI))).in (fun x _ ho=>.inl ho)
  ·exact Fr.of (ax B8.out (by omega) (zI V.c) (zS gW V.nW cW) (zI V.g) (zS gO V.nO cO) (zS gX V.nX cX) (zS gI V.nI cI)) llo
def dG (c d:Int) (V:CV) (m:Nat) (k t n:Int):CV × Int :=
 if k=1 then stepM c d V m t else if k=2 then dF V m t n else if k=3 then dQ V m n else if k=4 then dP V m n else if k=5 then bQ c d V m t n else (V,1)
theorem BQ (lo m:Nat) (Ok:Nat→Prop) (v:Value) (V:CV) (c d t:Int) (q:Nat) (ht:t=(q:Int)) (hq:q<V.nX) (hqO:q<V.nO) (hN:V.N q≤2000000) (hX:-1≤V.X q∧V.X q≤5000) (hq2:q<2) (hnW:V.nW≤1048576) (hr:dJ V.W V.nW) (hm:m<V.nW) (hA:0≤V.W m 1∧V.W m 1≤31) (w:World) (h:Md lo Ok w v V) :
 Hz 136 #[.agg #[zI c,zI d],v,.agg (zF (V.W m)).toArray,zI t] w fun e w'=>Kd lo Ok w w' e (stepM c d V m t):=by
 subst ht;exact vJ lo m Ok v V c d q hq hqO hN hX hq2 hnW hr hm hA w h
theorem Ae (lo m:Nat) (Ok:Nat→Prop) (v:Value) (V:CV) (c d nn t:Int) (q:Nat) (ht:t=(q:Int)) (hq:q<V.nX) (hqO:q<V.nO) (hN:V.N q≤2000000) (hX:-1≤V.X q∧V.X q≤5000) (hnW:V.nW≤1048576) (hr:dJ V.W V.nW) (hm:m<V.nW) (hn:1≤nn∧nn≤9) (hc:0≤V.W m 2∧V.W m 2≤99) (hg:0≤V.g∧V.g≤900) (w:World) (h:Md lo Ok w v V) :
 Hz 140 #[.agg #[zI c,zI d],v,.agg (zF (V.W m)).toArray,zI t,zI nn] w fun e w'=>Kd lo Ok w w' e (bQ c d V m t nn):=by
 subst ht;exact uN lo m Ok v V c d nn q hq hqO hN hX hnW hr hm hn hc hg w h
theorem wL (lo m:Nat) (Ok:Nat→Prop) (v:Value) (V:CV) (c d o sq k t nn:Int) (hnW:V.nW≤1048576) (hr:dJ V.W V.nW) (hm:m<V.nW) (hkB:jq (V.W m 0) k t nn=true) (hA:0≤V.W m 1∧V.W m 1≤31) (hc:0≤V.W m 2∧V.W m 2≤99) (hg:0≤V.g∧V.g≤900) (hct:∀ j,j<V.nW→V.W j 0=t→0≤V.W j 2∧V.W j 2≤99) (n1:2≤V.nX) (n2:2≤V.nO) (hXs:∀ q,q<2→(0≤V.X q∧V.X q≤5000)∧V.N q≤5000) (w:World) (h:Md lo Ok w v V) :
 Hz 115 #[.agg #[zI c,zI d],v,.agg (zF (V.W m)).toArray,.agg #[zI o,zI sq,zI k,zI t,zI nn]] w fun e w'=>Kd lo Ok w w' e (dG c d V m k t nn):=by
 obtain ⟨gW,cW,gO,cO,gX,cX,gI,cI,rfl,_,_,llo⟩:=h.form
 go_enter Tryz.func115,Tryz.ntmps115
 go_upto_region 1 with fail
 obtain ⟨w0,e0⟩:∃ w0,w0=(((((w.alloc (.cells #[zI c,zI d] 44)).alloc (.cells (zC V gW cW gO cO gX cX gI cI).toArray 41)).alloc (.cells (zF (V.W m)).toArray 48)).alloc (.cells #[zI o,zI sq,zI k,zI t,zI nn] 47)).alloc (.cells zN.toArray 41)):=⟨_,rfl⟩
 have hb0:Below w.heap.size w w0:=by rw [e0];exact ((((((Hr _ _).alloc (by simp <;> omega) _).alloc (by simp <;> omega) _).alloc (by simp <;> omega) _).alloc (by simp <;> omega) _).alloc (by simp <;> omega) _)
 have M0:Bk w0 (w.heap.size) [zI c,zI d]:=by rw [e0];have h:=aU w 44 [zI c,zI d];exact ((((h.below ((Hr _ _).alloc (Ho _) _)).below ((Hr _ _).alloc (Ho _) _)).below ((Hr _ _).alloc (Ho _) _)).below ((Hr _ _).alloc (Ho _) _))
 have C0:Bk w0 ((w.heap.size+1)) (zC V gW cW gO cO gX cX gI cI):=by rw [e0];have h:=aU (w.alloc (.cells #[zI c,zI d] 44)) 41 (zC V gW cW gO cO gX cX gI cI);rw [World.size_alloc] at h;exact (((h.below ((Hr _ _).alloc (Ho _) _)).below ((Hr _ _).alloc (Ho _) _)).below ((Hr _ _).alloc (Ho _) _))
 have W0:Bk w0 ((w.heap.size+1+1)) (zF (V.W m)):=by rw [e0];have h:=aU ((w.alloc (.cells #[zI c,zI d] 44)).alloc (.cells (zC V gW cW gO cO gX cX gI cI).toArray 41)) 48 (zF (V.W m));rw [World.size_alloc,World.size_alloc] at h;exact ((h.below ((Hr _ _).alloc (Ho _) _)).below ((Hr _ _).alloc (Ho _) _))
 have O0:Bk w0 ((w.heap.size+1+1+1)) [zI o,zI sq,zI k,zI t,zI nn]:=by rw [e0];have h:=aU (((w.alloc (.cells #[zI c,zI d] 44)).alloc (.cells (zC V gW cW gO cO gX cX gI cI).toArray 41)).alloc (.cells (zF (V.W m)).toArray 48)) 47 [zI o,zI sq,zI k,zI t,zI nn];rw [World.size_alloc,World.size_alloc,World.size_alloc] at h;exact (h.below ((Hr _ _).alloc (Ho _) _))
 have R0:Bk w0 ((w.heap.size+1+1+1+1)) zN:=by rw [e0];have h:=aU ((((w.alloc (.cells #[zI c,zI d] 44)).alloc (.cells (zC V gW cW gO cO gX cX gI cI).toArray 41)).alloc (.cells (zF (V.W m)).toArray 48)).alloc (.cells #[zI o,zI sq,zI k,zI t,zI nn] 47)) 41 zN;rw [World.size_alloc,World.size_alloc,World.size_alloc,World.size_alloc] at h;exact h
 rw [←e0]
 clear e0
 have rr1:w.heap.size+5≤w0.heap.size:=R0.1
 have B1:Hid (Below w.heap.size w w0):=hb0
 have M2:Hid (Bk w0 w.heap.size [zI c,zI d]):=M0
 have C3:Hid (Bk w0 (w.heap.size+1) (zC V gW cW gO cO gX cX gI cI)):=C0
 have W4:Hid (Bk w0 (w.heap.size+1+1) (zF (V.W m))):=W0
 have O5:Hid (Bk w0 (w.heap.size+1+1+1) [zI o,zI sq,zI k,zI t,zI nn]):=O0
 have R6:Hid (Bk w0 (w.heap.size+1+1+1+1) zN):=R0
 have D7:Hid (Md lo (fun x=>Ok x∧x<w.heap.size) w0 (.agg (zC V gW cW gO cO gX cX gI cI).toArray) V):=(h.in (fun x hx ho=>⟨ho,hx⟩)).below hb0
 have Z8:Hid (w.heap.size+5≤w0.heap.size):=rr1
 clear hb0 h M0 C0 W0 O0 R0
 have hk:=hkB
 simp only [jq] at hk
 by_cases k1:k=1
 ·rw [if_pos k1] at hk
  simp only [Bool.and_eq_true,jy,aY] at hk
  obtain ⟨q,hqt,hq2⟩:∃ q:Nat,t=(q:Int)∧q<2:=⟨t.toNat,by omega,by omega⟩
  have HQT:Hid (t=(q:Int)):=hqt
  clear hqt hk
  have hXq:=hXs q hq2
  have ER:Hid (dG c d V m k t nn=stepM c d V m t):=by simp [Hid,dG,k1]
  have b1:(k == 1)=true:=by simp [k1]
  clear k1 hkB
  obtain ⟨yM0,yM1⟩:=M2.out.a2
  have hlM:w.heap.size<w0.heap.size:=M2.out.1
  obtain ⟨yC0,yC1,yC2,yC3,yC4,yC5⟩:=C3.out.a6
  have hlC:(w.heap.size+1)<w0.heap.size:=C3.out.1
  obtain ⟨yW0,yW1,yW2,yW3,yW4⟩:=W4.out.a5
  have hlW:(w.heap.size+1+1)<w0.heap.size:=W4.out.1
  obtain ⟨yO0,yO1,yO2,yO3,yO4⟩:=O5.out.a5
  have hlO:(w.heap.size+1+1+1)<w0.heap.size:=O5.out.1
  go_wp2_with fail
  clear yM0 yM1 hlM yC0 yC1 yC2 yC3 yC4 yC5 hlC yW0 yW1 yW2 yW3 yW4 hlW yO0 yO1 yO2 yO3 yO4 hlO
  refine (BQ lo m (fun x=>Ok x∧x<w.heap.size) _ V c d t q HQT.out (by omega) (by omega) (by omega) (by omega) hq2 hnW hr hm hA _ D7.out).mono ?_
  rintro e w2 ⟨u,r1,rfl,k1,k2,hD2,hF2⟩
  obtain ⟨U,eU⟩:∃ U,U=(stepM c d V m t).1:=⟨_,rfl⟩
  obtain ⟨cd,ecd⟩:∃ z,z=(stepM c d V m t).2:=⟨_,rfl⟩
  have EU:Hid _:=eU
  have EC:Hid _:=ecd
  rw [←eU] at hD2
  rw [←ecd]
  clear eU ecd
  obtain ⟨hW,eW,hO,eO,hX,eX,hI,eI,rfl,_,_,_⟩:=hD2.form
  have ls1:=Z8.out
  obtain ⟨s1,es1⟩:∃ z,z=w0.heap.size:=⟨_,rfl⟩
  rw [←es1] at k1 hD2 ls1
  have DQ:Hid (Md lo (fun x=>((Ok x∧x<w.heap.size)∧x<s1)∨r1≤x) w2 (.agg (zC U hW eW hO eO hX eX hI eI).toArray) U):=hD2
  clear hD2 es1
  have M9:=hid (M2.out.sm hF2.2.1 (hF2.2.2 _ M2.out.1 (fun h=>by have:=h.2;omega)))
  have C9:=hid (C3.out.sm hF2.2.1 (hF2.2.2 _ C3.out.1 (fun h=>by have:=h.2;omega)))
  have W9:=hid (W4.out.sm hF2.2.1 (hF2.2.2 _ W4.out.1 (fun h=>by have:=h.2;omega)))
  have O9:=hid (O5.out.sm hF2.2.1 (hF2.2.2 _ O5.out.1 (fun h=>by have:=h.2;omega)))
  have R9:=hid (R6.out.sm hF2.2.1 (hF2.2.2 _ R6.out.1 (fun h=>by have:=h.2;omega)))
  have FR9:Hid (Fr lo Ok w w2):=⟨(B1.out.mono llo).trans hF2.1,Hq B1.out.size hF2.2.1,fun x hx hno=>(aj B1.out hx).trans (hF2.2.2 x (Hg hx B1.out.size) (fun h=>hno h.1))⟩
  clear B1 M2 C3 W4 O5 R6 D7 Z8
  have F10:Hid (Fr lo Ok w w2):=FR9.out
  clear FR9
  have z2:=hF2.2.1
  clear hF2
  obtain ⟨yR0,yR1,yR2,yR3,yR4,yR5⟩:=R9.out.a6
  obtain ⟨zR0,zR1,zR2,zR3,zR4,zR5⟩:=R9.out.f6
  have hlR:(w.heap.size+1+1+1+1)<w2.heap.size:=R9.out.1
  go_wp2
  refine Hw (v:=.tuple #[.agg (zC U hW eW hO eO hX eX hI eI).toArray,zI cd]) (by simp [results,Tryz.results115,go_sem,yR0,yR1,yR2,yR3,yR4,yR5]) rfl ?_
  have hzz:=au w2 (w.heap.size+1+1+1+1) (.int .i64 U.c) (.slice (some ⟨hW,0,none⟩) U.nW eW) (.int .i64 U.g) (.slice (some ⟨hO,0,none⟩) U.nO eO) (.slice (some ⟨hX,0,none⟩) U.nX eX) (.slice (some ⟨hI,0,none⟩) U.nI eI)
  rw [ER.out]
  refine ⟨_,w.heap.size,by rw [EC.out],Ho _,?_,?_,?_⟩
  ·show _≤(aG _ _ _ _ _ _ _ _).heap.size
   omega
  ·show Md lo _ (aG w2 (w.heap.size+1+1+1+1) (zI U.c) (zS hW U.nW eW) (zI U.g) (zS hO U.nO eO) (zS hX U.nX eX) (zS hI U.nI eI)) _ _
   rw [←EU.out]
   exact (DQ.out.sm (Hl hzz.symm) (fun x hx ho=>aH (fun e=>by rcases ho with h | h <;> omega) (zI U.c) (zS hW U.nW eW) (zI U.g) (zS hO U.nO eO) (zS hX U.nX eX) (zS hI U.nI eI))).in (fun x _ ho=>by rcases ho with h | h;exact .inl h.1;exact .inr (by omega))
  ·exact (F10.out).six llo (by omega) (zI U.c) (zS hW U.nW eW) (zI U.g) (zS hO U.nO eO) (zS hX U.nX eX) (zS hI U.nI eI)
 ·rw [if_neg k1] at hk
  have b1:(k == 1)=false:=by simp [k1]
  by_cases k2:k=2
  ·rw [if_pos k2] at hk
   simp only [Bool.and_eq_true,aY,bne_iff_ne,ne_eq] at hk
   have ER:Hid (dG c d V m k t nn=dF V m t nn):=by simp [Hid,dG,k2]
   have b2:(k == 2)=true:=by simp [k2]
   clear k2 hkB
   obtain ⟨yM0,yM1⟩:=M2.out.a2
   have hlM:w.heap.size<w0.heap.size:=M2.out.1
   obtain ⟨yC0,yC1,yC2,yC3,yC4,yC5⟩:=C3.out.a6
   have hlC:(w.heap.size+1)<w0.heap.size:=C3.out.1
   obtain ⟨yW0,yW1,yW2,yW3,yW4⟩:=W4.out.a5
   have hlW:(w.heap.size+1+1)<w0.heap.size:=W4.out.1
   obtain ⟨yO0,yO1,yO2,yO3,yO4⟩:=O5.out.a5
   have hlO:(w.heap.size+1+1+1)<w0.heap.size:=O5.out.1
   go_wp2_with fail
   clear yM0 yM1 hlM yC0 yC1 yC2 yC3 yC4 yC5 hlC yW0 yW1 yW2 yW3 yW4 hlW yO0 yO1 yO2 yO3 yO4 hlO
   refine (wM lo m (fun x=>Ok x∧x<w.heap.size) _ V t nn hnW hr hm hk.2.2 hc hg hk.2.1 hct _ D7.out).mono ?_
   rintro e w2 ⟨u,r1,rfl,k1,k2,hD2,hF2⟩
   obtain ⟨U,eU⟩:∃ U,U=(dF V m t nn).1:=⟨_,rfl⟩
   obtain ⟨cd,ecd⟩:∃ z,z=(dF V m t nn).2:=⟨_,rfl⟩
   have EU:Hid _:=eU
   have EC:Hid _:=ecd
   rw [←eU] at hD2
   rw [←ecd]
   clear eU ecd
   obtain ⟨hW,eW,hO,eO,hX,eX,hI,eI,rfl,_,_,_⟩:=hD2.form
   have ls1:=Z8.out
   obtain ⟨s1,es1⟩:∃ z,z=w0.heap.size:=⟨_,rfl⟩
   rw [←es1] at k1 hD2 ls1
   have DQ:Hid (Md lo (fun x=>((Ok x∧x<w.heap.size)∧x<s1)∨r1≤x) w2 (.agg (zC U hW eW hO eO hX eX hI eI).toArray) U):=hD2
   clear hD2 es1
   have M9:=hid (M2.out.sm hF2.2.1 (hF2.2.2 _ M2.out.1 (fun h=>by have:=h.2;omega)))
   have C9:=hid (C3.out.sm hF2.2.1 (hF2.2.2 _ C3.out.1 (fun h=>by have:=h.2;omega)))
   have W9:=hid (W4.out.sm hF2.2.1 (hF2.2.2 _ W4.out.1 (fun h=>by have:=h.2;omega)))
   have O9:=hid (O5.out.sm hF2.2.1 (hF2.2.2 _ O5.out.1 (fun h=>by have:=h.2;omega)))
   have R9:=hid (R6.out.sm hF2.2.1 (hF2.2.2 _ R6.out.1 (fun h=>by have:=h.2;omega)))
   have FR9:Hid (Fr lo Ok w w2):=⟨(B1.out.mono llo).trans hF2.1,Hq B1.out.size hF2.2.1,fun x hx hno=>(aj B1.out hx).trans (hF2.2.2 x (Hg hx B1.out.size) (fun h=>hno h.1))⟩
   clear B1 M2 C3 W4 O5 R6 D7 Z8
   have F10:Hid (Fr lo Ok w w2):=FR9.out
   clear FR9
   have z2:=hF2.2.1
   clear hF2
   obtain ⟨yR0,yR1,yR2,yR3,yR4,yR5⟩:=R9.out.a6
   obtain ⟨zR0,zR1,zR2,zR3,zR4,zR5⟩:=R9.out.f6
   have hlR:(w.heap.size+1+1+1+1)<w2.heap.size:=R9.out.1
   go_wp2
   refine Hw (v:=.tuple #[.agg (zC U hW eW hO eO hX eX hI eI).toArray,zI cd]) (by simp [results,Tryz.results115,go_sem,yR0,yR1,yR2,yR3,yR4,yR5]) rfl ?_
   have hzz:=au w2 (w.heap.size+1+1+1+1) (.int .i64 U.c) (.slice (some ⟨hW,0,none⟩) U.nW eW) (.int .i64 U.g) (.slice (some ⟨hO,0,none⟩) U.nO eO) (.slice (some ⟨hX,0,none⟩) U.nX eX) (.slice (some ⟨hI,0,none⟩) U.nI eI)
   rw [ER.out]
   refine ⟨_,w.heap.size,by rw [EC.out],Ho _,?_,?_,?_⟩
   ·show _≤(aG _ _ _ _ _ _ _ _).heap.size
    omega
   ·show Md lo _ (aG w2 (w.heap.size+1+1+1+1) (zI U.c) (zS hW U.nW eW) (zI U.g) (zS hO U.nO eO) (zS hX U.nX eX) (zS hI U.nI eI)) _ _
    rw [←EU.out]
    exact (DQ.out.sm (Hl hzz.symm) (fun x hx ho=>aH (fun e=>by rcases ho with h | h <;> omega) (zI U.c) (zS hW U.nW eW) (zI U.g) (zS hO U.nO eO) (zS hX U.nX eX) (zS hI U.nI eI))).in (fun x _ ho=>by rcases ho with h | h;exact .inl h.1;exact .inr (by omega))
   ·exact (F10.out).six llo (by omega) (zI U.c) (zS hW U.nW eW) (zI U.g) (zS hO U.nO eO) (zS hX U.nX eX) (zS hI U.nI eI)
  ·rw [if_neg k2] at hk
   have b2:(k == 2)=false:=by simp [k2]
   by_cases k3:k=3
   ·rw [if_pos k3] at hk
    simp only [Bool.and_eq_true,aY] at hk
    have ER:Hid (dG c d V m k t nn=dQ V m nn):=by simp [Hid,dG,k3]
    have b3:(k == 3)=true:=by simp [k3]
    clear k3 hkB
    obtain ⟨yM0,yM1⟩:=M2.out.a2
    have hlM:w.heap.size<w0.heap.size:=M2.out.1
    obtain ⟨yC0,yC1,yC2,yC3,yC4,yC5⟩:=C3.out.a6
    have hlC:(w.heap.size+1)<w0.heap.size:=C3.out.1
    obtain ⟨yW0,yW1,yW2,yW3,yW4⟩:=W4.out.a5
    have hlW:(w.heap.size+1+1)<w0.heap.size:=W4.out.1
    obtain ⟨yO0,yO1,yO2,yO3,yO4⟩:=O5.out.a5
    have hlO:(w.heap.size+1+1+1)<w0.heap.size:=O5.out.1
    go_wp2_with fail
    clear yM0 yM1 hlM yC0 yC1 yC2 yC3 yC4 yC5 hlC yW0 yW1 yW2 yW3 yW4 hlW yO0 yO1 yO2 yO3 yO4 hlO
    refine (wB lo m (fun x=>Ok x∧x<w.heap.size) _ V nn hnW hr hm hk.2 hc hg _ D7.out).mono ?_
    rintro e w2 ⟨u,r1,rfl,k1,k2,hD2,hF2⟩
    obtain ⟨U,eU⟩:∃ U,U=(dQ V m nn).1:=⟨_,rfl⟩
    obtain ⟨cd,ecd⟩:∃ z,z=(dQ V m nn).2:=⟨_,rfl⟩
    have EU:Hid _:=eU
    have EC:Hid _:=ecd
    rw [←eU] at hD2
    rw [←ecd]
    clear eU ecd
    obtain ⟨hW,eW,hO,eO,hX,eX,hI,eI,rfl,_,_,_⟩:=hD2.form
    have ls1:=Z8.out
    obtain ⟨s1,es1⟩:∃ z,z=w0.heap.size:=⟨_,rfl⟩
    rw [←es1] at k1 hD2 ls1
    have DQ:Hid (Md lo (fun x=>((Ok x∧x<w.heap.size)∧x<s1)∨r1≤x) w2 (.agg (zC U hW eW hO eO hX eX hI eI).toArray) U):=hD2
    clear hD2 es1
    have M9:=hid (M2.out.sm hF2.2.1 (hF2.2.2 _ M2.out.1 (fun h=>by have:=h.2;omega)))
    have C9:=hid (C3.out.sm hF2.2.1 (hF2.2.2 _ C3.out.1 (fun h=>by have:=h.2;omega)))
    have W9:=hid (W4.out.sm hF2.2.1 (hF2.2.2 _ W4.out.1 (fun h=>by have:=h.2;omega)))
    have O9:=hid (O5.out.sm hF2.2.1 (hF2.2.2 _ O5.out.1 (fun h=>by have:=h.2;omega)))
    have R9:=hid (R6.out.sm hF2.2.1 (hF2.2.2 _ R6.out.1 (fun h=>by have:=h.2;omega)))
    have FR9:Hid (Fr lo Ok w w2):=⟨(B1.out.mono llo).trans hF2.1,Hq B1.out.size hF2.2.1,fun x hx hno=>(aj B1.out hx).trans (hF2.2.2 x (Hg hx B1.out.size) (fun h=>hno h.1))⟩
    clear B1 M2 C3 W4 O5 R6 D7 Z8
    have F10:Hid (Fr lo Ok w w2):=FR9.out
    clear FR9
    have z2:=hF2.2.1
    clear hF2
    obtain ⟨yR0,yR1,yR2,yR3,yR4,yR5⟩:=R9.out.a6
    obtain ⟨zR0,zR1,zR2,zR3,zR4,zR5⟩:=R9.out.f6
    have hlR:(w.heap.size+1+1+1+1)<w2.heap.size:=R9.out.1
    go_wp2
    refine Hw (v:=.tuple #[.agg (zC U hW eW hO eO hX eX hI eI).toArray,zI cd]) (by simp [results,Tryz.results115,go_sem,yR0,yR1,yR2,yR3,yR4,yR5]) rfl ?_
    have hzz:=au w2 (w.heap.size+1+1+1+1) (.int .i64 U.c) (.slice (some ⟨hW,0,none⟩) U.nW eW) (.int .i64 U.g) (.slice (some ⟨hO,0,none⟩) U.nO eO) (.slice (some ⟨hX,0,none⟩) U.nX eX) (.slice (some ⟨hI,0,none⟩) U.nI eI)
    rw [ER.out]
    refine ⟨_,w.heap.size,by rw [EC.out],Ho _,?_,?_,?_⟩
    ·show _≤(aG _ _ _ _ _ _ _ _).heap.size
     omega
    ·show Md lo _ (aG w2 (w.heap.size+1+1+1+1) (zI U.c) (zS hW U.nW eW) (zI U.g) (zS hO U.nO eO) (zS hX U.nX eX) (zS hI U.nI eI)) _ _
     rw [←EU.out]
     exact (DQ.out.sm (Hl hzz.symm) (fun x hx ho=>aH (fun e=>by rcases ho with h | h <;> omega) (zI U.c) (zS hW U.nW eW) (zI U.g) (zS hO U.nO eO) (zS hX U.nX eX) (zS hI U.nI eI))).in (fun x _ ho=>by rcases ho with h | h;exact .inl h.1;exact .inr (by omega))
    ·exact (F10.out).six llo (by omega) (zI U.c) (zS hW U.nW eW) (zI U.g) (zS hO U.nO eO) (zS hX U.nX eX) (zS hI U.nI eI)
   ·rw [if_neg k3] at hk
    have b3:(k == 3)=false:=by simp [k3]
    by_cases k4:k=4
    ·rw [if_pos k4] at hk
     simp only [Bool.and_eq_true,aY] at hk
     have ER:Hid (dG c d V m k t nn=dP V m nn):=by simp [Hid,dG,k4]
     have b4:(k == 4)=true:=by simp [k4]
     clear k4 hkB
     obtain ⟨yM0,yM1⟩:=M2.out.a2
     have hlM:w.heap.size<w0.heap.size:=M2.out.1
     obtain ⟨yC0,yC1,yC2,yC3,yC4,yC5⟩:=C3.out.a6
     have hlC:(w.heap.size+1)<w0.heap.size:=C3.out.1
     obtain ⟨yW0,yW1,yW2,yW3,yW4⟩:=W4.out.a5
     have hlW:(w.heap.size+1+1)<w0.heap.size:=W4.out.1
     obtain ⟨yO0,yO1,yO2,yO3,yO4⟩:=O5.out.a5
     have hlO:(w.heap.size+1+1+1)<w0.heap.size:=O5.out.1
     go_wp2_with fail
     clear yM0 yM1 hlM yC0 yC1 yC2 yC3 yC4 yC5 hlC yW0 yW1 yW2 yW3 yW4 hlW yO0 yO1 yO2 yO3 yO4 hlO
     refine (wJ lo m (fun x=>Ok x∧x<w.heap.size) _ V nn hnW hr hm hk.2 hc hg _ D7.out).mono ?_
     rintro e w2 ⟨u,r1,rfl,k1,k2,hD2,hF2⟩
     obtain ⟨U,eU⟩:∃ U,U=(dP V m nn).1:=⟨_,rfl⟩
     obtain ⟨cd,ecd⟩:∃ z,z=(dP V m nn).2:=⟨_,rfl⟩
     have EU:Hid _:=eU
     have EC:Hid _:=ecd
     rw [←eU] at hD2
     rw [←ecd]
     clear eU ecd
     obtain ⟨hW,eW,hO,eO,hX,eX,hI,eI,rfl,_,_,_⟩:=hD2.form
     have ls1:=Z8.out
     obtain ⟨s1,es1⟩:∃ z,z=w0.heap.size:=⟨_,rfl⟩
     rw [←es1] at k1 hD2 ls1
     have DQ:Hid (Md lo (fun x=>((Ok x∧x<w.heap.size)∧x<s1)∨r1≤x) w2 (.agg (zC U hW eW hO eO hX eX hI eI).toArray) U):=hD2
     clear hD2 es1
     have M9:=hid (M2.out.sm hF2.2.1 (hF2.2.2 _ M2.out.1 (fun h=>by have:=h.2;omega)))
     have C9:=hid (C3.out.sm hF2.2.1 (hF2.2.2 _ C3.out.1 (fun h=>by have:=h.2;omega)))
     have W9:=hid (W4.out.sm hF2.2.1 (hF2.2.2 _ W4.out.1 (fun h=>by have:=h.2;omega)))
     have O9:=hid (O5.out.sm hF2.2.1 (hF2.2.2 _ O5.out.1 (fun h=>by have:=h.2;omega)))
     have R9:=hid (R6.out.sm hF2.2.1 (hF2.2.2 _ R6.out.1 (fun h=>by have:=h.2;omega)))
     have FR9:Hid (Fr lo Ok w w2):=⟨(B1.out.mono llo).trans hF2.1,Hq B1.out.size hF2.2.1,fun x hx hno=>(aj B1.out hx).trans (hF2.2.2 x (Hg hx B1.out.size) (fun h=>hno h.1))⟩
     clear B1 M2 C3 W4 O5 R6 D7 Z8
     have F10:Hid (Fr lo Ok w w2):=FR9.out
     clear FR9
     have z2:=hF2.2.1
     clear hF2
     obtain ⟨yR0,yR1,yR2,yR3,yR4,yR5⟩:=R9.out.a6
     obtain ⟨zR0,zR1,zR2,zR3,zR4,zR5⟩:=R9.out.f6
     have hlR:(w.heap.size+1+1+1+1)<w2.heap.size:=R9.out.1
     go_wp2
     refine Hw (v:=.tuple #[.agg (zC U hW eW hO eO hX eX hI eI).toArray,zI cd]) (by simp [results,Tryz.results115,go_sem,yR0,yR1,yR2,yR3,yR4,yR5]) rfl ?_
     have hzz:=au w2 (w.heap.size+1+1+1+1) (.int .i64 U.c) (.slice (some ⟨hW,0,none⟩) U.nW eW) (.int .i64 U.g) (.slice (some ⟨hO,0,none⟩) U.nO eO) (.slice (some ⟨hX,0,none⟩) U.nX eX) (.slice (some ⟨hI,0,none⟩) U.nI eI)
     rw [ER.out]
     refine ⟨_,w.heap.size,by rw [EC.out],Ho _,?_,?_,?_⟩
     ·show _≤(aG _ _ _ _ _ _ _ _).heap.size
      omega
     ·show Md lo _ (aG w2 (w.heap.size+1+1+1+1) (zI U.c) (zS hW U.nW eW) (zI U.g) (zS hO U.nO eO) (zS hX U.nX eX) (zS hI U.nI eI)) _ _
      rw [←EU.out]
      exact (DQ.out.sm (Hl hzz.symm) (fun x hx ho=>aH (fun e=>by rcases ho with h | h <;> omega) (zI U.c) (zS hW U.nW eW) (zI U.g) (zS hO U.nO eO) (zS hX U.nX eX) (zS hI U.nI eI))).in (fun x _ ho=>by rcases ho with h | h;exact .inl h.1;exact .inr (by omega))
     ·exact (F10.out).six llo (by omega) (zI U.c) (zS hW U.nW eW) (zI U.g) (zS hO U.nO eO) (zS hX U.nX eX) (zS hI U.nI eI)
    ·rw [if_neg k4] at hk
     have b4:(k == 4)=false:=by simp [k4]
     by_cases k5:k=5
     ·rw [if_pos k5] at hk
      simp only [Bool.and_eq_true,jy,aY] at hk
      have hk2:=hk.2
      obtain ⟨q,hqt,hq2⟩:∃ q:Nat,t=(q:Int)∧q<2:=⟨t.toNat,by omega,by omega⟩
      have HQT:Hid (t=(q:Int)):=hqt
      clear hqt hk
      have hXq:=hXs q hq2
      have ER:Hid (dG c d V m k t nn=bQ c d V m t nn):=by simp [Hid,dG,k5]
      have b5:(k == 5)=true:=by simp [k5]
      clear k5 hkB
      obtain ⟨yM0,yM1⟩:=M2.out.a2
      have hlM:w.heap.size<w0.heap.size:=M2.out.1
      obtain ⟨yC0,yC1,yC2,yC3,yC4,yC5⟩:=C3.out.a6
      have hlC:(w.heap.size+1)<w0.heap.size:=C3.out.1
      obtain ⟨yW0,yW1,yW2,yW3,yW4⟩:=W4.out.a5
      have hlW:(w.heap.size+1+1)<w0.heap.size:=W4.out.1
      obtain ⟨yO0,yO1,yO2,yO3,yO4⟩:=O5.out.a5
      have hlO:(w.heap.size+1+1+1)<w0.heap.size:=O5.out.1
      go_wp2_with fail
      clear yM0 yM1 hlM yC0 yC1 yC2 yC3 yC4 yC5 hlC yW0 yW1 yW2 yW3 yW4 hlW yO0 yO1 yO2 yO3 yO4 hlO
      refine (Ae lo m (fun x=>Ok x∧x<w.heap.size) _ V c d nn t q HQT.out (by omega) (by omega) (by omega) (by omega) hnW hr hm hk2 hc hg _ D7.out).mono ?_
      rintro e w2 ⟨u,r1,rfl,k1,k2,hD2,hF2⟩
      obtain ⟨U,eU⟩:∃ U,U=(bQ c d V m t nn).1:=⟨_,rfl⟩
      obtain ⟨cd,ecd⟩:∃ z,z=(bQ c d V m t nn).2:=⟨_,rfl⟩
      have EU:Hid _:=eU
      have EC:Hid _:=ecd
      rw [←eU] at hD2
      rw [←ecd]
      clear eU ecd
      obtain ⟨hW,eW,hO,eO,hX,eX,hI,eI,rfl,_,_,_⟩:=hD2.form
      have ls1:=Z8.out
      obtain ⟨s1,es1⟩:∃ z,z=w0.heap.size:=⟨_,rfl⟩
      rw [←es1] at k1 hD2 ls1
      have DQ:Hid (Md lo (fun x=>((Ok x∧x<w.heap.size)∧x<s1)∨r1≤x) w2 (.agg (zC U hW eW hO eO hX eX hI eI).toArray) U):=hD2
      clear hD2 es1
      have M9:=hid (M2.out.sm hF2.2.1 (hF2.2.2 _ M2.out.1 (fun h=>by have:=h.2;omega)))
      have C9:=hid (C3.out.sm hF2.2.1 (hF2.2.2 _ C3.out.1 (fun h=>by have:=h.2;omega)))
      have W9:=hid (W4.out.sm hF2.2.1 (hF2.2.2 _ W4.out.1 (fun h=>by have:=h.2;omega)))
      have O9:=hid (O5.out.sm hF2.2.1 (hF2.2.2 _ O5.out.1 (fun h=>by have:=h.2;omega)))
      have R9:=hid (R6.out.sm hF2.2.1 (hF2.2.2 _ R6.out.1 (fun h=>by have:=h.2;omega)))
      have FR9:Hid (Fr lo Ok w w2):=⟨(B1.out.mono llo).trans hF2.1,Hq B1.out.size hF2.2.1,fun x hx hno=>(aj B1.out hx).trans (hF2.2.2 x (Hg hx B1.out.size) (fun h=>hno h.1))⟩
      clear B1 M2 C3 W4 O5 R6 D7 Z8
      have F10:Hid (Fr lo Ok w w2):=FR9.out
      clear FR9
      have z2:=hF2.2.1
      clear hF2
      obtain ⟨yR0,yR1,yR2,yR3,yR4,yR5⟩:=R9.out.a6
      obtain ⟨zR0,zR1,zR2,zR3,zR4,zR5⟩:=R9.out.f6
      have hlR:(w.heap.size+1+1+1+1)<w2.heap.size:=R9.out.1
      go_wp2
      refine Hw (v:=.tuple #[.agg (zC U hW eW hO eO hX eX hI eI).toArray,zI cd]) (by simp [results,Tryz.results115,go_sem,yR0,yR1,yR2,yR3,yR4,yR5]) rfl ?_
      have hzz:=au w2 (w.heap.size+1+1+1+1) (.int .i64 U.c) (.slice (some ⟨hW,0,none⟩) U.nW eW) (.int .i64 U.g) (.slice (some ⟨hO,0,none⟩) U.nO eO) (.slice (some ⟨hX,0,none⟩) U.nX eX) (.slice (some ⟨hI,0,none⟩) U.nI eI)
      rw [ER.out]
      refine ⟨_,w.heap.size,by rw [EC.out],Ho _,?_,?_,?_⟩
      ·show _≤(aG _ _ _ _ _ _ _ _).heap.size
       omega
      ·show Md lo _ (aG w2 (w.heap.size+1+1+1+1) (zI U.c) (zS hW U.nW eW) (zI U.g) (zS hO U.nO eO) (zS hX U.nX eX) (zS hI U.nI eI)) _ _
       rw [←EU.out]
       exact (DQ.out.sm (Hl hzz.symm) (fun x hx ho=>aH (fun e=>by rcases ho with h | h <;> omega) (zI U.c) (zS hW U.nW eW) (zI U.g) (zS hO U.nO eO) (zS hX U.nX eX) (zS hI U.nI eI))).in (fun x _ ho=>by rcases ho with h | h;exact .inl h.1;exact .inr (by omega))
      ·exact (F10.out).six llo (by omega) (zI U.c) (zS hW U.nW eW) (zI U.g) (zS hO U.nO eO) (zS hX U.nX eX) (zS hI U.nI eI)
     ·rw [if_neg k5] at hk
      have b5:(k == 5)=false:=by simp [k5]
      have k6:k=6:=by
       by_cases e:k=6
       ·exact e
       ·rw [if_neg e] at hk;cases hk
      have ER:Hid (dG c d V m k t nn=(V,1)):=by simp [Hid,dG,k6]
      clear k6 hk hkB
      obtain ⟨yC0,yC1,yC2,yC3,yC4,yC5⟩:=C3.out.a6
      have hlC:(w.heap.size+1)<w0.heap.size:=C3.out.1
      obtain ⟨yO0,yO1,yO2,yO3,yO4⟩:=O5.out.a5
      have hlO:(w.heap.size+1+1+1)<w0.heap.size:=O5.out.1
      obtain ⟨yR0,yR1,yR2,yR3,yR4,yR5⟩:=R6.out.a6
      obtain ⟨zR0,zR1,zR2,zR3,zR4,zR5⟩:=R6.out.f6
      have hlR:(w.heap.size+1+1+1+1)<w0.heap.size:=R6.out.1
      go_wp2
      refine Hw (v:=.tuple #[.agg (zC V gW cW gO cO gX cX gI cI).toArray,zI 1]) (by simp [results,Tryz.results115,go_sem,yR0,yR1,yR2,yR3,yR4,yR5]) rfl ?_
      have hzz:=au w0 ((w.heap.size+1+1+1+1)) (.int .i64 V.c) (.slice (some ⟨gW,0,none⟩) V.nW cW) (.int .i64 V.g) (.slice (some ⟨gO,0,none⟩) V.nO cO) (.slice (some ⟨gX,0,none⟩) V.nX cX) (.slice (some ⟨gI,0,none⟩) V.nI cI)
      have rz:=Z8.out
      refine ⟨_,w.heap.size,by rw [ER.out],Ho _,?_,?_,?_⟩
      ·show _≤(aG _ _ _ _ _ _ _ _).heap.size
       omega
      ·rw [ER.out]
       show Md lo _ (aG w0 ((w.heap.size+1+1+1+1)) (zI V.c) (zS gW V.nW cW) (zI V.g) (zS gO V.nO cO) (zS gX V.nX cX) (zS gI V.nI cI)) _ _
       exact (D7.out.sm (Hl hzz.symm) (fun x hx ho=>aH (fun e=>by have:=ho.2;omega) (zI V.c) (zS gW V.nW cW) (zI V.g) (zS gO V.nO cO) (zS gX V.nX cX) (zS gI V.nI cI))).in (fun x _ ho=>.inl ho)
      ·exact Fr.of (ax B1.out (by omega) (zI V.c) (zS gW V.nW cW) (zI V.g) (zS gO V.nO cO) (zS gX V.nX cX) (zS gI V.nI cI)) llo
theorem aV.drew {lo hi:Nat} {w:World} {v:Value} {V:CV} (h:aV lo hi w v V):aV lo hi w.drew v V:=h
theorem Bk.G9 {w:World} {g:Nat} {x0 x1 x2 x3 x4 x5 u:Value} (h:Bk w g [x0,x1,x2,x3,x4,x5]):Bk (w.setCell (zA g 2) u) g [x0,x1,u,x3,x4,x5]:=⟨by rw [ay];exact h.1,(Six.put h.2).2 u⟩
theorem Bk.G7 {w:World} {g:Nat} {x0 x1 x2 x3 x4 x5 u:Value} (h:Bk w g [x0,x1,x2,x3,x4,x5]):Bk (w.setCell (zA g 1) u) g [x0,u,x2,x3,x4,x5]:=⟨by rw [ay];exact h.1,(Six.put h.2).1 u⟩
theorem rY {c d pn pk pi pa pm ps pl pc:Int} {V:CV} {q:Nat} (h:takeB c d V (dA V.W V.nW) q pn pk pi pa pc=false):CV.inn c d V q pn pk pi pa pm ps pl pc=V:=by simp [CV.inn,h]
theorem AY {c d pn pi pa pm ps pl pc:Int} {V:CV} {q:Nat} (h:takeB c d V (dA V.W V.nW) q pn 2 pi pa pc=true):CV.inn c d V q pn 2 pi pa pm ps pl pc={ V with g:=V.g+pc,I:=jo V.I q (V.I q+1) }:=by simp [CV.inn,h,CV.took]
theorem xN {c d pn pi pa pm ps pl pc:Int} {V:CV} {q:Nat} (h:takeB c d V (dA V.W V.nW) q pn 1 pi pa pc=true):CV.inn c d V q pn 1 pi pa pm ps pl pc={ V with nW:=V.nW+1,W:=dK V.W V.nW pi (zp pi pa pm ps pl),I:=jo V.I q (V.I q+1) }:=by simp [CV.inn,h,CV.took,CV.with]
theorem xW (c d pn pi pa pm ps pl pc:Int) (v:Value) (V:CV) (lo q:Nat) (h1:bD c d V=true) (hs0:V.short 1048576) (hn0:V.nW+1≤1048576) (hq:q<V.nI) (hI:0≤V.I q∧V.I q≤5000) (hg:0≤V.g∧V.g≤900) (hpc:0≤pc∧pc≤900) (w:World) (h:dL w v V) :
 Hz 81 #[.agg #[zI c,zI d],v,zI (q:Int),.agg #[zI pn,zI 2,zI pi,zI pa,zI pm,zI ps,zI pl,zI pc]] w fun e w'=>(∃ u,e=.returned (.tuple #[u,.bool (takeB c d V (dA V.W V.nW) q pn 2 pi pa pc)])∧aV w.heap.size w'.heap.size w' u (CV.inn c d V q pn 2 pi pa pm ps pl pc))∧Below w.heap.size w w':=by
 obtain ⟨aW9,bO,bX,bI,cW,cO,cX,cI,q2,q3,q4,rfl,g1,g2,g3,g4⟩:=h
 have CP:Hid (dL w (.agg (zG V aW9 cW bO cO bX cX bI cI).toArray) V):=⟨aW9,bO,bX,bI,cW,cO,cX,cI,q2,q3,q4,rfl,g1,g2,g3,g4⟩
 have hs:Hid (V.short 1048576):=hs0
 have hnW:Hid (V.nW+1≤1048576):=hn0
 clear g1 g2 g3 g4 hs0 hn0 q2 q3 q4
 go_enter Tryz.func81,Tryz.ntmps81
 go_wp2_with fail
 obtain ⟨w0,e0,B0,M0,-,P0,R0,z0⟩:=F8 w [zI c,zI d] 44 (zG V aW9 cW bO cO bX cX bI cI) 41 [zI pn,zI 2,zI pi,zI pa,zI pm,zI ps,zI pl,zI pc] 50 zN 41
 rw [←e0]
 clear e0
 refine (fC _ V hs.out _ (CP.out.below B0.out)).mono ?_
 rintro e w1 ⟨⟨v1,rfl,hO,hT,_⟩,hb1⟩
 obtain ⟨aW,kW,aO,kO,aX,kX,aI,kI,rfl,_,_,_,_⟩:=hO.at
 clear hT
 have z1:w0.heap.size≤w1.heap.size:=hb1.size
 have HO:Hid (aV w0.heap.size w1.heap.size w1 (.agg (zD V aW kW aO kO aX kX aI kI).toArray) V):=hO
 clear hO
 have HB1:Hid (Below w0.heap.size w0 w1):=hb1
 clear hb1
 go_wp2_with fail
 obtain ⟨w2,e2⟩:∃ w2,w2=w1.alloc (.cells (zD V aW kW aO kO aX kX aI kI).toArray 41):=⟨_,rfl⟩
 have k2:Below w1.heap.size w1 w2:=by rw [e2];exact (Hr _ _).alloc (Ho _) _
 have X2:Bk w2 w1.heap.size (zD V aW kW aO kO aX kX aI kI):=by rw [e2];exact aU w1 41 (zD V aW kW aO kO aX kX aI kI)
 have z2:w1.heap.size<w2.heap.size:=X2.1
 rw [←e2]
 clear e2
 have k02:Below w0.heap.size w0 w2:=ah HB1.out k2
 have B1:=hid (ah B0.out k02)
 have M2:=hid (M0.out.below k02)
 have P3:=hid (P0.out.below k02)
 have R4:=hid (R0.out.below k02)
 have O2:=HO.out.below (Ho _) k2
 clear B0 M0 P0 R0 HO HB1 k2 k02
 obtain ⟨gI,rfl,g1,g2,g3,iq,fq,hset⟩:=O2.ins hq
 clear hset
 generalize w1.heap.size=x8 at *
 generalize w0.heap.size=l0 at *
 have X5:Hid (Bk w2 x8 [zI V.c,.slice aW V.nW kW,zI V.g,.slice aO V.nO kO,.slice aX V.nX kX,zS gI V.nI kI]):=X2
 have O6:Hid (aV l0 x8 w2 (.agg #[zI V.c,.slice aW V.nW kW,zI V.g,.slice aO V.nO kO,.slice aX V.nX kX,zS gI V.nI kI]) V):=O2
 have I7:Hid (w2.cell? (zA gI q)=some (zI (V.I q))∧w2.frozen? (zA gI q)=false):=⟨iq,fq⟩
 clear X2 O2 iq fq
 have hq':(q:Int)<V.nI:=by omega
 cases hne:(pn != V.I q)
 ·have ht0:Hid (takeB c d V (dA V.W V.nW) q pn 2 pi pa pc=decide (V.g+pc≤900)):=by unfold Hid;simp [takeB,hne,mg]
  by_cases hgt:V.g+pc≤900
  ·have hd:decide (900<V.g+pc)=false:=decide_eq_false (by omega)
   have ht:Hid (takeB c d V (dA V.W V.nW) q pn 2 pi pa pc=true):=by rw [ht0.out];exact decide_eq_true hgt
   obtain ⟨yP0,yP1,yP2,yP3,yP4,yP5,yP6,yP7⟩:=P3.out.a8
   have hlP:(w.heap.size+1+1)<w2.heap.size:=P3.out.1
   obtain ⟨yX0,yX1,yX2,yX3,yX4,yX5⟩:=X5.out.a6
   obtain ⟨zX0,zX1,zX2,zX3,zX4,zX5⟩:=X5.out.f6
   have hlX:x8<w2.heap.size:=X5.out.1
   have iq:=I7.out.1
   have fq:=I7.out.2
   have lg:gI<w2.heap.size:=by have:=X5.out.1;omega
   go_upto_region 2 with fail
   go_quiet (fail)
   obtain ⟨w3,e3⟩:∃ W,W=w2.drewN nq:=⟨_,rfl⟩
   rw [←e3]
   have k3:Below w2.heap.size w2 w3:=by rw [e3];exact bZ (Hr _ _) _
   have kz:w2.heap.size≤w3.heap.size:=k3.size
   clear e3
   clear yP0 yP1 yP2 yP3 yP4 yP5 yP6 yP7 hlP yX0 zX0 yX1 zX1 yX2 zX2 yX3 zX3 yX4 zX4 yX5 zX5 hlX iq fq lg
   have y_w3:w2.heap.size≤w3.heap.size:=k3.size
   have B8:=hid (ah B1.out k3)
   have M8:=hid (M2.out.below k3)
   have P8:=hid (P3.out.below k3)
   have R8:=hid (R4.out.below k3)
   have X8:=hid (X5.out.below k3)
   have O8:=hid (O6.out.below (by omega) k3)
   have I8:Hid (w3.cell? (zA gI q)=some (zI (V.I q))∧w3.frozen? (zA gI q)=false):=⟨(k3.cell (p:=(zA gI q)) (by show gI<_;omega)).trans I7.out.1,(k3.frozen (p:=(zA gI q)) (by show gI<_;omega)).trans I7.out.2⟩
   clear B1 M2 P3 R4 X5 O6 I7
   clear k3
   obtain ⟨yP0,yP1,yP2,yP3,yP4,yP5,yP6,yP7⟩:=P8.out.a8
   have hlP:(w.heap.size+1+1)<w3.heap.size:=P8.out.1
   obtain ⟨yX0,yX1,yX2,yX3,yX4,yX5⟩:=X8.out.a6
   obtain ⟨zX0,zX1,zX2,zX3,zX4,zX5⟩:=X8.out.f6
   have hlX:x8<w3.heap.size:=X8.out.1
   go_upto_region 12 with fail
   clear yP0 yP1 yP2 yP3 yP4 yP5 yP6 yP7 hlP yX0 zX0 yX1 zX1 yX2 zX2 yX3 zX3 yX4 zX4 yX5 zX5 hlX
   obtain ⟨w4,e4⟩:∃ W,W=w3.setCell (zA x8 2) (zI (V.g+pc)):=⟨_,rfl⟩
   rw [←e4]
   have z4:w4.heap.size=w3.heap.size:=by rw [e4];exact ay
   have s4:∀ b,¬ b=x8→Sm w3 w4 b:=by rw [e4];exact fun b hb=>cZ hb
   have B4:Hid (Below w.heap.size w w4):=by rw [e4];exact B8.out.setCell (by show w.heap.size≤x8;omega) _
   have X4:Hid (Bk w4 x8 [zI V.c,.slice aW V.nW kW,zI (V.g+pc),.slice aO V.nO kO,.slice aX V.nX kX,zS gI V.nI kI]):=by rw [e4];exact X8.out.G9
   have R4:=hid (R8.out.sm (W':=w4) (Hl z4.symm) (s4 _ (by omega)))
   have O4:Hid (aV l0 x8 w4 (.agg #[zI V.c,.slice aW V.nW kW,zI (V.g+pc),.slice aO V.nO kO,.slice aX V.nX kX,zS gI V.nI kI]) { V with g:=V.g+pc }):=(O8.out.gr (V.g+pc)).sm (Hl z4.symm) (fun b _ hb=>s4 b (by omega))
   have I4:Hid (w4.cell? (zA gI q)=some (zI (V.I q))∧w4.frozen? (zA gI q)=false):=⟨(s4 gI (by omega) q).1.trans I8.out.1,(s4 gI (by omega) q).2.trans I8.out.2⟩
   clear e4 s4
   obtain ⟨yX0,yX1,yX2,yX3,yX4,yX5⟩:=X4.out.a6
   have hlX:x8<w4.heap.size:=X4.out.1
   have iq:=I4.out.1
   have fq:=I4.out.2
   have lg:gI<w4.heap.size:=by have:=X4.out.1;omega
   have SE:Hid (∀ z,aV l0 x8 (w4.setCell (zA gI q) (zI z)) (.agg #[zI V.c,.slice aW V.nW kW,zI (V.g+pc),.slice aO V.nO kO,.slice aX V.nX kX,zS gI V.nI kI]) { ({ V with g:=V.g+pc }:CV) with I:=jo ({ V with g:=V.g+pc }:CV).I q z }):=fun z=>by
    obtain ⟨gJ,eJ,_,_,_,_,_,hset⟩:=aV.ins (q:=q) (V:=({ V with g:=V.g+pc }:CV)) O4.out hq
    simp only [Option.some.injEq,Addr.mk.injEq,and_true] at eJ
    subst eJ
    exact hset z
   go_upto_region 12 with fail
   go_region
   clear yX0 yX1 yX2 yX3 yX4 yX5 hlX iq fq lg
   obtain ⟨w5,e5⟩:∃ W,W=(w4.setCell (zA gI q) (zI (V.I q+1))).drew:=⟨_,rfl⟩
   rw [←e5]
   have z5:w5.heap.size=w4.heap.size:=by rw [e5];exact ay
   have s5:∀ b,¬ b=gI→Sm w4 w5 b:=by rw [e5];exact fun b hb=>cZ hb
   have B5:Hid (Below w.heap.size w w5):=by rw [e5];exact (B4.out.setCell (by show w.heap.size≤gI;omega) _).drew
   have X5:=hid (X4.out.sm (W':=w5) (Hl z5.symm) (s5 _ (by omega)))
   have R5:=hid (R4.out.sm (W':=w5) (Hl z5.symm) (s5 _ (by omega)))
   have O5:Hid (aV l0 x8 w5 (.agg #[zI V.c,.slice aW V.nW kW,zI (V.g+pc),.slice aO V.nO kO,.slice aX V.nX kX,zS gI V.nI kI]) { ({ V with g:=V.g+pc }:CV) with I:=jo V.I q (V.I q+1) }):=by rw [e5];exact (SE.out (V.I q+1)).drew
   clear e5 s5 SE
   obtain ⟨yX0,yX1,yX2,yX3,yX4,yX5⟩:=X5.out.a6
   have hlX:x8<w5.heap.size:=X5.out.1
   obtain ⟨yR0,yR1,yR2,yR3,yR4,yR5⟩:=R5.out.a6
   obtain ⟨zR0,zR1,zR2,zR3,zR4,zR5⟩:=R5.out.f6
   have hlR:(w.heap.size+1+1+1)<w5.heap.size:=R5.out.1
   go_wp2
   refine Hw (v:=.tuple #[.agg #[zI V.c,.slice aW V.nW kW,zI (V.g+pc),.slice aO V.nO kO,.slice aX V.nX kX,zS gI V.nI kI],.bool true]) (by simp [results,Tryz.results81,go_sem,yR0,yR1,yR2,yR3,yR4,yR5]) rfl ?_
   have hzz:=au w5 (w.heap.size+1+1+1) (.int .i64 V.c) (.slice aW V.nW kW) (.int .i64 (V.g+pc)) (.slice aO V.nO kO) (.slice aX V.nX kX) (.slice (some ⟨gI,0,none⟩) V.nI kI)
   have hzw:x8≤w5.heap.size:=by have:=X5.out.1;omega
   refine ⟨⟨.agg #[zI V.c,.slice aW V.nW kW,zI (V.g+pc),.slice aO V.nO kO,.slice aX V.nX kX,zS gI V.nI kI],by rw [ht.out],?_⟩,ax B5.out (by omega) _ _ _ _ _ _⟩
   rw [AY (pm:=pm) (ps:=ps) (pl:=pl) ht.out]
   show aV w.heap.size (aG w5 (w.heap.size+1+1+1) (zI V.c) (.slice aW V.nW kW) (zI (V.g+pc)) (.slice aO V.nO kO) (.slice aX V.nX kX) (zS gI V.nI kI)).heap.size (aG w5 (w.heap.size+1+1+1) (zI V.c) (.slice aW V.nW kW) (zI (V.g+pc)) (.slice aO V.nO kO) (.slice aX V.nX kX) (zS gI V.nI kI)) _ _
   rw [hzz]
   exact O5.out.more (by omega) hzw (Hl hzz.symm) (fun y h1 h2=>aH (by omega) (zI V.c) (.slice aW V.nW kW) (zI (V.g+pc)) (.slice aO V.nO kO) (.slice aX V.nX kX) (zS gI V.nI kI))
  ·have hd:decide (900<V.g+pc)=true:=decide_eq_true (by omega)
   have ht:Hid (takeB c d V (dA V.W V.nW) q pn 2 pi pa pc=false):=by rw [ht0.out];exact decide_eq_false hgt
   obtain ⟨yP0,yP1,yP2,yP3,yP4,yP5,yP6,yP7⟩:=P3.out.a8
   have hlP:(w.heap.size+1+1)<w2.heap.size:=P3.out.1
   have yX0:w2.cell? (zA x8 0)=some (zI V.c):=(X5.out.2 0 (by simp)).1
   have yX1:w2.cell? (zA x8 1)=some (.slice aW V.nW kW):=(X5.out.2 1 (by simp)).1
   have yX2:w2.cell? (zA x8 2)=some (zI V.g):=(X5.out.2 2 (by simp)).1
   have yX3:w2.cell? (zA x8 3)=some (.slice aO V.nO kO):=(X5.out.2 3 (by simp)).1
   have yX4:w2.cell? (zA x8 4)=some (.slice aX V.nX kX):=(X5.out.2 4 (by simp)).1
   have yX5:w2.cell? (zA x8 5)=some (zS gI V.nI kI):=(X5.out.2 5 (by simp)).1
   have hlX:x8<w2.heap.size:=X5.out.1
   have iq:=I7.out.1
   have fq:=I7.out.2
   have lg:gI<w2.heap.size:=by have:=X5.out.1;omega
   go_upto_region 2 with fail
   go_quiet (fail)
   obtain ⟨w3,e3⟩:∃ W,W=w2.drewN nq:=⟨_,rfl⟩
   rw [←e3]
   have k3:Below w2.heap.size w2 w3:=by rw [e3];exact bZ (Hr _ _) _
   have kz:w2.heap.size≤w3.heap.size:=k3.size
   clear e3
   clear yP0 yP1 yP2 yP3 yP4 yP5 yP6 yP7 hlP yX0 yX1 yX2 yX3 yX4 yX5 hlX iq fq lg
   have y_w3:w2.heap.size≤w3.heap.size:=k3.size
   have B8:=hid (ah B1.out k3)
   have M8:=hid (M2.out.below k3)
   have P8:=hid (P3.out.below k3)
   have R8:=hid (R4.out.below k3)
   have X8:Hid (Bk w3 x8 [zI V.c,.slice aW V.nW kW,zI V.g,.slice aO V.nO kO,.slice aX V.nX kX,zS gI V.nI kI]):=X5.out.below k3
   have O8:=hid (O6.out.below (by omega) k3)
   have I8:Hid (w3.cell? (zA gI q)=some (zI (V.I q))∧w3.frozen? (zA gI q)=false):=⟨(k3.cell (p:=(zA gI q)) (by show gI<_;omega)).trans I7.out.1,(k3.frozen (p:=(zA gI q)) (by show gI<_;omega)).trans I7.out.2⟩
   clear B1 M2 P3 R4 X5 O6 I7
   clear k3
   obtain ⟨yP0,yP1,yP2,yP3,yP4,yP5,yP6,yP7⟩:=P8.out.a8
   have hlP:(w.heap.size+1+1)<w3.heap.size:=P8.out.1
   obtain ⟨yX0,yX1,yX2,yX3,yX4,yX5⟩:=X8.out.a6
   have hlX:x8<w3.heap.size:=X8.out.1
   obtain ⟨yR0,yR1,yR2,yR3,yR4,yR5⟩:=R8.out.a6
   obtain ⟨zR0,zR1,zR2,zR3,zR4,zR5⟩:=R8.out.f6
   have hlR:(w.heap.size+1+1+1)<w3.heap.size:=R8.out.1
   go_wp2
   refine Hw (v:=.tuple #[.agg #[zI V.c,.slice aW V.nW kW,zI V.g,.slice aO V.nO kO,.slice aX V.nX kX,zS gI V.nI kI],.bool false]) (by simp [results,Tryz.results81,go_sem,yR0,yR1,yR2,yR3,yR4,yR5]) rfl ?_
   have hzz:=au w3 (w.heap.size+1+1+1) (.int .i64 V.c) (.slice aW V.nW kW) (.int .i64 V.g) (.slice aO V.nO kO) (.slice aX V.nX kX) (.slice (some ⟨gI,0,none⟩) V.nI kI)
   have hzw:x8≤w3.heap.size:=by have:=X8.out.1;omega
   refine ⟨⟨.agg #[zI V.c,.slice aW V.nW kW,zI V.g,.slice aO V.nO kO,.slice aX V.nX kX,zS gI V.nI kI],by rw [ht.out],?_⟩,ax B8.out (by omega) _ _ _ _ _ _⟩
   rw [rY (pm:=pm) (ps:=ps) (pl:=pl) ht.out]
   show aV w.heap.size (aG w3 (w.heap.size+1+1+1) (zI V.c) (.slice aW V.nW kW) (zI V.g) (.slice aO V.nO kO) (.slice aX V.nX kX) (zS gI V.nI kI)).heap.size (aG w3 (w.heap.size+1+1+1) (zI V.c) (.slice aW V.nW kW) (zI V.g) (.slice aO V.nO kO) (.slice aX V.nX kX) (zS gI V.nI kI)) _ _
   rw [hzz]
   exact O8.out.more (by omega) hzw (Hl hzz.symm) (fun y h1 h2=>aH (by omega) (zI V.c) (.slice aW V.nW kW) (zI V.g) (.slice aO V.nO kO) (.slice aX V.nX kX) (zS gI V.nI kI))
 ·have ht:Hid (takeB c d V (dA V.W V.nW) q pn 2 pi pa pc=false):=by unfold Hid;simp [takeB,hne]
  obtain ⟨yP0,yP1,yP2,yP3,yP4,yP5,yP6,yP7⟩:=P3.out.a8
  have hlP:(w.heap.size+1+1)<w2.heap.size:=P3.out.1
  have yX0:w2.cell? (zA x8 0)=some (zI V.c):=(X5.out.2 0 (by simp)).1
  have yX1:w2.cell? (zA x8 1)=some (.slice aW V.nW kW):=(X5.out.2 1 (by simp)).1
  have yX2:w2.cell? (zA x8 2)=some (zI V.g):=(X5.out.2 2 (by simp)).1
  have yX3:w2.cell? (zA x8 3)=some (.slice aO V.nO kO):=(X5.out.2 3 (by simp)).1
  have yX4:w2.cell? (zA x8 4)=some (.slice aX V.nX kX):=(X5.out.2 4 (by simp)).1
  have yX5:w2.cell? (zA x8 5)=some (zS gI V.nI kI):=(X5.out.2 5 (by simp)).1
  have hlX:x8<w2.heap.size:=X5.out.1
  have iq:=I7.out.1
  have fq:=I7.out.2
  have lg:gI<w2.heap.size:=by have:=X5.out.1;omega
  go_upto_region 2 with fail
  go_quiet (fail)
  obtain ⟨w3,e3⟩:∃ W,W=w2.drewN nq:=⟨_,rfl⟩
  rw [←e3]
  have k3:Below w2.heap.size w2 w3:=by rw [e3];exact bZ (Hr _ _) _
  have kz:w2.heap.size≤w3.heap.size:=k3.size
  clear e3
  clear yP0 yP1 yP2 yP3 yP4 yP5 yP6 yP7 hlP yX0 yX1 yX2 yX3 yX4 yX5 hlX iq fq lg
  have y_w3:w2.heap.size≤w3.heap.size:=k3.size
  have B8:=hid (ah B1.out k3)
  have M8:=hid (M2.out.below k3)
  have P8:=hid (P3.out.below k3)
  have R8:=hid (R4.out.below k3)
  have X8:Hid (Bk w3 x8 [zI V.c,.slice aW V.nW kW,zI V.g,.slice aO V.nO kO,.slice aX V.nX kX,zS gI V.nI kI]):=X5.out.below k3
  have O8:=hid (O6.out.below (by omega) k3)
  have I8:Hid (w3.cell? (zA gI q)=some (zI (V.I q))∧w3.frozen? (zA gI q)=false):=⟨(k3.cell (p:=(zA gI q)) (by show gI<_;omega)).trans I7.out.1,(k3.frozen (p:=(zA gI q)) (by show gI<_;omega)).trans I7.out.2⟩
  clear B1 M2 P3 R4 X5 O6 I7
  clear k3
  obtain ⟨yX0,yX1,yX2,yX3,yX4,yX5⟩:=X8.out.a6
  have hlX:x8<w3.heap.size:=X8.out.1
  obtain ⟨yR0,yR1,yR2,yR3,yR4,yR5⟩:=R8.out.a6
  obtain ⟨zR0,zR1,zR2,zR3,zR4,zR5⟩:=R8.out.f6
  have hlR:(w.heap.size+1+1+1)<w3.heap.size:=R8.out.1
  go_wp2
  refine Hw (v:=.tuple #[.agg #[zI V.c,.slice aW V.nW kW,zI V.g,.slice aO V.nO kO,.slice aX V.nX kX,zS gI V.nI kI],.bool false]) (by simp [results,Tryz.results81,go_sem,yR0,yR1,yR2,yR3,yR4,yR5]) rfl ?_
  have hzz:=au w3 (w.heap.size+1+1+1) (.int .i64 V.c) (.slice aW V.nW kW) (.int .i64 V.g) (.slice aO V.nO kO) (.slice aX V.nX kX) (.slice (some ⟨gI,0,none⟩) V.nI kI)
  have hzw:x8≤w3.heap.size:=by have:=X8.out.1;omega
  refine ⟨⟨.agg #[zI V.c,.slice aW V.nW kW,zI V.g,.slice aO V.nO kO,.slice aX V.nX kX,zS gI V.nI kI],by rw [ht.out],?_⟩,ax B8.out (by omega) _ _ _ _ _ _⟩
  rw [rY (pm:=pm) (ps:=ps) (pl:=pl) ht.out]
  show aV w.heap.size (aG w3 (w.heap.size+1+1+1) (zI V.c) (.slice aW V.nW kW) (zI V.g) (.slice aO V.nO kO) (.slice aX V.nX kX) (zS gI V.nI kI)).heap.size (aG w3 (w.heap.size+1+1+1) (zI V.c) (.slice aW V.nW kW) (zI V.g) (.slice aO V.nO kO) (.slice aX V.nX kX) (zS gI V.nI kI)) _ _
  rw [hzz]
  exact O8.out.more (by omega) hzw (Hl hzz.symm) (fun y h1 h2=>aH (by omega) (zI V.c) (.slice aW V.nW kW) (zI V.g) (.slice aO V.nO kO) (.slice aX V.nX kX) (zS gI V.nI kI))
