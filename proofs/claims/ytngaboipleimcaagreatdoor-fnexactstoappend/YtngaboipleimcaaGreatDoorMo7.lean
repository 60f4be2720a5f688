/- l5Throw of the model; conditions: the cell lies in memory. -/
import Derived.Test.YtngaboipleimcaaGreatDoorMo1
set_option linter.unusedVariables false
set_option maxHeartbeats 4000000
set_option maxRecDepth 20000
namespace Go.Proofs.YtngaboipleimcaaGreatDoor
open Go.RowKit Go.Deep
def Kd (lo:Nat) (Ok:Nat→Prop) (w w':World) (e:Ending) (r:CV × Int):Prop :=
 ∃ u r',e=.returned (.tuple #[u,zI r.2])∧w.heap.size≤r'∧r'≤w'.heap.size∧Md lo (fun x=>(Ok x∧x<w.heap.size)∨r'≤x) w' u r.1∧Fr lo Ok w w'
theorem wB (lo m:Nat) (Ok:Nat→Prop) (v:Value) (V:CV) (nn:Int) (hnW:V.nW≤1048576) (hr:dJ V.W V.nW) (hm:m<V.nW) (hn:1≤nn∧nn≤9) (hc:0≤V.W m 2∧V.W m 2≤99) (hg:0≤V.g∧V.g≤900) (w:World) (h:Md lo Ok w v V) :
 Hz 138 #[v,.agg (zF (V.W m)).toArray,zI nn] w fun e w'=>Kd lo Ok w w' e (dQ V m nn):=by
 obtain ⟨gW,cW,gO,cO,gX,cX,gI,cI,rfl,_,_,llo⟩:=h.form
 go_enter Tryz.func138,Tryz.ntmps138
 go_upto_region 1 with fail
 obtain ⟨w0,e0,hb0,C0,W0,R0,-⟩:=FZ w (zC V gW cW gO cO gX cX gI cI) 41 (zF (V.W m)) 48 zN 41
 rw [←e0]
 clear e0
 have rr1:w.heap.size+3≤w0.heap.size:=R0.1
 have B1:Hid (Below w.heap.size w w0):=hb0
 have C2:Hid (Bk w0 w.heap.size (zC V gW cW gO cO gX cX gI cI)):=C0
 have W3:Hid (Bk w0 (w.heap.size+1) (zF (V.W m))):=W0
 have R4:Hid (Bk w0 (w.heap.size+1+1) zN):=R0
 have D5:Hid (Md lo (fun x=>Ok x∧x<w.heap.size) w0 (.agg (zC V gW cW gO cO gX cX gI cI).toArray) V):=(h.in (fun x hx ho=>⟨ho,hx⟩)).below hb0
 have Z6:Hid (w.heap.size+3≤w0.heap.size):=rr1
 clear hb0 h C0 W0 R0
 obtain ⟨yC0,yC1,yC2,yC3,yC4,yC5⟩:=C2.out.a6
 have hlC:w.heap.size<w0.heap.size:=C2.out.1
 obtain ⟨yW0,yW1,yW2,yW3,yW4⟩:=W3.out.a5
 obtain ⟨zW0,zW1,zW2,zW3,zW4⟩:=W3.out.f5
 have hlW:(w.heap.size+1)<w0.heap.size:=W3.out.1
 by_cases hpoor:V.W m 2<nn
 ·have ER:Hid (dQ V m nn=(V,3)):=by unfold Hid dQ;rw [if_pos hpoor]
  obtain ⟨yR0,yR1,yR2,yR3,yR4,yR5⟩:=R4.out.a6
  obtain ⟨zR0,zR1,zR2,zR3,zR4,zR5⟩:=R4.out.f6
  have hlR:(w.heap.size+1+1)<w0.heap.size:=R4.out.1
  go_wp2
  refine Hw (v:=.tuple #[.agg (zC V gW cW gO cO gX cX gI cI).toArray,zI 3]) (by simp [results,Tryz.results138,go_sem,yR0,yR1,yR2,yR3,yR4,yR5]) rfl ?_
  have hzz:=au w0 ((w.heap.size+1+1)) (.int .i64 V.c) (.slice (some ⟨gW,0,none⟩) V.nW cW) (.int .i64 V.g) (.slice (some ⟨gO,0,none⟩) V.nO cO) (.slice (some ⟨gX,0,none⟩) V.nX cX) (.slice (some ⟨gI,0,none⟩) V.nI cI)
  have rz:=Z6.out
  refine ⟨_,w.heap.size,by rw [ER.out],Ho _,?_,?_,?_⟩
  ·show _≤(aG _ _ _ _ _ _ _ _).heap.size
   omega
  ·rw [ER.out]
   show Md lo _ (aG w0 ((w.heap.size+1+1)) (zI V.c) (zS gW V.nW cW) (zI V.g) (zS gO V.nO cO) (zS gX V.nX cX) (zS gI V.nI cI)) _ _
   exact (D5.out.sm (Hl hzz.symm) (fun x hx ho=>aH (fun e=>by have:=ho.2;omega) (zI V.c) (zS gW V.nW cW) (zI V.g) (zS gO V.nO cO) (zS gX V.nX cX) (zS gI V.nI cI))).in (fun x _ ho=>.inl ho)
  ·exact Fr.of (ax B1.out (by omega) (zI V.c) (zS gW V.nW cW) (zI V.g) (zS gO V.nO cO) (zS gX V.nX cX) (zS gI V.nI cI)) llo
 ·by_cases hfull:900<V.g+nn
  ·have e1:¬ V.W m 2<nn:=hpoor
   have e2:V.g+nn > 900:=hfull
   have ER:Hid (dQ V m nn=(V,5)):=by unfold Hid dQ;rw [if_neg hpoor,if_pos hfull]
   obtain ⟨yR0,yR1,yR2,yR3,yR4,yR5⟩:=R4.out.a6
   obtain ⟨zR0,zR1,zR2,zR3,zR4,zR5⟩:=R4.out.f6
   have hlR:(w.heap.size+1+1)<w0.heap.size:=R4.out.1
   go_wp2
   refine Hw (v:=.tuple #[.agg (zC V gW cW gO cO gX cX gI cI).toArray,zI 5]) (by simp [results,Tryz.results138,go_sem,yR0,yR1,yR2,yR3,yR4,yR5]) rfl ?_
   have hzz:=au w0 ((w.heap.size+1+1)) (.int .i64 V.c) (.slice (some ⟨gW,0,none⟩) V.nW cW) (.int .i64 V.g) (.slice (some ⟨gO,0,none⟩) V.nO cO) (.slice (some ⟨gX,0,none⟩) V.nX cX) (.slice (some ⟨gI,0,none⟩) V.nI cI)
   have rz:=Z6.out
   refine ⟨_,w.heap.size,by rw [ER.out],Ho _,?_,?_,?_⟩
   ·show _≤(aG _ _ _ _ _ _ _ _).heap.size
    omega
   ·rw [ER.out]
    show Md lo _ (aG w0 ((w.heap.size+1+1)) (zI V.c) (zS gW V.nW cW) (zI V.g) (zS gO V.nO cO) (zS gX V.nX cX) (zS gI V.nI cI)) _ _
    exact (D5.out.sm (Hl hzz.symm) (fun x hx ho=>aH (fun e=>by have:=ho.2;omega) (zI V.c) (zS gW V.nW cW) (zI V.g) (zS gO V.nO cO) (zS gX V.nX cX) (zS gI V.nI cI))).in (fun x _ ho=>.inl ho)
   ·exact Fr.of (ax B1.out (by omega) (zI V.c) (zS gW V.nW cW) (zI V.g) (zS gO V.nO cO) (zS gX V.nX cX) (zS gI V.nI cI)) llo
  ·have e1:¬ V.W m 2<nn:=hpoor
   have e2:¬ V.g+nn > 900:=hfull
   have zC:=C2.out.f6.2.2.1
   have ER:Hid (dQ V m nn=((V.setW m (zc (V.W m) (-nn))).sU (V.g+nn),1)):=by unfold Hid dQ;rw [if_neg hpoor,if_neg hfull]
   go_upto_region 7 with fail
   clear yC0 yC1 yC2 yC3 yC4 yC5 hlC yW0 zW0 yW1 zW1 yW2 zW2 yW3 zW3 yW4 zW4 hlW
   clear zC
   obtain ⟨w1,e1x⟩:∃ X,X=w0.setCell (zA (w.heap.size+1) 2) (zI (V.W m 2 - nn)):=⟨_,rfl⟩
   have e1xz:w1.heap.size=w0.heap.size:=by rw [e1x];exact ay
   have B7:Hid (Below w.heap.size w w1):=by unfold Hid;rw [e1x];exact B1.out.setCell (by show w.heap.size≤(w.heap.size+1);omega) _
   have C7:Hid (Bk w1 w.heap.size (zC V gW cW gO cO gX cX gI cI)):=by unfold Hid;rw [e1x];exact C2.out.far (by omega)
   have W7:Hid (Bk w1 ((w.heap.size+1)) [zI (V.W m 0),zI (V.W m 1),zI (V.W m 2 - nn),zI (V.W m 3),zI (V.W m 4)]):=by unfold Hid;rw [e1x];exact W3.out.set (j:=2) (by simp)
   have R7:Hid (Bk w1 (w.heap.size+1+1) zN):=by unfold Hid;rw [e1x];exact R4.out.far (by omega)
   have D7:=hid (D5.out.sm (w':=w1) (by omega) (fun x hx ho=>by rw [e1x];exact cZ (fun e=>by first | (have:=ho.2;omega) | (rcases ho with h | h <;> omega))))
   have Z7:Hid (w.heap.size+3≤w1.heap.size):=by unfold Hid;rw [e1xz];exact Z6.out
   rw [←e1x]
   clear e1x B1 C2 W3 R4 D5 Z6
   obtain ⟨w2,e2x⟩:∃ X,X=w1.setCell (zA w.heap.size 2) (zI (V.g+nn)):=⟨_,rfl⟩
   have e2xz:w2.heap.size=w1.heap.size:=by rw [e2x];exact ay
   have B8:Hid (Below w.heap.size w w2):=by unfold Hid;rw [e2x];exact B7.out.setCell (by show w.heap.size≤w.heap.size;omega) _
   have C8:Hid (Bk w2 (w.heap.size) [zI V.c,zS gW V.nW cW,zI (V.g+nn),zS gO V.nO cO,zS gX V.nX cX,zS gI V.nI cI]):=by unfold Hid;rw [e2x];exact C7.out.set (j:=2) (by simp)
   have W8:Hid (Bk w2 ((w.heap.size+1)) [zI (V.W m 0),zI (V.W m 1),zI (V.W m 2 - nn),zI (V.W m 3),zI (V.W m 4)]):=by unfold Hid;rw [e2x];exact W7.out.far (by omega)
   have R8:Hid (Bk w2 (w.heap.size+1+1) zN):=by unfold Hid;rw [e2x];exact R7.out.far (by omega)
   have D8:=hid (D7.out.sm (w':=w2) (by omega) (fun x hx ho=>by rw [e2x];exact cZ (fun e=>by first | (have:=ho.2;omega) | (rcases ho with h | h <;> omega))))
   have Z8:Hid (w.heap.size+3≤w2.heap.size):=by unfold Hid;rw [e2xz];exact Z7.out
   rw [←e2x]
   clear e2x B7 C7 W7 R7 D7 Z7
   obtain ⟨yC0,yC1,yC2,yC3,yC4,yC5⟩:=C8.out.a6
   have hlC:w.heap.size<w2.heap.size:=C8.out.1
   obtain ⟨yW0,yW1,yW2,yW3,yW4⟩:=W8.out.a5
   have hlW:(w.heap.size+1)<w2.heap.size:=W8.out.1
   go_wp2_with fail
   clear yC0 yC1 yC2 yC3 yC4 yC5 hlC yW0 yW1 yW2 yW3 yW4 hlW
   obtain ⟨r0,er0⟩:∃ r,r=w2.heap.size:=⟨_,rfl⟩
   have lbC:w.heap.size<r0:=by rw [er0];exact C8.out.1
   have lbW:(w.heap.size+1)<r0:=by rw [er0];exact W8.out.1
   have lbR:(w.heap.size+1+1)<r0:=by rw [er0];exact R8.out.1
   have lr0:r0≤w2.heap.size:=Hl er0
   have lr1:w2.heap.size≤r0:=Hl er0.symm
   clear er0
   obtain ⟨_,_,_,_,_,_,_,_,ef,hgW,hcW,_⟩:=D8.out.form
   have ef:=kV ef
   simp only [Value.slice.injEq,Option.some.injEq,Addr.mk.injEq,and_true,true_and] at ef
   obtain ⟨⟨rfl,rfl⟩,_⟩:=ef
   refine (jh (some (zA gW 0)) gW V.nW cW m V.W (zc (V.W m) (-nn)) hnW _ (fun _=>hgW) (fun _=>rfl) hr hm rfl hcW).mono ?_
   rintro e w5 ⟨v2,rfl,ho2,hb2⟩
   obtain ⟨a2,n2,c2,rfl⟩:=bP ho2
   have hv2:Value.slice a2 n2 c2≠Value.slice none 0 0:=fun e=>by rw [e] at ho2;rcases ho2.2 with ⟨_,h⟩ | ⟨_,_,_,h,_⟩;omega;cases h
   have DPUT:Hid (Md lo (fun x=>(Ok x∧x<w.heap.size)∨r0≤x) w5 (.agg #[zI V.c,.slice a2 n2 c2,zI V.g,zS gO V.nO cO,zS gX V.nX cX,zS gI V.nI cI]) (V.setW m (zc (V.W m) (-nn)))):=((D8.out.in (fun x _ ho=>.inl ho)).below hb2).wk (fun x h1 _=>.inr (by omega)) ((D8.out.in (fun x hx _=>hx)).below hb2) ho2 hv2
   have lz2:r0≤w5.heap.size:=Hq lr0 hb2.size
   have y_w5:w2.heap.size≤w5.heap.size:=hb2.size
   have B9:=hid (ah B8.out hb2)
   have C9:=hid (C8.out.below hb2)
   have W9:=hid (W8.out.below hb2)
   have R9:=hid (R8.out.below hb2)
   have D9:=hid (D8.out.below hb2)
   have Z9:Hid (w.heap.size+3≤w5.heap.size):=Hq Z8.out hb2.size
   clear B8 C8 W8 R8 D8 Z8
   clear hb2 ho2 hv2 hgW hcW lr0 lr1
   clear Z9
   have Z10:Hid (r0≤w5.heap.size):=lz2
   clear lz2
   have DG:Hid (Md lo (fun x=>(Ok x∧x<w.heap.size)∨r0≤x) w5 (.agg #[zI V.c,.slice a2 n2 c2,zI (V.g+nn),zS gO V.nO cO,zS gX V.nX cX,zS gI V.nI cI]) ((V.setW m (zc (V.W m) (-nn))).sU (V.g+nn))):=DPUT.out.gr (V.g+nn)
   clear DPUT
   clear D9
   have D11:Hid (Md lo (fun x=>(Ok x∧x<w.heap.size)∨r0≤x) w5 (.agg #[zI V.c,.slice a2 n2 c2,zI (V.g+nn),zS gO V.nO cO,zS gX V.nX cX,zS gI V.nI cI]) ((V.setW m (zc (V.W m) (-nn))).sU (V.g+nn))):=DG.out
   obtain ⟨yC0,yC1,yC2,yC3,yC4,yC5⟩:=C9.out.a6
   obtain ⟨zC0,zC1,zC2,zC3,zC4,zC5⟩:=C9.out.f6
   have hlC:w.heap.size<w5.heap.size:=C9.out.1
   go_upto_region 8 with fail
   clear yC0 zC0 yC1 zC1 yC2 zC2 yC3 zC3 yC4 zC4 yC5 zC5 hlC
   obtain ⟨w6,e6x⟩:∃ X,X=w5.setCell (zA w.heap.size 1) (.slice a2 n2 c2):=⟨_,rfl⟩
   have e6xz:w6.heap.size=w5.heap.size:=by rw [e6x];exact ay
   have B12:Hid (Below w.heap.size w w6):=by unfold Hid;rw [e6x];exact B9.out.setCell (by show w.heap.size≤w.heap.size;omega) _
   have C12:Hid (Bk w6 (w.heap.size) [zI V.c,.slice a2 n2 c2,zI (V.g+nn),zS gO V.nO cO,zS gX V.nX cX,zS gI V.nI cI]):=by unfold Hid;rw [e6x];exact C9.out.set (j:=1) (by simp)
   have W12:Hid (Bk w6 ((w.heap.size+1)) [zI (V.W m 0),zI (V.W m 1),zI (V.W m 2 - nn),zI (V.W m 3),zI (V.W m 4)]):=by unfold Hid;rw [e6x];exact W9.out.far (by omega)
   have R12:Hid (Bk w6 (w.heap.size+1+1) zN):=by unfold Hid;rw [e6x];exact R9.out.far (by omega)
   have Z12:Hid (r0≤w6.heap.size):=by unfold Hid;rw [e6xz];exact Z10.out
   have D12:=hid (D11.out.sm (w':=w6) (by omega) (fun x hx ho=>by rw [e6x];exact cZ (fun e=>by first | (have:=ho.2;omega) | (rcases ho with h | h <;> omega))))
   rw [←e6x]
   clear e6x B9 C9 W9 R9 Z10 D11
   obtain ⟨yC0,yC1,yC2,yC3,yC4,yC5⟩:=C12.out.a6
   have hlC:w.heap.size<w6.heap.size:=C12.out.1
   obtain ⟨yR0,yR1,yR2,yR3,yR4,yR5⟩:=R12.out.a6
   obtain ⟨zR0,zR1,zR2,zR3,zR4,zR5⟩:=R12.out.f6
   have hlR:(w.heap.size+1+1)<w6.heap.size:=R12.out.1
   go_wp2
   refine Hw (v:=.tuple #[.agg #[zI V.c,.slice a2 n2 c2,zI (V.g+nn),zS gO V.nO cO,zS gX V.nX cX,zS gI V.nI cI],zI 1]) (by simp [results,Tryz.results138,go_sem,yR0,yR1,yR2,yR3,yR4,yR5]) rfl ?_
   have hzz:=au w6 ((w.heap.size+1+1)) (.int .i64 V.c) (.slice a2 n2 c2) (.int .i64 (V.g+nn)) (.slice (some ⟨gO,0,none⟩) V.nO cO) (.slice (some ⟨gX,0,none⟩) V.nX cX) (.slice (some ⟨gI,0,none⟩) V.nI cI)
   have rz:=Z12.out
   refine ⟨_,r0,by rw [ER.out],by omega,?_,?_,?_⟩
   ·show _≤(aG _ _ _ _ _ _ _ _).heap.size
    omega
   ·rw [ER.out]
    show Md lo _ (aG w6 ((w.heap.size+1+1)) (zI V.c) (.slice a2 n2 c2) (zI (V.g+nn)) (zS gO V.nO cO) (zS gX V.nX cX) (zS gI V.nI cI)) _ _
    exact D12.out.sm (Hl hzz.symm) (fun x hx ho=>aH (fun e=>by rcases ho with h | h <;> omega) (zI V.c) (.slice a2 n2 c2) (zI (V.g+nn)) (zS gO V.nO cO) (zS gX V.nX cX) (zS gI V.nI cI))
   ·exact Fr.of (ax B12.out (by omega) (zI V.c) (.slice a2 n2 c2) (zI (V.g+nn)) (zS gO V.nO cO) (zS gX V.nX cX) (zS gI V.nI cI)) llo
theorem wJ (lo m:Nat) (Ok:Nat→Prop) (v:Value) (V:CV) (nn:Int) (hnW:V.nW≤1048576) (hr:dJ V.W V.nW) (hm:m<V.nW) (hn:1≤nn∧nn≤9) (hc:0≤V.W m 2∧V.W m 2≤99) (hg:0≤V.g∧V.g≤900) (w:World) (h:Md lo Ok w v V) :
 Hz 139 #[v,.agg (zF (V.W m)).toArray,zI nn] w fun e w'=>Kd lo Ok w w' e (dP V m nn):=by
 obtain ⟨gW,cW,gO,cO,gX,cX,gI,cI,rfl,_,_,llo⟩:=h.form
 go_enter Tryz.func139,Tryz.ntmps139
 go_upto_region 1 with fail
 obtain ⟨w0,e0,hb0,C0,W0,R0,-⟩:=FZ w (zC V gW cW gO cO gX cX gI cI) 41 (zF (V.W m)) 48 zN 41
 rw [←e0]
 clear e0
 have rr1:w.heap.size+3≤w0.heap.size:=R0.1
 have B1:Hid (Below w.heap.size w w0):=hb0
 have C2:Hid (Bk w0 w.heap.size (zC V gW cW gO cO gX cX gI cI)):=C0
 have W3:Hid (Bk w0 (w.heap.size+1) (zF (V.W m))):=W0
 have R4:Hid (Bk w0 (w.heap.size+1+1) zN):=R0
 have D5:Hid (Md lo (fun x=>Ok x∧x<w.heap.size) w0 (.agg (zC V gW cW gO cO gX cX gI cI).toArray) V):=(h.in (fun x hx ho=>⟨ho,hx⟩)).below hb0
 have Z6:Hid (w.heap.size+3≤w0.heap.size):=rr1
 clear hb0 h C0 W0 R0
 obtain ⟨yC0,yC1,yC2,yC3,yC4,yC5⟩:=C2.out.a6
 have hlC:w.heap.size<w0.heap.size:=C2.out.1
 obtain ⟨yW0,yW1,yW2,yW3,yW4⟩:=W3.out.a5
 obtain ⟨zW0,zW1,zW2,zW3,zW4⟩:=W3.out.f5
 have hlW:(w.heap.size+1)<w0.heap.size:=W3.out.1
 by_cases hbare:V.g<nn
 ·have ER:Hid (dP V m nn=(V,6)):=by unfold Hid dP;rw [if_pos hbare]
  obtain ⟨yR0,yR1,yR2,yR3,yR4,yR5⟩:=R4.out.a6
  obtain ⟨zR0,zR1,zR2,zR3,zR4,zR5⟩:=R4.out.f6
  have hlR:(w.heap.size+1+1)<w0.heap.size:=R4.out.1
  go_wp2
  refine Hw (v:=.tuple #[.agg (zC V gW cW gO cO gX cX gI cI).toArray,zI 6]) (by simp [results,Tryz.results139,go_sem,yR0,yR1,yR2,yR3,yR4,yR5]) rfl ?_
  have hzz:=au w0 ((w.heap.size+1+1)) (.int .i64 V.c) (.slice (some ⟨gW,0,none⟩) V.nW cW) (.int .i64 V.g) (.slice (some ⟨gO,0,none⟩) V.nO cO) (.slice (some ⟨gX,0,none⟩) V.nX cX) (.slice (some ⟨gI,0,none⟩) V.nI cI)
  have rz:=Z6.out
  refine ⟨_,w.heap.size,by rw [ER.out],Ho _,?_,?_,?_⟩
  ·show _≤(aG _ _ _ _ _ _ _ _).heap.size
   omega
  ·rw [ER.out]
   show Md lo _ (aG w0 ((w.heap.size+1+1)) (zI V.c) (zS gW V.nW cW) (zI V.g) (zS gO V.nO cO) (zS gX V.nX cX) (zS gI V.nI cI)) _ _
   exact (D5.out.sm (Hl hzz.symm) (fun x hx ho=>aH (fun e=>by have:=ho.2;omega) (zI V.c) (zS gW V.nW cW) (zI V.g) (zS gO V.nO cO) (zS gX V.nX cX) (zS gI V.nI cI))).in (fun x _ ho=>.inl ho)
  ·exact Fr.of (ax B1.out (by omega) (zI V.c) (zS gW V.nW cW) (zI V.g) (zS gO V.nO cO) (zS gX V.nX cX) (zS gI V.nI cI)) llo
 ·by_cases hfull:99<V.W m 2+nn
  ·have e1:¬ V.g<nn:=hbare
   have e2:V.W m 2+nn > 99:=hfull
   have ER:Hid (dP V m nn=(V,5)):=by unfold Hid dP;rw [if_neg hbare,if_pos hfull]
   obtain ⟨yR0,yR1,yR2,yR3,yR4,yR5⟩:=R4.out.a6
   obtain ⟨zR0,zR1,zR2,zR3,zR4,zR5⟩:=R4.out.f6
   have hlR:(w.heap.size+1+1)<w0.heap.size:=R4.out.1
   go_wp2
   refine Hw (v:=.tuple #[.agg (zC V gW cW gO cO gX cX gI cI).toArray,zI 5]) (by simp [results,Tryz.results139,go_sem,yR0,yR1,yR2,yR3,yR4,yR5]) rfl ?_
   have hzz:=au w0 ((w.heap.size+1+1)) (.int .i64 V.c) (.slice (some ⟨gW,0,none⟩) V.nW cW) (.int .i64 V.g) (.slice (some ⟨gO,0,none⟩) V.nO cO) (.slice (some ⟨gX,0,none⟩) V.nX cX) (.slice (some ⟨gI,0,none⟩) V.nI cI)
   have rz:=Z6.out
   refine ⟨_,w.heap.size,by rw [ER.out],Ho _,?_,?_,?_⟩
   ·show _≤(aG _ _ _ _ _ _ _ _).heap.size
    omega
   ·rw [ER.out]
    show Md lo _ (aG w0 ((w.heap.size+1+1)) (zI V.c) (zS gW V.nW cW) (zI V.g) (zS gO V.nO cO) (zS gX V.nX cX) (zS gI V.nI cI)) _ _
    exact (D5.out.sm (Hl hzz.symm) (fun x hx ho=>aH (fun e=>by have:=ho.2;omega) (zI V.c) (zS gW V.nW cW) (zI V.g) (zS gO V.nO cO) (zS gX V.nX cX) (zS gI V.nI cI))).in (fun x _ ho=>.inl ho)
   ·exact Fr.of (ax B1.out (by omega) (zI V.c) (zS gW V.nW cW) (zI V.g) (zS gO V.nO cO) (zS gX V.nX cX) (zS gI V.nI cI)) llo
  ·have e1:¬ V.g<nn:=hbare
   have e2:¬ V.W m 2+nn > 99:=hfull
   have zC:=C2.out.f6.2.2.1
   have ER:Hid (dP V m nn=((V.setW m (zc (V.W m) nn)).sU (V.g - nn),1)):=by unfold Hid dP;rw [if_neg hbare,if_neg hfull]
   go_upto_region 7 with fail
   clear yC0 yC1 yC2 yC3 yC4 yC5 hlC yW0 zW0 yW1 zW1 yW2 zW2 yW3 zW3 yW4 zW4 hlW
   clear zC
   obtain ⟨w1,e1x⟩:∃ X,X=w0.setCell (zA (w.heap.size+1) 2) (zI (V.W m 2+nn)):=⟨_,rfl⟩
   have e1xz:w1.heap.size=w0.heap.size:=by rw [e1x];exact ay
   have B7:Hid (Below w.heap.size w w1):=by unfold Hid;rw [e1x];exact B1.out.setCell (by show w.heap.size≤(w.heap.size+1);omega) _
   have C7:Hid (Bk w1 w.heap.size (zC V gW cW gO cO gX cX gI cI)):=by unfold Hid;rw [e1x];exact C2.out.far (by omega)
   have W7:Hid (Bk w1 ((w.heap.size+1)) [zI (V.W m 0),zI (V.W m 1),zI (V.W m 2+nn),zI (V.W m 3),zI (V.W m 4)]):=by unfold Hid;rw [e1x];exact W3.out.set (j:=2) (by simp)
   have R7:Hid (Bk w1 (w.heap.size+1+1) zN):=by unfold Hid;rw [e1x];exact R4.out.far (by omega)
   have D7:=hid (D5.out.sm (w':=w1) (by omega) (fun x hx ho=>by rw [e1x];exact cZ (fun e=>by first | (have:=ho.2;omega) | (rcases ho with h | h <;> omega))))
   have Z7:Hid (w.heap.size+3≤w1.heap.size):=by unfold Hid;rw [e1xz];exact Z6.out
   rw [←e1x]
   clear e1x B1 C2 W3 R4 D5 Z6
   obtain ⟨w2,e2x⟩:∃ X,X=w1.setCell (zA w.heap.size 2) (zI (V.g - nn)):=⟨_,rfl⟩
   have e2xz:w2.heap.size=w1.heap.size:=by rw [e2x];exact ay
   have B8:Hid (Below w.heap.size w w2):=by unfold Hid;rw [e2x];exact B7.out.setCell (by show w.heap.size≤w.heap.size;omega) _
   have C8:Hid (Bk w2 (w.heap.size) [zI V.c,zS gW V.nW cW,zI (V.g - nn),zS gO V.nO cO,zS gX V.nX cX,zS gI V.nI cI]):=by unfold Hid;rw [e2x];exact C7.out.set (j:=2) (by simp)
   have W8:Hid (Bk w2 ((w.heap.size+1)) [zI (V.W m 0),zI (V.W m 1),zI (V.W m 2+nn),zI (V.W m 3),zI (V.W m 4)]):=by unfold Hid;rw [e2x];exact W7.out.far (by omega)
   have R8:Hid (Bk w2 (w.heap.size+1+1) zN):=by unfold Hid;rw [e2x];exact R7.out.far (by omega)
   have D8:=hid (D7.out.sm (w':=w2) (by omega) (fun x hx ho=>by rw [e2x];exact cZ (fun e=>by first | (have:=ho.2;omega) | (rcases ho with h | h <;> omega))))
   have Z8:Hid (w.heap.size+3≤w2.heap.size):=by unfold Hid;rw [e2xz];exact Z7.out
   rw [←e2x]
   clear e2x B7 C7 W7 R7 D7 Z7
   obtain ⟨yC0,yC1,yC2,yC3,yC4,yC5⟩:=C8.out.a6
   have hlC:w.heap.size<w2.heap.size:=C8.out.1
   obtain ⟨yW0,yW1,yW2,yW3,yW4⟩:=W8.out.a5
   have hlW:(w.heap.size+1)<w2.heap.size:=W8.out.1
   go_wp2_with fail
   clear yC0 yC1 yC2 yC3 yC4 yC5 hlC yW0 yW1 yW2 yW3 yW4 hlW
   obtain ⟨r0,er0⟩:∃ r,r=w2.heap.size:=⟨_,rfl⟩
   have lbC:w.heap.size<r0:=by rw [er0];exact C8.out.1
   have lbW:(w.heap.size+1)<r0:=by rw [er0];exact W8.out.1
   have lbR:(w.heap.size+1+1)<r0:=by rw [er0];exact R8.out.1
   have lr0:r0≤w2.heap.size:=Hl er0
   have lr1:w2.heap.size≤r0:=Hl er0.symm
   clear er0
   obtain ⟨_,_,_,_,_,_,_,_,ef,hgW,hcW,_⟩:=D8.out.form
   have ef:=kV ef
   simp only [Value.slice.injEq,Option.some.injEq,Addr.mk.injEq,and_true,true_and] at ef
   obtain ⟨⟨rfl,rfl⟩,_⟩:=ef
   refine (jh (some (zA gW 0)) gW V.nW cW m V.W (zc (V.W m) nn) hnW _ (fun _=>hgW) (fun _=>rfl) hr hm rfl hcW).mono ?_
   rintro e w5 ⟨v2,rfl,ho2,hb2⟩
   obtain ⟨a2,n2,c2,rfl⟩:=bP ho2
   have hv2:Value.slice a2 n2 c2≠Value.slice none 0 0:=fun e=>by rw [e] at ho2;rcases ho2.2 with ⟨_,h⟩ | ⟨_,_,_,h,_⟩;omega;cases h
   have DPUT:Hid (Md lo (fun x=>(Ok x∧x<w.heap.size)∨r0≤x) w5 (.agg #[zI V.c,.slice a2 n2 c2,zI V.g,zS gO V.nO cO,zS gX V.nX cX,zS gI V.nI cI]) (V.setW m (zc (V.W m) nn))):=((D8.out.in (fun x _ ho=>.inl ho)).below hb2).wk (fun x h1 _=>.inr (by omega)) ((D8.out.in (fun x hx _=>hx)).below hb2) ho2 hv2
   have lz2:r0≤w5.heap.size:=Hq lr0 hb2.size
   have y_w5:w2.heap.size≤w5.heap.size:=hb2.size
   have B9:=hid (ah B8.out hb2)
   have C9:=hid (C8.out.below hb2)
   have W9:=hid (W8.out.below hb2)
   have R9:=hid (R8.out.below hb2)
   have D9:=hid (D8.out.below hb2)
   have Z9:Hid (w.heap.size+3≤w5.heap.size):=Hq Z8.out hb2.size
   clear B8 C8 W8 R8 D8 Z8
   clear hb2 ho2 hv2 hgW hcW lr0 lr1
   clear Z9
   have Z10:Hid (r0≤w5.heap.size):=lz2
   clear lz2
   have DG:Hid (Md lo (fun x=>(Ok x∧x<w.heap.size)∨r0≤x) w5 (.agg #[zI V.c,.slice a2 n2 c2,zI (V.g - nn),zS gO V.nO cO,zS gX V.nX cX,zS gI V.nI cI]) ((V.setW m (zc (V.W m) nn)).sU (V.g - nn))):=DPUT.out.gr (V.g - nn)
   clear DPUT
   clear D9
   have D11:Hid (Md lo (fun x=>(Ok x∧x<w.heap.size)∨r0≤x) w5 (.agg #[zI V.c,.slice a2 n2 c2,zI (V.g - nn),zS gO V.nO cO,zS gX V.nX cX,zS gI V.nI cI]) ((V.setW m (zc (V.W m) nn)).sU (V.g - nn))):=DG.out
   obtain ⟨yC0,yC1,yC2,yC3,yC4,yC5⟩:=C9.out.a6
   obtain ⟨zC0,zC1,zC2,zC3,zC4,zC5⟩:=C9.out.f6
   have hlC:w.heap.size<w5.heap.size:=C9.out.1
   go_upto_region 8 with fail
   clear yC0 zC0 yC1 zC1 yC2 zC2 yC3 zC3 yC4 zC4 yC5 zC5 hlC
   obtain ⟨w6,e6x⟩:∃ X,X=w5.setCell (zA w.heap.size 1) (.slice a2 n2 c2):=⟨_,rfl⟩
   have e6xz:w6.heap.size=w5.heap.size:=by rw [e6x];exact ay
   have B12:Hid (Below w.heap.size w w6):=by unfold Hid;rw [e6x];exact B9.out.setCell (by show w.heap.size≤w.heap.size;omega) _
   have C12:Hid (Bk w6 (w.heap.size) [zI V.c,.slice a2 n2 c2,zI (V.g - nn),zS gO V.nO cO,zS gX V.nX cX,zS gI V.nI cI]):=by unfold Hid;rw [e6x];exact C9.out.set (j:=1) (by simp)
   have W12:Hid (Bk w6 ((w.heap.size+1)) [zI (V.W m 0),zI (V.W m 1),zI (V.W m 2+nn),zI (V.W m 3),zI (V.W m 4)]):=by unfold Hid;rw [e6x];exact W9.out.far (by omega)
   have R12:Hid (Bk w6 (w.heap.size+1+1) zN):=by unfold Hid;rw [e6x];exact R9.out.far (by omega)
   have Z12:Hid (r0≤w6.heap.size):=by unfold Hid;rw [e6xz];exact Z10.out
   have D12:=hid (D11.out.sm (w':=w6) (by omega) (fun x hx ho=>by rw [e6x];exact cZ (fun e=>by first | (have:=ho.2;omega) | (rcases ho with h | h <;> omega))))
   rw [←e6x]
   clear e6x B9 C9 W9 R9 Z10 D11
   obtain ⟨yC0,yC1,yC2,yC3,yC4,yC5⟩:=C12.out.a6
   have hlC:w.heap.size<w6.heap.size:=C12.out.1
   obtain ⟨yR0,yR1,yR2,yR3,yR4,yR5⟩:=R12.out.a6
   obtain ⟨zR0,zR1,zR2,zR3,zR4,zR5⟩:=R12.out.f6
   have hlR:(w.heap.size+1+1)<w6.heap.size:=R12.out.1
   go_wp2
   refine Hw (v:=.tuple #[.agg #[zI V.c,.slice a2 n2 c2,zI (V.g - nn),zS gO V.nO cO,zS gX V.nX cX,zS gI V.nI cI],zI 1]) (by simp [results,Tryz.results139,go_sem,yR0,yR1,yR2,yR3,yR4,yR5]) rfl ?_
   have hzz:=au w6 ((w.heap.size+1+1)) (.int .i64 V.c) (.slice a2 n2 c2) (.int .i64 (V.g - nn)) (.slice (some ⟨gO,0,none⟩) V.nO cO) (.slice (some ⟨gX,0,none⟩) V.nX cX) (.slice (some ⟨gI,0,none⟩) V.nI cI)
   have rz:=Z12.out
   refine ⟨_,r0,by rw [ER.out],by omega,?_,?_,?_⟩
   ·show _≤(aG _ _ _ _ _ _ _ _).heap.size
    omega
   ·rw [ER.out]
    show Md lo _ (aG w6 ((w.heap.size+1+1)) (zI V.c) (.slice a2 n2 c2) (zI (V.g - nn)) (zS gO V.nO cO) (zS gX V.nX cX) (zS gI V.nI cI)) _ _
    exact D12.out.sm (Hl hzz.symm) (fun x hx ho=>aH (fun e=>by rcases ho with h | h <;> omega) (zI V.c) (.slice a2 n2 c2) (zI (V.g - nn)) (zS gO V.nO cO) (zS gX V.nX cX) (zS gI V.nI cI))
   ·exact Fr.of (ax B12.out (by omega) (zI V.c) (.slice a2 n2 c2) (zI (V.g - nn)) (zS gO V.nO cO) (zS gX V.nX cX) (zS gI V.nI cI)) llo
theorem Md.FU {lo:Nat} {Ok:Nat→Prop} {w:World} {x0 x2 x3 x4 x5:Value} {gW n cW:Nat} {V:CV} (h:Md lo Ok w (.agg #[x0,zS gW n cW,x2,x3,x4,x5]) V):gW<w.heap.size∧∀ k j,k<V.nW→j<5→w.cell? (zA gW (k * 5+j))=some (zI (V.W k j)):=by
 obtain ⟨gW',cW',_,_,_,_,_,_,e,h1,h2,_⟩:=h.form
 have e1:=(kV e).1
 simp only [Value.slice.injEq,Option.some.injEq,Addr.mk.injEq] at e1
 obtain ⟨⟨rfl,_⟩,_⟩:=e1
 exact ⟨h1,h2⟩
theorem Fr.then {lo:Nat} {Ok:Nat→Prop} {a b c:World} (h:Fr lo Ok a b) (hl:lo≤a.heap.size) (k:Below b.heap.size b c):Fr lo Ok a c :=
 ⟨h.1.trans (k.mono (Hq hl h.2.1)),Hq h.2.1 k.size,fun x h1 h2=>(h.2.2 x h1 h2).trans (aj k (Hg h1 h.2.1))⟩
theorem Fr.set {lo:Nat} {Ok:Nat→Prop} {a b:World} (h:Fr lo Ok a b) (hl:lo≤a.heap.size) {p j:Nat} (hp:a.heap.size≤p) (v:Value):Fr lo Ok a (b.setCell (zA p j) v) :=
 ⟨h.1.setCell (Hq hl hp) v,by rw [ay];exact h.2.1,fun x h1 h2=>(h.2.2 x h1 h2).trans (cZ (by omega))⟩
theorem Fr.six {lo:Nat} {Ok:Nat→Prop} {a b:World} (h:Fr lo Ok a b) (hl:lo≤a.heap.size) {p:Nat} (hp:a.heap.size≤p) (v0 v1 v2 v3 v4 v5:Value):Fr lo Ok a (aG b p v0 v1 v2 v3 v4 v5) :=
 ⟨ax h.1 (Hq hl hp) v0 v1 v2 v3 v4 v5,by rw [au];exact h.2.1,fun x h1 h2=>(h.2.2 x h1 h2).trans (aH (by omega) v0 v1 v2 v3 v4 v5)⟩
theorem uN (lo m:Nat) (Ok:Nat→Prop) (v:Value) (V:CV) (c d nn:Int) (q:Nat) (hq:q<V.nX) (hqO:q<V.nO) (hN:V.N q≤2000000) (hX:-1≤V.X q∧V.X q≤5000) (hnW:V.nW≤1048576) (hr:dJ V.W V.nW) (hm:m<V.nW) (hn:1≤nn∧nn≤9) (hc:0≤V.W m 2∧V.W m 2≤99) (hg:0≤V.g∧V.g≤900) (w:World) (h:Md lo Ok w v V) :
 Hz 140 #[.agg #[zI c,zI d],v,.agg (zF (V.W m)).toArray,zI (q:Int),zI nn] w fun e w'=>Kd lo Ok w w' e (bQ c d V m (q:Int) nn):=by
 obtain ⟨gW,cW,gO,cO,gX,cX,gI,cI,rfl,_,_,llo⟩:=h.form
 go_enter Tryz.func140,Tryz.ntmps140
 go_upto_region 1 with fail
 obtain ⟨w0,e0,hb0,M0,C0,W0,R0,-⟩:=zV w [zI c,zI d] 44 (zC V gW cW gO cO gX cX gI cI) 41 (zF (V.W m)) 48 zN 41
 rw [←e0]
 clear e0
 have rr1:w.heap.size+4≤w0.heap.size:=R0.1
 have B1:Hid (Below w.heap.size w w0):=hb0
 have M2:Hid (Bk w0 w.heap.size [zI c,zI d]):=M0
 have C3:Hid (Bk w0 (w.heap.size+1) (zC V gW cW gO cO gX cX gI cI)):=C0
 have W4:Hid (Bk w0 (w.heap.size+1+1) (zF (V.W m))):=W0
 have R5:Hid (Bk w0 (w.heap.size+1+1+1) zN):=R0
 have D6:Hid (Md lo (fun x=>Ok x∧x<w.heap.size) w0 (.agg (zC V gW cW gO cO gX cX gI cI).toArray) V):=(h.in (fun x hx ho=>⟨ho,hx⟩)).below hb0
 have Z7:Hid (w.heap.size+4≤w0.heap.size):=rr1
 clear hb0 h M0 C0 W0 R0
 obtain ⟨yM0,yM1⟩:=M2.out.a2
 have hlM:w.heap.size<w0.heap.size:=M2.out.1
 obtain ⟨yW0,yW1,yW2,yW3,yW4⟩:=W4.out.a5
 have hlW:(w.heap.size+1+1)<w0.heap.size:=W4.out.1
 go_wp2_with fail
 clear yM0 yM1 hlM yW0 yW1 yW2 yW3 yW4 hlW
 refine (uV c d (V.W m 1) (q:Int) _).mono ?_
 rintro e w1 ⟨rfl,hb1⟩
 have y_w1:w0.heap.size≤w1.heap.size:=hb1.size
 have B8:=hid (ah B1.out hb1)
 have M8:=hid (M2.out.below hb1)
 have C8:=hid (C3.out.below hb1)
 have W8:=hid (W4.out.below hb1)
 have R8:=hid (R5.out.below hb1)
 have D8:=hid (D6.out.below hb1)
 have Z8:Hid (w.heap.size+4≤w1.heap.size):=Hq Z7.out hb1.size
 clear B1 M2 C3 W4 R5 D6 Z7
 have z1:=hb1.size
 clear hb1
 cases he:iC c d (V.W m 1) (q:Int)
 ·have ER:Hid (bQ c d V m (q:Int) nn=(V,7)):=by unfold Hid bQ;rw [if_pos he]
  obtain ⟨yC0,yC1,yC2,yC3,yC4,yC5⟩:=C8.out.a6
  have hlC:(w.heap.size+1)<w1.heap.size:=C8.out.1
  obtain ⟨yR0,yR1,yR2,yR3,yR4,yR5⟩:=R8.out.a6
  obtain ⟨zR0,zR1,zR2,zR3,zR4,zR5⟩:=R8.out.f6
  have hlR:(w.heap.size+1+1+1)<w1.heap.size:=R8.out.1
  go_wp2
  refine Hw (v:=.tuple #[.agg (zC V gW cW gO cO gX cX gI cI).toArray,zI 7]) (by simp [results,Tryz.results140,go_sem,yR0,yR1,yR2,yR3,yR4,yR5]) rfl ?_
  have hzz:=au w1 ((w.heap.size+1+1+1)) (.int .i64 V.c) (.slice (some ⟨gW,0,none⟩) V.nW cW) (.int .i64 V.g) (.slice (some ⟨gO,0,none⟩) V.nO cO) (.slice (some ⟨gX,0,none⟩) V.nX cX) (.slice (some ⟨gI,0,none⟩) V.nI cI)
  have rz:=Z8.out
  refine ⟨_,w.heap.size,by rw [ER.out],Ho _,?_,?_,?_⟩
  ·show _≤(aG _ _ _ _ _ _ _ _).heap.size
   omega
  ·rw [ER.out]
   show Md lo _ (aG w1 ((w.heap.size+1+1+1)) (zI V.c) (zS gW V.nW cW) (zI V.g) (zS gO V.nO cO) (zS gX V.nX cX) (zS gI V.nI cI)) _ _
   exact (D8.out.sm (Hl hzz.symm) (fun x hx ho=>aH (fun e=>by have:=ho.2;omega) (zI V.c) (zS gW V.nW cW) (zI V.g) (zS gO V.nO cO) (zS gX V.nX cX) (zS gI V.nI cI))).in (fun x _ ho=>.inl ho)
  ·exact Fr.of (ax B8.out (by omega) (zI V.c) (zS gW V.nW cW) (zI V.g) (zS gO V.nO cO) (zS gX V.nX cX) (zS gI V.nI cI)) llo
 ·have hed:=he
  by_cases hpoor:V.W m 2<nn
  ·have ER:Hid (bQ c d V m (q:Int) nn=(V,3)):=by unfold Hid;unfold bQ;rw [if_neg (by rw [he];decide),if_pos (by omega)]
   obtain ⟨yC0,yC1,yC2,yC3,yC4,yC5⟩:=C8.out.a6
   have hlC:(w.heap.size+1)<w1.heap.size:=C8.out.1
   obtain ⟨yW0,yW1,yW2,yW3,yW4⟩:=W8.out.a5
   have hlW:(w.heap.size+1+1)<w1.heap.size:=W8.out.1
   obtain ⟨yR0,yR1,yR2,yR3,yR4,yR5⟩:=R8.out.a6
   obtain ⟨zR0,zR1,zR2,zR3,zR4,zR5⟩:=R8.out.f6
   have hlR:(w.heap.size+1+1+1)<w1.heap.size:=R8.out.1
   go_wp2
   refine Hw (v:=.tuple #[.agg (zC V gW cW gO cO gX cX gI cI).toArray,zI 3]) (by simp [results,Tryz.results140,go_sem,yR0,yR1,yR2,yR3,yR4,yR5]) rfl ?_
   have hzz:=au w1 ((w.heap.size+1+1+1)) (.int .i64 V.c) (.slice (some ⟨gW,0,none⟩) V.nW cW) (.int .i64 V.g) (.slice (some ⟨gO,0,none⟩) V.nO cO) (.slice (some ⟨gX,0,none⟩) V.nX cX) (.slice (some ⟨gI,0,none⟩) V.nI cI)
   have rz:=Z8.out
   refine ⟨_,w.heap.size,by rw [ER.out],Ho _,?_,?_,?_⟩
   ·show _≤(aG _ _ _ _ _ _ _ _).heap.size
    omega
   ·rw [ER.out]
    show Md lo _ (aG w1 ((w.heap.size+1+1+1)) (zI V.c) (zS gW V.nW cW) (zI V.g) (zS gO V.nO cO) (zS gX V.nX cX) (zS gI V.nI cI)) _ _
    exact (D8.out.sm (Hl hzz.symm) (fun x hx ho=>aH (fun e=>by have:=ho.2;omega) (zI V.c) (zS gW V.nW cW) (zI V.g) (zS gO V.nO cO) (zS gX V.nX cX) (zS gI V.nI cI))).in (fun x _ ho=>.inl ho)
   ·exact Fr.of (ax B8.out (by omega) (zI V.c) (zS gW V.nW cW) (zI V.g) (zS gO V.nO cO) (zS gX V.nX cX) (zS gI V.nI cI)) llo
  ·have e1:¬ V.W m 2<nn:=hpoor
   obtain ⟨yC0,yC1,yC2,yC3,yC4,yC5⟩:=C8.out.a6
   have hlC:(w.heap.size+1)<w1.heap.size:=C8.out.1
   obtain ⟨yW0,yW1,yW2,yW3,yW4⟩:=W8.out.a5
   have hlW:(w.heap.size+1+1)<w1.heap.size:=W8.out.1
   go_wp2_with fail
   clear yC0 yC1 yC2 yC3 yC4 yC5 hlC yW0 yW1 yW2 yW3 yW4 hlW
   by_cases hx5:V.X q=5000
   ·refine (uM lo q (fun x=>Ok x∧x<w.heap.size) _ V (pk (V.X q) nn) 0 hq hqO hx5 _ D8.out).mono ?_
    rintro e w3 ⟨rfl,hb3⟩
    have y_w3:w1.heap.size≤w3.heap.size:=hb3.size
    have B9:=hid (ah B8.out hb3)
    have M9:=hid (M8.out.below hb3)
    have C9:=hid (C8.out.below hb3)
    have W9:=hid (W8.out.below hb3)
    have R9:=hid (R8.out.below hb3)
    have D9:=hid (D8.out.below hb3)
    have Z9:Hid (w.heap.size+4≤w3.heap.size):=Hq Z8.out hb3.size
    clear B8 M8 C8 W8 R8 D8 Z8
    have z3:=hb3.size
    clear hb3
    go_upto_region 6 with fail
    obtain ⟨w4,e4⟩:∃ X,X=w3.alloc (.cells (zC V gW cW gO cO gX cX gI cI).toArray 41):=⟨_,rfl⟩
    rw [←e4]
    have hb4:Below w3.heap.size w3 w4:=by rw [e4];exact (Hr _ _).alloc (Ho _) _
    have Y4:Bk w4 w3.heap.size (zC V gW cW gO cO gX cX gI cI):=by rw [e4];exact aU w3 41 (zC V gW cW gO cO gX cX gI cI)
    clear e4
    obtain ⟨yb,eyb⟩:∃ b,b=w3.heap.size:=⟨_,rfl⟩
    rw [←eyb] at Y4 ⊢
    have y_w4:w3.heap.size≤w4.heap.size:=hb4.size
    have B10:=hid (ah B9.out hb4)
    have M10:=hid (M9.out.below hb4)
    have C10:=hid (C9.out.below hb4)
    have W10:=hid (W9.out.below hb4)
    have R10:=hid (R9.out.below hb4)
    have D10:=hid (D9.out.below hb4)
    have Z10:Hid (w.heap.size+4≤w4.heap.size):=Hq Z9.out hb4.size
    clear B9 M9 C9 W9 R9 D9 Z9
    have Y11:Hid (Bk w4 yb (zC V gW cW gO cO gX cX gI cI)):=Y4
    have ly1:yb≤w3.heap.size:=Hl eyb
    have ly2:w3.heap.size≤yb:=Hl eyb.symm
    clear hb4 Y4 eyb
    have ER:Hid (bQ c d V m (q:Int) nn=(V,5)):=by unfold Hid;unfold bQ;rw [if_neg (by rw [he];decide),if_neg (by omega),if_pos (by show ¬ V.X q<5000;omega)]
    obtain ⟨yC0,yC1,yC2,yC3,yC4,yC5⟩:=C10.out.a6
    have hlC:(w.heap.size+1)<w4.heap.size:=C10.out.1
    obtain ⟨yR0,yR1,yR2,yR3,yR4,yR5⟩:=R10.out.a6
    obtain ⟨zR0,zR1,zR2,zR3,zR4,zR5⟩:=R10.out.f6
    have hlR:(w.heap.size+1+1+1)<w4.heap.size:=R10.out.1
    go_wp2
    refine Hw (v:=.tuple #[.agg (zC V gW cW gO cO gX cX gI cI).toArray,zI 5]) (by simp [results,Tryz.results140,go_sem,yR0,yR1,yR2,yR3,yR4,yR5]) rfl ?_
    have hzz:=au w4 ((w.heap.size+1+1+1)) (.int .i64 V.c) (.slice (some ⟨gW,0,none⟩) V.nW cW) (.int .i64 V.g) (.slice (some ⟨gO,0,none⟩) V.nO cO) (.slice (some ⟨gX,0,none⟩) V.nX cX) (.slice (some ⟨gI,0,none⟩) V.nI cI)
    have rz:=Z10.out
    refine ⟨_,w.heap.size,by rw [ER.out],Ho _,?_,?_,?_⟩
    ·show _≤(aG _ _ _ _ _ _ _ _).heap.size
     omega
    ·rw [ER.out]
     show Md lo _ (aG w4 ((w.heap.size+1+1+1)) (zI V.c) (zS gW V.nW cW) (zI V.g) (zS gO V.nO cO) (zS gX V.nX cX) (zS gI V.nI cI)) _ _
     exact (D10.out.sm (Hl hzz.symm) (fun x hx ho=>aH (fun e=>by have:=ho.2;omega) (zI V.c) (zS gW V.nW cW) (zI V.g) (zS gO V.nO cO) (zS gX V.nX cX) (zS gI V.nI cI))).in (fun x _ ho=>.inl ho)
    ·exact Fr.of (ax B10.out (by omega) (zI V.c) (zS gW V.nW cW) (zI V.g) (zS gO V.nO cO) (zS gX V.nX cX) (zS gI V.nI cI)) llo
   ·obtain ⟨s1,es1⟩:∃ z,z=w1.heap.size:=⟨_,rfl⟩
    have ls1:w.heap.size+4≤s1:=by rw [es1];exact Z8.out
    refine (sD lo q (fun x=>Ok x∧x<w.heap.size) _ V (pk (V.X q) nn) 0 hq hqO hN hX hx5 rfl _ D8.out).mono ?_
    rintro e w3 ⟨rfl,r1,k1,k2,hD3,hF3⟩
    rw [←es1] at k1 hD3
    have DQ:Hid (Md lo (fun x=>((Ok x∧x<w.heap.size)∧x<s1)∨r1≤x) w3 (.agg (zC V gW cW gO cO gX cX gI cI).toArray) (V.send q (pk (V.X q) nn))):=hD3
    clear hD3 es1
    have M9:=hid (M8.out.sm hF3.2.1 (hF3.2.2 _ M8.out.1 (fun h=>by have:=h.2;omega)))
    have C9:=hid (C8.out.sm hF3.2.1 (hF3.2.2 _ C8.out.1 (fun h=>by have:=h.2;omega)))
    have W9:=hid (W8.out.sm hF3.2.1 (hF3.2.2 _ W8.out.1 (fun h=>by have:=h.2;omega)))
    have R9:=hid (R8.out.sm hF3.2.1 (hF3.2.2 _ R8.out.1 (fun h=>by have:=h.2;omega)))
    have FR9:Hid (Fr lo Ok w w3):=⟨(B8.out.mono llo).trans hF3.1,Hq B8.out.size hF3.2.1,fun x hx hno=>(aj B8.out hx).trans (hF3.2.2 x (Hg hx B8.out.size) (fun h=>hno h.1))⟩
    clear B8 M8 C8 W8 R8 D8 Z8
    have F10:Hid (Fr lo Ok w w3):=FR9.out
    clear FR9
    have z3:=hF3.2.1
    clear hF3
    go_upto_region 6 with fail
    obtain ⟨w4,e4⟩:∃ X,X=w3.alloc (.cells (zC V gW cW gO cO gX cX gI cI).toArray 41):=⟨_,rfl⟩
    rw [←e4]
    have hb4:Below w3.heap.size w3 w4:=by rw [e4];exact (Hr _ _).alloc (Ho _) _
    have Y4:Bk w4 w3.heap.size (zC V gW cW gO cO gX cX gI cI):=by rw [e4];exact aU w3 41 (zC V gW cW gO cO gX cX gI cI)
    clear e4
    obtain ⟨yb,eyb⟩:∃ b,b=w3.heap.size:=⟨_,rfl⟩
    rw [←eyb] at Y4 ⊢
    have DY:Hid (Md lo (fun x=>(Ok x∧x<w.heap.size)∨(r1≤x∧x<yb)) w4 (.agg (zC V gW cW gO cO gX cX gI cI).toArray) (V.send q (pk (V.X q) nn))):=(DQ.out.in (fun x hx ho=>by rcases ho with h | h;exact .inl h.1;exact .inr ⟨h,by omega⟩)).below hb4
    clear DQ
    have y_w4:w3.heap.size≤w4.heap.size:=hb4.size
    have M11:=hid (M9.out.below hb4)
    have C11:=hid (C9.out.below hb4)
    have W11:=hid (W9.out.below hb4)
    have R11:=hid (R9.out.below hb4)
    have F11:Hid (Fr lo Ok w w4):=Fr.then F10.out llo hb4
    clear M9 C9 W9 R9 F10
    have Y12:Hid (Bk w4 yb (zC V gW cW gO cO gX cX gI cI)):=Y4
    have ly1:yb≤w3.heap.size:=Hl eyb
    have ly2:w3.heap.size≤yb:=Hl eyb.symm
    clear hb4 Y4 eyb
    have D13:Hid (Md lo (fun x=>(Ok x∧x<w.heap.size)∨(r1≤x∧x<yb)) w4 (.agg (zC V gW cW gO cO gX cX gI cI).toArray) (V.send q (pk (V.X q) nn))):=DY.out
    clear DY
    obtain ⟨yW0,yW1,yW2,yW3,yW4⟩:=W11.out.a5
    obtain ⟨zW0,zW1,zW2,zW3,zW4⟩:=W11.out.f5
    have hlW:(w.heap.size+1+1)<w4.heap.size:=W11.out.1
    have ER:Hid (bQ c d V m (q:Int) nn=((V.setW m (zc (V.W m) (-nn))).send q (pk (V.X q) nn),1)):=by unfold Hid;unfold bQ;rw [if_neg (by rw [he];decide),if_neg (by omega),if_neg (by show ¬ ¬ V.X q<5000;omega)];rfl
    go_upto_region 9 with fail
    clear yW0 zW0 yW1 zW1 yW2 zW2 yW3 zW3 yW4 zW4 hlW
    obtain ⟨w5,e5x⟩:∃ X,X=w4.setCell (zA (w.heap.size+1+1) 2) (zI (V.W m 2 - nn)):=⟨_,rfl⟩
    have e5xz:w5.heap.size=w4.heap.size:=by rw [e5x];exact ay
    have M14:Hid (Bk w5 w.heap.size [zI c,zI d]):=by unfold Hid;rw [e5x];exact M11.out.far (by omega)
    have C14:Hid (Bk w5 (w.heap.size+1) (zC V gW cW gO cO gX cX gI cI)):=by unfold Hid;rw [e5x];exact C11.out.far (by omega)
    have W14:Hid (Bk w5 ((w.heap.size+1+1)) [zI (V.W m 0),zI (V.W m 1),zI (V.W m 2 - nn),zI (V.W m 3),zI (V.W m 4)]):=by unfold Hid;rw [e5x];exact W11.out.set (j:=2) (by simp)
    have R14:Hid (Bk w5 (w.heap.size+1+1+1) zN):=by unfold Hid;rw [e5x];exact R11.out.far (by omega)
    have F14:Hid (Fr lo Ok w w5):=by unfold Hid;rw [e5x];exact F11.out.set llo (by omega) _
    have Y14:Hid (Bk w5 yb (zC V gW cW gO cO gX cX gI cI)):=by unfold Hid;rw [e5x];exact Y12.out.far (by omega)
    have D14:=hid (D13.out.sm (w':=w5) (by omega) (fun x hx ho=>by rw [e5x];exact cZ (fun e=>by first | (have:=ho.2;omega) | (rcases ho with h | h <;> omega) | (rcases ho with h | h | h <;> omega))))
    rw [←e5x]
    clear e5x M11 C11 W11 R11 F11 Y12 D13
    obtain ⟨yY0,yY1,yY2,yY3,yY4,yY5⟩:=Y14.out.a6
    have hlY:yb<w5.heap.size:=Y14.out.1
    obtain ⟨yW0,yW1,yW2,yW3,yW4⟩:=W14.out.a5
    have hlW:(w.heap.size+1+1)<w5.heap.size:=W14.out.1
    go_wp2_with fail
    clear yY0 yY1 yY2 yY3 yY4 yY5 hlY yW0 yW1 yW2 yW3 yW4 hlW
    obtain ⟨r2,er2⟩:∃ r,r=w5.heap.size:=⟨_,rfl⟩
    have lbM:w.heap.size<r2:=by rw [er2];exact M14.out.1
    have lbC:(w.heap.size+1)<r2:=by rw [er2];exact C14.out.1
    have lbW:(w.heap.size+1+1)<r2:=by rw [er2];exact W14.out.1
    have lbR:(w.heap.size+1+1+1)<r2:=by rw [er2];exact R14.out.1
    have lbY:yb<r2:=by rw [er2];exact Y14.out.1
    have lr0:r2≤w5.heap.size:=Hl er2
    have lr1:w5.heap.size≤r2:=Hl er2.symm
    clear er2
    obtain ⟨hgW,hcW⟩:=D14.out.FU
    refine (jh (some (zA gW 0)) gW V.nW cW m V.W (zc (V.W m) (-nn)) hnW _ (fun _=>hgW) (fun _=>rfl) hr hm rfl hcW).mono ?_
    rintro e w7 ⟨v7,rfl,ho7,hb7⟩
    obtain ⟨a7,n7,c7,rfl⟩:=bP ho7
    have hv7:Value.slice a7 n7 c7≠Value.slice none 0 0:=fun e=>by rw [e] at ho7;rcases ho7.2 with ⟨_,h⟩ | ⟨_,_,_,h,_⟩;omega;cases h
    have hz7:=hb7.size
    have DPUT:Hid (Md lo (fun x=>(Ok x∧x<w.heap.size)∨(r1≤x∧x<yb)∨r2≤x) w7 (.agg #[zI V.c,.slice a7 n7 c7,zI V.g,zS gO V.nO cO,zS gX V.nX cX,zS gI V.nI cI]) ((V.setW m (zc (V.W m) (-nn))).send q (pk (V.X q) nn))):=((D14.out.in (fun x _ ho=>by rcases ho with h | h;exact .inl h;exact .inr (.inl h))).below hb7).wk (fun x h1 _=>.inr (.inr (by omega))) ((D14.out.in (fun x hx _=>hx)).below hb7) ho7 hv7
    have y_w7:w5.heap.size≤w7.heap.size:=hb7.size
    have M15:=hid (M14.out.below hb7)
    have C15:=hid (C14.out.below hb7)
    have W15:=hid (W14.out.below hb7)
    have R15:=hid (R14.out.below hb7)
    have F15:Hid (Fr lo Ok w w7):=Fr.then F14.out llo hb7
    have Y15:=hid (Y14.out.below hb7)
    have D15:=hid (D14.out.below hb7)
    clear M14 C14 W14 R14 F14 Y14 D14
    clear hb7 ho7 hv7 hgW hcW
    clear D15
    have D16:Hid (Md lo (fun x=>(Ok x∧x<w.heap.size)∨(r1≤x∧x<yb)∨r2≤x) w7 (.agg #[zI V.c,.slice a7 n7 c7,zI V.g,zS gO V.nO cO,zS gX V.nX cX,zS gI V.nI cI]) ((V.setW m (zc (V.W m) (-nn))).send q (pk (V.X q) nn))):=DPUT.out
    clear DPUT
    have Z17:Hid (r2≤w7.heap.size):=by show r2≤w7.heap.size;omega
    obtain ⟨yY0,yY1,yY2,yY3,yY4,yY5⟩:=Y15.out.a6
    obtain ⟨zY0,zY1,zY2,zY3,zY4,zY5⟩:=Y15.out.f6
    have hlY:yb<w7.heap.size:=Y15.out.1
    go_upto_region 10 with fail
    clear yY0 zY0 yY1 zY1 yY2 zY2 yY3 zY3 yY4 zY4 yY5 zY5 hlY
    obtain ⟨w8,e8x⟩:∃ X,X=w7.setCell (zA yb 1) (.slice a7 n7 c7):=⟨_,rfl⟩
    have e8xz:w8.heap.size=w7.heap.size:=by rw [e8x];exact ay
    have M18:Hid (Bk w8 w.heap.size [zI c,zI d]):=by unfold Hid;rw [e8x];exact M15.out.far (by omega)
    have C18:Hid (Bk w8 (w.heap.size+1) (zC V gW cW gO cO gX cX gI cI)):=by unfold Hid;rw [e8x];exact C15.out.far (by omega)
    have W18:Hid (Bk w8 ((w.heap.size+1+1)) [zI (V.W m 0),zI (V.W m 1),zI (V.W m 2 - nn),zI (V.W m 3),zI (V.W m 4)]):=by unfold Hid;rw [e8x];exact W15.out.far (by omega)
    have R18:Hid (Bk w8 (w.heap.size+1+1+1) zN):=by unfold Hid;rw [e8x];exact R15.out.far (by omega)
    have F18:Hid (Fr lo Ok w w8):=by unfold Hid;rw [e8x];exact F15.out.set llo (by omega) _
    have Y18:Hid (Bk w8 (yb) [zI V.c,.slice a7 n7 c7,zI V.g,zS gO V.nO cO,zS gX V.nX cX,zS gI V.nI cI]):=by unfold Hid;rw [e8x];exact Y15.out.set (j:=1) (by simp)
    have D18:=hid (D16.out.sm (w':=w8) (by omega) (fun x hx ho=>by rw [e8x];exact cZ (fun e=>by first | (have:=ho.2;omega) | (rcases ho with h | h <;> omega) | (rcases ho with h | h | h <;> omega))))
    have Z18:Hid (r2≤w8.heap.size):=by unfold Hid;rw [e8xz];exact Z17.out
    rw [←e8x]
    clear e8x M15 C15 W15 R15 F15 Y15 D16 Z17
    obtain ⟨yY0,yY1,yY2,yY3,yY4,yY5⟩:=Y18.out.a6
    have hlY:yb<w8.heap.size:=Y18.out.1
    obtain ⟨yR0,yR1,yR2,yR3,yR4,yR5⟩:=R18.out.a6
    obtain ⟨zR0,zR1,zR2,zR3,zR4,zR5⟩:=R18.out.f6
    have hlR:(w.heap.size+1+1+1)<w8.heap.size:=R18.out.1
    go_wp2
    refine Hw (v:=.tuple #[.agg #[zI V.c,.slice a7 n7 c7,zI V.g,zS gO V.nO cO,zS gX V.nX cX,zS gI V.nI cI],zI 1]) (by simp [results,Tryz.results140,go_sem,yR0,yR1,yR2,yR3,yR4,yR5]) rfl ?_
    have hzz:=au w8 ((w.heap.size+1+1+1)) (.int .i64 V.c) (.slice a7 n7 c7) (.int .i64 V.g) (.slice (some ⟨gO,0,none⟩) V.nO cO) (.slice (some ⟨gX,0,none⟩) V.nX cX) (.slice (some ⟨gI,0,none⟩) V.nI cI)
    have rz:=Z18.out
    refine ⟨_,w.heap.size,by rw [ER.out],Ho _,?_,?_,?_⟩
    ·show _≤(aG _ _ _ _ _ _ _ _).heap.size
     omega
    ·rw [ER.out]
     show Md lo _ (aG w8 ((w.heap.size+1+1+1)) (zI V.c) (.slice a7 n7 c7) (zI V.g) (zS gO V.nO cO) (zS gX V.nX cX) (zS gI V.nI cI)) _ _
     exact (D18.out.sm (Hl hzz.symm) (fun x hx ho=>aH (fun e=>by first | (have:=ho.2;omega) | (rcases ho with h | h <;> omega) | (rcases ho with h | h | h <;> omega)) (zI V.c) (.slice a7 n7 c7) (zI V.g) (zS gO V.nO cO) (zS gX V.nX cX) (zS gI V.nI cI))).in (fun x _ ho=>by rcases ho with h | h | h;exact .inl h;exact .inr (by omega);exact .inr (by omega))
    ·exact (F18.out).six llo (by omega) (zI V.c) (.slice a7 n7 c7) (zI V.g) (zS gO V.nO cO) (zS gX V.nX cX) (zS gI V.nI cI)
