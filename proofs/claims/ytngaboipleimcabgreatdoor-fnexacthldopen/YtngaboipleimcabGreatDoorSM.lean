/- Marks of a list of records, and of a store; conditions: they lie in memory of the caller's own. -/
import Derived.Test.YtngaboipleimcabGreatDoorSR
import Derived.Test.YtngaboipleimcabGreatDoorCB
import Derived.Test.YtngaboipleimcabGreatDoorLB4
import Derived.Test.YtngaboipleimcabGreatDoorFP
set_option linter.unusedVariables false
set_option maxHeartbeats 4000000
set_option maxRecDepth 20000
namespace Go.Proofs.YtngaboipleimcabGreatDoor
open Go.RowKit Go.Deep
/-- A store that came in: its age, its cell, its records. -/
abbrev Am (a:Int) (l:List Value) (r:Value):Value:=match l with
 | [x0,x1,x2,x3,x4,x5]=>.agg #[zI a,x0,x1,x2,x3,x4,x5,r]
 | _=>undef
theorem gq.set {lo B j:Nat} {w:World} {v u:Value} {V:CV} (h:gq lo w v V) (hB:B<lo):gq lo (w.setCell (zA B j) u) v V:=by
 obtain ⟨bW,bO,bX,bI,hi,q0,q1,q2,q3,q4,q5,e,g1,g2,g3,g4⟩:=h;exact ⟨bW,bO,bX,bI,hi,q0,q1,q2,q3,by rw [ay];exact q4,q5,e,gQ g1 (by omega),ig g2 (by omega),dU g3 (by omega),dU g4 (by omega)⟩
theorem gq.q {lo:Nat} {w w':World} {v:Value} {V:CV} (h:gq lo w v V) (hb:Below w.heap.size w w'):gq lo w' v V:=by
 obtain ⟨bW,bO,bX,bI,hi,q0,q1,q2,q3,q4,q5,e,g1,g2,g3,g4⟩:=h;have hz:=hb.size;exact ⟨bW,bO,bX,bI,hi,q0,q1,q2,q3,by omega,q5,e,own_below g1 (by omega) hb,mX g2 (by omega) hb,bV g3 (by omega) hb,bV g4 (by omega) hb⟩
theorem P16.iL {w w':World} {a:Option Addr} {n:Nat} {Z:Nat->Nat->Int} (h:P16.qA w a n Z) (hb:Below w.heap.size w w'):P16.qA w' a n Z:=by
 rcases h with rfl | ⟨b,o,rfl,hlt,hr⟩
 ·exact .inl rfl
 exact .inr ⟨b,o,rfl,Hg hlt hb.size,fun k j hk hj=>(hb.cell (p:=⟨b,_,none⟩) hlt).trans (hr k j hk hj)⟩
theorem gq.low {lo lo':Nat} {w:World} {v:Value} {V:CV} (h:gq lo w v V) (hl:lo'<=lo):gq lo' w v V:=by
 obtain ⟨bW,bO,bX,bI,hi,q0,q1,q2,q3,q4,q5,e,g1,g2,g3,g4⟩:=h;exact ⟨bW,bO,bX,bI,hi,by omega,q1,q2,q3,q4,q5,e,g1,g2,g3,g4⟩
theorem P16.jB {w:World} {B g n k j:Nat} {Z:Nat->Nat->Int} {u:Value} (h:P16.iy w g n Z k) (hne:¬ B=g):P16.iy (w.setCell (zA B j) u) g n Z k :=
 ⟨fun i hi=>by rw [aJ (fun e=>hne e.1),aB];exact h.1 i hi,fun k' j' hk hj=>by rw [aJ (fun e=>hne e.1)];exact h.2 k' j' hk hj⟩
abbrev z8:List Value:=[zI 0,zI 0,.slice none 0 0,zI 0,.slice none 0 0,.slice none 0 0,.slice none 0 0,.slice none 0 0]
theorem GK (a:Option Addr) (n cap:Nat) (z:Int) (hz:0<=z/\z<=1048576) (hn:(n:Int)<=9223372036854775807) (w:World) :
 Hz 22 #[.slice a n cap,zI z] w fun e w'=>e=.returned (zI (if (n:Int)<=z then z-n else -1))/\Below w.heap.size w w':=by
 by_cases h:(n:Int)<=z
 ·go_enter Tryz.func22,Tryz.ntmps22;go_wp2;all_goals (go_ret;exact ⟨by simp <;> omega,Hr _ _⟩)
 go_enter Tryz.func22,Tryz.ntmps22;go_wp2;all_goals (go_ret;exact ⟨by simp <;> omega,Hr _ _⟩)
theorem jV (a:Int) (V:CV) (Z:Nat->Nat->Int) (aW:Option Addr) (kW:Nat) (aO:Option Addr) (kO:Nat) (aX:Option Addr) (kX:Nat) (aI:Option Addr) (kI:Nat) (aR:Option Addr) (nR kR:Nat) (hs0:V.short 1048576) (hn:nR<=1048576) (w:World) (h0:iO w (.agg (zD V aW kW aO kO aX kX aI kI).toArray) V) (hR0:P16.qA w aR nR Z) :
 Hz 8 #[Am a (zD V aW kW aO kO aX kX aI kI) (.slice aR nR kR)] w fun e w'=>(∃ bW bO bX bI bR,e=.returned (Am a (zC V bW V.nW bO V.nO bX V.nX bI V.nI) (zS bR nR nR))/\gq w.heap.size w' (.agg (zC V bW V.nW bO V.nO bX V.nX bI V.nI).toArray) V/\bR<w'.heap.size/\P16.iy w' bR nR Z nR/\aV w.heap.size bR w' (.agg (zC V bW V.nW bO V.nO bX V.nX bI V.nI).toArray) V/\w.heap.size<=bR)/\Below w.heap.size w w':=by
 have hs:=fQ hs0;have HC:=fQ h0;have HR:=fQ hR0;clear hs0 h0 hR0;go_enter Tryz.func8,Tryz.ntmps8;go_wp2_with fail;obtain ⟨w0,e0,B1,S1,Q1,O1,hz0⟩:=Ff w [zI a,zI V.c,.slice aW V.nW kW,zI V.g,.slice aO V.nO kO,.slice aX V.nX kX,.slice aI V.nI kI,.slice aR nR kR] 31 z8 41 [zI a,zI 0,.slice none 0 0,zI 0,.slice none 0 0,.slice none 0 0,.slice none 0 0,.slice none 0 0] 41;rw [<-e0];clear e0;refine (DI _ V hs.o _ (dw HC.o B1.o)).mono ?_;rintro e w1 ⟨⟨u,rfl,hO⟩,hb⟩;obtain ⟨bW,bO,bX,bI,hi,q0,q1,q2,q3,q4,q5,rfl,g1,g2,g3,g4⟩:=hO;have CB:bY (gq w0.heap.size w1 (.agg (zC V bW V.nW bO V.nO bX V.nX bI V.nI).toArray) V):=⟨bW,bO,bX,bI,hi,q0,q1,q2,q3,q4,q5,rfl,g1,g2,g3,g4⟩;clear g1 g2 g3 g4;have OW:=fQ CB.o.own;have kz1:=hb.size;have B2:=fQ (ah B1.o hb);have S2:=fQ (S1.o.q hb);have Q2:=fQ (Q1.o.q hb);have O2:=fQ (O1.o.q hb);clear B1 S1 Q1 O1 hb;have y0:=S2.o.a8;have hlS:w.heap.size<w1.heap.size:=S2.o.1;have o0:=O2.o.a8;have f0:=O2.o.f8;have hlO:(w.heap.size+1+1)<w1.heap.size:=O2.o.1;go_wp2_with fail;clear y0 hlS o0 f0;obtain ⟨w2,e2⟩:∃ X,X=((((((w1.setCell (zA (w.heap.size+1+1) 1) (zI V.c)).setCell (zA (w.heap.size+1+1) 2) (zS bW V.nW V.nW)).setCell (zA (w.heap.size+1+1) 3) (zI V.g)).setCell (zA (w.heap.size+1+1) 4) (zS bO V.nO V.nO)).setCell (zA (w.heap.size+1+1) 5) (zS bX V.nX V.nX)).setCell (zA (w.heap.size+1+1) 6) (zS bI V.nI V.nI)):=⟨_,rfl⟩;rw [<-e2];have O3:bY (Bk w2 (w.heap.size+1+1) [zI a,zI V.c,zS bW V.nW V.nW,zI V.g,zS bO V.nO V.nO,zS bX V.nX V.nX,zS bI V.nI V.nI,.slice none 0 0]):=by
  unfold bY;rw [e2];exact (((((O2.o.set (j:=1) (by simp)).set (j:=2) (by simp)).set (j:=3) (by simp)).set (j:=4) (by simp)).set (j:=5) (by simp)).set (j:=6) (by simp)
 have kz2:w2.heap.size=w1.heap.size:=by rw [e2];simp [World.setCell]
 have SM:∀ x,¬ x=w.heap.size+1+1->Sm w1 w2 x:=fun x hx=>by rw [e2];exact fun o=>⟨by rw [aJ (fun e=>hx e.1.symm),aJ (fun e=>hx e.1.symm),aJ (fun e=>hx e.1.symm),aJ (fun e=>hx e.1.symm),aJ (fun e=>hx e.1.symm),aJ (fun e=>hx e.1.symm)],by rw [aB,aB,aB,aB,aB,aB]⟩
 have B3:bY (Below w.heap.size w w2):=by unfold bY;rw [e2];exact (((((B2.o.setCell (by show w.heap.size<=w.heap.size+1+1;omega) _).setCell (by show w.heap.size<=w.heap.size+1+1;omega) _).setCell (by show w.heap.size<=w.heap.size+1+1;omega) _).setCell (by show w.heap.size<=w.heap.size+1+1;omega) _).setCell (by show w.heap.size<=w.heap.size+1+1;omega) _).setCell (by show w.heap.size<=w.heap.size+1+1;omega) _
 have CB3:bY (gq w0.heap.size w2 (.agg (zC V bW V.nW bO V.nO bX V.nX bI V.nI).toArray) V):=by unfold bY;rw [e2];exact (((((CB.o.set (by omega)).set (by omega)).set (by omega)).set (by omega)).set (by omega)).set (by omega)
 have Q3:=fQ (Q2.o.sm (Hl kz2.symm) (SM _ (by omega)));have OW3:=fQ (OW.o.sm (Hl kz2.symm) (fun b g1 g2=>SM b (by omega)));clear e2 SM OW CB Q2 O2 S2 B2;refine (P16.yu aR nR kR Z hn _ (P16.iL HR.o B3.o)).mono ?_;rintro e w3 ⟨rfl,g1,hl3,hb⟩;rw [kz2] at g1 hl3 ⊢;have kz3:=Hl kz2;have kz4:=Hl kz2.symm;clear kz2;have kz5:=hb.size;have OR:=fQ g1;have B4:=fQ (ah B3.o hb);have O4:=fQ (O3.o.q hb);have Q4:=fQ (Q3.o.q hb);have CB4:=fQ (CB3.o.q hb);have OW4:=fQ (OW3.o.q (by omega) hb);clear g1 B3 O3 Q3 CB3 OW3;have o0:=O4.o.a8;have f0:=O4.o.f8;have hlO':(w.heap.size+1+1)<w3.heap.size:=O4.o.1;obtain ⟨p0,p1,p2,p3,p4,p5,p6,p7⟩:=Q4.o.a8;have t0:=Q4.o.f8;have hlQ:(w.heap.size+1)<w3.heap.size:=Q4.o.1;go_wp2;refine Hw (v:=Am a (zC V bW V.nW bO V.nO bX V.nX bI V.nI) (zS w1.heap.size nR nR)) (by simp [results,Tryz.results8,go_sem,p0,p1,p2,p3,p4,p5,p6,p7]) rfl ?_;refine ⟨⟨bW,bO,bX,bI,w1.heap.size,rfl,gq.low (lo:=w0.heap.size) (gq.set (gq.set (gq.set (gq.set (gq.set (gq.set (gq.set (gq.set (gq.set CB4.o (by omega)) (by omega)) (by omega)) (by omega)) (by omega)) (by omega)) (by omega)) (by omega)) (by omega)) (by omega),?_,?_⟩,?_⟩
 ·simp only [ay];omega
 ·refine ⟨P16.jB (P16.jB (P16.jB (P16.jB (P16.jB (P16.jB (P16.jB (P16.jB (P16.jB OR.o (by omega)) (by omega)) (by omega)) (by omega)) (by omega)) (by omega)) (by omega)) (by omega)) (by omega),?_,by omega⟩;refine (OW4.o.sm ?_ (fun b g1 g2=>?_)).wide (by omega) (Ho _) ?_
  ·simp only [ay];omega
  ·exact Sm.trans (fun o=>⟨aJ (fun e=>absurd e.1 (by show ¬ w.heap.size+1+1=b;omega)),aB⟩) (jQ (b:=w.heap.size+1) (by omega) [zI a,zI V.c,zS bW V.nW V.nW,zI V.g,zS bO V.nO V.nO,zS bX V.nX V.nX,zS bI V.nI V.nI,zS w1.heap.size nR nR] 0 _)
  simp only [ay];omega
 exact gu (by omega) [zI a,zI V.c,zS bW V.nW V.nW,zI V.g,zS bO V.nO V.nO,zS bX V.nX V.nX,zS bI V.nI V.nI,zS w1.heap.size nR nR] 0 (B4.o.setCell (by show w.heap.size<=w.heap.size+1+1;omega) _)
theorem qF (w:World) (B k:Nat) (Z:Nat->Nat->Int):w.grownBy (P16.nN w B k Z) (some B)/\(P16.nN w B k Z).heap.size=w.heap.size:=by
 unfold P16.nN;refine ⟨((((((((((((((((P8.aC _ _ _ _).1.trans (P8.aC _ _ _ _).1).trans (P8.aC _ _ _ _).1).trans (P8.aC _ _ _ _).1).trans (P8.aC _ _ _ _).1).trans (P8.aC _ _ _ _).1).trans (P8.aC _ _ _ _).1).trans (P8.aC _ _ _ _).1).trans (P8.aC _ _ _ _).1).trans (P8.aC _ _ _ _).1).trans (P8.aC _ _ _ _).1).trans (P8.aC _ _ _ _).1).trans (P8.aC _ _ _ _).1).trans (P8.aC _ _ _ _).1).trans (P8.aC _ _ _ _).1).trans (P8.aC _ _ _ _).1),?_⟩;rw [(P8.aC _ _ _ _).2,(P8.aC _ _ _ _).2,(P8.aC _ _ _ _).2,(P8.aC _ _ _ _).2,(P8.aC _ _ _ _).2,(P8.aC _ _ _ _).2,(P8.aC _ _ _ _).2,(P8.aC _ _ _ _).2,(P8.aC _ _ _ _).2,(P8.aC _ _ _ _).2,(P8.aC _ _ _ _).2,(P8.aC _ _ _ _).2,(P8.aC _ _ _ _).2,(P8.aC _ _ _ _).2,(P8.aC _ _ _ _).2,(P8.aC _ _ _ _).2]
theorem Gl (s B n cap:Nat) (Z:Nat->Nat->Int) (hn:n<=2000000) (hs:s<=2000000000) (w:World) (hB:B<w.heap.size) (h:P16.iy w B n Z n) :
 Hz 35 #[zS B n cap,zI (s:Int)] w fun e w'=>e=.returned (zI ((s+n * 16:Nat):Int))/\P16.iy w' B n (Mk 16 s) n/\w.grownBy w' (some B)/\w'.heap.size=w.heap.size:=by
 have H0:bY (P16.iy w B n (Mk 16 s) 0):=⟨h.1,fun _ _ h=>absurd h (by omega)⟩;clear h;go_enter Tryz.func35,Tryz.ntmps35;go_wp2;go_loopw [1,5] (fun c i wr=>∃ k:Nat,k<=n/\zI k=i/\zI (Mk 16 s k 0)=c/\P16.iy wr B n (Mk 16 s) k/\w.grownBy wr (some B)/\wr.heap.size=w.heap.size) (fun _ i _=>n - (intOf i).toNat)
 case atStart=>exact ⟨0,Nat.zero_le _,rfl,by simp [Mk],H0.o,World.grownBy.refl _ _,rfl⟩
 case round =>
  obtain ⟨k,hk,rfl,rfl,hown,hg,hsz⟩:=hrel;by_cases hkn:k<n
  ·have hkn':(k:Int)<(n:Int):=by omega
   obtain ⟨⟨v0,d0⟩,f0⟩:=P16.aK hown hkn 0 (by omega);obtain ⟨⟨v1,d1⟩,f1⟩:=P16.aK hown hkn 1 (by omega);obtain ⟨⟨v2,d2⟩,f2⟩:=P16.aK hown hkn 2 (by omega);obtain ⟨⟨v3,d3⟩,f3⟩:=P16.aK hown hkn 3 (by omega);obtain ⟨⟨v4,d4⟩,f4⟩:=P16.aK hown hkn 4 (by omega);obtain ⟨⟨v5,d5⟩,f5⟩:=P16.aK hown hkn 5 (by omega);obtain ⟨⟨v6,d6⟩,f6⟩:=P16.aK hown hkn 6 (by omega);obtain ⟨⟨v7,d7⟩,f7⟩:=P16.aK hown hkn 7 (by omega);obtain ⟨⟨v8,d8⟩,f8⟩:=P16.aK hown hkn 8 (by omega);obtain ⟨⟨v9,d9⟩,f9⟩:=P16.aK hown hkn 9 (by omega);obtain ⟨⟨v10,d10⟩,f10⟩:=P16.aK hown hkn 10 (by omega);obtain ⟨⟨v11,d11⟩,f11⟩:=P16.aK hown hkn 11 (by omega);obtain ⟨⟨v12,d12⟩,f12⟩:=P16.aK hown hkn 12 (by omega);obtain ⟨⟨v13,d13⟩,f13⟩:=P16.aK hown hkn 13 (by omega);obtain ⟨⟨v14,d14⟩,f14⟩:=P16.aK hown hkn 14 (by omega);obtain ⟨⟨v15,d15⟩,f15⟩:=P16.aK hown hkn 15 (by omega);simp only [Nat.add_zero] at d0 f0;have HO:bY (P16.iy wr B n (Mk 16 s) k):=hown;have HP:bY (P16.iy (P16.nN wr B k (Mk 16 s)) B n (Mk 16 s) (k+1)):=P16.jZ hown hkn;have HG:bY (w.grownBy (P16.nN wr B k (Mk 16 s)) (some B)/\(P16.nN wr B k (Mk 16 s)).heap.size=w.heap.size):=⟨hg.trans (qF wr B k (Mk 16 s)).1,(qF wr B k (Mk 16 s)).2.trans hsz⟩;have m1:=mw16 (s:=s) (k:=k) (by omega);clear hown hg hsz;go_wp2;go_roundw
   case rel=>exact ⟨k+1,by omega,by go_num,rfl,HP.o,HG.o.1,HG.o.2⟩
   case measure=>simp [intOf];omega
  have hkn':k=n:=by omega
  subst hkn';have HO:bY (P16.iy wr B k (Mk 16 s) k):=hown;clear hown;go_wp2;go_ret;exact ⟨rfl,HO.o,hg,hsz⟩
theorem Cb (s:Nat) (N:Nat->Nat):∀ k,st s N k=s+mG N k * 8
 | 0=>by simp [st,mG]
 | k+1=>by simp only [st,mG,Cb s N k];omega
theorem BU (N:Nat->Nat):∀ n k,k<=n->mG N k<=mG N n
 | 0,k,h=>by obtain rfl:k=0:=by omega
             exact Ho _
 | n+1,k,h=>by
  by_cases e:k=n+1
  ·subst e;exact Ho _
  have:=BU N n k (by omega);simp only [mG];omega
theorem uT {V:CV} (h:V.short 1048576) (hs:mG V.N V.nO<=1048576):V.few:=by
 refine ⟨h,fun k hk=>?_⟩;rw [Cb];have:=BU V.N V.nO k hk;have:=h.1;unfold CV.s1;omega
theorem FC {V:CV} (h:V.few):V.s4<=2000000000:=by
 obtain ⟨⟨_,_,_,hX,hI⟩,h2⟩:=h;have:=h2 V.nO (Ho _);unfold CV.s4 CV.s3 CV.s2;omega
