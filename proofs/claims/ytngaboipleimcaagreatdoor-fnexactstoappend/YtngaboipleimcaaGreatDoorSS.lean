/- Stores: their size, their copy, and that two of the same are the same; conditions: the store lies in memory. -/
import Derived.Test.YtngaboipleimcaaGreatDoorSR
import Derived.Test.YtngaboipleimcaaGreatDoorCB
import Derived.Test.YtngaboipleimcaaGreatDoorLB4
set_option linter.unusedVariables false
set_option maxHeartbeats 4000000
set_option maxRecDepth 20000
namespace Go.Proofs.YtngaboipleimcaaGreatDoor
open Go.RowKit Go.Deep
/-- A store that came in: its age, its cell, its records. -/
abbrev Am (a:Int) (l:List Value) (r:Value):Value:=match l with
 | [x0,x1,x2,x3,x4,x5]=>.agg #[zI a,x0,x1,x2,x3,x4,x5,r]
 | _=>undef
theorem gq.set {lo B j:Nat} {w:World} {v u:Value} {V:CV} (h:gq lo w v V) (hB:B<lo):gq lo (w.setCell (zA B j) u) v V:=by
 obtain ⟨bW,bO,bX,bI,hi,q0,q1,q2,q3,q4,q5,e,g1,g2,g3,g4⟩:=h
 exact ⟨bW,bO,bX,bI,hi,q0,q1,q2,q3,by rw [ay];exact q4,q5,e,gQ g1 (by omega),ig g2 (by omega),dU g3 (by omega),dU g4 (by omega)⟩
theorem gq.below {lo:Nat} {w w':World} {v:Value} {V:CV} (h:gq lo w v V) (hb:Below w.heap.size w w'):gq lo w' v V:=by
 obtain ⟨bW,bO,bX,bI,hi,q0,q1,q2,q3,q4,q5,e,g1,g2,g3,g4⟩:=h
 have hz:=hb.size
 exact ⟨bW,bO,bX,bI,hi,q0,q1,q2,q3,by omega,q5,e,own_below g1 (by omega) hb,mX g2 (by omega) hb,bV g3 (by omega) hb,bV g4 (by omega) hb⟩
theorem P16.iL {w w':World} {a:Option Addr} {n:Nat} {Z:Nat→Nat→Int} (h:P16.qA w a n Z) (hb:Below w.heap.size w w'):P16.qA w' a n Z:=by
 rcases h with rfl | ⟨b,o,rfl,hlt,hr⟩
 ·exact .inl rfl
 ·exact .inr ⟨b,o,rfl,Hg hlt hb.size,fun k j hk hj=>(hb.cell (p:=⟨b,_,none⟩) hlt).trans (hr k j hk hj)⟩
theorem gq.low {lo lo':Nat} {w:World} {v:Value} {V:CV} (h:gq lo w v V) (hl:lo'≤lo):gq lo' w v V:=by
 obtain ⟨bW,bO,bX,bI,hi,q0,q1,q2,q3,q4,q5,e,g1,g2,g3,g4⟩:=h
 exact ⟨bW,bO,bX,bI,hi,by omega,q1,q2,q3,q4,q5,e,g1,g2,g3,g4⟩
theorem P16.jB {w:World} {B g n k j:Nat} {Z:Nat→Nat→Int} {u:Value} (h:P16.iy w g n Z k) (hne:¬ B=g):P16.iy (w.setCell (zA B j) u) g n Z k :=
 ⟨fun i hi=>by rw [aJ (fun e=>hne e.1),aB];exact h.1 i hi,fun k' j' hk hj=>by rw [aJ (fun e=>hne e.1)];exact h.2 k' j' hk hj⟩
abbrev z8:List Value:=[zI 0,zI 0,.slice none 0 0,zI 0,.slice none 0 0,.slice none 0 0,.slice none 0 0,.slice none 0 0]
theorem GK (a:Option Addr) (n cap:Nat) (z:Int) (hz:0≤z∧z≤1048576) (hn:(n:Int)≤9223372036854775807) (w:World) :
 Hz 18 #[.slice a n cap,zI z] w fun e w'=>e=.returned (zI (if (n:Int)≤z then z-n else -1))∧Below w.heap.size w w':=by
 by_cases h:(n:Int)≤z
 ·go_enter Tryz.func18,Tryz.ntmps18
  go_wp2
  all_goals (go_ret;exact ⟨by simp <;> omega,Hr _ _⟩)
 ·go_enter Tryz.func18,Tryz.ntmps18
  go_wp2
  all_goals (go_ret;exact ⟨by simp <;> omega,Hr _ _⟩)
theorem DT (a:Int) (V:CV) (aW:Option Addr) (kW:Nat) (aO:Option Addr) (kO:Nat) (aX:Option Addr) (kX:Nat) (aI:Option Addr) (kI:Nat) (aR:Option Addr) (nR kR:Nat) (hs:V.short maxLen) (hn:nR≤maxLen) (w:World) (h:iO w (.agg (zD V aW kW aO kO aX kX aI kI).toArray) V) :
 Hz 24 #[Am a (zD V aW kW aO kO aX kX aI kI) (.slice aR nR kR),zI 1048576] w fun e w'=>(∃ r:Int,e=.returned (zI r)∧(r<0∨(0≤r∧V.short 1048576∧mG V.N V.nO≤1048576∧nR≤1048576)))∧Below w.heap.size w w':=by
 unfold maxLen at hn
 have HC:=hid h
 clear h
 go_enter Tryz.func24,Tryz.ntmps24
 go_wp2_with fail
 obtain ⟨w0,e0,B1,S1,hz0⟩:=Gz w [zI a,zI V.c,.slice aW V.nW kW,zI V.g,.slice aO V.nO kO,.slice aX V.nX kX,.slice aI V.nI kI,.slice aR nR kR] 67
 rw [←e0]
 clear e0
 refine (DZ _ V hs _ (dw HC.out B1.out)).mono ?_
 rintro e w1 ⟨⟨r,rfl,hr⟩,hb⟩
 have B2:=hid (ah B1.out hb)
 have S2:=hid (S1.out.below hb)
 clear B1 S1 hb
 rcases hr with hr | ⟨r0,r1,r2,r3⟩
 ·go_wp2
  go_ret
  exact ⟨⟨-1,rfl,.inl (by omega)⟩,B2.out⟩
 have R2:=hid r2
 have R3:=hid r3
 clear r2 r3
 obtain ⟨y0,y1,y2,y3,y4,y5,y6,y7⟩:=S2.out.a8
 have hlS:w.heap.size<w1.heap.size:=S2.out.1
 go_wp2_with fail
 clear y0 y1 y2 y3 y4 y5 y6 y7 hlS
 refine (GK aR nR kR r ⟨r0,r1⟩ (by omega) _).mono ?_
 rintro e w2 ⟨rfl,hb⟩
 have B3:=hid (ah B2.out hb)
 clear B2 S2 hb
 by_cases hk:(nR:Int)≤r
 ·rw [if_pos hk]
  have hk0:0≤r-(nR:Int):=by omega
  go_wp2
  go_ret
  exact ⟨⟨_,rfl,.inr ⟨hk0,R2.out,R3.out,by omega⟩⟩,B3.out⟩
 ·rw [if_neg hk]
  go_wp2
  go_ret
  exact ⟨⟨-1,rfl,.inl (by omega)⟩,B3.out⟩
theorem jV (a:Int) (V:CV) (Z:Nat→Nat→Int) (aW:Option Addr) (kW:Nat) (aO:Option Addr) (kO:Nat) (aX:Option Addr) (kX:Nat) (aI:Option Addr) (kI:Nat) (aR:Option Addr) (nR kR:Nat) (hs0:V.short 1048576) (hn:nR≤1048576) (w:World) (h0:iO w (.agg (zD V aW kW aO kO aX kX aI kI).toArray) V) (hR0:P16.qA w aR nR Z) :
 Hz 26 #[Am a (zD V aW kW aO kO aX kX aI kI) (.slice aR nR kR)] w fun e w'=>(∃ bW bO bX bI bR,e=.returned (Am a (zC V bW V.nW bO V.nO bX V.nX bI V.nI) (zS bR nR nR))∧gq w.heap.size w' (.agg (zC V bW V.nW bO V.nO bX V.nX bI V.nI).toArray) V∧bR<w'.heap.size∧P16.iy w' bR nR Z nR∧aV w.heap.size bR w' (.agg (zC V bW V.nW bO V.nO bX V.nX bI V.nI).toArray) V∧w.heap.size≤bR)∧Below w.heap.size w w':=by
 have hs:=hid hs0
 have HC:=hid h0
 have HR:=hid hR0
 clear hs0 h0 hR0
 go_enter Tryz.func26,Tryz.ntmps26
 go_wp2_with fail
 obtain ⟨w0,e0,B1,S1,Q1,O1,hz0⟩:=Ff w [zI a,zI V.c,.slice aW V.nW kW,zI V.g,.slice aO V.nO kO,.slice aX V.nX kX,.slice aI V.nI kI,.slice aR nR kR] 67 z8 71 [zI a,zI 0,.slice none 0 0,zI 0,.slice none 0 0,.slice none 0 0,.slice none 0 0,.slice none 0 0] 71
 rw [←e0]
 clear e0
 refine (DI _ V hs.out _ (dw HC.out B1.out)).mono ?_
 rintro e w1 ⟨⟨u,rfl,hO⟩,hb⟩
 obtain ⟨bW,bO,bX,bI,hi,q0,q1,q2,q3,q4,q5,rfl,g1,g2,g3,g4⟩:=hO
 have CB:Hid (gq w0.heap.size w1 (.agg (zC V bW V.nW bO V.nO bX V.nX bI V.nI).toArray) V):=⟨bW,bO,bX,bI,hi,q0,q1,q2,q3,q4,q5,rfl,g1,g2,g3,g4⟩
 clear g1 g2 g3 g4
 have OW:=hid CB.out.own
 have kz1:=hb.size
 have B2:=hid (ah B1.out hb)
 have S2:=hid (S1.out.below hb)
 have Q2:=hid (Q1.out.below hb)
 have O2:=hid (O1.out.below hb)
 clear B1 S1 Q1 O1 hb
 obtain ⟨y0,y1,y2,y3,y4,y5,y6,y7⟩:=S2.out.a8
 have hlS:w.heap.size<w1.heap.size:=S2.out.1
 obtain ⟨o0,o1,o2,o3,o4,o5,o6,o7⟩:=O2.out.a8
 obtain ⟨f0,f1,f2,f3,f4,f5,f6,f7⟩:=O2.out.f8
 have hlO:(w.heap.size+1+1)<w1.heap.size:=O2.out.1
 go_wp2_with fail
 clear y0 y1 y2 y3 y4 y5 y6 y7 hlS o0 o1 o2 o3 o4 o5 o6 o7 f0 f1 f2 f3 f4 f5 f6 f7
 obtain ⟨w2,e2⟩:∃ X,X=((((((w1.setCell (zA (w.heap.size+1+1) 1) (zI V.c)).setCell (zA (w.heap.size+1+1) 2) (zS bW V.nW V.nW)).setCell (zA (w.heap.size+1+1) 3) (zI V.g)).setCell (zA (w.heap.size+1+1) 4) (zS bO V.nO V.nO)).setCell (zA (w.heap.size+1+1) 5) (zS bX V.nX V.nX)).setCell (zA (w.heap.size+1+1) 6) (zS bI V.nI V.nI)):=⟨_,rfl⟩
 rw [←e2]
 have O3:Hid (Bk w2 (w.heap.size+1+1) [zI a,zI V.c,zS bW V.nW V.nW,zI V.g,zS bO V.nO V.nO,zS bX V.nX V.nX,zS bI V.nI V.nI,.slice none 0 0]):=by
  unfold Hid
  rw [e2]
  exact (((((O2.out.set (j:=1) (by simp)).set (j:=2) (by simp)).set (j:=3) (by simp)).set (j:=4) (by simp)).set (j:=5) (by simp)).set (j:=6) (by simp)
 have kz2:w2.heap.size=w1.heap.size:=by rw [e2];simp [World.setCell]
 have SM:∀ x,¬ x=w.heap.size+1+1→Sm w1 w2 x:=fun x hx=>by rw [e2];exact fun o=>⟨by rw [aJ (fun e=>hx e.1.symm),aJ (fun e=>hx e.1.symm),aJ (fun e=>hx e.1.symm),aJ (fun e=>hx e.1.symm),aJ (fun e=>hx e.1.symm),aJ (fun e=>hx e.1.symm)],by rw [aB,aB,aB,aB,aB,aB]⟩
 have B3:Hid (Below w.heap.size w w2):=by unfold Hid;rw [e2];exact (((((B2.out.setCell (by show w.heap.size≤w.heap.size+1+1;omega) _).setCell (by show w.heap.size≤w.heap.size+1+1;omega) _).setCell (by show w.heap.size≤w.heap.size+1+1;omega) _).setCell (by show w.heap.size≤w.heap.size+1+1;omega) _).setCell (by show w.heap.size≤w.heap.size+1+1;omega) _).setCell (by show w.heap.size≤w.heap.size+1+1;omega) _
 have CB3:Hid (gq w0.heap.size w2 (.agg (zC V bW V.nW bO V.nO bX V.nX bI V.nI).toArray) V):=by unfold Hid;rw [e2];exact (((((CB.out.set (by omega)).set (by omega)).set (by omega)).set (by omega)).set (by omega)).set (by omega)
 have Q3:=hid (Q2.out.sm (Hl kz2.symm) (SM _ (by omega)))
 have OW3:=hid (OW.out.sm (Hl kz2.symm) (fun b g1 g2=>SM b (by omega)))
 clear e2 SM OW CB Q2 O2 S2 B2
 refine (P16.yu aR nR kR Z hn _ (P16.iL HR.out B3.out)).mono ?_
 rintro e w3 ⟨rfl,g1,hl3,hb⟩
 rw [kz2] at g1 hl3 ⊢
 have kz3:=Hl kz2
 have kz4:=Hl kz2.symm
 clear kz2
 have kz5:=hb.size
 have OR:=hid g1
 have B4:=hid (ah B3.out hb)
 have O4:=hid (O3.out.below hb)
 have Q4:=hid (Q3.out.below hb)
 have CB4:=hid (CB3.out.below hb)
 have OW4:=hid (OW3.out.below (by omega) hb)
 clear g1 B3 O3 Q3 CB3 OW3
 obtain ⟨o0,o1,o2,o3,o4,o5,o6,o7⟩:=O4.out.a8
 obtain ⟨f0,f1,f2,f3,f4,f5,f6,f7⟩:=O4.out.f8
 have hlO':(w.heap.size+1+1)<w3.heap.size:=O4.out.1
 obtain ⟨p0,p1,p2,p3,p4,p5,p6,p7⟩:=Q4.out.a8
 obtain ⟨t0,t1,t2,t3,t4,t5,t6,t7⟩:=Q4.out.f8
 have hlQ:(w.heap.size+1)<w3.heap.size:=Q4.out.1
 go_wp2
 refine Hw (v:=Am a (zC V bW V.nW bO V.nO bX V.nX bI V.nI) (zS w1.heap.size nR nR)) (by simp [results,Tryz.results26,go_sem,p0,p1,p2,p3,p4,p5,p6,p7]) rfl ?_
 refine ⟨⟨bW,bO,bX,bI,w1.heap.size,rfl,gq.low (lo:=w0.heap.size) (gq.set (gq.set (gq.set (gq.set (gq.set (gq.set (gq.set (gq.set (gq.set CB4.out (by omega)) (by omega)) (by omega)) (by omega)) (by omega)) (by omega)) (by omega)) (by omega)) (by omega)) (by omega),?_,?_⟩,?_⟩
 ·simp only [ay];omega
 ·refine ⟨P16.jB (P16.jB (P16.jB (P16.jB (P16.jB (P16.jB (P16.jB (P16.jB (P16.jB OR.out (by omega)) (by omega)) (by omega)) (by omega)) (by omega)) (by omega)) (by omega)) (by omega)) (by omega),?_,by omega⟩
  refine (OW4.out.sm ?_ (fun b g1 g2=>?_)).wide (by omega) (Ho _) ?_
  ·simp only [ay];omega
  ·exact Sm.trans (fun o=>⟨aJ (fun e=>absurd e.1 (by show ¬ w.heap.size+1+1=b;omega)),aB⟩) (jQ (b:=w.heap.size+1) (by omega) [zI a,zI V.c,zS bW V.nW V.nW,zI V.g,zS bO V.nO V.nO,zS bX V.nX V.nX,zS bI V.nI V.nI,zS w1.heap.size nR nR] 0 _)
  ·simp only [ay];omega
 ·exact gu (by omega) [zI a,zI V.c,zS bW V.nW V.nW,zI V.g,zS bO V.nO V.nO,zS bX V.nX V.nX,zS bI V.nI V.nI,zS w1.heap.size nR nR] 0 (B4.out.setCell (by show w.heap.size≤w.heap.size+1+1;omega) _)
theorem Ec (a:Int) (V:CV) (Z:Nat→Nat→Int) (bW bO bX bI bR cW cO cX cI cR nR:Nat) (hs0:V.short 2000000) (hn:nR≤2000000) (w:World) (h1:iO w (.agg (zC V bW V.nW bO V.nO bX V.nX bI V.nI).toArray) V) (h2:iO w (.agg (zC V cW V.nW cO V.nO cX V.nX cI V.nI).toArray) V)
 (hb:bR<w.heap.size) (hc:cR<w.heap.size) (g1:P16.iy w bR nR Z nR) (g2:P16.iy w cR nR Z nR) :
 Hz 28 #[Am a (zC V bW V.nW bO V.nO bX V.nX bI V.nI) (zS bR nR nR),Am a (zC V cW V.nW cO V.nO cX V.nX cI V.nI) (zS cR nR nR)] w fun e w'=>e=.returned (.bool true)∧Below w.heap.size w w':=by
 have hs:=hid hs0
 have C1:=hid h1
 have C2:=hid h2
 have G1:=hid g1
 have G2:=hid g2
 clear hs0 h1 h2 g1 g2
 go_enter Tryz.func28,Tryz.ntmps28
 go_wp2_with fail
 obtain ⟨w0,e0,B1,S1,Q1,hz0⟩:=EX w [zI a,zI V.c,zS bW V.nW V.nW,zI V.g,zS bO V.nO V.nO,zS bX V.nX V.nX,zS bI V.nI V.nI,zS bR nR nR] 71 [zI a,zI V.c,zS cW V.nW V.nW,zI V.g,zS cO V.nO V.nO,zS cX V.nX V.nX,zS cI V.nI V.nI,zS cR nR nR] 71
 rw [←e0]
 clear e0
 refine (uP _ _ V hs.out _ (dw C1.out B1.out) (dw C2.out B1.out)).mono ?_
 rintro e w1 ⟨rfl,hb'⟩
 have kz1:=hb'.size
 have B2:=hid (ah B1.out hb')
 have S2:=hid (S1.out.below hb')
 have Q2:=hid (Q1.out.below hb')
 clear B1 S1 Q1 hb'
 obtain ⟨y0,y1,y2,y3,y4,y5,y6,y7⟩:=S2.out.a8
 have hlS:w.heap.size<w1.heap.size:=S2.out.1
 obtain ⟨o0,o1,o2,o3,o4,o5,o6,o7⟩:=Q2.out.a8
 have hlO:(w.heap.size+1)<w1.heap.size:=Q2.out.1
 go_wp2_with fail
 clear y0 y1 y2 y3 y4 y5 y6 y7 hlS o0 o1 o2 o3 o4 o5 o6 o7 hlO
 have K1:=P16.own_below G1.out hb B2.out
 have K2:=P16.own_below G2.out hc B2.out
 refine (P16.sH bR 0 nR cR 0 nR nR Z hn _ (by omega) (by omega) (P16.aZ K1) (P16.aZ K2)).mono ?_
 rintro e w2 ⟨rfl,hb'⟩
 go_wp2
 go_ret
 exact ⟨rfl,ah B2.out hb'⟩
