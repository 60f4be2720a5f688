/- l6Apply of the model, at a cell that is ok; conditions: the cell lies in memory of its own. -/
import Derived.Test.YtngaboipleimcabGreatDoorIn4
import Derived.Deep.MidRow
import Derived.Test.YtngaboipleimcabGreatDoorLB2
import Derived.Test.YtngaboipleimcabGreatDoorLA2
import Derived.Test.YtngaboipleimcabGreatDoorLA5
set_option linter.unusedVariables false
set_option maxRecDepth 100000
set_option maxHeartbeats 8000000
namespace Go.Proofs.YtngaboipleimcabGreatDoor
open Go.RowKit Go.Deep
theorem Bk.range {W:World} {b:Nat} {l:List Value} (h:Bk W b l):W.rangeAt b 0 l:=by
 intro j v hv;obtain ⟨hj,rfl⟩:=List.getElem?_eq_some_iff.1 hv;rw [Nat.zero_add];have g:=(h.2 j hj).1;rw [g,List.getD_eq_getElem?_getD,hv];rfl
def xB (v:Value):Sem Value:=Instr.loadAt 71 v
theorem uH (v:Value):Instr.loadAt 71 v=xB v:=rfl
theorem iK {w:World} {b:Nat} {l:List Value} (h:Bk w b l) (hl:l.length=16):(xB (zP b 0)).run Tryz.prog w=.ok (.agg l.toArray) w :=
 run_loadAt_mid w b 0 71 l _ (Bk.range h) Tryz.underlying71 rfl (by rw [hl];kernel_rfl)
attribute [local go_sem ↓] uH
theorem aV.wide {lo lo' hi hi':Nat} {w:World} {v:Value} {V:CV} (h:aV lo hi w v V) (h0:lo'<=lo) (h1:hi<=hi') (h2:hi'<=w.heap.size):aV lo' hi' w v V:=by
 obtain ⟨vW,vO,vX,vI,gW,gO,gX,gI,sl,xs,e,rW,rO,rX,rI,hd,hx1,hx2⟩:=h;have sm:∀ g,Sm w w g:=fun g=>Sm.refl w g;refine ⟨vW,vO,vX,vI,gW,gO,gX,gI,sl,xs,e,rW.go h0 h1 h2 (fun _ _ _=>sm _),?_,rX.go h0 h1 h2 (fun _ _ _=>sm _),rI.go h0 h1 h2 (fun _ _ _=>sm _),hd,hx1,hx2⟩;rcases rO with r | ⟨co,e1,l1,l2,l3,hc⟩
 ·exact .inl r
 exact .inr ⟨co,e1,by omega,by omega,h2,fun k hk=>⟨(hc k hk).1,(hc k hk).2.go h0 h1 h2 (fun _ _ _=>sm _)⟩⟩
theorem Ag {V:CV} {o s:Int} {f:Nat->Int} {tt:Bool} (hr:dJ V.W V.nW) (h:FY V.W V.nW o f tt):(tt && decide (f 3<s))=iY V o s:=by
 unfold iY;rcases h with ⟨hno,rfl,_⟩ | ⟨m,hm,rfl,hf⟩
 ·rw [fK V.nW hno];rfl
 rw [dB V.nW hr hm.1 hm.2.1,hf 3];rfl
theorem yZ (o0 o1 o2 o3 o4:Int) (V:CV) (v:Value) (lo:Nat) (hr:dJ V.W V.nW) (hs0:V.short 1048576) (w:World) (h:dL w v V) :
 Hz 98 #[v,.agg #[zI o0,zI o1,zI o2,zI o3,zI o4]] w fun e w'=>e=.returned (.bool (iY V o0 o1))/\Below w.heap.size w w':=by
 obtain ⟨aW9,bO,bX,bI,cW,cO,cX,cI,q2,q3,q4,rfl,g1,g2,g3,g4⟩:=h;obtain ⟨f,tt,hF⟩:=CU V.W V.nW o0;refine (DL o0 o1 o2 o3 o4 V aW9 cW bO cO bX cX bI cI hs0 w g1 f tt hF).mono ?_;rintro e w' ⟨rfl,hb⟩;exact ⟨by rw [Ag hr hF],hb⟩
theorem tK (c d sd pn pk pi pa pm ps pl pc:Int) (v:Value) (V:CV) (lo:Nat) (h1:bD c d V=true) (hp:jf c d pn pk pi pa pm ps pl pc=true) (hs:inB sd 0 1=true) (hs0:V.short 1048576) (w:World) (h:dL w v V) :
 Hz 100 #[.agg #[zI c,zI d],v,zI sd,.agg #[zI pn,zI pk,zI pi,zI pa,zI pm,zI ps,zI pl,zI pc]] w fun e w'=>(∃ u,e=.returned (.tuple #[u,.bool (takeB c d V (dA V.W V.nW) sd.toNat pn pk pi pa pc)])/\aV w.heap.size w'.heap.size w' u (CV.inn c d V sd.toNat pn pk pi pa pm ps pl pc))/\Below w.heap.size w w':=by
 obtain ⟨q,rfl,hq⟩:=lF hs;obtain ⟨_,_,n3⟩:=dH h1;have hin:=qK h1;exact Au c d pn pk pi pa pm ps pl pc v V lo q (pM hp).1 h1 hs0 (by have:=jF h1;omega) (by omega) (hin.2 q hq) hin.1 (pM hp).2 w h
theorem zy {c d:Int} {V:CV} (h:bD c d V=true) (q:Nat) (hq:q<2):∀ k,k<V.N q->V.O q k 0=V.X q - V.N q+k:=by
 have hl:P8.eP c d (V.X q) (V.N q) (V.O q)=true:=by
  simp only [bD,dN,Bool.and_eq_true] at h;have:q=0∨q=1:=by omega
  rcases this with rfl | rfl
  ·exact h.2.2.2.2.2.2.2.1.1
  exact h.2.2.2.2.2.2.2.2.1
 exact (Cf hl).2
theorem rf (c d sd z:Int) (v:Value) (V:CV) (lo:Nat) (h1:bD c d V=true) (hs:inB sd 0 1=true) (hs0:V.short 1048576) (w:World) (h:dL w v V) :
 Hz 101 #[v,zI sd,zI z] w fun e w'=>(∃ u,e=.returned (.tuple #[u,.bool (jk V sd.toNat z)])/\aV w.heap.size w'.heap.size w' u (V.after sd.toNat z))/\Below w.heap.size w w':=by
 obtain ⟨q,rfl,hq⟩:=lF hs;obtain ⟨n1,n2,n3⟩:=dH h1;have hx:=kD h1 q hq;refine (yG v V lo q z hs0 (by omega) (by omega) hx.1.1 hx.1.2 (zy h1 q hq) w h).mono ?_;rintro e w' ⟨⟨u,tt,rfl,rfl,ho⟩,hb⟩;exact ⟨⟨u,rfl,ho⟩,hb⟩
theorem Fa (c d:Int) (v:Value) (V:CV) (lo:Nat) (R:Nat->Int) (hs0:V.short 1048576) (hlog:iD c d R=false) (w:World) (h:dL w v V) :
 Hz 70 #[.agg #[zI c,zI d],v,rv R] w fun e w'=>(∃ u,e=.returned (.tuple #[u,zI (aF c d V R).2.1,.bool (aF c d V R).2.2])/\aV w.heap.size w'.heap.size w' u (aF c d V R).1)/\Below w.heap.size w w':=by
 unfold rv;have HL:=fQ hlog;clear hlog;obtain ⟨aW9,bO,bX,bI,cW,cO,cX,cI,q2,q3,q4,rfl,g1,g2,g3,g4⟩:=h;have CP:bY (dL w (.agg (zG V aW9 cW bO cO bX cX bI cI).toArray) V):=⟨aW9,bO,bX,bI,cW,cO,cX,cI,q2,q3,q4,rfl,g1,g2,g3,g4⟩;have hs:=fQ hs0;clear g1 g2 g3 g4 hs0 q2 q3 q4;go_enter Tryz.func70,Tryz.ntmps70;go_wp2_with fail;obtain ⟨w0,e0,hB0,hM0,hC0,hP0,hQ0,hz0⟩:=zV w [zI c,zI d] 44 (zG V aW9 cW bO cO bX cX bI cI) 36 (zR R) 71 zN 36;rw [<-e0];clear e0;have B1:=fQ hB0;have M2:=fQ hM0;have C3:=fQ hC0;have P4:=fQ hP0;have Q5:=fQ hQ0;clear hB0 hM0 hC0 hP0 hQ0;obtain ⟨yM0,yM1⟩:=M2.o.a2;have hlM:(w.heap.size)<w0.heap.size:=M2.o.1;have yC0:=C3.o.a6;have hlC:(w.heap.size+1)<w0.heap.size:=C3.o.1;rw [iK P4.o rfl];go_wp2_with fail;clear yM0 yM1 hlM yC0 hlC;refine (gK c d (R 0) (R 1) (R 2) (R 3) (R 4) (R 5) (R 6) (R 7) (R 8) (R 9) (R 10) (R 11) (R 12) (R 13) (R 14) (R 15) _).mono ?_;rintro e w1 ⟨rfl,hb⟩;rw [show iE c d (R 0) (R 1) (R 2) (R 3) (R 4) (R 5) (R 6) (R 7) (R 8) (R 9) (R 10) (R 11) (R 12) (R 13) (R 14) (R 15)=false from HL.o];have y_w1:w0.heap.size<=w1.heap.size:=hb.size;have B6:=fQ (ah B1.o hb);have M6:=fQ (M2.o.q hb);have C6:=fQ (C3.o.q hb);have P6:=fQ (P4.o.q hb);have Q6:=fQ (Q5.o.q hb);clear B1 M2 C3 P4 Q5;have zzw1:w0.heap.size<=w1.heap.size:=hb.size;clear hb;have yC0:=C6.o.a6;have hlC:(w.heap.size+1)<w1.heap.size:=C6.o.1;go_wp2_with fail;clear yC0 hlC;refine (fC _ V hs.o _ (CP.o.q B6.o)).mono ?_;rintro e w2 ⟨⟨u,rfl,hO,_,_⟩,hb⟩;have y_w2:w1.heap.size<=w2.heap.size:=hb.size;have B7:=fQ (ah B6.o hb);have M7:=fQ (M6.o.q hb);have C7:=fQ (C6.o.q hb);have P7:=fQ (P6.o.q hb);have Q7:=fQ (Q6.o.q hb);clear B6 M6 C6 P6 Q6;have zzw2:w1.heap.size<=w2.heap.size:=hb.size;clear hb;have ER:bY (aF c d V R=(V,0,false)):=by unfold bY aF;rw [if_pos HL.o]
 obtain ⟨aW,kW,aO,kO,aX,kX,aI,kI,rfl,_,_,_,_⟩:=hO.at;have O6:=fQ hO;clear hO;obtain ⟨yQ0,yQ1,yQ2,yQ3,yQ4,yQ5⟩:=Q7.o.a6;have zQ0:=Q7.o.f6;have hlQ:(w.heap.size+1+1+1)<w2.heap.size:=Q7.o.1;go_wp2;refine Hw (v:=.tuple #[.agg (zD V aW kW aO kO aX kX aI kI).toArray,zI 0,.bool false]) (by simp [results,Tryz.results70,go_sem,yQ0,yQ1,yQ2,yQ3,yQ4,yQ5]) rfl ?_;have hzz:=au w2 (w.heap.size+1+1+1) (.int .i64 V.c) (.slice aW V.nW kW) (.int .i64 V.g) (.slice aO V.nO kO) (.slice aX V.nX kX) (.slice aI V.nI kI);refine ⟨⟨_,by rw [ER.o],?_⟩,?_⟩
 ·show aV w.heap.size (aG w2 (w.heap.size+1+1+1) (zI V.c) (.slice aW V.nW kW) (zI V.g) (.slice aO V.nO kO) (.slice aX V.nX kX) (.slice aI V.nI kI)).heap.size (aG w2 (w.heap.size+1+1+1) (zI V.c) (.slice aW V.nW kW) (zI V.g) (.slice aO V.nO kO) (.slice aX V.nX kX) (.slice aI V.nI kI)) _ _;rw [hzz,ER.o];exact (O6.o.sm (Hl hzz.symm) (fun x g1 g2=>aH (by omega) (zI V.c) (.slice aW V.nW kW) (zI V.g) (.slice aO V.nO kO) (.slice aX V.nX kX) (.slice aI V.nI kI))).wide (by omega) (by omega) (by omega)
 exact ax B7.o (by omega) _ _ _ _ _ _
theorem KI (c d:Int) (v:Value) (V:CV) (lo:Nat) (R:Nat->Int) (hs0:V.short 1048576) (hV:bD c d V=true) (hlog:iD c d R=true) (w:World) (h:dL w v V) :
 Hz 70 #[.agg #[zI c,zI d],v,rv R] w fun e w'=>(∃ u,e=.returned (.tuple #[u,zI (aF c d V R).2.1,.bool (aF c d V R).2.2])/\aV w.heap.size w'.heap.size w' u (aF c d V R).1)/\Below w.heap.size w w':=by
 unfold rv;have HL:=fQ hlog;clear hlog;obtain ⟨aW9,bO,bX,bI,cW,cO,cX,cI,q2,q3,q4,rfl,g1,g2,g3,g4⟩:=h;have CP:bY (dL w (.agg (zG V aW9 cW bO cO bX cX bI cI).toArray) V):=⟨aW9,bO,bX,bI,cW,cO,cX,cI,q2,q3,q4,rfl,g1,g2,g3,g4⟩;have hs:=fQ hs0;clear g1 g2 g3 g4 hs0 q2 q3 q4;go_enter Tryz.func70,Tryz.ntmps70;go_wp2_with fail;obtain ⟨w0,e0,hB0,hM0,hC0,hP0,hQ0,hz0⟩:=zV w [zI c,zI d] 44 (zG V aW9 cW bO cO bX cX bI cI) 36 (zR R) 71 zN 36;rw [<-e0];clear e0;have B1:=fQ hB0;have M2:=fQ hM0;have C3:=fQ hC0;have P4:=fQ hP0;have Q5:=fQ hQ0;clear hB0 hM0 hC0 hP0 hQ0;obtain ⟨yM0,yM1⟩:=M2.o.a2;have hlM:(w.heap.size)<w0.heap.size:=M2.o.1;have yC0:=C3.o.a6;have hlC:(w.heap.size+1)<w0.heap.size:=C3.o.1;rw [iK P4.o rfl];go_wp2_with fail;clear yM0 yM1 hlM yC0 hlC;refine (gK c d (R 0) (R 1) (R 2) (R 3) (R 4) (R 5) (R 6) (R 7) (R 8) (R 9) (R 10) (R 11) (R 12) (R 13) (R 14) (R 15) _).mono ?_;rintro e w1 ⟨rfl,hb⟩;rw [show iE c d (R 0) (R 1) (R 2) (R 3) (R 4) (R 5) (R 6) (R 7) (R 8) (R 9) (R 10) (R 11) (R 12) (R 13) (R 14) (R 15)=true from HL.o];have y_w1:w0.heap.size<=w1.heap.size:=hb.size;have B6:=fQ (ah B1.o hb);have M6:=fQ (M2.o.q hb);have C6:=fQ (C3.o.q hb);have P6:=fQ (P4.o.q hb);have Q6:=fQ (Q5.o.q hb);clear B1 M2 C3 P4 Q5;have zzw1:w0.heap.size<=w1.heap.size:=hb.size;clear hb;rcases nV HL.o with ⟨hk,hOk⟩ | ⟨hk,hs1,hp⟩ | ⟨hk,hs1,hn3⟩
 case inl=>
  obtain ⟨yM0,yM1⟩:=M6.o.a2;have hlM:(w.heap.size)<w1.heap.size:=M6.o.1;have yC0:=C6.o.a6;have hlC:(w.heap.size+1)<w1.heap.size:=C6.o.1;have yP0:=P6.o.a16;have hlP:(w.heap.size+1+1)<w1.heap.size:=P6.o.1;go_wp2_with fail;clear yM0 yM1 hlM yC0 hlC yP0 hlP;refine (yZ (R 1) (R 2) (R 3) (R 4) (R 5) V _ lo (fB hV) hs.o _ (CP.o.q B6.o)).mono ?_;rintro e w2 ⟨rfl,hb⟩;by_cases hf:iY V (R 1) (R 2)=true
  case neg=>
   have HF:bY (iY V (R 1) (R 2)=false):=by unfold bY;cases h:iY V (R 1) (R 2);rfl;exact absurd h hf
   clear hf;rw [HF.o];have y_w2:w1.heap.size<=w2.heap.size:=hb.size;have B7:=fQ (ah B6.o hb);have M7:=fQ (M6.o.q hb);have C7:=fQ (C6.o.q hb);have P7:=fQ (P6.o.q hb);have Q7:=fQ (Q6.o.q hb);clear B6 M6 C6 P6 Q6;have zzw2:w1.heap.size<=w2.heap.size:=hb.size;clear hb;have yC0:=C7.o.a6;have hlC:(w.heap.size+1)<w2.heap.size:=C7.o.1;go_wp2_with fail;clear yC0 hlC;refine (fC _ V hs.o _ (CP.o.q B7.o)).mono ?_;rintro e w3 ⟨⟨u,rfl,hO,_,_⟩,hb⟩;have y_w3:w2.heap.size<=w3.heap.size:=hb.size;have B8:=fQ (ah B7.o hb);have M8:=fQ (M7.o.q hb);have C8:=fQ (C7.o.q hb);have P8:=fQ (P7.o.q hb);have Q8:=fQ (Q7.o.q hb);clear B7 M7 C7 P7 Q7;have zzw3:w2.heap.size<=w3.heap.size:=hb.size;clear hb;have ER:bY (aF c d V R=(V,0,false)):=by unfold bY aF;rw [if_neg (show ¬ iD c d R=false by rw [HL.o];simp)];rw [if_pos hk,if_neg (by rw [HF.o];simp)]
   obtain ⟨aW,kW,aO,kO,aX,kX,aI,kI,rfl,_,_,_,_⟩:=hO.at;have O6:=fQ hO;clear hO;obtain ⟨yQ0,yQ1,yQ2,yQ3,yQ4,yQ5⟩:=Q8.o.a6;have zQ0:=Q8.o.f6;have hlQ:(w.heap.size+1+1+1)<w3.heap.size:=Q8.o.1;go_wp2;refine Hw (v:=.tuple #[.agg (zD V aW kW aO kO aX kX aI kI).toArray,zI 0,.bool false]) (by simp [results,Tryz.results70,go_sem,yQ0,yQ1,yQ2,yQ3,yQ4,yQ5]) rfl ?_;have hzz:=au w3 (w.heap.size+1+1+1) (.int .i64 V.c) (.slice aW V.nW kW) (.int .i64 V.g) (.slice aO V.nO kO) (.slice aX V.nX kX) (.slice aI V.nI kI);refine ⟨⟨_,by rw [ER.o],?_⟩,?_⟩
   ·show aV w.heap.size (aG w3 (w.heap.size+1+1+1) (zI V.c) (.slice aW V.nW kW) (zI V.g) (.slice aO V.nO kO) (.slice aX V.nX kX) (.slice aI V.nI kI)).heap.size (aG w3 (w.heap.size+1+1+1) (zI V.c) (.slice aW V.nW kW) (zI V.g) (.slice aO V.nO kO) (.slice aX V.nX kX) (.slice aI V.nI kI)) _ _;rw [hzz,ER.o];exact (O6.o.sm (Hl hzz.symm) (fun x g1 g2=>aH (by omega) (zI V.c) (.slice aW V.nW kW) (zI V.g) (.slice aO V.nO kO) (.slice aX V.nX kX) (.slice aI V.nI kI))).wide (by omega) (by omega) (by omega)
   exact ax B8.o (by omega) _ _ _ _ _ _
  have HF:=fQ hf;clear hf;rw [HF.o];have y_w2:w1.heap.size<=w2.heap.size:=hb.size;have B7:=fQ (ah B6.o hb);have M7:=fQ (M6.o.q hb);have C7:=fQ (C6.o.q hb);have P7:=fQ (P6.o.q hb);have Q7:=fQ (Q6.o.q hb);clear B6 M6 C6 P6 Q6;have zzw2:w1.heap.size<=w2.heap.size:=hb.size;clear hb;obtain ⟨yM0,yM1⟩:=M7.o.a2;have hlM:(w.heap.size)<w2.heap.size:=M7.o.1;have yC0:=C7.o.a6;have hlC:(w.heap.size+1)<w2.heap.size:=C7.o.1;have yP0:=P7.o.a16;have hlP:(w.heap.size+1+1)<w2.heap.size:=P7.o.1;go_wp2_with fail;clear yM0 yM1 hlM yC0 hlC yP0 hlP;refine (zH c d (R 1) (R 2) (R 3) (R 4) (R 5) _ V lo hs.o hV hOk _ (CP.o.q B7.o)).mono ?_;rintro e w3 ⟨⟨u,z,rfl,rfl,hO3⟩,hb⟩;rw [FD hV hOk] at hO3 ⊢;have y_w3:w2.heap.size<=w3.heap.size:=hb.size;have B8:=fQ (ah B7.o hb);have M8:=fQ (M7.o.q hb);have C8:=fQ (C7.o.q hb);have P8:=fQ (P7.o.q hb);have Q8:=fQ (Q7.o.q hb);clear B7 M7 C7 P7 Q7;have zzw3:w2.heap.size<=w3.heap.size:=hb.size;clear hb;have ER:bY (aF c d V R=((qJ c d V (R 1) (R 2) (R 3) (R 4) (R 5)).1,(qJ c d V (R 1) (R 2) (R 3) (R 4) (R 5)).2,true)):=by unfold bY aF;rw [if_neg (show ¬ iD c d R=false by rw [HL.o];simp)];rw [if_pos hk,if_pos HF.o]
  obtain ⟨U,eU⟩:∃ U,U=(qJ c d V (R 1) (R 2) (R 3) (R 4) (R 5)).1:=⟨_,rfl⟩;rw [<-eU] at hO3 ER;clear eU;obtain ⟨aW,kW,aO,kO,aX,kX,aI,kI,rfl,_,_,_,_⟩:=hO3.at;have O6:=fQ hO3;clear hO3;obtain ⟨zc,ezc⟩:∃ z,z=(qJ c d V (R 1) (R 2) (R 3) (R 4) (R 5)).2:=⟨_,rfl⟩;rw [<-ezc] at ER ⊢;clear ezc;go_upto_region 8 with fail;obtain ⟨w3b,en,hbx,hX,-⟩:=bx1 w3 (zD U aW kW aO kO aX kX aI kI) 36;rw [<-en];clear en;have y_w3b:w3.heap.size<=w3b.heap.size:=hbx.size;have B9:=fQ (ah B8.o hbx);have M9:=fQ (M8.o.q hbx);have C9:=fQ (C8.o.q hbx);have P9:=fQ (P8.o.q hbx);have Q9:=fQ (Q8.o.q hbx);clear B8 M8 C8 P8 Q8;have zzw3b:w3.heap.size<=w3b.heap.size:=hbx.size;have X10:bY (Bk w3b w3.heap.size (zD U aW kW aO kO aX kX aI kI)):=hX;clear hX;have O7:=fQ (aV.q O6.o (by omega) hbx);clear O6 hbx;have yX0:=X10.o.a6;have hlX:w3.heap.size<w3b.heap.size:=X10.o.1;obtain ⟨yQ0,yQ1,yQ2,yQ3,yQ4,yQ5⟩:=Q9.o.a6;have zQ0:=Q9.o.f6;have hlQ:(w.heap.size+1+1+1)<w3b.heap.size:=Q9.o.1;go_wp2;refine Hw (v:=.tuple #[.agg (zD U aW kW aO kO aX kX aI kI).toArray,zI zc,.bool true]) (by simp [results,Tryz.results70,go_sem,yQ0,yQ1,yQ2,yQ3,yQ4,yQ5]) rfl ?_;have hzz:=au w3b (w.heap.size+1+1+1) (.int .i64 U.c) (.slice aW U.nW kW) (.int .i64 U.g) (.slice aO U.nO kO) (.slice aX U.nX kX) (.slice aI U.nI kI);refine ⟨⟨_,by rw [ER.o],?_⟩,?_⟩
  ·show aV w.heap.size (aG w3b (w.heap.size+1+1+1) (zI U.c) (.slice aW U.nW kW) (zI U.g) (.slice aO U.nO kO) (.slice aX U.nX kX) (.slice aI U.nI kI)).heap.size (aG w3b (w.heap.size+1+1+1) (zI U.c) (.slice aW U.nW kW) (zI U.g) (.slice aO U.nO kO) (.slice aX U.nX kX) (.slice aI U.nI kI)) _ _;rw [hzz,ER.o];exact (O7.o.sm (Hl hzz.symm) (fun x g1 g2=>aH (by omega) (zI U.c) (.slice aW U.nW kW) (zI U.g) (.slice aO U.nO kO) (.slice aX U.nX kX) (.slice aI U.nI kI))).wide (by omega) (by omega) (by omega)
  exact ax B9.o (by omega) _ _ _ _ _ _
 all_goals
  have hk1:¬ R 0=1:=by omega
  obtain ⟨yM0,yM1⟩:=M6.o.a2
  have hlM:(w.heap.size)<w1.heap.size:=M6.o.1
  have yC0:=C6.o.a6
  have hlC:(w.heap.size+1)<w1.heap.size:=C6.o.1
  have yP0:=P6.o.a16
  have hlP:(w.heap.size+1+1)<w1.heap.size:=P6.o.1
  go_wp2_with fail
  clear yM0 yM1 hlM yC0 hlC yP0 hlP
  refine (bT c d V.c (R 6) _).mono ?_
  rintro e w2 ⟨rfl,hb⟩
  by_cases hno:bf c d V.c (R 6)=-1
  case pos=>
   have HN:=fQ hno;clear hno;rw [HN.o];have y_w2:w1.heap.size<=w2.heap.size:=hb.size;have B7:=fQ (ah B6.o hb);have M7:=fQ (M6.o.q hb);have C7:=fQ (C6.o.q hb);have P7:=fQ (P6.o.q hb);have Q7:=fQ (Q6.o.q hb);clear B6 M6 C6 P6 Q6;have zzw2:w1.heap.size<=w2.heap.size:=hb.size;clear hb;have yC0:=C7.o.a6;have hlC:(w.heap.size+1)<w2.heap.size:=C7.o.1;go_wp2_with fail;clear yC0 hlC;refine (fC _ V hs.o _ (CP.o.q B7.o)).mono ?_;rintro e w3 ⟨⟨u,rfl,hO,_,_⟩,hb⟩;have y_w3:w2.heap.size<=w3.heap.size:=hb.size;have B8:=fQ (ah B7.o hb);have M8:=fQ (M7.o.q hb);have C8:=fQ (C7.o.q hb);have P8:=fQ (P7.o.q hb);have Q8:=fQ (Q7.o.q hb);clear B7 M7 C7 P7 Q7;have zzw3:w2.heap.size<=w3.heap.size:=hb.size;clear hb;have ER:bY (aF c d V R=(V,0,false)):=by unfold bY aF;rw [if_neg (show ¬ iD c d R=false by rw [HL.o];simp)];rw [if_neg (show ¬ R 0=1 by omega),if_pos HN.o]
   obtain ⟨aW,kW,aO,kO,aX,kX,aI,kI,rfl,_,_,_,_⟩:=hO.at;have O6:=fQ hO;clear hO;obtain ⟨yQ0,yQ1,yQ2,yQ3,yQ4,yQ5⟩:=Q8.o.a6;have zQ0:=Q8.o.f6;have hlQ:(w.heap.size+1+1+1)<w3.heap.size:=Q8.o.1;go_wp2;refine Hw (v:=.tuple #[.agg (zD V aW kW aO kO aX kX aI kI).toArray,zI 0,.bool false]) (by simp [results,Tryz.results70,go_sem,yQ0,yQ1,yQ2,yQ3,yQ4,yQ5]) rfl ?_;have hzz:=au w3 (w.heap.size+1+1+1) (.int .i64 V.c) (.slice aW V.nW kW) (.int .i64 V.g) (.slice aO V.nO kO) (.slice aX V.nX kX) (.slice aI V.nI kI);refine ⟨⟨_,by rw [ER.o],?_⟩,?_⟩
   ·show aV w.heap.size (aG w3 (w.heap.size+1+1+1) (zI V.c) (.slice aW V.nW kW) (zI V.g) (.slice aO V.nO kO) (.slice aX V.nX kX) (.slice aI V.nI kI)).heap.size (aG w3 (w.heap.size+1+1+1) (zI V.c) (.slice aW V.nW kW) (zI V.g) (.slice aO V.nO kO) (.slice aX V.nX kX) (.slice aI V.nI kI)) _ _;rw [hzz,ER.o];exact (O6.o.sm (Hl hzz.symm) (fun x g1 g2=>aH (by omega) (zI V.c) (.slice aW V.nW kW) (zI V.g) (.slice aO V.nO kO) (.slice aX V.nX kX) (.slice aI V.nI kI))).wide (by omega) (by omega) (by omega)
   exact ax B8.o (by omega) _ _ _ _ _ _
  have HN:=fQ hno
  clear hno
  obtain ⟨sf,esf⟩:∃ z,z=bf c d V.c (R 6):=⟨_,rfl⟩
  rw [<-esf]
  have hsf:¬ sf=-1:=by rw [esf];exact HN.o
  clear esf
  have y_w2:w1.heap.size<=w2.heap.size:=hb.size
  have B7:=fQ (ah B6.o hb)
  have M7:=fQ (M6.o.q hb)
  have C7:=fQ (C6.o.q hb)
  have P7:=fQ (P6.o.q hb)
  have Q7:=fQ (Q6.o.q hb)
  clear B6 M6 C6 P6 Q6
  have zzw2:w1.heap.size<=w2.heap.size:=hb.size
  clear hb
  obtain ⟨yM0,yM1⟩:=M7.o.a2
  have hlM:(w.heap.size)<w2.heap.size:=M7.o.1
  have yC0:=C7.o.a6
  have hlC:(w.heap.size+1)<w2.heap.size:=C7.o.1
  have yP0:=P7.o.a16
  have hlP:(w.heap.size+1+1)<w2.heap.size:=P7.o.1
  go_wp2_with fail
  clear yM0 yM1 hlM yC0 hlC yP0 hlP
  first | refine (tK c d (R 6) (R 7) (R 8) (R 9) (R 10) (R 11) (R 12) (R 13) (R 14) _ V lo hV hp hs1 hs.o _ (CP.o.q B7.o)).mono ?_ | refine (rf c d (R 6) (R 15) _ V lo hV hs1 hs.o _ (CP.o.q B7.o)).mono ?_
  rintro e w3 ⟨⟨u,rfl,hO3⟩,hb⟩
  obtain ⟨tb,etb⟩:∃ b,b=(if R 0=2 then takeB c d V (dA V.W V.nW) (R 6).toNat (R 7) (R 8) (R 9) (R 10) (R 14) else jk V (R 6).toNat (R 15)):=⟨_,rfl⟩
  obtain ⟨U,eU⟩:∃ U,U=(if R 0=2 then CV.inn c d V (R 6).toNat (R 7) (R 8) (R 9) (R 10) (R 11) (R 12) (R 13) (R 14) else V.after (R 6).toNat (R 15)):=⟨_,rfl⟩
  have hk3:R 0=3->¬ R 0=2:=fun h=>by omega
  first | rw [if_pos hk] at etb eU | rw [if_neg (hk3 hk)] at etb eU
  rw [<-etb]
  rw [<-eU] at hO3
  have EU:=fQ eU
  clear eU
  have y_w3:w2.heap.size<=w3.heap.size:=hb.size
  have B8:=fQ (ah B7.o hb)
  have M8:=fQ (M7.o.q hb)
  have C8:=fQ (C7.o.q hb)
  have P8:=fQ (P7.o.q hb)
  have Q8:=fQ (Q7.o.q hb)
  clear B7 M7 C7 P7 Q7
  have zzw3:w2.heap.size<=w3.heap.size:=hb.size
  clear hb
  cases tb
  case false=>
   have HT:=fQ etb.symm;clear etb;obtain ⟨aW0,kW0,aO0,kO0,aX0,kX0,aI0,kI0,rfl,_,_,_,_⟩:=hO3.at;clear hO3;first | (guard_hyp hp;go_upto_region 12 with fail) | go_upto_region 16 with fail
   obtain ⟨w3b,en,hbx,hX,-⟩:=bx1 w3 [zI (U).c,.slice aW0 (U).nW kW0,zI (U).g,.slice aO0 (U).nO kO0,.slice aX0 (U).nX kX0,.slice aI0 (U).nI kI0] 36;rw [<-en];clear en;have y_w3b:w3.heap.size<=w3b.heap.size:=hbx.size;have B9:=fQ (ah B8.o hbx);have M9:=fQ (M8.o.q hbx);have C9:=fQ (C8.o.q hbx);have P9:=fQ (P8.o.q hbx);have Q9:=fQ (Q8.o.q hbx);clear B8 M8 C8 P8 Q8;have zzw3b:w3.heap.size<=w3b.heap.size:=hbx.size;have X10:bY (Bk w3b w3.heap.size [zI (U).c,.slice aW0 (U).nW kW0,zI (U).g,.slice aO0 (U).nO kO0,.slice aX0 (U).nX kX0,.slice aI0 (U).nI kI0]):=hX;clear hX;clear hbx;have yC0:=C9.o.a6;have hlC:(w.heap.size+1)<w3b.heap.size:=C9.o.1;have es:U=V:=by rw [EU.o];first | (unfold CV.inn;rw [HT.o];rfl) | (unfold CV.after;rw [HT.o];rfl)
   have ES:=fQ es;clear es;go_wp2_with fail;clear yC0 hlC;refine (fC _ V hs.o _ (CP.o.q B9.o)).mono ?_;rintro e w4 ⟨⟨u,rfl,hO,_,_⟩,hb⟩;have y_w4:w3b.heap.size<=w4.heap.size:=hb.size;have B11:=fQ (ah B9.o hb);have M11:=fQ (M9.o.q hb);have C11:=fQ (C9.o.q hb);have P11:=fQ (P9.o.q hb);have Q11:=fQ (Q9.o.q hb);have X11:=fQ (X10.o.q hb);clear B9 M9 C9 P9 Q9 X10;have zzw4:w3b.heap.size<=w4.heap.size:=hb.size;clear hb;have ER:bY (aF c d V R=(V,0,false)):=by first | (guard_hyp hp;unfold bY aF;rw [if_neg (show ¬ iD c d R=false by rw [HL.o];simp)];rw [if_neg (show ¬ R 0=1 by omega),if_neg HN.o,if_pos hk,HT.o];rw [<-EU.o,ES.o]) | (unfold bY aF;rw [if_neg (show ¬ iD c d R=false by rw [HL.o];simp)];rw [if_neg (show ¬ R 0=1 by omega),if_neg HN.o,if_neg (show ¬ R 0=2 by omega),HT.o];rw [<-EU.o,ES.o])
   obtain ⟨aW,kW,aO,kO,aX,kX,aI,kI,rfl,_,_,_,_⟩:=hO.at;have O6:=fQ hO;clear hO;obtain ⟨yQ0,yQ1,yQ2,yQ3,yQ4,yQ5⟩:=Q11.o.a6;have zQ0:=Q11.o.f6;have hlQ:(w.heap.size+1+1+1)<w4.heap.size:=Q11.o.1;go_wp2;refine Hw (v:=.tuple #[.agg (zD V aW kW aO kO aX kX aI kI).toArray,zI 0,.bool false]) (by simp [results,Tryz.results70,go_sem,yQ0,yQ1,yQ2,yQ3,yQ4,yQ5]) rfl ?_;have hzz:=au w4 (w.heap.size+1+1+1) (.int .i64 V.c) (.slice aW V.nW kW) (.int .i64 V.g) (.slice aO V.nO kO) (.slice aX V.nX kX) (.slice aI V.nI kI);refine ⟨⟨_,by rw [ER.o],?_⟩,?_⟩
   ·show aV w.heap.size (aG w4 (w.heap.size+1+1+1) (zI V.c) (.slice aW V.nW kW) (zI V.g) (.slice aO V.nO kO) (.slice aX V.nX kX) (.slice aI V.nI kI)).heap.size (aG w4 (w.heap.size+1+1+1) (zI V.c) (.slice aW V.nW kW) (zI V.g) (.slice aO V.nO kO) (.slice aX V.nX kX) (.slice aI V.nI kI)) _ _;rw [hzz,ER.o];exact (O6.o.sm (Hl hzz.symm) (fun x g1 g2=>aH (by omega) (zI V.c) (.slice aW V.nW kW) (zI V.g) (.slice aO V.nO kO) (.slice aX V.nX kX) (.slice aI V.nI kI))).wide (by omega) (by omega) (by omega)
   exact ax B11.o (by omega) _ _ _ _ _ _
  case true=>
   have HT:=fQ etb.symm;clear etb;have ER:bY (aF c d V R=(U,0,true)):=by rw [EU.o];first | (guard_hyp hp;unfold bY aF;rw [if_neg (show ¬ iD c d R=false by rw [HL.o];simp)];rw [if_neg (show ¬ R 0=1 by omega),if_neg HN.o,if_pos hk,HT.o]) | (unfold bY aF;rw [if_neg (show ¬ iD c d R=false by rw [HL.o];simp)];rw [if_neg (show ¬ R 0=1 by omega),if_neg HN.o,if_neg (show ¬ R 0=2 by omega),HT.o])
   obtain ⟨aW,kW,aO,kO,aX,kX,aI,kI,rfl,_,_,_,_⟩:=hO3.at;have O6:=fQ hO3;clear hO3;first | (guard_hyp hp;go_upto_region 13 with fail) | go_upto_region 17 with fail
   obtain ⟨w3b,en,hbx,hX,-⟩:=bx1 w3 (zD U aW kW aO kO aX kX aI kI) 36;rw [<-en];clear en;have y_w3b:w3.heap.size<=w3b.heap.size:=hbx.size;have B9:=fQ (ah B8.o hbx);have M9:=fQ (M8.o.q hbx);have C9:=fQ (C8.o.q hbx);have P9:=fQ (P8.o.q hbx);have Q9:=fQ (Q8.o.q hbx);clear B8 M8 C8 P8 Q8;have zzw3b:w3.heap.size<=w3b.heap.size:=hbx.size;have X10:bY (Bk w3b w3.heap.size (zD U aW kW aO kO aX kX aI kI)):=hX;clear hX;have O7:=fQ (aV.q O6.o (by omega) hbx);clear O6 hbx;have yX0:=X10.o.a6;have hlX:w3.heap.size<w3b.heap.size:=X10.o.1;obtain ⟨yQ0,yQ1,yQ2,yQ3,yQ4,yQ5⟩:=Q9.o.a6;have zQ0:=Q9.o.f6;have hlQ:(w.heap.size+1+1+1)<w3b.heap.size:=Q9.o.1;go_wp2;refine Hw (v:=.tuple #[.agg (zD U aW kW aO kO aX kX aI kI).toArray,zI 0,.bool true]) (by simp [results,Tryz.results70,go_sem,yQ0,yQ1,yQ2,yQ3,yQ4,yQ5]) rfl ?_;have hzz:=au w3b (w.heap.size+1+1+1) (.int .i64 U.c) (.slice aW U.nW kW) (.int .i64 U.g) (.slice aO U.nO kO) (.slice aX U.nX kX) (.slice aI U.nI kI);refine ⟨⟨_,by rw [ER.o],?_⟩,?_⟩
   ·show aV w.heap.size (aG w3b (w.heap.size+1+1+1) (zI U.c) (.slice aW U.nW kW) (zI U.g) (.slice aO U.nO kO) (.slice aX U.nX kX) (.slice aI U.nI kI)).heap.size (aG w3b (w.heap.size+1+1+1) (zI U.c) (.slice aW U.nW kW) (zI U.g) (.slice aO U.nO kO) (.slice aX U.nX kX) (.slice aI U.nI kI)) _ _;rw [hzz,ER.o];exact (O7.o.sm (Hl hzz.symm) (fun x g1 g2=>aH (by omega) (zI U.c) (.slice aW U.nW kW) (zI U.g) (.slice aO U.nO kO) (.slice aX U.nX kX) (.slice aI U.nI kI))).wide (by omega) (by omega) (by omega)
   exact ax B9.o (by omega) _ _ _ _ _ _
theorem pq (c d:Int) (v:Value) (V:CV) (lo:Nat) (R:Nat->Int) (hs0:V.short 1048576) (hV:bD c d V=true) (w:World) (h:dL w v V) :
 Hz 70 #[.agg #[zI c,zI d],v,rv R] w fun e w'=>(∃ u,e=.returned (.tuple #[u,zI (aF c d V R).2.1,.bool (aF c d V R).2.2])/\aV w.heap.size w'.heap.size w' u (aF c d V R).1)/\Below w.heap.size w w':=by
 cases hlog:iD c d R
 ·exact Fa c d v V lo R hs0 hlog w h
 exact KI c d v V lo R hs0 hV hlog w h
