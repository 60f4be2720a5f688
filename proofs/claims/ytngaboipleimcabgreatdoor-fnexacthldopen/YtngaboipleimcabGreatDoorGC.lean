/- Copies of a store, of the program and of the model; conditions: the store lies in memory. -/
import Derived.Test.YtngaboipleimcabGreatDoorSM
import Derived.Test.YtngaboipleimcabGreatDoorFG
import Derived.ArgAppend
set_option linter.unusedVariables false
set_option maxHeartbeats 8000000
set_option maxRecDepth 20000
namespace Go.Proofs.YtngaboipleimcabGreatDoor
open Go.RowKit Go.Deep
def Ie (Z:Nat->Nat->Int) (k:Nat):List Value:=zR (Z k)
theorem Io (n:Nat) (Z:Nat->Nat->Int):((List.range n).flatMap (Ie Z)).length=n * 16:=by
 induction n with
 | zero=>simp
 | succ n ih=>rw [List.range_succ,List.flatMap_append,List.length_append,ih];simp [Ie,zR,Nat.succ_mul]
theorem Iw (Z:Nat->Nat->Int) (k j:Nat) (hj:j<16):(Ie Z k)[j]? = some (zI (Z k j)):=by
 match j,hj with
 | 0,_=>rfl
 | 1,_=>rfl
 | 2,_=>rfl
 | 3,_=>rfl
 | 4,_=>rfl
 | 5,_=>rfl
 | 6,_=>rfl
 | 7,_=>rfl
 | 8,_=>rfl
 | 9,_=>rfl
 | 10,_=>rfl
 | 11,_=>rfl
 | 12,_=>rfl
 | 13,_=>rfl
 | 14,_=>rfl
 | 15,_=>rfl
 | j+16,h=>omega
theorem Il {w:World} {b o n:Nat} {Z:Nat->Nat->Int} (hr:∀ k j,k<n->j<16->w.cell? (zA b (o+k * 16+j))=some (zI (Z k j))):∀ j u,((List.range n).flatMap (Ie Z))[j]? = some u->w.cell? (((zA b o):Addr).add j)=some u:=by
 intro j u hj;have hlt:j<n * 16:=by
  have:=(List.getElem?_eq_some_iff.1 hj).1;rw [Io] at this;exact this
 rw [flat_get (Ie Z) (fun _=>rfl) (by decide) n j hlt] at hj;have hq:j / 16<n:=Nat.div_lt_of_lt_mul (by omega);rw [iR,show o+j=o+j / 16 * 16+j % 16 by omega,hr (j / 16) (j % 16) hq (Nat.mod_lt _ (by decide)),<-hj,Iw Z _ _ (Nat.mod_lt _ (by decide))]
theorem II (n:Nat) (Z:Nat->Nat->Int):∀ u ∈ (List.range n).flatMap (Ie Z),u.oneCell'=true:=by
 intro u hu;obtain ⟨k,_,hk⟩:=List.mem_flatMap.1 hu;simp [Ie,zR] at hk;rcases hk with rfl | rfl | rfl | rfl | rfl | rfl | rfl | rfl | rfl | rfl | rfl | rfl | rfl | rfl | rfl | rfl <;> rfl
def RR (lo hi:Nat) (w:World) (v:Value) (n:Nat) (Z:Nat->Nat->Int) (g:Nat):Prop :=
 (n=0/\∃ a c,v=.slice a 0 c)∨∃ c,v=zS g n c/\lo<=g/\g<hi/\hi<=w.heap.size/\P16.iy w g n Z n
theorem IB {w w':World} {B n k:Nat} {Z:Nat->Nat->Int} (h:P16.iy w B n Z k) (hs:Sm w w' B):P16.iy w' B n Z k :=
 ⟨fun i hi=>by rw [(hs i).1,(hs i).2];exact h.1 i hi,fun k' j hk hj=>by rw [(hs _).1];exact h.2 k' j hk hj⟩
theorem RR.sm {lo hi:Nat} {w w':World} {v:Value} {n:Nat} {Z:Nat->Nat->Int} {g:Nat} (h:RR lo hi w v n Z g) (hs:w.heap.size<=w'.heap.size) (k:lo<=g->g<hi->Sm w w' g):RR lo hi w' v n Z g:=by
 rcases h with h | ⟨c,h1,h2,h3,h4,h5⟩
 ·exact .inl h
 exact .inr ⟨c,h1,h2,h3,Hq h4 hs,IB h5 (k h2 h3)⟩
theorem RR.q {lo hi:Nat} {w w':World} {v:Value} {n:Nat} {Z:Nat->Nat->Int} {g:Nat} (h:RR lo hi w v n Z g) (hh:hi<=w.heap.size) (hb:Below w.heap.size w w'):RR lo hi w' v n Z g :=
 h.sm hb.size (fun _ g2=>aj hb (by omega))
theorem RR.wide {lo hi lo' hi':Nat} {w:World} {v:Value} {n:Nat} {Z:Nat->Nat->Int} {g:Nat} (h:RR lo hi w v n Z g) (h1:lo'<=lo) (h2:hi<=hi') (h3:hi'<=w.heap.size):RR lo' hi' w v n Z g:=by
 rcases h with h | ⟨c,g1,g2,g3,g4,g5⟩
 ·exact .inl h
 exact .inr ⟨c,g1,by omega,by omega,h3,g5⟩
theorem RR.shape {lo hi:Nat} {w:World} {v:Value} {n:Nat} {Z:Nat->Nat->Int} {g:Nat} (h:RR lo hi w v n Z g):∃ a c,v=.slice a n c:=by
 rcases h with ⟨e,a,c,h⟩ | ⟨c,h,_⟩
 ·exact ⟨_,_,by rw [h,e]⟩
 exact ⟨_,_,h⟩
theorem RR.row {lo hi:Nat} {w:World} {a:Option Addr} {n c:Nat} {Z:Nat->Nat->Int} {g:Nat} (h:RR lo hi w (.slice a n c) n Z g):P16.qA w a n Z:=by
 rcases h with ⟨e,_⟩ | ⟨c',h,h1,h2,h3,h4⟩
 ·exact .inl e
 injection h with h _ _;exact .inr ⟨g,0,h,by omega,P16.aZ h4⟩
theorem Ik {w:World} {base n:Nat} {v:Value} {Z:Nat->Nat->Int} (h:w.ownsRow base 71 16 v n ((List.range n).flatMap (Ie Z))):∃ g,RR base w.heap.size w v n Z g/\(v.ownBlock=none∨v.ownBlock=some g):=by
 rcases h.2 with ⟨e,hl⟩ | ⟨g,cap,cur,hv,_⟩
 ·subst e;subst hl;exact ⟨0,.inl ⟨rfl,none,0,rfl⟩,.inl rfl⟩
 have ho:w.ownsRow base 71 16 (.slice (some (zA g 0)) n cap) n ((List.range n).flatMap (Ie Z)):=by rw [<-hv];exact h
 refine ⟨g,.inr ⟨cap,hv,(ho.lt g rfl).1,(ho.lt g rfl).2,Ho _,fun i hi=>⟨?_,ho.frozenAt i⟩,fun k j hk hj=>?_⟩,.inr (by rw [hv];rfl)⟩
 ·rw [ho.cellAt i (by omega)];have:i<((List.range n).flatMap (Ie Z)).length:=by rw [ho.1];omega
  rw [List.getElem?_eq_getElem this];rfl
 skip;have hlt:k * 16+j<n * 16:=by omega
 rw [ho.cellAt (k * 16+j) hlt,flat_get (Ie Z) (fun _=>rfl) (by decide) n _ hlt,show (k * 16+j) / 16=k by omega,show (k * 16+j) % 16=j by omega];exact Iw Z k j hj
theorem IU (s B n cap:Nat) (hn:n<=2000000) (hs:s<=2000000000) (w:World) (hB:B<w.heap.size) (h:P16.iy w B n (Mk 16 s) n) :
 Hz 37 #[zS B n cap,zI (s:Int)] w fun e w'=>e=.returned (zI ((s+n * 16:Nat):Int))/\Below w.heap.size w w':=by
 have H0:bY (P16.iy w B n (Mk 16 s) n):=h;clear h;go_enter Tryz.func37,Tryz.ntmps37;go_wp2;go_loopw [1,5] (fun c i wr=>∃ k:Nat,k<=n/\zI k=i/\zI (Mk 16 s k 0)=c/\w=wr) (fun _ i _=>n - (intOf i).toNat)
 case atStart=>exact ⟨0,Nat.zero_le _,rfl,by simp [Mk],rfl⟩
 case round =>
  obtain ⟨k,hk,rfl,rfl,rfl⟩:=hrel;by_cases hkn:k<n
  ·have hkn':(k:Int)<(n:Int):=by omega
   have c0:=cq16 (fun j hj=>H0.o.2 k j hkn (by omega));have m1:=mw16 (s:=s) (k:=k) (by omega);go_wp2;go_roundw
   case rel=>exact ⟨k+1,by omega,by go_num,rfl,by trivial⟩
   case measure=>simp [intOf];omega
  have hkn':k=n:=by omega
  subst hkn';go_wp2;go_ret;exact ⟨rfl,Hr _ _⟩
theorem IK (s:Nat) (a:Option Addr) (c:Nat) (w:World) :
 Hz 37 #[.slice a 0 c,zI (s:Int)] w fun e w'=>e=.returned (zI (s:Int))/\Below w.heap.size w w':=by
 go_enter Tryz.func37,Tryz.ntmps37;go_wp2;refine wp_loop_rounds 1 ?_;rw [rounds_succ];go_wp2;go_ret;exact ⟨rfl,Hr _ _⟩
theorem IJ (s:Nat) (a:Option Addr) (c:Nat) (w:World) :
 Hz 35 #[.slice a 0 c,zI (s:Int)] w fun e w'=>e=.returned (zI (s:Int))/\w'=w:=by
 go_enter Tryz.func35,Tryz.ntmps35;go_wp2;refine wp_loop_rounds 1 ?_;rw [rounds_succ];go_wp2;go_ret;exact ⟨rfl,rfl⟩
theorem IA (lo hi s:Nat) (v:Value) (n:Nat) (Z:Nat->Nat->Int) (g:Nat) (hn:n<=2000000) (hs:s<=2000000000) (w:World) (h:RR lo hi w v n Z g) :
 Hz 35 #[v,zI (s:Int)] w fun e w'=>e=.returned (zI ((s+n * 16:Nat):Int))/\RR lo hi w' v n (Mk 16 s) g/\w'.heap.size=w.heap.size/\(∀ b,b<w.heap.size->(¬ b=g∨b<lo∨hi<=b)->Sm w w' b)/\Below lo w w':=by
 rcases h with ⟨rfl,a,c,rfl⟩ | ⟨c,rfl,h2,h3,h4,h5⟩
 ·refine (IJ s a c w).mono ?_;rintro e w' ⟨rfl,rfl⟩;exact ⟨by simp,.inl ⟨rfl,a,c,rfl⟩,rfl,fun b _ _=>Sm.refl _ _,Hr _ _⟩
 refine (Gl s g n c Z hn hs w (by omega) h5).mono ?_;rintro e w' ⟨rfl,o,hg,hz⟩;exact ⟨rfl,.inr ⟨c,rfl,h2,h3,by omega,o⟩,hz,fun b hb hne=>bG hg hb (by intro e;injection e with e;omega),below_grown hg h2 (by omega)⟩
theorem Iz (lo hi s:Nat) (v:Value) (n:Nat) (g:Nat) (hn:n<=2000000) (hs:s<=2000000000) (w:World) (h:RR lo hi w v n (Mk 16 s) g) :
 Hz 37 #[v,zI (s:Int)] w fun e w'=>e=.returned (zI ((s+n * 16:Nat):Int))/\Below w.heap.size w w':=by
 rcases h with ⟨rfl,a,c,rfl⟩ | ⟨c,rfl,h2,h3,h4,h5⟩
 ·refine (IK s a c w).mono ?_;rintro e w' ⟨rfl,hb⟩;exact ⟨by simp,hb⟩
 exact IU s g n c hn hs w (by omega) h5
theorem IL (b o n cap:Nat) (Z:Nat->Nat->Int) (hn:n<=1048576) (w:World) (hb:b<w.heap.size) (hr:∀ k j,k<n->j<16->w.cell? (zA b (o+k * 16+j))=some (zI (Z k j))) :
 Hz 87 #[.slice (some (zA b o)) n cap] w fun e w'=>(∃ v,e=.returned v/\w'.ownsRow w.heap.size 71 16 v n ((List.range n).flatMap (Ie Z)))/\Below w.heap.size w w':=by
 have HC:bY (∀ j u,((List.range n).flatMap (Ie Z))[j]? = some u->w.cell? (((zA b o):Addr).add j)=some u):=Il hr;have H1:bY (∀ u ∈ (List.range n).flatMap (Ie Z),u.oneCell'=true):=II n Z;have HL:bY (((List.range n).flatMap (Ie Z)).length=n * 16):=Io n Z;clear hr;obtain ⟨i5,hi5,hzz⟩:=Option.map_eq_some_iff.1 P16.Tryz.Jw;simp only [Prod.mk.injEq] at hzz;obtain ⟨hz50,hz51,hz52⟩:=hzz;go_enter Tryz.func87,Tryz.ntmps87;go_wp2_with (at_builtin;refine wpList_append_own _ rfl _ _ 39 rfl w.heap.size 71 i5 (.agg (zR fun _=>0).toArray) 16 128 Tryz.underlying39 hi5 hz50 hz51 hz52 rfl (by decide) _ 0 [] rfl ⟨rfl,.inl ⟨rfl,rfl⟩⟩ (zA b o) n cap ((List.range n).flatMap (Ie Z)) rfl HL.o HC.o H1.o (by unfold maxLen;omega) (by omega) (Ho _) ?_);intro v' w2 hown hg hnil;have hb2:Below w.heap.size w w2:=(Hr _ _).grown hg (Ho _) (fun kk e=>by cases e);have HO:bY (w2.ownsRow w.heap.size 71 16 v' n ((List.range n).flatMap (Ie Z))):=hown;clear hown hg hnil;go_wp2;go_ret;exact ⟨⟨_,rfl,HO.o⟩,hb2⟩
theorem RR.zero {lo hi lo' hi':Nat} {w w':World} {v:Value} {n:Nat} {Z Z':Nat->Nat->Int} {g g':Nat} (h:RR lo hi w v n Z g) (e:n=0):RR lo' hi' w' v n Z' g':=by
 obtain ⟨a,c,rfl⟩:=h.shape;exact .inl ⟨e,a,c,by rw [e]⟩
def Ih (lo hi:Nat) (w:World) (u:Value) (a:Int) (V:CV) (n:Nat) (Z:Nat->Nat->Int):Prop :=
 ∃ aW kW aO kO aX kX aI kI aR kR l m g,u=.agg [zI a,zI V.c,.slice aW V.nW kW,zI V.g,.slice aO V.nO kO,.slice aX V.nX kX,.slice aI V.nI kI,.slice aR n kR].toArray/\aV l m w (.agg (zD V aW kW aO kO aX kX aI kI).toArray) V/\RR lo hi w (.slice aR n kR) n Z g/\lo<=l/\l<=m/\m<=hi/\hi<=w.heap.size/\(g<l∨m<=g)
theorem Ih.sm {lo hi:Nat} {w w':World} {u:Value} {a:Int} {V:CV} {n:Nat} {Z:Nat->Nat->Int} (h:Ih lo hi w u a V n Z) (hs:w.heap.size<=w'.heap.size) (k:∀ b,lo<=b->b<hi->Sm w w' b):Ih lo hi w' u a V n Z:=by
 obtain ⟨aW,kW,aO,kO,aX,kX,aI,kI,aR,kR,l,m,g,e,h1,h2,h3,h4,h5,h6,h7⟩:=h;exact ⟨aW,kW,aO,kO,aX,kX,aI,kI,aR,kR,l,m,g,e,h1.sm hs (fun b q1 q2=>k b (by omega) (by omega)),h2.sm hs (k g),h3,h4,h5,by omega,h7⟩
theorem Ih.q {lo hi:Nat} {w w':World} {u:Value} {a:Int} {V:CV} {n:Nat} {Z:Nat->Nat->Int} (h:Ih lo hi w u a V n Z) (hb:Below w.heap.size w w'):Ih lo hi w' u a V n Z:=by
 have hh:hi<=w.heap.size:=by obtain ⟨_,_,_,_,_,_,_,_,_,_,_,_,_,_,_,_,_,_,_,q,_⟩:=h;exact q
 exact h.sm hb.size (fun b _ q=>aj hb (by omega))
theorem Ih.wide {lo hi lo' hi':Nat} {w:World} {u:Value} {a:Int} {V:CV} {n:Nat} {Z:Nat->Nat->Int} (h:Ih lo hi w u a V n Z) (q1:lo'<=lo) (q2:hi<=hi') (q3:hi'<=w.heap.size):Ih lo' hi' w u a V n Z:=by
 obtain ⟨aW,kW,aO,kO,aX,kX,aI,kI,aR,kR,l,m,g,e,h1,h2,h3,h4,h5,h6,h7⟩:=h;exact ⟨aW,kW,aO,kO,aX,kX,aI,kI,aR,kR,l,m,g,e,h1,h2.wide q1 q2 q3,by omega,h4,by omega,q3,h7⟩
theorem IQ (a1 a2:Option Addr) (c1 c2:Nat) (w:World) :
 Hz 33 #[.slice a1 0 c1,.slice a2 0 c2] w fun e w'=>e=.returned (.bool true)/\Below w.heap.size w w':=by
 go_enter Tryz.func33,Tryz.ntmps33;go_wp2;refine wp_loop_rounds 1 ?_;rw [rounds_succ];go_wp2;go_ret;exact ⟨rfl,Hr _ _⟩
theorem IE (a1 a2:Option Addr) (c1 c2 n:Nat) (Z:Nat->Nat->Int) (hn:n<=2000000) (w:World) (h1:P16.qA w a1 n Z) (h2:P16.qA w a2 n Z) :
 Hz 33 #[.slice a1 n c1,.slice a2 n c2] w fun e w'=>e=.returned (.bool true)/\Below w.heap.size w w':=by
 rcases h1 with rfl | ⟨b1,o1,rfl,l1,r1⟩
 ·exact IQ a1 a2 c1 c2 w
 rcases h2 with rfl | ⟨b2,o2,rfl,l2,r2⟩
 ·exact IQ _ _ c1 c2 w
 exact P16.sH b1 o1 c1 b2 o2 c2 n Z hn w l1 l2 r1 r2
theorem IC (a:Int) (V:CV) (n:Nat) (Z:Nat->Nat->Int) (u1 u2:Value) (l1 h1 l2 h2:Nat) (hs0:V.short 2000000) (hn:n<=2000000) (w:World) (q1:Ih l1 h1 w u1 a V n Z) (q2:Ih l2 h2 w u2 a V n Z) :
 Hz 11 #[u1,u2] w fun e w'=>e=.returned (.bool true)/\Below w.heap.size w w':=by
 obtain ⟨aW,kW,aO,kO,aX,kX,aI,kI,aR,kR,l,m,g,rfl,g1,g2,_,_,_,_,_⟩:=q1;obtain ⟨bW,jW,bO,jO,bX,jX,bI,jI,bR,jR,l',m',g',rfl,g1',g2',_,_,_,_,_⟩:=q2;have hs:=fQ hs0;have C1:=fQ g1.at;have C2:=fQ g1'.at;have G1:=fQ g2.row;have G2:=fQ g2'.row;clear hs0 g1 g2 g1' g2';go_enter Tryz.func11,Tryz.ntmps11;go_wp2_with fail;obtain ⟨w0,e0,B1,S1,Q1,hz0⟩:=EX w [zI a,zI V.c,.slice aW V.nW kW,zI V.g,.slice aO V.nO kO,.slice aX V.nX kX,.slice aI V.nI kI,.slice aR n kR] 41 [zI a,zI V.c,.slice bW V.nW jW,zI V.g,.slice bO V.nO jO,.slice bX V.nX jX,.slice bI V.nI jI,.slice bR n jR] 41;rw [<-e0];clear e0;refine (uP _ _ V hs.o _ (dw C1.o B1.o) (dw C2.o B1.o)).mono ?_;rintro e w1 ⟨rfl,hb'⟩;have kz1:=hb'.size;have B2:=fQ (ah B1.o hb');have S2:=fQ (S1.o.q hb');have Q2:=fQ (Q1.o.q hb');clear B1 S1 Q1 hb';have y0:=S2.o.a8;have hlS:w.heap.size<w1.heap.size:=S2.o.1;have o0:=Q2.o.a8;have hlO:(w.heap.size+1)<w1.heap.size:=Q2.o.1;go_wp2_with fail;clear y0 hlS;clear o0 hlO;refine (IE _ _ _ _ n Z hn _ (P16.iL G1.o B2.o) (P16.iL G2.o B2.o)).mono ?_;rintro e w2 ⟨rfl,hb'⟩;go_wp2;go_ret;exact ⟨rfl,ah B2.o hb'⟩
theorem IG (a:Int) (V:CV) (n:Nat) (Z:Nat->Nat->Int) (u:Value) (lo hi:Nat) (hf:V.few) (hn:n<=1048576) (w:World) (q:Ih lo hi w u a V n Z) :
 Hz 12 #[u,zI 1] w fun e w'=>e=.returned (zI ((V.s4+n * 16:Nat):Int))/\Ih lo hi w' u a V.marked n (Mk 16 V.s4)/\w.heap.size<=w'.heap.size/\(∀ b,b<w.heap.size->(b<lo∨hi<=b)->Sm w w' b)/\Below lo w w':=by
 obtain ⟨aW,kW,aO,kO,aX,kX,aI,kI,aR,kR,l,m,g,rfl,g1,g2,g3,g4,g5,g6,g7⟩:=q;have HC:=fQ g1;have HR:=fQ g2;have HF:=fQ hf;clear g1 g2 hf;go_enter Tryz.func12,Tryz.ntmps12;go_wp2_with fail;obtain ⟨w0,e0,B1,S1,hz0⟩:=Gz w [zI a,zI V.c,.slice aW V.nW kW,zI V.g,.slice aO V.nO kO,.slice aX V.nX kX,.slice aI V.nI kI,.slice aR n kR] 41;rw [<-e0];clear e0;refine (EI l m _ V HF.o _ (by omega) (by omega) (HC.o.q (by omega) B1.o)).mono ?_;rintro e w1 ⟨rfl,hm,kz1,hsm,hb⟩;have SM:=fQ hsm;have CM:=fQ hm;have S2:=fQ (S1.o.sm kz1 (hsm _ (by omega) (.inr (by omega))));have K1:bY (RR lo hi w1 (.slice aR n kR) n Z g):=(HR.o.q g6 B1.o).sm kz1 (fun q1 q2=>hsm g (by omega) g7);have B2:bY (Below lo w w1):=(B1.o.mono (by omega)).trans (hb.mono (by omega));clear hsm hm hb S1;have y0:=S2.o.a8;have hlS:w.heap.size<w1.heap.size:=S2.o.1;go_wp2_with fail;clear y0 hlS;refine (IA lo hi V.s4 _ n Z g (by omega) (FC HF.o) _ K1.o).mono ?_;rintro e w2 ⟨rfl,hr,hz,hsm,hb⟩;have RM:=fQ hr;have SG:=fQ hsm;have B3:bY (Below lo w w2):=B2.o.trans hb;have BB:=fQ B1.o;clear hr hsm hb;go_wp2;go_ret;refine ⟨rfl,⟨aW,kW,aO,kO,aX,kX,aI,kI,aR,kR,l,m,g,rfl,CM.o.sm (by omega) (fun b q1 q2=>SG.o b (by omega) (.inl (by omega))),RM.o,g3,g4,g5,by omega,g7⟩,by omega,fun b hw hb=>?_,B3.o⟩;exact ((aj BB.o (by omega)).trans (SM.o b (by omega) (by omega))).trans (SG.o b (by omega) (.inr hb))
def H7 (w:World) (g:Nat) (v0 v1 v2 v3 v4 v5 v6 v7:Value):World:=(((((((w.setCell (zA g 0) v0).setCell (zA g 1) v1).setCell (zA g 2) v2).setCell (zA g 3) v3).setCell (zA g 4) v4).setCell (zA g 5) v5).setCell (zA g 6) v6).setCell (zA g 7) v7
theorem H6 (w:World) (g:Nat) (v0 v1 v2 v3 v4 v5 v6 v7:Value):(H7 w g v0 v1 v2 v3 v4 v5 v6 v7).heap.size=w.heap.size:=size_put g [v0,v1,v2,v3,v4,v5,v6,v7] 0 w
theorem Ia {w:World} {g b:Nat} (h:¬ b=g) (v0 v1 v2 v3 v4 v5 v6 v7:Value):Sm w (H7 w g v0 v1 v2 v3 v4 v5 v6 v7) b:=jQ h [v0,v1,v2,v3,v4,v5,v6,v7] 0 w
theorem HY {n:Nat} {a w:World} (h:Below n a w) {g:Nat} (hg:n<=g) (v0 v1 v2 v3 v4 v5 v6 v7:Value):Below n a (H7 w g v0 v1 v2 v3 v4 v5 v6 v7):=gu hg [v0,v1,v2,v3,v4,v5,v6,v7] 0 h
theorem Ic {w:World} {g:Nat} {l:List Value} (h:Bk w g l) (hl:l.length=8) (v0 v1 v2 v3 v4 v5 v6 v7:Value):Bk (H7 w g v0 v1 v2 v3 v4 v5 v6 v7) g [v0,v1,v2,v3,v4,v5,v6,v7]:=jM (l:=[v0,v1,v2,v3,v4,v5,v6,v7]) h (by rw [hl];rfl)
def RX (m:Nat) (w:World) (v:Value) (n:Nat) (Z:Nat->Nat->Int):Prop :=
 (n=0/\∃ b,v=.slice (some b) 0 0)∨∃ base,m<=base/\base<=w.heap.size/\w.ownsRow base 71 16 v n ((List.range n).flatMap (Ie Z))
theorem RX.low {m m':Nat} {w:World} {v:Value} {n:Nat} {Z:Nat->Nat->Int} (h:RX m w v n Z) (hm:m'<=m):RX m' w v n Z:=by
 rcases h with h | ⟨b,h1,h2,h3⟩
 ·exact .inl h
 exact .inr ⟨b,by omega,h2,h3⟩
theorem RX.kept {m:Nat} {w w':World} {v:Value} {n:Nat} {Z:Nat->Nat->Int} {row:Option Nat} (h:RX m w v n Z) (hg:w.grownBy w' row) (hr:∀ b,row=some b->b<m):RX m w' v n Z:=by
 rcases h with h | ⟨b,h1,h2,h3⟩
 ·exact .inl h
 refine .inr ⟨b,h1,Hq h2 hg.size,World.ownsRow.kept h3 hg ?_⟩;cases e:v.ownBlock with
 | none=>exact .inl rfl
 | some g=>refine .inr (fun e2=>?_);have q1:=(h3.lt g e).1;have q2:=hr g e2.symm;omega
theorem jg {w w':World} (h:Below w.heap.size w w'):w.grownBy w' none:=⟨h.os,h.tape,h.output,h.size,fun k hk _=>h.block k hk⟩
theorem RX.q {m:Nat} {w w':World} {v:Value} {n:Nat} {Z:Nat->Nat->Int} (h:RX m w v n Z) (hb:Below w.heap.size w w'):RX m w' v n Z:=h.kept (jg hb) (fun _ e=>by cases e)
theorem Je (w:World) (g:Nat) (v0 v1 v2 v3 v4 v5 v6 v7:Value):w.grownBy (H7 w g v0 v1 v2 v3 v4 v5 v6 v7) (some g) :=
 (((((((P8.aC _ _ _ _).1.trans (P8.aC _ _ _ _).1).trans (P8.aC _ _ _ _).1).trans (P8.aC _ _ _ _).1).trans (P8.aC _ _ _ _).1).trans (P8.aC _ _ _ _).1).trans (P8.aC _ _ _ _).1).trans (P8.aC _ _ _ _).1
theorem Full.sm {lo hi:Nat} {w w':World} {v:Value} (h:Full w v) (ht:mV lo hi w v) (hs:w.heap.size<=w'.heap.size) (k:∀ b,lo<=b->b<hi->Sm w w' b):Full w' v:=fun x0 x1 x2 g n c x4 x5 e j hj=>by
 obtain ⟨y,l,d,e1,e2⟩:=h x0 x1 x2 g n c x4 x5 e j hj
 obtain ⟨h1,h2,_⟩:=ht x0 x1 x2 g n c x4 x5 e
 exact ⟨y,l,d,((k g h1 h2) j).1.trans e1,by omega⟩
theorem Jo {lo hi:Nat} {w w':World} {v:Value} (h:Full w v/\mV lo hi w v) (hh:hi<=w.heap.size) (hb:Below w.heap.size w w'):Full w' v/\mV lo hi w' v :=
 ⟨h.1.sm h.2 hb.size (fun b _ q=>aj hb (by omega)),h.2.sm (fun b _ q=>aj hb (by omega))⟩
/-- A store that a copy made: as Ih, the records' row with its room, and (fl) the cell's inner lists by their blocks. -/
def La (fl:Bool) (lo hi:Nat) (w:World) (u:Value) (a:Int) (V:CV) (n:Nat) (Z:Nat->Nat->Int):Prop :=
 ∃ a1 k1 a2 k2 a3 k3 a4 k4 aR kR l m g,u=.agg [zI a,zI V.c,.slice a1 V.nW k1,zI V.g,.slice a2 V.nO k2,.slice a3 V.nX k3,.slice a4 V.nI k4,.slice aR n kR].toArray/\aV l m w (.agg (zD V a1 k1 a2 k2 a3 k3 a4 k4).toArray) V/\RR lo hi w (.slice aR n kR) n Z g/\lo<=l/\l<=m/\m<=hi/\hi<=w.heap.size/\m<=g/\RX m w (.slice aR n kR) n Z/\(∀ b,(Value.slice aR n kR).ownBlock=some b->b<hi)/\(fl=true->Full w (.agg (zD V a1 k1 a2 k2 a3 k3 a4 k4).toArray))
theorem La.o {fl:Bool} {lo hi:Nat} {w:World} {u:Value} {a:Int} {V:CV} {n:Nat} {Z:Nat->Nat->Int} (h:La fl lo hi w u a V n Z):Ih lo hi w u a V n Z:=by
 obtain ⟨a1,k1,a2,k2,a3,k3,a4,k4,aR,kR,l,m,g,e,h1,h2,h3,h4,h5,h6,h7,_⟩:=h;exact ⟨a1,k1,a2,k2,a3,k3,a4,k4,aR,kR,l,m,g,e,h1,h2,h3,h4,h5,h6,.inr h7⟩
theorem IV {w:World} {o:Oper} {a:Act} {K:Act->World->Prop} {Q:Exit->Act->World->Prop} (s x:Operand) (ho:o.op=.call { callee:=.builtin .append,args:=#[s,x],argTypes:=#[39,39] })
 (b:Addr) (hs:a.eval s=.slice (some b) 0 0) (bl off m c:Nat) (Z:Nat->Nat->Int) (hx:a.eval x=.slice (some (zA bl off)) m c) (hm:m<=1048576) (hr:∀ k j,k<m->j<16->w.cell? (zA bl (off+k * 16+j))=some (zI (Z k j)))
 (h:∀ v' w' g,RR w.heap.size w'.heap.size w' v' m Z g->RX w.heap.size w' v' m Z->(∀ q,v'.ownBlock=some q->q<w'.heap.size∨q=b.block)->Below w.heap.size w w'->K (a.put o.dst v') w'):o.wp Tryz.prog a w K Q:=by
 obtain ⟨i5,hi5,hzz⟩:=Option.map_eq_some_iff.1 P16.Tryz.Jw;simp only [Prod.mk.injEq] at hzz;obtain ⟨hz50,hz51,hz52⟩:=hzz;have HC:=Il hr;by_cases hm0:m=0
 ·subst hm0;have hf:=run_firstCells_some (P:=Tryz.prog) w i5.size 0 (zA bl off) 0 c [] (by simp) (fun j u hj=>by simp at hj);have hrun:(Builtin.append_ #[39,39] o.type #[.slice (some b) 0 0,.slice (some (zA bl off)) 0 c]).run Tryz.prog w=.ok (.slice (some b) 0 0) w:=by
   simp [Builtin.append_,run_underlying Tryz.underlying39,sizeOf,typeInfo,hi5,Builtin.lenOf,hf,storeCells]
  unfold Oper.wp execOp;simp only [ho,resolve,invoke,builtin,Sem.run_bind,Sem.run_pure,Result.andThen_ok,List.map_toArray,List.map_cons,List.map_nil,hs,hx,hrun];exact h _ w 0 (.inl ⟨rfl,_,_,rfl⟩) (.inl ⟨rfl,_,rfl⟩) (fun q e=>by simp [Value.ownBlock] at e;exact .inr e.symm) (Hr _ _)
 obtain ⟨v',w',hrun,r1,r2⟩:=run_append_arg_grows (P:=Tryz.prog) w 39 o.type 71 i5 (.agg (zR fun _=>0).toArray) 16 128 Tryz.underlying39 hi5 hz50 hz51 hz52 rfl (by decide) b 0 0 [] rfl (fun j u hj=>by simp at hj) (zA bl off) m c ((List.range m).flatMap (Ie Z)) (Io m Z) HC (by omega) (by unfold maxLen;omega) (by omega);unfold Oper.wp execOp;simp only [ho,resolve,invoke,builtin,Sem.run_bind,Sem.run_pure,Result.andThen_ok,List.map_toArray,List.map_cons,List.map_nil,hs,hx,hrun];have r1':w'.ownsRow w.heap.size 71 16 v' m ((List.range m).flatMap (Ie Z)):=by simpa using r1
 obtain ⟨g,hg,_⟩:=Ik r1';exact h v' w' g hg (.inr ⟨_,Ho _,r2.size,r1'⟩) (fun q e=>.inl (r1'.lt q e).2) ((Hr _ _).grown r2 (Ho _) (fun kk e=>by cases e))
theorem Js (a:Int) (V:CV) (lo bW bO bX bI bR nR:Nat) (Z:Nat->Nat->Int) (hs0:V.short 1048576) (hnR:nR<=1048576) (w:World) (CP0:eH lo w (.agg (zC V bW V.nW bO V.nO bX V.nX bI V.nI).toArray) V) (hbR:bR<w.heap.size) (hR0:∀ k j,k<nR->j<16->w.cell? ⟨bR,0+k * 16+j,none⟩=some (.int .i64 (Z k j))) :
 Hz 57 #[.agg [zI a,zI V.c,zS bW V.nW V.nW,zI V.g,zS bO V.nO V.nO,zS bX V.nX V.nX,zS bI V.nI V.nI,zS bR nR nR].toArray] w fun e w'=>(∃ u,e=.returned u/\La false w.heap.size w'.heap.size w' u a V nR Z)/\Below w.heap.size w w':=by
 have hs:=fQ hs0;have HR:=fQ hR0;have CP:=fQ CP0;clear hs0 CP0 hR0;go_enter Tryz.func57,Tryz.ntmps57;go_wp2_with fail;obtain ⟨w0,e0,B1,S1,Q1,hz0⟩:=EX w [zI a,zI V.c,zS bW V.nW V.nW,zI V.g,zS bO V.nO V.nO,zS bX V.nX V.nX,zS bI V.nI V.nI,zS bR nR nR] 41 z8 41;rw [<-e0];clear e0;have y0:=S1.o.a8;have hlS:w.heap.size<w0.heap.size:=S1.o.1;have hl1:w.heap.size<w.heap.size+1:=Nat.lt_succ_self _;refine Hu (S:=fun w'=>Below (w.heap.size+1) w0 w') (by kernel_rfl) ((Hr _ _).drew) ?_;intro af;obtain ⟨X,hX⟩:∃ X,X=w0.drew:=⟨_,rfl⟩;have hz1:w0.heap.size<=X.heap.size:=by rw [hX];exact Ho _
 have BX:bY (Below w0.heap.size w0 X):=by unfold bY;rw [hX];exact (Hr _ _).drew
 rw [<-hX] at af ⊢;clear hX;refine bF 0 (zP w.heap.size 0) rfl ?_;refine bF 1 (zI a) rfl ?_;refine bF 2 (zP w.heap.size 1) rfl ?_;refine bF 3 (.agg (zC V bW V.nW bO V.nO bX V.nX bI V.nI).toArray) rfl ?_;refine bF 5 (zP w.heap.size 7) rfl ?_;refine bF 6 (zS bR nR nR) rfl ?_;refine di 4 rfl fun K hK=>?_;go_simp;go_wp2_with fail;refine (Ez _ V lo hs.o _ (CP.o.q (ah B1.o BX.o))).mono ?_;rintro e u1 ⟨⟨uu,rfl,hO,hT⟩,hb⟩;clear hT;have ku1:=hb.size;obtain ⟨a1,k1,a2,k2,a3,k3,a4,k4,rfl,hA,hB,hC,hD⟩:=hO.at;clear hA hB hC hD;have OC1:=fQ hO;have B2:=fQ (ah BX.o hb);clear hO BX;refine hK.out _ _ (bJ af (by omega) hb) (fun ai=>?_);clear hK K af;have af:=ai;clear ai;try simp only [aT]
 clear hb;refine di 7 rfl fun K hK=>?_;go_simp;go_wp2_with fail;refine (IL bR 0 nR nR Z hnR _ (by omega) (fun k j q1 q2=>((B1.o.trans (B2.o.mono (by omega))).cell (p:=⟨bR,0+k * 16+j,none⟩) hbR).trans (HR.o k j q1 q2))).mono ?_;rintro e u2 ⟨⟨uv,rfl,hO⟩,hb⟩;have ku2:=hb.size;obtain ⟨gg,hRL,hgo⟩:=Ik hO;clear hgo;obtain ⟨aR,kR,rfl⟩:=hRL.shape;obtain ⟨mm,emm⟩:∃ m,m=u1.heap.size:=⟨_,rfl⟩;have RXM:bY (RX mm u2 (.slice aR nR kR) nR Z):=.inr ⟨_,by omega,ku2,hO⟩;have LTB:bY (∀ b,(Value.slice aR nR kR).ownBlock=some b->b<u2.heap.size):=fun b e=>(hO.lt b e).2;have RL0:RR u1.heap.size u2.heap.size u2 (.slice aR nR kR) nR Z gg:=hRL;have GEN:bY (∃ g,(u1.heap.size<=g/\g<u2.heap.size+1)/\RR u1.heap.size u2.heap.size u2 (.slice aR nR kR) nR Z g):=by
  rcases hRL with ⟨h,h'⟩ | ⟨c,e,h1,h2,h3,h4⟩
  ·exact ⟨u1.heap.size,⟨Ho _,by omega⟩,.inl ⟨h,h'⟩⟩
  exact ⟨gg,⟨h1,by omega⟩,.inr ⟨c,e,h1,h2,h3,h4⟩⟩
 clear hRL RL0 gg;obtain ⟨gg,⟨hg1,hg2⟩,hRL⟩:=GEN.o;have RL:=fQ hRL;have OC:=fQ (OC1.o.q (Ho _) hb);rw [<-emm] at OC;have B8:=fQ (ah B2.o hb);clear hRL hO OC1 B2 GEN;refine hK.out _ _ (bJ af (by omega) hb) (fun ai=>?_);clear hK K af;have af:=ai;clear ai;try simp only [aT]
 clear hb;refine bF 8 (.agg [zI a,zI V.c,.slice a1 V.nW k1,zI V.g,.slice a2 V.nO k2,.slice a3 V.nX k3,.slice a4 V.nI k4,.slice aR nR kR].toArray) rfl ?_;have Q3:=fQ (Q1.o.q (B8.o));obtain ⟨p0,p1,p2,p3,p4,p5,p6,p7⟩:=Q3.o.a8;have t0:=Q3.o.f8;have hlQ:(w.heap.size+1)<u2.heap.size:=Q3.o.1;refine di 9 rfl fun K hK=>?_;go_simp;obtain ⟨w6,e6⟩:∃ y,y=H7 u2 (w.heap.size+1) (zI a) (zI V.c) (.slice a1 V.nW k1) (zI V.g) (.slice a2 V.nO k2) (.slice a3 V.nX k3) (.slice a4 V.nI k4) (.slice aR nR kR):=⟨_,rfl⟩;have hz6:w6.heap.size=u2.heap.size:=by rw [e6];exact H6 _ _ _ _ _ _ _ _ _ _
 have Q6:Bk w6 (w.heap.size+1) [zI a,zI V.c,.slice a1 V.nW k1,zI V.g,.slice a2 V.nO k2,.slice a3 V.nX k3,.slice a4 V.nI k4,.slice aR nR kR]:=by rw [e6];exact Ic Q3.o rfl _ _ _ _ _ _ _ _
 have RXQ:RX mm w6 (.slice aR nR kR) nR Z:=by rw [e6];exact RXM.o.kept (Je _ _ _ _ _ _ _ _ _ _) (fun b e=>by cases e;omega)
 have SP:∀ b,¬ b=w.heap.size+1->Sm u2 w6 b:=fun b hb=>by rw [e6];exact Ia hb _ _ _ _ _ _ _ _
 have B9:Below w.heap.size w w6:=by rw [e6];exact HY ((B1.o.trans (B8.o.mono (by omega)))) (by omega) _ _ _ _ _ _ _ _
 have hN:Below (w.heap.size+1) w0 w6:=by rw [e6];exact HY (B8.o.mono (by omega)) (Ho _) _ _ _ _ _ _ _ _
 unfold H7 at e6;rw [<-e6];clear e6 p0 p1 p2 p3 p4 p5 p6 p7 t0 hlQ Q3;refine hK.out _ _ hN (fun ai=>?_);try simp only [aT]
 clear hK K af ai;refine Hy (by kernel_rfl) ?_ _;obtain ⟨p0,p1,p2,p3,p4,p5,p6,p7⟩:=Q6.a8;have hlQ:(w.heap.size+1)<w6.heap.size:=Q6.1;have HN:=fQ hN;have QQ:=fQ Q6;have SQ:=fQ SP;have RXW:=fQ RXQ;have BN:=fQ B9;clear hN Q6 SP B9 RXQ;go_wp2;refine Hw (v:=.agg [zI a,zI V.c,.slice a1 V.nW k1,zI V.g,.slice a2 V.nO k2,.slice a3 V.nX k3,.slice a4 V.nI k4,.slice aR nR kR].toArray) (by simp [results,Tryz.results57,go_sem,p0,p1,p2,p3,p4,p5,p6,p7]) rfl ?_;exact ⟨⟨_,rfl,a1,k1,a2,k2,a3,k3,a4,k4,aR,kR,X.heap.size,mm,gg,rfl,OC.o.sm (by omega) (fun b q1 q2=>SQ.o b (by omega)),(RL.o.sm (by omega) (fun q1 q2=>SQ.o gg (by omega))).wide (by omega) (by omega) (by omega),by omega,by omega,by omega,by omega,by omega,RXW.o,fun b e=>by have:=LTB.o b e;omega,fun e=>by cases e⟩,BN.o⟩
theorem JU (a:Int) (V:CV) (lo bW bO bX bI bR nR:Nat) (Z:Nat->Nat->Int) (hs0:V.short 1048576) (hnR:nR<=1048576) (w:World) (CP0:eH lo w (.agg (zC V bW V.nW bO V.nO bX V.nX bI V.nI).toArray) V) (hbR:bR<w.heap.size) (hR0:∀ k j,k<nR->j<16->w.cell? ⟨bR,0+k * 16+j,none⟩=some (.int .i64 (Z k j))) :
 Hz 42 #[.agg [zI a,zI V.c,zS bW V.nW V.nW,zI V.g,zS bO V.nO V.nO,zS bX V.nX V.nX,zS bI V.nI V.nI,zS bR nR nR].toArray] w fun e w'=>(∃ u,e=.returned u/\La true w.heap.size w'.heap.size w' u a V nR Z)/\Below w.heap.size w w':=by
 have hs:=fQ hs0;have HR:=fQ hR0;have CP:=fQ CP0;clear hs0 CP0 hR0;go_enter Tryz.func42,Tryz.ntmps42;go_wp2_with fail;obtain ⟨w0,e0,B1,S1,Q1,hz0⟩:=EX w [zI a,zI V.c,zS bW V.nW V.nW,zI V.g,zS bO V.nO V.nO,zS bX V.nX V.nX,zS bI V.nI V.nI,zS bR nR nR] 41 z8 41;rw [<-e0];clear e0;have y0:=S1.o.a8;have hlS:w.heap.size<w0.heap.size:=S1.o.1;have hl1:w.heap.size<w.heap.size+1:=Nat.lt_succ_self _;refine Hu (S:=fun w'=>Below (w.heap.size+1) w0 w') (by kernel_rfl) ((Hr _ _).drew) ?_;intro af;obtain ⟨X,hX⟩:∃ X,X=w0.drew:=⟨_,rfl⟩;have hz1:w0.heap.size<=X.heap.size:=by rw [hX];exact Ho _
 have BX:bY (Below w0.heap.size w0 X):=by unfold bY;rw [hX];exact (Hr _ _).drew
 rw [<-hX] at af ⊢;clear hX;refine bF 0 (zP w.heap.size 0) rfl ?_;refine bF 1 (zI a) rfl ?_;refine bF 2 (zP w.heap.size 1) rfl ?_;refine bF 3 (.agg (zC V bW V.nW bO V.nO bX V.nX bI V.nI).toArray) rfl ?_;refine bF 6 (zP w.heap.size 7) rfl ?_;refine bF 7 (zS bR nR nR) rfl ?_;refine y9 [4,5] (AllReadyH.cons rfl (fun K hK=>?_) (AllReadyH.cons rfl (fun K hK=>?_) AllReadyH.nil))
 ·go_simp;go_wp2_with fail;refine (fC _ V hs.o _ (CP.o.q (ah B1.o BX.o)).cellS.g).mono ?_;rintro e u1 ⟨⟨uu,rfl,hO,hT,hF⟩,hb⟩;have ku1:=hb.size;obtain ⟨a1,k1,a2,k2,a3,k3,a4,k4,rfl,hA,hB,hC,hD⟩:=hO.at;clear hA hB hC hD;have OC1:=fQ hO;obtain ⟨ll,ell⟩:∃ l,l=X.heap.size:=⟨_,rfl⟩;have FT1:=fQ (And.intro hF hT);rw [<-ell] at OC1 FT1;have B2:=fQ (ah BX.o hb);clear hO hT hF;refine hK.out _ _ (bJ af (by omega) hb) (fun ai=>?_);clear hK K af;have af:=ai;clear ai;try simp only [aT]
  clear hb BX;have BX:=B2;clear B2;refine di 5 rfl fun K hK=>?_;go_simp;obtain ⟨u2,eA⟩:∃ y,y=u1.alloc (.cells #[] 71):=⟨_,rfl⟩;rw [<-eA];have hb:Below u1.heap.size u1 u2:=by rw [eA];exact (Hr _ _).alloc (Ho _) _
  have ku2:=hb.size;have lb0:u1.heap.size<u2.heap.size:=by rw [eA];simp
  clear eA;have B2:=fQ (ah BX.o hb);obtain ⟨bb,ebb⟩:∃ b,b=u1.heap.size:=⟨_,rfl⟩;rw [<-ebb];have lbb:bb<u2.heap.size:=by omega
  replace OC1:=fQ (OC1.o.q (by omega) hb);replace FT1:=fQ (Jo FT1.o (by omega) hb);refine hK.out _ _ (bJ af (by omega) hb) (fun ai=>?_);clear hK K af;have af:=ai;clear ai;try simp only [aT]
  clear hb BX ebb;have BX:=B2;clear B2;refine di 8 rfl fun K hK=>?_;rw [if_pos (by rfl)];refine IV _ _ rfl _ rfl bR 0 nR nR Z rfl hnR (fun k j q1 q2=>((B1.o.trans (BX.o.mono (by omega))).cell (p:=⟨bR,0+k * 16+j,none⟩) hbR).trans (HR.o k j q1 q2)) ?_;intro uv u9 gg hRL hRX hLT hb;have ku9:=hb.size;obtain ⟨aR,kR,rfl⟩:=hRL.shape;obtain ⟨mm,emm⟩:∃ m,m=u1.heap.size:=⟨_,rfl⟩;have RXM:bY (RX mm u9 (.slice aR nR kR) nR Z):=hRX.low (by omega);have LTB:bY (∀ b,(Value.slice aR nR kR).ownBlock=some b->b<u9.heap.size):=fun b e=>by rcases hLT b e with h | h;exact h;have h2:b=bb:=h;omega
  clear hRX hLT;have GEN:bY (∃ g,(u2.heap.size<=g/\g<u9.heap.size+1)/\RR u2.heap.size u9.heap.size u9 (.slice aR nR kR) nR Z g):=by
   rcases hRL with ⟨h,h'⟩ | ⟨c,e,h1,h2,h3,h4⟩
   ·exact ⟨u2.heap.size,⟨Ho _,by omega⟩,.inl ⟨h,h'⟩⟩
   exact ⟨gg,⟨h1,by omega⟩,.inr ⟨c,e,h1,h2,h3,h4⟩⟩
  clear hRL gg;obtain ⟨gg,⟨hg1,hg2⟩,hRL⟩:=GEN.o;have RL:=fQ hRL;have OC:=fQ (OC1.o.q (by omega) hb);have FT:=fQ (Jo FT1.o (by omega) hb);rw [<-emm] at OC FT;have B8:=fQ (ah BX.o hb);clear hRL OC1 FT1 GEN;refine hK.out _ _ (bJ af (by omega) hb) (fun ai=>?_);clear hK K af;have af:=ai;clear ai;try simp only [aT]
  clear hb;refine bF 9 (.agg [zI a,zI V.c,.slice a1 V.nW k1,zI V.g,.slice a2 V.nO k2,.slice a3 V.nX k3,.slice a4 V.nI k4,.slice aR nR kR].toArray) rfl ?_;have Q3:=fQ (Q1.o.q (B8.o));obtain ⟨p0,p1,p2,p3,p4,p5,p6,p7⟩:=Q3.o.a8;have t0:=Q3.o.f8;have hlQ:(w.heap.size+1)<u9.heap.size:=Q3.o.1;refine di 10 rfl fun K hK=>?_;go_simp;obtain ⟨w6,e6⟩:∃ y,y=H7 u9 (w.heap.size+1) (zI a) (zI V.c) (.slice a1 V.nW k1) (zI V.g) (.slice a2 V.nO k2) (.slice a3 V.nX k3) (.slice a4 V.nI k4) (.slice aR nR kR):=⟨_,rfl⟩;have hz6:w6.heap.size=u9.heap.size:=by rw [e6];exact H6 _ _ _ _ _ _ _ _ _ _
  have Q6:Bk w6 (w.heap.size+1) [zI a,zI V.c,.slice a1 V.nW k1,zI V.g,.slice a2 V.nO k2,.slice a3 V.nX k3,.slice a4 V.nI k4,.slice aR nR kR]:=by rw [e6];exact Ic Q3.o rfl _ _ _ _ _ _ _ _
  have RXQ:RX mm w6 (.slice aR nR kR) nR Z:=by rw [e6];exact RXM.o.kept (Je _ _ _ _ _ _ _ _ _ _) (fun b e=>by cases e;omega)
  have SP:∀ b,¬ b=w.heap.size+1->Sm u9 w6 b:=fun b hb=>by rw [e6];exact Ia hb _ _ _ _ _ _ _ _
  have B9:Below w.heap.size w w6:=by rw [e6];exact HY ((B1.o.trans (B8.o.mono (by omega)))) (by omega) _ _ _ _ _ _ _ _
  have hN:Below (w.heap.size+1) w0 w6:=by rw [e6];exact HY (B8.o.mono (by omega)) (Ho _) _ _ _ _ _ _ _ _
  unfold H7 at e6;rw [<-e6];clear e6 p0 p1 p2 p3 p4 p5 p6 p7 t0 hlQ Q3;refine hK.out _ _ hN (fun ai=>?_);try simp only [aT]
  clear hK K af ai;refine Hy (by kernel_rfl) ?_ _;obtain ⟨p0,p1,p2,p3,p4,p5,p6,p7⟩:=Q6.a8;have hlQ:(w.heap.size+1)<w6.heap.size:=Q6.1;have HN:=fQ hN;have QQ:=fQ Q6;have SQ:=fQ SP;have RXW:=fQ RXQ;have BN:=fQ B9;clear hN Q6 SP B9 RXQ;go_wp2;refine Hw (v:=.agg [zI a,zI V.c,.slice a1 V.nW k1,zI V.g,.slice a2 V.nO k2,.slice a3 V.nX k3,.slice a4 V.nI k4,.slice aR nR kR].toArray) (by simp [results,Tryz.results42,go_sem,p0,p1,p2,p3,p4,p5,p6,p7]) rfl ?_;exact ⟨⟨_,rfl,a1,k1,a2,k2,a3,k3,a4,k4,aR,kR,ll,mm,gg,rfl,OC.o.sm (by omega) (fun b q1 q2=>SQ.o b (by omega)),(RL.o.sm (by omega) (fun q1 q2=>SQ.o gg (by omega))).wide (by omega) (by omega) (by omega),by omega,by omega,by omega,by omega,by omega,RXW.o,fun b e=>by have:=LTB.o b e;omega,fun _=>FT.o.1.sm FT.o.2 (by omega) (fun b q1 q2=>SQ.o b (by omega))⟩,BN.o⟩
 go_simp;obtain ⟨u1,eA⟩:∃ y,y=X.alloc (.cells #[] 71):=⟨_,rfl⟩;rw [<-eA];have hb:Below X.heap.size X u1:=by rw [eA];exact (Hr _ _).alloc (Ho _) _
 have ku2:=hb.size;have lb0:X.heap.size<u1.heap.size:=by rw [eA];simp
 clear eA;have B2:=fQ (ah BX.o hb);obtain ⟨bb,ebb⟩:∃ b,b=X.heap.size:=⟨_,rfl⟩;rw [<-ebb];have lbb:bb<u1.heap.size:=by omega
 refine hK.out _ _ (bJ af (by omega) hb) (fun ai=>?_);clear hK K af;have af:=ai;clear ai;try simp only [aT]
 clear hb BX ebb;have BX:=B2;clear B2;refine di 4 rfl fun K hK=>?_;go_simp;go_wp2_with fail;refine (fC _ V hs.o _ (CP.o.q (ah B1.o BX.o)).cellS.g).mono ?_;rintro e u2 ⟨⟨uu,rfl,hO,hT,hF⟩,hb⟩;have ku1:=hb.size;obtain ⟨a1,k1,a2,k2,a3,k3,a4,k4,rfl,hA,hB,hC,hD⟩:=hO.at;clear hA hB hC hD;have OC1:=fQ hO;obtain ⟨ll,ell⟩:∃ l,l=u1.heap.size:=⟨_,rfl⟩;have FT1:=fQ (And.intro hF hT);rw [<-ell] at OC1 FT1;have B2:=fQ (ah BX.o hb);clear hO hT hF;refine hK.out _ _ (bJ af (by omega) hb) (fun ai=>?_);clear hK K af;have af:=ai;clear ai;try simp only [aT]
 clear hb BX;have BX:=B2;clear B2;refine di 8 rfl fun K hK=>?_;rw [if_pos (by rfl)];refine IV _ _ rfl _ rfl bR 0 nR nR Z rfl hnR (fun k j q1 q2=>((B1.o.trans (BX.o.mono (by omega))).cell (p:=⟨bR,0+k * 16+j,none⟩) hbR).trans (HR.o k j q1 q2)) ?_;intro uv u9 gg hRL hRX hLT hb;have ku9:=hb.size;obtain ⟨aR,kR,rfl⟩:=hRL.shape;obtain ⟨mm,emm⟩:∃ m,m=u2.heap.size:=⟨_,rfl⟩;have RXM:bY (RX mm u9 (.slice aR nR kR) nR Z):=hRX.low (by omega);have LTB:bY (∀ b,(Value.slice aR nR kR).ownBlock=some b->b<u9.heap.size):=fun b e=>by rcases hLT b e with h | h;exact h;have h2:b=bb:=h;omega
 clear hRX hLT;have GEN:bY (∃ g,(u2.heap.size<=g/\g<u9.heap.size+1)/\RR u2.heap.size u9.heap.size u9 (.slice aR nR kR) nR Z g):=by
  rcases hRL with ⟨h,h'⟩ | ⟨c,e,h1,h2,h3,h4⟩
  ·exact ⟨u2.heap.size,⟨Ho _,by omega⟩,.inl ⟨h,h'⟩⟩
  exact ⟨gg,⟨h1,by omega⟩,.inr ⟨c,e,h1,h2,h3,h4⟩⟩
 clear hRL gg;obtain ⟨gg,⟨hg1,hg2⟩,hRL⟩:=GEN.o;have RL:=fQ hRL;have OC:=fQ (OC1.o.q (by omega) hb);have FT:=fQ (Jo FT1.o (by omega) hb);rw [<-emm] at OC FT;have B8:=fQ (ah BX.o hb);clear hRL OC1 FT1 GEN;refine hK.out _ _ (bJ af (by omega) hb) (fun ai=>?_);clear hK K af;have af:=ai;clear ai;try simp only [aT]
 clear hb;refine bF 9 (.agg [zI a,zI V.c,.slice a1 V.nW k1,zI V.g,.slice a2 V.nO k2,.slice a3 V.nX k3,.slice a4 V.nI k4,.slice aR nR kR].toArray) rfl ?_;have Q3:=fQ (Q1.o.q (B8.o));obtain ⟨p0,p1,p2,p3,p4,p5,p6,p7⟩:=Q3.o.a8;have t0:=Q3.o.f8;have hlQ:(w.heap.size+1)<u9.heap.size:=Q3.o.1;refine di 10 rfl fun K hK=>?_;go_simp;obtain ⟨w6,e6⟩:∃ y,y=H7 u9 (w.heap.size+1) (zI a) (zI V.c) (.slice a1 V.nW k1) (zI V.g) (.slice a2 V.nO k2) (.slice a3 V.nX k3) (.slice a4 V.nI k4) (.slice aR nR kR):=⟨_,rfl⟩;have hz6:w6.heap.size=u9.heap.size:=by rw [e6];exact H6 _ _ _ _ _ _ _ _ _ _
 have Q6:Bk w6 (w.heap.size+1) [zI a,zI V.c,.slice a1 V.nW k1,zI V.g,.slice a2 V.nO k2,.slice a3 V.nX k3,.slice a4 V.nI k4,.slice aR nR kR]:=by rw [e6];exact Ic Q3.o rfl _ _ _ _ _ _ _ _
 have RXQ:RX mm w6 (.slice aR nR kR) nR Z:=by rw [e6];exact RXM.o.kept (Je _ _ _ _ _ _ _ _ _ _) (fun b e=>by cases e;omega)
 have SP:∀ b,¬ b=w.heap.size+1->Sm u9 w6 b:=fun b hb=>by rw [e6];exact Ia hb _ _ _ _ _ _ _ _
 have B9:Below w.heap.size w w6:=by rw [e6];exact HY ((B1.o.trans (B8.o.mono (by omega)))) (by omega) _ _ _ _ _ _ _ _
 have hN:Below (w.heap.size+1) w0 w6:=by rw [e6];exact HY (B8.o.mono (by omega)) (Ho _) _ _ _ _ _ _ _ _
 unfold H7 at e6;rw [<-e6];clear e6 p0 p1 p2 p3 p4 p5 p6 p7 t0 hlQ Q3;refine hK.out _ _ hN (fun ai=>?_);try simp only [aT]
 clear hK K af ai;refine Hy (by kernel_rfl) ?_ _;obtain ⟨p0,p1,p2,p3,p4,p5,p6,p7⟩:=Q6.a8;have hlQ:(w.heap.size+1)<w6.heap.size:=Q6.1;have HN:=fQ hN;have QQ:=fQ Q6;have SQ:=fQ SP;have RXW:=fQ RXQ;have BN:=fQ B9;clear hN Q6 SP B9 RXQ;go_wp2;refine Hw (v:=.agg [zI a,zI V.c,.slice a1 V.nW k1,zI V.g,.slice a2 V.nO k2,.slice a3 V.nX k3,.slice a4 V.nI k4,.slice aR nR kR].toArray) (by simp [results,Tryz.results42,go_sem,p0,p1,p2,p3,p4,p5,p6,p7]) rfl ?_;exact ⟨⟨_,rfl,a1,k1,a2,k2,a3,k3,a4,k4,aR,kR,ll,mm,gg,rfl,OC.o.sm (by omega) (fun b q1 q2=>SQ.o b (by omega)),(RL.o.sm (by omega) (fun q1 q2=>SQ.o gg (by omega))).wide (by omega) (by omega) (by omega),by omega,by omega,by omega,by omega,by omega,RXW.o,fun b e=>by have:=LTB.o b e;omega,fun _=>FT.o.1.sm FT.o.2 (by omega) (fun b q1 q2=>SQ.o b (by omega))⟩,BN.o⟩
theorem Ii (a:Int) (V:CV) (lo bW bO bX bI bR nR:Nat) (Z:Nat->Nat->Int) (hs0:V.short 1048576) (hnR:nR<=1048576) (w:World) (CP0:eH lo w (.agg (zC V bW V.nW bO V.nO bX V.nX bI V.nI).toArray) V) (hbR:bR<w.heap.size) (hR0:∀ k j,k<nR->j<16->w.cell? ⟨bR,0+k * 16+j,none⟩=some (.int .i64 (Z k j))) :
 Hz 57 #[.agg [zI a,zI V.c,zS bW V.nW V.nW,zI V.g,zS bO V.nO V.nO,zS bX V.nX V.nX,zS bI V.nI V.nI,zS bR nR nR].toArray] w fun e w'=>(∃ u,e=.returned u/\Ih w.heap.size w'.heap.size w' u a V nR Z)/\Below w.heap.size w w' :=
 (Js a V lo bW bO bX bI bR nR Z hs0 hnR w CP0 hbR hR0).mono (fun _ _ h=>by obtain ⟨⟨u,e,q⟩,b⟩:=h;exact ⟨⟨u,e,q.o⟩,b⟩)
theorem Iq (a:Int) (V:CV) (lo bW bO bX bI bR nR:Nat) (Z:Nat->Nat->Int) (hs0:V.short 1048576) (hnR:nR<=1048576) (w:World) (CP0:eH lo w (.agg (zC V bW V.nW bO V.nO bX V.nX bI V.nI).toArray) V) (hbR:bR<w.heap.size) (hR0:∀ k j,k<nR->j<16->w.cell? ⟨bR,0+k * 16+j,none⟩=some (.int .i64 (Z k j))) :
 Hz 42 #[.agg [zI a,zI V.c,zS bW V.nW V.nW,zI V.g,zS bO V.nO V.nO,zS bX V.nX V.nX,zS bI V.nI V.nI,zS bR nR nR].toArray] w fun e w'=>(∃ u,e=.returned u/\Ih w.heap.size w'.heap.size w' u a V nR Z)/\Below w.heap.size w w' :=
 (JU a V lo bW bO bX bI bR nR Z hs0 hnR w CP0 hbR hR0).mono (fun _ _ h=>by obtain ⟨⟨u,e,q⟩,b⟩:=h;exact ⟨⟨u,e,q.o⟩,b⟩)
