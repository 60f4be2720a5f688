/- The program's HldOpen answers as the model's; conditions: the store lies in memory. -/
import Derived.Test.YtngaboipleimcabGreatDoorHO2
import Derived.Deep.DeepCutAuto
set_option linter.unusedVariables false
set_option maxHeartbeats 64000000
set_option maxRecDepth 20000
namespace Go.Proofs.YtngaboipleimcabGreatDoor
open Go.RowKit Go.Deep
def Sf (U:CV):Prop:=U.short 1048576/\U.nO<=2
theorem lZ {V:CV} (h:V.short 1048576):V.short 2000000:=by
 obtain ⟨h1,h2,h3,h4,h5⟩:=h;exact ⟨by omega,by omega,fun k hk=>by have:=h3 k hk;omega,by omega,by omega⟩
theorem J8 {V:CV} (h:Sf V):V.t4 1<=100000000:=by
 obtain ⟨⟨h1,h2,h3,h4,h5⟩,h6⟩:=h;have hS:mG V.N V.nO<=2097152:=by
  have:V.nO=0∨V.nO=1∨V.nO=2:=by omega
  rcases this with e | e | e
  ·rw [e];simp [mG]
  ·have:=h3 0 (by omega);rw [e];simp only [mG];omega
  have:=h3 0 (by omega);have:=h3 1 (by omega);rw [e];simp only [mG];omega
 unfold CV.t4 CV.t3 CV.t2 CV.t1;rw [Cb];omega
theorem JB {lo bW bO bX bI bR n:Nat} {w:World} {a:Int} {V:CV} {Z:Nat->Nat->Int} (h:aV lo bR w (.agg (zC V bW V.nW bO V.nO bX V.nX bI V.nI).toArray) V) (h1:lo<=bR) (h2:bR<w.heap.size) (h3:P16.iy w bR n Z n):Ih lo w.heap.size w (.agg [zI a,zI V.c,zS bW V.nW V.nW,zI V.g,zS bO V.nO V.nO,zS bX V.nX V.nX,zS bI V.nI V.nI,zS bR n n].toArray) a V n Z:=⟨_,_,_,_,_,_,_,_,_,_,lo,bR,bR,rfl,h,.inr ⟨n,rfl,h1,h2,Ho _,h3⟩,Ho _,h1,Nat.le_of_lt h2,Ho _,.inr (Ho _)⟩
theorem MC {c d:Int} {U:CV} (h:bD c d U=true):Sf U:=by
 have h2:=dH h;have h9:=jF h;exact ⟨⟨by omega,by omega,fun q hq=>by have:=(kD h q (by omega)).2;omega,by omega,by omega⟩,by omega⟩
/-- What HldOpen answers can be counted. -/
theorem MB (c d g a:Int) (V:CV) (n:Nat) (Z:Nat->Nat->Int) (hs:V.short 1048576) (hf:V.few) (hn:n<=1048576):((Lp c d g a V n Z).U.short 1048576/\(Lp c d g a V n Z).U.few/\(Lp c d g a V n Z).U.t4 1<=100000000)/\((Lp c d g a V n Z).V.short 1048576/\(Lp c d g a V n Z).V.few)/\(Lp c d g a V n Z).n<=1048576:=by
 have hz:CV.zero.short 1048576:=⟨by decide,by decide,fun k hk=>by simp [CV.zero],by decide,by decide⟩;have hzf:CV.zero.few:=uT (V:=CV.zero) hz (by decide);have hz1:CV.zero.t4 1<=100000000:=J8 ⟨hz,by decide⟩;unfold Lp;split
 ·split
  ·rename_i h;have hq:=MC (uZ (Z:=Z) (LC (LD h).2) n);exact ⟨⟨hq.1,CV.KL hq.1 hq.2,J8 hq⟩,⟨hs,hf⟩,hn⟩
  unfold fence;repeat' split
  all_goals first
   | exact ⟨⟨hz,hzf,hz1⟩,⟨hs,hf⟩,hn⟩
   | exact ⟨⟨hz,hzf,hz1⟩,⟨hz,hzf⟩,Nat.zero_le _⟩
 exact ⟨⟨hz,hzf,hz1⟩,⟨hz,hzf⟩,Nat.zero_le _⟩
abbrev Kr (n:Nat) (X:World) (dW dO dX dI dR:Nat) (V:CV) (m:Nat) (Z:Nat->Nat->Int):Prop:=gq n X (.agg (zC V dW V.nW dO V.nO dX V.nX dI V.nI).toArray) V/\dR<X.heap.size/\P16.iy X dR m Z m
theorem Kr.q {n dW dO dX dI dR m:Nat} {X Y:World} {V:CV} {Z:Nat->Nat->Int} (h:Kr n X dW dO dX dI dR V m Z) (hb:Below X.heap.size X Y):Kr n Y dW dO dX dI dR V m Z:=⟨h.1.q hb,Hg h.2.1 hb.size,P16.own_below h.2.2 h.2.1 hb⟩
abbrev KC (n:Nat) (X:World) (u1 u2:Value) (x:Le) (l1 h1 l2 h2:Nat):Prop:=Jj l1 h1 X u1 x.g x.p x.U/\Ih l2 h2 X u2 x.a x.V x.n x.Z/\n<=l1/\l1<=h1/\h1<=X.heap.size/\n<=l2/\l2<=h2/\h2<=X.heap.size/\(h1<=l2∨h2<=l1)
theorem AN.f {n lo:Nat} {X:World} {u1 u2:Value} {x:Le} (h:AN lo X u1 u2 x) (hn:n<=lo):∃ l1 h1 l2 h2,KC n X u1 u2 x l1 h1 l2 h2/\lo<=l1/\lo<=l2:=by
 obtain ⟨l1,h1,l2,h2,q1,q2,q3,q4,q5⟩:=h;have e1:l1<=h1/\h1<=X.heap.size:=by obtain ⟨_,_,_,_,_,_,_,_,_,_,e,f⟩:=q1;exact ⟨e,f⟩
 have e2:l2<=h2/\h2<=X.heap.size:=by obtain ⟨_,_,_,_,_,_,_,_,_,_,_,_,_,_,_,_,e1,e2,e3,e4,_⟩:=q2;exact ⟨by omega,e4⟩
 exact ⟨l1,h1,l2,h2,⟨q1,q2,by omega,e1.1,e1.2,by omega,e2.1,e2.2,q5⟩,q3,q4⟩
theorem KC.q {n l1 h1 l2 h2:Nat} {X Y:World} {u1 u2:Value} {x:Le} (h:KC n X u1 u2 x l1 h1 l2 h2) (hb:Below X.heap.size X Y):KC n Y u1 u2 x l1 h1 l2 h2:=by
 obtain ⟨q1,q2,q3,q4,q5,q6,q7,q8,q9⟩:=h;exact ⟨q1.q hb,q2.q hb,q3,q4,Hq q5 hb.size,q6,q7,Hq q8 hb.size,q9⟩
abbrev Lh (C l1 h1 l2 h2:Nat):Prop:=(C<l1∨h1<=C)/\(C<l2∨h2<=C)
theorem KC.new {n l1 h1 l2 h2:Nat} {X:World} {u1 u2:Value} {x:Le} (h:KC n X u1 u2 x l1 h1 l2 h2) {C:Nat} (hC:X.heap.size<=C):Lh C l1 h1 l2 h2:=⟨.inr (Hq h.2.2.2.2.1 hC),.inr (Hq h.2.2.2.2.2.2.2.1 hC)⟩
theorem KC.put {n l1 h1 l2 h2 C:Nat} {X Y:World} {u1 u2:Value} {x:Le} (h:KC n X u1 u2 x l1 h1 l2 h2) (e:Lh C l1 h1 l2 h2) (hz:Y.heap.size=X.heap.size) (sp:∀ b,¬ b=C->Sm X Y b):KC n Y u1 u2 x l1 h1 l2 h2:=by
 obtain ⟨q1,q2,q3,q4,q5,q6,q7,q8,q9⟩:=h;obtain ⟨e1,e2⟩:=e;exact ⟨q1.sm (Hl hz.symm) (fun b _ _=>sp b (by omega)),q2.sm (Hl hz.symm) (fun b _ _=>sp b (by omega)),q3,q4,by omega,q6,q7,by omega,q9⟩
abbrev Bb (n:Nat) (X:World) (C:Nat) (l:List Value):Prop:=Bk X C l/\n<=C
theorem Bb.q {n C:Nat} {X Y:World} {l:List Value} (h:Bb n X C l) (hb:Below X.heap.size X Y):Bb n Y C l:=⟨h.1.q hb,h.2⟩
theorem Bb.put {n C D:Nat} {X Y:World} {l:List Value} (h:Bb n X C l) (hz:Y.heap.size=X.heap.size) (sp:∀ b,¬ b=D->Sm X Y b) (hn:¬ C=D):Bb n Y C l:=⟨h.1.sm (Hl hz.symm) (sp _ hn),h.2⟩
section
variable {P:Program} {ops:Array Oper} {Q:Exit->Act->World->Prop} {md:Region.Mode} {S:World->Prop}
theorem Lc (rs:List Nat) {fuel:Nat} {listed:Array Bool} {a:Act} {w:World} (h:AllReadyH P md ops Q S fuel listed a w rs) (hr:Region.ready md ops listed=rs:=by as_aux_lemma=>kernel_rfl) (hne:rs≠[]:=by simp):wpAnyH P md ops Q S (fuel+1) listed a w:=y9 rs h hr hne
theorem Ld (i:Nat) {o:Oper} {fuel:Nat} {listed:Array Bool} {a:Act} {w:World} (ho:ops[i]? = some o)
 (h:∀ K':Act->World->Prop,Shut (∀ a w,S w->(S w->wpAnyH P md ops Q S fuel (listed.setIfInBounds i true) a w)->K' a w)->if Region.wanted o (yielded ops a.tmps)=true then Oper.wp P o a w K' Q else K' (a.put o.dst undef) w)
 (hr:Region.ready md ops listed=[i]:=by as_aux_lemma=>kernel_rfl):wpAnyH P md ops Q S (fuel+1) listed a w:=di i ho h hr
theorem Lj (i:Nat) {oi:Oper} (v:Value) {fuel:Nat} {listed:Array Bool} {a:Act} {w:World} (hi:ops[i]? = some oi) (h:wpAnyH P md ops Q S fuel (listed.setIfInBounds i true) (a.put oi.dst v) w)
 (hy:∀ w,S w->(execOp a.eval oi).run P w=.ok (.value v) w:=by intro wx hSw;obtain ⟨hcS,hfS⟩:=iZ hSw;(try simp only [aT]);go_simp) (hs:Region.noSelect ops=true:=by as_aux_lemma=>kernel_rfl) (hf:Region.free md ops listed i=true:=by as_aux_lemma=>kernel_rfl) (hr:(Region.ready md ops listed).contains i=true:=by as_aux_lemma=>kernel_rfl)
 (hQ:∀ c a w,Q (.panic c) (a.put oi.dst v) w->Q (.panic c) a w:=by exact fun _ _ _ h=>h) (hw:Region.wanted oi (yielded ops a.tmps)=true:=by rfl) (hS:S w:=by assumption):wpAnyH P md ops Q S (fuel+1) listed a w :=bF i v hi h hy hs hf hr hQ hw hS rfl
end
theorem GV {n:Nat} {W:World} (X:World) (l:List Value) (ty:TypeId) (hH:Below n W X) (hn:n<=W.heap.size):∃ C Y,C=X.heap.size/\Y=X.alloc (.cells l.toArray ty)/\Below X.heap.size X Y/\bY (Bb n Y C l):=by
 obtain ⟨Y,e,hb,hY,_⟩:=bx1 X l ty;exact ⟨_,Y,rfl,e,hb,hY,Hq hn hH.size⟩
theorem KR {n C:Nat} {W X:World} {z:List Value} (l:List Value) (hH:Below n W X) (h:Bb n X C z) (hl:l.length=z.length):∃ Y,Y=qg C l 0 X/\Below n W Y/\Y.heap.size=X.heap.size/\(∀ b,¬ b=C->Sm X Y b)/\bY (Bb n Y C l):=⟨_,rfl,gu h.2 l 0 hH,size_put _ _ _ _,fun _ hb=>jQ hb l 0 X,jM h.1 hl,h.2⟩
abbrev Rl (W wx:World) (x:Le) (q:Bool) (sa sb sc:Value):Prop:=∃ C1 C2 l1 h1 l2 h2 a1 k1 a2 k2 a3 k3 a4 k4 s1 i1 s2 i2 s3 i3 s4 i4 s5 i5,zP C1 0=sa/\zP C2 0=sb/\.bool q=sc/\Bb W.heap.size wx C1 [zI x.g,zI x.p,zI x.U.c,.slice a1 x.U.nW k1,zI x.U.g,.slice a2 x.U.nO k2,.slice a3 x.U.nX k3,.slice a4 x.U.nI k4]/\Bb W.heap.size wx C2 [zI x.a,zI x.V.c,.slice s1 x.V.nW i1,zI x.V.g,.slice s2 x.V.nO i2,.slice s3 x.V.nX i3,.slice s4 x.V.nI i4,.slice s5 x.n i5]/\KC W.heap.size wx (.agg [zI x.g,zI x.p,zI x.U.c,.slice a1 x.U.nW k1,zI x.U.g,.slice a2 x.U.nO k2,.slice a3 x.U.nX k3,.slice a4 x.U.nI k4].toArray) (.agg [zI x.a,zI x.V.c,.slice s1 x.V.nW i1,zI x.V.g,.slice s2 x.V.nO i2,.slice s3 x.V.nX i3,.slice s4 x.V.nI i4,.slice s5 x.n i5].toArray) x l1 h1 l2 h2/\Lh C1 l1 h1 l2 h2/\Lh C2 l1 h1 l2 h2/\¬ C1=C2/\Below W.heap.size W wx
structure Kp (p:Prop):Prop where
 o:p
theorem share {T G:Prop} (main:Kp T->G) (prf:T):G:=main ⟨prf⟩
theorem LJ (c d g a:Int) (V:CV) (Z:Nat->Nat->Int) (aW:Option Addr) (kW:Nat) (aO:Option Addr) (kO:Nat) (aX:Option Addr) (kX:Nat) (aI:Option Addr) (kI:Nat) (aR:Option Addr) (nR kR:Nat) (hs0:V.short maxLen) (hn:nR<=maxLen) (hwf0:∀ k,k<V.nW->(Lit.int .i64 (V.W k 0)).wf=true) (hwR0:∀ k j,k<nR->j<16->(Lit.int .i64 (Z k j)).wf=true) (w:World)
 (hg00:w.cell? (zA 0 0)=some (.iface 257 (.agg #[zP 1 204]))) (h0:iO w (.agg (zD V aW kW aO kO aX kX aI kI).toArray) V) (hR0:P16.qA w aR nR Z) :
 Hz 3 #[.agg #[zI c,zI d],Am a (zD V aW kW aO kO aX kX aI kI) (.slice aR nR kR),zI g] w fun e w'=>e=.returned (.bool true)/\Below w.heap.size w w':=by
 have hs:=fQ hs0;have hwf:=fQ hwf0;have hwR:=fQ hwR0;have hg0:=fQ hg00;have hpos:0<w.heap.size:=World.block_lt_of_cell? w (zA 0 0) hg00;have HC:=fQ h0;have HR:=fQ hR0;clear hs0 hwf0 hwR0 hg00 h0 hR0;go_enter Tryz.func3,Tryz.ntmps3;go_wp2_with fail;obtain ⟨w0,e0,B1,M1,S1,hz0⟩:=EX w [zI c,zI d] 23 [zI a,zI V.c,.slice aW V.nW kW,zI V.g,.slice aO V.nO kO,.slice aX V.nX kX,.slice aI V.nI kI,.slice aR nR kR] 31;rw [<-e0];clear e0;refine (Ko 1048576 ⟨by decide,by decide⟩ a V aW kW aO kO aX kX aI kI aR nR kR hs.o hn _ (dw HC.o B1.o)).mono ?_;rintro e w2 ⟨⟨r,rfl,hr⟩,hb⟩;have kz2:=hb.size;have B3:=fQ (ah B1.o hb);have M3:=fQ (M1.o.q hb);have S3:=fQ (S1.o.q hb);clear B1 M1 S1 hb;rcases hr with hr | ⟨t0,t1,t2,t3⟩
 ·go_wp2;go_ret;exact ⟨rfl,B3.o⟩
 have hSm:=fQ t2;have hS:=fQ (And.intro t1 t3);clear t1 t2 t3 hs;have HV:bY V.few:=uT hS.o.1 hSm.o;have HF:=fQ (MB c d g a V nR Z hS.o.1 HV.o hS.o.2);obtain ⟨x,ex⟩:∃ x,x=Lp c d g a V nR Z:=⟨_,rfl⟩;rw [<-ex] at HF;have EX:=fQ ex;clear ex;obtain ⟨q,eq⟩:∃ q:Bool,q=decide (x.k=1):=⟨_,rfl⟩;have EQ:=fQ eq;clear eq;obtain ⟨m0,m1⟩:=M3.o.a2;have hlM:w.heap.size<w2.heap.size:=M3.o.1;have y0:=S3.o.a8;have hlS:w.heap.size+1<w2.heap.size:=S3.o.1;go_upto_region 5 with fail;go_cut [8,9,10] (fun sa sb sc wx=>Rl w2 wx x q sa sb sc)
 case first=>
  refine Hu (S:=fun w'=>Below (w2.heap.size) w2 w') (by as_aux_lemma=>kernel_rfl) ((Hr _ _).drew) ?_;intro af;obtain ⟨X,hX⟩:∃ X,X=w2.drew:=⟨_,rfl⟩;rw [<-hX] at af ⊢;clear hX;refine Lj 0 (.agg #[zI c,zI d]) rfl ?_;try simp only [aT]
  refine Lj 2 (Am a (zD V aW kW aO kO aX kX aI kI) (.slice aR nR kR)) rfl ?_;try simp only [aT]
  refine Lj 4 (zI g) rfl ?_;try simp only [aT]
  revert af;revert X;apply share;case' main=>intro ka411
  apply share;case' main=>intro ka311
  apply share;case' main=>intro ka310
  apply share;case' main=>intro ka301
  apply share;case' main=>intro ka300
  apply share;case' main=>intro ka211
  apply share;case' main=>intro ka210
  apply share;case' main=>intro ka201
  apply share;case' main=>intro ka200
  apply share;case' main=>intro ka111
  apply share;case' main=>intro ka110
  apply share;case' main=>intro ka101
  apply share;case' main=>intro ka100
  apply share;case' main=>intro ka011
  apply share;case' main=>intro ka010
  apply share;case' main=>intro ka001
  ·intro X af;refine Lc [1,10,11] (AllReadyH.cons rfl (fun K hK=>?_) (AllReadyH.cons rfl (fun K hK=>?_) (AllReadyH.cons rfl (fun K hK=>?_) AllReadyH.nil)))
   ·go_simp;go_wp2_with fail;refine (uy c d _).mono ?_;rintro e X1 ⟨rfl,hb⟩;refine hK.out _ _ (ah af hb) (fun ai=>?_);replace af:=ai;clear hK K ai hb;clear X;try simp only [aT]
    revert af;revert X1;exact ka100.o
   ·go_simp;obtain ⟨CA,X1,eC,eY,hb,YA⟩:=GV X Ja 38 af (Ho _);rw [<-eY,<-eC];clear eC eY;refine hK.out _ _ (ah af hb) (fun ai=>?_);replace af:=ai;clear hK K ai hb;clear X;try simp only [aT]
    revert YA;revert af;revert CA;revert X1;exact ka010.o
   go_simp;obtain ⟨CD,X1,eC,eY,hb,YB⟩:=GV X z8 41 af (Ho _);rw [<-eY,<-eC];clear eC eY;refine hK.out _ _ (ah af hb) (fun ai=>?_);replace af:=ai;clear hK K ai hb;clear X;try simp only [aT]
   revert YB;revert af;revert CD;revert X1;exact ka001.o
  ·intro X CD af YB;refine Lc [1,10] (AllReadyH.cons rfl (fun K hK=>?_) (AllReadyH.cons rfl (fun K hK=>?_) AllReadyH.nil))
   ·go_simp;go_wp2_with fail;refine (uy c d _).mono ?_;rintro e X1 ⟨rfl,hb⟩;replace YB:=fQ (YB.o.q hb);refine hK.out _ _ (ah af hb) (fun ai=>?_);replace af:=ai;clear hK K ai hb;clear X;try simp only [aT]
    revert YB;revert af;revert CD;revert X1;exact ka101.o
   go_simp;obtain ⟨CA,X1,eC,eY,hb,YA⟩:=GV X Ja 38 af (Ho _);rw [<-eY,<-eC];have nAB:¬ CA=CD:=by have:=YB.o.1.1;omega
   replace YB:=fQ (YB.o.q hb);clear eC eY;refine hK.out _ _ (ah af hb) (fun ai=>?_);replace af:=ai;clear hK K ai hb;clear X;try simp only [aT]
   revert nAB;revert YB;revert YA;revert af;revert CD;revert CA;revert X1;exact ka011.o
  ·intro X CA af YA;refine Lc [1,11] (AllReadyH.cons rfl (fun K hK=>?_) (AllReadyH.cons rfl (fun K hK=>?_) AllReadyH.nil))
   ·go_simp;go_wp2_with fail;refine (uy c d _).mono ?_;rintro e X1 ⟨rfl,hb⟩;replace YA:=fQ (YA.o.q hb);refine hK.out _ _ (ah af hb) (fun ai=>?_);replace af:=ai;clear hK K ai hb;clear X;try simp only [aT]
    revert YA;revert af;revert CA;revert X1;exact ka110.o
   go_simp;obtain ⟨CD,X1,eC,eY,hb,YB⟩:=GV X z8 41 af (Ho _);rw [<-eY,<-eC];have nAB:¬ CA=CD:=by have:=YA.o.1.1;omega
   replace YA:=fQ (YA.o.q hb);clear eC eY;refine hK.out _ _ (ah af hb) (fun ai=>?_);replace af:=ai;clear hK K ai hb;clear X;try simp only [aT]
   exact ka011.o X1 CA CD af YA YB nAB
  ·intro X CA CD af YA YB nAB;refine Ld 1 rfl fun K hK=>?_;go_simp;go_wp2_with fail;refine (uy c d _).mono ?_;rintro e X1 ⟨rfl,hb⟩;replace YA:=fQ (YA.o.q hb);replace YB:=fQ (YB.o.q hb);refine hK.out _ _ (ah af hb) (fun ai=>?_);replace af:=ai;clear hK K ai hb;clear X;try simp only [aT]
   revert nAB;revert YB;revert YA;revert af;revert CD;revert CA;revert X1;exact ka111.o
  ·intro X af;refine Lc [3,10,11] (AllReadyH.cons rfl (fun K hK=>?_) (AllReadyH.cons rfl (fun K hK=>?_) (AllReadyH.cons rfl (fun K hK=>?_) AllReadyH.nil)))
   ·go_simp;go_wp2_with fail;refine (jV a V Z aW kW aO kO aX kX aI kI aR nR kR hS.o.1 hS.o.2 _ (dw HC.o (ah B3.o af)) (P16.iL HR.o (ah B3.o af))).mono ?_;rintro e X1 ⟨⟨dW,dO,dX,dI,dR,rfl,hO,h3,h4,-,-⟩,hb⟩;have FS:bY (Kr w2.heap.size X1 dW dO dX dI dR V nR Z):=⟨hO.low af.size,h3,h4⟩;clear hO h3 h4;refine hK.out _ _ (ah af hb) (fun ai=>?_);replace af:=ai;clear hK K ai hb;clear X;try simp only [aT]
    revert FS;revert af;revert dR;revert dI;revert dX;revert dO;revert dW;revert X1;exact ka200.o
   ·go_simp;obtain ⟨CA,X1,eC,eY,hb,YA⟩:=GV X Ja 38 af (Ho _);rw [<-eY,<-eC];clear eC eY;refine hK.out _ _ (ah af hb) (fun ai=>?_);replace af:=ai;clear hK K ai hb;clear X;try simp only [aT]
    exact ka110.o X1 CA af YA
   go_simp;obtain ⟨CD,X1,eC,eY,hb,YB⟩:=GV X z8 41 af (Ho _);rw [<-eY,<-eC];clear eC eY;refine hK.out _ _ (ah af hb) (fun ai=>?_);replace af:=ai;clear hK K ai hb;clear X;try simp only [aT]
   exact ka101.o X1 CD af YB
  ·intro X CD af YB;refine Lc [3,10] (AllReadyH.cons rfl (fun K hK=>?_) (AllReadyH.cons rfl (fun K hK=>?_) AllReadyH.nil))
   ·go_simp;go_wp2_with fail;refine (jV a V Z aW kW aO kO aX kX aI kI aR nR kR hS.o.1 hS.o.2 _ (dw HC.o (ah B3.o af)) (P16.iL HR.o (ah B3.o af))).mono ?_;rintro e X1 ⟨⟨dW,dO,dX,dI,dR,rfl,hO,h3,h4,-,-⟩,hb⟩;have FS:bY (Kr w2.heap.size X1 dW dO dX dI dR V nR Z):=⟨hO.low af.size,h3,h4⟩;clear hO h3 h4;replace YB:=fQ (YB.o.q hb);refine hK.out _ _ (ah af hb) (fun ai=>?_);replace af:=ai;clear hK K ai hb;clear X;try simp only [aT]
    revert YB;revert FS;revert af;revert CD;revert dR;revert dI;revert dX;revert dO;revert dW;revert X1;exact ka201.o
   go_simp;obtain ⟨CA,X1,eC,eY,hb,YA⟩:=GV X Ja 38 af (Ho _);rw [<-eY,<-eC];have nAB:¬ CA=CD:=by have:=YB.o.1.1;omega
   replace YB:=fQ (YB.o.q hb);clear eC eY;refine hK.out _ _ (ah af hb) (fun ai=>?_);replace af:=ai;clear hK K ai hb;clear X;try simp only [aT]
   exact ka111.o X1 CA CD af YA YB nAB
  ·intro X CA af YA;refine Lc [3,11] (AllReadyH.cons rfl (fun K hK=>?_) (AllReadyH.cons rfl (fun K hK=>?_) AllReadyH.nil))
   ·go_simp;go_wp2_with fail;refine (jV a V Z aW kW aO kO aX kX aI kI aR nR kR hS.o.1 hS.o.2 _ (dw HC.o (ah B3.o af)) (P16.iL HR.o (ah B3.o af))).mono ?_;rintro e X1 ⟨⟨dW,dO,dX,dI,dR,rfl,hO,h3,h4,-,-⟩,hb⟩;have FS:bY (Kr w2.heap.size X1 dW dO dX dI dR V nR Z):=⟨hO.low af.size,h3,h4⟩;clear hO h3 h4;replace YA:=fQ (YA.o.q hb);refine hK.out _ _ (ah af hb) (fun ai=>?_);replace af:=ai;clear hK K ai hb;clear X;try simp only [aT]
    revert YA;revert FS;revert af;revert CA;revert dR;revert dI;revert dX;revert dO;revert dW;revert X1;exact ka210.o
   go_simp;obtain ⟨CD,X1,eC,eY,hb,YB⟩:=GV X z8 41 af (Ho _);rw [<-eY,<-eC];have nAB:¬ CA=CD:=by have:=YA.o.1.1;omega
   replace YA:=fQ (YA.o.q hb);clear eC eY;refine hK.out _ _ (ah af hb) (fun ai=>?_);replace af:=ai;clear hK K ai hb;clear X;try simp only [aT]
   exact ka111.o X1 CA CD af YA YB nAB
  ·intro X CA CD af YA YB nAB;refine Ld 3 rfl fun K hK=>?_;go_simp;go_wp2_with fail;refine (jV a V Z aW kW aO kO aX kX aI kI aR nR kR hS.o.1 hS.o.2 _ (dw HC.o (ah B3.o af)) (P16.iL HR.o (ah B3.o af))).mono ?_;rintro e X1 ⟨⟨dW,dO,dX,dI,dR,rfl,hO,h3,h4,-,-⟩,hb⟩;have FS:bY (Kr w2.heap.size X1 dW dO dX dI dR V nR Z):=⟨hO.low af.size,h3,h4⟩;clear hO h3 h4;replace YA:=fQ (YA.o.q hb);replace YB:=fQ (YB.o.q hb);refine hK.out _ _ (ah af hb) (fun ai=>?_);replace af:=ai;clear hK K ai hb;clear X;try simp only [aT]
   revert nAB;revert YB;revert YA;revert FS;revert af;revert CD;revert CA;revert dR;revert dI;revert dX;revert dO;revert dW;revert X1;exact ka211.o
  ·intro X dW dO dX dI dR af FS;refine Lc [5,10,11] (AllReadyH.cons rfl (fun K hK=>?_) (AllReadyH.cons rfl (fun K hK=>?_) (AllReadyH.cons rfl (fun K hK=>?_) AllReadyH.nil)))
   ·go_simp;go_wp2_with fail;refine (Lm c d g a V _ dW dO dX dI dR nR Z hS.o.1 hS.o.2 _ FS.o.1.copy FS.o.2.1 (P16.aZ FS.o.2.2)).mono ?_;rintro e X1 ⟨⟨va,vb,rfl,hA⟩,hb⟩;rw [<-EX.o] at hA ⊢;rw [<-EQ.o];obtain ⟨l1,h1,l2,h2,gA,g1,g2⟩:=hA.f af.size;have AF:=fQ gA;clear hA gA g1 g2 FS;refine hK.out _ _ (ah af hb) (fun ai=>?_);replace af:=ai;clear hK K ai hb;clear X;try simp only [aT]
    refine Lj 6 (.tuple #[va,vb,.bool q]) rfl ?_;try simp only [aT]
    refine Lj 7 (va) rfl ?_;try simp only [aT]
    refine Lj 8 (vb) rfl ?_;try simp only [aT]
    refine Lj 9 (.bool q) rfl ?_;try simp only [aT]
    revert AF;revert af;revert h2;revert l2;revert h1;revert l1;revert vb;revert va;revert dR;revert dI;revert dX;revert dO;revert dW;revert X1;exact ka300.o
   ·go_simp;obtain ⟨CA,X1,eC,eY,hb,YA⟩:=GV X Ja 38 af (Ho _);rw [<-eY,<-eC];replace FS:=fQ (FS.o.q hb);clear eC eY;refine hK.out _ _ (ah af hb) (fun ai=>?_);replace af:=ai;clear hK K ai hb;clear X;try simp only [aT]
    exact ka210.o X1 dW dO dX dI dR CA af FS YA
   go_simp;obtain ⟨CD,X1,eC,eY,hb,YB⟩:=GV X z8 41 af (Ho _);rw [<-eY,<-eC];replace FS:=fQ (FS.o.q hb);clear eC eY;refine hK.out _ _ (ah af hb) (fun ai=>?_);replace af:=ai;clear hK K ai hb;clear X;try simp only [aT]
   exact ka201.o X1 dW dO dX dI dR CD af FS YB
  ·intro X dW dO dX dI dR CD af FS YB;refine Lc [5,10] (AllReadyH.cons rfl (fun K hK=>?_) (AllReadyH.cons rfl (fun K hK=>?_) AllReadyH.nil))
   ·go_simp;go_wp2_with fail;refine (Lm c d g a V _ dW dO dX dI dR nR Z hS.o.1 hS.o.2 _ FS.o.1.copy FS.o.2.1 (P16.aZ FS.o.2.2)).mono ?_;rintro e X1 ⟨⟨va,vb,rfl,hA⟩,hb⟩;rw [<-EX.o] at hA ⊢;rw [<-EQ.o];obtain ⟨l1,h1,l2,h2,gA,g1,g2⟩:=hA.f af.size;have AF:=fQ gA;have eB:Lh CD l1 h1 l2 h2:=⟨.inl (Hg YB.o.1.1 g1),.inl (Hg YB.o.1.1 g2)⟩;clear hA gA g1 g2 FS;replace YB:=fQ (YB.o.q hb);refine hK.out _ _ (ah af hb) (fun ai=>?_);replace af:=ai;clear hK K ai hb;clear X;try simp only [aT]
    refine Lj 6 (.tuple #[va,vb,.bool q]) rfl ?_;try simp only [aT]
    refine Lj 7 (va) rfl ?_;try simp only [aT]
    refine Lj 8 (vb) rfl ?_;try simp only [aT]
    refine Lj 9 (.bool q) rfl ?_;try simp only [aT]
    revert eB;revert YB;revert AF;revert af;revert CD;revert h2;revert l2;revert h1;revert l1;revert vb;revert va;revert dR;revert dI;revert dX;revert dO;revert dW;revert X1;exact ka301.o
   go_simp;obtain ⟨CA,X1,eC,eY,hb,YA⟩:=GV X Ja 38 af (Ho _);rw [<-eY,<-eC];have nAB:¬ CA=CD:=by have:=YB.o.1.1;omega
   replace FS:=fQ (FS.o.q hb);replace YB:=fQ (YB.o.q hb);clear eC eY;refine hK.out _ _ (ah af hb) (fun ai=>?_);replace af:=ai;clear hK K ai hb;clear X;try simp only [aT]
   exact ka211.o X1 dW dO dX dI dR CA CD af FS YA YB nAB
  ·intro X dW dO dX dI dR CA af FS YA;refine Lc [5,11] (AllReadyH.cons rfl (fun K hK=>?_) (AllReadyH.cons rfl (fun K hK=>?_) AllReadyH.nil))
   ·go_simp;go_wp2_with fail;refine (Lm c d g a V _ dW dO dX dI dR nR Z hS.o.1 hS.o.2 _ FS.o.1.copy FS.o.2.1 (P16.aZ FS.o.2.2)).mono ?_;rintro e X1 ⟨⟨va,vb,rfl,hA⟩,hb⟩;rw [<-EX.o] at hA ⊢;rw [<-EQ.o];obtain ⟨l1,h1,l2,h2,gA,g1,g2⟩:=hA.f af.size;have AF:=fQ gA;have eA:Lh CA l1 h1 l2 h2:=⟨.inl (Hg YA.o.1.1 g1),.inl (Hg YA.o.1.1 g2)⟩;clear hA gA g1 g2 FS;replace YA:=fQ (YA.o.q hb);refine hK.out _ _ (ah af hb) (fun ai=>?_);replace af:=ai;clear hK K ai hb;clear X;try simp only [aT]
    refine Lj 6 (.tuple #[va,vb,.bool q]) rfl ?_;try simp only [aT]
    refine Lj 7 (va) rfl ?_;try simp only [aT]
    refine Lj 8 (vb) rfl ?_;try simp only [aT]
    refine Lj 9 (.bool q) rfl ?_;try simp only [aT]
    revert eA;revert YA;revert AF;revert af;revert CA;revert h2;revert l2;revert h1;revert l1;revert vb;revert va;revert dR;revert dI;revert dX;revert dO;revert dW;revert X1;exact ka310.o
   go_simp;obtain ⟨CD,X1,eC,eY,hb,YB⟩:=GV X z8 41 af (Ho _);rw [<-eY,<-eC];have nAB:¬ CA=CD:=by have:=YA.o.1.1;omega
   replace FS:=fQ (FS.o.q hb);replace YA:=fQ (YA.o.q hb);clear eC eY;refine hK.out _ _ (ah af hb) (fun ai=>?_);replace af:=ai;clear hK K ai hb;clear X;try simp only [aT]
   exact ka211.o X1 dW dO dX dI dR CA CD af FS YA YB nAB
  ·intro X dW dO dX dI dR CA CD af FS YA YB nAB;refine Ld 5 rfl fun K hK=>?_;go_simp;go_wp2_with fail;refine (Lm c d g a V _ dW dO dX dI dR nR Z hS.o.1 hS.o.2 _ FS.o.1.copy FS.o.2.1 (P16.aZ FS.o.2.2)).mono ?_;rintro e X1 ⟨⟨va,vb,rfl,hA⟩,hb⟩;rw [<-EX.o] at hA ⊢;rw [<-EQ.o];obtain ⟨l1,h1,l2,h2,gA,g1,g2⟩:=hA.f af.size;have AF:=fQ gA;have eA:Lh CA l1 h1 l2 h2:=⟨.inl (Hg YA.o.1.1 g1),.inl (Hg YA.o.1.1 g2)⟩;have eB:Lh CD l1 h1 l2 h2:=⟨.inl (Hg YB.o.1.1 g1),.inl (Hg YB.o.1.1 g2)⟩;clear hA gA g1 g2 FS;replace YA:=fQ (YA.o.q hb);replace YB:=fQ (YB.o.q hb);refine hK.out _ _ (ah af hb) (fun ai=>?_);replace af:=ai;clear hK K ai hb;clear X;try simp only [aT]
   refine Lj 6 (.tuple #[va,vb,.bool q]) rfl ?_;try simp only [aT]
   refine Lj 7 (va) rfl ?_;try simp only [aT]
   refine Lj 8 (vb) rfl ?_;try simp only [aT]
   refine Lj 9 (.bool q) rfl ?_;try simp only [aT]
   revert nAB;revert eB;revert YB;revert eA;revert YA;revert AF;revert af;revert CD;revert CA;revert h2;revert l2;revert h1;revert l1;revert vb;revert va;revert dR;revert dI;revert dX;revert dO;revert dW;revert X1;exact ka311.o
  ·intro X dW dO dX dI dR va vb l1 h1 l2 h2 af AF;refine Lc [10,11] (AllReadyH.cons rfl (fun K hK=>?_) (AllReadyH.cons rfl (fun K hK=>?_) AllReadyH.nil))
   ·go_simp;obtain ⟨CA,X1,eC,eY,hb,YA⟩:=GV X Ja 38 af (Ho _);rw [<-eY,<-eC];have eA:=AF.o.new (Hl eC.symm);replace AF:=fQ (AF.o.q hb);clear eC eY;refine hK.out _ _ (ah af hb) (fun ai=>?_);replace af:=ai;clear hK K ai hb;clear X;try simp only [aT]
    exact ka310.o X1 dW dO dX dI dR va vb l1 h1 l2 h2 CA af AF YA eA
   go_simp;obtain ⟨CD,X1,eC,eY,hb,YB⟩:=GV X z8 41 af (Ho _);rw [<-eY,<-eC];have eB:=AF.o.new (Hl eC.symm);replace AF:=fQ (AF.o.q hb);clear eC eY;refine hK.out _ _ (ah af hb) (fun ai=>?_);replace af:=ai;clear hK K ai hb;clear X;try simp only [aT]
   exact ka301.o X1 dW dO dX dI dR va vb l1 h1 l2 h2 CD af AF YB eB
  ·intro X dW dO dX dI dR va vb l1 h1 l2 h2 CD af AF YB eB;refine Ld 10 rfl fun K hK=>?_;go_simp;obtain ⟨CA,X1,eC,eY,hb,YA⟩:=GV X Ja 38 af (Ho _);rw [<-eY,<-eC];have eA:=AF.o.new (Hl eC.symm);have nAB:¬ CA=CD:=by have:=YB.o.1.1;omega
   replace AF:=fQ (AF.o.q hb);replace YB:=fQ (YB.o.q hb);clear eC eY;refine hK.out _ _ (ah af hb) (fun ai=>?_);replace af:=ai;clear hK K ai hb;clear X;try simp only [aT]
   exact ka311.o X1 dW dO dX dI dR va vb l1 h1 l2 h2 CA CD af AF YA eA YB eB nAB
  ·intro X dW dO dX dI dR va vb l1 h1 l2 h2 CA af AF YA eA;refine Ld 11 rfl fun K hK=>?_;go_simp;obtain ⟨CD,X1,eC,eY,hb,YB⟩:=GV X z8 41 af (Ho _);rw [<-eY,<-eC];have eB:=AF.o.new (Hl eC.symm);have nAB:¬ CA=CD:=by have:=YA.o.1.1;omega
   replace AF:=fQ (AF.o.q hb);replace YA:=fQ (YA.o.q hb);clear eC eY;refine hK.out _ _ (ah af hb) (fun ai=>?_);replace af:=ai;clear hK K ai hb;clear X;try simp only [aT]
   exact ka311.o X1 dW dO dX dI dR va vb l1 h1 l2 h2 CA CD af AF YA eA YB eB nAB
  ·intro X dW dO dX dI dR va vb l1 h1 l2 h2 CA CD af AF YA eA YB eB nAB;refine Ld 12 rfl fun K hK=>?_;obtain ⟨a1,k1,a2,k2,a3,k3,a4,k4,rfl,-⟩:=AF.o.1;have f0:=YA.o.1.f8;have p0:=YA.o.1.a8;have hlY:=YA.o.1.1;go_simp;obtain ⟨X1,e6,hN,hz6,SP,Q6⟩:=KR [zI x.g,zI x.p,zI x.U.c,.slice a1 x.U.nW k1,zI x.U.g,.slice a2 x.U.nO k2,.slice a3 x.U.nX k3,.slice a4 x.U.nI k4] af YA.o rfl;simp only [qg] at e6;rw [<-e6];clear e6 f0 p0 hlY;replace AF:=fQ (AF.o.put eA hz6 SP);replace YB:=fQ (YB.o.put hz6 SP (fun e=>nAB e.symm));replace YA:=Q6;clear Q6 SP hz6;refine hK.out _ _ hN (fun ai=>?_);replace af:=ai;clear hK K ai hN;clear X;try simp only [aT]
   revert nAB;revert eB;revert YB;revert eA;revert YA;revert AF;revert af;revert CD;revert CA;revert h2;revert l2;revert h1;revert l1;revert vb;revert k4;revert k3;revert k2;revert k1;revert a4;revert a3;revert a2;revert a1;revert dR;revert dI;revert dX;revert dO;revert dW;revert X1;exact ka411.o
  intro X dW dO dX dI dR a1 a2 a3 a4 k1 k2 k3 k4 vb l1 h1 l2 h2 CA CD af AF YA eA YB eB nAB;refine Ld 13 rfl fun K hK=>?_;obtain ⟨s1,i1,s2,i2,s3,i3,s4,i4,s5,i5,_,_,_,rfl,_⟩:=AF.o.2.1;have f0:=YB.o.1.f8;have p0:=YB.o.1.a8;have hlY:=YB.o.1.1;go_simp;obtain ⟨X1,e6,hN,hz6,SP,Q6⟩:=KR [zI x.a,zI x.V.c,.slice s1 x.V.nW i1,zI x.V.g,.slice s2 x.V.nO i2,.slice s3 x.V.nX i3,.slice s4 x.V.nI i4,.slice s5 x.n i5] af YB.o rfl;simp only [qg] at e6;rw [<-e6];clear e6 f0 p0 hlY;have A6:=AF.o.put eB hz6 SP;have Y6:=YA.o.put hz6 SP nAB;clear AF YA;refine hK.out _ _ hN (fun ai=>?_);try simp only [aT]
  refine Lj 14 (.bool q) rfl ?_;try simp only [aT]
  refine Hy (by as_aux_lemma=>kernel_rfl) ?_ _;go_wp2;go_meet
  case rel=>exact ⟨CA,CD,l1,h1,l2,h2,a1,k1,a2,k2,a3,k3,a4,k4,s1,i1,s2,i2,s3,i3,s4,i4,s5,i5,rfl,rfl,rfl,Y6,Q6,A6,eA,eB,nAB,hN⟩
 case rest=>
  clear m0 m1 hlM;clear y0 hlS;obtain ⟨w3,hwn⟩:∃ wn,wn=wc:=⟨_,rfl⟩;subst hwn;obtain ⟨C1,C2,L1,J1,L2,J2,Pa1,Pk1,Pa2,Pk2,Pa3,Pk3,Pa4,Pk4,Ps1,Pi1,Ps2,Pi2,Ps3,Pi3,Ps4,Pi4,Ps5,Pi5,rfl,rfl,rfl,⟨hG1,c1⟩,⟨hG2,c3⟩,⟨hO1,hO2,c5,c6,c7,c8,c9,c10,c11⟩,⟨c12,c13⟩,⟨c14,c15⟩,c16,hb⟩:=hcut;have c2:=hG1.1;have c4:=hG2.1;have hz2:w.heap.size+2<=w2.heap.size:=by omega
  have kz1:=hb.size;have B_1:=fQ (ah B3.o hb);have M_1:=fQ (M3.o.q hb);have S_1:=fQ (S3.o.q hb);clear B3 M3 S3;clear hb;have G10:=fQ hG1;clear hG1;have G20:=fQ hG2;clear hG2;have O10:=fQ hO1;clear hO1;have O20:=fQ hO2;clear hO2;have y0:=S_1.o.a8;have hlS:w.heap.size+1<w3.heap.size:=S_1.o.1;go_wp2_with fail;clear y0 hlS;refine (jV a V Z aW kW aO kO aX kX aI kI aR nR kR hS.o.1 hS.o.2 _ (dw HC.o B_1.o) (P16.iL HR.o B_1.o)).mono ?_;rintro e w6 ⟨⟨oW,oO,oX,oI,oR,rfl,hC,hoR,hOR,hOW,hlo⟩,hb⟩;have kz2:=hb.size;have B_2:=fQ (ah B_1.o hb);have M_2:=fQ (M_1.o.q hb);have S_2:=fQ (S_1.o.q hb);have G1_2:=fQ (G10.o.q hb);have G2_2:=fQ (G20.o.q hb);have O1_2:=fQ (O10.o.q hb);have O2_2:=fQ (O20.o.q hb);clear B_1 M_1 S_1 G10 G20 O10 O20;have CP0:=fQ hC;have OR0:=fQ hOR;have X20:bY (Ih w3.heap.size w6.heap.size w6 (.agg [zI a,zI V.c,zS oW V.nW V.nW,zI V.g,zS oO V.nO V.nO,zS oX V.nX V.nX,zS oI V.nI V.nI,zS oR nR nR].toArray) a V nR Z):=JB hOW hlo hoR hOR;clear hb hC hOR hOW;go_upto_region 7 with fail;obtain ⟨w7,en,hb,hX,hz7⟩:=bx1 w6 [zI a,zI V.c,zS oW V.nW V.nW,zI V.g,zS oO V.nO V.nO,zS oX V.nX V.nX,zS oI V.nI V.nI,zS oR nR nR] 41;rw [<-en];clear en;obtain ⟨bb,ebb⟩:∃ z,z=w6.heap.size:=⟨_,rfl⟩;rw [<-ebb] at hX ⊢;have bb1:=Hl ebb;have bb2:=Hl ebb.symm;clear ebb;have kz3:=hb.size;have B_3:=fQ (ah B_2.o hb);have M_3:=fQ (M_2.o.q hb);have S_3:=fQ (S_2.o.q hb);have G1_3:=fQ (G1_2.o.q hb);have G2_3:=fQ (G2_2.o.q hb);have O1_3:=fQ (O1_2.o.q hb);have O2_3:=fQ (O2_2.o.q hb);have CP_3:=fQ (CP0.o.q hb);have OR_3:=fQ (P16.own_below OR0.o (by omega) hb);have X2_3:=fQ (X20.o.q hb);clear B_2 M_2 S_2 G1_2 G2_2 O1_2 O2_2 CP0 OR0 X20;have xb1:w6.heap.size<w7.heap.size:=by omega
  have XB0:=fQ hX;clear hb hX;have hoR7:oR<w7.heap.size:=by omega
  obtain ⟨m0,m1⟩:=M_3.o.a2;have hlM:w.heap.size<w7.heap.size:=M_3.o.1;have y0:=XB0.o.a8;have hlB:bb<w7.heap.size:=XB0.o.1;go_cut [12,13,14] (fun sa sb sc wx=>Rl w7 wx x q sa sb sc)
  case first=>
   refine Hu (S:=fun w'=>Below (w7.heap.size) w7 w') (by as_aux_lemma=>kernel_rfl) ((Hr _ _).drew) ?_;intro af;obtain ⟨X,hX⟩:∃ X,X=w7.drew:=⟨_,rfl⟩;rw [<-hX] at af ⊢;clear hX;refine Lj 0 (.agg #[zI c,zI d]) rfl ?_;try simp only [aT]
   refine Lj 2 (.agg [zI a,zI V.c,zS oW V.nW V.nW,zI V.g,zS oO V.nO V.nO,zS oX V.nX V.nX,zS oI V.nI V.nI,zS oR nR nR].toArray) rfl ?_;try simp only [aT]
   refine Lj 3 (zI g) rfl ?_;try simp only [aT]
   revert af;revert X;apply share;case' main=>intro kb311
   apply share;case' main=>intro kb211
   apply share;case' main=>intro kb210
   apply share;case' main=>intro kb201
   apply share;case' main=>intro kb200
   apply share;case' main=>intro kb111
   apply share;case' main=>intro kb110
   apply share;case' main=>intro kb101
   apply share;case' main=>intro kb100
   apply share;case' main=>intro kb011
   apply share;case' main=>intro kb010
   apply share;case' main=>intro kb001
   ·intro X af;refine Lc [1,9,10] (AllReadyH.cons rfl (fun K hK=>?_) (AllReadyH.cons rfl (fun K hK=>?_) (AllReadyH.cons rfl (fun K hK=>?_) AllReadyH.nil)))
    ·go_simp;go_wp2_with fail;refine (uy c d _).mono ?_;rintro e X1 ⟨rfl,hb⟩;refine hK.out _ _ (ah af hb) (fun ai=>?_);replace af:=ai;clear hK K ai hb;clear X;try simp only [aT]
     revert af;revert X1;exact kb100.o
    ·go_simp;obtain ⟨CA,X1,eC,eY,hb,YA⟩:=GV X Ja 38 af (Ho _);rw [<-eY,<-eC];clear eC eY;refine hK.out _ _ (ah af hb) (fun ai=>?_);replace af:=ai;clear hK K ai hb;clear X;try simp only [aT]
     revert YA;revert af;revert CA;revert X1;exact kb010.o
    go_simp;obtain ⟨CD,X1,eC,eY,hb,YB⟩:=GV X z8 41 af (Ho _);rw [<-eY,<-eC];clear eC eY;refine hK.out _ _ (ah af hb) (fun ai=>?_);replace af:=ai;clear hK K ai hb;clear X;try simp only [aT]
    revert YB;revert af;revert CD;revert X1;exact kb001.o
   ·intro X CD af YB;refine Lc [1,9] (AllReadyH.cons rfl (fun K hK=>?_) (AllReadyH.cons rfl (fun K hK=>?_) AllReadyH.nil))
    ·go_simp;go_wp2_with fail;refine (uy c d _).mono ?_;rintro e X1 ⟨rfl,hb⟩;replace YB:=fQ (YB.o.q hb);refine hK.out _ _ (ah af hb) (fun ai=>?_);replace af:=ai;clear hK K ai hb;clear X;try simp only [aT]
     revert YB;revert af;revert CD;revert X1;exact kb101.o
    go_simp;obtain ⟨CA,X1,eC,eY,hb,YA⟩:=GV X Ja 38 af (Ho _);rw [<-eY,<-eC];have nAB:¬ CA=CD:=by have:=YB.o.1.1;omega
    replace YB:=fQ (YB.o.q hb);clear eC eY;refine hK.out _ _ (ah af hb) (fun ai=>?_);replace af:=ai;clear hK K ai hb;clear X;try simp only [aT]
    revert nAB;revert YB;revert YA;revert af;revert CD;revert CA;revert X1;exact kb011.o
   ·intro X CA af YA;refine Lc [1,10] (AllReadyH.cons rfl (fun K hK=>?_) (AllReadyH.cons rfl (fun K hK=>?_) AllReadyH.nil))
    ·go_simp;go_wp2_with fail;refine (uy c d _).mono ?_;rintro e X1 ⟨rfl,hb⟩;replace YA:=fQ (YA.o.q hb);refine hK.out _ _ (ah af hb) (fun ai=>?_);replace af:=ai;clear hK K ai hb;clear X;try simp only [aT]
     revert YA;revert af;revert CA;revert X1;exact kb110.o
    go_simp;obtain ⟨CD,X1,eC,eY,hb,YB⟩:=GV X z8 41 af (Ho _);rw [<-eY,<-eC];have nAB:¬ CA=CD:=by have:=YA.o.1.1;omega
    replace YA:=fQ (YA.o.q hb);clear eC eY;refine hK.out _ _ (ah af hb) (fun ai=>?_);replace af:=ai;clear hK K ai hb;clear X;try simp only [aT]
    exact kb011.o X1 CA CD af YA YB nAB
   ·intro X CA CD af YA YB nAB;refine Ld 1 rfl fun K hK=>?_;go_simp;go_wp2_with fail;refine (uy c d _).mono ?_;rintro e X1 ⟨rfl,hb⟩;replace YA:=fQ (YA.o.q hb);replace YB:=fQ (YB.o.q hb);refine hK.out _ _ (ah af hb) (fun ai=>?_);replace af:=ai;clear hK K ai hb;clear X;try simp only [aT]
    revert nAB;revert YB;revert YA;revert af;revert CD;revert CA;revert X1;exact kb111.o
   ·intro X af;refine Lc [4,9,10] (AllReadyH.cons rfl (fun K hK=>?_) (AllReadyH.cons rfl (fun K hK=>?_) (AllReadyH.cons rfl (fun K hK=>?_) AllReadyH.nil)))
    ·go_simp;go_wp2_with fail;refine (KP c d g a V _ oW oO oX oI oR nR Z hS.o.1 hS.o.2 hwf.o hwR.o _ (((ah B_3.o af).cell (p:=(zA 0 0)) hpos).trans hg0.o) (CP_3.o.q af).copy (Hg hoR7 af.size) (P16.aZ (P16.own_below OR_3.o hoR7 af))).mono ?_;rintro e X1 ⟨⟨va,vb,rfl,hA⟩,hb⟩;rw [<-EX.o] at hA ⊢;rw [<-EQ.o];obtain ⟨l1,h1,l2,h2,gA,g1,g2⟩:=hA.f af.size;have AF:=fQ gA;clear hA gA g1 g2;refine hK.out _ _ (ah af hb) (fun ai=>?_);replace af:=ai;clear hK K ai hb;clear X;try simp only [aT]
     refine Lj 5 (.tuple #[va,vb,.bool q]) rfl ?_;try simp only [aT]
     refine Lj 6 (va) rfl ?_;try simp only [aT]
     refine Lj 7 (vb) rfl ?_;try simp only [aT]
     refine Lj 8 (.bool q) rfl ?_;try simp only [aT]
     revert AF;revert af;revert h2;revert l2;revert h1;revert l1;revert vb;revert va;revert X1;exact kb200.o
    ·go_simp;obtain ⟨CA,X1,eC,eY,hb,YA⟩:=GV X Ja 38 af (Ho _);rw [<-eY,<-eC];clear eC eY;refine hK.out _ _ (ah af hb) (fun ai=>?_);replace af:=ai;clear hK K ai hb;clear X;try simp only [aT]
     exact kb110.o X1 CA af YA
    go_simp;obtain ⟨CD,X1,eC,eY,hb,YB⟩:=GV X z8 41 af (Ho _);rw [<-eY,<-eC];clear eC eY;refine hK.out _ _ (ah af hb) (fun ai=>?_);replace af:=ai;clear hK K ai hb;clear X;try simp only [aT]
    exact kb101.o X1 CD af YB
   ·intro X CD af YB;refine Lc [4,9] (AllReadyH.cons rfl (fun K hK=>?_) (AllReadyH.cons rfl (fun K hK=>?_) AllReadyH.nil))
    ·go_simp;go_wp2_with fail;refine (KP c d g a V _ oW oO oX oI oR nR Z hS.o.1 hS.o.2 hwf.o hwR.o _ (((ah B_3.o af).cell (p:=(zA 0 0)) hpos).trans hg0.o) (CP_3.o.q af).copy (Hg hoR7 af.size) (P16.aZ (P16.own_below OR_3.o hoR7 af))).mono ?_;rintro e X1 ⟨⟨va,vb,rfl,hA⟩,hb⟩;rw [<-EX.o] at hA ⊢;rw [<-EQ.o];obtain ⟨l1,h1,l2,h2,gA,g1,g2⟩:=hA.f af.size;have AF:=fQ gA;have eB:Lh CD l1 h1 l2 h2:=⟨.inl (Hg YB.o.1.1 g1),.inl (Hg YB.o.1.1 g2)⟩;clear hA gA g1 g2;replace YB:=fQ (YB.o.q hb);refine hK.out _ _ (ah af hb) (fun ai=>?_);replace af:=ai;clear hK K ai hb;clear X;try simp only [aT]
     refine Lj 5 (.tuple #[va,vb,.bool q]) rfl ?_;try simp only [aT]
     refine Lj 6 (va) rfl ?_;try simp only [aT]
     refine Lj 7 (vb) rfl ?_;try simp only [aT]
     refine Lj 8 (.bool q) rfl ?_;try simp only [aT]
     revert eB;revert YB;revert AF;revert af;revert CD;revert h2;revert l2;revert h1;revert l1;revert vb;revert va;revert X1;exact kb201.o
    go_simp;obtain ⟨CA,X1,eC,eY,hb,YA⟩:=GV X Ja 38 af (Ho _);rw [<-eY,<-eC];have nAB:¬ CA=CD:=by have:=YB.o.1.1;omega
    replace YB:=fQ (YB.o.q hb);clear eC eY;refine hK.out _ _ (ah af hb) (fun ai=>?_);replace af:=ai;clear hK K ai hb;clear X;try simp only [aT]
    exact kb111.o X1 CA CD af YA YB nAB
   ·intro X CA af YA;refine Lc [4,10] (AllReadyH.cons rfl (fun K hK=>?_) (AllReadyH.cons rfl (fun K hK=>?_) AllReadyH.nil))
    ·go_simp;go_wp2_with fail;refine (KP c d g a V _ oW oO oX oI oR nR Z hS.o.1 hS.o.2 hwf.o hwR.o _ (((ah B_3.o af).cell (p:=(zA 0 0)) hpos).trans hg0.o) (CP_3.o.q af).copy (Hg hoR7 af.size) (P16.aZ (P16.own_below OR_3.o hoR7 af))).mono ?_;rintro e X1 ⟨⟨va,vb,rfl,hA⟩,hb⟩;rw [<-EX.o] at hA ⊢;rw [<-EQ.o];obtain ⟨l1,h1,l2,h2,gA,g1,g2⟩:=hA.f af.size;have AF:=fQ gA;have eA:Lh CA l1 h1 l2 h2:=⟨.inl (Hg YA.o.1.1 g1),.inl (Hg YA.o.1.1 g2)⟩;clear hA gA g1 g2;replace YA:=fQ (YA.o.q hb);refine hK.out _ _ (ah af hb) (fun ai=>?_);replace af:=ai;clear hK K ai hb;clear X;try simp only [aT]
     refine Lj 5 (.tuple #[va,vb,.bool q]) rfl ?_;try simp only [aT]
     refine Lj 6 (va) rfl ?_;try simp only [aT]
     refine Lj 7 (vb) rfl ?_;try simp only [aT]
     refine Lj 8 (.bool q) rfl ?_;try simp only [aT]
     revert eA;revert YA;revert AF;revert af;revert CA;revert h2;revert l2;revert h1;revert l1;revert vb;revert va;revert X1;exact kb210.o
    go_simp;obtain ⟨CD,X1,eC,eY,hb,YB⟩:=GV X z8 41 af (Ho _);rw [<-eY,<-eC];have nAB:¬ CA=CD:=by have:=YA.o.1.1;omega
    replace YA:=fQ (YA.o.q hb);clear eC eY;refine hK.out _ _ (ah af hb) (fun ai=>?_);replace af:=ai;clear hK K ai hb;clear X;try simp only [aT]
    exact kb111.o X1 CA CD af YA YB nAB
   ·intro X CA CD af YA YB nAB;refine Ld 4 rfl fun K hK=>?_;go_simp;go_wp2_with fail;refine (KP c d g a V _ oW oO oX oI oR nR Z hS.o.1 hS.o.2 hwf.o hwR.o _ (((ah B_3.o af).cell (p:=(zA 0 0)) hpos).trans hg0.o) (CP_3.o.q af).copy (Hg hoR7 af.size) (P16.aZ (P16.own_below OR_3.o hoR7 af))).mono ?_;rintro e X1 ⟨⟨va,vb,rfl,hA⟩,hb⟩;rw [<-EX.o] at hA ⊢;rw [<-EQ.o];obtain ⟨l1,h1,l2,h2,gA,g1,g2⟩:=hA.f af.size;have AF:=fQ gA;have eA:Lh CA l1 h1 l2 h2:=⟨.inl (Hg YA.o.1.1 g1),.inl (Hg YA.o.1.1 g2)⟩;have eB:Lh CD l1 h1 l2 h2:=⟨.inl (Hg YB.o.1.1 g1),.inl (Hg YB.o.1.1 g2)⟩;clear hA gA g1 g2;replace YA:=fQ (YA.o.q hb);replace YB:=fQ (YB.o.q hb);refine hK.out _ _ (ah af hb) (fun ai=>?_);replace af:=ai;clear hK K ai hb;clear X;try simp only [aT]
    refine Lj 5 (.tuple #[va,vb,.bool q]) rfl ?_;try simp only [aT]
    refine Lj 6 (va) rfl ?_;try simp only [aT]
    refine Lj 7 (vb) rfl ?_;try simp only [aT]
    refine Lj 8 (.bool q) rfl ?_;try simp only [aT]
    revert nAB;revert eB;revert YB;revert eA;revert YA;revert AF;revert af;revert CD;revert CA;revert h2;revert l2;revert h1;revert l1;revert vb;revert va;revert X1;exact kb211.o
   ·intro X va vb l1 h1 l2 h2 af AF;refine Lc [9,10] (AllReadyH.cons rfl (fun K hK=>?_) (AllReadyH.cons rfl (fun K hK=>?_) AllReadyH.nil))
    ·go_simp;obtain ⟨CA,X1,eC,eY,hb,YA⟩:=GV X Ja 38 af (Ho _);rw [<-eY,<-eC];have eA:=AF.o.new (Hl eC.symm);replace AF:=fQ (AF.o.q hb);clear eC eY;refine hK.out _ _ (ah af hb) (fun ai=>?_);replace af:=ai;clear hK K ai hb;clear X;try simp only [aT]
     exact kb210.o X1 va vb l1 h1 l2 h2 CA af AF YA eA
    go_simp;obtain ⟨CD,X1,eC,eY,hb,YB⟩:=GV X z8 41 af (Ho _);rw [<-eY,<-eC];have eB:=AF.o.new (Hl eC.symm);replace AF:=fQ (AF.o.q hb);clear eC eY;refine hK.out _ _ (ah af hb) (fun ai=>?_);replace af:=ai;clear hK K ai hb;clear X;try simp only [aT]
    exact kb201.o X1 va vb l1 h1 l2 h2 CD af AF YB eB
   ·intro X va vb l1 h1 l2 h2 CD af AF YB eB;refine Ld 9 rfl fun K hK=>?_;go_simp;obtain ⟨CA,X1,eC,eY,hb,YA⟩:=GV X Ja 38 af (Ho _);rw [<-eY,<-eC];have eA:=AF.o.new (Hl eC.symm);have nAB:¬ CA=CD:=by have:=YB.o.1.1;omega
    replace AF:=fQ (AF.o.q hb);replace YB:=fQ (YB.o.q hb);clear eC eY;refine hK.out _ _ (ah af hb) (fun ai=>?_);replace af:=ai;clear hK K ai hb;clear X;try simp only [aT]
    exact kb211.o X1 va vb l1 h1 l2 h2 CA CD af AF YA eA YB eB nAB
   ·intro X va vb l1 h1 l2 h2 CA af AF YA eA;refine Ld 10 rfl fun K hK=>?_;go_simp;obtain ⟨CD,X1,eC,eY,hb,YB⟩:=GV X z8 41 af (Ho _);rw [<-eY,<-eC];have eB:=AF.o.new (Hl eC.symm);have nAB:¬ CA=CD:=by have:=YA.o.1.1;omega
    replace AF:=fQ (AF.o.q hb);replace YA:=fQ (YA.o.q hb);clear eC eY;refine hK.out _ _ (ah af hb) (fun ai=>?_);replace af:=ai;clear hK K ai hb;clear X;try simp only [aT]
    exact kb211.o X1 va vb l1 h1 l2 h2 CA CD af AF YA eA YB eB nAB
   ·intro X va vb l1 h1 l2 h2 CA CD af AF YA eA YB eB nAB;refine Ld 11 rfl fun K hK=>?_;obtain ⟨a1,k1,a2,k2,a3,k3,a4,k4,rfl,-⟩:=AF.o.1;have f0:=YA.o.1.f8;have p0:=YA.o.1.a8;have hlY:=YA.o.1.1;go_simp;obtain ⟨X1,e6,hN,hz6,SP,Q6⟩:=KR [zI x.g,zI x.p,zI x.U.c,.slice a1 x.U.nW k1,zI x.U.g,.slice a2 x.U.nO k2,.slice a3 x.U.nX k3,.slice a4 x.U.nI k4] af YA.o rfl;simp only [qg] at e6;rw [<-e6];clear e6 f0 p0 hlY;replace AF:=fQ (AF.o.put eA hz6 SP);replace YB:=fQ (YB.o.put hz6 SP (fun e=>nAB e.symm));replace YA:=Q6;clear Q6 SP hz6;refine hK.out _ _ hN (fun ai=>?_);replace af:=ai;clear hK K ai hN;clear X;try simp only [aT]
    revert nAB;revert eB;revert YB;revert eA;revert YA;revert AF;revert af;revert CD;revert CA;revert h2;revert l2;revert h1;revert l1;revert vb;revert k4;revert k3;revert k2;revert k1;revert a4;revert a3;revert a2;revert a1;revert X1;exact kb311.o
   intro X a1 a2 a3 a4 k1 k2 k3 k4 vb l1 h1 l2 h2 CA CD af AF YA eA YB eB nAB;refine Ld 12 rfl fun K hK=>?_;obtain ⟨s1,i1,s2,i2,s3,i3,s4,i4,s5,i5,_,_,_,rfl,_⟩:=AF.o.2.1;have f0:=YB.o.1.f8;have p0:=YB.o.1.a8;have hlY:=YB.o.1.1;go_simp;obtain ⟨X1,e6,hN,hz6,SP,Q6⟩:=KR [zI x.a,zI x.V.c,.slice s1 x.V.nW i1,zI x.V.g,.slice s2 x.V.nO i2,.slice s3 x.V.nX i3,.slice s4 x.V.nI i4,.slice s5 x.n i5] af YB.o rfl;simp only [qg] at e6;rw [<-e6];clear e6 f0 p0 hlY;have A6:=AF.o.put eB hz6 SP;have Y6:=YA.o.put hz6 SP nAB;clear AF YA;refine hK.out _ _ hN (fun ai=>?_);try simp only [aT]
   refine Lj 13 (.bool q) rfl ?_;try simp only [aT]
   refine Hy (by as_aux_lemma=>kernel_rfl) ?_ _;go_wp2;go_meet
   case rel=>exact ⟨CA,CD,l1,h1,l2,h2,a1,k1,a2,k2,a3,k3,a4,k4,s1,i1,s2,i2,s3,i3,s4,i4,s5,i5,rfl,rfl,rfl,Y6,Q6,A6,eA,eB,nAB,hN⟩
  case rest=>
   clear m0 m1 hlM;clear y0 hlB;obtain ⟨w8,hwn⟩:∃ wn,wn=wc:=⟨_,rfl⟩;subst hwn;obtain ⟨D1,D2,L3,J3,L4,J4,Qa1,Qk1,Qa2,Qk2,Qa3,Qk3,Qa4,Qk4,Qs1,Qi1,Qs2,Qi2,Qs3,Qi3,Qs4,Qi4,Qs5,Qi5,rfl,rfl,rfl,⟨hG1,d1⟩,⟨hG2,d3⟩,⟨hO1,hO2,d5,d6,d7,d8,d9,d10,d11⟩,⟨d12,d13⟩,⟨d14,d15⟩,d16,hb⟩:=hcut;have d2:=hG1.1;have d4:=hG2.1;have kz4:=hb.size;have B_4:=fQ (ah B_3.o hb);have M_4:=fQ (M_3.o.q hb);have S_4:=fQ (S_3.o.q hb);have G1_4:=fQ (G1_3.o.q hb);have G2_4:=fQ (G2_3.o.q hb);have O1_4:=fQ (O1_3.o.q hb);have O2_4:=fQ (O2_3.o.q hb);have X2_4:=fQ (X2_3.o.q hb);have XB_4:=fQ (XB0.o.q hb);clear B_3 M_3 S_3 G1_3 G2_3 O1_3 O2_3 CP_3 OR_3 X2_3 XB0;clear hb hoR hoR7;have F10:=fQ hG1;clear hG1;have F20:=fQ hG2;clear hG2;have P10:=fQ hO1;clear hO1;have P20:=fQ hO2;clear hO2;have x0:=F10.o.a8;have hl1:D1<w8.heap.size:=F10.o.1;have y0:=G1_4.o.a8;have hl2:C1<w8.heap.size:=G1_4.o.1;go_wp2_with fail;clear x0 hl1;clear y0 hl2;refine (Jy x.g x.p x.U _ _ L3 J3 L1 J1 (lZ HF.o.1.1) _ P10.o O1_4.o).mono ?_;rintro e w9 ⟨rfl,hb⟩;have kz5:=hb.size;have B_5:=fQ (ah B_4.o hb);have M_5:=fQ (M_4.o.q hb);have S_5:=fQ (S_4.o.q hb);have G1_5:=fQ (G1_4.o.q hb);have G2_5:=fQ (G2_4.o.q hb);have O1_5:=fQ (O1_4.o.q hb);have O2_5:=fQ (O2_4.o.q hb);have X2_5:=fQ (X2_4.o.q hb);have XB_5:=fQ (XB_4.o.q hb);have F1_5:=fQ (F10.o.q hb);have F2_5:=fQ (F20.o.q hb);have P1_5:=fQ (P10.o.q hb);have P2_5:=fQ (P20.o.q hb);clear B_4 M_4 S_4 G1_4 G2_4 O1_4 O2_4 X2_4 XB_4 F10 F20 P10 P20;clear hb;have x0:=F2_5.o.a8;have hl1:D2<w9.heap.size:=F2_5.o.1;have y0:=G2_5.o.a8;have hl2:C2<w9.heap.size:=G2_5.o.1;go_wp2_with fail;clear x0 hl1;clear y0 hl2;refine (IC x.a x.V x.n x.Z _ _ L4 J4 L2 J2 (lZ HF.o.2.1.1) (by have:=HF.o.2.2;omega) _ P2_5.o O2_5.o).mono ?_;rintro e w10 ⟨rfl,hb⟩;have kz6:=hb.size;have B_6:=fQ (ah B_5.o hb);have M_6:=fQ (M_5.o.q hb);have S_6:=fQ (S_5.o.q hb);have G1_6:=fQ (G1_5.o.q hb);have G2_6:=fQ (G2_5.o.q hb);have O1_6:=fQ (O1_5.o.q hb);have O2_6:=fQ (O2_5.o.q hb);have X2_6:=fQ (X2_5.o.q hb);have XB_6:=fQ (XB_5.o.q hb);have F1_6:=fQ (F1_5.o.q hb);have F2_6:=fQ (F2_5.o.q hb);have P1_6:=fQ (P1_5.o.q hb);have P2_6:=fQ (P2_5.o.q hb);clear B_5 M_5 S_5 G1_5 G2_5 O1_5 O2_5 X2_5 XB_5 F1_5 F2_5 P1_5 P2_5;clear hb;have x0:=XB_6.o.a8;have hlA:bb<w10.heap.size:=XB_6.o.1;have y0:=S_6.o.a8;have hlB:w.heap.size+1<w10.heap.size:=S_6.o.1;go_upto_region 10 with fail;refine Hu (S:=fun w'=>Below (w10.heap.size) w10 w') (by as_aux_lemma=>kernel_rfl) ((Hr _ _).drew) ?_;intro af;obtain ⟨X0,hX0⟩:∃ X,X=w10.drew:=⟨_,rfl⟩;have hz6:w10.heap.size<=X0.heap.size:=by rw [hX0];exact Ho _
   rw [<-hX0] at af ⊢;clear hX0;refine Lj 0 (.agg [zI a,zI V.c,zS oW V.nW V.nW,zI V.g,zS oO V.nO V.nO,zS oX V.nX V.nX,zS oI V.nI V.nI,zS oR nR nR].toArray) rfl ?_;try simp only [aT]
   refine Lj 1 (Am a (zD V aW kW aO kO aX kX aI kI) (.slice aR nR kR)) rfl ?_;try simp only [aT]
   refine di 2 rfl fun K hK=>?_;go_simp;go_wp2_with fail;refine (jV a V Z aW kW aO kO aX kX aI kI aR nR kR hS.o.1 hS.o.2 _ (dw HC.o (ah B_6.o af)) (P16.iL HR.o (ah B_6.o af))).mono ?_;rintro e Z1 ⟨⟨eW,eO,eX,eI,eR,rfl,hC,heR,hOR,hOW,hlo⟩,hb⟩;have CE:bY (Ih X0.heap.size Z1.heap.size Z1 (.agg [zI a,zI V.c,zS eW V.nW V.nW,zI V.g,zS eO V.nO V.nO,zS eX V.nX V.nX,zS eI V.nI V.nI,zS eR nR nR].toArray) a V nR Z):=JB hOW hlo heR hOR;clear hC heR hOR hOW hlo;have ku1:=hb.size;refine hK.out _ _ (bJ af (by omega) hb) (fun ai=>?_);clear hK K af;have af:=ai;clear ai;try simp only [aT]
   clear hb;refine di 3 rfl fun K hK=>?_;go_simp;go_wp2_with fail;refine (IC a V nR Z _ _ w3.heap.size w6.heap.size X0.heap.size _ (lZ hS.o.1) (by have:=hS.o.2;omega) _ (X2_6.o.q af) CE.o).mono ?_;rintro e w11 ⟨rfl,hb⟩;have ku2:=hb.size;refine hK.out _ _ (bJ af (by omega) hb) (fun ai=>?_);clear hK K af;have af:=ai;clear ai;try simp only [aT]
   clear hb CE;refine Lj 4 (.bool false) rfl ?_;try simp only [aT]
   refine Hy (by as_aux_lemma=>kernel_rfl) ?_ _;clear x0 hlA;clear y0 hlB;have kz7:=af.size;have B_7:=fQ (ah B_6.o af);have M_7:=fQ (M_6.o.q af);have S_7:=fQ (S_6.o.q af);have G1_7:=fQ (G1_6.o.q af);have G2_7:=fQ (G2_6.o.q af);have O1_7:=fQ (O1_6.o.q af);have O2_7:=fQ (O2_6.o.q af);have X2_7:=fQ (X2_6.o.q af);have XB_7:=fQ (XB_6.o.q af);have F1_7:=fQ (F1_6.o.q af);have F2_7:=fQ (F2_6.o.q af);have P1_7:=fQ (P1_6.o.q af);have P2_7:=fQ (P2_6.o.q af);clear B_6 M_6 S_6 G1_6 G2_6 O1_6 O2_6 X2_6 XB_6 F1_6 F2_6 P1_6 P2_6;clear af;have x0:=XB_7.o.a8;have hlA:bb<w11.heap.size:=XB_7.o.1;go_wp2_with fail;clear x0 hlA;refine (IG a V nR Z _ w3.heap.size w6.heap.size HV.o hS.o.2 _ X2_7.o).mono ?_;rintro e w12 ⟨rfl,_,kzm,hsm,hbm⟩;have kz8:=kzm;have B_8:bY (Below w.heap.size w w12):=B_7.o.trans (hbm.mono (by omega));have M_8:=fQ (M_7.o.sm kzm (hsm _ (by omega) (by omega)));have S_8:=fQ (S_7.o.sm kzm (hsm _ (by omega) (by omega)));have G1_8:=fQ (G1_7.o.sm kzm (hsm _ (by omega) (by omega)));have G2_8:=fQ (G2_7.o.sm kzm (hsm _ (by omega) (by omega)));have O1_8:=fQ (O1_7.o.sm kzm (fun b q1 q2=>hsm b (by omega) (by omega)));have O2_8:=fQ (O2_7.o.sm kzm (fun b q1 q2=>hsm b (by omega) (by omega)));have F1_8:=fQ (F1_7.o.sm kzm (hsm _ (by omega) (by omega)));have F2_8:=fQ (F2_7.o.sm kzm (hsm _ (by omega) (by omega)));have P1_8:=fQ (P1_7.o.sm kzm (fun b q1 q2=>hsm b (by omega) (by omega)));have P2_8:=fQ (P2_7.o.sm kzm (fun b q1 q2=>hsm b (by omega) (by omega)));clear B_7 M_7 S_7 G1_7 G2_7 O1_7 O2_7 X2_7 XB_7 F1_7 F2_7 P1_7 P2_7;clear kzm hsm hbm;obtain ⟨zm,ezm⟩:∃ z:Nat,z=V.s4+nR * 16:=⟨_,rfl⟩;rw [<-ezm];have hzm:¬ ((zm:Nat):Int)<0:=by omega
   clear ezm;have x0:=F1_8.o.a8;have hl1:D1<w12.heap.size:=F1_8.o.1;have y0:=G1_8.o.a8;have hl2:C1<w12.heap.size:=G1_8.o.1;go_wp2_with fail;clear x0 hl1;clear y0 hl2;refine (Jy x.g x.p x.U _ _ L3 J3 L1 J1 (lZ HF.o.1.1) _ P1_8.o O1_8.o).mono ?_;rintro e w13 ⟨rfl,hb⟩;have kz9:=hb.size;have B_9:=fQ (ah B_8.o hb);have M_9:=fQ (M_8.o.q hb);have S_9:=fQ (S_8.o.q hb);have G1_9:=fQ (G1_8.o.q hb);have G2_9:=fQ (G2_8.o.q hb);have O1_9:=fQ (O1_8.o.q hb);have O2_9:=fQ (O2_8.o.q hb);have F1_9:=fQ (F1_8.o.q hb);have F2_9:=fQ (F2_8.o.q hb);have P1_9:=fQ (P1_8.o.q hb);have P2_9:=fQ (P2_8.o.q hb);clear B_8 M_8 S_8 G1_8 G2_8 O1_8 O2_8 F1_8 F2_8 P1_8 P2_8;clear hb;have x0:=F2_9.o.a8;have hl1:D2<w13.heap.size:=F2_9.o.1;have y0:=G2_9.o.a8;have hl2:C2<w13.heap.size:=G2_9.o.1;go_wp2_with fail;clear x0 hl1;clear y0 hl2;refine (IC x.a x.V x.n x.Z _ _ L4 J4 L2 J2 (lZ HF.o.2.1.1) (by have:=HF.o.2.2;omega) _ P2_9.o O2_9.o).mono ?_;rintro e w14 ⟨rfl,hb⟩;have kz10:=hb.size;have B_10:=fQ (ah B_9.o hb);have M_10:=fQ (M_9.o.q hb);have S_10:=fQ (S_9.o.q hb);have G1_10:=fQ (G1_9.o.q hb);have G2_10:=fQ (G2_9.o.q hb);have O1_10:=fQ (O1_9.o.q hb);have O2_10:=fQ (O2_9.o.q hb);have F1_10:=fQ (F1_9.o.q hb);have F2_10:=fQ (F2_9.o.q hb);have P1_10:=fQ (P1_9.o.q hb);have P2_10:=fQ (P2_9.o.q hb);clear B_9 M_9 S_9 G1_9 G2_9 O1_9 O2_9 F1_9 F2_9 P1_9 P2_9;clear hb;have x0:=F1_10.o.a8;have hlA:D1<w14.heap.size:=F1_10.o.1;go_wp2_with fail;clear x0 hlA;refine (JC x.g x.p x.U _ L3 J3 HF.o.1.2.1 _ P1_10.o).mono ?_;rintro e w15 ⟨rfl,hPM,kzm,hsm,hbm⟩;have kz11:=kzm;have B_11:bY (Below w.heap.size w w15):=B_10.o.trans (hbm.mono (by omega));have M_11:=fQ (M_10.o.sm kzm (hsm _ (by omega) (by omega)));have S_11:=fQ (S_10.o.sm kzm (hsm _ (by omega) (by omega)));have G1_11:=fQ (G1_10.o.sm kzm (hsm _ (by omega) (by omega)));have G2_11:=fQ (G2_10.o.sm kzm (hsm _ (by omega) (by omega)));have O1_11:=fQ (O1_10.o.sm kzm (fun b q1 q2=>hsm b (by omega) (by omega)));have O2_11:=fQ (O2_10.o.sm kzm (fun b q1 q2=>hsm b (by omega) (by omega)));have F1_11:=fQ (F1_10.o.sm kzm (hsm _ (by omega) (by omega)));have F2_11:=fQ (F2_10.o.sm kzm (hsm _ (by omega) (by omega)));have P2_11:=fQ (P2_10.o.sm kzm (fun b q1 q2=>hsm b (by omega) (by omega)));clear B_10 M_10 S_10 G1_10 G2_10 O1_10 O2_10 F1_10 F2_10 P1_10 P2_10;have PM0:=fQ hPM;have hzs:¬ ((x.U.t4 1:Nat):Int)<0:=by omega
   clear hPM kzm hsm hbm;have x0:=F2_11.o.a8;have hlA:D2<w15.heap.size:=F2_11.o.1;go_wp2_with fail;clear x0 hlA;refine (JH (x.U.t4 1) HF.o.1.2.2 x.a x.V x.n x.Z _ L4 J4 HF.o.2.1.2 HF.o.2.2 _ P2_11.o).mono ?_;rintro e w16 ⟨rfl,hPM,kzm,hsm,hbm⟩;have kz12:=kzm;have B_12:bY (Below w.heap.size w w16):=B_11.o.trans (hbm.mono (by omega));have M_12:=fQ (M_11.o.sm kzm (hsm _ (by omega) (by omega)));have S_12:=fQ (S_11.o.sm kzm (hsm _ (by omega) (by omega)));have G1_12:=fQ (G1_11.o.sm kzm (hsm _ (by omega) (by omega)));have G2_12:=fQ (G2_11.o.sm kzm (hsm _ (by omega) (by omega)));have O1_12:=fQ (O1_11.o.sm kzm (fun b q1 q2=>hsm b (by omega) (by omega)));have O2_12:=fQ (O2_11.o.sm kzm (fun b q1 q2=>hsm b (by omega) (by omega)));have F1_12:=fQ (F1_11.o.sm kzm (hsm _ (by omega) (by omega)));have F2_12:=fQ (F2_11.o.sm kzm (hsm _ (by omega) (by omega)));have P1_12:=fQ (PM0.o.sm kzm (fun b q1 q2=>hsm b (by omega) (by omega)));clear B_11 M_11 S_11 G1_11 G2_11 O1_11 O2_11 F1_11 F2_11 P2_11 PM0;have PN0:=fQ hPM;clear hPM kzm hsm hbm;obtain ⟨zq,ezq⟩:∃ z:Nat,z=x.V.t4 (x.U.t4 1)+x.n * 16:=⟨_,rfl⟩;rw [<-ezq];have EZQ:=fQ ezq;have hzq:¬ ((zq:Nat):Int)<0:=by omega
   clear ezq;have x0:=F1_12.o.a8;have hlA:D1<w16.heap.size:=F1_12.o.1;go_wp2_with fail;clear x0 hlA;refine (JE x.g x.p x.U _ L3 J3 HF.o.1.2.1 _ P1_12.o).mono ?_;rintro e w17 ⟨rfl,hb⟩;have kz13:=hb.size;have B_13:=fQ (ah B_12.o hb);have M_13:=fQ (M_12.o.q hb);have S_13:=fQ (S_12.o.q hb);have G1_13:=fQ (G1_12.o.q hb);have G2_13:=fQ (G2_12.o.q hb);have O1_13:=fQ (O1_12.o.q hb);have O2_13:=fQ (O2_12.o.q hb);have F1_13:=fQ (F1_12.o.q hb);have F2_13:=fQ (F2_12.o.q hb);have P1_13:=fQ (P1_12.o.q hb);have P2_13:=fQ (PN0.o.q hb);clear B_12 M_12 S_12 G1_12 G2_12 O1_12 O2_12 F1_12 F2_12 P1_12 PN0;clear hb;have x0:=F2_13.o.a8;have hlA:D2<w17.heap.size:=F2_13.o.1;go_wp2_with fail;clear x0 hlA;refine (JF (x.U.t4 1) HF.o.1.2.2 x.a x.V x.n _ L4 J4 HF.o.2.1.2 HF.o.2.2 _ P2_13.o).mono ?_;rintro e w18 ⟨rfl,hb⟩;rw [<-EZQ.o];have kz14:=hb.size;have B_14:=fQ (ah B_13.o hb);have M_14:=fQ (M_13.o.q hb);have S_14:=fQ (S_13.o.q hb);have G1_14:=fQ (G1_13.o.q hb);have G2_14:=fQ (G2_13.o.q hb);have O1_14:=fQ (O1_13.o.q hb);have O2_14:=fQ (O2_13.o.q hb);have F1_14:=fQ (F1_13.o.q hb);have F2_14:=fQ (F2_13.o.q hb);have P1_14:=fQ (P1_13.o.q hb);have P2_14:=fQ (P2_13.o.q hb);clear B_13 M_13 S_13 G1_13 G2_13 O1_13 O2_13 F1_13 F2_13 P1_13 P2_13;clear hb;obtain ⟨m0,m1⟩:=M_14.o.a2;have hlM:w.heap.size<w18.heap.size:=M_14.o.1;have y0:=S_14.o.a8;have hlS:w.heap.size+1<w18.heap.size:=S_14.o.1;go_upto_region 28 with fail;go_cut [18,19,20] (fun sa sb sc wx=>Rl w18 wx x q sa sb sc)
   case first=>
    refine Hu (S:=fun w'=>Below (w18.heap.size) w18 w') (by as_aux_lemma=>kernel_rfl) ((Hr _ _).drew) ?_;intro af;obtain ⟨X,hX⟩:∃ X,X=w18.drew:=⟨_,rfl⟩;rw [<-hX] at af ⊢;clear hX;refine Lj 0 (.agg #[zI c,zI d]) rfl ?_;try simp only [aT]
    refine Lj 2 (Am a (zD V aW kW aO kO aX kX aI kI) (.slice aR nR kR)) rfl ?_;try simp only [aT]
    refine Lj 4 (zI g) rfl ?_;try simp only [aT]
    revert af;revert X;apply share;case' main=>intro kc411
    apply share;case' main=>intro kc311
    apply share;case' main=>intro kc310
    apply share;case' main=>intro kc301
    apply share;case' main=>intro kc300
    apply share;case' main=>intro kc211
    apply share;case' main=>intro kc210
    apply share;case' main=>intro kc201
    apply share;case' main=>intro kc200
    apply share;case' main=>intro kc111
    apply share;case' main=>intro kc110
    apply share;case' main=>intro kc101
    apply share;case' main=>intro kc100
    apply share;case' main=>intro kc011
    apply share;case' main=>intro kc010
    apply share;case' main=>intro kc001
    ·intro X af;refine Lc [1,10,11] (AllReadyH.cons rfl (fun K hK=>?_) (AllReadyH.cons rfl (fun K hK=>?_) (AllReadyH.cons rfl (fun K hK=>?_) AllReadyH.nil)))
     ·go_simp;go_wp2_with fail;refine (uy c d _).mono ?_;rintro e X1 ⟨rfl,hb⟩;refine hK.out _ _ (ah af hb) (fun ai=>?_);replace af:=ai;clear hK K ai hb;clear X;try simp only [aT]
      revert af;revert X1;exact kc100.o
     ·go_simp;obtain ⟨CA,X1,eC,eY,hb,YA⟩:=GV X Ja 38 af (Ho _);rw [<-eY,<-eC];clear eC eY;refine hK.out _ _ (ah af hb) (fun ai=>?_);replace af:=ai;clear hK K ai hb;clear X;try simp only [aT]
      revert YA;revert af;revert CA;revert X1;exact kc010.o
     go_simp;obtain ⟨CD,X1,eC,eY,hb,YB⟩:=GV X z8 41 af (Ho _);rw [<-eY,<-eC];clear eC eY;refine hK.out _ _ (ah af hb) (fun ai=>?_);replace af:=ai;clear hK K ai hb;clear X;try simp only [aT]
     revert YB;revert af;revert CD;revert X1;exact kc001.o
    ·intro X CD af YB;refine Lc [1,10] (AllReadyH.cons rfl (fun K hK=>?_) (AllReadyH.cons rfl (fun K hK=>?_) AllReadyH.nil))
     ·go_simp;go_wp2_with fail;refine (uy c d _).mono ?_;rintro e X1 ⟨rfl,hb⟩;replace YB:=fQ (YB.o.q hb);refine hK.out _ _ (ah af hb) (fun ai=>?_);replace af:=ai;clear hK K ai hb;clear X;try simp only [aT]
      revert YB;revert af;revert CD;revert X1;exact kc101.o
     go_simp;obtain ⟨CA,X1,eC,eY,hb,YA⟩:=GV X Ja 38 af (Ho _);rw [<-eY,<-eC];have nAB:¬ CA=CD:=by have:=YB.o.1.1;omega
     replace YB:=fQ (YB.o.q hb);clear eC eY;refine hK.out _ _ (ah af hb) (fun ai=>?_);replace af:=ai;clear hK K ai hb;clear X;try simp only [aT]
     revert nAB;revert YB;revert YA;revert af;revert CD;revert CA;revert X1;exact kc011.o
    ·intro X CA af YA;refine Lc [1,11] (AllReadyH.cons rfl (fun K hK=>?_) (AllReadyH.cons rfl (fun K hK=>?_) AllReadyH.nil))
     ·go_simp;go_wp2_with fail;refine (uy c d _).mono ?_;rintro e X1 ⟨rfl,hb⟩;replace YA:=fQ (YA.o.q hb);refine hK.out _ _ (ah af hb) (fun ai=>?_);replace af:=ai;clear hK K ai hb;clear X;try simp only [aT]
      revert YA;revert af;revert CA;revert X1;exact kc110.o
     go_simp;obtain ⟨CD,X1,eC,eY,hb,YB⟩:=GV X z8 41 af (Ho _);rw [<-eY,<-eC];have nAB:¬ CA=CD:=by have:=YA.o.1.1;omega
     replace YA:=fQ (YA.o.q hb);clear eC eY;refine hK.out _ _ (ah af hb) (fun ai=>?_);replace af:=ai;clear hK K ai hb;clear X;try simp only [aT]
     exact kc011.o X1 CA CD af YA YB nAB
    ·intro X CA CD af YA YB nAB;refine Ld 1 rfl fun K hK=>?_;go_simp;go_wp2_with fail;refine (uy c d _).mono ?_;rintro e X1 ⟨rfl,hb⟩;replace YA:=fQ (YA.o.q hb);replace YB:=fQ (YB.o.q hb);refine hK.out _ _ (ah af hb) (fun ai=>?_);replace af:=ai;clear hK K ai hb;clear X;try simp only [aT]
     revert nAB;revert YB;revert YA;revert af;revert CD;revert CA;revert X1;exact kc111.o
    ·intro X af;refine Lc [3,10,11] (AllReadyH.cons rfl (fun K hK=>?_) (AllReadyH.cons rfl (fun K hK=>?_) (AllReadyH.cons rfl (fun K hK=>?_) AllReadyH.nil)))
     ·go_simp;go_wp2_with fail;refine (jV a V Z aW kW aO kO aX kX aI kI aR nR kR hS.o.1 hS.o.2 _ (dw HC.o (ah B_14.o af)) (P16.iL HR.o (ah B_14.o af))).mono ?_;rintro e X1 ⟨⟨dW,dO,dX,dI,dR,rfl,hO,h3,h4,-,-⟩,hb⟩;have FS:bY (Kr w18.heap.size X1 dW dO dX dI dR V nR Z):=⟨hO.low af.size,h3,h4⟩;clear hO h3 h4;refine hK.out _ _ (ah af hb) (fun ai=>?_);replace af:=ai;clear hK K ai hb;clear X;try simp only [aT]
      revert FS;revert af;revert dR;revert dI;revert dX;revert dO;revert dW;revert X1;exact kc200.o
     ·go_simp;obtain ⟨CA,X1,eC,eY,hb,YA⟩:=GV X Ja 38 af (Ho _);rw [<-eY,<-eC];clear eC eY;refine hK.out _ _ (ah af hb) (fun ai=>?_);replace af:=ai;clear hK K ai hb;clear X;try simp only [aT]
      exact kc110.o X1 CA af YA
     go_simp;obtain ⟨CD,X1,eC,eY,hb,YB⟩:=GV X z8 41 af (Ho _);rw [<-eY,<-eC];clear eC eY;refine hK.out _ _ (ah af hb) (fun ai=>?_);replace af:=ai;clear hK K ai hb;clear X;try simp only [aT]
     exact kc101.o X1 CD af YB
    ·intro X CD af YB;refine Lc [3,10] (AllReadyH.cons rfl (fun K hK=>?_) (AllReadyH.cons rfl (fun K hK=>?_) AllReadyH.nil))
     ·go_simp;go_wp2_with fail;refine (jV a V Z aW kW aO kO aX kX aI kI aR nR kR hS.o.1 hS.o.2 _ (dw HC.o (ah B_14.o af)) (P16.iL HR.o (ah B_14.o af))).mono ?_;rintro e X1 ⟨⟨dW,dO,dX,dI,dR,rfl,hO,h3,h4,-,-⟩,hb⟩;have FS:bY (Kr w18.heap.size X1 dW dO dX dI dR V nR Z):=⟨hO.low af.size,h3,h4⟩;clear hO h3 h4;replace YB:=fQ (YB.o.q hb);refine hK.out _ _ (ah af hb) (fun ai=>?_);replace af:=ai;clear hK K ai hb;clear X;try simp only [aT]
      revert YB;revert FS;revert af;revert CD;revert dR;revert dI;revert dX;revert dO;revert dW;revert X1;exact kc201.o
     go_simp;obtain ⟨CA,X1,eC,eY,hb,YA⟩:=GV X Ja 38 af (Ho _);rw [<-eY,<-eC];have nAB:¬ CA=CD:=by have:=YB.o.1.1;omega
     replace YB:=fQ (YB.o.q hb);clear eC eY;refine hK.out _ _ (ah af hb) (fun ai=>?_);replace af:=ai;clear hK K ai hb;clear X;try simp only [aT]
     exact kc111.o X1 CA CD af YA YB nAB
    ·intro X CA af YA;refine Lc [3,11] (AllReadyH.cons rfl (fun K hK=>?_) (AllReadyH.cons rfl (fun K hK=>?_) AllReadyH.nil))
     ·go_simp;go_wp2_with fail;refine (jV a V Z aW kW aO kO aX kX aI kI aR nR kR hS.o.1 hS.o.2 _ (dw HC.o (ah B_14.o af)) (P16.iL HR.o (ah B_14.o af))).mono ?_;rintro e X1 ⟨⟨dW,dO,dX,dI,dR,rfl,hO,h3,h4,-,-⟩,hb⟩;have FS:bY (Kr w18.heap.size X1 dW dO dX dI dR V nR Z):=⟨hO.low af.size,h3,h4⟩;clear hO h3 h4;replace YA:=fQ (YA.o.q hb);refine hK.out _ _ (ah af hb) (fun ai=>?_);replace af:=ai;clear hK K ai hb;clear X;try simp only [aT]
      revert YA;revert FS;revert af;revert CA;revert dR;revert dI;revert dX;revert dO;revert dW;revert X1;exact kc210.o
     go_simp;obtain ⟨CD,X1,eC,eY,hb,YB⟩:=GV X z8 41 af (Ho _);rw [<-eY,<-eC];have nAB:¬ CA=CD:=by have:=YA.o.1.1;omega
     replace YA:=fQ (YA.o.q hb);clear eC eY;refine hK.out _ _ (ah af hb) (fun ai=>?_);replace af:=ai;clear hK K ai hb;clear X;try simp only [aT]
     exact kc111.o X1 CA CD af YA YB nAB
    ·intro X CA CD af YA YB nAB;refine Ld 3 rfl fun K hK=>?_;go_simp;go_wp2_with fail;refine (jV a V Z aW kW aO kO aX kX aI kI aR nR kR hS.o.1 hS.o.2 _ (dw HC.o (ah B_14.o af)) (P16.iL HR.o (ah B_14.o af))).mono ?_;rintro e X1 ⟨⟨dW,dO,dX,dI,dR,rfl,hO,h3,h4,-,-⟩,hb⟩;have FS:bY (Kr w18.heap.size X1 dW dO dX dI dR V nR Z):=⟨hO.low af.size,h3,h4⟩;clear hO h3 h4;replace YA:=fQ (YA.o.q hb);replace YB:=fQ (YB.o.q hb);refine hK.out _ _ (ah af hb) (fun ai=>?_);replace af:=ai;clear hK K ai hb;clear X;try simp only [aT]
     revert nAB;revert YB;revert YA;revert FS;revert af;revert CD;revert CA;revert dR;revert dI;revert dX;revert dO;revert dW;revert X1;exact kc211.o
    ·intro X dW dO dX dI dR af FS;refine Lc [5,10,11] (AllReadyH.cons rfl (fun K hK=>?_) (AllReadyH.cons rfl (fun K hK=>?_) (AllReadyH.cons rfl (fun K hK=>?_) AllReadyH.nil)))
     ·go_simp;go_wp2_with fail;refine (KP c d g a V _ dW dO dX dI dR nR Z hS.o.1 hS.o.2 hwf.o hwR.o _ (((ah B_14.o af).cell (p:=(zA 0 0)) hpos).trans hg0.o) FS.o.1.copy FS.o.2.1 (P16.aZ FS.o.2.2)).mono ?_;rintro e X1 ⟨⟨va,vb,rfl,hA⟩,hb⟩;rw [<-EX.o] at hA ⊢;rw [<-EQ.o];obtain ⟨l1,h1,l2,h2,gA,g1,g2⟩:=hA.f af.size;have AF:=fQ gA;clear hA gA g1 g2 FS;refine hK.out _ _ (ah af hb) (fun ai=>?_);replace af:=ai;clear hK K ai hb;clear X;try simp only [aT]
      refine Lj 6 (.tuple #[va,vb,.bool q]) rfl ?_;try simp only [aT]
      refine Lj 7 (va) rfl ?_;try simp only [aT]
      refine Lj 8 (vb) rfl ?_;try simp only [aT]
      refine Lj 9 (.bool q) rfl ?_;try simp only [aT]
      revert AF;revert af;revert h2;revert l2;revert h1;revert l1;revert vb;revert va;revert dR;revert dI;revert dX;revert dO;revert dW;revert X1;exact kc300.o
     ·go_simp;obtain ⟨CA,X1,eC,eY,hb,YA⟩:=GV X Ja 38 af (Ho _);rw [<-eY,<-eC];replace FS:=fQ (FS.o.q hb);clear eC eY;refine hK.out _ _ (ah af hb) (fun ai=>?_);replace af:=ai;clear hK K ai hb;clear X;try simp only [aT]
      exact kc210.o X1 dW dO dX dI dR CA af FS YA
     go_simp;obtain ⟨CD,X1,eC,eY,hb,YB⟩:=GV X z8 41 af (Ho _);rw [<-eY,<-eC];replace FS:=fQ (FS.o.q hb);clear eC eY;refine hK.out _ _ (ah af hb) (fun ai=>?_);replace af:=ai;clear hK K ai hb;clear X;try simp only [aT]
     exact kc201.o X1 dW dO dX dI dR CD af FS YB
    ·intro X dW dO dX dI dR CD af FS YB;refine Lc [5,10] (AllReadyH.cons rfl (fun K hK=>?_) (AllReadyH.cons rfl (fun K hK=>?_) AllReadyH.nil))
     ·go_simp;go_wp2_with fail;refine (KP c d g a V _ dW dO dX dI dR nR Z hS.o.1 hS.o.2 hwf.o hwR.o _ (((ah B_14.o af).cell (p:=(zA 0 0)) hpos).trans hg0.o) FS.o.1.copy FS.o.2.1 (P16.aZ FS.o.2.2)).mono ?_;rintro e X1 ⟨⟨va,vb,rfl,hA⟩,hb⟩;rw [<-EX.o] at hA ⊢;rw [<-EQ.o];obtain ⟨l1,h1,l2,h2,gA,g1,g2⟩:=hA.f af.size;have AF:=fQ gA;have eB:Lh CD l1 h1 l2 h2:=⟨.inl (Hg YB.o.1.1 g1),.inl (Hg YB.o.1.1 g2)⟩;clear hA gA g1 g2 FS;replace YB:=fQ (YB.o.q hb);refine hK.out _ _ (ah af hb) (fun ai=>?_);replace af:=ai;clear hK K ai hb;clear X;try simp only [aT]
      refine Lj 6 (.tuple #[va,vb,.bool q]) rfl ?_;try simp only [aT]
      refine Lj 7 (va) rfl ?_;try simp only [aT]
      refine Lj 8 (vb) rfl ?_;try simp only [aT]
      refine Lj 9 (.bool q) rfl ?_;try simp only [aT]
      revert eB;revert YB;revert AF;revert af;revert CD;revert h2;revert l2;revert h1;revert l1;revert vb;revert va;revert dR;revert dI;revert dX;revert dO;revert dW;revert X1;exact kc301.o
     go_simp;obtain ⟨CA,X1,eC,eY,hb,YA⟩:=GV X Ja 38 af (Ho _);rw [<-eY,<-eC];have nAB:¬ CA=CD:=by have:=YB.o.1.1;omega
     replace FS:=fQ (FS.o.q hb);replace YB:=fQ (YB.o.q hb);clear eC eY;refine hK.out _ _ (ah af hb) (fun ai=>?_);replace af:=ai;clear hK K ai hb;clear X;try simp only [aT]
     exact kc211.o X1 dW dO dX dI dR CA CD af FS YA YB nAB
    ·intro X dW dO dX dI dR CA af FS YA;refine Lc [5,11] (AllReadyH.cons rfl (fun K hK=>?_) (AllReadyH.cons rfl (fun K hK=>?_) AllReadyH.nil))
     ·go_simp;go_wp2_with fail;refine (KP c d g a V _ dW dO dX dI dR nR Z hS.o.1 hS.o.2 hwf.o hwR.o _ (((ah B_14.o af).cell (p:=(zA 0 0)) hpos).trans hg0.o) FS.o.1.copy FS.o.2.1 (P16.aZ FS.o.2.2)).mono ?_;rintro e X1 ⟨⟨va,vb,rfl,hA⟩,hb⟩;rw [<-EX.o] at hA ⊢;rw [<-EQ.o];obtain ⟨l1,h1,l2,h2,gA,g1,g2⟩:=hA.f af.size;have AF:=fQ gA;have eA:Lh CA l1 h1 l2 h2:=⟨.inl (Hg YA.o.1.1 g1),.inl (Hg YA.o.1.1 g2)⟩;clear hA gA g1 g2 FS;replace YA:=fQ (YA.o.q hb);refine hK.out _ _ (ah af hb) (fun ai=>?_);replace af:=ai;clear hK K ai hb;clear X;try simp only [aT]
      refine Lj 6 (.tuple #[va,vb,.bool q]) rfl ?_;try simp only [aT]
      refine Lj 7 (va) rfl ?_;try simp only [aT]
      refine Lj 8 (vb) rfl ?_;try simp only [aT]
      refine Lj 9 (.bool q) rfl ?_;try simp only [aT]
      revert eA;revert YA;revert AF;revert af;revert CA;revert h2;revert l2;revert h1;revert l1;revert vb;revert va;revert dR;revert dI;revert dX;revert dO;revert dW;revert X1;exact kc310.o
     go_simp;obtain ⟨CD,X1,eC,eY,hb,YB⟩:=GV X z8 41 af (Ho _);rw [<-eY,<-eC];have nAB:¬ CA=CD:=by have:=YA.o.1.1;omega
     replace FS:=fQ (FS.o.q hb);replace YA:=fQ (YA.o.q hb);clear eC eY;refine hK.out _ _ (ah af hb) (fun ai=>?_);replace af:=ai;clear hK K ai hb;clear X;try simp only [aT]
     exact kc211.o X1 dW dO dX dI dR CA CD af FS YA YB nAB
    ·intro X dW dO dX dI dR CA CD af FS YA YB nAB;refine Ld 5 rfl fun K hK=>?_;go_simp;go_wp2_with fail;refine (KP c d g a V _ dW dO dX dI dR nR Z hS.o.1 hS.o.2 hwf.o hwR.o _ (((ah B_14.o af).cell (p:=(zA 0 0)) hpos).trans hg0.o) FS.o.1.copy FS.o.2.1 (P16.aZ FS.o.2.2)).mono ?_;rintro e X1 ⟨⟨va,vb,rfl,hA⟩,hb⟩;rw [<-EX.o] at hA ⊢;rw [<-EQ.o];obtain ⟨l1,h1,l2,h2,gA,g1,g2⟩:=hA.f af.size;have AF:=fQ gA;have eA:Lh CA l1 h1 l2 h2:=⟨.inl (Hg YA.o.1.1 g1),.inl (Hg YA.o.1.1 g2)⟩;have eB:Lh CD l1 h1 l2 h2:=⟨.inl (Hg YB.o.1.1 g1),.inl (Hg YB.o.1.1 g2)⟩;clear hA gA g1 g2 FS;replace YA:=fQ (YA.o.q hb);replace YB:=fQ (YB.o.q hb);refine hK.out _ _ (ah af hb) (fun ai=>?_);replace af:=ai;clear hK K ai hb;clear X;try simp only [aT]
     refine Lj 6 (.tuple #[va,vb,.bool q]) rfl ?_;try simp only [aT]
     refine Lj 7 (va) rfl ?_;try simp only [aT]
     refine Lj 8 (vb) rfl ?_;try simp only [aT]
     refine Lj 9 (.bool q) rfl ?_;try simp only [aT]
     revert nAB;revert eB;revert YB;revert eA;revert YA;revert AF;revert af;revert CD;revert CA;revert h2;revert l2;revert h1;revert l1;revert vb;revert va;revert dR;revert dI;revert dX;revert dO;revert dW;revert X1;exact kc311.o
    ·intro X dW dO dX dI dR va vb l1 h1 l2 h2 af AF;refine Lc [10,11] (AllReadyH.cons rfl (fun K hK=>?_) (AllReadyH.cons rfl (fun K hK=>?_) AllReadyH.nil))
     ·go_simp;obtain ⟨CA,X1,eC,eY,hb,YA⟩:=GV X Ja 38 af (Ho _);rw [<-eY,<-eC];have eA:=AF.o.new (Hl eC.symm);replace AF:=fQ (AF.o.q hb);clear eC eY;refine hK.out _ _ (ah af hb) (fun ai=>?_);replace af:=ai;clear hK K ai hb;clear X;try simp only [aT]
      exact kc310.o X1 dW dO dX dI dR va vb l1 h1 l2 h2 CA af AF YA eA
     go_simp;obtain ⟨CD,X1,eC,eY,hb,YB⟩:=GV X z8 41 af (Ho _);rw [<-eY,<-eC];have eB:=AF.o.new (Hl eC.symm);replace AF:=fQ (AF.o.q hb);clear eC eY;refine hK.out _ _ (ah af hb) (fun ai=>?_);replace af:=ai;clear hK K ai hb;clear X;try simp only [aT]
     exact kc301.o X1 dW dO dX dI dR va vb l1 h1 l2 h2 CD af AF YB eB
    ·intro X dW dO dX dI dR va vb l1 h1 l2 h2 CD af AF YB eB;refine Ld 10 rfl fun K hK=>?_;go_simp;obtain ⟨CA,X1,eC,eY,hb,YA⟩:=GV X Ja 38 af (Ho _);rw [<-eY,<-eC];have eA:=AF.o.new (Hl eC.symm);have nAB:¬ CA=CD:=by have:=YB.o.1.1;omega
     replace AF:=fQ (AF.o.q hb);replace YB:=fQ (YB.o.q hb);clear eC eY;refine hK.out _ _ (ah af hb) (fun ai=>?_);replace af:=ai;clear hK K ai hb;clear X;try simp only [aT]
     exact kc311.o X1 dW dO dX dI dR va vb l1 h1 l2 h2 CA CD af AF YA eA YB eB nAB
    ·intro X dW dO dX dI dR va vb l1 h1 l2 h2 CA af AF YA eA;refine Ld 11 rfl fun K hK=>?_;go_simp;obtain ⟨CD,X1,eC,eY,hb,YB⟩:=GV X z8 41 af (Ho _);rw [<-eY,<-eC];have eB:=AF.o.new (Hl eC.symm);have nAB:¬ CA=CD:=by have:=YA.o.1.1;omega
     replace AF:=fQ (AF.o.q hb);replace YA:=fQ (YA.o.q hb);clear eC eY;refine hK.out _ _ (ah af hb) (fun ai=>?_);replace af:=ai;clear hK K ai hb;clear X;try simp only [aT]
     exact kc311.o X1 dW dO dX dI dR va vb l1 h1 l2 h2 CA CD af AF YA eA YB eB nAB
    ·intro X dW dO dX dI dR va vb l1 h1 l2 h2 CA CD af AF YA eA YB eB nAB;refine Ld 12 rfl fun K hK=>?_;obtain ⟨a1,k1,a2,k2,a3,k3,a4,k4,rfl,-⟩:=AF.o.1;have f0:=YA.o.1.f8;have p0:=YA.o.1.a8;have hlY:=YA.o.1.1;go_simp;obtain ⟨X1,e6,hN,hz6,SP,Q6⟩:=KR [zI x.g,zI x.p,zI x.U.c,.slice a1 x.U.nW k1,zI x.U.g,.slice a2 x.U.nO k2,.slice a3 x.U.nX k3,.slice a4 x.U.nI k4] af YA.o rfl;simp only [qg] at e6;rw [<-e6];clear e6 f0 p0 hlY;replace AF:=fQ (AF.o.put eA hz6 SP);replace YB:=fQ (YB.o.put hz6 SP (fun e=>nAB e.symm));replace YA:=Q6;clear Q6 SP hz6;refine hK.out _ _ hN (fun ai=>?_);replace af:=ai;clear hK K ai hN;clear X;try simp only [aT]
     revert nAB;revert eB;revert YB;revert eA;revert YA;revert AF;revert af;revert CD;revert CA;revert h2;revert l2;revert h1;revert l1;revert vb;revert k4;revert k3;revert k2;revert k1;revert a4;revert a3;revert a2;revert a1;revert dR;revert dI;revert dX;revert dO;revert dW;revert X1;exact kc411.o
    intro X dW dO dX dI dR a1 a2 a3 a4 k1 k2 k3 k4 vb l1 h1 l2 h2 CA CD af AF YA eA YB eB nAB;refine Ld 13 rfl fun K hK=>?_;obtain ⟨s1,i1,s2,i2,s3,i3,s4,i4,s5,i5,_,_,_,rfl,_⟩:=AF.o.2.1;have f0:=YB.o.1.f8;have p0:=YB.o.1.a8;have hlY:=YB.o.1.1;go_simp;obtain ⟨X1,e6,hN,hz6,SP,Q6⟩:=KR [zI x.a,zI x.V.c,.slice s1 x.V.nW i1,zI x.V.g,.slice s2 x.V.nO i2,.slice s3 x.V.nX i3,.slice s4 x.V.nI i4,.slice s5 x.n i5] af YB.o rfl;simp only [qg] at e6;rw [<-e6];clear e6 f0 p0 hlY;have A6:=AF.o.put eB hz6 SP;have Y6:=YA.o.put hz6 SP nAB;clear AF YA;refine hK.out _ _ hN (fun ai=>?_);try simp only [aT]
    refine Lj 14 (.bool q) rfl ?_;try simp only [aT]
    refine Hy (by as_aux_lemma=>kernel_rfl) ?_ _;go_wp2;go_meet
    case rel=>exact ⟨CA,CD,l1,h1,l2,h2,a1,k1,a2,k2,a3,k3,a4,k4,s1,i1,s2,i2,s3,i3,s4,i4,s5,i5,rfl,rfl,rfl,Y6,Q6,A6,eA,eB,nAB,hN⟩
   case rest=>
    clear m0 m1 hlM;clear y0 hlS;obtain ⟨w19,hwn⟩:∃ wn,wn=wc:=⟨_,rfl⟩;subst hwn;obtain ⟨E1,E2,L5,J5,L6,J6,Ta1,Tk1,Ta2,Tk2,Ta3,Tk3,Ta4,Tk4,Ts1,Ti1,Ts2,Ti2,Ts3,Ti3,Ts4,Ti4,Ts5,Ti5,rfl,rfl,rfl,⟨hG1,g1⟩,⟨hG2,g3⟩,⟨hO1,hO2,g5,g6,g7,g8,g9,g10,g11⟩,⟨g12,g13⟩,⟨g14,g15⟩,g16,hb⟩:=hcut;have g2:=hG1.1;have g4:=hG2.1;have kz15:=hb.size;have B_15:=fQ (ah B_14.o hb);have G1_15:=fQ (G1_14.o.q hb);have G2_15:=fQ (G2_14.o.q hb);have O1_15:=fQ (O1_14.o.q hb);have O2_15:=fQ (O2_14.o.q hb);have F1_15:=fQ (F1_14.o.q hb);have F2_15:=fQ (F2_14.o.q hb);have P1_15:=fQ (P1_14.o.q hb);have P2_15:=fQ (P2_14.o.q hb);clear B_14 M_14 S_14 G1_14 G2_14 O1_14 O2_14 F1_14 F2_14 P1_14 P2_14;clear hb;have V10:=fQ hG1;clear hG1;have V20:=fQ hG2;clear hG2;have R10:=fQ hO1;clear hO1;have R20:=fQ hO2;clear hO2;have x0:=V10.o.a8;have hl1:E1<w19.heap.size:=V10.o.1;have y0:=G1_15.o.a8;have hl2:C1<w19.heap.size:=G1_15.o.1;go_wp2_with fail;clear x0 hl1;clear y0 hl2;refine (Jy x.g x.p x.U _ _ L5 J5 L1 J1 (lZ HF.o.1.1) _ R10.o O1_15.o).mono ?_;rintro e w20 ⟨rfl,hb⟩;have kz16:=hb.size;have B_16:=fQ (ah B_15.o hb);have G1_16:=fQ (G1_15.o.q hb);have G2_16:=fQ (G2_15.o.q hb);have O1_16:=fQ (O1_15.o.q hb);have O2_16:=fQ (O2_15.o.q hb);have F1_16:=fQ (F1_15.o.q hb);have F2_16:=fQ (F2_15.o.q hb);have P1_16:=fQ (P1_15.o.q hb);have P2_16:=fQ (P2_15.o.q hb);have V1_16:=fQ (V10.o.q hb);have V2_16:=fQ (V20.o.q hb);have R1_16:=fQ (R10.o.q hb);have R2_16:=fQ (R20.o.q hb);clear B_15 G1_15 G2_15 O1_15 O2_15 F1_15 F2_15 P1_15 P2_15 V10 V20 R10 R20;clear hb;have x0:=V2_16.o.a8;have hl1:E2<w20.heap.size:=V2_16.o.1;have y0:=G2_16.o.a8;have hl2:C2<w20.heap.size:=G2_16.o.1;go_wp2_with fail;clear x0 hl1;clear y0 hl2;refine (IC x.a x.V x.n x.Z _ _ L6 J6 L2 J2 (lZ HF.o.2.1.1) (by have:=HF.o.2.2;omega) _ R2_16.o O2_16.o).mono ?_;rintro e w21 ⟨rfl,hb⟩;have kz17:=hb.size;have B_17:=fQ (ah B_16.o hb);have G1_17:=fQ (G1_16.o.q hb);have G2_17:=fQ (G2_16.o.q hb);have O1_17:=fQ (O1_16.o.q hb);have O2_17:=fQ (O2_16.o.q hb);have F1_17:=fQ (F1_16.o.q hb);have F2_17:=fQ (F2_16.o.q hb);have P1_17:=fQ (P1_16.o.q hb);have P2_17:=fQ (P2_16.o.q hb);have V1_17:=fQ (V1_16.o.q hb);have V2_17:=fQ (V2_16.o.q hb);have R1_17:=fQ (R1_16.o.q hb);have R2_17:=fQ (R2_16.o.q hb);clear B_16 G1_16 G2_16 O1_16 O2_16 F1_16 F2_16 P1_16 P2_16 V1_16 V2_16 R1_16 R2_16;clear hb;clear V1_17;clear V2_17;clear R1_17;clear R2_17;clear O1_17;clear O2_17;clear G1_17;clear G2_17;have x0:=F1_17.o.a8;have hlA:D1<w21.heap.size:=F1_17.o.1;go_wp2_with fail;clear x0 hlA;refine (JE x.g x.p x.U _ L3 J3 HF.o.1.2.1 _ P1_17.o).mono ?_;rintro e w22 ⟨rfl,hb⟩;have kz18:=hb.size;have B_18:=fQ (ah B_17.o hb);have F1_18:=fQ (F1_17.o.q hb);have F2_18:=fQ (F2_17.o.q hb);have P1_18:=fQ (P1_17.o.q hb);have P2_18:=fQ (P2_17.o.q hb);clear B_17 F1_17 F2_17 P1_17 P2_17;clear hb;have x0:=F2_18.o.a8;have hlA:D2<w22.heap.size:=F2_18.o.1;go_wp2_with fail;clear x0 hlA;refine (JF (x.U.t4 1) HF.o.1.2.2 x.a x.V x.n _ L4 J4 HF.o.2.1.2 HF.o.2.2 _ P2_18.o).mono ?_;rintro e w23 ⟨rfl,hb⟩;rw [<-EZQ.o];have kz19:=hb.size;have B_19:=fQ (ah B_18.o hb);have F1_19:=fQ (F1_18.o.q hb);have F2_19:=fQ (F2_18.o.q hb);have P1_19:=fQ (P1_18.o.q hb);have P2_19:=fQ (P2_18.o.q hb);clear B_18 F1_18 F2_18 P1_18 P2_18;clear hb;have BZ:=B_19.o;go_wp2;go_ret;exact ⟨rfl,BZ⟩
