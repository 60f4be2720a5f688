/- The program's HldWrite answers as the model's; conditions: the hold and the store lie in memory. -/
import Derived.Test.YtngaboipleimcabGreatDoorHF
import Derived.Deep.DeepCutAuto
set_option linter.unusedVariables false
set_option maxHeartbeats 64000000
set_option maxRecDepth 20000
namespace Go.Proofs.YtngaboipleimcabGreatDoor
open Go.RowKit Go.Deep
def Sf (U:CV):Prop:=U.short 1048576/\U.nO<=2
theorem Kv {c d:Int} {U:CV} {m:Nat} {k t n:Int} (hs:U.short 1000000) (h2:U.nO<=2):Sf (fA c d U m k t n).1:=by
 have s0:U.short 1048576:=hs.more (by omega);have s1:∀ m:Nat,(U.outW m).short 1000000:=fun m=>⟨Hq (Nat.sub_le _ _) hs.1,hs.2⟩
 unfold fA gU dF dQ dP bQ;repeat' split
 all_goals first
  | exact ⟨s0,h2⟩
  | exact ⟨rE (s1 m) _ _,h2⟩
  | exact ⟨rE (U:=U.setW m (zc (U.W m) (-n))) hs _ _,h2⟩
theorem JZ {c d:Int} {R:Nat->Int} {V:CV} (h:V.short 1048576):Sf (FV c d V R).1:=by
 unfold FV;split
 ·have h0:CV.zero.short 1048576:=⟨by show 0<=1048576;omega,by show 0<=1048576;omega,fun _ h=>absurd h (by show ¬ _<0;omega),by show 0<=1048576;omega,by show 0<=1048576;omega⟩;exact ⟨h0,by show 0<=2;omega⟩
 rename_i hn;have hV:bD c d V=true:=by cases e:bD c d V;exact absurd (.inl e) hn;rfl
 have hL:iD c d R=true:=by cases e:iD c d R;exact absurd (.inr e) hn;rfl
 have h2:=dH hV;have h9:=jF hV;have hs:V.short 1000000:=⟨by omega,by omega,fun q hq=>by have:=(kD hV q (by omega)).2;omega,by omega,by omega⟩;have e0:Sf V:=⟨h,by omega⟩;have hf:Sf (aF c d V R).1:=by
  unfold aF;rw [if_neg (show ¬ iD c d R=false by rw [hL];simp)];split
  ·split
   ·show Sf (qJ c d V (R 1) (R 2) (R 3) (R 4) (R 5)).1;unfold qJ iT;repeat' split
    all_goals first
     | exact e0
     | exact Kv (U:=V.setW _ _) hs (by show V.nO<=2;omega)
   exact e0
  split
  ·exact e0
  split
  ·show Sf (CV.inn c d V (R 6).toNat (R 7) (R 8) (R 9) (R 10) (R 11) (R 12) (R 13) (R 14));unfold CV.inn;split
   ·split
    ·exact ⟨⟨by show V.nW+1<=1048576;omega,h.2⟩,e0.2⟩
    exact e0
   exact e0
  show Sf (V.after (R 6).toNat (R 15));unfold CV.after;split
  ·refine ⟨⟨h.1,h.2.1,fun k hk=>?_,h.2.2.2.1,h.2.2.2.2⟩,e0.2⟩;show (if k=(R 6).toNat then _ else V.N k)<=_;split
   ·rename_i e;subst e;exact Hq (P8.vU _ _ _) (h.2.2.1 _ hk)
   exact h.2.2.1 k hk
  exact e0
 exact hf
theorem lZ {V:CV} (h:V.short 1048576):V.short 2000000:=by
 obtain ⟨h1,h2,h3,h4,h5⟩:=h;exact ⟨by omega,by omega,fun k hk=>by have:=h3 k hk;omega,by omega,by omega⟩
theorem J8 {V:CV} (h:Sf V):V.t4 1<=100000000:=by
 obtain ⟨⟨h1,h2,h3,h4,h5⟩,h6⟩:=h;have hS:mG V.N V.nO<=2097152:=by
  have:V.nO=0∨V.nO=1∨V.nO=2:=by omega
  rcases this with e | e | e
  ·rw [e];simp [mG]
  ·have:=h3 0 (by omega);rw [e];simp only [mG];omega
  have:=h3 0 (by omega);have:=h3 1 (by omega);rw [e];simp only [mG];omega
 unfold CV.t4 CV.t3 CV.t2 CV.t1;rw [Cb];omega
theorem JI {lo bW bO bX bI:Nat} {w:World} {g p:Int} {U:CV} (h1:lo<=w.heap.size) (h:gq lo w (.agg (zC U bW U.nW bO U.nO bX U.nX bI U.nI).toArray) U):Jj lo w.heap.size w (.agg [zI g,zI p,zI U.c,zS bW U.nW U.nW,zI U.g,zS bO U.nO U.nO,zS bX U.nX U.nX,zS bI U.nI U.nI].toArray) g p U:=⟨_,_,_,_,_,_,_,_,rfl,h.own,h1,Ho _⟩
theorem JB {lo bW bO bX bI bR n:Nat} {w:World} {a:Int} {V:CV} {Z:Nat->Nat->Int} (h:aV lo bR w (.agg (zC V bW V.nW bO V.nO bX V.nX bI V.nI).toArray) V) (h1:lo<=bR) (h2:bR<w.heap.size) (h3:P16.iy w bR n Z n):Ih lo w.heap.size w (.agg [zI a,zI V.c,zS bW V.nW V.nW,zI V.g,zS bO V.nO V.nO,zS bX V.nX V.nX,zS bI V.nI V.nI,zS bR n n].toArray) a V n Z:=⟨_,_,_,_,_,_,_,_,_,_,lo,bR,bR,rfl,h,.inr ⟨n,rfl,h1,h2,Ho _,h3⟩,Ho _,h1,Nat.le_of_lt h2,Ho _,.inr (Ho _)⟩
theorem KE (c d a:Int) (V:CV) (n:Nat) (Z:Nat->Nat->Int) (g p:Int) (R:Nat->Int) (hs:V.short 1048576) (hf:V.few) (hn:n<=1048576):(BV c d a V n Z g p R).V.short 1048576/\(BV c d a V n Z g p R).V.few/\(BV c d a V n Z g p R).n<=1048576:=by
 have hz:CV.zero.short 1048576:=⟨by decide,by decide,fun k hk=>by simp [CV.zero],by decide,by decide⟩;unfold BV;split
 ·rename_i h1;simp only [mF,Bool.and_eq_true,decide_eq_true_eq] at h1;repeat' split
  all_goals first | exact ⟨hs,hf,hn⟩ | exact ⟨hs,hf,by show n+1<=1048576;omega⟩
 exact ⟨hz,uT (V:=CV.zero) hz (by decide),Nat.zero_le _⟩
/-- What HldWrite answers can be counted. -/
theorem KN (c d g p:Int) (U:CV) (a:Int) (V:CV) (n:Nat) (Z:Nat->Nat->Int) (R:Nat->Int) (hu:U.short 1048576) (ab:U.few) (hs:V.short 1048576) (hf:V.few) (hn:n<=1048576) (ac:U.t4 1<=100000000):((IW c d g p U a V n Z R).U.short 1048576/\(IW c d g p U a V n Z R).U.few/\(IW c d g p U a V n Z R).U.t4 1<=100000000)/\((IW c d g p U a V n Z R).V.short 1048576/\(IW c d g p U a V n Z R).V.few)/\(IW c d g p U a V n Z R).n<=1048576:=by
 have hz:CV.zero.short 1048576:=⟨by decide,by decide,fun k hk=>by simp [CV.zero],by decide,by decide⟩;have aa:CV.zero.few:=uT (V:=CV.zero) hz (by decide);have hA:=KE c d a V n Z g p R hs hf hn;have hq:=JZ (c:=c) (d:=d) (R:=R) hu;have hR:=And.intro hq.1 (And.intro (CV.KL hq.1 hq.2) (J8 hq));have ad:CV.zero.t4 1<=100000000:=J8 ⟨hz,by decide⟩;unfold IW KD;dsimp only;repeat' split
 all_goals first
  | exact ⟨⟨hz,aa,ad⟩,⟨hz,aa⟩,Nat.zero_le _⟩
  | exact ⟨hR,⟨hA.1,hA.2.1⟩,hA.2.2⟩
  | exact ⟨⟨hu,ab,ac⟩,⟨hs,hf⟩,hn⟩
  | exact ⟨⟨hu,ab,ac⟩,⟨hA.1,hA.2.1⟩,hA.2.2⟩
theorem IZ (R:Nat->Int) (w:World):Hz 19 #[.agg (zR R).toArray] w fun e w'=>e=.returned (rv R)/\Below w.heap.size w w':=Gm _ _ _ _ _ _ _ _ _ _ _ _ _ _ _ _ w
attribute [local go_sem ↓] JW
abbrev Kr (n:Nat) (X:World) (dW dO dX dI dR:Nat) (V:CV) (m:Nat) (Z:Nat->Nat->Int):Prop:=gq n X (.agg (zC V dW V.nW dO V.nO dX V.nX dI V.nI).toArray) V/\dR<X.heap.size/\P16.iy X dR m Z m
theorem Kr.q {n dW dO dX dI dR m:Nat} {X Y:World} {V:CV} {Z:Nat->Nat->Int} (h:Kr n X dW dO dX dI dR V m Z) (hb:Below X.heap.size X Y):Kr n Y dW dO dX dI dR V m Z:=⟨h.1.q hb,Hg h.2.1 hb.size,P16.own_below h.2.2 h.2.1 hb⟩
abbrev KC (n:Nat) (X:World) (u1 u2:Value) (x:Le) (l1 h1 l2 h2:Nat):Prop:=Jj l1 h1 X u1 x.g x.p x.U/\Ih l2 h2 X u2 x.a x.V x.n x.Z/\n<=l1/\l1<=h1/\h1<=X.heap.size/\n<=l2/\l2<=h2/\h2<=X.heap.size/\(h1<=l2∨h2<=l1)
theorem AN.f {n lo:Nat} {X:World} {u1 u2:Value} {x:Le} (h:AN lo X u1 u2 x) (hn:n<=lo):∃ l1 h1 l2 h2,KC n X u1 u2 x l1 h1 l2 h2/\lo<=l1/\lo<=l2:=by
 obtain ⟨l1,h1,l2,h2,q1,q2,q3,q4,q5⟩:=h;have e1:l1<=h1/\h1<=X.heap.size:=by obtain ⟨_,_,_,_,_,_,_,_,_,_,e,f⟩:=q1;exact ⟨e,f⟩
 have e2:l2<=h2/\h2<=X.heap.size:=by obtain ⟨_,_,_,_,_,_,_,_,_,_,_,_,_,_,_,_,e1,e2,e3,e4,_⟩:=q2;exact ⟨by omega,e4⟩
 exact ⟨l1,h1,l2,h2,⟨q1,q2,by omega,e1.1,e1.2,by omega,e2.1,e2.2,q5⟩,q3,q4⟩
theorem KC.q {n l1 h1 l2 h2:Nat} {X Y:World} {u1 u2:Value} {x:Le} (h:KC n X u1 u2 x l1 h1 l2 h2) (hb:Below X.heap.size X Y):KC n Y u1 u2 x l1 h1 l2 h2:=by
 obtain ⟨q1,q2,q3,q4,q5,q6,q7,q8,q9⟩:=h;exact ⟨q1.q hb,q2.q hb,q3,q4,Hq q5 hb.size,q6,q7,Hq q8 hb.size,q9⟩
abbrev Lh (C l1 h1 l2 h2:Nat):Prop:=(C<l1∨h1<=C)/\(C<l2∨h2<=C)
theorem KC.new {n l1 h1 l2 h2:Nat} {X:World} {u1 u2:Value} {x:Le} (h:KC n X u1 u2 x l1 h1 l2 h2) {C:Nat} (hC:X.heap.size<=C):Lh C l1 h1 l2 h2:=⟨.inr (Hq h.2.2.2.2.1 hC),.inr (Hq h.2.2.2.2.2.2.2.1 hC)⟩
theorem KC.put {n l1 h1 l2 h2 C:Nat} {X Y:World} {u1 u2:Value} {x:Le} (h:KC n X u1 u2 x l1 h1 l2 h2) (e:Lh C l1 h1 l2 h2) (hz:Y.heap.size=X.heap.size) (sp:∀ b,¬ b=C->Sm X Y b):KC n Y u1 u2 x l1 h1 l2 h2:=by
 obtain ⟨q1,q2,q3,q4,q5,q6,q7,q8,q9⟩:=h;obtain ⟨e1,e2⟩:=e;exact ⟨q1.sm (Hl hz.symm) (fun b _ _=>sp b (by omega)),q2.sm (Hl hz.symm) (fun b _ _=>sp b (by omega)),q3,q4,by omega,q6,q7,by omega,q9⟩
abbrev Bb (n:Nat) (X:World) (C:Nat) (l:List Value):Prop:=Bk X C l/\n<=C
theorem Bb.q {n C:Nat} {X Y:World} {l:List Value} (h:Bb n X C l) (hb:Below X.heap.size X Y):Bb n Y C l:=⟨h.1.q hb,h.2⟩
theorem Bb.put {n C D:Nat} {X Y:World} {l:List Value} (h:Bb n X C l) (hz:Y.heap.size=X.heap.size) (sp:∀ b,¬ b=D->Sm X Y b) (hn:¬ C=D):Bb n Y C l:=⟨h.1.sm (Hl hz.symm) (sp _ hn),h.2⟩
section
variable {P:Program} {ops:Array Oper} {Q:Exit->Act->World->Prop} {md:Region.Mode} {S:World->Prop}
theorem Lc (rs:List Nat) {ab:Nat} {aa:Array Bool} {a:Act} {w:World} (h:AllReadyH P md ops Q S ab aa a w rs) (hr:Region.ready md ops aa=rs:=by as_aux_lemma=>kernel_rfl) (hne:rs≠[]:=by simp):wpAnyH P md ops Q S (ab+1) aa a w:=y9 rs h hr hne
theorem Ld (i:Nat) {o:Oper} {ab:Nat} {aa:Array Bool} {a:Act} {w:World} (ho:ops[i]? = some o)
 (h:∀ K':Act->World->Prop,Shut (∀ a w,S w->(S w->wpAnyH P md ops Q S ab (aa.setIfInBounds i true) a w)->K' a w)->if Region.wanted o (yielded ops a.tmps)=true then Oper.wp P o a w K' Q else K' (a.put o.dst undef) w)
 (hr:Region.ready md ops aa=[i]:=by as_aux_lemma=>kernel_rfl):wpAnyH P md ops Q S (ab+1) aa a w:=di i ho h hr
theorem Lj (i:Nat) {oi:Oper} (v:Value) {ab:Nat} {aa:Array Bool} {a:Act} {w:World} (hi:ops[i]? = some oi) (h:wpAnyH P md ops Q S ab (aa.setIfInBounds i true) (a.put oi.dst v) w)
 (hy:∀ w,S w->(execOp a.eval oi).run P w=.ok (.value v) w:=by intro wx ac;obtain ⟨ae,ad⟩:=iZ ac;(try simp only [aT]);go_simp) (hs:Region.noSelect ops=true:=by as_aux_lemma=>kernel_rfl) (hf:Region.free md ops aa i=true:=by as_aux_lemma=>kernel_rfl) (hr:(Region.ready md ops aa).contains i=true:=by as_aux_lemma=>kernel_rfl)
 (hQ:∀ c a w,Q (.panic c) (a.put oi.dst v) w->Q (.panic c) a w:=by exact fun _ _ _ h=>h) (hw:Region.wanted oi (yielded ops a.tmps)=true:=by rfl) (hS:S w:=by assumption):wpAnyH P md ops Q S (ab+1) aa a w :=bF i v hi h hy hs hf hr hQ hw hS rfl
end
theorem GV {n:Nat} {W:World} (X:World) (l:List Value) (ty:TypeId) (hH:Below n W X) (hn:n<=W.heap.size):∃ C Y,C=X.heap.size/\Y=X.alloc (.cells l.toArray ty)/\Below X.heap.size X Y/\bY (Bb n Y C l):=by
 obtain ⟨Y,e,hb,hY,_⟩:=bx1 X l ty;exact ⟨_,Y,rfl,e,hb,hY,Hq hn hH.size⟩
theorem KR {n C:Nat} {W X:World} {z:List Value} (l:List Value) (hH:Below n W X) (h:Bb n X C z) (hl:l.length=z.length):∃ Y,Y=qg C l 0 X/\Below n W Y/\Y.heap.size=X.heap.size/\(∀ b,¬ b=C->Sm X Y b)/\bY (Bb n Y C l):=⟨_,rfl,gu h.2 l 0 hH,size_put _ _ _ _,fun _ hb=>jQ hb l 0 X,jM h.1 hl,h.2⟩
abbrev Rl (W wx:World) (x:Le) (sa sb sc sd:Value):Prop:=∃ C1 C2 l1 h1 l2 h2 a1 k1 a2 k2 a3 k3 a4 k4 s1 i1 s2 i2 s3 i3 s4 i4 s5 i5,zP C1 0=sa/\zP C2 0=sb/\zI x.k=sc/\zI x.r=sd/\Bb W.heap.size wx C1 [zI x.g,zI x.p,zI x.U.c,.slice a1 x.U.nW k1,zI x.U.g,.slice a2 x.U.nO k2,.slice a3 x.U.nX k3,.slice a4 x.U.nI k4]/\Bb W.heap.size wx C2 [zI x.a,zI x.V.c,.slice s1 x.V.nW i1,zI x.V.g,.slice s2 x.V.nO i2,.slice s3 x.V.nX i3,.slice s4 x.V.nI i4,.slice s5 x.n i5]/\KC W.heap.size wx (.agg [zI x.g,zI x.p,zI x.U.c,.slice a1 x.U.nW k1,zI x.U.g,.slice a2 x.U.nO k2,.slice a3 x.U.nX k3,.slice a4 x.U.nI k4].toArray) (.agg [zI x.a,zI x.V.c,.slice s1 x.V.nW i1,zI x.V.g,.slice s2 x.V.nO i2,.slice s3 x.V.nX i3,.slice s4 x.V.nI i4,.slice s5 x.n i5].toArray) x l1 h1 l2 h2/\Lh C1 l1 h1 l2 h2/\Lh C2 l1 h1 l2 h2/\¬ C1=C2/\Below W.heap.size W wx
structure Kp (p:Prop):Prop where
 o:p
theorem share {T G:Prop} (main:Kp T->G) (prf:T):G:=main ⟨prf⟩
theorem Jv (c d g p a:Int) (R:Nat->Int) (U V:CV) (Z:Nat->Nat->Int) (u1:Option Addr) (q1:Nat) (u2:Option Addr) (q2:Nat) (u3:Option Addr) (q3:Nat) (u4:Option Addr) (q4:Nat) (aW:Option Addr) (kW:Nat) (aO:Option Addr) (kO:Nat) (aX:Option Addr) (kX:Nat) (aI:Option Addr) (kI:Nat) (aR:Option Addr) (nR kR:Nat) (lL:U.short maxLen) (lk:V.short maxLen) (hn:nR<=maxLen) (gH:∀ k,k<U.nW->(Lit.int .i64 (U.W k 0)).wf=true) (hy:∀ k,k<V.nW->(Lit.int .i64 (V.W k 0)).wf=true) (fs:∀ k j,k<nR->j<16->(Lit.int .i64 (Z k j)).wf=true) (fx:∀ j,j<16->(Lit.int .i64 (R j)).wf=true) (w:World)
 (fe:w.cell? (zA 0 0)=some (.iface 257 (.agg #[zP 1 204]))) (lg:iO w (.agg (zD U u1 q1 u2 q2 u3 q3 u4 q4).toArray) U) (h0:iO w (.agg (zD V aW kW aO kO aX kX aI kI).toArray) V) (kt:P16.qA w aR nR Z) :
 Hz 4 #[.agg #[zI c,zI d],KG g p (zD U u1 q1 u2 q2 u3 q3 u4 q4),Am a (zD V aW kW aO kO aX kX aI kI) (.slice aR nR kR),.agg (zR R).toArray] w fun e w'=>e=.returned (.bool true)/\Below w.heap.size w w':=by
 have hu:=fQ lL;have hs:=fQ lk;have dl:=fQ gH;have eM:=fQ hy;have es:=fQ fs;have cJ:=fQ fx;have ek:=fQ fe;have am:0<w.heap.size:=World.block_lt_of_cell? w (zA 0 0) fe;have HU:=fQ lg;have HC:=fQ h0;have HR:=fQ kt;clear lL lk gH hy fs fx fe lg h0 kt;go_enter Tryz.func4,Tryz.ntmps4;go_wp2_with fail;obtain ⟨w0,e0,B1,M1,H1,S1,K1,nr⟩:=F8 w [zI c,zI d] 23 [zI g,zI p,zI U.c,.slice u1 U.nW q1,zI U.g,.slice u2 U.nO q2,.slice u3 U.nX q3,.slice u4 U.nI q4] 53 [zI a,zI V.c,.slice aW V.nW kW,zI V.g,.slice aO V.nO kO,.slice aX V.nX kX,.slice aI V.nI kI,.slice aR nR kR] 31 (zR R) 61;rw [<-e0];clear e0;refine (KO g p U u1 q1 u2 q2 u3 q3 u4 q4 hu.o _ (dw HU.o B1.o)).mono ?_;rintro e w1 ⟨⟨z,rfl,hr⟩,hb⟩;have mm:=hb.size;have B2:=fQ (ah B1.o hb);have M2:=fQ (M1.o.q hb);have H2:=fQ (H1.o.q hb);have S2:=fQ (S1.o.q hb);have K2:=fQ (K1.o.q hb);clear B1 M1 H1 S1 K1 hb;rcases hr with hr | ⟨r0,r1,r2,r3⟩
 ·go_wp2;go_ret;exact ⟨rfl,B2.o⟩
 have kc:=fQ r3;have mw:=fQ r1;have ae:=fQ r2;clear r2 r3 hu r1;have y0:=S2.o.a8;have e9:w.heap.size+1+1<w1.heap.size:=S2.o.1;go_wp2_with fail;clear y0 e9;refine (Ko z ⟨r0,mw.o⟩ a V aW kW aO kO aX kX aI kI aR nR kR hs.o hn _ (dw HC.o B2.o)).mono ?_;rintro e w2 ⟨⟨r,rfl,hr⟩,hb⟩;have mc:=hb.size;have B3:=fQ (ah B2.o hb);have M3:=fQ (M2.o.q hb);have H3:=fQ (H2.o.q hb);have S3:=fQ (S2.o.q hb);have K3:=fQ (K2.o.q hb);clear B2 M2 H2 S2 K2 hb;rcases hr with hr | ⟨t0,t1,t2,t3⟩
 ·go_wp2;go_ret;exact ⟨rfl,B3.o⟩
 have mh:=fQ t2;have hS:=fQ (And.intro t1 t3);clear t1 t2 t3 hs;have HV:bY V.few:=uT hS.o.1 mh.o;have kw:bY U.few:=uT ae.o kc.o;have HF:=fQ (KN c d g p U a V nR Z R ae.o kw.o hS.o.1 HV.o hS.o.2 (JS ae.o kc.o));obtain ⟨x,ex⟩:∃ x,x=IW c d g p U a V nR Z R:=⟨_,rfl⟩;rw [<-ex] at HF;have EX:=fQ ex;clear ex;obtain ⟨m0,m1⟩:=M3.o.a2;have gP:w.heap.size<w2.heap.size:=M3.o.1;have x0:=H3.o.a8;have ic:w.heap.size+1<w2.heap.size:=H3.o.1;have y0:=S3.o.a8;have e9:w.heap.size+1+1<w2.heap.size:=S3.o.1;go_upto_region 8 with fail;go_cut [10,11,12,13] (fun sa sb sc sd wx=>Rl w2 wx x sa sb sc sd)
 case first=>
  refine Hu (S:=fun w'=>Below (w2.heap.size) w2 w') (by as_aux_lemma=>kernel_rfl) ((Hr _ _).drew) ?_;intro af;obtain ⟨X,hX⟩:∃ X,X=w2.drew:=⟨_,rfl⟩;rw [<-hX] at af ⊢;clear hX;refine Lj 0 (.agg #[zI c,zI d]) rfl ?_;try simp only [aT]
  refine Lj 2 (KG g p (zD U u1 q1 u2 q2 u3 q3 u4 q4)) rfl ?_;try simp only [aT]
  refine Lj 4 (Am a (zD V aW kW aO kO aX kX aI kI) (.slice aR nR kR)) rfl ?_;try simp only [aT]
  refine dY 6 (.agg (zR R).toArray) rfl ?_ ?_
  ·intro wx ch;obtain ⟨lz,l0⟩:=iZ ch;have hl:=Jg (K3.o.q ch) rfl;go_simp
  revert af;revert X;apply share;case' main=>intro fS
  apply share;case' main=>intro bj
  apply share;case' main=>intro cp
  apply share;case' main=>intro dx
  apply share;case' main=>intro gw
  apply share;case' main=>intro b3
  apply share;case' main=>intro ef
  apply share;case' main=>intro ed
  apply share;case' main=>intro gt
  apply share;case' main=>intro bN
  apply share;case' main=>intro cS
  apply share;case' main=>intro eU
  apply share;case' main=>intro iu
  apply share;case' main=>intro bv
  apply share;case' main=>intro cB
  apply share;case' main=>intro cw
  apply share;case' main=>intro hF
  apply share;case' main=>intro bd
  apply share;case' main=>intro dz
  apply share;case' main=>intro ee
  apply share;case' main=>intro fI
  apply share;case' main=>intro dj
  apply share;case' main=>intro hd
  apply share;case' main=>intro gn
  ·intro X af;refine Lc [1,14,15] (AllReadyH.cons rfl (fun K hK=>?_) (AllReadyH.cons rfl (fun K hK=>?_) (AllReadyH.cons rfl (fun K hK=>?_) AllReadyH.nil)))
   ·go_simp;go_wp2_with fail;refine (uy c d _).mono ?_;rintro e X1 ⟨rfl,hb⟩;refine hK.out _ _ (ah af hb) (fun ai=>?_);replace af:=ai;clear hK K ai hb;clear X;try simp only [aT]
    revert af;revert X1;exact fI.o
   ·go_simp;obtain ⟨CA,X1,eC,eY,hb,YA⟩:=GV X Ja 38 af (Ho _);rw [<-eY,<-eC];clear eC eY;refine hK.out _ _ (ah af hb) (fun ai=>?_);replace af:=ai;clear hK K ai hb;clear X;try simp only [aT]
    revert YA;revert af;revert CA;revert X1;exact hd.o
   go_simp;obtain ⟨CD,X1,eC,eY,hb,YB⟩:=GV X z8 41 af (Ho _);rw [<-eY,<-eC];clear eC eY;refine hK.out _ _ (ah af hb) (fun ai=>?_);replace af:=ai;clear hK K ai hb;clear X;try simp only [aT]
   revert YB;revert af;revert CD;revert X1;exact gn.o
  ·intro X CD af YB;refine Lc [1,14] (AllReadyH.cons rfl (fun K hK=>?_) (AllReadyH.cons rfl (fun K hK=>?_) AllReadyH.nil))
   ·go_simp;go_wp2_with fail;refine (uy c d _).mono ?_;rintro e X1 ⟨rfl,hb⟩;replace YB:=fQ (YB.o.q hb);refine hK.out _ _ (ah af hb) (fun ai=>?_);replace af:=ai;clear hK K ai hb;clear X;try simp only [aT]
    revert YB;revert af;revert CD;revert X1;exact ee.o
   go_simp;obtain ⟨CA,X1,eC,eY,hb,YA⟩:=GV X Ja 38 af (Ho _);rw [<-eY,<-eC];have aa:¬ CA=CD:=by have:=YB.o.1.1;omega
   replace YB:=fQ (YB.o.q hb);clear eC eY;refine hK.out _ _ (ah af hb) (fun ai=>?_);replace af:=ai;clear hK K ai hb;clear X;try simp only [aT]
   revert aa;revert YB;revert YA;revert af;revert CD;revert CA;revert X1;exact dj.o
  ·intro X CA af YA;refine Lc [1,15] (AllReadyH.cons rfl (fun K hK=>?_) (AllReadyH.cons rfl (fun K hK=>?_) AllReadyH.nil))
   ·go_simp;go_wp2_with fail;refine (uy c d _).mono ?_;rintro e X1 ⟨rfl,hb⟩;replace YA:=fQ (YA.o.q hb);refine hK.out _ _ (ah af hb) (fun ai=>?_);replace af:=ai;clear hK K ai hb;clear X;try simp only [aT]
    revert YA;revert af;revert CA;revert X1;exact dz.o
   go_simp;obtain ⟨CD,X1,eC,eY,hb,YB⟩:=GV X z8 41 af (Ho _);rw [<-eY,<-eC];have aa:¬ CA=CD:=by have:=YA.o.1.1;omega
   replace YA:=fQ (YA.o.q hb);clear eC eY;refine hK.out _ _ (ah af hb) (fun ai=>?_);replace af:=ai;clear hK K ai hb;clear X;try simp only [aT]
   exact dj.o X1 CA CD af YA YB aa
  ·intro X CA CD af YA YB aa;refine Ld 1 rfl fun K hK=>?_;go_simp;go_wp2_with fail;refine (uy c d _).mono ?_;rintro e X1 ⟨rfl,hb⟩;replace YA:=fQ (YA.o.q hb);replace YB:=fQ (YB.o.q hb);refine hK.out _ _ (ah af hb) (fun ai=>?_);replace af:=ai;clear hK K ai hb;clear X;try simp only [aT]
   revert aa;revert YB;revert YA;revert af;revert CD;revert CA;revert X1;exact bd.o
  ·intro X af;refine Lc [3,14,15] (AllReadyH.cons rfl (fun K hK=>?_) (AllReadyH.cons rfl (fun K hK=>?_) (AllReadyH.cons rfl (fun K hK=>?_) AllReadyH.nil)))
   ·go_simp;go_wp2_with fail;refine (I5 g p U u1 q1 u2 q2 u3 q3 u4 q4 ae.o _ (dw HU.o (ah B3.o af))).mono ?_;rintro e X1 ⟨⟨bW,bO,bX,bI,rfl,hO⟩,hb⟩;have FU:=fQ (hO.low af.size);clear hO;refine hK.out _ _ (ah af hb) (fun ai=>?_);replace af:=ai;clear hK K ai hb;clear X;try simp only [aT]
    revert FU;revert af;revert bI;revert bX;revert bO;revert bW;revert X1;exact hF.o
   ·go_simp;obtain ⟨CA,X1,eC,eY,hb,YA⟩:=GV X Ja 38 af (Ho _);rw [<-eY,<-eC];clear eC eY;refine hK.out _ _ (ah af hb) (fun ai=>?_);replace af:=ai;clear hK K ai hb;clear X;try simp only [aT]
    exact dz.o X1 CA af YA
   go_simp;obtain ⟨CD,X1,eC,eY,hb,YB⟩:=GV X z8 41 af (Ho _);rw [<-eY,<-eC];clear eC eY;refine hK.out _ _ (ah af hb) (fun ai=>?_);replace af:=ai;clear hK K ai hb;clear X;try simp only [aT]
   exact ee.o X1 CD af YB
  ·intro X CD af YB;refine Lc [3,14] (AllReadyH.cons rfl (fun K hK=>?_) (AllReadyH.cons rfl (fun K hK=>?_) AllReadyH.nil))
   ·go_simp;go_wp2_with fail;refine (I5 g p U u1 q1 u2 q2 u3 q3 u4 q4 ae.o _ (dw HU.o (ah B3.o af))).mono ?_;rintro e X1 ⟨⟨bW,bO,bX,bI,rfl,hO⟩,hb⟩;have FU:=fQ (hO.low af.size);clear hO;replace YB:=fQ (YB.o.q hb);refine hK.out _ _ (ah af hb) (fun ai=>?_);replace af:=ai;clear hK K ai hb;clear X;try simp only [aT]
    revert YB;revert FU;revert af;revert CD;revert bI;revert bX;revert bO;revert bW;revert X1;exact cw.o
   go_simp;obtain ⟨CA,X1,eC,eY,hb,YA⟩:=GV X Ja 38 af (Ho _);rw [<-eY,<-eC];have aa:¬ CA=CD:=by have:=YB.o.1.1;omega
   replace YB:=fQ (YB.o.q hb);clear eC eY;refine hK.out _ _ (ah af hb) (fun ai=>?_);replace af:=ai;clear hK K ai hb;clear X;try simp only [aT]
   exact bd.o X1 CA CD af YA YB aa
  ·intro X CA af YA;refine Lc [3,15] (AllReadyH.cons rfl (fun K hK=>?_) (AllReadyH.cons rfl (fun K hK=>?_) AllReadyH.nil))
   ·go_simp;go_wp2_with fail;refine (I5 g p U u1 q1 u2 q2 u3 q3 u4 q4 ae.o _ (dw HU.o (ah B3.o af))).mono ?_;rintro e X1 ⟨⟨bW,bO,bX,bI,rfl,hO⟩,hb⟩;have FU:=fQ (hO.low af.size);clear hO;replace YA:=fQ (YA.o.q hb);refine hK.out _ _ (ah af hb) (fun ai=>?_);replace af:=ai;clear hK K ai hb;clear X;try simp only [aT]
    revert YA;revert FU;revert af;revert CA;revert bI;revert bX;revert bO;revert bW;revert X1;exact cB.o
   go_simp;obtain ⟨CD,X1,eC,eY,hb,YB⟩:=GV X z8 41 af (Ho _);rw [<-eY,<-eC];have aa:¬ CA=CD:=by have:=YA.o.1.1;omega
   replace YA:=fQ (YA.o.q hb);clear eC eY;refine hK.out _ _ (ah af hb) (fun ai=>?_);replace af:=ai;clear hK K ai hb;clear X;try simp only [aT]
   exact bd.o X1 CA CD af YA YB aa
  ·intro X CA CD af YA YB aa;refine Ld 3 rfl fun K hK=>?_;go_simp;go_wp2_with fail;refine (I5 g p U u1 q1 u2 q2 u3 q3 u4 q4 ae.o _ (dw HU.o (ah B3.o af))).mono ?_;rintro e X1 ⟨⟨bW,bO,bX,bI,rfl,hO⟩,hb⟩;have FU:=fQ (hO.low af.size);clear hO;replace YA:=fQ (YA.o.q hb);replace YB:=fQ (YB.o.q hb);refine hK.out _ _ (ah af hb) (fun ai=>?_);replace af:=ai;clear hK K ai hb;clear X;try simp only [aT]
   revert aa;revert YB;revert YA;revert FU;revert af;revert CD;revert CA;revert bI;revert bX;revert bO;revert bW;revert X1;exact bv.o
  ·intro X bW bO bX bI af FU;refine Lc [5,14,15] (AllReadyH.cons rfl (fun K hK=>?_) (AllReadyH.cons rfl (fun K hK=>?_) (AllReadyH.cons rfl (fun K hK=>?_) AllReadyH.nil)))
   ·go_simp;go_wp2_with fail;refine (jV a V Z aW kW aO kO aX kX aI kI aR nR kR hS.o.1 hS.o.2 _ (dw HC.o (ah B3.o af)) (P16.iL HR.o (ah B3.o af))).mono ?_;rintro e X1 ⟨⟨dW,dO,dX,dI,dR,rfl,hO,h3,h4,-,-⟩,hb⟩;have FS:bY (Kr w2.heap.size X1 dW dO dX dI dR V nR Z):=⟨hO.low af.size,h3,h4⟩;clear hO h3 h4;replace FU:=fQ (FU.o.q hb);refine hK.out _ _ (ah af hb) (fun ai=>?_);replace af:=ai;clear hK K ai hb;clear X;try simp only [aT]
    revert FS;revert FU;revert af;revert dR;revert dI;revert dX;revert dO;revert dW;revert bI;revert bX;revert bO;revert bW;revert X1;exact iu.o
   ·go_simp;obtain ⟨CA,X1,eC,eY,hb,YA⟩:=GV X Ja 38 af (Ho _);rw [<-eY,<-eC];replace FU:=fQ (FU.o.q hb);clear eC eY;refine hK.out _ _ (ah af hb) (fun ai=>?_);replace af:=ai;clear hK K ai hb;clear X;try simp only [aT]
    exact cB.o X1 bW bO bX bI CA af FU YA
   go_simp;obtain ⟨CD,X1,eC,eY,hb,YB⟩:=GV X z8 41 af (Ho _);rw [<-eY,<-eC];replace FU:=fQ (FU.o.q hb);clear eC eY;refine hK.out _ _ (ah af hb) (fun ai=>?_);replace af:=ai;clear hK K ai hb;clear X;try simp only [aT]
   exact cw.o X1 bW bO bX bI CD af FU YB
  ·intro X bW bO bX bI CD af FU YB;refine Lc [5,14] (AllReadyH.cons rfl (fun K hK=>?_) (AllReadyH.cons rfl (fun K hK=>?_) AllReadyH.nil))
   ·go_simp;go_wp2_with fail;refine (jV a V Z aW kW aO kO aX kX aI kI aR nR kR hS.o.1 hS.o.2 _ (dw HC.o (ah B3.o af)) (P16.iL HR.o (ah B3.o af))).mono ?_;rintro e X1 ⟨⟨dW,dO,dX,dI,dR,rfl,hO,h3,h4,-,-⟩,hb⟩;have FS:bY (Kr w2.heap.size X1 dW dO dX dI dR V nR Z):=⟨hO.low af.size,h3,h4⟩;clear hO h3 h4;replace FU:=fQ (FU.o.q hb);replace YB:=fQ (YB.o.q hb);refine hK.out _ _ (ah af hb) (fun ai=>?_);replace af:=ai;clear hK K ai hb;clear X;try simp only [aT]
    revert YB;revert FS;revert FU;revert af;revert CD;revert dR;revert dI;revert dX;revert dO;revert dW;revert bI;revert bX;revert bO;revert bW;revert X1;exact eU.o
   go_simp;obtain ⟨CA,X1,eC,eY,hb,YA⟩:=GV X Ja 38 af (Ho _);rw [<-eY,<-eC];have aa:¬ CA=CD:=by have:=YB.o.1.1;omega
   replace FU:=fQ (FU.o.q hb);replace YB:=fQ (YB.o.q hb);clear eC eY;refine hK.out _ _ (ah af hb) (fun ai=>?_);replace af:=ai;clear hK K ai hb;clear X;try simp only [aT]
   exact bv.o X1 bW bO bX bI CA CD af FU YA YB aa
  ·intro X bW bO bX bI CA af FU YA;refine Lc [5,15] (AllReadyH.cons rfl (fun K hK=>?_) (AllReadyH.cons rfl (fun K hK=>?_) AllReadyH.nil))
   ·go_simp;go_wp2_with fail;refine (jV a V Z aW kW aO kO aX kX aI kI aR nR kR hS.o.1 hS.o.2 _ (dw HC.o (ah B3.o af)) (P16.iL HR.o (ah B3.o af))).mono ?_;rintro e X1 ⟨⟨dW,dO,dX,dI,dR,rfl,hO,h3,h4,-,-⟩,hb⟩;have FS:bY (Kr w2.heap.size X1 dW dO dX dI dR V nR Z):=⟨hO.low af.size,h3,h4⟩;clear hO h3 h4;replace FU:=fQ (FU.o.q hb);replace YA:=fQ (YA.o.q hb);refine hK.out _ _ (ah af hb) (fun ai=>?_);replace af:=ai;clear hK K ai hb;clear X;try simp only [aT]
    revert YA;revert FS;revert FU;revert af;revert CA;revert dR;revert dI;revert dX;revert dO;revert dW;revert bI;revert bX;revert bO;revert bW;revert X1;exact cS.o
   go_simp;obtain ⟨CD,X1,eC,eY,hb,YB⟩:=GV X z8 41 af (Ho _);rw [<-eY,<-eC];have aa:¬ CA=CD:=by have:=YA.o.1.1;omega
   replace FU:=fQ (FU.o.q hb);replace YA:=fQ (YA.o.q hb);clear eC eY;refine hK.out _ _ (ah af hb) (fun ai=>?_);replace af:=ai;clear hK K ai hb;clear X;try simp only [aT]
   exact bv.o X1 bW bO bX bI CA CD af FU YA YB aa
  ·intro X bW bO bX bI CA CD af FU YA YB aa;refine Ld 5 rfl fun K hK=>?_;go_simp;go_wp2_with fail;refine (jV a V Z aW kW aO kO aX kX aI kI aR nR kR hS.o.1 hS.o.2 _ (dw HC.o (ah B3.o af)) (P16.iL HR.o (ah B3.o af))).mono ?_;rintro e X1 ⟨⟨dW,dO,dX,dI,dR,rfl,hO,h3,h4,-,-⟩,hb⟩;have FS:bY (Kr w2.heap.size X1 dW dO dX dI dR V nR Z):=⟨hO.low af.size,h3,h4⟩;clear hO h3 h4;replace FU:=fQ (FU.o.q hb);replace YA:=fQ (YA.o.q hb);replace YB:=fQ (YB.o.q hb);refine hK.out _ _ (ah af hb) (fun ai=>?_);replace af:=ai;clear hK K ai hb;clear X;try simp only [aT]
   revert aa;revert YB;revert YA;revert FS;revert FU;revert af;revert CD;revert CA;revert dR;revert dI;revert dX;revert dO;revert dW;revert bI;revert bX;revert bO;revert bW;revert X1;exact bN.o
  ·intro X bW bO bX bI dW dO dX dI dR af FU FS;refine Lc [7,14,15] (AllReadyH.cons rfl (fun K hK=>?_) (AllReadyH.cons rfl (fun K hK=>?_) (AllReadyH.cons rfl (fun K hK=>?_) AllReadyH.nil)))
   ·go_simp;go_wp2_with fail;refine (IZ R _).mono ?_;rintro e X1 ⟨rfl,hb⟩;replace FU:=fQ (FU.o.q hb);replace FS:=fQ (FS.o.q hb);refine hK.out _ _ (ah af hb) (fun ai=>?_);replace af:=ai;clear hK K ai hb;clear X;try simp only [aT]
    revert FS;revert FU;revert af;revert dR;revert dI;revert dX;revert dO;revert dW;revert bI;revert bX;revert bO;revert bW;revert X1;exact gt.o
   ·go_simp;obtain ⟨CA,X1,eC,eY,hb,YA⟩:=GV X Ja 38 af (Ho _);rw [<-eY,<-eC];replace FU:=fQ (FU.o.q hb);replace FS:=fQ (FS.o.q hb);clear eC eY;refine hK.out _ _ (ah af hb) (fun ai=>?_);replace af:=ai;clear hK K ai hb;clear X;try simp only [aT]
    exact cS.o X1 bW bO bX bI dW dO dX dI dR CA af FU FS YA
   go_simp;obtain ⟨CD,X1,eC,eY,hb,YB⟩:=GV X z8 41 af (Ho _);rw [<-eY,<-eC];replace FU:=fQ (FU.o.q hb);replace FS:=fQ (FS.o.q hb);clear eC eY;refine hK.out _ _ (ah af hb) (fun ai=>?_);replace af:=ai;clear hK K ai hb;clear X;try simp only [aT]
   exact eU.o X1 bW bO bX bI dW dO dX dI dR CD af FU FS YB
  ·intro X bW bO bX bI dW dO dX dI dR CD af FU FS YB;refine Lc [7,14] (AllReadyH.cons rfl (fun K hK=>?_) (AllReadyH.cons rfl (fun K hK=>?_) AllReadyH.nil))
   ·go_simp;go_wp2_with fail;refine (IZ R _).mono ?_;rintro e X1 ⟨rfl,hb⟩;replace FU:=fQ (FU.o.q hb);replace FS:=fQ (FS.o.q hb);replace YB:=fQ (YB.o.q hb);refine hK.out _ _ (ah af hb) (fun ai=>?_);replace af:=ai;clear hK K ai hb;clear X;try simp only [aT]
    revert YB;revert FS;revert FU;revert af;revert CD;revert dR;revert dI;revert dX;revert dO;revert dW;revert bI;revert bX;revert bO;revert bW;revert X1;exact ed.o
   go_simp;obtain ⟨CA,X1,eC,eY,hb,YA⟩:=GV X Ja 38 af (Ho _);rw [<-eY,<-eC];have aa:¬ CA=CD:=by have:=YB.o.1.1;omega
   replace FU:=fQ (FU.o.q hb);replace FS:=fQ (FS.o.q hb);replace YB:=fQ (YB.o.q hb);clear eC eY;refine hK.out _ _ (ah af hb) (fun ai=>?_);replace af:=ai;clear hK K ai hb;clear X;try simp only [aT]
   exact bN.o X1 bW bO bX bI dW dO dX dI dR CA CD af FU FS YA YB aa
  ·intro X bW bO bX bI dW dO dX dI dR CA af FU FS YA;refine Lc [7,15] (AllReadyH.cons rfl (fun K hK=>?_) (AllReadyH.cons rfl (fun K hK=>?_) AllReadyH.nil))
   ·go_simp;go_wp2_with fail;refine (IZ R _).mono ?_;rintro e X1 ⟨rfl,hb⟩;replace FU:=fQ (FU.o.q hb);replace FS:=fQ (FS.o.q hb);replace YA:=fQ (YA.o.q hb);refine hK.out _ _ (ah af hb) (fun ai=>?_);replace af:=ai;clear hK K ai hb;clear X;try simp only [aT]
    revert YA;revert FS;revert FU;revert af;revert CA;revert dR;revert dI;revert dX;revert dO;revert dW;revert bI;revert bX;revert bO;revert bW;revert X1;exact ef.o
   go_simp;obtain ⟨CD,X1,eC,eY,hb,YB⟩:=GV X z8 41 af (Ho _);rw [<-eY,<-eC];have aa:¬ CA=CD:=by have:=YA.o.1.1;omega
   replace FU:=fQ (FU.o.q hb);replace FS:=fQ (FS.o.q hb);replace YA:=fQ (YA.o.q hb);clear eC eY;refine hK.out _ _ (ah af hb) (fun ai=>?_);replace af:=ai;clear hK K ai hb;clear X;try simp only [aT]
   exact bN.o X1 bW bO bX bI dW dO dX dI dR CA CD af FU FS YA YB aa
  ·intro X bW bO bX bI dW dO dX dI dR CA CD af FU FS YA YB aa;refine Ld 7 rfl fun K hK=>?_;go_simp;go_wp2_with fail;refine (IZ R _).mono ?_;rintro e X1 ⟨rfl,hb⟩;replace FU:=fQ (FU.o.q hb);replace FS:=fQ (FS.o.q hb);replace YA:=fQ (YA.o.q hb);replace YB:=fQ (YB.o.q hb);refine hK.out _ _ (ah af hb) (fun ai=>?_);replace af:=ai;clear hK K ai hb;clear X;try simp only [aT]
   revert aa;revert YB;revert YA;revert FS;revert FU;revert af;revert CD;revert CA;revert dR;revert dI;revert dX;revert dO;revert dW;revert bI;revert bX;revert bO;revert bW;revert X1;exact b3.o
  ·intro X bW bO bX bI dW dO dX dI dR af FU FS;refine Lc [8,14,15] (AllReadyH.cons rfl (fun K hK=>?_) (AllReadyH.cons rfl (fun K hK=>?_) (AllReadyH.cons rfl (fun K hK=>?_) AllReadyH.nil)))
   ·go_simp;go_wp2_with fail;refine (IY c d g p a R U V _ _ bW bO bX bI dW dO dX dI dR nR Z ae.o hS.o.1 hS.o.2 _ FU.o.copy FS.o.1.copy FS.o.2.1 (P16.aZ FS.o.2.2)).mono ?_;rintro e X1 ⟨⟨va,vb,rfl,hA⟩,hb⟩;rw [<-EX.o] at hA ⊢;obtain ⟨l1,h1,l2,h2,gA,g1,g2⟩:=hA.f af.size;have AF:=fQ gA;clear hA gA g1 g2 FU FS;refine hK.out _ _ (ah af hb) (fun ai=>?_);replace af:=ai;clear hK K ai hb;clear X;try simp only [aT]
    refine Lj 9 (.tuple #[va,vb,zI x.k,zI x.r]) rfl ?_;try simp only [aT]
    refine Lj 10 (va) rfl ?_;try simp only [aT]
    refine Lj 11 (vb) rfl ?_;try simp only [aT]
    refine Lj 12 (zI x.k) rfl ?_;try simp only [aT]
    refine Lj 13 (zI x.r) rfl ?_;try simp only [aT]
    revert AF;revert af;revert h2;revert l2;revert h1;revert l1;revert vb;revert va;revert dR;revert dI;revert dX;revert dO;revert dW;revert bI;revert bX;revert bO;revert bW;revert X1;exact gw.o
   ·go_simp;obtain ⟨CA,X1,eC,eY,hb,YA⟩:=GV X Ja 38 af (Ho _);rw [<-eY,<-eC];replace FU:=fQ (FU.o.q hb);replace FS:=fQ (FS.o.q hb);clear eC eY;refine hK.out _ _ (ah af hb) (fun ai=>?_);replace af:=ai;clear hK K ai hb;clear X;try simp only [aT]
    exact ef.o X1 bW bO bX bI dW dO dX dI dR CA af FU FS YA
   go_simp;obtain ⟨CD,X1,eC,eY,hb,YB⟩:=GV X z8 41 af (Ho _);rw [<-eY,<-eC];replace FU:=fQ (FU.o.q hb);replace FS:=fQ (FS.o.q hb);clear eC eY;refine hK.out _ _ (ah af hb) (fun ai=>?_);replace af:=ai;clear hK K ai hb;clear X;try simp only [aT]
   exact ed.o X1 bW bO bX bI dW dO dX dI dR CD af FU FS YB
  ·intro X bW bO bX bI dW dO dX dI dR CD af FU FS YB;refine Lc [8,14] (AllReadyH.cons rfl (fun K hK=>?_) (AllReadyH.cons rfl (fun K hK=>?_) AllReadyH.nil))
   ·go_simp;go_wp2_with fail;refine (IY c d g p a R U V _ _ bW bO bX bI dW dO dX dI dR nR Z ae.o hS.o.1 hS.o.2 _ FU.o.copy FS.o.1.copy FS.o.2.1 (P16.aZ FS.o.2.2)).mono ?_;rintro e X1 ⟨⟨va,vb,rfl,hA⟩,hb⟩;rw [<-EX.o] at hA ⊢;obtain ⟨l1,h1,l2,h2,gA,g1,g2⟩:=hA.f af.size;have AF:=fQ gA;have eB:Lh CD l1 h1 l2 h2:=⟨.inl (Hg YB.o.1.1 g1),.inl (Hg YB.o.1.1 g2)⟩;clear hA gA g1 g2 FU FS;replace YB:=fQ (YB.o.q hb);refine hK.out _ _ (ah af hb) (fun ai=>?_);replace af:=ai;clear hK K ai hb;clear X;try simp only [aT]
    refine Lj 9 (.tuple #[va,vb,zI x.k,zI x.r]) rfl ?_;try simp only [aT]
    refine Lj 10 (va) rfl ?_;try simp only [aT]
    refine Lj 11 (vb) rfl ?_;try simp only [aT]
    refine Lj 12 (zI x.k) rfl ?_;try simp only [aT]
    refine Lj 13 (zI x.r) rfl ?_;try simp only [aT]
    revert eB;revert YB;revert AF;revert af;revert CD;revert h2;revert l2;revert h1;revert l1;revert vb;revert va;revert dR;revert dI;revert dX;revert dO;revert dW;revert bI;revert bX;revert bO;revert bW;revert X1;exact dx.o
   go_simp;obtain ⟨CA,X1,eC,eY,hb,YA⟩:=GV X Ja 38 af (Ho _);rw [<-eY,<-eC];have aa:¬ CA=CD:=by have:=YB.o.1.1;omega
   replace FU:=fQ (FU.o.q hb);replace FS:=fQ (FS.o.q hb);replace YB:=fQ (YB.o.q hb);clear eC eY;refine hK.out _ _ (ah af hb) (fun ai=>?_);replace af:=ai;clear hK K ai hb;clear X;try simp only [aT]
   exact b3.o X1 bW bO bX bI dW dO dX dI dR CA CD af FU FS YA YB aa
  ·intro X bW bO bX bI dW dO dX dI dR CA af FU FS YA;refine Lc [8,15] (AllReadyH.cons rfl (fun K hK=>?_) (AllReadyH.cons rfl (fun K hK=>?_) AllReadyH.nil))
   ·go_simp;go_wp2_with fail;refine (IY c d g p a R U V _ _ bW bO bX bI dW dO dX dI dR nR Z ae.o hS.o.1 hS.o.2 _ FU.o.copy FS.o.1.copy FS.o.2.1 (P16.aZ FS.o.2.2)).mono ?_;rintro e X1 ⟨⟨va,vb,rfl,hA⟩,hb⟩;rw [<-EX.o] at hA ⊢;obtain ⟨l1,h1,l2,h2,gA,g1,g2⟩:=hA.f af.size;have AF:=fQ gA;have eA:Lh CA l1 h1 l2 h2:=⟨.inl (Hg YA.o.1.1 g1),.inl (Hg YA.o.1.1 g2)⟩;clear hA gA g1 g2 FU FS;replace YA:=fQ (YA.o.q hb);refine hK.out _ _ (ah af hb) (fun ai=>?_);replace af:=ai;clear hK K ai hb;clear X;try simp only [aT]
    refine Lj 9 (.tuple #[va,vb,zI x.k,zI x.r]) rfl ?_;try simp only [aT]
    refine Lj 10 (va) rfl ?_;try simp only [aT]
    refine Lj 11 (vb) rfl ?_;try simp only [aT]
    refine Lj 12 (zI x.k) rfl ?_;try simp only [aT]
    refine Lj 13 (zI x.r) rfl ?_;try simp only [aT]
    revert eA;revert YA;revert AF;revert af;revert CA;revert h2;revert l2;revert h1;revert l1;revert vb;revert va;revert dR;revert dI;revert dX;revert dO;revert dW;revert bI;revert bX;revert bO;revert bW;revert X1;exact cp.o
   go_simp;obtain ⟨CD,X1,eC,eY,hb,YB⟩:=GV X z8 41 af (Ho _);rw [<-eY,<-eC];have aa:¬ CA=CD:=by have:=YA.o.1.1;omega
   replace FU:=fQ (FU.o.q hb);replace FS:=fQ (FS.o.q hb);replace YA:=fQ (YA.o.q hb);clear eC eY;refine hK.out _ _ (ah af hb) (fun ai=>?_);replace af:=ai;clear hK K ai hb;clear X;try simp only [aT]
   exact b3.o X1 bW bO bX bI dW dO dX dI dR CA CD af FU FS YA YB aa
  ·intro X bW bO bX bI dW dO dX dI dR CA CD af FU FS YA YB aa;refine Ld 8 rfl fun K hK=>?_;go_simp;go_wp2_with fail;refine (IY c d g p a R U V _ _ bW bO bX bI dW dO dX dI dR nR Z ae.o hS.o.1 hS.o.2 _ FU.o.copy FS.o.1.copy FS.o.2.1 (P16.aZ FS.o.2.2)).mono ?_;rintro e X1 ⟨⟨va,vb,rfl,hA⟩,hb⟩;rw [<-EX.o] at hA ⊢;obtain ⟨l1,h1,l2,h2,gA,g1,g2⟩:=hA.f af.size;have AF:=fQ gA;have eA:Lh CA l1 h1 l2 h2:=⟨.inl (Hg YA.o.1.1 g1),.inl (Hg YA.o.1.1 g2)⟩;have eB:Lh CD l1 h1 l2 h2:=⟨.inl (Hg YB.o.1.1 g1),.inl (Hg YB.o.1.1 g2)⟩;clear hA gA g1 g2 FU FS;replace YA:=fQ (YA.o.q hb);replace YB:=fQ (YB.o.q hb);refine hK.out _ _ (ah af hb) (fun ai=>?_);replace af:=ai;clear hK K ai hb;clear X;try simp only [aT]
   refine Lj 9 (.tuple #[va,vb,zI x.k,zI x.r]) rfl ?_;try simp only [aT]
   refine Lj 10 (va) rfl ?_;try simp only [aT]
   refine Lj 11 (vb) rfl ?_;try simp only [aT]
   refine Lj 12 (zI x.k) rfl ?_;try simp only [aT]
   refine Lj 13 (zI x.r) rfl ?_;try simp only [aT]
   revert aa;revert eB;revert YB;revert eA;revert YA;revert AF;revert af;revert CD;revert CA;revert h2;revert l2;revert h1;revert l1;revert vb;revert va;revert dR;revert dI;revert dX;revert dO;revert dW;revert bI;revert bX;revert bO;revert bW;revert X1;exact bj.o
  ·intro X bW bO bX bI dW dO dX dI dR va vb l1 h1 l2 h2 af AF;refine Lc [14,15] (AllReadyH.cons rfl (fun K hK=>?_) (AllReadyH.cons rfl (fun K hK=>?_) AllReadyH.nil))
   ·go_simp;obtain ⟨CA,X1,eC,eY,hb,YA⟩:=GV X Ja 38 af (Ho _);rw [<-eY,<-eC];have eA:=AF.o.new (Hl eC.symm);replace AF:=fQ (AF.o.q hb);clear eC eY;refine hK.out _ _ (ah af hb) (fun ai=>?_);replace af:=ai;clear hK K ai hb;clear X;try simp only [aT]
    exact cp.o X1 bW bO bX bI dW dO dX dI dR va vb l1 h1 l2 h2 CA af AF YA eA
   go_simp;obtain ⟨CD,X1,eC,eY,hb,YB⟩:=GV X z8 41 af (Ho _);rw [<-eY,<-eC];have eB:=AF.o.new (Hl eC.symm);replace AF:=fQ (AF.o.q hb);clear eC eY;refine hK.out _ _ (ah af hb) (fun ai=>?_);replace af:=ai;clear hK K ai hb;clear X;try simp only [aT]
   exact dx.o X1 bW bO bX bI dW dO dX dI dR va vb l1 h1 l2 h2 CD af AF YB eB
  ·intro X bW bO bX bI dW dO dX dI dR va vb l1 h1 l2 h2 CD af AF YB eB;refine Ld 14 rfl fun K hK=>?_;go_simp;obtain ⟨CA,X1,eC,eY,hb,YA⟩:=GV X Ja 38 af (Ho _);rw [<-eY,<-eC];have eA:=AF.o.new (Hl eC.symm);have aa:¬ CA=CD:=by have:=YB.o.1.1;omega
   replace AF:=fQ (AF.o.q hb);replace YB:=fQ (YB.o.q hb);clear eC eY;refine hK.out _ _ (ah af hb) (fun ai=>?_);replace af:=ai;clear hK K ai hb;clear X;try simp only [aT]
   exact bj.o X1 bW bO bX bI dW dO dX dI dR va vb l1 h1 l2 h2 CA CD af AF YA eA YB eB aa
  ·intro X bW bO bX bI dW dO dX dI dR va vb l1 h1 l2 h2 CA af AF YA eA;refine Ld 15 rfl fun K hK=>?_;go_simp;obtain ⟨CD,X1,eC,eY,hb,YB⟩:=GV X z8 41 af (Ho _);rw [<-eY,<-eC];have eB:=AF.o.new (Hl eC.symm);have aa:¬ CA=CD:=by have:=YA.o.1.1;omega
   replace AF:=fQ (AF.o.q hb);replace YA:=fQ (YA.o.q hb);clear eC eY;refine hK.out _ _ (ah af hb) (fun ai=>?_);replace af:=ai;clear hK K ai hb;clear X;try simp only [aT]
   exact bj.o X1 bW bO bX bI dW dO dX dI dR va vb l1 h1 l2 h2 CA CD af AF YA eA YB eB aa
  ·intro X bW bO bX bI dW dO dX dI dR va vb l1 h1 l2 h2 CA CD af AF YA eA YB eB aa;refine Ld 16 rfl fun K hK=>?_;obtain ⟨a1,k1,a2,k2,a3,k3,a4,k4,rfl,-⟩:=AF.o.1;have f0:=YA.o.1.f8;have p0:=YA.o.1.a8;have bA:=YA.o.1.1;go_simp;obtain ⟨X1,e6,hN,ag,SP,Q6⟩:=KR [zI x.g,zI x.p,zI x.U.c,.slice a1 x.U.nW k1,zI x.U.g,.slice a2 x.U.nO k2,.slice a3 x.U.nX k3,.slice a4 x.U.nI k4] af YA.o rfl;simp only [qg] at e6;rw [<-e6];clear e6 f0 p0 bA;replace AF:=fQ (AF.o.put eA ag SP);replace YB:=fQ (YB.o.put ag SP (fun e=>aa e.symm));replace YA:=Q6;clear Q6 SP ag;refine hK.out _ _ hN (fun ai=>?_);replace af:=ai;clear hK K ai hN;clear X;try simp only [aT]
   revert aa;revert eB;revert YB;revert eA;revert YA;revert AF;revert af;revert CD;revert CA;revert h2;revert l2;revert h1;revert l1;revert vb;revert k4;revert k3;revert k2;revert k1;revert a4;revert a3;revert a2;revert a1;revert dR;revert dI;revert dX;revert dO;revert dW;revert bI;revert bX;revert bO;revert bW;revert X1;exact fS.o
  intro X bW bO bX bI dW dO dX dI dR a1 a2 a3 a4 k1 k2 k3 k4 vb l1 h1 l2 h2 CA CD af AF YA eA YB eB aa;refine Ld 17 rfl fun K hK=>?_;obtain ⟨s1,i1,s2,i2,s3,i3,s4,i4,s5,i5,_,_,_,rfl,_⟩:=AF.o.2.1;have f0:=YB.o.1.f8;have p0:=YB.o.1.a8;have bA:=YB.o.1.1;go_simp;obtain ⟨X1,e6,hN,ag,SP,Q6⟩:=KR [zI x.a,zI x.V.c,.slice s1 x.V.nW i1,zI x.V.g,.slice s2 x.V.nO i2,.slice s3 x.V.nX i3,.slice s4 x.V.nI i4,.slice s5 x.n i5] af YB.o rfl;simp only [qg] at e6;rw [<-e6];clear e6 f0 p0 bA;have A6:=AF.o.put eB ag SP;have Y6:=YA.o.put ag SP aa;clear AF YA;refine hK.out _ _ hN (fun ai=>?_);try simp only [aT]
  refine Lj 18 (zI x.k) rfl ?_;try simp only [aT]
  refine Lj 19 (zI x.r) rfl ?_;try simp only [aT]
  refine Hy (by as_aux_lemma=>kernel_rfl) ?_ _;go_wp2;go_meet
  case rel=>exact ⟨CA,CD,l1,h1,l2,h2,a1,k1,a2,k2,a3,k3,a4,k4,s1,i1,s2,i2,s3,i3,s4,i4,s5,i5,rfl,rfl,rfl,rfl,Y6,Q6,A6,eA,eB,aa,hN⟩
 case rest=>
  clear m0 m1 gP;clear x0 ic;clear y0 e9;obtain ⟨w3,hv⟩:∃ wn,wn=wc:=⟨_,rfl⟩;subst hv;obtain ⟨C1,C2,L1,J1,L2,J2,n3,ol,mI,mU,pc,op,nj,o4,mK,oF,na,od,oa,nd,o1,o6,mH,n9,rfl,rfl,rfl,rfl,⟨bx,c1⟩,⟨b0,c3⟩,⟨ds,cr,c5,c6,c7,c8,c9,n7,o5⟩,⟨nv,n2⟩,⟨nu,np⟩,n8,hb⟩:=hcut;have c2:=bx.1;have c4:=b0.1;have oc:w.heap.size+4<=w2.heap.size:=by omega
  have mm:=hb.size;have ke:=fQ (ah B3.o hb);have lT:=fQ (M3.o.q hb);have j0:=fQ (H3.o.q hb);have km:=fQ (S3.o.q hb);have lB:=fQ (K3.o.q hb);clear B3 M3 H3 S3 K3;clear hb;have kv:=fQ bx;clear bx;have k9:=fQ b0;clear b0;have lw:=fQ ds;clear ds;have lW:=fQ cr;clear cr;have x0:=j0.o.a8;have ic:w.heap.size+1<w3.heap.size:=j0.o.1;go_wp2_with fail;clear x0 ic;refine (I5 g p U u1 q1 u2 q2 u3 q3 u4 q4 ae.o _ (dw HU.o ke.o)).mono ?_;rintro e w4 ⟨⟨jW,jO,jX,jI,rfl,hC⟩,hb⟩;have mc:=hb.size;have le:=fQ (ah ke.o hb);have k8:=fQ (lT.o.q hb);have lM:=fQ (j0.o.q hb);have lO:=fQ (km.o.q hb);have lh:=fQ (lB.o.q hb);have hH:=fQ (kv.o.q hb);have jp:=fQ (k9.o.q hb);have hE:=fQ (lw.o.q hb);have hT:=fQ (lW.o.q hb);clear ke lT j0 km lB kv k9 lw lW;have ll:=fQ hC;have ki:bY (Jj w3.heap.size w4.heap.size w4 (.agg [zI g,zI p,zI U.c,zS jW U.nW U.nW,zI U.g,zS jO U.nO U.nO,zS jX U.nX U.nX,zS jI U.nI U.nI].toArray) g p U):=JI hb.size hC;clear hb hC;go_upto_region 10 with fail;obtain ⟨w5,en,hb,hX,mT⟩:=bx1 w4 [zI g,zI p,zI U.c,zS jW U.nW U.nW,zI U.g,zS jO U.nO U.nO,zS jX U.nX U.nX,zS jI U.nI U.nI] 38;rw [<-en];clear en;obtain ⟨ba,jx⟩:∃ z,z=w4.heap.size:=⟨_,rfl⟩;rw [<-jx] at hX ⊢;have m9:=Hl jx;have oA:=Hl jx.symm;clear jx;have ox:=hb.size;have j4:=fQ (ah le.o hb);have lA:=fQ (k8.o.q hb);have kx:=fQ (lM.o.q hb);have j1:=fQ (lO.o.q hb);have kF:=fQ (lh.o.q hb);have hh:=fQ (hH.o.q hb);have i7:=fQ (jp.o.q hb);have hV:=fQ (hE.o.q hb);have hi:=fQ (hT.o.q hb);have iB:=fQ (ll.o.q hb);have hZ:=fQ (ki.o.q hb);clear le k8 lM lO lh hH jp hE hT ll ki;have o0:w4.heap.size<w5.heap.size:=by omega
  have kJ:=fQ hX;clear hb hX;have y0:=j1.o.a8;have e9:w.heap.size+1+1<w5.heap.size:=j1.o.1;go_wp2_with fail;clear y0 e9;refine (jV a V Z aW kW aO kO aX kX aI kI aR nR kR hS.o.1 hS.o.2 _ (dw HC.o j4.o) (P16.iL HR.o j4.o)).mono ?_;rintro e w6 ⟨⟨oW,oO,oX,oI,oR,rfl,hC,lr,fl,gL,j6⟩,hb⟩;have oe:=hb.size;have kN:=fQ (ah j4.o hb);have kz:=fQ (lA.o.q hb);have lc:=fQ (kx.o.q hb);have l8:=fQ (j1.o.q hb);have lx:=fQ (kF.o.q hb);have hw:=fQ (hh.o.q hb);have fR:=fQ (i7.o.q hb);have iS:=fQ (hV.o.q hb);have gk:=fQ (hi.o.q hb);have ij:=fQ (iB.o.q hb);have i0:=fQ (hZ.o.q hb);have gv:=fQ (kJ.o.q hb);clear j4 lA kx j1 kF hh i7 hV hi iB hZ kJ;have lj:=fQ hC;have kq:=fQ fl;have ks:bY (Ih w5.heap.size w6.heap.size w6 (.agg [zI a,zI V.c,zS oW V.nW V.nW,zI V.g,zS oO V.nO V.nO,zS oX V.nX V.nX,zS oI V.nI V.nI,zS oR nR nR].toArray) a V nR Z):=JB gL j6 lr fl;clear hb hC fl gL;go_upto_region 11 with fail;obtain ⟨w7,en,hb,hX,nP⟩:=bx1 w6 [zI a,zI V.c,zS oW V.nW V.nW,zI V.g,zS oO V.nO V.nO,zS oX V.nX V.nX,zS oI V.nI V.nI,zS oR nR nR] 41;rw [<-en];clear en;obtain ⟨bb,j5⟩:∃ z,z=w6.heap.size:=⟨_,rfl⟩;rw [<-j5] at hX ⊢;have n1:=Hl j5;have nE:=Hl j5.symm;clear j5;have mL:=hb.size;have fk:=fQ (ah kN.o hb);have jz:=fQ (kz.o.q hb);have l9:=fQ (lc.o.q hb);have lE:=fQ (l8.o.q hb);have kh:=fQ (lx.o.q hb);have gi:=fQ (hw.o.q hb);have fy:=fQ (fR.o.q hb);have i9:=fQ (iS.o.q hb);have gl:=fQ (gk.o.q hb);have bE:=fQ (ij.o.q hb);have iF:=fQ (i0.o.q hb);have b8:=fQ (gv.o.q hb);have b2:=fQ (lj.o.q hb);have bc:=fQ (P16.own_below kq.o (by omega) hb);have gY:=fQ (ks.o.q hb);clear kN kz lc l8 lx hw fR iS gk ij i0 gv lj kq ks;have oq:w6.heap.size<w7.heap.size:=by omega
  have j2:=fQ hX;clear hb hX;have al:oR<w7.heap.size:=by omega
  obtain ⟨m0,m1⟩:=jz.o.a2;have gP:w.heap.size<w7.heap.size:=jz.o.1;have x0:=b8.o.a8;have ak:ba<w7.heap.size:=b8.o.1;have y0:=j2.o.a8;have i8:bb<w7.heap.size:=j2.o.1;go_cut [16,17,18,19] (fun sa sb sc sd wx=>Rl w7 wx x sa sb sc sd)
  case first=>
   refine Hu (S:=fun w'=>Below (w7.heap.size) w7 w') (by as_aux_lemma=>kernel_rfl) ((Hr _ _).drew) ?_;intro af;obtain ⟨X,hX⟩:∃ X,X=w7.drew:=⟨_,rfl⟩;rw [<-hX] at af ⊢;clear hX;refine Lj 0 (.agg #[zI c,zI d]) rfl ?_;try simp only [aT]
   refine Lj 2 (.agg [zI g,zI p,zI U.c,zS jW U.nW U.nW,zI U.g,zS jO U.nO U.nO,zS jX U.nX U.nX,zS jI U.nI U.nI].toArray) rfl ?_;try simp only [aT]
   refine Lj 3 (.agg [zI a,zI V.c,zS oW V.nW V.nW,zI V.g,zS oO V.nO V.nO,zS oX V.nX V.nX,zS oI V.nI V.nI,zS oR nR nR].toArray) rfl ?_;try simp only [aT]
   refine dY 4 (.agg (zR R).toArray) rfl ?_ ?_
   ·intro wx ch;obtain ⟨lz,l0⟩:=iZ ch;have hl:=Jg (kh.o.q ch) rfl;go_simp
   revert af;revert X;apply share;case' main=>intro ii
   apply share;case' main=>intro bL
   apply share;case' main=>intro ew
   apply share;case' main=>intro e4
   apply share;case' main=>intro hp
   apply share;case' main=>intro bm
   apply share;case' main=>intro cc
   apply share;case' main=>intro cH
   apply share;case' main=>intro fO
   apply share;case' main=>intro bk
   apply share;case' main=>intro cn
   apply share;case' main=>intro ct
   apply share;case' main=>intro i6
   apply share;case' main=>intro cI
   apply share;case' main=>intro f4
   apply share;case' main=>intro gz
   ·intro X af;refine Lc [1,12,13] (AllReadyH.cons rfl (fun K hK=>?_) (AllReadyH.cons rfl (fun K hK=>?_) (AllReadyH.cons rfl (fun K hK=>?_) AllReadyH.nil)))
    ·go_simp;go_wp2_with fail;refine (uy c d _).mono ?_;rintro e X1 ⟨rfl,hb⟩;refine hK.out _ _ (ah af hb) (fun ai=>?_);replace af:=ai;clear hK K ai hb;clear X;try simp only [aT]
     revert af;revert X1;exact i6.o
    ·go_simp;obtain ⟨CA,X1,eC,eY,hb,YA⟩:=GV X Ja 38 af (Ho _);rw [<-eY,<-eC];clear eC eY;refine hK.out _ _ (ah af hb) (fun ai=>?_);replace af:=ai;clear hK K ai hb;clear X;try simp only [aT]
     revert YA;revert af;revert CA;revert X1;exact f4.o
    go_simp;obtain ⟨CD,X1,eC,eY,hb,YB⟩:=GV X z8 41 af (Ho _);rw [<-eY,<-eC];clear eC eY;refine hK.out _ _ (ah af hb) (fun ai=>?_);replace af:=ai;clear hK K ai hb;clear X;try simp only [aT]
    revert YB;revert af;revert CD;revert X1;exact gz.o
   ·intro X CD af YB;refine Lc [1,12] (AllReadyH.cons rfl (fun K hK=>?_) (AllReadyH.cons rfl (fun K hK=>?_) AllReadyH.nil))
    ·go_simp;go_wp2_with fail;refine (uy c d _).mono ?_;rintro e X1 ⟨rfl,hb⟩;replace YB:=fQ (YB.o.q hb);refine hK.out _ _ (ah af hb) (fun ai=>?_);replace af:=ai;clear hK K ai hb;clear X;try simp only [aT]
     revert YB;revert af;revert CD;revert X1;exact ct.o
    go_simp;obtain ⟨CA,X1,eC,eY,hb,YA⟩:=GV X Ja 38 af (Ho _);rw [<-eY,<-eC];have aa:¬ CA=CD:=by have:=YB.o.1.1;omega
    replace YB:=fQ (YB.o.q hb);clear eC eY;refine hK.out _ _ (ah af hb) (fun ai=>?_);replace af:=ai;clear hK K ai hb;clear X;try simp only [aT]
    revert aa;revert YB;revert YA;revert af;revert CD;revert CA;revert X1;exact cI.o
   ·intro X CA af YA;refine Lc [1,13] (AllReadyH.cons rfl (fun K hK=>?_) (AllReadyH.cons rfl (fun K hK=>?_) AllReadyH.nil))
    ·go_simp;go_wp2_with fail;refine (uy c d _).mono ?_;rintro e X1 ⟨rfl,hb⟩;replace YA:=fQ (YA.o.q hb);refine hK.out _ _ (ah af hb) (fun ai=>?_);replace af:=ai;clear hK K ai hb;clear X;try simp only [aT]
     revert YA;revert af;revert CA;revert X1;exact cn.o
    go_simp;obtain ⟨CD,X1,eC,eY,hb,YB⟩:=GV X z8 41 af (Ho _);rw [<-eY,<-eC];have aa:¬ CA=CD:=by have:=YA.o.1.1;omega
    replace YA:=fQ (YA.o.q hb);clear eC eY;refine hK.out _ _ (ah af hb) (fun ai=>?_);replace af:=ai;clear hK K ai hb;clear X;try simp only [aT]
    exact cI.o X1 CA CD af YA YB aa
   ·intro X CA CD af YA YB aa;refine Ld 1 rfl fun K hK=>?_;go_simp;go_wp2_with fail;refine (uy c d _).mono ?_;rintro e X1 ⟨rfl,hb⟩;replace YA:=fQ (YA.o.q hb);replace YB:=fQ (YB.o.q hb);refine hK.out _ _ (ah af hb) (fun ai=>?_);replace af:=ai;clear hK K ai hb;clear X;try simp only [aT]
    revert aa;revert YB;revert YA;revert af;revert CD;revert CA;revert X1;exact bk.o
   ·intro X af;refine Lc [5,12,13] (AllReadyH.cons rfl (fun K hK=>?_) (AllReadyH.cons rfl (fun K hK=>?_) (AllReadyH.cons rfl (fun K hK=>?_) AllReadyH.nil)))
    ·go_simp;go_wp2_with fail;refine (IZ R _).mono ?_;rintro e X1 ⟨rfl,hb⟩;refine hK.out _ _ (ah af hb) (fun ai=>?_);replace af:=ai;clear hK K ai hb;clear X;try simp only [aT]
     revert af;revert X1;exact fO.o
    ·go_simp;obtain ⟨CA,X1,eC,eY,hb,YA⟩:=GV X Ja 38 af (Ho _);rw [<-eY,<-eC];clear eC eY;refine hK.out _ _ (ah af hb) (fun ai=>?_);replace af:=ai;clear hK K ai hb;clear X;try simp only [aT]
     exact cn.o X1 CA af YA
    go_simp;obtain ⟨CD,X1,eC,eY,hb,YB⟩:=GV X z8 41 af (Ho _);rw [<-eY,<-eC];clear eC eY;refine hK.out _ _ (ah af hb) (fun ai=>?_);replace af:=ai;clear hK K ai hb;clear X;try simp only [aT]
    exact ct.o X1 CD af YB
   ·intro X CD af YB;refine Lc [5,12] (AllReadyH.cons rfl (fun K hK=>?_) (AllReadyH.cons rfl (fun K hK=>?_) AllReadyH.nil))
    ·go_simp;go_wp2_with fail;refine (IZ R _).mono ?_;rintro e X1 ⟨rfl,hb⟩;replace YB:=fQ (YB.o.q hb);refine hK.out _ _ (ah af hb) (fun ai=>?_);replace af:=ai;clear hK K ai hb;clear X;try simp only [aT]
     revert YB;revert af;revert CD;revert X1;exact cH.o
    go_simp;obtain ⟨CA,X1,eC,eY,hb,YA⟩:=GV X Ja 38 af (Ho _);rw [<-eY,<-eC];have aa:¬ CA=CD:=by have:=YB.o.1.1;omega
    replace YB:=fQ (YB.o.q hb);clear eC eY;refine hK.out _ _ (ah af hb) (fun ai=>?_);replace af:=ai;clear hK K ai hb;clear X;try simp only [aT]
    exact bk.o X1 CA CD af YA YB aa
   ·intro X CA af YA;refine Lc [5,13] (AllReadyH.cons rfl (fun K hK=>?_) (AllReadyH.cons rfl (fun K hK=>?_) AllReadyH.nil))
    ·go_simp;go_wp2_with fail;refine (IZ R _).mono ?_;rintro e X1 ⟨rfl,hb⟩;replace YA:=fQ (YA.o.q hb);refine hK.out _ _ (ah af hb) (fun ai=>?_);replace af:=ai;clear hK K ai hb;clear X;try simp only [aT]
     revert YA;revert af;revert CA;revert X1;exact cc.o
    go_simp;obtain ⟨CD,X1,eC,eY,hb,YB⟩:=GV X z8 41 af (Ho _);rw [<-eY,<-eC];have aa:¬ CA=CD:=by have:=YA.o.1.1;omega
    replace YA:=fQ (YA.o.q hb);clear eC eY;refine hK.out _ _ (ah af hb) (fun ai=>?_);replace af:=ai;clear hK K ai hb;clear X;try simp only [aT]
    exact bk.o X1 CA CD af YA YB aa
   ·intro X CA CD af YA YB aa;refine Ld 5 rfl fun K hK=>?_;go_simp;go_wp2_with fail;refine (IZ R _).mono ?_;rintro e X1 ⟨rfl,hb⟩;replace YA:=fQ (YA.o.q hb);replace YB:=fQ (YB.o.q hb);refine hK.out _ _ (ah af hb) (fun ai=>?_);replace af:=ai;clear hK K ai hb;clear X;try simp only [aT]
    revert aa;revert YB;revert YA;revert af;revert CD;revert CA;revert X1;exact bm.o
   ·intro X af;refine Lc [6,12,13] (AllReadyH.cons rfl (fun K hK=>?_) (AllReadyH.cons rfl (fun K hK=>?_) (AllReadyH.cons rfl (fun K hK=>?_) AllReadyH.nil)))
    ·go_simp;go_wp2_with fail;refine (FW c d g p a R U V _ _ jW jO jX jI oW oO oX oI oR nR Z ae.o hS.o.1 hS.o.2 dl.o eM.o es.o cJ.o _ (((ah fk.o af).cell (p:=(zA 0 0)) am).trans ek.o) (bE.o.q af).copy (b2.o.q af).copy (Hg al af.size) (P16.aZ (P16.own_below bc.o al af))).mono ?_;rintro e X1 ⟨⟨va,vb,rfl,hA⟩,hb⟩;rw [<-EX.o] at hA ⊢;obtain ⟨l1,h1,l2,h2,gA,g1,g2⟩:=hA.f af.size;have AF:=fQ gA;clear hA gA g1 g2;refine hK.out _ _ (ah af hb) (fun ai=>?_);replace af:=ai;clear hK K ai hb;clear X;try simp only [aT]
     refine Lj 7 (.tuple #[va,vb,zI x.k,zI x.r]) rfl ?_;try simp only [aT]
     refine Lj 8 (va) rfl ?_;try simp only [aT]
     refine Lj 9 (vb) rfl ?_;try simp only [aT]
     refine Lj 10 (zI x.k) rfl ?_;try simp only [aT]
     refine Lj 11 (zI x.r) rfl ?_;try simp only [aT]
     revert AF;revert af;revert h2;revert l2;revert h1;revert l1;revert vb;revert va;revert X1;exact hp.o
    ·go_simp;obtain ⟨CA,X1,eC,eY,hb,YA⟩:=GV X Ja 38 af (Ho _);rw [<-eY,<-eC];clear eC eY;refine hK.out _ _ (ah af hb) (fun ai=>?_);replace af:=ai;clear hK K ai hb;clear X;try simp only [aT]
     exact cc.o X1 CA af YA
    go_simp;obtain ⟨CD,X1,eC,eY,hb,YB⟩:=GV X z8 41 af (Ho _);rw [<-eY,<-eC];clear eC eY;refine hK.out _ _ (ah af hb) (fun ai=>?_);replace af:=ai;clear hK K ai hb;clear X;try simp only [aT]
    exact cH.o X1 CD af YB
   ·intro X CD af YB;refine Lc [6,12] (AllReadyH.cons rfl (fun K hK=>?_) (AllReadyH.cons rfl (fun K hK=>?_) AllReadyH.nil))
    ·go_simp;go_wp2_with fail;refine (FW c d g p a R U V _ _ jW jO jX jI oW oO oX oI oR nR Z ae.o hS.o.1 hS.o.2 dl.o eM.o es.o cJ.o _ (((ah fk.o af).cell (p:=(zA 0 0)) am).trans ek.o) (bE.o.q af).copy (b2.o.q af).copy (Hg al af.size) (P16.aZ (P16.own_below bc.o al af))).mono ?_;rintro e X1 ⟨⟨va,vb,rfl,hA⟩,hb⟩;rw [<-EX.o] at hA ⊢;obtain ⟨l1,h1,l2,h2,gA,g1,g2⟩:=hA.f af.size;have AF:=fQ gA;have eB:Lh CD l1 h1 l2 h2:=⟨.inl (Hg YB.o.1.1 g1),.inl (Hg YB.o.1.1 g2)⟩;clear hA gA g1 g2;replace YB:=fQ (YB.o.q hb);refine hK.out _ _ (ah af hb) (fun ai=>?_);replace af:=ai;clear hK K ai hb;clear X;try simp only [aT]
     refine Lj 7 (.tuple #[va,vb,zI x.k,zI x.r]) rfl ?_;try simp only [aT]
     refine Lj 8 (va) rfl ?_;try simp only [aT]
     refine Lj 9 (vb) rfl ?_;try simp only [aT]
     refine Lj 10 (zI x.k) rfl ?_;try simp only [aT]
     refine Lj 11 (zI x.r) rfl ?_;try simp only [aT]
     revert eB;revert YB;revert AF;revert af;revert CD;revert h2;revert l2;revert h1;revert l1;revert vb;revert va;revert X1;exact e4.o
    go_simp;obtain ⟨CA,X1,eC,eY,hb,YA⟩:=GV X Ja 38 af (Ho _);rw [<-eY,<-eC];have aa:¬ CA=CD:=by have:=YB.o.1.1;omega
    replace YB:=fQ (YB.o.q hb);clear eC eY;refine hK.out _ _ (ah af hb) (fun ai=>?_);replace af:=ai;clear hK K ai hb;clear X;try simp only [aT]
    exact bm.o X1 CA CD af YA YB aa
   ·intro X CA af YA;refine Lc [6,13] (AllReadyH.cons rfl (fun K hK=>?_) (AllReadyH.cons rfl (fun K hK=>?_) AllReadyH.nil))
    ·go_simp;go_wp2_with fail;refine (FW c d g p a R U V _ _ jW jO jX jI oW oO oX oI oR nR Z ae.o hS.o.1 hS.o.2 dl.o eM.o es.o cJ.o _ (((ah fk.o af).cell (p:=(zA 0 0)) am).trans ek.o) (bE.o.q af).copy (b2.o.q af).copy (Hg al af.size) (P16.aZ (P16.own_below bc.o al af))).mono ?_;rintro e X1 ⟨⟨va,vb,rfl,hA⟩,hb⟩;rw [<-EX.o] at hA ⊢;obtain ⟨l1,h1,l2,h2,gA,g1,g2⟩:=hA.f af.size;have AF:=fQ gA;have eA:Lh CA l1 h1 l2 h2:=⟨.inl (Hg YA.o.1.1 g1),.inl (Hg YA.o.1.1 g2)⟩;clear hA gA g1 g2;replace YA:=fQ (YA.o.q hb);refine hK.out _ _ (ah af hb) (fun ai=>?_);replace af:=ai;clear hK K ai hb;clear X;try simp only [aT]
     refine Lj 7 (.tuple #[va,vb,zI x.k,zI x.r]) rfl ?_;try simp only [aT]
     refine Lj 8 (va) rfl ?_;try simp only [aT]
     refine Lj 9 (vb) rfl ?_;try simp only [aT]
     refine Lj 10 (zI x.k) rfl ?_;try simp only [aT]
     refine Lj 11 (zI x.r) rfl ?_;try simp only [aT]
     revert eA;revert YA;revert AF;revert af;revert CA;revert h2;revert l2;revert h1;revert l1;revert vb;revert va;revert X1;exact ew.o
    go_simp;obtain ⟨CD,X1,eC,eY,hb,YB⟩:=GV X z8 41 af (Ho _);rw [<-eY,<-eC];have aa:¬ CA=CD:=by have:=YA.o.1.1;omega
    replace YA:=fQ (YA.o.q hb);clear eC eY;refine hK.out _ _ (ah af hb) (fun ai=>?_);replace af:=ai;clear hK K ai hb;clear X;try simp only [aT]
    exact bm.o X1 CA CD af YA YB aa
   ·intro X CA CD af YA YB aa;refine Ld 6 rfl fun K hK=>?_;go_simp;go_wp2_with fail;refine (FW c d g p a R U V _ _ jW jO jX jI oW oO oX oI oR nR Z ae.o hS.o.1 hS.o.2 dl.o eM.o es.o cJ.o _ (((ah fk.o af).cell (p:=(zA 0 0)) am).trans ek.o) (bE.o.q af).copy (b2.o.q af).copy (Hg al af.size) (P16.aZ (P16.own_below bc.o al af))).mono ?_;rintro e X1 ⟨⟨va,vb,rfl,hA⟩,hb⟩;rw [<-EX.o] at hA ⊢;obtain ⟨l1,h1,l2,h2,gA,g1,g2⟩:=hA.f af.size;have AF:=fQ gA;have eA:Lh CA l1 h1 l2 h2:=⟨.inl (Hg YA.o.1.1 g1),.inl (Hg YA.o.1.1 g2)⟩;have eB:Lh CD l1 h1 l2 h2:=⟨.inl (Hg YB.o.1.1 g1),.inl (Hg YB.o.1.1 g2)⟩;clear hA gA g1 g2;replace YA:=fQ (YA.o.q hb);replace YB:=fQ (YB.o.q hb);refine hK.out _ _ (ah af hb) (fun ai=>?_);replace af:=ai;clear hK K ai hb;clear X;try simp only [aT]
    refine Lj 7 (.tuple #[va,vb,zI x.k,zI x.r]) rfl ?_;try simp only [aT]
    refine Lj 8 (va) rfl ?_;try simp only [aT]
    refine Lj 9 (vb) rfl ?_;try simp only [aT]
    refine Lj 10 (zI x.k) rfl ?_;try simp only [aT]
    refine Lj 11 (zI x.r) rfl ?_;try simp only [aT]
    revert aa;revert eB;revert YB;revert eA;revert YA;revert AF;revert af;revert CD;revert CA;revert h2;revert l2;revert h1;revert l1;revert vb;revert va;revert X1;exact bL.o
   ·intro X va vb l1 h1 l2 h2 af AF;refine Lc [12,13] (AllReadyH.cons rfl (fun K hK=>?_) (AllReadyH.cons rfl (fun K hK=>?_) AllReadyH.nil))
    ·go_simp;obtain ⟨CA,X1,eC,eY,hb,YA⟩:=GV X Ja 38 af (Ho _);rw [<-eY,<-eC];have eA:=AF.o.new (Hl eC.symm);replace AF:=fQ (AF.o.q hb);clear eC eY;refine hK.out _ _ (ah af hb) (fun ai=>?_);replace af:=ai;clear hK K ai hb;clear X;try simp only [aT]
     exact ew.o X1 va vb l1 h1 l2 h2 CA af AF YA eA
    go_simp;obtain ⟨CD,X1,eC,eY,hb,YB⟩:=GV X z8 41 af (Ho _);rw [<-eY,<-eC];have eB:=AF.o.new (Hl eC.symm);replace AF:=fQ (AF.o.q hb);clear eC eY;refine hK.out _ _ (ah af hb) (fun ai=>?_);replace af:=ai;clear hK K ai hb;clear X;try simp only [aT]
    exact e4.o X1 va vb l1 h1 l2 h2 CD af AF YB eB
   ·intro X va vb l1 h1 l2 h2 CD af AF YB eB;refine Ld 12 rfl fun K hK=>?_;go_simp;obtain ⟨CA,X1,eC,eY,hb,YA⟩:=GV X Ja 38 af (Ho _);rw [<-eY,<-eC];have eA:=AF.o.new (Hl eC.symm);have aa:¬ CA=CD:=by have:=YB.o.1.1;omega
    replace AF:=fQ (AF.o.q hb);replace YB:=fQ (YB.o.q hb);clear eC eY;refine hK.out _ _ (ah af hb) (fun ai=>?_);replace af:=ai;clear hK K ai hb;clear X;try simp only [aT]
    exact bL.o X1 va vb l1 h1 l2 h2 CA CD af AF YA eA YB eB aa
   ·intro X va vb l1 h1 l2 h2 CA af AF YA eA;refine Ld 13 rfl fun K hK=>?_;go_simp;obtain ⟨CD,X1,eC,eY,hb,YB⟩:=GV X z8 41 af (Ho _);rw [<-eY,<-eC];have eB:=AF.o.new (Hl eC.symm);have aa:¬ CA=CD:=by have:=YA.o.1.1;omega
    replace AF:=fQ (AF.o.q hb);replace YA:=fQ (YA.o.q hb);clear eC eY;refine hK.out _ _ (ah af hb) (fun ai=>?_);replace af:=ai;clear hK K ai hb;clear X;try simp only [aT]
    exact bL.o X1 va vb l1 h1 l2 h2 CA CD af AF YA eA YB eB aa
   ·intro X va vb l1 h1 l2 h2 CA CD af AF YA eA YB eB aa;refine Ld 14 rfl fun K hK=>?_;obtain ⟨a1,k1,a2,k2,a3,k3,a4,k4,rfl,-⟩:=AF.o.1;have f0:=YA.o.1.f8;have p0:=YA.o.1.a8;have bA:=YA.o.1.1;go_simp;obtain ⟨X1,e6,hN,ag,SP,Q6⟩:=KR [zI x.g,zI x.p,zI x.U.c,.slice a1 x.U.nW k1,zI x.U.g,.slice a2 x.U.nO k2,.slice a3 x.U.nX k3,.slice a4 x.U.nI k4] af YA.o rfl;simp only [qg] at e6;rw [<-e6];clear e6 f0 p0 bA;replace AF:=fQ (AF.o.put eA ag SP);replace YB:=fQ (YB.o.put ag SP (fun e=>aa e.symm));replace YA:=Q6;clear Q6 SP ag;refine hK.out _ _ hN (fun ai=>?_);replace af:=ai;clear hK K ai hN;clear X;try simp only [aT]
    revert aa;revert eB;revert YB;revert eA;revert YA;revert AF;revert af;revert CD;revert CA;revert h2;revert l2;revert h1;revert l1;revert vb;revert k4;revert k3;revert k2;revert k1;revert a4;revert a3;revert a2;revert a1;revert X1;exact ii.o
   intro X a1 a2 a3 a4 k1 k2 k3 k4 vb l1 h1 l2 h2 CA CD af AF YA eA YB eB aa;refine Ld 15 rfl fun K hK=>?_;obtain ⟨s1,i1,s2,i2,s3,i3,s4,i4,s5,i5,_,_,_,rfl,_⟩:=AF.o.2.1;have f0:=YB.o.1.f8;have p0:=YB.o.1.a8;have bA:=YB.o.1.1;go_simp;obtain ⟨X1,e6,hN,ag,SP,Q6⟩:=KR [zI x.a,zI x.V.c,.slice s1 x.V.nW i1,zI x.V.g,.slice s2 x.V.nO i2,.slice s3 x.V.nX i3,.slice s4 x.V.nI i4,.slice s5 x.n i5] af YB.o rfl;simp only [qg] at e6;rw [<-e6];clear e6 f0 p0 bA;have A6:=AF.o.put eB ag SP;have Y6:=YA.o.put ag SP aa;clear AF YA;refine hK.out _ _ hN (fun ai=>?_);try simp only [aT]
   refine Lj 16 (zI x.k) rfl ?_;try simp only [aT]
   refine Lj 17 (zI x.r) rfl ?_;try simp only [aT]
   refine Hy (by as_aux_lemma=>kernel_rfl) ?_ _;go_wp2;go_meet
   case rel=>exact ⟨CA,CD,l1,h1,l2,h2,a1,k1,a2,k2,a3,k3,a4,k4,s1,i1,s2,i2,s3,i3,s4,i4,s5,i5,rfl,rfl,rfl,rfl,Y6,Q6,A6,eA,eB,aa,hN⟩
  case rest=>
   clear m0 m1 gP;clear x0 ak;clear y0 i8;obtain ⟨w8,hv⟩:∃ wn,wn=wc:=⟨_,rfl⟩;subst hv;obtain ⟨D1,D2,L3,J3,L4,J4,nk,nl,ot,oS,m7,mC,m4,o7,n5,pa,oY,nx,ns,m2,nt,mS,nC,nB,rfl,rfl,rfl,rfl,⟨bx,d1⟩,⟨b0,d3⟩,⟨ds,cr,d5,d6,d7,d8,d9,ok,m5⟩,⟨o2,m6⟩,⟨nn,oi⟩,nc,hb⟩:=hcut;have d2:=bx.1;have d4:=b0.1;have oE:=hb.size;have ln:=fQ (ah fk.o hb);have l7:=fQ (jz.o.q hb);have k5:=fQ (l9.o.q hb);have ls:=fQ (lE.o.q hb);have lX:=fQ (kh.o.q hb);have ca:=fQ (gi.o.q hb);have gd:=fQ (fy.o.q hb);have fb:=fQ (i9.o.q hb);have fp:=fQ (gl.o.q hb);have gx:=fQ (iF.o.q hb);have gF:=fQ (b8.o.q hb);have gg:=fQ (gY.o.q hb);have gR:=fQ (j2.o.q hb);clear fk jz l9 lE kh gi fy i9 gl bE iF b8 b2 bc gY j2;clear hb lr al;have ju:=fQ bx;clear bx;have kj:=fQ b0;clear b0;have j9:=fQ ds;clear ds;have kA:=fQ cr;clear cr;have x0:=ju.o.a8;have bS:D1<w8.heap.size:=ju.o.1;have y0:=ca.o.a8;have bB:C1<w8.heap.size:=ca.o.1;go_wp2_with fail;clear x0 bS;clear y0 bB;refine (Jy x.g x.p x.U _ _ L3 J3 L1 J1 (lZ HF.o.1.1) _ j9.o fb.o).mono ?_;rintro e w9 ⟨rfl,hb⟩;have ne:=hb.size;have kn:=fQ (ah ln.o hb);have li:=fQ (l7.o.q hb);have lN:=fQ (k5.o.q hb);have ld:=fQ (ls.o.q hb);have lP:=fQ (lX.o.q hb);have ga:=fQ (ca.o.q hb);have b9:=fQ (gd.o.q hb);have g0:=fQ (fb.o.q hb);have ff:=fQ (fp.o.q hb);have gT:=fQ (gx.o.q hb);have jn:=fQ (gF.o.q hb);have f1:=fQ (gg.o.q hb);have fT:=fQ (gR.o.q hb);have iq:=fQ (ju.o.q hb);have cb:=fQ (kj.o.q hb);have hP:=fQ (j9.o.q hb);have fc:=fQ (kA.o.q hb);clear ln l7 k5 ls lX ca gd fb fp gx gF gg gR ju kj j9 kA;clear hb;have x0:=cb.o.a8;have bS:D2<w9.heap.size:=cb.o.1;have y0:=b9.o.a8;have bB:C2<w9.heap.size:=b9.o.1;go_wp2_with fail;clear x0 bS;clear y0 bB;refine (IC x.a x.V x.n x.Z _ _ L4 J4 L2 J2 (lZ HF.o.2.1.1) (by have:=HF.o.2.2;omega) _ fc.o ff.o).mono ?_;rintro e fj ⟨rfl,hb⟩;have nq:=hb.size;have kd:=fQ (ah kn.o hb);have k0:=fQ (li.o.q hb);have j3:=fQ (lN.o.q hb);have ko:=fQ (ld.o.q hb);have k7:=fQ (lP.o.q hb);have ih:=fQ (ga.o.q hb);have fo:=fQ (b9.o.q hb);have ir:=fQ (g0.o.q hb);have iA:=fQ (ff.o.q hb);have fd:=fQ (gT.o.q hb);have b7:=fQ (jn.o.q hb);have hf:=fQ (f1.o.q hb);have gE:=fQ (fT.o.q hb);have jm:=fQ (iq.o.q hb);have gC:=fQ (cb.o.q hb);have il:=fQ (hP.o.q hb);have iv:=fQ (fc.o.q hb);clear kn li lN ld lP ga b9 g0 ff gT jn f1 fT iq cb hP fc;clear hb;have x0:=b7.o.a8;have ak:ba<fj.heap.size:=b7.o.1;have y0:=j3.o.a8;have i8:w.heap.size+1<fj.heap.size:=j3.o.1;go_upto_region 14 with fail;refine Hu (S:=fun w'=>Below (fj.heap.size) fj w') (by as_aux_lemma=>kernel_rfl) ((Hr _ _).drew) ?_;intro af;obtain ⟨X0,e8⟩:∃ X,X=fj.drew:=⟨_,rfl⟩;have ag:fj.heap.size<=X0.heap.size:=by rw [e8];exact Ho _
   rw [<-e8] at af ⊢;clear e8;refine Lj 0 (.agg [zI g,zI p,zI U.c,zS jW U.nW U.nW,zI U.g,zS jO U.nO U.nO,zS jX U.nX U.nX,zS jI U.nI U.nI].toArray) rfl ?_;try simp only [aT]
   refine Lj 1 (KG g p (zD U u1 q1 u2 q2 u3 q3 u4 q4)) rfl ?_;try simp only [aT]
   refine di 2 rfl fun K hK=>?_;go_simp;go_wp2_with fail;refine (I5 g p U u1 q1 u2 q2 u3 q3 u4 q4 ae.o _ (dw HU.o (ah kd.o af))).mono ?_;rintro e Z1 ⟨⟨eW,eO,eX,eI,rfl,hC⟩,hb⟩;have CE:bY (Jj X0.heap.size Z1.heap.size Z1 (.agg [zI g,zI p,zI U.c,zS eW U.nW U.nW,zI U.g,zS eO U.nO U.nO,zS eX U.nX U.nX,zS eI U.nI U.nI].toArray) g p U):=JI hb.size hC;clear hC;have me:=hb.size;refine hK.out _ _ (bJ af (by omega) hb) (fun ai=>?_);clear hK K af;have af:=ai;clear ai;try simp only [aT]
   clear hb;refine di 3 rfl fun K hK=>?_;go_simp;go_wp2_with fail;refine (Jy g p U _ _ w3.heap.size w4.heap.size X0.heap.size _ (lZ ae.o) _ (fd.o.q af) CE.o).mono ?_;rintro e fm ⟨rfl,hb⟩;have ms:=hb.size;refine hK.out _ _ (bJ af (by omega) hb) (fun ai=>?_);clear hK K af;have af:=ai;clear ai;try simp only [aT]
   clear hb CE;refine Lj 4 (.bool false) rfl ?_;try simp only [aT]
   refine Hy (by as_aux_lemma=>kernel_rfl) ?_ _;clear x0 ak;clear y0 i8;have nm:=af.size;have j7:=fQ (ah kd.o af);have lR:=fQ (k0.o.q af);have kl:=fQ (j3.o.q af);have j8:=fQ (ko.o.q af);have ma:=fQ (k7.o.q af);have fX:=fQ (ih.o.q af);have ia:=fQ (fo.o.q af);have gD:=fQ (ir.o.q af);have f7:=fQ (iA.o.q af);have fr:=fQ (fd.o.q af);have ht:=fQ (b7.o.q af);have fa:=fQ (hf.o.q af);have b6:=fQ (gE.o.q af);have ip:=fQ (jm.o.q af);have fY:=fQ (gC.o.q af);have hD:=fQ (il.o.q af);have fn:=fQ (iv.o.q af);clear kd k0 j3 ko k7 ih fo ir iA fd b7 hf gE jm gC il iv;clear af;have x0:=b6.o.a8;have ak:bb<fm.heap.size:=b6.o.1;have y0:=j8.o.a8;have i8:w.heap.size+1+1<fm.heap.size:=j8.o.1;go_upto_region 16 with fail;refine Hu (S:=fun w'=>Below (fm.heap.size) fm w') (by as_aux_lemma=>kernel_rfl) ((Hr _ _).drew) ?_;intro af;obtain ⟨X0,e8⟩:∃ X,X=fm.drew:=⟨_,rfl⟩;have ag:fm.heap.size<=X0.heap.size:=by rw [e8];exact Ho _
   rw [<-e8] at af ⊢;clear e8;refine Lj 0 (.agg [zI a,zI V.c,zS oW V.nW V.nW,zI V.g,zS oO V.nO V.nO,zS oX V.nX V.nX,zS oI V.nI V.nI,zS oR nR nR].toArray) rfl ?_;try simp only [aT]
   refine Lj 1 (Am a (zD V aW kW aO kO aX kX aI kI) (.slice aR nR kR)) rfl ?_;try simp only [aT]
   refine di 2 rfl fun K hK=>?_;go_simp;go_wp2_with fail;refine (jV a V Z aW kW aO kO aX kX aI kI aR nR kR hS.o.1 hS.o.2 _ (dw HC.o (ah j7.o af)) (P16.iL HR.o (ah j7.o af))).mono ?_;rintro e Z1 ⟨⟨eW,eO,eX,eI,eR,rfl,hC,lp,fl,gL,j6⟩,hb⟩;have CE:bY (Ih X0.heap.size Z1.heap.size Z1 (.agg [zI a,zI V.c,zS eW V.nW V.nW,zI V.g,zS eO V.nO V.nO,zS eX V.nX V.nX,zS eI V.nI V.nI,zS eR nR nR].toArray) a V nR Z):=JB gL j6 lp fl;clear hC lp fl gL j6;have me:=hb.size;refine hK.out _ _ (bJ af (by omega) hb) (fun ai=>?_);clear hK K af;have af:=ai;clear ai;try simp only [aT]
   clear hb;refine di 3 rfl fun K hK=>?_;go_simp;go_wp2_with fail;refine (IC a V nR Z _ _ w5.heap.size w6.heap.size X0.heap.size _ (lZ hS.o.1) (by have:=hS.o.2;omega) _ (fa.o.q af) CE.o).mono ?_;rintro e mn ⟨rfl,hb⟩;have ms:=hb.size;refine hK.out _ _ (bJ af (by omega) hb) (fun ai=>?_);clear hK K af;have af:=ai;clear ai;try simp only [aT]
   clear hb CE;refine Lj 4 (.bool false) rfl ?_;try simp only [aT]
   refine Hy (by as_aux_lemma=>kernel_rfl) ?_ _;clear x0 ak;clear y0 i8;have my:=af.size;have ik:=fQ (ah j7.o af);have h7:=fQ (lR.o.q af);have gS:=fQ (kl.o.q af);have gJ:=fQ (j8.o.q af);have hz:=fQ (ma.o.q af);have cC:=fQ (fX.o.q af);have dE:=fQ (ia.o.q af);have dk:=fQ (gD.o.q af);have eZ:=fQ (f7.o.q af);have ci:=fQ (fr.o.q af);have b1:=fQ (ht.o.q af);have cO:=fQ (fa.o.q af);have ej:=fQ (b6.o.q af);have dd:=fQ (ip.o.q af);have eN:=fQ (fY.o.q af);have eg:=fQ (hD.o.q af);have e3:=fQ (fn.o.q af);clear j7 lR kl j8 ma fX ia gD f7 fr ht fa b6 ip fY hD fn;clear af;have x0:=b1.o.a8;have ak:ba<mn.heap.size:=b1.o.1;go_wp2_with fail;clear x0 ak;refine (JC g p U _ w3.heap.size w4.heap.size kw.o _ ci.o).mono ?_;rintro e lI ⟨rfl,_,ab,ac,bq⟩;have mk:=ab;have io:bY (Below w.heap.size w lI):=ik.o.trans (bq.mono (by omega));have jt:=fQ (h7.o.sm ab (ac _ (by omega) (by omega)));have gs:=fQ (gS.o.sm ab (ac _ (by omega) (by omega)));have hB:=fQ (gJ.o.sm ab (ac _ (by omega) (by omega)));have h5:=fQ (hz.o.sm ab (ac _ (by omega) (by omega)));have cN:=fQ (cC.o.sm ab (ac _ (by omega) (by omega)));have db:=fQ (dE.o.sm ab (ac _ (by omega) (by omega)));have eF:=fQ (dk.o.sm ab (fun b q1 q2=>ac b (by omega) (by omega)));have cR:=fQ (eZ.o.sm ab (fun b q1 q2=>ac b (by omega) (by omega)));have ei:=fQ (cO.o.sm ab (fun b q1 q2=>ac b (by omega) (by omega)));have b5:=fQ (ej.o.sm ab (ac _ (by omega) (by omega)));have ck:=fQ (dd.o.sm ab (ac _ (by omega) (by omega)));have cE:=fQ (eN.o.sm ab (ac _ (by omega) (by omega)));have cy:=fQ (eg.o.sm ab (fun b q1 q2=>ac b (by omega) (by omega)));have cW:=fQ (e3.o.sm ab (fun b q1 q2=>ac b (by omega) (by omega)));clear ik h7 gS gJ hz cC dE dk eZ ci b1 cO ej dd eN eg e3;clear ab ac bq;have x0:=b5.o.a8;have ak:bb<lI.heap.size:=b5.o.1;go_wp2_with fail;clear x0 ak;refine (JH (U.t4 1) (JS ae.o kc.o) a V nR Z _ w5.heap.size w6.heap.size HV.o hS.o.2 _ ei.o).mono ?_;rintro e kb ⟨rfl,_,ab,ac,bq⟩;have md:=ab;have hc:bY (Below w.heap.size w kb):=io.o.trans (bq.mono (by omega));have jj:=fQ (jt.o.sm ab (ac _ (by omega) (by omega)));have ie:=fQ (gs.o.sm ab (ac _ (by omega) (by omega)));have fu:=fQ (hB.o.sm ab (ac _ (by omega) (by omega)));have iw:=fQ (h5.o.sm ab (ac _ (by omega) (by omega)));have aN:=fQ (cN.o.sm ab (ac _ (by omega) (by omega)));have ev:=fQ (db.o.sm ab (ac _ (by omega) (by omega)));have bs:=fQ (eF.o.sm ab (fun b q1 q2=>ac b (by omega) (by omega)));have cx:=fQ (cR.o.sm ab (fun b q1 q2=>ac b (by omega) (by omega)));have aE:=fQ (ck.o.sm ab (ac _ (by omega) (by omega)));have cT:=fQ (cE.o.sm ab (ac _ (by omega) (by omega)));have bh:=fQ (cy.o.sm ab (fun b q1 q2=>ac b (by omega) (by omega)));have em:=fQ (cW.o.sm ab (fun b q1 q2=>ac b (by omega) (by omega)));clear io jt gs hB h5 cN db eF cR ei b5 ck cE cy cW;clear ab ac bq;obtain ⟨zm,kB⟩:∃ z:Nat,z=V.t4 (U.t4 1)+nR * 16:=⟨_,rfl⟩;rw [<-kB];have nL:¬ ((zm:Nat):Int)<0:=by omega
   clear kB;have x0:=aE.o.a8;have bS:D1<kb.heap.size:=aE.o.1;have y0:=aN.o.a8;have bB:C1<kb.heap.size:=aN.o.1;go_wp2_with fail;clear x0 bS;clear y0 bB;refine (Jy x.g x.p x.U _ _ L3 J3 L1 J1 (lZ HF.o.1.1) _ bh.o bs.o).mono ?_;rintro e lq ⟨rfl,hb⟩;have mp:=hb.size;have ha:=fQ (ah hc.o hb);have hq:=fQ (jj.o.q hb);have h8:=fQ (ie.o.q hb);have hj:=fQ (fu.o.q hb);have hR:=fQ (iw.o.q hb);have ez:=fQ (aN.o.q hb);have az:=fQ (ev.o.q hb);have dt:=fQ (bs.o.q hb);have bi:=fQ (cx.o.q hb);have cY:=fQ (aE.o.q hb);have aD:=fQ (cT.o.q hb);have dc:=fQ (bh.o.q hb);have bR:=fQ (em.o.q hb);clear hc jj ie fu iw aN ev bs cx aE cT bh em;clear hb;have x0:=aD.o.a8;have bS:D2<lq.heap.size:=aD.o.1;have y0:=az.o.a8;have bB:C2<lq.heap.size:=az.o.1;go_wp2_with fail;clear x0 bS;clear y0 bB;refine (IC x.a x.V x.n x.Z _ _ L4 J4 L2 J2 (lZ HF.o.2.1.1) (by have:=HF.o.2.2;omega) _ bR.o bi.o).mono ?_;rintro e mx ⟨rfl,hb⟩;have mz:=hb.size;have hm:=fQ (ah ha.o hb);have fv:=fQ (hq.o.q hb);have iX:=fQ (h8.o.q hb);have h6:=fQ (hj.o.q hb);have fq:=fQ (hR.o.q hb);have eT:=fQ (ez.o.q hb);have du:=fQ (az.o.q hb);have cK:=fQ (dt.o.q hb);have d0:=fQ (bi.o.q hb);have aq:=fQ (cY.o.q hb);have eJ:=fQ (aD.o.q hb);have cv:=fQ (dc.o.q hb);have cs:=fQ (bR.o.q hb);clear ha hq h8 hj hR ez az dt bi cY aD dc bR;clear hb;have x0:=aq.o.a8;have ak:D1<mx.heap.size:=aq.o.1;go_wp2_with fail;clear x0 ak;refine (JC x.g x.p x.U _ L3 J3 HF.o.1.2.1 _ cv.o).mono ?_;rintro e la ⟨rfl,hW,ab,ac,bq⟩;have mf:=ab;have ho:bY (Below w.heap.size w la):=hm.o.trans (bq.mono (by omega));have hL:=fQ (fv.o.sm ab (ac _ (by omega) (by omega)));have f3:=fQ (iX.o.sm ab (ac _ (by omega) (by omega)));have js:=fQ (h6.o.sm ab (ac _ (by omega) (by omega)));have ft:=fQ (fq.o.sm ab (ac _ (by omega) (by omega)));have eV:=fQ (eT.o.sm ab (ac _ (by omega) (by omega)));have ea:=fQ (du.o.sm ab (ac _ (by omega) (by omega)));have dC:=fQ (cK.o.sm ab (fun b q1 q2=>ac b (by omega) (by omega)));have cQ:=fQ (d0.o.sm ab (fun b q1 q2=>ac b (by omega) (by omega)));have cD:=fQ (aq.o.sm ab (ac _ (by omega) (by omega)));have aw:=fQ (eJ.o.sm ab (ac _ (by omega) (by omega)));have cU:=fQ (cs.o.sm ab (fun b q1 q2=>ac b (by omega) (by omega)));clear hm fv iX h6 fq eT du cK d0 aq eJ cv cs;have l6:=fQ hW;have n0:¬ ((x.U.t4 1:Nat):Int)<0:=by omega
   clear hW ab ac bq;have x0:=aw.o.a8;have ak:D2<la.heap.size:=aw.o.1;go_wp2_with fail;clear x0 ak;refine (JH (x.U.t4 1) HF.o.1.2.2 x.a x.V x.n x.Z _ L4 J4 HF.o.2.1.2 HF.o.2.2 _ cU.o).mono ?_;rintro e l5 ⟨rfl,hW,ab,ac,bq⟩;have mv:=ab;have ib:bY (Below w.heap.size w l5):=ho.o.trans (bq.mono (by omega));have ix:=fQ (hL.o.sm ab (ac _ (by omega) (by omega)));have fz:=fQ (f3.o.sm ab (ac _ (by omega) (by omega)));have hJ:=fQ (js.o.sm ab (ac _ (by omega) (by omega)));have hI:=fQ (ft.o.sm ab (ac _ (by omega) (by omega)));have er:=fQ (eV.o.sm ab (ac _ (by omega) (by omega)));have cq:=fQ (ea.o.sm ab (ac _ (by omega) (by omega)));have cP:=fQ (dC.o.sm ab (fun b q1 q2=>ac b (by omega) (by omega)));have cV:=fQ (cQ.o.sm ab (fun b q1 q2=>ac b (by omega) (by omega)));have aM:=fQ (cD.o.sm ab (ac _ (by omega) (by omega)));have ce:=fQ (aw.o.sm ab (ac _ (by omega) (by omega)));have bC:=fQ (l6.o.sm ab (fun b q1 q2=>ac b (by omega) (by omega)));clear ho hL f3 js ft eV ea dC cQ cD aw cU l6;have kp:=fQ hW;clear hW ab ac bq;obtain ⟨zq,kf⟩:∃ z:Nat,z=x.V.t4 (x.U.t4 1)+x.n * 16:=⟨_,rfl⟩;rw [<-kf];have lv:=fQ kf;have mE:¬ ((zq:Nat):Int)<0:=by omega
   clear kf;have x0:=aM.o.a8;have ak:D1<l5.heap.size:=aM.o.1;go_wp2_with fail;clear x0 ak;refine (JE x.g x.p x.U _ L3 J3 HF.o.1.2.1 _ bC.o).mono ?_;rintro e mo ⟨rfl,hb⟩;have mA:=hb.size;have gB:=fQ (ah ib.o hb);have hU:=fQ (ix.o.q hb);have hM:=fQ (fz.o.q hb);have im:=fQ (hJ.o.q hb);have fW:=fQ (hI.o.q hb);have ey:=fQ (er.o.q hb);have cG:=fQ (cq.o.q hb);have el:=fQ (cP.o.q hb);have eb:=fQ (cV.o.q hb);have eL:=fQ (aM.o.q hb);have ap:=fQ (ce.o.q hb);have df:=fQ (bC.o.q hb);have be:=fQ (kp.o.q hb);clear ib ix fz hJ hI er cq cP cV aM ce bC kp;clear hb;have x0:=ap.o.a8;have ak:D2<mo.heap.size:=ap.o.1;go_wp2_with fail;clear x0 ak;refine (JF (x.U.t4 1) HF.o.1.2.2 x.a x.V x.n _ L4 J4 HF.o.2.1.2 HF.o.2.2 _ be.o).mono ?_;rintro e bz ⟨rfl,hb⟩;rw [<-lv.o];have mj:=hb.size;have ad:=fQ (ah gB.o hb);have fg:=fQ (hU.o.q hb);have fh:=fQ (hM.o.q hb);have fi:=fQ (im.o.q hb);have gh:=fQ (fW.o.q hb);have e7:=fQ (ey.o.q hb);have dr:=fQ (cG.o.q hb);have eK:=fQ (el.o.q hb);have eo:=fQ (eb.o.q hb);have eS:=fQ (eL.o.q hb);have cL:=fQ (ap.o.q hb);have co:=fQ (df.o.q hb);have eE:=fQ (be.o.q hb);clear gB hU hM im fW ey cG el eb eL ap df be;clear hb;obtain ⟨m0,m1⟩:=fg.o.a2;have gP:w.heap.size<bz.heap.size:=fg.o.1;have x0:=fh.o.a8;have ic:w.heap.size+1<bz.heap.size:=fh.o.1;have y0:=fi.o.a8;have e9:w.heap.size+1+1<bz.heap.size:=fi.o.1;go_upto_region 35 with fail;go_cut [23,24,25,26] (fun sa sb sc sd wx=>Rl bz wx x sa sb sc sd)
   case first=>
    refine Hu (S:=fun w'=>Below (bz.heap.size) bz w') (by as_aux_lemma=>kernel_rfl) ((Hr _ _).drew) ?_;intro af;obtain ⟨X,hX⟩:∃ X,X=bz.drew:=⟨_,rfl⟩;rw [<-hX] at af ⊢;clear hX;refine Lj 0 (.agg #[zI c,zI d]) rfl ?_;try simp only [aT]
    refine Lj 2 (KG g p (zD U u1 q1 u2 q2 u3 q3 u4 q4)) rfl ?_;try simp only [aT]
    refine Lj 4 (Am a (zD V aW kW aO kO aX kX aI kI) (.slice aR nR kR)) rfl ?_;try simp only [aT]
    refine dY 6 (.agg (zR R).toArray) rfl ?_ ?_
    ·intro wx ch;obtain ⟨lz,l0⟩:=iZ ch;have hl:=Jg (gh.o.q ch) rfl;go_simp
    revert af;revert X;apply share;case' main=>intro fL
    apply share;case' main=>intro bo
    apply share;case' main=>intro cm
    apply share;case' main=>intro cg
    apply share;case' main=>intro iN
    apply share;case' main=>intro bl
    apply share;case' main=>intro eh
    apply share;case' main=>intro dg
    apply share;case' main=>intro gp
    apply share;case' main=>intro bu
    apply share;case' main=>intro eQ
    apply share;case' main=>intro ec
    apply share;case' main=>intro hQ
    apply share;case' main=>intro bt
    apply share;case' main=>intro cA
    apply share;case' main=>intro cd
    apply share;case' main=>intro jb
    apply share;case' main=>intro a0
    apply share;case' main=>intro e5
    apply share;case' main=>intro c0
    apply share;case' main=>intro id
    apply share;case' main=>intro dq
    apply share;case' main=>intro gN
    apply share;case' main=>intro hG
    ·intro X af;refine Lc [1,14,15] (AllReadyH.cons rfl (fun K hK=>?_) (AllReadyH.cons rfl (fun K hK=>?_) (AllReadyH.cons rfl (fun K hK=>?_) AllReadyH.nil)))
     ·go_simp;go_wp2_with fail;refine (uy c d _).mono ?_;rintro e X1 ⟨rfl,hb⟩;refine hK.out _ _ (ah af hb) (fun ai=>?_);replace af:=ai;clear hK K ai hb;clear X;try simp only [aT]
      revert af;revert X1;exact id.o
     ·go_simp;obtain ⟨CA,X1,eC,eY,hb,YA⟩:=GV X Ja 38 af (Ho _);rw [<-eY,<-eC];clear eC eY;refine hK.out _ _ (ah af hb) (fun ai=>?_);replace af:=ai;clear hK K ai hb;clear X;try simp only [aT]
      revert YA;revert af;revert CA;revert X1;exact gN.o
     go_simp;obtain ⟨CD,X1,eC,eY,hb,YB⟩:=GV X z8 41 af (Ho _);rw [<-eY,<-eC];clear eC eY;refine hK.out _ _ (ah af hb) (fun ai=>?_);replace af:=ai;clear hK K ai hb;clear X;try simp only [aT]
     revert YB;revert af;revert CD;revert X1;exact hG.o
    ·intro X CD af YB;refine Lc [1,14] (AllReadyH.cons rfl (fun K hK=>?_) (AllReadyH.cons rfl (fun K hK=>?_) AllReadyH.nil))
     ·go_simp;go_wp2_with fail;refine (uy c d _).mono ?_;rintro e X1 ⟨rfl,hb⟩;replace YB:=fQ (YB.o.q hb);refine hK.out _ _ (ah af hb) (fun ai=>?_);replace af:=ai;clear hK K ai hb;clear X;try simp only [aT]
      revert YB;revert af;revert CD;revert X1;exact c0.o
     go_simp;obtain ⟨CA,X1,eC,eY,hb,YA⟩:=GV X Ja 38 af (Ho _);rw [<-eY,<-eC];have aa:¬ CA=CD:=by have:=YB.o.1.1;omega
     replace YB:=fQ (YB.o.q hb);clear eC eY;refine hK.out _ _ (ah af hb) (fun ai=>?_);replace af:=ai;clear hK K ai hb;clear X;try simp only [aT]
     revert aa;revert YB;revert YA;revert af;revert CD;revert CA;revert X1;exact dq.o
    ·intro X CA af YA;refine Lc [1,15] (AllReadyH.cons rfl (fun K hK=>?_) (AllReadyH.cons rfl (fun K hK=>?_) AllReadyH.nil))
     ·go_simp;go_wp2_with fail;refine (uy c d _).mono ?_;rintro e X1 ⟨rfl,hb⟩;replace YA:=fQ (YA.o.q hb);refine hK.out _ _ (ah af hb) (fun ai=>?_);replace af:=ai;clear hK K ai hb;clear X;try simp only [aT]
      revert YA;revert af;revert CA;revert X1;exact e5.o
     go_simp;obtain ⟨CD,X1,eC,eY,hb,YB⟩:=GV X z8 41 af (Ho _);rw [<-eY,<-eC];have aa:¬ CA=CD:=by have:=YA.o.1.1;omega
     replace YA:=fQ (YA.o.q hb);clear eC eY;refine hK.out _ _ (ah af hb) (fun ai=>?_);replace af:=ai;clear hK K ai hb;clear X;try simp only [aT]
     exact dq.o X1 CA CD af YA YB aa
    ·intro X CA CD af YA YB aa;refine Ld 1 rfl fun K hK=>?_;go_simp;go_wp2_with fail;refine (uy c d _).mono ?_;rintro e X1 ⟨rfl,hb⟩;replace YA:=fQ (YA.o.q hb);replace YB:=fQ (YB.o.q hb);refine hK.out _ _ (ah af hb) (fun ai=>?_);replace af:=ai;clear hK K ai hb;clear X;try simp only [aT]
     revert aa;revert YB;revert YA;revert af;revert CD;revert CA;revert X1;exact a0.o
    ·intro X af;refine Lc [3,14,15] (AllReadyH.cons rfl (fun K hK=>?_) (AllReadyH.cons rfl (fun K hK=>?_) (AllReadyH.cons rfl (fun K hK=>?_) AllReadyH.nil)))
     ·go_simp;go_wp2_with fail;refine (I5 g p U u1 q1 u2 q2 u3 q3 u4 q4 ae.o _ (dw HU.o (ah ad.o af))).mono ?_;rintro e X1 ⟨⟨bW,bO,bX,bI,rfl,hO⟩,hb⟩;have FU:=fQ (hO.low af.size);clear hO;refine hK.out _ _ (ah af hb) (fun ai=>?_);replace af:=ai;clear hK K ai hb;clear X;try simp only [aT]
      revert FU;revert af;revert bI;revert bX;revert bO;revert bW;revert X1;exact jb.o
     ·go_simp;obtain ⟨CA,X1,eC,eY,hb,YA⟩:=GV X Ja 38 af (Ho _);rw [<-eY,<-eC];clear eC eY;refine hK.out _ _ (ah af hb) (fun ai=>?_);replace af:=ai;clear hK K ai hb;clear X;try simp only [aT]
      exact e5.o X1 CA af YA
     go_simp;obtain ⟨CD,X1,eC,eY,hb,YB⟩:=GV X z8 41 af (Ho _);rw [<-eY,<-eC];clear eC eY;refine hK.out _ _ (ah af hb) (fun ai=>?_);replace af:=ai;clear hK K ai hb;clear X;try simp only [aT]
     exact c0.o X1 CD af YB
    ·intro X CD af YB;refine Lc [3,14] (AllReadyH.cons rfl (fun K hK=>?_) (AllReadyH.cons rfl (fun K hK=>?_) AllReadyH.nil))
     ·go_simp;go_wp2_with fail;refine (I5 g p U u1 q1 u2 q2 u3 q3 u4 q4 ae.o _ (dw HU.o (ah ad.o af))).mono ?_;rintro e X1 ⟨⟨bW,bO,bX,bI,rfl,hO⟩,hb⟩;have FU:=fQ (hO.low af.size);clear hO;replace YB:=fQ (YB.o.q hb);refine hK.out _ _ (ah af hb) (fun ai=>?_);replace af:=ai;clear hK K ai hb;clear X;try simp only [aT]
      revert YB;revert FU;revert af;revert CD;revert bI;revert bX;revert bO;revert bW;revert X1;exact cd.o
     go_simp;obtain ⟨CA,X1,eC,eY,hb,YA⟩:=GV X Ja 38 af (Ho _);rw [<-eY,<-eC];have aa:¬ CA=CD:=by have:=YB.o.1.1;omega
     replace YB:=fQ (YB.o.q hb);clear eC eY;refine hK.out _ _ (ah af hb) (fun ai=>?_);replace af:=ai;clear hK K ai hb;clear X;try simp only [aT]
     exact a0.o X1 CA CD af YA YB aa
    ·intro X CA af YA;refine Lc [3,15] (AllReadyH.cons rfl (fun K hK=>?_) (AllReadyH.cons rfl (fun K hK=>?_) AllReadyH.nil))
     ·go_simp;go_wp2_with fail;refine (I5 g p U u1 q1 u2 q2 u3 q3 u4 q4 ae.o _ (dw HU.o (ah ad.o af))).mono ?_;rintro e X1 ⟨⟨bW,bO,bX,bI,rfl,hO⟩,hb⟩;have FU:=fQ (hO.low af.size);clear hO;replace YA:=fQ (YA.o.q hb);refine hK.out _ _ (ah af hb) (fun ai=>?_);replace af:=ai;clear hK K ai hb;clear X;try simp only [aT]
      revert YA;revert FU;revert af;revert CA;revert bI;revert bX;revert bO;revert bW;revert X1;exact cA.o
     go_simp;obtain ⟨CD,X1,eC,eY,hb,YB⟩:=GV X z8 41 af (Ho _);rw [<-eY,<-eC];have aa:¬ CA=CD:=by have:=YA.o.1.1;omega
     replace YA:=fQ (YA.o.q hb);clear eC eY;refine hK.out _ _ (ah af hb) (fun ai=>?_);replace af:=ai;clear hK K ai hb;clear X;try simp only [aT]
     exact a0.o X1 CA CD af YA YB aa
    ·intro X CA CD af YA YB aa;refine Ld 3 rfl fun K hK=>?_;go_simp;go_wp2_with fail;refine (I5 g p U u1 q1 u2 q2 u3 q3 u4 q4 ae.o _ (dw HU.o (ah ad.o af))).mono ?_;rintro e X1 ⟨⟨bW,bO,bX,bI,rfl,hO⟩,hb⟩;have FU:=fQ (hO.low af.size);clear hO;replace YA:=fQ (YA.o.q hb);replace YB:=fQ (YB.o.q hb);refine hK.out _ _ (ah af hb) (fun ai=>?_);replace af:=ai;clear hK K ai hb;clear X;try simp only [aT]
     revert aa;revert YB;revert YA;revert FU;revert af;revert CD;revert CA;revert bI;revert bX;revert bO;revert bW;revert X1;exact bt.o
    ·intro X bW bO bX bI af FU;refine Lc [5,14,15] (AllReadyH.cons rfl (fun K hK=>?_) (AllReadyH.cons rfl (fun K hK=>?_) (AllReadyH.cons rfl (fun K hK=>?_) AllReadyH.nil)))
     ·go_simp;go_wp2_with fail;refine (jV a V Z aW kW aO kO aX kX aI kI aR nR kR hS.o.1 hS.o.2 _ (dw HC.o (ah ad.o af)) (P16.iL HR.o (ah ad.o af))).mono ?_;rintro e X1 ⟨⟨dW,dO,dX,dI,dR,rfl,hO,h3,h4,-,-⟩,hb⟩;have FS:bY (Kr bz.heap.size X1 dW dO dX dI dR V nR Z):=⟨hO.low af.size,h3,h4⟩;clear hO h3 h4;replace FU:=fQ (FU.o.q hb);refine hK.out _ _ (ah af hb) (fun ai=>?_);replace af:=ai;clear hK K ai hb;clear X;try simp only [aT]
      revert FS;revert FU;revert af;revert dR;revert dI;revert dX;revert dO;revert dW;revert bI;revert bX;revert bO;revert bW;revert X1;exact hQ.o
     ·go_simp;obtain ⟨CA,X1,eC,eY,hb,YA⟩:=GV X Ja 38 af (Ho _);rw [<-eY,<-eC];replace FU:=fQ (FU.o.q hb);clear eC eY;refine hK.out _ _ (ah af hb) (fun ai=>?_);replace af:=ai;clear hK K ai hb;clear X;try simp only [aT]
      exact cA.o X1 bW bO bX bI CA af FU YA
     go_simp;obtain ⟨CD,X1,eC,eY,hb,YB⟩:=GV X z8 41 af (Ho _);rw [<-eY,<-eC];replace FU:=fQ (FU.o.q hb);clear eC eY;refine hK.out _ _ (ah af hb) (fun ai=>?_);replace af:=ai;clear hK K ai hb;clear X;try simp only [aT]
     exact cd.o X1 bW bO bX bI CD af FU YB
    ·intro X bW bO bX bI CD af FU YB;refine Lc [5,14] (AllReadyH.cons rfl (fun K hK=>?_) (AllReadyH.cons rfl (fun K hK=>?_) AllReadyH.nil))
     ·go_simp;go_wp2_with fail;refine (jV a V Z aW kW aO kO aX kX aI kI aR nR kR hS.o.1 hS.o.2 _ (dw HC.o (ah ad.o af)) (P16.iL HR.o (ah ad.o af))).mono ?_;rintro e X1 ⟨⟨dW,dO,dX,dI,dR,rfl,hO,h3,h4,-,-⟩,hb⟩;have FS:bY (Kr bz.heap.size X1 dW dO dX dI dR V nR Z):=⟨hO.low af.size,h3,h4⟩;clear hO h3 h4;replace FU:=fQ (FU.o.q hb);replace YB:=fQ (YB.o.q hb);refine hK.out _ _ (ah af hb) (fun ai=>?_);replace af:=ai;clear hK K ai hb;clear X;try simp only [aT]
      revert YB;revert FS;revert FU;revert af;revert CD;revert dR;revert dI;revert dX;revert dO;revert dW;revert bI;revert bX;revert bO;revert bW;revert X1;exact ec.o
     go_simp;obtain ⟨CA,X1,eC,eY,hb,YA⟩:=GV X Ja 38 af (Ho _);rw [<-eY,<-eC];have aa:¬ CA=CD:=by have:=YB.o.1.1;omega
     replace FU:=fQ (FU.o.q hb);replace YB:=fQ (YB.o.q hb);clear eC eY;refine hK.out _ _ (ah af hb) (fun ai=>?_);replace af:=ai;clear hK K ai hb;clear X;try simp only [aT]
     exact bt.o X1 bW bO bX bI CA CD af FU YA YB aa
    ·intro X bW bO bX bI CA af FU YA;refine Lc [5,15] (AllReadyH.cons rfl (fun K hK=>?_) (AllReadyH.cons rfl (fun K hK=>?_) AllReadyH.nil))
     ·go_simp;go_wp2_with fail;refine (jV a V Z aW kW aO kO aX kX aI kI aR nR kR hS.o.1 hS.o.2 _ (dw HC.o (ah ad.o af)) (P16.iL HR.o (ah ad.o af))).mono ?_;rintro e X1 ⟨⟨dW,dO,dX,dI,dR,rfl,hO,h3,h4,-,-⟩,hb⟩;have FS:bY (Kr bz.heap.size X1 dW dO dX dI dR V nR Z):=⟨hO.low af.size,h3,h4⟩;clear hO h3 h4;replace FU:=fQ (FU.o.q hb);replace YA:=fQ (YA.o.q hb);refine hK.out _ _ (ah af hb) (fun ai=>?_);replace af:=ai;clear hK K ai hb;clear X;try simp only [aT]
      revert YA;revert FS;revert FU;revert af;revert CA;revert dR;revert dI;revert dX;revert dO;revert dW;revert bI;revert bX;revert bO;revert bW;revert X1;exact eQ.o
     go_simp;obtain ⟨CD,X1,eC,eY,hb,YB⟩:=GV X z8 41 af (Ho _);rw [<-eY,<-eC];have aa:¬ CA=CD:=by have:=YA.o.1.1;omega
     replace FU:=fQ (FU.o.q hb);replace YA:=fQ (YA.o.q hb);clear eC eY;refine hK.out _ _ (ah af hb) (fun ai=>?_);replace af:=ai;clear hK K ai hb;clear X;try simp only [aT]
     exact bt.o X1 bW bO bX bI CA CD af FU YA YB aa
    ·intro X bW bO bX bI CA CD af FU YA YB aa;refine Ld 5 rfl fun K hK=>?_;go_simp;go_wp2_with fail;refine (jV a V Z aW kW aO kO aX kX aI kI aR nR kR hS.o.1 hS.o.2 _ (dw HC.o (ah ad.o af)) (P16.iL HR.o (ah ad.o af))).mono ?_;rintro e X1 ⟨⟨dW,dO,dX,dI,dR,rfl,hO,h3,h4,-,-⟩,hb⟩;have FS:bY (Kr bz.heap.size X1 dW dO dX dI dR V nR Z):=⟨hO.low af.size,h3,h4⟩;clear hO h3 h4;replace FU:=fQ (FU.o.q hb);replace YA:=fQ (YA.o.q hb);replace YB:=fQ (YB.o.q hb);refine hK.out _ _ (ah af hb) (fun ai=>?_);replace af:=ai;clear hK K ai hb;clear X;try simp only [aT]
     revert aa;revert YB;revert YA;revert FS;revert FU;revert af;revert CD;revert CA;revert dR;revert dI;revert dX;revert dO;revert dW;revert bI;revert bX;revert bO;revert bW;revert X1;exact bu.o
    ·intro X bW bO bX bI dW dO dX dI dR af FU FS;refine Lc [7,14,15] (AllReadyH.cons rfl (fun K hK=>?_) (AllReadyH.cons rfl (fun K hK=>?_) (AllReadyH.cons rfl (fun K hK=>?_) AllReadyH.nil)))
     ·go_simp;go_wp2_with fail;refine (IZ R _).mono ?_;rintro e X1 ⟨rfl,hb⟩;replace FU:=fQ (FU.o.q hb);replace FS:=fQ (FS.o.q hb);refine hK.out _ _ (ah af hb) (fun ai=>?_);replace af:=ai;clear hK K ai hb;clear X;try simp only [aT]
      revert FS;revert FU;revert af;revert dR;revert dI;revert dX;revert dO;revert dW;revert bI;revert bX;revert bO;revert bW;revert X1;exact gp.o
     ·go_simp;obtain ⟨CA,X1,eC,eY,hb,YA⟩:=GV X Ja 38 af (Ho _);rw [<-eY,<-eC];replace FU:=fQ (FU.o.q hb);replace FS:=fQ (FS.o.q hb);clear eC eY;refine hK.out _ _ (ah af hb) (fun ai=>?_);replace af:=ai;clear hK K ai hb;clear X;try simp only [aT]
      exact eQ.o X1 bW bO bX bI dW dO dX dI dR CA af FU FS YA
     go_simp;obtain ⟨CD,X1,eC,eY,hb,YB⟩:=GV X z8 41 af (Ho _);rw [<-eY,<-eC];replace FU:=fQ (FU.o.q hb);replace FS:=fQ (FS.o.q hb);clear eC eY;refine hK.out _ _ (ah af hb) (fun ai=>?_);replace af:=ai;clear hK K ai hb;clear X;try simp only [aT]
     exact ec.o X1 bW bO bX bI dW dO dX dI dR CD af FU FS YB
    ·intro X bW bO bX bI dW dO dX dI dR CD af FU FS YB;refine Lc [7,14] (AllReadyH.cons rfl (fun K hK=>?_) (AllReadyH.cons rfl (fun K hK=>?_) AllReadyH.nil))
     ·go_simp;go_wp2_with fail;refine (IZ R _).mono ?_;rintro e X1 ⟨rfl,hb⟩;replace FU:=fQ (FU.o.q hb);replace FS:=fQ (FS.o.q hb);replace YB:=fQ (YB.o.q hb);refine hK.out _ _ (ah af hb) (fun ai=>?_);replace af:=ai;clear hK K ai hb;clear X;try simp only [aT]
      revert YB;revert FS;revert FU;revert af;revert CD;revert dR;revert dI;revert dX;revert dO;revert dW;revert bI;revert bX;revert bO;revert bW;revert X1;exact dg.o
     go_simp;obtain ⟨CA,X1,eC,eY,hb,YA⟩:=GV X Ja 38 af (Ho _);rw [<-eY,<-eC];have aa:¬ CA=CD:=by have:=YB.o.1.1;omega
     replace FU:=fQ (FU.o.q hb);replace FS:=fQ (FS.o.q hb);replace YB:=fQ (YB.o.q hb);clear eC eY;refine hK.out _ _ (ah af hb) (fun ai=>?_);replace af:=ai;clear hK K ai hb;clear X;try simp only [aT]
     exact bu.o X1 bW bO bX bI dW dO dX dI dR CA CD af FU FS YA YB aa
    ·intro X bW bO bX bI dW dO dX dI dR CA af FU FS YA;refine Lc [7,15] (AllReadyH.cons rfl (fun K hK=>?_) (AllReadyH.cons rfl (fun K hK=>?_) AllReadyH.nil))
     ·go_simp;go_wp2_with fail;refine (IZ R _).mono ?_;rintro e X1 ⟨rfl,hb⟩;replace FU:=fQ (FU.o.q hb);replace FS:=fQ (FS.o.q hb);replace YA:=fQ (YA.o.q hb);refine hK.out _ _ (ah af hb) (fun ai=>?_);replace af:=ai;clear hK K ai hb;clear X;try simp only [aT]
      revert YA;revert FS;revert FU;revert af;revert CA;revert dR;revert dI;revert dX;revert dO;revert dW;revert bI;revert bX;revert bO;revert bW;revert X1;exact eh.o
     go_simp;obtain ⟨CD,X1,eC,eY,hb,YB⟩:=GV X z8 41 af (Ho _);rw [<-eY,<-eC];have aa:¬ CA=CD:=by have:=YA.o.1.1;omega
     replace FU:=fQ (FU.o.q hb);replace FS:=fQ (FS.o.q hb);replace YA:=fQ (YA.o.q hb);clear eC eY;refine hK.out _ _ (ah af hb) (fun ai=>?_);replace af:=ai;clear hK K ai hb;clear X;try simp only [aT]
     exact bu.o X1 bW bO bX bI dW dO dX dI dR CA CD af FU FS YA YB aa
    ·intro X bW bO bX bI dW dO dX dI dR CA CD af FU FS YA YB aa;refine Ld 7 rfl fun K hK=>?_;go_simp;go_wp2_with fail;refine (IZ R _).mono ?_;rintro e X1 ⟨rfl,hb⟩;replace FU:=fQ (FU.o.q hb);replace FS:=fQ (FS.o.q hb);replace YA:=fQ (YA.o.q hb);replace YB:=fQ (YB.o.q hb);refine hK.out _ _ (ah af hb) (fun ai=>?_);replace af:=ai;clear hK K ai hb;clear X;try simp only [aT]
     revert aa;revert YB;revert YA;revert FS;revert FU;revert af;revert CD;revert CA;revert dR;revert dI;revert dX;revert dO;revert dW;revert bI;revert bX;revert bO;revert bW;revert X1;exact bl.o
    ·intro X bW bO bX bI dW dO dX dI dR af FU FS;refine Lc [8,14,15] (AllReadyH.cons rfl (fun K hK=>?_) (AllReadyH.cons rfl (fun K hK=>?_) (AllReadyH.cons rfl (fun K hK=>?_) AllReadyH.nil)))
     ·go_simp;go_wp2_with fail;refine (FW c d g p a R U V _ _ bW bO bX bI dW dO dX dI dR nR Z ae.o hS.o.1 hS.o.2 dl.o eM.o es.o cJ.o _ (((ah ad.o af).cell (p:=(zA 0 0)) am).trans ek.o) FU.o.copy FS.o.1.copy FS.o.2.1 (P16.aZ FS.o.2.2)).mono ?_;rintro e X1 ⟨⟨va,vb,rfl,hA⟩,hb⟩;rw [<-EX.o] at hA ⊢;obtain ⟨l1,h1,l2,h2,gA,g1,g2⟩:=hA.f af.size;have AF:=fQ gA;clear hA gA g1 g2 FU FS;refine hK.out _ _ (ah af hb) (fun ai=>?_);replace af:=ai;clear hK K ai hb;clear X;try simp only [aT]
      refine Lj 9 (.tuple #[va,vb,zI x.k,zI x.r]) rfl ?_;try simp only [aT]
      refine Lj 10 (va) rfl ?_;try simp only [aT]
      refine Lj 11 (vb) rfl ?_;try simp only [aT]
      refine Lj 12 (zI x.k) rfl ?_;try simp only [aT]
      refine Lj 13 (zI x.r) rfl ?_;try simp only [aT]
      revert AF;revert af;revert h2;revert l2;revert h1;revert l1;revert vb;revert va;revert dR;revert dI;revert dX;revert dO;revert dW;revert bI;revert bX;revert bO;revert bW;revert X1;exact iN.o
     ·go_simp;obtain ⟨CA,X1,eC,eY,hb,YA⟩:=GV X Ja 38 af (Ho _);rw [<-eY,<-eC];replace FU:=fQ (FU.o.q hb);replace FS:=fQ (FS.o.q hb);clear eC eY;refine hK.out _ _ (ah af hb) (fun ai=>?_);replace af:=ai;clear hK K ai hb;clear X;try simp only [aT]
      exact eh.o X1 bW bO bX bI dW dO dX dI dR CA af FU FS YA
     go_simp;obtain ⟨CD,X1,eC,eY,hb,YB⟩:=GV X z8 41 af (Ho _);rw [<-eY,<-eC];replace FU:=fQ (FU.o.q hb);replace FS:=fQ (FS.o.q hb);clear eC eY;refine hK.out _ _ (ah af hb) (fun ai=>?_);replace af:=ai;clear hK K ai hb;clear X;try simp only [aT]
     exact dg.o X1 bW bO bX bI dW dO dX dI dR CD af FU FS YB
    ·intro X bW bO bX bI dW dO dX dI dR CD af FU FS YB;refine Lc [8,14] (AllReadyH.cons rfl (fun K hK=>?_) (AllReadyH.cons rfl (fun K hK=>?_) AllReadyH.nil))
     ·go_simp;go_wp2_with fail;refine (FW c d g p a R U V _ _ bW bO bX bI dW dO dX dI dR nR Z ae.o hS.o.1 hS.o.2 dl.o eM.o es.o cJ.o _ (((ah ad.o af).cell (p:=(zA 0 0)) am).trans ek.o) FU.o.copy FS.o.1.copy FS.o.2.1 (P16.aZ FS.o.2.2)).mono ?_;rintro e X1 ⟨⟨va,vb,rfl,hA⟩,hb⟩;rw [<-EX.o] at hA ⊢;obtain ⟨l1,h1,l2,h2,gA,g1,g2⟩:=hA.f af.size;have AF:=fQ gA;have eB:Lh CD l1 h1 l2 h2:=⟨.inl (Hg YB.o.1.1 g1),.inl (Hg YB.o.1.1 g2)⟩;clear hA gA g1 g2 FU FS;replace YB:=fQ (YB.o.q hb);refine hK.out _ _ (ah af hb) (fun ai=>?_);replace af:=ai;clear hK K ai hb;clear X;try simp only [aT]
      refine Lj 9 (.tuple #[va,vb,zI x.k,zI x.r]) rfl ?_;try simp only [aT]
      refine Lj 10 (va) rfl ?_;try simp only [aT]
      refine Lj 11 (vb) rfl ?_;try simp only [aT]
      refine Lj 12 (zI x.k) rfl ?_;try simp only [aT]
      refine Lj 13 (zI x.r) rfl ?_;try simp only [aT]
      revert eB;revert YB;revert AF;revert af;revert CD;revert h2;revert l2;revert h1;revert l1;revert vb;revert va;revert dR;revert dI;revert dX;revert dO;revert dW;revert bI;revert bX;revert bO;revert bW;revert X1;exact cg.o
     go_simp;obtain ⟨CA,X1,eC,eY,hb,YA⟩:=GV X Ja 38 af (Ho _);rw [<-eY,<-eC];have aa:¬ CA=CD:=by have:=YB.o.1.1;omega
     replace FU:=fQ (FU.o.q hb);replace FS:=fQ (FS.o.q hb);replace YB:=fQ (YB.o.q hb);clear eC eY;refine hK.out _ _ (ah af hb) (fun ai=>?_);replace af:=ai;clear hK K ai hb;clear X;try simp only [aT]
     exact bl.o X1 bW bO bX bI dW dO dX dI dR CA CD af FU FS YA YB aa
    ·intro X bW bO bX bI dW dO dX dI dR CA af FU FS YA;refine Lc [8,15] (AllReadyH.cons rfl (fun K hK=>?_) (AllReadyH.cons rfl (fun K hK=>?_) AllReadyH.nil))
     ·go_simp;go_wp2_with fail;refine (FW c d g p a R U V _ _ bW bO bX bI dW dO dX dI dR nR Z ae.o hS.o.1 hS.o.2 dl.o eM.o es.o cJ.o _ (((ah ad.o af).cell (p:=(zA 0 0)) am).trans ek.o) FU.o.copy FS.o.1.copy FS.o.2.1 (P16.aZ FS.o.2.2)).mono ?_;rintro e X1 ⟨⟨va,vb,rfl,hA⟩,hb⟩;rw [<-EX.o] at hA ⊢;obtain ⟨l1,h1,l2,h2,gA,g1,g2⟩:=hA.f af.size;have AF:=fQ gA;have eA:Lh CA l1 h1 l2 h2:=⟨.inl (Hg YA.o.1.1 g1),.inl (Hg YA.o.1.1 g2)⟩;clear hA gA g1 g2 FU FS;replace YA:=fQ (YA.o.q hb);refine hK.out _ _ (ah af hb) (fun ai=>?_);replace af:=ai;clear hK K ai hb;clear X;try simp only [aT]
      refine Lj 9 (.tuple #[va,vb,zI x.k,zI x.r]) rfl ?_;try simp only [aT]
      refine Lj 10 (va) rfl ?_;try simp only [aT]
      refine Lj 11 (vb) rfl ?_;try simp only [aT]
      refine Lj 12 (zI x.k) rfl ?_;try simp only [aT]
      refine Lj 13 (zI x.r) rfl ?_;try simp only [aT]
      revert eA;revert YA;revert AF;revert af;revert CA;revert h2;revert l2;revert h1;revert l1;revert vb;revert va;revert dR;revert dI;revert dX;revert dO;revert dW;revert bI;revert bX;revert bO;revert bW;revert X1;exact cm.o
     go_simp;obtain ⟨CD,X1,eC,eY,hb,YB⟩:=GV X z8 41 af (Ho _);rw [<-eY,<-eC];have aa:¬ CA=CD:=by have:=YA.o.1.1;omega
     replace FU:=fQ (FU.o.q hb);replace FS:=fQ (FS.o.q hb);replace YA:=fQ (YA.o.q hb);clear eC eY;refine hK.out _ _ (ah af hb) (fun ai=>?_);replace af:=ai;clear hK K ai hb;clear X;try simp only [aT]
     exact bl.o X1 bW bO bX bI dW dO dX dI dR CA CD af FU FS YA YB aa
    ·intro X bW bO bX bI dW dO dX dI dR CA CD af FU FS YA YB aa;refine Ld 8 rfl fun K hK=>?_;go_simp;go_wp2_with fail;refine (FW c d g p a R U V _ _ bW bO bX bI dW dO dX dI dR nR Z ae.o hS.o.1 hS.o.2 dl.o eM.o es.o cJ.o _ (((ah ad.o af).cell (p:=(zA 0 0)) am).trans ek.o) FU.o.copy FS.o.1.copy FS.o.2.1 (P16.aZ FS.o.2.2)).mono ?_;rintro e X1 ⟨⟨va,vb,rfl,hA⟩,hb⟩;rw [<-EX.o] at hA ⊢;obtain ⟨l1,h1,l2,h2,gA,g1,g2⟩:=hA.f af.size;have AF:=fQ gA;have eA:Lh CA l1 h1 l2 h2:=⟨.inl (Hg YA.o.1.1 g1),.inl (Hg YA.o.1.1 g2)⟩;have eB:Lh CD l1 h1 l2 h2:=⟨.inl (Hg YB.o.1.1 g1),.inl (Hg YB.o.1.1 g2)⟩;clear hA gA g1 g2 FU FS;replace YA:=fQ (YA.o.q hb);replace YB:=fQ (YB.o.q hb);refine hK.out _ _ (ah af hb) (fun ai=>?_);replace af:=ai;clear hK K ai hb;clear X;try simp only [aT]
     refine Lj 9 (.tuple #[va,vb,zI x.k,zI x.r]) rfl ?_;try simp only [aT]
     refine Lj 10 (va) rfl ?_;try simp only [aT]
     refine Lj 11 (vb) rfl ?_;try simp only [aT]
     refine Lj 12 (zI x.k) rfl ?_;try simp only [aT]
     refine Lj 13 (zI x.r) rfl ?_;try simp only [aT]
     revert aa;revert eB;revert YB;revert eA;revert YA;revert AF;revert af;revert CD;revert CA;revert h2;revert l2;revert h1;revert l1;revert vb;revert va;revert dR;revert dI;revert dX;revert dO;revert dW;revert bI;revert bX;revert bO;revert bW;revert X1;exact bo.o
    ·intro X bW bO bX bI dW dO dX dI dR va vb l1 h1 l2 h2 af AF;refine Lc [14,15] (AllReadyH.cons rfl (fun K hK=>?_) (AllReadyH.cons rfl (fun K hK=>?_) AllReadyH.nil))
     ·go_simp;obtain ⟨CA,X1,eC,eY,hb,YA⟩:=GV X Ja 38 af (Ho _);rw [<-eY,<-eC];have eA:=AF.o.new (Hl eC.symm);replace AF:=fQ (AF.o.q hb);clear eC eY;refine hK.out _ _ (ah af hb) (fun ai=>?_);replace af:=ai;clear hK K ai hb;clear X;try simp only [aT]
      exact cm.o X1 bW bO bX bI dW dO dX dI dR va vb l1 h1 l2 h2 CA af AF YA eA
     go_simp;obtain ⟨CD,X1,eC,eY,hb,YB⟩:=GV X z8 41 af (Ho _);rw [<-eY,<-eC];have eB:=AF.o.new (Hl eC.symm);replace AF:=fQ (AF.o.q hb);clear eC eY;refine hK.out _ _ (ah af hb) (fun ai=>?_);replace af:=ai;clear hK K ai hb;clear X;try simp only [aT]
     exact cg.o X1 bW bO bX bI dW dO dX dI dR va vb l1 h1 l2 h2 CD af AF YB eB
    ·intro X bW bO bX bI dW dO dX dI dR va vb l1 h1 l2 h2 CD af AF YB eB;refine Ld 14 rfl fun K hK=>?_;go_simp;obtain ⟨CA,X1,eC,eY,hb,YA⟩:=GV X Ja 38 af (Ho _);rw [<-eY,<-eC];have eA:=AF.o.new (Hl eC.symm);have aa:¬ CA=CD:=by have:=YB.o.1.1;omega
     replace AF:=fQ (AF.o.q hb);replace YB:=fQ (YB.o.q hb);clear eC eY;refine hK.out _ _ (ah af hb) (fun ai=>?_);replace af:=ai;clear hK K ai hb;clear X;try simp only [aT]
     exact bo.o X1 bW bO bX bI dW dO dX dI dR va vb l1 h1 l2 h2 CA CD af AF YA eA YB eB aa
    ·intro X bW bO bX bI dW dO dX dI dR va vb l1 h1 l2 h2 CA af AF YA eA;refine Ld 15 rfl fun K hK=>?_;go_simp;obtain ⟨CD,X1,eC,eY,hb,YB⟩:=GV X z8 41 af (Ho _);rw [<-eY,<-eC];have eB:=AF.o.new (Hl eC.symm);have aa:¬ CA=CD:=by have:=YA.o.1.1;omega
     replace AF:=fQ (AF.o.q hb);replace YA:=fQ (YA.o.q hb);clear eC eY;refine hK.out _ _ (ah af hb) (fun ai=>?_);replace af:=ai;clear hK K ai hb;clear X;try simp only [aT]
     exact bo.o X1 bW bO bX bI dW dO dX dI dR va vb l1 h1 l2 h2 CA CD af AF YA eA YB eB aa
    ·intro X bW bO bX bI dW dO dX dI dR va vb l1 h1 l2 h2 CA CD af AF YA eA YB eB aa;refine Ld 16 rfl fun K hK=>?_;obtain ⟨a1,k1,a2,k2,a3,k3,a4,k4,rfl,-⟩:=AF.o.1;have f0:=YA.o.1.f8;have p0:=YA.o.1.a8;have bA:=YA.o.1.1;go_simp;obtain ⟨X1,e6,hN,ag,SP,Q6⟩:=KR [zI x.g,zI x.p,zI x.U.c,.slice a1 x.U.nW k1,zI x.U.g,.slice a2 x.U.nO k2,.slice a3 x.U.nX k3,.slice a4 x.U.nI k4] af YA.o rfl;simp only [qg] at e6;rw [<-e6];clear e6 f0 p0 bA;replace AF:=fQ (AF.o.put eA ag SP);replace YB:=fQ (YB.o.put ag SP (fun e=>aa e.symm));replace YA:=Q6;clear Q6 SP ag;refine hK.out _ _ hN (fun ai=>?_);replace af:=ai;clear hK K ai hN;clear X;try simp only [aT]
     revert aa;revert eB;revert YB;revert eA;revert YA;revert AF;revert af;revert CD;revert CA;revert h2;revert l2;revert h1;revert l1;revert vb;revert k4;revert k3;revert k2;revert k1;revert a4;revert a3;revert a2;revert a1;revert dR;revert dI;revert dX;revert dO;revert dW;revert bI;revert bX;revert bO;revert bW;revert X1;exact fL.o
    intro X bW bO bX bI dW dO dX dI dR a1 a2 a3 a4 k1 k2 k3 k4 vb l1 h1 l2 h2 CA CD af AF YA eA YB eB aa;refine Ld 17 rfl fun K hK=>?_;obtain ⟨s1,i1,s2,i2,s3,i3,s4,i4,s5,i5,_,_,_,rfl,_⟩:=AF.o.2.1;have f0:=YB.o.1.f8;have p0:=YB.o.1.a8;have bA:=YB.o.1.1;go_simp;obtain ⟨X1,e6,hN,ag,SP,Q6⟩:=KR [zI x.a,zI x.V.c,.slice s1 x.V.nW i1,zI x.V.g,.slice s2 x.V.nO i2,.slice s3 x.V.nX i3,.slice s4 x.V.nI i4,.slice s5 x.n i5] af YB.o rfl;simp only [qg] at e6;rw [<-e6];clear e6 f0 p0 bA;have A6:=AF.o.put eB ag SP;have Y6:=YA.o.put ag SP aa;clear AF YA;refine hK.out _ _ hN (fun ai=>?_);try simp only [aT]
    refine Lj 18 (zI x.k) rfl ?_;try simp only [aT]
    refine Lj 19 (zI x.r) rfl ?_;try simp only [aT]
    refine Hy (by as_aux_lemma=>kernel_rfl) ?_ _;go_wp2;go_meet
    case rel=>exact ⟨CA,CD,l1,h1,l2,h2,a1,k1,a2,k2,a3,k3,a4,k4,s1,i1,s2,i2,s3,i3,s4,i4,s5,i5,rfl,rfl,rfl,rfl,Y6,Q6,A6,eA,eB,aa,hN⟩
   case rest=>
    clear m0 m1 gP;clear x0 ic;clear y0 e9;obtain ⟨k6,hv⟩:∃ wn,wn=wc:=⟨_,rfl⟩;subst hv;obtain ⟨E1,E2,L5,J5,L6,J6,ow,oo,ov,n4,nz,pb,ob,m3,nf,n6,m8,om,oy,nw,oT,oj,nh,nF,rfl,rfl,rfl,rfl,⟨bx,g1⟩,⟨b0,g3⟩,⟨ds,cr,g5,g6,g7,g8,g9,mN,nA⟩,⟨mR,pd⟩,⟨o3,nQ⟩,oB,hb⟩:=hcut;have g2:=bx.1;have g4:=b0.1;have ml:=hb.size;have gj:=fQ (ah ad.o hb);have aL:=fQ (e7.o.q hb);have cf:=fQ (dr.o.q hb);have br:=fQ (eK.o.q hb);have cl:=fQ (eo.o.q hb);have dT:=fQ (eS.o.q hb);have dp:=fQ (cL.o.q hb);have cM:=fQ (co.o.q hb);have eD:=fQ (eE.o.q hb);clear ad fg fh fi gh e7 dr eK eo eS cL co eE;clear hb;have jN:=fQ bx;clear bx;have ly:=fQ b0;clear b0;have kg:=fQ ds;clear ds;have l3:=fQ cr;clear cr;have x0:=jN.o.a8;have bS:E1<k6.heap.size:=jN.o.1;have y0:=aL.o.a8;have bB:C1<k6.heap.size:=aL.o.1;go_wp2_with fail;clear x0 bS;clear y0 bB;refine (Jy x.g x.p x.U _ _ L5 J5 L1 J1 (lZ HF.o.1.1) _ kg.o br.o).mono ?_;rintro e l4 ⟨rfl,hb⟩;have mB:=hb.size;have gc:=fQ (ah gj.o hb);have dy:=fQ (aL.o.q hb);have ar:=fQ (cf.o.q hb);have eq:=fQ (br.o.q hb);have b4:=fQ (cl.o.q hb);have cX:=fQ (dT.o.q hb);have ep:=fQ (dp.o.q hb);have cF:=fQ (cM.o.q hb);have cz:=fQ (eD.o.q hb);have da:=fQ (jN.o.q hb);have an:=fQ (ly.o.q hb);have e1:=fQ (kg.o.q hb);have bp:=fQ (l3.o.q hb);clear gj aL cf br cl dT dp cM eD jN ly kg l3;clear hb;have x0:=an.o.a8;have bS:E2<l4.heap.size:=an.o.1;have y0:=ar.o.a8;have bB:C2<l4.heap.size:=ar.o.1;go_wp2_with fail;clear x0 bS;clear y0 bB;refine (IC x.a x.V x.n x.Z _ _ L6 J6 L2 J2 (lZ HF.o.2.1.1) (by have:=HF.o.2.2;omega) _ bp.o b4.o).mono ?_;rintro e mi ⟨rfl,hb⟩;have mb:=hb.size;have ge:=fQ (ah gc.o hb);have iz:=fQ (dy.o.q hb);have fw:=fQ (ar.o.q hb);have hk:=fQ (eq.o.q hb);have h9:=fQ (b4.o.q hb);have ao:=fQ (cX.o.q hb);have e2:=fQ (ep.o.q hb);have bw:=fQ (cF.o.q hb);have cj:=fQ (cz.o.q hb);have he:=fQ (da.o.q hb);have hg:=fQ (an.o.q hb);have fN:=fQ (e1.o.q hb);have hY:=fQ (bp.o.q hb);clear gc dy ar eq b4 cX ep cF cz da an e1 bp;clear hb;clear he;clear hg;clear fN;clear hY;clear hk;clear h9;clear iz;clear fw;have x0:=ao.o.a8;have ak:D1<mi.heap.size:=ao.o.1;go_wp2_with fail;clear x0 ak;refine (JE x.g x.p x.U _ L3 J3 HF.o.1.2.1 _ bw.o).mono ?_;rintro e mu ⟨rfl,hb⟩;have mq:=hb.size;have gM:=fQ (ah ge.o hb);have de:=fQ (ao.o.q hb);have av:=fQ (e2.o.q hb);have dv:=fQ (bw.o.q hb);have a7:=fQ (cj.o.q hb);clear ge ao e2 bw cj;clear hb;have x0:=av.o.a8;have ak:D2<mu.heap.size:=av.o.1;go_wp2_with fail;clear x0 ak;refine (JF (x.U.t4 1) HF.o.1.2.2 x.a x.V x.n _ L4 J4 HF.o.2.1.2 HF.o.2.2 _ a7.o).mono ?_;rintro e pe ⟨rfl,hb⟩;rw [<-lv.o];have mt:=hb.size;have ka:=fQ (ah gM.o hb);have kY:=fQ (de.o.q hb);have lf:=fQ (av.o.q hb);have ky:=fQ (dv.o.q hb);have kr:=fQ (a7.o.q hb);clear gM de av dv a7;clear hb;have BZ:=ka.o;go_wp2;go_ret;exact ⟨rfl,BZ⟩
