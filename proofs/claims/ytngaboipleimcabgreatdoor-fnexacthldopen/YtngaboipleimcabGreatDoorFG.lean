/- A cell that lies in memory, its walkers' list perhaps nil; l5Copy of the model of such a cell; conditions: the cell lies in memory. -/
import Derived.Test.YtngaboipleimcabGreatDoorMo3
set_option linter.unusedVariables false
set_option maxHeartbeats 4000000
set_option maxRecDepth 20000
namespace Go.Proofs.YtngaboipleimcabGreatDoor
open Go.RowKit Go.Deep
theorem Ak (a:Option Addr) (n cap:Nat) (Z:Nat->Nat->Int) (hn:n<=1048576) (w:World) (h:lJ w a n Z) :
 Hz 102 #[.slice a n cap] w fun e w'=>(∃ v,e=.returned v/\w'.ownsRow w.heap.size 67 5 v n ((List.range n).flatMap (aP Z)))/\Below w.heap.size w w':=by
 rcases h with rfl | ⟨b,o,rfl,hb,hr⟩
 ·cases a with
  | none =>
   go_enter Tryz.func102,Tryz.ntmps102;go_wp2;go_ret;exact ⟨⟨_,rfl,World.ownsRow_lit w #[] 0 (Ho _) (by simp) (by simp)⟩,(Hr _ _).alloc (Ho _) _⟩
  | some x =>
   go_enter Tryz.func102,Tryz.ntmps102;go_wp2;go_ret;exact ⟨⟨_,rfl,World.ownsRow_lit w #[] 0 (Ho _) (by simp) (by simp)⟩,(Hr _ _).alloc (Ho _) _⟩
 exact rC b o n cap Z hn w hb hr
theorem wO.g {w:World} {v:Value} {V:CV} (h:wO w v V):dL w v V:=by
 obtain ⟨bW,bO,bX,bI,cW,cO,cX,cI,q1,q2,q3,q4,rfl,oW,oO,oX,oI⟩:=h;exact ⟨some (zA bW 0),bO,bX,bI,cW,cO,cX,cI,q2,q3,q4,rfl,.inr ⟨bW,0,rfl,q1,oW⟩,fun k hk=>by obtain ⟨y,c,y1,y2,y3⟩:=oO k hk;exact ⟨_,c,y2,.inr ⟨y,0,rfl,y1,y3⟩⟩,oX,oI⟩
theorem aV.g {lo hi:Nat} {w:World} {v:Value} {V:CV} (h:aV lo hi w v V) (h2:V.nO=2/\V.nX=2/\V.nI=2):dL w v V:=by
 obtain ⟨vW,vO,vX,vI,gW,gO,gX,gI,sl,xs,rfl,rW,rO,rX,rI,_⟩:=h;have hW:∃ a c,vW=.slice a V.nW c/\lJ w a V.nW V.W:=by
  rcases rW with ⟨e,a,c,rfl⟩ | ⟨c,rfl,h1,h2,h3,h4⟩
  ·exact ⟨a,c,by rw [e],.inl e⟩
  exact ⟨_,c,rfl,mP h4 (by omega)⟩
 obtain ⟨aW,cW,rfl,hR⟩:=hW;rcases rO with ⟨e,_⟩ | ⟨cO,rfl,o1,o2,o3,o4⟩
 ·omega
 rcases rX with ⟨e,_⟩ | ⟨cX,rfl,x1,x2,x3,x4⟩
 ·omega
 rcases rI with ⟨e,_⟩ | ⟨cI,rfl,i1,i2,i3,i4⟩
 ·omega
 refine ⟨aW,gO,gX,gI,cW,cO,cX,cI,by omega,by omega,by omega,rfl,hR,fun k hk=>?_,x4.2,i4.2⟩;obtain ⟨c1,c2⟩:=o4 k hk;rcases c2 with ⟨e0,x,c',e1⟩ | ⟨c',e1,g1,g2,g3,g4⟩
 ·exact ⟨x,c',by rw [c1,e1,e0],.inl e0⟩
 exact ⟨_,c',by rw [c1,e1],.inr ⟨xs k,0,rfl,by omega,P8.aZ g4⟩⟩
theorem oV {P:Program} {w:World} {ops:Array Oper} {rest:List Oper} {o:Oper} {a:Act} {Q:Exit->Act->World->Prop} (hgd:o.guard=none) (s x:Operand) (t:TypeId)
 (ho:o.op=.call { callee:=.builtin .append,args:=#[s,x],argTypes:=#[t,t] })
 (base:Nat) (e:TypeId) (i:TypeInfo) (z:Value) (size bytes:Nat) (ht:P.underlying t=some (.slice e)) (hi:P.info? e=some i) (hz:i.zero=some z)
 (hsize:i.size=size) (hby:i.bytes=bytes) (hzs:z.cells.size=size) (hsz:0<size)
 (v:Value) (n:Nat) (xs:List Value) (hs:a.eval s=v) (hown:w.ownsRow base e size v n xs)
 (av:Option Addr) (m c:Nat) (news:List Value) (hx:a.eval x=.slice av m c) (hl:news.length=m * size) (hnews:m=0∨∃ ad,av=some ad/\∀ j u,news[j]? = some u->w.cell? (ad.add j)=some u) (h1:∀ u ∈ news,u.oneCell'=true)
 (h63:n+m<=maxLen) (hbytes:(n+m) * bytes<=140737488355328) (hbase:base<=w.heap.size)
 (h:∀ v' w',w'.ownsRow base e size v' (n+m) (xs++news)->w.grownBy w' v.ownBlock->(m=0->v'=v)->wpList P ops Q rest (a.put o.dst v') w'):wpList P ops Q (o :: rest) a w:=by
 cases av with
 | some ad =>
  refine jr hgd s x t ho base e i z size bytes ht hi hz hsize hby hzs hsz v n xs hs hown ad m c news hx hl ?_ h1 h63 hbytes hbase h;rcases hnews with rfl | ⟨ad',e2,h3⟩
  ·have:news=[]:=List.length_eq_zero_iff.1 (by simpa using hl);subst this;intro j u hu;simp at hu
  ·cases e2;exact h3
 | none =>
  have hm:m=0:=by
   rcases hnews with h | ⟨_,e2,_⟩
   ·exact h
   cases e2
  subst hm;have hl0:news=[]:=List.length_eq_zero_iff.1 (by simpa using hl);subst hl0;have hr:(Builtin.append_ #[t,t] o.type #[v,.slice none 0 c]).run P w=.ok v w:=by
   rcases hown.2 with ⟨e1,_⟩ | ⟨g,cap,cur,e1,_,_,hc,_⟩
   ·subst e1;simp [Builtin.append_,run_underlying ht,sizeOf,typeInfo,hi,Builtin.lenOf,Builtin.firstCells]
   subst e1;simp [Builtin.append_,run_underlying ht,sizeOf,typeInfo,hi,Builtin.lenOf,Builtin.firstCells,hc,storeCells]
  refine wpList_plain hgd fun K hK=>?_;unfold Oper.wp execOp;simp only [ho,resolve,invoke,builtin,Sem.run_bind,Sem.run_pure,Result.andThen_ok,List.map_toArray,List.map_cons,List.map_nil,hs,hx,hr];exact hK _ _ (h v w (by simpa using hown) ⟨rfl,rfl,rfl,Ho _,fun _ _ _=>rfl⟩ (fun _=>rfl))
theorem fC (v:Value) (V:CV) (hs:V.short 1048576) (w:World) (h:dL w v V) :
 Hz 71 #[v] w fun e w'=>(∃ v',e=.returned v'/\aV w.heap.size w'.heap.size w' v' V/\mV w.heap.size w'.heap.size w' v'/\Full w' v')/\Below w.heap.size w w':=by
 obtain ⟨aW,bO,bX,bI,cW,cO,cX,cI,q2,q3,q4,rfl,oW,oO,oX,oI⟩:=h;obtain ⟨tW,tO,tN,tX,tI⟩:=hs;have HW:bY (lJ w aW V.nW V.W):=oW;have HO:bY (∀ k,k<V.nO->∃ x c,w.cell? (zA bO k)=some (.slice x (V.N k) c)/\P8.kC w x (V.N k) (V.O k)):=oO;have HX:bY (∀ i,i<V.nX->w.cell? (zA bX i)=some (zI (V.X i))):=oX;have HI:bY (∀ i,i<V.nI->w.cell? (zA bI i)=some (zI (V.I i))):=oI;have HN:bY (∀ k,k<V.nO->V.N k<=1048576):=tN;clear oW oO oX oI tN;obtain ⟨j8,hj8,hzz⟩:=Option.map_eq_some_iff.1 P8.Tryz.Jd;simp only [Prod.mk.injEq] at hzz;obtain ⟨hk80,hk81,hk82⟩:=hzz;obtain ⟨j6,hj6,hzz⟩:=Option.map_eq_some_iff.1 Tryz.Jk;simp only [Prod.mk.injEq] at hzz;obtain ⟨hk60,hk61,hk62⟩:=hzz;obtain ⟨j3,hj3,hzz⟩:=Option.map_eq_some_iff.1 Tryz.info3;simp only [Prod.mk.injEq] at hzz;obtain ⟨hk30,hk31,hk32⟩:=hzz;go_enter Tryz.func71,Tryz.ntmps71;go_wp2_with fail;obtain ⟨w0,e0⟩:∃ w0,w0=(w.alloc (.cells (zG V aW cW bO cO bX cX bI cI).toArray 36)).alloc (.cells zN.toArray 36):=⟨_,rfl⟩;have z0:w.heap.size+2<=w0.heap.size:=by rw [e0];simp
 have B0:bY (Below w.heap.size w w0):=by rw [e0];exact ((Hr _ _).alloc (by simp) _).alloc (by simp) _
 have A0:bY (Six w0 w.heap.size (zG V aW cW bO cO bX cX bI cI)):=by rw [e0];exact (fM w 36 (zI V.c) (.slice aW V.nW cW) (zI V.g) (zS bO V.nO cO) (zS bX V.nX cX) (zS bI V.nI cI)).q (by simp) ((Hr _ _).alloc (by simp) _)
 have R0:bY (Six w0 (w.heap.size+1) zN):=by rw [e0];exact oP w (zG V aW cW bO cO bX cX bI cI).toArray 36 36 _ _ _ _ _ _
 rw [<-e0];clear e0;refine (Ak aW V.nW cW V.W tW _ (iV HW.o B0.o)).mono ?_;rintro e w1 ⟨⟨v1,rfl,ho⟩,hb⟩;obtain ⟨wa,wl,wc,hvv⟩:=bP ho;subst hvv;obtain ⟨gW,RW1,_⟩:=gZ ho;have A1:=fQ (A0.o.q (by omega) hb);have R1:=fQ (R0.o.q (by omega) hb);have B1:=fQ (ah B0.o hb);have z1:w0.heap.size<=w1.heap.size:=hb.size;have HRW:bY (RW w0.heap.size w1.heap.size w1 (.slice wa wl wc) V.nW V.W gW):=RW1;clear RW1 ho hb A0 R0 B0;obtain ⟨a0,a1,a2,a3,a4,a5⟩:=A1.o.a6;have f0:=A1.o.f6;have l1:w.heap.size<w1.heap.size:=by omega
 go_wp2;clear a0 a1 a2 a3 a4 a5 f0 l1;obtain ⟨w2,e2⟩:∃ x,x=w1.setCell (zA w.heap.size 1) (.slice wa wl wc):=⟨_,rfl⟩;rw [<-e2];have A2:Six w2 w.heap.size [zI V.c,.slice wa wl wc,zI V.g,zS bO V.nO cO,zS bX V.nX cX,zS bI V.nI cI]:=by rw [e2];exact A1.o.set (j:=1) (v:=.slice wa wl wc) rfl (by decide)
 have R2:Six w2 (w.heap.size+1) zN:=by rw [e2];exact R1.o.far (by omega)
 have B2:Below w.heap.size w w2:=by rw [e2];exact B1.o.setCell (by simp) _
 have z2:w2.heap.size=w1.heap.size:=by rw [e2,ay]
 have S2:∀ x,¬ x=w.heap.size->Sm w1 w2 x:=fun x hx o=>by rw [e2];exact ⟨aJ (fun e=>hx e.1.symm),aB⟩
 clear e2 A1 R1 B1;obtain ⟨w3,e3⟩:∃ x,x=w2.alloc (.cells #[] 127):=⟨_,rfl⟩;rw [<-e3];have k3:Below w2.heap.size w2 w3:=by rw [e3];exact (Hr _ _).alloc (Ho _) _
 have z3:w3.heap.size=w2.heap.size+1:=by rw [e3];simp
 have O3:bY (w3.ownsRow w1.heap.size 127 1 (zS w1.heap.size 0 0) 0 []):=by unfold bY;rw [e3,<-z2];exact World.ownsRow_lit w2 #[] 0 (Ho _) (by simp) (by simp)
 clear e3;have A3:bY (Six w3 w.heap.size [zI V.c,.slice wa wl wc,zI V.g,zS bO V.nO cO,zS bX V.nX cX,zS bI V.nI cI]):=A2.q (by omega) k3;have R3:bY (Six w3 (w.heap.size+1) zN):=R2.q (by omega) k3;have B3:bY (Below w.heap.size w w3):=ah B2 k3;have W3:bY (RW w0.heap.size w1.heap.size w3 (.slice wa wl wc) V.nW V.W gW):=HRW.o.move (Ho _) (Ho _) (by omega) (fun q1 q2=>(S2 gW (by omega)).trans (aj k3 (by omega)));clear A2 R2 B2 S2 HRW k3;have z4:w1.heap.size+1<=w3.heap.size:=by omega
 have z4b:w3.heap.size<=w1.heap.size+1:=by omega
 clear z2 z3;generalize w1.heap.size=gB at *;go_loopw [3,4] (fun s i wr=>∃ (k:Nat) (sl:Nat->Value) (xs:Nat->Nat),k<=V.nO/\i=zI k/\s≠.slice none 0 0/\(∀ x,x<gB->Sm w3 wr x)/\wr.ownsRow gB 127 1 s k ((List.range k).map sl)/\(∀ j,j<k->qp gB wr.heap.size wr (sl j) (V.N j) (V.O j) (xs j))/\(∀ i j,i<j->j<k->V.N i≠0->V.N j≠0->xs i≠xs j)/\w3.heap.size<=wr.heap.size/\Below w.heap.size w wr) (fun _ i _=>V.nO - (intOf i).toNat)
 case atStart=>exact ⟨0,fun _=>undef,fun _=>0,Nat.zero_le _,rfl,by simp,fun x _=>Sm.refl _ _,O3.o,fun _ h=>absurd h (by omega),fun _ _ _ h=>absurd h (by omega),Ho _,B3.o⟩
 case round =>
  obtain ⟨k,sl,xs,hk,rfl,hnn,hsm,hown,hdn,hxx,hsz,hbel⟩:=hrel;obtain ⟨oa,ol,oc,hvv⟩:=bP hown;subst hvv;have SM:bY (∀ x,x<gB->Sm w3 wr x):=hsm;have OW:bY (wr.ownsRow gB 127 1 (.slice oa ol oc) k ((List.range k).map sl)):=hown;have DN:bY (∀ j,j<k->qp gB wr.heap.size wr (sl j) (V.N j) (V.O j) (xs j)):=hdn;have XX:bY (∀ i j,i<j->j<k->V.N i≠0->V.N j≠0->xs i≠xs j):=hxx;have BL:bY (Below w.heap.size w wr):=hbel;have NN:bY (Value.slice oa ol oc≠Value.slice none 0 0):=hnn;clear hsm hown hdn hxx hbel hnn;have A4:bY (Six wr w.heap.size [zI V.c,.slice wa wl wc,zI V.g,zS bO V.nO cO,zS bX V.nX cX,zS bI V.nI cI]):=fun i hi=>by have h1:=SM.o w.heap.size (by omega) i;rw [h1.1,h1.2];exact A3.o i hi
  obtain ⟨a0,a1,a2,a3,a4,a5⟩:=A4.o.a6;have f0:=A4.o.f6;have l1:w.heap.size<wr.heap.size:=by omega
  by_cases hkn:k<V.nO
  ·have hkn':(k:Int)<V.nO:=by omega
   obtain ⟨ak,ck,hck,hrk⟩:∃ ak ck,wr.cell? (zA bO k)=some (.slice ak (V.N k) ck)/\bY (P8.kC wr ak (V.N k) (V.O k)):=by
    obtain ⟨x,c,y3,y4⟩:=HO.o k hkn;exact ⟨x,c,(BL.o.cell (p:=(zA bO k)) (by show bO<_;omega)).trans y3,lQ y4 BL.o⟩
   have lb:bO<wr.heap.size:=by omega
   have hnk:=HN.o k hkn;have kb:Below wr.heap.size wr (wr.alloc (.cells #[] 69)):=(Hr _ _).alloc (Ho _) _;have HC:bY (V.N k=0∨∃ ad,ak=some ad/\∀ j u,((List.range (V.N k)).flatMap (P8.eight (V.O k)))[j]? = some u->(wr.alloc (.cells #[] 69)).cell? (ad.add j)=some u):=by
    rcases hrk.o with h | ⟨y,o,rfl,hy,h⟩
    ·exact .inl h
    exact .inr ⟨_,rfl,lS (fun i j a1 a2=>(kb.cell (p:=⟨y,_,none⟩) (by show y<_;omega)).trans (h i j a1 a2))⟩
   have H1:bY (∀ u ∈ (List.range (V.N k)).flatMap (P8.eight (V.O k)),u.oneCell'=true):=sK _ _;have HL:bY (((List.range (V.N k)).flatMap (P8.eight (V.O k))).length=V.N k * 8):=lG _ _;have KB:bY (Below wr.heap.size wr (wr.alloc (.cells #[] 69))):=kb;clear kb;go_wp2_with (at_builtin;refine oV rfl _ _ 127 rfl wr.heap.size 69 j8 (.agg #[zI 0,zI 0,zI 0,zI 0,zI 0,zI 0,zI 0,zI 0]) 8 64 Tryz.underlying127 hj8 hk80 hk81 hk82 rfl (by decide) _ 0 [] rfl (World.ownsRow_lit wr #[] 0 (Ho _) (by simp) (by simp)) ak (V.N k) ck ((List.range (V.N k)).flatMap (P8.eight (V.O k))) rfl HL.o HC.o H1.o (by unfold maxLen;omega) (by omega) (by simp) ?_);intro v4 w4 hown4 hg4 hnil4;obtain ⟨pa,pl,pc,hvv⟩:=bP hown4;subst hvv;have P4:w4.ownsRow wr.heap.size 69 8 (.slice pa pl pc) (V.N k) ((List.range (V.N k)).flatMap (P8.eight (V.O k))):=by simpa using hown4
   have hb4:Below wr.heap.size wr w4:=KB.o.grown hg4 (by simp) (fun kk e=>by cases e;exact Ho _);obtain ⟨g,hRP,_⟩:=rZ P4 (fun e=>⟨_,hnil4 e,by have h4:=hg4.size;rw [World.size_alloc] at h4;omega⟩);have RPk:bY (qp wr.heap.size w4.heap.size w4 (.slice pa pl pc) (V.N k) (V.O k) g):=hRP;have K4:bY (Below wr.heap.size wr w4):=hb4;have s4:wr.heap.size<=w4.heap.size:=hb4.size;have OW4:bY (w4.ownsRow gB 127 1 (.slice oa ol oc) k ((List.range k).map sl)):=World.ownsRow.kept OW.o (P8.jg hb4) (by cases e:(Value.slice oa ol oc).ownBlock <;> simp);clear hown4 hg4 hnil4 hRP P4 hb4 HC H1 HL KB a0 a1 a2 a3 a4 a5 f0 hck hrk;have HW4:=OW4.o.alloc (.cells #[.slice pa pl pc] 127);go_wp2_with (at_builtin;refine wpList_append_own _ rfl _ _ 34 rfl gB 127 j6 (.slice none 0 0) 1 24 Tryz.underlying34 hj6 hk60 hk61 hk62 rfl (by decide) _ _ _ rfl HW4 (zA w4.heap.size 0) 1 1 [.slice pa pl pc] rfl rfl ?d1 ?d2 ?d3 ?d4 ?d5 ?_)
   case d1=>intro j u hj;match j,hj with | 0,hj=>(simp at hj;subst hj;simp [Addr.add]) | j+1,hj=>simp at hj
   case d2=>intro u hu;simp at hu;subst hu;rfl
   case d3=>unfold maxLen;omega
   case d4=>omega
   case d5=>simp;omega
   ·intro v' w5 hown' hg5 hnil;obtain ⟨ua,ul,uc,hxx⟩:=bP hown';subst hxx;have hlow:∀ kk,(Value.slice oa ol oc).ownBlock=some kk->gB<=kk/\kk<wr.heap.size:=fun kk e=>OW.o.lt kk e;have hall:=(World.grownBy_alloc w4 (.cells #[.slice pa pl pc] 127) (Value.slice oa ol oc).ownBlock).trans hg5;have s5:w4.heap.size<=w5.heap.size:=hall.size;have S45:∀ x,x<w4.heap.size->(Value.slice oa ol oc).ownBlock≠some x->Sm w4 w5 x:=fun x h1 h2=>bG hall h1 (fun e=>h2 e.symm);have SM5:bY (∀ x,x<gB->Sm w3 w5 x):=fun x hx=>((SM.o x hx).trans (aj K4.o (by omega))).trans (S45 x (by omega) (fun e=>by have:=hlow x e;omega));have OW5:bY (w5.ownsRow gB 127 1 (.slice ua ul uc) (k+1) ((List.range (k+1)).map (fun j=>if j=k then (.slice pa pl pc) else sl j))):=by
     unfold bY;rw [su];exact hown'
    have NN5:bY (Value.slice ua ul uc≠Value.slice none 0 0):=fun e=>hnil e;have DN5:bY (∀ j,j<k+1->qp gB w5.heap.size w5 ((fun j=>if j=k then (.slice pa pl pc) else sl j) j) (V.N j) (V.O j) ((fun j=>if j=k then g else xs j) j)):=fun j hj=>by
     dsimp only;by_cases e:j=k
     ·subst e;rw [if_pos rfl,if_pos rfl];exact (RPk.o.move s5 (Ho _) (fun q1 q2=>S45 g q2 (fun e=>by have:=hlow g e;omega))).low (by omega)
     rw [if_neg e,if_neg e];have u2:=DN.o j (by omega);by_cases e0:V.N j=0
     ·exact u2.zero e0 (by omega)
     exact u2.move (by omega) (Ho _) (fun q1 q2=>(aj K4.o q2).trans (S45 (xs j) (by omega) (own_ne OW.o (by omega) (DN.o 0 (by omega)).1.shape u2.1 e0)))
    have XX5:bY (∀ i j,i<j->j<k+1->V.N i≠0->V.N j≠0->(fun j=>if j=k then g else xs j) i≠(fun j=>if j=k then g else xs j) j):=fun i j hij hj n1 n2=>by
     dsimp only;by_cases e:j=k
     ·subst e;rw [if_pos rfl,if_neg (by omega)];have u1:=(DN.o i hij).1;have u2:=RPk.o.1;rcases u1 with ⟨h,_⟩ | ⟨_,_,_,h1,_⟩
      ·exact absurd h n1
      rcases u2 with ⟨h,_⟩ | ⟨_,_,h2,_⟩
      ·exact absurd h n2
      omega
     rw [if_neg e,if_neg (by omega)];exact XX.o i j hij (by omega) n1 n2
    have BL5:bY (Below w.heap.size w w5):=(ah BL.o K4.o).grown hall (by omega) (fun kk e=>by have:=hlow kk e;omega);have z5:w3.heap.size<=w5.heap.size:=by omega
    clear hown' hg5 hnil hall hlow S45 HW4 SM OW OW4 DN XX BL NN RPk K4 A4;go_wp2;go_roundw
    case rel=>exact ⟨k+1,_,_,by omega,by go_num,NN5.o,SM5.o,OW5.o,DN5.o,XX5.o,z5,BL5.o⟩
    case measure=>simp [intOf];omega
  have hkk:k=V.nO:=by omega
  have R4:bY (Six wr (w.heap.size+1) zN):=fun i hi=>by have h1:=SM.o (w.heap.size+1) (by omega) i;rw [h1.1,h1.2];exact R3.o i hi
  have W4:bY (RW w0.heap.size gB wr (.slice wa wl wc) V.nW V.W gW):=W3.o.move (Ho _) (Ho _) (by omega) (fun q1 q2=>SM.o gW q2);obtain ⟨gO,cO,hgO,hOl,hOh,hOc,FR⟩:∃ gO cO,Value.slice oa ol oc=zS gO V.nO cO/\gB<=gO/\gO<wr.heap.size/\bY (∀ j,j<V.nO->wr.cell? (zA gO j)=some (sl j))/\bY (∀ j,wr.frozen? (zA gO j)=false):=by
   rcases OW.o.2 with ⟨e,_⟩ | ⟨g,cap,cur,hv,_⟩
   ·exact absurd e NN.o
   have ho:=OW.o;rw [hv] at ho;refine ⟨g,cap,by rw [hv,hkk],(ho.lt g rfl).1,(ho.lt g rfl).2,fun j hj=>?_,fun j=>ho.frozenAt j⟩;rw [ho.cellAt j (by omega),List.getElem?_map,List.getElem?_range (by omega)];rfl
  injection hgO with e1 e2 e3;subst e1 e2 e3;have DD:bY (∀ j,j<V.nO->qp gB wr.heap.size wr (sl j) (V.N j) (V.O j) (xs j)/\(V.N j≠0->xs j≠gO)):=fun j hj=>⟨DN.o j (by omega),fun e0 e=>own_ne OW.o (by omega) (DN.o 0 (by omega)).1.shape (DN.o j (by omega)).1 e0 (by rw [e];rfl)⟩
  have XD:bY (∀ i j,i<j->j<V.nO->V.N i≠0->V.N j≠0->xs i≠xs j):=fun i j h1 h2=>XX.o i j h1 (by omega);have hkn':¬ (k:Int)<V.nO:=by omega
  clear DN XX OW NN hkk A3 R3 W3 O3 B3;have hsA:((wr.setCell (zA w.heap.size 3) (zS gO V.nO oc)).alloc (.cells #[] 3)).heap.size=wr.heap.size+1:=by simp [World.setCell]
  have kw:Below w.heap.size w ((wr.setCell (zA w.heap.size 3) (zS gO V.nO oc)).alloc (.cells #[] 3)):=(BL.o.setCell (by simp) _).alloc (by rw [ay];omega) _;have HC:bY (∀ j u,((List.range V.nX).flatMap (one1 V.X))[j]? = some u->((wr.setCell (zA w.heap.size 3) (zS gO V.nO oc)).alloc (.cells #[] 3)).cell? (((zA bX 0):Addr).add j)=some u):=ku (fun i hi=>(kw.cell (p:=⟨bX,_,none⟩) (by show bX<_;omega)).trans (by rw [Nat.zero_add];exact HX.o i hi));have H1:bY (∀ u ∈ (List.range V.nX).flatMap (one1 V.X),u.oneCell'=true):=ng _ _;have HL:bY (((List.range V.nX).flatMap (one1 V.X)).length=V.nX * 1):=kS _ _;have HLit:((wr.setCell (zA w.heap.size 3) (zS gO V.nO oc)).alloc (.cells #[] 3)).ownsRow wr.heap.size 3 1 (zS wr.heap.size 0 0) 0 []:=by have q:=World.ownsRow_lit (base:=wr.heap.size) (e:=3) (size:=1) (wr.setCell (zA w.heap.size 3) (zS gO V.nO oc)) #[] 0 (by rw [ay];exact Ho _) (by simp) (by simp);rw [ay] at q;exact q
  have KW:bY (Below w.heap.size w ((wr.setCell (zA w.heap.size 3) (zS gO V.nO oc)).alloc (.cells #[] 3))):=kw;clear kw;have l9:w.heap.size<wr.heap.size:=by omega
  go_wp2_with (at_builtin;refine wpList_append_own _ rfl _ _ 26 rfl wr.heap.size 3 j3 (zI 0) 1 8 Tryz.underlying26 hj3 hk30 hk31 hk32 rfl (by decide) _ 0 [] rfl HLit (zA bX 0) V.nX cX ((List.range V.nX).flatMap (one1 V.X)) rfl HL.o HC.o H1.o (by unfold maxLen;omega) (by omega) (by simp) ?_);intro v5 w5 hown hg hnil;obtain ⟨xa,xl,xc,hvv⟩:=bP hown;subst hvv;have hown2:w5.ownsRow wr.heap.size 3 1 (.slice xa xl xc) V.nX ((List.range V.nX).flatMap (one1 V.X)):=by simpa using hown
  obtain ⟨gX,hRI,_⟩:=jD hown2;have X5:bY (RI wr.heap.size w5.heap.size w5 (.slice xa xl xc) V.nX V.X gX):=hRI;have K5:bY (∀ x,x<wr.heap.size->¬ x=w.heap.size->Sm wr w5 x):=fun x hx hne=>(Sm.trans (b:=(wr.setCell (zA w.heap.size 3) (zS gO V.nO oc))) (fun o=>⟨aJ (fun e=>hne e.1.symm),aB⟩) (aj (n:=wr.heap.size) ((Hr _ _).alloc (by rw [ay];exact Ho _) _) hx)).trans (bG hg (by rw [hsA];omega) (fun e=>by injection e with e;replace e:x=wr.heap.size:=e;omega));have Sw5:wr.heap.size<=w5.heap.size:=by have:=hg.size;rw [hsA] at this;omega
  have B5:bY (Below w.heap.size w w5):=KW.o.grown hg (by rw [hsA];omega) (fun kk e=>by cases e;show w.heap.size<=wr.heap.size;omega);have A5:bY (Six w5 w.heap.size [zI V.c,.slice wa wl wc,zI V.g,zS gO V.nO oc,zS bX V.nX cX,zS bI V.nI cI]):=fun i hi=>by have h1:=bG hg (b:=w.heap.size) (by rw [hsA];omega) (fun e=>by injection e with e;replace e:w.heap.size=wr.heap.size:=e;omega) i;rw [h1.1,h1.2];exact ((A4.o.set (j:=3) (v:=zS gO V.nO oc) rfl (by decide)).q (by rw [ay];omega) ((Hr _ _).alloc (Ho _) _)) i hi
  have R5:bY (Six w5 (w.heap.size+1) zN):=fun i hi=>by have h1:=K5.o (w.heap.size+1) (by omega) (by omega) i;rw [h1.1,h1.2];exact R4.o i hi
  clear hown hown2 hg hnil hRI HC H1 HL HLit KW l9 hsA A4 R4 a0 a1 a2 a3 a4 a5 f0;have hsA:((w5.setCell (zA w.heap.size 4) (.slice xa xl xc)).alloc (.cells #[] 3)).heap.size=w5.heap.size+1:=by simp [World.setCell]
  have kw:Below w.heap.size w ((w5.setCell (zA w.heap.size 4) (.slice xa xl xc)).alloc (.cells #[] 3)):=(B5.o.setCell (by simp) _).alloc (by rw [ay];omega) _;have HC:bY (∀ j u,((List.range V.nI).flatMap (one1 V.I))[j]? = some u->((w5.setCell (zA w.heap.size 4) (.slice xa xl xc)).alloc (.cells #[] 3)).cell? (((zA bI 0):Addr).add j)=some u):=ku (fun i hi=>(kw.cell (p:=⟨bI,_,none⟩) (by show bI<_;omega)).trans (by rw [Nat.zero_add];exact HI.o i hi));have H1:bY (∀ u ∈ (List.range V.nI).flatMap (one1 V.I),u.oneCell'=true):=ng _ _;have HL:bY (((List.range V.nI).flatMap (one1 V.I)).length=V.nI * 1):=kS _ _;have HLit:((w5.setCell (zA w.heap.size 4) (.slice xa xl xc)).alloc (.cells #[] 3)).ownsRow w5.heap.size 3 1 (zS w5.heap.size 0 0) 0 []:=by have q:=World.ownsRow_lit (base:=w5.heap.size) (e:=3) (size:=1) (w5.setCell (zA w.heap.size 4) (.slice xa xl xc)) #[] 0 (by rw [ay];exact Ho _) (by simp) (by simp);rw [ay] at q;exact q
  have KW:bY (Below w.heap.size w ((w5.setCell (zA w.heap.size 4) (.slice xa xl xc)).alloc (.cells #[] 3))):=kw;clear kw;obtain ⟨a0,a1,a2,a3,a4,a5⟩:=A5.o.a6;have f0:=A5.o.f6;have l9:w.heap.size<w5.heap.size:=by omega
  go_wp2_with (at_builtin;refine wpList_append_own _ rfl _ _ 26 rfl w5.heap.size 3 j3 (zI 0) 1 8 Tryz.underlying26 hj3 hk30 hk31 hk32 rfl (by decide) _ 0 [] rfl HLit (zA bI 0) V.nI cI ((List.range V.nI).flatMap (one1 V.I)) rfl HL.o HC.o H1.o (by unfold maxLen;omega) (by omega) (by simp) ?_);intro v5 w7 hown hg hnil;obtain ⟨ia,il,ic,hvv⟩:=bP hown;subst hvv;have hown2:w7.ownsRow w5.heap.size 3 1 (.slice ia il ic) V.nI ((List.range V.nI).flatMap (one1 V.I)):=by simpa using hown
  obtain ⟨gI,hRI,_⟩:=jD hown2;have I7:bY (RI w5.heap.size w7.heap.size w7 (.slice ia il ic) V.nI V.I gI):=hRI;have K7:bY (∀ x,x<w5.heap.size->¬ x=w.heap.size->Sm w5 w7 x):=fun x hx hne=>(Sm.trans (b:=(w5.setCell (zA w.heap.size 4) (.slice xa xl xc))) (fun o=>⟨aJ (fun e=>hne e.1.symm),aB⟩) (aj (n:=w5.heap.size) ((Hr _ _).alloc (by rw [ay];exact Ho _) _) hx)).trans (bG hg (by rw [hsA];omega) (fun e=>by injection e with e;replace e:x=w5.heap.size:=e;omega));have Sw7:w5.heap.size<=w7.heap.size:=by have:=hg.size;rw [hsA] at this;omega
  have B7:bY (Below w.heap.size w w7):=KW.o.grown hg (by rw [hsA];omega) (fun kk e=>by cases e;show w.heap.size<=w5.heap.size;omega);have A7:bY (Six w7 w.heap.size [zI V.c,.slice wa wl wc,zI V.g,zS gO V.nO oc,.slice xa xl xc,zS bI V.nI cI]):=fun i hi=>by have h1:=bG hg (b:=w.heap.size) (by rw [hsA];omega) (fun e=>by injection e with e;replace e:w.heap.size=w5.heap.size:=e;omega) i;rw [h1.1,h1.2];exact ((A5.o.set (j:=4) (v:=.slice xa xl xc) rfl (by decide)).q (by rw [ay];omega) ((Hr _ _).alloc (Ho _) _)) i hi
  have R7:bY (Six w7 (w.heap.size+1) zN):=fun i hi=>by have h1:=K7.o (w.heap.size+1) (by omega) (by omega) i;rw [h1.1,h1.2];exact R5.o i hi
  clear hown hown2 hg hnil hRI HC H1 HL HLit KW l9 hsA A5 R5 a0 a1 a2 a3 a4 a5 f0;obtain ⟨a0,a1,a2,a3,a4,a5⟩:=A7.o.a6;have f0:=A7.o.f6;obtain ⟨r0,r1,r2,r3,r4,r5⟩:=R7.o.a6;obtain ⟨q0,q1,q2,q3,q4,q5⟩:=R7.o.f6;have l1b:w.heap.size+1<w7.heap.size:=by omega
  have l1c:w.heap.size<w7.heap.size:=by omega
  go_wp2;refine Hw (v:=.agg #[zI V.c,.slice wa wl wc,zI V.g,zS gO V.nO oc,.slice xa xl xc,.slice ia il ic]) (by simp [results,Tryz.results71,go_sem,r0,r1,r2,r3,r4,r5]) rfl ?_;have hzz:(aG (w7.setCell (zA w.heap.size 5) (.slice ia il ic)) (w.heap.size+1) (zI V.c) (.slice wa wl wc) (zI V.g) (zS gO V.nO oc) (.slice xa xl xc) (.slice ia il ic)).heap.size=w7.heap.size:=by rw [au,ay]
  have hbb:Below w.heap.size w (aG (w7.setCell (zA w.heap.size 5) (.slice ia il ic)) (w.heap.size+1) (zI V.c) (.slice wa wl wc) (zI V.g) (zS gO V.nO oc) (.slice xa xl xc) (.slice ia il ic)):=ax (B7.o.setCell (by simp) _) (Ht w.heap.size) (zI V.c) (.slice wa wl wc) (zI V.g) (zS gO V.nO oc) (.slice xa xl xc) (.slice ia il ic);have SF:∀ x,¬ x=w.heap.size+1->¬ x=w.heap.size->Sm w7 (aG (w7.setCell (zA w.heap.size 5) (.slice ia il ic)) (w.heap.size+1) (zI V.c) (.slice wa wl wc) (zI V.g) (zS gO V.nO oc) (.slice xa xl xc) (.slice ia il ic)) x:=fun x h1 h2=>Sm.trans (fun o=>⟨aJ (fun e=>h2 e.1.symm),aB⟩) (aH (fun e=>h1 e.symm) (zI V.c) (.slice wa wl wc) (zI V.g) (zS gO V.nO oc) (.slice xa xl xc) (.slice ia il ic));refine ⟨⟨_,rfl,?_,?_,?_⟩,hbb⟩
  ·show aV w.heap.size (aG (w7.setCell (zA w.heap.size 5) (.slice ia il ic)) (w.heap.size+1) (zI V.c) (.slice wa wl wc) (zI V.g) (zS gO V.nO oc) (.slice xa xl xc) (.slice ia il ic)).heap.size (aG (w7.setCell (zA w.heap.size 5) (.slice ia il ic)) (w.heap.size+1) (zI V.c) (.slice wa wl wc) (zI V.g) (zS gO V.nO oc) (.slice xa xl xc) (.slice ia il ic)) _ _;rw [hzz];clear r0 r1 r2 r3 r4 r5 q0 q1 q2 q3 q4 q5 a0 a1 a2 a3 a4 a5 f0 hbb;have S5:∀ x,x<w5.heap.size->w0.heap.size<=x->Sm w5 (aG (w7.setCell (zA w.heap.size 5) (.slice ia il ic)) (w.heap.size+1) (zI V.c) (.slice wa wl wc) (zI V.g) (zS gO V.nO oc) (.slice xa xl xc) (.slice ia il ic)) x:=fun x h1 h2=>(K7.o x h1 (by omega)).trans (SF x (by omega) (by omega));have S3:∀ x,x<wr.heap.size->w0.heap.size<=x->Sm wr (aG (w7.setCell (zA w.heap.size 5) (.slice ia il ic)) (w.heap.size+1) (zI V.c) (.slice wa wl wc) (zI V.g) (zS gO V.nO oc) (.slice xa xl xc) (.slice ia il ic)) x:=fun x h1 h2=>(K5.o x h1 (by omega)).trans (S5 x (by omega) h2);have bWl:V.nW≠0->gW<gB:=fun e=>by rcases W4.o with ⟨h,_⟩ | ⟨_,_,_,h,_⟩;exact absurd h e;exact h
   have bXl:V.nX≠0->wr.heap.size<=gX/\gX<w5.heap.size:=fun e=>by rcases X5.o with ⟨h,_⟩ | ⟨_,_,h,h2,_⟩;exact absurd h e;exact ⟨h,h2⟩
   have bIl:V.nI≠0->w5.heap.size<=gI/\gI<w7.heap.size:=fun e=>by rcases I7.o with ⟨h,_⟩ | ⟨_,_,h,h2,_⟩;exact absurd h e;exact ⟨h,h2⟩
   have bPl:∀ k,k<V.nO->V.N k≠0->gB<=xs k/\xs k<wr.heap.size:=fun k hk e=>by rcases (DD.o k hk).1.1 with ⟨h,_⟩ | ⟨_,_,h,h2,_⟩;exact absurd h e;exact ⟨h,h2⟩
   refine jL (gW:=gW) (gO:=gO) (gX:=gX) (gI:=gI) (sl:=sl) (xs:=xs) (W4.o.move (by omega) (by omega) (Hl hzz.symm) (fun q1 q2=>S3 gW (by omega) q1)) (by omega) (by omega) (Hl hzz.symm) (fun k hk=>⟨(S3 gO (by omega) (by omega) k).1.trans (hOc.o k hk),((DD.o k hk).1.1.move (by omega) (Hl hzz.symm) (fun q1 q2=>S3 _ q2 (by omega))).low (by omega)⟩) (X5.o.move (by omega) (by omega) (Hl hzz.symm) (fun q1 q2=>S5 gX q2 (by omega))) (I7.o.move (by omega) (Ho _) (Hl hzz.symm) (fun q1 q2=>SF gI (by omega) (by omega))) (fun e=>by have:=bWl e;omega) (fun e e2=>by have:=bWl e;have:=bXl e2;omega) (fun e e2=>by have:=bWl e;have:=bIl e2;omega) (fun e=>by have:=bXl e;omega) (fun e=>by have:=bIl e;omega) (fun e e2=>by have:=bXl e;have:=bIl e2;omega) (fun k hk e=>⟨fun e2=>by have:=bPl k hk e;have:=bWl e2;omega,(DD.o k hk).2 e,fun e2=>by have:=bPl k hk e;have:=bXl e2;omega,fun e2=>by have:=bPl k hk e;have:=bIl e2;omega⟩) XD.o
  ·have S5:∀ x,x<w5.heap.size->w0.heap.size<=x->Sm w5 (aG (w7.setCell (zA w.heap.size 5) (.slice ia il ic)) (w.heap.size+1) (zI V.c) (.slice wa wl wc) (zI V.g) (zS gO V.nO oc) (.slice xa xl xc) (.slice ia il ic)) x:=fun x h1 h2=>(K7.o x h1 (by omega)).trans (SF x (by omega) (by omega));have S3:∀ x,x<wr.heap.size->w0.heap.size<=x->Sm wr (aG (w7.setCell (zA w.heap.size 5) (.slice ia il ic)) (w.heap.size+1) (zI V.c) (.slice wa wl wc) (zI V.g) (zS gO V.nO oc) (.slice xa xl xc) (.slice ia il ic)) x:=fun x h1 h2=>(K5.o x h1 (by omega)).trans (S5 x (by omega) h2);intro x0 x1 x2 g n k x4 x5 e;have e3:=(kV e).2.1;simp only [Value.slice.injEq,Option.some.injEq,Addr.mk.injEq] at e3;obtain ⟨⟨rfl,_,_⟩,rfl,_⟩:=e3;refine ⟨by omega,?_,fun j hj=>(S3 _ (by omega) (by omega) j).2.trans (FR.o j),fun j u' a' m' c' hj hu hs'=>?_⟩
   ·have h1:=hzz;simp only [aG] at h1;show _<(aG _ _ _ _ _ _ _ _).heap.size;rw [au];show _<(w7.setCell _ _).heap.size;rw [ay];omega
   have hc:=(S3 _ (by omega) (by omega) j).1.trans (hOc.o j hj);obtain rfl:=Option.some.inj (hc.symm.trans hu);have em:m'=V.N j:=by
    obtain ⟨a2,c2,e2⟩:=(DD.o j hj).1.1.shape';rw [e2] at hs';simp only [Value.slice.injEq] at hs';exact hs'.2.1.symm
   subst em;refine (DD.o j hj).1.2.1.sm (by omega) ?_ (fun g' c3 e' hn' q1 q2=>S3 _ q2 (by omega));show _<=(aG _ _ _ _ _ _ _ _).heap.size;rw [au];show _<=(w7.setCell _ _).heap.size;rw [ay];omega
  have S5:∀ x,x<w5.heap.size->w0.heap.size<=x->Sm w5 (aG (w7.setCell (zA w.heap.size 5) (.slice ia il ic)) (w.heap.size+1) (zI V.c) (.slice wa wl wc) (zI V.g) (zS gO V.nO oc) (.slice xa xl xc) (.slice ia il ic)) x:=fun x h1 h2=>(K7.o x h1 (by omega)).trans (SF x (by omega) (by omega));have S3:∀ x,x<wr.heap.size->w0.heap.size<=x->Sm wr (aG (w7.setCell (zA w.heap.size 5) (.slice ia il ic)) (w.heap.size+1) (zI V.c) (.slice wa wl wc) (zI V.g) (zS gO V.nO oc) (.slice xa xl xc) (.slice ia il ic)) x:=fun x h1 h2=>(K5.o x h1 (by omega)).trans (S5 x (by omega) h2);intro x0 x1 x2 g n k x4 x5 e j hj;have e3:=(kV e).2.1;simp only [Value.slice.injEq,Option.some.injEq,Addr.mk.injEq] at e3;obtain ⟨⟨rfl,_,_⟩,rfl,_⟩:=e3;obtain ⟨a,l,c,h1,h2⟩:=(DD.o j hj).1.2.2;refine ⟨_,l,c,(S3 _ (by omega) (by omega) j).1.trans ((hOc.o j hj).trans (by rw [h1])),?_⟩;show _<(aG _ _ _ _ _ _ _ _).heap.size;rw [au];show _<(w7.setCell _ _).heap.size;rw [ay];omega
