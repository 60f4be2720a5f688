/- WlkOut and WlkPut of the model, where one has the number; conditions: the walkers lie in memory. -/
import Derived.Test.YtngaboipleimcabGreatDoorMo3
set_option linter.unusedVariables false
set_option maxHeartbeats 4000000
set_option maxRecDepth 20000
namespace Go.Proofs.YtngaboipleimcabGreatDoor
open Go.RowKit Go.Deep
theorem Md.form {lo:Nat} {Ok:Nat->Prop} {w:World} {v:Value} {V:CV} (h:Md lo Ok w v V):∃ gW cW gO cO gX cX gI cI,v=.agg #[.int .i64 V.c,.slice (some ⟨gW,0,none⟩) V.nW cW,.int .i64 V.g,.slice (some ⟨gO,0,none⟩) V.nO cO,.slice (some ⟨gX,0,none⟩) V.nX cX,.slice (some ⟨gI,0,none⟩) V.nI cI]/\gW<w.heap.size/\(∀ k j,k<V.nW->j<5->w.cell? ⟨gW,k * 5+j,none⟩=some (.int .i64 (V.W k j)))/\lo<=w.heap.size:=by
 obtain ⟨gW,cW,gO,cO,gX,cX,gI,cI,sl,xs,e,⟨aa,ab⟩,hO,⟨l1,l2,l3,l4,l5,_⟩,_⟩:=h;exact ⟨gW,cW,gO,cO,gX,cX,gI,cI,e,aa,ab,by omega⟩
theorem sD (lo q:Nat) (Ok:Nat->Prop) (v:Value) (V:CV) (P:Nat->Int) (p0:Int) (hq:q<V.nX) (bt:q<V.nO) (hN:V.N q<=2000000) (hX:-1<=V.X q/\V.X q<=5000) (bs:¬ V.X q=5000) (hP:P 0=V.X q) (w:World) (h:Md lo Ok w v V) :
 Hz 161 #[v,.int .i64 (q:Int),.agg #[.int .i64 p0,.int .i64 (P 1),.int .i64 (P 2),.int .i64 (P 3),.int .i64 (P 4),.int .i64 (P 5),.int .i64 (P 6),.int .i64 (P 7)]] w fun e w'=>e=.returned (.tuple #[v,.bool true])/\∃ r',w.heap.size<=r'/\r'<=w'.heap.size/\Md lo (fun x=>(Ok x/\x<w.heap.size)∨r'<=x) w' v (V.send q P)/\Fr lo Ok w w':=by
 obtain ⟨gW,cW,gO,cO,gX,cX,gI,cI,rfl,_,_,b0⟩:=h.form;obtain ⟨_,_,_,_,_,_,_,_,⟨_,_,_,bR,bA⟩,_⟩:=h.post bt hq;obtain ⟨u,xq,cq,fq,b4,b1,hR,ac,⟨b7,bW,aR,_,_⟩,bo,bw,ba⟩:=(h.in (Ok':=fun x=>(Ok x/\x<w.heap.size)∨w.heap.size+3<=x) (fun x hx ho=>.inl ⟨ho,hx⟩)).post bt hq;have bv:V.N q≠0->¬ xq=gO/\¬ xq=gX/\lo<=xq/\xq<w.heap.size/\Ok xq:=fun e=>⟨(ac e).1,(ac e).2.1,(ac e).2.2.1,(ac e).2.2.2.1,by rcases (ac e).2.2.2.2 with h | h;exact h.1;have:=(ac e).2.2.2.1;omega⟩
 clear ac;obtain ⟨ua,uc,rfl,_⟩:=RP.is hR.1;have b3:(q:Int)<V.nX:=by omega
 have bz:(q:Int)<V.nO:=by omega
 have bS:(V.X q == 5000)=false:=by simp [bs]
 have HP:bY (P 0=V.X q):=hP;have HR:bY (qp lo w.heap.size w (.slice ua (V.N q) uc) (V.N q) (V.O q) xq):=hR;have aN:bY (V.N q≠0->¬ xq=gO/\¬ xq=gX/\lo<=xq/\xq<w.heap.size/\Ok xq):=bv;have bi:bY _:=ba;have CQ:bY (w.cell? ⟨gO,q,none⟩=some (.slice ua (V.N q) uc)):=cq;have FQ:bY (w.frozen? ⟨gO,q,none⟩=false):=fq;have FX:bY (w.frozen? ⟨gX,q,none⟩=false):=bw;have CX:bY (w.cell? ⟨gX,q,none⟩=some (.int .i64 (V.X q))):=bo;clear hP hR bv ba h cq fq bs bw;have bl:gX<w.heap.size:=by omega
 go_enter Tryz.func161,Tryz.ntmps161;go_upto_region 1 with fail;obtain ⟨w0,e0⟩:∃ w0,w0=((w.alloc (.cells #[.int .i64 V.c,.slice (some ⟨gW,0,none⟩) V.nW cW,.int .i64 V.g,.slice (some ⟨gO,0,none⟩) V.nO cO,.slice (some ⟨gX,0,none⟩) V.nX cX,.slice (some ⟨gI,0,none⟩) V.nI cI] 36)).alloc (.cells #[.int .i64 p0,.int .i64 (P 1),.int .i64 (P 2),.int .i64 (P 3),.int .i64 (P 4),.int .i64 (P 5),.int .i64 (P 6),.int .i64 (P 7)] 69)).alloc (.cells #[.int .i64 0,.slice none 0 0,.int .i64 0,.slice none 0 0,.slice none 0 0,.slice none 0 0] 36):=⟨_,rfl⟩;have bk:Below w.heap.size w w0:=by rw [e0];exact (((Hr _ _).alloc (Ho _) _).alloc (by simp) _).alloc (by simp;omega) _
 have C0:bY (Bk w0 (w.heap.size) [.int .i64 V.c,.slice (some ⟨gW,0,none⟩) V.nW cW,.int .i64 V.g,.slice (some ⟨gO,0,none⟩) V.nO cO,.slice (some ⟨gX,0,none⟩) V.nX cX,.slice (some ⟨gI,0,none⟩) V.nI cI]):=by rw [e0];exact ((aU w 36 [.int .i64 V.c,.slice (some ⟨gW,0,none⟩) V.nW cW,.int .i64 V.g,.slice (some ⟨gO,0,none⟩) V.nO cO,.slice (some ⟨gX,0,none⟩) V.nX cX,.slice (some ⟨gI,0,none⟩) V.nI cI]).q ((Hr _ _).alloc (Ho _) _)).q ((Hr _ _).alloc (Ho _) _)
 have P0:bY (Bk w0 (w.heap.size+1) [.int .i64 p0,.int .i64 (P 1),.int .i64 (P 2),.int .i64 (P 3),.int .i64 (P 4),.int .i64 (P 5),.int .i64 (P 6),.int .i64 (P 7)]):=by rw [e0];have h:=aU (w.alloc (.cells #[.int .i64 V.c,.slice (some ⟨gW,0,none⟩) V.nW cW,.int .i64 V.g,.slice (some ⟨gO,0,none⟩) V.nO cO,.slice (some ⟨gX,0,none⟩) V.nX cX,.slice (some ⟨gI,0,none⟩) V.nI cI] 36)) 69 [.int .i64 p0,.int .i64 (P 1),.int .i64 (P 2),.int .i64 (P 3),.int .i64 (P 4),.int .i64 (P 5),.int .i64 (P 6),.int .i64 (P 7)];rw [World.size_alloc] at h;exact h.q ((Hr _ _).alloc (Ho _) _)
 have R0:bY (Bk w0 (w.heap.size+1+1) [.int .i64 0,.slice none 0 0,.int .i64 0,.slice none 0 0,.slice none 0 0,.slice none 0 0]):=by rw [e0];have h:=aU ((w.alloc (.cells #[.int .i64 V.c,.slice (some ⟨gW,0,none⟩) V.nW cW,.int .i64 V.g,.slice (some ⟨gO,0,none⟩) V.nO cO,.slice (some ⟨gX,0,none⟩) V.nX cX,.slice (some ⟨gI,0,none⟩) V.nI cI] 36)).alloc (.cells #[.int .i64 p0,.int .i64 (P 1),.int .i64 (P 2),.int .i64 (P 3),.int .i64 (P 4),.int .i64 (P 5),.int .i64 (P 6),.int .i64 (P 7)] 69)) 36 [.int .i64 0,.slice none 0 0,.int .i64 0,.slice none 0 0,.slice none 0 0,.slice none 0 0];rw [World.size_alloc,World.size_alloc] at h;exact h
 rw [<-e0];clear e0;obtain ⟨a0,a1,a2,a3,a4,a5⟩:=C0.o.a6;have la:w.heap.size<w0.heap.size:=C0.o.1;obtain ⟨p0,p1,p2,p3,p4,p5,p6,p7⟩:=P0.o.a8;have lp:w.heap.size+1<w0.heap.size:=P0.o.1;have fp:=P0.o.f8.1;have dX:w0.cell? ⟨gX,q,none⟩=some (.int .i64 (V.X q)):=(bk.cell (p:=⟨gX,q,none⟩) bl).trans bo;have bB:gX<w0.heap.size:=by omega
 go_upto_region 4 with fail;clear a0 a1 a2 a3 a4 a5 la p0 p1 p2 p3 p4 p5 p6 p7 lp fp dX bB;obtain ⟨w1,e1⟩:∃ w1,w1=w0.setCell ⟨w.heap.size+1,0,none⟩ (.int .i64 (V.X q)):=⟨_,rfl⟩;rw [<-e1];have C1:bY (Bk w1 (w.heap.size) [.int .i64 V.c,.slice (some ⟨gW,0,none⟩) V.nW cW,.int .i64 V.g,.slice (some ⟨gO,0,none⟩) V.nO cO,.slice (some ⟨gX,0,none⟩) V.nX cX,.slice (some ⟨gI,0,none⟩) V.nI cI]):=by rw [e1];exact C0.o.far (by omega)
 have P1:bY (Bk w1 (w.heap.size+1) [.int .i64 (V.X q),.int .i64 (P 1),.int .i64 (P 2),.int .i64 (P 3),.int .i64 (P 4),.int .i64 (P 5),.int .i64 (P 6),.int .i64 (P 7)]):=by rw [e1];exact P0.o.set (j:=0) (by simp)
 have R1:bY (Bk w1 (w.heap.size+1+1) [.int .i64 0,.slice none 0 0,.int .i64 0,.slice none 0 0,.slice none 0 0,.slice none 0 0]):=by rw [e1];exact R0.o.far (by omega)
 have B1:Below w.heap.size w w1:=by rw [e1];exact bk.setCell (by show w.heap.size<=w.heap.size+1;omega) _
 clear e1 C0 P0 R0 bk;have z1:=R1.o.1;have b6:w.heap.size+3<=w1.heap.size:=by omega
 obtain ⟨a0,a1,a2,a3,a4,a5⟩:=C1.o.a6;have la:w.heap.size<w1.heap.size:=C1.o.1;obtain ⟨p0,p1,p2,p3,p4,p5,p6,p7⟩:=P1.o.a8;have lp:w.heap.size+1<w1.heap.size:=P1.o.1;have dq:w1.cell? ⟨gO,q,none⟩=some (.slice ua (V.N q) uc):=(B1.cell (p:=⟨gO,q,none⟩) (by show gO<_;omega)).trans CQ.o;have be:V.N q≠0->¬ gO=xq:=fun e e2=>(aN.o e).1 e2.symm;have ab:∀ y,w.heap.size<=y->V.N q≠0->¬ y=xq:=fun y hy e e2=>by have:=(aN.o e).2.2.2.1;omega
 refine Hu (S:=fun w'=>(∀ x o,x<w1.heap.size->¬ x=gO->(V.N q≠0->¬ x=xq)->w'.cell? ⟨x,o,none⟩=w1.cell? ⟨x,o,none⟩)/\w1.heap.size<=w'.heap.size) (by kernel_rfl) ⟨fun _ _ _ _ _=>rfl,Ho _⟩ ?_;intro af;obtain ⟨X0,bj⟩:∃ X,X=w1.drew:=⟨_,rfl⟩;have B0:Below w1.heap.size w1 X0:=by rw [bj];exact (Hr _ _).drew
 rw [<-bj] at af ⊢;clear bj;have nC:¬ w.heap.size=gO:=by omega
 have nP:¬ w.heap.size+1=gO:=by omega
 refine dY 0 (.pointer (some ⟨w.heap.size,3,none⟩)) rfl ?_ ?_
 ·intro wx aa;have ap:=(aa.1 w.heap.size 0 la nC (ab _ (Ho _))).trans a0;have ag:=(aa.1 w.heap.size 1 la nC (ab _ (Ho _))).trans a1;have aq:=(aa.1 w.heap.size 2 la nC (ab _ (Ho _))).trans a2;have aw:=(aa.1 w.heap.size 3 la nC (ab _ (Ho _))).trans a3;have al:=(aa.1 w.heap.size 4 la nC (ab _ (Ho _))).trans a4;have aI:=(aa.1 w.heap.size 5 la nC (ab _ (Ho _))).trans a5;have aD:=(aa.1 (w.heap.size+1) 0 lp nP (ab _ (Ht _))).trans p0;have az:=(aa.1 (w.heap.size+1) 1 lp nP (ab _ (Ht _))).trans p1;have aE:=(aa.1 (w.heap.size+1) 2 lp nP (ab _ (Ht _))).trans p2;have am:=(aa.1 (w.heap.size+1) 3 lp nP (ab _ (Ht _))).trans p3;have ao:=(aa.1 (w.heap.size+1) 4 lp nP (ab _ (Ht _))).trans p4;have aL:=(aa.1 (w.heap.size+1) 5 lp nP (ab _ (Ht _))).trans p5;have ar:=(aa.1 (w.heap.size+1) 6 lp nP (ab _ (Ht _))).trans p6;have av:=(aa.1 (w.heap.size+1) 7 lp nP (ab _ (Ht _))).trans p7;have an:w.heap.size<wx.heap.size:=Hg la aa.2;have ak:w.heap.size+1<wx.heap.size:=Hg lp aa.2;go_simp
 refine dY 1 (.slice (some ⟨gO,0,none⟩) V.nO cO) rfl ?_ ?_
 ·intro wx aa;have ap:=(aa.1 w.heap.size 0 la nC (ab _ (Ho _))).trans a0;have ag:=(aa.1 w.heap.size 1 la nC (ab _ (Ho _))).trans a1;have aq:=(aa.1 w.heap.size 2 la nC (ab _ (Ho _))).trans a2;have aw:=(aa.1 w.heap.size 3 la nC (ab _ (Ho _))).trans a3;have al:=(aa.1 w.heap.size 4 la nC (ab _ (Ho _))).trans a4;have aI:=(aa.1 w.heap.size 5 la nC (ab _ (Ho _))).trans a5;have aD:=(aa.1 (w.heap.size+1) 0 lp nP (ab _ (Ht _))).trans p0;have az:=(aa.1 (w.heap.size+1) 1 lp nP (ab _ (Ht _))).trans p1;have aE:=(aa.1 (w.heap.size+1) 2 lp nP (ab _ (Ht _))).trans p2;have am:=(aa.1 (w.heap.size+1) 3 lp nP (ab _ (Ht _))).trans p3;have ao:=(aa.1 (w.heap.size+1) 4 lp nP (ab _ (Ht _))).trans p4;have aL:=(aa.1 (w.heap.size+1) 5 lp nP (ab _ (Ht _))).trans p5;have ar:=(aa.1 (w.heap.size+1) 6 lp nP (ab _ (Ht _))).trans p6;have av:=(aa.1 (w.heap.size+1) 7 lp nP (ab _ (Ht _))).trans p7;have an:w.heap.size<wx.heap.size:=Hg la aa.2;have ak:w.heap.size+1<wx.heap.size:=Hg lp aa.2;go_simp
 refine dY 2 (.int .i64 (q:Int)) rfl ?_ ?_
 ·intro wx aa;have ap:=(aa.1 w.heap.size 0 la nC (ab _ (Ho _))).trans a0;have ag:=(aa.1 w.heap.size 1 la nC (ab _ (Ho _))).trans a1;have aq:=(aa.1 w.heap.size 2 la nC (ab _ (Ho _))).trans a2;have aw:=(aa.1 w.heap.size 3 la nC (ab _ (Ho _))).trans a3;have al:=(aa.1 w.heap.size 4 la nC (ab _ (Ho _))).trans a4;have aI:=(aa.1 w.heap.size 5 la nC (ab _ (Ho _))).trans a5;have aD:=(aa.1 (w.heap.size+1) 0 lp nP (ab _ (Ht _))).trans p0;have az:=(aa.1 (w.heap.size+1) 1 lp nP (ab _ (Ht _))).trans p1;have aE:=(aa.1 (w.heap.size+1) 2 lp nP (ab _ (Ht _))).trans p2;have am:=(aa.1 (w.heap.size+1) 3 lp nP (ab _ (Ht _))).trans p3;have ao:=(aa.1 (w.heap.size+1) 4 lp nP (ab _ (Ht _))).trans p4;have aL:=(aa.1 (w.heap.size+1) 5 lp nP (ab _ (Ht _))).trans p5;have ar:=(aa.1 (w.heap.size+1) 6 lp nP (ab _ (Ht _))).trans p6;have av:=(aa.1 (w.heap.size+1) 7 lp nP (ab _ (Ht _))).trans p7;have an:w.heap.size<wx.heap.size:=Hg la aa.2;have ak:w.heap.size+1<wx.heap.size:=Hg lp aa.2;go_simp
 refine dY 3 (.pointer (some ⟨w.heap.size,3,none⟩)) rfl ?_ ?_
 ·intro wx aa;have ap:=(aa.1 w.heap.size 0 la nC (ab _ (Ho _))).trans a0;have ag:=(aa.1 w.heap.size 1 la nC (ab _ (Ho _))).trans a1;have aq:=(aa.1 w.heap.size 2 la nC (ab _ (Ho _))).trans a2;have aw:=(aa.1 w.heap.size 3 la nC (ab _ (Ho _))).trans a3;have al:=(aa.1 w.heap.size 4 la nC (ab _ (Ho _))).trans a4;have aI:=(aa.1 w.heap.size 5 la nC (ab _ (Ho _))).trans a5;have aD:=(aa.1 (w.heap.size+1) 0 lp nP (ab _ (Ht _))).trans p0;have az:=(aa.1 (w.heap.size+1) 1 lp nP (ab _ (Ht _))).trans p1;have aE:=(aa.1 (w.heap.size+1) 2 lp nP (ab _ (Ht _))).trans p2;have am:=(aa.1 (w.heap.size+1) 3 lp nP (ab _ (Ht _))).trans p3;have ao:=(aa.1 (w.heap.size+1) 4 lp nP (ab _ (Ht _))).trans p4;have aL:=(aa.1 (w.heap.size+1) 5 lp nP (ab _ (Ht _))).trans p5;have ar:=(aa.1 (w.heap.size+1) 6 lp nP (ab _ (Ht _))).trans p6;have av:=(aa.1 (w.heap.size+1) 7 lp nP (ab _ (Ht _))).trans p7;have an:w.heap.size<wx.heap.size:=Hg la aa.2;have ak:w.heap.size+1<wx.heap.size:=Hg lp aa.2;go_simp
 refine dY 4 (.slice (some ⟨gO,0,none⟩) V.nO cO) rfl ?_ ?_
 ·intro wx aa;have ap:=(aa.1 w.heap.size 0 la nC (ab _ (Ho _))).trans a0;have ag:=(aa.1 w.heap.size 1 la nC (ab _ (Ho _))).trans a1;have aq:=(aa.1 w.heap.size 2 la nC (ab _ (Ho _))).trans a2;have aw:=(aa.1 w.heap.size 3 la nC (ab _ (Ho _))).trans a3;have al:=(aa.1 w.heap.size 4 la nC (ab _ (Ho _))).trans a4;have aI:=(aa.1 w.heap.size 5 la nC (ab _ (Ho _))).trans a5;have aD:=(aa.1 (w.heap.size+1) 0 lp nP (ab _ (Ht _))).trans p0;have az:=(aa.1 (w.heap.size+1) 1 lp nP (ab _ (Ht _))).trans p1;have aE:=(aa.1 (w.heap.size+1) 2 lp nP (ab _ (Ht _))).trans p2;have am:=(aa.1 (w.heap.size+1) 3 lp nP (ab _ (Ht _))).trans p3;have ao:=(aa.1 (w.heap.size+1) 4 lp nP (ab _ (Ht _))).trans p4;have aL:=(aa.1 (w.heap.size+1) 5 lp nP (ab _ (Ht _))).trans p5;have ar:=(aa.1 (w.heap.size+1) 6 lp nP (ab _ (Ht _))).trans p6;have av:=(aa.1 (w.heap.size+1) 7 lp nP (ab _ (Ht _))).trans p7;have an:w.heap.size<wx.heap.size:=Hg la aa.2;have ak:w.heap.size+1<wx.heap.size:=Hg lp aa.2;go_simp
 refine dY 5 (.int .i64 (q:Int)) rfl ?_ ?_
 ·intro wx aa;have ap:=(aa.1 w.heap.size 0 la nC (ab _ (Ho _))).trans a0;have ag:=(aa.1 w.heap.size 1 la nC (ab _ (Ho _))).trans a1;have aq:=(aa.1 w.heap.size 2 la nC (ab _ (Ho _))).trans a2;have aw:=(aa.1 w.heap.size 3 la nC (ab _ (Ho _))).trans a3;have al:=(aa.1 w.heap.size 4 la nC (ab _ (Ho _))).trans a4;have aI:=(aa.1 w.heap.size 5 la nC (ab _ (Ho _))).trans a5;have aD:=(aa.1 (w.heap.size+1) 0 lp nP (ab _ (Ht _))).trans p0;have az:=(aa.1 (w.heap.size+1) 1 lp nP (ab _ (Ht _))).trans p1;have aE:=(aa.1 (w.heap.size+1) 2 lp nP (ab _ (Ht _))).trans p2;have am:=(aa.1 (w.heap.size+1) 3 lp nP (ab _ (Ht _))).trans p3;have ao:=(aa.1 (w.heap.size+1) 4 lp nP (ab _ (Ht _))).trans p4;have aL:=(aa.1 (w.heap.size+1) 5 lp nP (ab _ (Ht _))).trans p5;have ar:=(aa.1 (w.heap.size+1) 6 lp nP (ab _ (Ht _))).trans p6;have av:=(aa.1 (w.heap.size+1) 7 lp nP (ab _ (Ht _))).trans p7;have an:w.heap.size<wx.heap.size:=Hg la aa.2;have ak:w.heap.size+1<wx.heap.size:=Hg lp aa.2;go_simp
 refine dY 6 (.pointer (some ⟨gO,q,none⟩)) rfl ?_ ?_
 ·intro wx aa;have ap:=(aa.1 w.heap.size 0 la nC (ab _ (Ho _))).trans a0;have ag:=(aa.1 w.heap.size 1 la nC (ab _ (Ho _))).trans a1;have aq:=(aa.1 w.heap.size 2 la nC (ab _ (Ho _))).trans a2;have aw:=(aa.1 w.heap.size 3 la nC (ab _ (Ho _))).trans a3;have al:=(aa.1 w.heap.size 4 la nC (ab _ (Ho _))).trans a4;have aI:=(aa.1 w.heap.size 5 la nC (ab _ (Ho _))).trans a5;have aD:=(aa.1 (w.heap.size+1) 0 lp nP (ab _ (Ht _))).trans p0;have az:=(aa.1 (w.heap.size+1) 1 lp nP (ab _ (Ht _))).trans p1;have aE:=(aa.1 (w.heap.size+1) 2 lp nP (ab _ (Ht _))).trans p2;have am:=(aa.1 (w.heap.size+1) 3 lp nP (ab _ (Ht _))).trans p3;have ao:=(aa.1 (w.heap.size+1) 4 lp nP (ab _ (Ht _))).trans p4;have aL:=(aa.1 (w.heap.size+1) 5 lp nP (ab _ (Ht _))).trans p5;have ar:=(aa.1 (w.heap.size+1) 6 lp nP (ab _ (Ht _))).trans p6;have av:=(aa.1 (w.heap.size+1) 7 lp nP (ab _ (Ht _))).trans p7;have an:w.heap.size<wx.heap.size:=Hg la aa.2;have ak:w.heap.size+1<wx.heap.size:=Hg lp aa.2;go_simp
 refine dY 8 (.agg #[.int .i64 (V.X q),.int .i64 (P 1),.int .i64 (P 2),.int .i64 (P 3),.int .i64 (P 4),.int .i64 (P 5),.int .i64 (P 6),.int .i64 (P 7)]) rfl ?_ ?_
 ·intro wx aa;have ap:=(aa.1 w.heap.size 0 la nC (ab _ (Ho _))).trans a0;have ag:=(aa.1 w.heap.size 1 la nC (ab _ (Ho _))).trans a1;have aq:=(aa.1 w.heap.size 2 la nC (ab _ (Ho _))).trans a2;have aw:=(aa.1 w.heap.size 3 la nC (ab _ (Ho _))).trans a3;have al:=(aa.1 w.heap.size 4 la nC (ab _ (Ho _))).trans a4;have aI:=(aa.1 w.heap.size 5 la nC (ab _ (Ho _))).trans a5;have aD:=(aa.1 (w.heap.size+1) 0 lp nP (ab _ (Ht _))).trans p0;have az:=(aa.1 (w.heap.size+1) 1 lp nP (ab _ (Ht _))).trans p1;have aE:=(aa.1 (w.heap.size+1) 2 lp nP (ab _ (Ht _))).trans p2;have am:=(aa.1 (w.heap.size+1) 3 lp nP (ab _ (Ht _))).trans p3;have ao:=(aa.1 (w.heap.size+1) 4 lp nP (ab _ (Ht _))).trans p4;have aL:=(aa.1 (w.heap.size+1) 5 lp nP (ab _ (Ht _))).trans p5;have ar:=(aa.1 (w.heap.size+1) 6 lp nP (ab _ (Ht _))).trans p6;have av:=(aa.1 (w.heap.size+1) 7 lp nP (ab _ (Ht _))).trans p7;have an:w.heap.size<wx.heap.size:=Hg la aa.2;have ak:w.heap.size+1<wx.heap.size:=Hg lp aa.2;go_simp
 refine y9 [7,9] ?_;refine (AllReadyH.cons rfl (fun K hK=>?_) (AllReadyH.cons rfl (fun K hK=>?_) AllReadyH.nil))
 case' _=>have bI:=trivial
 all_goals
  first
  | guard_hyp bI
    have kc:X0.cell? ⟨gO,q,none⟩=some (.slice ua (V.N q) uc):=(B0.cell (p:=⟨gO,q,none⟩) (by show gO<_;omega)).trans dq
    have kl:gO<X0.heap.size:=Hg (by omega) B0.size
    go_simp
    clear kc kl
    refine hK.out _ _ af (fun ai=>?_)
    clear hK K af
    have af:=ai
    clear ai
    try simp only [aT]
    refine di 9 rfl fun K hK=>?_
    go_simp
    obtain ⟨X2,e2⟩:∃ X,X=X0.alloc (.cells #[.int .i64 (V.X q),.int .i64 (P 1),.int .i64 (P 2),.int .i64 (P 3),.int .i64 (P 4),.int .i64 (P 5),.int .i64 (P 6),.int .i64 (P 7)] 69):=⟨_,rfl⟩
    rw [<-e2]
    have aW:Below X0.heap.size X0 X2:=by rw [e2];exact (Hr _ _).alloc (Ho _) _
    have bm:bY (∀ j u,(P8.eight (fun _=>P) 0)[j]? = some u->X2.cell? ((⟨X0.heap.size,0,none⟩:Addr).add j)=some u):=by rw [e2];exact nH X0 P (V.X q) HP.o
    clear e2
    have B2:Below w1.heap.size w1 X2:=ah B0 aW
    have BW:Below w.heap.size w X2:=ah B1 B2
    have z2:=B2.size
    have z3:=BW.size
    have z4:=aW.size
    have z5:=B0.size
    refine hK.out _ _ ⟨fun x o hx _ ad=>B2.cell (p:=⟨x,o,none⟩) hx,z2⟩ (fun ai=>?_)
  | go_simp
    obtain ⟨X2,e2⟩:∃ X,X=X0.alloc (.cells #[.int .i64 (V.X q),.int .i64 (P 1),.int .i64 (P 2),.int .i64 (P 3),.int .i64 (P 4),.int .i64 (P 5),.int .i64 (P 6),.int .i64 (P 7)] 69):=⟨_,rfl⟩
    rw [<-e2]
    have aW:Below X0.heap.size X0 X2:=by rw [e2];exact (Hr _ _).alloc (Ho _) _
    have bm:bY (∀ j u,(P8.eight (fun _=>P) 0)[j]? = some u->X2.cell? ((⟨X0.heap.size,0,none⟩:Addr).add j)=some u):=by rw [e2];exact nH X0 P (V.X q) HP.o
    clear e2
    have B2:Below w1.heap.size w1 X2:=ah B0 aW
    have BW:Below w.heap.size w X2:=ah B1 B2
    have z2:=B2.size
    have z3:=BW.size
    have z4:=aW.size
    have z5:=B0.size
    refine hK.out _ _ ⟨fun x o hx _ ad=>B2.cell (p:=⟨x,o,none⟩) hx,z2⟩ (fun ai=>?_)
    clear hK K af
    have af:=ai
    clear ai
    try simp only [aT]
    refine di 7 rfl fun K hK=>?_
    have kc:X2.cell? ⟨gO,q,none⟩=some (.slice ua (V.N q) uc):=(B2.cell (p:=⟨gO,q,none⟩) (by show gO<_;omega)).trans dq
    have kl:gO<X2.heap.size:=Hg (by omega) B2.size
    go_simp
    clear kc kl
    refine hK.out _ _ af (fun ai=>?_)
  clear hK K af
  have af:=ai
  clear ai
  try simp only [aT]
  refine di 10 rfl fun K hK=>?_
  rw [if_pos (by rfl)]
  refine Ej _ _ rfl lo (V.N q) xq _ (V.O q) P rfl (jT.go ⟨HR.o.1,HR.o.2.1⟩ (Ho _) z3 (Ho _) (fun _ _ h=>aj BW h)) (by omega) ⟨X0.heap.size,0,none⟩ 1 rfl bm.o (by omega) ?_
  rintro v3 X3 g3 ⟨G1,G2,G3,G4,G5⟩
  obtain ⟨b5,bh,rfl,a7⟩:=G3.is
  obtain rfl:=a7 (by omega)
  clear a7
  refine hK.out _ _ ⟨fun x o hx _ ad=>(World.cell?_of_block (a:=⟨x,o,none⟩) (G2 x (by omega) ad)).trans (B2.cell (p:=⟨x,o,none⟩) hx),by omega⟩ (fun ai=>?_)
  clear hK K af
  have af:=ai
  clear ai
  try simp only [aT]
  refine dY 11 (.pointer (some ⟨gO,q,none⟩)) rfl ?_ ?_
  ·intro wx aa;have ap:=(aa.1 w.heap.size 0 la nC (ab _ (Ho _))).trans a0;have ag:=(aa.1 w.heap.size 1 la nC (ab _ (Ho _))).trans a1;have aq:=(aa.1 w.heap.size 2 la nC (ab _ (Ho _))).trans a2;have aw:=(aa.1 w.heap.size 3 la nC (ab _ (Ho _))).trans a3;have al:=(aa.1 w.heap.size 4 la nC (ab _ (Ho _))).trans a4;have aI:=(aa.1 w.heap.size 5 la nC (ab _ (Ho _))).trans a5;have aD:=(aa.1 (w.heap.size+1) 0 lp nP (ab _ (Ht _))).trans p0;have az:=(aa.1 (w.heap.size+1) 1 lp nP (ab _ (Ht _))).trans p1;have aE:=(aa.1 (w.heap.size+1) 2 lp nP (ab _ (Ht _))).trans p2;have am:=(aa.1 (w.heap.size+1) 3 lp nP (ab _ (Ht _))).trans p3;have ao:=(aa.1 (w.heap.size+1) 4 lp nP (ab _ (Ht _))).trans p4;have aL:=(aa.1 (w.heap.size+1) 5 lp nP (ab _ (Ht _))).trans p5;have ar:=(aa.1 (w.heap.size+1) 6 lp nP (ab _ (Ht _))).trans p6;have av:=(aa.1 (w.heap.size+1) 7 lp nP (ab _ (Ht _))).trans p7;have an:w.heap.size<wx.heap.size:=Hg la aa.2;have ak:w.heap.size+1<wx.heap.size:=Hg lp aa.2;go_simp
  have aO:∀ x,x<w1.heap.size->(V.N q≠0->¬ x=xq)->Sm w1 X3 x:=fun x hx ad=>(aj B2 hx).trans (fun o=>⟨World.cell?_of_block (a:=⟨x,o,none⟩) (G2 x (by omega) ad),World.frozen?_of_block (a:=⟨x,o,none⟩) (G2 x (by omega) ad)⟩)
  have bp:∀ x,x<w.heap.size->(V.N q≠0->¬ x=xq)->Sm w X3 x:=fun x hx ad=>(aj B1 hx).trans (aO x (by omega) ad)
  have bu:X3.cell? ⟨gO,q,none⟩=some (.slice ua (V.N q) uc):=(bp gO (by omega) be q).1.trans CQ.o
  have bO:X3.frozen? ⟨gO,q,none⟩=false:=(bp gO (by omega) be q).2.trans FQ.o
  have bx:gO<X3.heap.size:=by omega
  refine di 12 rfl fun K hK=>?_
  go_simp
  obtain ⟨X4,e4⟩:∃ X,X=X3.setCell ⟨gO,q,none⟩ (.slice (some ⟨g3,0,none⟩) (V.N q+1) bh):=⟨_,rfl⟩
  have zz:X4.heap.size=X3.heap.size:=by rw [e4];exact ay
  have aM:bY (∀ x,¬ x=gO->Sm X3 X4 x):=fun x hx=>by rw [e4];exact cZ hx
  have K4:bY (∀ j,X4.cell? ⟨gO,j,none⟩=(if j=q then some (.slice (some ⟨g3,0,none⟩) (V.N q+1) bh) else X3.cell? ⟨gO,j,none⟩)/\X4.frozen? ⟨gO,j,none⟩=X3.frozen? ⟨gO,j,none⟩):=fun j=>by
   rw [e4,aB];refine ⟨?_,rfl⟩;by_cases e:j=q
   ·subst e;rw [if_pos rfl];exact fP (by rw [bu];rfl)
   rw [if_neg e];exact aJ (fun e2=>e e2.2.symm)
  rw [<-e4]
  refine hK.out _ _ ⟨fun x o hx h1 ad=>by rw [e4,aJ (fun e=>h1 e.1.symm)];exact (World.cell?_of_block (a:=⟨x,o,none⟩) (G2 x (by omega) ad)).trans (B2.cell (p:=⟨x,o,none⟩) hx),by rw [e4,ay];omega⟩ (fun ai=>?_)
  clear hK K af
  have af:=ai
  clear ai
  try simp only [aT]
  refine Hy (by kernel_rfl) ?_ _
  have ae:bY (∀ x,x<w1.heap.size->(V.N q≠0->¬ x=xq)->Sm w1 X3 x):=aO
  have br:∀ x,w.heap.size<=x->V.N q≠0->¬ x=xq:=ab
  have bc:V.N q≠0->¬ gX=xq:=fun e e2=>(aN.o e).2.1 e2.symm
  have C4:bY (Bk X4 w.heap.size _):=C1.o.sm (by omega) ((ae.o _ la (br _ (Ho _))).trans (aM.o _ nC))
  have R4:bY (Bk X4 (w.heap.size+1+1) _):=R1.o.sm (by omega) ((ae.o _ z1 (br _ (by omega))).trans (aM.o _ (by omega)))
  have z6:w1.heap.size<=X4.heap.size:=by omega
  have b2:w1.heap.size<=X2.heap.size:=z2
  have bC:bY (jT lo X3.heap.size X3 (.slice (some ⟨g3,0,none⟩) (V.N q+1) bh) (V.N q+1) (dm (V.O q) (V.N q) P) g3):=G3
  have bd:bY ((V.N q≠0/\g3=xq)∨X2.heap.size<=g3):=G4
  have bE:bY (Below lo w X4):=by rw [e4];exact ((BW.mono (by omega)).trans G5.1).setCell (by show lo<=gO;omega) _
  have bb:bY (Below w.heap.size w w1):=B1
  have eX:X4.cell? ⟨gX,q,none⟩=some (.int .i64 (V.X q)):=((aM.o gX (fun e=>aR e.symm) q).1.trans (ae.o gX (by omega) bc q).1).trans ((B1.cell (p:=⟨gX,q,none⟩) bl).trans CX.o)
  have fX:X4.frozen? ⟨gX,q,none⟩=false:=((aM.o gX (fun e=>aR e.symm) q).2.trans (ae.o gX (by omega) bc q).2).trans ((B1.frozen (p:=⟨gX,q,none⟩) bl).trans FX.o)
  have bL:gX<X4.heap.size:=by omega
  clear af e4 bu bO bx bp aO G1 G2 G3 G4 G5 B2 BW bm B0 HR dq C1 P1 R1 aW z2 z3 z4 z5 bo a0 a1 a2 a3 a4 a5 la p0 p1 p2 p3 p4 p5 p6 p7 lp
  have a0:X4.cell? ⟨w.heap.size,0,none⟩=some (.int .i64 V.c):=(C4.o.2 0 (by simp)).1
  have a1:X4.cell? ⟨w.heap.size,1,none⟩=some (.slice (some ⟨gW,0,none⟩) V.nW cW):=(C4.o.2 1 (by simp)).1
  have a2:X4.cell? ⟨w.heap.size,2,none⟩=some (.int .i64 V.g):=(C4.o.2 2 (by simp)).1
  have a3:X4.cell? ⟨w.heap.size,3,none⟩=some (.slice (some ⟨gO,0,none⟩) V.nO cO):=(C4.o.2 3 (by simp)).1
  have a4:X4.cell? ⟨w.heap.size,4,none⟩=some (.slice (some ⟨gX,0,none⟩) V.nX cX):=(C4.o.2 4 (by simp)).1
  have a5:X4.cell? ⟨w.heap.size,5,none⟩=some (.slice (some ⟨gI,0,none⟩) V.nI cI):=(C4.o.2 5 (by simp)).1
  have la:w.heap.size<X4.heap.size:=C4.o.1
  have n1:¬ gX=w.heap.size:=by omega
  have n2:¬ w.heap.size=gX:=by omega
  go_wp2
  go_region
  obtain ⟨X5,e5⟩:∃ X,X=(X4.setCell ⟨gX,q,none⟩ (.int .i64 (V.X q+1))).drew:=⟨_,rfl⟩
  rw [<-e5]
  have bN:bY (Below lo w X5):=by rw [e5];exact (bE.o.setCell (by show lo<=gX;omega) _).drew
  have z5:X5.heap.size=X4.heap.size:=by rw [e5];exact ay
  have aX:bY (∀ x,¬ x=gX->Sm X4 X5 x):=fun x hx=>by rw [e5];exact cZ hx
  have K5:bY (∀ j,X5.cell? ⟨gX,j,none⟩=(if j=q then some (.int .i64 (V.X q+1)) else X4.cell? ⟨gX,j,none⟩)/\X5.frozen? ⟨gX,j,none⟩=X4.frozen? ⟨gX,j,none⟩):=fun j=>by
   rw [e5];refine ⟨?_,aB⟩;by_cases e:j=q
   ·subst e;rw [if_pos rfl];exact fP (by rw [eX];rfl)
   rw [if_neg e];exact aJ (fun e2=>e e2.2.symm)
  have C5:=fQ (C4.o.sm (W':=X5) (by omega) (aX.o _ (by omega)))
  have R5:=fQ (R4.o.sm (W':=X5) (by omega) (aX.o _ (by omega)))
  clear e5 eX fX bL n1 n2 C4 R4 a0 a1 a2 a3 a4 a5 la
  have a0:X5.cell? ⟨w.heap.size,0,none⟩=some (.int .i64 V.c):=(C5.o.2 0 (by simp)).1
  have a1:X5.cell? ⟨w.heap.size,1,none⟩=some (.slice (some ⟨gW,0,none⟩) V.nW cW):=(C5.o.2 1 (by simp)).1
  have a2:X5.cell? ⟨w.heap.size,2,none⟩=some (.int .i64 V.g):=(C5.o.2 2 (by simp)).1
  have a3:X5.cell? ⟨w.heap.size,3,none⟩=some (.slice (some ⟨gO,0,none⟩) V.nO cO):=(C5.o.2 3 (by simp)).1
  have a4:X5.cell? ⟨w.heap.size,4,none⟩=some (.slice (some ⟨gX,0,none⟩) V.nX cX):=(C5.o.2 4 (by simp)).1
  have a5:X5.cell? ⟨w.heap.size,5,none⟩=some (.slice (some ⟨gI,0,none⟩) V.nI cI):=(C5.o.2 5 (by simp)).1
  have la:w.heap.size<X5.heap.size:=C5.o.1
  have r0:X5.cell? ⟨w.heap.size+1+1,0,none⟩=some (.int .i64 0):=(R5.o.2 0 (by simp)).1
  have r1:X5.cell? ⟨w.heap.size+1+1,1,none⟩=some (.slice none 0 0):=(R5.o.2 1 (by simp)).1
  have r2:X5.cell? ⟨w.heap.size+1+1,2,none⟩=some (.int .i64 0):=(R5.o.2 2 (by simp)).1
  have r3:X5.cell? ⟨w.heap.size+1+1,3,none⟩=some (.slice none 0 0):=(R5.o.2 3 (by simp)).1
  have r4:X5.cell? ⟨w.heap.size+1+1,4,none⟩=some (.slice none 0 0):=(R5.o.2 4 (by simp)).1
  have r5:X5.cell? ⟨w.heap.size+1+1,5,none⟩=some (.slice none 0 0):=(R5.o.2 5 (by simp)).1
  have q0:X5.frozen? ⟨w.heap.size+1+1,0,none⟩=false:=(R5.o.2 0 (by simp)).2
  have q1:X5.frozen? ⟨w.heap.size+1+1,1,none⟩=false:=(R5.o.2 1 (by simp)).2
  have q2:X5.frozen? ⟨w.heap.size+1+1,2,none⟩=false:=(R5.o.2 2 (by simp)).2
  have q3:X5.frozen? ⟨w.heap.size+1+1,3,none⟩=false:=(R5.o.2 3 (by simp)).2
  have q4:X5.frozen? ⟨w.heap.size+1+1,4,none⟩=false:=(R5.o.2 4 (by simp)).2
  have q5:X5.frozen? ⟨w.heap.size+1+1,5,none⟩=false:=(R5.o.2 5 (by simp)).2
  have lr:w.heap.size+1+1<X5.heap.size:=R5.o.1
  go_wp2
  refine Hw (v:=.tuple #[.agg #[.int .i64 V.c,.slice (some ⟨gW,0,none⟩) V.nW cW,.int .i64 V.g,.slice (some ⟨gO,0,none⟩) V.nO cO,.slice (some ⟨gX,0,none⟩) V.nX cX,.slice (some ⟨gI,0,none⟩) V.nI cI],.bool true]) (by simp [results,Tryz.results161,go_sem,r0,r1,r2,r3,r4,r5]) rfl ?_
  have bX:=au X5 (w.heap.size+1+1) (.int .i64 V.c) (.slice (some ⟨gW,0,none⟩) V.nW cW) (.int .i64 V.g) (.slice (some ⟨gO,0,none⟩) V.nO cO) (.slice (some ⟨gX,0,none⟩) V.nX cX) (.slice (some ⟨gI,0,none⟩) V.nI cI)
  have MP:∀ x,¬ x=w.heap.size+1+1->Sm X5 (aG X5 (w.heap.size+1+1) (.int .i64 V.c) (.slice (some ⟨gW,0,none⟩) V.nW cW) (.int .i64 V.g) (.slice (some ⟨gO,0,none⟩) V.nO cO) (.slice (some ⟨gX,0,none⟩) V.nX cX) (.slice (some ⟨gI,0,none⟩) V.nI cI)) x:=fun x hx=>aH (fun e=>hx e.symm) (.int .i64 V.c) (.slice (some ⟨gW,0,none⟩) V.nW cW) (.int .i64 V.g) (.slice (some ⟨gO,0,none⟩) V.nO cO) (.slice (some ⟨gX,0,none⟩) V.nX cX) (.slice (some ⟨gI,0,none⟩) V.nI cI)
  have MA:∀ x,x<w.heap.size->¬ x=gO->¬ x=gX->(V.N q≠0->¬ x=xq)->Sm w (aG X5 (w.heap.size+1+1) (.int .i64 V.c) (.slice (some ⟨gW,0,none⟩) V.nW cW) (.int .i64 V.g) (.slice (some ⟨gO,0,none⟩) V.nO cO) (.slice (some ⟨gX,0,none⟩) V.nX cX) (.slice (some ⟨gI,0,none⟩) V.nI cI)) x:=fun x h1 h2 h3 h4=>((((aj bb.o h1).trans (ae.o x (by omega) h4)).trans (aM.o x h2)).trans (aX.o x h3)).trans (MP x (by omega))
  refine ⟨rfl,w.heap.size+3,by omega,?_,?_,?_,?_,?_⟩
  ·show _<=(aG _ _ _ _ _ _ _ _).heap.size
   omega
  ·show Md lo _ (aG X5 (w.heap.size+1+1) (.int .i64 V.c) (.slice (some ⟨gW,0,none⟩) V.nW cW) (.int .i64 V.g) (.slice (some ⟨gO,0,none⟩) V.nO cO) (.slice (some ⟨gX,0,none⟩) V.nX cX) (.slice (some ⟨gI,0,none⟩) V.nI cI)) _ _
   refine bi.o _ (.slice (some ⟨g3,0,none⟩) (V.N q+1) bh) (V.X q+1) (dm (V.O q) (V.N q) P) g3 (by omega) (fun x h1 _ h2 h3 h4=>MA x h1 h2 h3 h4) (fun j=>?_) (fun j=>?_) ?_ (by rcases bd.o with h | h;exact .inl h;exact .inr ⟨by omega,.inr (by omega)⟩)
   ·rw [(MP gO (by omega) j).1,(MP gO (by omega) j).2,(aX.o gO aR j).1,(aX.o gO aR j).2,(K4.o j).1,(K4.o j).2,(ae.o gO (by omega) be j).1,(ae.o gO (by omega) be j).2,(aj bb.o (b:=gO) (by omega) j).1,(aj bb.o (b:=gO) (by omega) j).2];exact ⟨rfl,rfl⟩
   ·rw [(MP gX (by omega) j).1,(MP gX (by omega) j).2,(K5.o j).1,(K5.o j).2,(aM.o gX (fun e=>aR e.symm) j).1,(aM.o gX (fun e=>aR e.symm) j).2,(ae.o gX (by omega) bc j).1,(ae.o gX (by omega) bc j).2,(aj bb.o (b:=gX) (by omega) j).1,(aj bb.o (b:=gX) (by omega) j).2];exact ⟨rfl,rfl⟩
   have g1:¬ g3=gO:=by rcases bd.o with ⟨h,e⟩ | h;rw [e];exact (aN.o h).1;omega
   have g2:¬ g3=gX:=by rcases bd.o with ⟨h,e⟩ | h;rw [e];exact (aN.o h).2.1;omega
   have g4:¬ g3=w.heap.size+1+1:=by rcases bd.o with ⟨h,e⟩ | h;rw [e];have:=(aN.o h).2.2.2.1;omega;omega
   have bq:=bC.o.go (Ho _) (show X3.heap.size<=_ by omega) (Ho _) (fun _ _ _=>((aM.o g3 g1).trans (aX.o g3 g2)).trans (MP g3 g4));exact ⟨bq.1,bq.2,g3,_,_,rfl,(bq.in (by omega)).2⟩
  ·exact ax bN.o (by omega) _ _ _ _ _ _
  ·show _<=(aG _ _ _ _ _ _ _ _).heap.size
   omega
  exact fun x h1 h2=>MA x h1 (fun e=>h2 (by rw [e];exact bR)) (fun e=>h2 (by rw [e];exact bA)) (fun e e2=>h2 (by rw [e2];exact (aN.o e).2.2.2.2))
theorem uM (lo q:Nat) (Ok:Nat->Prop) (v:Value) (V:CV) (P:Nat->Int) (p0:Int) (hq:q<V.nX) (ad:q<V.nO) (aa:V.X q=5000) (w:World) (h:Md lo Ok w v V) :
 Hz 161 #[v,.int .i64 (q:Int),.agg #[.int .i64 p0,.int .i64 (P 1),.int .i64 (P 2),.int .i64 (P 3),.int .i64 (P 4),.int .i64 (P 5),.int .i64 (P 6),.int .i64 (P 7)]] w fun e w'=>e=.returned (.tuple #[v,.bool false])/\Below w.heap.size w w':=by
 obtain ⟨gW,cW,gO,cO,gX,cX,gI,cI,rfl,_,_,am⟩:=h.form;obtain ⟨_,_,_,_,_,_,_,_,⟨an,ag,_,_,_⟩,ac,ak,_⟩:=h.post (q:=q) ad hq;have al:(q:Int)<V.nX:=by omega
 have af:(V.X q == 5000)=true:=by simp [aa]
 clear aa h;have ae:gX<w.heap.size:=by omega
 go_enter Tryz.func161,Tryz.ntmps161;go_upto_region 1 with fail;obtain ⟨w0,e0⟩:∃ w0,w0=((w.alloc (.cells #[.int .i64 V.c,.slice (some ⟨gW,0,none⟩) V.nW cW,.int .i64 V.g,.slice (some ⟨gO,0,none⟩) V.nO cO,.slice (some ⟨gX,0,none⟩) V.nX cX,.slice (some ⟨gI,0,none⟩) V.nI cI] 36)).alloc (.cells #[.int .i64 p0,.int .i64 (P 1),.int .i64 (P 2),.int .i64 (P 3),.int .i64 (P 4),.int .i64 (P 5),.int .i64 (P 6),.int .i64 (P 7)] 69)).alloc (.cells #[.int .i64 0,.slice none 0 0,.int .i64 0,.slice none 0 0,.slice none 0 0,.slice none 0 0] 36):=⟨_,rfl⟩;have ab:Below w.heap.size w w0:=by rw [e0];exact (((Hr _ _).alloc (Ho _) _).alloc (by simp) _).alloc (by simp;omega) _
 have C0:bY (Bk w0 (w.heap.size) [.int .i64 V.c,.slice (some ⟨gW,0,none⟩) V.nW cW,.int .i64 V.g,.slice (some ⟨gO,0,none⟩) V.nO cO,.slice (some ⟨gX,0,none⟩) V.nX cX,.slice (some ⟨gI,0,none⟩) V.nI cI]):=by rw [e0];exact ((aU w 36 [.int .i64 V.c,.slice (some ⟨gW,0,none⟩) V.nW cW,.int .i64 V.g,.slice (some ⟨gO,0,none⟩) V.nO cO,.slice (some ⟨gX,0,none⟩) V.nX cX,.slice (some ⟨gI,0,none⟩) V.nI cI]).q ((Hr _ _).alloc (Ho _) _)).q ((Hr _ _).alloc (Ho _) _)
 have R0:bY (Bk w0 (w.heap.size+1+1) [.int .i64 0,.slice none 0 0,.int .i64 0,.slice none 0 0,.slice none 0 0,.slice none 0 0]):=by rw [e0];have h:=aU ((w.alloc (.cells #[.int .i64 V.c,.slice (some ⟨gW,0,none⟩) V.nW cW,.int .i64 V.g,.slice (some ⟨gO,0,none⟩) V.nO cO,.slice (some ⟨gX,0,none⟩) V.nX cX,.slice (some ⟨gI,0,none⟩) V.nI cI] 36)).alloc (.cells #[.int .i64 p0,.int .i64 (P 1),.int .i64 (P 2),.int .i64 (P 3),.int .i64 (P 4),.int .i64 (P 5),.int .i64 (P 6),.int .i64 (P 7)] 69)) 36 [.int .i64 0,.slice none 0 0,.int .i64 0,.slice none 0 0,.slice none 0 0,.slice none 0 0];rw [World.size_alloc,World.size_alloc] at h;exact h
 rw [<-e0];clear e0;have a0:=C0.o.a6;have la:w.heap.size<w0.heap.size:=C0.o.1;obtain ⟨r0,r1,r2,r3,r4,r5⟩:=R0.o.a6;have q0:=R0.o.f6;have lr:w.heap.size+1+1<w0.heap.size:=R0.o.1;have dX:w0.cell? ⟨gX,q,none⟩=some (.int .i64 (V.X q)):=(ab.cell (p:=⟨gX,q,none⟩) ae).trans ac;have ai:gX<w0.heap.size:=by omega
 clear ac;go_wp2;refine Hw (v:=.tuple #[.agg #[.int .i64 V.c,.slice (some ⟨gW,0,none⟩) V.nW cW,.int .i64 V.g,.slice (some ⟨gO,0,none⟩) V.nO cO,.slice (some ⟨gX,0,none⟩) V.nX cX,.slice (some ⟨gI,0,none⟩) V.nI cI],.bool false]) (by simp [results,Tryz.results161,go_sem,r0,r1,r2,r3,r4,r5]) rfl ?_;exact ⟨rfl,ax ab (by omega) _ _ _ _ _ _⟩
def cnt (m k:Nat):Nat:=if m<k then k - 1 else k
theorem BJ (m:Nat):cnt m 0=0:=by simp [cnt]
theorem cnt_le (m k:Nat):cnt m k<=k:=by unfold cnt;split <;> omega
theorem CS {m k:Nat} (h:k=m):cnt m (k+1)=cnt m k:=by subst h;simp [cnt]
theorem cnt_end {m n:Nat} (h:m<n):cnt m n=n - 1:=by simp [cnt,h]
theorem vG {Z:Nat->Nat->Int} {m k:Nat} (h:¬ k=m):cnt m (k+1)=cnt m k+1/\(List.range (cnt m k+1)).flatMap (aP (fG Z m))=(List.range (cnt m k)).flatMap (aP (fG Z m))++aP Z k:=by
 refine ⟨by unfold cnt;split <;> split <;> omega,?_⟩;rw [iU];congr 1;unfold cnt fG aP;by_cases e:m<k
 ·simp only [if_pos e];rw [if_neg (show ¬ k - 1<m by omega),show k - 1+1=k by omega]
 simp only [if_neg e];rw [if_pos (show k<m by omega)]
theorem vg (z:Int) (a:Option Addr) (b n aD m:Nat) (Z:Nat->Nat->Int) (hn:n<=1048576) (w:World) (hb:n≠0->b<w.heap.size) (ha:n≠0->a=some (zA b 0)) (hm:m<n) (hz:Z m 0=z) (hF:∀ j,j<n->¬ j=m->¬ Z j 0=z) (hr:∀ k j,k<n->j<5->w.cell? (zA b (k * 5+j))=some (zI (Z k j))) :
 Hz 141 #[.slice a n aD,zI z] w fun e w'=>∃ v,e=.returned v/\v≠.slice none 0 0/\w'.ownsRow w.heap.size 67 5 v (n - 1) ((List.range (n - 1)).flatMap (aP (fG Z m)))/\Below w.heap.size w w':=by
 have HR:bY (∀ k j,k<n->j<5->w.cell? (zA b (k * 5+j))=some (zI (Z k j))):=hr;have HA:bY (n≠0->a=some (zA b 0)):=ha;have HB:bY (n≠0->b<w.heap.size):=hb;have HM:bY (∀ j,j<n->¬ j=m->¬ Z j 0=z):=hF;have HZ:bY (Z m 0=z):=hz;clear hr ha hb hF hz;obtain ⟨i5,az,al,ak,am⟩:=info5;go_enter Tryz.func141,Tryz.ntmps141;go_wp2;go_loopw [5,6] (fun s i wr=>∃ (k:Nat) (v:Value),k<=n/\zI k=i/\v=s/\v≠.slice none 0 0/\wr.ownsRow w.heap.size 67 5 v (cnt m k) ((List.range (cnt m k)).flatMap (aP (fG Z m)))/\w.heap.size<=wr.heap.size/\Below w.heap.size w wr) (fun _ i _=>n - (intOf i).toNat)
 case atStart=>exact ⟨0,_,Nat.zero_le _,rfl,rfl,by simp,by rw [BJ];exact World.ownsRow_lit w #[] 0 (Ho _) (by simp) (by simp),by simp,(Hr _ _).alloc (by simp) _⟩
 case round =>
  obtain ⟨k,v,hk,rfl,rfl,ae,ho,ao,aa⟩:=hrel;by_cases ap:k<n
  ·have ai:(k:Int)<(n:Int):=by omega
   obtain rfl:=HA.o (by omega);have hb:=HB.o (by omega);have c0:=cq5 (fun j hj=>(aa.cell (by exact hb)).trans (HR.o k j ap (by omega)));by_cases ad:k=m
   ·have ez:(Z k 0 == z)=true:=by rw [ad];simpa using HZ.o
    have HO:bY (wr.ownsRow w.heap.size 67 5 v (cnt m (k+1)) ((List.range (cnt m (k+1))).flatMap (aP (fG Z m)))):=by rw [CS ad];exact ho
    have af:bY (v≠.slice none 0 0):=ae;clear ae HA HB ho ad;go_wp2;go_roundw
    case rel=>exact ⟨k+1,_,by omega,by go_num,rfl,af.o,HO.o,ao,aa⟩
    case measure=>simp [intOf];omega
   skip;have ez:(Z k 0 == z)=false:=by simpa using HM.o k ap ad
   have aE:=cnt_le m k;have aq:bY (¬ k=m):=ad;clear ad;have af:bY (v≠.slice none 0 0):=ae;clear ae HA HB;go_wp2_with (at_builtin;refine wpList_append_own _ rfl _ _ 33 rfl w.heap.size 67 i5 (.agg z5.toArray) 5 40 Tryz.underlying33 az al ak am rfl (by decide) _ _ _ rfl (ho.alloc _) (zA wr.heap.size 0) 1 1 (aP Z k) rfl rfl (fH _ Z k 67) (dZ Z k) ?d3 ?d4 ?d5 ?_)
   case d3=>unfold maxLen;omega
   case d4=>omega
   case d5=>simp;omega
   ·intro v' w2 ab ar ag;have ac:=(World.grownBy_alloc wr _ _).trans ar;have HO:bY (w2.ownsRow w.heap.size 67 5 v' (cnt m (k+1)) ((List.range (cnt m (k+1))).flatMap (aP (fG Z m)))):=by
     unfold bY;rw [(vG (Z:=Z) aq.o).1,(vG (Z:=Z) aq.o).2];exact ab
    have an:bY (v'≠.slice none 0 0):=ag;have aw:w.heap.size<=w2.heap.size:=Hq ao ac.size;have av:Below w.heap.size w w2:=aa.grown ac ao (fun kk e=>(ho.lt kk e).1);clear ab ar ag ac ho c0 af;go_wp2;go_roundw
    case rel=>exact ⟨k+1,_,by omega,by go_num,rfl,an.o,HO.o,aw,av⟩
    case measure=>simp [intOf];omega
  have ai:k=n:=by omega
  subst ai;have HO:bY (wr.ownsRow w.heap.size 67 5 v (k - 1) ((List.range (k - 1)).flatMap (aP (fG Z m)))):=by rw [<-cnt_end hm];exact ho
  have af:bY (v≠.slice none 0 0):=ae;clear ho ae HA;go_wp2;go_ret;exact ⟨_,rfl,af.o,HO.o,aa⟩
theorem Dw (vl:Value) (n:Nat) (Z:Nat->Nat->Int) (Zp:Nat->Int) (hn:n+1<=1048576) (w:World) (a3:∀ i j,i<j->j<n->Z i 0<Z j 0) (hF:pK Z n (Zp 0)) (bb:∀ ob:Obj,Hz 141 #[vl,zI (Zp 0)] (w.alloc ob) fun e w'=>∃ v,e=.returned v/\v≠.slice none 0 0/\w'.ownsRow (w.alloc ob).heap.size 67 5 v n ((List.range n).flatMap (aP Z))/\Below (w.alloc ob).heap.size (w.alloc ob) w') :
 Hz 119 #[vl,.agg (zF Zp).toArray] w fun e w'=>∃ v,e=.returned v/\w'.ownsRow w.heap.size 67 5 v (n+1) ((List.range (n+1)).flatMap (aP (dK Z n (Zp 0) Zp)))/\Below w.heap.size w w':=by
 obtain ⟨i5,aD,af,ag,ai⟩:=info5;have ba:bY (∀ o:Obj,Below w.heap.size w (w.alloc o)):=fun o=>(Hr _ _).alloc (Ho _) o;have HC:bY (∀ ob:Obj,Hz 141 #[vl,zI (Zp 0)] (w.alloc ob) fun e w'=>∃ v,e=.returned v/\v≠.slice none 0 0/\w'.ownsRow (w.alloc ob).heap.size 67 5 v n ((List.range n).flatMap (aP Z))/\Below (w.alloc ob).heap.size (w.alloc ob) w'):=bb;have bk:bY (∀ k,k<bK Z (Zp 0) n->decide (Zp 0<Z k 0)=false):=fun k hk=>decide_eq_false (by have:=oN Z (Zp 0) n a3 k hk;omega);have bi:bY (∀ k,bK Z (Zp 0) n=k->k<n->decide (Zp 0<Z k 0)=true):=fun k h1 h2=>decide_eq_true (by have:=oJ Z (Zp 0) n k (by omega) h2;have:=hF k h2;omega);have bm:bY (bK Z (Zp 0) n<=n):=jU Z (Zp 0) n;clear a3 hF bb;go_enter Tryz.func119,Tryz.ntmps119;go_wp2_with fail;refine (HC.o _).mono ?_;rintro e w1 ⟨v,rfl,bd,hW,aI⟩
 have HX:bY (∀ j,j<5->w1.cell? (zA w.heap.size j)=some (zI (Zp j))):=fun j hj=>(aI.cell (p:=(zA w.heap.size j)) (by simp)).trans (by
  have:j=0∨j=1∨j=2∨j=3∨j=4:=by omega
  rcases this with rfl | rfl | rfl | rfl | rfl <;> simp)
 have am:w.heap.size<w1.heap.size:=by have:=aI.size;simp at this;omega
 have B1:Below w.heap.size w w1:=(ba.o _).trans (aI.mono (by simp));obtain ⟨g,a0,_⟩:=gZ hW;obtain ⟨g0,c,hv⟩:∃ g0 c,v=.slice (some g0) n c:=by
  rcases a0 with ⟨rfl,a,c,rfl⟩ | ⟨c,rfl,_⟩
  ·rcases hW.2 with ⟨e,_⟩ | ⟨g,c,_,e,_⟩
   ·exact absurd e bd
   exact ⟨_,_,e⟩
  exact ⟨_,_,rfl⟩
 subst hv;have HR:bY (∀ k j,k<n->j<5->g0=(zA g 0)/\g<w1.heap.size/\w1.cell? (zA g (k * 5+j))=some (zI (Z k j))):=fun k j hk hj=>by
  rcases a0 with ⟨e,_⟩ | ⟨c',e,_,h2,h3,h4⟩
  ·omega
  simp only [Value.slice.injEq,Option.some.injEq,true_and] at e;exact ⟨e.1,by omega,h4.2 k j hk hj⟩
 clear hW aI HC ba a0 bd;go_wp2;go_loopw [6,7,8] (fun s d i wr=>∃ (k:Nat) (v:Value),k<=n/\zI k=i/\v=s/\.bool (decide (bK Z (Zp 0) n<k))=d/\v≠.slice none 0 0/\wr.ownsRow w1.heap.size 67 5 v (upto (bK Z (Zp 0) n) k) ((List.range (upto (bK Z (Zp 0) n) k)).flatMap (aP (dK Z n (Zp 0) Zp)))/\w1.heap.size<=wr.heap.size/\Below w1.heap.size w1 wr) (fun _ _ i _=>n - (intOf i).toNat)
 case atStart=>exact ⟨0,_,Nat.zero_le _,rfl,rfl,by simp,by simp,World.ownsRow_lit w1 #[] 0 (Ho _) (by simp) (by simp),by simp,(Hr _ _).alloc (by simp) _⟩
 case round =>
  obtain ⟨k,v,hk,rfl,rfl,rfl,bc,ho,ap,ae⟩:=hrel;have x0:wr.cell? (zA w.heap.size 0)=some (zI (Zp 0)):=(ae.cell (by exact am)).trans <| HX.o 0 (by omega);have x1:wr.cell? (zA w.heap.size 1)=some (zI (Zp 1)):=(ae.cell (by exact am)).trans <| HX.o 1 (by omega);have x2:wr.cell? (zA w.heap.size 2)=some (zI (Zp 2)):=(ae.cell (by exact am)).trans <| HX.o 2 (by omega);have x3:wr.cell? (zA w.heap.size 3)=some (zI (Zp 3)):=(ae.cell (by exact am)).trans <| HX.o 3 (by omega);have x4:wr.cell? (zA w.heap.size 4)=some (zI (Zp 4)):=(ae.cell (by exact am)).trans <| HX.o 4 (by omega);have aq:bY (v≠.slice none 0 0):=bc;have ao:bY (upto (bK Z (Zp 0) n) k<=k+1):=yY _ k;clear bc;by_cases aE:k<n
  ·have az:(k:Int)<(n:Int):=by omega
   obtain ⟨rfl,a4,_⟩:=HR.o k 0 aE (by omega);have c0:=cq5 (fun j hj=>(ae.cell (by exact a4)).trans (HR.o k j aE (by omega)).2.2);rcases Nat.lt_trichotomy k (bK Z (Zp 0) n) with aX | a1 | aR
   ·have hd:decide (bK Z (Zp 0) n<k)=false:=decide_eq_false (by omega);have a7:decide (Zp 0<Z k 0)=false:=bk.o k aX;rw [hd];have aW:bY (k<bK Z (Zp 0) n):=aX;clear aX hd;go_wp2_with fail;go_quiet (fail);go_wp2_with (at_builtin;refine wpList_append_own _ rfl _ _ 33 rfl w1.heap.size 67 i5 (.agg z5.toArray) 5 40 Tryz.underlying33 aD af ag ai rfl (by decide) _ _ _ rfl (ho.alloc _) (zA wr.heap.size 0) 1 1 (aP Z k) rfl rfl (fH _ Z k 67) (dZ Z k) ?d3 ?d4 ?d5 ?_)
    case d3=>have:=ao.o;unfold maxLen;omega
    case d4=>have:=ao.o;omega
    case d5=>simp;omega
    ·intro v' w2 ab al ad;have aa:=(World.grownBy_alloc (wr.drewN nq) _ _).trans al;have ac:wr.grownBy w2 v.ownBlock:=⟨aa.os,aa.tape,aa.output,aa.size,aa.block⟩;clear aa;have HO:bY (w2.ownsRow w1.heap.size 67 5 v' (upto (bK Z (Zp 0) n) (k+1)) ((List.range (upto (bK Z (Zp 0) n) (k+1))).flatMap (aP (dK Z n (Zp 0) Zp)))):=by
      unfold bY;rw [(qQ aW.o).1,(qQ aW.o).2];exact ab
     have ak:bY (v'≠.slice none 0 0):=by
      intro e;have h0:=aq.o;simp [e] at ad
     have av:w1.heap.size<=w2.heap.size:=Hq ap ac.size;have an:Below w1.heap.size w1 w2:=ae.grown ac ap (fun kk e=>(ho.lt kk e).1);clear ab al ad ac ho c0 aq x0 x1 x2 x3 x4;go_wp2;go_roundw
     case rel=>exact ⟨k+1,_,by omega,by go_num,rfl,by have:=aW.o;rw [decide_eq_false (by omega)],ak.o,HO.o,av,an⟩
     case measure=>simp [intOf];omega
   ·have hd:decide (bK Z (Zp 0) n<k)=false:=decide_eq_false (by omega);have a7:decide (Zp 0<Z k 0)=true:=bi.o k a1.symm aE;rw [hd];have aM:bY (k=bK Z (Zp 0) n):=a1;clear a1 hd;go_wp2_with fail;go_quiet (fail);go_wp2_with (at_builtin;refine wpList_append_own _ rfl _ _ 33 rfl w1.heap.size 67 i5 (.agg z5.toArray) 5 40 Tryz.underlying33 aD af ag ai rfl (by decide) _ _ _ rfl (ho.alloc _) (zA wr.heap.size 0) 1 1 (aP (fun _=>Zp) 0) rfl rfl (fH _ (fun _=>Zp) 0 67) (dZ (fun _=>Zp) 0) ?d3 ?d4 ?d5 ?_)
    case d3=>have:=ao.o;unfold maxLen;omega
    case d4=>have:=ao.o;omega
    case d5=>simp;omega
    ·intro v1 w2 ab al ad;have aa:=(World.grownBy_alloc (wr.drewN nq) _ _).trans al;have ac:wr.grownBy w2 v.ownBlock:=⟨aa.os,aa.tape,aa.output,aa.size,aa.block⟩;clear aa;have aL:w2.ownsRow w1.heap.size 67 5 v1 (upto (bK Z (Zp 0) n) k+1) ((List.range (upto (bK Z (Zp 0) n) k)).flatMap (aP (dK Z n (Zp 0) Zp))++aP (fun _=>Zp) 0):=ab;have aw:bY (v1≠.slice none 0 0):=by
      intro e;have h0:=aq.o;simp [e] at ad
     have av:w1.heap.size<=w2.heap.size:=Hq ap ac.size;have an:Below w1.heap.size w1 w2:=ae.grown ac ap (fun kk e=>(ho.lt kk e).1);clear c0;have c0:=cq5 (fun j hj=>(an.cell (by exact a4)).trans (HR.o k j aE (by omega)).2.2);clear ab al ad ac ho aq x0 x1 x2 x3 x4 ae ap a7;go_wp2_with (at_builtin;refine wpList_append_own _ rfl _ _ 33 rfl w1.heap.size 67 i5 (.agg z5.toArray) 5 40 Tryz.underlying33 aD af ag ai rfl (by decide) _ _ _ rfl (aL.alloc _) (zA w2.heap.size 0) 1 1 (aP Z k) rfl rfl (fH _ Z k 67) (dZ Z k) ?d3 ?d4 ?d5 ?_)
     case d3=>have:=ao.o;unfold maxLen;omega
     case d4=>have:=ao.o;omega
     case d5=>simp;omega
     ·intro v' w3 ab be ad;have ac:=(World.grownBy_alloc w2 _ _).trans be;have HO:bY (w3.ownsRow w1.heap.size 67 5 v' (upto (bK Z (Zp 0) n) (k+1)) ((List.range (upto (bK Z (Zp 0) n) (k+1))).flatMap (aP (dK Z n (Zp 0) Zp)))):=by
       unfold bY;rw [(qL aM.o).1,(qL aM.o).2,List.append_assoc];exact ab
      have ak:bY (v'≠.slice none 0 0):=by
       intro e;have h0:=aw.o;simp [e] at ad
      have bh:w1.heap.size<=w3.heap.size:=Hq av ac.size;have bj:Below w1.heap.size w1 w3:=an.grown ac av (fun kk e=>(aL.lt kk e).1);clear ab be ad ac aL c0 aw;go_wp2;go_roundw
      case rel=>exact ⟨k+1,_,by omega,by go_num,rfl,by have:=aM.o;rw [decide_eq_true (by omega)],ak.o,HO.o,bh,bj⟩
      case measure=>simp [intOf];omega
   have hd:decide (bK Z (Zp 0) n<k)=true:=decide_eq_true aR;rw [hd];have aO:bY (bK Z (Zp 0) n<k):=aR;clear aR hd;go_wp2_with fail;go_quiet (fail);go_wp2_with (at_builtin;refine wpList_append_own _ rfl _ _ 33 rfl w1.heap.size 67 i5 (.agg z5.toArray) 5 40 Tryz.underlying33 aD af ag ai rfl (by decide) _ _ _ rfl (ho.alloc _) (zA wr.heap.size 0) 1 1 (aP Z k) rfl rfl (fH _ Z k 67) (dZ Z k) ?d3 ?d4 ?d5 ?_)
   case d3=>have:=ao.o;unfold maxLen;omega
   case d4=>have:=ao.o;omega
   case d5=>simp;omega
   ·intro v' w2 ab al ad;have aa:=(World.grownBy_alloc (wr.drewN nq) _ _).trans al;have ac:wr.grownBy w2 v.ownBlock:=⟨aa.os,aa.tape,aa.output,aa.size,aa.block⟩;clear aa;have HO:bY (w2.ownsRow w1.heap.size 67 5 v' (upto (bK Z (Zp 0) n) (k+1)) ((List.range (upto (bK Z (Zp 0) n) (k+1))).flatMap (aP (dK Z n (Zp 0) Zp)))):=by
     unfold bY;rw [(qU aO.o).1,(qU aO.o).2];exact ab
    have ak:bY (v'≠.slice none 0 0):=by
     intro e;have h0:=aq.o;simp [e] at ad
    have av:w1.heap.size<=w2.heap.size:=Hq ap ac.size;have an:Below w1.heap.size w1 w2:=ae.grown ac ap (fun kk e=>(ho.lt kk e).1);clear ab al ad ac ho c0 aq x0 x1 x2 x3 x4;go_wp2;go_roundw
    case rel=>exact ⟨k+1,_,by omega,by go_num,rfl,by have:=aO.o;rw [decide_eq_true (by omega)],ak.o,HO.o,av,an⟩
    case measure=>simp [intOf];omega
  have az:k=n:=by omega
  subst az;by_cases ar:bK Z (Zp 0) k<k
  ·have hd:decide (bK Z (Zp 0) k<k)=true:=decide_eq_true ar;rw [hd];have HW:bY (wr.ownsRow w.heap.size 67 5 v (k+1) ((List.range (k+1)).flatMap (aP (dK Z k (Zp 0) Zp)))):=by
    have e:upto (bK Z (Zp 0) k) k=k+1:=if_pos ar;rw [e] at ho;exact ownsRow_base ho (Nat.le_of_lt am)
   have aN:Below w.heap.size w wr:=B1.trans (ae.mono (Nat.le_of_lt am));clear ho ar hd;go_wp2;go_ret;exact ⟨_,rfl,HW.o,aN⟩
  have hd:decide (bK Z (Zp 0) k<k)=false:=decide_eq_false ar;rw [hd];have bl:bY (¬ bK Z (Zp 0) k<k):=ar;rw [(oM ar).1] at ho;clear ar hd;go_wp2_with (at_builtin;refine wpList_append_own _ rfl _ _ 33 rfl w1.heap.size 67 i5 (.agg z5.toArray) 5 40 Tryz.underlying33 aD af ag ai rfl (by decide) _ _ _ rfl (ho.alloc _) (zA wr.heap.size 0) 1 1 (aP (fun _=>Zp) 0) rfl rfl (fH _ (fun _=>Zp) 0 67) (dZ (fun _=>Zp) 0) ?d3 ?d4 ?d5 ?_)
  case d3=>unfold maxLen;omega
  case d4=>omega
  case d5=>simp;omega
  ·intro v' w2 ab al ad;have ac:=(World.grownBy_alloc wr _ _).trans al;have HW:bY (w2.ownsRow w.heap.size 67 5 v' (k+1) ((List.range (k+1)).flatMap (aP (dK Z k (Zp 0) Zp)))):=by
    rw [(oM bl.o).2];exact ownsRow_base ab (Nat.le_of_lt am)
   have an:Below w1.heap.size w1 w2:=ae.grown ac ap (fun kk e=>(ho.lt kk e).1);have aN:Below w.heap.size w w2:=B1.trans (an.mono (Nat.le_of_lt am));clear ab al ad ac ho aq x0 x1 x2 x3 x4;go_wp2;go_ret;exact ⟨_,rfl,HW.o,aN⟩
theorem jh (a:Option Addr) (b n ab m:Nat) (Z:Nat->Nat->Int) (Zp:Nat->Int) (hn:n<=1048576) (w:World) (hb:n≠0->b<w.heap.size) (ha:n≠0->a=some (zA b 0)) (aa:dJ Z n) (hm:m<n) (hz:Z m 0=Zp 0) (hr:∀ k j,k<n->j<5->w.cell? (zA b (k * 5+j))=some (zI (Z k j))) :
 Hz 119 #[.slice a n ab,.agg (zF Zp).toArray] w fun e w'=>∃ v,e=.returned v/\w'.ownsRow w.heap.size 67 5 v n ((List.range n).flatMap (aP (dm Z m Zp)))/\Below w.heap.size w w':=by
 have ac:∀ o:Obj,Below w.heap.size w (w.alloc o):=fun o=>(Hr _ _).alloc (Ho _) o;have ae:pK (fG Z m) (n - 1) (Zp 0):=fun j hj e=>by
  unfold fG at e;split at e
  ·have:=aa.one (show j<n by omega) hm (by omega);omega
  have:=aa.one (show j+1<n by omega) hm (by omega);omega
 refine (Dw (.slice a n ab) (n - 1) (fG Z m) Zp (by omega) w aa.del ae (fun ob=>vg (Zp 0) a b n ab m Z hn (w.alloc ob) (fun h=>by have:=hb h;simp;omega) ha hm hz (fun j hj af e=>af (aa.one hj hm (by omega))) (fun k j h1 h2=>((ac ob).cell (p:=⟨b,_,none⟩) (hb (by omega))).trans (hr k j h1 h2)))).mono ?_;rintro e w' ⟨v,rfl,h1,h2⟩;refine ⟨v,rfl,?_,h2⟩;have ad:n - 1+1=n:=by omega
 rw [ad] at h1;have h0:∀ k ∈ List.range n,aP (dK (fG Z m) (n - 1) (Zp 0) Zp) k=aP (dm Z m Zp) k:=fun k hk=>kU (by rw [<-hz];exact Em aa hm k (List.mem_range.1 hk));rw [List.flatMap_def,List.map_congr_left h0,<-List.flatMap_def] at h1;exact h1
