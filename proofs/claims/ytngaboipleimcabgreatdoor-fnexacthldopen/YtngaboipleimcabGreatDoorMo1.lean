/- WlkOut and WlkPut of the model, where one has the number; conditions: the walkers lie in memory. -/
import Derived.Test.YtngaboipleimcabGreatDoorMo3
set_option linter.unusedVariables false
set_option maxHeartbeats 4000000
set_option maxRecDepth 20000
namespace Go.Proofs.YtngaboipleimcabGreatDoor
open Go.RowKit Go.Deep
theorem Md.form {lo:Nat} {Ok:Nat->Prop} {w:World} {v:Value} {V:CV} (h:Md lo Ok w v V):∃ gW cW gO cO gX cX gI cI,v=.agg #[.int .i64 V.c,.slice (some ⟨gW,0,none⟩) V.nW cW,.int .i64 V.g,.slice (some ⟨gO,0,none⟩) V.nO cO,.slice (some ⟨gX,0,none⟩) V.nX cX,.slice (some ⟨gI,0,none⟩) V.nI cI]/\gW<w.heap.size/\(∀ k j,k<V.nW->j<5->w.cell? ⟨gW,k * 5+j,none⟩=some (.int .i64 (V.W k j)))/\lo<=w.heap.size:=by
 obtain ⟨gW,cW,gO,cO,gX,cX,gI,cI,sl,xs,e,⟨hW1,hW2⟩,hO,⟨l1,l2,l3,l4,l5,_⟩,_⟩:=h;exact ⟨gW,cW,gO,cO,gX,cX,gI,cI,e,hW1,hW2,by omega⟩
theorem sD (lo q:Nat) (Ok:Nat->Prop) (v:Value) (V:CV) (P:Nat->Int) (p0:Int) (hq:q<V.nX) (hqO:q<V.nO) (hN:V.N q<=2000000) (hX:-1<=V.X q/\V.X q<=5000) (hX5:¬ V.X q=5000) (hP:P 0=V.X q) (w:World) (h:Md lo Ok w v V) :
 Hz 161 #[v,.int .i64 (q:Int),.agg #[.int .i64 p0,.int .i64 (P 1),.int .i64 (P 2),.int .i64 (P 3),.int .i64 (P 4),.int .i64 (P 5),.int .i64 (P 6),.int .i64 (P 7)]] w fun e w'=>e=.returned (.tuple #[v,.bool true])/\∃ r',w.heap.size<=r'/\r'<=w'.heap.size/\Md lo (fun x=>(Ok x/\x<w.heap.size)∨r'<=x) w' v (V.send q P)/\Fr lo Ok w w':=by
 obtain ⟨gW,cW,gO,cO,gX,cX,gI,cI,rfl,_,_,llo⟩:=h.form;obtain ⟨_,_,_,_,_,_,_,_,⟨_,_,_,ok1,ok2⟩,_⟩:=h.post hqO hq;obtain ⟨u,xq,cq,fq,lO1,lO2,hR,hap0,⟨lX1,lX2,nOX,_,_⟩,cX0,fX0,hset⟩:=(h.in (Ok':=fun x=>(Ok x/\x<w.heap.size)∨w.heap.size+3<=x) (fun x hx ho=>.inl ⟨ho,hx⟩)).post hqO hq;have hap:V.N q≠0->¬ xq=gO/\¬ xq=gX/\lo<=xq/\xq<w.heap.size/\Ok xq:=fun e=>⟨(hap0 e).1,(hap0 e).2.1,(hap0 e).2.2.1,(hap0 e).2.2.2.1,by rcases (hap0 e).2.2.2.2 with h | h;exact h.1;have:=(hap0 e).2.2.2.1;omega⟩
 clear hap0;obtain ⟨ua,uc,rfl,_⟩:=RP.is hR.1;have hq':(q:Int)<V.nX:=by omega
 have hqO':(q:Int)<V.nO:=by omega
 have hx5:(V.X q == 5000)=false:=by simp [hX5]
 have HP:bY (P 0=V.X q):=hP;have HR:bY (qp lo w.heap.size w (.slice ua (V.N q) uc) (V.N q) (V.O q) xq):=hR;have HAP:bY (V.N q≠0->¬ xq=gO/\¬ xq=gX/\lo<=xq/\xq<w.heap.size/\Ok xq):=hap;have HSET:bY _:=hset;have CQ:bY (w.cell? ⟨gO,q,none⟩=some (.slice ua (V.N q) uc)):=cq;have FQ:bY (w.frozen? ⟨gO,q,none⟩=false):=fq;have FX:bY (w.frozen? ⟨gX,q,none⟩=false):=fX0;have CX:bY (w.cell? ⟨gX,q,none⟩=some (.int .i64 (V.X q))):=cX0;clear hP hR hap hset h cq fq hX5 fX0;have lX3:gX<w.heap.size:=by omega
 go_enter Tryz.func161,Tryz.ntmps161;go_upto_region 1 with fail;obtain ⟨w0,e0⟩:∃ w0,w0=((w.alloc (.cells #[.int .i64 V.c,.slice (some ⟨gW,0,none⟩) V.nW cW,.int .i64 V.g,.slice (some ⟨gO,0,none⟩) V.nO cO,.slice (some ⟨gX,0,none⟩) V.nX cX,.slice (some ⟨gI,0,none⟩) V.nI cI] 36)).alloc (.cells #[.int .i64 p0,.int .i64 (P 1),.int .i64 (P 2),.int .i64 (P 3),.int .i64 (P 4),.int .i64 (P 5),.int .i64 (P 6),.int .i64 (P 7)] 69)).alloc (.cells #[.int .i64 0,.slice none 0 0,.int .i64 0,.slice none 0 0,.slice none 0 0,.slice none 0 0] 36):=⟨_,rfl⟩;have hb0:Below w.heap.size w w0:=by rw [e0];exact (((Hr _ _).alloc (Ho _) _).alloc (by simp) _).alloc (by simp;omega) _
 have C0:bY (Bk w0 (w.heap.size) [.int .i64 V.c,.slice (some ⟨gW,0,none⟩) V.nW cW,.int .i64 V.g,.slice (some ⟨gO,0,none⟩) V.nO cO,.slice (some ⟨gX,0,none⟩) V.nX cX,.slice (some ⟨gI,0,none⟩) V.nI cI]):=by rw [e0];exact ((aU w 36 [.int .i64 V.c,.slice (some ⟨gW,0,none⟩) V.nW cW,.int .i64 V.g,.slice (some ⟨gO,0,none⟩) V.nO cO,.slice (some ⟨gX,0,none⟩) V.nX cX,.slice (some ⟨gI,0,none⟩) V.nI cI]).q ((Hr _ _).alloc (Ho _) _)).q ((Hr _ _).alloc (Ho _) _)
 have P0:bY (Bk w0 (w.heap.size+1) [.int .i64 p0,.int .i64 (P 1),.int .i64 (P 2),.int .i64 (P 3),.int .i64 (P 4),.int .i64 (P 5),.int .i64 (P 6),.int .i64 (P 7)]):=by rw [e0];have h:=aU (w.alloc (.cells #[.int .i64 V.c,.slice (some ⟨gW,0,none⟩) V.nW cW,.int .i64 V.g,.slice (some ⟨gO,0,none⟩) V.nO cO,.slice (some ⟨gX,0,none⟩) V.nX cX,.slice (some ⟨gI,0,none⟩) V.nI cI] 36)) 69 [.int .i64 p0,.int .i64 (P 1),.int .i64 (P 2),.int .i64 (P 3),.int .i64 (P 4),.int .i64 (P 5),.int .i64 (P 6),.int .i64 (P 7)];rw [World.size_alloc] at h;exact h.q ((Hr _ _).alloc (Ho _) _)
 have R0:bY (Bk w0 (w.heap.size+1+1) [.int .i64 0,.slice none 0 0,.int .i64 0,.slice none 0 0,.slice none 0 0,.slice none 0 0]):=by rw [e0];have h:=aU ((w.alloc (.cells #[.int .i64 V.c,.slice (some ⟨gW,0,none⟩) V.nW cW,.int .i64 V.g,.slice (some ⟨gO,0,none⟩) V.nO cO,.slice (some ⟨gX,0,none⟩) V.nX cX,.slice (some ⟨gI,0,none⟩) V.nI cI] 36)).alloc (.cells #[.int .i64 p0,.int .i64 (P 1),.int .i64 (P 2),.int .i64 (P 3),.int .i64 (P 4),.int .i64 (P 5),.int .i64 (P 6),.int .i64 (P 7)] 69)) 36 [.int .i64 0,.slice none 0 0,.int .i64 0,.slice none 0 0,.slice none 0 0,.slice none 0 0];rw [World.size_alloc,World.size_alloc] at h;exact h
 rw [<-e0];clear e0;obtain ⟨a0,a1,a2,a3,a4,a5⟩:=C0.o.a6;have la:w.heap.size<w0.heap.size:=C0.o.1;obtain ⟨p0,p1,p2,p3,p4,p5,p6,p7⟩:=P0.o.a8;have lp:w.heap.size+1<w0.heap.size:=P0.o.1;have fp:=P0.o.f8.1;have dX:w0.cell? ⟨gX,q,none⟩=some (.int .i64 (V.X q)):=(hb0.cell (p:=⟨gX,q,none⟩) lX3).trans cX0;have lx0:gX<w0.heap.size:=by omega
 go_upto_region 4 with fail;clear a0 a1 a2 a3 a4 a5 la p0 p1 p2 p3 p4 p5 p6 p7 lp fp dX lx0;obtain ⟨w1,e1⟩:∃ w1,w1=w0.setCell ⟨w.heap.size+1,0,none⟩ (.int .i64 (V.X q)):=⟨_,rfl⟩;rw [<-e1];have C1:bY (Bk w1 (w.heap.size) [.int .i64 V.c,.slice (some ⟨gW,0,none⟩) V.nW cW,.int .i64 V.g,.slice (some ⟨gO,0,none⟩) V.nO cO,.slice (some ⟨gX,0,none⟩) V.nX cX,.slice (some ⟨gI,0,none⟩) V.nI cI]):=by rw [e1];exact C0.o.far (by omega)
 have P1:bY (Bk w1 (w.heap.size+1) [.int .i64 (V.X q),.int .i64 (P 1),.int .i64 (P 2),.int .i64 (P 3),.int .i64 (P 4),.int .i64 (P 5),.int .i64 (P 6),.int .i64 (P 7)]):=by rw [e1];exact P0.o.set (j:=0) (by simp)
 have R1:bY (Bk w1 (w.heap.size+1+1) [.int .i64 0,.slice none 0 0,.int .i64 0,.slice none 0 0,.slice none 0 0,.slice none 0 0]):=by rw [e1];exact R0.o.far (by omega)
 have B1:Below w.heap.size w w1:=by rw [e1];exact hb0.setCell (by show w.heap.size<=w.heap.size+1;omega) _
 clear e1 C0 P0 R0 hb0;have z1:=R1.o.1;have z13:w.heap.size+3<=w1.heap.size:=by omega
 obtain ⟨a0,a1,a2,a3,a4,a5⟩:=C1.o.a6;have la:w.heap.size<w1.heap.size:=C1.o.1;obtain ⟨p0,p1,p2,p3,p4,p5,p6,p7⟩:=P1.o.a8;have lp:w.heap.size+1<w1.heap.size:=P1.o.1;have dq:w1.cell? ⟨gO,q,none⟩=some (.slice ua (V.N q) uc):=(B1.cell (p:=⟨gO,q,none⟩) (by show gO<_;omega)).trans CQ.o;have nx2:V.N q≠0->¬ gO=xq:=fun e e2=>(HAP.o e).1 e2.symm;have nx3:∀ y,w.heap.size<=y->V.N q≠0->¬ y=xq:=fun y hy e e2=>by have:=(HAP.o e).2.2.2.1;omega
 refine Hu (S:=fun w'=>(∀ x o,x<w1.heap.size->¬ x=gO->(V.N q≠0->¬ x=xq)->w'.cell? ⟨x,o,none⟩=w1.cell? ⟨x,o,none⟩)/\w1.heap.size<=w'.heap.size) (by kernel_rfl) ⟨fun _ _ _ _ _=>rfl,Ho _⟩ ?_;intro af;obtain ⟨X0,hX0⟩:∃ X,X=w1.drew:=⟨_,rfl⟩;have B0:Below w1.heap.size w1 X0:=by rw [hX0];exact (Hr _ _).drew
 rw [<-hX0] at af ⊢;clear hX0;have nC:¬ w.heap.size=gO:=by omega
 have nP:¬ w.heap.size+1=gO:=by omega
 refine dY 0 (.pointer (some ⟨w.heap.size,3,none⟩)) rfl ?_ ?_
 ·intro wx hSw;have xa0:=(hSw.1 w.heap.size 0 la nC (nx3 _ (Ho _))).trans a0;have xa1:=(hSw.1 w.heap.size 1 la nC (nx3 _ (Ho _))).trans a1;have xa2:=(hSw.1 w.heap.size 2 la nC (nx3 _ (Ho _))).trans a2;have xa3:=(hSw.1 w.heap.size 3 la nC (nx3 _ (Ho _))).trans a3;have xa4:=(hSw.1 w.heap.size 4 la nC (nx3 _ (Ho _))).trans a4;have xa5:=(hSw.1 w.heap.size 5 la nC (nx3 _ (Ho _))).trans a5;have xp0:=(hSw.1 (w.heap.size+1) 0 lp nP (nx3 _ (Ht _))).trans p0;have xp1:=(hSw.1 (w.heap.size+1) 1 lp nP (nx3 _ (Ht _))).trans p1;have xp2:=(hSw.1 (w.heap.size+1) 2 lp nP (nx3 _ (Ht _))).trans p2;have xp3:=(hSw.1 (w.heap.size+1) 3 lp nP (nx3 _ (Ht _))).trans p3;have xp4:=(hSw.1 (w.heap.size+1) 4 lp nP (nx3 _ (Ht _))).trans p4;have xp5:=(hSw.1 (w.heap.size+1) 5 lp nP (nx3 _ (Ht _))).trans p5;have xp6:=(hSw.1 (w.heap.size+1) 6 lp nP (nx3 _ (Ht _))).trans p6;have xp7:=(hSw.1 (w.heap.size+1) 7 lp nP (nx3 _ (Ht _))).trans p7;have xl1:w.heap.size<wx.heap.size:=Hg la hSw.2;have xl3:w.heap.size+1<wx.heap.size:=Hg lp hSw.2;go_simp
 refine dY 1 (.slice (some ⟨gO,0,none⟩) V.nO cO) rfl ?_ ?_
 ·intro wx hSw;have xa0:=(hSw.1 w.heap.size 0 la nC (nx3 _ (Ho _))).trans a0;have xa1:=(hSw.1 w.heap.size 1 la nC (nx3 _ (Ho _))).trans a1;have xa2:=(hSw.1 w.heap.size 2 la nC (nx3 _ (Ho _))).trans a2;have xa3:=(hSw.1 w.heap.size 3 la nC (nx3 _ (Ho _))).trans a3;have xa4:=(hSw.1 w.heap.size 4 la nC (nx3 _ (Ho _))).trans a4;have xa5:=(hSw.1 w.heap.size 5 la nC (nx3 _ (Ho _))).trans a5;have xp0:=(hSw.1 (w.heap.size+1) 0 lp nP (nx3 _ (Ht _))).trans p0;have xp1:=(hSw.1 (w.heap.size+1) 1 lp nP (nx3 _ (Ht _))).trans p1;have xp2:=(hSw.1 (w.heap.size+1) 2 lp nP (nx3 _ (Ht _))).trans p2;have xp3:=(hSw.1 (w.heap.size+1) 3 lp nP (nx3 _ (Ht _))).trans p3;have xp4:=(hSw.1 (w.heap.size+1) 4 lp nP (nx3 _ (Ht _))).trans p4;have xp5:=(hSw.1 (w.heap.size+1) 5 lp nP (nx3 _ (Ht _))).trans p5;have xp6:=(hSw.1 (w.heap.size+1) 6 lp nP (nx3 _ (Ht _))).trans p6;have xp7:=(hSw.1 (w.heap.size+1) 7 lp nP (nx3 _ (Ht _))).trans p7;have xl1:w.heap.size<wx.heap.size:=Hg la hSw.2;have xl3:w.heap.size+1<wx.heap.size:=Hg lp hSw.2;go_simp
 refine dY 2 (.int .i64 (q:Int)) rfl ?_ ?_
 ·intro wx hSw;have xa0:=(hSw.1 w.heap.size 0 la nC (nx3 _ (Ho _))).trans a0;have xa1:=(hSw.1 w.heap.size 1 la nC (nx3 _ (Ho _))).trans a1;have xa2:=(hSw.1 w.heap.size 2 la nC (nx3 _ (Ho _))).trans a2;have xa3:=(hSw.1 w.heap.size 3 la nC (nx3 _ (Ho _))).trans a3;have xa4:=(hSw.1 w.heap.size 4 la nC (nx3 _ (Ho _))).trans a4;have xa5:=(hSw.1 w.heap.size 5 la nC (nx3 _ (Ho _))).trans a5;have xp0:=(hSw.1 (w.heap.size+1) 0 lp nP (nx3 _ (Ht _))).trans p0;have xp1:=(hSw.1 (w.heap.size+1) 1 lp nP (nx3 _ (Ht _))).trans p1;have xp2:=(hSw.1 (w.heap.size+1) 2 lp nP (nx3 _ (Ht _))).trans p2;have xp3:=(hSw.1 (w.heap.size+1) 3 lp nP (nx3 _ (Ht _))).trans p3;have xp4:=(hSw.1 (w.heap.size+1) 4 lp nP (nx3 _ (Ht _))).trans p4;have xp5:=(hSw.1 (w.heap.size+1) 5 lp nP (nx3 _ (Ht _))).trans p5;have xp6:=(hSw.1 (w.heap.size+1) 6 lp nP (nx3 _ (Ht _))).trans p6;have xp7:=(hSw.1 (w.heap.size+1) 7 lp nP (nx3 _ (Ht _))).trans p7;have xl1:w.heap.size<wx.heap.size:=Hg la hSw.2;have xl3:w.heap.size+1<wx.heap.size:=Hg lp hSw.2;go_simp
 refine dY 3 (.pointer (some ⟨w.heap.size,3,none⟩)) rfl ?_ ?_
 ·intro wx hSw;have xa0:=(hSw.1 w.heap.size 0 la nC (nx3 _ (Ho _))).trans a0;have xa1:=(hSw.1 w.heap.size 1 la nC (nx3 _ (Ho _))).trans a1;have xa2:=(hSw.1 w.heap.size 2 la nC (nx3 _ (Ho _))).trans a2;have xa3:=(hSw.1 w.heap.size 3 la nC (nx3 _ (Ho _))).trans a3;have xa4:=(hSw.1 w.heap.size 4 la nC (nx3 _ (Ho _))).trans a4;have xa5:=(hSw.1 w.heap.size 5 la nC (nx3 _ (Ho _))).trans a5;have xp0:=(hSw.1 (w.heap.size+1) 0 lp nP (nx3 _ (Ht _))).trans p0;have xp1:=(hSw.1 (w.heap.size+1) 1 lp nP (nx3 _ (Ht _))).trans p1;have xp2:=(hSw.1 (w.heap.size+1) 2 lp nP (nx3 _ (Ht _))).trans p2;have xp3:=(hSw.1 (w.heap.size+1) 3 lp nP (nx3 _ (Ht _))).trans p3;have xp4:=(hSw.1 (w.heap.size+1) 4 lp nP (nx3 _ (Ht _))).trans p4;have xp5:=(hSw.1 (w.heap.size+1) 5 lp nP (nx3 _ (Ht _))).trans p5;have xp6:=(hSw.1 (w.heap.size+1) 6 lp nP (nx3 _ (Ht _))).trans p6;have xp7:=(hSw.1 (w.heap.size+1) 7 lp nP (nx3 _ (Ht _))).trans p7;have xl1:w.heap.size<wx.heap.size:=Hg la hSw.2;have xl3:w.heap.size+1<wx.heap.size:=Hg lp hSw.2;go_simp
 refine dY 4 (.slice (some ⟨gO,0,none⟩) V.nO cO) rfl ?_ ?_
 ·intro wx hSw;have xa0:=(hSw.1 w.heap.size 0 la nC (nx3 _ (Ho _))).trans a0;have xa1:=(hSw.1 w.heap.size 1 la nC (nx3 _ (Ho _))).trans a1;have xa2:=(hSw.1 w.heap.size 2 la nC (nx3 _ (Ho _))).trans a2;have xa3:=(hSw.1 w.heap.size 3 la nC (nx3 _ (Ho _))).trans a3;have xa4:=(hSw.1 w.heap.size 4 la nC (nx3 _ (Ho _))).trans a4;have xa5:=(hSw.1 w.heap.size 5 la nC (nx3 _ (Ho _))).trans a5;have xp0:=(hSw.1 (w.heap.size+1) 0 lp nP (nx3 _ (Ht _))).trans p0;have xp1:=(hSw.1 (w.heap.size+1) 1 lp nP (nx3 _ (Ht _))).trans p1;have xp2:=(hSw.1 (w.heap.size+1) 2 lp nP (nx3 _ (Ht _))).trans p2;have xp3:=(hSw.1 (w.heap.size+1) 3 lp nP (nx3 _ (Ht _))).trans p3;have xp4:=(hSw.1 (w.heap.size+1) 4 lp nP (nx3 _ (Ht _))).trans p4;have xp5:=(hSw.1 (w.heap.size+1) 5 lp nP (nx3 _ (Ht _))).trans p5;have xp6:=(hSw.1 (w.heap.size+1) 6 lp nP (nx3 _ (Ht _))).trans p6;have xp7:=(hSw.1 (w.heap.size+1) 7 lp nP (nx3 _ (Ht _))).trans p7;have xl1:w.heap.size<wx.heap.size:=Hg la hSw.2;have xl3:w.heap.size+1<wx.heap.size:=Hg lp hSw.2;go_simp
 refine dY 5 (.int .i64 (q:Int)) rfl ?_ ?_
 ·intro wx hSw;have xa0:=(hSw.1 w.heap.size 0 la nC (nx3 _ (Ho _))).trans a0;have xa1:=(hSw.1 w.heap.size 1 la nC (nx3 _ (Ho _))).trans a1;have xa2:=(hSw.1 w.heap.size 2 la nC (nx3 _ (Ho _))).trans a2;have xa3:=(hSw.1 w.heap.size 3 la nC (nx3 _ (Ho _))).trans a3;have xa4:=(hSw.1 w.heap.size 4 la nC (nx3 _ (Ho _))).trans a4;have xa5:=(hSw.1 w.heap.size 5 la nC (nx3 _ (Ho _))).trans a5;have xp0:=(hSw.1 (w.heap.size+1) 0 lp nP (nx3 _ (Ht _))).trans p0;have xp1:=(hSw.1 (w.heap.size+1) 1 lp nP (nx3 _ (Ht _))).trans p1;have xp2:=(hSw.1 (w.heap.size+1) 2 lp nP (nx3 _ (Ht _))).trans p2;have xp3:=(hSw.1 (w.heap.size+1) 3 lp nP (nx3 _ (Ht _))).trans p3;have xp4:=(hSw.1 (w.heap.size+1) 4 lp nP (nx3 _ (Ht _))).trans p4;have xp5:=(hSw.1 (w.heap.size+1) 5 lp nP (nx3 _ (Ht _))).trans p5;have xp6:=(hSw.1 (w.heap.size+1) 6 lp nP (nx3 _ (Ht _))).trans p6;have xp7:=(hSw.1 (w.heap.size+1) 7 lp nP (nx3 _ (Ht _))).trans p7;have xl1:w.heap.size<wx.heap.size:=Hg la hSw.2;have xl3:w.heap.size+1<wx.heap.size:=Hg lp hSw.2;go_simp
 refine dY 6 (.pointer (some ⟨gO,q,none⟩)) rfl ?_ ?_
 ·intro wx hSw;have xa0:=(hSw.1 w.heap.size 0 la nC (nx3 _ (Ho _))).trans a0;have xa1:=(hSw.1 w.heap.size 1 la nC (nx3 _ (Ho _))).trans a1;have xa2:=(hSw.1 w.heap.size 2 la nC (nx3 _ (Ho _))).trans a2;have xa3:=(hSw.1 w.heap.size 3 la nC (nx3 _ (Ho _))).trans a3;have xa4:=(hSw.1 w.heap.size 4 la nC (nx3 _ (Ho _))).trans a4;have xa5:=(hSw.1 w.heap.size 5 la nC (nx3 _ (Ho _))).trans a5;have xp0:=(hSw.1 (w.heap.size+1) 0 lp nP (nx3 _ (Ht _))).trans p0;have xp1:=(hSw.1 (w.heap.size+1) 1 lp nP (nx3 _ (Ht _))).trans p1;have xp2:=(hSw.1 (w.heap.size+1) 2 lp nP (nx3 _ (Ht _))).trans p2;have xp3:=(hSw.1 (w.heap.size+1) 3 lp nP (nx3 _ (Ht _))).trans p3;have xp4:=(hSw.1 (w.heap.size+1) 4 lp nP (nx3 _ (Ht _))).trans p4;have xp5:=(hSw.1 (w.heap.size+1) 5 lp nP (nx3 _ (Ht _))).trans p5;have xp6:=(hSw.1 (w.heap.size+1) 6 lp nP (nx3 _ (Ht _))).trans p6;have xp7:=(hSw.1 (w.heap.size+1) 7 lp nP (nx3 _ (Ht _))).trans p7;have xl1:w.heap.size<wx.heap.size:=Hg la hSw.2;have xl3:w.heap.size+1<wx.heap.size:=Hg lp hSw.2;go_simp
 refine dY 8 (.agg #[.int .i64 (V.X q),.int .i64 (P 1),.int .i64 (P 2),.int .i64 (P 3),.int .i64 (P 4),.int .i64 (P 5),.int .i64 (P 6),.int .i64 (P 7)]) rfl ?_ ?_
 ·intro wx hSw;have xa0:=(hSw.1 w.heap.size 0 la nC (nx3 _ (Ho _))).trans a0;have xa1:=(hSw.1 w.heap.size 1 la nC (nx3 _ (Ho _))).trans a1;have xa2:=(hSw.1 w.heap.size 2 la nC (nx3 _ (Ho _))).trans a2;have xa3:=(hSw.1 w.heap.size 3 la nC (nx3 _ (Ho _))).trans a3;have xa4:=(hSw.1 w.heap.size 4 la nC (nx3 _ (Ho _))).trans a4;have xa5:=(hSw.1 w.heap.size 5 la nC (nx3 _ (Ho _))).trans a5;have xp0:=(hSw.1 (w.heap.size+1) 0 lp nP (nx3 _ (Ht _))).trans p0;have xp1:=(hSw.1 (w.heap.size+1) 1 lp nP (nx3 _ (Ht _))).trans p1;have xp2:=(hSw.1 (w.heap.size+1) 2 lp nP (nx3 _ (Ht _))).trans p2;have xp3:=(hSw.1 (w.heap.size+1) 3 lp nP (nx3 _ (Ht _))).trans p3;have xp4:=(hSw.1 (w.heap.size+1) 4 lp nP (nx3 _ (Ht _))).trans p4;have xp5:=(hSw.1 (w.heap.size+1) 5 lp nP (nx3 _ (Ht _))).trans p5;have xp6:=(hSw.1 (w.heap.size+1) 6 lp nP (nx3 _ (Ht _))).trans p6;have xp7:=(hSw.1 (w.heap.size+1) 7 lp nP (nx3 _ (Ht _))).trans p7;have xl1:w.heap.size<wx.heap.size:=Hg la hSw.2;have xl3:w.heap.size+1<wx.heap.size:=Hg lp hSw.2;go_simp
 refine y9 [7,9] ?_;refine (AllReadyH.cons rfl (fun K hK=>?_) (AllReadyH.cons rfl (fun K hK=>?_) AllReadyH.nil))
 case' _=>have mk0:=trivial
 all_goals
  first
  | guard_hyp mk0
    have kc:X0.cell? ⟨gO,q,none⟩=some (.slice ua (V.N q) uc):=(B0.cell (p:=⟨gO,q,none⟩) (by show gO<_;omega)).trans dq
    have kl:gO<X0.heap.size:=Hg (by omega) B0.size
    go_simp
    clear kc kl
    refine hK.out _ _ af (fun ai=>?_)
    clear hK K af
    have af:=ai
    clear ai
    try simp only [aT]
    refine di 9 rfl fun K hK=>?_
    go_simp
    obtain ⟨X2,e2⟩:∃ X,X=X0.alloc (.cells #[.int .i64 (V.X q),.int .i64 (P 1),.int .i64 (P 2),.int .i64 (P 3),.int .i64 (P 4),.int .i64 (P 5),.int .i64 (P 6),.int .i64 (P 7)] 69):=⟨_,rfl⟩
    rw [<-e2]
    have hx2:Below X0.heap.size X0 X2:=by rw [e2];exact (Hr _ _).alloc (Ho _) _
    have hnn:bY (∀ j u,(P8.eight (fun _=>P) 0)[j]? = some u->X2.cell? ((⟨X0.heap.size,0,none⟩:Addr).add j)=some u):=by rw [e2];exact nH X0 P (V.X q) HP.o
    clear e2
    have B2:Below w1.heap.size w1 X2:=ah B0 hx2
    have BW:Below w.heap.size w X2:=ah B1 B2
    have z2:=B2.size
    have z3:=BW.size
    have z4:=hx2.size
    have z5:=B0.size
    refine hK.out _ _ ⟨fun x o hx _ hne=>B2.cell (p:=⟨x,o,none⟩) hx,z2⟩ (fun ai=>?_)
  | go_simp
    obtain ⟨X2,e2⟩:∃ X,X=X0.alloc (.cells #[.int .i64 (V.X q),.int .i64 (P 1),.int .i64 (P 2),.int .i64 (P 3),.int .i64 (P 4),.int .i64 (P 5),.int .i64 (P 6),.int .i64 (P 7)] 69):=⟨_,rfl⟩
    rw [<-e2]
    have hx2:Below X0.heap.size X0 X2:=by rw [e2];exact (Hr _ _).alloc (Ho _) _
    have hnn:bY (∀ j u,(P8.eight (fun _=>P) 0)[j]? = some u->X2.cell? ((⟨X0.heap.size,0,none⟩:Addr).add j)=some u):=by rw [e2];exact nH X0 P (V.X q) HP.o
    clear e2
    have B2:Below w1.heap.size w1 X2:=ah B0 hx2
    have BW:Below w.heap.size w X2:=ah B1 B2
    have z2:=B2.size
    have z3:=BW.size
    have z4:=hx2.size
    have z5:=B0.size
    refine hK.out _ _ ⟨fun x o hx _ hne=>B2.cell (p:=⟨x,o,none⟩) hx,z2⟩ (fun ai=>?_)
    clear hK K af
    have af:=ai
    clear ai
    try simp only [aT]
    refine di 7 rfl fun K hK=>?_
    have kc:X2.cell? ⟨gO,q,none⟩=some (.slice ua (V.N q) uc):=(B2.cell (p:=⟨gO,q,none⟩) (by show gO<_;omega)).trans dq
    have kl:gO<X2.heap.size:=Hg (by omega) B2.size
    go_simp
    clear kc kl
    refine hK.out _ _ af (fun ai=>?_)
  clear hK K af
  have af:=ai
  clear ai
  try simp only [aT]
  refine di 10 rfl fun K hK=>?_
  rw [if_pos (by rfl)]
  refine Ej _ _ rfl lo (V.N q) xq _ (V.O q) P rfl (jT.go ⟨HR.o.1,HR.o.2.1⟩ (Ho _) z3 (Ho _) (fun _ _ h=>aj BW h)) (by omega) ⟨X0.heap.size,0,none⟩ 1 rfl hnn.o (by omega) ?_
  rintro v3 X3 g3 ⟨G1,G2,G3,G4,G5⟩
  obtain ⟨va3,vc3,rfl,hva3⟩:=G3.is
  obtain rfl:=hva3 (by omega)
  clear hva3
  refine hK.out _ _ ⟨fun x o hx _ hne=>(World.cell?_of_block (a:=⟨x,o,none⟩) (G2 x (by omega) hne)).trans (B2.cell (p:=⟨x,o,none⟩) hx),by omega⟩ (fun ai=>?_)
  clear hK K af
  have af:=ai
  clear ai
  try simp only [aT]
  refine dY 11 (.pointer (some ⟨gO,q,none⟩)) rfl ?_ ?_
  ·intro wx hSw;have xa0:=(hSw.1 w.heap.size 0 la nC (nx3 _ (Ho _))).trans a0;have xa1:=(hSw.1 w.heap.size 1 la nC (nx3 _ (Ho _))).trans a1;have xa2:=(hSw.1 w.heap.size 2 la nC (nx3 _ (Ho _))).trans a2;have xa3:=(hSw.1 w.heap.size 3 la nC (nx3 _ (Ho _))).trans a3;have xa4:=(hSw.1 w.heap.size 4 la nC (nx3 _ (Ho _))).trans a4;have xa5:=(hSw.1 w.heap.size 5 la nC (nx3 _ (Ho _))).trans a5;have xp0:=(hSw.1 (w.heap.size+1) 0 lp nP (nx3 _ (Ht _))).trans p0;have xp1:=(hSw.1 (w.heap.size+1) 1 lp nP (nx3 _ (Ht _))).trans p1;have xp2:=(hSw.1 (w.heap.size+1) 2 lp nP (nx3 _ (Ht _))).trans p2;have xp3:=(hSw.1 (w.heap.size+1) 3 lp nP (nx3 _ (Ht _))).trans p3;have xp4:=(hSw.1 (w.heap.size+1) 4 lp nP (nx3 _ (Ht _))).trans p4;have xp5:=(hSw.1 (w.heap.size+1) 5 lp nP (nx3 _ (Ht _))).trans p5;have xp6:=(hSw.1 (w.heap.size+1) 6 lp nP (nx3 _ (Ht _))).trans p6;have xp7:=(hSw.1 (w.heap.size+1) 7 lp nP (nx3 _ (Ht _))).trans p7;have xl1:w.heap.size<wx.heap.size:=Hg la hSw.2;have xl3:w.heap.size+1<wx.heap.size:=Hg lp hSw.2;go_simp
  have hsm1:∀ x,x<w1.heap.size->(V.N q≠0->¬ x=xq)->Sm w1 X3 x:=fun x hx hne=>(aj B2 hx).trans (fun o=>⟨World.cell?_of_block (a:=⟨x,o,none⟩) (G2 x (by omega) hne),World.frozen?_of_block (a:=⟨x,o,none⟩) (G2 x (by omega) hne)⟩)
  have hsm:∀ x,x<w.heap.size->(V.N q≠0->¬ x=xq)->Sm w X3 x:=fun x hx hne=>(aj B1 hx).trans (hsm1 x (by omega) hne)
  have hcq:X3.cell? ⟨gO,q,none⟩=some (.slice ua (V.N q) uc):=(hsm gO (by omega) nx2 q).1.trans CQ.o
  have hfq:X3.frozen? ⟨gO,q,none⟩=false:=(hsm gO (by omega) nx2 q).2.trans FQ.o
  have lg3:gO<X3.heap.size:=by omega
  refine di 12 rfl fun K hK=>?_
  go_simp
  obtain ⟨X4,e4⟩:∃ X,X=X3.setCell ⟨gO,q,none⟩ (.slice (some ⟨g3,0,none⟩) (V.N q+1) vc3):=⟨_,rfl⟩
  have zz:X4.heap.size=X3.heap.size:=by rw [e4];exact ay
  have M34:bY (∀ x,¬ x=gO->Sm X3 X4 x):=fun x hx=>by rw [e4];exact cZ hx
  have K4:bY (∀ j,X4.cell? ⟨gO,j,none⟩=(if j=q then some (.slice (some ⟨g3,0,none⟩) (V.N q+1) vc3) else X3.cell? ⟨gO,j,none⟩)/\X4.frozen? ⟨gO,j,none⟩=X3.frozen? ⟨gO,j,none⟩):=fun j=>by
   rw [e4,aB];refine ⟨?_,rfl⟩;by_cases e:j=q
   ·subst e;rw [if_pos rfl];exact fP (by rw [hcq];rfl)
   rw [if_neg e];exact aJ (fun e2=>e e2.2.symm)
  rw [<-e4]
  refine hK.out _ _ ⟨fun x o hx h1 hne=>by rw [e4,aJ (fun e=>h1 e.1.symm)];exact (World.cell?_of_block (a:=⟨x,o,none⟩) (G2 x (by omega) hne)).trans (B2.cell (p:=⟨x,o,none⟩) hx),by rw [e4,ay];omega⟩ (fun ai=>?_)
  clear hK K af
  have af:=ai
  clear ai
  try simp only [aT]
  refine Hy (by kernel_rfl) ?_ _
  have M13:bY (∀ x,x<w1.heap.size->(V.N q≠0->¬ x=xq)->Sm w1 X3 x):=hsm1
  have hxq:∀ x,w.heap.size<=x->V.N q≠0->¬ x=xq:=nx3
  have hXq:V.N q≠0->¬ gX=xq:=fun e e2=>(HAP.o e).2.1 e2.symm
  have C4:bY (Bk X4 w.heap.size _):=C1.o.sm (by omega) ((M13.o _ la (hxq _ (Ho _))).trans (M34.o _ nC))
  have R4:bY (Bk X4 (w.heap.size+1+1) _):=R1.o.sm (by omega) ((M13.o _ z1 (hxq _ (by omega))).trans (M34.o _ (by omega)))
  have z6:w1.heap.size<=X4.heap.size:=by omega
  have zX2:w1.heap.size<=X2.heap.size:=z2
  have HG3:bY (jT lo X3.heap.size X3 (.slice (some ⟨g3,0,none⟩) (V.N q+1) vc3) (V.N q+1) (dm (V.O q) (V.N q) P) g3):=G3
  have HG4:bY ((V.N q≠0/\g3=xq)∨X2.heap.size<=g3):=G4
  have HG5:bY (Below lo w X4):=by rw [e4];exact ((BW.mono (by omega)).trans G5.1).setCell (by show lo<=gO;omega) _
  have HB1:bY (Below w.heap.size w w1):=B1
  have eX:X4.cell? ⟨gX,q,none⟩=some (.int .i64 (V.X q)):=((M34.o gX (fun e=>nOX e.symm) q).1.trans (M13.o gX (by omega) hXq q).1).trans ((B1.cell (p:=⟨gX,q,none⟩) lX3).trans CX.o)
  have fX:X4.frozen? ⟨gX,q,none⟩=false:=((M34.o gX (fun e=>nOX e.symm) q).2.trans (M13.o gX (by omega) hXq q).2).trans ((B1.frozen (p:=⟨gX,q,none⟩) lX3).trans FX.o)
  have lx4:gX<X4.heap.size:=by omega
  clear af e4 hcq hfq lg3 hsm hsm1 G1 G2 G3 G4 G5 B2 BW hnn B0 HR dq C1 P1 R1 hx2 z2 z3 z4 z5 cX0 a0 a1 a2 a3 a4 a5 la p0 p1 p2 p3 p4 p5 p6 p7 lp
  have a0:X4.cell? ⟨w.heap.size,0,none⟩=some (.int .i64 V.c):=(C4.o.2 0 (by simp)).1
  have a1:X4.cell? ⟨w.heap.size,1,none⟩=some (.slice (some ⟨gW,0,none⟩) V.nW cW):=(C4.o.2 1 (by simp)).1
  have a2:X4.cell? ⟨w.heap.size,2,none⟩=some (.int .i64 V.g):=(C4.o.2 2 (by simp)).1
  have a3:X4.cell? ⟨w.heap.size,3,none⟩=some (.slice (some ⟨gO,0,none⟩) V.nO cO):=(C4.o.2 3 (by simp)).1
  have a4:X4.cell? ⟨w.heap.size,4,none⟩=some (.slice (some ⟨gX,0,none⟩) V.nX cX):=(C4.o.2 4 (by simp)).1
  have a5:X4.cell? ⟨w.heap.size,5,none⟩=some (.slice (some ⟨gI,0,none⟩) V.nI cI):=(C4.o.2 5 (by simp)).1
  have la:w.heap.size<X4.heap.size:=C4.o.1
  have n1:¬ gX=w.heap.size:=by omega
  have n2:¬ w.heap.size=gX:=by omega
  go_wp2
  go_region
  obtain ⟨X5,e5⟩:∃ X,X=(X4.setCell ⟨gX,q,none⟩ (.int .i64 (V.X q+1))).drew:=⟨_,rfl⟩
  rw [<-e5]
  have HB5:bY (Below lo w X5):=by rw [e5];exact (HG5.o.setCell (by show lo<=gX;omega) _).drew
  have z5:X5.heap.size=X4.heap.size:=by rw [e5];exact ay
  have M45:bY (∀ x,¬ x=gX->Sm X4 X5 x):=fun x hx=>by rw [e5];exact cZ hx
  have K5:bY (∀ j,X5.cell? ⟨gX,j,none⟩=(if j=q then some (.int .i64 (V.X q+1)) else X4.cell? ⟨gX,j,none⟩)/\X5.frozen? ⟨gX,j,none⟩=X4.frozen? ⟨gX,j,none⟩):=fun j=>by
   rw [e5];refine ⟨?_,aB⟩;by_cases e:j=q
   ·subst e;rw [if_pos rfl];exact fP (by rw [eX];rfl)
   rw [if_neg e];exact aJ (fun e2=>e e2.2.symm)
  have C5:=fQ (C4.o.sm (W':=X5) (by omega) (M45.o _ (by omega)))
  have R5:=fQ (R4.o.sm (W':=X5) (by omega) (M45.o _ (by omega)))
  clear e5 eX fX lx4 n1 n2 C4 R4 a0 a1 a2 a3 a4 a5 la
  have a0:X5.cell? ⟨w.heap.size,0,none⟩=some (.int .i64 V.c):=(C5.o.2 0 (by simp)).1
  have a1:X5.cell? ⟨w.heap.size,1,none⟩=some (.slice (some ⟨gW,0,none⟩) V.nW cW):=(C5.o.2 1 (by simp)).1
  have a2:X5.cell? ⟨w.heap.size,2,none⟩=some (.int .i64 V.g):=(C5.o.2 2 (by simp)).1
  have a3:X5.cell? ⟨w.heap.size,3,none⟩=some (.slice (some ⟨gO,0,none⟩) V.nO cO):=(C5.o.2 3 (by simp)).1
  have a4:X5.cell? ⟨w.heap.size,4,none⟩=some (.slice (some ⟨gX,0,none⟩) V.nX cX):=(C5.o.2 4 (by simp)).1
  have a5:X5.cell? ⟨w.heap.size,5,none⟩=some (.slice (some ⟨gI,0,none⟩) V.nI cI):=(C5.o.2 5 (by simp)).1
  have la:w.heap.size<X5.heap.size:=C5.o.1
  have r0:X5.cell? ⟨w.heap.size+1+1,0,none⟩=some (.int .i64 0):=(R5.o.2 0 (by simp)).1
  have r1:X5.cell? ⟨w.heap.size+1+1,1,none⟩=some (.slice none 0 0):=(R5.o.2 1 (by simp)).1
  have r2:X5.cell? ⟨w.heap.size+1+1,2,none⟩=some (.int .i64 0):=(R5.o.2 2 (by simp)).1
  have r3:X5.cell? ⟨w.heap.size+1+1,3,none⟩=some (.slice none 0 0):=(R5.o.2 3 (by simp)).1
  have r4:X5.cell? ⟨w.heap.size+1+1,4,none⟩=some (.slice none 0 0):=(R5.o.2 4 (by simp)).1
  have r5:X5.cell? ⟨w.heap.size+1+1,5,none⟩=some (.slice none 0 0):=(R5.o.2 5 (by simp)).1
  have q0:X5.frozen? ⟨w.heap.size+1+1,0,none⟩=false:=(R5.o.2 0 (by simp)).2
  have q1:X5.frozen? ⟨w.heap.size+1+1,1,none⟩=false:=(R5.o.2 1 (by simp)).2
  have q2:X5.frozen? ⟨w.heap.size+1+1,2,none⟩=false:=(R5.o.2 2 (by simp)).2
  have q3:X5.frozen? ⟨w.heap.size+1+1,3,none⟩=false:=(R5.o.2 3 (by simp)).2
  have q4:X5.frozen? ⟨w.heap.size+1+1,4,none⟩=false:=(R5.o.2 4 (by simp)).2
  have q5:X5.frozen? ⟨w.heap.size+1+1,5,none⟩=false:=(R5.o.2 5 (by simp)).2
  have lr:w.heap.size+1+1<X5.heap.size:=R5.o.1
  go_wp2
  refine Hw (v:=.tuple #[.agg #[.int .i64 V.c,.slice (some ⟨gW,0,none⟩) V.nW cW,.int .i64 V.g,.slice (some ⟨gO,0,none⟩) V.nO cO,.slice (some ⟨gX,0,none⟩) V.nX cX,.slice (some ⟨gI,0,none⟩) V.nI cI],.bool true]) (by simp [results,Tryz.results161,go_sem,r0,r1,r2,r3,r4,r5]) rfl ?_
  have hzz:=au X5 (w.heap.size+1+1) (.int .i64 V.c) (.slice (some ⟨gW,0,none⟩) V.nW cW) (.int .i64 V.g) (.slice (some ⟨gO,0,none⟩) V.nO cO) (.slice (some ⟨gX,0,none⟩) V.nX cX) (.slice (some ⟨gI,0,none⟩) V.nI cI)
  have MP:∀ x,¬ x=w.heap.size+1+1->Sm X5 (aG X5 (w.heap.size+1+1) (.int .i64 V.c) (.slice (some ⟨gW,0,none⟩) V.nW cW) (.int .i64 V.g) (.slice (some ⟨gO,0,none⟩) V.nO cO) (.slice (some ⟨gX,0,none⟩) V.nX cX) (.slice (some ⟨gI,0,none⟩) V.nI cI)) x:=fun x hx=>aH (fun e=>hx e.symm) (.int .i64 V.c) (.slice (some ⟨gW,0,none⟩) V.nW cW) (.int .i64 V.g) (.slice (some ⟨gO,0,none⟩) V.nO cO) (.slice (some ⟨gX,0,none⟩) V.nX cX) (.slice (some ⟨gI,0,none⟩) V.nI cI)
  have MA:∀ x,x<w.heap.size->¬ x=gO->¬ x=gX->(V.N q≠0->¬ x=xq)->Sm w (aG X5 (w.heap.size+1+1) (.int .i64 V.c) (.slice (some ⟨gW,0,none⟩) V.nW cW) (.int .i64 V.g) (.slice (some ⟨gO,0,none⟩) V.nO cO) (.slice (some ⟨gX,0,none⟩) V.nX cX) (.slice (some ⟨gI,0,none⟩) V.nI cI)) x:=fun x h1 h2 h3 h4=>((((aj HB1.o h1).trans (M13.o x (by omega) h4)).trans (M34.o x h2)).trans (M45.o x h3)).trans (MP x (by omega))
  refine ⟨rfl,w.heap.size+3,by omega,?_,?_,?_,?_,?_⟩
  ·show _<=(aG _ _ _ _ _ _ _ _).heap.size
   omega
  ·show Md lo _ (aG X5 (w.heap.size+1+1) (.int .i64 V.c) (.slice (some ⟨gW,0,none⟩) V.nW cW) (.int .i64 V.g) (.slice (some ⟨gO,0,none⟩) V.nO cO) (.slice (some ⟨gX,0,none⟩) V.nX cX) (.slice (some ⟨gI,0,none⟩) V.nI cI)) _ _
   refine HSET.o _ (.slice (some ⟨g3,0,none⟩) (V.N q+1) vc3) (V.X q+1) (dm (V.O q) (V.N q) P) g3 (by omega) (fun x h1 _ h2 h3 h4=>MA x h1 h2 h3 h4) (fun j=>?_) (fun j=>?_) ?_ (by rcases HG4.o with h | h;exact .inl h;exact .inr ⟨by omega,.inr (by omega)⟩)
   ·rw [(MP gO (by omega) j).1,(MP gO (by omega) j).2,(M45.o gO nOX j).1,(M45.o gO nOX j).2,(K4.o j).1,(K4.o j).2,(M13.o gO (by omega) nx2 j).1,(M13.o gO (by omega) nx2 j).2,(aj HB1.o (b:=gO) (by omega) j).1,(aj HB1.o (b:=gO) (by omega) j).2];exact ⟨rfl,rfl⟩
   ·rw [(MP gX (by omega) j).1,(MP gX (by omega) j).2,(K5.o j).1,(K5.o j).2,(M34.o gX (fun e=>nOX e.symm) j).1,(M34.o gX (fun e=>nOX e.symm) j).2,(M13.o gX (by omega) hXq j).1,(M13.o gX (by omega) hXq j).2,(aj HB1.o (b:=gX) (by omega) j).1,(aj HB1.o (b:=gX) (by omega) j).2];exact ⟨rfl,rfl⟩
   have g1:¬ g3=gO:=by rcases HG4.o with ⟨h,e⟩ | h;rw [e];exact (HAP.o h).1;omega
   have g2:¬ g3=gX:=by rcases HG4.o with ⟨h,e⟩ | h;rw [e];exact (HAP.o h).2.1;omega
   have g4:¬ g3=w.heap.size+1+1:=by rcases HG4.o with ⟨h,e⟩ | h;rw [e];have:=(HAP.o h).2.2.2.1;omega;omega
   have hR6:=HG3.o.go (Ho _) (show X3.heap.size<=_ by omega) (Ho _) (fun _ _ _=>((M34.o g3 g1).trans (M45.o g3 g2)).trans (MP g3 g4));exact ⟨hR6.1,hR6.2,g3,_,_,rfl,(hR6.in (by omega)).2⟩
  ·exact ax HB5.o (by omega) _ _ _ _ _ _
  ·show _<=(aG _ _ _ _ _ _ _ _).heap.size
   omega
  exact fun x h1 h2=>MA x h1 (fun e=>h2 (by rw [e];exact ok1)) (fun e=>h2 (by rw [e];exact ok2)) (fun e e2=>h2 (by rw [e2];exact (HAP.o e).2.2.2.2))
theorem uM (lo q:Nat) (Ok:Nat->Prop) (v:Value) (V:CV) (P:Nat->Int) (p0:Int) (hq:q<V.nX) (hqO:q<V.nO) (hX5:V.X q=5000) (w:World) (h:Md lo Ok w v V) :
 Hz 161 #[v,.int .i64 (q:Int),.agg #[.int .i64 p0,.int .i64 (P 1),.int .i64 (P 2),.int .i64 (P 3),.int .i64 (P 4),.int .i64 (P 5),.int .i64 (P 6),.int .i64 (P 7)]] w fun e w'=>e=.returned (.tuple #[v,.bool false])/\Below w.heap.size w w':=by
 obtain ⟨gW,cW,gO,cO,gX,cX,gI,cI,rfl,_,_,llo⟩:=h.form;obtain ⟨_,_,_,_,_,_,_,_,⟨lX1,lX2,_,_,_⟩,cX0,fX0,_⟩:=h.post (q:=q) hqO hq;have hq':(q:Int)<V.nX:=by omega
 have hx5:(V.X q == 5000)=true:=by simp [hX5]
 clear hX5 h;have lX3:gX<w.heap.size:=by omega
 go_enter Tryz.func161,Tryz.ntmps161;go_upto_region 1 with fail;obtain ⟨w0,e0⟩:∃ w0,w0=((w.alloc (.cells #[.int .i64 V.c,.slice (some ⟨gW,0,none⟩) V.nW cW,.int .i64 V.g,.slice (some ⟨gO,0,none⟩) V.nO cO,.slice (some ⟨gX,0,none⟩) V.nX cX,.slice (some ⟨gI,0,none⟩) V.nI cI] 36)).alloc (.cells #[.int .i64 p0,.int .i64 (P 1),.int .i64 (P 2),.int .i64 (P 3),.int .i64 (P 4),.int .i64 (P 5),.int .i64 (P 6),.int .i64 (P 7)] 69)).alloc (.cells #[.int .i64 0,.slice none 0 0,.int .i64 0,.slice none 0 0,.slice none 0 0,.slice none 0 0] 36):=⟨_,rfl⟩;have hb0:Below w.heap.size w w0:=by rw [e0];exact (((Hr _ _).alloc (Ho _) _).alloc (by simp) _).alloc (by simp;omega) _
 have C0:bY (Bk w0 (w.heap.size) [.int .i64 V.c,.slice (some ⟨gW,0,none⟩) V.nW cW,.int .i64 V.g,.slice (some ⟨gO,0,none⟩) V.nO cO,.slice (some ⟨gX,0,none⟩) V.nX cX,.slice (some ⟨gI,0,none⟩) V.nI cI]):=by rw [e0];exact ((aU w 36 [.int .i64 V.c,.slice (some ⟨gW,0,none⟩) V.nW cW,.int .i64 V.g,.slice (some ⟨gO,0,none⟩) V.nO cO,.slice (some ⟨gX,0,none⟩) V.nX cX,.slice (some ⟨gI,0,none⟩) V.nI cI]).q ((Hr _ _).alloc (Ho _) _)).q ((Hr _ _).alloc (Ho _) _)
 have R0:bY (Bk w0 (w.heap.size+1+1) [.int .i64 0,.slice none 0 0,.int .i64 0,.slice none 0 0,.slice none 0 0,.slice none 0 0]):=by rw [e0];have h:=aU ((w.alloc (.cells #[.int .i64 V.c,.slice (some ⟨gW,0,none⟩) V.nW cW,.int .i64 V.g,.slice (some ⟨gO,0,none⟩) V.nO cO,.slice (some ⟨gX,0,none⟩) V.nX cX,.slice (some ⟨gI,0,none⟩) V.nI cI] 36)).alloc (.cells #[.int .i64 p0,.int .i64 (P 1),.int .i64 (P 2),.int .i64 (P 3),.int .i64 (P 4),.int .i64 (P 5),.int .i64 (P 6),.int .i64 (P 7)] 69)) 36 [.int .i64 0,.slice none 0 0,.int .i64 0,.slice none 0 0,.slice none 0 0,.slice none 0 0];rw [World.size_alloc,World.size_alloc] at h;exact h
 rw [<-e0];clear e0;have a0:=C0.o.a6;have la:w.heap.size<w0.heap.size:=C0.o.1;obtain ⟨r0,r1,r2,r3,r4,r5⟩:=R0.o.a6;have q0:=R0.o.f6;have lr:w.heap.size+1+1<w0.heap.size:=R0.o.1;have dX:w0.cell? ⟨gX,q,none⟩=some (.int .i64 (V.X q)):=(hb0.cell (p:=⟨gX,q,none⟩) lX3).trans cX0;have lx0:gX<w0.heap.size:=by omega
 clear cX0;go_wp2;refine Hw (v:=.tuple #[.agg #[.int .i64 V.c,.slice (some ⟨gW,0,none⟩) V.nW cW,.int .i64 V.g,.slice (some ⟨gO,0,none⟩) V.nO cO,.slice (some ⟨gX,0,none⟩) V.nX cX,.slice (some ⟨gI,0,none⟩) V.nI cI],.bool false]) (by simp [results,Tryz.results161,go_sem,r0,r1,r2,r3,r4,r5]) rfl ?_;exact ⟨rfl,ax hb0 (by omega) _ _ _ _ _ _⟩
def cnt (m k:Nat):Nat:=if m<k then k - 1 else k
theorem BJ (m:Nat):cnt m 0=0:=by simp [cnt]
theorem cnt_le (m k:Nat):cnt m k<=k:=by unfold cnt;split <;> omega
theorem CS {m k:Nat} (h:k=m):cnt m (k+1)=cnt m k:=by subst h;simp [cnt]
theorem cnt_end {m n:Nat} (h:m<n):cnt m n=n - 1:=by simp [cnt,h]
theorem vG {Z:Nat->Nat->Int} {m k:Nat} (h:¬ k=m):cnt m (k+1)=cnt m k+1/\(List.range (cnt m k+1)).flatMap (aP (fG Z m))=(List.range (cnt m k)).flatMap (aP (fG Z m))++aP Z k:=by
 refine ⟨by unfold cnt;split <;> split <;> omega,?_⟩;rw [iU];congr 1;unfold cnt fG aP;by_cases e:m<k
 ·simp only [if_pos e];rw [if_neg (show ¬ k - 1<m by omega),show k - 1+1=k by omega]
 simp only [if_neg e];rw [if_pos (show k<m by omega)]
theorem vg (z:Int) (a:Option Addr) (b n cap m:Nat) (Z:Nat->Nat->Int) (hn:n<=1048576) (w:World) (hb:n≠0->b<w.heap.size) (ha:n≠0->a=some (zA b 0)) (hm:m<n) (hz:Z m 0=z) (hF:∀ j,j<n->¬ j=m->¬ Z j 0=z) (hr:∀ k j,k<n->j<5->w.cell? (zA b (k * 5+j))=some (zI (Z k j))) :
 Hz 141 #[.slice a n cap,zI z] w fun e w'=>∃ v,e=.returned v/\v≠.slice none 0 0/\w'.ownsRow w.heap.size 67 5 v (n - 1) ((List.range (n - 1)).flatMap (aP (fG Z m)))/\Below w.heap.size w w':=by
 have HR:bY (∀ k j,k<n->j<5->w.cell? (zA b (k * 5+j))=some (zI (Z k j))):=hr;have HA:bY (n≠0->a=some (zA b 0)):=ha;have HB:bY (n≠0->b<w.heap.size):=hb;have HM:bY (∀ j,j<n->¬ j=m->¬ Z j 0=z):=hF;have HZ:bY (Z m 0=z):=hz;clear hr ha hb hF hz;obtain ⟨i5,hi5,hz50,hz51,hz52⟩:=info5;go_enter Tryz.func141,Tryz.ntmps141;go_wp2;go_loopw [5,6] (fun s i wr=>∃ (k:Nat) (v:Value),k<=n/\zI k=i/\v=s/\v≠.slice none 0 0/\wr.ownsRow w.heap.size 67 5 v (cnt m k) ((List.range (cnt m k)).flatMap (aP (fG Z m)))/\w.heap.size<=wr.heap.size/\Below w.heap.size w wr) (fun _ i _=>n - (intOf i).toNat)
 case atStart=>exact ⟨0,_,Nat.zero_le _,rfl,rfl,by simp,by rw [BJ];exact World.ownsRow_lit w #[] 0 (Ho _) (by simp) (by simp),by simp,(Hr _ _).alloc (by simp) _⟩
 case round =>
  obtain ⟨k,v,hk,rfl,rfl,hnn,ho,hsz,hbel⟩:=hrel;by_cases hkn:k<n
  ·have hkn':(k:Int)<(n:Int):=by omega
   obtain rfl:=HA.o (by omega);have hb:=HB.o (by omega);have c0:=cq5 (fun j hj=>(hbel.cell (by exact hb)).trans (HR.o k j hkn (by omega)));by_cases hkm:k=m
   ·have ez:(Z k 0 == z)=true:=by rw [hkm];simpa using HZ.o
    have HO:bY (wr.ownsRow w.heap.size 67 5 v (cnt m (k+1)) ((List.range (cnt m (k+1))).flatMap (aP (fG Z m)))):=by rw [CS hkm];exact ho
    have HNN:bY (v≠.slice none 0 0):=hnn;clear hnn HA HB ho hkm;go_wp2;go_roundw
    case rel=>exact ⟨k+1,_,by omega,by go_num,rfl,HNN.o,HO.o,hsz,hbel⟩
    case measure=>simp [intOf];omega
   skip;have ez:(Z k 0 == z)=false:=by simpa using HM.o k hkn hkm
   have hcb:=cnt_le m k;have HCN:bY (¬ k=m):=hkm;clear hkm;have HNN:bY (v≠.slice none 0 0):=hnn;clear hnn HA HB;go_wp2_with (at_builtin;refine wpList_append_own _ rfl _ _ 33 rfl w.heap.size 67 i5 (.agg z5.toArray) 5 40 Tryz.underlying33 hi5 hz50 hz51 hz52 rfl (by decide) _ _ _ rfl (ho.alloc _) (zA wr.heap.size 0) 1 1 (aP Z k) rfl rfl (fH _ Z k 67) (dZ Z k) ?d3 ?d4 ?d5 ?_)
   case d3=>unfold maxLen;omega
   case d4=>omega
   case d5=>simp;omega
   ·intro v' w2 hown' hg2 hnil;have hall:=(World.grownBy_alloc wr _ _).trans hg2;have HO:bY (w2.ownsRow w.heap.size 67 5 v' (cnt m (k+1)) ((List.range (cnt m (k+1))).flatMap (aP (fG Z m)))):=by
     unfold bY;rw [(vG (Z:=Z) HCN.o).1,(vG (Z:=Z) HCN.o).2];exact hown'
    have HNN':bY (v'≠.slice none 0 0):=hnil;have hs2:w.heap.size<=w2.heap.size:=Hq hsz hall.size;have hb2:Below w.heap.size w w2:=hbel.grown hall hsz (fun kk e=>(ho.lt kk e).1);clear hown' hg2 hnil hall ho c0 HNN;go_wp2;go_roundw
    case rel=>exact ⟨k+1,_,by omega,by go_num,rfl,HNN'.o,HO.o,hs2,hb2⟩
    case measure=>simp [intOf];omega
  have hkn':k=n:=by omega
  subst hkn';have HO:bY (wr.ownsRow w.heap.size 67 5 v (k - 1) ((List.range (k - 1)).flatMap (aP (fG Z m)))):=by rw [<-cnt_end hm];exact ho
  have HNN:bY (v≠.slice none 0 0):=hnn;clear ho hnn HA;go_wp2;go_ret;exact ⟨_,rfl,HNN.o,HO.o,hbel⟩
theorem Dw (vl:Value) (n:Nat) (Z:Nat->Nat->Int) (Zp:Nat->Int) (hn:n+1<=1048576) (w:World) (hup:∀ i j,i<j->j<n->Z i 0<Z j 0) (hF:pK Z n (Zp 0)) (HC0:∀ ob:Obj,Hz 141 #[vl,zI (Zp 0)] (w.alloc ob) fun e w'=>∃ v,e=.returned v/\v≠.slice none 0 0/\w'.ownsRow (w.alloc ob).heap.size 67 5 v n ((List.range n).flatMap (aP Z))/\Below (w.alloc ob).heap.size (w.alloc ob) w') :
 Hz 119 #[vl,.agg (zF Zp).toArray] w fun e w'=>∃ v,e=.returned v/\w'.ownsRow w.heap.size 67 5 v (n+1) ((List.range (n+1)).flatMap (aP (dK Z n (Zp 0) Zp)))/\Below w.heap.size w w':=by
 obtain ⟨i5,hi5,hz50,hz51,hz52⟩:=info5;have HB0:bY (∀ o:Obj,Below w.heap.size w (w.alloc o)):=fun o=>(Hr _ _).alloc (Ho _) o;have HC:bY (∀ ob:Obj,Hz 141 #[vl,zI (Zp 0)] (w.alloc ob) fun e w'=>∃ v,e=.returned v/\v≠.slice none 0 0/\w'.ownsRow (w.alloc ob).heap.size 67 5 v n ((List.range n).flatMap (aP Z))/\Below (w.alloc ob).heap.size (w.alloc ob) w'):=HC0;have HLO:bY (∀ k,k<bK Z (Zp 0) n->decide (Zp 0<Z k 0)=false):=fun k hk=>decide_eq_false (by have:=oN Z (Zp 0) n hup k hk;omega);have HHI:bY (∀ k,bK Z (Zp 0) n=k->k<n->decide (Zp 0<Z k 0)=true):=fun k h1 h2=>decide_eq_true (by have:=oJ Z (Zp 0) n k (by omega) h2;have:=hF k h2;omega);have HPL:bY (bK Z (Zp 0) n<=n):=jU Z (Zp 0) n;clear hup hF HC0;go_enter Tryz.func119,Tryz.ntmps119;go_wp2_with fail;refine (HC.o _).mono ?_;rintro e w1 ⟨v,rfl,hnv,hW,hb1⟩
 have HX:bY (∀ j,j<5->w1.cell? (zA w.heap.size j)=some (zI (Zp j))):=fun j hj=>(hb1.cell (p:=(zA w.heap.size j)) (by simp)).trans (by
  have:j=0∨j=1∨j=2∨j=3∨j=4:=by omega
  rcases this with rfl | rfl | rfl | rfl | rfl <;> simp)
 have hs1:w.heap.size<w1.heap.size:=by have:=hb1.size;simp at this;omega
 have B1:Below w.heap.size w w1:=(HB0.o _).trans (hb1.mono (by simp));obtain ⟨g,hRW,_⟩:=gZ hW;obtain ⟨g0,c,hv⟩:∃ g0 c,v=.slice (some g0) n c:=by
  rcases hRW with ⟨rfl,a,c,rfl⟩ | ⟨c,rfl,_⟩
  ·rcases hW.2 with ⟨e,_⟩ | ⟨g,c,_,e,_⟩
   ·exact absurd e hnv
   exact ⟨_,_,e⟩
  exact ⟨_,_,rfl⟩
 subst hv;have HR:bY (∀ k j,k<n->j<5->g0=(zA g 0)/\g<w1.heap.size/\w1.cell? (zA g (k * 5+j))=some (zI (Z k j))):=fun k j hk hj=>by
  rcases hRW with ⟨e,_⟩ | ⟨c',e,_,h2,h3,h4⟩
  ·omega
  simp only [Value.slice.injEq,Option.some.injEq,true_and] at e;exact ⟨e.1,by omega,h4.2 k j hk hj⟩
 clear hW hb1 HC HB0 hRW hnv;go_wp2;go_loopw [6,7,8] (fun s d i wr=>∃ (k:Nat) (v:Value),k<=n/\zI k=i/\v=s/\.bool (decide (bK Z (Zp 0) n<k))=d/\v≠.slice none 0 0/\wr.ownsRow w1.heap.size 67 5 v (upto (bK Z (Zp 0) n) k) ((List.range (upto (bK Z (Zp 0) n) k)).flatMap (aP (dK Z n (Zp 0) Zp)))/\w1.heap.size<=wr.heap.size/\Below w1.heap.size w1 wr) (fun _ _ i _=>n - (intOf i).toNat)
 case atStart=>exact ⟨0,_,Nat.zero_le _,rfl,rfl,by simp,by simp,World.ownsRow_lit w1 #[] 0 (Ho _) (by simp) (by simp),by simp,(Hr _ _).alloc (by simp) _⟩
 case round =>
  obtain ⟨k,v,hk,rfl,rfl,rfl,hnn,ho,hsz,hbel⟩:=hrel;have x0:wr.cell? (zA w.heap.size 0)=some (zI (Zp 0)):=(hbel.cell (by exact hs1)).trans <| HX.o 0 (by omega);have x1:wr.cell? (zA w.heap.size 1)=some (zI (Zp 1)):=(hbel.cell (by exact hs1)).trans <| HX.o 1 (by omega);have x2:wr.cell? (zA w.heap.size 2)=some (zI (Zp 2)):=(hbel.cell (by exact hs1)).trans <| HX.o 2 (by omega);have x3:wr.cell? (zA w.heap.size 3)=some (zI (Zp 3)):=(hbel.cell (by exact hs1)).trans <| HX.o 3 (by omega);have x4:wr.cell? (zA w.heap.size 4)=some (zI (Zp 4)):=(hbel.cell (by exact hs1)).trans <| HX.o 4 (by omega);have HNN:bY (v≠.slice none 0 0):=hnn;have HPN:bY (upto (bK Z (Zp 0) n) k<=k+1):=yY _ k;clear hnn;by_cases hkn:k<n
  ·have hkn':(k:Int)<(n:Int):=by omega
   obtain ⟨rfl,hgl,_⟩:=HR.o k 0 hkn (by omega);have c0:=cq5 (fun j hj=>(hbel.cell (by exact hgl)).trans (HR.o k j hkn (by omega)).2.2);rcases Nat.lt_trichotomy k (bK Z (Zp 0) n) with hlt | heq | hgt
   ·have hd:decide (bK Z (Zp 0) n<k)=false:=decide_eq_false (by omega);have hd2:decide (Zp 0<Z k 0)=false:=HLO.o k hlt;rw [hd];have HLT:bY (k<bK Z (Zp 0) n):=hlt;clear hlt hd;go_wp2_with fail;go_quiet (fail);go_wp2_with (at_builtin;refine wpList_append_own _ rfl _ _ 33 rfl w1.heap.size 67 i5 (.agg z5.toArray) 5 40 Tryz.underlying33 hi5 hz50 hz51 hz52 rfl (by decide) _ _ _ rfl (ho.alloc _) (zA wr.heap.size 0) 1 1 (aP Z k) rfl rfl (fH _ Z k 67) (dZ Z k) ?d3 ?d4 ?d5 ?_)
    case d3=>have:=HPN.o;unfold maxLen;omega
    case d4=>have:=HPN.o;omega
    case d5=>simp;omega
    ·intro v' w2 hown' hg2 hnil;have hall0:=(World.grownBy_alloc (wr.drewN nq) _ _).trans hg2;have hall:wr.grownBy w2 v.ownBlock:=⟨hall0.os,hall0.tape,hall0.output,hall0.size,hall0.block⟩;clear hall0;have HO:bY (w2.ownsRow w1.heap.size 67 5 v' (upto (bK Z (Zp 0) n) (k+1)) ((List.range (upto (bK Z (Zp 0) n) (k+1))).flatMap (aP (dK Z n (Zp 0) Zp)))):=by
      unfold bY;rw [(qQ HLT.o).1,(qQ HLT.o).2];exact hown'
     have HNN':bY (v'≠.slice none 0 0):=by
      intro e;have h0:=HNN.o;simp [e] at hnil
     have hs2:w1.heap.size<=w2.heap.size:=Hq hsz hall.size;have hb2:Below w1.heap.size w1 w2:=hbel.grown hall hsz (fun kk e=>(ho.lt kk e).1);clear hown' hg2 hnil hall ho c0 HNN x0 x1 x2 x3 x4;go_wp2;go_roundw
     case rel=>exact ⟨k+1,_,by omega,by go_num,rfl,by have:=HLT.o;rw [decide_eq_false (by omega)],HNN'.o,HO.o,hs2,hb2⟩
     case measure=>simp [intOf];omega
   ·have hd:decide (bK Z (Zp 0) n<k)=false:=decide_eq_false (by omega);have hd2:decide (Zp 0<Z k 0)=true:=HHI.o k heq.symm hkn;rw [hd];have HEQ:bY (k=bK Z (Zp 0) n):=heq;clear heq hd;go_wp2_with fail;go_quiet (fail);go_wp2_with (at_builtin;refine wpList_append_own _ rfl _ _ 33 rfl w1.heap.size 67 i5 (.agg z5.toArray) 5 40 Tryz.underlying33 hi5 hz50 hz51 hz52 rfl (by decide) _ _ _ rfl (ho.alloc _) (zA wr.heap.size 0) 1 1 (aP (fun _=>Zp) 0) rfl rfl (fH _ (fun _=>Zp) 0 67) (dZ (fun _=>Zp) 0) ?d3 ?d4 ?d5 ?_)
    case d3=>have:=HPN.o;unfold maxLen;omega
    case d4=>have:=HPN.o;omega
    case d5=>simp;omega
    ·intro v1 w2 hown' hg2 hnil;have hall0:=(World.grownBy_alloc (wr.drewN nq) _ _).trans hg2;have hall:wr.grownBy w2 v.ownBlock:=⟨hall0.os,hall0.tape,hall0.output,hall0.size,hall0.block⟩;clear hall0;have HO1:w2.ownsRow w1.heap.size 67 5 v1 (upto (bK Z (Zp 0) n) k+1) ((List.range (upto (bK Z (Zp 0) n) k)).flatMap (aP (dK Z n (Zp 0) Zp))++aP (fun _=>Zp) 0):=hown';have HNN1:bY (v1≠.slice none 0 0):=by
      intro e;have h0:=HNN.o;simp [e] at hnil
     have hs2:w1.heap.size<=w2.heap.size:=Hq hsz hall.size;have hb2:Below w1.heap.size w1 w2:=hbel.grown hall hsz (fun kk e=>(ho.lt kk e).1);clear c0;have c0:=cq5 (fun j hj=>(hb2.cell (by exact hgl)).trans (HR.o k j hkn (by omega)).2.2);clear hown' hg2 hnil hall ho HNN x0 x1 x2 x3 x4 hbel hsz hd2;go_wp2_with (at_builtin;refine wpList_append_own _ rfl _ _ 33 rfl w1.heap.size 67 i5 (.agg z5.toArray) 5 40 Tryz.underlying33 hi5 hz50 hz51 hz52 rfl (by decide) _ _ _ rfl (HO1.alloc _) (zA w2.heap.size 0) 1 1 (aP Z k) rfl rfl (fH _ Z k 67) (dZ Z k) ?d3 ?d4 ?d5 ?_)
     case d3=>have:=HPN.o;unfold maxLen;omega
     case d4=>have:=HPN.o;omega
     case d5=>simp;omega
     ·intro v' w3 hown' hg3 hnil;have hall:=(World.grownBy_alloc w2 _ _).trans hg3;have HO:bY (w3.ownsRow w1.heap.size 67 5 v' (upto (bK Z (Zp 0) n) (k+1)) ((List.range (upto (bK Z (Zp 0) n) (k+1))).flatMap (aP (dK Z n (Zp 0) Zp)))):=by
       unfold bY;rw [(qL HEQ.o).1,(qL HEQ.o).2,List.append_assoc];exact hown'
      have HNN':bY (v'≠.slice none 0 0):=by
       intro e;have h0:=HNN1.o;simp [e] at hnil
      have hs3:w1.heap.size<=w3.heap.size:=Hq hs2 hall.size;have hb3:Below w1.heap.size w1 w3:=hb2.grown hall hs2 (fun kk e=>(HO1.lt kk e).1);clear hown' hg3 hnil hall HO1 c0 HNN1;go_wp2;go_roundw
      case rel=>exact ⟨k+1,_,by omega,by go_num,rfl,by have:=HEQ.o;rw [decide_eq_true (by omega)],HNN'.o,HO.o,hs3,hb3⟩
      case measure=>simp [intOf];omega
   have hd:decide (bK Z (Zp 0) n<k)=true:=decide_eq_true hgt;rw [hd];have HGT:bY (bK Z (Zp 0) n<k):=hgt;clear hgt hd;go_wp2_with fail;go_quiet (fail);go_wp2_with (at_builtin;refine wpList_append_own _ rfl _ _ 33 rfl w1.heap.size 67 i5 (.agg z5.toArray) 5 40 Tryz.underlying33 hi5 hz50 hz51 hz52 rfl (by decide) _ _ _ rfl (ho.alloc _) (zA wr.heap.size 0) 1 1 (aP Z k) rfl rfl (fH _ Z k 67) (dZ Z k) ?d3 ?d4 ?d5 ?_)
   case d3=>have:=HPN.o;unfold maxLen;omega
   case d4=>have:=HPN.o;omega
   case d5=>simp;omega
   ·intro v' w2 hown' hg2 hnil;have hall0:=(World.grownBy_alloc (wr.drewN nq) _ _).trans hg2;have hall:wr.grownBy w2 v.ownBlock:=⟨hall0.os,hall0.tape,hall0.output,hall0.size,hall0.block⟩;clear hall0;have HO:bY (w2.ownsRow w1.heap.size 67 5 v' (upto (bK Z (Zp 0) n) (k+1)) ((List.range (upto (bK Z (Zp 0) n) (k+1))).flatMap (aP (dK Z n (Zp 0) Zp)))):=by
     unfold bY;rw [(qU HGT.o).1,(qU HGT.o).2];exact hown'
    have HNN':bY (v'≠.slice none 0 0):=by
     intro e;have h0:=HNN.o;simp [e] at hnil
    have hs2:w1.heap.size<=w2.heap.size:=Hq hsz hall.size;have hb2:Below w1.heap.size w1 w2:=hbel.grown hall hsz (fun kk e=>(ho.lt kk e).1);clear hown' hg2 hnil hall ho c0 HNN x0 x1 x2 x3 x4;go_wp2;go_roundw
    case rel=>exact ⟨k+1,_,by omega,by go_num,rfl,by have:=HGT.o;rw [decide_eq_true (by omega)],HNN'.o,HO.o,hs2,hb2⟩
    case measure=>simp [intOf];omega
  have hkn':k=n:=by omega
  subst hkn';by_cases hsp:bK Z (Zp 0) k<k
  ·have hd:decide (bK Z (Zp 0) k<k)=true:=decide_eq_true hsp;rw [hd];have HW:bY (wr.ownsRow w.heap.size 67 5 v (k+1) ((List.range (k+1)).flatMap (aP (dK Z k (Zp 0) Zp)))):=by
    have e:upto (bK Z (Zp 0) k) k=k+1:=if_pos hsp;rw [e] at ho;exact ownsRow_base ho (Nat.le_of_lt hs1)
   have hbb:Below w.heap.size w wr:=B1.trans (hbel.mono (Nat.le_of_lt hs1));clear ho hsp hd;go_wp2;go_ret;exact ⟨_,rfl,HW.o,hbb⟩
  have hd:decide (bK Z (Zp 0) k<k)=false:=decide_eq_false hsp;rw [hd];have HSP:bY (¬ bK Z (Zp 0) k<k):=hsp;rw [(oM hsp).1] at ho;clear hsp hd;go_wp2_with (at_builtin;refine wpList_append_own _ rfl _ _ 33 rfl w1.heap.size 67 i5 (.agg z5.toArray) 5 40 Tryz.underlying33 hi5 hz50 hz51 hz52 rfl (by decide) _ _ _ rfl (ho.alloc _) (zA wr.heap.size 0) 1 1 (aP (fun _=>Zp) 0) rfl rfl (fH _ (fun _=>Zp) 0 67) (dZ (fun _=>Zp) 0) ?d3 ?d4 ?d5 ?_)
  case d3=>unfold maxLen;omega
  case d4=>omega
  case d5=>simp;omega
  ·intro v' w2 hown' hg2 hnil;have hall:=(World.grownBy_alloc wr _ _).trans hg2;have HW:bY (w2.ownsRow w.heap.size 67 5 v' (k+1) ((List.range (k+1)).flatMap (aP (dK Z k (Zp 0) Zp)))):=by
    rw [(oM HSP.o).2];exact ownsRow_base hown' (Nat.le_of_lt hs1)
   have hb2:Below w1.heap.size w1 w2:=hbel.grown hall hsz (fun kk e=>(ho.lt kk e).1);have hbb:Below w.heap.size w w2:=B1.trans (hb2.mono (Nat.le_of_lt hs1));clear hown' hg2 hnil hall ho HNN x0 x1 x2 x3 x4;go_wp2;go_ret;exact ⟨_,rfl,HW.o,hbb⟩
theorem jh (a:Option Addr) (b n cap m:Nat) (Z:Nat->Nat->Int) (Zp:Nat->Int) (hn:n<=1048576) (w:World) (hb:n≠0->b<w.heap.size) (ha:n≠0->a=some (zA b 0)) (hup:dJ Z n) (hm:m<n) (hz:Z m 0=Zp 0) (hr:∀ k j,k<n->j<5->w.cell? (zA b (k * 5+j))=some (zI (Z k j))) :
 Hz 119 #[.slice a n cap,.agg (zF Zp).toArray] w fun e w'=>∃ v,e=.returned v/\w'.ownsRow w.heap.size 67 5 v n ((List.range n).flatMap (aP (dm Z m Zp)))/\Below w.heap.size w w':=by
 have HB0:∀ o:Obj,Below w.heap.size w (w.alloc o):=fun o=>(Hr _ _).alloc (Ho _) o;have hno:pK (fG Z m) (n - 1) (Zp 0):=fun j hj e=>by
  unfold fG at e;split at e
  ·have:=hup.one (show j<n by omega) hm (by omega);omega
  have:=hup.one (show j+1<n by omega) hm (by omega);omega
 refine (Dw (.slice a n cap) (n - 1) (fG Z m) Zp (by omega) w hup.del hno (fun ob=>vg (Zp 0) a b n cap m Z hn (w.alloc ob) (fun h=>by have:=hb h;simp;omega) ha hm hz (fun j hj hne e=>hne (hup.one hj hm (by omega))) (fun k j h1 h2=>((HB0 ob).cell (p:=⟨b,_,none⟩) (hb (by omega))).trans (hr k j h1 h2)))).mono ?_;rintro e w' ⟨v,rfl,h1,h2⟩;refine ⟨v,rfl,?_,h2⟩;have hn1:n - 1+1=n:=by omega
 rw [hn1] at h1;have h0:∀ k ∈ List.range n,aP (dK (fG Z m) (n - 1) (Zp 0) Zp) k=aP (dm Z m Zp) k:=fun k hk=>kU (by rw [<-hz];exact Em hup hm k (List.mem_range.1 hk));rw [List.flatMap_def,List.map_congr_left h0,<-List.flatMap_def] at h1;exact h1
