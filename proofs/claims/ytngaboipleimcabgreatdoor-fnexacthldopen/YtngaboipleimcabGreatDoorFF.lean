/- fold of the program: records done in a scene as long as they fit; conditions: scene and list lie in memory, the list below the scene. -/
import Derived.WalkMore
import Derived.Test.YtngaboipleimcabGreatDoorFT
set_option linter.unusedVariables false
set_option maxHeartbeats 4000000
set_option maxRecDepth 100000
namespace Go.Proofs.YtngaboipleimcabGreatDoor
open Go.RowKit Go.Shelf
attribute [local go_sem] Oper.semAt_some
theorem Sc.grown {w w':World} {c d:Int} {s b:Nat} {lo:Lo} {V:CV} {n:Nat} {M:Int->Option (Nat->Int)} {row:Option Nat} (h:Sc w c d s b lo V n M) (hg:w.grownBy w' row) (hr:∀ r,row=some r->¬ r=b/\((lo.k0<=r/\r<lo.k1)∨∃ o:Obj,w.heap[r]? = some o/\o.isCells=false)):Sc w' c d s b lo V n M:=by
 obtain ⟨aW,kW,kO,aX,kX,aI,kI,gW,gO,gX,gI,sl,xs,hN,rW,rX,rI,hO,hM,⟨l1,l2,l3,l4,l5,l6,l7,l8⟩,hd,hx1,hx2,hkk⟩:=h;have hz:=hg.size
 have k:∀ g o,g<w.heap.size->(w.cell? (zA g o)).isSome=true->(g<lo.k0∨lo.k1<=g)->Sm w w' g:=fun g o h1 h2 h5=>bG hg h1 (fun e=>by
  obtain ⟨_,h6 | ⟨ob,h3,h4⟩⟩:=hr g (by rw [e])
  ·omega
  rw [vY h2 h3] at h4;cases h4)
 have kW':V.nW≠0->gW<w.heap.size->Sm w w' gW:=fun e h1=>by
  rcases rW with ⟨e0,_⟩ | ⟨_,_,_,_,_,ho⟩
  ·exact absurd e0 e
  exact k gW _ h1 (by rw [ho.2 0 0 (by omega) (by omega)];rfl) (hkk.W e)
 have k1:∀ {a:Option Addr} {k m:Nat} {X:Nat->Int} {g:Nat},RI lo.l w.heap.size w (.slice a m k) m X g->m≠0->(g<lo.k0∨lo.k1<=g)->g<w.heap.size->Sm w w' g:=fun r e h5 h1=>by
  rcases r with ⟨e0,_⟩ | ⟨_,_,_,_,_,ho⟩
  ·exact absurd e0 e
  exact k _ _ h1 (by rw [ho.2 0 (by omega)];rfl) h5
 have kx:∀ j,j<V.nO->V.N j≠0->xs j<w.heap.size->Sm w w' (xs j):=fun j hj e h1=>by
  rcases (hO j hj).2.2.1 with ⟨e0,_⟩ | ⟨_,_,_,_,_,ho⟩
  ·exact absurd e0 e
  exact k _ _ h1 (by rw [ho.2 0 0 (by omega) (by omega)];rfl) (hkk.x j hj e)
 have kO':∀ j,j<V.nO->Sm w w' gO:=fun j hj=>k gO j l2 (by rw [(hO j hj).1];rfl) hkk.O
 exact ⟨aW,kW,kO,aX,kX,aI,kI,gW,gO,gX,gI,sl,xs,hN.sm (k s 0 l4 (by rw [(hN 0 (by decide)).1];rfl) hkk.s),rW.go (Ho _) hz (Ho _) (fun e _ h=>kW' e h),rX.go (Ho _) hz (Ho _) (fun e _ h=>k1 rX e (hkk.X e) h),rI.go (Ho _) hz (Ho _) (fun e _ h=>k1 rI e (hkk.I e) h),
  fun j hj=>⟨(kO' j hj j).1.trans (hO j hj).1,(kO' j hj j).2.trans (hO j hj).2.1,(hO j hj).2.2.go (Ho _) hz (Ho _) (fun e _ h=>kx j hj e h)⟩,hM.kept hg (fun e=>(hr b (by rw [e])).1 rfl),⟨l1,by omega,l3,by omega,l5,l6,l7,l8⟩,hd,hx1,hx2,hkk.up hz⟩
theorem Sv.grown {w w':World} {c d:Int} {s b:Nat} {lo:Lo} {V:CV} {n:Nat} {row:Option Nat} (h:Sv w c d s b lo V n) (hg:w.grownBy w' row) (hr:∀ r,row=some r->¬ r=b/\((lo.k0<=r/\r<lo.k1)∨∃ o:Obj,w.heap[r]? = some o/\o.isCells=false)):Sv w' c d s b lo V n:=by
 obtain ⟨n0,W0,h⟩:=h;exact ⟨n0,W0,h.grown hg hr⟩
theorem Sv.far {w:World} {c d:Int} {s b:Nat} {lo:Lo} {V:CV} {n x j:Nat} (h:Sv w c d s b lo V n) (h1:lo.k0<=x) (h2:x<lo.k1) (hb:¬ x=b) (u:Value):Sv (w.setCell (zA x j) u) c d s b lo V n :=
 h.grown (P8.aC w x j u).1 (fun r e=>by injection e with e;subst e;exact ⟨hb,.inl ⟨h1,h2⟩⟩)
theorem Sv.reach {w w':World} {c d:Int} {s b l:Nat} {V:CV} {n:Nat} (h:Sv w c d s b ⟨l,w.heap.size,w.heap.size⟩ V n) (hb:Below w.heap.size w w'):Sv w' c d s b ⟨l,w.heap.size,w'.heap.size⟩ V n:=by
 obtain ⟨n0,W0,h⟩:=h;exact ⟨n0,W0,h.reach hb⟩
/-- What records do to a cell, one behind the other; whether all fit. -/
def jJ (c d:Int) (V:CV) (L:List (Nat->Int)):CV × Bool:=L.foldl (fun p x=>((aF c d p.1 x).1,p.2 && (aF c d p.1 x).2.2)) (V,true)
theorem nT {c d:Int} {V:CV} {L:List (Nat->Int)} {x:Nat->Int}:jJ c d V (L++[x])=((aF c d (jJ c d V L).1 x).1,(jJ c d V L).2 && (aF c d (jJ c d V L).1 x).2.2):=by simp [jJ]
theorem wQ {c d:Int}:∀ (L:List (Nat->Int)) (p:CV × Bool),bD c d p.1=true->bD c d (L.foldl (fun p x=>((aF c d p.1 x).1,p.2 && (aF c d p.1 x).2.2)) p).1=true
 | [],p,h=>h
 | x :: L,p,h=>wQ L _ (tZ h)
def kP {len:Nat} (Z:Nat->Nat->Int) (L:List (Fin len)):List (Nat->Int):=L.map (fun x=>Z x.1)
theorem nZ {len:Nat} {Z:Nat->Nat->Int} {L:List (Fin len)} {x:Fin len}:kP Z (L++[x])=kP Z L++[Z x.1]:=by simp [kP]
theorem pR {c d:Int} {V:CV} {len:Nat} {Z:Nat->Nat->Int}:∀ k,k<=len->(jJ c d V (kP Z (oU len k))).1=bg c d V Z k/\((jJ c d V (kP Z (oU len k))).2=true↔∀ j,j<k->wE c d V Z j=true)
 | 0,_=>by simp [oU,kP,jJ,bg]
 | k+1,h=>by
  obtain ⟨h1,h2⟩:=pR (c:=c) (d:=d) (V:=V) (len:=len) (Z:=Z) k (by omega)
  rw [ny (show k<len by omega),nZ,nT]
  refine ⟨by rw [h1];rfl,?_⟩
  rw [Bool.and_eq_true,h2,h1]
  constructor
  ·rintro ⟨a,b⟩ j hj
   by_cases e:j=k
   ·subst e;exact b
   exact a j (by omega)
  exact fun a=>⟨fun j hj=>a j (by omega),a k (by omega)⟩
def FI (c d:Int) (s b l:Nat) (V:CV) (n0:Nat) (Z:Nat->Nat->Int) (w w0:World) (len:Nat) (pre:List (Fin len)) (W:World):Prop :=
 (W.cell? (zA (w.heap.size+1) 0)=some (zI (pre.length:Int))/\W.frozen? (zA (w.heap.size+1) 0)=false/\W.cell? (zA w.heap.size 0)=some (zP s 0)/\w0.heap.size<=W.heap.size) /\
 Sv W c d s b ⟨l,w.heap.size,w0.heap.size⟩ (jJ c d V (kP Z pre)).1 (n0+5 * pre.length)/\(jJ c d V (kP Z pre)).2=true/\Below l w W
def FX (c d:Int) (s b l:Nat) (V:CV) (n0:Nat) (Z:Nat->Nat->Int) (w w0:World) (len:Nat) (q:Code) (xs:List (Fin len)) (W:World):Prop :=
 q=Code.exit 0/\∃ pre x,xs=pre++[x]/\(aF c d (jJ c d V (kP Z pre)).1 (Z x.1)).2.2=false /\
 (W.cell? (zA (w.heap.size+1) 0)=some (zI (pre.length:Int))/\W.frozen? (zA (w.heap.size+1) 0)=false/\w0.heap.size<=W.heap.size) /\
 Sv W c d s b ⟨l,w.heap.size,w0.heap.size⟩ (jJ c d V (kP Z pre)).1 (n0+5 * len)/\(jJ c d V (kP Z pre)).2=true/\Below l w W
theorem Es (c d:Int) (s b l:Nat) (V:CV) (n0:Nat) (hV0:bD c d V=true) (a:Option Addr) (bl off len cap:Nat) (ha:len≠0->a=some (zA bl off)) (Z:Nat->Nat->Int) (hlen:len<=1048576) (hwf0:∀ k j,k<len->j<16->(Lit.int .i64 (Z k j)).wf=true) (hl0:0<l) (w:World)
 (hg00:w.cell? (zA 0 0)=some (.iface 257 (.agg #[zP 1 204]))) (hbl:bl<l) (hr0:∀ k j,k<len->j<16->w.cell? (zA bl (off+k * 16+j))=some (zI (Z k j))) (hS0:Sv w c d s b ⟨l,w.heap.size,w.heap.size⟩ V n0) :
 CallsIn Fence.wide 5 Tryz.prog 89 #[zP s 0,.slice a len cap] w fun e w'=>e=.returned (zI (gm c d V Z len:Int))/\(∃ k1,Sv w' c d s b ⟨l,w.heap.size,k1⟩ (bg c d V Z (gm c d V Z len)) (n0+5 * len))/\Below l w w':=by
 have hro:Fence.wide.round=none:=rfl;have f107:Fence.wide.fn 115:=trivial;have f51:Fence.wide.fn 108:=trivial;have hls1:l<=s:=hS0.at.2.2.1.1;have hls:l<=w.heap.size:=Hq hls1 (Nat.le_of_lt hS0.at.2.1);have hbw:b<w.heap.size:=hS0.at.2.2.2.2.1;have hsw:s<w.heap.size:=hS0.at.2.1;have hV:=fQ hV0;have hwf:=fQ hwf0;have hg0:=fQ hg00;have hr:=fQ hr0;have hS:=fQ hS0;clear hV0 hwf0 hg00 hr0 hS0;refine callsIn_of_wp_marks Tryz.func89 rfl trivial ?_ hro;simp only [Tryz.ntmps89,List.size_toArray,List.length_cons,List.length_nil,Nat.reduceAdd,Nat.reduceSub,Array.replicate_succ,Array.replicate_zero,List.push_toArray,List.append_toArray,List.nil_append,List.cons_append];gi_wp2;refine wpIn_wide.2 (wp_scope_straight ((wpIn_wide (n:=5)).1 ?_));gi_wp2;refine wpIn_label ?_;gi_wp2_with (gi_at_call 115;refine (DW Fence.wide 4 trivial hro _ _ _ _).mono ?_;rintro e w' ⟨rfl,rfl⟩);have bA0:=Boxed.new w 109 (zP s 0);have bC0:=Boxed.new (w.alloc (.cells #[zP s 0] 109)) 3 (zI 0);have bN0:=Boxed.new ((w.alloc (.cells #[zP s 0] 109)).alloc (.cells #[zI 0] 3)) 39 (.slice a len cap);simp only [World.size_alloc] at bC0 bN0;have bA:=(bA0.alloc (.cells #[zI 0] 3)).alloc (.cells #[.slice a len cap] 39);have bC:=bC0.alloc (.cells #[.slice a len cap] 39);have hB0:Below w.heap.size w (((w.alloc (.cells #[zP s 0] 109)).alloc (.cells #[zI 0] 3)).alloc (.cells #[.slice a len cap] 39)):=(((Hr _ w).alloc (Ho _) _).alloc (by simp) _).alloc (by simp;omega) _;obtain ⟨W0,hW0⟩:∃ W0,(((w.alloc (.cells #[zP s 0] 109)).alloc (.cells #[zI 0] 3)).alloc (.cells #[.slice a len cap] 39))=W0:=⟨_,rfl⟩;have hsz:W0.heap.size=w.heap.size+1+1+1:=by rw [<-hW0];simp
 rw [hW0] at bA bC bN0 hB0 ⊢;clear hW0 bA0 bC0;have hI0:FI c d s b l V n0 Z w W0 len [] W0:=⟨⟨bC.cell,bC.frozen,bA.cell,Ho _⟩,hS.o.reach hB0,rfl,hB0.mono hls⟩;have hIo:OwnFrom W0.heap.size (FI c d s b l V n0 Z w W0 len):=fun pre W W' row hs hg hr=>by
  obtain ⟨⟨i1,i2,i3,i4⟩,i5,i6,i7⟩:=hs;exact ⟨⟨cell_kept i1 hg (fun r e=>(hr r e).2),(frozen_kept i1 hg (fun r e=>(hr r e).2)).trans i2,cell_kept i3 hg (fun r e=>(hr r e).2),Hq i4 hg.size⟩,i5.grown hg (fun r e=>⟨by have:=(hr r e).1;omega,.inr (hr r e).2⟩),i6,i7.grown hg (by have:=i7.size;omega) (fun k e=>by have:=(hr k e).1;omega)⟩
 have hXo:∀ q,OwnFrom W0.heap.size (FX c d s b l V n0 Z w W0 len q):=fun q xs W W' row hs hg hr=>by
  obtain ⟨i0,pre,x,j1,j2,⟨i1,i2,i4⟩,i5,i6,i7⟩:=hs;exact ⟨i0,pre,x,j1,j2,⟨cell_kept i1 hg (fun r e=>(hr r e).2),(frozen_kept i1 hg (fun r e=>(hr r e).2)).trans i2,Hq i4 hg.size⟩,i5.grown hg (fun r e=>⟨by have:=(hr r e).1;omega,.inr (hr r e).2⟩),i6,i7.grown hg (by have:=i7.size;omega) (fun k e=>by have:=(hr k e).1;omega)⟩
 refine wpIn_rangeFunc_ownH hro (by omega) (gf:=137) (lb:=#[zP (w.heap.size+1+1) 0]) rfl trivial (enters_of Tryz.func137 (by kernel_rfl) rfl)
  (yA Fence.wide 4 trivial hro (by omega) (w.heap.size+1+1) l bl off len cap a ha Z hlen hbl W0 (by omega) (by omega) bN0.cell (fun k j g1 g2=>(hB0.cell (p:=(zA bl (off+k * 16+j))) (by show bl<_;omega)).trans (hr.o k j g1 g2))) belowK_t (belowK_b (by omega)) (Hr _ _) (fun _=>rfl)
  (FI c d s b l V n0 Z w W0 len) (FX c d s b l V n0 Z w W0 len) hIo hXo hI0
  (fun x a' W=>∃ Bx,w.heap.size+1+1<Bx/\(∀ j,j<16->W.cell? (zA Bx j)=some (zI (Z x.1 j)))/\a'={ tmps:=#[zP s 0,.slice a len cap,zP w.heap.size 0,undef,zI 0,zP (w.heap.size+1) 0,zP Bx 0,undef,undef,.slice a len cap,.func (.func 137) #[] #[zP (w.heap.size+1+1) 0],.agg #[zI (Z x.1 0),zI (Z x.1 1),zI (Z x.1 2),zI (Z x.1 3),zI (Z x.1 4),zI (Z x.1 5),zI (Z x.1 6),zI (Z x.1 7),zI (Z x.1 8),zI (Z x.1 9),zI (Z x.1 10),zI (Z x.1 11),zI (Z x.1 12),zI (Z x.1 13),zI (Z x.1 14),zI (Z x.1 15)],undef,undef,undef,undef,undef,undef,undef,undef,undef,undef,undef],defers:=[] })
  (fun x a' _ X Y row hs hg hr=>by obtain ⟨Bx,h1,h2,h3⟩:=hs;exact ⟨Bx,h1,fun j hj=>cell_kept (h2 j hj) hg (fun r e=>(hr r e).2),h3⟩)
  ?assign ?body ?done ?stop
 case assign =>
  rintro q pre x W K hI hK;obtain ⟨⟨i1,i2,i3,i4⟩,i5,i6,i7⟩:=hI;have hA:=(Hr W.heap.size W).alloc (Ho _) (.cells #[zI (Z x.1 0),zI (Z x.1 1),zI (Z x.1 2),zI (Z x.1 3),zI (Z x.1 4),zI (Z x.1 5),zI (Z x.1 6),zI (Z x.1 7),zI (Z x.1 8),zI (Z x.1 9),zI (Z x.1 10),zI (Z x.1 11),zI (Z x.1 12),zI (Z x.1 13),zI (Z x.1 14),zI (Z x.1 15)] 71);gi_wp2
  exact hK _ _ ((KeepsOthers.alloc _ _).from _) ((Hr _ W).alloc (by omega) _) (hIo _ _ _ none ⟨⟨i1,i2,i3,i4⟩,i5,i6,i7⟩ (World.grownBy_alloc W _ none) (fun r e=>by cases e)) ⟨W.heap.size,by omega,fun j hj=>by
   have:j=0∨j=1∨j=2∨j=3∨j=4∨j=5∨j=6∨j=7∨j=8∨j=9∨j=10∨j=11∨j=12∨j=13∨j=14∨j=15:=by omega
   rcases this with rfl | rfl | rfl | rfl | rfl | rfl | rfl | rfl | rfl | rfl | rfl | rfl | rfl | rfl | rfl | rfl <;> simp,rfl⟩
 case body =>
  rintro q pre x a' W hl ⟨r,hr'⟩ ⟨⟨i1,i2,i3,i4⟩,i5,i6,i7⟩ ⟨Bx,hBx,hX,rfl⟩ hlt;have x0:=hX 0 (by omega);have x1:=hX 1 (by omega);have x2:=hX 2 (by omega);have x3:=hX 3 (by omega);have x4:=hX 4 (by omega);have x5:=hX 5 (by omega);have x6:=hX 6 (by omega);have x7:=hX 7 (by omega);have x8:=hX 8 (by omega);have x9:=hX 9 (by omega);have x10:=hX 10 (by omega);have x11:=hX 11 (by omega);have x12:=hX 12 (by omega);have x13:=hX 13 (by omega);have x14:=hX 14 (by omega);have x15:=hX 15 (by omega);clear hX hIo hXo hI0;have hU:bD c d (jJ c d V (kP Z pre)).1=true:=wQ _ (V,true) hV.o;obtain ⟨U,eU⟩:∃ U,U=(jJ c d V (kP Z pre)).1:=⟨_,rfl⟩;rw [<-eU] at hU i5;have gW:W.cell? (zA 0 0)=some (.iface 257 (.agg #[zP 1 204])):=(i7.cell (p:=(zA 0 0)) hl0).trans hg0.o;have hap:=xu c d (Z x.1) s b ⟨l,w.heap.size,W0.heap.size⟩ U (n0+5 * pre.length) hU (fun j hj=>hwf.o x.1 j x.2 hj) hl0 W gW i5;have HU:=fQ hU;have HE:=fQ eU;have HS:=fQ i5;have HF:=fQ i6;have HB:=fQ i7;have hlt':=fQ hlt;clear hU eU i5 i6 i7 gW hlt;gi_wp2_with (gi_at_call 108;refine (CallsIn.inRound q (callsIn_wide.2 hap)).mono ?_;rintro e W2 ⟨rfl,hS2,hb2⟩;have k1:=hb2.keep (w.heap.size+1) (Ht _) (by show _<W0.heap.size;omega);have k2:=hb2.keep w.heap.size (Ho _) (by show _<W0.heap.size;omega);have c1:W2.cell? (zA (w.heap.size+1) 0)=some (zI (pre.length:Int)):=(World.cell?_of_block (a:=(zA (w.heap.size+1) 0)) k1).trans i1;have c2:W2.cell? (zA w.heap.size 0)=some (zP s 0):=(World.cell?_of_block (a:=(zA w.heap.size 0)) k2).trans i3;have f1:W2.frozen? (zA (w.heap.size+1) 0)=false:=(World.frozen?_of_block (a:=(zA (w.heap.size+1) 0)) k1).trans i2;have hwr:IntKind.i64.wrap ((pre.length:Int)+1)=(pre.length:Int)+1:=by (rw [IntKind.wrap_i64];have:=hlt'.o;omega))
  ·rename_i hfit;have hsz2:(W2.setCell (zA (w.heap.size+1) 0) (zI ((pre.length:Int)+1))).heap.size=W2.heap.size:=ay;have z2:=hb2.size;refine ⟨⟨by rw [hsz2];exact z2,fun k o hk h1 h2=>(KeepsOthers.setCell _ _ _).same k o (hb2.oth k o (by omega) h1 h2) h2⟩,hb2.low.setCell (by show l<=w.heap.size+1;omega) _,⟨?_,by rw [World.frozen?_setCell];exact f1,(aJ (fun e=>by have:=e.1;omega)).trans c2,by rw [hsz2];omega⟩,?_,?_,(HB.o.trans hb2.low).setCell (by show l<=w.heap.size+1;omega) _⟩
   ·rw [List.length_append];exact World.cell?_setCell_same' _ _ _ (by rw [c1];rfl)
   ·rw [nZ,nT,<-HE.o,List.length_append];exact (hS2.far (by show w.heap.size<=_;omega) (by show _<W0.heap.size;omega) (by omega) _).mono (by simp;omega)
   rw [nZ,nT,<-HE.o,HF.o,hfit];rfl
  rename_i hfit;have hnf:(aF c d U (Z x.1)).2.2=false:=by simpa using hfit
  have hU2:=wo hnf;have z2:=hb2.size;refine ⟨⟨z2,fun k o hk h1 h2=>hb2.oth k o (by omega) h1 h2⟩,rfl,pre,x,rfl,by rw [<-HE.o];exact hnf,⟨c1,f1,by omega⟩,?_,HF.o,HB.o.trans hb2.low⟩;rw [<-HE.o,<-hU2];exact hS2.mono (by have:=hlt'.o;omega)
 case done =>
  rintro D ys W hD rfl ⟨⟨i1,_⟩,i5,i6,i7⟩ hK;obtain ⟨f1,f2⟩:=pR (c:=c) (d:=d) (V:=V) (len:=len) (Z:=Z) len (Ho _);have hall:=oD len (f2.1 i6);rw [f1] at i5;rw [jY (Ho _)] at i1 i5;have h9:Below l w (W.putObj D (.deferred none)):=i7.trans (belowK_b (w:=w) hls W D _ _ (by omega) hK rfl rfl);have h8:Sv (W.putObj D (.deferred none)) c d s b ⟨l,w.heap.size,W0.heap.size⟩ (bg c d V Z len) (n0+5 * len):=i5.grown (grownBy_putObj' W D _) (fun r e=>by cases e;exact ⟨by omega,.inr ⟨_,hK,rfl⟩⟩);have H8:=fQ h8;have H9:=fQ h9;have HA:=fQ hall;clear h8 h9 hall i5 i6 i7 f1 f2;gi_wp2;refine ⟨by simp,.inl ⟨_,_,rfl,run_takeDeferred hK,?_⟩⟩;exact ⟨_,results_tmp rfl _ _ _,by rw [HA.o];rfl,⟨_,by rw [HA.o];exact H8.o⟩,H9.o⟩
 case stop =>
  rintro D q pre W hD ⟨k,hk,hp⟩ ⟨rfl,pre2,x,e2,hnf,⟨i1,i2,i4⟩,i5,i6,i7⟩ hK;obtain ⟨m,em⟩:∃ m,m=pre2.length:=⟨_,rfl⟩;have hkm:k=m+1:=by
   have h:=congrArg List.length (e2.symm.trans hp);rw [List.length_append,jY hk] at h;simp at h;omega
  subst hkm;have hm:m<len:=by omega
  obtain ⟨e3,e4⟩:=List.append_inj' (hp.symm.trans e2 |>.symm.trans (ny hm)) rfl;have e5:x=⟨m,hm⟩:=by simpa using e4
  subst e3 e5;obtain ⟨g1,g2⟩:=pR (c:=c) (d:=d) (V:=V) (len:=len) (Z:=Z) m (by omega);rw [g1] at hnf i5;have hall:=nJ (g2.1 i6) hnf len hm;rw [jY (by omega)] at i1;have h9:Below l w (W.putObj D (.deferred none)):=i7.trans (belowK_b (w:=w) hls W D _ _ (by omega) hK rfl rfl);have h8:Sv (W.putObj D (.deferred none)) c d s b ⟨l,w.heap.size,W0.heap.size⟩ (bg c d V Z m) (n0+5 * len):=i5.grown (grownBy_putObj' W D _) (fun r e=>by cases e;exact ⟨by omega,.inr ⟨_,hK,rfl⟩⟩);have H8:=fQ h8;have H9:=fQ h9;have HA:=fQ hall;clear h8 h9 hall i5 i6 i7 g1 g2 hnf hp e2 em;gi_wp2;refine ⟨by simp,.inl ⟨_,_,rfl,run_takeDeferred hK,?_⟩⟩;exact ⟨_,results_tmp rfl _ _ _,by rw [HA.o];rfl,⟨_,by rw [HA.o];exact H8.o⟩,H9.o⟩
