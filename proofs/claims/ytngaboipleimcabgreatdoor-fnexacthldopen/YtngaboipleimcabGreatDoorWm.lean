/- Walkers in a map by their numbers: made, looked up, stored; no Go text in sight but the map's types; conditions: those typed. -/
import Derived.Test.YtngaboipleimcabGreatDoorCOk4
import Derived.Deep.RegionHeld
import Derived.Deep.DeepCutAuto
import Derived.Maps.Keyed
import Derived.Maps.Own
import Derived.OwnWalk
set_option linter.unusedVariables false
set_option maxHeartbeats 8000000
set_option maxRecDepth 20000
namespace Go.Proofs.YtngaboipleimcabGreatDoor
open Go.RowKit Go.Deep
theorem KF (c d:Int) (a:Option Addr) (n cap:Nat) (Z:Nat->Nat->Int) (hn:n<=1048576) (w:World) (h:lJ w a n Z) :
 Hz 82 #[.agg #[zI c,zI d],.slice a n cap] w fun e w'=>e=.returned (.bool (allB c d Z n))/\Below w.heap.size w w':=by
 rcases h with rfl | ⟨b,o,rfl,hb,hr⟩
 ·go_enter Tryz.func82,Tryz.ntmps82;go_wp2;refine wp_loop_rounds 1 ?_;rw [rounds_succ];go_wp2;go_ret;exact ⟨rfl,(Hr _ _).alloc (by simp) _⟩
 exact jd c d b o n cap Z hn w hb hr
theorem LQ (c d:Int) (v:Value) (V:CV) (hs:V.short 1048576) (w:World) (h:dL w v V) :
 Hz 50 #[.agg #[zI c,zI d],v] w fun e w'=>e=.returned (.bool (bD c d V))/\Below w.heap.size w w':=by
 obtain ⟨aW,bO,bX,bI,cW,cO,cX,cI,lO,lX,lI,rfl,gW0,gO0,gX0,gI0⟩:=h;obtain ⟨VC,nW,W,VG,nO,N,O,nX,X,nI,I⟩:=V;simp only at gW0 gO0 gX0 gI0;obtain ⟨sW,sO,sN,sX,sI⟩:=hs;simp only at sW sO sN sX sI;have gW:=fQ gW0;have gO:=fQ gO0;have gX:=fQ gX0;have gI:=fQ gI0;have HN:bY (∀ k,k<nO->N k<=1048576):=sN;clear gW0 gO0 gX0 gI0 sN;go_enter Tryz.func50,Tryz.ntmps50;go_wp2_with fail;obtain ⟨w0,e0,z0,B0,A0,M0⟩:=qG w c d (zI VC) (.slice aW nW cW) (zI VG) (zS bO nO cO) (zS bX nX cX) (zS bI nI cI);rw [<-e0];clear e0;refine (dM _ _ _).mono ?_;rintro e w1 ⟨rfl,hb1⟩;have B1:=fQ (ah B0.o hb1);have A1:=fQ (A0.o.q (by omega) hb1);have M1:=fQ (bH (by omega) hb1 M0.o);have z1:w.heap.size+2<=w1.heap.size:=Hq z0 hb1.size;clear hb1 A0 M0 B0;obtain ⟨a0,a1,a2,a3,a4,a5⟩:=A1.o.a6;have m0:=M1.o.1;have m1:=M1.o.2;have lA:w.heap.size+1<w1.heap.size:=by omega
 have lM:w.heap.size<w1.heap.size:=by omega
 cases h0:okB c d
 ·have E:bY (bD c d ⟨VC,nW,W,VG,nO,N,O,nX,X,nI,I⟩=false):=by show bD c d ⟨VC,nW,W,VG,nO,N,O,nX,X,nI,I⟩=false;simp only [bD];simp [hasB,h0]
  go_wp2;go_ret;exact ⟨by rw [E.o];rfl,B1.o⟩
 obtain ⟨x1,x2,x3,x4⟩:=fD h0;go_wp2_with fail;refine (dh _ _ _ _).mono ?_;rintro e w2 ⟨rfl,e2⟩;rw [e2];clear e2 w2;cases h1:inB VC 0 (c - 1)
 ·have E:bY (bD c d ⟨VC,nW,W,VG,nO,N,O,nX,X,nI,I⟩=false):=by show bD c d ⟨VC,nW,W,VG,nO,N,O,nX,X,nI,I⟩=false;simp only [bD];simp [hasB,h0,h1]
  go_wp2;go_ret;exact ⟨by rw [E.o];rfl,B1.o⟩
 go_wp2_with fail;refine (KF c d aW nW cW W sW _ (iV gW.o B1.o)).mono ?_;rintro e w2 ⟨rfl,hb2⟩;clear a0 a1 a2 a3 a4 a5 m0 m1 lA lM;have B2:=fQ (ah B1.o hb2);have A2:=fQ (A1.o.q (by omega) hb2);have M2:=fQ (bH (by omega) hb2 M1.o);have z2:w.heap.size+2<=w2.heap.size:=Hq z1 hb2.size;clear hb2 A1 M1 B1;obtain ⟨a0,a1,a2,a3,a4,a5⟩:=A2.o.a6;have m0:=M2.o.1;have m1:=M2.o.2;have lA:w.heap.size+1<w2.heap.size:=by omega
 have lM:w.heap.size<w2.heap.size:=by omega
 cases h2:allB c d W nW
 ·have E:bY (bD c d ⟨VC,nW,W,VG,nO,N,O,nX,X,nI,I⟩=false):=by show bD c d ⟨VC,nW,W,VG,nO,N,O,nX,X,nI,I⟩=false;simp only [bD];rw [h2];simp
  go_wp2;go_ret;exact ⟨by rw [E.o];rfl,B2.o⟩
 go_wp2_with fail;refine (dh _ _ _ _).mono ?_;rintro e w3 ⟨rfl,e3⟩;rw [e3];clear e3 w3;cases h3:inB VG 0 900
 ·have E:bY (bD c d ⟨VC,nW,W,VG,nO,N,O,nX,X,nI,I⟩=false):=by show bD c d ⟨VC,nW,W,VG,nO,N,O,nX,X,nI,I⟩=false;simp only [bD];rw [h3];simp
  go_wp2;go_ret;exact ⟨by rw [E.o];rfl,B2.o⟩
 by_cases gO2:¬ nO=2
 ·have gO2':((nO:Int) != 2)=true:=by simp;omega
  have E:bY (bD c d ⟨VC,nW,W,VG,nO,N,O,nX,X,nI,I⟩=false):=by show bD c d ⟨VC,nW,W,VG,nO,N,O,nX,X,nI,I⟩=false;simp only [bD];simp [gO2]
  go_wp2;go_ret;exact ⟨by rw [E.o];rfl,B2.o⟩
 obtain rfl:nO=2:=by omega
 clear gO2;by_cases gX2:¬ nX=2
 ·have gX2':((nX:Int) != 2)=true:=by simp;omega
  have E:bY (bD c d ⟨VC,nW,W,VG,2,N,O,nX,X,nI,I⟩=false):=by show bD c d ⟨VC,nW,W,VG,2,N,O,nX,X,nI,I⟩=false;simp only [bD];simp [gX2]
  go_wp2;go_ret;exact ⟨by rw [E.o];rfl,B2.o⟩
 obtain rfl:nX=2:=by omega
 clear gX2;by_cases gI2:¬ nI=2
 ·have gI2':((nI:Int) != 2)=true:=by simp;omega
  have E:bY (bD c d ⟨VC,nW,W,VG,2,N,O,2,X,nI,I⟩=false):=by show bD c d ⟨VC,nW,W,VG,2,N,O,2,X,nI,I⟩=false;simp only [bD];simp [gI2]
  go_wp2;go_ret;exact ⟨by rw [E.o];rfl,B2.o⟩
 obtain rfl:nI=2:=by omega
 clear gI2;have h01:hasB c d VC=true:=by simp [hasB,h0,h1]
 have EL:bY (bD c d ⟨VC,nW,W,VG,2,N,O,2,X,2,I⟩=(iM (fun k=>!(aQ c d (W k 1) != VC)) nW && (dN c d VC 0 (N 0) (O 0) (X 0) (I 0) && dN c d VC 1 (N 1) (O 1) (X 1) (I 1)))):=by
  show bD c d ⟨VC,nW,W,VG,2,N,O,2,X,2,I⟩=_;simp only [bD];rw [h01,h2,h3];rfl
 have ES:bY (iM (fun k=>!(aQ c d (W k 1) != VC)) nW=false->bD c d ⟨VC,nW,W,VG,2,N,O,2,X,2,I⟩=false):=fun h=>by rw [EL.o,h];rfl
 go_wp2;go_loopw [5] (fun i wr=>∃ k:Nat,k<=nW/\i=zI k/\iM (fun k=>!(aQ c d (W k 1) != VC)) k=true/\Below w2.heap.size w2 wr) (fun i _=>nW - (intOf i).toNat)
 case atStart=>exact ⟨0,Nat.zero_le _,rfl,rfl,Hr _ _⟩
 case round =>
  clear a0 a1 a2 a3 a4 a5 m0 m1 lA lM;obtain ⟨k,hk,rfl,hall,BR⟩:=hrel;have HALL:bY (iM (fun k=>!(aQ c d (W k 1) != VC)) k=true):=hall;clear hall;have hl3:=BR.size;have lA:w.heap.size+1<wr.heap.size:=by omega
  have lM:w.heap.size<wr.heap.size:=by omega
  have a0:wr.cell? (zA (w.heap.size+1) 0)=some (zI VC):=(BR.cell (p:=(zA (w.heap.size+1) 0)) (by show w.heap.size+1<_;omega)).trans (A2.o 0 (by decide)).1;have a1:wr.cell? (zA (w.heap.size+1) 1)=some (.slice aW nW cW):=(BR.cell (p:=(zA (w.heap.size+1) 1)) (by show w.heap.size+1<_;omega)).trans (A2.o 1 (by decide)).1;have a2:wr.cell? (zA (w.heap.size+1) 2)=some (zI VG):=(BR.cell (p:=(zA (w.heap.size+1) 2)) (by show w.heap.size+1<_;omega)).trans (A2.o 2 (by decide)).1;have a3:wr.cell? (zA (w.heap.size+1) 3)=some (zS bO 2 cO):=(BR.cell (p:=(zA (w.heap.size+1) 3)) (by show w.heap.size+1<_;omega)).trans (A2.o 3 (by decide)).1;have a4:wr.cell? (zA (w.heap.size+1) 4)=some (zS bX 2 cX):=(BR.cell (p:=(zA (w.heap.size+1) 4)) (by show w.heap.size+1<_;omega)).trans (A2.o 4 (by decide)).1;have a5:wr.cell? (zA (w.heap.size+1) 5)=some (zS bI 2 cI):=(BR.cell (p:=(zA (w.heap.size+1) 5)) (by show w.heap.size+1<_;omega)).trans (A2.o 5 (by decide)).1;have m0:wr.cell? (zA w.heap.size 0)=some (zI c):=(BR.cell (p:=(zA w.heap.size 0)) (by show w.heap.size<_;omega)).trans M2.o.1;have m1:wr.cell? (zA w.heap.size 1)=some (zI d):=(BR.cell (p:=(zA w.heap.size 1)) (by show w.heap.size<_;omega)).trans M2.o.2;by_cases hkn:k<nW
  ·have hkn':(k:Int)<nW:=by omega
   obtain ⟨bW,o,rfl,lW,hr⟩:=gW.o.resolve_left (by omega);have lW2:bW<w2.heap.size:=by omega
   have lW':bW<wr.heap.size:=by omega
   have c0:=cq5 (fun j hj=>(BR.cell (p:=(zA bW (o+k * 5+j))) lW2).trans ((B2.o.cell (p:=(zA bW (o+k * 5+j))) lW).trans (hr k j hkn (by omega))));clear hr;go_wp2;refine Hu (S:=fun w'=>(∀ b o,b<wr.heap.size->w'.cell? (zA b o)=wr.cell? (zA b o))/\wr.heap.size<=w'.heap.size) (by kernel_rfl) ⟨fun _ _ _=>rfl,Ho _⟩ ?_;intro af;refine aA 0 (.agg #[zI c,zI d]) rfl ?_;refine aA 1 (zP (w.heap.size+1) 1) rfl ?_;refine aA 2 (.slice (some (zA bW o)) nW cW) rfl ?_;refine aA 3 (zI (k:Int)) rfl ?_;refine aA 4 (.pointer (some (zA bW (o+k * 5)))) rfl ?_;refine aA 5 (.pointer (some (zA bW (o+k * 5+1)))) rfl ?_;refine aA 6 (zI (W k 1)) rfl ?_;refine aA 8 (zP (w.heap.size+1) 0) rfl ?_;refine aA 9 (zI VC) rfl ?_;refine di 7 rfl fun K hK=>?_;go_simp;go_wp2_with (go_at_call 83;refine (dD _ _ _ _).mono ?_;rintro e v2 ⟨rfl,hbv2⟩);refine hK.out _ _ (bM (by assumption) hbv2) (fun af=>?_);clear hK K;try simp only [aT]
   cases hp:(aQ c d (W k 1) != VC)
   ·refine aA 10 (.bool false) rfl ?_;refine Hy (by kernel_rfl) ?_ _;go_wp2;go_roundw
    case rel=>exact ⟨k+1,by omega,by go_num,ja HALL.o (by simp [hp]),by repeat (first | exact BR | refine ah ?_ (by assumption) | apply Below.drew)⟩
    case measure=>simp [intOf];omega
   have EG:iM (fun k=>!(aQ c d (W k 1) != VC)) nW=false:=kK hkn (by simp [hp]);refine aA 10 (.bool true) rfl ?_;refine Hy (by kernel_rfl) ?_ _;go_wp2;go_ret;exact ⟨by rw [ES.o EG];rfl,ah B2.o (by repeat (first | exact BR | refine ah ?_ (by assumption) | apply Below.drew))⟩
  have:k=nW:=by omega
  subst this;have B3:=fQ (ah B2.o BR);have A3:bY (Six wr (w.heap.size+1) [zI VC,.slice aW k cW,zI VG,zS bO 2 cO,zS bX 2 cX,zS bI 2 cI]):=A2.o.q (by omega) BR;have M3:bY (wr.cell? (zA w.heap.size 0)=some (zI c)/\wr.cell? (zA w.heap.size 1)=some (zI d)):=⟨m0,m1⟩;have z3:w.heap.size+2<=wr.heap.size:=by omega
  clear BR A2 M2 B2;go_wp2_with fail;obtain ⟨y,cc,fO,fr⟩:=gO.o 0 (by decide);refine (qf c d VC VG _ bO bX bI cO cX cI 0 y (N 0) cc (O 0) (X 0) (I 0) 0 (.inl ⟨rfl,rfl⟩) (HN.o 0 (by decide)) _ (by omega) (by omega) (by omega) ((B3.o.cell (p:=zA bO 0) lO).trans fO) ((B3.o.cell (p:=zA bX 0) lX).trans (gX.o 0 (by decide))) ((B3.o.cell (p:=zA bI 0) lI).trans (gI.o 0 (by decide))) (lQ fr B3.o)).mono ?_;rintro e w4 ⟨rfl,hb4⟩;clear fO fr a0 a1 a2 a3 a4 a5 m0 m1 lA lM;have B4:=fQ (ah B3.o hb4);have A4:=fQ (A3.o.q (by omega) hb4);have M4:=fQ (bH (by omega) hb4 M3.o);have z4:w.heap.size+2<=w4.heap.size:=Hq z3 hb4.size;clear hb4 A3 M3 B3;obtain ⟨a0,a1,a2,a3,a4,a5⟩:=A4.o.a6;have m0:=M4.o.1;have m1:=M4.o.2;have lA:w.heap.size+1<w4.heap.size:=by omega
  have lM:w.heap.size<w4.heap.size:=by omega
  cases h4:dN c d VC 0 (N 0) (O 0) (X 0) (I 0)
  ·go_wp2;go_ret;exact ⟨by rw [EL.o,HALL.o,h4];rfl,B4.o⟩
  go_wp2_with fail;obtain ⟨y,cc,fO,fr⟩:=gO.o 1 (by decide);refine (qf c d VC VG _ bO bX bI cO cX cI 1 y (N 1) cc (O 1) (X 1) (I 1) 1 (.inr ⟨rfl,rfl⟩) (HN.o 1 (by decide)) _ (by omega) (by omega) (by omega) ((B4.o.cell (p:=zA bO 1) lO).trans fO) ((B4.o.cell (p:=zA bX 1) lX).trans (gX.o 1 (by decide))) ((B4.o.cell (p:=zA bI 1) lI).trans (gI.o 1 (by decide))) (lQ fr B4.o)).mono ?_;rintro e w5 ⟨rfl,hb5⟩;clear fO fr a0 a1 a2 a3 a4 a5 m0 m1 lA lM;have B5:=fQ (ah B4.o hb5);have A5:=fQ (A4.o.q (by omega) hb5);have M5:=fQ (bH (by omega) hb5 M4.o);have z5:w.heap.size+2<=w5.heap.size:=Hq z4 hb5.size;clear hb5 A4 M4 B4;cases h5:dN c d VC 1 (N 1) (O 1) (X 1) (I 1);all_goals
   go_wp2
   go_ret
   exact ⟨by rw [EL.o,HALL.o,h4,h5];rfl,B5.o⟩
open Go
section
variable {P:Program} {ops:Array Oper} {Q:Exit->Act->World->Prop}
def EK (L:Nat->Bool) (i:Nat):Nat->Bool:=fun j=>if j=i then true else L j
def Hf (o:Oper) (L:Nat->Bool):Prop:=∀ e ∈ o.after,Region.binds .any e=true->L e.on=true
def qN (P:Program) (ops:Array Oper) (Q:Exit->Act->World->Prop) (Inv:(Nat->Bool)->Act->World->Prop):List Oper->Nat->Prop
 | [],_=>True
 | o :: r,i=>(∀ (L:Nat->Bool) (a:Act) (w:World) (K':Act->World->Prop),Hf o L->L i=false->Inv L a w->Shut (∀ a' w',Inv (EK L i) a' w'->K' a' w') ->
  if Region.wanted o (yielded ops a.tmps)=true then Oper.wp P o a w K' Q else K' (a.put o.dst undef) w)/\qN P ops Q Inv r (i+1)
theorem qN.at {Inv:(Nat->Bool)->Act->World->Prop}:∀ {l:List Oper} {k:Nat},qN P ops Q Inv l k->∀ {i:Nat} {o:Oper},l[i]? = some o ->
 ∀ (L:Nat->Bool) (a:Act) (w:World) (K':Act->World->Prop),Hf o L->L (k+i)=false->Inv L a w->Shut (∀ a' w',Inv (EK L (k+i)) a' w'->K' a' w') ->
  if Region.wanted o (yielded ops a.tmps)=true then Oper.wp P o a w K' Q else K' (a.put o.dst undef) w
 | [],_,_,i,o,h=>by simp at h
 | x :: r,k,hs,0,o,h=>by
  simp at h
  subst h
  exact hs.1
 | x :: r,k,hs,i+1,o,h=>by
  have:=qN.at hs.2 (i:=i) (o:=o) (by simpa using h)
  rw [show k+1+i=k+(i+1) by omega] at this
  exact this
end
def blk:Value->Option Nat
 | .slice (some a) _ _=>some a.block
 | .pointer (some a)=>some a.block
 | _=>none
def G8 (lo:Nat) (w:World) (u:Value):Prop:=∀ b,blk u=some b->lo<=b/\b<w.heap.size
theorem G8.up {lo:Nat} {w w':World} {u:Value} (h:G8 lo w u) (hs:w.heap.size<=w'.heap.size):G8 lo w' u:=fun b e=>⟨(h b e).1,Hg (h b e).2 hs⟩
def aG (w:World) (g:Nat) (v0 v1 v2 v3 v4 v5:Value):World:=(((((w.setCell (zA g 0) v0).setCell (zA g 1) v1).setCell (zA g 2) v2).setCell (zA g 3) v3).setCell (zA g 4) v4).setCell (zA g 5) v5
theorem ax {n:Nat} {a w:World} (h:Below n a w) {g:Nat} (hg:n<=g) (v0 v1 v2 v3 v4 v5:Value):Below n a (aG w g v0 v1 v2 v3 v4 v5) :=
 (((((h.setCell (p:=(zA g 0)) hg _).setCell (p:=(zA g 1)) hg _).setCell (p:=(zA g 2)) hg _).setCell (p:=(zA g 3)) hg _).setCell (p:=(zA g 4)) hg _).setCell (p:=(zA g 5)) hg _
theorem au (w:World) (g:Nat) (v0 v1 v2 v3 v4 v5:Value):(aG w g v0 v1 v2 v3 v4 v5).heap.size=w.heap.size:=by simp [aG,World.setCell]
theorem aH {w:World} {g b:Nat} (h:¬ g=b) (v0 v1 v2 v3 v4 v5:Value):Sm w (aG w g v0 v1 v2 v3 v4 v5) b:=by
 intro o;unfold aG;refine ⟨?_,?_⟩
 ·rw [aJ (fun e=>h e.1),aJ (fun e=>h e.1),aJ (fun e=>h e.1),aJ (fun e=>h e.1),aJ (fun e=>h e.1),aJ (fun e=>h e.1)]
 rw [aB,aB,aB,aB,aB,aB]
theorem iH (lo hi:Nat) (w:World):aV lo hi w (.agg zN.toArray) ⟨0,0,fun _ _=>0,0,0,fun _=>0,fun _ _ _=>0,0,fun _=>0,0,fun _=>0⟩ :=
 ⟨_,_,_,_,0,1,2,3,fun _=>undef,fun _=>0,rfl,.inl ⟨rfl,none,0,rfl⟩,.inl ⟨rfl,none,0,rfl⟩,.inl ⟨rfl,none,0,rfl⟩,.inl ⟨rfl,none,0,rfl⟩,⟨by decide,by decide,by decide,by decide,by decide,by decide⟩,fun _ h=>absurd h (Nat.not_lt_zero _),fun _ _ h=>absurd h (Nat.not_lt_zero _)⟩
theorem bP {w:World} {base e m n:Nat} {v:Value} {xs:List Value} (h:w.ownsRow base e m v n xs):∃ a l c,v=.slice a l c:=by
 rcases h.2 with ⟨e,_⟩ | ⟨g,cap,cur,hv,_⟩
 ·exact ⟨_,_,_,e⟩
 exact ⟨_,_,_,hv⟩
theorem Gy {W w1 w2:World} {m k g:Nat} (h:(∀ b o,b<m->¬ b=g->w1.cell? (zA b o)=W.cell? (zA b o))/\k<=w1.heap.size) (hmk:m<=k) (hs:∀ b,b<m->¬ b=g->Sm w1 w2 b) (hz:w1.heap.size<=w2.heap.size) :
 (∀ b o,b<m->¬ b=g->w2.cell? (zA b o)=W.cell? (zA b o))/\k<=w2.heap.size :=
 ⟨fun b o hlt hne=>(hs b hlt hne o).1.trans (h.1 b o hlt hne),Hq h.2 hz⟩
theorem P8.mr {w w':World} {r:Option Nat} (h:Below w.heap.size w w'):w.grownBy w' r:=by
 have:=P8.jg h;exact ⟨this.os,this.tape,this.output,this.size,fun k hk _=>this.block k hk (by simp)⟩
theorem CV.short.more {V:CV} {m n:Nat} (h:V.short m) (hmn:m<=n):V.short n :=
 ⟨Hq h.1 hmn,Hq h.2.1 hmn,fun k hk=>Hq (h.2.2.1 k hk) hmn,Hq h.2.2.2.1 hmn,Hq h.2.2.2.2 hmn⟩
theorem aV.sm {lo hi:Nat} {w w':World} {v:Value} {V:CV} (h:aV lo hi w v V) (hs:w.heap.size<=w'.heap.size) (k:∀ b,lo<=b->b<hi->Sm w w' b):aV lo hi w' v V:=by
 obtain ⟨vW,vO,vX,vI,gW,gO,gX,gI,sl,xs,e,rW,rO,rX,rI,hd,hx1,hx2⟩:=h;exact ⟨vW,vO,vX,vI,gW,gO,gX,gI,sl,xs,e,rW.sm hs (k gW),rO.sm hs (k gO) (fun i _=>k (xs i)),rX.sm hs (k gX),rI.sm hs (k gI),hd,hx1,hx2⟩
theorem aV.q {lo hi:Nat} {w w':World} {v:Value} {V:CV} (h:aV lo hi w v V) (hh:hi<=w.heap.size) (hb:Below w.heap.size w w'):aV lo hi w' v V :=
 h.sm hb.size (fun b _ hb'=>aj hb (Hg hb' hh))
theorem aV.at {lo hi:Nat} {w:World} {v:Value} {V:CV} (h:aV lo hi w v V):iO w v V:=by
 obtain ⟨vW,vO,vX,vI,gW,gO,gX,gI,sl,xs,rfl,rW,rO,rX,rI,hd,hx1,hx2⟩:=h;have hW:∃ a k,vW=.slice a V.nW k/\lJ w a V.nW V.W:=by
  rcases rW with ⟨e,a,k,rfl⟩ | ⟨k,rfl,h1,h2,h3,h4⟩
  ·exact ⟨a,k,by rw [e],.inl e⟩
  exact ⟨_,k,rfl,mP h4 (by omega)⟩
 have hI:∀ (v:Value) (n:Nat) (X:Nat->Int) (g:Nat),RI lo hi w v n X g->∃ a k,v=.slice a n k/\Row1 w a n X:=fun v n X g r=>by
  rcases r with ⟨e,a,k,rfl⟩ | ⟨k,rfl,h1,h2,h3,h4⟩
  ·exact ⟨a,k,by rw [e],.inl e⟩
  exact ⟨_,k,rfl,mO h4 (by omega)⟩
 have hO:∃ a k,vO=.slice a V.nO k/\mD w a V.nO V.N V.O:=by
  rcases rO with ⟨e,a,k,rfl⟩ | ⟨k,rfl,h1,h2,h3,h4⟩
  ·exact ⟨a,k,by rw [e],.inl e⟩
  refine ⟨_,k,rfl,.inr ⟨gO,0,rfl,by omega,fun i hi=>?_⟩⟩;obtain ⟨hc,hp⟩:=h4 i hi;rcases hp with ⟨e,a,k',e2⟩ | ⟨k',e2,h1,h2,h3,h4⟩
  ·exact ⟨a,k',by rw [Nat.zero_add,hc,e2,e],.inl e⟩
  exact ⟨_,k',by rw [Nat.zero_add,hc,e2],qE h4 (by omega)⟩
 obtain ⟨aW,kW,rfl,qW⟩:=hW;obtain ⟨aO,kO,rfl,qO⟩:=hO;obtain ⟨aX,kX,rfl,qX⟩:=hI _ _ _ _ rX;obtain ⟨aI,kI,rfl,qI⟩:=hI _ _ _ _ rI;exact ⟨aW,kW,aO,kO,aX,kX,aI,kI,rfl,qW,qO,qX,qI⟩
theorem yc (w:World) (v0 v1 v2 v3 v4 v5:Value):Six (((w.alloc (.cells #[v0,v1,v2,v3,v4,v5] 36)).alloc (.cells zN.toArray 36)).alloc (.cells #[v0,v1,v2,v3,v4,v5] 36)) w.heap.size [v0,v1,v2,v3,v4,v5] /\
 Six (((w.alloc (.cells #[v0,v1,v2,v3,v4,v5] 36)).alloc (.cells zN.toArray 36)).alloc (.cells #[v0,v1,v2,v3,v4,v5] 36)) (w.heap.size+1) zN /\
 Six (((w.alloc (.cells #[v0,v1,v2,v3,v4,v5] 36)).alloc (.cells zN.toArray 36)).alloc (.cells #[v0,v1,v2,v3,v4,v5] 36)) (w.heap.size+1+1) [v0,v1,v2,v3,v4,v5]:=by
 generalize ha:w.alloc (.cells #[v0,v1,v2,v3,v4,v5] 36)=wa;have za:wa.heap.size=w.heap.size+1:=by rw [<-ha];simp
 have sa:Six wa w.heap.size [v0,v1,v2,v3,v4,v5]:=by rw [<-ha];exact fM w 36 v0 v1 v2 v3 v4 v5
 generalize hb:wa.alloc (.cells zN.toArray 36)=wb;have zb:wb.heap.size=w.heap.size+1+1:=by rw [<-hb];simp [za]
 have kb:Below wa.heap.size wa wb:=by rw [<-hb];exact (Hr _ _).alloc (Ho _) _
 have sb:Six wb (w.heap.size+1) zN:=by rw [<-hb,<-za];exact fM wa 36 _ _ _ _ _ _
 have kc:Below wb.heap.size wb (wb.alloc (.cells #[v0,v1,v2,v3,v4,v5] 36)):=(Hr _ _).alloc (Ho _) _;refine ⟨(sa.q (by omega) kb).q (by omega) kc,sb.q (by omega) kc,?_⟩;rw [<-zb];exact fM wb 36 v0 v1 v2 v3 v4 v5
theorem RP.move {lo hi hi':Nat} {w w':World} {v:Value} {n:Nat} {Z:Nat->Nat->Int} {g:Nat} (h:RP lo hi w v n Z g) (h1:hi<=hi') (h2:hi'<=w'.heap.size) (k:lo<=g->g<hi->Sm w w' g):RP lo hi' w' v n Z g:=by
 rcases h with h | ⟨c,a1,a2,a3,a4,a5⟩
 ·exact .inl h
 exact .inr ⟨c,a1,a2,by omega,h2,nK a5 (k a2 a3)⟩
theorem RP.low {lo lo' hi:Nat} {w:World} {v:Value} {n:Nat} {Z:Nat->Nat->Int} {g:Nat} (h:RP lo hi w v n Z g) (h1:lo'<=lo):RP lo' hi w v n Z g:=by
 rcases h with h | ⟨c,a1,a2,a3,a4,a5⟩
 ·exact .inl h
 exact .inr ⟨c,a1,by omega,a3,a4,a5⟩
theorem RW.move {lo lo' hi hi':Nat} {w w':World} {v:Value} {n:Nat} {Z:Nat->Nat->Int} {g:Nat} (h:RW lo hi w v n Z g) (h0:lo'<=lo) (h1:hi<=hi') (h2:hi'<=w'.heap.size) (k:lo<=g->g<hi->Sm w w' g):RW lo' hi' w' v n Z g:=by
 rcases h with h | ⟨c,a1,a2,a3,a4,a5⟩
 ·exact .inl h
 exact .inr ⟨c,a1,by omega,by omega,h2,uY a5 (k a2 a3)⟩
theorem RI.move {lo lo' hi hi':Nat} {w w':World} {v:Value} {n:Nat} {X:Nat->Int} {g:Nat} (h:RI lo hi w v n X g) (h0:lo'<=lo) (h1:hi<=hi') (h2:hi'<=w'.heap.size) (k:lo<=g->g<hi->Sm w w' g):RI lo' hi' w' v n X g:=by
 rcases h with h | ⟨c,a1,a2,a3,a4,a5⟩
 ·exact .inl h
 exact .inr ⟨c,a1,by omega,by omega,h2,qZ a5 (k a2 a3)⟩
theorem RW.pick {lo hi:Nat} {w:World} {v:Value} {n:Nat} {Z:Nat->Nat->Int} {g:Nat} (h:RW lo hi w v n Z g) (f:Nat):∃ g',RW lo hi w v n Z g'/\((n=0/\g'=f)∨(n≠0/\g'=g/\g<hi)):=by
 by_cases e:n=0
 ·refine ⟨f,.inl ⟨e,?_⟩,.inl ⟨e,rfl⟩⟩;rcases h with ⟨_,a,c,h⟩ | ⟨c,h,_⟩
  ·exact ⟨a,c,h⟩
  exact ⟨_,c,by rw [h,e]⟩
 refine ⟨g,h,.inr ⟨e,rfl,?_⟩⟩;rcases h with ⟨h,_⟩ | ⟨c,_,_,h,_⟩
 ·exact absurd h e
 exact h
theorem RI.pick {lo hi:Nat} {w:World} {v:Value} {n:Nat} {Z:Nat->Int} {g:Nat} (h:RI lo hi w v n Z g) (f:Nat):∃ g',RI lo hi w v n Z g'/\((n=0/\g'=f)∨(n≠0/\g'=g/\g<hi)):=by
 by_cases e:n=0
 ·refine ⟨f,.inl ⟨e,?_⟩,.inl ⟨e,rfl⟩⟩;rcases h with ⟨_,a,c,h⟩ | ⟨c,h,_⟩
  ·exact ⟨a,c,h⟩
  exact ⟨_,c,by rw [h,e]⟩
 refine ⟨g,h,.inr ⟨e,rfl,?_⟩⟩;rcases h with ⟨h,_⟩ | ⟨c,_,_,h,_⟩
 ·exact absurd h e
 exact h
theorem RP.pick {lo hi:Nat} {w:World} {v:Value} {n:Nat} {Z:Nat->Nat->Int} {g:Nat} (h:RP lo hi w v n Z g) (f:Nat):RP lo hi w v n Z (if n=0 then f else g)/\(n≠0->g<hi):=by
 by_cases e:n=0
 ·refine ⟨.inl ⟨e,?_⟩,fun h=>absurd e h⟩;rcases h with ⟨_,a,c,h⟩ | ⟨c,h,_⟩
  ·exact ⟨a,c,h⟩
  exact ⟨_,c,by rw [h,e]⟩
 rw [if_neg e];refine ⟨h,fun _=>?_⟩;rcases h with ⟨h,_⟩ | ⟨c,_,_,h,_⟩
 ·exact absurd h e
 exact h
theorem Ei {lo hi:Nat} {w:World} {V:CV} {vW vX vI:Value} {gW gO gX gI cO:Nat} {sl:Nat->Value} {xs:Nat->Nat} (rW:RW lo hi w vW V.nW V.W gW) (hO1:lo<=gO) (hO2:gO<hi) (hhi:hi<=w.heap.size)
 (rO:∀ k,k<V.nO->w.cell? (zA gO k)=some (sl k)/\RP lo hi w (sl k) (V.N k) (V.O k) (xs k)) (rX:RI lo hi w vX V.nX V.X gX) (rI:RI lo hi w vI V.nI V.I gI)
 (d1:V.nW≠0->gW<gO) (d4:V.nX≠0->gO<gX) (d5:V.nI≠0->gO<gI) (d6:V.nX≠0->V.nI≠0->gX<gI)
 (hx:∀ k,k<V.nO->V.N k≠0->gO<xs k/\(V.nX≠0->xs k<gX)/\(V.nI≠0->xs k<gI)) (hxx:∀ i j,i<j->j<V.nO->V.N i≠0->V.N j≠0->xs i<xs j) :
 aV lo hi w (.agg #[zI V.c,vW,zI V.g,zS gO V.nO cO,vX,vI]) V:=by
 obtain ⟨pW,rW',cW⟩:=rW.pick hi;obtain ⟨pX,rX',cX⟩:=rX.pick (hi+1);obtain ⟨pI,rI',cI⟩:=rI.pick (hi+2);refine ⟨vW,_,vX,vI,pW,gO,pX,pI,sl,fun k=>if V.N k=0 then hi+3+k else xs k,rfl,rW',.inr ⟨cO,rfl,hO1,hO2,hhi,fun k hk=>⟨(rO k hk).1,((rO k hk).2.pick (hi+3+k)).1⟩⟩,rX',rI',?_,fun k hk=>?_,fun i j hi' hj' hne=>?_⟩
 ·refine ⟨?_,?_,?_,?_,?_,?_⟩
  ·rcases cW with ⟨_,rfl⟩ | ⟨e,rfl,_⟩
   ·omega
   have:=d1 e;omega
  ·rcases cW with ⟨_,rfl⟩ | ⟨e,rfl,_⟩ <;> rcases cX with ⟨_,rfl⟩ | ⟨e2,rfl,_⟩ <;> first | omega | (have:=d1 e;have:=d4 e2;omega)
  ·rcases cW with ⟨_,rfl⟩ | ⟨e,rfl,_⟩ <;> rcases cI with ⟨_,rfl⟩ | ⟨e2,rfl,_⟩ <;> first | omega | (have:=d1 e;have:=d5 e2;omega)
  ·rcases cX with ⟨_,rfl⟩ | ⟨e2,rfl,_⟩ <;> first | omega | (have:=d4 e2;omega)
  ·rcases cI with ⟨_,rfl⟩ | ⟨e2,rfl,_⟩ <;> first | omega | (have:=d5 e2;omega)
  rcases cX with ⟨_,rfl⟩ | ⟨e,rfl,_⟩ <;> rcases cI with ⟨_,rfl⟩ | ⟨e2,rfl,_⟩ <;> first | omega | (have:=d6 e e2;omega)
 ·have hb:=((rO k hk).2.pick (hi+3+k)).2;dsimp only;by_cases e0:V.N k=0
  ·rw [if_pos e0];refine ⟨?_,by omega,?_,?_⟩
   ·rcases cW with ⟨_,rfl⟩ | ⟨e,rfl,_⟩ <;> omega
   ·rcases cX with ⟨_,rfl⟩ | ⟨e,rfl,_⟩ <;> omega
   rcases cI with ⟨_,rfl⟩ | ⟨e,rfl,_⟩ <;> omega
  rw [if_neg e0];have h1:=hb e0;obtain ⟨h2,h3,h4⟩:=hx k hk e0;refine ⟨?_,by omega,?_,?_⟩
  ·rcases cW with ⟨_,rfl⟩ | ⟨e,rfl,_⟩ <;> first | omega | (have:=d1 e;omega)
  ·rcases cX with ⟨_,rfl⟩ | ⟨e,rfl,_⟩ <;> first | omega | (have:=h3 e;omega)
  rcases cI with ⟨_,rfl⟩ | ⟨e,rfl,_⟩ <;> first | omega | (have:=h4 e;omega)
 have b1:=((rO i hi').2.pick (hi+3+i)).2;have b2:=((rO j hj').2.pick (hi+3+j)).2;dsimp only;by_cases e1:V.N i=0
 ·rw [if_pos e1];by_cases e2:V.N j=0
  ·rw [if_pos e2];omega
  rw [if_neg e2];have:=b2 e2;omega
 rw [if_neg e1];have:=b1 e1;by_cases e2:V.N j=0
 ·rw [if_pos e2];omega
 rw [if_neg e2];rcases Nat.lt_or_gt_of_ne hne with h | h
 ·have:=hxx i j h hj' e1 e2;omega
 have:=hxx j i h hi' e2 e1;omega
theorem RP.shape' {lo hi:Nat} {w:World} {v:Value} {n:Nat} {Z:Nat->Nat->Int} {g:Nat} (h:RP lo hi w v n Z g):∃ a c,v=.slice a n c:=by
 rcases h with ⟨e,a,c,h⟩ | ⟨c,h,_⟩
 ·exact ⟨a,c,by rw [h,e]⟩
 exact ⟨_,c,h⟩
def Rm (lo hi:Nat) (w:World) (v:Value) (n:Nat):Prop:=(n=0->∃ a,v=.slice a 0 0)/\∀ g c,v=zS g n c->n≠0->n<=c/\c<=maxLen/\lo<=g/\g<hi/\∀ i,i<c * 8->(w.cell? (zA g i)).isSome=true/\w.frozen? (zA g i)=false
def jT (lo hi:Nat) (w:World) (v:Value) (n:Nat) (Z:Nat->Nat->Int) (g:Nat):Prop:=RP lo hi w v n Z g/\Rm lo hi w v n
theorem Rm.sm {lo hi lo' hi':Nat} {w w':World} {v:Value} {n:Nat} (h:Rm lo hi w v n) (h0:lo'<=lo) (h1:hi<=hi') (k:∀ g c,v=zS g n c->n≠0->lo<=g->g<hi->Sm w w' g):Rm lo' hi' w' v n :=
 ⟨h.1,fun g c e hn=>by
  obtain ⟨a1,a2,a3,a4,a5⟩:=h.2 g c e hn
  have s:=k g c e hn a3 a4
  exact ⟨a1,a2,by omega,by omega,fun i hi=>by rw [(s i).1,(s i).2];exact a5 i hi⟩⟩
theorem RP.blk {lo hi:Nat} {w:World} {v:Value} {n:Nat} {Z:Nat->Nat->Int} {g g' c:Nat} (h:RP lo hi w v n Z g) (hn:n≠0) (e:v=zS g' n c):g'=g:=by
 rcases h with ⟨h,_⟩ | ⟨c,a1,_⟩
 ·exact absurd h hn
 rw [a1] at e;simp only [Value.slice.injEq,Option.some.injEq,Addr.mk.injEq] at e;exact e.1.1.symm
theorem jT.move {lo hi hi':Nat} {w w':World} {v:Value} {n:Nat} {Z:Nat->Nat->Int} {g:Nat} (h:jT lo hi w v n Z g) (h1:hi<=hi') (h2:hi'<=w'.heap.size) (k:lo<=g->g<hi->Sm w w' g):jT lo hi' w' v n Z g :=
 ⟨h.1.move h1 h2 k,h.2.sm (Ho _) h1 (fun g' c e hn a b=>by have e2:=h.1.blk hn e;subst e2;exact k a b)⟩
theorem jT.low {lo lo' hi:Nat} {w:World} {v:Value} {n:Nat} {Z:Nat->Nat->Int} {g:Nat} (h:jT lo hi w v n Z g) (h1:lo'<=lo):jT lo' hi w v n Z g :=
 ⟨h.1.low h1,h.2.sm h1 (Ho _) (fun g' c e hn a b=>Sm.refl _ _)⟩
theorem nY {w:World} {base n:Nat} {v:Value} {Z:Nat->Nat->Int} (h:w.ownsRow base 69 8 v n ((List.range n).flatMap (P8.eight Z))) (h0:n=0->∃ a,v=.slice a 0 0):∃ g,jT base w.heap.size w v n Z g/\(v.ownBlock=none∨v.ownBlock=some g):=by
 obtain ⟨g,h1,h2⟩:=Ad h;refine ⟨g,⟨h1,h0,fun g' c e hn=>?_⟩,h2⟩;rcases h.2 with ⟨e1,hl⟩ | ⟨g2,cap,cur,hv,a1,a2,a3,a4,a5,_⟩
 ·exact absurd hl hn
 rw [hv] at e;simp only [Value.slice.injEq,Option.some.injEq,Addr.mk.injEq,true_and,and_true] at e;obtain ⟨rfl,rfl⟩:=e;have lt:g2<w.heap.size:=(Array.getElem?_eq_some_iff.1 a2).1;refine ⟨a3,a4,a1,lt,fun i hi=>?_⟩;have hs:i<cur.size:=by rw [a5];exact hi
 exact ⟨by simp [World.cell?,a2,hs],by simp [World.frozen?,a2]⟩
def mV (lo hi:Nat) (w:World) (v:Value):Prop:=∀ x0 x1 x2 g n k x4 x5,v=.agg #[x0,x1,x2,zS g n k,x4,x5]->lo<=g/\g<hi/\(∀ j,j<n->w.frozen? (zA g j)=false)/\∀ j u a m c,j<n->w.cell? (zA g j)=some u->u=.slice a m c->Rm lo hi w u m
theorem mV.sm {lo hi:Nat} {w w':World} {v:Value} (h:mV lo hi w v) (k:∀ b,lo<=b->b<hi->Sm w w' b):mV lo hi w' v:=fun x0 x1 x2 g n c x4 x5 e=>by
 obtain ⟨h1,h2,h3,h4⟩:=h x0 x1 x2 g n c x4 x5 e
 exact ⟨h1,h2,fun j hj=>(k g h1 h2 j).2.trans (h3 j hj),fun j u a m c hj hu hs=>(h4 j u a m c hj ((k g h1 h2 j).1.symm.trans hu) hs).sm (Ho _) (Ho _) (fun b _ _ _ q1 q2=>k b q1 q2)⟩
theorem kV {x0 x1 x2 x3 x4 x5 y0 y1 y2 y3 y4 y5:Value} (h:Value.agg #[x0,x1,x2,x3,x4,x5]=.agg #[y0,y1,y2,y3,y4,y5]):x1=y1/\x3=y3/\x4=y4/\x5=y5:=by
 simp only [Value.agg.injEq] at h;have h:=congrArg Array.toList h;simp at h;exact ⟨h.2.1,h.2.2.2.1,h.2.2.2.2.1,h.2.2.2.2.2⟩
theorem MF (a:Option Addr) (n cap:Nat) (Z:Nat->Nat->Int) (hn:n<=1048576) (w:World) (h:lJ w a n Z) :
 Hz 112 #[.slice a n cap] w fun e w'=>(∃ v,e=.returned v/\w'.ownsRow w.heap.size 67 5 v n ((List.range n).flatMap (aP Z)))/\Below w.heap.size w w':=by
 rcases h with rfl | ⟨b,o,rfl,hb,hr⟩
 ·cases a;all_goals
   go_enter Tryz.func112,Tryz.ntmps112
   go_wp2
   go_ret
   exact ⟨⟨_,rfl,⟨rfl,.inl ⟨rfl,rfl⟩⟩⟩,Hr _ _⟩
 exact GI b o n cap Z hn w hb hr
theorem MG (a:Option Addr) (n cap:Nat) (Z:Nat->Nat->Int) (hn:n<=1048576) (w:World) (h:P8.kC w a n Z) :
 Hz 113 #[.slice a n cap] w fun e w'=>(∃ v,e=.returned v/\w'.ownsRow w.heap.size 69 8 v n ((List.range n).flatMap (P8.eight Z))/\(n=0->∃ a,v=.slice a 0 0))/\Below w.heap.size w w':=by
 rcases h with rfl | ⟨b,o,rfl,hb,hr⟩
 ·cases a;all_goals
   go_enter Tryz.func113,Tryz.ntmps113
   go_wp2
   go_ret
   exact ⟨⟨_,rfl,⟨rfl,.inl ⟨rfl,rfl⟩⟩,fun _=>⟨none,rfl⟩⟩,Hr _ _⟩
 exact Gj b o n cap Z hn w hb hr
theorem LP (v:Value) (V:CV) (hs:V.short 1048576) (w:World) (h:dL w v V) :
 Hz 86 #[v] w fun e w'=>(∃ v',e=.returned v'/\aV w.heap.size w'.heap.size w' v' V/\mV w.heap.size w'.heap.size w' v')/\Below w.heap.size w w':=by
 obtain ⟨aW,bO,bX,bI,cW,cO,cX,cI,q2,q3,q4,rfl,oW,oO,oX,oI⟩:=h;obtain ⟨tW,tO,tN,tX,tI⟩:=hs;have HW:=fQ oW;have HO:=fQ oO;have HX:=fQ oX;have HI:=fQ oI;have HN:bY (∀ k,k<V.nO->V.N k<=1048576):=tN;clear oW oO oX oI tN;have hmk:=EP V.nO tO;go_enter Tryz.func86,Tryz.ntmps86;go_wp2_with fail;obtain ⟨w0,e0⟩:∃ w0,w0=((w.alloc (.cells (zG V aW cW bO cO bX cX bI cI).toArray 36)).alloc (.cells zN.toArray 36)).alloc (.cells (zG V aW cW bO cO bX cX bI cI).toArray 36):=⟨_,rfl⟩;have z0:w.heap.size+3<=w0.heap.size:=by rw [e0];simp
 have B0:bY (Below w.heap.size w w0):=by rw [e0];exact (((Hr _ _).alloc (by simp) _).alloc (by simp) _).alloc (by simp;omega) _
 have F0:=yc w (zI V.c) (.slice aW V.nW cW) (zI V.g) (zS bO V.nO cO) (zS bX V.nX cX) (zS bI V.nI cI);rw [<-e0] at F0 ⊢;clear e0;have A0:bY (Six w0 w.heap.size (zG V aW cW bO cO bX cX bI cI)):=F0.1;have R0:bY (Six w0 (w.heap.size+1) zN):=F0.2.1;have C0:bY (Six w0 (w.heap.size+1+1) (zG V aW cW bO cO bX cX bI cI)):=F0.2.2;clear F0;refine (MF aW V.nW cW V.W tW _ (iV HW.o B0.o)).mono ?_;rintro e w1 ⟨⟨v1,rfl,ho⟩,hb⟩;obtain ⟨wa,wl,wc,hvv⟩:=bP ho;subst hvv;obtain ⟨gW,RW1,_⟩:=gZ ho;have A1:=fQ (A0.o.q (by omega) hb);have R1:=fQ (R0.o.q (by omega) hb);have C1:=fQ (C0.o.q (by omega) hb);have B1:=fQ (ah B0.o hb);have z1:w0.heap.size<=w1.heap.size:=hb.size;have HRW:bY (RW w0.heap.size w1.heap.size w1 (.slice wa wl wc) V.nW V.W gW):=RW1;clear RW1 ho hb A0 R0 C0 B0;obtain ⟨a0,a1,a2,a3,a4,a5⟩:=A1.o.a6;have y0:=C1.o.a6;have f1:=C1.o.f6.2.1;have f3:=C1.o.f6.2.2.2.1;have l1:w.heap.size<w1.heap.size:=by omega
 have l3:w.heap.size+1+1<w1.heap.size:=by omega
 go_wp2;clear a0 a1 a2 a3 a4 a5 y0 f1 f3 l1 l3 hmk;obtain ⟨w2,e2⟩:∃ x,x=((w1.setCell (zA (w.heap.size+1+1) 1) (.slice wa wl wc)).setCell (zA (w.heap.size+1+1) 3) (zS w1.heap.size V.nO V.nO)):=⟨_,rfl⟩;rw [<-e2];have A2:Six w2 w.heap.size (zG V aW cW bO cO bX cX bI cI):=by rw [e2];exact (A1.o.far (by omega)).far (by omega)
 have R2:Six w2 (w.heap.size+1) zN:=by rw [e2];exact (R1.o.far (by omega)).far (by omega)
 have C2:Six w2 (w.heap.size+1+1) [zI V.c,.slice wa wl wc,zI V.g,zS w1.heap.size V.nO V.nO,zS bX V.nX cX,zS bI V.nI cI]:=by rw [e2];exact (C1.o.set (j:=1) (v:=.slice wa wl wc) rfl (by decide)).set (j:=3) (v:=zS w1.heap.size V.nO V.nO) rfl (by decide)
 have B2:Below w.heap.size w w2:=by rw [e2];exact (B1.o.setCell (by simp;omega) _).setCell (by simp;omega) _
 have z2:w2.heap.size=w1.heap.size:=by rw [e2,ay,ay]
 have S2:Sm w1 w2 gW∨gW<w0.heap.size:=by
  by_cases h:gW<w0.heap.size
  ·exact .inr h
  refine .inl (fun o=>⟨?_,?_⟩)
  ·rw [e2,aJ (fun e=>by have:=e.1;omega),aJ (fun e=>by have:=e.1;omega)]
  rw [e2,aB,aB]
 clear e2 A1 R1 C1 B1;obtain ⟨w3,e3⟩:∃ x,x=w2.alloc (.cells (madeCells #[.slice none 0 0] V.nO) 127):=⟨_,rfl⟩;rw [<-e3];have k3:Below w2.heap.size w2 w3:=by rw [e3];exact (Hr _ _).alloc (Ho _) _
 have z3:w3.heap.size=w2.heap.size+1:=by rw [e3];simp
 have O3:bY (∀ i,i<V.nO->(w3.cell? (zA w1.heap.size i)).isSome=true/\w3.frozen? (zA w1.heap.size i)=false):=by unfold bY;rw [e3,<-z2];exact fun i hi=>by simp [size_madeCells,hi]
 clear e3;have A3:bY (Six w3 w.heap.size (zG V aW cW bO cO bX cX bI cI)):=A2.q (by omega) k3;have R3:bY (Six w3 (w.heap.size+1) zN):=R2.q (by omega) k3;have C3:bY (Six w3 (w.heap.size+1+1) [zI V.c,.slice wa wl wc,zI V.g,zS w1.heap.size V.nO V.nO,zS bX V.nX cX,zS bI V.nI cI]):=C2.q (by omega) k3;have B3:bY (Below w.heap.size w w3):=ah B2 k3;have W3:bY (RW w0.heap.size w1.heap.size w3 (.slice wa wl wc) V.nW V.W gW):=HRW.o.move (Ho _) (Ho _) (by omega) (fun q1 q2=>by rcases S2 with h | h;exact h.trans (aj k3 (by omega));omega);clear A2 R2 C2 B2 S2 HRW k3;have z4:w1.heap.size+1<=w3.heap.size:=by omega
 have z4b:w3.heap.size<=w1.heap.size+1:=by omega
 clear z2 z3;generalize w1.heap.size=gO at *;go_loopw [19] (fun i wr=>∃ (k:Nat) (sl:Nat->Value) (xs:Nat->Nat),k<=V.nO/\i=zI k/\(∀ x,x<w3.heap.size->¬ x=gO->Sm w3 wr x)/\(∀ j,j<V.nO->(wr.cell? (zA gO j)).isSome=true/\wr.frozen? (zA gO j)=false)/\(∀ j,j<k->wr.cell? (zA gO j)=some (sl j)/\jT w3.heap.size wr.heap.size wr (sl j) (V.N j) (V.O j) (xs j))/\(∀ i j,i<j->j<k->V.N i≠0->V.N j≠0->xs i<xs j)/\w3.heap.size<=wr.heap.size/\Below w.heap.size w wr) (fun i _=>V.nO - (intOf i).toNat)
 case atStart=>exact ⟨0,fun _=>undef,fun _=>0,Nat.zero_le _,rfl,fun x _ _=>Sm.refl _ _,O3.o,fun _ h=>absurd h (by omega),fun _ _ _ h=>absurd h (by omega),Ho _,B3.o⟩
 case round =>
  obtain ⟨k,sl,xs,hk,rfl,hsm,hoc,hdn,hxx,hsz,hbel⟩:=hrel;have SM:bY (∀ x,x<w3.heap.size->¬ x=gO->Sm w3 wr x):=hsm;have OC:bY (∀ j,j<V.nO->(wr.cell? (zA gO j)).isSome=true/\wr.frozen? (zA gO j)=false):=hoc;have DN:bY (∀ j,j<k->wr.cell? (zA gO j)=some (sl j)/\jT w3.heap.size wr.heap.size wr (sl j) (V.N j) (V.O j) (xs j)):=hdn;have XX:bY (∀ i j,i<j->j<k->V.N i≠0->V.N j≠0->xs i<xs j):=hxx;have BL:bY (Below w.heap.size w wr):=hbel;clear hsm hoc hdn hxx hbel;by_cases hkn:k<V.nO
  ·have hkn':(k:Int)<V.nO:=by omega
   obtain ⟨yk,ck,hck,hrk⟩:∃ yk ck,wr.cell? (zA bO k)=some (.slice yk (V.N k) ck)/\bY (P8.kC wr yk (V.N k) (V.O k)):=by
    obtain ⟨x,c,h1,h2⟩:=HO.o k hkn;exact ⟨x,c,(BL.o.cell (p:=(zA bO k)) (by show bO<_;omega)).trans h1,lQ h2 BL.o⟩
   have p3:wr.cell? (zA (w.heap.size+1+1) 3)=some (zS gO V.nO V.nO):=((SM.o (w.heap.size+1+1) (by omega) (by omega)) 3).1.trans (C3.o 3 (by decide)).1;have lg:w.heap.size+1+1<wr.heap.size:=by omega
   have hne:¬ w.heap.size+1+1=gO:=by omega
   have lb:bO<wr.heap.size:=by omega
   have hnk:=HN.o k hkn;go_wp2;refine Hu (S:=fun w'=>(∀ b o,b<wr.heap.size->¬ b=gO->w'.cell? (zA b o)=wr.cell? (zA b o))/\wr.heap.size<=w'.heap.size) (by kernel_rfl) ⟨fun _ _ _ _=>rfl,Ho _⟩ ?_;intro af;refine aA 0 (zP (w.heap.size+1+1) 3) rfl ?_;refine aA 1 (zS gO V.nO V.nO) rfl ?_;refine aA 2 (zI (k:Int)) rfl ?_;refine aA 3 (.slice yk (V.N k) ck) rfl ?_;refine di 4 rfl fun K hK=>?_;go_simp;go_wp2_with fail;refine (MG yk (V.N k) ck (V.O k) hnk wr.drew hrk.o).mono ?_;rintro e w4 ⟨⟨v4,rfl,ho,hn0⟩,hb4⟩;obtain ⟨pa,pl,pc,hvv⟩:=bP ho;subst hvv;obtain ⟨g,hRP,_⟩:=nY ho hn0;have hb5:Below wr.heap.size wr w4:=ah ((Hr _ _).drew) hb4;have RPk:bY (jT wr.heap.size w4.heap.size w4 (.slice pa pl pc) (V.N k) (V.O k) g):=hRP;refine hK.out _ _ (Gy (by assumption) (Ho _) (fun x hx _=>aj hb4 hx) hb4.size) (fun ai=>?_);clear hK K af;have af:=ai;clear ai ho hRP hn0;try simp only [aT]
   refine aA 5 (zP gO k) rfl ?_;refine di 6 rfl fun K hK=>?_;have hz5:wr.heap.size<=w4.heap.size:=hb5.size;have d0:∃ u,w4.cell? (zA gO k)=some u:=by rw [hb5.cell (p:=(zA gO k)) (by show gO<_;omega)];exact Option.isSome_iff_exists.1 (OC.o k hkn).1
   obtain ⟨u0,d0⟩:=d0;have f0:w4.frozen? (zA gO k)=false:=by rw [hb5.frozen (p:=(zA gO k)) (by show gO<_;omega)];exact (OC.o k hkn).2
   have lgO:gO<w4.heap.size:=by omega
   clear af;go_simp;refine hK.out _ _ ⟨fun x o hx hne=>(aJ (fun e=>hne e.1.symm)).trans (hb5.cell (p:=(zA x o)) hx),by rw [ay];exact hz5⟩ (fun ai=>?_);clear hK K ai;try simp only [aT]
   refine Hy (by kernel_rfl) ?_ _;have SM5:bY (∀ x,x<w3.heap.size->¬ x=gO->Sm w3 (w4.setCell (zA gO k) (.slice pa pl pc)) x):=fun x hx hne=>((SM.o x hx hne).trans (aj hb5 (by omega))).trans (fun o=>⟨aJ (fun e=>hne e.1.symm),aB⟩);have OC5:bY (∀ j,j<V.nO->((w4.setCell (zA gO k) (.slice pa pl pc)).cell? (zA gO j)).isSome=true/\(w4.setCell (zA gO k) (.slice pa pl pc)).frozen? (zA gO j)=false):=fun j hj=>by
    rw [aB];have o1:=OC.o j hj;rw [<-hb5.cell (p:=(zA gO j)) (by show gO<_;omega),<-hb5.frozen (p:=(zA gO j)) (by show gO<_;omega)] at o1;refine ⟨?_,o1.2⟩;by_cases e:k=j
    ·subst e;rw [fP (by rw [d0];rfl)];rfl
    rw [aJ (fun e'=>e e'.2)];exact o1.1
   have DN5:bY (∀ j,j<k+1->(w4.setCell (zA gO k) (.slice pa pl pc)).cell? (zA gO j)=some ((fun j=>if j=k then (.slice pa pl pc) else sl j) j)/\jT w3.heap.size (w4.setCell (zA gO k) (.slice pa pl pc)).heap.size (w4.setCell (zA gO k) (.slice pa pl pc)) ((fun j=>if j=k then (.slice pa pl pc) else sl j) j) (V.N j) (V.O j) ((fun j=>if j=k then g else xs j) j)):=fun j hj=>by
    dsimp only;by_cases e:j=k
    ·subst e;rw [if_pos rfl,if_pos rfl];exact ⟨fP (by rw [d0];rfl),(RPk.o.low hsz).move (by rw [ay];exact Ho _) (Ho _) (fun q1 q2 o=>⟨aJ (fun e=>by have:=e.1;omega),aB⟩)⟩
    rw [if_neg e,if_neg e];obtain ⟨u1,u2⟩:=DN.o j (by omega);exact ⟨by rw [aJ (fun e'=>e e'.2.symm),hb5.cell (p:=(zA gO j)) (by show gO<_;omega)];exact u1,u2.move (by rw [ay];exact hz5) (Ho _) (fun q1 q2=>(aj hb5 q2).trans (fun o=>⟨aJ (fun e=>by have:=e.1;omega),aB⟩))⟩
   have XX5:bY (∀ i j,i<j->j<k+1->V.N i≠0->V.N j≠0->(fun j=>if j=k then g else xs j) i<(fun j=>if j=k then g else xs j) j):=fun i j hij hj n1 n2=>by
    dsimp only;by_cases e:j=k
    ·subst e;rw [if_pos rfl,if_neg (by omega)];have u1:=(DN.o i hij).2.1;have u2:=RPk.o.1;rcases u1 with ⟨h,_⟩ | ⟨_,_,_,h1,_⟩
     ·exact absurd h n1
     rcases u2 with ⟨h,_⟩ | ⟨_,_,h2,_⟩
     ·exact absurd h n2
     omega
    rw [if_neg e,if_neg (by omega)];exact XX.o i j hij (by omega) n1 n2
   have BL5:bY (Below w.heap.size w (w4.setCell (zA gO k) (.slice pa pl pc))):=(ah BL.o hb5).setCell (by show w.heap.size<=gO;omega) _;have z5:w3.heap.size<=(w4.setCell (zA gO k) (.slice pa pl pc)).heap.size:=by rw [ay];omega
   clear hb4 hb5 SM OC DN XX BL RPk d0 f0 p3 hck hrk;go_wp2;go_roundw
   case rel=>exact ⟨k+1,_,_,by omega,by go_num,SM5.o,OC5.o,DN5.o,XX5.o,z5,BL5.o⟩
   case measure=>simp [intOf];omega
  have hkk:k=V.nO:=by omega
  have A4:bY (Six wr w.heap.size (zG V aW cW bO cO bX cX bI cI)):=fun i hi=>by have h1:=SM.o (w.heap.size) (by omega) (by omega) i;rw [h1.1,h1.2];exact A3.o i hi
  have R4:bY (Six wr (w.heap.size+1) zN):=fun i hi=>by have h1:=SM.o (w.heap.size+1) (by omega) (by omega) i;rw [h1.1,h1.2];exact R3.o i hi
  have C4:bY (Six wr (w.heap.size+1+1) [zI V.c,.slice wa wl wc,zI V.g,zS gO V.nO V.nO,zS bX V.nX cX,zS bI V.nI cI]):=fun i hi=>by have h1:=SM.o (w.heap.size+1+1) (by omega) (by omega) i;rw [h1.1,h1.2];exact C3.o i hi
  have W4:bY (RW w0.heap.size gO wr (.slice wa wl wc) V.nW V.W gW):=W3.o.move (Ho _) (Ho _) (by omega) (fun q1 q2=>SM.o gW (by omega) (by omega));have FR:bY (∀ j,j<V.nO->wr.frozen? (zA gO j)=false):=fun j hj=>(OC.o j hj).2;have DD:bY (∀ j,j<V.nO->wr.cell? (zA gO j)=some (sl j)/\jT w3.heap.size wr.heap.size wr (sl j) (V.N j) (V.O j) (xs j)):=fun j hj=>DN.o j (by omega);have XD:bY (∀ i j,i<j->j<V.nO->V.N i≠0->V.N j≠0->xs i<xs j):=fun i j h1 h2=>XX.o i j h1 (by omega);have hkn':¬ (k:Int)<V.nO:=by omega
  clear A3 R3 C3 W3 DN XX OC hkk O3 B3;obtain ⟨a0,a1,a2,a3,a4,a5⟩:=A4.o.a6;have l1:w.heap.size<wr.heap.size:=by omega
  go_wp2_with fail;clear a0 a1 a2 a3 a4 a5 l1;refine (EJ bX 0 V.nX cX V.X tX _ (by omega) (fun i hi=>(BL.o.cell (p:=⟨bX,_,none⟩) (by show bX<_;omega)).trans (by rw [Nat.zero_add];exact HX.o i hi))).mono ?_;rintro e w4 ⟨⟨v4,rfl,ho⟩,hb⟩;obtain ⟨xa,xl,xc,hvv⟩:=bP ho;subst hvv;obtain ⟨gX,hRX,_⟩:=jD ho;have X4:bY (RI wr.heap.size w4.heap.size w4 (.slice xa xl xc) V.nX V.X gX):=hRX;have s4:wr.heap.size<=w4.heap.size:=hb.size;have K4:bY (Below wr.heap.size wr w4):=hb;have A5:=fQ (A4.o.q (by omega) hb);have R5:=fQ (R4.o.q (by omega) hb);have C5:=fQ (C4.o.q (by omega) hb);clear ho hRX hb A4 R4 C4;obtain ⟨a0,a1,a2,a3,a4,a5⟩:=A5.o.a6;have y0:=C5.o.a6;obtain ⟨f0,f1,f2,f3,f4,f5⟩:=C5.o.f6;have l1:w.heap.size<w4.heap.size:=by omega
  have l3:w.heap.size+1+1<w4.heap.size:=by omega
  go_wp2_with fail;clear a0 a1 a2 a3 a4 a5 y0 f0 f1 f2 f3 f4 f5 l1 l3;obtain ⟨w5,e5⟩:∃ x,x=w4.setCell (zA (w.heap.size+1+1) 4) (.slice xa xl xc):=⟨_,rfl⟩;rw [<-e5];have A6:bY (Six w5 w.heap.size (zG V aW cW bO cO bX cX bI cI)):=by rw [e5];exact A5.o.far (by omega)
  have R6:bY (Six w5 (w.heap.size+1) zN):=by rw [e5];exact R5.o.far (by omega)
  have C6:bY (Six w5 (w.heap.size+1+1) [zI V.c,.slice wa wl wc,zI V.g,zS gO V.nO V.nO,.slice xa xl xc,zS bI V.nI cI]):=by rw [e5];exact C5.o.set (j:=4) (v:=.slice xa xl xc) rfl (by decide)
  have s5:w5.heap.size=w4.heap.size:=by rw [e5,ay]
  have K5:bY (∀ x,¬ x=w.heap.size+1+1->Sm w4 w5 x):=fun x hx o=>by rw [e5];exact ⟨aJ (fun e=>hx e.1.symm),aB⟩
  have B5:bY (Below w.heap.size w w5):=by rw [e5];exact (ah BL.o K4.o).setCell (by simp;omega) _
  clear e5 A5 R5 C5;refine (EJ bI 0 V.nI cI V.I tI _ (by omega) (fun i hi=>(B5.o.cell (p:=⟨bI,_,none⟩) (by show bI<_;omega)).trans (by rw [Nat.zero_add];exact HI.o i hi))).mono ?_;rintro e w6 ⟨⟨v6,rfl,ho⟩,hb⟩;obtain ⟨ia,il,ic,hvv⟩:=bP ho;subst hvv;obtain ⟨gI,hRI,_⟩:=jD ho;have I6:bY (RI w5.heap.size w6.heap.size w6 (.slice ia il ic) V.nI V.I gI):=hRI;have s6:w5.heap.size<=w6.heap.size:=hb.size;have K6:bY (Below w5.heap.size w5 w6):=hb;have B6:=fQ (ah B5.o hb);have R7:=fQ (R6.o.q (by omega) hb);have C7:=fQ (C6.o.q (by omega) hb);clear ho hRI hb A6 R6 C6;have y0:=C7.o.a6;obtain ⟨f0,f1,f2,f3,f4,f5⟩:=C7.o.f6;obtain ⟨r0,r1,r2,r3,r4,r5⟩:=R7.o.a6;obtain ⟨q0,q1,q2,q3,q4,q5⟩:=R7.o.f6;have l1:w.heap.size+1<w6.heap.size:=by omega
  have l3:w.heap.size+1+1<w6.heap.size:=by omega
  go_wp2;refine Hw (v:=.agg #[zI V.c,.slice wa wl wc,zI V.g,zS gO V.nO V.nO,.slice xa xl xc,.slice ia il ic]) (by simp [results,Tryz.results86,go_sem,r0,r1,r2,r3,r4,r5]) rfl ?_;have hzz:(aG (w6.setCell (zA (w.heap.size+1+1) 5) (.slice ia il ic)) (w.heap.size+1) (zI V.c) (.slice wa wl wc) (zI V.g) (zS gO V.nO V.nO) (.slice xa xl xc) (.slice ia il ic)).heap.size=w6.heap.size:=by rw [au,ay]
  have hbb:Below w.heap.size w (aG (w6.setCell (zA (w.heap.size+1+1) 5) (.slice ia il ic)) (w.heap.size+1) (zI V.c) (.slice wa wl wc) (zI V.g) (zS gO V.nO V.nO) (.slice xa xl xc) (.slice ia il ic)):=ax (B6.o.setCell (by simp;omega) _) (Ht w.heap.size) (zI V.c) (.slice wa wl wc) (zI V.g) (zS gO V.nO V.nO) (.slice xa xl xc) (.slice ia il ic);have SF:∀ x,¬ x=w.heap.size+1->¬ x=w.heap.size+1+1->Sm w6 (aG (w6.setCell (zA (w.heap.size+1+1) 5) (.slice ia il ic)) (w.heap.size+1) (zI V.c) (.slice wa wl wc) (zI V.g) (zS gO V.nO V.nO) (.slice xa xl xc) (.slice ia il ic)) x:=fun x h1 h2=>Sm.trans (fun o=>⟨aJ (fun e=>h2 e.1.symm),aB⟩) (aH (fun e=>h1 e.symm) (zI V.c) (.slice wa wl wc) (zI V.g) (zS gO V.nO V.nO) (.slice xa xl xc) (.slice ia il ic));refine ⟨⟨_,rfl,?_,?_⟩,hbb⟩
  ·show aV w.heap.size (aG (w6.setCell (zA (w.heap.size+1+1) 5) (.slice ia il ic)) (w.heap.size+1) (zI V.c) (.slice wa wl wc) (zI V.g) (zS gO V.nO V.nO) (.slice xa xl xc) (.slice ia il ic)).heap.size (aG (w6.setCell (zA (w.heap.size+1+1) 5) (.slice ia il ic)) (w.heap.size+1) (zI V.c) (.slice wa wl wc) (zI V.g) (zS gO V.nO V.nO) (.slice xa xl xc) (.slice ia il ic)) _ _;rw [hzz];clear r0 r1 r2 r3 r4 r5 q0 q1 q2 q3 q4 q5 y0 f0 f1 f2 f3 f4 f5 hbb;have S5:∀ x,x<w5.heap.size->w0.heap.size<=x->Sm w5 (aG (w6.setCell (zA (w.heap.size+1+1) 5) (.slice ia il ic)) (w.heap.size+1) (zI V.c) (.slice wa wl wc) (zI V.g) (zS gO V.nO V.nO) (.slice xa xl xc) (.slice ia il ic)) x:=fun x h1 h2=>(aj K6.o h1).trans (SF x (by omega) (by omega));have S4:∀ x,x<w4.heap.size->w0.heap.size<=x->Sm w4 (aG (w6.setCell (zA (w.heap.size+1+1) 5) (.slice ia il ic)) (w.heap.size+1) (zI V.c) (.slice wa wl wc) (zI V.g) (zS gO V.nO V.nO) (.slice xa xl xc) (.slice ia il ic)) x:=fun x h1 h2=>(K5.o x (by omega)).trans (S5 x (by omega) h2);have S3:∀ x,x<wr.heap.size->w0.heap.size<=x->Sm wr (aG (w6.setCell (zA (w.heap.size+1+1) 5) (.slice ia il ic)) (w.heap.size+1) (zI V.c) (.slice wa wl wc) (zI V.g) (zS gO V.nO V.nO) (.slice xa xl xc) (.slice ia il ic)) x:=fun x h1 h2=>(aj K4.o h1).trans (S4 x (by omega) h2);have bWl:V.nW≠0->gW<gO:=fun e=>by rcases W4.o with ⟨h,_⟩ | ⟨_,_,_,h,_⟩;exact absurd h e;exact h
   have bXl:V.nX≠0->wr.heap.size<=gX/\gX<w4.heap.size:=fun e=>by rcases X4.o with ⟨h,_⟩ | ⟨_,_,h,h2,_⟩;exact absurd h e;exact ⟨h,h2⟩
   have bIl:V.nI≠0->w5.heap.size<=gI/\gI<w6.heap.size:=fun e=>by rcases I6.o with ⟨h,_⟩ | ⟨_,_,h,h2,_⟩;exact absurd h e;exact ⟨h,h2⟩
   have bPl:∀ k,k<V.nO->V.N k≠0->w3.heap.size<=xs k/\xs k<wr.heap.size:=fun k hk e=>by rcases (DD.o k hk).2.1 with ⟨h,_⟩ | ⟨_,_,h,h2,_⟩;exact absurd h e;exact ⟨h,h2⟩
   refine Ei (gW:=gW) (gO:=gO) (gX:=gX) (gI:=gI) (sl:=sl) (xs:=xs) (W4.o.move (by omega) (by omega) (Hl hzz.symm) (fun q1 q2=>S3 gW (by omega) q1)) (by omega) (by omega) (Hl hzz.symm) (fun k hk=>⟨(S3 gO (by omega) (by omega) k).1.trans (DD.o k hk).1,((DD.o k hk).2.1.move (by omega) (Hl hzz.symm) (fun q1 q2=>S3 _ q2 (by omega))).low (by omega)⟩) (X4.o.move (by omega) (by omega) (Hl hzz.symm) (fun q1 q2=>S4 gX q2 (by omega))) (I6.o.move (by omega) (Ho _) (Hl hzz.symm) (fun q1 q2=>SF gI (by omega) (by omega))) bWl (fun e=>by have:=bXl e;omega) (fun e=>by have:=bIl e;omega) (fun e e2=>by have:=bXl e;have:=bIl e2;omega) (fun k hk e=>⟨by have:=bPl k hk e;omega,fun e2=>by have:=bPl k hk e;have:=bXl e2;omega,fun e2=>by have:=bPl k hk e;have:=bIl e2;omega⟩) XD.o
  have S5:∀ x,x<w5.heap.size->w0.heap.size<=x->Sm w5 (aG (w6.setCell (zA (w.heap.size+1+1) 5) (.slice ia il ic)) (w.heap.size+1) (zI V.c) (.slice wa wl wc) (zI V.g) (zS gO V.nO V.nO) (.slice xa xl xc) (.slice ia il ic)) x:=fun x h1 h2=>(aj K6.o h1).trans (SF x (by omega) (by omega));have S4:∀ x,x<w4.heap.size->w0.heap.size<=x->Sm w4 (aG (w6.setCell (zA (w.heap.size+1+1) 5) (.slice ia il ic)) (w.heap.size+1) (zI V.c) (.slice wa wl wc) (zI V.g) (zS gO V.nO V.nO) (.slice xa xl xc) (.slice ia il ic)) x:=fun x h1 h2=>(K5.o x (by omega)).trans (S5 x (by omega) h2);have S3:∀ x,x<wr.heap.size->w0.heap.size<=x->Sm wr (aG (w6.setCell (zA (w.heap.size+1+1) 5) (.slice ia il ic)) (w.heap.size+1) (zI V.c) (.slice wa wl wc) (zI V.g) (zS gO V.nO V.nO) (.slice xa xl xc) (.slice ia il ic)) x:=fun x h1 h2=>(aj K4.o h1).trans (S4 x (by omega) h2);intro x0 x1 x2 g n k x4 x5 e;have e3:=(kV e).2.1;simp only [Value.slice.injEq,Option.some.injEq,Addr.mk.injEq] at e3;obtain ⟨⟨rfl,_,_⟩,rfl,_⟩:=e3;refine ⟨by omega,?_,fun j hj=>(S3 _ (by omega) (by omega) j).2.trans (FR.o j hj),fun j u' a' m' c' hj hu hs'=>?_⟩
  ·have h1:=hzz;simp only [aG] at h1;show _<(aG _ _ _ _ _ _ _ _).heap.size;rw [au];show _<(w6.setCell _ _).heap.size;rw [ay];omega
  have hc:=(S3 _ (by omega) (by omega) j).1.trans ((DD.o j hj).1);obtain rfl:=Option.some.inj (hc.symm.trans hu);have em:m'=V.N j:=by
   obtain ⟨a2,c2,e2⟩:=(DD.o j hj).2.1.shape';rw [e2] at hs';simp only [Value.slice.injEq] at hs';exact hs'.2.1.symm
  subst em;refine (DD.o j hj).2.2.sm (by omega) ?_ (fun g' c3 e' hn' q1 q2=>S3 _ q2 (by omega));show _<=(aG _ _ _ _ _ _ _ _).heap.size;rw [au];show _<=(w6.setCell _ _).heap.size;rw [ay];omega
theorem Ez (v:Value) (V:CV) (lo:Nat) (hs:V.short 1048576) (w:World) (h:eH lo w v V) :
 Hz 86 #[v] w fun e w'=>(∃ v',e=.returned v'/\aV w.heap.size w'.heap.size w' v' V/\mV w.heap.size w'.heap.size w' v')/\Below w.heap.size w w':=LP v V hs w h.g
open Go.Maps Go.WideMaps Go.ChangeMaps Go.MapKept
open Go.WideElems (Fit rd rg pl)
def wv (Z:Nat->Int):Value:=.agg #[.int .i64 (Z 0),.int .i64 (Z 1),.int .i64 (Z 2),.int .i64 (Z 3),.int .i64 (Z 4)]
def kI (z:Int):Value:=.int .i64 z
theorem qi {a b:Int} (h:kI a=kI b):a=b:=by simpa [kI] using h
def Wm (w:World) (b n:Nat) (M:Int->Option (Nat->Int)):Prop :=
 ∃ (es:Array MapEntry) (clock:Nat),w.heap[b]? = some (.map es clock)/\Stamped es clock/\es.size<=n /\
  (∀ x ∈ es.toList,∃ z Z,x.key=kI z/\(Lit.int .i64 z).wf=true/\M z=some Z/\x.val=wv Z)/\∀ z Z,M z=some Z->∃ x ∈ es.toList,x.key=kI z
theorem Wm.new (w:World):Wm (w.alloc (.map #[] 0)) w.heap.size 0 (fun _=>none) :=
 ⟨#[],0,(MapKept.heap_alloc w _).1,stamped_empty 0,Ho _,by simp,fun _ _ h=>by cases h⟩
theorem Wm.lt {w:World} {b n:Nat} {M:Int->Option (Nat->Int)} (h:Wm w b n M):b<w.heap.size:=by
 obtain ⟨es,clock,hb,_⟩:=h;exact (Array.getElem?_eq_some_iff.1 hb).1
theorem Wm.kept {w w':World} {b n:Nat} {M:Int->Option (Nat->Int)} {row:Option Nat} (h:Wm w b n M) (hg:w.grownBy w' row) (hne:some b≠row):Wm w' b n M:=by
 have hlt:=h.lt;obtain ⟨es,clock,hb,r⟩:=h;exact ⟨es,clock,(hg.block b hlt hne).trans hb,r⟩
theorem Wm.q {w w':World} {b n k:Nat} {M:Int->Option (Nat->Int)} (h:Wm w b n M) (hk:b<k) (hb:Below k w w'):Wm w' b n M:=by
 obtain ⟨es,clock,h1,r⟩:=h;exact ⟨es,clock,(hb.block b hk).trans h1,r⟩
theorem qM {es:Array MapEntry} {M:Int->Option (Nat->Int)} (h:∀ x ∈ es.toList,∃ z Z,x.key=kI z/\(Lit.int .i64 z).wf=true/\M z=some Z/\x.val=wv Z):∀ e ∈ es.toList,∃ l,keyOf Tryz.prog 3 e.key=some l:=fun e he=>by
 obtain ⟨z,Z,hk,hw,_⟩:=h e he
 exact ⟨_,by rw [hk];exact keyOf_int_mk Tryz.underlying3 hw⟩
theorem Wm.look {w:World} {b n:Nat} {M:Int->Option (Nat->Int)} (h:Wm w b n M) {z:Int} (hw:(Lit.int .i64 z).wf=true) :
 (Instr.lookup 133 (.map (some b)) (.int .i64 z) true).run Tryz.prog w=.ok (.tuple #[wv ((M z).getD fun _=>0),.bool (M z).isSome]) w:=by
 obtain ⟨es,clock,hb,hs,hn,hent,hno⟩:=h;have K:Keyed Tryz.prog 3:=int_keyed Tryz.underlying3;have hkey:keyOf Tryz.prog 3 (.int .i64 z)=some (.int .i64 z):=keyOf_int_mk Tryz.underlying3 hw;rcases K.find w hkey es.toList (qM hent) with ⟨h1,h2⟩ | ⟨j,e0,h1,h2,h3⟩
 ·have hM:M z=none:=by
   cases hM:M z with
   | none=>rfl
   | some Z=>obtain ⟨x,hx,hk⟩:=hno z Z hM;exact absurd hk (h2 x hx)
  rw [hM]
  simp [Instr.lookup,run_underlying Tryz.underlying133,MapKept.run_getObj_map hb,K.check w _ hkey,h1,wv,Result.andThen]
 obtain ⟨z',Z,hk,_,hM,hv⟩:=hent e0 (List.mem_of_getElem? h2);have:z'=z:=qi (by rw [<-hk,h3];rfl);subst this;rw [hM];simp [Instr.lookup,run_underlying Tryz.underlying133,MapKept.run_getObj_map hb,K.check w _ hkey,h1,hv,Result.andThen]
theorem Wm.look1 {w:World} {b n:Nat} {M:Int->Option (Nat->Int)} (h:Wm w b n M) {z:Int} (hw:(Lit.int .i64 z).wf=true) :
 (Instr.lookup 133 (.map (some b)) (.int .i64 z) false).run Tryz.prog w=.ok (wv ((M z).getD fun _=>0)) w:=by
 obtain ⟨es,clock,hb,hs,hn,hent,hno⟩:=h;have K:Keyed Tryz.prog 3:=int_keyed Tryz.underlying3;have hkey:keyOf Tryz.prog 3 (.int .i64 z)=some (.int .i64 z):=keyOf_int_mk Tryz.underlying3 hw;rcases K.find w hkey es.toList (qM hent) with ⟨h1,h2⟩ | ⟨j,e0,h1,h2,h3⟩
 ·have hM:M z=none:=by
   cases hM:M z with
   | none=>rfl
   | some Z=>obtain ⟨x,hx,hk⟩:=hno z Z hM;exact absurd hk (h2 x hx)
  rw [hM]
  simp [Instr.lookup,run_underlying Tryz.underlying133,MapKept.run_getObj_map hb,K.check w _ hkey,h1,wv,Result.andThen]
 obtain ⟨z',Z,hk,_,hM,hv⟩:=hent e0 (List.mem_of_getElem? h2);have:z'=z:=qi (by rw [<-hk,h3];rfl);subst this;rw [hM];simp [Instr.lookup,run_underlying Tryz.underlying133,MapKept.run_getObj_map hb,K.check w _ hkey,h1,hv,Result.andThen]
def mQ (M:Int->Option (Nat->Int)) (z:Int) (Z:Nat->Int):Int->Option (Nat->Int):=fun y=>if y=z then some Z else M y
theorem oZ {es:Array MapEntry} {clock:Nat} (hs:Stamped es clock) {i j:Nat} {x y:MapEntry} (hx:es.toList[i]? = some x) (hy:es.toList[j]? = some y) (hij:i≠j):x.key≠y.key:=by
 have hp:=((stamped_iff es clock).1 hs).2.2;obtain ⟨h1,rfl⟩:=List.getElem?_eq_some_iff.1 hx;obtain ⟨h2,rfl⟩:=List.getElem?_eq_some_iff.1 hy;rcases Nat.lt_or_gt_of_ne hij with h | h
 ·exact (List.pairwise_iff_getElem.1 hp) i j h1 h2 h
 exact ((List.pairwise_iff_getElem.1 hp) j i h2 h1 h).symm
theorem Wm.put {w:World} {b n:Nat} {M:Int->Option (Nat->Int)} (h:Wm w b n M) {z:Int} (hw:(Lit.int .i64 z).wf=true) (Z:Nat->Int) :
 ∃ w2,(Instr.mapUpdate 133 (.map (some b)) (.int .i64 z) (wv Z)).run Tryz.prog w=.ok () w2/\Wm w2 b (n+1) (mQ M z Z)/\w.grownBy w2 (some b):=by
 obtain ⟨es,clock,hb,hs,hn,hent,hno⟩:=h;have K:Keyed Tryz.prog 3:=int_keyed Tryz.underlying3;have hkey:keyOf Tryz.prog 3 (.int .i64 z)=some (.int .i64 z):=keyOf_int_mk Tryz.underlying3 hw;have hst:∃ (es':Array MapEntry) (clock':Nat),(Instr.mapUpdate 133 (.map (some b)) (.int .i64 z) (wv Z)).run Tryz.prog w=.ok () (setBlock w b (.map es' clock'))/\es'.size<=n+1 /\
  (∀ x ∈ es'.toList,(x ∈ es.toList/\x.key≠kI z)∨(x.key=kI z/\x.val=wv Z))/\(∃ x ∈ es'.toList,x.key=kI z)/\(∀ x ∈ es.toList,x.key≠kI z->x ∈ es'.toList)/\Stamped es' clock':=by
  rcases K.find w hkey es.toList (qM hent) with ⟨h1,h2⟩ | ⟨j,e0,h1,h2,h3⟩
  ·refine ⟨es.push ⟨.int .i64 z,wv Z,clock⟩,clock+1,?_,by simp;omega,?_,⟨⟨.int .i64 z,wv Z,clock⟩,by simp,rfl⟩,fun x hx _=>by simp [hx],stamped_push hs h2⟩
   ·simp [Instr.mapUpdate,run_underlying Tryz.underlying133,MapKept.run_getObj_map hb,K.check w false hkey,h1,MapKept.run_setObj_map _ hb,Result.andThen,setBlock]
   intro x hx;simp only [Array.toList_push,List.mem_append,List.mem_singleton] at hx;rcases hx with hx | rfl
   ·exact .inl ⟨hx,h2 x hx⟩
   exact .inr ⟨rfl,rfl⟩
  have hget:∀ i:Nat,(es.modify j fun e=>{ e with key:=.int .i64 z,val:=wv Z }).toList[i]? = if i=j then (es.toList[i]?).map (fun e=>{ e with key:=.int .i64 z,val:=wv Z }) else es.toList[i]?:=by
   intro i;simp only [Array.getElem?_toList,Array.getElem?_modify];by_cases hij:j=i
   ·subst hij;simp
   rw [if_neg hij,if_neg (fun e=>hij e.symm)]
  have hj:es[j]? = some e0:=by simpa using h2
  refine ⟨es.modify j fun e=>{ e with key:=.int .i64 z,val:=wv Z },clock,?_,by simp;omega,?_,?_,?_,stamped_modify hs j _ (fun _ _=>rfl) (fun e _ h=>by rw [hj] at h;cases h;exact h3.symm)⟩
  ·simp [Instr.mapUpdate,run_underlying Tryz.underlying133,MapKept.run_getObj_map hb,K.check w false hkey,h1,hj,h3,K.stays w hkey,MapKept.run_setObj_map _ hb,Result.andThen,setBlock]
  ·intro x hx
   obtain ⟨i,hi⟩:=List.getElem?_of_mem hx;rw [hget i] at hi;split at hi
   ·rename_i hij;subst hij;rw [h2] at hi;simp at hi;subst hi;exact .inr ⟨rfl,rfl⟩
   rename_i hij;refine .inl ⟨List.mem_of_getElem? hi,?_⟩;have:=oZ hs hi h2 hij;rw [h3] at this;exact this
  ·exact ⟨{ e0 with key:=.int .i64 z,val:=wv Z },List.mem_of_getElem? (i:=j) (by rw [hget j,if_pos rfl,h2];rfl),rfl⟩
  intro x hx hne
  obtain ⟨i,hi⟩:=List.getElem?_of_mem hx
  have hij:i≠j:=by
   intro e;subst e;rw [h2] at hi;simp at hi;subst hi;exact hne h3
  exact List.mem_of_getElem? (i:=i) (by rw [hget i,if_neg hij];exact hi)
 obtain ⟨es',clock',hrun,hn',hwho,⟨xk,hxk,hxk'⟩,hold,hs'⟩:=hst;refine ⟨_,hrun,⟨es',clock',heap_setBlock_same hb _,hs',hn',?_,?_⟩,⟨rfl,rfl,rfl,by simp [setBlock],fun i _ hi=>heap_setBlock_other hb _ (fun e1=>hi (by rw [e1]))⟩⟩
 ·intro x hx;rcases hwho x hx with ⟨hx0,hne⟩ | ⟨hk,hval⟩
  ·obtain ⟨z',Z',hk,hw',hM,hv⟩:=hent x hx0;have hz:¬ z'=z:=fun e=>hne (by rw [hk,e]);exact ⟨z',Z',hk,hw',by simp [mQ,hz,hM],hv⟩
  exact ⟨z,Z,hk,hw,by simp [mQ],hval⟩
 intro y Y hy;by_cases hyz:y=z
 ·subst hyz;exact ⟨xk,hxk,hxk'⟩
 simp [mQ,hyz] at hy;obtain ⟨x,hx,hk⟩:=hno y Y hy;exact ⟨x,hold x hx (fun e=>hyz (qi (hk.symm.trans e))),hk⟩
def dA (W:Nat->Nat->Int):Nat->Int->Option (Nat->Int)
 | 0=>fun _=>none
 | k+1=>mQ (dA W k) (W k 0) (W k)
