/- drop, pick, rest: what they do in a scene; conditions: the scene lies in memory. -/
import Derived.Test.YtngaboipleimcabGreatDoorIn4
import Derived.Test.YtngaboipleimcabGreatDoorWalksE
import Derived.Test.YtngaboipleimcabGreatDoorOrd2
import Derived.ArgAppend
set_option linter.unusedVariables false
set_option maxHeartbeats 4000000
set_option maxRecDepth 20000
namespace Go.Proofs.YtngaboipleimcabGreatDoor
open Go.RowKit Go.Deep
def dJ (W:Nat->Nat->Int) (n:Nat):Prop:=∀ i j,i<j->j<n->W i 0<W j 0
def dm (W:Nat->Nat->Int) (m:Nat) (Z:Nat->Int):Nat->Nat->Int:=fun k=>if k=m then Z else W k
def fG (W:Nat->Nat->Int) (m:Nat):Nat->Nat->Int:=fun k=>if k<m then W k else W (k+1)
theorem eu {W:Nat->Nat->Int} {m:Nat} {Z:Nat->Int}:dm W m Z m=Z:=by simp [dm]
theorem upd_ne {W:Nat->Nat->Int} {m k:Nat} {Z:Nat->Int} (h:¬ k=m):dm W m Z k=W k:=by simp [dm,h]
theorem kE {W:Nat->Nat->Int} {m:Nat} {Z:Nat->Int} (hz:Z 0=W m 0) (k:Nat):dm W m Z k 0=W k 0:=by
 by_cases e:k=m
 ·subst e;rw [eu,hz]
 rw [upd_ne e]
theorem qP {W:Nat->Nat->Int} {m:Nat} {Z Y:Nat->Int}:dm (dm W m Z) m Y=dm W m Y:=by
 funext k;by_cases e:k=m
 ·simp [dm,e]
 simp [dm,e]
theorem Dq {W:Nat->Nat->Int} {m j:Nat} {Z Y:Nat->Int} (h:¬ m=j):dm (dm W m Z) j Y=dm (dm W j Y) m Z:=by
 funext k;by_cases e:k=m
 ·subst e;simp [dm,h]
 by_cases e2:k=j
 ·subst e2;simp [dm,e]
 simp [dm,e,e2]
theorem dJ.upd {W:Nat->Nat->Int} {n m:Nat} {Z:Nat->Int} (h:dJ W n) (hz:Z 0=W m 0):dJ (dm W m Z) n:=fun i j h1 h2=>by
 rw [kE hz,kE hz];exact h i j h1 h2
theorem dJ.del {W:Nat->Nat->Int} {n m:Nat} (h:dJ W n):dJ (fG W m) (n - 1):=fun i j h1 h2=>by
 unfold fG
 by_cases a:i<m
 ·rw [if_pos a]
  by_cases b:j<m
  ·rw [if_pos b];exact h i j h1 (by omega)
  rw [if_neg b];exact h i (j+1) (by omega) (by omega)
 rw [if_neg a,if_neg (by omega)];exact h (i+1) (j+1) (by omega) (by omega)
theorem dJ.one {W:Nat->Nat->Int} {n i j:Nat} (h:dJ W n) (hi:i<n) (hj:j<n) (e:W i 0=W j 0):i=j:=by
 rcases Nat.lt_trichotomy i j with a | a | a
 ·have:=h i j a hj;omega
 ·exact a
 have:=h j i a hi;omega
theorem jA {W:Nat->Nat->Int} {z:Int}:∀ n,(∀ k,k<n->¬ W k 0=z)->dA W n z=none
 | 0,_=>rfl
 | n+1,h=>by
  have h1:¬ z=W n 0:=fun e=>h n (by omega) e.symm
  simp only [dA,mQ,if_neg h1]
  exact jA n (fun k hk=>h k (by omega))
theorem dJ.map {W:Nat->Nat->Int} {n m:Nat} (h:dJ W n) (hm:m<n) {z:Int} (hz:W m 0=z):dA W n z=some (W m) :=
 qh n hm hz (fun j h1 h2 e=>by have:=h m j h1 h2;omega)
theorem dJ.get {W:Nat->Nat->Int} {n:Nat} (h:dJ W n) (z:Int):(∃ m,m<n/\W m 0=z)∨∀ k,k<n->¬ W k 0=z:=by
 by_cases e:∃ m,m<n/\W m 0=z
 ·exact .inl e
 exact .inr (fun k hk e2=>e ⟨k,hk,e2⟩)
theorem CW {W:Nat->Nat->Int} {n m:Nat} {Z:Nat->Int} (h:dJ W n) (hm:m<n) (hz:Z 0=W m 0) {z:Int} (e:W m 0=z):mQ (dA W n) z Z=dA (dm W m Z) n:=by
 have h2:=h.upd hz;subst e;funext y;unfold mQ;by_cases e:y=W m 0
 ·rw [if_pos e,h2.map hm (by rw [eu,hz,e]),eu]
 rw [if_neg e];rcases h.get y with ⟨k,hk,e2⟩ | hno
 ·have hne:¬ k=m:=fun e3=>e (by rw [<-e2,e3]);rw [h.map hk e2,h2.map hk (by rw [upd_ne hne];exact e2),upd_ne hne]
 rw [jA n hno,jA n (fun k hk=>by rw [kE hz];exact hno k hk)]
def yJ (M:Int->Option (Nat->Int)) (z:Int):Int->Option (Nat->Int):=fun y=>if y=z then none else M y
theorem Dt {W:Nat->Nat->Int} {n m:Nat} (h:dJ W n) (hm:m<n) {z:Int} (e:W m 0=z):yJ (dA W n) z=dA (fG W m) (n - 1):=by
 have h2:=h.del (m:=m);subst e;funext y;unfold yJ;by_cases e:y=W m 0
 ·rw [if_pos e,jA (n - 1)];intro k hk e2;unfold fG at e2;split at e2
  ·have:=h.one (show k<n by omega) hm (by omega);omega
  have:=h.one (show k+1<n by omega) hm (by omega);omega
 rw [if_neg e];rcases h.get y with ⟨k,hk,e2⟩ | hno
 ·have hne:¬ k=m:=fun e3=>e (by rw [<-e2,e3]);rw [h.map hk e2];by_cases l:k<m
  ·rw [h2.map (m:=k) (by omega) (by simp only [fG,if_pos l];exact e2)];simp only [fG,if_pos l]
  have hk1:k - 1+1=k:=by omega
  rw [h2.map (m:=k - 1) (by omega) (by simp only [fG];rw [if_neg (by omega),hk1];exact e2)];simp only [fG];rw [if_neg (by omega),hk1]
 rw [jA n hno,jA (n - 1)];intro k hk;unfold fG;split
 ·exact hno k (by omega)
 exact hno (k+1) (by omega)
theorem Em {W:Nat->Nat->Int} {n m:Nat} {Z:Nat->Int} (h:dJ W n) (hm:m<n):∀ k,k<n->dK (fG W m) (n - 1) (W m 0) Z k=dm W m Z k:=by
 have hp:bK (fG W m) (W m 0) (n - 1)=m:=by
  have h1:=jU (fG W m) (W m 0) (n - 1);rcases Nat.lt_trichotomy (bK (fG W m) (W m 0) (n - 1)) m with a | a | a
  ·have h2:=oJ (fG W m) (W m 0) (n - 1) (bK (fG W m) (W m 0) (n - 1)) (Ho _) (by omega);have h3:fG W m (bK (fG W m) (W m 0) (n - 1))=W (bK (fG W m) (W m 0) (n - 1)):=by simp only [fG,if_pos a]
   rw [h3] at h2;have:=h _ m a hm;omega
  ·exact a
  have h2:=oN (fG W m) (W m 0) (n - 1) h.del m a;have h3:fG W m m=W (m+1):=by simp [fG]
  rw [h3] at h2;have:=h m (m+1) (by omega) (by omega);omega
 intro k hk;unfold dK;rw [hp];by_cases a:k<m
 ·rw [if_pos a,upd_ne (by omega)];simp only [fG,if_pos a]
 rw [if_neg a];by_cases b:k=m
 ·rw [if_pos b,b,eu]
 rw [if_neg b,upd_ne b];simp only [fG];rw [if_neg (by omega),show k - 1+1=k by omega]
def kG (W:Nat->Nat->Int) (z:Int):Nat->Option Nat
 | 0=>none
 | n+1=>if W n 0=z then some n else kG W z n
theorem dB {W:Nat->Nat->Int} {z:Int} {m:Nat}:∀ n,dJ W n->m<n->W m 0=z->kG W z n=some m
 | 0,_,h,_=>by omega
 | n+1,hr,h,hz=>by
  unfold kG
  by_cases e:W n 0=z
  ·rw [if_pos e]
   have:=hr.one (show n<n+1 by omega) h (by omega)
   rw [this]
  rw [if_neg e]
  have hne:¬ m=n:=fun e2=>e (by rw [<-e2];exact hz)
  exact dB n (fun i j h1 h2=>hr i j h1 (by omega)) (by omega) hz
theorem fK {W:Nat->Nat->Int} {z:Int}:∀ n,(∀ k,k<n->¬ W k 0=z)->kG W z n=none
 | 0,_=>rfl
 | n+1,h=>by
  unfold kG
  rw [if_neg (h n (by omega))]
  exact fK n (fun k hk=>h k (by omega))
def zq (Z:Nat->Int) (s l:Int):Nat->Int
 | 0=>Z 0
 | 1=>Z 1
 | 2=>Z 2
 | 3=>s
 | _=>l
def za (Z:Nat->Int) (a:Int):Nat->Int
 | 0=>Z 0
 | 1=>a
 | 2=>Z 2
 | 3=>Z 3
 | _=>Z 4
def zc (Z:Nat->Int) (n:Int):Nat->Int
 | 0=>Z 0
 | 1=>Z 1
 | 2=>Z 2+n
 | 3=>Z 3
 | _=>Z 4
def pw (x:Int) (Z:Nat->Int):Nat->Int
 | 0=>x
 | 1=>1
 | 2=>Z 0
 | 3=>Z 1
 | 4=>Z 2
 | 5=>Z 3
 | 6=>Z 4
 | _=>0
def pk (x n:Int):Nat->Int
 | 0=>x
 | 1=>2
 | 7=>n
 | _=>0
def CV.setW (V:CV) (m:Nat) (Z:Nat->Int):CV:={ V with W:=dm V.W m Z }
def CV.outW (V:CV) (m:Nat):CV:={ V with nW:=V.nW - 1,W:=fG V.W m }
def CV.sU (V:CV) (z:Int):CV:={ V with g:=z }
def CV.send (V:CV) (q:Nat) (P:Nat->Int):CV:={ V with N:=fun i=>if i=q then V.N q+1 else V.N i,O:=fun i=>if i=q then dm (V.O q) (V.N q) P else V.O i,X:=jo V.X q (V.X q+1) }
theorem dS {V:CV} {m:Nat} {Z Y:Nat->Int}:(V.setW m Z).setW m Y=V.setW m Y:=by simp [CV.setW,qP]
def gU (c d:Int) (V:CV) (m:Nat) (t:Int):CV × Int :=
 if aQ c d (V.W m 1+bn t)=-1∨(¬ aQ c d (V.W m 1+bn t)=V.c/\¬ V.X t.toNat<5000) then (V,2)
 else if aQ c d (V.W m 1+bn t)=V.c then (V.setW m (za (V.W m) (V.W m 1+bn t)),1)
 else ((V.outW m).send t.toNat (pw (V.X t.toNat) (za (V.W m) (V.W m 1+bn t))),1)
def dF (V:CV) (m:Nat) (t n:Int):CV × Int :=
 match kG V.W t V.nW with
 | none=>(V,4)
 | some j=>if V.W m 2<n then (V,3) else if 99<V.W j 2+n then (V,5) else ((V.setW m (zc (V.W m) (-n))).setW j (zc (V.W j) n),1)
def dQ (V:CV) (m:Nat) (n:Int):CV × Int:=if V.W m 2<n then (V,3) else if 900<V.g+n then (V,5) else ((V.setW m (zc (V.W m) (-n))).sU (V.g+n),1)
def dP (V:CV) (m:Nat) (n:Int):CV × Int:=if V.g<n then (V,6) else if 99<V.W m 2+n then (V,5) else ((V.setW m (zc (V.W m) n)).sU (V.g - n),1)
def bQ (c d:Int) (V:CV) (m:Nat) (t n:Int):CV × Int :=
 if iC c d (V.W m 1) t=false then (V,7) else if V.W m 2<n then (V,3) else if ¬ V.X t.toNat<5000 then (V,5) else ((V.setW m (zc (V.W m) (-n))).send t.toNat (pk (V.X t.toNat) n),1)
def fA (c d:Int) (V:CV) (m:Nat) (k t n:Int):CV × Int :=
 if k=1 then gU c d V m t else if k=2 then dF V m t n else if k=3 then dQ V m n else if k=4 then dP V m n else if k=5 then bQ c d V m t n else (V,1)
def iT (c d:Int) (V:CV) (m:Nat) (s k t n:Int):CV × Int :=
 if (fA c d (V.setW m (zq (V.W m) s 1)) m k t n).2=1 then fA c d (V.setW m (zq (V.W m) s 1)) m k t n
 else (V.setW m (zq (V.W m) s (fA c d (V.setW m (zq (V.W m) s 1)) m k t n).2),(fA c d (V.setW m (zq (V.W m) s 1)) m k t n).2)
def qJ (c d:Int) (V:CV) (o s k t n:Int):CV × Int :=
 match kG V.W o V.nW with
 | none=>(V,9)
 | some m=>if s<V.W m 3 then (V,8) else if s=V.W m 3 then (V,V.W m 4) else iT c d V m s k t n
open Go.Maps Go.WideMaps Go.ChangeMaps Go.MapKept
theorem Wm.del {w:World} {b n:Nat} {M:Int->Option (Nat->Int)} (h:Wm w b n M) {z:Int} (hw:(Lit.int .i64 z).wf=true) (ty:TypeId) :
 ∃ w2,(Builtin.delete_ #[133,3] ty #[.map (some b),.int .i64 z]).run Tryz.prog w=.ok (.tuple #[]) w2/\Wm w2 b n (yJ M z)/\w.grownBy w2 (some b):=by
 obtain ⟨es,clock,hb,hs,hn,hent,hno⟩:=h;have K:Keyed Tryz.prog 3:=int_keyed Tryz.underlying3;have hkey:keyOf Tryz.prog 3 (.int .i64 z)=some (.int .i64 z):=keyOf_int_mk Tryz.underlying3 hw;have hst:∃ es':Array MapEntry,(Builtin.delete_ #[133,3] ty #[.map (some b),.int .i64 z]).run Tryz.prog w=.ok (.tuple #[]) (setBlock w b (.map es' clock))/\Stamped es' clock/\es'.size<=n/\∀ x,x ∈ es'.toList↔(x ∈ es.toList/\x.key≠kI z):=by
  rcases K.find w hkey es.toList (qM hent) with ⟨h1,h2⟩ | ⟨j,e0,h1,h2,h3⟩
  ·refine ⟨es,?_,hs,hn,fun x=>⟨fun hx=>⟨hx,h2 x hx⟩,fun hx=>hx.1⟩⟩;simp [Builtin.delete_,run_underlying Tryz.underlying133,MapKept.run_getObj_map hb,K.check w _ hkey,h1,MapKept.run_setObj_map _ hb,Result.andThen,setBlock]
  have hjl:j<es.toList.length:=(List.getElem?_eq_some_iff.1 h2).1;have hjs:j<es.size:=by simpa using hjl
  have hsub:(es.eraseIdxIfInBounds j).toList=es.toList.eraseIdx j:=by
   unfold Array.eraseIdxIfInBounds;rw [dif_pos hjs];simp
  refine ⟨es.eraseIdxIfInBounds j,?_,stamped_erase hs j,?_,fun x=>?_⟩
  ·simp [Builtin.delete_,run_underlying Tryz.underlying133,MapKept.run_getObj_map hb,K.check w _ hkey,h1,MapKept.run_setObj_map _ hb,Result.andThen,setBlock]
  ·have h4:(es.eraseIdxIfInBounds j).size=(es.toList.eraseIdx j).length:=by rw [<-hsub,Array.length_toList]
   have h5:=List.length_eraseIdx_le es.toList j;have h6:es.toList.length=es.size:=by simp
   omega
  rw [hsub,List.mem_eraseIdx_iff_getElem?];constructor
  ·rintro ⟨i,hne,hi⟩;refine ⟨List.mem_of_getElem? hi,?_⟩;have:=oZ hs hi h2 hne;rw [h3] at this;exact this
  rintro ⟨hx,hne⟩;obtain ⟨i,hi⟩:=List.getElem?_of_mem hx;refine ⟨i,fun e1=>hne ?_,hi⟩;rw [e1,h2] at hi;cases hi;exact h3
 obtain ⟨es',hrun,hs',hn',hwho⟩:=hst;refine ⟨_,hrun,⟨es',clock,heap_setBlock_same hb _,hs',hn',?_,?_⟩,⟨rfl,rfl,rfl,by simp [setBlock],fun i _ hi=>heap_setBlock_other hb _ (fun e1=>hi (by rw [e1]))⟩⟩
 ·intro x hx;obtain ⟨hx0,hne⟩:=(hwho x).1 hx;obtain ⟨z',Z',hk,hw',hM,hv⟩:=hent x hx0;have hz:¬ z'=z:=fun e=>hne (by rw [hk,e]);exact ⟨z',Z',hk,hw',by simp [yJ,hz,hM],hv⟩
 intro y Y hy;by_cases hyz:y=z
 ·simp [yJ,hyz] at hy
 simp [yJ,hyz] at hy;obtain ⟨x,hx,hk⟩:=hno y Y hy;exact ⟨x,(hwho x).2 ⟨hx,fun e=>hyz (qi (hk.symm.trans e))⟩,hk⟩
theorem Sc.del {w:World} {c d:Int} {s b:Nat} {lo:Lo} {V:CV} {n:Nat} {M:Int->Option (Nat->Int)} (h:Sc w c d s b lo V n M) {z:Int} (hw:(Lit.int .i64 z).wf=true) (ty:TypeId) :
 ∃ w2,(Builtin.delete_ #[133,3] ty #[.map (some b),.int .i64 z]).run Tryz.prog w=.ok (.tuple #[]) w2/\Sc w2 c d s b lo V n (yJ M z)/\Bl b lo w w2/\w.grownBy w2 (some b):=by
 obtain ⟨aW,kW,kO,aX,kX,aI,kI,gW,gO,gX,gI,sl,xs,hN,rW,rX,rI,hO,hM,⟨l1,l2,l3,l4,l5,l6,l7,l8⟩,⟨d1,d2,d3,d4,d5,d6⟩,hx1,hx2,hkk⟩:=h;obtain ⟨w2,hr,hm,hg⟩:=hM.del hw ty;have hbl:=hM.lt;have hz:=hg.size;have k:∀ g,g<w.heap.size->¬ g=b->Sm w w2 g:=fun g hg' hne=>bG hg hg' (fun e=>hne (by injection e))
 refine ⟨w2,hr,⟨aW,kW,kO,aX,kX,aI,kI,gW,gO,gX,gI,sl,xs,hN.sm (k s l4 l6),rW.go (Ho _) hz (Ho _) (fun e _ h=>k gW h (d1 e).2.1),rX.go (Ho _) hz (Ho _) (fun e _ h=>k gX h (d2 e).2.1),rI.go (Ho _) hz (Ho _) (fun e _ h=>k gI h (d3 e).2.1),
  fun j hj=>⟨((k gO l2 l8 j).1).trans (hO j hj).1,((k gO l2 l8 j).2).trans (hO j hj).2.1,(hO j hj).2.2.go (Ho _) hz (Ho _) (fun e _ h=>k (xs j) h (hx1 j hj e).1.2.1)⟩,hm,⟨l1,by omega,l3,by omega,l5,l6,l7,l8⟩,⟨d1,d2,d3,d4,d5,d6⟩,hx1,hx2,hkk.up hz⟩,.grown (below_grown hg l5 (by omega)) hg hkk.b hkk.k.2,hg⟩
theorem Sc.F5 {w:World} {c d:Int} {s b:Nat} {lo:Lo} {V:CV} {n:Nat} {M:Int->Option (Nat->Int)} (h:Sc w c d s b lo V n M) {q:Nat} (hq:q<V.nX) :
 ∃ gX kX,w.cell? ⟨s,6,none⟩=some (.slice (some ⟨gX,0,none⟩) V.nX kX)/\w.cell? ⟨gX,q,none⟩=some (.int .i64 (V.X q))/\w.frozen? ⟨gX,q,none⟩=false/\(lo.l<=gX/\(gX<lo.k0∨lo.k1<=gX))/\gX<w.heap.size/\¬ gX=s/\¬ gX=b /\
  ∀ z,Sc (w.setCell ⟨gX,q,none⟩ (.int .i64 z)) c d s b lo { V with X:=jo V.X q z } n M:=by
 obtain ⟨aW,kW,kO,aX,kX,aI,kI,gW,gO,gX,gI,sl,xs,hN,rW,rX,rI,hO,hM,⟨l1,l2,l3,l4,l5,l6,l7,l8⟩,⟨d1,d2,d3,d4,d5,d6⟩,hx1,hx2,hkk⟩:=h;have h0:V.nX≠0:=by omega
 obtain ⟨e1,e2,e3⟩:=d2 h0;rcases rX with ⟨e,_⟩ | ⟨cI,eI,i1,i2,i3,i4⟩
 ·omega
 simp only [Value.slice.injEq,true_and] at eI;obtain ⟨rfl,rfl⟩:=eI;refine ⟨gX,kX,(hN 6 (by decide)).1,i4.2 q hq,(i4.1 q hq).2,⟨i1,hkk.X h0⟩,i2,e1,e2,fun z=>?_⟩;have hz:w.heap.size=(w.setCell ⟨gX,q,none⟩ (.int .i64 z)).heap.size:=ay.symm;have k:∀ g,¬ g=gX->Sm w (w.setCell ⟨gX,q,none⟩ (.int .i64 z)) g:=fun g hg=>cZ hg
 refine ⟨aW,kW,kO,_,kX,aI,kI,gW,gO,gX,gI,sl,xs,hN.sm (k s (fun e=>e1 e.symm)),rW.go (Ho _) (Hl hz) (Ho _) (fun e _ _=>k gW (d4 e h0)),.inr ⟨kX,rfl,i1,by omega,Ho _,rq i4 hq⟩,rI.go (Ho _) (Hl hz) (Ho _) (fun e _ _=>k gI (fun e'=>d6 h0 e e'.symm)),
  fun j hj=>⟨((k gO e3 j).1).trans (hO j hj).1,((k gO e3 j).2).trans (hO j hj).2.1,(hO j hj).2.2.go (Ho _) (Hl hz) (Ho _) (fun e _ _=>k (xs j) ((hx1 j hj e).2.2.1 h0))⟩,hM.kept (P8.aC w gX q _).1 (fun e=>e2 (by injection e with e;exact e.symm)),⟨l1,by omega,l3,by omega,l5,l6,l7,l8⟩,⟨d1,d2,d3,d4,d5,d6⟩,hx1,hx2,hkk.up (Hl hz)⟩
theorem Sc.grow {w:World} {c d:Int} {s b:Nat} {lo:Lo} {V:CV} {n:Nat} {M:Int->Option (Nat->Int)} (h:Sc w c d s b lo V n M) {q:Nat} (hq:q<V.nO) :
 ∃ gO kO v xq,w.cell? ⟨s,5,none⟩=some (.slice (some ⟨gO,0,none⟩) V.nO kO)/\w.cell? ⟨gO,q,none⟩=some v/\w.frozen? ⟨gO,q,none⟩=false/\(lo.l<=gO/\(gO<lo.k0∨lo.k1<=gO))/\gO<w.heap.size/\¬ gO=s/\¬ gO=b/\jT lo.l w.heap.size w v (V.N q) (V.O q) xq/\(V.N q≠0->(¬ xq=s/\¬ xq=b/\¬ xq=gO)/\(xq<lo.k0∨lo.k1<=xq)) /\
  ∀ (w':World) (v':Value) (Z':Nat->Nat->Int) (g':Nat),w.heap.size<=w'.heap.size->(∀ x,x<w.heap.size->(V.N q≠0->¬ x=xq)->Sm w w' x)->w'.heap[b]? = w.heap[b]?->jT lo.l w'.heap.size w' v' (V.N q+1) Z' g'->((V.N q≠0/\g'=xq)∨w.heap.size<=g') ->
   Sc (w'.setCell ⟨gO,q,none⟩ v') c d s b lo { V with N:=fun i=>if i=q then V.N q+1 else V.N i,O:=fun i=>if i=q then Z' else V.O i } n M:=by
 obtain ⟨aW,kW,kO,aX,kX,aI,kI,gW,gO,gX,gI,sl,xs,hN,rW,rX,rI,hO,hM,⟨l1,l2,l3,l4,l5,l6,l7,l8⟩,⟨d1,d2,d3,d4,d5,d6⟩,hx1,hx2,hkk⟩:=h;refine ⟨gO,kO,sl q,xs q,(hN 5 (by decide)).1,(hO q hq).1,(hO q hq).2.1,⟨l1,hkk.O⟩,l2,l7,l8,(hO q hq).2.2,fun e=>⟨(hx1 q hq e).1,hkk.x q hq e⟩,fun w' v' Z' g' hz hsm hbb hR hg=>?_⟩;have hbl:=hM.lt;have hz2:(w'.setCell ⟨gO,q,none⟩ v').heap.size=w'.heap.size:=ay;have k:∀ x,x<w.heap.size->¬ x=gO->(V.N q≠0->¬ x=xs q)->Sm w (w'.setCell ⟨gO,q,none⟩ v') x:=fun x h1 h2 h3=>(hsm x h1 h3).trans (cZ h2);have kO':∀ j,¬ j=q->(w'.setCell ⟨gO,q,none⟩ v').cell? ⟨gO,j,none⟩=w.cell? ⟨gO,j,none⟩:=fun j hj=>(aJ (fun e=>hj e.2.symm)).trans (hsm gO l2 (fun e e'=>(hx1 q hq e).1.2.2 e'.symm) j).1;have kF:∀ j,(w'.setCell ⟨gO,q,none⟩ v').frozen? ⟨gO,j,none⟩=w.frozen? ⟨gO,j,none⟩:=fun j=>aB.trans (hsm gO l2 (fun e e'=>(hx1 q hq e).1.2.2 e'.symm) j).2;have cq:(w'.setCell ⟨gO,q,none⟩ v').cell? ⟨gO,q,none⟩=some v':=fP (by rw [(hsm gO l2 (fun e e'=>(hx1 q hq e).1.2.2 e'.symm) q).1,(hO q hq).1];rfl);have gs:¬ g'=gO:=by
  rcases hg with ⟨e,rfl⟩ | h
  ·exact (hx1 q hq e).1.2.2
  omega
 have apart:∀ x,x<w.heap.size->(V.N q≠0->¬ xs q=x)->¬ g'=x:=fun x h1 h2=>by
  rcases hg with ⟨e,rfl⟩ | h
  ·exact h2 e
  omega
 refine ⟨aW,kW,kO,aX,kX,aI,kI,gW,gO,gX,gI,fun i=>if i=q then v' else sl i,fun i=>if i=q then g' else xs i,hN.sm (k s l4 (fun e=>l7 e.symm) (fun e e'=>(hx1 q hq e).1.1 e'.symm)),rW.go (Ho _) (by omega) (Ho _) (fun e _ h=>k gW h (d1 e).2.2 (fun e2 e'=>(hx1 q hq e2).2.1 e e'.symm)),rX.go (Ho _) (by omega) (Ho _) (fun e _ h=>k gX h (fun e'=>(d2 e).2.2 e'.symm) (fun e2 e'=>(hx1 q hq e2).2.2.1 e e'.symm)),rI.go (Ho _) (by omega) (Ho _) (fun e _ h=>k gI h (fun e'=>(d3 e).2.2 e'.symm) (fun e2 e'=>(hx1 q hq e2).2.2.2 e e'.symm)),
  fun j hj=>?_,?_,⟨l1,by omega,l3,by omega,l5,l6,l7,l8⟩,⟨d1,d2,d3,d4,d5,d6⟩,fun j hj e=>?_,fun i j hij hj e1 e2=>?_,?_⟩
 ·dsimp only;by_cases e:j=q
  ·subst e;rw [if_pos rfl,if_pos rfl,if_pos rfl,if_pos rfl];exact ⟨cq,(kF j).trans (hO j hj).2.1,hR.go (Ho _) (Hl hz2.symm) (Ho _) (fun _ _ _=>cZ gs)⟩
  rw [if_neg e,if_neg e,if_neg e,if_neg e];refine ⟨(kO' j e).trans (hO j hj).1,(kF j).trans (hO j hj).2.1,(hO j hj).2.2.go (Ho _) (by omega) (Ho _) (fun e1 _ h=>k (xs j) h (hx1 j hj e1).1.2.2 (fun e2=>?_))⟩;rcases Nat.lt_or_gt_of_ne e with a | a
  ·exact hx2 j q a hq e1 e2
  exact fun e'=>hx2 q j a hj e2 e1 e'.symm
 ·obtain ⟨es,clock,h1,r⟩:=hM;exact ⟨es,clock,((P8.aC w' gO q v').1.block b (by omega) (fun e=>l8 (by injection e with e;exact e.symm))).trans (hbb.trans h1),r⟩
 ·dsimp only at e ⊢;by_cases e2:j=q
  ·subst e2;rw [if_pos rfl];exact ⟨⟨apart s l4 (fun e=>(hx1 j hj e).1.1),apart b hbl (fun e=>(hx1 j hj e).1.2.1),gs⟩,fun eW=>apart gW (rW.in eW).2 (fun e=>(hx1 j hj e).2.1 eW),fun eX=>apart gX (rX.in eX).2 (fun e=>(hx1 j hj e).2.2.1 eX),fun eI=>apart gI (rI.in eI).2 (fun e=>(hx1 j hj e).2.2.2 eI)⟩
  rw [if_neg e2] at e ⊢;exact hx1 j hj e
 ·dsimp only at e1 e2 ⊢;by_cases a:i=q
  ·subst a;rw [if_pos rfl,if_neg (show ¬ j=i by omega)];rw [if_neg (show ¬ j=i by omega)] at e2;exact apart (xs j) ((hO j hj).2.2.in e2).2 (fun e=>hx2 i j hij hj e e2)
  rw [if_neg a] at e1 ⊢;by_cases b':j=q
  ·subst b';rw [if_pos rfl];exact fun e'=>apart (xs i) ((hO i (by omega)).2.2.in e1).2 (fun e e3=>hx2 i j hij hj e1 e e3.symm) e'.symm
  rw [if_neg b'] at e2 ⊢;exact hx2 i j hij hj e1 e2
 refine ⟨⟨hkk.k.1,by have:=hkk.k.2;omega⟩,hkk.s,hkk.b,hkk.O,hkk.W,hkk.X,hkk.I,fun j hj e=>?_⟩;dsimp only at e ⊢;by_cases e2:j=q
 ·subst e2;rw [if_pos rfl];rcases hg with ⟨e3,rfl⟩ | h
  ·exact hkk.x j hj e3
  have:=hkk.k.2;exact .inr (by omega)
 rw [if_neg e2] at e ⊢;exact hkk.x j hj e
def Sv (w:World) (c d:Int) (s b:Nat) (lo:Lo) (V:CV) (n:Nat):Prop:=∃ n0 W0,Sc w c d s b lo (V.with n0 W0) n (dA V.W V.nW)
theorem Sv.kk {w:World} {c d:Int} {s b:Nat} {lo:Lo} {V:CV} {n:Nat} (h:Sv w c d s b lo V n):lo.k1<=w.heap.size:=by
 obtain ⟨_,_,h⟩:=h;exact h.kk
theorem Sv.q {w w':World} {c d:Int} {s b:Nat} {lo:Lo} {n:Nat} {V:CV} (h:Sv w c d s b lo V n) (hb:Below w.heap.size w w'):Sv w' c d s b lo V n:=by
 obtain ⟨n0,W0,h⟩:=h;exact ⟨n0,W0,h.q hb⟩
theorem Sv.mono {w:World} {c d:Int} {s b:Nat} {lo:Lo} {n n':Nat} {V:CV} (h:Sv w c d s b lo V n) (hn:n<=n'):Sv w c d s b lo V n':=by
 obtain ⟨n0,W0,h⟩:=h;exact ⟨n0,W0,h.mono hn⟩
theorem Sc.map {w:World} {c d:Int} {s b:Nat} {lo:Lo} {n:Nat} {V:CV} {M:Int->Option (Nat->Int)} (h:Sc w c d s b lo V n M):Wm w b n M/\w.cell? (zA s 0)=some (zI c)/\w.cell? (zA s 1)=some (zI d)/\w.cell? (zA s 2)=some (zI V.c):=by
 obtain ⟨aW,kW,kO,aX,kX,aI,kI,gW,gO,gX,gI,sl,xs,hN,rW,rX,rI,hO,hM,_⟩:=h;exact ⟨hM,(hN 0 (by decide)).1,(hN 1 (by decide)).1,(hN 2 (by decide)).1⟩
theorem Sv.at {w:World} {c d:Int} {s b:Nat} {lo:Lo} {n:Nat} {V:CV} (h:Sv w c d s b lo V n) :
 (w.cell? (zA s 0)=some (zI c)/\w.cell? (zA s 1)=some (zI d)/\w.cell? (zA s 2)=some (zI V.c)/\w.cell? (zA s 4)=some (zI V.g)/\w.frozen? (zA s 4)=false/\w.cell? (zA s 8)=some (.map (some b)))/\s<w.heap.size/\(lo.l<=s/\(s<lo.k0∨lo.k1<=s))/\(lo.l<=b/\(b<lo.k0∨lo.k1<=b))/\b<w.heap.size/\¬ s=b/\Wm w b n (dA V.W V.nW):=by
 obtain ⟨n0,W0,h⟩:=h;obtain ⟨h1,h2,h3,h4,h5,h6,h7,h8⟩:=h.at4;obtain ⟨m0,m1,m2,m3⟩:=h.map;exact ⟨⟨m1,m2,m3,h1,h2,h3⟩,h4,h5,h6,h7,h8,m0⟩
theorem Sv.put {w:World} {c d:Int} {s b:Nat} {lo:Lo} {n m:Nat} {V:CV} (h:Sv w c d s b lo V n) (hr:dJ V.W V.nW) (hm:m<V.nW) {z:Int} (hz:V.W m 0=z) (hw:(Lit.int .i64 z).wf=true) (Z:Nat->Int) (hZ:Z 0=z) :
 ∃ w2,(Instr.mapUpdate 133 (.map (some b)) (zI z) (wv Z)).run Tryz.prog w=.ok () w2/\Sv w2 c d s b lo (V.setW m Z) (n+1)/\Bl b lo w w2/\w.grownBy w2 (some b):=by
 obtain ⟨n0,W0,h⟩:=h;obtain ⟨w2,h1,h2,h3,h4⟩:=h.put hw Z;rw [CW hr hm (hZ.trans hz.symm) hz] at h2;exact ⟨w2,h1,⟨n0,W0,h2⟩,h3,h4⟩
theorem Sv.del {w:World} {c d:Int} {s b:Nat} {lo:Lo} {n m:Nat} {V:CV} (h:Sv w c d s b lo V n) (hr:dJ V.W V.nW) (hm:m<V.nW) {z:Int} (hz:V.W m 0=z) (hw:(Lit.int .i64 z).wf=true) (ty:TypeId) :
 ∃ w2,(Builtin.delete_ #[133,3] ty #[.map (some b),zI z]).run Tryz.prog w=.ok (.tuple #[]) w2/\Sv w2 c d s b lo (V.outW m) n/\Bl b lo w w2/\w.grownBy w2 (some b):=by
 obtain ⟨n0,W0,h⟩:=h;obtain ⟨w2,h1,h2,h3,h4⟩:=h.del hw ty;rw [Dt hr hm hz] at h2;exact ⟨w2,h1,⟨n0,W0,h2⟩,h3,h4⟩
theorem Sv.ground {w:World} {c d:Int} {s b:Nat} {lo:Lo} {n:Nat} {V:CV} (h:Sv w c d s b lo V n) (z:Int):Sv (w.setCell (zA s 4) (zI z)) c d s b lo (V.sU z) n:=by
 obtain ⟨n0,W0,h⟩:=h;exact ⟨n0,W0,h.ground z⟩
theorem Sv.lookA {w:World} {c d:Int} {s b:Nat} {lo:Lo} {n m:Nat} {V:CV} (h:Sv w c d s b lo V n) (hr:dJ V.W V.nW) (hm:m<V.nW) {z:Int} (hz:V.W m 0=z) (hw:(Lit.int .i64 z).wf=true) :
 (Instr.lookup 133 (.map (some b)) (zI z) false).run Tryz.prog w=.ok (.agg (zF (V.W m)).toArray) w/\(Instr.lookup 133 (.map (some b)) (zI z) true).run Tryz.prog w=.ok (.tuple #[.agg (zF (V.W m)).toArray,.bool true]) w:=by
 have hM:=h.at.2.2.2.2.2.2;have e:=hr.map hm hz;refine ⟨?_,?_⟩
 ·rw [hM.look1 hw,e];rfl
 rw [hM.look hw,e];rfl
theorem Sv.Cc {w:World} {c d:Int} {s b:Nat} {lo:Lo} {n:Nat} {V:CV} (h:Sv w c d s b lo V n) {z:Int} (hno:∀ k,k<V.nW->¬ V.W k 0=z) (hw:(Lit.int .i64 z).wf=true) :
 (Instr.lookup 133 (.map (some b)) (zI z) true).run Tryz.prog w=.ok (.tuple #[.agg z5.toArray,.bool false]) w:=by
 have hM:=h.at.2.2.2.2.2.2;rw [hM.look hw,jA V.nW hno];rfl
theorem tV (c d o sq k t nn:Int) (s b:Nat) (lo:Lo) (m:Nat) (V:CV) (n:Nat) (hr:dJ V.W V.nW) (hm:m<V.nW) (hz:V.W m 0=o) (hwf:(Lit.int .i64 o).wf=true) (code:Int) (w:World) (h:Sv w c d s b lo V n) :
 Hz 164 #[zP s 0,.agg #[zI o,zI sq,zI k,zI t,zI nn],zI code] w fun e w'=>e=.returned (.tuple #[])/\Sv w' c d s b lo (V.setW m (zq (V.W m) sq code)) (n+1)/\Bl b lo w w'/\∀ x,x<w.heap.size->¬ x=b->Sm w w' x:=by
 have hK1:=h.kk;have HZ:bY (V.W m 0=o):=hz;clear hz;obtain ⟨⟨_,_,_,_,_,_⟩,ls,ll,lb,lbw,nsb,_⟩:=h.at;go_enter Tryz.func164,Tryz.ntmps164;go_upto_region 1 with fail;obtain ⟨w0,e0,hb0,X0,-⟩:=bx1 w [zI o,zI sq,zI k,zI t,zI nn] 66;rw [<-e0];clear e0;have z0:=X0.1;have B1:bY (Below w.heap.size w w0):=hb0;have P2:bY (Bk w0 w.heap.size [zI o,zI sq,zI k,zI t,zI nn]):=X0;have S3:bY (Sv w0 c d s b lo V n):=h.q hb0;clear X0 hb0 h;obtain ⟨yP0,yP1,yP2,yP3,yP4⟩:=P2.o.a5;have hlP:w.heap.size<w0.heap.size:=P2.o.1;have HL:bY (∀ wx,Below w0.heap.size w0 wx->(Instr.lookup 133 (.map (some b)) (zI o) false).run Tryz.prog wx=.ok (.agg (zF (V.W m)).toArray) wx):=fun wx hx=>((S3.o.q hx).lookA hr hm HZ.o hwf).1;have c8:w0.cell? (zA s 8)=some (.map (some b)):=S3.o.at.1.2.2.2.2.2;have lsw:s<w0.heap.size:=S3.o.at.2.1;refine Hu (S:=fun w'=>Below (w0.heap.size) w0 w') (by kernel_rfl) ((Hr _ _).drew) ?_;intro af;obtain ⟨X0,hX0⟩:∃ X,X=w0.drew:=⟨_,rfl⟩;have hz0:w0.heap.size<=X0.heap.size:=by rw [hX0];exact Ho _
 rw [<-hX0] at af ⊢;clear hX0;refine bF 0 (zP s 0) rfl ?_;refine bF 4 (zP w.heap.size 0) rfl ?_;refine bF 1 (zP s 0) rfl ?_;refine bF 5 (zI o) rfl ?_;refine bF 2 (zP s 8) rfl ?_;refine bF 3 (.map (some b)) rfl ?_;refine dY 6 (.agg (zF (V.W m)).toArray) rfl ?_ ?_
 ·intro wx hSw;obtain ⟨hcS,hfS⟩:=iZ hSw;have hl:=HL.o wx hSw;go_simp
 refine di 7 rfl fun K hK=>?_;go_simp;obtain ⟨Xgk,eA⟩:∃ X,X=X0.alloc (.cells z5.toArray 67):=⟨_,rfl⟩;rw [<-eA];have hbA:Below X0.heap.size X0 Xgk:=by rw [eA];exact (Hr _ _).alloc (Ho _) _
 have hZgk:Bk Xgk X0.heap.size z5:=by rw [eA];exact aU X0 67 z5
 have hzAgk1:Xgk.heap.size<=X0.heap.size+1:=by rw [eA];simp
 have hzAgk2:X0.heap.size+1<=Xgk.heap.size:=by rw [eA];simp
 clear eA;have hsz_Xgk:=hbA.size;refine hK.out _ _ (bJ af (by omega) hbA) (fun ai=>?_);clear hK K af;have af:=ai;clear ai;try simp only [aT]
 clear hbA;obtain ⟨gk,egk⟩:∃ g,g=X0.heap.size:=⟨_,rfl⟩;rw [<-egk] at hZgk ⊢;have egk1:gk<=X0.heap.size:=by omega
 have egk2:X0.heap.size<=gk:=by omega
 clear egk;refine di 8 rfl fun K hK=>?_;have r0:=(hZgk.2 0 (by simp)).1;have r1:=(hZgk.2 1 (by simp)).1;have r2:=(hZgk.2 2 (by simp)).1;have r3:=(hZgk.2 3 (by simp)).1;have r4:=(hZgk.2 4 (by simp)).1;have f0:=(hZgk.2 0 (by simp)).2;have f1:=(hZgk.2 1 (by simp)).2;have f2:=(hZgk.2 2 (by simp)).2;have f3:=(hZgk.2 3 (by simp)).2;have f4:=(hZgk.2 4 (by simp)).2;simp only [List.getD,List.getElem?_cons_zero,List.getElem?_cons_succ,Option.getD_some] at r0 r1 r2 r3 r4;have lZgk:=hZgk.1;have hkgk:w0.heap.size<=gk:=by omega
 go_simp;obtain ⟨XSgk,eS⟩:∃ X,X=(((((Xgk.setCell (zA gk 0) (zI (V.W m 0))).setCell (zA gk 1) (zI (V.W m 1))).setCell (zA gk 2) (zI (V.W m 2))).setCell (zA gk 3) (zI (V.W m 3))).setCell (zA gk 4) (zI (V.W m 4))):=⟨_,rfl⟩;rw [<-eS];have hPgk:Bk XSgk gk (zF (V.W m)):=by rw [eS];exact jM (l:=(zF (V.W m))) hZgk rfl
 have hzgk1:XSgk.heap.size<=Xgk.heap.size:=by rw [eS];exact Hl (size_put gk (zF (V.W m)) 0 Xgk)
 have hzgk2:Xgk.heap.size<=XSgk.heap.size:=by rw [eS];exact Hl (size_put gk (zF (V.W m)) 0 Xgk).symm
 have hmgk:∀ b,¬ b=gk->Sm Xgk XSgk b:=by rw [eS];exact fun b hb=>jQ hb (zF (V.W m)) 0 Xgk
 have hBgk:Below (w0.heap.size) w0 XSgk:=by rw [eS];exact gu hkgk (zF (V.W m)) 0 af
 clear eS r0 f0 r1 f1 r2 f2 r3 f3 r4 f4;refine hK.out _ _ hBgk (fun ai=>?_);clear hK K af;have af:=ai;clear ai;try simp only [aT]
 refine Hy (by kernel_rfl) ?_ _;have hB2:Below w0.heap.size w0 ((XSgk.setCell (zA gk 3) (zI sq)).setCell (zA gk 4) (zI code)).drew:=((af.setCell (by show w0.heap.size<=gk;omega) _).setCell (by show w0.heap.size<=gk;omega) _).drew;obtain ⟨wm,hr1,hS2,hB3,hG3⟩:=(S3.o.q hB2).put hr hm HZ.o hwf (zq (V.W m) sq code) HZ.o;have hr2:(Instr.mapUpdate 133 (.map (some b)) (zI o) (.agg #[zI (V.W m 0),zI (V.W m 1),zI (V.W m 2),zI sq,zI code])).run Tryz.prog ((XSgk.setCell (zA gk 3) (zI sq)).setCell (zA gk 4) (zI code)).drew=.ok () wm:=hr1;have HS2:bY (Sv wm c d s b lo (V.setW m (zq (V.W m) sq code)) (n+1)):=hS2;have HB3:bY (Bl b lo w wm):=((Bl.up B1.o (by omega)).trans (Bl.up hB2 (by omega))).trans hB3;have HG:bY (∀ x,x<w.heap.size->¬ x=b->Sm w wm x):=fun x hx hne=>((aj B1.o hx).trans (aj hB2 (by omega))).trans (bG hG3 (by have:=hB2.size;omega) (fun e=>hne (by injection e)));clear hS2 hB3 hr1 hB2 HL hG3;have u0:XSgk.cell? (zA w.heap.size 0)=some (zI o):=(af.cell (p:=(zA w.heap.size 0)) (by show w.heap.size<_;omega)).trans yP0;have u1:XSgk.cell? (zA w.heap.size 1)=some (zI sq):=(af.cell (p:=(zA w.heap.size 1)) (by show w.heap.size<_;omega)).trans yP1;have u8:XSgk.cell? (zA s 8)=some (.map (some b)):=(af.cell (p:=(zA s 8)) (by show s<_;omega)).trans c8;have v0:=hPgk.a5;have f0:XSgk.frozen? (zA gk 0)=false:=(hPgk.2 0 (by simp)).2;have f1:XSgk.frozen? (zA gk 1)=false:=(hPgk.2 1 (by simp)).2;have f2:XSgk.frozen? (zA gk 2)=false:=(hPgk.2 2 (by simp)).2;have f3:XSgk.frozen? (zA gk 3)=false:=(hPgk.2 3 (by simp)).2;have f4:XSgk.frozen? (zA gk 4)=false:=(hPgk.2 4 (by simp)).2;have lg:=hPgk.1;have lsx:s<XSgk.heap.size:=by omega
 have lpx:w.heap.size<XSgk.heap.size:=by omega
 have n1:¬ gk=s:=by omega
 have n2:¬ s=gk:=by omega
 have n3:¬ gk=w.heap.size:=by omega
 have n4:¬ w.heap.size=gk:=by omega
 clear hPgk af;go_wp2;go_region;go_wp2;refine bodyPost_end (v:=.tuple #[]) (by simp [results,Tryz.results164,go_sem]) rfl ?_;exact ⟨rfl,HS2.o,HB3.o,HG.o⟩
theorem kM (c d o nn:Int) (s b:Nat) (lo:Lo) (m:Nat) (V:CV) (n:Nat) (hr:dJ V.W V.nW) (hm:m<V.nW) (hz:V.W m 0=o) (hwf:(Lit.int .i64 o).wf=true) (hn:-100<=nn/\nn<=100) (hc:-100<=V.W m 2/\V.W m 2<=1000) (w:World) (h:Sv w c d s b lo V n) :
 Hz 187 #[zP s 0,zI o,zI nn] w fun e w'=>e=.returned (.tuple #[])/\Sv w' c d s b lo (V.setW m (zc (V.W m) nn)) (n+1)/\Bl b lo w w'/\∀ x,x<w.heap.size->¬ x=b->Sm w w' x:=by
 have hK1:=h.kk;have HZ:bY (V.W m 0=o):=hz;clear hz;obtain ⟨⟨_,_,_,_,_,c8⟩,ls,ll,lb,lbw,nsb,_⟩:=h.at;have hl:=(h.lookA hr hm HZ.o hwf).1;go_enter Tryz.func187,Tryz.ntmps187;go_upto_region 2 with fail;obtain ⟨X,eX⟩:∃ X,X=w.alloc (.cells #[zI (V.W m 0),zI (V.W m 1),zI (V.W m 2+nn),zI (V.W m 3),zI (V.W m 4)] 67):=⟨_,rfl⟩;rw [<-eX];have hBX:Below w.heap.size w X:=by rw [eX];exact (Hr _ _).alloc (Ho _) _
 have hX:Bk X w.heap.size [zI (V.W m 0),zI (V.W m 1),zI (V.W m 2+nn),zI (V.W m 3),zI (V.W m 4)]:=by rw [eX];exact aU w 67 [zI (V.W m 0),zI (V.W m 1),zI (V.W m 2+nn),zI (V.W m 3),zI (V.W m 4)]
 clear eX hl;obtain ⟨wm,hr1,hS2,hB3,hG3⟩:=(h.q hBX.drew).put hr hm HZ.o hwf (zc (V.W m) nn) HZ.o;have hr2:(Instr.mapUpdate 133 (.map (some b)) (zI o) (.agg #[zI (V.W m 0),zI (V.W m 1),zI (V.W m 2+nn),zI (V.W m 3),zI (V.W m 4)])).run Tryz.prog X.drew=.ok () wm:=hr1;have HS2:bY (Sv wm c d s b lo (V.setW m (zc (V.W m) nn)) (n+1)):=hS2;have HB3:bY (Bl b lo w wm):=(Bl.up hBX.drew (by omega)).trans hB3;have HG:bY (∀ x,x<w.heap.size->¬ x=b->Sm w wm x):=fun x hx hne=>(aj hBX.drew hx).trans (bG hG3 (by have:=hBX.drew.size;omega) (fun e=>hne (by injection e)));have v0:=hX.a5;have u8:X.cell? (zA s 8)=some (.map (some b)):=(hBX.cell (p:=(zA s 8)) ls).trans c8;have lg:=hX.1;have lsx:s<X.heap.size:=by omega
 clear hX hBX hS2 hB3 hr1 c8 h hG3;go_region;go_wp2;refine bodyPost_end (v:=.tuple #[]) (by simp [results,Tryz.results187,go_sem]) rfl ?_;exact ⟨rfl,HS2.o,HB3.o,HG.o⟩
theorem um (x0 x1 x2 x3 x4:Value) (w:World):(Instr.field 67 (.agg #[x0,x1,x2,x3,x4]) 1).run Tryz.prog w=.ok x1 w:=by kernel_rfl
theorem uz (x0 x1 x2 x3 x4:Value) (w:World):(Instr.field 67 (.agg #[x0,x1,x2,x3,x4]) 2).run Tryz.prog w=.ok x2 w:=by kernel_rfl
theorem mW (c d o sq k t nn:Int) (s b:Nat) (lo:Lo) (m:Nat) (V:CV) (n:Nat) (hr:dJ V.W V.nW) (hm:m<V.nW) (hz:V.W m 0=o) (hwf:(Lit.int .i64 o).wf=true) (w:World) (h:Sv w c d s b lo V n) :
 Hz 186 #[zP s 0,.agg #[zI o,zI sq,zI k,zI t,zI nn]] w fun e w'=>e=.returned (.bool (decide (nn<=V.W m 2)))/\Below w.heap.size w w':=by
 have HZ:bY (V.W m 0=o):=hz;clear hz;obtain ⟨⟨_,_,_,_,_,_⟩,ls,ll,lb,lbw,nsb,_⟩:=h.at;go_enter Tryz.func186,Tryz.ntmps186;go_upto_region 1 with fail;obtain ⟨w0,e0,hb0,X0,-⟩:=bx1 w [zI o,zI sq,zI k,zI t,zI nn] 66;rw [<-e0];clear e0;have z0:=X0.1;have B1:bY (Below w.heap.size w w0):=hb0;have P2:bY (Bk w0 w.heap.size [zI o,zI sq,zI k,zI t,zI nn]):=X0;have S3:bY (Sv w0 c d s b lo V n):=h.q hb0;clear X0 hb0 h;have yP0:=P2.o.a5;have hlP:w.heap.size<w0.heap.size:=P2.o.1;have c8:w0.cell? (zA s 8)=some (.map (some b)):=S3.o.at.1.2.2.2.2.2;have lsw:s<w0.heap.size:=S3.o.at.2.1;have hl:=((S3.o.q ((Hr _ _).drew)).lookA hr hm HZ.o hwf).1;have hfd:=uz;go_region;go_wp2;go_ret;exact ⟨by simp,by repeat (first | exact B1.o | apply Below.drew | apply bZ)⟩
theorem Sv.F5 {w:World} {c d:Int} {s b:Nat} {lo:Lo} {n:Nat} {V:CV} (h:Sv w c d s b lo V n) {q:Nat} (hq:q<V.nX) :
 ∃ gX kX,w.cell? (zA s 6)=some (zS gX V.nX kX)/\w.cell? (zA gX q)=some (zI (V.X q))/\w.frozen? (zA gX q)=false/\(lo.l<=gX/\(gX<lo.k0∨lo.k1<=gX))/\gX<w.heap.size/\¬ gX=s/\¬ gX=b /\
  ∀ z,Sv (w.setCell (zA gX q) (zI z)) c d s b lo { V with X:=jo V.X q z } n:=by
 obtain ⟨n0,W0,h⟩:=h;obtain ⟨gX,kX,h1,h2,h3,h4,h5,h6,h7,h8⟩:=h.F5 (q:=q) hq;exact ⟨gX,kX,h1,h2,h3,h4,h5,h6,h7,fun z=>⟨n0,W0,h8 z⟩⟩
theorem pF (c d:Int) (s b:Nat) (lo:Lo) (q:Nat) (V:CV) (n:Nat) (hq:q<V.nX) (w:World) (h:Sv w c d s b lo V n) :
 Hz 184 #[zP s 0,zI (q:Int)] w fun e w'=>e=.returned (.bool (decide (V.X q<5000)))/\w'=w:=by
 obtain ⟨gX,kX,h1,h2,h3,h4,h5,h6,h7,h8⟩:=h.F5 hq;have ls:=h.at.2.1;have hq':(q:Int)<V.nX:=by omega
 clear h8 h;go_enter Tryz.func184,Tryz.ntmps184;go_wp2;go_ret;exact ⟨by simp,rfl⟩
theorem mJ (b:Nat):∀ (vs:List Value) (o:Nat) (w:World),w.grownBy (w.setCells b o vs) (some b)/\(w.setCells b o vs).heap.size=w.heap.size
 | [],_,w=>⟨⟨rfl,rfl,rfl,Ho _,fun _ _ _=>rfl⟩,rfl⟩
 | v :: vs,o,w=>by
  obtain ⟨h1,h2⟩:=P8.aC w b o v
  obtain ⟨h3,h4⟩:=mJ b vs (o+1) (w.setCell ⟨b,o,none⟩ v)
  exact ⟨h1.trans h3,h4.trans h2⟩
theorem yD (n:Nat) (Z:Nat->Nat->Int) (P:Nat->Int):(List.range (n+1)).flatMap (P8.eight (dm Z n P))=(List.range n).flatMap (P8.eight Z)++P8.eight (fun _=>P) 0:=by
 rw [List.range_succ,List.flatMap_append];congr 1
 ·have h0:∀ k ∈ List.range n,P8.eight (dm Z n P) k=P8.eight Z k:=fun k hk=>by
   have h:¬ k=n:=by have:=List.mem_range.1 hk;omega
   simp [P8.eight,upd_ne h]
  rw [List.flatMap_def,List.flatMap_def,List.map_congr_left h0]
 simp [P8.eight,eu]
theorem tJ (P:Nat->Int):∀ u ∈ P8.eight (fun _=>P) 0,u.oneCell'=true:=by
 intro u hu;simp [P8.eight] at hu;rcases hu with rfl | rfl | rfl | rfl | rfl | rfl | rfl | rfl <;> rfl
theorem Bg (P:Nat->Int) {j:Nat} (hj:j<(P8.eight (fun _=>P) 0).length):(P8.eight (fun _=>P) 0)[j]=zI (P j):=by
 have:j<8:=hj;match j,this with
 | 0,_=>rfl
 | 1,_=>rfl
 | 2,_=>rfl
 | 3,_=>rfl
 | 4,_=>rfl
 | 5,_=>rfl
 | 6,_=>rfl
 | 7,_=>rfl
def xw (lo:Nat) (w w':World) (v':Value) (n:Nat) (Z:Nat->Nat->Int) (xq g':Nat):Prop :=
 w.heap.size<=w'.heap.size/\(∀ x,x<w.heap.size->(n≠0->¬ x=xq)->w'.heap[x]? = w.heap[x]?)/\jT lo w'.heap.size w' v' n.succ Z g'/\((n≠0/\g'=xq)∨w.heap.size<=g')/\Below lo w w'/\KeepsOthers w w'
theorem zQ (w:World) (ty:TypeId) (lo n xq:Nat) (v:Value) (Z:Nat->Nat->Int) (P:Nat->Int) (ad:Addr) (c:Nat) (hR:jT lo w.heap.size w v n Z xq) (hlo:lo<=w.heap.size)
 (hnews:∀ j u,(P8.eight (fun _=>P) 0)[j]? = some u->w.cell? (ad.add j)=some u) (hn:n<=2000000) :
 ∃ v' w' g',(Builtin.append_ #[127,127] ty #[v,.slice (some ad) 1 c]).run Tryz.prog w=.ok v' w'/\xw lo w w' v' n (dm Z n P) xq g':=by
 obtain ⟨i5,hi5,hzz⟩:=Option.map_eq_some_iff.1 P8.Tryz.Jd;simp only [Prod.mk.injEq] at hzz;obtain ⟨hz50,hz51,hz52⟩:=hzz;have fresh:∀ v' w',w'.ownsRow w.heap.size 69 8 v' (n+1) ((List.range n).flatMap (P8.eight Z)++P8.eight (fun _=>P) 0)->w.grownBy w' none->∃ g',xw lo w w' v' n (dm Z n P) xq g':=by
  intro v' w' ho hg;rw [<-yD] at ho;obtain ⟨g',hR',hb'⟩:=nY ho (fun e=>by omega);have hge:w.heap.size<=g':=(hR'.1.in (by omega)).1;exact ⟨g',hg.size,fun x hx _=>hg.block x hx (by simp),hR'.low hlo,.inr hge,⟨hg.os,hg.tape,hg.output,hg.size,fun x hx=>hg.block x (by omega) (by simp)⟩,hg.size,fun k o hk _=>(hg.block k (Array.getElem?_eq_some_iff.1 hk).1 (by simp)).trans hk⟩
 by_cases hn0:n=0
 ·subst hn0;obtain ⟨a,rfl⟩:=hR.2.1 rfl;cases a with
  | none =>
   obtain ⟨v',w',hr,h2,h3,_⟩:=run_append_own_at (P:=Tryz.prog) w w.heap.size 127 ty 69 i5 (.agg #[zI 0,zI 0,zI 0,zI 0,zI 0,zI 0,zI 0,zI 0]) 8 64 Tryz.underlying127 hi5 hz50 hz51 hz52 rfl (by decide) (.slice none 0 0) 0 [] (World.ownsRow_nil _ _ _ _) ad 1 c (P8.eight (fun _=>P) 0) rfl hnews (tJ P) (by unfold maxLen;omega) (by omega) (Ho _);obtain ⟨g',hG⟩:=fresh v' w' (by simpa using h2) h3;exact ⟨v',w',g',hr,hG⟩
  | some b0 =>
   obtain ⟨v',w',hr,h2,h3⟩:=run_append_arg_grows (P:=Tryz.prog) w 127 ty 69 i5 (.agg #[zI 0,zI 0,zI 0,zI 0,zI 0,zI 0,zI 0,zI 0]) 8 64 Tryz.underlying127 hi5 hz50 hz51 hz52 rfl (by decide) b0 0 0 [] rfl (by simp) ad 1 c (P8.eight (fun _=>P) 0) rfl hnews (by omega) (by unfold maxLen;omega) (by omega);obtain ⟨g',hG⟩:=fresh v' w' (by simpa using h2) h3;exact ⟨v',w',g',hr,hG⟩
 rcases hR.1 with ⟨h,_⟩ | ⟨cap,rfl,a2,a3,a4,a5⟩
 ·exact absurd h hn0
 obtain ⟨r1,r2,r3,r4,r5⟩:=hR.2.2 xq cap rfl hn0;by_cases hroom:n+1<=cap
 ·have hlen:(P8.eight (fun _=>P) 0).length=8:=rfl;have hc:∀ j,j<(P8.eight (fun _=>P) 0).length->(w.cell? (zA xq (0+n * i5.size+j))).isSome=true:=fun j hj=>by rw [hz51,Nat.zero_add];exact (r5 (n * 8+j) (by rw [hlen] at hj;omega)).1
  have hf:∀ j,j<(P8.eight (fun _=>P) 0).length->w.frozen? (zA xq (0+n * i5.size+j))=false:=fun j hj=>by rw [hz51,Nat.zero_add];exact (r5 (n * 8+j) (by rw [hlen] at hj;omega)).2
  have hr:=run_append_room_cells (P:=Tryz.prog) w 127 ty 69 i5 Tryz.underlying127 hi5 xq 0 n cap ad 1 c (P8.eight (fun _=>P) 0) (by rw [hz51];rfl) hnews (tJ P) hroom hc hf;rw [hz51,Nat.zero_add] at hr;rw [hz51,Nat.zero_add] at hc;obtain ⟨g1,g2⟩:=mJ xq (P8.eight (fun _=>P) 0) (n * 8) w;have keep:∀ i,i<n * 8∨n * 8+8<=i->(w.setCells xq (n * 8) (P8.eight (fun _=>P) 0)).cell? (zA xq i)=w.cell? (zA xq i):=fun i hi=>World.cell?_setCells_out xq _ _ w (zA xq i) (fun _ _=>by simpa [hlen] using hi);have put:∀ j,j<8->(w.setCells xq (n * 8) (P8.eight (fun _=>P) 0)).cell? (zA xq (n * 8+j))=some (zI (P j)):=fun j hj=>by
   rw [World.cell?_setCells_in xq (P8.eight (fun _=>P) 0) (n * 8) w hc j (by rw [hlen];exact hj),Bg]
  have fz:∀ i,(w.setCells xq (n * 8) (P8.eight (fun _=>P) 0)).frozen? (zA xq i)=w.frozen? (zA xq i):=fun i=>World.frozen?_setCells xq _ _ w _;have all:∀ i,i<cap * 8->((w.setCells xq (n * 8) (P8.eight (fun _=>P) 0)).cell? (zA xq i)).isSome=true/\(w.setCells xq (n * 8) (P8.eight (fun _=>P) 0)).frozen? (zA xq i)=false:=fun i hi=>by
   rw [fz];refine ⟨?_,(r5 i hi).2⟩;by_cases e:i<n * 8∨n * 8+8<=i
   ·rw [keep i e];exact (r5 i hi).1
   have h:=put (i - n * 8) (by omega);rw [show n * 8+(i - n * 8)=i by omega] at h;rw [h];rfl
  refine ⟨_,_,xq,hr,Hl g2.symm,fun x hx hne=>g1.block x hx (fun e=>hne hn0 (by injection e)),⟨.inr ⟨cap,rfl,a2,by omega,Ho _,fun i hi=>all i (by omega),fun k j hk hj=>?_⟩,fun e=>by omega,fun g' c' e _=>?_⟩,.inl ⟨hn0,rfl⟩,below_grown g1 a2 hlo,Hl g2.symm,fun k o hk ho=>?_⟩
  ·by_cases e:k=n
   ·subst e;rw [put j hj,eu]
   rw [keep (k * 8+j) (by omega),upd_ne e];exact a5.2 k j (by omega) hj
  ·simp only [Value.slice.injEq,Option.some.injEq,Addr.mk.injEq,and_true,true_and] at e;obtain ⟨rfl,rfl⟩:=e;exact ⟨hroom,r2,a2,by omega,all⟩
  by_cases e:k=xq
  ·subst e;have h9:=vY (r5 0 (by omega)).1 hk;rw [ho] at h9;cases h9
  exact (g1.block k (Array.getElem?_eq_some_iff.1 hk).1 (fun q=>e (by injection q))).trans hk
 have holds:∀ j u,((List.range n).flatMap (P8.eight Z))[j]? = some u->w.cell? (((zA xq 0):Addr).add j)=some u:=lS (fun k j hk hj=>by rw [Nat.zero_add];exact a5.2 k j hk hj);obtain ⟨v',w',hr,h2,h3⟩:=run_append_arg_grows (P:=Tryz.prog) w 127 ty 69 i5 (.agg #[zI 0,zI 0,zI 0,zI 0,zI 0,zI 0,zI 0,zI 0]) 8 64 Tryz.underlying127 hi5 hz50 hz51 hz52 rfl (by decide) (zA xq 0) n cap ((List.range n).flatMap (P8.eight Z)) (lG n Z) holds ad 1 c (P8.eight (fun _=>P) 0) rfl hnews (by omega) (by unfold maxLen;omega) (by omega);obtain ⟨g',hG⟩:=fresh v' w' h2 h3;exact ⟨v',w',g',hr,hG⟩
theorem nH (w:World) (P:Nat->Int) (z:Int) (hP:P 0=z):∀ j u,(P8.eight (fun _=>P) 0)[j]? = some u->(w.alloc (.cells #[zI z,zI (P 1),zI (P 2),zI (P 3),zI (P 4),zI (P 5),zI (P 6),zI (P 7)] 69)).cell? (((zA w.heap.size 0):Addr).add j)=some u:=by
 subst hP;intro j u hj;match j,hj with
 | 0,hj=>simp [P8.eight] at hj;subst hj;simp [Addr.add]
 | 1,hj=>simp [P8.eight] at hj;subst hj;simp [Addr.add]
 | 2,hj=>simp [P8.eight] at hj;subst hj;simp [Addr.add]
 | 3,hj=>simp [P8.eight] at hj;subst hj;simp [Addr.add]
 | 4,hj=>simp [P8.eight] at hj;subst hj;simp [Addr.add]
 | 5,hj=>simp [P8.eight] at hj;subst hj;simp [Addr.add]
 | 6,hj=>simp [P8.eight] at hj;subst hj;simp [Addr.add]
 | 7,hj=>simp [P8.eight] at hj;subst hj;simp [Addr.add]
 | j+8,hj=>simp [P8.eight] at hj
theorem Ej {w:World} {o:Oper} {a:Act} {K:Act->World->Prop} {Q:Exit->Act->World->Prop} (s x:Operand) (ho:o.op=.call { callee:=.builtin .append,args:=#[s,x],argTypes:=#[127,127] })
 (lo n xq:Nat) (v:Value) (Z:Nat->Nat->Int) (P:Nat->Int) (hs:a.eval s=v) (hR:jT lo w.heap.size w v n Z xq) (hlo:lo<=w.heap.size) (ad:Addr) (c:Nat) (hx:a.eval x=.slice (some ad) 1 c)
 (hnews:∀ j u,(P8.eight (fun _=>P) 0)[j]? = some u->w.cell? (ad.add j)=some u) (hn:n<=2000000)
 (h:∀ v' w' g',xw lo w w' v' n (dm Z n P) xq g'->K (a.put o.dst v') w'):o.wp Tryz.prog a w K Q:=by
 obtain ⟨v',w',g',hr,hG⟩:=zQ w o.type lo n xq v Z P ad c hR hlo hnews hn;unfold Oper.wp execOp;simp only [ho,resolve,invoke,builtin,Sem.run_bind,Sem.run_pure,Result.andThen_ok,List.map_toArray,List.map_cons,List.map_nil,hs,hx,hr];exact h v' w' g' hG
theorem Sv.grow {w:World} {c d:Int} {s b:Nat} {lo:Lo} {V:CV} {n:Nat} (h:Sv w c d s b lo V n) {q:Nat} (hq:q<V.nO) :
 ∃ gO kO v xq,w.cell? (zA s 5)=some (zS gO V.nO kO)/\w.cell? (zA gO q)=some v/\w.frozen? (zA gO q)=false/\(lo.l<=gO/\(gO<lo.k0∨lo.k1<=gO))/\gO<w.heap.size/\¬ gO=s/\¬ gO=b/\jT lo.l w.heap.size w v (V.N q) (V.O q) xq/\(V.N q≠0->(¬ xq=s/\¬ xq=b/\¬ xq=gO)/\(xq<lo.k0∨lo.k1<=xq)) /\
  ∀ (w':World) (v':Value) (Z':Nat->Nat->Int) (g':Nat),w.heap.size<=w'.heap.size->(∀ x,x<w.heap.size->(V.N q≠0->¬ x=xq)->Sm w w' x)->w'.heap[b]? = w.heap[b]?->jT lo.l w'.heap.size w' v' (V.N q+1) Z' g'->((V.N q≠0/\g'=xq)∨w.heap.size<=g') ->
   Sv (w'.setCell (zA gO q) v') c d s b lo { V with N:=fun i=>if i=q then V.N q+1 else V.N i,O:=fun i=>if i=q then Z' else V.O i } n:=by
 obtain ⟨n0,W0,h⟩:=h;obtain ⟨gO,kO,v,xq,h1,h2,h3,h4,h5,h6,h7,h8,h9,h10⟩:=h.grow (q:=q) hq;exact ⟨gO,kO,v,xq,h1,h2,h3,h4,h5,h6,h7,h8,h9,fun w' v' Z' g' a1 a2 a3 a4 a5=>⟨n0,W0,h10 w' v' Z' g' a1 a2 a3 a4 a5⟩⟩
theorem uI (c d:Int) (s b:Nat) (lo:Lo) (q:Nat) (V:CV) (n:Nat) (P:Nat->Int) (p0:Int) (hq:q<V.nX) (hqO:q<V.nO) (hN:V.N q<=2000000) (hX:-1<=V.X q/\V.X q<=5000) (hP:P 0=V.X q) (w:World) (h:Sv w c d s b lo V n) :
 Hz 185 #[zP s 0,zI (q:Int),.agg #[zI p0,zI (P 1),zI (P 2),zI (P 3),zI (P 4),zI (P 5),zI (P 6),zI (P 7)]] w fun e w'=>e=.returned (.tuple #[])/\Sv w' c d s b lo (V.send q P) n/\Bl b lo w w':=by
 have hK1:=h.kk;obtain ⟨gX,kX,c6,cX,_,_,lX,nXs,nXb,_⟩:=h.F5 (q:=q) hq;obtain ⟨gO,kO,v,xq,c5,cq,fq,lO1,lO2,nOs,nOb,hR,hap,hset⟩:=h.grow (q:=q) hqO;obtain ⟨_,ls,ll,lb,lbw,nsb,_⟩:=h.at;obtain ⟨va,vc,rfl,_⟩:=hR.is;have hq':(q:Int)<V.nX:=by omega
 have hqO':(q:Int)<V.nO:=by omega
 have HP:bY (P 0=V.X q):=hP;have HR:bY (jT lo.l w.heap.size w (.slice va (V.N q) vc) (V.N q) (V.O q) xq):=hR;have HAP:bY (V.N q≠0->(¬ xq=s/\¬ xq=b/\¬ xq=gO)/\(xq<lo.k0∨lo.k1<=xq)):=hap;have HSET:bY _:=hset;have C5:bY (w.cell? (zA s 5)=some (zS gO V.nO kO)):=c5;have CQ:bY (w.cell? (zA gO q)=some (.slice va (V.N q) vc)):=cq;have FQ:bY (w.frozen? (zA gO q)=false):=fq;clear hP hR hap hset h c5 cq fq;go_enter Tryz.func185,Tryz.ntmps185;go_upto_region 2 with fail;obtain ⟨w1,e1⟩:∃ X,X=w.alloc (.cells #[zI (V.X q),zI (P 1),zI (P 2),zI (P 3),zI (P 4),zI (P 5),zI (P 6),zI (P 7)] 69):=⟨_,rfl⟩;rw [<-e1];have B1:Below w.heap.size w w1:=by rw [e1];exact (Hr _ _).alloc (Ho _) _
 have X1:Bk w1 w.heap.size [zI (V.X q),zI (P 1),zI (P 2),zI (P 3),zI (P 4),zI (P 5),zI (P 6),zI (P 7)]:=by rw [e1];exact aU w 69 [zI (V.X q),zI (P 1),zI (P 2),zI (P 3),zI (P 4),zI (P 5),zI (P 6),zI (P 7)]
 clear e1 c6 cX;have z1:=X1.1;have d5:w1.cell? (zA s 5)=some (zS gO V.nO kO):=(B1.cell (p:=(zA s 5)) ls).trans C5.o;have dq:w1.cell? (zA gO q)=some (.slice va (V.N q) vc):=(B1.cell (p:=(zA gO q)) lO2).trans CQ.o;have p0:w1.cell? (zA w.heap.size 0)=some (zI (V.X q)):=(X1.2 0 (by simp)).1;have p1:w1.cell? (zA w.heap.size 1)=some (zI (P 1)):=(X1.2 1 (by simp)).1;have p2:w1.cell? (zA w.heap.size 2)=some (zI (P 2)):=(X1.2 2 (by simp)).1;have p3:w1.cell? (zA w.heap.size 3)=some (zI (P 3)):=(X1.2 3 (by simp)).1;have p4:w1.cell? (zA w.heap.size 4)=some (zI (P 4)):=(X1.2 4 (by simp)).1;have p5:w1.cell? (zA w.heap.size 5)=some (zI (P 5)):=(X1.2 5 (by simp)).1;have p6:w1.cell? (zA w.heap.size 6)=some (zI (P 6)):=(X1.2 6 (by simp)).1;have p7:w1.cell? (zA w.heap.size 7)=some (zI (P 7)):=(X1.2 7 (by simp)).1;have nx1:V.N q≠0->¬ s=xq:=fun e e2=>(HAP.o e).1.1 e2.symm;have nx2:V.N q≠0->¬ gO=xq:=fun e e2=>(HAP.o e).1.2.2 e2.symm;have nx3:V.N q≠0->¬ w.heap.size=xq:=fun e e2=>by have:=(HR.o.in e).2;omega
 refine Hu (S:=fun w'=>(∀ x o,x<w1.heap.size->¬ x=gO->(V.N q≠0->¬ x=xq)->w'.cell? (zA x o)=w1.cell? (zA x o))/\w1.heap.size<=w'.heap.size) (by kernel_rfl) ⟨fun _ _ _ _ _=>rfl,Ho _⟩ ?_;intro af;obtain ⟨X0,hX0⟩:∃ X,X=w1.drew:=⟨_,rfl⟩;have B0:Below w1.heap.size w1 X0:=by rw [hX0];exact (Hr _ _).drew
 rw [<-hX0] at af ⊢;clear hX0;have nsO:¬ s=gO:=fun e=>nOs e.symm;have npO:¬ w.heap.size=gO:=by omega
 refine dY 0 (zP s 0) rfl ?_ ?_
 ·intro wx hSw;have x5:=(hSw.1 s 5 (Nat.lt_trans ls z1) nsO nx1).trans d5;have xp0:=(hSw.1 w.heap.size 0 z1 npO nx3).trans p0;have xp1:=(hSw.1 w.heap.size 1 z1 npO nx3).trans p1;have xp2:=(hSw.1 w.heap.size 2 z1 npO nx3).trans p2;have xp3:=(hSw.1 w.heap.size 3 z1 npO nx3).trans p3;have xp4:=(hSw.1 w.heap.size 4 z1 npO nx3).trans p4;have xp5:=(hSw.1 w.heap.size 5 z1 npO nx3).trans p5;have xp6:=(hSw.1 w.heap.size 6 z1 npO nx3).trans p6;have xp7:=(hSw.1 w.heap.size 7 z1 npO nx3).trans p7;have xl1:s<wx.heap.size:=Hg (Nat.lt_trans ls z1) hSw.2;have xl3:w.heap.size<wx.heap.size:=Hg z1 hSw.2;go_simp
 refine dY 1 (zP s 0) rfl ?_ ?_
 ·intro wx hSw;have x5:=(hSw.1 s 5 (Nat.lt_trans ls z1) nsO nx1).trans d5;have xp0:=(hSw.1 w.heap.size 0 z1 npO nx3).trans p0;have xp1:=(hSw.1 w.heap.size 1 z1 npO nx3).trans p1;have xp2:=(hSw.1 w.heap.size 2 z1 npO nx3).trans p2;have xp3:=(hSw.1 w.heap.size 3 z1 npO nx3).trans p3;have xp4:=(hSw.1 w.heap.size 4 z1 npO nx3).trans p4;have xp5:=(hSw.1 w.heap.size 5 z1 npO nx3).trans p5;have xp6:=(hSw.1 w.heap.size 6 z1 npO nx3).trans p6;have xp7:=(hSw.1 w.heap.size 7 z1 npO nx3).trans p7;have xl1:s<wx.heap.size:=Hg (Nat.lt_trans ls z1) hSw.2;have xl3:w.heap.size<wx.heap.size:=Hg z1 hSw.2;go_simp
 refine dY 2 (zP s 2) rfl ?_ ?_
 ·intro wx hSw;have x5:=(hSw.1 s 5 (Nat.lt_trans ls z1) nsO nx1).trans d5;have xp0:=(hSw.1 w.heap.size 0 z1 npO nx3).trans p0;have xp1:=(hSw.1 w.heap.size 1 z1 npO nx3).trans p1;have xp2:=(hSw.1 w.heap.size 2 z1 npO nx3).trans p2;have xp3:=(hSw.1 w.heap.size 3 z1 npO nx3).trans p3;have xp4:=(hSw.1 w.heap.size 4 z1 npO nx3).trans p4;have xp5:=(hSw.1 w.heap.size 5 z1 npO nx3).trans p5;have xp6:=(hSw.1 w.heap.size 6 z1 npO nx3).trans p6;have xp7:=(hSw.1 w.heap.size 7 z1 npO nx3).trans p7;have xl1:s<wx.heap.size:=Hg (Nat.lt_trans ls z1) hSw.2;have xl3:w.heap.size<wx.heap.size:=Hg z1 hSw.2;go_simp
 refine dY 3 (zP s 5) rfl ?_ ?_
 ·intro wx hSw;have x5:=(hSw.1 s 5 (Nat.lt_trans ls z1) nsO nx1).trans d5;have xp0:=(hSw.1 w.heap.size 0 z1 npO nx3).trans p0;have xp1:=(hSw.1 w.heap.size 1 z1 npO nx3).trans p1;have xp2:=(hSw.1 w.heap.size 2 z1 npO nx3).trans p2;have xp3:=(hSw.1 w.heap.size 3 z1 npO nx3).trans p3;have xp4:=(hSw.1 w.heap.size 4 z1 npO nx3).trans p4;have xp5:=(hSw.1 w.heap.size 5 z1 npO nx3).trans p5;have xp6:=(hSw.1 w.heap.size 6 z1 npO nx3).trans p6;have xp7:=(hSw.1 w.heap.size 7 z1 npO nx3).trans p7;have xl1:s<wx.heap.size:=Hg (Nat.lt_trans ls z1) hSw.2;have xl3:w.heap.size<wx.heap.size:=Hg z1 hSw.2;go_simp
 refine dY 4 (zS gO V.nO kO) rfl ?_ ?_
 ·intro wx hSw;have x5:=(hSw.1 s 5 (Nat.lt_trans ls z1) nsO nx1).trans d5;have xp0:=(hSw.1 w.heap.size 0 z1 npO nx3).trans p0;have xp1:=(hSw.1 w.heap.size 1 z1 npO nx3).trans p1;have xp2:=(hSw.1 w.heap.size 2 z1 npO nx3).trans p2;have xp3:=(hSw.1 w.heap.size 3 z1 npO nx3).trans p3;have xp4:=(hSw.1 w.heap.size 4 z1 npO nx3).trans p4;have xp5:=(hSw.1 w.heap.size 5 z1 npO nx3).trans p5;have xp6:=(hSw.1 w.heap.size 6 z1 npO nx3).trans p6;have xp7:=(hSw.1 w.heap.size 7 z1 npO nx3).trans p7;have xl1:s<wx.heap.size:=Hg (Nat.lt_trans ls z1) hSw.2;have xl3:w.heap.size<wx.heap.size:=Hg z1 hSw.2;go_simp
 refine dY 5 (zI (q:Int)) rfl ?_ ?_
 ·intro wx hSw;have x5:=(hSw.1 s 5 (Nat.lt_trans ls z1) nsO nx1).trans d5;have xp0:=(hSw.1 w.heap.size 0 z1 npO nx3).trans p0;have xp1:=(hSw.1 w.heap.size 1 z1 npO nx3).trans p1;have xp2:=(hSw.1 w.heap.size 2 z1 npO nx3).trans p2;have xp3:=(hSw.1 w.heap.size 3 z1 npO nx3).trans p3;have xp4:=(hSw.1 w.heap.size 4 z1 npO nx3).trans p4;have xp5:=(hSw.1 w.heap.size 5 z1 npO nx3).trans p5;have xp6:=(hSw.1 w.heap.size 6 z1 npO nx3).trans p6;have xp7:=(hSw.1 w.heap.size 7 z1 npO nx3).trans p7;have xl1:s<wx.heap.size:=Hg (Nat.lt_trans ls z1) hSw.2;have xl3:w.heap.size<wx.heap.size:=Hg z1 hSw.2;go_simp
 refine dY 6 (zP s 0) rfl ?_ ?_
 ·intro wx hSw;have x5:=(hSw.1 s 5 (Nat.lt_trans ls z1) nsO nx1).trans d5;have xp0:=(hSw.1 w.heap.size 0 z1 npO nx3).trans p0;have xp1:=(hSw.1 w.heap.size 1 z1 npO nx3).trans p1;have xp2:=(hSw.1 w.heap.size 2 z1 npO nx3).trans p2;have xp3:=(hSw.1 w.heap.size 3 z1 npO nx3).trans p3;have xp4:=(hSw.1 w.heap.size 4 z1 npO nx3).trans p4;have xp5:=(hSw.1 w.heap.size 5 z1 npO nx3).trans p5;have xp6:=(hSw.1 w.heap.size 6 z1 npO nx3).trans p6;have xp7:=(hSw.1 w.heap.size 7 z1 npO nx3).trans p7;have xl1:s<wx.heap.size:=Hg (Nat.lt_trans ls z1) hSw.2;have xl3:w.heap.size<wx.heap.size:=Hg z1 hSw.2;go_simp
 refine dY 7 (zP s 0) rfl ?_ ?_
 ·intro wx hSw;have x5:=(hSw.1 s 5 (Nat.lt_trans ls z1) nsO nx1).trans d5;have xp0:=(hSw.1 w.heap.size 0 z1 npO nx3).trans p0;have xp1:=(hSw.1 w.heap.size 1 z1 npO nx3).trans p1;have xp2:=(hSw.1 w.heap.size 2 z1 npO nx3).trans p2;have xp3:=(hSw.1 w.heap.size 3 z1 npO nx3).trans p3;have xp4:=(hSw.1 w.heap.size 4 z1 npO nx3).trans p4;have xp5:=(hSw.1 w.heap.size 5 z1 npO nx3).trans p5;have xp6:=(hSw.1 w.heap.size 6 z1 npO nx3).trans p6;have xp7:=(hSw.1 w.heap.size 7 z1 npO nx3).trans p7;have xl1:s<wx.heap.size:=Hg (Nat.lt_trans ls z1) hSw.2;have xl3:w.heap.size<wx.heap.size:=Hg z1 hSw.2;go_simp
 refine dY 8 (zP s 2) rfl ?_ ?_
 ·intro wx hSw;have x5:=(hSw.1 s 5 (Nat.lt_trans ls z1) nsO nx1).trans d5;have xp0:=(hSw.1 w.heap.size 0 z1 npO nx3).trans p0;have xp1:=(hSw.1 w.heap.size 1 z1 npO nx3).trans p1;have xp2:=(hSw.1 w.heap.size 2 z1 npO nx3).trans p2;have xp3:=(hSw.1 w.heap.size 3 z1 npO nx3).trans p3;have xp4:=(hSw.1 w.heap.size 4 z1 npO nx3).trans p4;have xp5:=(hSw.1 w.heap.size 5 z1 npO nx3).trans p5;have xp6:=(hSw.1 w.heap.size 6 z1 npO nx3).trans p6;have xp7:=(hSw.1 w.heap.size 7 z1 npO nx3).trans p7;have xl1:s<wx.heap.size:=Hg (Nat.lt_trans ls z1) hSw.2;have xl3:w.heap.size<wx.heap.size:=Hg z1 hSw.2;go_simp
 refine dY 9 (zP s 5) rfl ?_ ?_
 ·intro wx hSw;have x5:=(hSw.1 s 5 (Nat.lt_trans ls z1) nsO nx1).trans d5;have xp0:=(hSw.1 w.heap.size 0 z1 npO nx3).trans p0;have xp1:=(hSw.1 w.heap.size 1 z1 npO nx3).trans p1;have xp2:=(hSw.1 w.heap.size 2 z1 npO nx3).trans p2;have xp3:=(hSw.1 w.heap.size 3 z1 npO nx3).trans p3;have xp4:=(hSw.1 w.heap.size 4 z1 npO nx3).trans p4;have xp5:=(hSw.1 w.heap.size 5 z1 npO nx3).trans p5;have xp6:=(hSw.1 w.heap.size 6 z1 npO nx3).trans p6;have xp7:=(hSw.1 w.heap.size 7 z1 npO nx3).trans p7;have xl1:s<wx.heap.size:=Hg (Nat.lt_trans ls z1) hSw.2;have xl3:w.heap.size<wx.heap.size:=Hg z1 hSw.2;go_simp
 refine dY 10 (zS gO V.nO kO) rfl ?_ ?_
 ·intro wx hSw;have x5:=(hSw.1 s 5 (Nat.lt_trans ls z1) nsO nx1).trans d5;have xp0:=(hSw.1 w.heap.size 0 z1 npO nx3).trans p0;have xp1:=(hSw.1 w.heap.size 1 z1 npO nx3).trans p1;have xp2:=(hSw.1 w.heap.size 2 z1 npO nx3).trans p2;have xp3:=(hSw.1 w.heap.size 3 z1 npO nx3).trans p3;have xp4:=(hSw.1 w.heap.size 4 z1 npO nx3).trans p4;have xp5:=(hSw.1 w.heap.size 5 z1 npO nx3).trans p5;have xp6:=(hSw.1 w.heap.size 6 z1 npO nx3).trans p6;have xp7:=(hSw.1 w.heap.size 7 z1 npO nx3).trans p7;have xl1:s<wx.heap.size:=Hg (Nat.lt_trans ls z1) hSw.2;have xl3:w.heap.size<wx.heap.size:=Hg z1 hSw.2;go_simp
 refine dY 11 (zI (q:Int)) rfl ?_ ?_
 ·intro wx hSw;have x5:=(hSw.1 s 5 (Nat.lt_trans ls z1) nsO nx1).trans d5;have xp0:=(hSw.1 w.heap.size 0 z1 npO nx3).trans p0;have xp1:=(hSw.1 w.heap.size 1 z1 npO nx3).trans p1;have xp2:=(hSw.1 w.heap.size 2 z1 npO nx3).trans p2;have xp3:=(hSw.1 w.heap.size 3 z1 npO nx3).trans p3;have xp4:=(hSw.1 w.heap.size 4 z1 npO nx3).trans p4;have xp5:=(hSw.1 w.heap.size 5 z1 npO nx3).trans p5;have xp6:=(hSw.1 w.heap.size 6 z1 npO nx3).trans p6;have xp7:=(hSw.1 w.heap.size 7 z1 npO nx3).trans p7;have xl1:s<wx.heap.size:=Hg (Nat.lt_trans ls z1) hSw.2;have xl3:w.heap.size<wx.heap.size:=Hg z1 hSw.2;go_simp
 refine dY 12 (zP gO q) rfl ?_ ?_
 ·intro wx hSw;have x5:=(hSw.1 s 5 (Nat.lt_trans ls z1) nsO nx1).trans d5;have xp0:=(hSw.1 w.heap.size 0 z1 npO nx3).trans p0;have xp1:=(hSw.1 w.heap.size 1 z1 npO nx3).trans p1;have xp2:=(hSw.1 w.heap.size 2 z1 npO nx3).trans p2;have xp3:=(hSw.1 w.heap.size 3 z1 npO nx3).trans p3;have xp4:=(hSw.1 w.heap.size 4 z1 npO nx3).trans p4;have xp5:=(hSw.1 w.heap.size 5 z1 npO nx3).trans p5;have xp6:=(hSw.1 w.heap.size 6 z1 npO nx3).trans p6;have xp7:=(hSw.1 w.heap.size 7 z1 npO nx3).trans p7;have xl1:s<wx.heap.size:=Hg (Nat.lt_trans ls z1) hSw.2;have xl3:w.heap.size<wx.heap.size:=Hg z1 hSw.2;go_simp
 refine dY 14 (.agg #[zI (V.X q),zI (P 1),zI (P 2),zI (P 3),zI (P 4),zI (P 5),zI (P 6),zI (P 7)]) rfl ?_ ?_
 ·intro wx hSw;have x5:=(hSw.1 s 5 (Nat.lt_trans ls z1) nsO nx1).trans d5;have xp0:=(hSw.1 w.heap.size 0 z1 npO nx3).trans p0;have xp1:=(hSw.1 w.heap.size 1 z1 npO nx3).trans p1;have xp2:=(hSw.1 w.heap.size 2 z1 npO nx3).trans p2;have xp3:=(hSw.1 w.heap.size 3 z1 npO nx3).trans p3;have xp4:=(hSw.1 w.heap.size 4 z1 npO nx3).trans p4;have xp5:=(hSw.1 w.heap.size 5 z1 npO nx3).trans p5;have xp6:=(hSw.1 w.heap.size 6 z1 npO nx3).trans p6;have xp7:=(hSw.1 w.heap.size 7 z1 npO nx3).trans p7;have xl1:s<wx.heap.size:=Hg (Nat.lt_trans ls z1) hSw.2;have xl3:w.heap.size<wx.heap.size:=Hg z1 hSw.2;go_simp
 refine y9 [13,15] ?_;refine (AllReadyH.cons rfl (fun K hK=>?_) (AllReadyH.cons rfl (fun K hK=>?_) AllReadyH.nil))
 ·have kc:X0.cell? (zA gO q)=some (.slice va (V.N q) vc):=(B0.cell (p:=(zA gO q)) (by show gO<_;omega)).trans dq;have kl:gO<X0.heap.size:=Hg (Nat.lt_trans lO2 z1) B0.size;go_simp;clear kc kl;refine hK.out _ _ af (fun ai=>?_);clear hK K af;have af:=ai;clear ai;try simp only [aT]
  refine di 15 rfl fun K hK=>?_;go_simp;obtain ⟨X2,e2⟩:∃ X,X=X0.alloc (.cells #[zI (V.X q),zI (P 1),zI (P 2),zI (P 3),zI (P 4),zI (P 5),zI (P 6),zI (P 7)] 69):=⟨_,rfl⟩;rw [<-e2];have hx2:Below X0.heap.size X0 X2:=by rw [e2];exact (Hr _ _).alloc (Ho _) _
  have hnn:bY (∀ j u,(P8.eight (fun _=>P) 0)[j]? = some u->X2.cell? (((zA X0.heap.size 0):Addr).add j)=some u):=by rw [e2];exact nH X0 P (V.X q) HP.o
  clear e2;have B2:Below w1.heap.size w1 X2:=ah B0 hx2;have BW:Below w.heap.size w X2:=ah B1 B2;have z2:=B2.size;have z3:=BW.size;have z4:=hx2.size;have z5:=B0.size;refine hK.out _ _ ⟨fun x o hx _ hne=>B2.cell (p:=(zA x o)) hx,z2⟩ (fun ai=>?_);clear hK K af;have af:=ai;clear ai;try simp only [aT]
  refine di 16 rfl fun K hK=>?_;rw [if_pos (by rfl)];refine Ej _ _ rfl lo.l (V.N q) xq _ (V.O q) P rfl (HR.o.go (Ho _) z3 (Ho _) (fun _ _ h=>aj BW h)) (by omega) (zA X0.heap.size 0) 1 rfl hnn.o (by omega) ?_;rintro v3 X3 g3 ⟨G1,G2,G3,G4,G5⟩;obtain ⟨va3,vc3,rfl,hva3⟩:=G3.is;obtain rfl:=hva3 (by omega);clear hva3;refine hK.out _ _ ⟨fun x o hx _ hne=>(World.cell?_of_block (a:=(zA x o)) (G2 x (by omega) hne)).trans (B2.cell (p:=(zA x o)) hx),by omega⟩ (fun ai=>?_);clear hK K af;have af:=ai;clear ai;try simp only [aT]
  refine dY 17 (zP gO q) rfl ?_ ?_
  ·intro wx hSw;have x5:=(hSw.1 s 5 (Nat.lt_trans ls z1) nsO nx1).trans d5;have xp0:=(hSw.1 w.heap.size 0 z1 npO nx3).trans p0;have xp1:=(hSw.1 w.heap.size 1 z1 npO nx3).trans p1;have xp2:=(hSw.1 w.heap.size 2 z1 npO nx3).trans p2;have xp3:=(hSw.1 w.heap.size 3 z1 npO nx3).trans p3;have xp4:=(hSw.1 w.heap.size 4 z1 npO nx3).trans p4;have xp5:=(hSw.1 w.heap.size 5 z1 npO nx3).trans p5;have xp6:=(hSw.1 w.heap.size 6 z1 npO nx3).trans p6;have xp7:=(hSw.1 w.heap.size 7 z1 npO nx3).trans p7;have xl1:s<wx.heap.size:=Hg (Nat.lt_trans ls z1) hSw.2;have xl3:w.heap.size<wx.heap.size:=Hg z1 hSw.2;go_simp
  have hsm:∀ x,x<w.heap.size->(V.N q≠0->¬ x=xq)->Sm w X3 x:=fun x hx hne=>(aj BW hx).trans (fun o=>⟨World.cell?_of_block (a:=(zA x o)) (G2 x (by omega) hne),World.frozen?_of_block (a:=(zA x o)) (G2 x (by omega) hne)⟩);have hS4:=HSET.o X3 _ (dm (V.O q) (V.N q) P) g3 (by omega) hsm ((G2 b (by omega) (fun e e2=>(HAP.o e).1.2.1 e2.symm)).trans (BW.block b lbw)) G3 (by rcases G4 with h | h;exact .inl h;exact .inr (by omega));have hcq:X3.cell? (zA gO q)=some (.slice va (V.N q) vc):=(hsm gO lO2 nx2 q).1.trans CQ.o;have hfq:X3.frozen? (zA gO q)=false:=(hsm gO lO2 nx2 q).2.trans FQ.o;have lg3:gO<X3.heap.size:=by omega
  refine di 18 rfl fun K hK=>?_;go_simp;obtain ⟨X4,e4⟩:∃ X,X=X3.setCell (zA gO q) (zS g3 (V.N q+1) vc3):=⟨_,rfl⟩;have hB4:Bl b lo w X4:=by rw [e4];exact ((Bl.up BW (by omega)).trans ⟨G5.1,fun x h1 h2=>G2 x (by omega) (fun hn e=>by have:=(HAP.o hn).2;omega),fun k o _ hk ho=>G5.2.same k o hk ho⟩).setCell (by show lo.l<=gO/\(gO<lo.k0∨lo.k1<=gO);omega) _
  have hS5:Sv X4 c d s b lo { V with N:=fun i=>if i=q then V.N q+1 else V.N i,O:=fun i=>if i=q then dm (V.O q) (V.N q) P else V.O i } n:=by rw [e4];exact hS4
  rw [<-e4];refine hK.out _ _ ⟨fun x o hx h1 hne=>by rw [e4,aJ (fun e=>h1 e.1.symm)];exact (World.cell?_of_block (a:=(zA x o)) (G2 x (by omega) hne)).trans (B2.cell (p:=(zA x o)) hx),by rw [e4,ay];omega⟩ (fun ai=>?_);clear hK K af;have af:=ai;clear ai;try simp only [aT]
  refine Hy (by kernel_rfl) ?_ _;clear af e4 hS4 hcq hfq lg3 hsm G1 G2 G3 G4 G5 B2 BW hnn B0 HSET HR HAP d5 dq p0 p1 p2 p3 p4 p5 p6 p7 X1 B1;obtain ⟨gY,kY,e6,eX,fX,l1,l2,n1,n2,hset⟩:=hS5.F5 (q:=q) hq;have ls4:=hS5.at.2.1;have HF:bY (Sv (X4.setCell (zA gY q) (zI (V.X q+1))) c d s b lo (V.send q P) n):=hset (V.X q+1);have HB:bY (Bl b lo w (X4.setCell (zA gY q) (zI (V.X q+1)))):=hB4.setCell (by show lo.l<=gY/\(gY<lo.k0∨lo.k1<=gY);omega) _;have e6:X4.cell? (zA s 6)=some (zS gY V.nX kY):=e6;have eX:X4.cell? (zA gY q)=some (zI (V.X q)):=eX;clear hset hS5 hB4;go_wp2;refine bodyPost_end (v:=.tuple #[]) (by simp [results,Tryz.results185,go_sem]) rfl ?_;exact ⟨rfl,HF.o,HB.o⟩
 go_simp;obtain ⟨X2,e2⟩:∃ X,X=X0.alloc (.cells #[zI (V.X q),zI (P 1),zI (P 2),zI (P 3),zI (P 4),zI (P 5),zI (P 6),zI (P 7)] 69):=⟨_,rfl⟩;rw [<-e2];have hx2:Below X0.heap.size X0 X2:=by rw [e2];exact (Hr _ _).alloc (Ho _) _
 have hnn:bY (∀ j u,(P8.eight (fun _=>P) 0)[j]? = some u->X2.cell? (((zA X0.heap.size 0):Addr).add j)=some u):=by rw [e2];exact nH X0 P (V.X q) HP.o
 clear e2;have B2:Below w1.heap.size w1 X2:=ah B0 hx2;have BW:Below w.heap.size w X2:=ah B1 B2;have z2:=B2.size;have z3:=BW.size;have z4:=hx2.size;have z5:=B0.size;refine hK.out _ _ ⟨fun x o hx _ hne=>B2.cell (p:=(zA x o)) hx,z2⟩ (fun ai=>?_);clear hK K af;have af:=ai;clear ai;try simp only [aT]
 refine di 13 rfl fun K hK=>?_;have kc:X2.cell? (zA gO q)=some (.slice va (V.N q) vc):=(B2.cell (p:=(zA gO q)) (by show gO<_;omega)).trans dq;have kl:gO<X2.heap.size:=Hg (Nat.lt_trans lO2 z1) B2.size;go_simp;clear kc kl;refine hK.out _ _ af (fun ai=>?_);clear hK K af;have af:=ai;clear ai;try simp only [aT]
 refine di 16 rfl fun K hK=>?_;rw [if_pos (by rfl)];refine Ej _ _ rfl lo.l (V.N q) xq _ (V.O q) P rfl (HR.o.go (Ho _) z3 (Ho _) (fun _ _ h=>aj BW h)) (by omega) (zA X0.heap.size 0) 1 rfl hnn.o (by omega) ?_;rintro v3 X3 g3 ⟨G1,G2,G3,G4,G5⟩;obtain ⟨va3,vc3,rfl,hva3⟩:=G3.is;obtain rfl:=hva3 (by omega);clear hva3;refine hK.out _ _ ⟨fun x o hx _ hne=>(World.cell?_of_block (a:=(zA x o)) (G2 x (by omega) hne)).trans (B2.cell (p:=(zA x o)) hx),by omega⟩ (fun ai=>?_);clear hK K af;have af:=ai;clear ai;try simp only [aT]
 refine dY 17 (zP gO q) rfl ?_ ?_
 ·intro wx hSw;have x5:=(hSw.1 s 5 (Nat.lt_trans ls z1) nsO nx1).trans d5;have xp0:=(hSw.1 w.heap.size 0 z1 npO nx3).trans p0;have xp1:=(hSw.1 w.heap.size 1 z1 npO nx3).trans p1;have xp2:=(hSw.1 w.heap.size 2 z1 npO nx3).trans p2;have xp3:=(hSw.1 w.heap.size 3 z1 npO nx3).trans p3;have xp4:=(hSw.1 w.heap.size 4 z1 npO nx3).trans p4;have xp5:=(hSw.1 w.heap.size 5 z1 npO nx3).trans p5;have xp6:=(hSw.1 w.heap.size 6 z1 npO nx3).trans p6;have xp7:=(hSw.1 w.heap.size 7 z1 npO nx3).trans p7;have xl1:s<wx.heap.size:=Hg (Nat.lt_trans ls z1) hSw.2;have xl3:w.heap.size<wx.heap.size:=Hg z1 hSw.2;go_simp
 have hsm:∀ x,x<w.heap.size->(V.N q≠0->¬ x=xq)->Sm w X3 x:=fun x hx hne=>(aj BW hx).trans (fun o=>⟨World.cell?_of_block (a:=(zA x o)) (G2 x (by omega) hne),World.frozen?_of_block (a:=(zA x o)) (G2 x (by omega) hne)⟩);have hS4:=HSET.o X3 _ (dm (V.O q) (V.N q) P) g3 (by omega) hsm ((G2 b (by omega) (fun e e2=>(HAP.o e).1.2.1 e2.symm)).trans (BW.block b lbw)) G3 (by rcases G4 with h | h;exact .inl h;exact .inr (by omega));have hcq:X3.cell? (zA gO q)=some (.slice va (V.N q) vc):=(hsm gO lO2 nx2 q).1.trans CQ.o;have hfq:X3.frozen? (zA gO q)=false:=(hsm gO lO2 nx2 q).2.trans FQ.o;have lg3:gO<X3.heap.size:=by omega
 refine di 18 rfl fun K hK=>?_;go_simp;obtain ⟨X4,e4⟩:∃ X,X=X3.setCell (zA gO q) (zS g3 (V.N q+1) vc3):=⟨_,rfl⟩;have hB4:Bl b lo w X4:=by rw [e4];exact ((Bl.up BW (by omega)).trans ⟨G5.1,fun x h1 h2=>G2 x (by omega) (fun hn e=>by have:=(HAP.o hn).2;omega),fun k o _ hk ho=>G5.2.same k o hk ho⟩).setCell (by show lo.l<=gO/\(gO<lo.k0∨lo.k1<=gO);omega) _
 have hS5:Sv X4 c d s b lo { V with N:=fun i=>if i=q then V.N q+1 else V.N i,O:=fun i=>if i=q then dm (V.O q) (V.N q) P else V.O i } n:=by rw [e4];exact hS4
 rw [<-e4];refine hK.out _ _ ⟨fun x o hx h1 hne=>by rw [e4,aJ (fun e=>h1 e.1.symm)];exact (World.cell?_of_block (a:=(zA x o)) (G2 x (by omega) hne)).trans (B2.cell (p:=(zA x o)) hx),by rw [e4,ay];omega⟩ (fun ai=>?_);clear hK K af;have af:=ai;clear ai;try simp only [aT]
 refine Hy (by kernel_rfl) ?_ _;clear af e4 hS4 hcq hfq lg3 hsm G1 G2 G3 G4 G5 B2 BW hnn B0 HSET HR HAP d5 dq p0 p1 p2 p3 p4 p5 p6 p7 X1 B1;obtain ⟨gY,kY,e6,eX,fX,l1,l2,n1,n2,hset⟩:=hS5.F5 (q:=q) hq;have ls4:=hS5.at.2.1;have HF:bY (Sv (X4.setCell (zA gY q) (zI (V.X q+1))) c d s b lo (V.send q P) n):=hset (V.X q+1);have HB:bY (Bl b lo w (X4.setCell (zA gY q) (zI (V.X q+1)))):=hB4.setCell (by show lo.l<=gY/\(gY<lo.k0∨lo.k1<=gY);omega) _;have e6:X4.cell? (zA s 6)=some (zS gY V.nX kY):=e6;have eX:X4.cell? (zA gY q)=some (zI (V.X q)):=eX;clear hset hS5 hB4;go_wp2;refine bodyPost_end (v:=.tuple #[]) (by simp [results,Tryz.results185,go_sem]) rfl ?_;exact ⟨rfl,HF.o,HB.o⟩
def oK (z:Int):Value:=if z=1 then .nilIface else .iface 205 (zI z)
theorem Bj (c d o sq k t nn:Int) (s b:Nat) (lo:Lo) (m:Nat) (V:CV) (n:Nat) (hr:dJ V.W V.nW) (hm:m<V.nW) (hz:V.W m 0=o) (hwf:(Lit.int .i64 o).wf=true) (hn:1<=nn/\nn<=9) (hc:0<=V.W m 2/\V.W m 2<=99) (hg:0<=V.g/\V.g<=900) (w:World) (h:Sv w c d s b lo V n) :
 Hz 167 #[zP s 0,.agg #[zI o,zI sq,zI k,zI t,zI nn]] w fun e w'=>e=.returned (oK (dQ V m nn).2)/\Sv w' c d s b lo (dQ V m nn).1 (n+3)/\Bl b lo w w'/\((dQ V m nn).2≠1->Below w.heap.size w w'):=by
 have hK1:=h.kk;have HZ:bY (V.W m 0=o):=hz;clear hz;obtain ⟨_,ls,ll,lb,lbw,nsb,_⟩:=h.at;go_enter Tryz.func167,Tryz.ntmps167;go_upto_region 1 with fail;obtain ⟨w0,e0,hb0,X0,-⟩:=bx1 w [zI o,zI sq,zI k,zI t,zI nn] 66;rw [<-e0];clear e0;have z0:=X0.1;have B1:bY (Below w.heap.size w w0):=hb0;have P2:bY (Bk w0 w.heap.size [zI o,zI sq,zI k,zI t,zI nn]):=X0;have S3:bY (Sv w0 c d s b lo V n):=h.q hb0;clear X0 hb0 h;have yP0:=P2.o.a5;have hlP:w.heap.size<w0.heap.size:=P2.o.1;go_wp2_with fail;clear yP0 hlP;refine (mW c d o sq k t nn s b lo m V n hr hm HZ.o hwf _ S3.o).mono ?_;rintro e w1 ⟨rfl,hb1⟩;have y_w1:w0.heap.size<=w1.heap.size:=hb1.size;have B4:=fQ (ah B1.o hb1);have P4:=fQ (P2.o.q hb1);have S4:=fQ (S3.o.q hb1);clear B1 P2 S3;have z1:=hb1.size;clear hb1;have yP0:=P4.o.a5;have hlP:w.heap.size<w1.heap.size:=P4.o.1;by_cases hpay:nn<=V.W m 2
 ·have hd:decide (nn<=V.W m 2)=true:=by simp [hpay]
  rw [hd];clear hd;have c4:w1.cell? (zA s 4)=some (zI V.g):=S4.o.at.1.2.2.2.1;have lsw:s<w1.heap.size:=S4.o.at.2.1;by_cases hfull:900<V.g+nn
  ·have hgt:V.g+nn > 900:=hfull;go_wp2;go_region;go_wp2;go_ret;have er:dQ V m nn=(V,5):=by simp only [dQ];rw [if_neg (by omega),if_pos (by omega)]
   exact ⟨by rw [er];rfl,by rw [er];exact (S4.o.q (by repeat (first | exact Hr _ _ | apply Below.drew))).mono (by omega),by repeat (first | exact (Bl.up B4.o (by omega)) | apply Bl.drew),fun _=>by repeat (first | exact B4.o | apply Below.drew)⟩
  have hgt:¬ V.g+nn > 900:=hfull;go_wp2;go_region;go_wp2_with fail;clear yP0 hlP c4 lsw;refine (kM c d o (-nn) s b lo m V n hr hm HZ.o hwf (by omega) (by omega) _ (S4.o.q ((Hr _ _).drew))).mono ?_;rintro e w2 ⟨rfl,hS2,hB2,hG2⟩;have z2:w1.heap.size<=w2.heap.size:=hB2.size;have P2:Bk w2 w.heap.size [zI o,zI sq,zI k,zI t,zI nn]:=P4.o.sm z2 (hG2 w.heap.size (by show w.heap.size<w1.heap.size;omega) (by omega));have HS2:bY (Sv w2 c d s b lo (V.setW m (zc (V.W m) (-nn))) (n+1)):=hS2;have HB2:bY (Bl b lo w w2):=(Bl.up B4.o.drew (by omega)).trans hB2;clear hS2 hB2 hG2;have p0:=P2.a5;have lp:=P2.1;clear P2;have c4:w2.cell? (zA s 4)=some (zI V.g):=HS2.o.at.1.2.2.2.1;have f4:w2.frozen? (zA s 4)=false:=HS2.o.at.1.2.2.2.2.1;have ls2:s<w2.heap.size:=HS2.o.at.2.1;have HS3:bY (Sv (w2.drew.setCell (zA s 4) (zI (V.g+nn))) c d s b lo ((V.setW m (zc (V.W m) (-nn))).sU (V.g+nn)) (n+3)):=((HS2.o.q ((Hr _ _).drew)).ground (V.g+nn)).mono (by omega);have HB3:bY (Bl b lo w (w2.drew.setCell (zA s 4) (zI (V.g+nn)))):=HB2.o.drew.setCell (by show lo.l<=s/\(s<lo.k0∨lo.k1<=s);omega) _;clear HS2 HB2;go_wp2;go_region;go_wp2;go_ret;have er:dQ V m nn=((V.setW m (zc (V.W m) (-nn))).sU (V.g+nn),1):=by simp only [dQ];rw [if_neg (by omega),if_neg (by omega)]
  exact ⟨by rw [er];rfl,by rw [er];exact HS3.o,HB3.o,fun e=>by rw [er] at e;exact absurd rfl e⟩
 have hd:decide (nn<=V.W m 2)=false:=by simp [hpay]
 rw [hd];clear hd;go_wp2;go_ret;have er:dQ V m nn=(V,3):=by simp only [dQ];rw [if_pos (by omega)]
 exact ⟨by rw [er];rfl,by rw [er];exact (S4.o.q (by repeat (first | exact Hr _ _ | apply Below.drew))).mono (by omega),by repeat (first | exact (Bl.up B4.o (by omega)) | apply Bl.drew),fun _=>by repeat (first | exact B4.o | apply Below.drew)⟩
theorem Aw (c d o sq k t nn:Int) (s b:Nat) (lo:Lo) (m:Nat) (V:CV) (n:Nat) (hr:dJ V.W V.nW) (hm:m<V.nW) (hz:V.W m 0=o) (hwf:(Lit.int .i64 o).wf=true) (hn:1<=nn/\nn<=9) (hc:0<=V.W m 2/\V.W m 2<=99) (hg:0<=V.g/\V.g<=900) (w:World) (h:Sv w c d s b lo V n) :
 Hz 168 #[zP s 0,.agg #[zI o,zI sq,zI k,zI t,zI nn]] w fun e w'=>e=.returned (oK (dP V m nn).2)/\Sv w' c d s b lo (dP V m nn).1 (n+3)/\Bl b lo w w'/\((dP V m nn).2≠1->Below w.heap.size w w'):=by
 have hK1:=h.kk;have HZ:bY (V.W m 0=o):=hz;clear hz;obtain ⟨_,ls,ll,lb,lbw,nsb,_⟩:=h.at;go_enter Tryz.func168,Tryz.ntmps168;go_upto_region 1 with fail;obtain ⟨w0,e0,hb0,X0,-⟩:=bx1 w [zI o,zI sq,zI k,zI t,zI nn] 66;rw [<-e0];clear e0;have z0:=X0.1;have B1:bY (Below w.heap.size w w0):=hb0;have P2:bY (Bk w0 w.heap.size [zI o,zI sq,zI k,zI t,zI nn]):=X0;have S3:bY (Sv w0 c d s b lo V n):=h.q hb0;clear X0 hb0 h;have yP0:=P2.o.a5;have hlP:w.heap.size<w0.heap.size:=P2.o.1;have c4:w0.cell? (zA s 4)=some (zI V.g):=S3.o.at.1.2.2.2.1;have c8:w0.cell? (zA s 8)=some (.map (some b)):=S3.o.at.1.2.2.2.2.2;have lsw:s<w0.heap.size:=S3.o.at.2.1;by_cases hbare:V.g<nn
 ·go_wp2;go_region;go_wp2;go_ret;have er:dP V m nn=(V,6):=by simp only [dP];rw [if_pos (by omega)]
  exact ⟨by rw [er];rfl,by rw [er];exact (S3.o.q (by repeat (first | exact Hr _ _ | apply Below.drew))).mono (by omega),by repeat (first | exact (Bl.up B1.o (by omega)) | apply Bl.drew),fun _=>by repeat (first | exact B1.o | apply Below.drew)⟩
 go_wp2;go_region;have hl:=((S3.o.q ((Hr _ _).drew.drew)).lookA hr hm HZ.o hwf).1;have hfd:=uz;by_cases hfull:99<V.W m 2+nn
 ·have hgt:V.W m 2+nn > 99:=hfull;go_wp2;go_region;go_wp2;go_ret;have er:dP V m nn=(V,5):=by simp only [dP];rw [if_neg (by omega),if_pos (by omega)]
  exact ⟨by rw [er];rfl,by rw [er];exact (S3.o.q (by repeat (first | exact Hr _ _ | apply Below.drew))).mono (by omega),by repeat (first | exact (Bl.up B1.o (by omega)) | apply Bl.drew),fun _=>by repeat (first | exact B1.o | apply Below.drew)⟩
 have hgt:¬ V.W m 2+nn > 99:=hfull;have f4:w0.frozen? (zA s 4)=false:=S3.o.at.1.2.2.2.2.1;go_wp2;go_region;have nsP:¬ s=w.heap.size:=by omega
 have nPs:¬ w.heap.size=s:=by omega
 obtain ⟨w2,e2⟩:∃ X,X=(w0.setCell (zA s 4) (zI (V.g - nn))).drew.drew.drew:=⟨_,rfl⟩;go_wp2;go_region;go_upto_region 6 with fail;rw [<-e2];have HS2:bY (Sv w2 c d s b lo (V.sU (V.g - nn)) n):=by rw [e2];exact (S3.o.ground (V.g - nn)).q ((Hr _ _).drew.drew.drew)
 have HB2:bY (Bl b lo w w2):=by rw [e2];exact ((Bl.up B1.o (by omega)).setCell (by show lo.l<=s/\(s<lo.k0∨lo.k1<=s);omega) _).drew.drew.drew
 have P2:Bk w2 w.heap.size [zI o,zI sq,zI k,zI t,zI nn]:=by rw [e2];exact (P2.o.far nsP).q ((Hr _ _).drew.drew.drew)
 clear e2;clear yP0 hlP c4 c8 lsw;clear f4 hl;have p0:=P2.a5;have lp:=P2.1;clear P2;go_wp2_with fail;refine (kM c d o nn s b lo m (V.sU (V.g - nn)) n hr hm HZ.o hwf (by omega) (by show -100<=V.W m 2/\V.W m 2<=1000;omega) _ HS2.o).mono ?_;rintro e w3 ⟨rfl,hS3,hB3,_⟩;go_wp2;go_ret;have er:dP V m nn=((V.setW m (zc (V.W m) nn)).sU (V.g - nn),1):=by simp only [dP];rw [if_neg (by omega),if_neg (by omega)]
 exact ⟨by rw [er];rfl,by rw [er];exact hS3.mono (by omega),HB2.o.trans hB3,fun e=>by rw [er] at e;exact absurd rfl e⟩
theorem zk (c d o sq k t nn:Int) (s b:Nat) (lo:Lo) (m:Nat) (V:CV) (n:Nat) (hr:dJ V.W V.nW) (hm:m<V.nW) (hz:V.W m 0=o) (hwf:(Lit.int .i64 o).wf=true)  (w:World) (h:Sv w c d s b lo V n) :
 Hz 170 #[zP s 0,.agg #[zI o,zI sq,zI k,zI t,zI nn]] w fun e w'=>e=.returned (oK (((V,1):CV × Int)).2)/\Sv w' c d s b lo (((V,1):CV × Int)).1 (n+3)/\Bl b lo w w'/\((((V,1):CV × Int)).2≠1->Below w.heap.size w w'):=by
 have hK1:=h.kk;have HZ:bY (V.W m 0=o):=hz;clear hz;obtain ⟨_,ls,ll,lb,lbw,nsb,_⟩:=h.at;go_enter Tryz.func170,Tryz.ntmps170;go_wp2;go_ret;have B:Below w.heap.size w (w.alloc (.cells #[zI o,zI sq,zI k,zI t,zI nn] 66)):=(Hr _ _).alloc (Ho _) _;exact ⟨rfl,(h.q B).mono (by omega),Bl.up B (by omega),fun _=>B⟩
