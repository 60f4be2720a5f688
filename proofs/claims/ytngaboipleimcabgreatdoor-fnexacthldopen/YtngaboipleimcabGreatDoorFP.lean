/- A cell that is ok is ok behind a record; conditions: none. -/
import Derived.Test.YtngaboipleimcabGreatDoorLB2
set_option linter.unusedVariables false
namespace Go.Proofs.YtngaboipleimcabGreatDoor
open Go.RowKit Go.Deep
theorem rH {c d:Int} {Z:Nat->Nat->Int}:∀ n,allB c d Z n=true↔∀ k,k<n->eG c d Z k=true
 | 0=>by simp [allB]
 | n+1=>by
  simp only [allB,Bool.and_eq_true]
  rw [rH n]
  exact ⟨fun h k hk=>by
   by_cases e:k=n
   ·subst e;exact h.2
   exact h.1 k (by omega),fun h=>⟨fun k hk=>h k (by omega),h n (by omega)⟩⟩
theorem jR {p:Nat->Bool}:∀ n,iM p n=true↔∀ k,k<n->p k=true
 | 0=>by simp [iM]
 | n+1=>by
  simp only [iM,Bool.and_eq_true]
  rw [jR n]
  exact ⟨fun h k hk=>by
   by_cases e:k=n
   ·subst e;exact h.2
   exact h.1 k (by omega),fun h=>⟨fun k hk=>h k (by omega),h n (by omega)⟩⟩
theorem kL {c d next:Int} {m:Nat} {Z:Nat->Nat->Int}:∀ n,P8.jP c d next m Z n=true↔∀ k,k<n->P8.fV c d next m Z k=true
 | 0=>by simp [P8.jP]
 | n+1=>by
  simp only [P8.jP,Bool.and_eq_true]
  rw [kL n]
  exact ⟨fun h k hk=>by
   by_cases e:k=n
   ·subst e;exact h.2
   exact h.1 k (by omega),fun h=>⟨fun k hk=>h k (by omega),h n (by omega)⟩⟩
/-- A walker that is ok, in the cell k. -/
def GW (c d k:Int) (Z:Nat->Int):Prop:=(1<=Z 0/\Z 0<=9)/\(0<=Z 2/\Z 2<=99)/\(0<=Z 3/\Z 3<=900)/\(0<=Z 4/\Z 4<=9)/\aQ c d (Z 1)=k
structure pz (c d:Int) (V:CV):Prop where
 has:hasB c d V.c=true
 W:∀ k,k<V.nW->GW c d V.c (V.W k)
 rise:dJ V.W V.nW
 g:0<=V.g/\V.g<=900
 two:V.nO=2/\V.nX=2/\V.nI=2
 side:∀ q:Nat,q<2->dN c d V.c (q:Int) (V.N q) (V.O q) (V.X q) (V.I q)=true
theorem qR {c d k:Int} (h:hasB c d k=true):0<=k/\okB c d=true:=by
 simp only [hasB,Bool.and_eq_true,aY] at h;exact ⟨h.2.1,h.1⟩
theorem FB {c d:Int} {V:CV} (h:bD c d V=true):pz c d V:=by
 have hr:=fB h;simp only [bD,Bool.and_eq_true,beq_iff_eq,aY] at h;obtain ⟨h1,h2,h3,h4,h5,h6,h7,h8,h9⟩:=h;refine ⟨h1,fun k hk=>?_,hr,h3,⟨h4,h5,h6⟩,fun q hq=>?_⟩
 ·have a:=(rH _).1 h2 k hk;have b:=(jR _).1 h7 k hk;simp only [eG,Ac,jK,fF,Bool.and_eq_true,aY] at a;obtain ⟨⟨⟨a1,a2,a3,a4⟩,_⟩,_⟩:=a;exact ⟨a1,a2,a3,a4,by simpa using b⟩
 have:q=0∨q=1:=by omega
 rcases this with rfl | rfl
 ·exact h8
 exact h9
theorem yH {c d:Int} {V:CV} (h:pz c d V):bD c d V=true:=by
 obtain ⟨h1,hW,hr,hg,⟨h4,h5,h6⟩,hs⟩:=h;have hp:=(qR h1).1;simp only [bD,Bool.and_eq_true,beq_iff_eq,aY];refine ⟨h1,(rH _).2 fun k hk=>?_,hg,h4,h5,h6,(jR _).2 fun k hk=>?_,hs 0 (by omega),hs 1 (by omega)⟩
 ·obtain ⟨a1,a2,a3,a4,a5⟩:=hW k hk;simp only [eG,Ac,jK,fF,Bool.and_eq_true,aY,a5];refine ⟨⟨⟨a1,a2,a3,a4⟩,by simp;omega⟩,?_⟩;by_cases e:k=0
  ·simp [e]
  have:=hr (k - 1) k (by omega) hk;simp [this]
 have:=(hW k hk).2.2.2.2;simp [this]
theorem pz.setW {c d:Int} {V:CV} (h:pz c d V) {m:Nat} {Z:Nat->Int} (hz:Z 0=V.W m 0) (hg:GW c d V.c Z):pz c d (V.setW m Z) :=
 ⟨h.has,fun k hk=>by
  show GW c d V.c (dm V.W m Z k)
  by_cases e:k=m
  ·subst e;rw [eu];exact hg
  rw [upd_ne e];exact h.W k hk,h.rise.upd hz,h.g,h.two,h.side⟩
theorem pz.outW {c d:Int} {V:CV} (h:pz c d V) (m:Nat):pz c d (V.outW m) :=
 ⟨h.has,fun k (hk:k<V.nW - 1)=>by
  show GW c d V.c (fG V.W m k)
  unfold fG
  split
  ·exact h.W k (by omega)
  exact h.W (k+1) (by omega),h.rise.del,h.g,h.two,h.side⟩
theorem pz.sU {c d:Int} {V:CV} (h:pz c d V) {z:Int} (hz:0<=z/\z<=900):pz c d (V.sU z):=⟨h.has,h.W,h.rise,hz,h.two,h.side⟩
theorem Be {c d VC s:Int} {N:Nat} {Z:Nat->Nat->Int} {xn xi:Int} {P:Nat->Int} (h:dN c d VC s N Z xn xi=true) (hx:xn<5000) (hs:¬ bf c d VC s=-1) (hP:jf c d (P 0) (P 1) (P 2) (P 3) (P 4) (P 5) (P 6) (P 7)=true) (h0:P 0=xn)
 (hw:P 1=1->aQ c d (P 3)=bf c d VC s):dN c d VC s (N+1) (dm Z N P) (xn+1) xi=true:=by
 simp only [dN,P8.eP,Bool.and_eq_true,aY,decide_eq_true_eq,if_neg hs] at h ⊢;obtain ⟨⟨h1,h2,h3,h4⟩,h5,h6⟩:=h;refine ⟨⟨h1,by omega,by omega,(kL _).2 fun k hk=>?_⟩,h5,(jR _).2 fun k hk=>?_⟩
 ·by_cases e:k=N
  ·subst e;simp only [P8.fV,eu,Bool.and_eq_true,beq_iff_eq];exact ⟨hP,by omega⟩
  have a:=(kL _).1 h4 k (by omega);simp only [P8.fV,upd_ne e,Bool.and_eq_true,beq_iff_eq] at a ⊢;exact ⟨a.1,by omega⟩
 by_cases e:k=N
 ·subst e;rw [eu];by_cases e1:P 1=1
  ·simp [e1,hw e1]
  simp [e1]
 rw [upd_ne e];exact (jR _).1 h6 k (by omega)
theorem pz.send {c d:Int} {V:CV} (h:pz c d V) {q:Nat} {P:Nat->Int} (hq:q<2) (hx:V.X q<5000) (hs:¬ bf c d V.c (q:Int)=-1) (hP:jf c d (P 0) (P 1) (P 2) (P 3) (P 4) (P 5) (P 6) (P 7)=true) (h0:P 0=V.X q)
 (hw:P 1=1->aQ c d (P 3)=bf c d V.c (q:Int)):pz c d (V.send q P) :=
 ⟨h.has,h.W,h.rise,h.g,h.two,fun j hj=>by
  show dN c d V.c (j:Int) (if j=q then V.N q+1 else V.N j) (if j=q then dm (V.O q) (V.N q) P else V.O j) (jo V.X q (V.X q+1) j) (V.I j)=true
  unfold jo
  by_cases e:j=q
  ·subst e
   simp only [if_true]
   exact Be (h.side j hj) hx hs hP h0 hw
  simp only [if_neg e]
  exact h.side j hj⟩
/-- Who steps out of a cell steps into the one that lies there. -/
theorem Aa {c d a k t:Int} (h:aQ c d a=k) (hk:hasB c d k=true) (ht:t=0∨t=1) (h1:¬ aQ c d (a+bn t)=-1) (h2:¬ aQ c d (a+bn t)=k):¬ bf c d k t=-1/\aQ c d (a+bn t)=bf c d k t:=by
 have hp:=qR hk;have hb:=fD hp.2;have hkb:=fJ hk;unfold aQ at h h1 h2 ⊢;simp only [hp.2,true_and,aY] at h h1 h2 ⊢;have e1:0<=a/\a<=c * d - 1:=by
  by_cases e:0<=a/\a<=c * d - 1
  ·exact e
  rw [if_neg e] at h;omega
 have e2:0<=a+bn t/\a+bn t<=c * d - 1:=by
  by_cases e:0<=a+bn t/\a+bn t<=c * d - 1
  ·exact e
  rw [if_neg e] at h1;exact absurd rfl h1
 rw [if_pos e1] at h;rw [if_pos e2] at h1 h2 ⊢;have hst:bn t=-1/\t=0∨bn t=1/\t=1:=by
  rcases ht with rfl | rfl
  ·exact .inl ⟨rfl,rfl⟩
  exact .inr ⟨rfl,rfl⟩
 have hd:d=2∨d=3∨d=4∨d=5∨d=6∨d=7∨d=8:=by omega
 have key:(a+bn t) / d=k+bn t/\0<=k+bn t/\k+bn t<=c - 1:=by
  rcases hst with ⟨e,_⟩ | ⟨e,_⟩ <;> rw [e] at e2 h2 ⊢ <;> rcases hd with rfl | rfl | rfl | rfl | rfl | rfl | rfl <;> omega
 have hne:¬ bn t=0:=by rcases hst with ⟨e,_⟩ | ⟨e,_⟩ <;> omega
 have hs:bf c d k t=k+bn t:=if_pos ⟨hk,hne,(kQ hp.2).2 key.2⟩;rw [hs,key.1];exact ⟨by omega,rfl⟩
theorem Gw {c d k:Int} {Z:Nat->Int} (h:GW c d k Z) {s l:Int} (hs:0<=s/\s<=900) (hl:0<=l/\l<=9):GW c d k (zq Z s l):=⟨h.1,h.2.1,hs,hl,h.2.2.2.2⟩
theorem Di {c d k:Int} {Z:Nat->Int} (h:GW c d k Z) {n:Int} (hn:0<=Z 2+n/\Z 2+n<=99):GW c d k (zc Z n):=⟨h.1,hn,h.2.2.1,h.2.2.2.1,h.2.2.2.2⟩
theorem GZ {c d k:Int} {Z:Nat->Int} (h:GW c d k Z) {a:Int} (ha:aQ c d a=k):GW c d k (za Z a):=⟨h.1,h.2.1,h.2.2.1,h.2.2.2.1,ha⟩
theorem yO {W:Nat->Nat->Int} {z:Int} {m:Nat}:∀ n,kG W z n=some m->m<n/\W m 0=z
 | 0,h=>by simp [kG] at h
 | n+1,h=>by
  unfold kG at h
  split at h
  ·simp only [Option.some.injEq] at h;subst h;rename_i e;exact ⟨by omega,e⟩
  have:=yO n h;exact ⟨by omega,this.2⟩
theorem pz.step {c d:Int} {V:CV} (h:pz c d V) {m:Nat} (hm:m<V.nW) {t:Int} (ht:t=0∨t=1) (h1:(gU c d V m t).2=1):pz c d (gU c d V m t).1:=by
 have w:=h.W m hm;obtain ⟨w1,w2,w3,w4,w5⟩:=w;have ho:=(qR h.has).2;unfold gU at h1 ⊢;split at h1
 ·simp at h1
 rename_i g;rw [if_neg g];simp only [not_or,not_and] at g;split
 ·rename_i e;exact h.setW rfl (GZ ⟨w1,w2,w3,w4,w5⟩ e)
 rename_i e;have hx:V.X t.toNat<5000:=by have:=g.2 e;omega
 obtain ⟨a1,a2⟩:=Aa w5 h.has ht g.1 e;have hx0:0<=V.X t.toNat:=by
  have hs:=h.side t.toNat (by omega);simp only [dN,P8.eP,Bool.and_eq_true,aY,decide_eq_true_eq] at hs;exact hs.1.2.1.1
 have et:((t.toNat:Nat):Int)=t:=by omega
 refine (h.outW m).send (q:=t.toNat) (by omega) hx (by rw [et];exact a1) ?_ rfl (fun _=>by rw [et];exact a2);simp only [pw,za,jf,ho,Bool.true_and,Bool.and_eq_true,aY,if_true,jK,fF];exact ⟨⟨hx0,by omega⟩,⟨⟨w1,w2,w3,w4⟩,by simpa using g.1⟩,by simp⟩
theorem pz.kind {c d:Int} {V:CV} (h:pz c d V) {m:Nat} (hm:m<V.nW) {o k t n:Int} (hk:jq o k t n=true) (h1:(fA c d V m k t n).2=1):pz c d (fA c d V m k t n).1:=by
 have w:=h.W m hm;have w2:=w.2.1;have hgr:=h.g;have ho:=(qR h.has).2;unfold jq at hk;unfold fA at h1 ⊢;by_cases k1:k=1
 ·rw [if_pos k1] at hk h1 ⊢;simp only [jy,Bool.and_eq_true,aY] at hk;exact h.step hm (by omega) h1
 rw [if_neg k1] at hk h1 ⊢;by_cases k2:k=2
 ·rw [if_pos k2] at hk h1 ⊢;simp only [Bool.and_eq_true,aY] at hk;unfold dF at h1 ⊢;split
  ·exact h
  rename_i j ej;obtain ⟨hj,_⟩:=yO _ ej;split
  ·exact h
  rename_i g1;split
  ·exact h
  rename_i g2;have wj:=h.W j hj;have hh:=h.setW (m:=m) (Z:=zc (V.W m) (-n)) rfl (Di w (by omega));refine hh.setW (m:=j) ?_ (Di wj (by have:=wj.2.1;omega));show V.W j 0=dm V.W m (zc (V.W m) (-n)) j 0;exact (kE (Z:=zc (V.W m) (-n)) rfl j).symm
 rw [if_neg k2] at hk h1 ⊢;by_cases k3:k=3
 ·rw [if_pos k3] at hk h1 ⊢;simp only [Bool.and_eq_true,aY] at hk;unfold dQ at h1 ⊢;split
  ·exact h
  split
  ·exact h
  exact (h.setW (m:=m) (Z:=zc (V.W m) (-n)) rfl (Di w (by omega))).sU (by omega)
 rw [if_neg k3] at hk h1 ⊢;by_cases k4:k=4
 ·rw [if_pos k4] at hk h1 ⊢;simp only [Bool.and_eq_true,aY] at hk;unfold dP at h1 ⊢;split
  ·exact h
  split
  ·exact h
  exact (h.setW (m:=m) (Z:=zc (V.W m) n) rfl (Di w (by omega))).sU (by omega)
 rw [if_neg k4] at hk h1 ⊢;by_cases k5:k=5
 ·rw [if_pos k5] at hk h1 ⊢;simp only [jy,Bool.and_eq_true,aY] at hk;unfold bQ at h1 ⊢;split
  ·exact h
  rename_i ge;split
  ·exact h
  rename_i g1;split
  ·exact h
  rename_i g2;have hx0:0<=V.X t.toNat:=by
   have hs:=h.side t.toNat (by omega);simp only [dN,P8.eP,Bool.and_eq_true,aY,decide_eq_true_eq] at hs;exact hs.1.2.1.1
  have et:((t.toNat:Nat):Int)=t:=by omega
  have he:iC c d (V.W m 1) t=true:=by simpa using ge
  simp only [iC,Bool.and_eq_true,decide_eq_true_eq,w.2.2.2.2] at he;refine (h.setW (m:=m) (Z:=zc (V.W m) (-n)) rfl (Di w (by omega))).send (q:=t.toNat) (by omega) (by show V.X t.toNat<5000;omega) (by rw [et];exact he.1) ?_ rfl (fun e=>by simp [pk] at e);have hx5:V.X t.toNat<=4999:=by omega
  simp [pk,jf,ho,inB,jS];exact ⟨⟨hx0,hx5⟩,hk.2⟩
 rw [if_neg k5] at h1 ⊢;exact h
theorem zM {c d:Int} {V:CV} {m:Nat} {k t n:Int}:1<=(fA c d V m k t n).2/\(fA c d V m k t n).2<=9:=by
 unfold fA;repeat' split
 ·exact qx.1
 ·exact pO.1
 ·exact pV.1
 ·exact qm.1
 ·exact nU.1
 simp
theorem pz.qJ {c d:Int} {V:CV} (h:pz c d V) {o s k t n:Int} (hO:iP o s k t n=true):pz c d (qJ c d V o s k t n).1:=by
 simp only [iP,Bool.and_eq_true,aY] at hO;unfold Go.Proofs.YtngaboipleimcabGreatDoor.qJ;split
 ·exact h
 rename_i m em;obtain ⟨hm,_⟩:=yO _ em;split
 ·exact h
 split
 ·exact h
 have w:=h.W m hm;have h2:=h.setW (m:=m) (Z:=zq (V.W m) s 1) rfl (Gw w (by omega) (by omega));obtain ⟨_,e⟩:=wF (c:=c) (d:=d) (V:=V) (m:=m) (s:=s) (k:=k) (t:=t) (n:=n) rfl;rw [e];split
 ·rename_i h1;exact h2.kind (o:=o) hm hO.2.2 h1
 have hc:=zM (c:=c) (d:=d) (V:=V.setW m (zq (V.W m) s 1)) (m:=m) (k:=k) (t:=t) (n:=n);exact h.setW rfl (Gw w (by omega) (by omega))
theorem Ef {c d VC s:Int} {N:Nat} {Z:Nat->Nat->Int} {xn xi yi:Int} (h:dN c d VC s N Z xn xi=true) (hs:¬ bf c d VC s=-1) (hy:0<=yi/\yi<=5000):dN c d VC s N Z xn yi=true:=by
 simp only [dN,Bool.and_eq_true,aY,if_neg hs] at h ⊢;exact ⟨h.1,hy,h.2.2⟩
theorem pz.inn {c d:Int} {V:CV} (h:pz c d V) {q:Nat} {pn pk pi pa pm ps pl pc:Int} (hq:q<2) (hs:¬ bf c d V.c (q:Int)=-1) (hp:jf c d pn pk pi pa pm ps pl pc=true):pz c d (CV.inn c d V q pn pk pi pa pm ps pl pc):=by
 unfold CV.inn;split
 ·rename_i ht;simp only [takeB,mg,Bool.and_eq_true] at ht;simp only [jf,Bool.and_eq_true,aY] at hp;obtain ⟨ho,hn,hp⟩:=hp;have e1:pn=V.I q:=by simpa using ht.1
  have hside:∀ j:Nat,j<2->dN c d V.c (j:Int) (V.N j) (V.O j) (V.X j) (jo V.I q (V.I q+1) j)=true:=fun j hj=>by
   unfold jo;by_cases e:j=q
   ·subst e;rw [if_pos rfl];exact Ef (h.side j hj) hs (by omega)
   rw [if_neg e];exact h.side j hj
  by_cases k1:pk=1
  ·rw [if_pos k1];rw [if_pos k1] at hp;rw [if_neg (show ¬ pk=2 by omega)] at ht;simp only [jK,fF,Bool.and_eq_true,aY,beq_iff_eq] at hp ht;obtain ⟨⟨⟨b1,b2,b3,b4⟩,b5⟩,b6⟩:=hp;have hno:∀ k,k<V.nW->¬ V.W k 0=pi:=fun k hk e=>by
    have:=h.rise.map hk e;simp [this] at ht
   have hg:GW c d V.c (zp pi pa pm ps pl):=⟨b1,b2,b3,b4,ht.2.2⟩;refine ⟨h.has,fun k (hk:k<V.nW+1)=>?_,wG h.rise hno rfl,?_,h.two,hside⟩
   ·show GW c d V.c (dK V.W V.nW pi (zp pi pa pm ps pl) k);have:=jU V.W pi V.nW;unfold dK;split
    ·exact h.W k (by omega)
    split
    ·exact hg
    exact h.W (k - 1) (by omega)
   show 0<=(if pk=1 then V.g else V.g+pc)/\(if pk=1 then V.g else V.g+pc)<=900;rw [if_pos k1];exact h.g
  rw [if_neg k1];rw [if_neg k1] at hp;simp only [Bool.and_eq_true,aY,beq_iff_eq] at hp;obtain ⟨k2,_,k3⟩:=hp;rw [if_pos k2] at ht;have hr:=of_decide_eq_true ht.2;have:=h.g;refine ⟨h.has,h.W,h.rise,?_,h.two,hside⟩;show 0<=(if pk=1 then V.g else V.g+pc)/\(if pk=1 then V.g else V.g+pc)<=900;rw [if_neg k1];omega
 exact h
theorem Gp (s:Nat):∀ n,(List.range n).filter (fun j=>decide (s<=j))=(List.range (n - s)).map (·+s)
 | 0=>by simp
 | n+1=>by
  rw [List.range_succ,List.filter_append,Gp s n]
  by_cases h:s<=n
  ·rw [show n+1 - s=(n - s)+1 by omega,List.range_succ,List.map_append]
   simp [h]
  rw [show n+1 - s=0 by omega,show n - s=0 by omega]
  simp [h]
theorem rest_end {Z:Nat->Nat->Int} {n:Nat} {next z:Int} (h:∀ k,k<n->Z k 0=next - n+k):∃ s,s<=n/\P8.rest Z n z=(List.range (n - s)).map (·+s):=by
 refine ⟨min n (z - (next - n)).toNat,Nat.min_le_left _ _,?_⟩;rw [<-Gp _ n];unfold P8.rest;apply List.filter_congr;intro k hk;have hk':=List.mem_range.1 hk;rw [h k hk'];exact decide_eq_decide.2 (by omega)
theorem pz.after {c d:Int} {V:CV} (h:pz c d V) {q:Nat} (z:Int) (hq:q<2):pz c d (V.after q z):=by
 unfold CV.after;split
 ·refine ⟨h.has,h.W,h.rise,h.g,h.two,fun j hj=>?_⟩;show dN c d V.c (j:Int) (if j=q then (P8.rest (V.O q) (V.N q) z).length else V.N j) (if j=q then fun i j=>V.O q (P8.rest (V.O q) (V.N q) z)[i]! j else V.O j) (V.X j) (V.I j)=true;by_cases e:j=q
  ·subst e;simp only [if_true];have hs:=h.side j hj;simp only [dN,P8.eP,Bool.and_eq_true,aY,decide_eq_true_eq] at hs ⊢;obtain ⟨⟨h1,h2,h3,h4⟩,h5,h6⟩:=hs;have hnum:∀ k,k<V.N j->V.O j k 0=V.X j - V.N j+k:=fun k hk=>by
    have a:=(kL _).1 h4 k hk;simp only [P8.fV,Bool.and_eq_true,beq_iff_eq] at a;exact a.2
   obtain ⟨s,hs1,hs2⟩:=rest_end (z:=z) hnum;have hat:∀ k,k<V.N j - s->(P8.rest (V.O j) (V.N j) z)[k]! = k+s:=fun k hk=>by
    rw [hs2,getElem!_pos _ k (by simpa using hk)];simp
   have hlen:(P8.rest (V.O j) (V.N j) z).length=V.N j - s:=by rw [hs2];simp
   rw [hlen];refine ⟨⟨h1,h2,by omega,(kL _).2 fun k hk=>?_⟩,h5,?_⟩
   ·have a:=(kL _).1 h4 (k+s) (by omega);simp only [P8.fV,hat k hk,Bool.and_eq_true,beq_iff_eq] at a ⊢;exact ⟨a.1,by omega⟩
   split
   ·rename_i e;rw [if_pos e] at h6;exact h6
   rename_i e;rw [if_neg e] at h6;exact (jR _).2 fun k hk=>by
    rw [hat k hk];exact (jR _).1 h6 (k+s) (by omega)
  simp only [if_neg e];exact h.side j hj
 exact h
theorem tZ {c d:Int} {V:CV} {R:Nat->Int} (hV:bD c d V=true):bD c d (aF c d V R).1=true:=by
 have h:=FB hV;cases hl:iD c d R
 ·unfold aF;rw [if_pos hl];exact hV
 unfold aF;rw [if_neg (by rw [hl];simp)];rcases nV hl with ⟨hk,hO⟩ | ⟨hk,hs,hp⟩ | ⟨hk,hs,hn⟩
 ·rw [if_pos hk];split
  ·exact yH (h.qJ hO)
  exact hV
 ·rw [if_neg (by omega)];split
  ·exact hV
  rename_i hb;try rw [if_pos hk]
  obtain ⟨q,e,hq⟩:=lF hs;rw [e] at hb ⊢;exact yH (h.inn (q:=q) hq hb hp)
 rw [if_neg (by omega)];split
 ·exact hV
 try rw [if_neg (by omega)]
 obtain ⟨q,e,hq⟩:=lF hs;rw [e];exact yH (h.after _ hq)
theorem wo {c d:Int} {V:CV} {R:Nat->Int} (h:(aF c d V R).2.2=false):(aF c d V R).1=V:=by
 unfold aF at h ⊢;repeat' split
 all_goals first
  | rfl
  | (simp_all;done)
  | skip
 ·rename_i h1 h2 h3 h4;rw [if_neg h1,if_neg h2,if_neg h3,if_pos h4] at h;have h':takeB c d V (dA V.W V.nW) (R 6).toNat (R 7) (R 8) (R 9) (R 10) (R 14)=false:=h;show CV.inn _ _ _ _ _ _ _ _ _ _ _ _=V;unfold CV.inn;rw [if_neg (by rw [h'];simp)]
 rename_i h1 h2 h3 h4;rw [if_neg h1,if_neg h2,if_neg h3,if_neg h4] at h;have h':jk V (R 6).toNat (R 15)=false:=h;show CV.after _ _ _=V;unfold CV.after;rw [if_neg (by rw [h'];simp)]
/-- The cell behind k records, done one behind the other; whether the next one fits; how many of n fit. -/
def bg (c d:Int) (V:CV) (Z:Nat->Nat->Int):Nat->CV
 | 0=>V
 | k+1=>(aF c d (bg c d V Z k) (Z k)).1
def wE (c d:Int) (V:CV) (Z:Nat->Nat->Int) (k:Nat):Bool:=(aF c d (bg c d V Z k) (Z k)).2.2
def gm (c d:Int) (V:CV) (Z:Nat->Nat->Int):Nat->Nat
 | 0=>0
 | k+1=>if gm c d V Z k=k/\wE c d V Z k=true then k+1 else gm c d V Z k
theorem uZ {c d:Int} {V:CV} {Z:Nat->Nat->Int} (h:bD c d V=true):∀ k,bD c d (bg c d V Z k)=true
 | 0=>h
 | k+1=>tZ (uZ h k)
theorem oD {c d:Int} {V:CV} {Z:Nat->Nat->Int}:∀ n,(∀ k,k<n->wE c d V Z k=true)->gm c d V Z n=n
 | 0,_=>rfl
 | n+1,h=>by
  unfold gm
  rw [if_pos ⟨oD n (fun k hk=>h k (by omega)),h n (by omega)⟩]
theorem nJ {c d:Int} {V:CV} {Z:Nat->Nat->Int} {k:Nat} (h:∀ j,j<k->wE c d V Z j=true) (h2:wE c d V Z k=false):∀ n,k<n->gm c d V Z n=k
 | 0,hn=>by omega
 | n+1,hn=>by
  unfold gm
  by_cases e:k=n
  ·subst e
   rw [oD k h,if_neg (by rw [h2];simp)]
  have e2:=nJ h h2 n (by omega)
  rw [e2,if_neg (by omega)]
