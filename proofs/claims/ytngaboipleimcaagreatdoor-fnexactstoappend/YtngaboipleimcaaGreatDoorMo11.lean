/- What the model does with an order is what the program does; no Go text in sight; conditions: those typed. -/
import Derived.Test.YtngaboipleimcaaGreatDoorMo10
set_option linter.unusedVariables false
namespace Go.Proofs.YtngaboipleimcaaGreatDoor
open Go.RowKit Go.Deep
section
variable {c d:Int} {V:CV} {m:Nat} {s k t n:Int}
theorem kH (hr:dJ V.W V.nW) (hm:m<V.nW) {B:Nat→Int} (hB:B 0=V.W m 0):kG (dm V.W m B) (V.W m 0) V.nW=some m :=
 dB V.nW (hr.upd hB) hm (by rw [eu];exact hB)
theorem ji (hr:dJ V.W V.nW) (hm:m<V.nW) {code:Int} (hc:code≠1) (eM:dG c d (V.setW m (zq (V.W m) s (V.W m 4))) m k t n=(V.setW m (zq (V.W m) s (V.W m 4)),code)) (eV:fA c d (V.setW m (zq (V.W m) s 1)) m k t n=(V.setW m (zq (V.W m) s 1),code)) :
 je c d V m s k t n=iT c d V m s k t n:=by
 unfold je iT
 rw [eM,eV]
 simp only [if_neg hc]
 have h1:kG (V.setW m (zq (V.W m) s (V.W m 4))).W (V.W m 0) (V.setW m (zq (V.W m) s (V.W m 4))).nW=some m:=kH hr hm rfl
 rw [h1]
 simp only
 refine Prod.ext ?_ rfl
 show (V.setW m (zq (V.W m) s (V.W m 4))).setW m _=_
 rw [dS]
 have h2:(V.setW m (zq (V.W m) s (V.W m 4))).W m=zq (V.W m) s (V.W m 4):=eu
 rw [h2]
 exact congrArg (V.setW m) (by funext j;match j with | 0=>rfl | 1=>rfl | 2=>rfl | 3=>rfl | _+4=>rfl)
theorem lC (G:CV→CV) {B0 B1:Nat→Int} (eM:dG c d (V.setW m (zq (V.W m) s (V.W m 4))) m k t n=(G (V.setW m B0),1)) (eV:fA c d (V.setW m (zq (V.W m) s 1)) m k t n=(G (V.setW m B1),1))
 (h1:kG (G (V.setW m B0)).W (V.W m 0) (G (V.setW m B0)).nW=some m) (h2:(G (V.setW m B0)).W m=B0) (h3:∀ C,(G (V.setW m B0)).setW m C=G (V.setW m C)) (h4:zq B0 (B0 3) 1=B1) :
 je c d V m s k t n=iT c d V m s k t n:=by
 unfold je iT
 rw [eM,eV]
 simp only
 rw [h1]
 simp only
 rw [h2,h3,h4]
 rfl
theorem CJ (hr:dJ V.W V.nW) (hm:m<V.nW) (hto:k=2→¬ t=V.W m 0):je c d V m s k t n=iT c d V m s k t n:=by
 have a0:(V.setW m (zq (V.W m) s (V.W m 4))).W m=zq (V.W m) s (V.W m 4):=eu
 have a1:(V.setW m (zq (V.W m) s 1)).W m=zq (V.W m) s 1:=eu
 have p0:∀ l,zq (V.W m) s l 1=V.W m 1:=fun _=>rfl
 have p2:∀ l,zq (V.W m) s l 2=V.W m 2:=fun _=>rfl
 have gg:∀ B,(V.setW m B).g=V.g:=fun _=>rfl
 have gc:∀ B,(V.setW m B).c=V.c:=fun _=>rfl
 have gX:∀ B,(V.setW m B).X=V.X:=fun _=>rfl
 by_cases k1:k=1
 ·subst k1
  have eM0:dG c d (V.setW m (zq (V.W m) s (V.W m 4))) m 1 t n=stepM c d (V.setW m (zq (V.W m) s (V.W m 4))) m t:=by simp [dG]
  have eV0:fA c d (V.setW m (zq (V.W m) s 1)) m 1 t n=gU c d (V.setW m (zq (V.W m) s 1)) m t:=by simp [fA]
  by_cases w1:aQ c d (V.W m 1+bn t)=-1∨(¬ aQ c d (V.W m 1+bn t)=V.c∧¬ V.X t.toNat<5000)
  ·exact ji hr hm (code:=2) (by decide) (by rw [eM0];unfold stepM;rw [a0,p0,gc,gX,if_pos w1]) (by rw [eV0];unfold gU;rw [a1,p0,gc,gX,if_pos w1])
  by_cases w2:aQ c d (V.W m 1+bn t)=V.c
  ·refine lC (fun U=>U) (B0:=za (zq (V.W m) s (V.W m 4)) (V.W m 1+bn t)) (B1:=za (zq (V.W m) s 1) (V.W m 1+bn t)) (by rw [eM0];unfold stepM;rw [a0,p0,gc,gX,if_neg w1,if_pos w2,dS]) (by rw [eV0];unfold gU;rw [a1,p0,gc,gX,if_neg w1,if_pos w2,dS]) (kH hr hm rfl) eu (fun C=>dS) (by funext j;match j with | 0=>rfl | 1=>rfl | 2=>rfl | 3=>rfl | _+4=>rfl)
  ·have eM:dG c d (V.setW m (zq (V.W m) s (V.W m 4))) m 1 t n=(((V.setW m (zq (V.W m) s (V.W m 4))).outW m).send t.toNat (pw (V.X t.toNat) (za (zl (zq (V.W m) s (V.W m 4))) (V.W m 1+bn t))),1):=by rw [eM0];unfold stepM;rw [a0,p0,gc,gX,if_neg w1,if_neg w2]
   have eV:fA c d (V.setW m (zq (V.W m) s 1)) m 1 t n=(((V.setW m (zq (V.W m) s 1)).outW m).send t.toNat (pw (V.X t.toNat) (za (zq (V.W m) s 1) (V.W m 1+bn t))),1):=by rw [eV0];unfold gU;rw [a1,p0,gc,gX,if_neg w1,if_neg w2]
   unfold je iT
   rw [eM,eV]
   simp only
   have hn:kG (((V.setW m (zq (V.W m) s (V.W m 4))).outW m).send t.toNat (pw (V.X t.toNat) (za (zl (zq (V.W m) s (V.W m 4))) (V.W m 1+bn t)))).W (V.W m 0) (((V.setW m (zq (V.W m) s (V.W m 4))).outW m).send t.toNat (pw (V.X t.toNat) (za (zl (zq (V.W m) s (V.W m 4))) (V.W m 1+bn t)))).nW=none:=by
    refine fK (W:=fG (dm V.W m (zq (V.W m) s (V.W m 4))) m) (V.nW - 1) (fun j hj e=>?_)
    have hr0:dJ (dm V.W m (zq (V.W m) s (V.W m 4))) V.nW:=hr.upd rfl
    have e0:dm V.W m (zq (V.W m) s (V.W m 4)) m 0=V.W m 0:=kE (W:=V.W) (m:=m) (Z:=zq (V.W m) s (V.W m 4)) rfl m
    unfold fG at e
    split at e
    ·have:=hr0.one (show j<V.nW by omega) hm (e.trans e0.symm);omega
    ·have:=hr0.one (show j+1<V.nW by omega) hm (e.trans e0.symm);omega
   rw [hn]
   simp only
   have hd:fG (dm V.W m (zq (V.W m) s (V.W m 4))) m=fG (dm V.W m (zq (V.W m) s 1)) m:=by
    funext j
    unfold fG
    by_cases e:j<m
    ·rw [if_pos e,if_pos e,upd_ne (by omega),upd_ne (by omega)]
    ·rw [if_neg e,if_neg e,upd_ne (by omega),upd_ne (by omega)]
   have hp:za (zl (zq (V.W m) s (V.W m 4))) (V.W m 1+bn t)=za (zq (V.W m) s 1) (V.W m 1+bn t):=by funext j;match j with | 0=>rfl | 1=>rfl | 2=>rfl | 3=>rfl | _+4=>rfl
   rw [hp]
   have ho:(V.setW m (zq (V.W m) s (V.W m 4))).outW m=(V.setW m (zq (V.W m) s 1)).outW m:=by
    unfold CV.outW
    show ({ V with nW:=V.nW - 1,W:=fG (dm V.W m (zq (V.W m) s (V.W m 4))) m }:CV)={ V with nW:=V.nW - 1,W:=fG (dm V.W m (zq (V.W m) s 1)) m }
    rw [hd]
   rw [ho]
   rfl
 by_cases k2:k=2
 ·subst k2
  have eM0:dG c d (V.setW m (zq (V.W m) s (V.W m 4))) m 2 t n=dF (V.setW m (zq (V.W m) s (V.W m 4))) m t n:=by simp [dG]
  have eV0:fA c d (V.setW m (zq (V.W m) s 1)) m 2 t n=dF (V.setW m (zq (V.W m) s 1)) m t n:=by simp [fA]
  have hix:∀ B,B 0=V.W m 0→kG (V.setW m B).W t (V.setW m B).nW=kG V.W t V.nW:=fun B hB=>by
   show kG (dm V.W m B) t V.nW=_
   rcases hr.get t with ⟨j,hj,hz⟩ | hno
   ·rw [dB V.nW hr hj hz,dB V.nW (hr.upd hB) hj (by rw [kE hB];exact hz)]
   ·rw [fK V.nW hno,fK V.nW (fun i hi=>by rw [kE hB];exact hno i hi)]
  rcases hr.get t with ⟨j,hj,hz⟩ | hno
  ·have hjm:¬ j=m:=fun e=>hto rfl (by rw [←hz,e])
   have hmj:¬ m=j:=fun e=>hjm e.symm
   have ij:=dB V.nW hr hj hz
   have wj:∀ B,(V.setW m B).W j=V.W j:=fun B=>upd_ne hjm
   by_cases w1:V.W m 2<n
   ·exact ji hr hm (code:=3) (by decide) (by rw [eM0];unfold dF;rw [hix (zq (V.W m) s (V.W m 4)) rfl,ij];simp only;rw [a0,p2,if_pos w1]) (by rw [eV0];unfold dF;rw [hix (zq (V.W m) s 1) rfl,ij];simp only;rw [a1,p2,if_pos w1])
   by_cases w2:99<V.W j 2+n
   ·exact ji hr hm (code:=5) (by decide) (by rw [eM0];unfold dF;rw [hix (zq (V.W m) s (V.W m 4)) rfl,ij];simp only;rw [a0,p2,wj,if_neg w1,if_pos w2]) (by rw [eV0];unfold dF;rw [hix (zq (V.W m) s 1) rfl,ij];simp only;rw [a1,p2,wj,if_neg w1,if_pos w2])
   ·refine lC (fun U=>U.setW j (zc (V.W j) n)) (B0:=zc (zq (V.W m) s (V.W m 4)) (-n)) (B1:=zc (zq (V.W m) s 1) (-n)) (by rw [eM0];unfold dF;rw [hix (zq (V.W m) s (V.W m 4)) rfl,ij];simp only;rw [a0,p2,wj,if_neg w1,if_neg w2,dS]) (by rw [eV0];unfold dF;rw [hix (zq (V.W m) s 1) rfl,ij];simp only;rw [a1,p2,wj,if_neg w1,if_neg w2,dS]) ?_ ?_ (fun C=>?_) (by funext j;match j with | 0=>rfl | 1=>rfl | 2=>rfl | 3=>rfl | _+4=>rfl)
    ·show kG (dm (dm V.W m _) j _) (V.W m 0) V.nW=some m
     have hB:∀ i,dm (dm V.W m (zc (zq (V.W m) s (V.W m 4)) (-n))) j (zc (V.W j) n) i 0=V.W i 0:=fun i=>by rw [kE (W:=dm V.W m (zc (zq (V.W m) s (V.W m 4)) (-n))) (m:=j) (Z:=zc (V.W j) n) (by rw [upd_ne hjm];rfl),kE (W:=V.W) (m:=m) (Z:=zc (zq (V.W m) s (V.W m 4)) (-n)) rfl]
     exact dB V.nW (fun i i' h1 h2=>by rw [hB,hB];exact hr i i' h1 h2) hm (hB m)
    ·show dm (dm V.W m _) j _ m=_
     rw [upd_ne hmj,eu]
    ·show ({ V with W:=dm (dm (dm V.W m _) j _) m C }:CV)={ V with W:=dm (dm V.W m C) j _ }
     rw [Dq hjm,qP]
  ·exact ji hr hm (code:=4) (by decide) (by rw [eM0];unfold dF;rw [hix (zq (V.W m) s (V.W m 4)) rfl,fK V.nW hno]) (by rw [eV0];unfold dF;rw [hix (zq (V.W m) s 1) rfl,fK V.nW hno])
 by_cases k3:k=3
 ·subst k3
  have eM0:dG c d (V.setW m (zq (V.W m) s (V.W m 4))) m 3 t n=dQ (V.setW m (zq (V.W m) s (V.W m 4))) m n:=by simp [dG]
  have eV0:fA c d (V.setW m (zq (V.W m) s 1)) m 3 t n=dQ (V.setW m (zq (V.W m) s 1)) m n:=by simp [fA]
  by_cases w1:V.W m 2<n
  ·exact ji hr hm (code:=3) (by decide) (by rw [eM0];unfold dQ;rw [a0,p2,if_pos w1]) (by rw [eV0];unfold dQ;rw [a1,p2,if_pos w1])
  by_cases w2:900<V.g+n
  ·exact ji hr hm (code:=5) (by decide) (by rw [eM0];unfold dQ;rw [a0,p2,gg,if_neg w1,if_pos w2]) (by rw [eV0];unfold dQ;rw [a1,p2,gg,if_neg w1,if_pos w2])
  ·exact lC (fun U=>U.sU (V.g+n)) (B0:=zc (zq (V.W m) s (V.W m 4)) (-n)) (B1:=zc (zq (V.W m) s 1) (-n)) (by rw [eM0];unfold dQ;rw [a0,p2,gg,if_neg w1,if_neg w2,dS]) (by rw [eV0];unfold dQ;rw [a1,p2,gg,if_neg w1,if_neg w2,dS]) (kH hr hm rfl) eu (fun C=>by show ({ V with W:=dm (dm V.W m _) m C,g:=V.g+n }:CV)={ V with W:=dm V.W m C,g:=V.g+n };rw [qP]) (by funext j;match j with | 0=>rfl | 1=>rfl | 2=>rfl | 3=>rfl | _+4=>rfl)
 by_cases k4:k=4
 ·subst k4
  have eM0:dG c d (V.setW m (zq (V.W m) s (V.W m 4))) m 4 t n=dP (V.setW m (zq (V.W m) s (V.W m 4))) m n:=by simp [dG]
  have eV0:fA c d (V.setW m (zq (V.W m) s 1)) m 4 t n=dP (V.setW m (zq (V.W m) s 1)) m n:=by simp [fA]
  by_cases w1:V.g<n
  ·exact ji hr hm (code:=6) (by decide) (by rw [eM0];unfold dP;rw [gg,if_pos w1]) (by rw [eV0];unfold dP;rw [gg,if_pos w1])
  by_cases w2:99<V.W m 2+n
  ·exact ji hr hm (code:=5) (by decide) (by rw [eM0];unfold dP;rw [a0,p2,gg,if_neg w1,if_pos w2]) (by rw [eV0];unfold dP;rw [a1,p2,gg,if_neg w1,if_pos w2])
  ·exact lC (fun U=>U.sU (V.g - n)) (B0:=zc (zq (V.W m) s (V.W m 4)) n) (B1:=zc (zq (V.W m) s 1) n) (by rw [eM0];unfold dP;rw [a0,p2,gg,if_neg w1,if_neg w2,dS]) (by rw [eV0];unfold dP;rw [a1,p2,gg,if_neg w1,if_neg w2,dS]) (kH hr hm rfl) eu (fun C=>by show ({ V with W:=dm (dm V.W m _) m C,g:=V.g - n }:CV)={ V with W:=dm V.W m C,g:=V.g - n };rw [qP]) (by funext j;match j with | 0=>rfl | 1=>rfl | 2=>rfl | 3=>rfl | _+4=>rfl)
 by_cases k5:k=5
 ·subst k5
  have eM0:dG c d (V.setW m (zq (V.W m) s (V.W m 4))) m 5 t n=bQ c d (V.setW m (zq (V.W m) s (V.W m 4))) m t n:=by simp [dG]
  have eV0:fA c d (V.setW m (zq (V.W m) s 1)) m 5 t n=bQ c d (V.setW m (zq (V.W m) s 1)) m t n:=by simp [fA]
  by_cases w0:iC c d (V.W m 1) t=false
  ·exact ji hr hm (code:=7) (by decide) (by rw [eM0];unfold bQ;rw [a0,p0,if_pos w0]) (by rw [eV0];unfold bQ;rw [a1,p0,if_pos w0])
  by_cases w1:V.W m 2<n
  ·exact ji hr hm (code:=3) (by decide) (by rw [eM0];unfold bQ;rw [a0,p0,p2,if_neg w0,if_pos w1]) (by rw [eV0];unfold bQ;rw [a1,p0,p2,if_neg w0,if_pos w1])
  by_cases w2:¬ V.X t.toNat<5000
  ·exact ji hr hm (code:=5) (by decide) (by rw [eM0];unfold bQ;rw [a0,p0,p2,gX,if_neg w0,if_neg w1,if_pos w2]) (by rw [eV0];unfold bQ;rw [a1,p0,p2,gX,if_neg w0,if_neg w1,if_pos w2])
  ·exact lC (fun U=>U.send t.toNat (pk (V.X t.toNat) n)) (B0:=zc (zq (V.W m) s (V.W m 4)) (-n)) (B1:=zc (zq (V.W m) s 1) (-n)) (by rw [eM0];unfold bQ;rw [a0,p0,p2,gX,if_neg w0,if_neg w1,if_neg w2,dS]) (by rw [eV0];unfold bQ;rw [a1,p0,p2,gX,if_neg w0,if_neg w1,if_neg w2,dS]) (kH hr hm rfl) eu (fun C=>by show (((V.setW m _).setW m C).send t.toNat (pk (V.X t.toNat) n))=_;rw [dS]) (by funext j;match j with | 0=>rfl | 1=>rfl | 2=>rfl | 3=>rfl | _+4=>rfl)
 ·exact lC (fun U=>U) (B0:=zq (V.W m) s (V.W m 4)) (B1:=zq (V.W m) s 1) (by simp [dG,k1,k2,k3,k4,k5]) (by simp [fA,k1,k2,k3,k4,k5]) (kH hr hm rfl) eu (fun C=>dS) (by funext j;match j with | 0=>rfl | 1=>rfl | 2=>rfl | 3=>rfl | _+4=>rfl)
end
theorem FD {c d:Int} {V:CV} {o s k t n:Int} (hV:bD c d V=true) (hO:iP o s k t n=true):Bv c d V o s k t n=qJ c d V o s k t n:=by
 have hr:dJ V.W V.nW:=fB hV
 unfold Bv qJ
 rcases hr.get o with ⟨m,hm,hz⟩ | hno
 ·rw [dB V.nW hr hm hz]
  simp only
  rw [CJ hr hm (fun k2=>by
   simp only [iP,jq,Bool.and_eq_true] at hO
   have h:=hO.2.2
   rw [if_neg (by omega),if_pos k2] at h
   simp only [Bool.and_eq_true,bne_iff_ne,ne_eq] at h
   rw [hz];exact h.2.1)]
 ·rw [fK V.nW hno]
