/- What the model does with an order is what the program does; no Go text in sight; conditions: those typed. -/
import Derived.Test.YtngaboipleimcaaGreatDoorMo10
namespace Go.Proofs.YtngaboipleimcaaGreatDoor
open Go.RowKit Go.Deep
set_option linter.unusedVariables false
section
variable {c d:Int} {V:CV} {m:Nat} {s k t n:Int}
theorem idx_here (hr:Rise V.W V.nW) (hm:m<V.nW) {B:Nat→Int} (hB:B 0=V.W m 0):idxW (updW V.W m B) (V.W m 0) V.nW=some m :=
 idx_some V.nW (hr.upd hB) hm (by rw [upd_at];exact hB)
theorem fin_ref (hr:Rise V.W V.nW) (hm:m<V.nW) {code:Int} (hc:code≠1) (eM:kindM c d (V.setW m (zq (V.W m) s (V.W m 4))) m k t n=(V.setW m (zq (V.W m) s (V.W m 4)),code)) (eV:kindV c d (V.setW m (zq (V.W m) s 1)) m k t n=(V.setW m (zq (V.W m) s 1),code)) :
 modelV c d V m s k t n=freshV c d V m s k t n:=by
 unfold modelV freshV
 rw [eM,eV]
 simp only [if_neg hc]
 have h1:idxW (V.setW m (zq (V.W m) s (V.W m 4))).W (V.W m 0) (V.setW m (zq (V.W m) s (V.W m 4))).nW=some m:=idx_here hr hm rfl
 rw [h1]
 simp only
 refine Prod.ext ?_ rfl
 show (V.setW m (zq (V.W m) s (V.W m 4))).setW m _=_
 rw [setW_setW]
 have h2:(V.setW m (zq (V.W m) s (V.W m 4))).W m=zq (V.W m) s (V.W m 4):=upd_at
 rw [h2]
 exact congrArg (V.setW m) (by funext j;match j with | 0=>rfl | 1=>rfl | 2=>rfl | 3=>rfl | _+4=>rfl)
theorem fin_done (G:CV→CV) {B0 B1:Nat→Int} (eM:kindM c d (V.setW m (zq (V.W m) s (V.W m 4))) m k t n=(G (V.setW m B0),1)) (eV:kindV c d (V.setW m (zq (V.W m) s 1)) m k t n=(G (V.setW m B1),1))
 (h1:idxW (G (V.setW m B0)).W (V.W m 0) (G (V.setW m B0)).nW=some m) (h2:(G (V.setW m B0)).W m=B0) (h3:∀ C,(G (V.setW m B0)).setW m C=G (V.setW m C)) (h4:zq B0 (B0 3) 1=B1) :
 modelV c d V m s k t n=freshV c d V m s k t n:=by
 unfold modelV freshV
 rw [eM,eV]
 simp only
 rw [h1]
 simp only
 rw [h2,h3,h4]
 rfl
theorem model_eq (hr:Rise V.W V.nW) (hm:m<V.nW) (hto:k=2→¬ t=V.W m 0):modelV c d V m s k t n=freshV c d V m s k t n:=by
 have a0:(V.setW m (zq (V.W m) s (V.W m 4))).W m=zq (V.W m) s (V.W m 4):=upd_at
 have a1:(V.setW m (zq (V.W m) s 1)).W m=zq (V.W m) s 1:=upd_at
 have p0:∀ l,zq (V.W m) s l 1=V.W m 1:=fun _=>rfl
 have p2:∀ l,zq (V.W m) s l 2=V.W m 2:=fun _=>rfl
 have gg:∀ B,(V.setW m B).g=V.g:=fun _=>rfl
 have gc:∀ B,(V.setW m B).c=V.c:=fun _=>rfl
 have gX:∀ B,(V.setW m B).X=V.X:=fun _=>rfl
 by_cases k1:k=1
 ·subst k1
  have eM0:kindM c d (V.setW m (zq (V.W m) s (V.W m 4))) m 1 t n=stepM c d (V.setW m (zq (V.W m) s (V.W m 4))) m t:=by simp [kindM]
  have eV0:kindV c d (V.setW m (zq (V.W m) s 1)) m 1 t n=stepV c d (V.setW m (zq (V.W m) s 1)) m t:=by simp [kindV]
  by_cases w1:cellF c d (V.W m 1+stepF t)=-1∨(¬ cellF c d (V.W m 1+stepF t)=V.c∧¬ V.X t.toNat<5000)
  ·exact fin_ref hr hm (code:=2) (by decide) (by rw [eM0];unfold stepM;rw [a0,p0,gc,gX,if_pos w1]) (by rw [eV0];unfold stepV;rw [a1,p0,gc,gX,if_pos w1])
  by_cases w2:cellF c d (V.W m 1+stepF t)=V.c
  ·refine fin_done (fun U=>U) (B0:=za (zq (V.W m) s (V.W m 4)) (V.W m 1+stepF t)) (B1:=za (zq (V.W m) s 1) (V.W m 1+stepF t)) (by rw [eM0];unfold stepM;rw [a0,p0,gc,gX,if_neg w1,if_pos w2,setW_setW]) (by rw [eV0];unfold stepV;rw [a1,p0,gc,gX,if_neg w1,if_pos w2,setW_setW]) (idx_here hr hm rfl) upd_at (fun C=>setW_setW) (by funext j;match j with | 0=>rfl | 1=>rfl | 2=>rfl | 3=>rfl | _+4=>rfl)
  ·have eM:kindM c d (V.setW m (zq (V.W m) s (V.W m 4))) m 1 t n=(((V.setW m (zq (V.W m) s (V.W m 4))).outW m).send t.toNat (pw (V.X t.toNat) (za (zl (zq (V.W m) s (V.W m 4))) (V.W m 1+stepF t))),1):=by rw [eM0];unfold stepM;rw [a0,p0,gc,gX,if_neg w1,if_neg w2]
   have eV:kindV c d (V.setW m (zq (V.W m) s 1)) m 1 t n=(((V.setW m (zq (V.W m) s 1)).outW m).send t.toNat (pw (V.X t.toNat) (za (zq (V.W m) s 1) (V.W m 1+stepF t))),1):=by rw [eV0];unfold stepV;rw [a1,p0,gc,gX,if_neg w1,if_neg w2]
   unfold modelV freshV
   rw [eM,eV]
   simp only
   have hn:idxW (((V.setW m (zq (V.W m) s (V.W m 4))).outW m).send t.toNat (pw (V.X t.toNat) (za (zl (zq (V.W m) s (V.W m 4))) (V.W m 1+stepF t)))).W (V.W m 0) (((V.setW m (zq (V.W m) s (V.W m 4))).outW m).send t.toNat (pw (V.X t.toNat) (za (zl (zq (V.W m) s (V.W m 4))) (V.W m 1+stepF t)))).nW=none:=by
    refine idx_none (W:=delW (updW V.W m (zq (V.W m) s (V.W m 4))) m) (V.nW - 1) (fun j hj e=>?_)
    have hr0:Rise (updW V.W m (zq (V.W m) s (V.W m 4))) V.nW:=hr.upd rfl
    have e0:updW V.W m (zq (V.W m) s (V.W m 4)) m 0=V.W m 0:=upd_id (W:=V.W) (m:=m) (Z:=zq (V.W m) s (V.W m 4)) rfl m
    unfold delW at e
    split at e
    ·have:=hr0.one (show j<V.nW by omega) hm (e.trans e0.symm);omega
    ·have:=hr0.one (show j+1<V.nW by omega) hm (e.trans e0.symm);omega
   rw [hn]
   simp only
   have hd:delW (updW V.W m (zq (V.W m) s (V.W m 4))) m=delW (updW V.W m (zq (V.W m) s 1)) m:=by
    funext j
    unfold delW
    by_cases e:j<m
    ·rw [if_pos e,if_pos e,upd_ne (by omega),upd_ne (by omega)]
    ·rw [if_neg e,if_neg e,upd_ne (by omega),upd_ne (by omega)]
   have hp:za (zl (zq (V.W m) s (V.W m 4))) (V.W m 1+stepF t)=za (zq (V.W m) s 1) (V.W m 1+stepF t):=by funext j;match j with | 0=>rfl | 1=>rfl | 2=>rfl | 3=>rfl | _+4=>rfl
   rw [hp]
   have ho:(V.setW m (zq (V.W m) s (V.W m 4))).outW m=(V.setW m (zq (V.W m) s 1)).outW m:=by
    unfold CV.outW
    show ({ V with nW:=V.nW - 1,W:=delW (updW V.W m (zq (V.W m) s (V.W m 4))) m }:CV)={ V with nW:=V.nW - 1,W:=delW (updW V.W m (zq (V.W m) s 1)) m }
    rw [hd]
   rw [ho]
   rfl
 by_cases k2:k=2
 ·subst k2
  have eM0:kindM c d (V.setW m (zq (V.W m) s (V.W m 4))) m 2 t n=giveV (V.setW m (zq (V.W m) s (V.W m 4))) m t n:=by simp [kindM]
  have eV0:kindV c d (V.setW m (zq (V.W m) s 1)) m 2 t n=giveV (V.setW m (zq (V.W m) s 1)) m t n:=by simp [kindV]
  have hix:∀ B,B 0=V.W m 0→idxW (V.setW m B).W t (V.setW m B).nW=idxW V.W t V.nW:=fun B hB=>by
   show idxW (updW V.W m B) t V.nW=_
   rcases hr.get t with ⟨j,hj,hz⟩ | hno
   ·rw [idx_some V.nW hr hj hz,idx_some V.nW (hr.upd hB) hj (by rw [upd_id hB];exact hz)]
   ·rw [idx_none V.nW hno,idx_none V.nW (fun i hi=>by rw [upd_id hB];exact hno i hi)]
  rcases hr.get t with ⟨j,hj,hz⟩ | hno
  ·have hjm:¬ j=m:=fun e=>hto rfl (by rw [←hz,e])
   have hmj:¬ m=j:=fun e=>hjm e.symm
   have ij:=idx_some V.nW hr hj hz
   have wj:∀ B,(V.setW m B).W j=V.W j:=fun B=>upd_ne hjm
   by_cases w1:V.W m 2<n
   ·exact fin_ref hr hm (code:=3) (by decide) (by rw [eM0];unfold giveV;rw [hix (zq (V.W m) s (V.W m 4)) rfl,ij];simp only;rw [a0,p2,if_pos w1]) (by rw [eV0];unfold giveV;rw [hix (zq (V.W m) s 1) rfl,ij];simp only;rw [a1,p2,if_pos w1])
   by_cases w2:99<V.W j 2+n
   ·exact fin_ref hr hm (code:=5) (by decide) (by rw [eM0];unfold giveV;rw [hix (zq (V.W m) s (V.W m 4)) rfl,ij];simp only;rw [a0,p2,wj,if_neg w1,if_pos w2]) (by rw [eV0];unfold giveV;rw [hix (zq (V.W m) s 1) rfl,ij];simp only;rw [a1,p2,wj,if_neg w1,if_pos w2])
   ·refine fin_done (fun U=>U.setW j (zc (V.W j) n)) (B0:=zc (zq (V.W m) s (V.W m 4)) (-n)) (B1:=zc (zq (V.W m) s 1) (-n)) (by rw [eM0];unfold giveV;rw [hix (zq (V.W m) s (V.W m 4)) rfl,ij];simp only;rw [a0,p2,wj,if_neg w1,if_neg w2,setW_setW]) (by rw [eV0];unfold giveV;rw [hix (zq (V.W m) s 1) rfl,ij];simp only;rw [a1,p2,wj,if_neg w1,if_neg w2,setW_setW]) ?_ ?_ (fun C=>?_) (by funext j;match j with | 0=>rfl | 1=>rfl | 2=>rfl | 3=>rfl | _+4=>rfl)
    ·show idxW (updW (updW V.W m _) j _) (V.W m 0) V.nW=some m
     have hB:∀ i,updW (updW V.W m (zc (zq (V.W m) s (V.W m 4)) (-n))) j (zc (V.W j) n) i 0=V.W i 0:=fun i=>by rw [upd_id (W:=updW V.W m (zc (zq (V.W m) s (V.W m 4)) (-n))) (m:=j) (Z:=zc (V.W j) n) (by rw [upd_ne hjm];rfl),upd_id (W:=V.W) (m:=m) (Z:=zc (zq (V.W m) s (V.W m 4)) (-n)) rfl]
     exact idx_some V.nW (fun i i' h1 h2=>by rw [hB,hB];exact hr i i' h1 h2) hm (hB m)
    ·show updW (updW V.W m _) j _ m=_
     rw [upd_ne hmj,upd_at]
    ·show ({ V with W:=updW (updW (updW V.W m _) j _) m C }:CV)={ V with W:=updW (updW V.W m C) j _ }
     rw [upd_swap hjm,upd_upd]
  ·exact fin_ref hr hm (code:=4) (by decide) (by rw [eM0];unfold giveV;rw [hix (zq (V.W m) s (V.W m 4)) rfl,idx_none V.nW hno]) (by rw [eV0];unfold giveV;rw [hix (zq (V.W m) s 1) rfl,idx_none V.nW hno])
 by_cases k3:k=3
 ·subst k3
  have eM0:kindM c d (V.setW m (zq (V.W m) s (V.W m 4))) m 3 t n=dropV (V.setW m (zq (V.W m) s (V.W m 4))) m n:=by simp [kindM]
  have eV0:kindV c d (V.setW m (zq (V.W m) s 1)) m 3 t n=dropV (V.setW m (zq (V.W m) s 1)) m n:=by simp [kindV]
  by_cases w1:V.W m 2<n
  ·exact fin_ref hr hm (code:=3) (by decide) (by rw [eM0];unfold dropV;rw [a0,p2,if_pos w1]) (by rw [eV0];unfold dropV;rw [a1,p2,if_pos w1])
  by_cases w2:900<V.g+n
  ·exact fin_ref hr hm (code:=5) (by decide) (by rw [eM0];unfold dropV;rw [a0,p2,gg,if_neg w1,if_pos w2]) (by rw [eV0];unfold dropV;rw [a1,p2,gg,if_neg w1,if_pos w2])
  ·exact fin_done (fun U=>U.gnd (V.g+n)) (B0:=zc (zq (V.W m) s (V.W m 4)) (-n)) (B1:=zc (zq (V.W m) s 1) (-n)) (by rw [eM0];unfold dropV;rw [a0,p2,gg,if_neg w1,if_neg w2,setW_setW]) (by rw [eV0];unfold dropV;rw [a1,p2,gg,if_neg w1,if_neg w2,setW_setW]) (idx_here hr hm rfl) upd_at (fun C=>by show ({ V with W:=updW (updW V.W m _) m C,g:=V.g+n }:CV)={ V with W:=updW V.W m C,g:=V.g+n };rw [upd_upd]) (by funext j;match j with | 0=>rfl | 1=>rfl | 2=>rfl | 3=>rfl | _+4=>rfl)
 by_cases k4:k=4
 ·subst k4
  have eM0:kindM c d (V.setW m (zq (V.W m) s (V.W m 4))) m 4 t n=pickV (V.setW m (zq (V.W m) s (V.W m 4))) m n:=by simp [kindM]
  have eV0:kindV c d (V.setW m (zq (V.W m) s 1)) m 4 t n=pickV (V.setW m (zq (V.W m) s 1)) m n:=by simp [kindV]
  by_cases w1:V.g<n
  ·exact fin_ref hr hm (code:=6) (by decide) (by rw [eM0];unfold pickV;rw [gg,if_pos w1]) (by rw [eV0];unfold pickV;rw [gg,if_pos w1])
  by_cases w2:99<V.W m 2+n
  ·exact fin_ref hr hm (code:=5) (by decide) (by rw [eM0];unfold pickV;rw [a0,p2,gg,if_neg w1,if_pos w2]) (by rw [eV0];unfold pickV;rw [a1,p2,gg,if_neg w1,if_pos w2])
  ·exact fin_done (fun U=>U.gnd (V.g - n)) (B0:=zc (zq (V.W m) s (V.W m 4)) n) (B1:=zc (zq (V.W m) s 1) n) (by rw [eM0];unfold pickV;rw [a0,p2,gg,if_neg w1,if_neg w2,setW_setW]) (by rw [eV0];unfold pickV;rw [a1,p2,gg,if_neg w1,if_neg w2,setW_setW]) (idx_here hr hm rfl) upd_at (fun C=>by show ({ V with W:=updW (updW V.W m _) m C,g:=V.g - n }:CV)={ V with W:=updW V.W m C,g:=V.g - n };rw [upd_upd]) (by funext j;match j with | 0=>rfl | 1=>rfl | 2=>rfl | 3=>rfl | _+4=>rfl)
 by_cases k5:k=5
 ·subst k5
  have eM0:kindM c d (V.setW m (zq (V.W m) s (V.W m 4))) m 5 t n=throwV c d (V.setW m (zq (V.W m) s (V.W m 4))) m t n:=by simp [kindM]
  have eV0:kindV c d (V.setW m (zq (V.W m) s 1)) m 5 t n=throwV c d (V.setW m (zq (V.W m) s 1)) m t n:=by simp [kindV]
  by_cases w0:edgeB c d (V.W m 1) t=false
  ·exact fin_ref hr hm (code:=7) (by decide) (by rw [eM0];unfold throwV;rw [a0,p0,if_pos w0]) (by rw [eV0];unfold throwV;rw [a1,p0,if_pos w0])
  by_cases w1:V.W m 2<n
  ·exact fin_ref hr hm (code:=3) (by decide) (by rw [eM0];unfold throwV;rw [a0,p0,p2,if_neg w0,if_pos w1]) (by rw [eV0];unfold throwV;rw [a1,p0,p2,if_neg w0,if_pos w1])
  by_cases w2:¬ V.X t.toNat<5000
  ·exact fin_ref hr hm (code:=5) (by decide) (by rw [eM0];unfold throwV;rw [a0,p0,p2,gX,if_neg w0,if_neg w1,if_pos w2]) (by rw [eV0];unfold throwV;rw [a1,p0,p2,gX,if_neg w0,if_neg w1,if_pos w2])
  ·exact fin_done (fun U=>U.send t.toNat (pk (V.X t.toNat) n)) (B0:=zc (zq (V.W m) s (V.W m 4)) (-n)) (B1:=zc (zq (V.W m) s 1) (-n)) (by rw [eM0];unfold throwV;rw [a0,p0,p2,gX,if_neg w0,if_neg w1,if_neg w2,setW_setW]) (by rw [eV0];unfold throwV;rw [a1,p0,p2,gX,if_neg w0,if_neg w1,if_neg w2,setW_setW]) (idx_here hr hm rfl) upd_at (fun C=>by show (((V.setW m _).setW m C).send t.toNat (pk (V.X t.toNat) n))=_;rw [setW_setW]) (by funext j;match j with | 0=>rfl | 1=>rfl | 2=>rfl | 3=>rfl | _+4=>rfl)
 ·exact fin_done (fun U=>U) (B0:=zq (V.W m) s (V.W m 4)) (B1:=zq (V.W m) s 1) (by simp [kindM,k1,k2,k3,k4,k5]) (by simp [kindV,k1,k2,k3,k4,k5]) (idx_here hr hm rfl) upd_at (fun C=>setW_setW) (by funext j;match j with | 0=>rfl | 1=>rfl | 2=>rfl | 3=>rfl | _+4=>rfl)
end
theorem doM_eq {c d:Int} {V:CV} {o s k t n:Int} (hV:cllB c d V=true) (hO:ordB o s k t n=true):doM c d V o s k t n=doV c d V o s k t n:=by
 have hr:Rise V.W V.nW:=cllB_rise hV
 unfold doM doV
 rcases hr.get o with ⟨m,hm,hz⟩ | hno
 ·rw [idx_some V.nW hr hm hz]
  simp only
  rw [model_eq hr hm (fun k2=>by
   simp only [ordB,kindB,Bool.and_eq_true] at hO
   have h:=hO.2.2
   rw [if_neg (by omega),if_pos k2] at h
   simp only [Bool.and_eq_true,bne_iff_ne,ne_eq] at h
   rw [hz];exact h.2.1)]
 ·rw [idx_none V.nW hno]
