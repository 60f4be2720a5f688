/- WlkFind, WlkOut and WlkPut of the model, where no walker has the number; conditions: the list lies in memory. -/
import Derived.Test.YtngaboipleimcabGreatDoorDo9
import Derived.Test.YtngaboipleimcabGreatDoorAs1
set_option linter.unusedVariables false
set_option maxHeartbeats 4000000
set_option maxRecDepth 20000
namespace Go.Proofs.YtngaboipleimcabGreatDoor
open Go.RowKit Go.Deep
theorem Gv (Z:Nat->Int) (s a b:Int):zq (zq Z s a) s b=zq Z s b:=by
 funext j;match j with
 | 0=>rfl
 | 1=>rfl
 | 2=>rfl
 | 3=>rfl
 | _+4=>rfl
def wY:List Value:=[.nilFunc,.func (.func 165) #[] #[],.func (.func 166) #[] #[],.func (.func 167) #[] #[],.func (.func 168) #[] #[],.func (.func 169) #[] #[],.func (.func 170) #[] #[]]
theorem yg (W:World) (p:Addr) (g:Nat) (h1:(W.cell? p).isSome=true) (h2:W.frozen? p=false):(store p (.func (.func g) #[] #[])).run Tryz.prog W=.ok () (W.setCell p (.func (.func g) #[] #[])):=by
 rw [run_store Tryz.prog W p _ _ (by rfl)];cases h:W.cell? p with
 | none=>rw [h] at h1;cases h1
 | some v=>simp [h2]
theorem yK (W:World) (p:Addr) (h1:(W.cell? p).isSome=true) (h2:W.frozen? p=false):(store p .nilFunc).run Tryz.prog W=.ok () (W.setCell p .nilFunc):=by
 rw [run_store Tryz.prog W p _ _ (by rfl)];cases h:W.cell? p with
 | none=>rw [h] at h1;cases h1
 | some v=>simp [h2]
theorem vM (c d o sq t nn:Int) (s b:Nat) (lo:Lo) (m:Nat) (V:CV) (n:Nat) (hr:dJ V.W V.nW) (hm:m<V.nW) (hz:V.W m 0=o) (hwf:(Lit.int .i64 o).wf=true) (kk f:Nat) (hkk:kk<7) (hf:wY.getD kk undef=.func (.func f) #[] #[]) (he:∀ (args:Array Value) (w:World),(callFunc f args).run Tryz.prog w=.ok (.enter f args) w) (code:Int) (hcode:1<=code/\code<=9) (V2:CV) (hV2:code≠1->V2=V.setW m (zq (V.W m) sq 1)) (w:World)
 (HD:∀ w',Sv w' c d s b lo (V.setW m (zq (V.W m) sq 1)) (n+1)->Hz f #[zP s 0,.agg #[zI o,zI sq,zI (kk:Int),zI t,zI nn]] w' fun e w''=>e=.returned (oK code)/\Sv w'' c d s b lo V2 (n+1+3)/\Bl b lo w' w''/\(code≠1->Below w'.heap.size w' w''))
 (hg0:w.cell? (zA 0 0)=some (.iface 257 (.agg #[zP 1 204]))) (hlo:0<lo.l) (h:Sv w c d s b lo V n) :
 Hz 150 #[zP s 0,.agg #[zI o,zI sq,zI (kk:Int),zI t,zI nn]] w fun e w'=>e=.returned (zI code)/\Sv w' c d s b lo (if code=1 then V2 else V.setW m (zq (V.W m) sq code)) (n+5)/\Bl b lo w w':=by
 have hK1:=h.kk;have HZ:bY (V.W m 0=o):=hz;clear hz;obtain ⟨_,ls,ll,lb,lbw,nsb,_⟩:=h.at;go_enter Tryz.func150,Tryz.ntmps150;go_upto_region 1 with fail;obtain ⟨w0,e0,hb0,X0,-⟩:=bx1 w [zI o,zI sq,zI (kk:Int),zI t,zI nn] 66;rw [<-e0];clear e0;have z0:=X0.1;have B1:bY (Below w.heap.size w w0):=hb0;have P2:bY (Bk w0 w.heap.size [zI o,zI sq,zI (kk:Int),zI t,zI nn]):=X0;have S3:bY (Sv w0 c d s b lo V n):=h.q hb0;clear X0 hb0 h;have yP0:=P2.o.a5;have hlP:w.heap.size<w0.heap.size:=P2.o.1;go_wp2_with fail;clear yP0 hlP;refine (tV c d o sq (kk:Int) t nn s b lo m V n hr hm HZ.o hwf 1 _ S3.o).mono ?_;rintro e w1 ⟨rfl,hS1,hB1,hG1⟩;have z1:=hB1.size;have PL1:=fQ (P2.o.sm z1 (hG1 w.heap.size (by omega) (by omega)));have SL1:bY (Sv w1 c d s b lo (V.setW m (zq (V.W m) sq 1)) (n+1)):=hS1;have BL1:bY (Bl b lo w w1):=(Bl.up B1.o (by omega)).trans hB1;clear hS1 hB1 hG1 B1 P2 S3;have hst:=@yg;have hsn:=@yK;go_upto_region 3 with fail;obtain ⟨w2,e2⟩:∃ X,X=w1.alloc (.cells #[.nilFunc,.func (.func 165) #[] #[],.func (.func 166) #[] #[],.func (.func 167) #[] #[],.func (.func 168) #[] #[],.func (.func 169) #[] #[],.func (.func 170) #[] #[]] 202):=⟨_,rfl⟩;rw [<-e2];have hb2:Below w1.heap.size w1 w2:=by rw [e2];exact (Hr _ _).alloc (Ho _) _
 have hA:Bk w2 w1.heap.size wY:=by rw [e2];exact aU w1 202 wY
 clear e2 hst hsn;have z2:=hb2.size;have hP:Bk w2 w.heap.size [zI o,zI sq,zI (kk:Int),zI t,zI nn]:=PL1.o.q hb2;have hS:Sv w2 c d s b lo (V.setW m (zq (V.W m) sq 1)) (n+1):=SL1.o.q hb2;have B2:bY (Bl b lo w w2):=BL1.o.trans (Bl.up hb2 (by omega));clear PL1 SL1 BL1 hb2;have HF:bY (wY.getD kk undef=.func (.func f) #[] #[]):=hf;have HDD:bY _:=HD;have HE:bY (∀ (args:Array Value) (w:World),(callFunc f args).run Tryz.prog w=.ok (.enter f args) w):=he;have hkk':(kk:Int)<7:=by omega
 clear hf HD he;go_cut [6] (fun p wx=>oK code=p/\Sv wx c d s b lo V2 (n+4)/\Bl b lo w wx/\(code≠1->Bk wx w.heap.size [zI o,zI sq,zI (kk:Int),zI t,zI nn]))
 case first =>
  refine Hu (S:=fun w'=>Bl b lo w2 w') (by kernel_rfl) ((Bl.up (Hr _ _) (by omega)).drew) ?_;intro af;obtain ⟨X0,hX0⟩:∃ X,X=w2.drew:=⟨_,rfl⟩;have hz0:w2.heap.size<=X0.heap.size:=by rw [hX0];exact Ho _
  rw [<-hX0] at af ⊢;replace hP:=hP.q (show Below w2.heap.size w2 X0 by rw [hX0];exact (Hr _ _).drew);replace hA:=hA.q (show Below w2.heap.size w2 X0 by rw [hX0];exact (Hr _ _).drew);replace hS:=hS.q (show Below w2.heap.size w2 X0 by rw [hX0];exact (Hr _ _).drew);clear hX0;refine aA 0 (zP w.heap.size 2) rfl ?_;refine aA 4 (zP s 0) rfl ?_;refine y9 [1,5] ?_;refine (AllReadyH.cons rfl (fun K hK=>?_) (AllReadyH.cons rfl (fun K hK=>?_) AllReadyH.nil))
  ·have q0:=hP.a5;have ql:=hP.1;go_simp;clear q0 ql;refine hK.out _ _ af (fun ai=>?_);clear hK K af;have af:=ai;clear ai;try simp only [aT]
   refine aA 2 (zP w1.heap.size kk) rfl ?_;refine y9 [3,5] ?_;refine (AllReadyH.cons rfl (fun K hK=>?_) (AllReadyH.cons rfl (fun K hK=>?_) AllReadyH.nil))
   ·have qa:X0.cell? (zA w1.heap.size kk)=some (.func (.func f) #[] #[]):=by rw [(hA.2 kk hkk).1,HF.o]
    have ql:=hA.1;go_simp;clear qa ql;refine hK.out _ _ af (fun ai=>?_);clear hK K af;have af:=ai;clear ai;try simp only [aT]
    refine di 5 rfl fun K hK=>?_;have q0:=hP.a5;have ql:=hP.1;go_simp;clear q0 ql;refine hK.out _ _ af (fun ai=>?_);clear hK K af;have af:=ai;clear ai;try simp only [aT]
    refine di 6 rfl fun K hK=>?_;go_simp;rw [HE.o,Oper.upon_enter];refine (HDD.o _ hS).mono ?_;rintro e X5 ⟨rfl,hS5,hB5,hR5⟩;refine hK.out _ _ (af.trans hB5) (fun ai=>?_);clear hK K af;have af:=ai;clear ai;try simp only [aT]
    refine aA 7 (oK code) rfl ?_;refine Hy (by kernel_rfl) ?_ _;go_wp2;go_meet
    case rel=>exact ⟨rfl,hS5,B2.o.trans af,fun e=>hP.q (hR5 e)⟩
   have q0:=hP.a5;have ql:=hP.1;go_simp;clear q0 ql;refine hK.out _ _ af (fun ai=>?_);clear hK K af;have af:=ai;clear ai;try simp only [aT]
   refine di 3 rfl fun K hK=>?_;have qa:X0.cell? (zA w1.heap.size kk)=some (.func (.func f) #[] #[]):=by rw [(hA.2 kk hkk).1,HF.o]
   have ql:=hA.1;go_simp;clear qa ql;refine hK.out _ _ af (fun ai=>?_);clear hK K af;have af:=ai;clear ai;try simp only [aT]
   refine di 6 rfl fun K hK=>?_;go_simp;rw [HE.o,Oper.upon_enter];refine (HDD.o _ hS).mono ?_;rintro e X5 ⟨rfl,hS5,hB5,hR5⟩;refine hK.out _ _ (af.trans hB5) (fun ai=>?_);clear hK K af;have af:=ai;clear ai;try simp only [aT]
   refine aA 7 (oK code) rfl ?_;refine Hy (by kernel_rfl) ?_ _;go_wp2;go_meet
   case rel=>exact ⟨rfl,hS5,B2.o.trans af,fun e=>hP.q (hR5 e)⟩
  have q0:=hP.a5;have ql:=hP.1;go_simp;clear q0 ql;refine hK.out _ _ af (fun ai=>?_);clear hK K af;have af:=ai;clear ai;try simp only [aT]
  refine di 1 rfl fun K hK=>?_;have q0:=hP.a5;have ql:=hP.1;go_simp;clear q0 ql;refine hK.out _ _ af (fun ai=>?_);clear hK K af;have af:=ai;clear ai;try simp only [aT]
  refine aA 2 (zP w1.heap.size kk) rfl ?_;refine di 3 rfl fun K hK=>?_;have qa:X0.cell? (zA w1.heap.size kk)=some (.func (.func f) #[] #[]):=by rw [(hA.2 kk hkk).1,HF.o]
  have ql:=hA.1;go_simp;clear qa ql;refine hK.out _ _ af (fun ai=>?_);clear hK K af;have af:=ai;clear ai;try simp only [aT]
  refine di 6 rfl fun K hK=>?_;go_simp;rw [HE.o,Oper.upon_enter];refine (HDD.o _ hS).mono ?_;rintro e X5 ⟨rfl,hS5,hB5,hR5⟩;refine hK.out _ _ (af.trans hB5) (fun ai=>?_);clear hK K af;have af:=ai;clear ai;try simp only [aT]
  refine aA 7 (oK code) rfl ?_;refine Hy (by kernel_rfl) ?_ _;go_wp2;go_meet
  case rel=>exact ⟨rfl,hS5,B2.o.trans af,fun e=>hP.q (hR5 e)⟩
 case rest =>
  obtain ⟨w3,hw3⟩:∃ wq,wq=wc:=⟨_,rfl⟩;subst hw3;obtain ⟨rfl,hS3,hB3,hP3⟩:=hcut;clear hA hP hS HDD HF HE;have HS3:bY (Sv w3 c d s b lo V2 (n+4)):=hS3;have HB3:bY (Bl b lo w w3):=hB3;have HP3:bY (code≠1->_):=hP3;clear hS3 hB3 hP3 B2;by_cases hc1:code=1
  ·subst hc1;have er:oK 1=.nilIface:=rfl;rw [er];clear er;go_wp2_with fail;refine (as_nil _ _).mono ?_;rintro e w5 ⟨rfl,rfl⟩;go_wp2;go_ret;refine ⟨rfl,?_,?_⟩
   ·first | exact (HS3.o.q ((Hr _ _).alloc (Ho _) _)).mono (by omega) | (rw [if_pos rfl];exact (HS3.o.q ((Hr _ _).alloc (Ho _) _)).mono (by omega))
   exact HB3.o.trans (Bl.up ((Hr _ _).alloc (Ho _) _) (by have:=HS3.o.at.2.1;have:=HS3.o.kk;omega))
  have er:oK code=.iface 205 (zI code):=if_neg hc1;rw [er];clear er;obtain rfl:=hV2 hc1;have P3:=HP3.o hc1;clear HP3;obtain ⟨w4,e4⟩:∃ X,X=w3.alloc (.cells #[zI 0] 205):=⟨_,rfl⟩;have hb4:Below w3.heap.size w3 w4:=by rw [e4];exact (Hr _ _).alloc (Ho _) _
  have hT:Bk w4 w3.heap.size [zI 0]:=by rw [e4];exact aU w3 205 [zI 0]
  have hgl:w4.cell? (zA 0 0)=some (.iface 257 (.agg #[zP 1 204])):=(hb4.cell (p:=(zA 0 0)) (by show 0<w3.heap.size;have:=HS3.o.at.2.1;omega)).trans ((HB3.o.1.cell (p:=(zA 0 0)) hlo).trans hg0);go_wp2_with fail;rw [<-e4];have z4:=hb4.size;refine (as_hit code (zA w3.heap.size 0) (zI 0) w4 hgl (hT.2 0 (by simp)).1 (hT.2 0 (by simp)).2).mono ?_;rintro e w5 ⟨rfl,e5⟩;have hb5:Below w3.heap.size w3 w5:=by rw [e5];exact ((((hb4.alloc (by omega) _).alloc (by simp;omega) _).alloc (by simp;omega) _).alloc (by simp;omega) _).setCell (Ho _) _
  have hT5:Bk w5 w3.heap.size [zI code]:=by rw [e5];exact (((((hT.q ((Hr _ _).alloc (Ho _) _)).q ((Hr _ _).alloc (Ho _) _)).q ((Hr _ _).alloc (Ho _) _)).q ((Hr _ _).alloc (Ho _) _))).set (j:=0) (v:=zI code) (by simp)
  clear e4 e5 hgl hT hb4;have z5:=hb5.size;have S5:=HS3.o.q hb5;have P5:=P3.q hb5;have B5:Bl b lo w w5:=HB3.o.trans (Bl.up hb5 (by have:=HS3.o.at.2.1;have:=HS3.o.kk;omega));have p0:=P5.a5;have lp:=P5.1;have tc:w5.cell? (zA w3.heap.size 0)=some (zI code):=(hT5.2 0 (by simp)).1;have lt:=hT5.1;have H5:bY (Bk w5 w3.heap.size [zI code]):=hT5;have HS5:bY _:=S5;have HB5:bY _:=B5;clear hT5 S5 B5 P5 P3;go_wp2_with fail;clear p0 lp tc lt;refine (tV c d o sq (kk:Int) t nn s b lo m (V.setW m (zq (V.W m) sq 1)) (n+4) (hr.upd rfl) hm (by show dm V.W m _ m 0=o;rw [eu];exact HZ.o) hwf code _ HS5.o).mono ?_;rintro e w6 ⟨rfl,hS6,hB6,hG6⟩;have hT6:=H5.o.sm hB6.size (hG6 w3.heap.size H5.o.1 (by have:=HS3.o.at.2.2.2.2.1;omega));have tc:w6.cell? (zA w3.heap.size 0)=some (zI code):=(hT6.2 0 (by simp)).1;have lt:=hT6.1;have eV:(V.setW m (zq (V.W m) sq 1)).setW m (zq ((V.setW m (zq (V.W m) sq 1)).W m) sq code)=V.setW m (zq (V.W m) sq code):=by rw [dS];exact (congrArg (fun Z=>V.setW m (zq Z sq code)) eu).trans (congrArg (V.setW m) (Gv _ _ _ _))
  rw [eV] at hS6;have HS6:bY _:=hS6;have HB6:bY (Bl b lo w w6):=HB5.o.trans hB6;clear hS6 hB6 hG6 hT6 eV;go_wp2;go_ret;refine ⟨rfl,?_,HB6.o⟩;first | exact HS6.o | (rw [if_neg hc1];exact HS6.o)
theorem qK {c d:Int} {V:CV} (h:bD c d V=true):(0<=V.g/\V.g<=900)/\∀ q,q<2->0<=V.I q/\V.I q<=5000:=by
 simp only [bD,dN,Bool.and_eq_true,aY] at h;refine ⟨h.2.2.1,fun q hq=>?_⟩;have:q=0∨q=1:=by omega
 rcases this with rfl | rfl
 ·exact h.2.2.2.2.2.2.2.1.2.1
 exact h.2.2.2.2.2.2.2.2.2.1
theorem Dv {c d:Int} {Z:Nat->Nat->Int} {n:Nat} (h:allB c d Z n=true) (k:Nat) (hk:k<n):1<=Z k 0/\Z k 0<=9:=by
 have h1:=lD n (show k+1<=n by omega) h;simp only [allB,eG,Ac,jK,fF,Bool.and_eq_true,aY] at h1;exact h1.2.1.1.1
theorem wP {c d:Int} {Z:Nat->Nat->Int} {n:Nat} (h:allB c d Z n=true):∀ k,k<n->(k:Int)+1<=Z k 0
 | 0,hk=>by have:=(Dv h 0 hk).1;omega
 | k+1,hk=>by have:=wP h k (by omega);have:=uD h k hk;omega
theorem jF {c d:Int} {V:CV} (h:bD c d V=true):V.nW<=9:=by
 simp only [bD,Bool.and_eq_true] at h;by_cases e:V.nW=0
 ·omega
 have h1:=wP h.2.1 (V.nW - 1) (by omega);have h2:=(Dv h.2.1 (V.nW - 1) (by omega)).2;omega
theorem wF {c d:Int} {V:CV} {m:Nat} {s k t n:Int} {r:CV × Int} (h:fA c d (V.setW m (zq (V.W m) s 1)) m k t n=r):(iT c d V m s k t n).2=r.2/\(iT c d V m s k t n).1=if r.2=1 then r.1 else V.setW m (zq (V.W m) s r.2):=by
 unfold iT;rw [h];by_cases e:r.2=1
 ·rw [if_pos e,if_pos e];exact ⟨rfl,rfl⟩
 rw [if_neg e,if_neg e];exact ⟨rfl,rfl⟩
theorem nD {c d:Int} {V:CV} (h:bD c d V=true) (k:Nat) (hk:k<V.nW):(0<=V.W k 1/\V.W k 1<=31)/\(0<=V.W k 2/\V.W k 2<=99)/\(0<=V.W k 3/\V.W k 3<=900)/\aQ c d (V.W k 1)=V.c:=by
 simp only [bD,Bool.and_eq_true] at h;obtain ⟨h0,hA,hg,_,_,_,hK,_⟩:=h;have h1:=lD V.nW (show k+1<=V.nW by omega) hA;simp only [allB,eG,Ac,jK,fF,Bool.and_eq_true,aY] at h1;have h2:=qj V.nW (show k+1<=V.nW by omega) hK;simp only [iM,Bool.and_eq_true] at h2;have h3:aQ c d (V.W k 1)=V.c:=by simpa using h2.2
 have h4:¬ aQ c d (V.W k 1)=-1:=by simpa using h1.2.1.2
 refine ⟨?_,h1.2.1.1.2.1,h1.2.1.1.2.2.1,h3⟩;unfold aQ at h4;split at h4
 ·rename_i h5;have:=jl h5.1;have:=aY.1 h5.2;omega
 exact absurd rfl h4
theorem kD {c d:Int} {V:CV} (h:bD c d V=true) (q:Nat) (hq:q<2):(0<=V.X q/\V.X q<=5000)/\V.N q<=5000:=by
 simp only [bD,dN,P8.eP,Bool.and_eq_true,aY,decide_eq_true_eq] at h;obtain ⟨_,_,_,_,_,_,_,h0,h1⟩:=h;have:q=0∨q=1:=by omega
 rcases this with rfl | rfl
 ·obtain ⟨⟨_,h2,h3,_⟩,_⟩:=h0;omega
 obtain ⟨⟨_,h2,h3,_⟩,_⟩:=h1;omega
theorem qx {c d:Int} {V:CV} {m:Nat} {t:Int}:(1<=(gU c d V m t).2/\(gU c d V m t).2<=9)/\((gU c d V m t).2≠1->(gU c d V m t).1=V):=by
 unfold gU;repeat' split
 all_goals simp
theorem pO {V:CV} {m:Nat} {t n:Int}:(1<=(dF V m t n).2/\(dF V m t n).2<=9)/\((dF V m t n).2≠1->(dF V m t n).1=V):=by
 unfold dF;repeat' split
 all_goals simp
theorem pV {V:CV} {m:Nat} {n:Int}:(1<=(dQ V m n).2/\(dQ V m n).2<=9)/\((dQ V m n).2≠1->(dQ V m n).1=V):=by
 unfold dQ;repeat' split
 all_goals simp
theorem qm {V:CV} {m:Nat} {n:Int}:(1<=(dP V m n).2/\(dP V m n).2<=9)/\((dP V m n).2≠1->(dP V m n).1=V):=by
 unfold dP;repeat' split
 all_goals simp
theorem nU {c d:Int} {V:CV} {m:Nat} {t n:Int}:(1<=(bQ c d V m t n).2/\(bQ c d V m t n).2<=9)/\((bQ c d V m t n).2≠1->(bQ c d V m t n).1=V):=by
 unfold bQ;repeat' split
 all_goals simp
theorem BD (args:Array Value) (w:World):(callFunc 165 args).run Tryz.prog w=.ok (.enter 165 args) w:=by kernel_rfl
theorem BF (args:Array Value) (w:World):(callFunc 166 args).run Tryz.prog w=.ok (.enter 166 args) w:=by kernel_rfl
theorem Dy (args:Array Value) (w:World):(callFunc 167 args).run Tryz.prog w=.ok (.enter 167 args) w:=by kernel_rfl
theorem BG (args:Array Value) (w:World):(callFunc 168 args).run Tryz.prog w=.ok (.enter 168 args) w:=by kernel_rfl
theorem Dj (args:Array Value) (w:World):(callFunc 169 args).run Tryz.prog w=.ok (.enter 169 args) w:=by kernel_rfl
theorem Cm (args:Array Value) (w:World):(callFunc 170 args).run Tryz.prog w=.ok (.enter 170 args) w:=by kernel_rfl
theorem uU (c d o sq k t nn:Int) (s b:Nat) (lo:Lo) (m:Nat) (V:CV) (n:Nat) (hV:bD c d V=true) (hO:iP o sq k t nn=true) (hm:m<V.nW) (hz:V.W m 0=o) (hwf:(Lit.int .i64 o).wf=true) (hwt:(Lit.int .i64 t).wf=true) (w:World)
 (hg0:w.cell? (zA 0 0)=some (.iface 257 (.agg #[zP 1 204]))) (hlo:0<lo.l) (h:Sv w c d s b lo V n) :
 Hz 150 #[zP s 0,.agg #[zI o,zI sq,zI k,zI t,zI nn]] w fun e w'=>e=.returned (zI (iT c d V m sq k t nn).2)/\Sv w' c d s b lo (iT c d V m sq k t nn).1 (n+5)/\Bl b lo w w':=by
 have hK1:=h.kk;have hr:dJ V.W V.nW:=fB hV;have hr1:dJ (V.setW m (zq (V.W m) sq 1)).W (V.setW m (zq (V.W m) sq 1)).nW:=hr.upd rfl;have hz1:(V.setW m (zq (V.W m) sq 1)).W m 0=o:=by show dm V.W m _ m 0=o;rw [eu];exact hz
 obtain ⟨n1,n2,n3⟩:=dH hV;obtain ⟨b1,b2,b3,b4⟩:=nD hV m hm;have e1:(V.setW m (zq (V.W m) sq 1)).W m 1=V.W m 1:=by show dm V.W m _ m 1=_;rw [eu];rfl
 have e2:(V.setW m (zq (V.W m) sq 1)).W m 2=V.W m 2:=by show dm V.W m _ m 2=_;rw [eu];rfl
 have hg:0<=V.g/\V.g<=900:=(qK hV).1;have hc1:0<=(V.setW m (zq (V.W m) sq 1)).W m 2/\(V.setW m (zq (V.W m) sq 1)).W m 2<=99:=by rw [e2];exact b2
 have hA1:0<=(V.setW m (zq (V.W m) sq 1)).W m 1/\(V.setW m (zq (V.W m) sq 1)).W m 1<=31:=by rw [e1];exact b1
 have hct:∀ j,j<V.nW->(V.setW m (zq (V.W m) sq 1)).W j 0=t->0<=(V.setW m (zq (V.W m) sq 1)).W j 2/\(V.setW m (zq (V.W m) sq 1)).W j 2<=99:=fun j hj _=>by
  by_cases e:j=m
  ·subst e;exact hc1
  have:(V.setW m (zq (V.W m) sq 1)).W j=V.W j:=upd_ne e;rw [this];exact (nD hV j hj).2.1
 have fin:∀ (kk f:Nat) (r:CV × Int),k=(kk:Int)->kk<7->wY.getD kk undef=.func (.func f) #[] #[]->(∀ (args:Array Value) (w:World),(callFunc f args).run Tryz.prog w=.ok (.enter f args) w)->fA c d (V.setW m (zq (V.W m) sq 1)) m k t nn=r->(1<=r.2/\r.2<=9)->(r.2≠1->r.1=(V.setW m (zq (V.W m) sq 1))) ->
  (∀ w',Sv w' c d s b lo (V.setW m (zq (V.W m) sq 1)) (n+1)->Hz f #[zP s 0,.agg #[zI o,zI sq,zI k,zI t,zI nn]] w' fun e w''=>e=.returned (oK r.2)/\Sv w'' c d s b lo r.1 (n+1+3)/\Bl b lo w' w''/\(r.2≠1->Below w'.heap.size w' w'')) ->
  Hz 150 #[zP s 0,.agg #[zI o,zI sq,zI k,zI t,zI nn]] w fun e w'=>e=.returned (zI (iT c d V m sq k t nn).2)/\Sv w' c d s b lo (iT c d V m sq k t nn).1 (n+5)/\Bl b lo w w':=by
  intro kk f r hk hkk hf he hkind hcode hsame hD
  obtain ⟨f1,f2⟩:=wF hkind
  rw [f1,f2]
  subst hk
  exact vM c d o sq t nn s b lo m V n hr hm hz hwf kk f hkk hf he r.2 hcode r.1 hsame w hD hg0 hlo h
 have hk:=hO;simp only [iP,jq,Bool.and_eq_true] at hk;obtain ⟨_,_,hk⟩:=hk;have side:∀ {z:Int},jy z=true->∃ q:Nat,z=(q:Int)/\q<2:=fun {z} hs=>by
  have:z=0∨z=1:=by simp only [jy,aY] at hs;omega
  rcases this with rfl | rfl
  ·exact ⟨0,rfl,by omega⟩
  exact ⟨1,rfl,by omega⟩
 by_cases k1:k=1
 ·rw [if_pos k1] at hk;simp only [Bool.and_eq_true] at hk;obtain ⟨q,hq,hq2⟩:=side hk.1;obtain ⟨x1,x2⟩:=kD hV q hq2;exact fin 1 165 (gU c d (V.setW m (zq (V.W m) sq 1)) m t) k1 (by omega) rfl BD (by simp [fA,k1]) qx.1 qx.2 (fun w' hS=>xH c d o sq k t nn s b lo m (V.setW m (zq (V.W m) sq 1)) (n+1) hr1 hm hz1 hwf hA1 q hq (by show q<V.nX;omega) (by show q<V.nO;omega) (by show V.N q<=_;omega) (by show -1<=V.X q/\V.X q<=5000;omega) w' hS)
 rw [if_neg k1] at hk;by_cases k2:k=2
 ·rw [if_pos k2] at hk;simp only [Bool.and_eq_true,aY,bne_iff_ne,ne_eq] at hk;exact fin 2 166 (dF (V.setW m (zq (V.W m) sq 1)) m t nn) k2 (by omega) rfl BF (by simp [fA,k2]) pO.1 pO.2 (fun w' hS=>zi c d o sq k t nn s b lo m (V.setW m (zq (V.W m) sq 1)) (n+1) hr1 hm hz1 hwf hk.2.2 hc1 hg hwt hk.2.1 hct w' hS)
 rw [if_neg k2] at hk;by_cases k3:k=3
 ·rw [if_pos k3] at hk;simp only [Bool.and_eq_true,aY] at hk;exact fin 3 167 (dQ (V.setW m (zq (V.W m) sq 1)) m nn) k3 (by omega) rfl Dy (by simp [fA,k3]) pV.1 pV.2 (fun w' hS=>Bj c d o sq k t nn s b lo m (V.setW m (zq (V.W m) sq 1)) (n+1) hr1 hm hz1 hwf hk.2 hc1 hg w' hS)
 rw [if_neg k3] at hk;by_cases k4:k=4
 ·rw [if_pos k4] at hk;simp only [Bool.and_eq_true,aY] at hk;exact fin 4 168 (dP (V.setW m (zq (V.W m) sq 1)) m nn) k4 (by omega) rfl BG (by simp [fA,k4]) qm.1 qm.2 (fun w' hS=>Aw c d o sq k t nn s b lo m (V.setW m (zq (V.W m) sq 1)) (n+1) hr1 hm hz1 hwf hk.2 hc1 hg w' hS)
 rw [if_neg k4] at hk;by_cases k5:k=5
 ·rw [if_pos k5] at hk;simp only [Bool.and_eq_true,aY] at hk;obtain ⟨q,hq,hq2⟩:=side hk.1;obtain ⟨x1,x2⟩:=kD hV q hq2;exact fin 5 169 (bQ c d (V.setW m (zq (V.W m) sq 1)) m t nn) k5 (by omega) rfl Dj (by simp [fA,k5]) nU.1 nU.2 (fun w' hS=>xJ c d o sq k t nn s b lo m (V.setW m (zq (V.W m) sq 1)) (n+1) hr1 hm hz1 hwf hk.2 hc1 hg q hq (by show q<V.nX;omega) (by show q<V.nO;omega) (by show V.N q<=_;omega) (by show -1<=V.X q/\V.X q<=5000;omega) w' hS)
 rw [if_neg k5] at hk;have k6:k=6:=by
  by_cases e:k=6
  ·exact e
  rw [if_neg e] at hk;cases hk
 exact fin 6 170 ((V.setW m (zq (V.W m) sq 1)),1) k6 (by omega) rfl Cm (by simp [fA,k6]) (by simp) (fun e=>absurd rfl e) (fun w' hS=>zk c d o sq k t nn s b lo m (V.setW m (zq (V.W m) sq 1)) (n+1) hr1 hm hz1 hwf w' hS)
theorem Eo (c d o sq k t nn:Int) (s b:Nat) (lo:Lo) (V:CV) (n:Nat) (hV:bD c d V=true) (hO:iP o sq k t nn=true) (hwf:(Lit.int .i64 o).wf=true) (hwt:(Lit.int .i64 t).wf=true) (w:World)
 (hg0:w.cell? (zA 0 0)=some (.iface 257 (.agg #[zP 1 204]))) (hlo:0<lo.l) (h:Sv w c d s b lo V n) :
 Hz 128 #[zP s 0,.agg #[zI o,zI sq,zI k,zI t,zI nn]] w fun e w'=>e=.returned (zI (qJ c d V o sq k t nn).2)/\Sv w' c d s b lo (qJ c d V o sq k t nn).1 (n+5)/\Bl b lo w w':=by
 have hK1:=h.kk;obtain ⟨_,ls,ll,lb,lbw,nsb,_⟩:=h.at;have hr:dJ V.W V.nW:=fB hV;go_enter Tryz.func128,Tryz.ntmps128;go_upto_region 1 with fail;obtain ⟨w0,e0,hb0,X0,-⟩:=bx1 w [zI o,zI sq,zI k,zI t,zI nn] 66;rw [<-e0];clear e0;have z0:=X0.1;have B1:bY (Below w.heap.size w w0):=hb0;have P2:bY (Bk w0 w.heap.size [zI o,zI sq,zI k,zI t,zI nn]):=X0;have S3:bY (Sv w0 c d s b lo V n):=h.q hb0;clear X0 hb0 h;have yP0:=P2.o.a5;have hlP:w.heap.size<w0.heap.size:=P2.o.1;have c8:w0.cell? (zA s 8)=some (.map (some b)):=S3.o.at.1.2.2.2.2.2;have lsw:s<w0.heap.size:=S3.o.at.2.1;rcases hr.get o with hex | hno
 ·obtain ⟨m,hm,hz⟩:=hex;have HZ:bY (V.W m 0=o):=hz;clear hz;have HL:bY (∀ wx,Below w0.heap.size w0 wx->(Instr.lookup 133 (.map (some b)) (zI o) true).run Tryz.prog wx=.ok (.tuple #[.agg (zF (V.W m)).toArray,.bool true]) wx):=fun wx hx=>((S3.o.q hx).lookA hr hm HZ.o hwf).2;refine Hu (S:=fun w'=>Below (w0.heap.size) w0 w') (by kernel_rfl) ((Hr _ _).drew) ?_;intro af;obtain ⟨X0,hX0⟩:∃ X,X=w0.drew:=⟨_,rfl⟩;have hz0:w0.heap.size<=X0.heap.size:=by rw [hX0];exact Ho _
  rw [<-hX0] at af ⊢;clear hX0;refine bF 0 (zP s 0) rfl ?_;refine bF 4 (zP w.heap.size 0) rfl ?_;refine bF 1 (zP s 0) rfl ?_;refine bF 5 (zI o) rfl ?_;refine bF 2 (zP s 8) rfl ?_;refine bF 3 (.map (some b)) rfl ?_;refine dY 6 (.tuple #[.agg (zF (V.W m)).toArray,.bool true]) rfl ?_ ?_
  ·intro wx hSw;obtain ⟨hcS,hfS⟩:=iZ hSw;have hl:=HL.o wx hSw;go_simp
  refine bF 7 (.tuple #[.agg (zF (V.W m)).toArray,.bool true]) rfl ?_;refine bF 8 (.agg (zF (V.W m)).toArray) rfl ?_;refine bF 9 (.bool true) rfl ?_;refine di 10 rfl fun K hK=>?_;go_simp;obtain ⟨Xgk,eA⟩:∃ X,X=X0.alloc (.cells z5.toArray 67):=⟨_,rfl⟩;rw [<-eA];have hbA:Below X0.heap.size X0 Xgk:=by rw [eA];exact (Hr _ _).alloc (Ho _) _
  have hZgk:Bk Xgk X0.heap.size z5:=by rw [eA];exact aU X0 67 z5
  have hzAgk1:Xgk.heap.size<=X0.heap.size+1:=by rw [eA];simp
  have hzAgk2:X0.heap.size+1<=Xgk.heap.size:=by rw [eA];simp
  clear eA;have hsz_Xgk:=hbA.size;refine hK.out _ _ (bJ af (by omega) hbA) (fun ai=>?_);clear hK K af;have af:=ai;clear ai;try simp only [aT]
  clear hbA;obtain ⟨gk,egk⟩:∃ g,g=X0.heap.size:=⟨_,rfl⟩;rw [<-egk] at hZgk ⊢;have egk1:gk<=X0.heap.size:=by omega
  have egk2:X0.heap.size<=gk:=by omega
  clear egk;refine di 11 rfl fun K hK=>?_;have r0:=(hZgk.2 0 (by simp)).1;have r1:=(hZgk.2 1 (by simp)).1;have r2:=(hZgk.2 2 (by simp)).1;have r3:=(hZgk.2 3 (by simp)).1;have r4:=(hZgk.2 4 (by simp)).1;have f0:=(hZgk.2 0 (by simp)).2;have f1:=(hZgk.2 1 (by simp)).2;have f2:=(hZgk.2 2 (by simp)).2;have f3:=(hZgk.2 3 (by simp)).2;have f4:=(hZgk.2 4 (by simp)).2;simp only [List.getD,List.getElem?_cons_zero,List.getElem?_cons_succ,Option.getD_some] at r0 r1 r2 r3 r4;have lZgk:=hZgk.1;have hkgk:w0.heap.size<=gk:=by omega
  go_simp;obtain ⟨XSgk,eS⟩:∃ X,X=(((((Xgk.setCell (zA gk 0) (zI (V.W m 0))).setCell (zA gk 1) (zI (V.W m 1))).setCell (zA gk 2) (zI (V.W m 2))).setCell (zA gk 3) (zI (V.W m 3))).setCell (zA gk 4) (zI (V.W m 4))):=⟨_,rfl⟩;rw [<-eS];have hPgk:Bk XSgk gk (zF (V.W m)):=by rw [eS];exact jM (l:=(zF (V.W m))) hZgk rfl
  have hzgk1:XSgk.heap.size<=Xgk.heap.size:=by rw [eS];exact Hl (size_put gk (zF (V.W m)) 0 Xgk)
  have hzgk2:Xgk.heap.size<=XSgk.heap.size:=by rw [eS];exact Hl (size_put gk (zF (V.W m)) 0 Xgk).symm
  have hmgk:∀ b,¬ b=gk->Sm Xgk XSgk b:=by rw [eS];exact fun b hb=>jQ hb (zF (V.W m)) 0 Xgk
  have hBgk:Below (w0.heap.size) w0 XSgk:=by rw [eS];exact gu hkgk (zF (V.W m)) 0 af
  clear eS r0 f0 r1 f1 r2 f2 r3 f3 r4 f4;refine hK.out _ _ hBgk (fun ai=>?_);clear hK K af;have af:=ai;clear ai;try simp only [aT]
  refine bF 12 (.bool true) rfl ?_;refine Hy (by kernel_rfl) ?_ _;clear yP0 hlP c8 lsw;clear HL;have y_XSgk:w0.heap.size<=XSgk.heap.size:=af.size;have B4:=fQ (ah B1.o af);have P4:=fQ (P2.o.q af);have S4:=fQ (S3.o.q af);clear B1 P2 S3;have G5:bY (Bk XSgk gk (zF (V.W m))):=hPgk;have zX:=af.size;clear af hPgk;have yP0:=P4.o.a5;have hlP:w.heap.size<XSgk.heap.size:=P4.o.1;have yG0:=G5.o.a5;have hlG:gk<XSgk.heap.size:=G5.o.1;by_cases hold:sq<V.W m 3
  ·have ER:bY (qJ c d V o sq k t nn=(V,8)):=by unfold bY;simp only [qJ,dB V.nW hr hm HZ.o];rw [if_pos hold]
   go_wp2;go_ret;exact ⟨by rw [ER.o] <;> rfl,by rw [ER.o];exact S4.o.mono (by omega),Bl.up B4.o (by omega)⟩
  by_cases hsame:sq=V.W m 3
  ·have hse:(sq == V.W m 3)=true:=by simp [hsame]
   have ER:bY (qJ c d V o sq k t nn=(V,V.W m 4)):=by unfold bY;simp only [qJ,dB V.nW hr hm HZ.o];rw [if_neg hold,if_pos hsame]
   clear hsame;go_wp2;go_ret;exact ⟨by rw [ER.o] <;> rfl,by rw [ER.o];exact S4.o.mono (by omega),Bl.up B4.o (by omega)⟩
  have hse:(sq == V.W m 3)=false:=by simp [hsame]
  have ER:bY (qJ c d V o sq k t nn=iT c d V m sq k t nn):=by unfold bY;simp only [qJ,dB V.nW hr hm HZ.o];rw [if_neg hold,if_neg hsame]
  clear hsame;go_wp2_with fail;clear yP0 hlP yG0 hlG;refine (uU c d o sq k t nn s b lo m V n hV hO hm HZ.o hwf hwt _ ((B4.o.cell (p:=(zA 0 0)) (by show 0<w.heap.size;omega)).trans hg0) hlo S4.o).mono ?_;rintro e w2 ⟨rfl,hS2,hB2⟩;go_wp2;go_ret;exact ⟨by rw [ER.o] <;> rfl,by rw [ER.o];exact hS2,(Bl.up B4.o (by omega)).trans hB2⟩
 have HL:bY (∀ wx,Below w0.heap.size w0 wx->(Instr.lookup 133 (.map (some b)) (zI o) true).run Tryz.prog wx=.ok (.tuple #[.agg z5.toArray,.bool false]) wx):=fun wx hx=>(S3.o.q hx).Cc hno hwf;refine Hu (S:=fun w'=>Below (w0.heap.size) w0 w') (by kernel_rfl) ((Hr _ _).drew) ?_;intro af;obtain ⟨X0,hX0⟩:∃ X,X=w0.drew:=⟨_,rfl⟩;have hz0:w0.heap.size<=X0.heap.size:=by rw [hX0];exact Ho _
 rw [<-hX0] at af ⊢;clear hX0;refine bF 0 (zP s 0) rfl ?_;refine bF 4 (zP w.heap.size 0) rfl ?_;refine bF 1 (zP s 0) rfl ?_;refine bF 5 (zI o) rfl ?_;refine bF 2 (zP s 8) rfl ?_;refine bF 3 (.map (some b)) rfl ?_;refine dY 6 (.tuple #[.agg z5.toArray,.bool false]) rfl ?_ ?_
 ·intro wx hSw;obtain ⟨hcS,hfS⟩:=iZ hSw;have hl:=HL.o wx hSw;go_simp
 refine bF 7 (.tuple #[.agg z5.toArray,.bool false]) rfl ?_;refine bF 8 (.agg z5.toArray) rfl ?_;refine bF 9 (.bool false) rfl ?_;refine di 10 rfl fun K hK=>?_;go_simp;obtain ⟨Xgk,eA⟩:∃ X,X=X0.alloc (.cells z5.toArray 67):=⟨_,rfl⟩;rw [<-eA];have hbA:Below X0.heap.size X0 Xgk:=by rw [eA];exact (Hr _ _).alloc (Ho _) _
 have hZgk:Bk Xgk X0.heap.size z5:=by rw [eA];exact aU X0 67 z5
 have hzAgk1:Xgk.heap.size<=X0.heap.size+1:=by rw [eA];simp
 have hzAgk2:X0.heap.size+1<=Xgk.heap.size:=by rw [eA];simp
 clear eA;have hsz_Xgk:=hbA.size;refine hK.out _ _ (bJ af (by omega) hbA) (fun ai=>?_);clear hK K af;have af:=ai;clear ai;try simp only [aT]
 clear hbA;obtain ⟨gk,egk⟩:∃ g,g=X0.heap.size:=⟨_,rfl⟩;rw [<-egk] at hZgk ⊢;have egk1:gk<=X0.heap.size:=by omega
 have egk2:X0.heap.size<=gk:=by omega
 clear egk;refine di 11 rfl fun K hK=>?_;have r0:=(hZgk.2 0 (by simp)).1;have r1:=(hZgk.2 1 (by simp)).1;have r2:=(hZgk.2 2 (by simp)).1;have r3:=(hZgk.2 3 (by simp)).1;have r4:=(hZgk.2 4 (by simp)).1;have f0:=(hZgk.2 0 (by simp)).2;have f1:=(hZgk.2 1 (by simp)).2;have f2:=(hZgk.2 2 (by simp)).2;have f3:=(hZgk.2 3 (by simp)).2;have f4:=(hZgk.2 4 (by simp)).2;simp only [List.getD,List.getElem?_cons_zero,List.getElem?_cons_succ,Option.getD_some] at r0 r1 r2 r3 r4;have lZgk:=hZgk.1;have hkgk:w0.heap.size<=gk:=by omega
 go_simp;obtain ⟨XSgk,eS⟩:∃ X,X=(((((Xgk.setCell (zA gk 0) (zI 0)).setCell (zA gk 1) (zI 0)).setCell (zA gk 2) (zI 0)).setCell (zA gk 3) (zI 0)).setCell (zA gk 4) (zI 0)):=⟨_,rfl⟩;rw [<-eS];have hPgk:Bk XSgk gk z5:=by rw [eS];exact jM (l:=z5) hZgk rfl
 have hzgk1:XSgk.heap.size<=Xgk.heap.size:=by rw [eS];exact Hl (size_put gk z5 0 Xgk)
 have hzgk2:Xgk.heap.size<=XSgk.heap.size:=by rw [eS];exact Hl (size_put gk z5 0 Xgk).symm
 have hmgk:∀ b,¬ b=gk->Sm Xgk XSgk b:=by rw [eS];exact fun b hb=>jQ hb z5 0 Xgk
 have hBgk:Below (w0.heap.size) w0 XSgk:=by rw [eS];exact gu hkgk z5 0 af
 clear eS r0 f0 r1 f1 r2 f2 r3 f3 r4 f4;refine hK.out _ _ hBgk (fun ai=>?_);clear hK K af;have af:=ai;clear ai;try simp only [aT]
 refine bF 12 (.bool false) rfl ?_;refine Hy (by kernel_rfl) ?_ _;clear yP0 hlP c8 lsw;clear HL;have y_XSgk:w0.heap.size<=XSgk.heap.size:=af.size;have B4:=fQ (ah B1.o af);have P4:=fQ (P2.o.q af);have S4:=fQ (S3.o.q af);clear B1 P2 S3;have G5:bY (Bk XSgk gk z5):=hPgk;have zX:=af.size;clear af hPgk;have ER:bY (qJ c d V o sq k t nn=(V,9)):=by unfold bY;simp only [qJ,fK V.nW hno]
 go_wp2;go_ret;exact ⟨by rw [ER.o] <;> rfl,by rw [ER.o];exact S4.o.mono (by omega),Bl.up B4.o (by omega)⟩
def Rs (V U:CV):Prop:=dJ U.W U.nW/\U.nW<=V.nW
theorem Rs.set {V U:CV} {m:Nat} {Z:Nat->Int} (h:Rs V U) (hz:Z 0=U.W m 0):Rs V (U.setW m Z):=⟨h.1.upd hz,h.2⟩
theorem Et (c d:Int) (s b:Nat) (lo:Lo) (U:CV) (n:Nat) (hr:dJ U.W U.nW) (hn:n<=1048576) (hN:U.nW<=1048576) (w:World) (h:Sv w c d s b lo U n) :
 Hz 59 #[zP s 0] w fun e w'=>(∃ v,e=.returned v/\aV lo.l w'.heap.size w' v U)/\Below lo.l w w':=by
 obtain ⟨n0,W0,h⟩:=h;have hl:(ids U).length=U.nW:=Ed;have hr2:=Bo c d s b lo (U.with n0 W0) n (dA U.W U.nW) (ids U) U.W hn (List.pairwise_map.2 ((List.pairwise_lt_range (n:=U.nW)).imp_of_mem (fun hi hj hij=>hr _ _ hij (List.mem_range.1 hj))))
  (fun z=>⟨fun hz=>by obtain ⟨k,hk,rfl⟩:=List.mem_map.1 hz;rw [hr.map (List.mem_range.1 hk) rfl];rfl,fun hz=>by obtain ⟨m,h1,rfl⟩:=uX U.nW hz;exact List.mem_map.2 ⟨m,List.mem_range.2 h1,rfl⟩⟩)
  (fun k hk=>by
   rw [hl] at hk;have e:(ids U)[k]! = U.W k 0:=by simp [ids,hk]
   rw [e,hr.map hk rfl];rfl) (by omega) w h
 rw [hl] at hr2;exact hr2
def wO (w:World) (v:Value) (V:CV):Prop :=
 ∃ bW bO bX bI cW cO cX cI,bW<w.heap.size/\bO<w.heap.size/\bX<w.heap.size/\bI<w.heap.size /\
  v=.agg (zC V bW cW bO cO bX cX bI cI).toArray /\
  (∀ k j,k<V.nW->j<5->w.cell? (zA bW (0+k * 5+j))=some (zI (V.W k j))) /\
  (∀ k,k<V.nO->∃ y c,y<w.heap.size/\w.cell? (zA bO k)=some (zS y (V.N k) c)/\∀ i j,i<V.N k->j<8->w.cell? (zA y (0+i * 8+j))=some (zI (V.O k i j))) /\
  (∀ i,i<V.nX->w.cell? (zA bX i)=some (zI (V.X i)))/\(∀ i,i<V.nI->w.cell? (zA bI i)=some (zI (V.I i)))
theorem eH.cellS {lo:Nat} {w:World} {v:Value} {V:CV} (h:eH lo w v V):wO w v V:=by
 obtain ⟨bW,bO,bX,bI,q0,q1,q2,q3,q4,rfl,oW,oO,oX,oI⟩:=h;refine ⟨bW,bO,bX,bI,_,_,_,_,by omega,by omega,by omega,by omega,rfl,aZ oW,fun k hk=>?_,oX.2,oI.2⟩;obtain ⟨_,ys,_,hy⟩:=oO;obtain ⟨_,y2,y3,y4⟩:=hy k hk;exact ⟨ys k,_,y2,y3,P8.aZ y4⟩
def Full (w:World) (v:Value):Prop:=∀ x0 x1 x2 g n k x4 x5,v=.agg #[x0,x1,x2,zS g n k,x4,x5]->∀ j,j<n->∃ y l c,w.cell? (zA g j)=some (zS y l c)/\y<w.heap.size
def qp (lo hi:Nat) (w:World) (v:Value) (n:Nat) (Z:Nat->Nat->Int) (g:Nat):Prop:=RP lo hi w v n Z g/\(Rm lo hi w v n/\∃ y l c,v=zS y l c/\y<hi)
theorem qp.move {lo hi hi':Nat} {w w':World} {v:Value} {n:Nat} {Z:Nat->Nat->Int} {g:Nat} (h:qp lo hi w v n Z g) (h1:hi<=hi') (h2:hi'<=w'.heap.size) (k:lo<=g->g<hi->Sm w w' g):qp lo hi' w' v n Z g :=
 ⟨(jT.move ⟨h.1,h.2.1⟩ h1 h2 k).1,(jT.move ⟨h.1,h.2.1⟩ h1 h2 k).2,by obtain ⟨y,l,c,e,hy⟩:=h.2.2;exact ⟨y,l,c,e,by omega⟩⟩
theorem qp.low {lo lo' hi:Nat} {w:World} {v:Value} {n:Nat} {Z:Nat->Nat->Int} {g:Nat} (h:qp lo hi w v n Z g) (h1:lo'<=lo):qp lo' hi w v n Z g :=
 ⟨(jT.low ⟨h.1,h.2.1⟩ h1).1,(jT.low ⟨h.1,h.2.1⟩ h1).2,h.2.2⟩
theorem qp.zero {lo hi lo' hi':Nat} {w w':World} {v:Value} {n:Nat} {Z:Nat->Nat->Int} {g:Nat} (h:qp lo hi w v n Z g) (e:n=0) (hh:hi<=hi'):qp lo' hi' w' v n Z g :=
 ⟨(jT.zero ⟨h.1,h.2.1⟩ e).1,(jT.zero (w':=w') ⟨h.1,h.2.1⟩ e).2,by obtain ⟨y,l,c,e,hy⟩:=h.2.2;exact ⟨y,l,c,e,by omega⟩⟩
theorem rZ {w:World} {base n:Nat} {v:Value} {Z:Nat->Nat->Int} (h:w.ownsRow base 69 8 v n ((List.range n).flatMap (P8.eight Z))) (h0:n=0->∃ y,v=zS y 0 0/\y<w.heap.size):∃ g,qp base w.heap.size w v n Z g/\(v.ownBlock=none∨v.ownBlock=some g):=by
 obtain ⟨g,h1,h2⟩:=nY h (fun e=>by obtain ⟨a,e2,_⟩:=h0 e;exact ⟨_,e2⟩);refine ⟨g,⟨h1.1,h1.2,?_⟩,h2⟩;rcases h.2 with ⟨e1,hl⟩ | ⟨g2,cap,cur,hv,_⟩
 ·obtain ⟨a,e2,h3⟩:=h0 hl;exact ⟨_,_,_,e2,h3⟩
 exact ⟨_,_,_,hv,(h.lt g2 (by rw [hv];rfl)).2⟩
theorem sQ (v:Value) (V:CV) (hs:V.short 1048576) (w:World) (h:wO w v V) :
 Hz 71 #[v] w fun e w'=>(∃ v',e=.returned v'/\aV w.heap.size w'.heap.size w' v' V/\mV w.heap.size w'.heap.size w' v'/\Full w' v')/\Below w.heap.size w w':=by
 obtain ⟨bW,bO,bX,bI,cW,cO,cX,cI,q1,q2,q3,q4,rfl,oW,oO,oX,oI⟩:=h;obtain ⟨tW,tO,tN,tX,tI⟩:=hs;have HW:bY (∀ k j,k<V.nW->j<5->w.cell? (zA bW (0+k * 5+j))=some (zI (V.W k j))):=oW;have HO:bY (∀ k,k<V.nO->∃ y c,y<w.heap.size/\w.cell? (zA bO k)=some (zS y (V.N k) c)/\∀ i j,i<V.N k->j<8->w.cell? (zA y (0+i * 8+j))=some (zI (V.O k i j))):=oO;have HX:bY (∀ i,i<V.nX->w.cell? (zA bX i)=some (zI (V.X i))):=oX;have HI:bY (∀ i,i<V.nI->w.cell? (zA bI i)=some (zI (V.I i))):=oI;have HN:bY (∀ k,k<V.nO->V.N k<=1048576):=tN;clear oW oO oX oI tN;obtain ⟨j8,hj8,hzz⟩:=Option.map_eq_some_iff.1 P8.Tryz.Jd;simp only [Prod.mk.injEq] at hzz;obtain ⟨hk80,hk81,hk82⟩:=hzz;obtain ⟨j6,hj6,hzz⟩:=Option.map_eq_some_iff.1 Tryz.Jk;simp only [Prod.mk.injEq] at hzz;obtain ⟨hk60,hk61,hk62⟩:=hzz;obtain ⟨j3,hj3,hzz⟩:=Option.map_eq_some_iff.1 Tryz.info3;simp only [Prod.mk.injEq] at hzz;obtain ⟨hk30,hk31,hk32⟩:=hzz;go_enter Tryz.func71,Tryz.ntmps71;go_wp2_with fail;obtain ⟨w0,e0⟩:∃ w0,w0=(w.alloc (.cells (zC V bW cW bO cO bX cX bI cI).toArray 36)).alloc (.cells zN.toArray 36):=⟨_,rfl⟩;have z0:w.heap.size+2<=w0.heap.size:=by rw [e0];simp
 have B0:bY (Below w.heap.size w w0):=by rw [e0];exact ((Hr _ _).alloc (by simp) _).alloc (by simp) _
 have A0:bY (Six w0 w.heap.size (zC V bW cW bO cO bX cX bI cI)):=by rw [e0];exact (fM w 36 (zI V.c) (zS bW V.nW cW) (zI V.g) (zS bO V.nO cO) (zS bX V.nX cX) (zS bI V.nI cI)).q (by simp) ((Hr _ _).alloc (by simp) _)
 have R0:bY (Six w0 (w.heap.size+1) zN):=by rw [e0];exact oP w (zC V bW cW bO cO bX cX bI cI).toArray 36 36 _ _ _ _ _ _
 rw [<-e0];clear e0;refine (rC bW 0 V.nW cW V.W tW _ (by omega) (fun k j a1 a2=>(B0.o.cell (p:=⟨bW,_,none⟩) (by show bW<_;omega)).trans (HW.o k j a1 a2))).mono ?_;rintro e w1 ⟨⟨v1,rfl,ho⟩,hb⟩;obtain ⟨wa,wl,wc,hvv⟩:=bP ho;subst hvv;obtain ⟨gW,RW1,_⟩:=gZ ho;have A1:=fQ (A0.o.q (by omega) hb);have R1:=fQ (R0.o.q (by omega) hb);have B1:=fQ (ah B0.o hb);have z1:w0.heap.size<=w1.heap.size:=hb.size;have HRW:bY (RW w0.heap.size w1.heap.size w1 (.slice wa wl wc) V.nW V.W gW):=RW1;clear RW1 ho hb A0 R0 B0;obtain ⟨a0,a1,a2,a3,a4,a5⟩:=A1.o.a6;have f0:=A1.o.f6;have l1:w.heap.size<w1.heap.size:=by omega
 go_wp2;clear a0 a1 a2 a3 a4 a5 f0 l1;obtain ⟨w2,e2⟩:∃ x,x=w1.setCell (zA w.heap.size 1) (.slice wa wl wc):=⟨_,rfl⟩;rw [<-e2];have A2:Six w2 w.heap.size [zI V.c,.slice wa wl wc,zI V.g,zS bO V.nO cO,zS bX V.nX cX,zS bI V.nI cI]:=by rw [e2];exact A1.o.set (j:=1) (v:=.slice wa wl wc) rfl (by decide)
 have R2:Six w2 (w.heap.size+1) zN:=by rw [e2];exact R1.o.far (by omega)
 have B2:Below w.heap.size w w2:=by rw [e2];exact B1.o.setCell (by simp) _
 have z2:w2.heap.size=w1.heap.size:=by rw [e2,ay]
 have S2:∀ x,¬ x=w.heap.size->Sm w1 w2 x:=fun x hx o=>by rw [e2];exact ⟨aJ (fun e=>hx e.1.symm),aB⟩
 clear e2 A1 R1 B1;obtain ⟨w3,e3⟩:∃ x,x=w2.alloc (.cells #[] 127):=⟨_,rfl⟩;rw [<-e3];have k3:Below w2.heap.size w2 w3:=by rw [e3];exact (Hr _ _).alloc (Ho _) _
 have z3:w3.heap.size=w2.heap.size+1:=by rw [e3];simp
 have O3:bY (w3.ownsRow w1.heap.size 127 1 (zS w1.heap.size 0 0) 0 []):=by unfold bY;rw [e3,<-z2];exact World.ownsRow_lit w2 #[] 0 (Ho _) (by simp) (by simp)
 clear e3;have A3:bY (Six w3 w.heap.size [zI V.c,.slice wa wl wc,zI V.g,zS bO V.nO cO,zS bX V.nX cX,zS bI V.nI cI]):=A2.q (by omega) k3;have R3:bY (Six w3 (w.heap.size+1) zN):=R2.q (by omega) k3;have B3:bY (Below w.heap.size w w3):=ah B2 k3;have W3:bY (RW w0.heap.size w1.heap.size w3 (.slice wa wl wc) V.nW V.W gW):=HRW.o.move (Ho _) (Ho _) (by omega) (fun q1 q2=>(S2 gW (by omega)).trans (aj k3 (by omega)));clear A2 R2 B2 S2 HRW k3;have z4:w1.heap.size+1<=w3.heap.size:=by omega
 have z4b:w3.heap.size<=w1.heap.size+1:=by omega
 clear z2 z3;generalize w1.heap.size=gB at *;go_loopw [3,4] (fun s i wr=>∃ (k:Nat) (sl:Nat->Value) (xs:Nat->Nat),k<=V.nO/\i=zI k/\s≠.slice none 0 0/\(∀ x,x<gB->Sm w3 wr x)/\wr.ownsRow gB 127 1 s k ((List.range k).map sl)/\(∀ j,j<k->qp gB wr.heap.size wr (sl j) (V.N j) (V.O j) (xs j))/\(∀ i j,i<j->j<k->V.N i≠0->V.N j≠0->xs i≠xs j)/\w3.heap.size<=wr.heap.size/\Below w.heap.size w wr) (fun _ i _=>V.nO - (intOf i).toNat)
 case atStart=>exact ⟨0,fun _=>undef,fun _=>0,Nat.zero_le _,rfl,by simp,fun x _=>Sm.refl _ _,O3.o,fun _ h=>absurd h (by omega),fun _ _ _ h=>absurd h (by omega),Ho _,B3.o⟩
 case round =>
  obtain ⟨k,sl,xs,hk,rfl,hnn,hsm,hown,hdn,hxx,hsz,hbel⟩:=hrel;obtain ⟨oa,ol,oc,hvv⟩:=bP hown;subst hvv;have SM:bY (∀ x,x<gB->Sm w3 wr x):=hsm;have OW:bY (wr.ownsRow gB 127 1 (.slice oa ol oc) k ((List.range k).map sl)):=hown;have DN:bY (∀ j,j<k->qp gB wr.heap.size wr (sl j) (V.N j) (V.O j) (xs j)):=hdn;have XX:bY (∀ i j,i<j->j<k->V.N i≠0->V.N j≠0->xs i≠xs j):=hxx;have BL:bY (Below w.heap.size w wr):=hbel;have NN:bY (Value.slice oa ol oc≠Value.slice none 0 0):=hnn;clear hsm hown hdn hxx hbel hnn;have A4:bY (Six wr w.heap.size [zI V.c,.slice wa wl wc,zI V.g,zS bO V.nO cO,zS bX V.nX cX,zS bI V.nI cI]):=fun i hi=>by have h1:=SM.o w.heap.size (by omega) i;rw [h1.1,h1.2];exact A3.o i hi
  obtain ⟨a0,a1,a2,a3,a4,a5⟩:=A4.o.a6;have f0:=A4.o.f6;have l1:w.heap.size<wr.heap.size:=by omega
  by_cases hkn:k<V.nO
  ·have hkn':(k:Int)<V.nO:=by omega
   obtain ⟨yk,ck,hyk,hck,hrk⟩:∃ yk ck,yk<w.heap.size/\wr.cell? (zA bO k)=some (zS yk (V.N k) ck)/\bY (∀ i j,i<V.N k->j<8->wr.cell? (zA yk (0+i * 8+j))=some (zI (V.O k i j))):=by
    obtain ⟨y,c,y2,y3,y4⟩:=HO.o k hkn;exact ⟨y,c,y2,(BL.o.cell (p:=(zA bO k)) (by show bO<_;omega)).trans y3,fun i j a1 a2=>(BL.o.cell (p:=⟨y,_,none⟩) y2).trans (y4 i j a1 a2)⟩
   have lb:bO<wr.heap.size:=by omega
   have hnk:=HN.o k hkn;have kb:Below wr.heap.size wr (wr.alloc (.cells #[] 69)):=(Hr _ _).alloc (Ho _) _;have HC:bY (∀ j u,((List.range (V.N k)).flatMap (P8.eight (V.O k)))[j]? = some u->(wr.alloc (.cells #[] 69)).cell? (((zA yk 0):Addr).add j)=some u):=lS (fun i j a1 a2=>(kb.cell (p:=⟨yk,_,none⟩) (by show yk<_;omega)).trans (hrk.o i j a1 a2));have H1:bY (∀ u ∈ (List.range (V.N k)).flatMap (P8.eight (V.O k)),u.oneCell'=true):=sK _ _;have HL:bY (((List.range (V.N k)).flatMap (P8.eight (V.O k))).length=V.N k * 8):=lG _ _;have KB:bY (Below wr.heap.size wr (wr.alloc (.cells #[] 69))):=kb;clear kb;go_wp2_with (at_builtin;refine jr rfl _ _ 127 rfl wr.heap.size 69 j8 (.agg #[zI 0,zI 0,zI 0,zI 0,zI 0,zI 0,zI 0,zI 0]) 8 64 Tryz.underlying127 hj8 hk80 hk81 hk82 rfl (by decide) _ 0 [] rfl (World.ownsRow_lit wr #[] 0 (Ho _) (by simp) (by simp)) (zA yk 0) (V.N k) ck ((List.range (V.N k)).flatMap (P8.eight (V.O k))) rfl HL.o HC.o H1.o (by unfold maxLen;omega) (by omega) (by simp) ?_);intro v4 w4 hown4 hg4 hnil4;obtain ⟨pa,pl,pc,hvv⟩:=bP hown4;subst hvv;have P4:w4.ownsRow wr.heap.size 69 8 (.slice pa pl pc) (V.N k) ((List.range (V.N k)).flatMap (P8.eight (V.O k))):=by simpa using hown4
   have hb4:Below wr.heap.size wr w4:=KB.o.grown hg4 (by simp) (fun kk e=>by cases e;exact Ho _);obtain ⟨g,hRP,_⟩:=rZ P4 (fun e=>⟨_,hnil4 e,by have h4:=hg4.size;rw [World.size_alloc] at h4;omega⟩);have RPk:bY (qp wr.heap.size w4.heap.size w4 (.slice pa pl pc) (V.N k) (V.O k) g):=hRP;have K4:bY (Below wr.heap.size wr w4):=hb4;have s4:wr.heap.size<=w4.heap.size:=hb4.size;have OW4:bY (w4.ownsRow gB 127 1 (.slice oa ol oc) k ((List.range k).map sl)):=World.ownsRow.kept OW.o (P8.jg hb4) (by cases e:(Value.slice oa ol oc).ownBlock <;> simp);clear hown4 hg4 hnil4 hRP P4 hb4 HC H1 HL KB a0 a1 a2 a3 a4 a5 f0 hck hrk;have HW4:=OW4.o.alloc (.cells #[.slice pa pl pc] 127);go_wp2_with (at_builtin;refine wpList_append_own _ rfl _ _ 34 rfl gB 127 j6 (.slice none 0 0) 1 24 Tryz.underlying34 hj6 hk60 hk61 hk62 rfl (by decide) _ _ _ rfl HW4 (zA w4.heap.size 0) 1 1 [.slice pa pl pc] rfl rfl ?d1 ?d2 ?d3 ?d4 ?d5 ?_)
   case d1=>intro j u hj;match j,hj with | 0,hj=>(simp at hj;subst hj;simp [Addr.add]) | j+1,hj=>simp at hj
   case d2=>intro u hu;simp at hu;subst hu;rfl
   case d3=>unfold maxLen;omega
   case d4=>omega
   case d5=>simp;omega
   ·intro v' w5 hown' hg5 hnil;obtain ⟨ua,ul,uc,hxx⟩:=bP hown';subst hxx;have hlow:∀ kk,(Value.slice oa ol oc).ownBlock=some kk->gB<=kk/\kk<wr.heap.size:=fun kk e=>OW.o.lt kk e;have hall:=(World.grownBy_alloc w4 (.cells #[.slice pa pl pc] 127) (Value.slice oa ol oc).ownBlock).trans hg5;have s5:w4.heap.size<=w5.heap.size:=hall.size;have S45:∀ x,x<w4.heap.size->(Value.slice oa ol oc).ownBlock≠some x->Sm w4 w5 x:=fun x h1 h2=>bG hall h1 (fun e=>h2 e.symm);have SM5:bY (∀ x,x<gB->Sm w3 w5 x):=fun x hx=>((SM.o x hx).trans (aj K4.o (by omega))).trans (S45 x (by omega) (fun e=>by have:=hlow x e;omega));have OW5:bY (w5.ownsRow gB 127 1 (.slice ua ul uc) (k+1) ((List.range (k+1)).map (fun j=>if j=k then (.slice pa pl pc) else sl j))):=by
     unfold bY;rw [su];exact hown'
    have NN5:bY (Value.slice ua ul uc≠Value.slice none 0 0):=fun e=>hnil e;have DN5:bY (∀ j,j<k+1->qp gB w5.heap.size w5 ((fun j=>if j=k then (.slice pa pl pc) else sl j) j) (V.N j) (V.O j) ((fun j=>if j=k then g else xs j) j)):=fun j hj=>by
     dsimp only;by_cases e:j=k
     ·subst e;rw [if_pos rfl,if_pos rfl];exact (RPk.o.move s5 (Ho _) (fun q1 q2=>S45 g q2 (fun e=>by have:=hlow g e;omega))).low (by omega)
     rw [if_neg e,if_neg e];have u2:=DN.o j (by omega);by_cases e0:V.N j=0
     ·exact u2.zero e0 (by omega)
     exact u2.move (by omega) (Ho _) (fun q1 q2=>(aj K4.o q2).trans (S45 (xs j) (by omega) (own_ne OW.o (by omega) (DN.o 0 (by omega)).1.shape u2.1 e0)))
    have XX5:bY (∀ i j,i<j->j<k+1->V.N i≠0->V.N j≠0->(fun j=>if j=k then g else xs j) i≠(fun j=>if j=k then g else xs j) j):=fun i j hij hj n1 n2=>by
     dsimp only;by_cases e:j=k
     ·subst e;rw [if_pos rfl,if_neg (by omega)];have u1:=(DN.o i hij).1;have u2:=RPk.o.1;rcases u1 with ⟨h,_⟩ | ⟨_,_,_,h1,_⟩
      ·exact absurd h n1
      rcases u2 with ⟨h,_⟩ | ⟨_,_,h2,_⟩
      ·exact absurd h n2
      omega
     rw [if_neg e,if_neg (by omega)];exact XX.o i j hij (by omega) n1 n2
    have BL5:bY (Below w.heap.size w w5):=(ah BL.o K4.o).grown hall (by omega) (fun kk e=>by have:=hlow kk e;omega);have z5:w3.heap.size<=w5.heap.size:=by omega
    clear hown' hg5 hnil hall hlow S45 HW4 SM OW OW4 DN XX BL NN RPk K4 A4;go_wp2;go_roundw
    case rel=>exact ⟨k+1,_,_,by omega,by go_num,NN5.o,SM5.o,OW5.o,DN5.o,XX5.o,z5,BL5.o⟩
    case measure=>simp [intOf];omega
  have hkk:k=V.nO:=by omega
  have R4:bY (Six wr (w.heap.size+1) zN):=fun i hi=>by have h1:=SM.o (w.heap.size+1) (by omega) i;rw [h1.1,h1.2];exact R3.o i hi
  have W4:bY (RW w0.heap.size gB wr (.slice wa wl wc) V.nW V.W gW):=W3.o.move (Ho _) (Ho _) (by omega) (fun q1 q2=>SM.o gW q2);obtain ⟨gO,cO,hgO,hOl,hOh,hOc,FR⟩:∃ gO cO,Value.slice oa ol oc=zS gO V.nO cO/\gB<=gO/\gO<wr.heap.size/\bY (∀ j,j<V.nO->wr.cell? (zA gO j)=some (sl j))/\bY (∀ j,wr.frozen? (zA gO j)=false):=by
   rcases OW.o.2 with ⟨e,_⟩ | ⟨g,cap,cur,hv,_⟩
   ·exact absurd e NN.o
   have ho:=OW.o;rw [hv] at ho;refine ⟨g,cap,by rw [hv,hkk],(ho.lt g rfl).1,(ho.lt g rfl).2,fun j hj=>?_,fun j=>ho.frozenAt j⟩;rw [ho.cellAt j (by omega),List.getElem?_map,List.getElem?_range (by omega)];rfl
  injection hgO with e1 e2 e3;subst e1 e2 e3;have DD:bY (∀ j,j<V.nO->qp gB wr.heap.size wr (sl j) (V.N j) (V.O j) (xs j)/\(V.N j≠0->xs j≠gO)):=fun j hj=>⟨DN.o j (by omega),fun e0 e=>own_ne OW.o (by omega) (DN.o 0 (by omega)).1.shape (DN.o j (by omega)).1 e0 (by rw [e];rfl)⟩
  have XD:bY (∀ i j,i<j->j<V.nO->V.N i≠0->V.N j≠0->xs i≠xs j):=fun i j h1 h2=>XX.o i j h1 (by omega);have hkn':¬ (k:Int)<V.nO:=by omega
  clear DN XX OW NN hkk A3 R3 W3 O3 B3;have hsA:((wr.setCell (zA w.heap.size 3) (zS gO V.nO oc)).alloc (.cells #[] 3)).heap.size=wr.heap.size+1:=by simp [World.setCell]
  have kw:Below w.heap.size w ((wr.setCell (zA w.heap.size 3) (zS gO V.nO oc)).alloc (.cells #[] 3)):=(BL.o.setCell (by simp) _).alloc (by rw [ay];omega) _;have HC:bY (∀ j u,((List.range V.nX).flatMap (one1 V.X))[j]? = some u->((wr.setCell (zA w.heap.size 3) (zS gO V.nO oc)).alloc (.cells #[] 3)).cell? (((zA bX 0):Addr).add j)=some u):=ku (fun i hi=>(kw.cell (p:=⟨bX,_,none⟩) (by show bX<_;omega)).trans (by rw [Nat.zero_add];exact HX.o i hi));have H1:bY (∀ u ∈ (List.range V.nX).flatMap (one1 V.X),u.oneCell'=true):=ng _ _;have HL:bY (((List.range V.nX).flatMap (one1 V.X)).length=V.nX * 1):=kS _ _;have HLit:((wr.setCell (zA w.heap.size 3) (zS gO V.nO oc)).alloc (.cells #[] 3)).ownsRow wr.heap.size 3 1 (zS wr.heap.size 0 0) 0 []:=by have q:=World.ownsRow_lit (base:=wr.heap.size) (e:=3) (size:=1) (wr.setCell (zA w.heap.size 3) (zS gO V.nO oc)) #[] 0 (by rw [ay];exact Ho _) (by simp) (by simp);rw [ay] at q;exact q
  have KW:bY (Below w.heap.size w ((wr.setCell (zA w.heap.size 3) (zS gO V.nO oc)).alloc (.cells #[] 3))):=kw;clear kw;have l9:w.heap.size<wr.heap.size:=by omega
  go_wp2_with (at_builtin;refine wpList_append_own _ rfl _ _ 26 rfl wr.heap.size 3 j3 (zI 0) 1 8 Tryz.underlying26 hj3 hk30 hk31 hk32 rfl (by decide) _ 0 [] rfl HLit (zA bX 0) V.nX cX ((List.range V.nX).flatMap (one1 V.X)) rfl HL.o HC.o H1.o (by unfold maxLen;omega) (by omega) (by simp) ?_);intro v5 w5 hown hg hnil;obtain ⟨xa,xl,xc,hvv⟩:=bP hown;subst hvv;have hown2:w5.ownsRow wr.heap.size 3 1 (.slice xa xl xc) V.nX ((List.range V.nX).flatMap (one1 V.X)):=by simpa using hown
  obtain ⟨gX,hRI,_⟩:=jD hown2;have X5:bY (RI wr.heap.size w5.heap.size w5 (.slice xa xl xc) V.nX V.X gX):=hRI;have K5:bY (∀ x,x<wr.heap.size->¬ x=w.heap.size->Sm wr w5 x):=fun x hx hne=>(Sm.trans (b:=(wr.setCell (zA w.heap.size 3) (zS gO V.nO oc))) (fun o=>⟨aJ (fun e=>hne e.1.symm),aB⟩) (aj (n:=wr.heap.size) ((Hr _ _).alloc (by rw [ay];exact Ho _) _) hx)).trans (bG hg (by rw [hsA];omega) (fun e=>by injection e with e;replace e:x=wr.heap.size:=e;omega));have Sw5:wr.heap.size<=w5.heap.size:=by have:=hg.size;rw [hsA] at this;omega
  have B5:bY (Below w.heap.size w w5):=KW.o.grown hg (by rw [hsA];omega) (fun kk e=>by cases e;show w.heap.size<=wr.heap.size;omega);have A5:bY (Six w5 w.heap.size [zI V.c,.slice wa wl wc,zI V.g,zS gO V.nO oc,zS bX V.nX cX,zS bI V.nI cI]):=fun i hi=>by have h1:=bG hg (b:=w.heap.size) (by rw [hsA];omega) (fun e=>by injection e with e;replace e:w.heap.size=wr.heap.size:=e;omega) i;rw [h1.1,h1.2];exact ((A4.o.set (j:=3) (v:=zS gO V.nO oc) rfl (by decide)).q (by rw [ay];omega) ((Hr _ _).alloc (Ho _) _)) i hi
  have R5:bY (Six w5 (w.heap.size+1) zN):=fun i hi=>by have h1:=K5.o (w.heap.size+1) (by omega) (by omega) i;rw [h1.1,h1.2];exact R4.o i hi
  clear hown hown2 hg hnil hRI HC H1 HL HLit KW l9 hsA A4 R4 a0 a1 a2 a3 a4 a5 f0;have hsA:((w5.setCell (zA w.heap.size 4) (.slice xa xl xc)).alloc (.cells #[] 3)).heap.size=w5.heap.size+1:=by simp [World.setCell]
  have kw:Below w.heap.size w ((w5.setCell (zA w.heap.size 4) (.slice xa xl xc)).alloc (.cells #[] 3)):=(B5.o.setCell (by simp) _).alloc (by rw [ay];omega) _;have HC:bY (∀ j u,((List.range V.nI).flatMap (one1 V.I))[j]? = some u->((w5.setCell (zA w.heap.size 4) (.slice xa xl xc)).alloc (.cells #[] 3)).cell? (((zA bI 0):Addr).add j)=some u):=ku (fun i hi=>(kw.cell (p:=⟨bI,_,none⟩) (by show bI<_;omega)).trans (by rw [Nat.zero_add];exact HI.o i hi));have H1:bY (∀ u ∈ (List.range V.nI).flatMap (one1 V.I),u.oneCell'=true):=ng _ _;have HL:bY (((List.range V.nI).flatMap (one1 V.I)).length=V.nI * 1):=kS _ _;have HLit:((w5.setCell (zA w.heap.size 4) (.slice xa xl xc)).alloc (.cells #[] 3)).ownsRow w5.heap.size 3 1 (zS w5.heap.size 0 0) 0 []:=by have q:=World.ownsRow_lit (base:=w5.heap.size) (e:=3) (size:=1) (w5.setCell (zA w.heap.size 4) (.slice xa xl xc)) #[] 0 (by rw [ay];exact Ho _) (by simp) (by simp);rw [ay] at q;exact q
  have KW:bY (Below w.heap.size w ((w5.setCell (zA w.heap.size 4) (.slice xa xl xc)).alloc (.cells #[] 3))):=kw;clear kw;obtain ⟨a0,a1,a2,a3,a4,a5⟩:=A5.o.a6;have f0:=A5.o.f6;have l9:w.heap.size<w5.heap.size:=by omega
  go_wp2_with (at_builtin;refine wpList_append_own _ rfl _ _ 26 rfl w5.heap.size 3 j3 (zI 0) 1 8 Tryz.underlying26 hj3 hk30 hk31 hk32 rfl (by decide) _ 0 [] rfl HLit (zA bI 0) V.nI cI ((List.range V.nI).flatMap (one1 V.I)) rfl HL.o HC.o H1.o (by unfold maxLen;omega) (by omega) (by simp) ?_);intro v5 w7 hown hg hnil;obtain ⟨ia,il,ic,hvv⟩:=bP hown;subst hvv;have hown2:w7.ownsRow w5.heap.size 3 1 (.slice ia il ic) V.nI ((List.range V.nI).flatMap (one1 V.I)):=by simpa using hown
  obtain ⟨gI,hRI,_⟩:=jD hown2;have I7:bY (RI w5.heap.size w7.heap.size w7 (.slice ia il ic) V.nI V.I gI):=hRI;have K7:bY (∀ x,x<w5.heap.size->¬ x=w.heap.size->Sm w5 w7 x):=fun x hx hne=>(Sm.trans (b:=(w5.setCell (zA w.heap.size 4) (.slice xa xl xc))) (fun o=>⟨aJ (fun e=>hne e.1.symm),aB⟩) (aj (n:=w5.heap.size) ((Hr _ _).alloc (by rw [ay];exact Ho _) _) hx)).trans (bG hg (by rw [hsA];omega) (fun e=>by injection e with e;replace e:x=w5.heap.size:=e;omega));have Sw7:w5.heap.size<=w7.heap.size:=by have:=hg.size;rw [hsA] at this;omega
  have B7:bY (Below w.heap.size w w7):=KW.o.grown hg (by rw [hsA];omega) (fun kk e=>by cases e;show w.heap.size<=w5.heap.size;omega);have A7:bY (Six w7 w.heap.size [zI V.c,.slice wa wl wc,zI V.g,zS gO V.nO oc,.slice xa xl xc,zS bI V.nI cI]):=fun i hi=>by have h1:=bG hg (b:=w.heap.size) (by rw [hsA];omega) (fun e=>by injection e with e;replace e:w.heap.size=w5.heap.size:=e;omega) i;rw [h1.1,h1.2];exact ((A5.o.set (j:=4) (v:=.slice xa xl xc) rfl (by decide)).q (by rw [ay];omega) ((Hr _ _).alloc (Ho _) _)) i hi
  have R7:bY (Six w7 (w.heap.size+1) zN):=fun i hi=>by have h1:=K7.o (w.heap.size+1) (by omega) (by omega) i;rw [h1.1,h1.2];exact R5.o i hi
  clear hown hown2 hg hnil hRI HC H1 HL HLit KW l9 hsA A5 R5 a0 a1 a2 a3 a4 a5 f0;obtain ⟨a0,a1,a2,a3,a4,a5⟩:=A7.o.a6;have f0:=A7.o.f6;obtain ⟨r0,r1,r2,r3,r4,r5⟩:=R7.o.a6;obtain ⟨q0,q1,q2,q3,q4,q5⟩:=R7.o.f6;have l1b:w.heap.size+1<w7.heap.size:=by omega
  have l1c:w.heap.size<w7.heap.size:=by omega
  go_wp2;refine Hw (v:=.agg #[zI V.c,.slice wa wl wc,zI V.g,zS gO V.nO oc,.slice xa xl xc,.slice ia il ic]) (by simp [results,Tryz.results71,go_sem,r0,r1,r2,r3,r4,r5]) rfl ?_;have hzz:(aG (w7.setCell (zA w.heap.size 5) (.slice ia il ic)) (w.heap.size+1) (zI V.c) (.slice wa wl wc) (zI V.g) (zS gO V.nO oc) (.slice xa xl xc) (.slice ia il ic)).heap.size=w7.heap.size:=by rw [au,ay]
  have hbb:Below w.heap.size w (aG (w7.setCell (zA w.heap.size 5) (.slice ia il ic)) (w.heap.size+1) (zI V.c) (.slice wa wl wc) (zI V.g) (zS gO V.nO oc) (.slice xa xl xc) (.slice ia il ic)):=ax (B7.o.setCell (by simp) _) (Ht w.heap.size) (zI V.c) (.slice wa wl wc) (zI V.g) (zS gO V.nO oc) (.slice xa xl xc) (.slice ia il ic);have SF:∀ x,¬ x=w.heap.size+1->¬ x=w.heap.size->Sm w7 (aG (w7.setCell (zA w.heap.size 5) (.slice ia il ic)) (w.heap.size+1) (zI V.c) (.slice wa wl wc) (zI V.g) (zS gO V.nO oc) (.slice xa xl xc) (.slice ia il ic)) x:=fun x h1 h2=>Sm.trans (fun o=>⟨aJ (fun e=>h2 e.1.symm),aB⟩) (aH (fun e=>h1 e.symm) (zI V.c) (.slice wa wl wc) (zI V.g) (zS gO V.nO oc) (.slice xa xl xc) (.slice ia il ic));refine ⟨⟨_,rfl,?_,?_,?_⟩,hbb⟩
  ·show aV w.heap.size (aG (w7.setCell (zA w.heap.size 5) (.slice ia il ic)) (w.heap.size+1) (zI V.c) (.slice wa wl wc) (zI V.g) (zS gO V.nO oc) (.slice xa xl xc) (.slice ia il ic)).heap.size (aG (w7.setCell (zA w.heap.size 5) (.slice ia il ic)) (w.heap.size+1) (zI V.c) (.slice wa wl wc) (zI V.g) (zS gO V.nO oc) (.slice xa xl xc) (.slice ia il ic)) _ _;rw [hzz];clear r0 r1 r2 r3 r4 r5 q0 q1 q2 q3 q4 q5 a0 a1 a2 a3 a4 a5 f0 hbb;have S5:∀ x,x<w5.heap.size->w0.heap.size<=x->Sm w5 (aG (w7.setCell (zA w.heap.size 5) (.slice ia il ic)) (w.heap.size+1) (zI V.c) (.slice wa wl wc) (zI V.g) (zS gO V.nO oc) (.slice xa xl xc) (.slice ia il ic)) x:=fun x h1 h2=>(K7.o x h1 (by omega)).trans (SF x (by omega) (by omega));have S3:∀ x,x<wr.heap.size->w0.heap.size<=x->Sm wr (aG (w7.setCell (zA w.heap.size 5) (.slice ia il ic)) (w.heap.size+1) (zI V.c) (.slice wa wl wc) (zI V.g) (zS gO V.nO oc) (.slice xa xl xc) (.slice ia il ic)) x:=fun x h1 h2=>(K5.o x h1 (by omega)).trans (S5 x (by omega) h2);have bWl:V.nW≠0->gW<gB:=fun e=>by rcases W4.o with ⟨h,_⟩ | ⟨_,_,_,h,_⟩;exact absurd h e;exact h
   have bXl:V.nX≠0->wr.heap.size<=gX/\gX<w5.heap.size:=fun e=>by rcases X5.o with ⟨h,_⟩ | ⟨_,_,h,h2,_⟩;exact absurd h e;exact ⟨h,h2⟩
   have bIl:V.nI≠0->w5.heap.size<=gI/\gI<w7.heap.size:=fun e=>by rcases I7.o with ⟨h,_⟩ | ⟨_,_,h,h2,_⟩;exact absurd h e;exact ⟨h,h2⟩
   have bPl:∀ k,k<V.nO->V.N k≠0->gB<=xs k/\xs k<wr.heap.size:=fun k hk e=>by rcases (DD.o k hk).1.1 with ⟨h,_⟩ | ⟨_,_,h,h2,_⟩;exact absurd h e;exact ⟨h,h2⟩
   refine jL (gW:=gW) (gO:=gO) (gX:=gX) (gI:=gI) (sl:=sl) (xs:=xs) (W4.o.move (by omega) (by omega) (Hl hzz.symm) (fun q1 q2=>S3 gW (by omega) q1)) (by omega) (by omega) (Hl hzz.symm) (fun k hk=>⟨(S3 gO (by omega) (by omega) k).1.trans (hOc.o k hk),((DD.o k hk).1.1.move (by omega) (Hl hzz.symm) (fun q1 q2=>S3 _ q2 (by omega))).low (by omega)⟩) (X5.o.move (by omega) (by omega) (Hl hzz.symm) (fun q1 q2=>S5 gX q2 (by omega))) (I7.o.move (by omega) (Ho _) (Hl hzz.symm) (fun q1 q2=>SF gI (by omega) (by omega))) (fun e=>by have:=bWl e;omega) (fun e e2=>by have:=bWl e;have:=bXl e2;omega) (fun e e2=>by have:=bWl e;have:=bIl e2;omega) (fun e=>by have:=bXl e;omega) (fun e=>by have:=bIl e;omega) (fun e e2=>by have:=bXl e;have:=bIl e2;omega) (fun k hk e=>⟨fun e2=>by have:=bPl k hk e;have:=bWl e2;omega,(DD.o k hk).2 e,fun e2=>by have:=bPl k hk e;have:=bXl e2;omega,fun e2=>by have:=bPl k hk e;have:=bIl e2;omega⟩) XD.o
  ·have S5:∀ x,x<w5.heap.size->w0.heap.size<=x->Sm w5 (aG (w7.setCell (zA w.heap.size 5) (.slice ia il ic)) (w.heap.size+1) (zI V.c) (.slice wa wl wc) (zI V.g) (zS gO V.nO oc) (.slice xa xl xc) (.slice ia il ic)) x:=fun x h1 h2=>(K7.o x h1 (by omega)).trans (SF x (by omega) (by omega));have S3:∀ x,x<wr.heap.size->w0.heap.size<=x->Sm wr (aG (w7.setCell (zA w.heap.size 5) (.slice ia il ic)) (w.heap.size+1) (zI V.c) (.slice wa wl wc) (zI V.g) (zS gO V.nO oc) (.slice xa xl xc) (.slice ia il ic)) x:=fun x h1 h2=>(K5.o x h1 (by omega)).trans (S5 x (by omega) h2);intro x0 x1 x2 g n k x4 x5 e;have e3:=(kV e).2.1;simp only [Value.slice.injEq,Option.some.injEq,Addr.mk.injEq] at e3;obtain ⟨⟨rfl,_,_⟩,rfl,_⟩:=e3;refine ⟨by omega,?_,fun j hj=>(S3 _ (by omega) (by omega) j).2.trans (FR.o j),fun j u' a' m' c' hj hu hs'=>?_⟩
   ·have h1:=hzz;simp only [aG] at h1;show _<(aG _ _ _ _ _ _ _ _).heap.size;rw [au];show _<(w7.setCell _ _).heap.size;rw [ay];omega
   have hc:=(S3 _ (by omega) (by omega) j).1.trans (hOc.o j hj);obtain rfl:=Option.some.inj (hc.symm.trans hu);have em:m'=V.N j:=by
    obtain ⟨a2,c2,e2⟩:=(DD.o j hj).1.1.shape';rw [e2] at hs';simp only [Value.slice.injEq] at hs';exact hs'.2.1.symm
   subst em;refine (DD.o j hj).1.2.1.sm (by omega) ?_ (fun g' c3 e' hn' q1 q2=>S3 _ q2 (by omega));show _<=(aG _ _ _ _ _ _ _ _).heap.size;rw [au];show _<=(w7.setCell _ _).heap.size;rw [ay];omega
  have S5:∀ x,x<w5.heap.size->w0.heap.size<=x->Sm w5 (aG (w7.setCell (zA w.heap.size 5) (.slice ia il ic)) (w.heap.size+1) (zI V.c) (.slice wa wl wc) (zI V.g) (zS gO V.nO oc) (.slice xa xl xc) (.slice ia il ic)) x:=fun x h1 h2=>(K7.o x h1 (by omega)).trans (SF x (by omega) (by omega));have S3:∀ x,x<wr.heap.size->w0.heap.size<=x->Sm wr (aG (w7.setCell (zA w.heap.size 5) (.slice ia il ic)) (w.heap.size+1) (zI V.c) (.slice wa wl wc) (zI V.g) (zS gO V.nO oc) (.slice xa xl xc) (.slice ia il ic)) x:=fun x h1 h2=>(K5.o x h1 (by omega)).trans (S5 x (by omega) h2);intro x0 x1 x2 g n k x4 x5 e j hj;have e3:=(kV e).2.1;simp only [Value.slice.injEq,Option.some.injEq,Addr.mk.injEq] at e3;obtain ⟨⟨rfl,_,_⟩,rfl,_⟩:=e3;obtain ⟨a,l,c,h1,h2⟩:=(DD.o j hj).1.2.2;refine ⟨_,l,c,(S3 _ (by omega) (by omega) j).1.trans ((hOc.o j hj).trans (by rw [h1])),?_⟩;show _<(aG _ _ _ _ _ _ _ _).heap.size;rw [au];show _<(w7.setCell _ _).heap.size;rw [ay];omega
open Go.Maps
def First (Z:Nat->Nat->Int) (n:Nat) (z:Int) (m:Nat):Prop:=m<n/\Z m 0=z/\∀ j,j<m->¬ Z j 0=z
def pK (Z:Nat->Nat->Int) (n:Nat) (z:Int):Prop:=∀ j,j<n->¬ Z j 0=z
theorem rP (Z:Nat->Nat->Int) (z:Int):∀ n,pK Z n z∨∃ m,First Z n z m
 | 0=>.inl (fun j h=>absurd h (by omega))
 | n+1=>by
  rcases rP Z z n with h | ⟨m,h1,h2,h3⟩
  ·by_cases e:Z n 0=z
   ·exact .inr ⟨n,by omega,e,h⟩
   refine .inl (fun j hj=>?_)
   by_cases hjn:j=n
   ·subst hjn;exact e
   exact h j (by omega)
  exact .inr ⟨m,by omega,h2,h3⟩
theorem info5:∃ i,Tryz.prog.info? 67=some i/\i.zero=some (.agg z5.toArray)/\i.size=5/\i.bytes=40:=info_parts Tryz.Jl
theorem fH (w:World) (Z:Nat->Nat->Int) (k:Nat) (t:TypeId):∀ j u,(aP Z k)[j]? = some u->(w.alloc (.cells (zF (Z k)).toArray t)).cell? (((zA w.heap.size 0):Addr).add j)=some u:=by
 intro j u hj;match j,hj with
 | 0,hj=>simp [aP] at hj;subst hj;simp [Addr.add]
 | 1,hj=>simp [aP] at hj;subst hj;simp [Addr.add]
 | 2,hj=>simp [aP] at hj;subst hj;simp [Addr.add]
 | 3,hj=>simp [aP] at hj;subst hj;simp [Addr.add]
 | 4,hj=>simp [aP] at hj;subst hj;simp [Addr.add]
 | j+5,hj=>simp [aP] at hj
theorem dZ (Z:Nat->Nat->Int) (k:Nat):∀ u ∈ aP Z k,u.oneCell'=true:=by
 intro u hu;simp [aP] at hu;rcases hu with rfl | rfl | rfl | rfl | rfl <;> rfl
theorem pG (z:Int) (a:Option Addr) (b n cap m:Nat) (Z:Nat->Nat->Int) (hn:n<=1048576) (w:World) (hb:n≠0->b<w.heap.size) (ha:n≠0->a=some (zA b 0)) (hF:First Z n z m) (hr:∀ k j,k<n->j<5->w.cell? (zA b (k * 5+j))=some (zI (Z k j))) :
 Hz 118 #[.slice a n cap,zI z] w fun e w'=>e=.returned (.tuple #[.agg (zF (Z m)).toArray,.bool true])/\Below w.heap.size w w':=by
 have HR:bY (∀ k j,k<n->j<5->w.cell? (zA b (k * 5+j))=some (zI (Z k j))):=hr;obtain ⟨hm,hmz,hlt⟩:=hF;obtain rfl:=ha (by omega);replace hb:=hb (by omega);have HM:bY (Z m 0=z/\∀ j,j<m->¬ Z j 0=z):=⟨hmz,hlt⟩;clear hr hmz hlt ha;go_enter Tryz.func118,Tryz.ntmps118;go_wp2;go_loopw [6] (fun i wr=>∃ k:Nat,k<=m/\i=zI k/\wr=w.alloc (.cells z5.toArray 67)) (fun i _=>n - (intOf i).toNat)
 case atStart=>exact ⟨0,Nat.zero_le _,rfl,rfl⟩
 case round =>
  obtain ⟨k,hk,rfl,rfl⟩:=hrel;have hkn:k<n:=by omega
  have c0:=cq5 (fun j hj=>HR.o k j hkn (by omega));by_cases hkm:k=m
  ·have ez:(Z k 0 == z)=true:=by rw [hkm];simp [HM.o.1]
   have HK:bY (k=m):=hkm;clear hkm;go_wp2;exact Hw (v:=.tuple #[.agg (zF (Z k)).toArray,.bool true]) (by simp [results,Tryz.results118,go_sem]) rfl ⟨by rw [HK.o],(Hr _ _).alloc (by simp) _⟩
  have ez:(Z k 0 == z)=false:=by simpa using HM.o.2 k (by omega)
  go_wp2;go_roundw
  case rel=>exact ⟨k+1,by omega,by go_num,by trivial⟩
  case measure=>simp [intOf];omega
theorem o8 (z:Int) (a:Option Addr) (b n cap:Nat) (Z:Nat->Nat->Int) (hn:n<=1048576) (w:World) (hb:n≠0->b<w.heap.size) (ha:n≠0->a=some (zA b 0)) (hF:pK Z n z) (hr:∀ k j,k<n->j<5->w.cell? (zA b (k * 5+j))=some (zI (Z k j))) :
 Hz 118 #[.slice a n cap,zI z] w fun e w'=>e=.returned (.tuple #[.agg z5.toArray,.bool false])/\Below w.heap.size w w':=by
 have HR:bY (∀ k j,k<n->j<5->w.cell? (zA b (k * 5+j))=some (zI (Z k j))):=hr;have HA:bY (n≠0->a=some (zA b 0)):=ha;have HB:bY (n≠0->b<w.heap.size):=hb;have HM:bY (∀ j,j<n->¬ Z j 0=z):=hF;clear hr hF ha hb;go_enter Tryz.func118,Tryz.ntmps118;go_wp2;go_loopw [6] (fun i wr=>∃ k:Nat,k<=n/\i=zI k/\wr=w.alloc (.cells z5.toArray 67)) (fun i _=>n - (intOf i).toNat)
 case atStart=>exact ⟨0,Nat.zero_le _,rfl,rfl⟩
 case round =>
  obtain ⟨k,hk,rfl,rfl⟩:=hrel;by_cases hkn:k<n
  ·have hkn':(k:Int)<(n:Int):=by omega
   obtain rfl:=HA.o (by omega);have hb:=HB.o (by omega);have c0:=cq5 (fun j hj=>HR.o k j hkn (by omega));have ez:(Z k 0 == z)=false:=by simpa using HM.o k hkn
   clear HA;go_wp2;go_roundw
   case rel=>exact ⟨k+1,by omega,by go_num,by trivial⟩
   case measure=>simp [intOf];omega
  clear HA;go_wp2;exact Hw (v:=.tuple #[.agg z5.toArray,.bool false]) (by simp [results,Tryz.results118,go_sem]) rfl ⟨rfl,(Hr _ _).alloc (by simp) _⟩
theorem iU (n:Nat) (Z:Nat->Nat->Int):(List.range (n+1)).flatMap (aP Z)=(List.range n).flatMap (aP Z)++aP Z n:=by
 rw [List.range_succ,List.flatMap_append];simp
theorem DU (z:Int) (a:Option Addr) (b n cap:Nat) (Z:Nat->Nat->Int) (hn:n<=1048576) (w:World) (hb:n≠0->b<w.heap.size) (ha:n≠0->a=some (zA b 0)) (hF:pK Z n z) (hr:∀ k j,k<n->j<5->w.cell? (zA b (k * 5+j))=some (zI (Z k j))) :
 Hz 141 #[.slice a n cap,zI z] w fun e w'=>∃ v,e=.returned v/\v≠.slice none 0 0/\w'.ownsRow w.heap.size 67 5 v n ((List.range n).flatMap (aP Z))/\Below w.heap.size w w':=by
 have HR:bY (∀ k j,k<n->j<5->w.cell? (zA b (k * 5+j))=some (zI (Z k j))):=hr;have HA:bY (n≠0->a=some (zA b 0)):=ha;have HB:bY (n≠0->b<w.heap.size):=hb;have HM:bY (∀ j,j<n->¬ Z j 0=z):=hF;clear hr ha hb hF;obtain ⟨i5,hi5,hz50,hz51,hz52⟩:=info5;go_enter Tryz.func141,Tryz.ntmps141;go_wp2;go_loopw [5,6] (fun s i wr=>∃ (k:Nat) (v:Value),k<=n/\zI k=i/\v=s/\v≠.slice none 0 0/\wr.ownsRow w.heap.size 67 5 v k ((List.range k).flatMap (aP Z))/\w.heap.size<=wr.heap.size/\Below w.heap.size w wr) (fun _ i _=>n - (intOf i).toNat)
 case atStart=>exact ⟨0,_,Nat.zero_le _,rfl,rfl,by simp,World.ownsRow_lit w #[] 0 (Ho _) (by simp) (by simp),by simp,(Hr _ _).alloc (by simp) _⟩
 case round =>
  obtain ⟨k,v,hk,rfl,rfl,hnn,ho,hsz,hbel⟩:=hrel;by_cases hkn:k<n
  ·have hkn':(k:Int)<(n:Int):=by omega
   obtain rfl:=HA.o (by omega);have hb:=HB.o (by omega);have c0:=cq5 (fun j hj=>(hbel.cell (by exact hb)).trans (HR.o k j hkn (by omega)));have ez:(Z k 0 == z)=false:=by simpa using HM.o k hkn
   have HNN:bY (v≠.slice none 0 0):=hnn;clear hnn HA HB;go_wp2_with (at_builtin;refine wpList_append_own _ rfl _ _ 33 rfl w.heap.size 67 i5 (.agg z5.toArray) 5 40 Tryz.underlying33 hi5 hz50 hz51 hz52 rfl (by decide) _ _ _ rfl (ho.alloc _) (zA wr.heap.size 0) 1 1 (aP Z k) rfl rfl (fH _ Z k 67) (dZ Z k) ?d3 ?d4 ?d5 ?_)
   case d3=>unfold maxLen;omega
   case d4=>omega
   case d5=>simp;omega
   ·intro v' w2 hown' hg2 hnil;have hall:=(World.grownBy_alloc wr _ _).trans hg2;have HO:bY (w2.ownsRow w.heap.size 67 5 v' (k+1) ((List.range (k+1)).flatMap (aP Z))):=by
     unfold bY;rw [iU];exact hown'
    have HNN':bY (v'≠.slice none 0 0):=hnil;have hs2:w.heap.size<=w2.heap.size:=Hq hsz hall.size;have hb2:Below w.heap.size w w2:=hbel.grown hall hsz (fun kk e=>(ho.lt kk e).1);clear hown' hg2 hnil hall ho c0 HNN;go_wp2;go_roundw
    case rel=>exact ⟨k+1,_,by omega,by go_num,rfl,HNN'.o,HO.o,hs2,hb2⟩
    case measure=>simp [intOf];omega
  have hkn':k=n:=by omega
  subst hkn';have HO:bY (wr.ownsRow w.heap.size 67 5 v k ((List.range k).flatMap (aP Z))):=ho;have HNN:bY (v≠.slice none 0 0):=hnn;clear ho hnn HA;go_wp2;go_ret;exact ⟨_,rfl,HNN.o,HO.o,hbel⟩
