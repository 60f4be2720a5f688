/- a record is done at a scene; conditions: the scene lies in memory. -/
import Derived.Test.YtngaboipleimcabGreatDoorLA1
import Derived.Test.YtngaboipleimcabGreatDoorLA3
import Derived.Test.YtngaboipleimcabGreatDoorLog3
set_option linter.unusedVariables false
set_option maxHeartbeats 4000000
set_option maxRecDepth 20000
namespace Go.Proofs.YtngaboipleimcabGreatDoor
open Go.RowKit Go.Deep
def rv (R:Nat->Int):Value:=.agg (zR R).toArray
def iD (c d:Int) (R:Nat->Int):Bool:=iE c d (R 0) (R 1) (R 2) (R 3) (R 4) (R 5) (R 6) (R 7) (R 8) (R 9) (R 10) (R 11) (R 12) (R 13) (R 14) (R 15)
def iY (V:CV) (o s:Int):Bool:=match kG V.W o V.nW with
 | none=>false
 | some m=>decide (V.W m 3<s)
def aF (c d:Int) (V:CV) (R:Nat->Int):CV × Int × Bool :=
 if iD c d R=false then (V,0,false)
 else if R 0=1 then (if iY V (R 1) (R 2)=true then ((qJ c d V (R 1) (R 2) (R 3) (R 4) (R 5)).1,(qJ c d V (R 1) (R 2) (R 3) (R 4) (R 5)).2,true) else (V,0,false))
 else if bf c d V.c (R 6)=-1 then (V,0,false)
 else if R 0=2 then (CV.inn c d V (R 6).toNat (R 7) (R 8) (R 9) (R 10) (R 11) (R 12) (R 13) (R 14),0,takeB c d V (dA V.W V.nW) (R 6).toNat (R 7) (R 8) (R 9) (R 10) (R 14))
 else (V.after (R 6).toNat (R 15),0,jk V (R 6).toNat (R 15))
theorem CY {W:Nat->Nat->Int} {n:Nat} {z:Int} {Z:Nat->Int} (h:dJ W n) (hno:∀ k,k<n->¬ W k 0=z) (hz:Z 0=z):mQ (dA W n) z Z=dA (dK W n z Z) (n+1):=by
 have hr:dJ (dK W n z Z) (n+1):=wG h hno hz;have hp:=jU W z n;have at0:dK W n z Z (bK W z n)=Z:=by simp [dK]
 funext y;unfold mQ;by_cases e:y=z
 ·rw [if_pos e,hr.map (m:=bK W z n) (by omega) (by rw [at0,hz,e]),at0]
 rw [if_neg e];rcases h.get y with ⟨k,hk,e2⟩ | hno2
 ·rw [h.map hk e2];by_cases l:k<bK W z n
  ·have ek:dK W n z Z k=W k:=by simp [dK,l]
   rw [hr.map (m:=k) (by omega) (by rw [ek];exact e2),ek]
  have ek:dK W n z Z (k+1)=W k:=by
   unfold dK;rw [if_neg (by omega),if_neg (by omega),Nat.add_sub_cancel]
  rw [hr.map (m:=k+1) (by omega) (by rw [ek];exact e2),ek]
 rw [jA n hno2,jA (n+1)];intro k hk e2;unfold dK at e2;split at e2
 ·exact hno2 k (by omega) e2
 split at e2
 ·exact e (by rw [<-e2,hz])
 exact hno2 (k - 1) (by omega) e2
theorem Sv.inn {c d:Int} {V:CV} (h1:bD c d V=true) {q:Nat} {pn pk pi pa pm ps pl pc:Int} {w:World} {s b:Nat} {lo:Lo} {n:Nat} {n0:Nat} {W0:Nat->Nat->Int} (h:Sc w c d s b lo (Fb c d (V.with n0 W0) (dA V.W V.nW) q pn pk pi pa pc) n (Fz c d (V.with n0 W0) (dA V.W V.nW) q pn pk pi pa pm ps pl pc)) :
 Sv w c d s b lo (CV.inn c d V q pn pk pi pa pm ps pl pc) n:=by
 have hr:dJ V.W V.nW:=fB h1;have ht:takeB c d (V.with n0 W0) (dA V.W V.nW) q pn pk pi pa pc=takeB c d V (dA V.W V.nW) q pn pk pi pa pc:=rfl;unfold Fb Fz at h;rw [ht] at h;unfold CV.inn;cases hk:takeB c d V (dA V.W V.nW) q pn pk pi pa pc
 ·rw [hk] at h;exact ⟨n0,W0,h⟩
 rw [hk] at h;by_cases hp:pk=1
 ·subst hp;have hno:∀ k,k<V.nW->¬ V.W k 0=pi:=by
   intro k hkn e;simp only [takeB,mg,Bool.and_eq_true] at hk;have hm:=hr.map hkn e;simp [hm] at hk
  have hput:=CY (Z:=zp pi pa pm ps pl) hr hno rfl;refine ⟨n0,W0,?_⟩;simp only [qy,if_true] at h ⊢;rw [hput] at h;exact h
 simp only [qy,if_neg hp,if_true] at h ⊢;exact ⟨n0,W0,h⟩
theorem A8 (c d pn pk pi pa pm ps pl pc:Int) (q s b:Nat) (lo:Lo) (V:CV) (n:Nat) (h1:bD c d V=true) (hk:pk=1∨pk=2) (hq:q<2) (hpc:0<=pc/\pc<=900) (hwf:(Lit.int .i64 pi).wf=true) (w:World) (h:Sv w c d s b lo V n) :
 Hz 130 #[zP s 0,zI (q:Int),.agg #[zI pn,zI pk,zI pi,zI pa,zI pm,zI ps,zI pl,zI pc]] w fun e w'=>e=.returned (.bool (takeB c d V (dA V.W V.nW) q pn pk pi pa pc))/\Sv w' c d s b lo (CV.inn c d V q pn pk pi pa pm ps pl pc) (n+1)/\Bl b lo w w':=by
 have hK1:=h.kk;obtain ⟨n0,W0,h⟩:=h;obtain ⟨_,_,n3⟩:=dH h1;have hin:=qK h1;refine (wW c d pn pk pi pa pm ps pl pc q s b lo (V.with n0 W0) n (dA V.W V.nW) hk (by show q<V.nI;omega) (hin.2 q hq) hin.1 hpc hwf w h).mono ?_;rintro e w' ⟨rfl,h2,h3⟩;exact ⟨rfl,Sv.inn h1 h2,h3⟩
theorem Dp (c d:Int) (s b:Nat) (lo:Lo) (V:CV) (n:Nat) (q:Nat) (z:Int) (h1:bD c d V=true) (hq:q<2) (w:World) (h:Sv w c d s b lo V n) :
 Hz 131 #[zP s 0,zI (q:Int),zI z] w fun e w'=>e=.returned (.bool (jk V q z))/\Sv w' c d s b lo (V.after q z) n/\Bl b lo w w':=by
 have hK1:=h.kk;obtain ⟨n0,W0,h⟩:=h;obtain ⟨n1,n2,n3⟩:=dH h1;refine (xM c d s b lo (V.with n0 W0) n (dA V.W V.nW) q z (by show V.N q<=_;have:=(kD h1 q hq).2;omega) (by show q<V.nO;omega) (by show q<V.nX;omega) w h).mono ?_;rintro e w' ⟨rfl,h2,h3⟩;refine ⟨rfl,⟨n0,W0,?_⟩,h3⟩;have hb:jk (V.with n0 W0) q z=jk V q z:=rfl;unfold CV.after at h2 ⊢;rw [hb] at h2;cases hk:jk V q z
 ·rw [hk] at h2;exact h2
 rw [hk] at h2;exact h2
theorem rD (c d o sq k t nn:Int) (s b:Nat) (lo:Lo) (V:CV) (n:Nat) (hr:dJ V.W V.nW) (hwf:(Lit.int .i64 o).wf=true) (w:World) (h:Sv w c d s b lo V n) :
 Hz 127 #[zP s 0,.agg #[zI o,zI sq,zI k,zI t,zI nn]] w fun e w'=>e=.returned (.bool (iY V o sq))/\Below w.heap.size w w':=by
 obtain ⟨_,ls,ll,lb,lbw,nsb,_⟩:=h.at;go_enter Tryz.func127,Tryz.ntmps127;go_upto_region 1 with fail;obtain ⟨w0,e0,hb0,X0,-⟩:=bx1 w [zI o,zI sq,zI k,zI t,zI nn] 66;rw [<-e0];clear e0;have z0:=X0.1;have B1:bY (Below w.heap.size w w0):=hb0;have P2:bY (Bk w0 w.heap.size [zI o,zI sq,zI k,zI t,zI nn]):=X0;have S3:bY (Sv w0 c d s b lo V n):=h.q hb0;clear X0 hb0 h;have yP0:=P2.o.a5;have hlP:w.heap.size<w0.heap.size:=P2.o.1;have c8:w0.cell? (zA s 8)=some (.map (some b)):=S3.o.at.1.2.2.2.2.2;have lsw:s<w0.heap.size:=S3.o.at.2.1;rcases hr.get o with hex | hno
 ·obtain ⟨m,hm,hz⟩:=hex;have HZ:bY (V.W m 0=o):=hz;clear hz;have HL:bY (∀ wx,Below w0.heap.size w0 wx->(Instr.lookup 133 (.map (some b)) (zI o) true).run Tryz.prog wx=.ok (.tuple #[.agg (zF (V.W m)).toArray,.bool true]) wx):=fun wx hx=>((S3.o.q hx).lookA hr hm HZ.o hwf).2;refine Hu (S:=fun w'=>Below (w0.heap.size) w0 w') (by kernel_rfl) ((Hr _ _).drew) ?_;intro af;obtain ⟨X0,hX0⟩:∃ X,X=w0.drew:=⟨_,rfl⟩;have hz0:w0.heap.size<=X0.heap.size:=by rw [hX0];exact Ho _
  rw [<-hX0] at af ⊢;clear hX0;refine bF 0 (zP s 0) rfl ?_;refine bF 4 (zP w.heap.size 0) rfl ?_;refine bF 1 (zP s 0) rfl ?_;refine bF 5 (zI o) rfl ?_;refine bF 2 (zP s 8) rfl ?_;refine bF 3 (.map (some b)) rfl ?_;refine dY 6 (.tuple #[.agg (zF (V.W m)).toArray,.bool true]) rfl ?_ ?_
  ·intro wx hSw;obtain ⟨hcS,hfS⟩:=iZ hSw;have hl:=HL.o wx hSw;go_simp
  refine bF 7 (.tuple #[.agg (zF (V.W m)).toArray,.bool true]) rfl ?_;refine bF 8 (.agg (zF (V.W m)).toArray) rfl ?_;refine bF 9 (.bool true) rfl ?_;refine di 10 rfl fun K hK=>?_;go_simp;obtain ⟨Xgk,eA⟩:∃ X,X=X0.alloc (.cells z5.toArray 67):=⟨_,rfl⟩;rw [<-eA];have hbA:Below X0.heap.size X0 Xgk:=by rw [eA];exact (Hr _ _).alloc (Ho _) _
  have hZgk:Bk Xgk X0.heap.size z5:=by rw [eA];exact aU X0 67 z5
  have hzAgk1:Xgk.heap.size<=X0.heap.size+1:=by rw [eA];simp
  have hzAgk2:X0.heap.size+1<=Xgk.heap.size:=by rw [eA];simp
  clear eA;have hsz_Xgk:=hbA.size;refine hK.out _ _ (bJ af (by omega) hbA) (fun ai=>?_);clear hK K af;have af:=ai;clear ai;try simp only [aT]
  clear hbA;obtain ⟨gk,egk⟩:∃ g,g=X0.heap.size:=⟨_,rfl⟩;rw [<-egk] at hZgk ⊢;have egk1:gk<=X0.heap.size:=by omega
  have egk2:X0.heap.size<=gk:=by omega
  clear egk;refine di 11 rfl fun K hK=>?_;have r0:=(hZgk.2 0 (by simp)).1;have r1:=(hZgk.2 1 (by simp)).1;have r2:=(hZgk.2 2 (by simp)).1;have r3:=(hZgk.2 3 (by simp)).1;have r4:=(hZgk.2 4 (by simp)).1;have f0:=(hZgk.2 0 (by simp)).2;have f1:=(hZgk.2 1 (by simp)).2;have f2:=(hZgk.2 2 (by simp)).2;have f3:=(hZgk.2 3 (by simp)).2;have f4:=(hZgk.2 4 (by simp)).2;simp only [List.getD,List.getElem?_cons_zero,List.getElem?_cons_succ,Option.getD_some] at r0 r1 r2 r3 r4;have lZgk:=hZgk.1;have hkgk:w0.heap.size<=gk:=by omega
  go_simp;obtain ⟨XSgk,eS⟩:∃ X,X=(((((Xgk.setCell (zA gk 0) (zI (V.W m 0))).setCell (zA gk 1) (zI (V.W m 1))).setCell (zA gk 2) (zI (V.W m 2))).setCell (zA gk 3) (zI (V.W m 3))).setCell (zA gk 4) (zI (V.W m 4))):=⟨_,rfl⟩;rw [<-eS];have hPgk:Bk XSgk gk (zF (V.W m)):=by rw [eS];exact jM (l:=(zF (V.W m))) hZgk rfl
  have hzgk1:XSgk.heap.size<=Xgk.heap.size:=by rw [eS];exact Hl (size_put gk (zF (V.W m)) 0 Xgk)
  have hzgk2:Xgk.heap.size<=XSgk.heap.size:=by rw [eS];exact Hl (size_put gk (zF (V.W m)) 0 Xgk).symm
  have hmgk:∀ b,¬ b=gk->Sm Xgk XSgk b:=by rw [eS];exact fun b hb=>jQ hb (zF (V.W m)) 0 Xgk
  have hBgk:Below (w0.heap.size) w0 XSgk:=by rw [eS];exact gu hkgk (zF (V.W m)) 0 af
  clear eS r0 f0 r1 f1 r2 f2 r3 f3 r4 f4;refine hK.out _ _ hBgk (fun ai=>?_);clear hK K af;have af:=ai;clear ai;try simp only [aT]
  refine bF 12 (.bool true) rfl ?_;refine Hy (by kernel_rfl) ?_ _;clear yP0 hlP c8 lsw;clear HL;have y_XSgk:w0.heap.size<=XSgk.heap.size:=af.size;have B4:=fQ (ah B1.o af);have P4:=fQ (P2.o.q af);have S4:=fQ (S3.o.q af);clear B1 P2 S3;have G5:bY (Bk XSgk gk (zF (V.W m))):=hPgk;have zX:=af.size;clear af hPgk;have yP0:=P4.o.a5;have hlP:w.heap.size<XSgk.heap.size:=P4.o.1;have yG0:=G5.o.a5;have hlG:gk<XSgk.heap.size:=G5.o.1;have ER:bY (iY V o sq=decide (V.W m 3<sq)):=by unfold bY;simp only [iY,dB V.nW hr hm HZ.o]
  go_wp2;go_ret;exact ⟨by rw [ER.o] <;> rfl,B4.o⟩
 have HL:bY (∀ wx,Below w0.heap.size w0 wx->(Instr.lookup 133 (.map (some b)) (zI o) true).run Tryz.prog wx=.ok (.tuple #[.agg z5.toArray,.bool false]) wx):=fun wx hx=>(S3.o.q hx).Cc hno hwf;refine Hu (S:=fun w'=>Below (w0.heap.size) w0 w') (by kernel_rfl) ((Hr _ _).drew) ?_;intro af;obtain ⟨X0,hX0⟩:∃ X,X=w0.drew:=⟨_,rfl⟩;have hz0:w0.heap.size<=X0.heap.size:=by rw [hX0];exact Ho _
 rw [<-hX0] at af ⊢;clear hX0;refine bF 0 (zP s 0) rfl ?_;refine bF 4 (zP w.heap.size 0) rfl ?_;refine bF 1 (zP s 0) rfl ?_;refine bF 5 (zI o) rfl ?_;refine bF 2 (zP s 8) rfl ?_;refine bF 3 (.map (some b)) rfl ?_;refine dY 6 (.tuple #[.agg z5.toArray,.bool false]) rfl ?_ ?_
 ·intro wx hSw;obtain ⟨hcS,hfS⟩:=iZ hSw;have hl:=HL.o wx hSw;go_simp
 refine bF 7 (.tuple #[.agg z5.toArray,.bool false]) rfl ?_;refine bF 8 (.agg z5.toArray) rfl ?_;refine bF 9 (.bool false) rfl ?_;refine di 10 rfl fun K hK=>?_;go_simp;obtain ⟨Xgk,eA⟩:∃ X,X=X0.alloc (.cells z5.toArray 67):=⟨_,rfl⟩;rw [<-eA];have hbA:Below X0.heap.size X0 Xgk:=by rw [eA];exact (Hr _ _).alloc (Ho _) _
 have hZgk:Bk Xgk X0.heap.size z5:=by rw [eA];exact aU X0 67 z5
 have hzAgk1:Xgk.heap.size<=X0.heap.size+1:=by rw [eA];simp
 have hzAgk2:X0.heap.size+1<=Xgk.heap.size:=by rw [eA];simp
 clear eA;have hsz_Xgk:=hbA.size;refine hK.out _ _ (bJ af (by omega) hbA) (fun ai=>?_);clear hK K af;have af:=ai;clear ai;try simp only [aT]
 clear hbA;obtain ⟨gk,egk⟩:∃ g,g=X0.heap.size:=⟨_,rfl⟩;rw [<-egk] at hZgk ⊢;have egk1:gk<=X0.heap.size:=by omega
 have egk2:X0.heap.size<=gk:=by omega
 clear egk;refine di 11 rfl fun K hK=>?_;have r0:=(hZgk.2 0 (by simp)).1;have r1:=(hZgk.2 1 (by simp)).1;have r2:=(hZgk.2 2 (by simp)).1;have r3:=(hZgk.2 3 (by simp)).1;have r4:=(hZgk.2 4 (by simp)).1;have f0:=(hZgk.2 0 (by simp)).2;have f1:=(hZgk.2 1 (by simp)).2;have f2:=(hZgk.2 2 (by simp)).2;have f3:=(hZgk.2 3 (by simp)).2;have f4:=(hZgk.2 4 (by simp)).2;simp only [List.getD,List.getElem?_cons_zero,List.getElem?_cons_succ,Option.getD_some] at r0 r1 r2 r3 r4;have lZgk:=hZgk.1;have hkgk:w0.heap.size<=gk:=by omega
 go_simp;obtain ⟨XSgk,eS⟩:∃ X,X=(((((Xgk.setCell (zA gk 0) (zI 0)).setCell (zA gk 1) (zI 0)).setCell (zA gk 2) (zI 0)).setCell (zA gk 3) (zI 0)).setCell (zA gk 4) (zI 0)):=⟨_,rfl⟩;rw [<-eS];have hPgk:Bk XSgk gk z5:=by rw [eS];exact jM (l:=z5) hZgk rfl
 have hzgk1:XSgk.heap.size<=Xgk.heap.size:=by rw [eS];exact Hl (size_put gk z5 0 Xgk)
 have hzgk2:Xgk.heap.size<=XSgk.heap.size:=by rw [eS];exact Hl (size_put gk z5 0 Xgk).symm
 have hmgk:∀ b,¬ b=gk->Sm Xgk XSgk b:=by rw [eS];exact fun b hb=>jQ hb z5 0 Xgk
 have hBgk:Below (w0.heap.size) w0 XSgk:=by rw [eS];exact gu hkgk z5 0 af
 clear eS r0 f0 r1 f1 r2 f2 r3 f3 r4 f4;refine hK.out _ _ hBgk (fun ai=>?_);clear hK K af;have af:=ai;clear ai;try simp only [aT]
 refine bF 12 (.bool false) rfl ?_;refine Hy (by kernel_rfl) ?_ _;clear yP0 hlP c8 lsw;clear HL;have y_XSgk:w0.heap.size<=XSgk.heap.size:=af.size;have B4:=fQ (ah B1.o af);have P4:=fQ (P2.o.q af);have S4:=fQ (S3.o.q af);clear B1 P2 S3;have G5:bY (Bk XSgk gk z5):=hPgk;have zX:=af.size;clear af hPgk;have yP0:=P4.o.a5;have hlP:w.heap.size<XSgk.heap.size:=P4.o.1;have yG0:=G5.o.a5;have hlG:gk<XSgk.heap.size:=G5.o.1;have ER:bY (iY V o sq=false):=by unfold bY;simp only [iY,fK V.nW hno]
 go_wp2;go_ret;exact ⟨by rw [ER.o] <;> rfl,B4.o⟩
theorem jC (c d sd:Int) (s b:Nat) (lo:Lo) (V:CV) (n:Nat) (w:World) (h:Sv w c d s b lo V n) :
 Hz 129 #[zP s 0,zI sd] w fun e w'=>e=.returned (.bool (!(bf c d V.c sd == -1)))/\Below w.heap.size w w':=by
 obtain ⟨⟨c0,c1,c2,_⟩,ls,_⟩:=h.at;clear h;go_enter Tryz.func129,Tryz.ntmps129;go_wp2;refine Hu (S:=fun w'=>(∀ b o,b<w.heap.size->w'.cell? (zA b o)=w.cell? (zA b o))/\w.heap.size<=w'.heap.size) (by kernel_rfl) ⟨fun _ _ _=>rfl,Ho _⟩ ?_;intro af;refine aA 0 (zP s 0) rfl ?_;refine aA 1 (zP s 0) rfl ?_;refine aA 2 (zP s 0) rfl ?_;refine aA 3 (.agg #[zI c,zI d]) rfl ?_;refine aA 4 (zP s 0) rfl ?_;refine aA 5 (zP s 0) rfl ?_;refine aA 6 (zP s 2) rfl ?_;refine aA 7 (zP s 2) rfl ?_;refine aA 8 (zI V.c) rfl ?_;refine aA 9 (zI sd) rfl ?_;refine di 10 rfl fun K hK=>?_;go_simp;go_wp2_with fail;refine (uO c d V.c sd _).mono ?_;rintro e w1 ⟨rfl,hb1⟩;refine hK.out _ _ (bM (by assumption) hb1) (fun ai=>?_);clear hK K af;have af:=ai;clear ai;try simp only [aT]
 refine aA 11 (.bool (bf c d V.c sd != -1)) rfl ?_;refine aA 12 (.bool (bf c d V.c sd != -1)) rfl ?_;refine Hy (by kernel_rfl) ?_ _;clear af;go_wp2;go_ret;exact ⟨rfl,(ah ((Hr _ _).drew) hb1)⟩
theorem nV {c d:Int} {R:Nat->Int} (h:iD c d R=true):(R 0=1/\iP (R 1) (R 2) (R 3) (R 4) (R 5)=true)∨(R 0=2/\inB (R 6) 0 1=true/\jf c d (R 7) (R 8) (R 9) (R 10) (R 11) (R 12) (R 13) (R 14)=true)∨(R 0=3/\inB (R 6) 0 1=true/\inB (R 15) 1 5000=true):=by
 unfold iD iE at h;split at h
 ·rename_i e;simp only [Bool.and_eq_true] at h;exact .inl ⟨e,h.2.1⟩
 split at h
 ·rename_i e;simp only [Bool.and_eq_true] at h;exact .inr (.inl ⟨e,h.2.1,h.2.2.1⟩)
 split at h
 ·rename_i e;simp only [Bool.and_eq_true] at h;exact .inr (.inr ⟨e,h.2.2.1,h.2.2.2.2⟩)
 cases h
theorem lF {z:Int} (h:inB z 0 1=true):∃ q:Nat,z=(q:Int)/\q<2:=by
 rw [aY] at h;have:z=0∨z=1:=by omega
 rcases this with rfl | rfl
 ·exact ⟨0,rfl,by omega⟩
 exact ⟨1,rfl,by omega⟩
theorem wU (c d sd pn pk pi pa pm ps pl pc:Int) (s b:Nat) (lo:Lo) (V:CV) (n:Nat) (h1:bD c d V=true) (hp:jf c d pn pk pi pa pm ps pl pc=true) (hs:inB sd 0 1=true) (hwf:(Lit.int .i64 pi).wf=true) (w:World) (h:Sv w c d s b lo V n) :
 Hz 130 #[zP s 0,zI sd,.agg #[zI pn,zI pk,zI pi,zI pa,zI pm,zI ps,zI pl,zI pc]] w fun e w'=>e=.returned (.bool (takeB c d V (dA V.W V.nW) sd.toNat pn pk pi pa pc))/\Sv w' c d s b lo (CV.inn c d V sd.toNat pn pk pi pa pm ps pl pc) (n+1)/\Bl b lo w w':=by
 have hK1:=h.kk;obtain ⟨q,rfl,hq⟩:=lF hs;exact A8 c d pn pk pi pa pm ps pl pc q s b lo V n h1 (pM hp).1 hq (pM hp).2 hwf w h
theorem xO (c d sd:Int) (s b:Nat) (lo:Lo) (V:CV) (n:Nat) (z:Int) (h1:bD c d V=true) (hs:inB sd 0 1=true) (w:World) (h:Sv w c d s b lo V n) :
 Hz 131 #[zP s 0,zI sd,zI z] w fun e w'=>e=.returned (.bool (jk V sd.toNat z))/\Sv w' c d s b lo (V.after sd.toNat z) n/\Bl b lo w w':=by
 have hK1:=h.kk;obtain ⟨q,rfl,hq⟩:=lF hs;exact Dp c d s b lo V n q z h1 hq w h
theorem zL (c d:Int) (R:Nat->Int) (s b:Nat) (lo:Lo) (V:CV) (n:Nat) (hlog:iD c d R=false) (w:World) (h:Sv w c d s b lo V n) :
 Hz 108 #[zP s 0,rv R] w fun e w'=>e=.returned (.tuple #[zI (aF c d V R).2.1,.bool (aF c d V R).2.2])/\Sv w' c d s b lo (aF c d V R).1 (n+5)/\Bl b lo w w':=by
 have hK1:=h.kk;unfold rv;obtain ⟨_,ls,ll,lb,lbw,nsb,_⟩:=h.at;have HL:=fQ hlog;clear hlog;go_enter Tryz.func108,Tryz.ntmps108;go_upto_region 1 with fail;obtain ⟨w0,e0,hb0,X0,-⟩:=bx1 w (zR R) 71;rw [<-e0];clear e0;have z0:=X0.1;have B1:bY (Below w.heap.size w w0):=hb0;have P2:bY (Bk w0 w.heap.size (zR R)):=X0;have S3:bY (Sv w0 c d s b lo V n):=h.q hb0;clear X0 hb0 h;have yP0:=P2.o.a16;have hlP:w.heap.size<w0.heap.size:=P2.o.1;have c0:w0.cell? (zA s 0)=some (zI c):=S3.o.at.1.1;have c1:w0.cell? (zA s 1)=some (zI d):=S3.o.at.1.2.1;have lsw:s<w0.heap.size:=S3.o.at.2.1;refine Hu (S:=fun w'=>(∀ b o,b<w0.heap.size->w'.cell? (zA b o)=w0.cell? (zA b o))/\w0.heap.size<=w'.heap.size) (by kernel_rfl) ⟨fun _ _ _=>rfl,Ho _⟩ ?_;intro af;refine aA 0 (zP s 0) rfl ?_;refine aA 1 (zP s 0) rfl ?_;refine aA 2 (zP s 0) rfl ?_;refine aA 3 (.agg #[zI c,zI d]) rfl ?_;refine aA 4 (.agg (zR R).toArray) rfl ?_;refine di 5 rfl fun K hK=>?_;go_simp;go_wp2_with fail;refine (iW c d (R 0) (R 1) (R 2) (R 3) (R 4) (R 5) (R 6) (R 7) (R 8) (R 9) (R 10) (R 11) (R 12) (R 13) (R 14) (R 15) _).mono ?_;rintro e w1 ⟨rfl,hb1⟩;rw [show iE c d (R 0) (R 1) (R 2) (R 3) (R 4) (R 5) (R 6) (R 7) (R 8) (R 9) (R 10) (R 11) (R 12) (R 13) (R 14) (R 15)=false from HL.o];refine hK.out _ _ (bM (by assumption) hb1) (fun ai=>?_);clear hK K af;have af:=ai;clear ai;try simp only [aT]
 refine aA 6 (.bool true) rfl ?_;refine Hy (by kernel_rfl) ?_ _;clear af;clear yP0 hlP c0 c1 lsw;have hx1:=ah ((Hr w0.heap.size w0).drew) hb1;clear hb1;have y_w1:w0.heap.size<=w1.heap.size:=hx1.size;have B4:=fQ (ah B1.o hx1);have P4:=fQ (P2.o.q hx1);have S4:=fQ (S3.o.q hx1);clear B1 P2 S3;have z1:w0.heap.size<=w1.heap.size:=hx1.size;clear hx1;have ER:bY (aF c d V R=(V,0,false)):=by unfold bY aF;rw [if_pos HL.o]
 go_wp2;refine Hw (v:=.tuple #[zI 0,.bool false]) (by simp [results,Tryz.results108,go_sem]) rfl ?_;exact ⟨by rw [ER.o],by rw [ER.o];exact S4.o.mono (by omega),Bl.up B4.o (by omega)⟩
theorem JM (c d:Int) (R:Nat->Int) (s b:Nat) (lo:Lo) (V:CV) (n:Nat) (hV:bD c d V=true) (hwR:∀ j,j<16->(Lit.int .i64 (R j)).wf=true) (hlog:iD c d R=true) (hlo:0<lo.l) (w:World) (hg0:w.cell? (zA 0 0)=some (.iface 257 (.agg #[zP 1 204]))) (h:Sv w c d s b lo V n) :
 Hz 108 #[zP s 0,rv R] w fun e w'=>e=.returned (.tuple #[zI (aF c d V R).2.1,.bool (aF c d V R).2.2])/\Sv w' c d s b lo (aF c d V R).1 (n+5)/\Bl b lo w w':=by
 have hK1:=h.kk;have HG:=fQ hg0;clear hg0;unfold rv;obtain ⟨_,ls,ll,lb,lbw,nsb,_⟩:=h.at;have HL:=fQ hlog;clear hlog;go_enter Tryz.func108,Tryz.ntmps108;go_upto_region 1 with fail;obtain ⟨w0,e0,hb0,X0,-⟩:=bx1 w (zR R) 71;rw [<-e0];clear e0;have z0:=X0.1;have B1:bY (Below w.heap.size w w0):=hb0;have P2:bY (Bk w0 w.heap.size (zR R)):=X0;have S3:bY (Sv w0 c d s b lo V n):=h.q hb0;clear X0 hb0 h;have yP0:=P2.o.a16;have hlP:w.heap.size<w0.heap.size:=P2.o.1;have c0:w0.cell? (zA s 0)=some (zI c):=S3.o.at.1.1;have c1:w0.cell? (zA s 1)=some (zI d):=S3.o.at.1.2.1;have lsw:s<w0.heap.size:=S3.o.at.2.1;refine Hu (S:=fun w'=>(∀ b o,b<w0.heap.size->w'.cell? (zA b o)=w0.cell? (zA b o))/\w0.heap.size<=w'.heap.size) (by kernel_rfl) ⟨fun _ _ _=>rfl,Ho _⟩ ?_;intro af;refine aA 0 (zP s 0) rfl ?_;refine aA 1 (zP s 0) rfl ?_;refine aA 2 (zP s 0) rfl ?_;refine aA 3 (.agg #[zI c,zI d]) rfl ?_;refine aA 4 (.agg (zR R).toArray) rfl ?_;refine di 5 rfl fun K hK=>?_;go_simp;go_wp2_with fail;refine (iW c d (R 0) (R 1) (R 2) (R 3) (R 4) (R 5) (R 6) (R 7) (R 8) (R 9) (R 10) (R 11) (R 12) (R 13) (R 14) (R 15) _).mono ?_;rintro e w1 ⟨rfl,hb1⟩;rw [show iE c d (R 0) (R 1) (R 2) (R 3) (R 4) (R 5) (R 6) (R 7) (R 8) (R 9) (R 10) (R 11) (R 12) (R 13) (R 14) (R 15)=true from HL.o];refine hK.out _ _ (bM (by assumption) hb1) (fun ai=>?_);clear hK K af;have af:=ai;clear ai;try simp only [aT]
 refine aA 6 (.bool false) rfl ?_;refine Hy (by kernel_rfl) ?_ _;clear af;clear yP0 hlP c0 c1 lsw;have hx1:=ah ((Hr w0.heap.size w0).drew) hb1;clear hb1;have y_w1:w0.heap.size<=w1.heap.size:=hx1.size;have B4:=fQ (ah B1.o hx1);have P4:=fQ (P2.o.q hx1);have S4:=fQ (S3.o.q hx1);clear B1 P2 S3;have z1:w0.heap.size<=w1.heap.size:=hx1.size;clear hx1;rcases nV HL.o with ⟨hk,hO⟩ | ⟨hk,hs,hp⟩ | ⟨hk,hs,hn3⟩
 case inl=>
  have yP0:=P4.o.a16;have hlP:w.heap.size<w1.heap.size:=P4.o.1;go_wp2_with fail;clear yP0 hlP;refine (rD c d (R 1) (R 2) (R 3) (R 4) (R 5) s b lo V n (fB hV) (hwR 1 (by omega)) _ S4.o).mono ?_;rintro e w2 ⟨rfl,hb2⟩;by_cases hf:iY V (R 1) (R 2)=true
  case neg=>
   have HF:bY (iY V (R 1) (R 2)=false):=by unfold bY;cases h:iY V (R 1) (R 2);rfl;exact absurd h hf
   clear hf;rw [HF.o];have y_w2:w1.heap.size<=w2.heap.size:=hb2.size;have B5:=fQ (ah B4.o hb2);have P5:=fQ (P4.o.q hb2);have S5:=fQ (S4.o.q hb2);clear B4 P4 S4;clear hb2;have yP0:=P5.o.a16;have hlP:w.heap.size<w2.heap.size:=P5.o.1;have ER:bY (aF c d V R=(V,0,false)):=by unfold bY aF;rw [if_neg (show ¬ iD c d R=false by rw [HL.o];simp)];rw [if_pos hk,if_neg (by rw [HF.o];simp)]
   go_wp2;refine Hw (v:=.tuple #[zI 0,.bool false]) (by simp [results,Tryz.results108,go_sem]) rfl ?_;exact ⟨by rw [ER.o],by rw [ER.o];exact S5.o.mono (by omega),Bl.up B5.o (by omega)⟩
  have HF:=fQ hf;clear hf;rw [HF.o];have y_w2:w1.heap.size<=w2.heap.size:=hb2.size;have B5:=fQ (ah B4.o hb2);have P5:=fQ (P4.o.q hb2);have S5:=fQ (S4.o.q hb2);clear B4 P4 S4;have z2:w1.heap.size<=w2.heap.size:=hb2.size;clear hb2;have yP0:=P5.o.a16;have hlP:w.heap.size<w2.heap.size:=P5.o.1;go_wp2_with fail;clear yP0 hlP;refine (Eo c d (R 1) (R 2) (R 3) (R 4) (R 5) s b lo V n hV hO (hwR 1 (by omega)) (hwR 4 (by omega)) _ ((B5.o.cell (p:=(zA 0 0)) (show (0:Nat)<w.heap.size by omega)).trans HG.o) hlo S5.o).mono ?_;rintro e w3 ⟨rfl,hS3,hB3⟩;have ER:bY (aF c d V R=((qJ c d V (R 1) (R 2) (R 3) (R 4) (R 5)).1,(qJ c d V (R 1) (R 2) (R 3) (R 4) (R 5)).2,true)):=by unfold bY aF;rw [if_neg (show ¬ iD c d R=false by rw [HL.o];simp)];rw [if_pos hk,if_pos HF.o]
  have HS3:=fQ hS3;have HB3:=fQ ((Bl.up B5.o (by omega)).trans hB3);obtain ⟨zc,hzc⟩:∃ z,z=(qJ c d V (R 1) (R 2) (R 3) (R 4) (R 5)).2:=⟨_,rfl⟩;rw [<-hzc];have HZC:=fQ hzc;clear hS3 hB3 hzc;go_wp2;refine Hw (v:=.tuple #[zI zc,.bool true]) (by simp [results,Tryz.results108,go_sem]) rfl ?_;exact ⟨by rw [ER.o,HZC.o],by rw [ER.o];exact HS3.o,HB3.o⟩
 all_goals
  have yP0:=P4.o.a16
  have hlP:w.heap.size<w1.heap.size:=P4.o.1
  have hk1:¬ R 0=1:=by omega
  go_wp2_with fail
  clear yP0 hlP
  refine (jC c d (R 6) s b lo V n _ S4.o).mono ?_
  rintro e w2 ⟨rfl,hb2⟩
  by_cases hno:bf c d V.c (R 6)=-1
  case pos=>
   have HN:=fQ hno;clear hno;rw [show (!(bf c d V.c (R 6) == -1))=false by rw [HN.o];rfl];have y_w2:w1.heap.size<=w2.heap.size:=hb2.size;have B5:=fQ (ah B4.o hb2);have P5:=fQ (P4.o.q hb2);have S5:=fQ (S4.o.q hb2);clear B4 P4 S4;clear hb2;have yP0:=P5.o.a16;have hlP:w.heap.size<w2.heap.size:=P5.o.1;have ER:bY (aF c d V R=(V,0,false)):=by unfold bY aF;rw [if_neg (show ¬ iD c d R=false by rw [HL.o];simp)];rw [if_neg (show ¬ R 0=1 by omega),if_pos HN.o]
   go_wp2;refine Hw (v:=.tuple #[zI 0,.bool false]) (by simp [results,Tryz.results108,go_sem]) rfl ?_;exact ⟨by rw [ER.o],by rw [ER.o];exact S5.o.mono (by omega),Bl.up B5.o (by omega)⟩
  have HN:=fQ hno
  clear hno
  rw [show (!(bf c d V.c (R 6) == -1))=true by simp [HN.o]]
  have y_w2:w1.heap.size<=w2.heap.size:=hb2.size
  have B5:=fQ (ah B4.o hb2)
  have P5:=fQ (P4.o.q hb2)
  have S5:=fQ (S4.o.q hb2)
  clear B4 P4 S4
  have z2:w1.heap.size<=w2.heap.size:=hb2.size
  clear hb2
  have yP0:=P5.o.a16
  have hlP:w.heap.size<w2.heap.size:=P5.o.1
  go_wp2_with fail
  clear yP0 hlP
  first | refine (wU c d (R 6) (R 7) (R 8) (R 9) (R 10) (R 11) (R 12) (R 13) (R 14) s b lo V n hV hp hs (hwR 9 (by omega)) _ S5.o).mono ?_ | refine (xO c d (R 6) s b lo V n (R 15) hV hs _ S5.o).mono ?_
  rintro e w3 ⟨rfl,hS3,hB3⟩
  obtain ⟨U,tb,eU,et⟩:∃ U b,bY (U=(if R 0=2 then CV.inn c d V (R 6).toNat (R 7) (R 8) (R 9) (R 10) (R 11) (R 12) (R 13) (R 14) else V.after (R 6).toNat (R 15)))/\bY (b=(if R 0=2 then takeB c d V (dA V.W V.nW) (R 6).toNat (R 7) (R 8) (R 9) (R 10) (R 14) else jk V (R 6).toNat (R 15))):=⟨_,_,rfl,rfl⟩
  have EU:=eU
  have ET:=et
  first | (guard_hyp hp;rw [if_pos hk] at EU ET) | rw [if_neg (show ¬ R 0=2 by omega)] at EU ET
  rw [<-ET.o]
  rw [<-EU.o] at hS3
  clear eU et
  have ER:bY (aF c d V R=(U,0,tb)):=by unfold bY aF;rw [if_neg (show ¬ iD c d R=false by rw [HL.o];simp)];rw [if_neg (show ¬ R 0=1 by omega),if_neg HN.o,EU.o,ET.o];first | (guard_hyp hp;rw [if_pos hk]) | rw [if_neg (show ¬ R 0=2 by omega)]
  have HS3:=fQ (hS3.mono (show _<=n+5 by omega))
  have HB3:=fQ ((Bl.up B5.o (by omega)).trans hB3)
  obtain ⟨zc,hzc⟩:∃ z,z=tb:=⟨_,rfl⟩
  rw [<-hzc]
  have HZC:=fQ hzc
  clear hS3 hB3 hzc
  go_wp2
  refine Hw (v:=.tuple #[zI 0,.bool zc]) (by simp [results,Tryz.results108,go_sem]) rfl ?_
  exact ⟨by rw [ER.o,HZC.o],by rw [ER.o];exact HS3.o,HB3.o⟩
theorem xu (c d:Int) (R:Nat->Int) (s b:Nat) (lo:Lo) (V:CV) (n:Nat) (hV:bD c d V=true) (hwR:∀ j,j<16->(Lit.int .i64 (R j)).wf=true) (hlo:0<lo.l) (w:World) (hg0:w.cell? (zA 0 0)=some (.iface 257 (.agg #[zP 1 204]))) (h:Sv w c d s b lo V n) :
 Hz 108 #[zP s 0,rv R] w fun e w'=>e=.returned (.tuple #[zI (aF c d V R).2.1,.bool (aF c d V R).2.2])/\Sv w' c d s b lo (aF c d V R).1 (n+5)/\Bl b lo w w':=by
 cases hlog:iD c d R
 ·exact zL c d R s b lo V n hlog w h
 exact JM c d R s b lo V n hV hwR hlog hlo w hg0 h
