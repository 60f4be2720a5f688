/- what a record does to a cell; isFresh, hasBeside, takeIn, letGo at a scene; conditions: the scene lies in memory. -/
import Derived.Test.YtngaboipleimcaaGreatDoorLA1
import Derived.Test.YtngaboipleimcaaGreatDoorLA3
import Derived.Test.YtngaboipleimcaaGreatDoorLog3
namespace Go.Proofs.YtngaboipleimcaaGreatDoor
open Go.RowKit Go.Deep
set_option linter.unusedVariables false
set_option maxRecDepth 20000
def rv (R:Nat→Int):Value:=.agg (zR R).toArray
def logR (c d:Int) (R:Nat→Int):Bool:=logB c d (R 0) (R 1) (R 2) (R 3) (R 4) (R 5) (R 6) (R 7) (R 8) (R 9) (R 10) (R 11) (R 12) (R 13) (R 14) (R 15)
def freshB (V:CV) (o s:Int):Bool:=match idxW V.W o V.nW with
 | none=>false
 | some m=>decide (V.W m 3<s)
def applyV (c d:Int) (V:CV) (R:Nat→Int):CV × Int × Bool :=
 if logR c d R=false then (V,0,false)
 else if R 0=1 then (if freshB V (R 1) (R 2)=true then ((doV c d V (R 1) (R 2) (R 3) (R 4) (R 5)).1,(doV c d V (R 1) (R 2) (R 3) (R 4) (R 5)).2,true) else (V,0,false))
 else if sideF c d V.c (R 6)=-1 then (V,0,false)
 else if R 0=2 then (CV.inn c d V (R 6).toNat (R 7) (R 8) (R 9) (R 10) (R 11) (R 12) (R 13) (R 14),0,takeB c d V (mapW V.W V.nW) (R 6).toNat (R 7) (R 8) (R 9) (R 10) (R 14))
 else (V.after (R 6).toNat (R 15),0,ackB V (R 6).toNat (R 15))
theorem putM_ins {W:Nat→Nat→Int} {n:Nat} {z:Int} {Z:Nat→Int} (h:Rise W n) (hno:∀ k,k<n→¬ W k 0=z) (hz:Z 0=z):putM (mapW W n) z Z=mapW (insW W n z Z) (n+1):=by
 have hr:Rise (insW W n z Z) (n+1):=ins_rise h hno hz
 have hp:=posW_le W z n
 have at0:insW W n z Z (posW W z n)=Z:=by simp [insW]
 funext y
 unfold putM
 by_cases e:y=z
 ·rw [if_pos e,hr.map (m:=posW W z n) (by omega) (by rw [at0,hz,e]),at0]
 ·rw [if_neg e]
  rcases h.get y with ⟨k,hk,e2⟩ | hno2
  ·rw [h.map hk e2]
   by_cases l:k<posW W z n
   ·have ek:insW W n z Z k=W k:=by simp [insW,l]
    rw [hr.map (m:=k) (by omega) (by rw [ek];exact e2),ek]
   ·have ek:insW W n z Z (k+1)=W k:=by
     unfold insW
     rw [if_neg (by omega),if_neg (by omega),Nat.add_sub_cancel]
    rw [hr.map (m:=k+1) (by omega) (by rw [ek];exact e2),ek]
  ·rw [mapW_no n hno2,mapW_no (n+1)]
   intro k hk e2
   unfold insW at e2
   split at e2
   ·exact hno2 k (by omega) e2
   ·split at e2
    ·exact e (by rw [←e2,hz])
    ·exact hno2 (k - 1) (by omega) e2
theorem Sv.inn {c d:Int} {V:CV} (h1:cllB c d V=true) {q:Nat} {pn pk pi pa pm ps pl pc:Int} {w:World} {s b:Nat} {lo:Lo} {n:Nat} {n0:Nat} {W0:Nat→Nat→Int} (h:Sc w c d s b lo (inV c d (V.with n0 W0) (mapW V.W V.nW) q pn pk pi pa pc) n (inM c d (V.with n0 W0) (mapW V.W V.nW) q pn pk pi pa pm ps pl pc)) :
 Sv w c d s b lo (CV.inn c d V q pn pk pi pa pm ps pl pc) n:=by
 have hr:Rise V.W V.nW:=cllB_rise h1
 have ht:takeB c d (V.with n0 W0) (mapW V.W V.nW) q pn pk pi pa pc=takeB c d V (mapW V.W V.nW) q pn pk pi pa pc:=rfl
 unfold inV inM at h
 rw [ht] at h
 unfold CV.inn
 cases hk:takeB c d V (mapW V.W V.nW) q pn pk pi pa pc
 ·rw [hk] at h
  exact ⟨n0,W0,h⟩
 ·rw [hk] at h
  by_cases hp:pk=1
  ·subst hp
   have hno:∀ k,k<V.nW→¬ V.W k 0=pi:=by
    intro k hkn e
    simp only [takeB,roomB,Bool.and_eq_true] at hk
    have hm:=hr.map hkn e
    simp [hm] at hk
   have hput:=putM_ins (Z:=zp pi pa pm ps pl) hr hno rfl
   refine ⟨n0,W0,?_⟩
   simp only [tookM,if_true] at h ⊢
   rw [hput] at h
   exact h
  ·simp only [tookM,if_neg hp,if_true] at h ⊢
   exact ⟨n0,W0,h⟩
theorem takeIn_sv (c d pn pk pi pa pm ps pl pc:Int) (q s b:Nat) (lo:Lo) (V:CV) (n:Nat) (h1:cllB c d V=true) (hk:pk=1∨pk=2) (hq:q<2) (hpc:0≤pc∧pc≤900) (hwf:(Lit.int .i64 pi).wf=true) (w:World) (h:Sv w c d s b lo V n) :
 Calls Tryz.prog 99 #[zP s 0,zI (q:Int),.agg #[zI pn,zI pk,zI pi,zI pa,zI pm,zI ps,zI pl,zI pc]] w fun e w'=>e=.returned (.bool (takeB c d V (mapW V.W V.nW) q pn pk pi pa pc))∧Sv w' c d s b lo (CV.inn c d V q pn pk pi pa pm ps pl pc) (n+1)∧Bl b lo w w':=by
 have hK1:=h.kk
 obtain ⟨n0,W0,h⟩:=h
 obtain ⟨_,_,n3⟩:=cllB_two h1
 have hin:=cllB_in h1
 refine (takeIn_impl c d pn pk pi pa pm ps pl pc q s b lo (V.with n0 W0) n (mapW V.W V.nW) hk (by show q<V.nI;omega) (hin.2 q hq) hin.1 hpc hwf w h).mono ?_
 rintro e w' ⟨rfl,h2,h3⟩
 exact ⟨rfl,Sv.inn h1 h2,h3⟩
theorem letGo_sv (c d:Int) (s b:Nat) (lo:Lo) (V:CV) (n:Nat) (q:Nat) (z:Int) (h1:cllB c d V=true) (hq:q<2) (w:World) (h:Sv w c d s b lo V n) :
 Calls Tryz.prog 100 #[zP s 0,zI (q:Int),zI z] w fun e w'=>e=.returned (.bool (ackB V q z))∧Sv w' c d s b lo (V.after q z) n∧Bl b lo w w':=by
 have hK1:=h.kk
 obtain ⟨n0,W0,h⟩:=h
 obtain ⟨n1,n2,n3⟩:=cllB_two h1
 refine (letGo_impl c d s b lo (V.with n0 W0) n (mapW V.W V.nW) q z (by show V.N q≤_;have:=(cllB_X h1 q hq).2;omega) (by show q<V.nO;omega) (by show q<V.nX;omega) w h).mono ?_
 rintro e w' ⟨rfl,h2,h3⟩
 refine ⟨rfl,⟨n0,W0,?_⟩,h3⟩
 have hb:ackB (V.with n0 W0) q z=ackB V q z:=rfl
 unfold CV.after at h2 ⊢
 rw [hb] at h2
 cases hk:ackB V q z
 ·rw [hk] at h2
  exact h2
 ·rw [hk] at h2
  exact h2
set_option maxHeartbeats 4000000 in
theorem isFresh_sv (c d o sq k t nn:Int) (s b:Nat) (lo:Lo) (V:CV) (n:Nat) (hr:Rise V.W V.nW) (hwf:(Lit.int .i64 o).wf=true) (w:World) (h:Sv w c d s b lo V n) :
 Calls Tryz.prog 96 #[zP s 0,.agg #[zI o,zI sq,zI k,zI t,zI nn]] w fun e w'=>e=.returned (.bool (freshB V o sq))∧Below w.heap.size w w':=by
 obtain ⟨_,ls,ll,lb,lbw,nsb,_⟩:=h.at
 go_enter Tryz.func96,Tryz.ntmps96
 go_upto_region 1 with fail
 obtain ⟨w0,e0,hb0,X0,-⟩:=bx1 w [zI o,zI sq,zI k,zI t,zI nn] 47
 rw [←e0]
 clear e0
 have z0:=X0.1
 have B1:Hid (Below w.heap.size w w0):=hb0
 have P2:Hid (Bk w0 w.heap.size [zI o,zI sq,zI k,zI t,zI nn]):=X0
 have S3:Hid (Sv w0 c d s b lo V n):=h.below hb0
 clear X0 hb0 h
 obtain ⟨yP0,yP1,yP2,yP3,yP4⟩:=P2.out.a5
 have hlP:w.heap.size<w0.heap.size:=P2.out.1
 have c8:w0.cell? (zA s 8)=some (.map (some b)):=S3.out.at.1.2.2.2.2.2
 have lsw:s<w0.heap.size:=S3.out.at.2.1
 rcases hr.get o with hex | hno
 ·obtain ⟨m,hm,hz⟩:=hex
  have HZ:Hid (V.W m 0=o):=hz
  clear hz
  have HL:Hid (∀ wx,Below w0.heap.size w0 wx→(Instr.lookup 131 (.map (some b)) (zI o) true).run Tryz.prog wx=.ok (.tuple #[.agg (zF (V.W m)).toArray,.bool true]) wx):=fun wx hx=>((S3.out.below hx).lookA hr hm HZ.out hwf).2
  refine wp_region_held_drew (S:=fun w'=>Below (w0.heap.size) w0 w') (by kernel_rfl) ((Below.refl _ _).drew) ?_
  intro hHeld
  obtain ⟨X0,hX0⟩:∃ X,X=w0.drew:=⟨_,rfl⟩
  have hz0:w0.heap.size≤X0.heap.size:=by rw [hX0];exact Nat.le_refl _
  rw [←hX0] at hHeld ⊢
  clear hX0
  refine tkb 0 (zP s 0) rfl ?_
  try simp only [aT]
  refine tkb 4 (zP w.heap.size 0) rfl ?_
  try simp only [aT]
  refine tkb 1 (zP s 0) rfl ?_
  try simp only [aT]
  refine tkb 5 (zI o) rfl ?_
  try simp only [aT]
  refine tkb 2 (zP s 8) rfl ?_
  try simp only [aT]
  refine tkb 3 (.map (some b)) rfl ?_
  try simp only [aT]
  refine tkl 6 (.tuple #[.agg (zF (V.W m)).toArray,.bool true]) rfl ?_ ?_
  ·intro wx hSw;obtain ⟨hcS,hfS⟩:=bcellN hSw;have hl:=HL.out wx hSw;go_simp
  try simp only [aT]
  refine tkb 7 (.tuple #[.agg (zF (V.W m)).toArray,.bool true]) rfl ?_
  try simp only [aT]
  refine tkb 8 (.agg (zF (V.W m)).toArray) rfl ?_
  try simp only [aT]
  refine tkb 9 (.bool true) rfl ?_
  try simp only [aT]
  refine rd1 10 rfl fun K hK=>?_
  go_simp
  obtain ⟨Xgk,eA⟩:∃ X,X=X0.alloc (.cells z5.toArray 48):=⟨_,rfl⟩
  rw [←eA]
  have hbA:Below X0.heap.size X0 Xgk:=by rw [eA];exact (Below.refl _ _).alloc (Nat.le_refl _) _
  have hZgk:Bk Xgk X0.heap.size z5:=by rw [eA];exact bk_new X0 48 z5
  have hzAgk1:Xgk.heap.size≤X0.heap.size+1:=by rw [eA];simp
  have hzAgk2:X0.heap.size+1≤Xgk.heap.size:=by rw [eA];simp
  clear eA
  have hsz_Xgk:=hbA.size
  refine hK.out _ _ (bthenN hHeld (by omega) hbA) (fun hNew=>?_)
  clear hK K hHeld
  have hHeld:=hNew
  clear hNew
  try simp only [aT]
  clear hbA
  obtain ⟨gk,egk⟩:∃ g,g=X0.heap.size:=⟨_,rfl⟩
  rw [←egk] at hZgk ⊢
  have egk1:gk≤X0.heap.size:=by omega
  have egk2:X0.heap.size≤gk:=by omega
  clear egk
  refine rd1 11 rfl fun K hK=>?_
  have r0:=(hZgk.2 0 (by simp)).1
  have r1:=(hZgk.2 1 (by simp)).1
  have r2:=(hZgk.2 2 (by simp)).1
  have r3:=(hZgk.2 3 (by simp)).1
  have r4:=(hZgk.2 4 (by simp)).1
  have f0:=(hZgk.2 0 (by simp)).2
  have f1:=(hZgk.2 1 (by simp)).2
  have f2:=(hZgk.2 2 (by simp)).2
  have f3:=(hZgk.2 3 (by simp)).2
  have f4:=(hZgk.2 4 (by simp)).2
  simp only [List.getD,List.getElem?_cons_zero,List.getElem?_cons_succ,Option.getD_some] at r0 r1 r2 r3 r4
  have lZgk:=hZgk.1
  have hkgk:w0.heap.size≤gk:=by omega
  go_simp
  obtain ⟨XSgk,eS⟩:∃ X,X=(((((Xgk.setCell (zA gk 0) (zI (V.W m 0))).setCell (zA gk 1) (zI (V.W m 1))).setCell (zA gk 2) (zI (V.W m 2))).setCell (zA gk 3) (zI (V.W m 3))).setCell (zA gk 4) (zI (V.W m 4))):=⟨_,rfl⟩
  rw [←eS]
  have hPgk:Bk XSgk gk (zF (V.W m)):=by rw [eS];exact bk_put (l:=(zF (V.W m))) hZgk rfl
  have hzgk1:XSgk.heap.size≤Xgk.heap.size:=by rw [eS];exact Nat.le_of_eq (size_put gk (zF (V.W m)) 0 Xgk)
  have hzgk2:Xgk.heap.size≤XSgk.heap.size:=by rw [eS];exact Nat.le_of_eq (size_put gk (zF (V.W m)) 0 Xgk).symm
  have hmgk:∀ b,¬ b=gk→Sm Xgk XSgk b:=by rw [eS];exact fun b hb=>sm_put hb (zF (V.W m)) 0 Xgk
  have hBgk:Below (w0.heap.size) w0 XSgk:=by rw [eS];exact below_put hkgk (zF (V.W m)) 0 hHeld
  clear eS r0 f0 r1 f1 r2 f2 r3 f3 r4 f4
  refine hK.out _ _ hBgk (fun hNew=>?_)
  clear hK K hHeld
  have hHeld:=hNew
  clear hNew
  try simp only [aT]
  refine tkb 12 (.bool true) rfl ?_
  try simp only [aT]
  refine wpAnyH_done (by kernel_rfl) ?_ _
  clear yP0 yP1 yP2 yP3 yP4 hlP c8 lsw
  clear HL
  have y_XSgk:w0.heap.size≤XSgk.heap.size:=hHeld.size
  have B4:=hid (bthen B1.out hHeld)
  have P4:=hid (P2.out.below hHeld)
  have S4:=hid (S3.out.below hHeld)
  clear B1 P2 S3
  have G5:Hid (Bk XSgk gk (zF (V.W m))):=hPgk
  have zX:=hHeld.size
  clear hHeld hPgk
  obtain ⟨yP0,yP1,yP2,yP3,yP4⟩:=P4.out.a5
  have hlP:w.heap.size<XSgk.heap.size:=P4.out.1
  obtain ⟨yG0,yG1,yG2,yG3,yG4⟩:=G5.out.a5
  have hlG:gk<XSgk.heap.size:=G5.out.1
  have ER:Hid (freshB V o sq=decide (V.W m 3<sq)):=by unfold Hid;simp only [freshB,idx_some V.nW hr hm HZ.out]
  go_wp2
  go_ret
  exact ⟨by rw [ER.out] <;> rfl,B4.out⟩
 ·have HL:Hid (∀ wx,Below w0.heap.size w0 wx→(Instr.lookup 131 (.map (some b)) (zI o) true).run Tryz.prog wx=.ok (.tuple #[.agg z5.toArray,.bool false]) wx):=fun wx hx=>(S3.out.below hx).lookN hno hwf
  refine wp_region_held_drew (S:=fun w'=>Below (w0.heap.size) w0 w') (by kernel_rfl) ((Below.refl _ _).drew) ?_
  intro hHeld
  obtain ⟨X0,hX0⟩:∃ X,X=w0.drew:=⟨_,rfl⟩
  have hz0:w0.heap.size≤X0.heap.size:=by rw [hX0];exact Nat.le_refl _
  rw [←hX0] at hHeld ⊢
  clear hX0
  refine tkb 0 (zP s 0) rfl ?_
  try simp only [aT]
  refine tkb 4 (zP w.heap.size 0) rfl ?_
  try simp only [aT]
  refine tkb 1 (zP s 0) rfl ?_
  try simp only [aT]
  refine tkb 5 (zI o) rfl ?_
  try simp only [aT]
  refine tkb 2 (zP s 8) rfl ?_
  try simp only [aT]
  refine tkb 3 (.map (some b)) rfl ?_
  try simp only [aT]
  refine tkl 6 (.tuple #[.agg z5.toArray,.bool false]) rfl ?_ ?_
  ·intro wx hSw;obtain ⟨hcS,hfS⟩:=bcellN hSw;have hl:=HL.out wx hSw;go_simp
  try simp only [aT]
  refine tkb 7 (.tuple #[.agg z5.toArray,.bool false]) rfl ?_
  try simp only [aT]
  refine tkb 8 (.agg z5.toArray) rfl ?_
  try simp only [aT]
  refine tkb 9 (.bool false) rfl ?_
  try simp only [aT]
  refine rd1 10 rfl fun K hK=>?_
  go_simp
  obtain ⟨Xgk,eA⟩:∃ X,X=X0.alloc (.cells z5.toArray 48):=⟨_,rfl⟩
  rw [←eA]
  have hbA:Below X0.heap.size X0 Xgk:=by rw [eA];exact (Below.refl _ _).alloc (Nat.le_refl _) _
  have hZgk:Bk Xgk X0.heap.size z5:=by rw [eA];exact bk_new X0 48 z5
  have hzAgk1:Xgk.heap.size≤X0.heap.size+1:=by rw [eA];simp
  have hzAgk2:X0.heap.size+1≤Xgk.heap.size:=by rw [eA];simp
  clear eA
  have hsz_Xgk:=hbA.size
  refine hK.out _ _ (bthenN hHeld (by omega) hbA) (fun hNew=>?_)
  clear hK K hHeld
  have hHeld:=hNew
  clear hNew
  try simp only [aT]
  clear hbA
  obtain ⟨gk,egk⟩:∃ g,g=X0.heap.size:=⟨_,rfl⟩
  rw [←egk] at hZgk ⊢
  have egk1:gk≤X0.heap.size:=by omega
  have egk2:X0.heap.size≤gk:=by omega
  clear egk
  refine rd1 11 rfl fun K hK=>?_
  have r0:=(hZgk.2 0 (by simp)).1
  have r1:=(hZgk.2 1 (by simp)).1
  have r2:=(hZgk.2 2 (by simp)).1
  have r3:=(hZgk.2 3 (by simp)).1
  have r4:=(hZgk.2 4 (by simp)).1
  have f0:=(hZgk.2 0 (by simp)).2
  have f1:=(hZgk.2 1 (by simp)).2
  have f2:=(hZgk.2 2 (by simp)).2
  have f3:=(hZgk.2 3 (by simp)).2
  have f4:=(hZgk.2 4 (by simp)).2
  simp only [List.getD,List.getElem?_cons_zero,List.getElem?_cons_succ,Option.getD_some] at r0 r1 r2 r3 r4
  have lZgk:=hZgk.1
  have hkgk:w0.heap.size≤gk:=by omega
  go_simp
  obtain ⟨XSgk,eS⟩:∃ X,X=(((((Xgk.setCell (zA gk 0) (zI 0)).setCell (zA gk 1) (zI 0)).setCell (zA gk 2) (zI 0)).setCell (zA gk 3) (zI 0)).setCell (zA gk 4) (zI 0)):=⟨_,rfl⟩
  rw [←eS]
  have hPgk:Bk XSgk gk z5:=by rw [eS];exact bk_put (l:=z5) hZgk rfl
  have hzgk1:XSgk.heap.size≤Xgk.heap.size:=by rw [eS];exact Nat.le_of_eq (size_put gk z5 0 Xgk)
  have hzgk2:Xgk.heap.size≤XSgk.heap.size:=by rw [eS];exact Nat.le_of_eq (size_put gk z5 0 Xgk).symm
  have hmgk:∀ b,¬ b=gk→Sm Xgk XSgk b:=by rw [eS];exact fun b hb=>sm_put hb z5 0 Xgk
  have hBgk:Below (w0.heap.size) w0 XSgk:=by rw [eS];exact below_put hkgk z5 0 hHeld
  clear eS r0 f0 r1 f1 r2 f2 r3 f3 r4 f4
  refine hK.out _ _ hBgk (fun hNew=>?_)
  clear hK K hHeld
  have hHeld:=hNew
  clear hNew
  try simp only [aT]
  refine tkb 12 (.bool false) rfl ?_
  try simp only [aT]
  refine wpAnyH_done (by kernel_rfl) ?_ _
  clear yP0 yP1 yP2 yP3 yP4 hlP c8 lsw
  clear HL
  have y_XSgk:w0.heap.size≤XSgk.heap.size:=hHeld.size
  have B4:=hid (bthen B1.out hHeld)
  have P4:=hid (P2.out.below hHeld)
  have S4:=hid (S3.out.below hHeld)
  clear B1 P2 S3
  have G5:Hid (Bk XSgk gk z5):=hPgk
  have zX:=hHeld.size
  clear hHeld hPgk
  obtain ⟨yP0,yP1,yP2,yP3,yP4⟩:=P4.out.a5
  have hlP:w.heap.size<XSgk.heap.size:=P4.out.1
  obtain ⟨yG0,yG1,yG2,yG3,yG4⟩:=G5.out.a5
  have hlG:gk<XSgk.heap.size:=G5.out.1
  have ER:Hid (freshB V o sq=false):=by unfold Hid;simp only [freshB,idx_none V.nW hno]
  go_wp2
  go_ret
  exact ⟨by rw [ER.out] <;> rfl,B4.out⟩
set_option maxHeartbeats 4000000 in
theorem hasBeside_sv (c d sd:Int) (s b:Nat) (lo:Lo) (V:CV) (n:Nat) (w:World) (h:Sv w c d s b lo V n) :
 Calls Tryz.prog 98 #[zP s 0,zI sd] w fun e w'=>e=.returned (.bool (!(sideF c d V.c sd == -1)))∧Below w.heap.size w w':=by
 obtain ⟨⟨c0,c1,c2,_⟩,ls,_⟩:=h.at
 clear h
 go_enter Tryz.func98,Tryz.ntmps98
 go_wp2
 refine wp_region_held_drew (S:=fun w'=>(∀ b o,b<w.heap.size→w'.cell? (zA b o)=w.cell? (zA b o))∧w.heap.size≤w'.heap.size) (by kernel_rfl) ⟨fun _ _ _=>rfl,Nat.le_refl _⟩ ?_
 intro hHeld
 refine tka 0 (zP s 0) rfl ?_
 try simp only [aT]
 refine tka 1 (zP s 0) rfl ?_
 try simp only [aT]
 refine tka 2 (zP s 0) rfl ?_
 try simp only [aT]
 refine tka 3 (.agg #[zI c,zI d]) rfl ?_
 try simp only [aT]
 refine tka 4 (zP s 0) rfl ?_
 try simp only [aT]
 refine tka 5 (zP s 0) rfl ?_
 try simp only [aT]
 refine tka 6 (zP s 2) rfl ?_
 try simp only [aT]
 refine tka 7 (zP s 2) rfl ?_
 try simp only [aT]
 refine tka 8 (zI V.c) rfl ?_
 try simp only [aT]
 refine tka 9 (zI sd) rfl ?_
 try simp only [aT]
 refine rd1 10 rfl fun K hK=>?_
 go_simp
 go_wp2_with fail
 refine (plcSide_impl c d V.c sd _).mono ?_
 rintro e w1 ⟨rfl,hb1⟩
 refine hK.out _ _ (keepS (by assumption) hb1) (fun hNew=>?_)
 clear hK K hHeld
 have hHeld:=hNew
 clear hNew
 try simp only [aT]
 refine tka 11 (.bool (sideF c d V.c sd != -1)) rfl ?_
 try simp only [aT]
 refine tka 12 (.bool (sideF c d V.c sd != -1)) rfl ?_
 try simp only [aT]
 refine wpAnyH_done (by kernel_rfl) ?_ _
 clear hHeld
 go_wp2
 go_ret
 exact ⟨rfl,(bthen ((Below.refl _ _).drew) hb1)⟩
