/- step: what it does in a scene; conditions: the scene lies in memory. -/
import Derived.Test.YtngaboipleimcaaGreatDoorDo6
set_option linter.unusedVariables false
set_option maxHeartbeats 4000000
set_option maxRecDepth 20000
namespace Go.Proofs.YtngaboipleimcaaGreatDoor
open Go.RowKit Go.Deep
theorem zi (c d o sq k t nn:Int) (s b:Nat) (lo:Lo) (m:Nat) (V:CV) (n:Nat) (hr:dJ V.W V.nW) (hm:m<V.nW) (hz:V.W m 0=o) (hwf:(Lit.int .i64 o).wf=true) (hn:1≤nn∧nn≤9) (hc:0≤V.W m 2∧V.W m 2≤99) (hg:0≤V.g∧V.g≤900) (hwt:(Lit.int .i64 t).wf=true) (hto:¬ t=o) (hct:∀ j,j<V.nW→V.W j 0=t→0≤V.W j 2∧V.W j 2≤99) (w:World) (h:Sv w c d s b lo V n) :
 Hz 146 #[zP s 0,.agg #[zI o,zI sq,zI k,zI t,zI nn]] w fun e w'=>e=.returned (oK (dF V m t nn).2)∧Sv w' c d s b lo (dF V m t nn).1 (n+3)∧Bl b lo w w'∧((dF V m t nn).2≠1→Below w.heap.size w w'):=by
 have hK1:=h.kk
 have HZ:Hid (V.W m 0=o):=hz
 clear hz
 obtain ⟨_,ls,ll,lb,lbw,nsb,_⟩:=h.at
 go_enter Tryz.func146,Tryz.ntmps146
 go_upto_region 1 with fail
 obtain ⟨w0,e0,hb0,X0,-⟩:=bx1 w [zI o,zI sq,zI k,zI t,zI nn] 47
 rw [←e0]
 clear e0
 have z0:=X0.1
 have B1:Hid (Below w.heap.size w w0):=hb0
 have P2:Hid (Bk w0 w.heap.size [zI o,zI sq,zI k,zI t,zI nn]):=X0
 have S3:Hid (Sv w0 c d s b lo V n):=h.below hb0
 clear X0 hb0 h
 obtain ⟨yP0,yP1,yP2,yP3,yP4⟩:=P2.out.a5
 have hlP:w.heap.size<w0.heap.size:=P2.out.1
 have c8:w0.cell? (zA s 8)=some (.map (some b)):=S3.out.at.1.2.2.2.2.2
 have lsw:s<w0.heap.size:=S3.out.at.2.1
 rcases hr.get t with hex | hno
 ·obtain ⟨j,hj,hzj⟩:=hex
  have HJ:Hid (V.W j 0=t):=hzj
  have hcj:=hct j hj hzj
  have hjm:¬ j=m:=fun e=>hto (by rw [←hzj,e];exact HZ.out)
  clear hzj
  have HL:Hid (∀ wx,Below w0.heap.size w0 wx→(Instr.lookup 131 (.map (some b)) (zI t) true).run Tryz.prog wx=.ok (.tuple #[.agg (zF (V.W j)).toArray,.bool true]) wx):=fun wx hx=>((S3.out.below hx).lookA hr hj HJ.out hwt).2
  refine Hu (S:=fun w'=>Below (w0.heap.size) w0 w') (by kernel_rfl) ((Hr _ _).drew) ?_
  intro af
  obtain ⟨X0,hX0⟩:∃ X,X=w0.drew:=⟨_,rfl⟩
  have hz0:w0.heap.size≤X0.heap.size:=by rw [hX0];exact Ho _
  rw [←hX0] at af ⊢
  clear hX0
  refine bF 0 (zP s 0) rfl ?_
  refine bF 4 (zP w.heap.size 3) rfl ?_
  refine bF 1 (zP s 0) rfl ?_
  refine bF 5 (zI t) rfl ?_
  refine bF 2 (zP s 8) rfl ?_
  refine bF 3 (.map (some b)) rfl ?_
  refine dY 6 (.tuple #[.agg (zF (V.W j)).toArray,.bool true]) rfl ?_ ?_
  ·intro wx hSw;obtain ⟨hcS,hfS⟩:=iZ hSw;have hl:=HL.out wx hSw;go_simp
  try simp only [aT]
  refine bF 7 (.tuple #[.agg (zF (V.W j)).toArray,.bool true]) rfl ?_
  refine bF 8 (.agg (zF (V.W j)).toArray) rfl ?_
  refine bF 9 (.bool true) rfl ?_
  refine di 10 rfl fun K hK=>?_
  go_simp
  obtain ⟨Xgk,eA⟩:∃ X,X=X0.alloc (.cells z5.toArray 48):=⟨_,rfl⟩
  rw [←eA]
  have hbA:Below X0.heap.size X0 Xgk:=by rw [eA];exact (Hr _ _).alloc (Ho _) _
  have hZgk:Bk Xgk X0.heap.size z5:=by rw [eA];exact aU X0 48 z5
  have hzAgk1:Xgk.heap.size≤X0.heap.size+1:=by rw [eA];simp
  have hzAgk2:X0.heap.size+1≤Xgk.heap.size:=by rw [eA];simp
  clear eA
  have hsz_Xgk:=hbA.size
  refine hK.out _ _ (bJ af (by omega) hbA) (fun ai=>?_)
  clear hK K af
  have af:=ai
  clear ai
  try simp only [aT]
  clear hbA
  obtain ⟨gk,egk⟩:∃ g,g=X0.heap.size:=⟨_,rfl⟩
  rw [←egk] at hZgk ⊢
  have egk1:gk≤X0.heap.size:=by omega
  have egk2:X0.heap.size≤gk:=by omega
  clear egk
  refine di 11 rfl fun K hK=>?_
  have r0:=(hZgk.2 0 (by simp)).1
  have r1:=(hZgk.2 1 (by simp)).1
  have r2:=(hZgk.2 2 (by simp)).1
  have r3:=(hZgk.2 3 (by simp)).1
  have r4:=(hZgk.2 4 (by simp)).1
  have f0:=(hZgk.2 0 (by simp)).2
  have f1:=(hZgk.2 1 (by simp)).2
  have f2:=(hZgk.2 2 (by simp)).2
  have f3:=(hZgk.2 3 (by simp)).2
  have f4:=(hZgk.2 4 (by simp)).2
  simp only [List.getD,List.getElem?_cons_zero,List.getElem?_cons_succ,Option.getD_some] at r0 r1 r2 r3 r4
  have lZgk:=hZgk.1
  have hkgk:w0.heap.size≤gk:=by omega
  go_simp
  obtain ⟨XSgk,eS⟩:∃ X,X=(((((Xgk.setCell (zA gk 0) (zI (V.W j 0))).setCell (zA gk 1) (zI (V.W j 1))).setCell (zA gk 2) (zI (V.W j 2))).setCell (zA gk 3) (zI (V.W j 3))).setCell (zA gk 4) (zI (V.W j 4))):=⟨_,rfl⟩
  rw [←eS]
  have hPgk:Bk XSgk gk (zF (V.W j)):=by rw [eS];exact jM (l:=(zF (V.W j))) hZgk rfl
  have hzgk1:XSgk.heap.size≤Xgk.heap.size:=by rw [eS];exact Hl (size_put gk (zF (V.W j)) 0 Xgk)
  have hzgk2:Xgk.heap.size≤XSgk.heap.size:=by rw [eS];exact Hl (size_put gk (zF (V.W j)) 0 Xgk).symm
  have hmgk:∀ b,¬ b=gk→Sm Xgk XSgk b:=by rw [eS];exact fun b hb=>jQ hb (zF (V.W j)) 0 Xgk
  have hBgk:Below (w0.heap.size) w0 XSgk:=by rw [eS];exact gu hkgk (zF (V.W j)) 0 af
  clear eS r0 f0 r1 f1 r2 f2 r3 f3 r4 f4
  refine hK.out _ _ hBgk (fun ai=>?_)
  clear hK K af
  have af:=ai
  clear ai
  try simp only [aT]
  refine bF 12 (.bool true) rfl ?_
  refine Hy (by kernel_rfl) ?_ _
  clear yP0 yP1 yP2 yP3 yP4 hlP c8 lsw
  clear HL
  have y_XSgk:w0.heap.size≤XSgk.heap.size:=af.size
  have B4:=hid (ah B1.out af)
  have P4:=hid (P2.out.below af)
  have S4:=hid (S3.out.below af)
  clear B1 P2 S3
  have G5:Hid (Bk XSgk gk (zF (V.W j))):=hPgk
  have zX:=af.size
  clear af hPgk
  obtain ⟨yP0,yP1,yP2,yP3,yP4⟩:=P4.out.a5
  have hlP:w.heap.size<XSgk.heap.size:=P4.out.1
  go_wp2_with fail
  clear yP0 yP1 yP2 yP3 yP4 hlP
  refine (mW c d o sq k t nn s b lo m V n hr hm HZ.out hwf _ S4.out).mono ?_
  rintro e w1 ⟨rfl,hb1⟩
  have y_w1:XSgk.heap.size≤w1.heap.size:=hb1.size
  have B6:=hid (ah B4.out hb1)
  have P6:=hid (P4.out.below hb1)
  have S6:=hid (S4.out.below hb1)
  have G6:=hid (G5.out.below hb1)
  clear B4 P4 S4 G5
  have z1:=hb1.size
  clear hb1
  obtain ⟨yP0,yP1,yP2,yP3,yP4⟩:=P6.out.a5
  have hlP:w.heap.size<w1.heap.size:=P6.out.1
  by_cases hpay:nn≤V.W m 2
  ·have hd:decide (nn≤V.W m 2)=true:=by simp [hpay]
   rw [hd]
   clear hd
   obtain ⟨yG0,yG1,yG2,yG3,yG4⟩:=G6.out.a5
   have hlG:gk<w1.heap.size:=G6.out.1
   by_cases hfull:99<V.W j 2+nn
   ·have hgt:V.W j 2+nn > 99:=hfull
    go_wp2
    go_ret
    have er:dF V m t nn=(V,5):=by simp only [dF,dB V.nW hr hj HJ.out];rw [if_neg (by omega),if_pos (by omega)]
    exact ⟨by rw [er];rfl,by rw [er];exact (S6.out.below (by repeat (first | exact Hr _ _ | apply Below.drew))).mono (by omega),by repeat (first | exact (Bl.up B6.out (by omega)) | apply Bl.drew),fun _=>by repeat (first | exact B6.out | apply Below.drew)⟩
   ·have hgt:¬ V.W j 2+nn > 99:=hfull
    go_wp2_with fail
    clear yP0 yP1 yP2 yP3 yP4 hlP yG0 yG1 yG2 yG3 yG4 hlG
    refine (kM c d o (-nn) s b lo m V n hr hm HZ.out hwf (by omega) (by omega) _ S6.out).mono ?_
    rintro e w2 ⟨rfl,hS2,hB2,hG2⟩
    have z2:w1.heap.size≤w2.heap.size:=hB2.size
    have P2:Bk w2 w.heap.size [zI o,zI sq,zI k,zI t,zI nn]:=P6.out.sm z2 (hG2 w.heap.size (by omega) (by omega))
    have HS2:Hid (Sv w2 c d s b lo (V.setW m (zc (V.W m) (-nn))) (n+1)):=hS2
    have HB2:Hid (Bl b lo w w2):=(Bl.up B6.out (by omega)).trans hB2
    clear hS2 hB2 hG2
    have p0:w2.cell? (zA w.heap.size 0)=some (zI o):=(P2.2 0 (by simp)).1
    have p1:w2.cell? (zA w.heap.size 1)=some (zI sq):=(P2.2 1 (by simp)).1
    have p2:w2.cell? (zA w.heap.size 2)=some (zI k):=(P2.2 2 (by simp)).1
    have p3:w2.cell? (zA w.heap.size 3)=some (zI t):=(P2.2 3 (by simp)).1
    have p4:w2.cell? (zA w.heap.size 4)=some (zI nn):=(P2.2 4 (by simp)).1
    have lp:=P2.1
    clear P2
    go_wp2_with fail
    have eW:(V.setW m (zc (V.W m) (-nn))).W j=V.W j:=upd_ne hjm
    refine (kM c d t nn s b lo j (V.setW m (zc (V.W m) (-nn))) (n+1) (hr.upd rfl) hj (by rw [eW];exact HJ.out) hwt (by omega) (by rw [eW];omega) _ HS2.out).mono ?_
    rintro e w3 ⟨rfl,hS3,hB3,_⟩
    rw [eW] at hS3
    go_wp2
    go_ret
    have er:dF V m t nn=((V.setW m (zc (V.W m) (-nn))).setW j (zc (V.W j) nn),1):=by simp only [dF,dB V.nW hr hj HJ.out];rw [if_neg (by omega),if_neg (by omega)]
    exact ⟨by rw [er];rfl,by rw [er];exact hS3.mono (by omega),HB2.out.trans hB3,fun e=>by rw [er] at e;exact absurd rfl e⟩
  ·have hd:decide (nn≤V.W m 2)=false:=by simp [hpay]
   rw [hd]
   clear hd
   go_wp2
   go_ret
   have er:dF V m t nn=(V,3):=by simp only [dF,dB V.nW hr hj HJ.out];rw [if_pos (by omega)]
   exact ⟨by rw [er];rfl,by rw [er];exact (S6.out.below (by repeat (first | exact Hr _ _ | apply Below.drew))).mono (by omega),by repeat (first | exact (Bl.up B6.out (by omega)) | apply Bl.drew),fun _=>by repeat (first | exact B6.out | apply Below.drew)⟩
 ·have HL:Hid (∀ wx,Below w0.heap.size w0 wx→(Instr.lookup 131 (.map (some b)) (zI t) true).run Tryz.prog wx=.ok (.tuple #[.agg z5.toArray,.bool false]) wx):=fun wx hx=>(S3.out.below hx).Cc hno hwt
  refine Hu (S:=fun w'=>Below (w0.heap.size) w0 w') (by kernel_rfl) ((Hr _ _).drew) ?_
  intro af
  obtain ⟨X0,hX0⟩:∃ X,X=w0.drew:=⟨_,rfl⟩
  have hz0:w0.heap.size≤X0.heap.size:=by rw [hX0];exact Ho _
  rw [←hX0] at af ⊢
  clear hX0
  refine bF 0 (zP s 0) rfl ?_
  refine bF 4 (zP w.heap.size 3) rfl ?_
  refine bF 1 (zP s 0) rfl ?_
  refine bF 5 (zI t) rfl ?_
  refine bF 2 (zP s 8) rfl ?_
  refine bF 3 (.map (some b)) rfl ?_
  refine dY 6 (.tuple #[.agg z5.toArray,.bool false]) rfl ?_ ?_
  ·intro wx hSw;obtain ⟨hcS,hfS⟩:=iZ hSw;have hl:=HL.out wx hSw;go_simp
  try simp only [aT]
  refine bF 7 (.tuple #[.agg z5.toArray,.bool false]) rfl ?_
  refine bF 8 (.agg z5.toArray) rfl ?_
  refine bF 9 (.bool false) rfl ?_
  refine di 10 rfl fun K hK=>?_
  go_simp
  obtain ⟨Xgk,eA⟩:∃ X,X=X0.alloc (.cells z5.toArray 48):=⟨_,rfl⟩
  rw [←eA]
  have hbA:Below X0.heap.size X0 Xgk:=by rw [eA];exact (Hr _ _).alloc (Ho _) _
  have hZgk:Bk Xgk X0.heap.size z5:=by rw [eA];exact aU X0 48 z5
  have hzAgk1:Xgk.heap.size≤X0.heap.size+1:=by rw [eA];simp
  have hzAgk2:X0.heap.size+1≤Xgk.heap.size:=by rw [eA];simp
  clear eA
  have hsz_Xgk:=hbA.size
  refine hK.out _ _ (bJ af (by omega) hbA) (fun ai=>?_)
  clear hK K af
  have af:=ai
  clear ai
  try simp only [aT]
  clear hbA
  obtain ⟨gk,egk⟩:∃ g,g=X0.heap.size:=⟨_,rfl⟩
  rw [←egk] at hZgk ⊢
  have egk1:gk≤X0.heap.size:=by omega
  have egk2:X0.heap.size≤gk:=by omega
  clear egk
  refine di 11 rfl fun K hK=>?_
  have r0:=(hZgk.2 0 (by simp)).1
  have r1:=(hZgk.2 1 (by simp)).1
  have r2:=(hZgk.2 2 (by simp)).1
  have r3:=(hZgk.2 3 (by simp)).1
  have r4:=(hZgk.2 4 (by simp)).1
  have f0:=(hZgk.2 0 (by simp)).2
  have f1:=(hZgk.2 1 (by simp)).2
  have f2:=(hZgk.2 2 (by simp)).2
  have f3:=(hZgk.2 3 (by simp)).2
  have f4:=(hZgk.2 4 (by simp)).2
  simp only [List.getD,List.getElem?_cons_zero,List.getElem?_cons_succ,Option.getD_some] at r0 r1 r2 r3 r4
  have lZgk:=hZgk.1
  have hkgk:w0.heap.size≤gk:=by omega
  go_simp
  obtain ⟨XSgk,eS⟩:∃ X,X=(((((Xgk.setCell (zA gk 0) (zI 0)).setCell (zA gk 1) (zI 0)).setCell (zA gk 2) (zI 0)).setCell (zA gk 3) (zI 0)).setCell (zA gk 4) (zI 0)):=⟨_,rfl⟩
  rw [←eS]
  have hPgk:Bk XSgk gk z5:=by rw [eS];exact jM (l:=z5) hZgk rfl
  have hzgk1:XSgk.heap.size≤Xgk.heap.size:=by rw [eS];exact Hl (size_put gk z5 0 Xgk)
  have hzgk2:Xgk.heap.size≤XSgk.heap.size:=by rw [eS];exact Hl (size_put gk z5 0 Xgk).symm
  have hmgk:∀ b,¬ b=gk→Sm Xgk XSgk b:=by rw [eS];exact fun b hb=>jQ hb z5 0 Xgk
  have hBgk:Below (w0.heap.size) w0 XSgk:=by rw [eS];exact gu hkgk z5 0 af
  clear eS r0 f0 r1 f1 r2 f2 r3 f3 r4 f4
  refine hK.out _ _ hBgk (fun ai=>?_)
  clear hK K af
  have af:=ai
  clear ai
  try simp only [aT]
  refine bF 12 (.bool false) rfl ?_
  refine Hy (by kernel_rfl) ?_ _
  clear yP0 yP1 yP2 yP3 yP4 hlP c8 lsw
  clear HL
  have y_XSgk:w0.heap.size≤XSgk.heap.size:=af.size
  have B4:=hid (ah B1.out af)
  have P4:=hid (P2.out.below af)
  have S4:=hid (S3.out.below af)
  clear B1 P2 S3
  have G5:Hid (Bk XSgk gk z5):=hPgk
  have zX:=af.size
  clear af hPgk
  go_wp2
  go_ret
  have er:dF V m t nn=(V,4):=by simp only [dF,fK V.nW hno]
  exact ⟨by rw [er];rfl,by rw [er];exact (S4.out.below (by repeat (first | exact Hr _ _ | apply Below.drew))).mono (by omega),by repeat (first | exact (Bl.up B4.out (by omega)) | apply Bl.drew),fun _=>by repeat (first | exact B4.out | apply Below.drew)⟩
theorem xJ (c d o sq k t nn:Int) (s b:Nat) (lo:Lo) (m:Nat) (V:CV) (n:Nat) (hr:dJ V.W V.nW) (hm:m<V.nW) (hz:V.W m 0=o) (hwf:(Lit.int .i64 o).wf=true) (hn:1≤nn∧nn≤9) (hc:0≤V.W m 2∧V.W m 2≤99) (hg:0≤V.g∧V.g≤900) (q:Nat) (ht:t=(q:Int)) (hq:q<V.nX) (hqO:q<V.nO) (hN:V.N q≤2000000) (hX:-1≤V.X q∧V.X q≤5000) (w:World) (h:Sv w c d s b lo V n) :
 Hz 149 #[zP s 0,.agg #[zI o,zI sq,zI k,zI t,zI nn]] w fun e w'=>e=.returned (oK (bQ c d V m t nn).2)∧Sv w' c d s b lo (bQ c d V m t nn).1 (n+3)∧Bl b lo w w'∧((bQ c d V m t nn).2≠1→Below w.heap.size w w'):=by
 have hK1:=h.kk
 subst ht
 have HZ:Hid (V.W m 0=o):=hz
 clear hz
 obtain ⟨_,ls,ll,lb,lbw,nsb,_⟩:=h.at
 go_enter Tryz.func149,Tryz.ntmps149
 go_upto_region 1 with fail
 obtain ⟨w0,e0,hb0,X0,-⟩:=bx1 w [zI o,zI sq,zI k,zI (q:Int),zI nn] 47
 rw [←e0]
 clear e0
 have z0:=X0.1
 have B1:Hid (Below w.heap.size w w0):=hb0
 have P2:Hid (Bk w0 w.heap.size [zI o,zI sq,zI k,zI (q:Int),zI nn]):=X0
 have S3:Hid (Sv w0 c d s b lo V n):=h.below hb0
 clear X0 hb0 h
 obtain ⟨yP0,yP1,yP2,yP3,yP4⟩:=P2.out.a5
 have hlP:w.heap.size<w0.heap.size:=P2.out.1
 have c0:w0.cell? (zA s 0)=some (zI c):=S3.out.at.1.1
 have c1:w0.cell? (zA s 1)=some (zI d):=S3.out.at.1.2.1
 have c8:w0.cell? (zA s 8)=some (.map (some b)):=S3.out.at.1.2.2.2.2.2
 have lsw:s<w0.heap.size:=S3.out.at.2.1
 cases he:iC c d (V.W m 1) (q:Int)
 ·have HL:Hid (∀ wx,Below w0.heap.size w0 wx→(Instr.lookup 131 (.map (some b)) (zI o) false).run Tryz.prog wx=.ok (.agg (zF (V.W m)).toArray) wx):=fun wx hx=>((S3.out.below hx).lookA hr hm HZ.out hwf).1
  refine Hu (S:=fun w'=>Below (w0.heap.size) w0 w') (by kernel_rfl) ((Hr _ _).drew) ?_
  intro af
  obtain ⟨X0,hX0⟩:∃ X,X=w0.drew:=⟨_,rfl⟩
  have hz0:w0.heap.size≤X0.heap.size:=by rw [hX0];exact Ho _
  rw [←hX0] at af ⊢
  clear hX0
  refine bF 0 (zP s 0) rfl ?_
  refine bF 4 (zP s 0) rfl ?_
  refine bF 8 (zP w.heap.size 0) rfl ?_
  refine bF 12 (zP w.heap.size 3) rfl ?_
  refine bF 1 (zP s 0) rfl ?_
  refine bF 5 (zP s 0) rfl ?_
  refine bF 9 (zI o) rfl ?_
  refine bF 13 (zI (q:Int)) rfl ?_
  refine bF 2 (zP s 0) rfl ?_
  refine bF 6 (zP s 8) rfl ?_
  refine bF 3 (.agg #[zI c,zI d]) rfl ?_
  refine bF 7 (.map (some b)) rfl ?_
  refine dY 10 (.agg (zF (V.W m)).toArray) rfl ?_ ?_
  ·intro wx hSw;obtain ⟨hcS,hfS⟩:=iZ hSw;have hl:=HL.out wx hSw;go_simp
  try simp only [aT]
  refine dY 11 (zI (V.W m 1)) rfl ?_ ?_
  ·intro wx hSw;obtain ⟨hcS,hfS⟩:=iZ hSw;have hfd:=um;go_simp
  try simp only [aT]
  refine di 14 rfl fun K hK=>?_
  go_simp
  go_wp2_with fail
  refine (oL c d (V.W m 1) (q:Int) _).mono ?_
  rintro e xc ⟨rfl,hxc⟩
  rw [he]
  have hsz_xc:=hxc.size
  refine hK.out _ _ (bJ af (by omega) hxc) (fun ai=>?_)
  clear hK K af
  have af:=ai
  clear ai
  try simp only [aT]
  refine bF 15 (.bool true) rfl ?_
  refine bF 16 (.bool true) rfl ?_
  refine Hy (by kernel_rfl) ?_ _
  clear yP0 yP1 yP2 yP3 yP4 hlP c0 c1 c8 lsw
  clear HL
  have y_xc:w0.heap.size≤xc.heap.size:=af.size
  have B4:=hid (ah B1.out af)
  have P4:=hid (P2.out.below af)
  have S4:=hid (S3.out.below af)
  clear B1 P2 S3
  have zX:=af.size
  clear af
  go_wp2
  go_ret
  have er:bQ c d V m (q:Int) nn=(V,7):=by simp only [bQ];rw [if_pos he]
  exact ⟨by rw [er];rfl,by rw [er];exact (S4.out.below (by repeat (first | exact Hr _ _ | apply Below.drew))).mono (by omega),by repeat (first | exact (Bl.up B4.out (by omega)) | apply Bl.drew),fun _=>by repeat (first | exact B4.out | apply Below.drew)⟩
 ·have HL:Hid (∀ wx,Below w0.heap.size w0 wx→(Instr.lookup 131 (.map (some b)) (zI o) false).run Tryz.prog wx=.ok (.agg (zF (V.W m)).toArray) wx):=fun wx hx=>((S3.out.below hx).lookA hr hm HZ.out hwf).1
  refine Hu (S:=fun w'=>Below (w0.heap.size) w0 w') (by kernel_rfl) ((Hr _ _).drew) ?_
  intro af
  obtain ⟨X0,hX0⟩:∃ X,X=w0.drew:=⟨_,rfl⟩
  have hz0:w0.heap.size≤X0.heap.size:=by rw [hX0];exact Ho _
  rw [←hX0] at af ⊢
  clear hX0
  refine bF 0 (zP s 0) rfl ?_
  refine bF 4 (zP s 0) rfl ?_
  refine bF 8 (zP w.heap.size 0) rfl ?_
  refine bF 12 (zP w.heap.size 3) rfl ?_
  refine bF 1 (zP s 0) rfl ?_
  refine bF 5 (zP s 0) rfl ?_
  refine bF 9 (zI o) rfl ?_
  refine bF 13 (zI (q:Int)) rfl ?_
  refine bF 2 (zP s 0) rfl ?_
  refine bF 6 (zP s 8) rfl ?_
  refine bF 3 (.agg #[zI c,zI d]) rfl ?_
  refine bF 7 (.map (some b)) rfl ?_
  refine dY 10 (.agg (zF (V.W m)).toArray) rfl ?_ ?_
  ·intro wx hSw;obtain ⟨hcS,hfS⟩:=iZ hSw;have hl:=HL.out wx hSw;go_simp
  try simp only [aT]
  refine dY 11 (zI (V.W m 1)) rfl ?_ ?_
  ·intro wx hSw;obtain ⟨hcS,hfS⟩:=iZ hSw;have hfd:=um;go_simp
  try simp only [aT]
  refine di 14 rfl fun K hK=>?_
  go_simp
  go_wp2_with fail
  refine (oL c d (V.W m 1) (q:Int) _).mono ?_
  rintro e xc ⟨rfl,hxc⟩
  rw [he]
  have hsz_xc:=hxc.size
  refine hK.out _ _ (bJ af (by omega) hxc) (fun ai=>?_)
  clear hK K af
  have af:=ai
  clear ai
  try simp only [aT]
  refine bF 15 (.bool false) rfl ?_
  refine bF 16 (.bool false) rfl ?_
  refine Hy (by kernel_rfl) ?_ _
  clear yP0 yP1 yP2 yP3 yP4 hlP c0 c1 c8 lsw
  clear HL
  have y_xc:w0.heap.size≤xc.heap.size:=af.size
  have B4:=hid (ah B1.out af)
  have P4:=hid (P2.out.below af)
  have S4:=hid (S3.out.below af)
  clear B1 P2 S3
  have zX:=af.size
  clear af
  obtain ⟨yP0,yP1,yP2,yP3,yP4⟩:=P4.out.a5
  have hlP:w.heap.size<xc.heap.size:=P4.out.1
  go_wp2_with fail
  clear yP0 yP1 yP2 yP3 yP4 hlP
  refine (mW c d o sq k  (q:Int) nn s b lo m V n hr hm HZ.out hwf _ S4.out).mono ?_
  rintro e w1 ⟨rfl,hb1⟩
  have y_w1:xc.heap.size≤w1.heap.size:=hb1.size
  have B5:=hid (ah B4.out hb1)
  have P5:=hid (P4.out.below hb1)
  have S5:=hid (S4.out.below hb1)
  clear B4 P4 S4
  have z1:=hb1.size
  clear hb1
  obtain ⟨yP0,yP1,yP2,yP3,yP4⟩:=P5.out.a5
  have hlP:w.heap.size<w1.heap.size:=P5.out.1
  by_cases hpay:nn≤V.W m 2
  ·have hd:decide (nn≤V.W m 2)=true:=by simp [hpay]
   rw [hd]
   clear hd
   go_wp2_with fail
   refine (pF c d s b lo q V n hq _ S5.out).mono ?_
   rintro e wc ⟨rfl,hwc⟩
   obtain rfl:w1=wc:=hwc.symm
   by_cases hsend:V.X q<5000
   ·have hd:decide (V.X q<5000)=true:=by simp [hsend]
    rw [hd]
    clear hd
    go_wp2_with fail
    clear yP0 yP1 yP2 yP3 yP4 hlP
    refine (kM c d o (-nn) s b lo m V n hr hm HZ.out hwf (by omega) (by omega) _ S5.out).mono ?_
    rintro e w2 ⟨rfl,hS2,hB2,hG2⟩
    have z2:w1.heap.size≤w2.heap.size:=hB2.size
    have P2:Bk w2 w.heap.size [zI o,zI sq,zI k,zI (q:Int),zI nn]:=P5.out.sm z2 (hG2 w.heap.size (by omega) (by omega))
    have HS2:Hid (Sv w2 c d s b lo (V.setW m (zc (V.W m) (-nn))) (n+1)):=hS2
    have HB2:Hid (Bl b lo w w2):=(Bl.up B5.out (by omega)).trans hB2
    clear hS2 hB2 hG2
    have p0:w2.cell? (zA w.heap.size 0)=some (zI o):=(P2.2 0 (by simp)).1
    have p1:w2.cell? (zA w.heap.size 1)=some (zI sq):=(P2.2 1 (by simp)).1
    have p2:w2.cell? (zA w.heap.size 2)=some (zI k):=(P2.2 2 (by simp)).1
    have p3:w2.cell? (zA w.heap.size 3)=some (zI (q:Int)):=(P2.2 3 (by simp)).1
    have p4:w2.cell? (zA w.heap.size 4)=some (zI nn):=(P2.2 4 (by simp)).1
    have lp:=P2.1
    clear P2
    go_wp2_with fail
    refine (uI c d s b lo q (V.setW m (zc (V.W m) (-nn))) (n+1) (pk (V.X q) nn) 0 hq hqO hN hX rfl _ HS2.out).mono ?_
    rintro e w3 ⟨rfl,hS3,hB3⟩
    go_wp2
    go_ret
    have er:bQ c d V m (q:Int) nn=((V.setW m (zc (V.W m) (-nn))).send q (pk (V.X q) nn),1):=by simp only [bQ];rw [if_neg (by rw [he];decide),if_neg (by omega),if_neg (by show ¬ ¬ V.X q<5000;omega)];rfl
    exact ⟨by rw [er];rfl,by rw [er];exact hS3.mono (by omega),HB2.out.trans hB3,fun e=>by rw [er] at e;exact absurd rfl e⟩
   ·have hd:decide (V.X q<5000)=false:=by simp [hsend]
    rw [hd]
    clear hd
    go_wp2
    go_ret
    have er:bQ c d V m (q:Int) nn=(V,5):=by simp only [bQ];rw [if_neg (by rw [he];decide),if_neg (by omega),if_pos (by show ¬ V.X q<5000;omega)]
    exact ⟨by rw [er];rfl,by rw [er];exact (S5.out.below (by repeat (first | exact Hr _ _ | apply Below.drew))).mono (by omega),by repeat (first | exact (Bl.up B5.out (by omega)) | apply Bl.drew),fun _=>by repeat (first | exact B5.out | apply Below.drew)⟩
  ·have hd:decide (nn≤V.W m 2)=false:=by simp [hpay]
   rw [hd]
   clear hd
   go_wp2
   go_ret
   have er:bQ c d V m (q:Int) nn=(V,3):=by simp only [bQ];rw [if_neg (by rw [he];decide),if_pos (by omega)]
   exact ⟨by rw [er];rfl,by rw [er];exact (S5.out.below (by repeat (first | exact Hr _ _ | apply Below.drew))).mono (by omega),by repeat (first | exact (Bl.up B5.out (by omega)) | apply Bl.drew),fun _=>by repeat (first | exact B5.out | apply Below.drew)⟩
theorem xH (c d o sq k t nn:Int) (s b:Nat) (lo:Lo) (m:Nat) (V:CV) (n:Nat) (hr:dJ V.W V.nW) (hm:m<V.nW) (hz:V.W m 0=o) (hwf:(Lit.int .i64 o).wf=true) (hA:0≤V.W m 1∧V.W m 1≤31) (q:Nat) (ht:t=(q:Int)) (hq:q<V.nX) (hqO:q<V.nO) (hN:V.N q≤2000000) (hX:-1≤V.X q∧V.X q≤5000) (w:World) (h:Sv w c d s b lo V n) :
 Hz 145 #[zP s 0,.agg #[zI o,zI sq,zI k,zI t,zI nn]] w fun e w'=>e=.returned (oK (gU c d V m t).2)∧Sv w' c d s b lo (gU c d V m t).1 (n+3)∧Bl b lo w w'∧((gU c d V m t).2≠1→Below w.heap.size w w'):=by
 have hK1:=h.kk
 subst ht
 have HZ:Hid (V.W m 0=o):=hz
 clear hz
 obtain ⟨_,ls,ll,lb,lbw,nsb,_⟩:=h.at
 go_enter Tryz.func145,Tryz.ntmps145
 go_upto_region 1 with fail
 obtain ⟨w0,e0,hb0,X0,-⟩:=bx1 w [zI o,zI sq,zI k,zI (q:Int),zI nn] 47
 rw [←e0]
 clear e0
 have z0:=X0.1
 have B1:Hid (Below w.heap.size w w0):=hb0
 have P2:Hid (Bk w0 w.heap.size [zI o,zI sq,zI k,zI (q:Int),zI nn]):=X0
 have S3:Hid (Sv w0 c d s b lo V n):=h.below hb0
 clear X0 hb0 h
 obtain ⟨yP0,yP1,yP2,yP3,yP4⟩:=P2.out.a5
 have hlP:w.heap.size<w0.heap.size:=P2.out.1
 have c0:w0.cell? (zA s 0)=some (zI c):=S3.out.at.1.1
 have c1:w0.cell? (zA s 1)=some (zI d):=S3.out.at.1.2.1
 have c2:w0.cell? (zA s 2)=some (zI V.c):=S3.out.at.1.2.2.1
 have c8:w0.cell? (zA s 8)=some (.map (some b)):=S3.out.at.1.2.2.2.2.2
 have lsw:s<w0.heap.size:=S3.out.at.2.1
 have HB0:Hid (Below w.heap.size w w0):=B1
 have HS0:Hid (Sv w0 c d s b lo V n):=S3
 have HL:Hid (∀ wx,Below w0.heap.size w0 wx→(Instr.lookup 131 (.map (some b)) (zI o) false).run Tryz.prog wx=.ok (.agg (zF (V.W m)).toArray) wx):=fun wx hx=>((S3.out.below hx).lookA hr hm HZ.out hwf).1
 refine Hu (S:=fun w'=>Below (w0.heap.size) w0 w') (by kernel_rfl) ((Hr _ _).drew) ?_
 intro af
 obtain ⟨X0,hX0⟩:∃ X,X=w0.drew:=⟨_,rfl⟩
 have hz0:w0.heap.size≤X0.heap.size:=by rw [hX0];exact Ho _
 rw [←hX0] at af ⊢
 clear hX0
 refine bF 0 (zP s 0) rfl ?_
 refine bF 4 (zP w.heap.size 0) rfl ?_
 refine bF 1 (zP s 0) rfl ?_
 refine bF 5 (zI o) rfl ?_
 refine bF 2 (zP s 8) rfl ?_
 refine bF 3 (.map (some b)) rfl ?_
 refine dY 6 (.agg (zF (V.W m)).toArray) rfl ?_ ?_
 ·intro wx hSw;obtain ⟨hcS,hfS⟩:=iZ hSw;have hl:=HL.out wx hSw;go_simp
 try simp only [aT]
 refine di 7 rfl fun K hK=>?_
 go_simp
 obtain ⟨Xgk,eA⟩:∃ X,X=X0.alloc (.cells z5.toArray 48):=⟨_,rfl⟩
 rw [←eA]
 have hbA:Below X0.heap.size X0 Xgk:=by rw [eA];exact (Hr _ _).alloc (Ho _) _
 have hZgk:Bk Xgk X0.heap.size z5:=by rw [eA];exact aU X0 48 z5
 have hzAgk1:Xgk.heap.size≤X0.heap.size+1:=by rw [eA];simp
 have hzAgk2:X0.heap.size+1≤Xgk.heap.size:=by rw [eA];simp
 clear eA
 have hsz_Xgk:=hbA.size
 refine hK.out _ _ (bJ af (by omega) hbA) (fun ai=>?_)
 clear hK K af
 have af:=ai
 clear ai
 try simp only [aT]
 clear hbA
 obtain ⟨gk,egk⟩:∃ g,g=X0.heap.size:=⟨_,rfl⟩
 rw [←egk] at hZgk ⊢
 have egk1:gk≤X0.heap.size:=by omega
 have egk2:X0.heap.size≤gk:=by omega
 clear egk
 refine di 8 rfl fun K hK=>?_
 have r0:=(hZgk.2 0 (by simp)).1
 have r1:=(hZgk.2 1 (by simp)).1
 have r2:=(hZgk.2 2 (by simp)).1
 have r3:=(hZgk.2 3 (by simp)).1
 have r4:=(hZgk.2 4 (by simp)).1
 have f0:=(hZgk.2 0 (by simp)).2
 have f1:=(hZgk.2 1 (by simp)).2
 have f2:=(hZgk.2 2 (by simp)).2
 have f3:=(hZgk.2 3 (by simp)).2
 have f4:=(hZgk.2 4 (by simp)).2
 simp only [List.getD,List.getElem?_cons_zero,List.getElem?_cons_succ,Option.getD_some] at r0 r1 r2 r3 r4
 have lZgk:=hZgk.1
 have hkgk:w0.heap.size≤gk:=by omega
 go_simp
 obtain ⟨XSgk,eS⟩:∃ X,X=(((((Xgk.setCell (zA gk 0) (zI (V.W m 0))).setCell (zA gk 1) (zI (V.W m 1))).setCell (zA gk 2) (zI (V.W m 2))).setCell (zA gk 3) (zI (V.W m 3))).setCell (zA gk 4) (zI (V.W m 4))):=⟨_,rfl⟩
 rw [←eS]
 have hPgk:Bk XSgk gk (zF (V.W m)):=by rw [eS];exact jM (l:=(zF (V.W m))) hZgk rfl
 have hzgk1:XSgk.heap.size≤Xgk.heap.size:=by rw [eS];exact Hl (size_put gk (zF (V.W m)) 0 Xgk)
 have hzgk2:Xgk.heap.size≤XSgk.heap.size:=by rw [eS];exact Hl (size_put gk (zF (V.W m)) 0 Xgk).symm
 have hmgk:∀ b,¬ b=gk→Sm Xgk XSgk b:=by rw [eS];exact fun b hb=>jQ hb (zF (V.W m)) 0 Xgk
 have hBgk:Below (w0.heap.size) w0 XSgk:=by rw [eS];exact gu hkgk (zF (V.W m)) 0 af
 clear eS r0 f0 r1 f1 r2 f2 r3 f3 r4 f4
 refine hK.out _ _ hBgk (fun ai=>?_)
 clear hK K af
 have af:=ai
 clear ai
 try simp only [aT]
 refine Hy (by kernel_rfl) ?_ _
 clear yP0 yP1 yP2 yP3 yP4 hlP c0 c1 c2 c8 lsw
 clear HL
 have y_XSgk:w0.heap.size≤XSgk.heap.size:=af.size
 have B4:=hid (ah B1.out af)
 have P4:=hid (P2.out.below af)
 have S4:=hid (S3.out.below af)
 clear B1 P2 S3
 have G5:Hid (Bk XSgk gk (zF (V.W m))):=hPgk
 have HBX0:Hid (Below w0.heap.size w0 XSgk):=af
 have zX:=af.size
 have hk0:w0.heap.size≤gk:=by omega
 clear af hPgk
 obtain ⟨yP0,yP1,yP2,yP3,yP4⟩:=P4.out.a5
 have hlP:w.heap.size<XSgk.heap.size:=P4.out.1
 obtain ⟨yG0,yG1,yG2,yG3,yG4⟩:=G5.out.a5
 have hlG:gk<XSgk.heap.size:=G5.out.1
 have c0:XSgk.cell? (zA s 0)=some (zI c):=S4.out.at.1.1
 have c1:XSgk.cell? (zA s 1)=some (zI d):=S4.out.at.1.2.1
 have c2:XSgk.cell? (zA s 2)=some (zI V.c):=S4.out.at.1.2.2.1
 have c8:XSgk.cell? (zA s 8)=some (.map (some b)):=S4.out.at.1.2.2.2.2.2
 have lsw:s<XSgk.heap.size:=S4.out.at.2.1
 go_wp2_with fail
 refine (uw (V.W m 1) (q:Int) _ (by omega) (by omega)).mono ?_
 rintro e wn ⟨rfl,hwn⟩
 obtain rfl:XSgk=wn:=hwn.symm
 go_wp2_with fail
 refine (lm c d (V.W m 1+bn (q:Int)) _).mono ?_
 rintro e w1 ⟨rfl,hb1⟩
 clear yP0 yP1 yP2 yP3 yP4 hlP yG0 yG1 yG2 yG3 yG4 hlG c0 c1 c2 c8 lsw
 have y_w1:XSgk.heap.size≤w1.heap.size:=hb1.size
 have B6:=hid (ah B4.out hb1)
 have P6:=hid (P4.out.below hb1)
 have S6:=hid (S4.out.below hb1)
 have G6:=hid (G5.out.below hb1)
 clear B4 P4 S4 G5
 have HBX:Hid (Below w0.heap.size w0 w1):=HBX0.out.trans (hb1.mono (by omega))
 have z1:=hb1.size
 clear hb1
 obtain ⟨yP0,yP1,yP2,yP3,yP4⟩:=P6.out.a5
 have hlP:w.heap.size<w1.heap.size:=P6.out.1
 obtain ⟨yG0,yG1,yG2,yG3,yG4⟩:=G6.out.a5
 have hlG:gk<w1.heap.size:=G6.out.1
 have c0:w1.cell? (zA s 0)=some (zI c):=S6.out.at.1.1
 have c1:w1.cell? (zA s 1)=some (zI d):=S6.out.at.1.2.1
 have c2:w1.cell? (zA s 2)=some (zI V.c):=S6.out.at.1.2.2.1
 have c8:w1.cell? (zA s 8)=some (.map (some b)):=S6.out.at.1.2.2.2.2.2
 have lsw:s<w1.heap.size:=S6.out.at.2.1
 obtain ⟨ct,ect⟩:∃ ct,ct=(aQ c d (V.W m 1+bn (q:Int))):=⟨_,rfl⟩
 have ECT:Hid (ct=(aQ c d (V.W m 1+bn (q:Int)))):=ect
 rw [←ect]
 clear ect
 by_cases h1:ct=-1
 ·have e1:(ct == -1)=true:=by simp [h1]
  go_wp2
  go_ret
  have er:gU c d V m (q:Int)=(V,2):=by simp only [gU];rw [←ECT.out];rw [if_pos (.inl h1)]
  exact ⟨by rw [er];rfl,by rw [er];exact (S6.out.below (by repeat (first | exact Hr _ _ | apply Below.drew))).mono (by omega),by repeat (first | exact (Bl.up B6.out (by omega)) | apply Bl.drew),fun _=>by repeat (first | exact B6.out | apply Below.drew)⟩
 ·have e1:(ct == -1)=false:=by simp [h1]
  by_cases h2:ct=V.c
  ·have e2:(ct != V.c)=false:=by simp [h2]
   have hBy:Below w0.heap.size w0 ((w1.setCell (zA gk 1) (zI (V.W m 1+bn (q:Int)))).drew):=(HBX.out.setCell (by show w0.heap.size≤gk;omega) _).drew
   obtain ⟨wm,hr1,hS2,hB3,hG3⟩:=(HS0.out.below hBy).put hr hm HZ.out hwf (za (V.W m) (V.W m 1+bn (q:Int))) HZ.out
   have hr2:(Instr.mapUpdate 131 (.map (some b)) (zI (V.W m 0)) (.agg #[zI (V.W m 0),zI (V.W m 1+bn (q:Int)),zI (V.W m 2),zI (V.W m 3),zI (V.W m 4)])).run Tryz.prog ((w1.setCell (zA gk 1) (zI (V.W m 1+bn (q:Int)))).drew)=.ok () wm:=by rw [HZ.out];rw [show za (V.W m) (V.W m 1+bn (q:Int))=za (V.W m) (V.W m 1+bn (q:Int)) from rfl] at hr1;simpa [wv,za,HZ.out] using hr1
   have HS2:Hid (Sv wm c d s b lo (V.setW m (za (V.W m) (V.W m 1+bn (q:Int)))) (n+1)):=hS2
   have HB3:Hid (Bl b lo w wm):=((Bl.up HB0.out (by omega)).trans (Bl.up hBy (by omega))).trans hB3
   clear hS2 hB3 hr1 hG3 hBy
   have n1:¬ gk=s:=by omega
   have n2:¬ s=gk:=by omega
   obtain ⟨f0,f1,f2,f3,f4⟩:=G6.out.f5
   go_wp2
   go_region
   go_wp2
   go_ret
   have er:gU c d V m (q:Int)=(V.setW m (za (V.W m) (V.W m 1+bn (q:Int))),1):=by simp only [gU];rw [←ECT.out];rw [if_neg (fun h=>by rcases h with h | h;exact h1 h;exact h.1 h2),if_pos h2]
   exact ⟨by rw [er];rfl,by rw [er];exact HS2.out.mono (by omega),HB3.out,fun e=>by rw [er] at e;exact absurd rfl e⟩
  ·have e2:(ct != V.c)=true:=by simp [h2]
   go_wp2_with fail
   refine (pF c d s b lo q V n hq _ S6.out).mono ?_
   rintro e wc ⟨rfl,hwc⟩
   obtain rfl:w1=wc:=hwc.symm
   by_cases hsend:V.X q<5000
   ·have hd:decide (V.X q<5000)=true:=by simp [hsend]
    rw [hd]
    clear hd
    have hBy:Below w0.heap.size w0 ((w1.setCell (zA gk 1) (zI (V.W m 1+bn (q:Int)))).drew):=(HBX.out.setCell (by show w0.heap.size≤gk;omega) _).drew
    obtain ⟨wm,hr1,hS2,hB3,hG3⟩:=(HS0.out.below hBy).del hr hm HZ.out hwf 0
    have hr2:(Builtin.delete_ #[131,3] 0 #[.map (some b),zI (V.W m 0)]).run Tryz.prog ((w1.setCell (zA gk 1) (zI (V.W m 1+bn (q:Int)))).drew)=.ok (.tuple #[]) wm:=by rw [HZ.out];exact hr1
    have HS2:Hid (Sv wm c d s b lo (V.outW m) n):=hS2
    have HB3:Hid (Bl b lo w wm):=((Bl.up HB0.out (by omega)).trans (Bl.up hBy (by omega))).trans hB3
    have zm:w1.heap.size≤wm.heap.size:=by have:=hG3.size;have e:(((w1.setCell (zA gk 1) (zI (V.W m 1+bn (q:Int)))).drew)).heap.size=w1.heap.size:=ay;omega
    have PM:Hid (Bk wm w.heap.size [zI o,zI sq,zI k,zI (q:Int),zI nn]):=((P6.out.far (g:=gk) (j:=1) (v:=zI (V.W m 1+bn (q:Int))) (by omega)).below ((Hr _ _).drew)).sm hG3.size (bG hG3 (by show w.heap.size<(w1.setCell _ _).heap.size;rw [ay];omega) (fun e=>by injection e;omega))
    have GM:Hid (Bk wm gk [zI (V.W m 0),zI (V.W m 1+bn (q:Int)),zI (V.W m 2),zI (V.W m 3),zI (V.W m 4)]):=((G6.out.set (j:=1) (v:=zI (V.W m 1+bn (q:Int))) (by simp)).below ((Hr _ _).drew)).sm hG3.size (bG hG3 (by show gk<(w1.setCell _ _).heap.size;rw [ay];exact G6.out.1) (fun e=>by injection e;omega))
    clear hS2 hB3 hr1 hG3 hBy
    have n1:¬ gk=s:=by omega
    have n2:¬ s=gk:=by omega
    obtain ⟨f0,f1,f2,f3,f4⟩:=G6.out.f5
    go_wp2
    go_region
    clear yP0 yP1 yP2 yP3 yP4 hlP yG0 yG1 yG2 yG3 yG4 hlG c0 c1 c2 c8 lsw
    clear hr2 f0 f1 f2 f3 f4
    obtain ⟨p0,p1,p2,p3,p4⟩:=PM.out.a5
    obtain ⟨g0,g1,g2,g3,g4⟩:=GM.out.a5
    have lp:=PM.out.1
    have lg:=GM.out.1
    go_wp2_with fail
    refine (uI c d s b lo q (V.outW m) n (pw (V.X q) (za (V.W m) (V.W m 1+bn (q:Int)))) 0 hq hqO hN hX rfl _ HS2.out).mono ?_
    rintro e w3 ⟨rfl,hS3,hB3⟩
    go_wp2
    go_ret
    have er:gU c d V m (q:Int)=((V.outW m).send q (pw (V.X q) (za (V.W m) (V.W m 1+bn (q:Int)))),1):=by simp only [gU];rw [←ECT.out];rw [if_neg (fun h=>by rcases h with h | h;exact h1 h;exact h.2 hsend),if_neg h2];rfl
    exact ⟨by rw [er];rfl,by rw [er];exact hS3.mono (by omega),HB3.out.trans hB3,fun e=>by rw [er] at e;exact absurd rfl e⟩
   ·have hd:decide (V.X q<5000)=false:=by simp [hsend]
    rw [hd]
    clear hd
    go_wp2
    go_ret
    have er:gU c d V m (q:Int)=(V,2):=by simp only [gU];rw [←ECT.out];rw [if_pos (.inr ⟨h2,by show ¬ V.X q<5000;omega⟩)]
    exact ⟨by rw [er];rfl,by rw [er];exact (S6.out.below (by repeat (first | exact Hr _ _ | apply Below.drew))).mono (by omega),by repeat (first | exact (Bl.up B6.out (by omega)) | apply Bl.drew),fun _=>by repeat (first | exact B6.out | apply Below.drew)⟩
