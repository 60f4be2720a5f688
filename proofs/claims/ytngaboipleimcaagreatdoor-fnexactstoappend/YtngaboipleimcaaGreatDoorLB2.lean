/- a record is done at a scene; conditions: the scene lies in memory. -/
import Derived.Test.YtngaboipleimcaaGreatDoorLB1
set_option linter.unusedVariables false
set_option maxHeartbeats 4000000
set_option maxRecDepth 20000
namespace Go.Proofs.YtngaboipleimcaaGreatDoor
open Go.RowKit Go.Deep
theorem nV {c d:Int} {R:Nat→Int} (h:iD c d R=true):(R 0=1∧iP (R 1) (R 2) (R 3) (R 4) (R 5)=true)∨(R 0=2∧inB (R 6) 0 1=true∧jf c d (R 7) (R 8) (R 9) (R 10) (R 11) (R 12) (R 13) (R 14)=true)∨(R 0=3∧inB (R 6) 0 1=true∧inB (R 15) 1 5000=true):=by
 unfold iD iE at h
 split at h
 ·rename_i e
  simp only [Bool.and_eq_true] at h
  exact .inl ⟨e,h.2.1⟩
 ·split at h
  ·rename_i e
   simp only [Bool.and_eq_true] at h
   exact .inr (.inl ⟨e,h.2.1,h.2.2.1⟩)
  ·split at h
   ·rename_i e
    simp only [Bool.and_eq_true] at h
    exact .inr (.inr ⟨e,h.2.2.1,h.2.2.2.2⟩)
   ·cases h
theorem lF {z:Int} (h:inB z 0 1=true):∃ q:Nat,z=(q:Int)∧q<2:=by
 rw [aY] at h
 have:z=0∨z=1:=by omega
 rcases this with rfl | rfl
 ·exact ⟨0,rfl,by omega⟩
 ·exact ⟨1,rfl,by omega⟩
theorem wU (c d sd pn pk pi pa pm ps pl pc:Int) (s b:Nat) (lo:Lo) (V:CV) (n:Nat) (h1:bD c d V=true) (hp:jf c d pn pk pi pa pm ps pl pc=true) (hs:inB sd 0 1=true) (hwf:(Lit.int .i64 pi).wf=true) (w:World) (h:Sv w c d s b lo V n) :
 Hz 99 #[zP s 0,zI sd,.agg #[zI pn,zI pk,zI pi,zI pa,zI pm,zI ps,zI pl,zI pc]] w fun e w'=>e=.returned (.bool (takeB c d V (dA V.W V.nW) sd.toNat pn pk pi pa pc))∧Sv w' c d s b lo (CV.inn c d V sd.toNat pn pk pi pa pm ps pl pc) (n+1)∧Bl b lo w w':=by
 have hK1:=h.kk
 obtain ⟨q,rfl,hq⟩:=lF hs
 exact A8 c d pn pk pi pa pm ps pl pc q s b lo V n h1 (pM hp).1 hq (pM hp).2 hwf w h
theorem xO (c d sd:Int) (s b:Nat) (lo:Lo) (V:CV) (n:Nat) (z:Int) (h1:bD c d V=true) (hs:inB sd 0 1=true) (w:World) (h:Sv w c d s b lo V n) :
 Hz 100 #[zP s 0,zI sd,zI z] w fun e w'=>e=.returned (.bool (jk V sd.toNat z))∧Sv w' c d s b lo (V.after sd.toNat z) n∧Bl b lo w w':=by
 have hK1:=h.kk
 obtain ⟨q,rfl,hq⟩:=lF hs
 exact Dp c d s b lo V n q z h1 hq w h
theorem zL (c d:Int) (R:Nat→Int) (s b:Nat) (lo:Lo) (V:CV) (n:Nat) (hlog:iD c d R=false) (w:World) (h:Sv w c d s b lo V n) :
 Hz 51 #[zP s 0,rv R] w fun e w'=>e=.returned (.tuple #[zI (aF c d V R).2.1,.bool (aF c d V R).2.2])∧Sv w' c d s b lo (aF c d V R).1 (n+5)∧Bl b lo w w':=by
 have hK1:=h.kk
 unfold rv
 obtain ⟨_,ls,ll,lb,lbw,nsb,_⟩:=h.at
 have HL:=hid hlog
 clear hlog
 go_enter Tryz.func51,Tryz.ntmps51
 go_upto_region 1 with fail
 obtain ⟨w0,e0,hb0,X0,-⟩:=bx1 w (zR R) 52
 rw [←e0]
 clear e0
 have z0:=X0.1
 have B1:Hid (Below w.heap.size w w0):=hb0
 have P2:Hid (Bk w0 w.heap.size (zR R)):=X0
 have S3:Hid (Sv w0 c d s b lo V n):=h.below hb0
 clear X0 hb0 h
 obtain ⟨yP0,yP1,yP2,yP3,yP4,yP5,yP6,yP7,yP8,yP9,yP10,yP11,yP12,yP13,yP14,yP15⟩:=P2.out.a16
 have hlP:w.heap.size<w0.heap.size:=P2.out.1
 have c0:w0.cell? (zA s 0)=some (zI c):=S3.out.at.1.1
 have c1:w0.cell? (zA s 1)=some (zI d):=S3.out.at.1.2.1
 have lsw:s<w0.heap.size:=S3.out.at.2.1
 refine Hu (S:=fun w'=>(∀ b o,b<w0.heap.size→w'.cell? (zA b o)=w0.cell? (zA b o))∧w0.heap.size≤w'.heap.size) (by kernel_rfl) ⟨fun _ _ _=>rfl,Ho _⟩ ?_
 intro af
 refine aA 0 (zP s 0) rfl ?_
 refine aA 1 (zP s 0) rfl ?_
 refine aA 2 (zP s 0) rfl ?_
 refine aA 3 (.agg #[zI c,zI d]) rfl ?_
 refine aA 4 (.agg (zR R).toArray) rfl ?_
 refine di 5 rfl fun K hK=>?_
 go_simp
 go_wp2_with fail
 refine (iW c d (R 0) (R 1) (R 2) (R 3) (R 4) (R 5) (R 6) (R 7) (R 8) (R 9) (R 10) (R 11) (R 12) (R 13) (R 14) (R 15) _).mono ?_
 rintro e w1 ⟨rfl,hb1⟩
 rw [show iE c d (R 0) (R 1) (R 2) (R 3) (R 4) (R 5) (R 6) (R 7) (R 8) (R 9) (R 10) (R 11) (R 12) (R 13) (R 14) (R 15)=false from HL.out]
 refine hK.out _ _ (bM (by assumption) hb1) (fun ai=>?_)
 clear hK K af
 have af:=ai
 clear ai
 try simp only [aT]
 refine aA 6 (.bool true) rfl ?_
 refine Hy (by kernel_rfl) ?_ _
 clear af
 clear yP0 yP1 yP2 yP3 yP4 yP5 yP6 yP7 yP8 yP9 yP10 yP11 yP12 yP13 yP14 yP15 hlP c0 c1 lsw
 have hx1:=ah ((Hr w0.heap.size w0).drew) hb1
 clear hb1
 have y_w1:w0.heap.size≤w1.heap.size:=hx1.size
 have B4:=hid (ah B1.out hx1)
 have P4:=hid (P2.out.below hx1)
 have S4:=hid (S3.out.below hx1)
 clear B1 P2 S3
 have z1:w0.heap.size≤w1.heap.size:=hx1.size
 clear hx1
 have ER:Hid (aF c d V R=(V,0,false)):=by unfold Hid aF;rw [if_pos HL.out]
 go_wp2
 refine Hw (v:=.tuple #[zI 0,.bool false]) (by simp [results,Tryz.results51,go_sem]) rfl ?_
 exact ⟨by rw [ER.out],by rw [ER.out];exact S4.out.mono (by omega),Bl.up B4.out (by omega)⟩
theorem Jq (c d:Int) (R:Nat→Int) (s b:Nat) (lo:Lo) (V:CV) (n:Nat) (hV:bD c d V=true) (hwR:∀ j,j<16→(Lit.int .i64 (R j)).wf=true) (hlog:iD c d R=true) (hlo:0<lo.l) (w:World) (hg0:w.cell? (zA 0 0)=some (.iface 226 (.agg #[zP 1 199]))) (h:Sv w c d s b lo V n) :
 Hz 51 #[zP s 0,rv R] w fun e w'=>e=.returned (.tuple #[zI (aF c d V R).2.1,.bool (aF c d V R).2.2])∧Sv w' c d s b lo (aF c d V R).1 (n+5)∧Bl b lo w w':=by
 have hK1:=h.kk
 have HG:=hid hg0
 clear hg0
 unfold rv
 obtain ⟨_,ls,ll,lb,lbw,nsb,_⟩:=h.at
 have HL:=hid hlog
 clear hlog
 go_enter Tryz.func51,Tryz.ntmps51
 go_upto_region 1 with fail
 obtain ⟨w0,e0,hb0,X0,-⟩:=bx1 w (zR R) 52
 rw [←e0]
 clear e0
 have z0:=X0.1
 have B1:Hid (Below w.heap.size w w0):=hb0
 have P2:Hid (Bk w0 w.heap.size (zR R)):=X0
 have S3:Hid (Sv w0 c d s b lo V n):=h.below hb0
 clear X0 hb0 h
 obtain ⟨yP0,yP1,yP2,yP3,yP4,yP5,yP6,yP7,yP8,yP9,yP10,yP11,yP12,yP13,yP14,yP15⟩:=P2.out.a16
 have hlP:w.heap.size<w0.heap.size:=P2.out.1
 have c0:w0.cell? (zA s 0)=some (zI c):=S3.out.at.1.1
 have c1:w0.cell? (zA s 1)=some (zI d):=S3.out.at.1.2.1
 have lsw:s<w0.heap.size:=S3.out.at.2.1
 refine Hu (S:=fun w'=>(∀ b o,b<w0.heap.size→w'.cell? (zA b o)=w0.cell? (zA b o))∧w0.heap.size≤w'.heap.size) (by kernel_rfl) ⟨fun _ _ _=>rfl,Ho _⟩ ?_
 intro af
 refine aA 0 (zP s 0) rfl ?_
 refine aA 1 (zP s 0) rfl ?_
 refine aA 2 (zP s 0) rfl ?_
 refine aA 3 (.agg #[zI c,zI d]) rfl ?_
 refine aA 4 (.agg (zR R).toArray) rfl ?_
 refine di 5 rfl fun K hK=>?_
 go_simp
 go_wp2_with fail
 refine (iW c d (R 0) (R 1) (R 2) (R 3) (R 4) (R 5) (R 6) (R 7) (R 8) (R 9) (R 10) (R 11) (R 12) (R 13) (R 14) (R 15) _).mono ?_
 rintro e w1 ⟨rfl,hb1⟩
 rw [show iE c d (R 0) (R 1) (R 2) (R 3) (R 4) (R 5) (R 6) (R 7) (R 8) (R 9) (R 10) (R 11) (R 12) (R 13) (R 14) (R 15)=true from HL.out]
 refine hK.out _ _ (bM (by assumption) hb1) (fun ai=>?_)
 clear hK K af
 have af:=ai
 clear ai
 try simp only [aT]
 refine aA 6 (.bool false) rfl ?_
 refine Hy (by kernel_rfl) ?_ _
 clear af
 clear yP0 yP1 yP2 yP3 yP4 yP5 yP6 yP7 yP8 yP9 yP10 yP11 yP12 yP13 yP14 yP15 hlP c0 c1 lsw
 have hx1:=ah ((Hr w0.heap.size w0).drew) hb1
 clear hb1
 have y_w1:w0.heap.size≤w1.heap.size:=hx1.size
 have B4:=hid (ah B1.out hx1)
 have P4:=hid (P2.out.below hx1)
 have S4:=hid (S3.out.below hx1)
 clear B1 P2 S3
 have z1:w0.heap.size≤w1.heap.size:=hx1.size
 clear hx1
 rcases nV HL.out with ⟨hk,hO⟩ | ⟨hk,hs,hp⟩ | ⟨hk,hs,hn3⟩
 case inl=>
  obtain ⟨yP0,yP1,yP2,yP3,yP4,yP5,yP6,yP7,yP8,yP9,yP10,yP11,yP12,yP13,yP14,yP15⟩:=P4.out.a16
  have hlP:w.heap.size<w1.heap.size:=P4.out.1
  go_wp2_with fail
  clear yP0 yP1 yP2 yP3 yP4 yP5 yP6 yP7 yP8 yP9 yP10 yP11 yP12 yP13 yP14 yP15 hlP
  refine (rD c d (R 1) (R 2) (R 3) (R 4) (R 5) s b lo V n (fB hV) (hwR 1 (by omega)) _ S4.out).mono ?_
  rintro e w2 ⟨rfl,hb2⟩
  by_cases hf:iY V (R 1) (R 2)=true
  case neg=>
   have HF:Hid (iY V (R 1) (R 2)=false):=by unfold Hid;cases h:iY V (R 1) (R 2);rfl;exact absurd h hf
   clear hf
   rw [HF.out]
   have y_w2:w1.heap.size≤w2.heap.size:=hb2.size
   have B5:=hid (ah B4.out hb2)
   have P5:=hid (P4.out.below hb2)
   have S5:=hid (S4.out.below hb2)
   clear B4 P4 S4
   clear hb2
   obtain ⟨yP0,yP1,yP2,yP3,yP4,yP5,yP6,yP7,yP8,yP9,yP10,yP11,yP12,yP13,yP14,yP15⟩:=P5.out.a16
   have hlP:w.heap.size<w2.heap.size:=P5.out.1
   have ER:Hid (aF c d V R=(V,0,false)):=by unfold Hid aF;rw [if_neg (show ¬ iD c d R=false by rw [HL.out];simp)];rw [if_pos hk,if_neg (by rw [HF.out];simp)]
   go_wp2
   refine Hw (v:=.tuple #[zI 0,.bool false]) (by simp [results,Tryz.results51,go_sem]) rfl ?_
   exact ⟨by rw [ER.out],by rw [ER.out];exact S5.out.mono (by omega),Bl.up B5.out (by omega)⟩
  have HF:=hid hf
  clear hf
  rw [HF.out]
  have y_w2:w1.heap.size≤w2.heap.size:=hb2.size
  have B5:=hid (ah B4.out hb2)
  have P5:=hid (P4.out.below hb2)
  have S5:=hid (S4.out.below hb2)
  clear B4 P4 S4
  have z2:w1.heap.size≤w2.heap.size:=hb2.size
  clear hb2
  obtain ⟨yP0,yP1,yP2,yP3,yP4,yP5,yP6,yP7,yP8,yP9,yP10,yP11,yP12,yP13,yP14,yP15⟩:=P5.out.a16
  have hlP:w.heap.size<w2.heap.size:=P5.out.1
  go_wp2_with fail
  clear yP0 yP1 yP2 yP3 yP4 yP5 yP6 yP7 yP8 yP9 yP10 yP11 yP12 yP13 yP14 yP15 hlP
  refine (Eo c d (R 1) (R 2) (R 3) (R 4) (R 5) s b lo V n hV hO (hwR 1 (by omega)) (hwR 4 (by omega)) _ ((B5.out.cell (p:=(zA 0 0)) (show (0:Nat)<w.heap.size by omega)).trans HG.out) hlo S5.out).mono ?_
  rintro e w3 ⟨rfl,hS3,hB3⟩
  have ER:Hid (aF c d V R=((qJ c d V (R 1) (R 2) (R 3) (R 4) (R 5)).1,(qJ c d V (R 1) (R 2) (R 3) (R 4) (R 5)).2,true)):=by unfold Hid aF;rw [if_neg (show ¬ iD c d R=false by rw [HL.out];simp)];rw [if_pos hk,if_pos HF.out]
  have HS3:=hid hS3
  have HB3:=hid ((Bl.up B5.out (by omega)).trans hB3)
  obtain ⟨zc,hzc⟩:∃ z,z=(qJ c d V (R 1) (R 2) (R 3) (R 4) (R 5)).2:=⟨_,rfl⟩
  rw [←hzc]
  have HZC:=hid hzc
  clear hS3 hB3 hzc
  go_wp2
  refine Hw (v:=.tuple #[zI zc,.bool true]) (by simp [results,Tryz.results51,go_sem]) rfl ?_
  exact ⟨by rw [ER.out,HZC.out],by rw [ER.out];exact HS3.out,HB3.out⟩
 all_goals
  obtain ⟨yP0,yP1,yP2,yP3,yP4,yP5,yP6,yP7,yP8,yP9,yP10,yP11,yP12,yP13,yP14,yP15⟩:=P4.out.a16
  have hlP:w.heap.size<w1.heap.size:=P4.out.1
  have hk1:¬ R 0=1:=by omega
  go_wp2_with fail
  clear yP0 yP1 yP2 yP3 yP4 yP5 yP6 yP7 yP8 yP9 yP10 yP11 yP12 yP13 yP14 yP15 hlP
  refine (jC c d (R 6) s b lo V n _ S4.out).mono ?_
  rintro e w2 ⟨rfl,hb2⟩
  by_cases hno:bf c d V.c (R 6)=-1
  case pos=>
   have HN:=hid hno
   clear hno
   rw [show (!(bf c d V.c (R 6) == -1))=false by rw [HN.out];rfl]
   have y_w2:w1.heap.size≤w2.heap.size:=hb2.size
   have B5:=hid (ah B4.out hb2)
   have P5:=hid (P4.out.below hb2)
   have S5:=hid (S4.out.below hb2)
   clear B4 P4 S4
   clear hb2
   obtain ⟨yP0,yP1,yP2,yP3,yP4,yP5,yP6,yP7,yP8,yP9,yP10,yP11,yP12,yP13,yP14,yP15⟩:=P5.out.a16
   have hlP:w.heap.size<w2.heap.size:=P5.out.1
   have ER:Hid (aF c d V R=(V,0,false)):=by unfold Hid aF;rw [if_neg (show ¬ iD c d R=false by rw [HL.out];simp)];rw [if_neg (show ¬ R 0=1 by omega),if_pos HN.out]
   go_wp2
   refine Hw (v:=.tuple #[zI 0,.bool false]) (by simp [results,Tryz.results51,go_sem]) rfl ?_
   exact ⟨by rw [ER.out],by rw [ER.out];exact S5.out.mono (by omega),Bl.up B5.out (by omega)⟩
  have HN:=hid hno
  clear hno
  rw [show (!(bf c d V.c (R 6) == -1))=true by simp [HN.out]]
  have y_w2:w1.heap.size≤w2.heap.size:=hb2.size
  have B5:=hid (ah B4.out hb2)
  have P5:=hid (P4.out.below hb2)
  have S5:=hid (S4.out.below hb2)
  clear B4 P4 S4
  have z2:w1.heap.size≤w2.heap.size:=hb2.size
  clear hb2
  obtain ⟨yP0,yP1,yP2,yP3,yP4,yP5,yP6,yP7,yP8,yP9,yP10,yP11,yP12,yP13,yP14,yP15⟩:=P5.out.a16
  have hlP:w.heap.size<w2.heap.size:=P5.out.1
  go_wp2_with fail
  clear yP0 yP1 yP2 yP3 yP4 yP5 yP6 yP7 yP8 yP9 yP10 yP11 yP12 yP13 yP14 yP15 hlP
  first | refine (wU c d (R 6) (R 7) (R 8) (R 9) (R 10) (R 11) (R 12) (R 13) (R 14) s b lo V n hV hp hs (hwR 9 (by omega)) _ S5.out).mono ?_ | refine (xO c d (R 6) s b lo V n (R 15) hV hs _ S5.out).mono ?_
  rintro e w3 ⟨rfl,hS3,hB3⟩
  obtain ⟨U,tb,eU,et⟩:∃ U b,Hid (U=(if R 0=2 then CV.inn c d V (R 6).toNat (R 7) (R 8) (R 9) (R 10) (R 11) (R 12) (R 13) (R 14) else V.after (R 6).toNat (R 15)))∧Hid (b=(if R 0=2 then takeB c d V (dA V.W V.nW) (R 6).toNat (R 7) (R 8) (R 9) (R 10) (R 14) else jk V (R 6).toNat (R 15))):=⟨_,_,rfl,rfl⟩
  have EU:=eU
  have ET:=et
  first | (guard_hyp hp;rw [if_pos hk] at EU ET) | rw [if_neg (show ¬ R 0=2 by omega)] at EU ET
  rw [←ET.out]
  rw [←EU.out] at hS3
  clear eU et
  have ER:Hid (aF c d V R=(U,0,tb)):=by unfold Hid aF;rw [if_neg (show ¬ iD c d R=false by rw [HL.out];simp)];rw [if_neg (show ¬ R 0=1 by omega),if_neg HN.out,EU.out,ET.out];first | (guard_hyp hp;rw [if_pos hk]) | rw [if_neg (show ¬ R 0=2 by omega)]
  have HS3:=hid (hS3.mono (show _≤n+5 by omega))
  have HB3:=hid ((Bl.up B5.out (by omega)).trans hB3)
  obtain ⟨zc,hzc⟩:∃ z,z=tb:=⟨_,rfl⟩
  rw [←hzc]
  have HZC:=hid hzc
  clear hS3 hB3 hzc
  go_wp2
  refine Hw (v:=.tuple #[zI 0,.bool zc]) (by simp [results,Tryz.results51,go_sem]) rfl ?_
  exact ⟨by rw [ER.out,HZC.out],by rw [ER.out];exact HS3.out,HB3.out⟩
theorem xu (c d:Int) (R:Nat→Int) (s b:Nat) (lo:Lo) (V:CV) (n:Nat) (hV:bD c d V=true) (hwR:∀ j,j<16→(Lit.int .i64 (R j)).wf=true) (hlo:0<lo.l) (w:World) (hg0:w.cell? (zA 0 0)=some (.iface 226 (.agg #[zP 1 199]))) (h:Sv w c d s b lo V n) :
 Hz 51 #[zP s 0,rv R] w fun e w'=>e=.returned (.tuple #[zI (aF c d V R).2.1,.bool (aF c d V R).2.2])∧Sv w' c d s b lo (aF c d V R).1 (n+5)∧Bl b lo w w':=by
 cases hlog:iD c d R
 ·exact zL c d R s b lo V n hlog w h
 ·exact Jq c d R s b lo V n hV hwR hlog hlo w hg0 h
