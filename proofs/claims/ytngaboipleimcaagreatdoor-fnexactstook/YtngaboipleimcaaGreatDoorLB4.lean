/- l6Apply of the model, at a cell that is ok; conditions: the cell lies in memory of its own. -/
import Derived.Test.YtngaboipleimcaaGreatDoorLB2
import Derived.Test.YtngaboipleimcaaGreatDoorLB0
import Derived.Test.YtngaboipleimcaaGreatDoorLA2
import Derived.Test.YtngaboipleimcaaGreatDoorLA5
namespace Go.Proofs.YtngaboipleimcaaGreatDoor
open Go.RowKit Go.Deep
set_option linter.unusedVariables false
set_option maxRecDepth 20000
attribute [local go_sem ↓] load52_eq
theorem OwnC.wide {lo lo' hi hi':Nat} {w:World} {v:Value} {V:CV} (h:OwnC lo hi w v V) (h0:lo'≤lo) (h1:hi≤hi') (h2:hi'≤w.heap.size):OwnC lo' hi' w v V:=by
 obtain ⟨vW,vO,vX,vI,gW,gO,gX,gI,sl,xs,e,rW,rO,rX,rI,hd,hx1,hx2⟩:=h
 have sm:∀ g,Sm w w g:=fun g=>Sm.refl w g
 refine ⟨vW,vO,vX,vI,gW,gO,gX,gI,sl,xs,e,rW.go h0 h1 h2 (fun _ _ _=>sm _),?_,rX.go h0 h1 h2 (fun _ _ _=>sm _),rI.go h0 h1 h2 (fun _ _ _=>sm _),hd,hx1,hx2⟩
 rcases rO with r | ⟨co,e1,l1,l2,l3,hc⟩
 ·exact .inl r
 ·exact .inr ⟨co,e1,by omega,by omega,h2,fun k hk=>⟨(hc k hk).1,(hc k hk).2.go h0 h1 h2 (fun _ _ _=>sm _)⟩⟩
theorem fresh_fnd {V:CV} {o s:Int} {f:Nat→Int} {tt:Bool} (hr:Rise V.W V.nW) (h:Fnd V.W V.nW o f tt):(tt && decide (f 3<s))=freshB V o s:=by
 unfold freshB
 rcases h with ⟨hno,rfl,_⟩ | ⟨m,hm,rfl,hf⟩
 ·rw [idx_none V.nW hno];rfl
 ·rw [idx_some V.nW hr hm.1 hm.2.1,hf 3];rfl
theorem fresh_m (o0 o1 o2 o3 o4:Int) (V:CV) (v:Value) (lo:Nat) (hr:Rise V.W V.nW) (hs0:V.short 1048576) (w:World) (h:CellG w v V) :
 Calls Tryz.prog 79 #[v,.agg #[zI o0,zI o1,zI o2,zI o3,zI o4]] w fun e w'=>e=.returned (.bool (freshB V o0 o1))∧Below w.heap.size w w':=by
 obtain ⟨aW9,bO,bX,bI,cW,cO,cX,cI,q2,q3,q4,rfl,g1,g2,g3,g4⟩:=h
 obtain ⟨f,tt,hF⟩:=fnd_some V.W V.nW o0
 refine (l5fresh o0 o1 o2 o3 o4 V aW9 cW bO cO bX cX bI cI hs0 w g1 f tt hF).mono ?_
 rintro e w' ⟨rfl,hb⟩
 exact ⟨by rw [fresh_fnd hr hF],hb⟩
theorem l5In_side (c d sd pn pk pi pa pm ps pl pc:Int) (v:Value) (V:CV) (lo:Nat) (h1:cllB c d V=true) (hp:pclB c d pn pk pi pa pm ps pl pc=true) (hs:inB sd 0 1=true) (hs0:V.short 1048576) (w:World) (h:CellG w v V) :
 Calls Tryz.prog 81 #[.agg #[zI c,zI d],v,zI sd,.agg #[zI pn,zI pk,zI pi,zI pa,zI pm,zI ps,zI pl,zI pc]] w fun e w'=>(∃ u,e=.returned (.tuple #[u,.bool (takeB c d V (mapW V.W V.nW) sd.toNat pn pk pi pa pc)])∧OwnC w.heap.size w'.heap.size w' u (CV.inn c d V sd.toNat pn pk pi pa pm ps pl pc))∧Below w.heap.size w w':=by
 obtain ⟨q,rfl,hq⟩:=side_nat hs
 obtain ⟨_,_,n3⟩:=cllB_two h1
 have hin:=cllB_in h1
 exact l5In_spec c d pn pk pi pa pm ps pl pc v V lo q (pcl_kind hp).1 h1 hs0 (by have:=cllB_nine h1;omega) (by omega) (hin.2 q hq) hin.1 (pcl_kind hp).2 w h
theorem cllB_outs {c d:Int} {V:CV} (h:cllB c d V=true) (q:Nat) (hq:q<2):∀ k,k<V.N q→V.O q k 0=V.X q - V.N q+k:=by
 have hl:P8.listP c d (V.X q) (V.N q) (V.O q)=true:=by
  simp only [cllB,sideK,Bool.and_eq_true] at h
  have:q=0∨q=1:=by omega
  rcases this with rfl | rfl
  ·exact h.2.2.2.2.2.2.2.1.1
  ·exact h.2.2.2.2.2.2.2.2.1
 exact (listP_at hl).2
theorem l5Ack_side (c d sd z:Int) (v:Value) (V:CV) (lo:Nat) (h1:cllB c d V=true) (hs:inB sd 0 1=true) (hs0:V.short 1048576) (w:World) (h:CellG w v V) :
 Calls Tryz.prog 82 #[v,zI sd,zI z] w fun e w'=>(∃ u,e=.returned (.tuple #[u,.bool (ackB V sd.toNat z)])∧OwnC w.heap.size w'.heap.size w' u (V.after sd.toNat z))∧Below w.heap.size w w':=by
 obtain ⟨q,rfl,hq⟩:=side_nat hs
 obtain ⟨n1,n2,n3⟩:=cllB_two h1
 have hx:=cllB_X h1 q hq
 refine (l5Ack_spec v V lo q z hs0 (by omega) (by omega) hx.1.1 hx.1.2 (cllB_outs h1 q hq) w h).mono ?_
 rintro e w' ⟨⟨u,tt,rfl,rfl,ho⟩,hb⟩
 exact ⟨⟨u,rfl,ho⟩,hb⟩
set_option maxHeartbeats 8000000 in
theorem l6_bad (c d:Int) (v:Value) (V:CV) (lo:Nat) (R:Nat→Int) (hs0:V.short 1048576) (hlog:logR c d R=false) (w:World) (h:CellG w v V) :
 Calls Tryz.prog 42 #[.agg #[zI c,zI d],v,rv R] w fun e w'=>(∃ u,e=.returned (.tuple #[u,zI (applyV c d V R).2.1,.bool (applyV c d V R).2.2])∧OwnC w.heap.size w'.heap.size w' u (applyV c d V R).1)∧Below w.heap.size w w':=by
 unfold rv
 have HL:=hid hlog
 clear hlog
 obtain ⟨aW9,bO,bX,bI,cW,cO,cX,cI,q2,q3,q4,rfl,g1,g2,g3,g4⟩:=h
 have CP:Hid (CellG w (.agg (zG V aW9 cW bO cO bX cX bI cI).toArray) V):=⟨aW9,bO,bX,bI,cW,cO,cX,cI,q2,q3,q4,rfl,g1,g2,g3,g4⟩
 have hs:=hid hs0
 clear g1 g2 g3 g4 hs0 q2 q3 q4
 go_enter Tryz.func42,Tryz.ntmps42
 go_wp2_with fail
 obtain ⟨w0,e0,hB0,hM0,hC0,hP0,hQ0,hz0⟩:=bx4 w [zI c,zI d] 44 (zG V aW9 cW bO cO bX cX bI cI) 41 (zR R) 52 zN 41
 rw [←e0]
 clear e0
 have B1:=hid hB0
 have M2:=hid hM0
 have C3:=hid hC0
 have P4:=hid hP0
 have Q5:=hid hQ0
 clear hB0 hM0 hC0 hP0 hQ0
 obtain ⟨yM0,yM1⟩:=M2.out.a2
 have hlM:(w.heap.size)<w0.heap.size:=M2.out.1
 obtain ⟨yC0,yC1,yC2,yC3,yC4,yC5⟩:=C3.out.a6
 have hlC:(w.heap.size+1)<w0.heap.size:=C3.out.1
 rw [load52_bk P4.out rfl]
 go_wp2_with fail
 clear yM0 yM1 hlM yC0 yC1 yC2 yC3 yC4 yC5 hlC
 refine (logOk_spec c d (R 0) (R 1) (R 2) (R 3) (R 4) (R 5) (R 6) (R 7) (R 8) (R 9) (R 10) (R 11) (R 12) (R 13) (R 14) (R 15) _).mono ?_
 rintro e w1 ⟨rfl,hb⟩
 rw [show logB c d (R 0) (R 1) (R 2) (R 3) (R 4) (R 5) (R 6) (R 7) (R 8) (R 9) (R 10) (R 11) (R 12) (R 13) (R 14) (R 15)=false from HL.out]
 have y_w1:w0.heap.size≤w1.heap.size:=hb.size
 have B6:=hid (bthen B1.out hb)
 have M6:=hid (M2.out.below hb)
 have C6:=hid (C3.out.below hb)
 have P6:=hid (P4.out.below hb)
 have Q6:=hid (Q5.out.below hb)
 clear B1 M2 C3 P4 Q5
 have zzw1:w0.heap.size≤w1.heap.size:=hb.size
 clear hb
 obtain ⟨yC0,yC1,yC2,yC3,yC4,yC5⟩:=C6.out.a6
 have hlC:(w.heap.size+1)<w1.heap.size:=C6.out.1
 go_wp2_with fail
 clear yC0 yC1 yC2 yC3 yC4 yC5 hlC
 refine (copyG_spec _ V hs.out _ (CP.out.below B6.out)).mono ?_
 rintro e w2 ⟨⟨u,rfl,hO,_,_⟩,hb⟩
 have y_w2:w1.heap.size≤w2.heap.size:=hb.size
 have B7:=hid (bthen B6.out hb)
 have M7:=hid (M6.out.below hb)
 have C7:=hid (C6.out.below hb)
 have P7:=hid (P6.out.below hb)
 have Q7:=hid (Q6.out.below hb)
 clear B6 M6 C6 P6 Q6
 have zzw2:w1.heap.size≤w2.heap.size:=hb.size
 clear hb
 have ER:Hid (applyV c d V R=(V,0,false)):=by unfold Hid applyV;rw [if_pos HL.out]
 obtain ⟨aW,kW,aO,kO,aX,kX,aI,kI,rfl,_,_,_,_⟩:=hO.at
 have O6:=hid hO
 clear hO
 obtain ⟨yQ0,yQ1,yQ2,yQ3,yQ4,yQ5⟩:=Q7.out.a6
 obtain ⟨zQ0,zQ1,zQ2,zQ3,zQ4,zQ5⟩:=Q7.out.f6
 have hlQ:(w.heap.size+1+1+1)<w2.heap.size:=Q7.out.1
 go_wp2
 refine bodyPost_ret (v:=.tuple #[.agg (zD V aW kW aO kO aX kX aI kI).toArray,zI 0,.bool false]) (by simp [results,Tryz.results42,go_sem,yQ0,yQ1,yQ2,yQ3,yQ4,yQ5]) rfl ?_
 have hzz:=size_put6 w2 (w.heap.size+1+1+1) (.int .i64 V.c) (.slice aW V.nW kW) (.int .i64 V.g) (.slice aO V.nO kO) (.slice aX V.nX kX) (.slice aI V.nI kI)
 refine ⟨⟨_,by rw [ER.out],?_⟩,?_⟩
 ·show OwnC w.heap.size (put6 w2 (w.heap.size+1+1+1) (zI V.c) (.slice aW V.nW kW) (zI V.g) (.slice aO V.nO kO) (.slice aX V.nX kX) (.slice aI V.nI kI)).heap.size (put6 w2 (w.heap.size+1+1+1) (zI V.c) (.slice aW V.nW kW) (zI V.g) (.slice aO V.nO kO) (.slice aX V.nX kX) (.slice aI V.nI kI)) _ _
  rw [hzz,ER.out]
  exact (O6.out.sm (Nat.le_of_eq hzz.symm) (fun x g1 g2=>sm_put6 (by omega) (zI V.c) (.slice aW V.nW kW) (zI V.g) (.slice aO V.nO kO) (.slice aX V.nX kX) (.slice aI V.nI kI))).wide (by omega) (by omega) (by omega)
 ·exact below_put6 B7.out (by omega) _ _ _ _ _ _
set_option maxHeartbeats 8000000 in
theorem l6_old (c d:Int) (v:Value) (V:CV) (lo:Nat) (R:Nat→Int) (hs0:V.short 1048576) (hr:Rise V.W V.nW) (hlog:logR c d R=true) (hk:R 0=1) (hf:freshB V (R 1) (R 2)=false) (w:World) (h:CellG w v V) :
 Calls Tryz.prog 42 #[.agg #[zI c,zI d],v,rv R] w fun e w'=>(∃ u,e=.returned (.tuple #[u,zI (applyV c d V R).2.1,.bool (applyV c d V R).2.2])∧OwnC w.heap.size w'.heap.size w' u (applyV c d V R).1)∧Below w.heap.size w w':=by
 unfold rv
 have HL:=hid hlog
 clear hlog
 have HK:=hid hk
 clear hk
 obtain ⟨aW9,bO,bX,bI,cW,cO,cX,cI,q2,q3,q4,rfl,g1,g2,g3,g4⟩:=h
 have CP:Hid (CellG w (.agg (zG V aW9 cW bO cO bX cX bI cI).toArray) V):=⟨aW9,bO,bX,bI,cW,cO,cX,cI,q2,q3,q4,rfl,g1,g2,g3,g4⟩
 have hs:=hid hs0
 clear g1 g2 g3 g4 hs0 q2 q3 q4
 go_enter Tryz.func42,Tryz.ntmps42
 go_wp2_with fail
 obtain ⟨w0,e0,hB0,hM0,hC0,hP0,hQ0,hz0⟩:=bx4 w [zI c,zI d] 44 (zG V aW9 cW bO cO bX cX bI cI) 41 (zR R) 52 zN 41
 rw [←e0]
 clear e0
 have B1:=hid hB0
 have M2:=hid hM0
 have C3:=hid hC0
 have P4:=hid hP0
 have Q5:=hid hQ0
 clear hB0 hM0 hC0 hP0 hQ0
 obtain ⟨yM0,yM1⟩:=M2.out.a2
 have hlM:(w.heap.size)<w0.heap.size:=M2.out.1
 obtain ⟨yC0,yC1,yC2,yC3,yC4,yC5⟩:=C3.out.a6
 have hlC:(w.heap.size+1)<w0.heap.size:=C3.out.1
 rw [load52_bk P4.out rfl]
 go_wp2_with fail
 clear yM0 yM1 hlM yC0 yC1 yC2 yC3 yC4 yC5 hlC
 refine (logOk_spec c d (R 0) (R 1) (R 2) (R 3) (R 4) (R 5) (R 6) (R 7) (R 8) (R 9) (R 10) (R 11) (R 12) (R 13) (R 14) (R 15) _).mono ?_
 rintro e w1 ⟨rfl,hb⟩
 rw [show logB c d (R 0) (R 1) (R 2) (R 3) (R 4) (R 5) (R 6) (R 7) (R 8) (R 9) (R 10) (R 11) (R 12) (R 13) (R 14) (R 15)=true from HL.out]
 have y_w1:w0.heap.size≤w1.heap.size:=hb.size
 have B6:=hid (bthen B1.out hb)
 have M6:=hid (M2.out.below hb)
 have C6:=hid (C3.out.below hb)
 have P6:=hid (P4.out.below hb)
 have Q6:=hid (Q5.out.below hb)
 clear B1 M2 C3 P4 Q5
 have zzw1:w0.heap.size≤w1.heap.size:=hb.size
 clear hb
 have hk:=HK.out
 have HF:=hid hf
 clear hf
 obtain ⟨yM0,yM1⟩:=M6.out.a2
 have hlM:(w.heap.size)<w1.heap.size:=M6.out.1
 obtain ⟨yC0,yC1,yC2,yC3,yC4,yC5⟩:=C6.out.a6
 have hlC:(w.heap.size+1)<w1.heap.size:=C6.out.1
 obtain ⟨yP0,yP1,yP2,yP3,yP4,yP5,yP6,yP7,yP8,yP9,yP10,yP11,yP12,yP13,yP14,yP15⟩:=P6.out.a16
 have hlP:(w.heap.size+1+1)<w1.heap.size:=P6.out.1
 go_wp2_with fail
 clear yM0 yM1 hlM yC0 yC1 yC2 yC3 yC4 yC5 hlC yP0 yP1 yP2 yP3 yP4 yP5 yP6 yP7 yP8 yP9 yP10 yP11 yP12 yP13 yP14 yP15 hlP
 refine (fresh_m (R 1) (R 2) (R 3) (R 4) (R 5) V _ lo hr hs.out _ (CP.out.below B6.out)).mono ?_
 rintro e w2 ⟨rfl,hb⟩
 rw [HF.out]
 have y_w2:w1.heap.size≤w2.heap.size:=hb.size
 have B7:=hid (bthen B6.out hb)
 have M7:=hid (M6.out.below hb)
 have C7:=hid (C6.out.below hb)
 have P7:=hid (P6.out.below hb)
 have Q7:=hid (Q6.out.below hb)
 clear B6 M6 C6 P6 Q6
 have zzw2:w1.heap.size≤w2.heap.size:=hb.size
 clear hb
 obtain ⟨yC0,yC1,yC2,yC3,yC4,yC5⟩:=C7.out.a6
 have hlC:(w.heap.size+1)<w2.heap.size:=C7.out.1
 go_wp2_with fail
 clear yC0 yC1 yC2 yC3 yC4 yC5 hlC
 refine (copyG_spec _ V hs.out _ (CP.out.below B7.out)).mono ?_
 rintro e w3 ⟨⟨u,rfl,hO,_,_⟩,hb⟩
 have y_w3:w2.heap.size≤w3.heap.size:=hb.size
 have B8:=hid (bthen B7.out hb)
 have M8:=hid (M7.out.below hb)
 have C8:=hid (C7.out.below hb)
 have P8:=hid (P7.out.below hb)
 have Q8:=hid (Q7.out.below hb)
 clear B7 M7 C7 P7 Q7
 have zzw3:w2.heap.size≤w3.heap.size:=hb.size
 clear hb
 have ER:Hid (applyV c d V R=(V,0,false)):=by unfold Hid applyV;rw [if_neg (show ¬ logR c d R=false by rw [HL.out];simp)];rw [if_pos hk,if_neg (by rw [HF.out];simp)]
 obtain ⟨aW,kW,aO,kO,aX,kX,aI,kI,rfl,_,_,_,_⟩:=hO.at
 have O6:=hid hO
 clear hO
 obtain ⟨yQ0,yQ1,yQ2,yQ3,yQ4,yQ5⟩:=Q8.out.a6
 obtain ⟨zQ0,zQ1,zQ2,zQ3,zQ4,zQ5⟩:=Q8.out.f6
 have hlQ:(w.heap.size+1+1+1)<w3.heap.size:=Q8.out.1
 go_wp2
 refine bodyPost_ret (v:=.tuple #[.agg (zD V aW kW aO kO aX kX aI kI).toArray,zI 0,.bool false]) (by simp [results,Tryz.results42,go_sem,yQ0,yQ1,yQ2,yQ3,yQ4,yQ5]) rfl ?_
 have hzz:=size_put6 w3 (w.heap.size+1+1+1) (.int .i64 V.c) (.slice aW V.nW kW) (.int .i64 V.g) (.slice aO V.nO kO) (.slice aX V.nX kX) (.slice aI V.nI kI)
 refine ⟨⟨_,by rw [ER.out],?_⟩,?_⟩
 ·show OwnC w.heap.size (put6 w3 (w.heap.size+1+1+1) (zI V.c) (.slice aW V.nW kW) (zI V.g) (.slice aO V.nO kO) (.slice aX V.nX kX) (.slice aI V.nI kI)).heap.size (put6 w3 (w.heap.size+1+1+1) (zI V.c) (.slice aW V.nW kW) (zI V.g) (.slice aO V.nO kO) (.slice aX V.nX kX) (.slice aI V.nI kI)) _ _
  rw [hzz,ER.out]
  exact (O6.out.sm (Nat.le_of_eq hzz.symm) (fun x g1 g2=>sm_put6 (by omega) (zI V.c) (.slice aW V.nW kW) (zI V.g) (.slice aO V.nO kO) (.slice aX V.nX kX) (.slice aI V.nI kI))).wide (by omega) (by omega) (by omega)
 ·exact below_put6 B8.out (by omega) _ _ _ _ _ _
set_option maxHeartbeats 8000000 in
theorem l6_do (c d:Int) (v:Value) (V:CV) (lo:Nat) (R:Nat→Int) (hs0:V.short 1048576) (hV:cllB c d V=true) (hO:ordB (R 1) (R 2) (R 3) (R 4) (R 5)=true) (hlog:logR c d R=true) (hk:R 0=1) (hf:freshB V (R 1) (R 2)=true) (w:World) (h:CellG w v V) :
 Calls Tryz.prog 42 #[.agg #[zI c,zI d],v,rv R] w fun e w'=>(∃ u,e=.returned (.tuple #[u,zI (applyV c d V R).2.1,.bool (applyV c d V R).2.2])∧OwnC w.heap.size w'.heap.size w' u (applyV c d V R).1)∧Below w.heap.size w w':=by
 unfold rv
 have HL:=hid hlog
 clear hlog
 have HK:=hid hk
 clear hk
 obtain ⟨aW9,bO,bX,bI,cW,cO,cX,cI,q2,q3,q4,rfl,g1,g2,g3,g4⟩:=h
 have CP:Hid (CellG w (.agg (zG V aW9 cW bO cO bX cX bI cI).toArray) V):=⟨aW9,bO,bX,bI,cW,cO,cX,cI,q2,q3,q4,rfl,g1,g2,g3,g4⟩
 have hs:=hid hs0
 clear g1 g2 g3 g4 hs0 q2 q3 q4
 go_enter Tryz.func42,Tryz.ntmps42
 go_wp2_with fail
 obtain ⟨w0,e0,hB0,hM0,hC0,hP0,hQ0,hz0⟩:=bx4 w [zI c,zI d] 44 (zG V aW9 cW bO cO bX cX bI cI) 41 (zR R) 52 zN 41
 rw [←e0]
 clear e0
 have B1:=hid hB0
 have M2:=hid hM0
 have C3:=hid hC0
 have P4:=hid hP0
 have Q5:=hid hQ0
 clear hB0 hM0 hC0 hP0 hQ0
 obtain ⟨yM0,yM1⟩:=M2.out.a2
 have hlM:(w.heap.size)<w0.heap.size:=M2.out.1
 obtain ⟨yC0,yC1,yC2,yC3,yC4,yC5⟩:=C3.out.a6
 have hlC:(w.heap.size+1)<w0.heap.size:=C3.out.1
 rw [load52_bk P4.out rfl]
 go_wp2_with fail
 clear yM0 yM1 hlM yC0 yC1 yC2 yC3 yC4 yC5 hlC
 refine (logOk_spec c d (R 0) (R 1) (R 2) (R 3) (R 4) (R 5) (R 6) (R 7) (R 8) (R 9) (R 10) (R 11) (R 12) (R 13) (R 14) (R 15) _).mono ?_
 rintro e w1 ⟨rfl,hb⟩
 rw [show logB c d (R 0) (R 1) (R 2) (R 3) (R 4) (R 5) (R 6) (R 7) (R 8) (R 9) (R 10) (R 11) (R 12) (R 13) (R 14) (R 15)=true from HL.out]
 have y_w1:w0.heap.size≤w1.heap.size:=hb.size
 have B6:=hid (bthen B1.out hb)
 have M6:=hid (M2.out.below hb)
 have C6:=hid (C3.out.below hb)
 have P6:=hid (P4.out.below hb)
 have Q6:=hid (Q5.out.below hb)
 clear B1 M2 C3 P4 Q5
 have zzw1:w0.heap.size≤w1.heap.size:=hb.size
 clear hb
 have hk:=HK.out
 have HF:=hid hf
 clear hf
 obtain ⟨yM0,yM1⟩:=M6.out.a2
 have hlM:(w.heap.size)<w1.heap.size:=M6.out.1
 obtain ⟨yC0,yC1,yC2,yC3,yC4,yC5⟩:=C6.out.a6
 have hlC:(w.heap.size+1)<w1.heap.size:=C6.out.1
 obtain ⟨yP0,yP1,yP2,yP3,yP4,yP5,yP6,yP7,yP8,yP9,yP10,yP11,yP12,yP13,yP14,yP15⟩:=P6.out.a16
 have hlP:(w.heap.size+1+1)<w1.heap.size:=P6.out.1
 go_wp2_with fail
 clear yM0 yM1 hlM yC0 yC1 yC2 yC3 yC4 yC5 hlC yP0 yP1 yP2 yP3 yP4 yP5 yP6 yP7 yP8 yP9 yP10 yP11 yP12 yP13 yP14 yP15 hlP
 refine (fresh_m (R 1) (R 2) (R 3) (R 4) (R 5) V _ lo (cllB_rise hV) hs.out _ (CP.out.below B6.out)).mono ?_
 rintro e w2 ⟨rfl,hb⟩
 rw [HF.out]
 have y_w2:w1.heap.size≤w2.heap.size:=hb.size
 have B7:=hid (bthen B6.out hb)
 have M7:=hid (M6.out.below hb)
 have C7:=hid (C6.out.below hb)
 have P7:=hid (P6.out.below hb)
 have Q7:=hid (Q6.out.below hb)
 clear B6 M6 C6 P6 Q6
 have zzw2:w1.heap.size≤w2.heap.size:=hb.size
 clear hb
 obtain ⟨yM0,yM1⟩:=M7.out.a2
 have hlM:(w.heap.size)<w2.heap.size:=M7.out.1
 obtain ⟨yC0,yC1,yC2,yC3,yC4,yC5⟩:=C7.out.a6
 have hlC:(w.heap.size+1)<w2.heap.size:=C7.out.1
 obtain ⟨yP0,yP1,yP2,yP3,yP4,yP5,yP6,yP7,yP8,yP9,yP10,yP11,yP12,yP13,yP14,yP15⟩:=P7.out.a16
 have hlP:(w.heap.size+1+1)<w2.heap.size:=P7.out.1
 go_wp2_with fail
 clear yM0 yM1 hlM yC0 yC1 yC2 yC3 yC4 yC5 hlC yP0 yP1 yP2 yP3 yP4 yP5 yP6 yP7 yP8 yP9 yP10 yP11 yP12 yP13 yP14 yP15 hlP
 refine (l5Do_spec c d (R 1) (R 2) (R 3) (R 4) (R 5) _ V lo hs.out hV hO _ (CP.out.below B7.out)).mono ?_
 rintro e w3 ⟨⟨u,z,rfl,rfl,hO3⟩,hb⟩
 rw [doM_eq hV hO] at hO3 ⊢
 have y_w3:w2.heap.size≤w3.heap.size:=hb.size
 have B8:=hid (bthen B7.out hb)
 have M8:=hid (M7.out.below hb)
 have C8:=hid (C7.out.below hb)
 have P8:=hid (P7.out.below hb)
 have Q8:=hid (Q7.out.below hb)
 clear B7 M7 C7 P7 Q7
 have zzw3:w2.heap.size≤w3.heap.size:=hb.size
 clear hb
 have ER:Hid (applyV c d V R=((doV c d V (R 1) (R 2) (R 3) (R 4) (R 5)).1,(doV c d V (R 1) (R 2) (R 3) (R 4) (R 5)).2,true)):=by unfold Hid applyV;rw [if_neg (show ¬ logR c d R=false by rw [HL.out];simp)];rw [if_pos hk,if_pos HF.out]
 obtain ⟨U,eU⟩:∃ U,U=(doV c d V (R 1) (R 2) (R 3) (R 4) (R 5)).1:=⟨_,rfl⟩
 rw [←eU] at hO3 ER
 clear eU
 obtain ⟨aW,kW,aO,kO,aX,kX,aI,kI,rfl,_,_,_,_⟩:=hO3.at
 have O6:=hid hO3
 clear hO3
 obtain ⟨zc,ezc⟩:∃ z,z=(doV c d V (R 1) (R 2) (R 3) (R 4) (R 5)).2:=⟨_,rfl⟩
 rw [←ezc] at ER ⊢
 clear ezc
 go_upto_region 8 with fail
 obtain ⟨w3b,en,hbx,hX,-⟩:=bx1 w3 (zD U aW kW aO kO aX kX aI kI) 41
 rw [←en]
 clear en
 have y_w3b:w3.heap.size≤w3b.heap.size:=hbx.size
 have B9:=hid (bthen B8.out hbx)
 have M9:=hid (M8.out.below hbx)
 have C9:=hid (C8.out.below hbx)
 have P9:=hid (P8.out.below hbx)
 have Q9:=hid (Q8.out.below hbx)
 clear B8 M8 C8 P8 Q8
 have zzw3b:w3.heap.size≤w3b.heap.size:=hbx.size
 have X10:Hid (Bk w3b w3.heap.size (zD U aW kW aO kO aX kX aI kI)):=hX
 clear hX
 have O7:=hid (OwnC.below O6.out (by omega) hbx)
 clear O6 hbx
 obtain ⟨yX0,yX1,yX2,yX3,yX4,yX5⟩:=X10.out.a6
 have hlX:w3.heap.size<w3b.heap.size:=X10.out.1
 obtain ⟨yQ0,yQ1,yQ2,yQ3,yQ4,yQ5⟩:=Q9.out.a6
 obtain ⟨zQ0,zQ1,zQ2,zQ3,zQ4,zQ5⟩:=Q9.out.f6
 have hlQ:(w.heap.size+1+1+1)<w3b.heap.size:=Q9.out.1
 go_wp2
 refine bodyPost_ret (v:=.tuple #[.agg (zD U aW kW aO kO aX kX aI kI).toArray,zI zc,.bool true]) (by simp [results,Tryz.results42,go_sem,yQ0,yQ1,yQ2,yQ3,yQ4,yQ5]) rfl ?_
 have hzz:=size_put6 w3b (w.heap.size+1+1+1) (.int .i64 U.c) (.slice aW U.nW kW) (.int .i64 U.g) (.slice aO U.nO kO) (.slice aX U.nX kX) (.slice aI U.nI kI)
 refine ⟨⟨_,by rw [ER.out],?_⟩,?_⟩
 ·show OwnC w.heap.size (put6 w3b (w.heap.size+1+1+1) (zI U.c) (.slice aW U.nW kW) (zI U.g) (.slice aO U.nO kO) (.slice aX U.nX kX) (.slice aI U.nI kI)).heap.size (put6 w3b (w.heap.size+1+1+1) (zI U.c) (.slice aW U.nW kW) (zI U.g) (.slice aO U.nO kO) (.slice aX U.nX kX) (.slice aI U.nI kI)) _ _
  rw [hzz,ER.out]
  exact (O7.out.sm (Nat.le_of_eq hzz.symm) (fun x g1 g2=>sm_put6 (by omega) (zI U.c) (.slice aW U.nW kW) (zI U.g) (.slice aO U.nO kO) (.slice aX U.nX kX) (.slice aI U.nI kI))).wide (by omega) (by omega) (by omega)
 ·exact below_put6 B9.out (by omega) _ _ _ _ _ _
set_option maxHeartbeats 8000000 in
theorem l6_no2 (c d:Int) (v:Value) (V:CV) (lo:Nat) (R:Nat→Int) (hs0:V.short 1048576) (hlog:logR c d R=true) (hk:R 0=2) (hno:sideF c d V.c (R 6)=-1) (w:World) (h:CellG w v V) :
 Calls Tryz.prog 42 #[.agg #[zI c,zI d],v,rv R] w fun e w'=>(∃ u,e=.returned (.tuple #[u,zI (applyV c d V R).2.1,.bool (applyV c d V R).2.2])∧OwnC w.heap.size w'.heap.size w' u (applyV c d V R).1)∧Below w.heap.size w w':=by
 unfold rv
 have HL:=hid hlog
 clear hlog
 have HK:=hid hk
 clear hk
 obtain ⟨aW9,bO,bX,bI,cW,cO,cX,cI,q2,q3,q4,rfl,g1,g2,g3,g4⟩:=h
 have CP:Hid (CellG w (.agg (zG V aW9 cW bO cO bX cX bI cI).toArray) V):=⟨aW9,bO,bX,bI,cW,cO,cX,cI,q2,q3,q4,rfl,g1,g2,g3,g4⟩
 have hs:=hid hs0
 clear g1 g2 g3 g4 hs0 q2 q3 q4
 go_enter Tryz.func42,Tryz.ntmps42
 go_wp2_with fail
 obtain ⟨w0,e0,hB0,hM0,hC0,hP0,hQ0,hz0⟩:=bx4 w [zI c,zI d] 44 (zG V aW9 cW bO cO bX cX bI cI) 41 (zR R) 52 zN 41
 rw [←e0]
 clear e0
 have B1:=hid hB0
 have M2:=hid hM0
 have C3:=hid hC0
 have P4:=hid hP0
 have Q5:=hid hQ0
 clear hB0 hM0 hC0 hP0 hQ0
 obtain ⟨yM0,yM1⟩:=M2.out.a2
 have hlM:(w.heap.size)<w0.heap.size:=M2.out.1
 obtain ⟨yC0,yC1,yC2,yC3,yC4,yC5⟩:=C3.out.a6
 have hlC:(w.heap.size+1)<w0.heap.size:=C3.out.1
 rw [load52_bk P4.out rfl]
 go_wp2_with fail
 clear yM0 yM1 hlM yC0 yC1 yC2 yC3 yC4 yC5 hlC
 refine (logOk_spec c d (R 0) (R 1) (R 2) (R 3) (R 4) (R 5) (R 6) (R 7) (R 8) (R 9) (R 10) (R 11) (R 12) (R 13) (R 14) (R 15) _).mono ?_
 rintro e w1 ⟨rfl,hb⟩
 rw [show logB c d (R 0) (R 1) (R 2) (R 3) (R 4) (R 5) (R 6) (R 7) (R 8) (R 9) (R 10) (R 11) (R 12) (R 13) (R 14) (R 15)=true from HL.out]
 have y_w1:w0.heap.size≤w1.heap.size:=hb.size
 have B6:=hid (bthen B1.out hb)
 have M6:=hid (M2.out.below hb)
 have C6:=hid (C3.out.below hb)
 have P6:=hid (P4.out.below hb)
 have Q6:=hid (Q5.out.below hb)
 clear B1 M2 C3 P4 Q5
 have zzw1:w0.heap.size≤w1.heap.size:=hb.size
 clear hb
 have hk:=HK.out
 have hk1:¬ R 0=1:=by omega
 have HN:=hid hno
 clear hno
 obtain ⟨yM0,yM1⟩:=M6.out.a2
 have hlM:(w.heap.size)<w1.heap.size:=M6.out.1
 obtain ⟨yC0,yC1,yC2,yC3,yC4,yC5⟩:=C6.out.a6
 have hlC:(w.heap.size+1)<w1.heap.size:=C6.out.1
 obtain ⟨yP0,yP1,yP2,yP3,yP4,yP5,yP6,yP7,yP8,yP9,yP10,yP11,yP12,yP13,yP14,yP15⟩:=P6.out.a16
 have hlP:(w.heap.size+1+1)<w1.heap.size:=P6.out.1
 go_wp2_with fail
 clear yM0 yM1 hlM yC0 yC1 yC2 yC3 yC4 yC5 hlC yP0 yP1 yP2 yP3 yP4 yP5 yP6 yP7 yP8 yP9 yP10 yP11 yP12 yP13 yP14 yP15 hlP
 refine (plcSide_spec c d V.c (R 6) _).mono ?_
 rintro e w2 ⟨rfl,hb⟩
 rw [HN.out]
 have y_w2:w1.heap.size≤w2.heap.size:=hb.size
 have B7:=hid (bthen B6.out hb)
 have M7:=hid (M6.out.below hb)
 have C7:=hid (C6.out.below hb)
 have P7:=hid (P6.out.below hb)
 have Q7:=hid (Q6.out.below hb)
 clear B6 M6 C6 P6 Q6
 have zzw2:w1.heap.size≤w2.heap.size:=hb.size
 clear hb
 obtain ⟨yC0,yC1,yC2,yC3,yC4,yC5⟩:=C7.out.a6
 have hlC:(w.heap.size+1)<w2.heap.size:=C7.out.1
 go_wp2_with fail
 clear yC0 yC1 yC2 yC3 yC4 yC5 hlC
 refine (copyG_spec _ V hs.out _ (CP.out.below B7.out)).mono ?_
 rintro e w3 ⟨⟨u,rfl,hO,_,_⟩,hb⟩
 have y_w3:w2.heap.size≤w3.heap.size:=hb.size
 have B8:=hid (bthen B7.out hb)
 have M8:=hid (M7.out.below hb)
 have C8:=hid (C7.out.below hb)
 have P8:=hid (P7.out.below hb)
 have Q8:=hid (Q7.out.below hb)
 clear B7 M7 C7 P7 Q7
 have zzw3:w2.heap.size≤w3.heap.size:=hb.size
 clear hb
 have ER:Hid (applyV c d V R=(V,0,false)):=by unfold Hid applyV;rw [if_neg (show ¬ logR c d R=false by rw [HL.out];simp)];rw [if_neg (show ¬ R 0=1 by omega),if_pos HN.out]
 obtain ⟨aW,kW,aO,kO,aX,kX,aI,kI,rfl,_,_,_,_⟩:=hO.at
 have O6:=hid hO
 clear hO
 obtain ⟨yQ0,yQ1,yQ2,yQ3,yQ4,yQ5⟩:=Q8.out.a6
 obtain ⟨zQ0,zQ1,zQ2,zQ3,zQ4,zQ5⟩:=Q8.out.f6
 have hlQ:(w.heap.size+1+1+1)<w3.heap.size:=Q8.out.1
 go_wp2
 refine bodyPost_ret (v:=.tuple #[.agg (zD V aW kW aO kO aX kX aI kI).toArray,zI 0,.bool false]) (by simp [results,Tryz.results42,go_sem,yQ0,yQ1,yQ2,yQ3,yQ4,yQ5]) rfl ?_
 have hzz:=size_put6 w3 (w.heap.size+1+1+1) (.int .i64 V.c) (.slice aW V.nW kW) (.int .i64 V.g) (.slice aO V.nO kO) (.slice aX V.nX kX) (.slice aI V.nI kI)
 refine ⟨⟨_,by rw [ER.out],?_⟩,?_⟩
 ·show OwnC w.heap.size (put6 w3 (w.heap.size+1+1+1) (zI V.c) (.slice aW V.nW kW) (zI V.g) (.slice aO V.nO kO) (.slice aX V.nX kX) (.slice aI V.nI kI)).heap.size (put6 w3 (w.heap.size+1+1+1) (zI V.c) (.slice aW V.nW kW) (zI V.g) (.slice aO V.nO kO) (.slice aX V.nX kX) (.slice aI V.nI kI)) _ _
  rw [hzz,ER.out]
  exact (O6.out.sm (Nat.le_of_eq hzz.symm) (fun x g1 g2=>sm_put6 (by omega) (zI V.c) (.slice aW V.nW kW) (zI V.g) (.slice aO V.nO kO) (.slice aX V.nX kX) (.slice aI V.nI kI))).wide (by omega) (by omega) (by omega)
 ·exact below_put6 B8.out (by omega) _ _ _ _ _ _
set_option maxHeartbeats 8000000 in
theorem l6_2y (c d:Int) (v:Value) (V:CV) (lo:Nat) (R:Nat→Int) (hs0:V.short 1048576) (hV:cllB c d V=true) (hs1:inB (R 6) 0 1=true) (hp:pclB c d (R 7) (R 8) (R 9) (R 10) (R 11) (R 12) (R 13) (R 14)=true) (hlog:logR c d R=true) (hk:R 0=2) (hno:¬ sideF c d V.c (R 6)=-1) (ht:takeB c d V (mapW V.W V.nW) (R 6).toNat (R 7) (R 8) (R 9) (R 10) (R 14)=true) (w:World) (h:CellG w v V) :
 Calls Tryz.prog 42 #[.agg #[zI c,zI d],v,rv R] w fun e w'=>(∃ u,e=.returned (.tuple #[u,zI (applyV c d V R).2.1,.bool (applyV c d V R).2.2])∧OwnC w.heap.size w'.heap.size w' u (applyV c d V R).1)∧Below w.heap.size w w':=by
 unfold rv
 have HL:=hid hlog
 clear hlog
 have HK:=hid hk
 clear hk
 obtain ⟨aW9,bO,bX,bI,cW,cO,cX,cI,q2,q3,q4,rfl,g1,g2,g3,g4⟩:=h
 have CP:Hid (CellG w (.agg (zG V aW9 cW bO cO bX cX bI cI).toArray) V):=⟨aW9,bO,bX,bI,cW,cO,cX,cI,q2,q3,q4,rfl,g1,g2,g3,g4⟩
 have hs:=hid hs0
 clear g1 g2 g3 g4 hs0 q2 q3 q4
 go_enter Tryz.func42,Tryz.ntmps42
 go_wp2_with fail
 obtain ⟨w0,e0,hB0,hM0,hC0,hP0,hQ0,hz0⟩:=bx4 w [zI c,zI d] 44 (zG V aW9 cW bO cO bX cX bI cI) 41 (zR R) 52 zN 41
 rw [←e0]
 clear e0
 have B1:=hid hB0
 have M2:=hid hM0
 have C3:=hid hC0
 have P4:=hid hP0
 have Q5:=hid hQ0
 clear hB0 hM0 hC0 hP0 hQ0
 obtain ⟨yM0,yM1⟩:=M2.out.a2
 have hlM:(w.heap.size)<w0.heap.size:=M2.out.1
 obtain ⟨yC0,yC1,yC2,yC3,yC4,yC5⟩:=C3.out.a6
 have hlC:(w.heap.size+1)<w0.heap.size:=C3.out.1
 rw [load52_bk P4.out rfl]
 go_wp2_with fail
 clear yM0 yM1 hlM yC0 yC1 yC2 yC3 yC4 yC5 hlC
 refine (logOk_spec c d (R 0) (R 1) (R 2) (R 3) (R 4) (R 5) (R 6) (R 7) (R 8) (R 9) (R 10) (R 11) (R 12) (R 13) (R 14) (R 15) _).mono ?_
 rintro e w1 ⟨rfl,hb⟩
 rw [show logB c d (R 0) (R 1) (R 2) (R 3) (R 4) (R 5) (R 6) (R 7) (R 8) (R 9) (R 10) (R 11) (R 12) (R 13) (R 14) (R 15)=true from HL.out]
 have y_w1:w0.heap.size≤w1.heap.size:=hb.size
 have B6:=hid (bthen B1.out hb)
 have M6:=hid (M2.out.below hb)
 have C6:=hid (C3.out.below hb)
 have P6:=hid (P4.out.below hb)
 have Q6:=hid (Q5.out.below hb)
 clear B1 M2 C3 P4 Q5
 have zzw1:w0.heap.size≤w1.heap.size:=hb.size
 clear hb
 have hk:=HK.out
 have HT:=hid ht
 clear ht
 have hk1:¬ R 0=1:=by omega
 have HN:=hid hno
 clear hno
 obtain ⟨yM0,yM1⟩:=M6.out.a2
 have hlM:(w.heap.size)<w1.heap.size:=M6.out.1
 obtain ⟨yC0,yC1,yC2,yC3,yC4,yC5⟩:=C6.out.a6
 have hlC:(w.heap.size+1)<w1.heap.size:=C6.out.1
 obtain ⟨yP0,yP1,yP2,yP3,yP4,yP5,yP6,yP7,yP8,yP9,yP10,yP11,yP12,yP13,yP14,yP15⟩:=P6.out.a16
 have hlP:(w.heap.size+1+1)<w1.heap.size:=P6.out.1
 go_wp2_with fail
 clear yM0 yM1 hlM yC0 yC1 yC2 yC3 yC4 yC5 hlC yP0 yP1 yP2 yP3 yP4 yP5 yP6 yP7 yP8 yP9 yP10 yP11 yP12 yP13 yP14 yP15 hlP
 refine (plcSide_spec c d V.c (R 6) _).mono ?_
 rintro e w2 ⟨rfl,hb⟩
 obtain ⟨sf,esf⟩:∃ z,z=sideF c d V.c (R 6):=⟨_,rfl⟩
 rw [←esf]
 have hsf:¬ sf=-1:=by rw [esf];exact HN.out
 clear esf
 have y_w2:w1.heap.size≤w2.heap.size:=hb.size
 have B7:=hid (bthen B6.out hb)
 have M7:=hid (M6.out.below hb)
 have C7:=hid (C6.out.below hb)
 have P7:=hid (P6.out.below hb)
 have Q7:=hid (Q6.out.below hb)
 clear B6 M6 C6 P6 Q6
 have zzw2:w1.heap.size≤w2.heap.size:=hb.size
 clear hb
 obtain ⟨yM0,yM1⟩:=M7.out.a2
 have hlM:(w.heap.size)<w2.heap.size:=M7.out.1
 obtain ⟨yC0,yC1,yC2,yC3,yC4,yC5⟩:=C7.out.a6
 have hlC:(w.heap.size+1)<w2.heap.size:=C7.out.1
 obtain ⟨yP0,yP1,yP2,yP3,yP4,yP5,yP6,yP7,yP8,yP9,yP10,yP11,yP12,yP13,yP14,yP15⟩:=P7.out.a16
 have hlP:(w.heap.size+1+1)<w2.heap.size:=P7.out.1
 go_wp2_with fail
 clear yM0 yM1 hlM yC0 yC1 yC2 yC3 yC4 yC5 hlC yP0 yP1 yP2 yP3 yP4 yP5 yP6 yP7 yP8 yP9 yP10 yP11 yP12 yP13 yP14 yP15 hlP
 refine (l5In_side c d (R 6) (R 7) (R 8) (R 9) (R 10) (R 11) (R 12) (R 13) (R 14) _ V lo hV hp hs1 hs.out _ (CP.out.below B7.out)).mono ?_
 rintro e w3 ⟨⟨u,rfl,hO3⟩,hb⟩
 rw [HT.out]
 have y_w3:w2.heap.size≤w3.heap.size:=hb.size
 have B8:=hid (bthen B7.out hb)
 have M8:=hid (M7.out.below hb)
 have C8:=hid (C7.out.below hb)
 have P8:=hid (P7.out.below hb)
 have Q8:=hid (Q7.out.below hb)
 clear B7 M7 C7 P7 Q7
 have zzw3:w2.heap.size≤w3.heap.size:=hb.size
 clear hb
 have ER:Hid (applyV c d V R=(CV.inn c d V (R 6).toNat (R 7) (R 8) (R 9) (R 10) (R 11) (R 12) (R 13) (R 14),0,true)):=by unfold Hid applyV;rw [if_neg (show ¬ logR c d R=false by rw [HL.out];simp)];rw [if_neg (show ¬ R 0=1 by omega),if_neg HN.out,if_pos hk,HT.out]
 obtain ⟨U,eU⟩:∃ U,U=CV.inn c d V (R 6).toNat (R 7) (R 8) (R 9) (R 10) (R 11) (R 12) (R 13) (R 14):=⟨_,rfl⟩
 rw [←eU] at hO3 ER
 clear eU
 obtain ⟨aW,kW,aO,kO,aX,kX,aI,kI,rfl,_,_,_,_⟩:=hO3.at
 have O6:=hid hO3
 clear hO3
 go_upto_region 13 with fail
 obtain ⟨w3b,en,hbx,hX,-⟩:=bx1 w3 (zD U aW kW aO kO aX kX aI kI) 41
 rw [←en]
 clear en
 have y_w3b:w3.heap.size≤w3b.heap.size:=hbx.size
 have B9:=hid (bthen B8.out hbx)
 have M9:=hid (M8.out.below hbx)
 have C9:=hid (C8.out.below hbx)
 have P9:=hid (P8.out.below hbx)
 have Q9:=hid (Q8.out.below hbx)
 clear B8 M8 C8 P8 Q8
 have zzw3b:w3.heap.size≤w3b.heap.size:=hbx.size
 have X10:Hid (Bk w3b w3.heap.size (zD U aW kW aO kO aX kX aI kI)):=hX
 clear hX
 have O7:=hid (OwnC.below O6.out (by omega) hbx)
 clear O6 hbx
 obtain ⟨yX0,yX1,yX2,yX3,yX4,yX5⟩:=X10.out.a6
 have hlX:w3.heap.size<w3b.heap.size:=X10.out.1
 obtain ⟨yQ0,yQ1,yQ2,yQ3,yQ4,yQ5⟩:=Q9.out.a6
 obtain ⟨zQ0,zQ1,zQ2,zQ3,zQ4,zQ5⟩:=Q9.out.f6
 have hlQ:(w.heap.size+1+1+1)<w3b.heap.size:=Q9.out.1
 go_wp2
 refine bodyPost_ret (v:=.tuple #[.agg (zD U aW kW aO kO aX kX aI kI).toArray,zI 0,.bool true]) (by simp [results,Tryz.results42,go_sem,yQ0,yQ1,yQ2,yQ3,yQ4,yQ5]) rfl ?_
 have hzz:=size_put6 w3b (w.heap.size+1+1+1) (.int .i64 U.c) (.slice aW U.nW kW) (.int .i64 U.g) (.slice aO U.nO kO) (.slice aX U.nX kX) (.slice aI U.nI kI)
 refine ⟨⟨_,by rw [ER.out],?_⟩,?_⟩
 ·show OwnC w.heap.size (put6 w3b (w.heap.size+1+1+1) (zI U.c) (.slice aW U.nW kW) (zI U.g) (.slice aO U.nO kO) (.slice aX U.nX kX) (.slice aI U.nI kI)).heap.size (put6 w3b (w.heap.size+1+1+1) (zI U.c) (.slice aW U.nW kW) (zI U.g) (.slice aO U.nO kO) (.slice aX U.nX kX) (.slice aI U.nI kI)) _ _
  rw [hzz,ER.out]
  exact (O7.out.sm (Nat.le_of_eq hzz.symm) (fun x g1 g2=>sm_put6 (by omega) (zI U.c) (.slice aW U.nW kW) (zI U.g) (.slice aO U.nO kO) (.slice aX U.nX kX) (.slice aI U.nI kI))).wide (by omega) (by omega) (by omega)
 ·exact below_put6 B9.out (by omega) _ _ _ _ _ _
set_option maxHeartbeats 8000000 in
theorem l6_2n (c d:Int) (v:Value) (V:CV) (lo:Nat) (R:Nat→Int) (hs0:V.short 1048576) (hV:cllB c d V=true) (hs1:inB (R 6) 0 1=true) (hp:pclB c d (R 7) (R 8) (R 9) (R 10) (R 11) (R 12) (R 13) (R 14)=true) (hlog:logR c d R=true) (hk:R 0=2) (hno:¬ sideF c d V.c (R 6)=-1) (ht:takeB c d V (mapW V.W V.nW) (R 6).toNat (R 7) (R 8) (R 9) (R 10) (R 14)=false) (w:World) (h:CellG w v V) :
 Calls Tryz.prog 42 #[.agg #[zI c,zI d],v,rv R] w fun e w'=>(∃ u,e=.returned (.tuple #[u,zI (applyV c d V R).2.1,.bool (applyV c d V R).2.2])∧OwnC w.heap.size w'.heap.size w' u (applyV c d V R).1)∧Below w.heap.size w w':=by
 unfold rv
 have HL:=hid hlog
 clear hlog
 have HK:=hid hk
 clear hk
 obtain ⟨aW9,bO,bX,bI,cW,cO,cX,cI,q2,q3,q4,rfl,g1,g2,g3,g4⟩:=h
 have CP:Hid (CellG w (.agg (zG V aW9 cW bO cO bX cX bI cI).toArray) V):=⟨aW9,bO,bX,bI,cW,cO,cX,cI,q2,q3,q4,rfl,g1,g2,g3,g4⟩
 have hs:=hid hs0
 clear g1 g2 g3 g4 hs0 q2 q3 q4
 go_enter Tryz.func42,Tryz.ntmps42
 go_wp2_with fail
 obtain ⟨w0,e0,hB0,hM0,hC0,hP0,hQ0,hz0⟩:=bx4 w [zI c,zI d] 44 (zG V aW9 cW bO cO bX cX bI cI) 41 (zR R) 52 zN 41
 rw [←e0]
 clear e0
 have B1:=hid hB0
 have M2:=hid hM0
 have C3:=hid hC0
 have P4:=hid hP0
 have Q5:=hid hQ0
 clear hB0 hM0 hC0 hP0 hQ0
 obtain ⟨yM0,yM1⟩:=M2.out.a2
 have hlM:(w.heap.size)<w0.heap.size:=M2.out.1
 obtain ⟨yC0,yC1,yC2,yC3,yC4,yC5⟩:=C3.out.a6
 have hlC:(w.heap.size+1)<w0.heap.size:=C3.out.1
 rw [load52_bk P4.out rfl]
 go_wp2_with fail
 clear yM0 yM1 hlM yC0 yC1 yC2 yC3 yC4 yC5 hlC
 refine (logOk_spec c d (R 0) (R 1) (R 2) (R 3) (R 4) (R 5) (R 6) (R 7) (R 8) (R 9) (R 10) (R 11) (R 12) (R 13) (R 14) (R 15) _).mono ?_
 rintro e w1 ⟨rfl,hb⟩
 rw [show logB c d (R 0) (R 1) (R 2) (R 3) (R 4) (R 5) (R 6) (R 7) (R 8) (R 9) (R 10) (R 11) (R 12) (R 13) (R 14) (R 15)=true from HL.out]
 have y_w1:w0.heap.size≤w1.heap.size:=hb.size
 have B6:=hid (bthen B1.out hb)
 have M6:=hid (M2.out.below hb)
 have C6:=hid (C3.out.below hb)
 have P6:=hid (P4.out.below hb)
 have Q6:=hid (Q5.out.below hb)
 clear B1 M2 C3 P4 Q5
 have zzw1:w0.heap.size≤w1.heap.size:=hb.size
 clear hb
 have hk:=HK.out
 have HT:=hid ht
 clear ht
 have hk1:¬ R 0=1:=by omega
 have HN:=hid hno
 clear hno
 obtain ⟨yM0,yM1⟩:=M6.out.a2
 have hlM:(w.heap.size)<w1.heap.size:=M6.out.1
 obtain ⟨yC0,yC1,yC2,yC3,yC4,yC5⟩:=C6.out.a6
 have hlC:(w.heap.size+1)<w1.heap.size:=C6.out.1
 obtain ⟨yP0,yP1,yP2,yP3,yP4,yP5,yP6,yP7,yP8,yP9,yP10,yP11,yP12,yP13,yP14,yP15⟩:=P6.out.a16
 have hlP:(w.heap.size+1+1)<w1.heap.size:=P6.out.1
 go_wp2_with fail
 clear yM0 yM1 hlM yC0 yC1 yC2 yC3 yC4 yC5 hlC yP0 yP1 yP2 yP3 yP4 yP5 yP6 yP7 yP8 yP9 yP10 yP11 yP12 yP13 yP14 yP15 hlP
 refine (plcSide_spec c d V.c (R 6) _).mono ?_
 rintro e w2 ⟨rfl,hb⟩
 obtain ⟨sf,esf⟩:∃ z,z=sideF c d V.c (R 6):=⟨_,rfl⟩
 rw [←esf]
 have hsf:¬ sf=-1:=by rw [esf];exact HN.out
 clear esf
 have y_w2:w1.heap.size≤w2.heap.size:=hb.size
 have B7:=hid (bthen B6.out hb)
 have M7:=hid (M6.out.below hb)
 have C7:=hid (C6.out.below hb)
 have P7:=hid (P6.out.below hb)
 have Q7:=hid (Q6.out.below hb)
 clear B6 M6 C6 P6 Q6
 have zzw2:w1.heap.size≤w2.heap.size:=hb.size
 clear hb
 obtain ⟨yM0,yM1⟩:=M7.out.a2
 have hlM:(w.heap.size)<w2.heap.size:=M7.out.1
 obtain ⟨yC0,yC1,yC2,yC3,yC4,yC5⟩:=C7.out.a6
 have hlC:(w.heap.size+1)<w2.heap.size:=C7.out.1
 obtain ⟨yP0,yP1,yP2,yP3,yP4,yP5,yP6,yP7,yP8,yP9,yP10,yP11,yP12,yP13,yP14,yP15⟩:=P7.out.a16
 have hlP:(w.heap.size+1+1)<w2.heap.size:=P7.out.1
 go_wp2_with fail
 clear yM0 yM1 hlM yC0 yC1 yC2 yC3 yC4 yC5 hlC yP0 yP1 yP2 yP3 yP4 yP5 yP6 yP7 yP8 yP9 yP10 yP11 yP12 yP13 yP14 yP15 hlP
 refine (l5In_side c d (R 6) (R 7) (R 8) (R 9) (R 10) (R 11) (R 12) (R 13) (R 14) _ V lo hV hp hs1 hs.out _ (CP.out.below B7.out)).mono ?_
 rintro e w3 ⟨⟨u,rfl,hO3⟩,hb⟩
 rw [HT.out]
 have y_w3:w2.heap.size≤w3.heap.size:=hb.size
 have B8:=hid (bthen B7.out hb)
 have M8:=hid (M7.out.below hb)
 have C8:=hid (C7.out.below hb)
 have P8:=hid (P7.out.below hb)
 have Q8:=hid (Q7.out.below hb)
 clear B7 M7 C7 P7 Q7
 have zzw3:w2.heap.size≤w3.heap.size:=hb.size
 clear hb
 obtain ⟨aW0,kW0,aO0,kO0,aX0,kX0,aI0,kI0,rfl,_,_,_,_⟩:=hO3.at
 clear hO3
 go_upto_region 12 with fail
 obtain ⟨w3b,en,hbx,hX,-⟩:=bx1 w3 [zI (CV.inn c d V (R 6).toNat (R 7) (R 8) (R 9) (R 10) (R 11) (R 12) (R 13) (R 14)).c,.slice aW0 (CV.inn c d V (R 6).toNat (R 7) (R 8) (R 9) (R 10) (R 11) (R 12) (R 13) (R 14)).nW kW0,zI (CV.inn c d V (R 6).toNat (R 7) (R 8) (R 9) (R 10) (R 11) (R 12) (R 13) (R 14)).g,.slice aO0 (CV.inn c d V (R 6).toNat (R 7) (R 8) (R 9) (R 10) (R 11) (R 12) (R 13) (R 14)).nO kO0,.slice aX0 (CV.inn c d V (R 6).toNat (R 7) (R 8) (R 9) (R 10) (R 11) (R 12) (R 13) (R 14)).nX kX0,.slice aI0 (CV.inn c d V (R 6).toNat (R 7) (R 8) (R 9) (R 10) (R 11) (R 12) (R 13) (R 14)).nI kI0] 41
 rw [←en]
 clear en
 have y_w3b:w3.heap.size≤w3b.heap.size:=hbx.size
 have B9:=hid (bthen B8.out hbx)
 have M9:=hid (M8.out.below hbx)
 have C9:=hid (C8.out.below hbx)
 have P9:=hid (P8.out.below hbx)
 have Q9:=hid (Q8.out.below hbx)
 clear B8 M8 C8 P8 Q8
 have zzw3b:w3.heap.size≤w3b.heap.size:=hbx.size
 have X10:Hid (Bk w3b w3.heap.size [zI (CV.inn c d V (R 6).toNat (R 7) (R 8) (R 9) (R 10) (R 11) (R 12) (R 13) (R 14)).c,.slice aW0 (CV.inn c d V (R 6).toNat (R 7) (R 8) (R 9) (R 10) (R 11) (R 12) (R 13) (R 14)).nW kW0,zI (CV.inn c d V (R 6).toNat (R 7) (R 8) (R 9) (R 10) (R 11) (R 12) (R 13) (R 14)).g,.slice aO0 (CV.inn c d V (R 6).toNat (R 7) (R 8) (R 9) (R 10) (R 11) (R 12) (R 13) (R 14)).nO kO0,.slice aX0 (CV.inn c d V (R 6).toNat (R 7) (R 8) (R 9) (R 10) (R 11) (R 12) (R 13) (R 14)).nX kX0,.slice aI0 (CV.inn c d V (R 6).toNat (R 7) (R 8) (R 9) (R 10) (R 11) (R 12) (R 13) (R 14)).nI kI0]):=hX
 clear hX
 clear hbx
 obtain ⟨yC0,yC1,yC2,yC3,yC4,yC5⟩:=C9.out.a6
 have hlC:(w.heap.size+1)<w3b.heap.size:=C9.out.1
 have es:CV.inn c d V (R 6).toNat (R 7) (R 8) (R 9) (R 10) (R 11) (R 12) (R 13) (R 14)=V:=by unfold CV.inn;rw [HT.out];rfl
 have ES:=hid es
 clear es
 go_wp2_with fail
 clear yC0 yC1 yC2 yC3 yC4 yC5 hlC
 refine (copyG_spec _ V hs.out _ (CP.out.below B9.out)).mono ?_
 rintro e w4 ⟨⟨u,rfl,hO,_,_⟩,hb⟩
 have y_w4:w3b.heap.size≤w4.heap.size:=hb.size
 have B11:=hid (bthen B9.out hb)
 have M11:=hid (M9.out.below hb)
 have C11:=hid (C9.out.below hb)
 have P11:=hid (P9.out.below hb)
 have Q11:=hid (Q9.out.below hb)
 have X11:=hid (X10.out.below hb)
 clear B9 M9 C9 P9 Q9 X10
 have zzw4:w3b.heap.size≤w4.heap.size:=hb.size
 clear hb
 have ER:Hid (applyV c d V R=(V,0,false)):=by unfold Hid applyV;rw [if_neg (show ¬ logR c d R=false by rw [HL.out];simp)];rw [if_neg (show ¬ R 0=1 by omega),if_neg HN.out,if_pos hk,HT.out];rw [ES.out]
 obtain ⟨aW,kW,aO,kO,aX,kX,aI,kI,rfl,_,_,_,_⟩:=hO.at
 have O6:=hid hO
 clear hO
 obtain ⟨yQ0,yQ1,yQ2,yQ3,yQ4,yQ5⟩:=Q11.out.a6
 obtain ⟨zQ0,zQ1,zQ2,zQ3,zQ4,zQ5⟩:=Q11.out.f6
 have hlQ:(w.heap.size+1+1+1)<w4.heap.size:=Q11.out.1
 go_wp2
 refine bodyPost_ret (v:=.tuple #[.agg (zD V aW kW aO kO aX kX aI kI).toArray,zI 0,.bool false]) (by simp [results,Tryz.results42,go_sem,yQ0,yQ1,yQ2,yQ3,yQ4,yQ5]) rfl ?_
 have hzz:=size_put6 w4 (w.heap.size+1+1+1) (.int .i64 V.c) (.slice aW V.nW kW) (.int .i64 V.g) (.slice aO V.nO kO) (.slice aX V.nX kX) (.slice aI V.nI kI)
 refine ⟨⟨_,by rw [ER.out],?_⟩,?_⟩
 ·show OwnC w.heap.size (put6 w4 (w.heap.size+1+1+1) (zI V.c) (.slice aW V.nW kW) (zI V.g) (.slice aO V.nO kO) (.slice aX V.nX kX) (.slice aI V.nI kI)).heap.size (put6 w4 (w.heap.size+1+1+1) (zI V.c) (.slice aW V.nW kW) (zI V.g) (.slice aO V.nO kO) (.slice aX V.nX kX) (.slice aI V.nI kI)) _ _
  rw [hzz,ER.out]
  exact (O6.out.sm (Nat.le_of_eq hzz.symm) (fun x g1 g2=>sm_put6 (by omega) (zI V.c) (.slice aW V.nW kW) (zI V.g) (.slice aO V.nO kO) (.slice aX V.nX kX) (.slice aI V.nI kI))).wide (by omega) (by omega) (by omega)
 ·exact below_put6 B11.out (by omega) _ _ _ _ _ _
set_option maxHeartbeats 8000000 in
theorem l6_no3 (c d:Int) (v:Value) (V:CV) (lo:Nat) (R:Nat→Int) (hs0:V.short 1048576) (hlog:logR c d R=true) (hk:R 0=3) (hno:sideF c d V.c (R 6)=-1) (w:World) (h:CellG w v V) :
 Calls Tryz.prog 42 #[.agg #[zI c,zI d],v,rv R] w fun e w'=>(∃ u,e=.returned (.tuple #[u,zI (applyV c d V R).2.1,.bool (applyV c d V R).2.2])∧OwnC w.heap.size w'.heap.size w' u (applyV c d V R).1)∧Below w.heap.size w w':=by
 unfold rv
 have HL:=hid hlog
 clear hlog
 have HK:=hid hk
 clear hk
 obtain ⟨aW9,bO,bX,bI,cW,cO,cX,cI,q2,q3,q4,rfl,g1,g2,g3,g4⟩:=h
 have CP:Hid (CellG w (.agg (zG V aW9 cW bO cO bX cX bI cI).toArray) V):=⟨aW9,bO,bX,bI,cW,cO,cX,cI,q2,q3,q4,rfl,g1,g2,g3,g4⟩
 have hs:=hid hs0
 clear g1 g2 g3 g4 hs0 q2 q3 q4
 go_enter Tryz.func42,Tryz.ntmps42
 go_wp2_with fail
 obtain ⟨w0,e0,hB0,hM0,hC0,hP0,hQ0,hz0⟩:=bx4 w [zI c,zI d] 44 (zG V aW9 cW bO cO bX cX bI cI) 41 (zR R) 52 zN 41
 rw [←e0]
 clear e0
 have B1:=hid hB0
 have M2:=hid hM0
 have C3:=hid hC0
 have P4:=hid hP0
 have Q5:=hid hQ0
 clear hB0 hM0 hC0 hP0 hQ0
 obtain ⟨yM0,yM1⟩:=M2.out.a2
 have hlM:(w.heap.size)<w0.heap.size:=M2.out.1
 obtain ⟨yC0,yC1,yC2,yC3,yC4,yC5⟩:=C3.out.a6
 have hlC:(w.heap.size+1)<w0.heap.size:=C3.out.1
 rw [load52_bk P4.out rfl]
 go_wp2_with fail
 clear yM0 yM1 hlM yC0 yC1 yC2 yC3 yC4 yC5 hlC
 refine (logOk_spec c d (R 0) (R 1) (R 2) (R 3) (R 4) (R 5) (R 6) (R 7) (R 8) (R 9) (R 10) (R 11) (R 12) (R 13) (R 14) (R 15) _).mono ?_
 rintro e w1 ⟨rfl,hb⟩
 rw [show logB c d (R 0) (R 1) (R 2) (R 3) (R 4) (R 5) (R 6) (R 7) (R 8) (R 9) (R 10) (R 11) (R 12) (R 13) (R 14) (R 15)=true from HL.out]
 have y_w1:w0.heap.size≤w1.heap.size:=hb.size
 have B6:=hid (bthen B1.out hb)
 have M6:=hid (M2.out.below hb)
 have C6:=hid (C3.out.below hb)
 have P6:=hid (P4.out.below hb)
 have Q6:=hid (Q5.out.below hb)
 clear B1 M2 C3 P4 Q5
 have zzw1:w0.heap.size≤w1.heap.size:=hb.size
 clear hb
 have hk:=HK.out
 have hk1:¬ R 0=1:=by omega
 have HN:=hid hno
 clear hno
 obtain ⟨yM0,yM1⟩:=M6.out.a2
 have hlM:(w.heap.size)<w1.heap.size:=M6.out.1
 obtain ⟨yC0,yC1,yC2,yC3,yC4,yC5⟩:=C6.out.a6
 have hlC:(w.heap.size+1)<w1.heap.size:=C6.out.1
 obtain ⟨yP0,yP1,yP2,yP3,yP4,yP5,yP6,yP7,yP8,yP9,yP10,yP11,yP12,yP13,yP14,yP15⟩:=P6.out.a16
 have hlP:(w.heap.size+1+1)<w1.heap.size:=P6.out.1
 go_wp2_with fail
 clear yM0 yM1 hlM yC0 yC1 yC2 yC3 yC4 yC5 hlC yP0 yP1 yP2 yP3 yP4 yP5 yP6 yP7 yP8 yP9 yP10 yP11 yP12 yP13 yP14 yP15 hlP
 refine (plcSide_spec c d V.c (R 6) _).mono ?_
 rintro e w2 ⟨rfl,hb⟩
 rw [HN.out]
 have y_w2:w1.heap.size≤w2.heap.size:=hb.size
 have B7:=hid (bthen B6.out hb)
 have M7:=hid (M6.out.below hb)
 have C7:=hid (C6.out.below hb)
 have P7:=hid (P6.out.below hb)
 have Q7:=hid (Q6.out.below hb)
 clear B6 M6 C6 P6 Q6
 have zzw2:w1.heap.size≤w2.heap.size:=hb.size
 clear hb
 obtain ⟨yC0,yC1,yC2,yC3,yC4,yC5⟩:=C7.out.a6
 have hlC:(w.heap.size+1)<w2.heap.size:=C7.out.1
 go_wp2_with fail
 clear yC0 yC1 yC2 yC3 yC4 yC5 hlC
 refine (copyG_spec _ V hs.out _ (CP.out.below B7.out)).mono ?_
 rintro e w3 ⟨⟨u,rfl,hO,_,_⟩,hb⟩
 have y_w3:w2.heap.size≤w3.heap.size:=hb.size
 have B8:=hid (bthen B7.out hb)
 have M8:=hid (M7.out.below hb)
 have C8:=hid (C7.out.below hb)
 have P8:=hid (P7.out.below hb)
 have Q8:=hid (Q7.out.below hb)
 clear B7 M7 C7 P7 Q7
 have zzw3:w2.heap.size≤w3.heap.size:=hb.size
 clear hb
 have ER:Hid (applyV c d V R=(V,0,false)):=by unfold Hid applyV;rw [if_neg (show ¬ logR c d R=false by rw [HL.out];simp)];rw [if_neg (show ¬ R 0=1 by omega),if_pos HN.out]
 obtain ⟨aW,kW,aO,kO,aX,kX,aI,kI,rfl,_,_,_,_⟩:=hO.at
 have O6:=hid hO
 clear hO
 obtain ⟨yQ0,yQ1,yQ2,yQ3,yQ4,yQ5⟩:=Q8.out.a6
 obtain ⟨zQ0,zQ1,zQ2,zQ3,zQ4,zQ5⟩:=Q8.out.f6
 have hlQ:(w.heap.size+1+1+1)<w3.heap.size:=Q8.out.1
 go_wp2
 refine bodyPost_ret (v:=.tuple #[.agg (zD V aW kW aO kO aX kX aI kI).toArray,zI 0,.bool false]) (by simp [results,Tryz.results42,go_sem,yQ0,yQ1,yQ2,yQ3,yQ4,yQ5]) rfl ?_
 have hzz:=size_put6 w3 (w.heap.size+1+1+1) (.int .i64 V.c) (.slice aW V.nW kW) (.int .i64 V.g) (.slice aO V.nO kO) (.slice aX V.nX kX) (.slice aI V.nI kI)
 refine ⟨⟨_,by rw [ER.out],?_⟩,?_⟩
 ·show OwnC w.heap.size (put6 w3 (w.heap.size+1+1+1) (zI V.c) (.slice aW V.nW kW) (zI V.g) (.slice aO V.nO kO) (.slice aX V.nX kX) (.slice aI V.nI kI)).heap.size (put6 w3 (w.heap.size+1+1+1) (zI V.c) (.slice aW V.nW kW) (zI V.g) (.slice aO V.nO kO) (.slice aX V.nX kX) (.slice aI V.nI kI)) _ _
  rw [hzz,ER.out]
  exact (O6.out.sm (Nat.le_of_eq hzz.symm) (fun x g1 g2=>sm_put6 (by omega) (zI V.c) (.slice aW V.nW kW) (zI V.g) (.slice aO V.nO kO) (.slice aX V.nX kX) (.slice aI V.nI kI))).wide (by omega) (by omega) (by omega)
 ·exact below_put6 B8.out (by omega) _ _ _ _ _ _
set_option maxHeartbeats 8000000 in
theorem l6_3y (c d:Int) (v:Value) (V:CV) (lo:Nat) (R:Nat→Int) (hs0:V.short 1048576) (hV:cllB c d V=true) (hs1:inB (R 6) 0 1=true) (hlog:logR c d R=true) (hk:R 0=3) (hno:¬ sideF c d V.c (R 6)=-1) (ht:ackB V (R 6).toNat (R 15)=true) (w:World) (h:CellG w v V) :
 Calls Tryz.prog 42 #[.agg #[zI c,zI d],v,rv R] w fun e w'=>(∃ u,e=.returned (.tuple #[u,zI (applyV c d V R).2.1,.bool (applyV c d V R).2.2])∧OwnC w.heap.size w'.heap.size w' u (applyV c d V R).1)∧Below w.heap.size w w':=by
 unfold rv
 have HL:=hid hlog
 clear hlog
 have HK:=hid hk
 clear hk
 obtain ⟨aW9,bO,bX,bI,cW,cO,cX,cI,q2,q3,q4,rfl,g1,g2,g3,g4⟩:=h
 have CP:Hid (CellG w (.agg (zG V aW9 cW bO cO bX cX bI cI).toArray) V):=⟨aW9,bO,bX,bI,cW,cO,cX,cI,q2,q3,q4,rfl,g1,g2,g3,g4⟩
 have hs:=hid hs0
 clear g1 g2 g3 g4 hs0 q2 q3 q4
 go_enter Tryz.func42,Tryz.ntmps42
 go_wp2_with fail
 obtain ⟨w0,e0,hB0,hM0,hC0,hP0,hQ0,hz0⟩:=bx4 w [zI c,zI d] 44 (zG V aW9 cW bO cO bX cX bI cI) 41 (zR R) 52 zN 41
 rw [←e0]
 clear e0
 have B1:=hid hB0
 have M2:=hid hM0
 have C3:=hid hC0
 have P4:=hid hP0
 have Q5:=hid hQ0
 clear hB0 hM0 hC0 hP0 hQ0
 obtain ⟨yM0,yM1⟩:=M2.out.a2
 have hlM:(w.heap.size)<w0.heap.size:=M2.out.1
 obtain ⟨yC0,yC1,yC2,yC3,yC4,yC5⟩:=C3.out.a6
 have hlC:(w.heap.size+1)<w0.heap.size:=C3.out.1
 rw [load52_bk P4.out rfl]
 go_wp2_with fail
 clear yM0 yM1 hlM yC0 yC1 yC2 yC3 yC4 yC5 hlC
 refine (logOk_spec c d (R 0) (R 1) (R 2) (R 3) (R 4) (R 5) (R 6) (R 7) (R 8) (R 9) (R 10) (R 11) (R 12) (R 13) (R 14) (R 15) _).mono ?_
 rintro e w1 ⟨rfl,hb⟩
 rw [show logB c d (R 0) (R 1) (R 2) (R 3) (R 4) (R 5) (R 6) (R 7) (R 8) (R 9) (R 10) (R 11) (R 12) (R 13) (R 14) (R 15)=true from HL.out]
 have y_w1:w0.heap.size≤w1.heap.size:=hb.size
 have B6:=hid (bthen B1.out hb)
 have M6:=hid (M2.out.below hb)
 have C6:=hid (C3.out.below hb)
 have P6:=hid (P4.out.below hb)
 have Q6:=hid (Q5.out.below hb)
 clear B1 M2 C3 P4 Q5
 have zzw1:w0.heap.size≤w1.heap.size:=hb.size
 clear hb
 have hk:=HK.out
 have HT:=hid ht
 clear ht
 have hk1:¬ R 0=1:=by omega
 have HN:=hid hno
 clear hno
 obtain ⟨yM0,yM1⟩:=M6.out.a2
 have hlM:(w.heap.size)<w1.heap.size:=M6.out.1
 obtain ⟨yC0,yC1,yC2,yC3,yC4,yC5⟩:=C6.out.a6
 have hlC:(w.heap.size+1)<w1.heap.size:=C6.out.1
 obtain ⟨yP0,yP1,yP2,yP3,yP4,yP5,yP6,yP7,yP8,yP9,yP10,yP11,yP12,yP13,yP14,yP15⟩:=P6.out.a16
 have hlP:(w.heap.size+1+1)<w1.heap.size:=P6.out.1
 go_wp2_with fail
 clear yM0 yM1 hlM yC0 yC1 yC2 yC3 yC4 yC5 hlC yP0 yP1 yP2 yP3 yP4 yP5 yP6 yP7 yP8 yP9 yP10 yP11 yP12 yP13 yP14 yP15 hlP
 refine (plcSide_spec c d V.c (R 6) _).mono ?_
 rintro e w2 ⟨rfl,hb⟩
 obtain ⟨sf,esf⟩:∃ z,z=sideF c d V.c (R 6):=⟨_,rfl⟩
 rw [←esf]
 have hsf:¬ sf=-1:=by rw [esf];exact HN.out
 clear esf
 have y_w2:w1.heap.size≤w2.heap.size:=hb.size
 have B7:=hid (bthen B6.out hb)
 have M7:=hid (M6.out.below hb)
 have C7:=hid (C6.out.below hb)
 have P7:=hid (P6.out.below hb)
 have Q7:=hid (Q6.out.below hb)
 clear B6 M6 C6 P6 Q6
 have zzw2:w1.heap.size≤w2.heap.size:=hb.size
 clear hb
 obtain ⟨yM0,yM1⟩:=M7.out.a2
 have hlM:(w.heap.size)<w2.heap.size:=M7.out.1
 obtain ⟨yC0,yC1,yC2,yC3,yC4,yC5⟩:=C7.out.a6
 have hlC:(w.heap.size+1)<w2.heap.size:=C7.out.1
 obtain ⟨yP0,yP1,yP2,yP3,yP4,yP5,yP6,yP7,yP8,yP9,yP10,yP11,yP12,yP13,yP14,yP15⟩:=P7.out.a16
 have hlP:(w.heap.size+1+1)<w2.heap.size:=P7.out.1
 go_wp2_with fail
 clear yM0 yM1 hlM yC0 yC1 yC2 yC3 yC4 yC5 hlC yP0 yP1 yP2 yP3 yP4 yP5 yP6 yP7 yP8 yP9 yP10 yP11 yP12 yP13 yP14 yP15 hlP
 refine (l5Ack_side c d (R 6) (R 15) _ V lo hV hs1 hs.out _ (CP.out.below B7.out)).mono ?_
 rintro e w3 ⟨⟨u,rfl,hO3⟩,hb⟩
 rw [HT.out]
 have y_w3:w2.heap.size≤w3.heap.size:=hb.size
 have B8:=hid (bthen B7.out hb)
 have M8:=hid (M7.out.below hb)
 have C8:=hid (C7.out.below hb)
 have P8:=hid (P7.out.below hb)
 have Q8:=hid (Q7.out.below hb)
 clear B7 M7 C7 P7 Q7
 have zzw3:w2.heap.size≤w3.heap.size:=hb.size
 clear hb
 have ER:Hid (applyV c d V R=(V.after (R 6).toNat (R 15),0,true)):=by unfold Hid applyV;rw [if_neg (show ¬ logR c d R=false by rw [HL.out];simp)];rw [if_neg (show ¬ R 0=1 by omega),if_neg HN.out,if_neg (show ¬ R 0=2 by omega),HT.out]
 obtain ⟨U,eU⟩:∃ U,U=V.after (R 6).toNat (R 15):=⟨_,rfl⟩
 rw [←eU] at hO3 ER
 clear eU
 obtain ⟨aW,kW,aO,kO,aX,kX,aI,kI,rfl,_,_,_,_⟩:=hO3.at
 have O6:=hid hO3
 clear hO3
 go_upto_region 17 with fail
 obtain ⟨w3b,en,hbx,hX,-⟩:=bx1 w3 (zD U aW kW aO kO aX kX aI kI) 41
 rw [←en]
 clear en
 have y_w3b:w3.heap.size≤w3b.heap.size:=hbx.size
 have B9:=hid (bthen B8.out hbx)
 have M9:=hid (M8.out.below hbx)
 have C9:=hid (C8.out.below hbx)
 have P9:=hid (P8.out.below hbx)
 have Q9:=hid (Q8.out.below hbx)
 clear B8 M8 C8 P8 Q8
 have zzw3b:w3.heap.size≤w3b.heap.size:=hbx.size
 have X10:Hid (Bk w3b w3.heap.size (zD U aW kW aO kO aX kX aI kI)):=hX
 clear hX
 have O7:=hid (OwnC.below O6.out (by omega) hbx)
 clear O6 hbx
 obtain ⟨yX0,yX1,yX2,yX3,yX4,yX5⟩:=X10.out.a6
 have hlX:w3.heap.size<w3b.heap.size:=X10.out.1
 obtain ⟨yQ0,yQ1,yQ2,yQ3,yQ4,yQ5⟩:=Q9.out.a6
 obtain ⟨zQ0,zQ1,zQ2,zQ3,zQ4,zQ5⟩:=Q9.out.f6
 have hlQ:(w.heap.size+1+1+1)<w3b.heap.size:=Q9.out.1
 go_wp2
 refine bodyPost_ret (v:=.tuple #[.agg (zD U aW kW aO kO aX kX aI kI).toArray,zI 0,.bool true]) (by simp [results,Tryz.results42,go_sem,yQ0,yQ1,yQ2,yQ3,yQ4,yQ5]) rfl ?_
 have hzz:=size_put6 w3b (w.heap.size+1+1+1) (.int .i64 U.c) (.slice aW U.nW kW) (.int .i64 U.g) (.slice aO U.nO kO) (.slice aX U.nX kX) (.slice aI U.nI kI)
 refine ⟨⟨_,by rw [ER.out],?_⟩,?_⟩
 ·show OwnC w.heap.size (put6 w3b (w.heap.size+1+1+1) (zI U.c) (.slice aW U.nW kW) (zI U.g) (.slice aO U.nO kO) (.slice aX U.nX kX) (.slice aI U.nI kI)).heap.size (put6 w3b (w.heap.size+1+1+1) (zI U.c) (.slice aW U.nW kW) (zI U.g) (.slice aO U.nO kO) (.slice aX U.nX kX) (.slice aI U.nI kI)) _ _
  rw [hzz,ER.out]
  exact (O7.out.sm (Nat.le_of_eq hzz.symm) (fun x g1 g2=>sm_put6 (by omega) (zI U.c) (.slice aW U.nW kW) (zI U.g) (.slice aO U.nO kO) (.slice aX U.nX kX) (.slice aI U.nI kI))).wide (by omega) (by omega) (by omega)
 ·exact below_put6 B9.out (by omega) _ _ _ _ _ _
set_option maxHeartbeats 8000000 in
theorem l6_3n (c d:Int) (v:Value) (V:CV) (lo:Nat) (R:Nat→Int) (hs0:V.short 1048576) (hV:cllB c d V=true) (hs1:inB (R 6) 0 1=true) (hlog:logR c d R=true) (hk:R 0=3) (hno:¬ sideF c d V.c (R 6)=-1) (ht:ackB V (R 6).toNat (R 15)=false) (w:World) (h:CellG w v V) :
 Calls Tryz.prog 42 #[.agg #[zI c,zI d],v,rv R] w fun e w'=>(∃ u,e=.returned (.tuple #[u,zI (applyV c d V R).2.1,.bool (applyV c d V R).2.2])∧OwnC w.heap.size w'.heap.size w' u (applyV c d V R).1)∧Below w.heap.size w w':=by
 unfold rv
 have HL:=hid hlog
 clear hlog
 have HK:=hid hk
 clear hk
 obtain ⟨aW9,bO,bX,bI,cW,cO,cX,cI,q2,q3,q4,rfl,g1,g2,g3,g4⟩:=h
 have CP:Hid (CellG w (.agg (zG V aW9 cW bO cO bX cX bI cI).toArray) V):=⟨aW9,bO,bX,bI,cW,cO,cX,cI,q2,q3,q4,rfl,g1,g2,g3,g4⟩
 have hs:=hid hs0
 clear g1 g2 g3 g4 hs0 q2 q3 q4
 go_enter Tryz.func42,Tryz.ntmps42
 go_wp2_with fail
 obtain ⟨w0,e0,hB0,hM0,hC0,hP0,hQ0,hz0⟩:=bx4 w [zI c,zI d] 44 (zG V aW9 cW bO cO bX cX bI cI) 41 (zR R) 52 zN 41
 rw [←e0]
 clear e0
 have B1:=hid hB0
 have M2:=hid hM0
 have C3:=hid hC0
 have P4:=hid hP0
 have Q5:=hid hQ0
 clear hB0 hM0 hC0 hP0 hQ0
 obtain ⟨yM0,yM1⟩:=M2.out.a2
 have hlM:(w.heap.size)<w0.heap.size:=M2.out.1
 obtain ⟨yC0,yC1,yC2,yC3,yC4,yC5⟩:=C3.out.a6
 have hlC:(w.heap.size+1)<w0.heap.size:=C3.out.1
 rw [load52_bk P4.out rfl]
 go_wp2_with fail
 clear yM0 yM1 hlM yC0 yC1 yC2 yC3 yC4 yC5 hlC
 refine (logOk_spec c d (R 0) (R 1) (R 2) (R 3) (R 4) (R 5) (R 6) (R 7) (R 8) (R 9) (R 10) (R 11) (R 12) (R 13) (R 14) (R 15) _).mono ?_
 rintro e w1 ⟨rfl,hb⟩
 rw [show logB c d (R 0) (R 1) (R 2) (R 3) (R 4) (R 5) (R 6) (R 7) (R 8) (R 9) (R 10) (R 11) (R 12) (R 13) (R 14) (R 15)=true from HL.out]
 have y_w1:w0.heap.size≤w1.heap.size:=hb.size
 have B6:=hid (bthen B1.out hb)
 have M6:=hid (M2.out.below hb)
 have C6:=hid (C3.out.below hb)
 have P6:=hid (P4.out.below hb)
 have Q6:=hid (Q5.out.below hb)
 clear B1 M2 C3 P4 Q5
 have zzw1:w0.heap.size≤w1.heap.size:=hb.size
 clear hb
 have hk:=HK.out
 have HT:=hid ht
 clear ht
 have hk1:¬ R 0=1:=by omega
 have HN:=hid hno
 clear hno
 obtain ⟨yM0,yM1⟩:=M6.out.a2
 have hlM:(w.heap.size)<w1.heap.size:=M6.out.1
 obtain ⟨yC0,yC1,yC2,yC3,yC4,yC5⟩:=C6.out.a6
 have hlC:(w.heap.size+1)<w1.heap.size:=C6.out.1
 obtain ⟨yP0,yP1,yP2,yP3,yP4,yP5,yP6,yP7,yP8,yP9,yP10,yP11,yP12,yP13,yP14,yP15⟩:=P6.out.a16
 have hlP:(w.heap.size+1+1)<w1.heap.size:=P6.out.1
 go_wp2_with fail
 clear yM0 yM1 hlM yC0 yC1 yC2 yC3 yC4 yC5 hlC yP0 yP1 yP2 yP3 yP4 yP5 yP6 yP7 yP8 yP9 yP10 yP11 yP12 yP13 yP14 yP15 hlP
 refine (plcSide_spec c d V.c (R 6) _).mono ?_
 rintro e w2 ⟨rfl,hb⟩
 obtain ⟨sf,esf⟩:∃ z,z=sideF c d V.c (R 6):=⟨_,rfl⟩
 rw [←esf]
 have hsf:¬ sf=-1:=by rw [esf];exact HN.out
 clear esf
 have y_w2:w1.heap.size≤w2.heap.size:=hb.size
 have B7:=hid (bthen B6.out hb)
 have M7:=hid (M6.out.below hb)
 have C7:=hid (C6.out.below hb)
 have P7:=hid (P6.out.below hb)
 have Q7:=hid (Q6.out.below hb)
 clear B6 M6 C6 P6 Q6
 have zzw2:w1.heap.size≤w2.heap.size:=hb.size
 clear hb
 obtain ⟨yM0,yM1⟩:=M7.out.a2
 have hlM:(w.heap.size)<w2.heap.size:=M7.out.1
 obtain ⟨yC0,yC1,yC2,yC3,yC4,yC5⟩:=C7.out.a6
 have hlC:(w.heap.size+1)<w2.heap.size:=C7.out.1
 obtain ⟨yP0,yP1,yP2,yP3,yP4,yP5,yP6,yP7,yP8,yP9,yP10,yP11,yP12,yP13,yP14,yP15⟩:=P7.out.a16
 have hlP:(w.heap.size+1+1)<w2.heap.size:=P7.out.1
 go_wp2_with fail
 clear yM0 yM1 hlM yC0 yC1 yC2 yC3 yC4 yC5 hlC yP0 yP1 yP2 yP3 yP4 yP5 yP6 yP7 yP8 yP9 yP10 yP11 yP12 yP13 yP14 yP15 hlP
 refine (l5Ack_side c d (R 6) (R 15) _ V lo hV hs1 hs.out _ (CP.out.below B7.out)).mono ?_
 rintro e w3 ⟨⟨u,rfl,hO3⟩,hb⟩
 rw [HT.out]
 have y_w3:w2.heap.size≤w3.heap.size:=hb.size
 have B8:=hid (bthen B7.out hb)
 have M8:=hid (M7.out.below hb)
 have C8:=hid (C7.out.below hb)
 have P8:=hid (P7.out.below hb)
 have Q8:=hid (Q7.out.below hb)
 clear B7 M7 C7 P7 Q7
 have zzw3:w2.heap.size≤w3.heap.size:=hb.size
 clear hb
 obtain ⟨aW0,kW0,aO0,kO0,aX0,kX0,aI0,kI0,rfl,_,_,_,_⟩:=hO3.at
 clear hO3
 go_upto_region 16 with fail
 obtain ⟨w3b,en,hbx,hX,-⟩:=bx1 w3 [zI (V.after (R 6).toNat (R 15)).c,.slice aW0 (V.after (R 6).toNat (R 15)).nW kW0,zI (V.after (R 6).toNat (R 15)).g,.slice aO0 (V.after (R 6).toNat (R 15)).nO kO0,.slice aX0 (V.after (R 6).toNat (R 15)).nX kX0,.slice aI0 (V.after (R 6).toNat (R 15)).nI kI0] 41
 rw [←en]
 clear en
 have y_w3b:w3.heap.size≤w3b.heap.size:=hbx.size
 have B9:=hid (bthen B8.out hbx)
 have M9:=hid (M8.out.below hbx)
 have C9:=hid (C8.out.below hbx)
 have P9:=hid (P8.out.below hbx)
 have Q9:=hid (Q8.out.below hbx)
 clear B8 M8 C8 P8 Q8
 have zzw3b:w3.heap.size≤w3b.heap.size:=hbx.size
 have X10:Hid (Bk w3b w3.heap.size [zI (V.after (R 6).toNat (R 15)).c,.slice aW0 (V.after (R 6).toNat (R 15)).nW kW0,zI (V.after (R 6).toNat (R 15)).g,.slice aO0 (V.after (R 6).toNat (R 15)).nO kO0,.slice aX0 (V.after (R 6).toNat (R 15)).nX kX0,.slice aI0 (V.after (R 6).toNat (R 15)).nI kI0]):=hX
 clear hX
 clear hbx
 obtain ⟨yC0,yC1,yC2,yC3,yC4,yC5⟩:=C9.out.a6
 have hlC:(w.heap.size+1)<w3b.heap.size:=C9.out.1
 have es:V.after (R 6).toNat (R 15)=V:=by unfold CV.after;rw [HT.out];rfl
 have ES:=hid es
 clear es
 go_wp2_with fail
 clear yC0 yC1 yC2 yC3 yC4 yC5 hlC
 refine (copyG_spec _ V hs.out _ (CP.out.below B9.out)).mono ?_
 rintro e w4 ⟨⟨u,rfl,hO,_,_⟩,hb⟩
 have y_w4:w3b.heap.size≤w4.heap.size:=hb.size
 have B11:=hid (bthen B9.out hb)
 have M11:=hid (M9.out.below hb)
 have C11:=hid (C9.out.below hb)
 have P11:=hid (P9.out.below hb)
 have Q11:=hid (Q9.out.below hb)
 have X11:=hid (X10.out.below hb)
 clear B9 M9 C9 P9 Q9 X10
 have zzw4:w3b.heap.size≤w4.heap.size:=hb.size
 clear hb
 have ER:Hid (applyV c d V R=(V,0,false)):=by unfold Hid applyV;rw [if_neg (show ¬ logR c d R=false by rw [HL.out];simp)];rw [if_neg (show ¬ R 0=1 by omega),if_neg HN.out,if_neg (show ¬ R 0=2 by omega),HT.out];rw [ES.out]
 obtain ⟨aW,kW,aO,kO,aX,kX,aI,kI,rfl,_,_,_,_⟩:=hO.at
 have O6:=hid hO
 clear hO
 obtain ⟨yQ0,yQ1,yQ2,yQ3,yQ4,yQ5⟩:=Q11.out.a6
 obtain ⟨zQ0,zQ1,zQ2,zQ3,zQ4,zQ5⟩:=Q11.out.f6
 have hlQ:(w.heap.size+1+1+1)<w4.heap.size:=Q11.out.1
 go_wp2
 refine bodyPost_ret (v:=.tuple #[.agg (zD V aW kW aO kO aX kX aI kI).toArray,zI 0,.bool false]) (by simp [results,Tryz.results42,go_sem,yQ0,yQ1,yQ2,yQ3,yQ4,yQ5]) rfl ?_
 have hzz:=size_put6 w4 (w.heap.size+1+1+1) (.int .i64 V.c) (.slice aW V.nW kW) (.int .i64 V.g) (.slice aO V.nO kO) (.slice aX V.nX kX) (.slice aI V.nI kI)
 refine ⟨⟨_,by rw [ER.out],?_⟩,?_⟩
 ·show OwnC w.heap.size (put6 w4 (w.heap.size+1+1+1) (zI V.c) (.slice aW V.nW kW) (zI V.g) (.slice aO V.nO kO) (.slice aX V.nX kX) (.slice aI V.nI kI)).heap.size (put6 w4 (w.heap.size+1+1+1) (zI V.c) (.slice aW V.nW kW) (zI V.g) (.slice aO V.nO kO) (.slice aX V.nX kX) (.slice aI V.nI kI)) _ _
  rw [hzz,ER.out]
  exact (O6.out.sm (Nat.le_of_eq hzz.symm) (fun x g1 g2=>sm_put6 (by omega) (zI V.c) (.slice aW V.nW kW) (zI V.g) (.slice aO V.nO kO) (.slice aX V.nX kX) (.slice aI V.nI kI))).wide (by omega) (by omega) (by omega)
 ·exact below_put6 B11.out (by omega) _ _ _ _ _ _
theorem l6Apply_spec (c d:Int) (v:Value) (V:CV) (lo:Nat) (R:Nat→Int) (hs0:V.short 1048576) (hV:cllB c d V=true) (w:World) (h:CellG w v V) :
 Calls Tryz.prog 42 #[.agg #[zI c,zI d],v,rv R] w fun e w'=>(∃ u,e=.returned (.tuple #[u,zI (applyV c d V R).2.1,.bool (applyV c d V R).2.2])∧OwnC w.heap.size w'.heap.size w' u (applyV c d V R).1)∧Below w.heap.size w w':=by
 cases hlog:logR c d R
 ·exact l6_bad c d v V lo R hs0 hlog w h
 rcases logR_kinds hlog with ⟨hk,hO⟩ | ⟨hk,hs,hp⟩ | ⟨hk,hs,hn⟩
 ·cases hf:freshB V (R 1) (R 2)
  ·exact l6_old c d v V lo R hs0 (cllB_rise hV) hlog hk hf w h
  ·exact l6_do c d v V lo R hs0 hV hO hlog hk hf w h
 ·by_cases hno:sideF c d V.c (R 6)=-1
  ·exact l6_no2 c d v V lo R hs0 hlog hk hno w h
  ·cases ht:takeB c d V (mapW V.W V.nW) (R 6).toNat (R 7) (R 8) (R 9) (R 10) (R 14)
   ·exact l6_2n c d v V lo R hs0 hV hs hp hlog hk hno ht w h
   ·exact l6_2y c d v V lo R hs0 hV hs hp hlog hk hno ht w h
 ·by_cases hno:sideF c d V.c (R 6)=-1
  ·exact l6_no3 c d v V lo R hs0 hlog hk hno w h
  ·cases ht:ackB V (R 6).toNat (R 15)
   ·exact l6_3n c d v V lo R hs0 hV hs hlog hk hno ht w h
   ·exact l6_3y c d v V lo R hs0 hV hs hlog hk hno ht w h
