/- The program's StoAppend answers as the model's; conditions: the store lies in memory. -/
import Derived.Test.YtngaboipleimcaaGreatDoorGJ
import Derived.Deep.DeepCutAuto
set_option linter.unusedVariables false
set_option maxHeartbeats 8000000
set_option maxRecDepth 20000
namespace Go.Proofs.YtngaboipleimcaaGreatDoor
open Go.RowKit Go.Deep
theorem lZ {V:CV} (h:V.short 1048576):V.short 2000000:=by
 obtain ⟨h1,h2,h3,h4,h5⟩:=h
 exact ⟨by omega,by omega,fun k hk=>by have:=h3 k hk;omega,by omega,by omega⟩
theorem Jk (c d a:Int) (V:CV) (n:Nat) (Z:Nat→Nat→Int) (g p:Int) (R:Nat→Int) (hs:V.short 1048576) (hf:V.few) (hn:n≤1048576):(Ja c d a V n Z g p R).V.short 1048576∧(Ja c d a V n Z g p R).V.few∧(Ja c d a V n Z g p R).n≤1048576:=by
 have hz:CV.zero.short 1048576:=⟨by decide,by decide,fun k hk=>by simp [CV.zero],by decide,by decide⟩
 unfold Ja
 split
 ·rename_i h1
  simp only [mF,Bool.and_eq_true,decide_eq_true_eq] at h1
  repeat' split
  all_goals first | exact ⟨hs,hf,hn⟩ | exact ⟨hs,hf,by show n+1≤1048576;omega⟩
 ·exact ⟨hz,uT (V:=CV.zero) hz (by decide),Nat.zero_le _⟩
theorem Jh (R:Nat→Int) (w:World):Hz 13 #[.agg (zR R).toArray] w fun e w'=>e=.returned (rv R)∧Below w.heap.size w w':=Gm _ _ _ _ _ _ _ _ _ _ _ _ _ _ _ _ w
attribute [local go_sem ↓] Ji
theorem Jf (c d a g p:Int) (R:Nat→Int) (V:CV) (Z:Nat→Nat→Int) (aW:Option Addr) (kW:Nat) (aO:Option Addr) (kO:Nat) (aX:Option Addr) (kX:Nat) (aI:Option Addr) (kI:Nat) (aR:Option Addr) (nR kR:Nat) (hs0:V.short maxLen) (hn:nR≤maxLen) (hwf0:∀ k,k<V.nW→(Lit.int .i64 (V.W k 0)).wf=true) (hwR0:∀ k j,k<nR→j<16→(Lit.int .i64 (Z k j)).wf=true) (hwr0:∀ j,j<16→(Lit.int .i64 (R j)).wf=true) (w:World)
 (hg00:w.cell? (zA 0 0)=some (.iface 226 (.agg #[zP 1 199]))) (h0:iO w (.agg (zD V aW kW aO kO aX kX aI kI).toArray) V) (hR0:P16.qA w aR nR Z) :
 Hz 8 #[.agg #[zI c,zI d],Am a (zD V aW kW aO kO aX kX aI kI) (.slice aR nR kR),zI g,zI p,.agg (zR R).toArray] w fun e w'=>e=.returned (.bool true)∧Below w.heap.size w w':=by
 have hs:=hid hs0
 have hwf:=hid hwf0
 have hwR:=hid hwR0
 have hwr:=hid hwr0
 have hg0:=hid hg00
 have hpos:0<w.heap.size:=World.block_lt_of_cell? w (zA 0 0) hg00
 have HC:=hid h0
 have HR:=hid hR0
 clear hs0 hwf0 hwR0 hwr0 hg00 h0 hR0
 go_enter Tryz.func8,Tryz.ntmps8
 go_wp2_with fail
 obtain ⟨w0,e0,B1,M1,S1,K1,hz0⟩:=Ff w [zI c,zI d] 23 [zI a,zI V.c,.slice aW V.nW kW,zI V.g,.slice aO V.nO kO,.slice aX V.nX kX,.slice aI V.nI kI,.slice aR nR kR] 67 (zR R) 36
 rw [←e0]
 clear e0
 refine (DT a V aW kW aO kO aX kX aI kI aR nR kR hs.out hn _ (dw HC.out B1.out)).mono ?_
 rintro e w1 ⟨⟨r,rfl,hr⟩,hb⟩
 have kz1:=hb.size
 have B2:=hid (ah B1.out hb)
 have M2:=hid (M1.out.below hb)
 have S2:=hid (S1.out.below hb)
 have K2:=hid (K1.out.below hb)
 clear B1 M1 S1 K1 hb
 rcases hr with hr | ⟨r0,r1,r2,r3⟩
 ·go_wp2
  go_ret
  exact ⟨rfl,B2.out⟩
 have hSm:=hid r2
 have hS:=hid (And.intro r1 r3)
 clear r1 r2 r3 hs
 have HV:Hid V.few:=uT hS.out.1 hSm.out
 have HF:=hid (Jk c d a V nR Z g p R hS.out.1 HV.out hS.out.2)
 obtain ⟨A,hA⟩:∃ x,(Ja c d a V nR Z g p R).a=x:=⟨_,rfl⟩
 obtain ⟨U,hU⟩:∃ x,(Ja c d a V nR Z g p R).V=x:=⟨_,rfl⟩
 obtain ⟨N,hN⟩:∃ x,(Ja c d a V nR Z g p R).n=x:=⟨_,rfl⟩
 obtain ⟨ZZ,hZ⟩:∃ x,(Ja c d a V nR Z g p R).Z=x:=⟨_,rfl⟩
 obtain ⟨KK,hT⟩:∃ x,(Ja c d a V nR Z g p R).k=x:=⟨_,rfl⟩
 rw [hU,hN] at HF
 have HU:Hid (U.short 1048576∧U.few):=⟨HF.out.1,HF.out.2.1⟩
 have hN2:N≤1048576:=HF.out.2.2
 have EA:=hid hA
 have EU:=hid hU
 have EN:=hid hN
 have ET:=hid hT
 have EZ:=hid hZ
 clear hA hU hN hT hZ HF
 obtain ⟨m0,m1⟩:=M2.out.a2
 have hlM:w.heap.size<w1.heap.size:=M2.out.1
 obtain ⟨y0,y1,y2,y3,y4,y5,y6,y7⟩:=S2.out.a8
 have hlS:w.heap.size+1<w1.heap.size:=S2.out.1
 go_upto_region 5 with fail
 go_cut [12,13] (fun s t wx=>∃ C l h p1 q1 p2 q2 p3 q3 p4 q4 p5 q5,zP C 0=s∧zI KK=t∧Bk wx C [zI A,zI U.c,.slice p1 U.nW q1,zI U.g,.slice p2 U.nO q2,.slice p3 U.nX q3,.slice p4 U.nI q4,.slice p5 N q5]∧Ih l h wx (.agg [zI A,zI U.c,.slice p1 U.nW q1,zI U.g,.slice p2 U.nO q2,.slice p3 U.nX q3,.slice p4 U.nI q4,.slice p5 N q5].toArray) A U N ZZ∧((w1.heap.size≤C∧C<wx.heap.size)∧(w1.heap.size≤l∧l≤h∧h≤wx.heap.size)∧(C<l∨h≤C))∧Below w1.heap.size w1 wx)
 case first=>
  refine Hu (S:=fun w'=>Below (w1.heap.size) w1 w') (by kernel_rfl) ((Hr _ _).drew) ?_
  intro af
  obtain ⟨X,hX⟩:∃ X,X=w1.drew:=⟨_,rfl⟩
  have hz1:w1.heap.size≤X.heap.size:=by rw [hX];exact Ho _
  rw [←hX] at af ⊢
  clear hX
  refine bF 0 (.agg #[zI c,zI d]) rfl ?_
  refine bF 2 (Am a (zD V aW kW aO kO aX kX aI kI) (.slice aR nR kR)) rfl ?_
  refine bF 4 (zI g) rfl ?_
  refine bF 5 (zI p) rfl ?_
  refine dY 6 (.agg (zR R).toArray) rfl ?_ ?_
  ·intro wx hSw;obtain ⟨hcS,hfS⟩:=iZ hSw;have hl:=Jc (K2.out.below hSw) rfl;go_simp
  try simp only [aT]
  all_goals first | (guard_hyp Y;refine di 1 rfl fun K hK=>?_) | refine y9 [1,12] (AllReadyH.cons rfl (fun K hK=>?_) (AllReadyH.cons rfl (fun K hK=>?alp0) AllReadyH.nil))
  case' alp0=>
   go_simp
   obtain ⟨C,eC⟩:∃ x,x=X.heap.size:=⟨_,rfl⟩
   obtain ⟨X,eA,hb,hY,kzA⟩:=bx1 X z8 71
   rw [←eA]
   have kz:=hb.size
   rw [←eC] at hY ⊢
   have Y:=hid hY
   have C1:=Hl eC
   have C2:=Hl eC.symm
   clear eA eC hY
   refine hK.out _ _ (bJ af (by omega) hb) (fun ai=>?_)
   replace af:=ai
   clear hK K ai
   try simp only [aT]
   clear hb
   refine di 1 rfl fun K hK=>?_
  all_goals
   go_simp
   go_wp2_with fail
   refine (uy c d _).mono ?_
   rintro e X ⟨rfl,hb⟩
   have kz:=hb.size
   try replace Y:=hid (Y.out.below hb)
   refine hK.out _ _ (bJ af (by omega) hb) (fun ai=>?_)
   replace af:=ai
   clear hK K ai
   try simp only [aT]
   clear hb
  all_goals first | (guard_hyp Y;refine di 3 rfl fun K hK=>?_) | refine y9 [3,12] (AllReadyH.cons rfl (fun K hK=>?_) (AllReadyH.cons rfl (fun K hK=>?alp1) AllReadyH.nil))
  case' alp1=>
   go_simp
   obtain ⟨C,eC⟩:∃ x,x=X.heap.size:=⟨_,rfl⟩
   obtain ⟨X,eA,hb,hY,kzA⟩:=bx1 X z8 71
   rw [←eA]
   have kz:=hb.size
   rw [←eC] at hY ⊢
   have Y:=hid hY
   have C1:=Hl eC
   have C2:=Hl eC.symm
   clear eA eC hY
   refine hK.out _ _ (bJ af (by omega) hb) (fun ai=>?_)
   replace af:=ai
   clear hK K ai
   try simp only [aT]
   clear hb
   refine di 3 rfl fun K hK=>?_
  all_goals
   go_simp
   go_wp2_with fail
   refine (jV a V Z aW kW aO kO aX kX aI kI aR nR kR hS.out.1 hS.out.2 _ (dw HC.out (ah B2.out af)) (P16.iL HR.out (ah B2.out af))).mono ?_
   rintro e X ⟨⟨bW,bO,bX,bI,bR,rfl,hC,hbR,hOR,hO1,hO2⟩,hb⟩
   clear hO1 hO2
   have kz:=hb.size
   try replace Y:=hid (Y.out.below hb)
   have CB:=hid hC
   have OR:=hid hOR
   clear hC hOR
   refine hK.out _ _ (bJ af (by omega) hb) (fun ai=>?_)
   replace af:=ai
   clear hK K ai
   try simp only [aT]
   clear hb
  all_goals first | (guard_hyp Y;refine di 7 rfl fun K hK=>?_) | refine y9 [7,12] (AllReadyH.cons rfl (fun K hK=>?_) (AllReadyH.cons rfl (fun K hK=>?alp2) AllReadyH.nil))
  case' alp2=>
   go_simp
   obtain ⟨C,eC⟩:∃ x,x=X.heap.size:=⟨_,rfl⟩
   obtain ⟨X,eA,hb,hY,kzA⟩:=bx1 X z8 71
   rw [←eA]
   have kz:=hb.size
   replace CB:=hid (CB.out.below hb)
   replace OR:=hid (P16.own_below OR.out hbR hb)
   replace hbR:=Hg hbR kz
   rw [←eC] at hY ⊢
   have Y:=hid hY
   have C1:=Hl eC
   have C2:=Hl eC.symm
   clear eA eC hY
   refine hK.out _ _ (bJ af (by omega) hb) (fun ai=>?_)
   replace af:=ai
   clear hK K ai
   try simp only [aT]
   clear hb
   refine di 7 rfl fun K hK=>?_
  all_goals
   go_simp
   go_wp2_with fail
   refine (Jh R _).mono ?_
   rintro e X ⟨rfl,hb⟩
   have kz:=hb.size
   replace CB:=hid (CB.out.below hb)
   replace OR:=hid (P16.own_below OR.out hbR hb)
   replace hbR:=Hg hbR kz
   try replace Y:=hid (Y.out.below hb)
   refine hK.out _ _ (bJ af (by omega) hb) (fun ai=>?_)
   replace af:=ai
   clear hK K ai
   try simp only [aT]
   clear hb
  all_goals first | (guard_hyp Y;refine di 8 rfl fun K hK=>?_) | refine y9 [8,12] (AllReadyH.cons rfl (fun K hK=>?_) (AllReadyH.cons rfl (fun K hK=>?alp3) AllReadyH.nil))
  case' alp3=>
   go_simp
   obtain ⟨C,eC⟩:∃ x,x=X.heap.size:=⟨_,rfl⟩
   obtain ⟨X,eA,hb,hY,kzA⟩:=bx1 X z8 71
   rw [←eA]
   have kz:=hb.size
   replace CB:=hid (CB.out.below hb)
   replace OR:=hid (P16.own_below OR.out hbR hb)
   replace hbR:=Hg hbR kz
   rw [←eC] at hY ⊢
   have Y:=hid hY
   have C1:=Hl eC
   have C2:=Hl eC.symm
   clear eA eC hY
   refine hK.out _ _ (bJ af (by omega) hb) (fun ai=>?_)
   replace af:=ai
   clear hK K ai
   try simp only [aT]
   clear hb
   refine di 8 rfl fun K hK=>?_
  all_goals
   go_simp
   go_wp2_with fail
   refine (Je c d a g p R V _ bW bO bX bI bR nR Z hS.out.1 hS.out.2 _ CB.out.copy hbR (P16.aZ OR.out)).mono ?_
   rintro e X ⟨⟨u,rfl,hO⟩,hb⟩
   rw [EA.out,EU.out,EN.out,EZ.out] at hO
   rw [ET.out]
   have kz:=hb.size
   replace CB:=hid (CB.out.below hb)
   replace OR:=hid (P16.own_below OR.out hbR hb)
   replace hbR:=Hg hbR kz
   try replace Y:=hid (Y.out.below hb)
   obtain ⟨p1,q1,p2,q2,p3,q3,p4,q4,p5,q5,ll,mm,gg,rfl,h1,h2,h3,h4,h5,h6,h7⟩:=hO
   have OU:Hid (Ih _ _ X (.agg [zI A,zI U.c,.slice p1 U.nW q1,zI U.g,.slice p2 U.nO q2,.slice p3 U.nX q3,.slice p4 U.nI q4,.slice p5 N q5].toArray) A U N ZZ):=⟨p1,q1,p2,q2,p3,q3,p4,q4,p5,q5,ll,mm,gg,rfl,h1,h2,h3,h4,h5,h6,h7⟩
   clear h1 h2 h3 h4 h5 h6 h7
   refine hK.out _ _ (bJ af (by omega) hb) (fun ai=>?_)
   replace af:=ai
   clear hK K ai
   try simp only
   clear hb
   refine bF 9 (.tuple #[.agg [zI A,zI U.c,.slice p1 U.nW q1,zI U.g,.slice p2 U.nO q2,.slice p3 U.nX q3,.slice p4 U.nI q4,.slice p5 N q5].toArray,zI KK]) rfl ?_
   refine bF 10 (.agg [zI A,zI U.c,.slice p1 U.nW q1,zI U.g,.slice p2 U.nO q2,.slice p3 U.nX q3,.slice p4 U.nI q4,.slice p5 N q5].toArray) rfl ?_
   refine bF 11 (zI KK) rfl ?_
  all_goals first | (guard_hyp Y;refine di 13 rfl fun K hK=>?_) | refine di 12 rfl fun K hK=>?alp4
  case' alp4=>
   go_simp
   obtain ⟨C,eC⟩:∃ x,x=X.heap.size:=⟨_,rfl⟩
   obtain ⟨X,eA,hb,hY,kzA⟩:=bx1 X z8 71
   rw [←eA]
   have kz:=hb.size
   replace OU:=hid (OU.out.below hb)
   rw [←eC] at hY ⊢
   have Y:=hid hY
   have C1:=Hl eC
   have C2:=Hl eC.symm
   clear eA eC hY
   refine hK.out _ _ (bJ af (by omega) hb) (fun ai=>?_)
   replace af:=ai
   clear hK K ai
   try simp only [aT]
   clear hb
   refine di 13 rfl fun K hK=>?_
  all_goals
   obtain ⟨vt0,vt1,vt2,vt3,vt4,vt5,vt6,vt7⟩:=Y.out.f8
   obtain ⟨vp0,vp1,vp2,vp3,vp4,vp5,vp6,vp7⟩:=Y.out.a8
   have hlY:=Y.out.1
   go_simp
   obtain ⟨w6,e6⟩:∃ y,y=H7 X C (zI A) (zI U.c) (.slice p1 U.nW q1) (zI U.g) (.slice p2 U.nO q2) (.slice p3 U.nX q3) (.slice p4 U.nI q4) (.slice p5 N q5):=⟨_,rfl⟩
   have hB6:Below w1.heap.size w1 w6:=by rw [e6];exact HY af (by omega) _ _ _ _ _ _ _ _
   have hz6:w6.heap.size=X.heap.size:=by rw [e6];exact H6 _ _ _ _ _ _ _ _ _ _
   have Y6:Bk w6 C [zI A,zI U.c,.slice p1 U.nW q1,zI U.g,.slice p2 U.nO q2,.slice p3 U.nX q3,.slice p4 U.nI q4,.slice p5 N q5]:=by rw [e6];exact Ic Y.out rfl _ _ _ _ _ _ _ _
   have O6:=OU.out.sm (w':=w6) (Hl hz6.symm) (fun b q1 q2=>by rw [e6];exact Ia (by omega) _ _ _ _ _ _ _ _)
   unfold H7 at e6
   rw [←e6]
   have Y7:=hid Y6
   have O7:=hid O6
   clear e6 Y6 O6 Y OU vt0 vp0 vt1 vp1 vt2 vp2 vt3 vp3 vt4 vp4 vt5 vp5 vt6 vp6 vt7 vp7 hlY
   refine hK.out _ _ hB6 (fun ai=>?_)
   replace af:=ai
   clear hK K ai
   try simp only [aT]
   refine bF 14 (zI KK) rfl ?_
   refine Hy (by kernel_rfl) ?_ _
   go_wp2
   go_meet
   case rel=>exact ⟨C,_,_,p1,q1,p2,q2,p3,q3,p4,q4,p5,q5,rfl,rfl,Y7.out,O7.out,⟨⟨by omega,by omega⟩,⟨by omega,by omega,by omega⟩,by omega⟩,hB6⟩
 case rest=>
  clear m0 m1 hlM
  clear y0 y1 y2 y3 y4 y5 y6 y7 hlS
  obtain ⟨w2,hwn⟩:∃ wn,wn=wc:=⟨_,rfl⟩
  subst hwn
  obtain ⟨C1,l1,h1,p1,q1,p2,q2,p3,q3,p4,q4,p5,q5,rfl,rfl,hG,hO,⟨⟨c1,c2⟩,⟨c3,c4,c5⟩,c6⟩,hb⟩:=hcut
  have kz2:=hb.size
  have B2s:Hid (w.heap.size+3≤w2.heap.size):=by unfold Hid;omega
  have B3:=hid (ah B2.out hb)
  have M3:=hid (M2.out.below hb)
  have S3:=hid (S2.out.below hb)
  have K3:=hid (K2.out.below hb)
  have O1:=hid hO
  have G1:=hid hG
  clear B2 M2 S2 K2 hb hO hG
  obtain ⟨y0,y1,y2,y3,y4,y5,y6,y7⟩:=S3.out.a8
  have hlS:w.heap.size+1<w2.heap.size:=S3.out.1
  go_wp2_with fail
  clear y0 y1 y2 y3 y4 y5 y6 y7 hlS
  refine (jV a V Z aW kW aO kO aX kX aI kI aR nR kR hS.out.1 hS.out.2 _ (dw HC.out B3.out) (P16.iL HR.out B3.out)).mono ?_
  rintro e w3 ⟨⟨dW,dO,dX,dI,dR,rfl,hC,hdR,hOR,hOW,hld⟩,hb⟩
  have kz3:=hb.size
  have hd3:=hdR
  have hl3:=hld
  have B4:=hid (ah B3.out hb)
  have M4:=hid (M3.out.below hb)
  have S4:=hid (S3.out.below hb)
  have K4:=hid (K3.out.below hb)
  have O2:=hid (O1.out.below hb)
  have G2:=hid (G1.out.below hb)
  have CB:=hid hC
  have OR:=hid hOR
  have OX:=hid hOW
  clear B3 M3 S3 K3 O1 G1 hC hOR hOW hb
  go_upto_region 9 with fail
  obtain ⟨w4,en,hbx,hX,hz4⟩:=bx1 w3 [zI a,zI V.c,zS dW V.nW V.nW,zI V.g,zS dO V.nO V.nO,zS dX V.nX V.nX,zS dI V.nI V.nI,zS dR nR nR] 71
  rw [←en]
  clear en
  have B5:=hid (ah B4.out hbx)
  have M5:=hid (M4.out.below hbx)
  have S5:=hid (S4.out.below hbx)
  have K5:=hid (K4.out.below hbx)
  have O3:=hid (O2.out.below hbx)
  have G3:=hid (G2.out.below hbx)
  have CB5:=hid (CB.out.below hbx)
  have OR5:=hid (P16.own_below OR.out hdR hbx)
  have X5:=hid hX
  have hdR5:dR<w4.heap.size:=by omega
  have OX5:=hid (OX.out.below (by omega) hbx)
  clear OX B4 M4 S4 K4 O2 G2 CB OR hX hbx
  obtain ⟨xb,exb⟩:∃ x,x=w3.heap.size:=⟨_,rfl⟩
  rw [←exb] at X5 ⊢
  have xb1:=Hl exb
  have xb2:=Hl exb.symm
  clear exb
  go_cut [15,16] (fun s t wx=>∃ C l h s1 t1 s2 t2 s3 t3 s4 t4 s5 t5,zP C 0=s∧zI KK=t∧Bk wx C [zI A,zI U.c,.slice s1 U.nW t1,zI U.g,.slice s2 U.nO t2,.slice s3 U.nX t3,.slice s4 U.nI t4,.slice s5 N t5]∧Ih l h wx (.agg [zI A,zI U.c,.slice s1 U.nW t1,zI U.g,.slice s2 U.nO t2,.slice s3 U.nX t3,.slice s4 U.nI t4,.slice s5 N t5].toArray) A U N ZZ∧((w4.heap.size≤C∧C<wx.heap.size)∧(w4.heap.size≤l∧l≤h∧h≤wx.heap.size)∧(C<l∨h≤C))∧Below w4.heap.size w4 wx)
  case first=>
   obtain ⟨m0,m1⟩:=M5.out.a2
   have hlM:w.heap.size<w4.heap.size:=M5.out.1
   obtain ⟨x0,x1,x2,x3,x4,x5,x6,x7⟩:=X5.out.a8
   have hlX:xb<w4.heap.size:=X5.out.1
   refine Hu (S:=fun w'=>Below (w4.heap.size) w4 w') (by kernel_rfl) ((Hr _ _).drew) ?_
   intro af
   obtain ⟨X,hX⟩:∃ X,X=w4.drew:=⟨_,rfl⟩
   have hz1:w4.heap.size≤X.heap.size:=by rw [hX];exact Ho _
   rw [←hX] at af ⊢
   clear hX
   refine bF 0 (.agg #[zI c,zI d]) rfl ?_
   refine bF 2 (.agg [zI a,zI V.c,zS dW V.nW V.nW,zI V.g,zS dO V.nO V.nO,zS dX V.nX V.nX,zS dI V.nI V.nI,zS dR nR nR].toArray) rfl ?_
   refine bF 3 (zI g) rfl ?_
   refine bF 4 (zI p) rfl ?_
   refine dY 5 (.agg (zR R).toArray) rfl ?_ ?_
   ·intro wx hSw;obtain ⟨hcS,hfS⟩:=iZ hSw;have hl:=Jc (K5.out.below hSw) rfl;go_simp
   try simp only [aT]
   all_goals first | (guard_hyp Y;refine di 1 rfl fun K hK=>?_) | refine y9 [1,11] (AllReadyH.cons rfl (fun K hK=>?_) (AllReadyH.cons rfl (fun K hK=>?als0) AllReadyH.nil))
   case' als0=>
    go_simp
    obtain ⟨C,eC⟩:∃ x,x=X.heap.size:=⟨_,rfl⟩
    obtain ⟨X,eA,hb,hY,kzA⟩:=bx1 X z8 71
    rw [←eA]
    have kz:=hb.size
    rw [←eC] at hY ⊢
    have Y:=hid hY
    have C1:=Hl eC
    have C2:=Hl eC.symm
    clear eA eC hY
    refine hK.out _ _ (bJ af (by omega) hb) (fun ai=>?_)
    replace af:=ai
    clear hK K ai
    try simp only [aT]
    clear hb
    refine di 1 rfl fun K hK=>?_
   all_goals
    go_simp
    go_wp2_with fail
    refine (uy c d _).mono ?_
    rintro e X ⟨rfl,hb⟩
    have kz:=hb.size
    try replace Y:=hid (Y.out.below hb)
    refine hK.out _ _ (bJ af (by omega) hb) (fun ai=>?_)
    replace af:=ai
    clear hK K ai
    try simp only [aT]
    clear hb
   all_goals first | (guard_hyp Y;refine di 6 rfl fun K hK=>?_) | refine y9 [6,11] (AllReadyH.cons rfl (fun K hK=>?_) (AllReadyH.cons rfl (fun K hK=>?als1) AllReadyH.nil))
   case' als1=>
    go_simp
    obtain ⟨C,eC⟩:∃ x,x=X.heap.size:=⟨_,rfl⟩
    obtain ⟨X,eA,hb,hY,kzA⟩:=bx1 X z8 71
    rw [←eA]
    have kz:=hb.size
    rw [←eC] at hY ⊢
    have Y:=hid hY
    have C1:=Hl eC
    have C2:=Hl eC.symm
    clear eA eC hY
    refine hK.out _ _ (bJ af (by omega) hb) (fun ai=>?_)
    replace af:=ai
    clear hK K ai
    try simp only [aT]
    clear hb
    refine di 6 rfl fun K hK=>?_
   all_goals
    go_simp
    go_wp2_with fail
    refine (Jh R _).mono ?_
    rintro e X ⟨rfl,hb⟩
    have kz:=hb.size
    try replace Y:=hid (Y.out.below hb)
    refine hK.out _ _ (bJ af (by omega) hb) (fun ai=>?_)
    replace af:=ai
    clear hK K ai
    try simp only [aT]
    clear hb
   all_goals first | (guard_hyp Y;refine di 7 rfl fun K hK=>?_) | refine y9 [7,11] (AllReadyH.cons rfl (fun K hK=>?_) (AllReadyH.cons rfl (fun K hK=>?als2) AllReadyH.nil))
   case' als2=>
    go_simp
    obtain ⟨C,eC⟩:∃ x,x=X.heap.size:=⟨_,rfl⟩
    obtain ⟨X,eA,hb,hY,kzA⟩:=bx1 X z8 71
    rw [←eA]
    have kz:=hb.size
    rw [←eC] at hY ⊢
    have Y:=hid hY
    have C1:=Hl eC
    have C2:=Hl eC.symm
    clear eA eC hY
    refine hK.out _ _ (bJ af (by omega) hb) (fun ai=>?_)
    replace af:=ai
    clear hK K ai
    try simp only [aT]
    clear hb
    refine di 7 rfl fun K hK=>?_
   all_goals
    go_simp
    go_wp2_with fail
    refine (Jb c d a g p R V _ dW dO dX dI dR nR Z hS.out.1 hS.out.2 hwf.out hwR.out hwr.out _ (((ah B5.out af).cell (p:=(zA 0 0)) hpos).trans hg0.out) (CB5.out.below af).copy (by omega) (P16.aZ (P16.own_below OR5.out hdR5 af))).mono ?_
    rintro e X ⟨⟨u,rfl,hO⟩,hb⟩
    rw [EA.out,EU.out,EN.out,EZ.out] at hO
    rw [ET.out]
    have kz:=hb.size
    try replace Y:=hid (Y.out.below hb)
    obtain ⟨s1,t1,s2,t2,s3,t3,s4,t4,s5,t5,ll,mm,gg,rfl,h1,h2,h3,h4,h5,h6,h7⟩:=hO
    have OU:Hid (Ih _ _ X (.agg [zI A,zI U.c,.slice s1 U.nW t1,zI U.g,.slice s2 U.nO t2,.slice s3 U.nX t3,.slice s4 U.nI t4,.slice s5 N t5].toArray) A U N ZZ):=⟨s1,t1,s2,t2,s3,t3,s4,t4,s5,t5,ll,mm,gg,rfl,h1,h2,h3,h4,h5,h6,h7⟩
    clear h1 h2 h3 h4 h5 h6 h7
    refine hK.out _ _ (bJ af (by omega) hb) (fun ai=>?_)
    replace af:=ai
    clear hK K ai
    try simp only
    clear hb
    refine bF 8 (.tuple #[.agg [zI A,zI U.c,.slice s1 U.nW t1,zI U.g,.slice s2 U.nO t2,.slice s3 U.nX t3,.slice s4 U.nI t4,.slice s5 N t5].toArray,zI KK]) rfl ?_
    refine bF 9 (.agg [zI A,zI U.c,.slice s1 U.nW t1,zI U.g,.slice s2 U.nO t2,.slice s3 U.nX t3,.slice s4 U.nI t4,.slice s5 N t5].toArray) rfl ?_
    refine bF 10 (zI KK) rfl ?_
   all_goals first | (guard_hyp Y;refine di 12 rfl fun K hK=>?_) | refine di 11 rfl fun K hK=>?als3
   case' als3=>
    go_simp
    obtain ⟨C,eC⟩:∃ x,x=X.heap.size:=⟨_,rfl⟩
    obtain ⟨X,eA,hb,hY,kzA⟩:=bx1 X z8 71
    rw [←eA]
    have kz:=hb.size
    replace OU:=hid (OU.out.below hb)
    rw [←eC] at hY ⊢
    have Y:=hid hY
    have C1:=Hl eC
    have C2:=Hl eC.symm
    clear eA eC hY
    refine hK.out _ _ (bJ af (by omega) hb) (fun ai=>?_)
    replace af:=ai
    clear hK K ai
    try simp only [aT]
    clear hb
    refine di 12 rfl fun K hK=>?_
   all_goals
    obtain ⟨vt0,vt1,vt2,vt3,vt4,vt5,vt6,vt7⟩:=Y.out.f8
    obtain ⟨vp0,vp1,vp2,vp3,vp4,vp5,vp6,vp7⟩:=Y.out.a8
    have hlY:=Y.out.1
    go_simp
    obtain ⟨w6,e6⟩:∃ y,y=H7 X C (zI A) (zI U.c) (.slice s1 U.nW t1) (zI U.g) (.slice s2 U.nO t2) (.slice s3 U.nX t3) (.slice s4 U.nI t4) (.slice s5 N t5):=⟨_,rfl⟩
    have hB6:Below w4.heap.size w4 w6:=by rw [e6];exact HY af (by omega) _ _ _ _ _ _ _ _
    have hz6:w6.heap.size=X.heap.size:=by rw [e6];exact H6 _ _ _ _ _ _ _ _ _ _
    have Y6:Bk w6 C [zI A,zI U.c,.slice s1 U.nW t1,zI U.g,.slice s2 U.nO t2,.slice s3 U.nX t3,.slice s4 U.nI t4,.slice s5 N t5]:=by rw [e6];exact Ic Y.out rfl _ _ _ _ _ _ _ _
    have O6:=OU.out.sm (w':=w6) (Hl hz6.symm) (fun b q1 q2=>by rw [e6];exact Ia (by omega) _ _ _ _ _ _ _ _)
    unfold H7 at e6
    rw [←e6]
    have Y7:=hid Y6
    have O7:=hid O6
    clear e6 Y6 O6 Y OU vt0 vp0 vt1 vp1 vt2 vp2 vt3 vp3 vt4 vp4 vt5 vp5 vt6 vp6 vt7 vp7 hlY
    refine hK.out _ _ hB6 (fun ai=>?_)
    replace af:=ai
    clear hK K ai
    try simp only [aT]
    refine bF 13 (zI KK) rfl ?_
    refine Hy (by kernel_rfl) ?_ _
    go_wp2
    go_meet
    case rel=>exact ⟨C,_,_,s1,t1,s2,t2,s3,t3,s4,t4,s5,t5,rfl,rfl,Y7.out,O7.out,⟨⟨by omega,by omega⟩,⟨by omega,by omega,by omega⟩,by omega⟩,hB6⟩
  case rest=>
   obtain ⟨w5,hwn⟩:∃ wn,wn=wc:=⟨_,rfl⟩
   subst hwn
   obtain ⟨C2,l2,h2,s1,t1,s2,t2,s3,t3,s4,t4,s5,t5,rfl,rfl,hG,hO,⟨⟨d1,d2⟩,⟨d3,d4,d5⟩,d6⟩,hb⟩:=hcut
   have kz5:=hb.size
   have B6:=hid (ah B5.out hb)
   have M6:=hid (M5.out.below hb)
   have S6:=hid (S5.out.below hb)
   have K6:=hid (K5.out.below hb)
   have O4:=hid (O3.out.below hb)
   have G4:=hid (G3.out.below hb)
   have CB6:=hid (CB5.out.below hb)
   have OR6:=hid (P16.own_below OR5.out hdR5 hb)
   have X6:=hid (X5.out.below hb)
   have hdR6:dR<w5.heap.size:=by omega
   have OX6:=hid (OX5.out.below (by omega) hb)
   have P6:=hid hO
   have F6:=hid hG
   clear B5 M5 S5 K5 O3 G3 CB5 OR5 X5 OX5 hb hO hG hdR hdR5 hld
   obtain ⟨y0,y1,y2,y3,y4,y5,y6,y7⟩:=G4.out.a8
   have hl1:C1<w5.heap.size:=G4.out.1
   obtain ⟨x0,x1,x2,x3,x4,x5,x6,x7⟩:=F6.out.a8
   have hl2:C2<w5.heap.size:=F6.out.1
   go_wp2_with fail
   clear y0 y1 y2 y3 y4 y5 y6 y7 hl1
   clear x0 x1 x2 x3 x4 x5 x6 x7 hl2
   refine (IC A U N ZZ _ _ l2 h2 l1 h1 (lZ HU.out.1) (by omega) _ P6.out O4.out).mono ?_
   rintro e w6 ⟨rfl,hb⟩
   have kz:=hb.size
   have B_7:=hid (ah B6.out hb)
   have M_7:=hid (M6.out.below hb)
   have S_7:=hid (S6.out.below hb)
   have K_7:=hid (K6.out.below hb)
   have O_7:=hid (O4.out.below hb)
   have G_7:=hid (G4.out.below hb)
   have CB_7:=hid (CB6.out.below hb)
   have OR_7:=hid (P16.own_below OR6.out (by omega) hb)
   have X_7:=hid (X6.out.below hb)
   have P_7:=hid (P6.out.below hb)
   have F_7:=hid (F6.out.below hb)
   have OX_7:=hid (OX6.out.below (by omega) hb)
   clear B6 M6 S6 K6 O4 G4 CB6 OR6 X6 P6 F6 OX6
   clear hb
   obtain ⟨y0,y1,y2,y3,y4,y5,y6,y7⟩:=S_7.out.a8
   have hlS:w.heap.size+1<w6.heap.size:=S_7.out.1
   obtain ⟨x0,x1,x2,x3,x4,x5,x6,x7⟩:=X_7.out.a8
   have hlX:xb<w6.heap.size:=X_7.out.1
   go_upto_region 10 with fail
   refine Hu (S:=fun w'=>Below (w6.heap.size) w6 w') (by kernel_rfl) ((Hr _ _).drew) ?_
   intro af
   obtain ⟨X0,hX0⟩:∃ X,X=w6.drew:=⟨_,rfl⟩
   have hz6:w6.heap.size≤X0.heap.size:=by rw [hX0];exact Ho _
   rw [←hX0] at af ⊢
   clear hX0
   refine bF 0 (Am a (zC V dW V.nW dO V.nO dX V.nX dI V.nI) (zS dR nR nR)) rfl ?_
   refine bF 1 (Am a (zD V aW kW aO kO aX kX aI kI) (.slice aR nR kR)) rfl ?_
   refine di 2 rfl fun K hK=>?_
   go_simp
   go_wp2_with fail
   refine (jV a V Z aW kW aO kO aX kX aI kI aR nR kR hS.out.1 hS.out.2 _ (dw HC.out (ah B_7.out af)) (P16.iL HR.out (ah B_7.out af))).mono ?_
   rintro e u1 ⟨⟨eW,eO,eX,eI,eR,rfl,hC,heR,hO,hO1,hO2⟩,hb⟩
   clear hO1 hO2
   have ku1:=hb.size
   have CE:=hid hC
   have OE:=hid hO
   clear hC hO
   refine hK.out _ _ (bJ af (by omega) hb) (fun ai=>?_)
   clear hK K af
   have af:=ai
   clear ai
   try simp only [aT]
   clear hb
   refine di 3 rfl fun K hK=>?_
   go_simp
   go_wp2_with fail
   refine (Ec a V Z dW dO dX dI dR eW eO eX eI eR nR (lZ hS.out.1) (by have:=hS.out.2;omega) _ ((CB_7.out.below af).copy.at) CE.out.copy.at (by omega) heR (P16.own_below OR_7.out (by omega) af) OE.out).mono ?_
   rintro e u2 ⟨rfl,hb⟩
   have ku2:=hb.size
   refine hK.out _ _ (bJ af (by omega) hb) (fun ai=>?_)
   clear hK K af
   have af:=ai
   clear ai
   try simp only [aT]
   clear hb CE OE
   refine bF 4 (.bool false) rfl ?_
   refine Hy (by kernel_rfl) ?_ _
   clear y0 y1 y2 y3 y4 y5 y6 y7 hlS
   clear x0 x1 x2 x3 x4 x5 x6 x7 hlX
   have kz:=af.size
   have B_8:=hid (ah B_7.out af)
   have M_8:=hid (M_7.out.below af)
   have S_8:=hid (S_7.out.below af)
   have K_8:=hid (K_7.out.below af)
   have O_8:=hid (O_7.out.below af)
   have G_8:=hid (G_7.out.below af)
   have CB_8:=hid (CB_7.out.below af)
   have OR_8:=hid (P16.own_below OR_7.out (by omega) af)
   have X_8:=hid (X_7.out.below af)
   have P_8:=hid (P_7.out.below af)
   have F_8:=hid (F_7.out.below af)
   have OX_8:=hid (OX_7.out.below (by omega) af)
   clear B_7 M_7 S_7 K_7 O_7 G_7 CB_7 OR_7 X_7 P_7 F_7 OX_7
   clear af
   obtain ⟨x0,x1,x2,x3,x4,x5,x6,x7⟩:=X_8.out.a8
   have hlX:xb<u2.heap.size:=X_8.out.1
   go_wp2_with fail
   clear x0 x1 x2 x3 x4 x5 x6 x7 hlX
   refine (AV a V Z w2.heap.size dW dO dX dI dR nR HV.out hS.out.2 _ hl3 (by omega) OX_8.out OR_8.out).mono ?_
   rintro e v1 ⟨⟨zm,rfl⟩,kzm,hsm,hbm⟩
   have BV:Hid (Below w.heap.size w v1):=B_8.out.trans (hbm.mono (by have:=B2s.out;omega))
   have MV:=hid (M_8.out.sm kzm (hsm _ (by omega) (by omega)))
   have SV:=hid (S_8.out.sm kzm (hsm _ (by omega) (by omega)))
   have KV:=hid (K_8.out.sm kzm (hsm _ (by omega) (by omega)))
   have GV:=hid (G_8.out.sm kzm (hsm _ (by omega) (by omega)))
   have FV:=hid (F_8.out.sm kzm (hsm _ (by omega) (by omega)))
   have OV:=hid (O_8.out.sm kzm (fun b g1 g2=>hsm b (by omega) (by omega)))
   have PV:=hid (P_8.out.sm kzm (fun b g1 g2=>hsm b (by omega) (by omega)))
   clear B_8 M_8 S_8 K_8 O_8 G_8 CB_8 OR_8 X_8 P_8 F_8 OX_8 hsm hbm
   have hzm:¬ ((zm:Nat):Int)<0:=by omega
   obtain ⟨y0,y1,y2,y3,y4,y5,y6,y7⟩:=GV.out.a8
   have hl1:C1<v1.heap.size:=GV.out.1
   obtain ⟨x0,x1,x2,x3,x4,x5,x6,x7⟩:=FV.out.a8
   have hl2:C2<v1.heap.size:=FV.out.1
   go_wp2_with fail
   clear y0 y1 y2 y3 y4 y5 y6 y7 hl1
   clear x0 x1 x2 x3 x4 x5 x6 x7 hl2
   refine (IC A U N ZZ _ _ l2 h2 l1 h1 (lZ HU.out.1) (by omega) _ PV.out OV.out).mono ?_
   rintro e v2 ⟨rfl,hb⟩
   have kz:=hb.size
   have B_9:=hid (ah BV.out hb)
   have M_9:=hid (MV.out.below hb)
   have S_9:=hid (SV.out.below hb)
   have K_9:=hid (KV.out.below hb)
   have G_9:=hid (GV.out.below hb)
   have F_9:=hid (FV.out.below hb)
   have O_9:=hid (OV.out.below hb)
   have P_9:=hid (PV.out.below hb)
   clear BV MV SV KV GV FV OV PV
   clear hb
   obtain ⟨x0,x1,x2,x3,x4,x5,x6,x7⟩:=F_9.out.a8
   have hl2:C2<v2.heap.size:=F_9.out.1
   go_wp2_with fail
   clear x0 x1 x2 x3 x4 x5 x6 x7 hl2
   refine (IG A U N ZZ _ l2 h2 HU.out.2 hN2 _ P_9.out).mono ?_
   rintro e v3 ⟨rfl,hPM,kzm,hsm,hbm⟩
   have BW:Hid (Below w.heap.size w v3):=B_9.out.trans (hbm.mono (by have:=B2s.out;omega))
   have MW:=hid (M_9.out.sm kzm (hsm _ (by omega) (by omega)))
   have SW:=hid (S_9.out.sm kzm (hsm _ (by omega) (by omega)))
   have KW:=hid (K_9.out.sm kzm (hsm _ (by omega) (by omega)))
   have GW:=hid (G_9.out.sm kzm (hsm _ (by omega) (by omega)))
   have FW:=hid (F_9.out.sm kzm (hsm _ (by omega) (by omega)))
   have OW:=hid (O_9.out.sm kzm (fun b g1 g2=>hsm b (by omega) (by omega)))
   have PW:=hid hPM
   clear B_9 M_9 S_9 K_9 G_9 F_9 O_9 P_9 hsm hbm hPM
   obtain ⟨zq,ezq⟩:∃ z:Nat,z=U.s4+N * 16:=⟨_,rfl⟩
   rw [←ezq]
   have EZQ:=hid ezq
   have hzq:¬ ((zq:Nat):Int)<0:=by omega
   clear ezq
   obtain ⟨x0,x1,x2,x3,x4,x5,x6,x7⟩:=FW.out.a8
   have hl2:C2<v3.heap.size:=FW.out.1
   go_wp2_with fail
   clear x0 x1 x2 x3 x4 x5 x6 x7 hl2
   refine (Iu A U N _ l2 h2 HU.out.2 hN2 _ PW.out).mono ?_
   rintro e v4 ⟨rfl,hb⟩
   rw [←EZQ.out]
   have kz:=hb.size
   have B_10:=hid (ah BW.out hb)
   have M_10:=hid (MW.out.below hb)
   have S_10:=hid (SW.out.below hb)
   have K_10:=hid (KW.out.below hb)
   have G_10:=hid (GW.out.below hb)
   have F_10:=hid (FW.out.below hb)
   have O_10:=hid (OW.out.below hb)
   have P_10:=hid (PW.out.below hb)
   clear BW MW SW KW GW FW OW PW
   clear hb
   obtain ⟨m0,m1⟩:=M_10.out.a2
   have hlM:w.heap.size<v4.heap.size:=M_10.out.1
   obtain ⟨y0,y1,y2,y3,y4,y5,y6,y7⟩:=S_10.out.a8
   have hlS:w.heap.size+1<v4.heap.size:=S_10.out.1
   go_upto_region 24 with fail
   go_cut [20,21] (fun s t wx=>∃ C l h e1 f1 e2 f2 e3 f3 e4 f4 e5 f5,zP C 0=s∧zI KK=t∧Bk wx C [zI A,zI U.c,.slice e1 U.nW f1,zI U.g,.slice e2 U.nO f2,.slice e3 U.nX f3,.slice e4 U.nI f4,.slice e5 N f5]∧Ih l h wx (.agg [zI A,zI U.c,.slice e1 U.nW f1,zI U.g,.slice e2 U.nO f2,.slice e3 U.nX f3,.slice e4 U.nI f4,.slice e5 N f5].toArray) A U N ZZ∧((v4.heap.size≤C∧C<wx.heap.size)∧(v4.heap.size≤l∧l≤h∧h≤wx.heap.size)∧(C<l∨h≤C))∧Below v4.heap.size v4 wx)
   case first=>
    refine Hu (S:=fun w'=>Below (v4.heap.size) v4 w') (by kernel_rfl) ((Hr _ _).drew) ?_
    intro af
    obtain ⟨X,hX⟩:∃ X,X=v4.drew:=⟨_,rfl⟩
    have hz1:v4.heap.size≤X.heap.size:=by rw [hX];exact Ho _
    rw [←hX] at af ⊢
    clear hX
    refine bF 0 (.agg #[zI c,zI d]) rfl ?_
    refine bF 2 (Am a (zD V aW kW aO kO aX kX aI kI) (.slice aR nR kR)) rfl ?_
    refine bF 4 (zI g) rfl ?_
    refine bF 5 (zI p) rfl ?_
    refine dY 6 (.agg (zR R).toArray) rfl ?_ ?_
    ·intro wx hSw;obtain ⟨hcS,hfS⟩:=iZ hSw;have hl:=Jc (K_10.out.below hSw) rfl;go_simp
    try simp only [aT]
    all_goals first | (guard_hyp Y;refine di 1 rfl fun K hK=>?_) | refine y9 [1,12] (AllReadyH.cons rfl (fun K hK=>?_) (AllReadyH.cons rfl (fun K hK=>?ale0) AllReadyH.nil))
    case' ale0=>
     go_simp
     obtain ⟨C,eC⟩:∃ x,x=X.heap.size:=⟨_,rfl⟩
     obtain ⟨X,eA,hb,hY,kzA⟩:=bx1 X z8 71
     rw [←eA]
     have kz:=hb.size
     rw [←eC] at hY ⊢
     have Y:=hid hY
     have C1:=Hl eC
     have C2:=Hl eC.symm
     clear eA eC hY
     refine hK.out _ _ (bJ af (by omega) hb) (fun ai=>?_)
     replace af:=ai
     clear hK K ai
     try simp only [aT]
     clear hb
     refine di 1 rfl fun K hK=>?_
    all_goals
     go_simp
     go_wp2_with fail
     refine (uy c d _).mono ?_
     rintro e X ⟨rfl,hb⟩
     have kz:=hb.size
     try replace Y:=hid (Y.out.below hb)
     refine hK.out _ _ (bJ af (by omega) hb) (fun ai=>?_)
     replace af:=ai
     clear hK K ai
     try simp only [aT]
     clear hb
    all_goals first | (guard_hyp Y;refine di 3 rfl fun K hK=>?_) | refine y9 [3,12] (AllReadyH.cons rfl (fun K hK=>?_) (AllReadyH.cons rfl (fun K hK=>?ale1) AllReadyH.nil))
    case' ale1=>
     go_simp
     obtain ⟨C,eC⟩:∃ x,x=X.heap.size:=⟨_,rfl⟩
     obtain ⟨X,eA,hb,hY,kzA⟩:=bx1 X z8 71
     rw [←eA]
     have kz:=hb.size
     rw [←eC] at hY ⊢
     have Y:=hid hY
     have C1:=Hl eC
     have C2:=Hl eC.symm
     clear eA eC hY
     refine hK.out _ _ (bJ af (by omega) hb) (fun ai=>?_)
     replace af:=ai
     clear hK K ai
     try simp only [aT]
     clear hb
     refine di 3 rfl fun K hK=>?_
    all_goals
     go_simp
     go_wp2_with fail
     refine (jV a V Z aW kW aO kO aX kX aI kI aR nR kR hS.out.1 hS.out.2 _ (dw HC.out (ah B_10.out af)) (P16.iL HR.out (ah B_10.out af))).mono ?_
     rintro e X ⟨⟨bW,bO,bX,bI,bR,rfl,hC,hbR,hOR,hO1,hO2⟩,hb⟩
     clear hO1 hO2
     have kz:=hb.size
     try replace Y:=hid (Y.out.below hb)
     have CB:=hid hC
     have OR:=hid hOR
     clear hC hOR
     refine hK.out _ _ (bJ af (by omega) hb) (fun ai=>?_)
     replace af:=ai
     clear hK K ai
     try simp only [aT]
     clear hb
    all_goals first | (guard_hyp Y;refine di 7 rfl fun K hK=>?_) | refine y9 [7,12] (AllReadyH.cons rfl (fun K hK=>?_) (AllReadyH.cons rfl (fun K hK=>?ale2) AllReadyH.nil))
    case' ale2=>
     go_simp
     obtain ⟨C,eC⟩:∃ x,x=X.heap.size:=⟨_,rfl⟩
     obtain ⟨X,eA,hb,hY,kzA⟩:=bx1 X z8 71
     rw [←eA]
     have kz:=hb.size
     replace CB:=hid (CB.out.below hb)
     replace OR:=hid (P16.own_below OR.out hbR hb)
     replace hbR:=Hg hbR kz
     rw [←eC] at hY ⊢
     have Y:=hid hY
     have C1:=Hl eC
     have C2:=Hl eC.symm
     clear eA eC hY
     refine hK.out _ _ (bJ af (by omega) hb) (fun ai=>?_)
     replace af:=ai
     clear hK K ai
     try simp only [aT]
     clear hb
     refine di 7 rfl fun K hK=>?_
    all_goals
     go_simp
     go_wp2_with fail
     refine (Jh R _).mono ?_
     rintro e X ⟨rfl,hb⟩
     have kz:=hb.size
     replace CB:=hid (CB.out.below hb)
     replace OR:=hid (P16.own_below OR.out hbR hb)
     replace hbR:=Hg hbR kz
     try replace Y:=hid (Y.out.below hb)
     refine hK.out _ _ (bJ af (by omega) hb) (fun ai=>?_)
     replace af:=ai
     clear hK K ai
     try simp only [aT]
     clear hb
    all_goals first | (guard_hyp Y;refine di 8 rfl fun K hK=>?_) | refine y9 [8,12] (AllReadyH.cons rfl (fun K hK=>?_) (AllReadyH.cons rfl (fun K hK=>?ale3) AllReadyH.nil))
    case' ale3=>
     go_simp
     obtain ⟨C,eC⟩:∃ x,x=X.heap.size:=⟨_,rfl⟩
     obtain ⟨X,eA,hb,hY,kzA⟩:=bx1 X z8 71
     rw [←eA]
     have kz:=hb.size
     replace CB:=hid (CB.out.below hb)
     replace OR:=hid (P16.own_below OR.out hbR hb)
     replace hbR:=Hg hbR kz
     rw [←eC] at hY ⊢
     have Y:=hid hY
     have C1:=Hl eC
     have C2:=Hl eC.symm
     clear eA eC hY
     refine hK.out _ _ (bJ af (by omega) hb) (fun ai=>?_)
     replace af:=ai
     clear hK K ai
     try simp only [aT]
     clear hb
     refine di 8 rfl fun K hK=>?_
    all_goals
     go_simp
     go_wp2_with fail
     refine (Jb c d a g p R V _ bW bO bX bI bR nR Z hS.out.1 hS.out.2 hwf.out hwR.out hwr.out _ (((ah B_10.out af).cell (p:=(zA 0 0)) hpos).trans hg0.out) CB.out.copy hbR (P16.aZ OR.out)).mono ?_
     rintro e X ⟨⟨u,rfl,hO⟩,hb⟩
     rw [EA.out,EU.out,EN.out,EZ.out] at hO
     rw [ET.out]
     have kz:=hb.size
     replace CB:=hid (CB.out.below hb)
     replace OR:=hid (P16.own_below OR.out hbR hb)
     replace hbR:=Hg hbR kz
     try replace Y:=hid (Y.out.below hb)
     obtain ⟨e1,f1,e2,f2,e3,f3,e4,f4,e5,f5,ll,mm,gg,rfl,h1,h2,h3,h4,h5,h6,h7⟩:=hO
     have OU:Hid (Ih _ _ X (.agg [zI A,zI U.c,.slice e1 U.nW f1,zI U.g,.slice e2 U.nO f2,.slice e3 U.nX f3,.slice e4 U.nI f4,.slice e5 N f5].toArray) A U N ZZ):=⟨e1,f1,e2,f2,e3,f3,e4,f4,e5,f5,ll,mm,gg,rfl,h1,h2,h3,h4,h5,h6,h7⟩
     clear h1 h2 h3 h4 h5 h6 h7
     refine hK.out _ _ (bJ af (by omega) hb) (fun ai=>?_)
     replace af:=ai
     clear hK K ai
     try simp only
     clear hb
     refine bF 9 (.tuple #[.agg [zI A,zI U.c,.slice e1 U.nW f1,zI U.g,.slice e2 U.nO f2,.slice e3 U.nX f3,.slice e4 U.nI f4,.slice e5 N f5].toArray,zI KK]) rfl ?_
     refine bF 10 (.agg [zI A,zI U.c,.slice e1 U.nW f1,zI U.g,.slice e2 U.nO f2,.slice e3 U.nX f3,.slice e4 U.nI f4,.slice e5 N f5].toArray) rfl ?_
     refine bF 11 (zI KK) rfl ?_
    all_goals first | (guard_hyp Y;refine di 13 rfl fun K hK=>?_) | refine di 12 rfl fun K hK=>?ale4
    case' ale4=>
     go_simp
     obtain ⟨C,eC⟩:∃ x,x=X.heap.size:=⟨_,rfl⟩
     obtain ⟨X,eA,hb,hY,kzA⟩:=bx1 X z8 71
     rw [←eA]
     have kz:=hb.size
     replace OU:=hid (OU.out.below hb)
     rw [←eC] at hY ⊢
     have Y:=hid hY
     have C1:=Hl eC
     have C2:=Hl eC.symm
     clear eA eC hY
     refine hK.out _ _ (bJ af (by omega) hb) (fun ai=>?_)
     replace af:=ai
     clear hK K ai
     try simp only [aT]
     clear hb
     refine di 13 rfl fun K hK=>?_
    all_goals
     obtain ⟨vt0,vt1,vt2,vt3,vt4,vt5,vt6,vt7⟩:=Y.out.f8
     obtain ⟨vp0,vp1,vp2,vp3,vp4,vp5,vp6,vp7⟩:=Y.out.a8
     have hlY:=Y.out.1
     go_simp
     obtain ⟨w6,e6⟩:∃ y,y=H7 X C (zI A) (zI U.c) (.slice e1 U.nW f1) (zI U.g) (.slice e2 U.nO f2) (.slice e3 U.nX f3) (.slice e4 U.nI f4) (.slice e5 N f5):=⟨_,rfl⟩
     have hB6:Below v4.heap.size v4 w6:=by rw [e6];exact HY af (by omega) _ _ _ _ _ _ _ _
     have hz6:w6.heap.size=X.heap.size:=by rw [e6];exact H6 _ _ _ _ _ _ _ _ _ _
     have Y6:Bk w6 C [zI A,zI U.c,.slice e1 U.nW f1,zI U.g,.slice e2 U.nO f2,.slice e3 U.nX f3,.slice e4 U.nI f4,.slice e5 N f5]:=by rw [e6];exact Ic Y.out rfl _ _ _ _ _ _ _ _
     have O6:=OU.out.sm (w':=w6) (Hl hz6.symm) (fun b q1 q2=>by rw [e6];exact Ia (by omega) _ _ _ _ _ _ _ _)
     unfold H7 at e6
     rw [←e6]
     have Y7:=hid Y6
     have O7:=hid O6
     clear e6 Y6 O6 Y OU vt0 vp0 vt1 vp1 vt2 vp2 vt3 vp3 vt4 vp4 vt5 vp5 vt6 vp6 vt7 vp7 hlY
     refine hK.out _ _ hB6 (fun ai=>?_)
     replace af:=ai
     clear hK K ai
     try simp only [aT]
     refine bF 14 (zI KK) rfl ?_
     refine Hy (by kernel_rfl) ?_ _
     go_wp2
     go_meet
     case rel=>exact ⟨C,_,_,e1,f1,e2,f2,e3,f3,e4,f4,e5,f5,rfl,rfl,Y7.out,O7.out,⟨⟨by omega,by omega⟩,⟨by omega,by omega,by omega⟩,by omega⟩,hB6⟩
   case rest=>
    obtain ⟨v5,hwn⟩:∃ wn,wn=wc:=⟨_,rfl⟩
    subst hwn
    obtain ⟨C3,l3,h3,e1,f1,e2,f2,e3,f3,e4,f4,e5,f5,rfl,rfl,hG,hO,⟨⟨g1,g2⟩,⟨g3,g4,g5⟩,g6⟩,hb⟩:=hcut
    clear m0 m1 hlM
    clear y0 y1 y2 y3 y4 y5 y6 y7 hlS
    have kz:=hb.size
    have B_11:=hid (ah B_10.out hb)
    have G_11:=hid (G_10.out.below hb)
    have F_11:=hid (F_10.out.below hb)
    have O_11:=hid (O_10.out.below hb)
    have P_11:=hid (P_10.out.below hb)
    clear B_10 M_10 S_10 K_10 G_10 F_10 O_10 P_10
    have HX:=hid hG
    have HO:=hid hO
    clear hb hG hO
    obtain ⟨y0,y1,y2,y3,y4,y5,y6,y7⟩:=G_11.out.a8
    have hl1:C1<v5.heap.size:=G_11.out.1
    obtain ⟨x0,x1,x2,x3,x4,x5,x6,x7⟩:=HX.out.a8
    have hl2:C3<v5.heap.size:=HX.out.1
    go_wp2_with fail
    clear y0 y1 y2 y3 y4 y5 y6 y7 hl1
    clear x0 x1 x2 x3 x4 x5 x6 x7 hl2
    refine (IC A U N ZZ _ _ l3 h3 l1 h1 (lZ HU.out.1) (by omega) _ HO.out O_11.out).mono ?_
    rintro e v6 ⟨rfl,hb⟩
    have kz:=hb.size
    have B_12:=hid (ah B_11.out hb)
    have G_12:=hid (G_11.out.below hb)
    have F_12:=hid (F_11.out.below hb)
    have O_12:=hid (O_11.out.below hb)
    have P_12:=hid (P_11.out.below hb)
    clear B_11 G_11 F_11 O_11 P_11
    clear hb HX HO
    obtain ⟨x0,x1,x2,x3,x4,x5,x6,x7⟩:=F_12.out.a8
    have hl2:C2<v6.heap.size:=F_12.out.1
    go_wp2_with fail
    clear x0 x1 x2 x3 x4 x5 x6 x7 hl2
    refine (Iu A U N _ l2 h2 HU.out.2 hN2 _ P_12.out).mono ?_
    rintro e v7 ⟨rfl,hb⟩
    rw [←EZQ.out]
    have BZ:=ah B_12.out hb
    go_wp2
    go_ret
    exact ⟨rfl,BZ⟩
