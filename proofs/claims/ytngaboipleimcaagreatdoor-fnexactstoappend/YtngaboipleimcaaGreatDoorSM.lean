/- Marks of a list of records, and of a store; conditions: they lie in memory of the caller's own. -/
import Derived.Test.YtngaboipleimcaaGreatDoorSS
import Derived.Test.YtngaboipleimcaaGreatDoorFP
set_option linter.unusedVariables false
set_option maxHeartbeats 2000000
set_option maxRecDepth 20000
namespace Go.Proofs.YtngaboipleimcaaGreatDoor
open Go.RowKit Go.Deep
theorem qF (w:World) (B k:Nat) (Z:Nat→Nat→Int):w.grownBy (P16.nN w B k Z) (some B)∧(P16.nN w B k Z).heap.size=w.heap.size:=by
 unfold P16.nN
 refine ⟨((((((((((((((((P8.aC _ _ _ _).1.trans (P8.aC _ _ _ _).1).trans (P8.aC _ _ _ _).1).trans (P8.aC _ _ _ _).1).trans (P8.aC _ _ _ _).1).trans (P8.aC _ _ _ _).1).trans (P8.aC _ _ _ _).1).trans (P8.aC _ _ _ _).1).trans (P8.aC _ _ _ _).1).trans (P8.aC _ _ _ _).1).trans (P8.aC _ _ _ _).1).trans (P8.aC _ _ _ _).1).trans (P8.aC _ _ _ _).1).trans (P8.aC _ _ _ _).1).trans (P8.aC _ _ _ _).1).trans (P8.aC _ _ _ _).1),?_⟩
 rw [(P8.aC _ _ _ _).2,(P8.aC _ _ _ _).2,(P8.aC _ _ _ _).2,(P8.aC _ _ _ _).2,(P8.aC _ _ _ _).2,(P8.aC _ _ _ _).2,(P8.aC _ _ _ _).2,(P8.aC _ _ _ _).2,(P8.aC _ _ _ _).2,(P8.aC _ _ _ _).2,(P8.aC _ _ _ _).2,(P8.aC _ _ _ _).2,(P8.aC _ _ _ _).2,(P8.aC _ _ _ _).2,(P8.aC _ _ _ _).2,(P8.aC _ _ _ _).2]
theorem Gl (s B n cap:Nat) (Z:Nat→Nat→Int) (hn:n≤2000000) (hs:s≤2000000000) (w:World) (hB:B<w.heap.size) (h:P16.iy w B n Z n) :
 Hz 23 #[zS B n cap,zI (s:Int)] w fun e w'=>e=.returned (zI ((s+n * 16:Nat):Int))∧P16.iy w' B n (Mk 16 s) n∧w.grownBy w' (some B)∧w'.heap.size=w.heap.size:=by
 have H0:Hid (P16.iy w B n (Mk 16 s) 0):=⟨h.1,fun _ _ h=>absurd h (by omega)⟩
 clear h
 go_enter Tryz.func23,Tryz.ntmps23
 go_wp2
 go_loopw [1,5] (fun c i wr=>∃ k:Nat,k≤n∧zI k=i∧zI (Mk 16 s k 0)=c∧P16.iy wr B n (Mk 16 s) k∧w.grownBy wr (some B)∧wr.heap.size=w.heap.size) (fun _ i _=>n - (intOf i).toNat)
 case atStart=>exact ⟨0,Nat.zero_le _,rfl,by simp [Mk],H0.out,World.grownBy.refl _ _,rfl⟩
 case round =>
  obtain ⟨k,hk,rfl,rfl,hown,hg,hsz⟩:=hrel
  by_cases hkn:k<n
  ·have hkn':(k:Int)<(n:Int):=by omega
   obtain ⟨⟨v0,d0⟩,f0⟩:=P16.aK hown hkn 0 (by omega)
   obtain ⟨⟨v1,d1⟩,f1⟩:=P16.aK hown hkn 1 (by omega)
   obtain ⟨⟨v2,d2⟩,f2⟩:=P16.aK hown hkn 2 (by omega)
   obtain ⟨⟨v3,d3⟩,f3⟩:=P16.aK hown hkn 3 (by omega)
   obtain ⟨⟨v4,d4⟩,f4⟩:=P16.aK hown hkn 4 (by omega)
   obtain ⟨⟨v5,d5⟩,f5⟩:=P16.aK hown hkn 5 (by omega)
   obtain ⟨⟨v6,d6⟩,f6⟩:=P16.aK hown hkn 6 (by omega)
   obtain ⟨⟨v7,d7⟩,f7⟩:=P16.aK hown hkn 7 (by omega)
   obtain ⟨⟨v8,d8⟩,f8⟩:=P16.aK hown hkn 8 (by omega)
   obtain ⟨⟨v9,d9⟩,f9⟩:=P16.aK hown hkn 9 (by omega)
   obtain ⟨⟨v10,d10⟩,f10⟩:=P16.aK hown hkn 10 (by omega)
   obtain ⟨⟨v11,d11⟩,f11⟩:=P16.aK hown hkn 11 (by omega)
   obtain ⟨⟨v12,d12⟩,f12⟩:=P16.aK hown hkn 12 (by omega)
   obtain ⟨⟨v13,d13⟩,f13⟩:=P16.aK hown hkn 13 (by omega)
   obtain ⟨⟨v14,d14⟩,f14⟩:=P16.aK hown hkn 14 (by omega)
   obtain ⟨⟨v15,d15⟩,f15⟩:=P16.aK hown hkn 15 (by omega)
   simp only [Nat.add_zero] at d0 f0
   have HO:Hid (P16.iy wr B n (Mk 16 s) k):=hown
   have HP:Hid (P16.iy (P16.nN wr B k (Mk 16 s)) B n (Mk 16 s) (k+1)):=P16.jZ hown hkn
   have HG:Hid (w.grownBy (P16.nN wr B k (Mk 16 s)) (some B)∧(P16.nN wr B k (Mk 16 s)).heap.size=w.heap.size):=⟨hg.trans (qF wr B k (Mk 16 s)).1,(qF wr B k (Mk 16 s)).2.trans hsz⟩
   have m1:IntKind.wrap .i64 ((Mk 16 s k 0)+1)=(Mk 16 s k 1):=by unfold Mk;simp [IntKind.wrap,IntKind.bits,IntKind.signed];omega
   have m2:IntKind.wrap .i64 ((Mk 16 s k 1)+1)=(Mk 16 s k 2):=by unfold Mk;simp [IntKind.wrap,IntKind.bits,IntKind.signed];omega
   have m3:IntKind.wrap .i64 ((Mk 16 s k 2)+1)=(Mk 16 s k 3):=by unfold Mk;simp [IntKind.wrap,IntKind.bits,IntKind.signed];omega
   have m4:IntKind.wrap .i64 ((Mk 16 s k 3)+1)=(Mk 16 s k 4):=by unfold Mk;simp [IntKind.wrap,IntKind.bits,IntKind.signed];omega
   have m5:IntKind.wrap .i64 ((Mk 16 s k 4)+1)=(Mk 16 s k 5):=by unfold Mk;simp [IntKind.wrap,IntKind.bits,IntKind.signed];omega
   have m6:IntKind.wrap .i64 ((Mk 16 s k 5)+1)=(Mk 16 s k 6):=by unfold Mk;simp [IntKind.wrap,IntKind.bits,IntKind.signed];omega
   have m7:IntKind.wrap .i64 ((Mk 16 s k 6)+1)=(Mk 16 s k 7):=by unfold Mk;simp [IntKind.wrap,IntKind.bits,IntKind.signed];omega
   have m8:IntKind.wrap .i64 ((Mk 16 s k 7)+1)=(Mk 16 s k 8):=by unfold Mk;simp [IntKind.wrap,IntKind.bits,IntKind.signed];omega
   have m9:IntKind.wrap .i64 ((Mk 16 s k 8)+1)=(Mk 16 s k 9):=by unfold Mk;simp [IntKind.wrap,IntKind.bits,IntKind.signed];omega
   have m10:IntKind.wrap .i64 ((Mk 16 s k 9)+1)=(Mk 16 s k 10):=by unfold Mk;simp [IntKind.wrap,IntKind.bits,IntKind.signed];omega
   have m11:IntKind.wrap .i64 ((Mk 16 s k 10)+1)=(Mk 16 s k 11):=by unfold Mk;simp [IntKind.wrap,IntKind.bits,IntKind.signed];omega
   have m12:IntKind.wrap .i64 ((Mk 16 s k 11)+1)=(Mk 16 s k 12):=by unfold Mk;simp [IntKind.wrap,IntKind.bits,IntKind.signed];omega
   have m13:IntKind.wrap .i64 ((Mk 16 s k 12)+1)=(Mk 16 s k 13):=by unfold Mk;simp [IntKind.wrap,IntKind.bits,IntKind.signed];omega
   have m14:IntKind.wrap .i64 ((Mk 16 s k 13)+1)=(Mk 16 s k 14):=by unfold Mk;simp [IntKind.wrap,IntKind.bits,IntKind.signed];omega
   have m15:IntKind.wrap .i64 ((Mk 16 s k 14)+1)=(Mk 16 s k 15):=by unfold Mk;simp [IntKind.wrap,IntKind.bits,IntKind.signed];omega
   have m16:IntKind.wrap .i64 ((Mk 16 s k 15)+1)=(Mk 16 s (k+1) 0):=by unfold Mk;simp [IntKind.wrap,IntKind.bits,IntKind.signed];omega
   clear hown hg hsz
   go_wp2
   go_roundw
   case rel=>exact ⟨k+1,by omega,by go_num,rfl,HP.out,HG.out.1,HG.out.2⟩
   case measure=>simp [intOf];omega
  ·have hkn':k=n:=by omega
   subst hkn'
   have HO:Hid (P16.iy wr B k (Mk 16 s) k):=hown
   clear hown
   go_wp2
   go_ret
   exact ⟨rfl,HO.out,hg,hsz⟩
theorem Cb (s:Nat) (N:Nat→Nat):∀ k,st s N k=s+mG N k * 8
 | 0=>by simp [st,mG]
 | k+1=>by simp only [st,mG,Cb s N k];omega
theorem BU (N:Nat→Nat):∀ n k,k≤n→mG N k≤mG N n
 | 0,k,h=>by obtain rfl:k=0:=by omega
             exact Ho _
 | n+1,k,h=>by
  by_cases e:k=n+1
  ·subst e;exact Ho _
  ·have:=BU N n k (by omega);simp only [mG];omega
theorem uT {V:CV} (h:V.short 1048576) (hs:mG V.N V.nO≤1048576):V.few:=by
 refine ⟨h,fun k hk=>?_⟩
 rw [Cb]
 have:=BU V.N V.nO k hk
 have:=h.1
 unfold CV.s1
 omega
theorem FC {V:CV} (h:V.few):V.s4≤2000000000:=by
 obtain ⟨⟨_,_,_,hX,hI⟩,h2⟩:=h
 have:=h2 V.nO (Ho _)
 unfold CV.s4 CV.s3 CV.s2
 omega
theorem AV (a:Int) (V:CV) (Z:Nat→Nat→Int) (lo dW dO dX dI dR nR:Nat) (hf:V.few) (hn:nR≤1048576) (w:World) (hlo:lo≤dR) (hd:dR<w.heap.size) (h:aV lo dR w (.agg (zC V dW V.nW dO V.nO dX V.nX dI V.nI).toArray) V) (hR:P16.iy w dR nR Z nR) :
 Hz 31 #[Am a (zC V dW V.nW dO V.nO dX V.nX dI V.nI) (zS dR nR nR),zI 1] w fun e w'=>(∃ z:Nat,e=.returned (zI (z:Int)))∧w.heap.size≤w'.heap.size∧(∀ b,b<w.heap.size→(b<lo∨dR<b)→Sm w w' b)∧Below lo w w':=by
 have HC:=hid h
 have HR:=hid hR
 have HF:=hid hf
 clear h hR hf
 go_enter Tryz.func31,Tryz.ntmps31
 go_wp2_with fail
 obtain ⟨w0,e0,B1,S1,hz0⟩:=Gz w [zI a,zI V.c,zS dW V.nW V.nW,zI V.g,zS dO V.nO V.nO,zS dX V.nX V.nX,zS dI V.nI V.nI,zS dR nR nR] 71
 rw [←e0]
 clear e0
 refine (EI lo dR _ V HF.out _ (by omega) (by omega) (HC.out.below (by omega) B1.out)).mono ?_
 rintro e w1 ⟨rfl,_,kz1,hsm,hb⟩
 have SM:=hid hsm
 have S2:=hid (S1.out.sm kz1 (hsm _ (by omega) (.inr (by omega))))
 have K1:Hid (P16.iy w1 dR nR Z nR):=by
  have h0:=P16.own_below HR.out hd B1.out
  have hs:=hsm dR (by omega) (.inr (Ho _))
  exact ⟨fun i hi=>by rw [(hs i).1,(hs i).2];exact h0.1 i hi,fun k j hk hj=>by rw [(hs _).1];exact h0.2 k j hk hj⟩
 have B2:Hid (Below lo w w1):=(B1.out.mono (by omega)).trans hb
 clear hsm hb S1
 obtain ⟨y0,y1,y2,y3,y4,y5,y6,y7⟩:=S2.out.a8
 have hlS:w.heap.size<w1.heap.size:=S2.out.1
 go_wp2_with fail
 clear y0 y1 y2 y3 y4 y5 y6 y7 hlS
 refine (Gl V.s4 dR nR nR Z (by omega) (FC HF.out) _ (by omega) K1.out).mono ?_
 rintro e w2 ⟨rfl,_,hg,hz⟩
 have SG:∀ b,b<w1.heap.size→¬ b=dR→Sm w1 w2 b:=fun b hb hne=>bG hg hb (fun e=>by injection e with e;exact hne e)
 have B3:Hid (Below lo w w2):=B2.out.grown hg (by omega) (fun kk e=>by cases e;exact hlo)
 have BB:=hid B1.out
 clear hg
 go_wp2
 go_ret
 refine ⟨⟨_,rfl⟩,by omega,fun b hw hb=>?_,B3.out⟩
 exact ((aj BB.out (by omega)).trans (SM.out b (by omega) (by omega))).trans (SG b (by omega) (by omega))
