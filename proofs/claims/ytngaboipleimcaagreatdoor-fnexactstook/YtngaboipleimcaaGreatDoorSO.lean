/- The program's StoOk answers as the model's; conditions: the store lies in memory. -/
import Derived.Test.YtngaboipleimcaaGreatDoorSS
import Derived.Test.YtngaboipleimcaaGreatDoorFO
import Derived.Deep.DeepCutAuto
namespace Go.Proofs.YtngaboipleimcaaGreatDoor
open Go.RowKit Go.Deep
set_option linter.unusedVariables false
set_option maxRecDepth 20000
theorem short_two {V:CV} (h:V.short 1048576):V.short 2000000:=by
 obtain ⟨h1,h2,h3,h4,h5⟩:=h
 exact ⟨by omega,by omega,fun k hk=>by have:=h3 k hk;omega,by omega,by omega⟩
set_option maxHeartbeats 4000000 in
theorem law_stoOk (c d a:Int) (V:CV) (Z:Nat→Nat→Int) (aW:Option Addr) (kW:Nat) (aO:Option Addr) (kO:Nat) (aX:Option Addr) (kX:Nat) (aI:Option Addr) (kI:Nat) (aR:Option Addr) (nR kR:Nat) (hs0:V.short maxLen) (hn:nR≤maxLen) (hwf0:∀ k,k<V.nW→(Lit.int .i64 (V.W k 0)).wf=true) (hwR0:∀ k j,k<nR→j<16→(Lit.int .i64 (Z k j)).wf=true) (w:World)
 (hg00:w.cell? (zA 0 0)=some (.iface 226 (.agg #[zP 1 199]))) (h0:CellAt w (.agg (zD V aW kW aO kO aX kX aI kI).toArray) V) (hR0:P16.Row16 w aR nR Z) :
 Calls Tryz.prog 5 #[.agg #[zI c,zI d],zSt a (zD V aW kW aO kO aX kX aI kI) (.slice aR nR kR)] w fun e w'=>e=.returned (.bool true)∧Below w.heap.size w w':=by
 have hs:=hid hs0
 have hwf:=hid hwf0
 have hwR:=hid hwR0
 have hg0:=hid hg00
 have hpos:0<w.heap.size:=World.block_lt_of_cell? w (zA 0 0) hg00
 have HC:=hid h0
 have HR:=hid hR0
 clear hs0 hwf0 hwR0 hg00 h0 hR0
 go_enter Tryz.func5,Tryz.ntmps5
 go_wp2_with fail
 obtain ⟨w0,e0,B1,M1,S1,hz0⟩:=bxh2 w [zI c,zI d] 23 [zI a,zI V.c,.slice aW V.nW kW,zI V.g,.slice aO V.nO kO,.slice aX V.nX kX,.slice aI V.nI kI,.slice aR nR kR] 67
 rw [←e0]
 clear e0
 refine (szStore a V aW kW aO kO aX kX aI kI aR nR kR hs.out hn _ (cellAt_below HC.out B1.out)).mono ?_
 rintro e w1 ⟨⟨r,rfl,hr⟩,hb⟩
 have kz1:=hb.size
 have B2:=hid (bthen B1.out hb)
 have M2:=hid (M1.out.below hb)
 have S2:=hid (S1.out.below hb)
 clear B1 M1 S1 hb
 rcases hr with hr | ⟨r0,r1,r2,r3⟩
 ·go_wp2
  go_ret
  exact ⟨rfl,B2.out⟩
 have hS:=hid (And.intro r1 r3)
 clear r1 r2 r3 hs
 obtain ⟨m0,m1⟩:=M2.out.a2
 have hlM:w.heap.size<w1.heap.size:=M2.out.1
 obtain ⟨y0,y1,y2,y3,y4,y5,y6,y7⟩:=S2.out.a8
 have hlS:w.heap.size+1<w1.heap.size:=S2.out.1
 go_wp2_with fail
 refine wp_region_held_drew (S:=fun w'=>Below (w1.heap.size) w1 w') (by kernel_rfl) ((Below.refl _ _).drew) ?_
 intro hHeld
 obtain ⟨X0,hX0⟩:∃ X,X=w1.drew:=⟨_,rfl⟩
 have hz1:w1.heap.size≤X0.heap.size:=by rw [hX0];exact Nat.le_refl _
 rw [←hX0] at hHeld ⊢
 clear hX0
 refine tkb 0 (.agg #[zI c,zI d]) rfl ?_
 try simp only [aT]
 refine tkb 2 (zSt a (zD V aW kW aO kO aX kX aI kI) (.slice aR nR kR)) rfl ?_
 try simp only [aT]
 refine rd1 1 rfl fun K hK=>?_
 go_simp
 go_wp2_with fail
 refine (toMap c d _).mono ?_
 rintro e x1 ⟨rfl,hb⟩
 have kx1:=hb.size
 refine hK.out _ _ (bthenN hHeld (by omega) hb) (fun hNew=>?_)
 clear hK K hHeld
 have hHeld:=hNew
 clear hNew
 try simp only [aT]
 clear hb
 refine rd1 3 rfl fun K hK=>?_
 go_simp
 go_wp2_with fail
 refine (toStore a V Z aW kW aO kO aX kX aI kI aR nR kR hS.out.1 hS.out.2 _ (cellAt_below HC.out (bthen B2.out hHeld)) (P16.row_below HR.out (bthen B2.out hHeld))).mono ?_
 rintro e x2 ⟨⟨bW,bO,bX,bI,bR,rfl,hC,hbR,hO⟩,hb⟩
 have kx2:=hb.size
 have CB:=hid hC
 have OR:=hid hO
 clear hC hO
 refine hK.out _ _ (bthenN hHeld (by omega) hb) (fun hNew=>?_)
 clear hK K hHeld
 have hHeld:=hNew
 clear hNew
 try simp only [aT]
 clear hb
 refine rd1 4 rfl fun K hK=>?_
 go_simp
 go_wp2_with fail
 refine (stoOk_spec c d a V _ bW bO bX bI bR nR Z hS.out.1 hS.out.2 _ CB.out.copy hbR (P16.own_row OR.out)).mono ?_
 rintro e x3 ⟨rfl,hb⟩
 have kx3:=hb.size
 refine hK.out _ _ (bthenN hHeld (by omega) hb) (fun hNew=>?_)
 clear hK K hHeld
 have hHeld:=hNew
 clear hNew
 try simp only [aT]
 clear hb CB OR
 refine tkb 5 (.bool (stoB c d a V nR Z)) rfl ?_
 try simp only [aT]
 refine wpAnyH_done (by kernel_rfl) ?_ _
 have B3:=hid (bthen B2.out hHeld)
 have M3:=hid (M2.out.below hHeld)
 have S3:=hid (S2.out.below hHeld)
 clear B2 M2 S2 hHeld m0 m1 hlM y0 y1 y2 y3 y4 y5 y6 y7 hlS
 obtain ⟨m0,m1⟩:=M3.out.a2
 have hlM:w.heap.size<x3.heap.size:=M3.out.1
 obtain ⟨y0,y1,y2,y3,y4,y5,y6,y7⟩:=S3.out.a8
 have hlS:w.heap.size+1<x3.heap.size:=S3.out.1
 go_wp2_with fail
 clear m0 m1 hlM y0 y1 y2 y3 y4 y5 y6 y7 hlS
 clear hbR
 refine (toStore a V Z aW kW aO kO aX kX aI kI aR nR kR hS.out.1 hS.out.2 _ (cellAt_below HC.out B3.out) (P16.row_below HR.out B3.out)).mono ?_
 rintro e w4 ⟨⟨dW,dO,dX,dI,dR,rfl,hC,hdR,hO⟩,hb⟩
 have CB:=hid hC
 have OR:=hid hO
 clear hC hO
 have kz4:=hb.size
 have B4:=hid (bthen B3.out hb)
 have M4:=hid (M3.out.below hb)
 have S4:=hid (S3.out.below hb)
 clear B3 M3 S3 hb
 go_upto_region 7 with fail
 obtain ⟨w5,en⟩:∃ y,y=w4.alloc (.cells #[zI a,zI V.c,zS dW V.nW V.nW,zI V.g,zS dO V.nO V.nO,zS dX V.nX V.nX,zS dI V.nI V.nI,zS dR nR nR] 71):=⟨_,rfl⟩
 have hbx:Below w4.heap.size w4 w5:=by rw [en];exact (Below.refl _ _).alloc (Nat.le_refl _) _
 have hX:Bk w5 w4.heap.size [zI a,zI V.c,zS dW V.nW V.nW,zI V.g,zS dO V.nO V.nO,zS dX V.nX V.nX,zS dI V.nI V.nI,zS dR nR nR]:=by rw [en];exact bk_new w4 71 [zI a,zI V.c,zS dW V.nW V.nW,zI V.g,zS dO V.nO V.nO,zS dX V.nX V.nX,zS dI V.nI V.nI,zS dR nR nR]
 rw [←en]
 clear en
 have kz5:=hbx.size
 have B5:=hid (bthen B4.out hbx)
 have M5:=hid (M4.out.below hbx)
 have S5:=hid (S4.out.below hbx)
 have X5:=hid hX
 have CB5:=hid (CB.out.below hbx)
 have OR5:=hid (P16.own_below OR.out hdR hbx)
 have hdR5:dR<w5.heap.size:=by omega
 clear B4 M4 S4 hX CB OR hbx
 obtain ⟨xb,exb⟩:∃ x,x=w4.heap.size:=⟨_,rfl⟩
 rw [←exb] at X5 ⊢
 have xb1:=Nat.le_of_eq exb
 clear exb
 obtain ⟨m0,m1⟩:=M5.out.a2
 have hlM:w.heap.size<w5.heap.size:=M5.out.1
 obtain ⟨y0,y1,y2,y3,y4,y5,y6,y7⟩:=X5.out.a8
 have hlX:xb<w5.heap.size:=X5.out.1
 refine wp_region_held_drew (S:=fun w'=>Below (w5.heap.size) w5 w') (by kernel_rfl) ((Below.refl _ _).drew) ?_
 intro hHeld
 obtain ⟨X0,hX0⟩:∃ X,X=w5.drew:=⟨_,rfl⟩
 have hz5:w5.heap.size≤X0.heap.size:=by rw [hX0];exact Nat.le_refl _
 rw [←hX0] at hHeld ⊢
 clear hX0
 refine tkb 0 (.agg #[zI c,zI d]) rfl ?_
 try simp only [aT]
 refine tkb 2 (.agg [zI a,zI V.c,zS dW V.nW V.nW,zI V.g,zS dO V.nO V.nO,zS dX V.nX V.nX,zS dI V.nI V.nI,zS dR nR nR].toArray) rfl ?_
 try simp only [aT]
 refine rd1 1 rfl fun K hK=>?_
 go_simp
 go_wp2_with fail
 refine (toMap c d _).mono ?_
 rintro e z1 ⟨rfl,hb⟩
 have kq1:=hb.size
 refine hK.out _ _ (bthenN hHeld (by omega) hb) (fun hNew=>?_)
 clear hK K hHeld
 have hHeld:=hNew
 clear hNew
 try simp only [aT]
 clear hb
 refine rd1 3 rfl fun K hK=>?_
 go_simp
 go_wp2_with fail
 refine (stoOk_impl c d a V _ dW dO dX dI dR nR Z hS.out.1 hS.out.2 hwf.out hwR.out _ (((bthen B5.out hHeld).cell (p:=(zA 0 0)) hpos).trans hg0.out) (CB5.out.below hHeld).copy (by omega) (P16.own_row (P16.own_below OR5.out hdR5 hHeld))).mono ?_
 rintro e z2 ⟨rfl,hb⟩
 have kq2:=hb.size
 refine hK.out _ _ (bthenN hHeld (by omega) hb) (fun hNew=>?_)
 clear hK K hHeld
 have hHeld:=hNew
 clear hNew
 try simp only [aT]
 clear hb
 refine tkb 4 (.bool (stoB c d a V nR Z)) rfl ?_
 try simp only [aT]
 refine wpAnyH_done (by kernel_rfl) ?_ _
 have B6:=hid (bthen B5.out hHeld)
 have S6:=hid (S5.out.below hHeld)
 have X6:=hid (X5.out.below hHeld)
 have CB6:=hid (CB5.out.below hHeld)
 have OR6:=hid (P16.own_below OR5.out hdR5 hHeld)
 clear B5 M5 S5 X5 CB5 OR5 hHeld m0 m1 hlM y0 y1 y2 y3 y4 y5 y6 y7 hlX
 obtain ⟨y0,y1,y2,y3,y4,y5,y6,y7⟩:=S6.out.a8
 have hlS:w.heap.size+1<z2.heap.size:=S6.out.1
 obtain ⟨p0,p1,p2,p3,p4,p5,p6,p7⟩:=X6.out.a8
 have hlX:xb<z2.heap.size:=X6.out.1
 go_wp2_with fail
 refine wp_region_held_drew (S:=fun w'=>Below (z2.heap.size) z2 w') (by kernel_rfl) ((Below.refl _ _).drew) ?_
 intro hHeld
 obtain ⟨X0,hX0⟩:∃ X,X=z2.drew:=⟨_,rfl⟩
 have hz6:z2.heap.size≤X0.heap.size:=by rw [hX0];exact Nat.le_refl _
 rw [←hX0] at hHeld ⊢
 clear hX0
 refine tkb 0 (zSt a (zC V dW V.nW dO V.nO dX V.nX dI V.nI) (zS dR nR nR)) rfl ?_
 try simp only [aT]
 refine tkb 1 (zSt a (zD V aW kW aO kO aX kX aI kI) (.slice aR nR kR)) rfl ?_
 try simp only [aT]
 refine rd1 2 rfl fun K hK=>?_
 go_simp
 go_wp2_with fail
 refine (toStore a V Z aW kW aO kO aX kX aI kI aR nR kR hS.out.1 hS.out.2 _ (cellAt_below HC.out (bthen B6.out hHeld)) (P16.row_below HR.out (bthen B6.out hHeld))).mono ?_
 rintro e u1 ⟨⟨eW,eO,eX,eI,eR,rfl,hC,heR,hO⟩,hb⟩
 have ku1:=hb.size
 have CE:=hid hC
 have OE:=hid hO
 clear hC hO
 refine hK.out _ _ (bthenN hHeld (by omega) hb) (fun hNew=>?_)
 clear hK K hHeld
 have hHeld:=hNew
 clear hNew
 try simp only [aT]
 clear hb
 refine rd1 3 rfl fun K hK=>?_
 go_simp
 go_wp2_with fail
 refine (eqStore a V Z dW dO dX dI dR eW eO eX eI eR nR (short_two hS.out.1) (by have:=hS.out.2;omega) _ ((CB6.out.below hHeld).copy.at) CE.out.copy.at (by omega) heR (P16.own_below OR6.out (by omega) hHeld) OE.out).mono ?_
 rintro e u2 ⟨rfl,hb⟩
 have ku2:=hb.size
 refine hK.out _ _ (bthenN hHeld (by omega) hb) (fun hNew=>?_)
 clear hK K hHeld
 have hHeld:=hNew
 clear hNew
 try simp only [aT]
 clear hb
 refine tkb 4 (.bool false) rfl ?_
 try simp only [aT]
 refine wpAnyH_done (by kernel_rfl) ?_ _
 have B7:=hid (bthen B6.out hHeld)
 clear B6 S6 X6 CB6 OR6 CE OE hHeld y0 y1 y2 y3 y4 y5 y6 y7 hlS p0 p1 p2 p3 p4 p5 p6 p7 hlX
 go_wp2
 go_ret
 exact ⟨rfl,B7.out⟩
end Go.Proofs.YtngaboipleimcaaGreatDoor
