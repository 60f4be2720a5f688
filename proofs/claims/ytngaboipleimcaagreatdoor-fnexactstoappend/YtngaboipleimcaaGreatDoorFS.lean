/- state of a store, of the program: the scene behind all its records, or none; conditions: the store lies in memory of its own. -/
import Derived.Test.YtngaboipleimcaaGreatDoorFF
import Derived.Test.YtngaboipleimcaaGreatDoorLB0
set_option linter.unusedVariables false
set_option maxHeartbeats 8000000
set_option maxRecDepth 20000
namespace Go.Proofs.YtngaboipleimcaaGreatDoor
open Go.RowKit Go.Deep
theorem lU (a:Int) (w:World):Hz 68 #[zI a] w fun e w'=>e=.returned (.bool (inB a 0 900))∧w'=w:=by
 go_enter Tryz.func68,Tryz.ntmps68
 go_wp2_with (go_at_call 87;refine (dn _ _ _ _).mono ?_;rintro e w' ⟨rfl,rfl⟩)
 go_ret
 exact ⟨rfl,rfl⟩
theorem AZ (c d:Int) (s b l:Nat) (V:CV) (n0:Nat) (hV:bD c d V=true) (bl off len cap:Nat) (Z:Nat→Nat→Int) (hlen:len≤1048576) (hwf:∀ k j,k<len→j<16→(Lit.int .i64 (Z k j)).wf=true) (hl:0<l) (w:World) (hg:w.cell? (zA 0 0)=some (.iface 226 (.agg #[zP 1 199]))) (hbl:bl<l)
 (hr:∀ k j,k<len→j<16→w.cell? ⟨bl,off+k * 16+j,none⟩=some (.int .i64 (Z k j))) (h:Sv w c d s b ⟨l,w.heap.size,w.heap.size⟩ V n0) :
 Hz 63 #[zP s 0,.slice (some ⟨bl,off,none⟩) len cap] w fun e w'=>e=.returned (zI (gm c d V Z len:Int))∧(∃ k1,Sv w' c d s b ⟨l,w.heap.size,k1⟩ (bg c d V Z (gm c d V Z len)) (n0+5 * len))∧Below l w w' :=
 (callsIn_wide (n:=5)).1 (Es c d s b l V n0 hV bl off len cap Z hlen hwf hl w hg hbl hr h)
/-- Whether a store is ok. -/
def mF (c d a:Int) (V:CV) (nR:Nat) (Z:Nat→Nat→Int):Bool:=inB a 0 900 && (bD c d V && (decide (nR≤250) && decide (gm c d V Z nR=nR)))
def StV (c d:Int) (V:CV) (nR:Nat) (Z:Nat→Nat→Int) (w w':World) (e:Ending):Prop:=(gm c d V Z nR=nR→∃ s b lo2 n,e=.returned (zP s 0)∧w.heap.size≤lo2.l∧Sv w' c d s b lo2 (bg c d V Z nR) n∧n≤1048576)∧(¬ gm c d V Z nR=nR→e=.returned (.pointer none))
theorem xg (c d a:Int) (V:CV) (lo bW bO bX bI bR nR:Nat) (Z:Nat→Nat→Int) (hs0:V.short 1048576) (hnR:nR≤1048576) (hwf0:∀ k,k<V.nW→(Lit.int .i64 (V.W k 0)).wf=true) (hwR0:∀ k j,k<nR→j<16→(Lit.int .i64 (Z k j)).wf=true) (w:World)
 (hg00:w.cell? (zA 0 0)=some (.iface 226 (.agg #[zP 1 199]))) (CP0:eH lo w (.agg (zC V bW V.nW bO V.nO bX V.nX bI V.nI).toArray) V) (hbR:bR<w.heap.size) (hR0:∀ k j,k<nR→j<16→w.cell? ⟨bR,0+k * 16+j,none⟩=some (.int .i64 (Z k j))) (h1:inB a 0 900=false) :
 Hz 66 #[.agg [zI a,zI V.c,zS bW V.nW V.nW,zI V.g,zS bO V.nO V.nO,zS bX V.nX V.nX,zS bI V.nI V.nI,zS bR nR nR].toArray,.agg #[zI c,zI d]] w fun e w'=>e=.returned (.pointer none)∧Below w.heap.size w w':=by
 have hs:=hid hs0
 have hwf:=hid hwf0
 have hwR:=hid hwR0
 have hg0:=hid hg00
 have CP:=hid CP0
 have hR:=hid hR0
 have hpos:0<w.heap.size:=World.block_lt_of_cell? w (zA 0 0) hg00
 clear hs0 hwf0 hwR0 hg00 CP0 hR0
 go_enter Tryz.func66,Tryz.ntmps66
 go_wp2_with fail
 obtain ⟨w0,e0,hB0,hT0,hM0,hz0⟩:=GY w [zI a,zI V.c,zS bW V.nW V.nW,zI V.g,zS bO V.nO V.nO,zS bX V.nX V.nX,zS bI V.nI V.nI,zS bR nR nR] 71 [zI c,zI d] 44
 rw [←e0]
 clear e0
 have B1:=hid hB0
 have T1:=hid hT0
 have M1:=hid hM0
 clear hB0 hT0 hM0
 have yT:=hid T1.out.2
 have yT0:w0.cell? (zA w.heap.size 0)=some (zI a):=(yT.out 0 (by simp)).1
 have yT1:w0.cell? (zA w.heap.size 1)=some (zI V.c):=(yT.out 1 (by simp)).1
 have yT2:w0.cell? (zA w.heap.size 2)=some (zS bW V.nW V.nW):=(yT.out 2 (by simp)).1
 have yT3:w0.cell? (zA w.heap.size 3)=some (zI V.g):=(yT.out 3 (by simp)).1
 have yT4:w0.cell? (zA w.heap.size 4)=some (zS bO V.nO V.nO):=(yT.out 4 (by simp)).1
 have yT5:w0.cell? (zA w.heap.size 5)=some (zS bX V.nX V.nX):=(yT.out 5 (by simp)).1
 have yT6:w0.cell? (zA w.heap.size 6)=some (zS bI V.nI V.nI):=(yT.out 6 (by simp)).1
 have yT7:w0.cell? (zA w.heap.size 7)=some (zS bR nR nR):=(yT.out 7 (by simp)).1
 have lT:w.heap.size<w0.heap.size:=T1.out.1
 obtain ⟨yM0,yM1⟩:=M1.out.a2
 have lM:w.heap.size+1<w0.heap.size:=M1.out.1
 clear yT
 go_wp2_with (go_at_call 68;refine (lU _ _).mono ?_;rintro e w2 ⟨rfl,rfl⟩)
 go_ret
 exact ⟨rfl,B1.out⟩
theorem yN (c d a:Int) (V:CV) (lo bW bO bX bI bR nR:Nat) (Z:Nat→Nat→Int) (hs0:V.short 1048576) (hnR:nR≤1048576) (hwf0:∀ k,k<V.nW→(Lit.int .i64 (V.W k 0)).wf=true) (hwR0:∀ k j,k<nR→j<16→(Lit.int .i64 (Z k j)).wf=true) (w:World)
 (hg00:w.cell? (zA 0 0)=some (.iface 226 (.agg #[zP 1 199]))) (CP0:eH lo w (.agg (zC V bW V.nW bO V.nO bX V.nX bI V.nI).toArray) V) (hbR:bR<w.heap.size) (hR0:∀ k j,k<nR→j<16→w.cell? ⟨bR,0+k * 16+j,none⟩=some (.int .i64 (Z k j))) (h1:inB a 0 900=true) (h2:bD c d V=false) :
 Hz 66 #[.agg [zI a,zI V.c,zS bW V.nW V.nW,zI V.g,zS bO V.nO V.nO,zS bX V.nX V.nX,zS bI V.nI V.nI,zS bR nR nR].toArray,.agg #[zI c,zI d]] w fun e w'=>e=.returned (.pointer none)∧Below w.heap.size w w':=by
 have hs:=hid hs0
 have hwf:=hid hwf0
 have hwR:=hid hwR0
 have hg0:=hid hg00
 have CP:=hid CP0
 have hR:=hid hR0
 have hpos:0<w.heap.size:=World.block_lt_of_cell? w (zA 0 0) hg00
 clear hs0 hwf0 hwR0 hg00 CP0 hR0
 go_enter Tryz.func66,Tryz.ntmps66
 go_wp2_with fail
 obtain ⟨w0,e0,hB0,hT0,hM0,hz0⟩:=GY w [zI a,zI V.c,zS bW V.nW V.nW,zI V.g,zS bO V.nO V.nO,zS bX V.nX V.nX,zS bI V.nI V.nI,zS bR nR nR] 71 [zI c,zI d] 44
 rw [←e0]
 clear e0
 have B1:=hid hB0
 have T1:=hid hT0
 have M1:=hid hM0
 clear hB0 hT0 hM0
 have yT:=hid T1.out.2
 have yT0:w0.cell? (zA w.heap.size 0)=some (zI a):=(yT.out 0 (by simp)).1
 have yT1:w0.cell? (zA w.heap.size 1)=some (zI V.c):=(yT.out 1 (by simp)).1
 have yT2:w0.cell? (zA w.heap.size 2)=some (zS bW V.nW V.nW):=(yT.out 2 (by simp)).1
 have yT3:w0.cell? (zA w.heap.size 3)=some (zI V.g):=(yT.out 3 (by simp)).1
 have yT4:w0.cell? (zA w.heap.size 4)=some (zS bO V.nO V.nO):=(yT.out 4 (by simp)).1
 have yT5:w0.cell? (zA w.heap.size 5)=some (zS bX V.nX V.nX):=(yT.out 5 (by simp)).1
 have yT6:w0.cell? (zA w.heap.size 6)=some (zS bI V.nI V.nI):=(yT.out 6 (by simp)).1
 have yT7:w0.cell? (zA w.heap.size 7)=some (zS bR nR nR):=(yT.out 7 (by simp)).1
 have lT:w.heap.size<w0.heap.size:=T1.out.1
 obtain ⟨yM0,yM1⟩:=M1.out.a2
 have lM:w.heap.size+1<w0.heap.size:=M1.out.1
 clear yT
 go_wp2_with (first | (go_at_call 68;refine (lU _ _).mono ?_;rintro e wz ⟨rfl,rfl⟩) | (go_at_call 48;refine (oh c d _ V lo hs.out _ (CP.out.below B1.out)).mono ?_;rintro e w1 ⟨rfl,hb⟩;obtain ⟨hc1,hf1⟩:=cu hb))
 go_ret
 exact ⟨rfl,ah B1.out hb⟩
theorem xZ (c d a:Int) (V:CV) (lo bW bO bX bI bR nR:Nat) (Z:Nat→Nat→Int) (hs0:V.short 1048576) (hnR:nR≤1048576) (hwf0:∀ k,k<V.nW→(Lit.int .i64 (V.W k 0)).wf=true) (hwR0:∀ k j,k<nR→j<16→(Lit.int .i64 (Z k j)).wf=true) (w:World)
 (hg00:w.cell? (zA 0 0)=some (.iface 226 (.agg #[zP 1 199]))) (CP0:eH lo w (.agg (zC V bW V.nW bO V.nO bX V.nX bI V.nI).toArray) V) (hbR:bR<w.heap.size) (hR0:∀ k j,k<nR→j<16→w.cell? ⟨bR,0+k * 16+j,none⟩=some (.int .i64 (Z k j))) (h1:inB a 0 900=true) (h2:bD c d V=true) (h3:(250:Int)<nR) :
 Hz 66 #[.agg [zI a,zI V.c,zS bW V.nW V.nW,zI V.g,zS bO V.nO V.nO,zS bX V.nX V.nX,zS bI V.nI V.nI,zS bR nR nR].toArray,.agg #[zI c,zI d]] w fun e w'=>e=.returned (.pointer none)∧Below w.heap.size w w':=by
 have hs:=hid hs0
 have hwf:=hid hwf0
 have hwR:=hid hwR0
 have hg0:=hid hg00
 have CP:=hid CP0
 have hR:=hid hR0
 have hpos:0<w.heap.size:=World.block_lt_of_cell? w (zA 0 0) hg00
 clear hs0 hwf0 hwR0 hg00 CP0 hR0
 go_enter Tryz.func66,Tryz.ntmps66
 go_wp2_with fail
 obtain ⟨w0,e0,hB0,hT0,hM0,hz0⟩:=GY w [zI a,zI V.c,zS bW V.nW V.nW,zI V.g,zS bO V.nO V.nO,zS bX V.nX V.nX,zS bI V.nI V.nI,zS bR nR nR] 71 [zI c,zI d] 44
 rw [←e0]
 clear e0
 have B1:=hid hB0
 have T1:=hid hT0
 have M1:=hid hM0
 clear hB0 hT0 hM0
 have yT:=hid T1.out.2
 have yT0:w0.cell? (zA w.heap.size 0)=some (zI a):=(yT.out 0 (by simp)).1
 have yT1:w0.cell? (zA w.heap.size 1)=some (zI V.c):=(yT.out 1 (by simp)).1
 have yT2:w0.cell? (zA w.heap.size 2)=some (zS bW V.nW V.nW):=(yT.out 2 (by simp)).1
 have yT3:w0.cell? (zA w.heap.size 3)=some (zI V.g):=(yT.out 3 (by simp)).1
 have yT4:w0.cell? (zA w.heap.size 4)=some (zS bO V.nO V.nO):=(yT.out 4 (by simp)).1
 have yT5:w0.cell? (zA w.heap.size 5)=some (zS bX V.nX V.nX):=(yT.out 5 (by simp)).1
 have yT6:w0.cell? (zA w.heap.size 6)=some (zS bI V.nI V.nI):=(yT.out 6 (by simp)).1
 have yT7:w0.cell? (zA w.heap.size 7)=some (zS bR nR nR):=(yT.out 7 (by simp)).1
 have lT:w.heap.size<w0.heap.size:=T1.out.1
 obtain ⟨yM0,yM1⟩:=M1.out.a2
 have lM:w.heap.size+1<w0.heap.size:=M1.out.1
 clear yT
 go_wp2_with (first | (go_at_call 68;refine (lU _ _).mono ?_;rintro e wz ⟨rfl,rfl⟩) | (go_at_call 48;refine (oh c d _ V lo hs.out _ (CP.out.below B1.out)).mono ?_;rintro e w1 ⟨rfl,hb⟩;obtain ⟨hc1,hf1⟩:=cu hb))
 all_goals (go_ret;exact ⟨rfl,ah B1.out hb⟩)
theorem yL (c d a:Int) (V:CV) (lo bW bO bX bI bR nR:Nat) (Z:Nat→Nat→Int) (hs0:V.short 1048576) (hnR:nR≤1048576) (hwf0:∀ k,k<V.nW→(Lit.int .i64 (V.W k 0)).wf=true) (hwR0:∀ k j,k<nR→j<16→(Lit.int .i64 (Z k j)).wf=true) (w:World)
 (hg00:w.cell? (zA 0 0)=some (.iface 226 (.agg #[zP 1 199]))) (CP0:eH lo w (.agg (zC V bW V.nW bO V.nO bX V.nX bI V.nI).toArray) V) (hbR:bR<w.heap.size) (hR0:∀ k j,k<nR→j<16→w.cell? ⟨bR,0+k * 16+j,none⟩=some (.int .i64 (Z k j))) (h1:inB a 0 900=true) (h2:bD c d V=true) (h3:¬ (250:Int)<nR) :
 Hz 66 #[.agg [zI a,zI V.c,zS bW V.nW V.nW,zI V.g,zS bO V.nO V.nO,zS bX V.nX V.nX,zS bI V.nI V.nI,zS bR nR nR].toArray,.agg #[zI c,zI d]] w fun e w'=>StV c d V nR Z w w' e∧Below w.heap.size w w':=by
 have hs:=hid hs0
 have hwf:=hid hwf0
 have hwR:=hid hwR0
 have hg0:=hid hg00
 have CP:=hid CP0
 have hR:=hid hR0
 have hpos:0<w.heap.size:=World.block_lt_of_cell? w (zA 0 0) hg00
 clear hs0 hwf0 hwR0 hg00 CP0 hR0
 go_enter Tryz.func66,Tryz.ntmps66
 go_wp2_with fail
 obtain ⟨w0,e0,hB0,hT0,hM0,hz0⟩:=GY w [zI a,zI V.c,zS bW V.nW V.nW,zI V.g,zS bO V.nO V.nO,zS bX V.nX V.nX,zS bI V.nI V.nI,zS bR nR nR] 71 [zI c,zI d] 44
 rw [←e0]
 clear e0
 have B1:=hid hB0
 have T1:=hid hT0
 have M1:=hid hM0
 clear hB0 hT0 hM0
 have yT:=hid T1.out.2
 have yT0:w0.cell? (zA w.heap.size 0)=some (zI a):=(yT.out 0 (by simp)).1
 have yT1:w0.cell? (zA w.heap.size 1)=some (zI V.c):=(yT.out 1 (by simp)).1
 have yT2:w0.cell? (zA w.heap.size 2)=some (zS bW V.nW V.nW):=(yT.out 2 (by simp)).1
 have yT3:w0.cell? (zA w.heap.size 3)=some (zI V.g):=(yT.out 3 (by simp)).1
 have yT4:w0.cell? (zA w.heap.size 4)=some (zS bO V.nO V.nO):=(yT.out 4 (by simp)).1
 have yT5:w0.cell? (zA w.heap.size 5)=some (zS bX V.nX V.nX):=(yT.out 5 (by simp)).1
 have yT6:w0.cell? (zA w.heap.size 6)=some (zS bI V.nI V.nI):=(yT.out 6 (by simp)).1
 have yT7:w0.cell? (zA w.heap.size 7)=some (zS bR nR nR):=(yT.out 7 (by simp)).1
 have lT:w.heap.size<w0.heap.size:=T1.out.1
 obtain ⟨yM0,yM1⟩:=M1.out.a2
 have lM:w.heap.size+1<w0.heap.size:=M1.out.1
 clear yT
 go_wp2_with (first | (go_at_call 68;refine (lU _ _).mono ?_;rintro e wz ⟨rfl,rfl⟩) | (go_at_call 48;refine (oh c d _ V lo hs.out _ (CP.out.below B1.out)).mono ?_;rintro e w1 ⟨rfl,hb⟩;obtain ⟨hc1,hf1⟩:=cu hb) | (go_at_call 50;refine (Ee c d _ V lo hs.out hwf.out _ (CP.out.below (ah B1.out hb))).mono ?_;rintro e w4 ⟨s,b,lc,hc,rfl,hSc,g1,g2,g3,hb4⟩))
 have z1:=hb.size
 have z4:=hb4.size
 have hnO:V.nO=2:=(dH h2).1
 have n9:=jF h2
 have S4:Sv w4 c d s b ⟨w1.heap.size,w4.heap.size,w4.heap.size⟩ V V.nW:=⟨V.nW,V.W,hSc.sc (by rw [hnO];decide) g3 g1 g2⟩
 have B4:=hid (ah (ah B1.out hb) hb4)
 have T4:=hid ((T1.out.below hb).below hb4)
 have R4:Hid (∀ k j,k<nR→j<16→w4.cell? ⟨bR,0+k * 16+j,none⟩=some (.int .i64 (Z k j))):=fun k j h1 h2=>(B4.out.cell (p:=⟨bR,0+k * 16+j,none⟩) hbR).trans (hR.out k j h1 h2)
 have G4:Hid (w4.cell? (zA 0 0)=some (.iface 226 (.agg #[zP 1 199]))):=(B4.out.cell (p:=(zA 0 0)) hpos).trans hg0.out
 obtain ⟨l,el⟩:∃ l,l=w1.heap.size:=⟨_,rfl⟩
 rw [←el] at S4 g1 g2 g3 z4 z1
 have H2:=hid h2
 have HO:=hid hnO
 clear el hc1 hf1 hSc hb4 hb h2 hnO
 clear yT0 yT1 yT2 yT3 yT4 yT5 yT6 yT7 lT yM0 yM1 lM
 refine Hu (S:=fun w'=>Below l w4 w') (by kernel_rfl) ((Hr _ _).drew) ?_
 intro af
 obtain ⟨X0,hX0⟩:∃ X,X=w4.drew:=⟨_,rfl⟩
 have SX:Hid (Sv X0 c d s b ⟨l,X0.heap.size,X0.heap.size⟩ V V.nW):=by rw [hX0];exact S4.below ((Hr _ _).drew)
 have GX:Hid (X0.cell? (zA 0 0)=some (.iface 226 (.agg #[zP 1 199]))):=by rw [hX0];exact G4.out
 have RX:Hid (∀ k j,k<nR→j<16→X0.cell? ⟨bR,0+k * 16+j,none⟩=some (.int .i64 (Z k j))):=by rw [hX0];exact R4.out
 have zX:X0.heap.size=w4.heap.size:=by rw [hX0];rfl
 rw [←hX0] at af ⊢
 clear hX0 G4 R4 S4
 have zX2:=hid zX
 clear zX
 have xT7:w4.cell? (zA w.heap.size 7)=some (zS bR nR nR):=(T4.out.2 7 (by simp)).1
 have lT:w.heap.size<w4.heap.size:=T4.out.1
 have lT2:w.heap.size<l:=by omega
 refine bF 0 (zP s 0) rfl ?_
 refine bF 1 (zP w.heap.size 7) rfl ?_
 refine bF 2 (zS bR nR nR) rfl ?_
 refine bF 4 (zP w.heap.size 7) rfl ?_
 refine bF 5 (zS bR nR nR) rfl ?_
 refine bF 6 (zI (nR:Int)) rfl ?_
 refine di 3 rfl fun K hK=>?_
 go_simp
 refine (AZ c d s b l V V.nW H2.out bR 0 nR nR Z hnR hwR.out (by omega) _ GX.out (by omega) RX.out SX.out).mono ?_
 rintro e w5 ⟨rfl,⟨k1,hS5⟩,hb5⟩
 have hB5:Below w.heap.size w w5:=B4.out.trans ((af.trans hb5).mono (by omega))
 refine hK.out _ _ (af.trans hb5) (fun ai=>?_)
 have S5:=hid hS5
 have B5:=hid hB5
 clear hK K af hS5 hB5 hb5 xT7
 have af:=ai
 clear ai
 try simp only [aT]
 by_cases hF:gm c d V Z nR=nR
 ·have hF1:(gm c d V Z nR:Int)=(nR:Int):=by rw [hF]
  have HF:=hid hF
  clear hF
  refine bF 7 (.bool false) rfl ?_
  refine Hy (by kernel_rfl) ?_ _
  go_wp2
  go_ret
  rw [HF.out] at S5
  exact ⟨⟨fun _=>⟨s,b,_,_,rfl,by show w.heap.size≤l;omega,S5.out,by omega⟩,fun h=>absurd HF.out h⟩,B5.out⟩
 ·have hF1:¬ (gm c d V Z nR:Int)=(nR:Int):=by omega
  have HF:=hid hF
  clear hF
  refine bF 7 (.bool true) rfl ?_
  refine Hy (by kernel_rfl) ?_ _
  go_wp2
  go_ret
  exact ⟨⟨fun h=>absurd h HF.out,fun _=>rfl⟩,B5.out⟩
