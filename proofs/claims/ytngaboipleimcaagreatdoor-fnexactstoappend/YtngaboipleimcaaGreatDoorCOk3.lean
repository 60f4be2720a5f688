/- The walk of what a cell has for a side, the model's; conditions: it lies in memory. -/
import Derived.Test.YtngaboipleimcaaGreatDoorCOk2
set_option linter.unusedVariables false
set_option maxHeartbeats 8000000
set_option maxRecDepth 20000
namespace Go.Proofs.YtngaboipleimcaaGreatDoor
open Go.RowKit Go.Deep
theorem kZ (n lo hi:Int) (w:World):Hz 65 #[zI n,zI lo,zI hi] w fun e w'=>e=.returned (.bool (inB n lo hi))∧Below w.heap.size w w':=by
 refine (dh n lo hi w).mono ?_
 rintro e w' ⟨rfl,rfl⟩
 exact ⟨rfl,Hr _ _⟩
theorem oP (w:World) (cs:Array Value) (t0 t:TypeId) (v0 v1 v2 v3 v4 v5:Value):Six ((w.alloc (.cells cs t0)).alloc (.cells #[v0,v1,v2,v3,v4,v5] t)) (w.heap.size+1) [v0,v1,v2,v3,v4,v5]:=by
 have h:=fM (w.alloc (.cells cs t0)) t v0 v1 v2 v3 v4 v5
 rw [show (w.alloc (.cells cs t0)).heap.size=w.heap.size+1 by simp] at h
 exact h
theorem Eh (w:World) (c d:Int) (o:Obj):((w.alloc (.cells #[zI c,zI d] 44)).alloc o).cell? (zA w.heap.size 0)=some (zI c)∧((w.alloc (.cells #[zI c,zI d] 44)).alloc o).cell? (zA w.heap.size 1)=some (zI d):=by
 have k:Below (w.heap.size+1) (w.alloc (.cells #[zI c,zI d] 44)) ((w.alloc (.cells #[zI c,zI d] 44)).alloc o):=(Hr _ _).alloc (by simp) _
 exact ⟨(k.cell (p:=(zA w.heap.size 0)) (Nat.lt_succ_self _)).trans (by simp),(k.cell (p:=(zA w.heap.size 1)) (Nat.lt_succ_self _)).trans (by simp)⟩
theorem qG (w:World) (c d:Int) (v0 v1 v2 v3 v4 v5:Value):∃ y,y=(w.alloc (.cells #[zI c,zI d] 44)).alloc (.cells #[v0,v1,v2,v3,v4,v5] 41)∧w.heap.size+2≤y.heap.size∧Hid (Below w.heap.size w y)∧Hid (Six y (w.heap.size+1) [v0,v1,v2,v3,v4,v5])∧Hid (y.cell? (zA w.heap.size 0)=some (zI c)∧y.cell? (zA w.heap.size 1)=some (zI d)) :=
 ⟨_,rfl,by simp,((Hr _ _).alloc (by simp) _).alloc (by simp) _,oP w _ 44 41 _ _ _ _ _ _,Eh w c d _⟩
theorem qf (c d VC VG:Int) (x1:Value) (bO bX bI kO kX kI:Nat) (s g N cc:Nat) (Z:Nat→Nat→Int) (xn xi si:Int) (hs:(s=0∧si=0)∨(s=1∧si=1)) (hN:N≤1048576) (w:World)
 (lO:bO<w.heap.size) (lX:bX<w.heap.size) (lI:bI<w.heap.size) (lg:g<w.heap.size)
 (hO:w.cell? (zA bO s)=some (zS g N cc)) (hX:w.cell? (zA bX s)=some (zI xn)) (hI:w.cell? (zA bI s)=some (zI xi))
 (hr:∀ k j,k<N→j<8→w.cell? (zA g (0+k * 8+j))=some (zI (Z k j))) :
 Hz 75 #[.agg #[zI c,zI d],.agg #[zI VC,x1,zI VG,zS bO 2 kO,zS bX 2 kX,zS bI 2 kI],zI si] w fun e w'=>e=.returned (.bool (dN c d VC si N Z xn xi))∧Below w.heap.size w w':=by
 have HR:Hid (∀ k j,k<N→j<8→w.cell? (zA g (0+k * 8+j))=some (zI (Z k j))):=hr
 have hO0:Hid (w.cell? (zA bO s)=some (zS g N cc)):=hO
 have hX0:Hid (w.cell? (zA bX s)=some (zI xn)):=hX
 have hI0:Hid (w.cell? (zA bI s)=some (zI xi)):=hI
 clear hr hO hX hI
 rcases hs with ⟨rfl,rfl⟩ | ⟨rfl,rfl⟩
 ·have E:Hid (dN c d VC 0 N Z xn xi=(P8.eP c d xn N Z && (inB xi 0 5000 && (if bf c d VC 0=-1 then (xn == 0 && xi == 0) else iM (fun j=>!(Z j 1 == 1 && aQ c d (Z j 3) != bf c d VC 0)) N)))):=rfl
  cases h1:P8.eP c d xn N Z
  ·rw [h1] at E
   go_enter Tryz.func75,Tryz.ntmps75
   go_wp2_with fail
   obtain ⟨w0,e0,z0,B0,A0,M0⟩:=qG w c d (zI VC) x1 (zI VG) (zS bO 2 kO) (zS bX 2 kX) (zS bI 2 kI)
   rw [←e0]
   clear e0
   refine (bT _ _ _ _ _).mono ?_
   rintro e w1 ⟨rfl,hb1⟩
   have B1:=hid (ah B0.out hb1)
   have A1:=hid (A0.out.below (by omega) hb1)
   have M1:=hid (bH (by omega) hb1 M0.out)
   have z1:w.heap.size+2≤w1.heap.size:=Hq z0 hb1.size
   clear hb1 A0 M0 B0
   obtain ⟨a0,a1,a2,a3,a4,a5⟩:=A1.out.a6
   have m0:=M1.out.1
   have m1:=M1.out.2
   have lA:w.heap.size+1<w1.heap.size:=by omega
   have lM:w.heap.size<w1.heap.size:=by omega
   have lbO:bO<w1.heap.size:=by omega
   have lbX:bX<w1.heap.size:=by omega
   have lbI:bI<w1.heap.size:=by omega
   have hX:w1.cell? (zA bX 0)=some (zI xn):=(B1.out.cell (p:=⟨bX,_,none⟩) lX).trans hX0.out
   have hI:w1.cell? (zA bI 0)=some (zI xi):=(B1.out.cell (p:=⟨bI,_,none⟩) lI).trans hI0.out
   have hO:w1.cell? (zA bO 0)=some (zS g N cc):=(B1.out.cell (p:=⟨bO,_,none⟩) lO).trans hO0.out
   have ROWS:Hid (∀ k j,k<N→j<8→w1.drew.cell? (zA g (0+k * 8+j))=some (zI (Z k j))):=fun k j a1 a2=>(B1.out.cell (p:=⟨g,_,none⟩) lg).trans (HR.out k j a1 a2)
   have lg1:g<w1.drew.heap.size:=by show g<w1.heap.size;omega
   generalize hT:bf c d VC 0=T at *
   go_wp2
   refine Hu (S:=fun w'=>(∀ b o,b<w1.heap.size→w'.cell? (zA b o)=w1.cell? (zA b o))∧w1.heap.size≤w'.heap.size) (by kernel_rfl) ⟨fun _ _ _=>rfl,Ho _⟩ ?_
   intro af
   refine aA 0 (.agg #[zI c,zI d]) rfl ?_
   refine aA 1 (zP (w.heap.size+1) 3) rfl ?_
   refine aA 2 (zS bO 2 kO) rfl ?_
   refine aA 3 (zI 0) rfl ?_
   refine aA 4 (zP bO 0) rfl ?_
   refine aA 5 (zS g N cc) rfl ?_
   refine aA 6 (zP (w.heap.size+1) 4) rfl ?_
   refine aA 7 (zS bX 2 kX) rfl ?_
   refine aA 8 (zI 0) rfl ?_
   refine aA 9 (zP bX 0) rfl ?_
   refine aA 10 (zI xn) rfl ?_
   refine di 11 rfl fun K hK=>?_
   go_simp
   go_wp2_with (go_at_call 112;refine (P8.iJ c d xn g 0 N cc Z hN _ lg1 ROWS.out).mono ?_;rintro e w2 ⟨rfl,hbw2⟩;rw [h1])
   refine hK.out _ _ (bM (by assumption) hbw2) (fun af=>?_)
   clear hK K
   try simp only [aT]
   refine aA 12 (.bool true) rfl ?_
   refine aA 13 (.bool true) rfl ?_
   refine bU 14 rfl ?_
   refine bU 15 rfl ?_
   refine bU 16 rfl ?_
   refine bU 17 rfl ?_
   refine bU 18 rfl ?_
   refine bU 19 rfl ?_
   refine bU 20 rfl ?_
   refine aA 21 (.bool true) rfl ?_
   refine Hy (by kernel_rfl) ?_ _
   go_wp2
   go_ret
   exact ⟨by rw [E.out];rfl,ah B1.out (ah ((Hr _ _).drew) hbw2)⟩
  cases h2:inB xi 0 5000
  ·rw [h1,h2] at E
   go_enter Tryz.func75,Tryz.ntmps75
   go_wp2_with fail
   obtain ⟨w0,e0,z0,B0,A0,M0⟩:=qG w c d (zI VC) x1 (zI VG) (zS bO 2 kO) (zS bX 2 kX) (zS bI 2 kI)
   rw [←e0]
   clear e0
   refine (bT _ _ _ _ _).mono ?_
   rintro e w1 ⟨rfl,hb1⟩
   have B1:=hid (ah B0.out hb1)
   have A1:=hid (A0.out.below (by omega) hb1)
   have M1:=hid (bH (by omega) hb1 M0.out)
   have z1:w.heap.size+2≤w1.heap.size:=Hq z0 hb1.size
   clear hb1 A0 M0 B0
   obtain ⟨a0,a1,a2,a3,a4,a5⟩:=A1.out.a6
   have m0:=M1.out.1
   have m1:=M1.out.2
   have lA:w.heap.size+1<w1.heap.size:=by omega
   have lM:w.heap.size<w1.heap.size:=by omega
   have lbO:bO<w1.heap.size:=by omega
   have lbX:bX<w1.heap.size:=by omega
   have lbI:bI<w1.heap.size:=by omega
   have hX:w1.cell? (zA bX 0)=some (zI xn):=(B1.out.cell (p:=⟨bX,_,none⟩) lX).trans hX0.out
   have hI:w1.cell? (zA bI 0)=some (zI xi):=(B1.out.cell (p:=⟨bI,_,none⟩) lI).trans hI0.out
   have hO:w1.cell? (zA bO 0)=some (zS g N cc):=(B1.out.cell (p:=⟨bO,_,none⟩) lO).trans hO0.out
   have ROWS:Hid (∀ k j,k<N→j<8→w1.drew.cell? (zA g (0+k * 8+j))=some (zI (Z k j))):=fun k j a1 a2=>(B1.out.cell (p:=⟨g,_,none⟩) lg).trans (HR.out k j a1 a2)
   have lg1:g<w1.drew.heap.size:=by show g<w1.heap.size;omega
   generalize hT:bf c d VC 0=T at *
   go_wp2
   refine Hu (S:=fun w'=>(∀ b o,b<w1.heap.size→w'.cell? (zA b o)=w1.cell? (zA b o))∧w1.heap.size≤w'.heap.size) (by kernel_rfl) ⟨fun _ _ _=>rfl,Ho _⟩ ?_
   intro af
   refine aA 0 (.agg #[zI c,zI d]) rfl ?_
   refine aA 1 (zP (w.heap.size+1) 3) rfl ?_
   refine aA 2 (zS bO 2 kO) rfl ?_
   refine aA 3 (zI 0) rfl ?_
   refine aA 4 (zP bO 0) rfl ?_
   refine aA 5 (zS g N cc) rfl ?_
   refine aA 6 (zP (w.heap.size+1) 4) rfl ?_
   refine aA 7 (zS bX 2 kX) rfl ?_
   refine aA 8 (zI 0) rfl ?_
   refine aA 9 (zP bX 0) rfl ?_
   refine aA 10 (zI xn) rfl ?_
   refine di 11 rfl fun K hK=>?_
   go_simp
   go_wp2_with (go_at_call 112;refine (P8.iJ c d xn g 0 N cc Z hN _ lg1 ROWS.out).mono ?_;rintro e w2 ⟨rfl,hbw2⟩;rw [h1])
   refine hK.out _ _ (bM (by assumption) hbw2) (fun af=>?_)
   clear hK K
   try simp only [aT]
   refine aA 12 (.bool false) rfl ?_
   refine aA 13 (.bool false) rfl ?_
   refine aA 14 (zP (w.heap.size+1) 5) rfl ?_
   refine aA 15 (zS bI 2 kI) rfl ?_
   refine aA 16 (zI 0) rfl ?_
   refine aA 17 (zP bI 0) rfl ?_
   refine aA 18 (zI xi) rfl ?_
   refine di 19 rfl fun K hK=>?_
   go_simp
   go_wp2_with (go_at_call 65;refine (kZ _ _ _ _).mono ?_;rintro e w4 ⟨rfl,hbw4⟩;rw [h2])
   refine hK.out _ _ (bM (by assumption) hbw4) (fun af=>?_)
   clear hK K
   try simp only [aT]
   refine aA 20 (.bool true) rfl ?_
   refine aA 21 (.bool true) rfl ?_
   refine Hy (by kernel_rfl) ?_ _
   go_wp2
   go_ret
   exact ⟨by rw [E.out];rfl,ah B1.out (ah (ah ((Hr _ _).drew) hbw2) hbw4)⟩
  rw [h1,h2] at E
  by_cases h3:bf c d VC 0=-1
  ·rw [if_pos h3] at E
   cases hx:(xn == 0)
   all_goals
    go_enter Tryz.func75,Tryz.ntmps75
    go_wp2_with fail
    obtain ⟨w0,e0,z0,B0,A0,M0⟩:=qG w c d (zI VC) x1 (zI VG) (zS bO 2 kO) (zS bX 2 kX) (zS bI 2 kI)
    rw [←e0]
    clear e0
    refine (bT _ _ _ _ _).mono ?_
    rintro e w1 ⟨rfl,hb1⟩
    have B1:=hid (ah B0.out hb1)
    have A1:=hid (A0.out.below (by omega) hb1)
    have M1:=hid (bH (by omega) hb1 M0.out)
    have z1:w.heap.size+2≤w1.heap.size:=Hq z0 hb1.size
    clear hb1 A0 M0 B0
    obtain ⟨a0,a1,a2,a3,a4,a5⟩:=A1.out.a6
    have m0:=M1.out.1
    have m1:=M1.out.2
    have lA:w.heap.size+1<w1.heap.size:=by omega
    have lM:w.heap.size<w1.heap.size:=by omega
    have lbO:bO<w1.heap.size:=by omega
    have lbX:bX<w1.heap.size:=by omega
    have lbI:bI<w1.heap.size:=by omega
    have hX:w1.cell? (zA bX 0)=some (zI xn):=(B1.out.cell (p:=⟨bX,_,none⟩) lX).trans hX0.out
    have hI:w1.cell? (zA bI 0)=some (zI xi):=(B1.out.cell (p:=⟨bI,_,none⟩) lI).trans hI0.out
    have hO:w1.cell? (zA bO 0)=some (zS g N cc):=(B1.out.cell (p:=⟨bO,_,none⟩) lO).trans hO0.out
    have ROWS:Hid (∀ k j,k<N→j<8→w1.drew.cell? (zA g (0+k * 8+j))=some (zI (Z k j))):=fun k j a1 a2=>(B1.out.cell (p:=⟨g,_,none⟩) lg).trans (HR.out k j a1 a2)
    have lg1:g<w1.drew.heap.size:=by show g<w1.heap.size;omega
    generalize hT:bf c d VC 0=T at *
    go_wp2
    refine Hu (S:=fun w'=>(∀ b o,b<w1.heap.size→w'.cell? (zA b o)=w1.cell? (zA b o))∧w1.heap.size≤w'.heap.size) (by kernel_rfl) ⟨fun _ _ _=>rfl,Ho _⟩ ?_
    intro af
    refine aA 0 (.agg #[zI c,zI d]) rfl ?_
    refine aA 1 (zP (w.heap.size+1) 3) rfl ?_
    refine aA 2 (zS bO 2 kO) rfl ?_
    refine aA 3 (zI 0) rfl ?_
    refine aA 4 (zP bO 0) rfl ?_
    refine aA 5 (zS g N cc) rfl ?_
    refine aA 6 (zP (w.heap.size+1) 4) rfl ?_
    refine aA 7 (zS bX 2 kX) rfl ?_
    refine aA 8 (zI 0) rfl ?_
    refine aA 9 (zP bX 0) rfl ?_
    refine aA 10 (zI xn) rfl ?_
    refine di 11 rfl fun K hK=>?_
    go_simp
    go_wp2_with (go_at_call 112;refine (P8.iJ c d xn g 0 N cc Z hN _ lg1 ROWS.out).mono ?_;rintro e w2 ⟨rfl,hbw2⟩;rw [h1])
    refine hK.out _ _ (bM (by assumption) hbw2) (fun af=>?_)
    clear hK K
    try simp only [aT]
    refine aA 12 (.bool false) rfl ?_
    refine aA 13 (.bool false) rfl ?_
    refine aA 14 (zP (w.heap.size+1) 5) rfl ?_
    refine aA 15 (zS bI 2 kI) rfl ?_
    refine aA 16 (zI 0) rfl ?_
    refine aA 17 (zP bI 0) rfl ?_
    refine aA 18 (zI xi) rfl ?_
    refine di 19 rfl fun K hK=>?_
    go_simp
    go_wp2_with (go_at_call 65;refine (kZ _ _ _ _).mono ?_;rintro e w4 ⟨rfl,hbw4⟩;rw [h2])
    refine hK.out _ _ (bM (by assumption) hbw4) (fun af=>?_)
    clear hK K
    try simp only [aT]
    refine aA 20 (.bool false) rfl ?_
    refine aA 21 (.bool false) rfl ?_
    refine Hy (by kernel_rfl) ?_ _
    have hb5:Below w1.heap.size w1 w4:=ah (ah ((Hr _ _).drew) hbw2) hbw4
    clear hbw2 hbw4 ROWS lg1 a0 a1 a2 a3 a4 a5 m0 m1 lA lM lbO lbX lbI hX hI hO
    have B5:=hid (ah B1.out hb5)
    have A5:=hid (A1.out.below (by omega) hb5)
    have M5:=hid (bH (by omega) hb5 M1.out)
    have z5:w.heap.size+2≤w4.heap.size:=Hq z1 hb5.size
    clear hb5
    obtain ⟨a0,a1,a2,a3,a4,a5⟩:=A5.out.a6
    have m0:=M5.out.1
    have m1:=M5.out.2
    have lA:w.heap.size+1<w4.heap.size:=by omega
    have lM:w.heap.size<w4.heap.size:=by omega
    have lbO:bO<w4.heap.size:=by omega
    have lbX:bX<w4.heap.size:=by omega
    have lbI:bI<w4.heap.size:=by omega
    have hX:w4.cell? (zA bX 0)=some (zI xn):=(B5.out.cell (p:=⟨bX,_,none⟩) lX).trans hX0.out
    have hI:w4.cell? (zA bI 0)=some (zI xi):=(B5.out.cell (p:=⟨bI,_,none⟩) lI).trans hI0.out
    have hO:w4.cell? (zA bO 0)=some (zS g N cc):=(B5.out.cell (p:=⟨bO,_,none⟩) lO).trans hO0.out
    subst h3
    go_wp2
    go_ret
    exact ⟨by rw [E.out];simp [hx],B5.out⟩
  ·rw [if_neg h3] at E
   have h3':(bf c d VC 0 == -1)=false:=by simpa using h3
   go_enter Tryz.func75,Tryz.ntmps75
   go_wp2_with fail
   obtain ⟨w0,e0,z0,B0,A0,M0⟩:=qG w c d (zI VC) x1 (zI VG) (zS bO 2 kO) (zS bX 2 kX) (zS bI 2 kI)
   rw [←e0]
   clear e0
   refine (bT _ _ _ _ _).mono ?_
   rintro e w1 ⟨rfl,hb1⟩
   have B1:=hid (ah B0.out hb1)
   have A1:=hid (A0.out.below (by omega) hb1)
   have M1:=hid (bH (by omega) hb1 M0.out)
   have z1:w.heap.size+2≤w1.heap.size:=Hq z0 hb1.size
   clear hb1 A0 M0 B0
   obtain ⟨a0,a1,a2,a3,a4,a5⟩:=A1.out.a6
   have m0:=M1.out.1
   have m1:=M1.out.2
   have lA:w.heap.size+1<w1.heap.size:=by omega
   have lM:w.heap.size<w1.heap.size:=by omega
   have lbO:bO<w1.heap.size:=by omega
   have lbX:bX<w1.heap.size:=by omega
   have lbI:bI<w1.heap.size:=by omega
   have hX:w1.cell? (zA bX 0)=some (zI xn):=(B1.out.cell (p:=⟨bX,_,none⟩) lX).trans hX0.out
   have hI:w1.cell? (zA bI 0)=some (zI xi):=(B1.out.cell (p:=⟨bI,_,none⟩) lI).trans hI0.out
   have hO:w1.cell? (zA bO 0)=some (zS g N cc):=(B1.out.cell (p:=⟨bO,_,none⟩) lO).trans hO0.out
   have ROWS:Hid (∀ k j,k<N→j<8→w1.drew.cell? (zA g (0+k * 8+j))=some (zI (Z k j))):=fun k j a1 a2=>(B1.out.cell (p:=⟨g,_,none⟩) lg).trans (HR.out k j a1 a2)
   have lg1:g<w1.drew.heap.size:=by show g<w1.heap.size;omega
   generalize hT:bf c d VC 0=T at *
   go_wp2
   refine Hu (S:=fun w'=>(∀ b o,b<w1.heap.size→w'.cell? (zA b o)=w1.cell? (zA b o))∧w1.heap.size≤w'.heap.size) (by kernel_rfl) ⟨fun _ _ _=>rfl,Ho _⟩ ?_
   intro af
   refine aA 0 (.agg #[zI c,zI d]) rfl ?_
   refine aA 1 (zP (w.heap.size+1) 3) rfl ?_
   refine aA 2 (zS bO 2 kO) rfl ?_
   refine aA 3 (zI 0) rfl ?_
   refine aA 4 (zP bO 0) rfl ?_
   refine aA 5 (zS g N cc) rfl ?_
   refine aA 6 (zP (w.heap.size+1) 4) rfl ?_
   refine aA 7 (zS bX 2 kX) rfl ?_
   refine aA 8 (zI 0) rfl ?_
   refine aA 9 (zP bX 0) rfl ?_
   refine aA 10 (zI xn) rfl ?_
   refine di 11 rfl fun K hK=>?_
   go_simp
   go_wp2_with (go_at_call 112;refine (P8.iJ c d xn g 0 N cc Z hN _ lg1 ROWS.out).mono ?_;rintro e w2 ⟨rfl,hbw2⟩;rw [h1])
   refine hK.out _ _ (bM (by assumption) hbw2) (fun af=>?_)
   clear hK K
   try simp only [aT]
   refine aA 12 (.bool false) rfl ?_
   refine aA 13 (.bool false) rfl ?_
   refine aA 14 (zP (w.heap.size+1) 5) rfl ?_
   refine aA 15 (zS bI 2 kI) rfl ?_
   refine aA 16 (zI 0) rfl ?_
   refine aA 17 (zP bI 0) rfl ?_
   refine aA 18 (zI xi) rfl ?_
   refine di 19 rfl fun K hK=>?_
   go_simp
   go_wp2_with (go_at_call 65;refine (kZ _ _ _ _).mono ?_;rintro e w4 ⟨rfl,hbw4⟩;rw [h2])
   refine hK.out _ _ (bM (by assumption) hbw4) (fun af=>?_)
   clear hK K
   try simp only [aT]
   refine aA 20 (.bool false) rfl ?_
   refine aA 21 (.bool false) rfl ?_
   refine Hy (by kernel_rfl) ?_ _
   have hb5:Below w1.heap.size w1 w4:=ah (ah ((Hr _ _).drew) hbw2) hbw4
   clear hbw2 hbw4 ROWS lg1 a0 a1 a2 a3 a4 a5 m0 m1 lA lM lbO lbX lbI hX hI hO
   have B5:=hid (ah B1.out hb5)
   have A5:=hid (A1.out.below (by omega) hb5)
   have M5:=hid (bH (by omega) hb5 M1.out)
   have z5:w.heap.size+2≤w4.heap.size:=Hq z1 hb5.size
   clear hb5
   obtain ⟨a0,a1,a2,a3,a4,a5⟩:=A5.out.a6
   have m0:=M5.out.1
   have m1:=M5.out.2
   have lA:w.heap.size+1<w4.heap.size:=by omega
   have lM:w.heap.size<w4.heap.size:=by omega
   have lbO:bO<w4.heap.size:=by omega
   have lbX:bX<w4.heap.size:=by omega
   have lbI:bI<w4.heap.size:=by omega
   have hX:w4.cell? (zA bX 0)=some (zI xn):=(B5.out.cell (p:=⟨bX,_,none⟩) lX).trans hX0.out
   have hI:w4.cell? (zA bI 0)=some (zI xi):=(B5.out.cell (p:=⟨bI,_,none⟩) lI).trans hI0.out
   have hO:w4.cell? (zA bO 0)=some (zS g N cc):=(B5.out.cell (p:=⟨bO,_,none⟩) lO).trans hO0.out
   go_wp2
   go_loopw [8] (fun i wr=>∃ k:Nat,k≤N∧i=zI k∧iM (fun j=>!(Z j 1 == 1 && aQ c d (Z j 3) != T)) k=true∧Below w4.heap.size w4 wr) (fun i _=>N - (intOf i).toNat)
   case atStart=>exact ⟨0,Nat.zero_le _,rfl,rfl,Hr _ _⟩
   case round =>
    clear a0 a1 a2 a3 a4 a5 m0 m1 lA lM lbO lbX lbI hX hI hO
    obtain ⟨k,hk,rfl,hall,BR⟩:=hrel
    have HALL:Hid (iM (fun j=>!(Z j 1 == 1 && aQ c d (Z j 3) != T)) k=true):=hall
    clear hall
    have hl3:=BR.size
    have lA:w.heap.size+1<wr.heap.size:=by omega
    have lM:w.heap.size<wr.heap.size:=by omega
    have lO':bO<wr.heap.size:=by omega
    have lg':g<wr.heap.size:=by omega
    have a3:wr.cell? (zA (w.heap.size+1) 3)=some (zS bO 2 kO):=(BR.cell (p:=(zA (w.heap.size+1) 3)) (by show w.heap.size+1<_;omega)).trans (A5.out 3 (by decide)).1
    have hO:wr.cell? (zA bO 0)=some (zS g N cc):=(BR.cell (p:=(zA bO 0)) (by show bO<_;omega)).trans ((B5.out.cell (p:=⟨bO,_,none⟩) lO).trans hO0.out)
    by_cases hkn:k<N
    ·have hkn':(k:Int)<N:=by omega
     have c0:wr.cell? (zA g (k * 8))=some (zI (Z k 0)):=by have:=(BR.cell (p:=(zA g (0+k * 8+0))) (by show g<_;omega)).trans ((B5.out.cell (p:=(zA g (0+k * 8+0))) lg).trans (HR.out k 0 hkn (by omega)));simpa using this
     have c1:wr.cell? (zA g (k * 8+1))=some (zI (Z k 1)):=by have:=(BR.cell (p:=(zA g (0+k * 8+1))) (by show g<_;omega)).trans ((B5.out.cell (p:=(zA g (0+k * 8+1))) lg).trans (HR.out k 1 hkn (by omega)));simpa using this
     have c2:wr.cell? (zA g (k * 8+2))=some (zI (Z k 2)):=by have:=(BR.cell (p:=(zA g (0+k * 8+2))) (by show g<_;omega)).trans ((B5.out.cell (p:=(zA g (0+k * 8+2))) lg).trans (HR.out k 2 hkn (by omega)));simpa using this
     have c3:wr.cell? (zA g (k * 8+3))=some (zI (Z k 3)):=by have:=(BR.cell (p:=(zA g (0+k * 8+3))) (by show g<_;omega)).trans ((B5.out.cell (p:=(zA g (0+k * 8+3))) lg).trans (HR.out k 3 hkn (by omega)));simpa using this
     have c4:wr.cell? (zA g (k * 8+4))=some (zI (Z k 4)):=by have:=(BR.cell (p:=(zA g (0+k * 8+4))) (by show g<_;omega)).trans ((B5.out.cell (p:=(zA g (0+k * 8+4))) lg).trans (HR.out k 4 hkn (by omega)));simpa using this
     have c5:wr.cell? (zA g (k * 8+5))=some (zI (Z k 5)):=by have:=(BR.cell (p:=(zA g (0+k * 8+5))) (by show g<_;omega)).trans ((B5.out.cell (p:=(zA g (0+k * 8+5))) lg).trans (HR.out k 5 hkn (by omega)));simpa using this
     have c6:wr.cell? (zA g (k * 8+6))=some (zI (Z k 6)):=by have:=(BR.cell (p:=(zA g (0+k * 8+6))) (by show g<_;omega)).trans ((B5.out.cell (p:=(zA g (0+k * 8+6))) lg).trans (HR.out k 6 hkn (by omega)));simpa using this
     have c7:wr.cell? (zA g (k * 8+7))=some (zI (Z k 7)):=by have:=(BR.cell (p:=(zA g (0+k * 8+7))) (by show g<_;omega)).trans ((B5.out.cell (p:=(zA g (0+k * 8+7))) lg).trans (HR.out k 7 hkn (by omega)));simpa using this
     have m0:wr.cell? (zA w.heap.size 0)=some (zI c):=(BR.cell (p:=(zA w.heap.size 0)) (by show w.heap.size<_;omega)).trans M5.out.1
     have m1:wr.cell? (zA w.heap.size 1)=some (zI d):=(BR.cell (p:=(zA w.heap.size 1)) (by show w.heap.size<_;omega)).trans M5.out.2
     have BR1:Hid (Below w4.heap.size w4 (wr.alloc (.cells (zE (Z k)).toArray 50))):=BR.alloc hl3 _
     cases hk1:(Z k 1 == 1)
     ·go_wp2
      go_roundw
      case rel=>exact ⟨k+1,by omega,by go_num,ja HALL.out (by simp [hk1]),BR1.out⟩
      case measure=>simp [intOf];omega
     ·cases hp:(aQ c d (Z k 3) != T)
      ·go_wp2_with fail
       refine (dD _ _ _ _).mono ?_
       rintro e w6 ⟨rfl,hb6⟩
       go_wp2
       go_roundw
       case rel=>exact ⟨k+1,by omega,by go_num,ja HALL.out (by simp [hk1,hp]),ah BR1.out hb6⟩
       case measure=>simp [intOf];omega
      ·go_wp2_with fail
       refine (dD _ _ _ _).mono ?_
       rintro e w6 ⟨rfl,hb6⟩
       go_wp2
       go_ret
       exact ⟨by rw [E.out,kK hkn (by simp [hk1,hp])];rfl,ah B5.out (ah BR1.out hb6)⟩
    ·have:k=N:=by omega
     subst this
     go_wp2
     go_ret
     exact ⟨by rw [E.out,HALL.out];rfl,ah B5.out BR⟩
 ·have E:Hid (dN c d VC 1 N Z xn xi=(P8.eP c d xn N Z && (inB xi 0 5000 && (if bf c d VC 1=-1 then (xn == 0 && xi == 0) else iM (fun j=>!(Z j 1 == 1 && aQ c d (Z j 3) != bf c d VC 1)) N)))):=rfl
  cases h1:P8.eP c d xn N Z
  ·rw [h1] at E
   go_enter Tryz.func75,Tryz.ntmps75
   go_wp2_with fail
   obtain ⟨w0,e0,z0,B0,A0,M0⟩:=qG w c d (zI VC) x1 (zI VG) (zS bO 2 kO) (zS bX 2 kX) (zS bI 2 kI)
   rw [←e0]
   clear e0
   refine (bT _ _ _ _ _).mono ?_
   rintro e w1 ⟨rfl,hb1⟩
   have B1:=hid (ah B0.out hb1)
   have A1:=hid (A0.out.below (by omega) hb1)
   have M1:=hid (bH (by omega) hb1 M0.out)
   have z1:w.heap.size+2≤w1.heap.size:=Hq z0 hb1.size
   clear hb1 A0 M0 B0
   obtain ⟨a0,a1,a2,a3,a4,a5⟩:=A1.out.a6
   have m0:=M1.out.1
   have m1:=M1.out.2
   have lA:w.heap.size+1<w1.heap.size:=by omega
   have lM:w.heap.size<w1.heap.size:=by omega
   have lbO:bO<w1.heap.size:=by omega
   have lbX:bX<w1.heap.size:=by omega
   have lbI:bI<w1.heap.size:=by omega
   have hX:w1.cell? (zA bX 1)=some (zI xn):=(B1.out.cell (p:=⟨bX,_,none⟩) lX).trans hX0.out
   have hI:w1.cell? (zA bI 1)=some (zI xi):=(B1.out.cell (p:=⟨bI,_,none⟩) lI).trans hI0.out
   have hO:w1.cell? (zA bO 1)=some (zS g N cc):=(B1.out.cell (p:=⟨bO,_,none⟩) lO).trans hO0.out
   have ROWS:Hid (∀ k j,k<N→j<8→w1.drew.cell? (zA g (0+k * 8+j))=some (zI (Z k j))):=fun k j a1 a2=>(B1.out.cell (p:=⟨g,_,none⟩) lg).trans (HR.out k j a1 a2)
   have lg1:g<w1.drew.heap.size:=by show g<w1.heap.size;omega
   generalize hT:bf c d VC 1=T at *
   go_wp2
   refine Hu (S:=fun w'=>(∀ b o,b<w1.heap.size→w'.cell? (zA b o)=w1.cell? (zA b o))∧w1.heap.size≤w'.heap.size) (by kernel_rfl) ⟨fun _ _ _=>rfl,Ho _⟩ ?_
   intro af
   refine aA 0 (.agg #[zI c,zI d]) rfl ?_
   refine aA 1 (zP (w.heap.size+1) 3) rfl ?_
   refine aA 2 (zS bO 2 kO) rfl ?_
   refine aA 3 (zI 1) rfl ?_
   refine aA 4 (zP bO 1) rfl ?_
   refine aA 5 (zS g N cc) rfl ?_
   refine aA 6 (zP (w.heap.size+1) 4) rfl ?_
   refine aA 7 (zS bX 2 kX) rfl ?_
   refine aA 8 (zI 1) rfl ?_
   refine aA 9 (zP bX 1) rfl ?_
   refine aA 10 (zI xn) rfl ?_
   refine di 11 rfl fun K hK=>?_
   go_simp
   go_wp2_with (go_at_call 112;refine (P8.iJ c d xn g 0 N cc Z hN _ lg1 ROWS.out).mono ?_;rintro e w2 ⟨rfl,hbw2⟩;rw [h1])
   refine hK.out _ _ (bM (by assumption) hbw2) (fun af=>?_)
   clear hK K
   try simp only [aT]
   refine aA 12 (.bool true) rfl ?_
   refine aA 13 (.bool true) rfl ?_
   refine bU 14 rfl ?_
   refine bU 15 rfl ?_
   refine bU 16 rfl ?_
   refine bU 17 rfl ?_
   refine bU 18 rfl ?_
   refine bU 19 rfl ?_
   refine bU 20 rfl ?_
   refine aA 21 (.bool true) rfl ?_
   refine Hy (by kernel_rfl) ?_ _
   go_wp2
   go_ret
   exact ⟨by rw [E.out];rfl,ah B1.out (ah ((Hr _ _).drew) hbw2)⟩
  cases h2:inB xi 0 5000
  ·rw [h1,h2] at E
   go_enter Tryz.func75,Tryz.ntmps75
   go_wp2_with fail
   obtain ⟨w0,e0,z0,B0,A0,M0⟩:=qG w c d (zI VC) x1 (zI VG) (zS bO 2 kO) (zS bX 2 kX) (zS bI 2 kI)
   rw [←e0]
   clear e0
   refine (bT _ _ _ _ _).mono ?_
   rintro e w1 ⟨rfl,hb1⟩
   have B1:=hid (ah B0.out hb1)
   have A1:=hid (A0.out.below (by omega) hb1)
   have M1:=hid (bH (by omega) hb1 M0.out)
   have z1:w.heap.size+2≤w1.heap.size:=Hq z0 hb1.size
   clear hb1 A0 M0 B0
   obtain ⟨a0,a1,a2,a3,a4,a5⟩:=A1.out.a6
   have m0:=M1.out.1
   have m1:=M1.out.2
   have lA:w.heap.size+1<w1.heap.size:=by omega
   have lM:w.heap.size<w1.heap.size:=by omega
   have lbO:bO<w1.heap.size:=by omega
   have lbX:bX<w1.heap.size:=by omega
   have lbI:bI<w1.heap.size:=by omega
   have hX:w1.cell? (zA bX 1)=some (zI xn):=(B1.out.cell (p:=⟨bX,_,none⟩) lX).trans hX0.out
   have hI:w1.cell? (zA bI 1)=some (zI xi):=(B1.out.cell (p:=⟨bI,_,none⟩) lI).trans hI0.out
   have hO:w1.cell? (zA bO 1)=some (zS g N cc):=(B1.out.cell (p:=⟨bO,_,none⟩) lO).trans hO0.out
   have ROWS:Hid (∀ k j,k<N→j<8→w1.drew.cell? (zA g (0+k * 8+j))=some (zI (Z k j))):=fun k j a1 a2=>(B1.out.cell (p:=⟨g,_,none⟩) lg).trans (HR.out k j a1 a2)
   have lg1:g<w1.drew.heap.size:=by show g<w1.heap.size;omega
   generalize hT:bf c d VC 1=T at *
   go_wp2
   refine Hu (S:=fun w'=>(∀ b o,b<w1.heap.size→w'.cell? (zA b o)=w1.cell? (zA b o))∧w1.heap.size≤w'.heap.size) (by kernel_rfl) ⟨fun _ _ _=>rfl,Ho _⟩ ?_
   intro af
   refine aA 0 (.agg #[zI c,zI d]) rfl ?_
   refine aA 1 (zP (w.heap.size+1) 3) rfl ?_
   refine aA 2 (zS bO 2 kO) rfl ?_
   refine aA 3 (zI 1) rfl ?_
   refine aA 4 (zP bO 1) rfl ?_
   refine aA 5 (zS g N cc) rfl ?_
   refine aA 6 (zP (w.heap.size+1) 4) rfl ?_
   refine aA 7 (zS bX 2 kX) rfl ?_
   refine aA 8 (zI 1) rfl ?_
   refine aA 9 (zP bX 1) rfl ?_
   refine aA 10 (zI xn) rfl ?_
   refine di 11 rfl fun K hK=>?_
   go_simp
   go_wp2_with (go_at_call 112;refine (P8.iJ c d xn g 0 N cc Z hN _ lg1 ROWS.out).mono ?_;rintro e w2 ⟨rfl,hbw2⟩;rw [h1])
   refine hK.out _ _ (bM (by assumption) hbw2) (fun af=>?_)
   clear hK K
   try simp only [aT]
   refine aA 12 (.bool false) rfl ?_
   refine aA 13 (.bool false) rfl ?_
   refine aA 14 (zP (w.heap.size+1) 5) rfl ?_
   refine aA 15 (zS bI 2 kI) rfl ?_
   refine aA 16 (zI 1) rfl ?_
   refine aA 17 (zP bI 1) rfl ?_
   refine aA 18 (zI xi) rfl ?_
   refine di 19 rfl fun K hK=>?_
   go_simp
   go_wp2_with (go_at_call 65;refine (kZ _ _ _ _).mono ?_;rintro e w4 ⟨rfl,hbw4⟩;rw [h2])
   refine hK.out _ _ (bM (by assumption) hbw4) (fun af=>?_)
   clear hK K
   try simp only [aT]
   refine aA 20 (.bool true) rfl ?_
   refine aA 21 (.bool true) rfl ?_
   refine Hy (by kernel_rfl) ?_ _
   go_wp2
   go_ret
   exact ⟨by rw [E.out];rfl,ah B1.out (ah (ah ((Hr _ _).drew) hbw2) hbw4)⟩
  rw [h1,h2] at E
  by_cases h3:bf c d VC 1=-1
  ·rw [if_pos h3] at E
   cases hx:(xn == 0)
   all_goals
    go_enter Tryz.func75,Tryz.ntmps75
    go_wp2_with fail
    obtain ⟨w0,e0,z0,B0,A0,M0⟩:=qG w c d (zI VC) x1 (zI VG) (zS bO 2 kO) (zS bX 2 kX) (zS bI 2 kI)
    rw [←e0]
    clear e0
    refine (bT _ _ _ _ _).mono ?_
    rintro e w1 ⟨rfl,hb1⟩
    have B1:=hid (ah B0.out hb1)
    have A1:=hid (A0.out.below (by omega) hb1)
    have M1:=hid (bH (by omega) hb1 M0.out)
    have z1:w.heap.size+2≤w1.heap.size:=Hq z0 hb1.size
    clear hb1 A0 M0 B0
    obtain ⟨a0,a1,a2,a3,a4,a5⟩:=A1.out.a6
    have m0:=M1.out.1
    have m1:=M1.out.2
    have lA:w.heap.size+1<w1.heap.size:=by omega
    have lM:w.heap.size<w1.heap.size:=by omega
    have lbO:bO<w1.heap.size:=by omega
    have lbX:bX<w1.heap.size:=by omega
    have lbI:bI<w1.heap.size:=by omega
    have hX:w1.cell? (zA bX 1)=some (zI xn):=(B1.out.cell (p:=⟨bX,_,none⟩) lX).trans hX0.out
    have hI:w1.cell? (zA bI 1)=some (zI xi):=(B1.out.cell (p:=⟨bI,_,none⟩) lI).trans hI0.out
    have hO:w1.cell? (zA bO 1)=some (zS g N cc):=(B1.out.cell (p:=⟨bO,_,none⟩) lO).trans hO0.out
    have ROWS:Hid (∀ k j,k<N→j<8→w1.drew.cell? (zA g (0+k * 8+j))=some (zI (Z k j))):=fun k j a1 a2=>(B1.out.cell (p:=⟨g,_,none⟩) lg).trans (HR.out k j a1 a2)
    have lg1:g<w1.drew.heap.size:=by show g<w1.heap.size;omega
    generalize hT:bf c d VC 1=T at *
    go_wp2
    refine Hu (S:=fun w'=>(∀ b o,b<w1.heap.size→w'.cell? (zA b o)=w1.cell? (zA b o))∧w1.heap.size≤w'.heap.size) (by kernel_rfl) ⟨fun _ _ _=>rfl,Ho _⟩ ?_
    intro af
    refine aA 0 (.agg #[zI c,zI d]) rfl ?_
    refine aA 1 (zP (w.heap.size+1) 3) rfl ?_
    refine aA 2 (zS bO 2 kO) rfl ?_
    refine aA 3 (zI 1) rfl ?_
    refine aA 4 (zP bO 1) rfl ?_
    refine aA 5 (zS g N cc) rfl ?_
    refine aA 6 (zP (w.heap.size+1) 4) rfl ?_
    refine aA 7 (zS bX 2 kX) rfl ?_
    refine aA 8 (zI 1) rfl ?_
    refine aA 9 (zP bX 1) rfl ?_
    refine aA 10 (zI xn) rfl ?_
    refine di 11 rfl fun K hK=>?_
    go_simp
    go_wp2_with (go_at_call 112;refine (P8.iJ c d xn g 0 N cc Z hN _ lg1 ROWS.out).mono ?_;rintro e w2 ⟨rfl,hbw2⟩;rw [h1])
    refine hK.out _ _ (bM (by assumption) hbw2) (fun af=>?_)
    clear hK K
    try simp only [aT]
    refine aA 12 (.bool false) rfl ?_
    refine aA 13 (.bool false) rfl ?_
    refine aA 14 (zP (w.heap.size+1) 5) rfl ?_
    refine aA 15 (zS bI 2 kI) rfl ?_
    refine aA 16 (zI 1) rfl ?_
    refine aA 17 (zP bI 1) rfl ?_
    refine aA 18 (zI xi) rfl ?_
    refine di 19 rfl fun K hK=>?_
    go_simp
    go_wp2_with (go_at_call 65;refine (kZ _ _ _ _).mono ?_;rintro e w4 ⟨rfl,hbw4⟩;rw [h2])
    refine hK.out _ _ (bM (by assumption) hbw4) (fun af=>?_)
    clear hK K
    try simp only [aT]
    refine aA 20 (.bool false) rfl ?_
    refine aA 21 (.bool false) rfl ?_
    refine Hy (by kernel_rfl) ?_ _
    have hb5:Below w1.heap.size w1 w4:=ah (ah ((Hr _ _).drew) hbw2) hbw4
    clear hbw2 hbw4 ROWS lg1 a0 a1 a2 a3 a4 a5 m0 m1 lA lM lbO lbX lbI hX hI hO
    have B5:=hid (ah B1.out hb5)
    have A5:=hid (A1.out.below (by omega) hb5)
    have M5:=hid (bH (by omega) hb5 M1.out)
    have z5:w.heap.size+2≤w4.heap.size:=Hq z1 hb5.size
    clear hb5
    obtain ⟨a0,a1,a2,a3,a4,a5⟩:=A5.out.a6
    have m0:=M5.out.1
    have m1:=M5.out.2
    have lA:w.heap.size+1<w4.heap.size:=by omega
    have lM:w.heap.size<w4.heap.size:=by omega
    have lbO:bO<w4.heap.size:=by omega
    have lbX:bX<w4.heap.size:=by omega
    have lbI:bI<w4.heap.size:=by omega
    have hX:w4.cell? (zA bX 1)=some (zI xn):=(B5.out.cell (p:=⟨bX,_,none⟩) lX).trans hX0.out
    have hI:w4.cell? (zA bI 1)=some (zI xi):=(B5.out.cell (p:=⟨bI,_,none⟩) lI).trans hI0.out
    have hO:w4.cell? (zA bO 1)=some (zS g N cc):=(B5.out.cell (p:=⟨bO,_,none⟩) lO).trans hO0.out
    subst h3
    go_wp2
    go_ret
    exact ⟨by rw [E.out];simp [hx],B5.out⟩
  ·rw [if_neg h3] at E
   have h3':(bf c d VC 1 == -1)=false:=by simpa using h3
   go_enter Tryz.func75,Tryz.ntmps75
   go_wp2_with fail
   obtain ⟨w0,e0,z0,B0,A0,M0⟩:=qG w c d (zI VC) x1 (zI VG) (zS bO 2 kO) (zS bX 2 kX) (zS bI 2 kI)
   rw [←e0]
   clear e0
   refine (bT _ _ _ _ _).mono ?_
   rintro e w1 ⟨rfl,hb1⟩
   have B1:=hid (ah B0.out hb1)
   have A1:=hid (A0.out.below (by omega) hb1)
   have M1:=hid (bH (by omega) hb1 M0.out)
   have z1:w.heap.size+2≤w1.heap.size:=Hq z0 hb1.size
   clear hb1 A0 M0 B0
   obtain ⟨a0,a1,a2,a3,a4,a5⟩:=A1.out.a6
   have m0:=M1.out.1
   have m1:=M1.out.2
   have lA:w.heap.size+1<w1.heap.size:=by omega
   have lM:w.heap.size<w1.heap.size:=by omega
   have lbO:bO<w1.heap.size:=by omega
   have lbX:bX<w1.heap.size:=by omega
   have lbI:bI<w1.heap.size:=by omega
   have hX:w1.cell? (zA bX 1)=some (zI xn):=(B1.out.cell (p:=⟨bX,_,none⟩) lX).trans hX0.out
   have hI:w1.cell? (zA bI 1)=some (zI xi):=(B1.out.cell (p:=⟨bI,_,none⟩) lI).trans hI0.out
   have hO:w1.cell? (zA bO 1)=some (zS g N cc):=(B1.out.cell (p:=⟨bO,_,none⟩) lO).trans hO0.out
   have ROWS:Hid (∀ k j,k<N→j<8→w1.drew.cell? (zA g (0+k * 8+j))=some (zI (Z k j))):=fun k j a1 a2=>(B1.out.cell (p:=⟨g,_,none⟩) lg).trans (HR.out k j a1 a2)
   have lg1:g<w1.drew.heap.size:=by show g<w1.heap.size;omega
   generalize hT:bf c d VC 1=T at *
   go_wp2
   refine Hu (S:=fun w'=>(∀ b o,b<w1.heap.size→w'.cell? (zA b o)=w1.cell? (zA b o))∧w1.heap.size≤w'.heap.size) (by kernel_rfl) ⟨fun _ _ _=>rfl,Ho _⟩ ?_
   intro af
   refine aA 0 (.agg #[zI c,zI d]) rfl ?_
   refine aA 1 (zP (w.heap.size+1) 3) rfl ?_
   refine aA 2 (zS bO 2 kO) rfl ?_
   refine aA 3 (zI 1) rfl ?_
   refine aA 4 (zP bO 1) rfl ?_
   refine aA 5 (zS g N cc) rfl ?_
   refine aA 6 (zP (w.heap.size+1) 4) rfl ?_
   refine aA 7 (zS bX 2 kX) rfl ?_
   refine aA 8 (zI 1) rfl ?_
   refine aA 9 (zP bX 1) rfl ?_
   refine aA 10 (zI xn) rfl ?_
   refine di 11 rfl fun K hK=>?_
   go_simp
   go_wp2_with (go_at_call 112;refine (P8.iJ c d xn g 0 N cc Z hN _ lg1 ROWS.out).mono ?_;rintro e w2 ⟨rfl,hbw2⟩;rw [h1])
   refine hK.out _ _ (bM (by assumption) hbw2) (fun af=>?_)
   clear hK K
   try simp only [aT]
   refine aA 12 (.bool false) rfl ?_
   refine aA 13 (.bool false) rfl ?_
   refine aA 14 (zP (w.heap.size+1) 5) rfl ?_
   refine aA 15 (zS bI 2 kI) rfl ?_
   refine aA 16 (zI 1) rfl ?_
   refine aA 17 (zP bI 1) rfl ?_
   refine aA 18 (zI xi) rfl ?_
   refine di 19 rfl fun K hK=>?_
   go_simp
   go_wp2_with (go_at_call 65;refine (kZ _ _ _ _).mono ?_;rintro e w4 ⟨rfl,hbw4⟩;rw [h2])
   refine hK.out _ _ (bM (by assumption) hbw4) (fun af=>?_)
   clear hK K
   try simp only [aT]
   refine aA 20 (.bool false) rfl ?_
   refine aA 21 (.bool false) rfl ?_
   refine Hy (by kernel_rfl) ?_ _
   have hb5:Below w1.heap.size w1 w4:=ah (ah ((Hr _ _).drew) hbw2) hbw4
   clear hbw2 hbw4 ROWS lg1 a0 a1 a2 a3 a4 a5 m0 m1 lA lM lbO lbX lbI hX hI hO
   have B5:=hid (ah B1.out hb5)
   have A5:=hid (A1.out.below (by omega) hb5)
   have M5:=hid (bH (by omega) hb5 M1.out)
   have z5:w.heap.size+2≤w4.heap.size:=Hq z1 hb5.size
   clear hb5
   obtain ⟨a0,a1,a2,a3,a4,a5⟩:=A5.out.a6
   have m0:=M5.out.1
   have m1:=M5.out.2
   have lA:w.heap.size+1<w4.heap.size:=by omega
   have lM:w.heap.size<w4.heap.size:=by omega
   have lbO:bO<w4.heap.size:=by omega
   have lbX:bX<w4.heap.size:=by omega
   have lbI:bI<w4.heap.size:=by omega
   have hX:w4.cell? (zA bX 1)=some (zI xn):=(B5.out.cell (p:=⟨bX,_,none⟩) lX).trans hX0.out
   have hI:w4.cell? (zA bI 1)=some (zI xi):=(B5.out.cell (p:=⟨bI,_,none⟩) lI).trans hI0.out
   have hO:w4.cell? (zA bO 1)=some (zS g N cc):=(B5.out.cell (p:=⟨bO,_,none⟩) lO).trans hO0.out
   go_wp2
   go_loopw [8] (fun i wr=>∃ k:Nat,k≤N∧i=zI k∧iM (fun j=>!(Z j 1 == 1 && aQ c d (Z j 3) != T)) k=true∧Below w4.heap.size w4 wr) (fun i _=>N - (intOf i).toNat)
   case atStart=>exact ⟨0,Nat.zero_le _,rfl,rfl,Hr _ _⟩
   case round =>
    clear a0 a1 a2 a3 a4 a5 m0 m1 lA lM lbO lbX lbI hX hI hO
    obtain ⟨k,hk,rfl,hall,BR⟩:=hrel
    have HALL:Hid (iM (fun j=>!(Z j 1 == 1 && aQ c d (Z j 3) != T)) k=true):=hall
    clear hall
    have hl3:=BR.size
    have lA:w.heap.size+1<wr.heap.size:=by omega
    have lM:w.heap.size<wr.heap.size:=by omega
    have lO':bO<wr.heap.size:=by omega
    have lg':g<wr.heap.size:=by omega
    have a3:wr.cell? (zA (w.heap.size+1) 3)=some (zS bO 2 kO):=(BR.cell (p:=(zA (w.heap.size+1) 3)) (by show w.heap.size+1<_;omega)).trans (A5.out 3 (by decide)).1
    have hO:wr.cell? (zA bO 1)=some (zS g N cc):=(BR.cell (p:=(zA bO 1)) (by show bO<_;omega)).trans ((B5.out.cell (p:=⟨bO,_,none⟩) lO).trans hO0.out)
    by_cases hkn:k<N
    ·have hkn':(k:Int)<N:=by omega
     have c0:wr.cell? (zA g (k * 8))=some (zI (Z k 0)):=by have:=(BR.cell (p:=(zA g (0+k * 8+0))) (by show g<_;omega)).trans ((B5.out.cell (p:=(zA g (0+k * 8+0))) lg).trans (HR.out k 0 hkn (by omega)));simpa using this
     have c1:wr.cell? (zA g (k * 8+1))=some (zI (Z k 1)):=by have:=(BR.cell (p:=(zA g (0+k * 8+1))) (by show g<_;omega)).trans ((B5.out.cell (p:=(zA g (0+k * 8+1))) lg).trans (HR.out k 1 hkn (by omega)));simpa using this
     have c2:wr.cell? (zA g (k * 8+2))=some (zI (Z k 2)):=by have:=(BR.cell (p:=(zA g (0+k * 8+2))) (by show g<_;omega)).trans ((B5.out.cell (p:=(zA g (0+k * 8+2))) lg).trans (HR.out k 2 hkn (by omega)));simpa using this
     have c3:wr.cell? (zA g (k * 8+3))=some (zI (Z k 3)):=by have:=(BR.cell (p:=(zA g (0+k * 8+3))) (by show g<_;omega)).trans ((B5.out.cell (p:=(zA g (0+k * 8+3))) lg).trans (HR.out k 3 hkn (by omega)));simpa using this
     have c4:wr.cell? (zA g (k * 8+4))=some (zI (Z k 4)):=by have:=(BR.cell (p:=(zA g (0+k * 8+4))) (by show g<_;omega)).trans ((B5.out.cell (p:=(zA g (0+k * 8+4))) lg).trans (HR.out k 4 hkn (by omega)));simpa using this
     have c5:wr.cell? (zA g (k * 8+5))=some (zI (Z k 5)):=by have:=(BR.cell (p:=(zA g (0+k * 8+5))) (by show g<_;omega)).trans ((B5.out.cell (p:=(zA g (0+k * 8+5))) lg).trans (HR.out k 5 hkn (by omega)));simpa using this
     have c6:wr.cell? (zA g (k * 8+6))=some (zI (Z k 6)):=by have:=(BR.cell (p:=(zA g (0+k * 8+6))) (by show g<_;omega)).trans ((B5.out.cell (p:=(zA g (0+k * 8+6))) lg).trans (HR.out k 6 hkn (by omega)));simpa using this
     have c7:wr.cell? (zA g (k * 8+7))=some (zI (Z k 7)):=by have:=(BR.cell (p:=(zA g (0+k * 8+7))) (by show g<_;omega)).trans ((B5.out.cell (p:=(zA g (0+k * 8+7))) lg).trans (HR.out k 7 hkn (by omega)));simpa using this
     have m0:wr.cell? (zA w.heap.size 0)=some (zI c):=(BR.cell (p:=(zA w.heap.size 0)) (by show w.heap.size<_;omega)).trans M5.out.1
     have m1:wr.cell? (zA w.heap.size 1)=some (zI d):=(BR.cell (p:=(zA w.heap.size 1)) (by show w.heap.size<_;omega)).trans M5.out.2
     have BR1:Hid (Below w4.heap.size w4 (wr.alloc (.cells (zE (Z k)).toArray 50))):=BR.alloc hl3 _
     cases hk1:(Z k 1 == 1)
     ·go_wp2
      go_roundw
      case rel=>exact ⟨k+1,by omega,by go_num,ja HALL.out (by simp [hk1]),BR1.out⟩
      case measure=>simp [intOf];omega
     ·cases hp:(aQ c d (Z k 3) != T)
      ·go_wp2_with fail
       refine (dD _ _ _ _).mono ?_
       rintro e w6 ⟨rfl,hb6⟩
       go_wp2
       go_roundw
       case rel=>exact ⟨k+1,by omega,by go_num,ja HALL.out (by simp [hk1,hp]),ah BR1.out hb6⟩
       case measure=>simp [intOf];omega
      ·go_wp2_with fail
       refine (dD _ _ _ _).mono ?_
       rintro e w6 ⟨rfl,hb6⟩
       go_wp2
       go_ret
       exact ⟨by rw [E.out,kK hkn (by simp [hk1,hp])];rfl,ah B5.out (ah BR1.out hb6)⟩
    ·have:k=N:=by omega
     subst this
     go_wp2
     go_ret
     exact ⟨by rw [E.out,HALL.out];rfl,ah B5.out BR⟩
