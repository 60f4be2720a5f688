/- The walk of what a cell has for a side, the model's; conditions: it lies in memory. -/
import Derived.Test.YtngaboipleimcabGreatDoorCOk2
set_option linter.unusedVariables false
set_option maxHeartbeats 8000000
set_option maxRecDepth 20000
namespace Go.Proofs.YtngaboipleimcabGreatDoor
open Go.RowKit Go.Deep
theorem kZ (n lo hi:Int) (w:World):Hz 24 #[zI n,zI lo,zI hi] w fun e w'=>e=.returned (.bool (inB n lo hi))/\Below w.heap.size w w':=by
 refine (dh n lo hi w).mono ?_;rintro e w' ⟨rfl,rfl⟩;exact ⟨rfl,Hr _ _⟩
theorem oP (w:World) (cs:Array Value) (t0 t:TypeId) (v0 v1 v2 v3 v4 v5:Value):Six ((w.alloc (.cells cs t0)).alloc (.cells #[v0,v1,v2,v3,v4,v5] t)) (w.heap.size+1) [v0,v1,v2,v3,v4,v5]:=by
 have h:=fM (w.alloc (.cells cs t0)) t v0 v1 v2 v3 v4 v5;rw [show (w.alloc (.cells cs t0)).heap.size=w.heap.size+1 by simp] at h;exact h
theorem Eh (w:World) (c d:Int) (o:Obj):((w.alloc (.cells #[zI c,zI d] 44)).alloc o).cell? (zA w.heap.size 0)=some (zI c)/\((w.alloc (.cells #[zI c,zI d] 44)).alloc o).cell? (zA w.heap.size 1)=some (zI d):=by
 have k:Below (w.heap.size+1) (w.alloc (.cells #[zI c,zI d] 44)) ((w.alloc (.cells #[zI c,zI d] 44)).alloc o):=(Hr _ _).alloc (by simp) _;exact ⟨(k.cell (p:=(zA w.heap.size 0)) (Nat.lt_succ_self _)).trans (by simp),(k.cell (p:=(zA w.heap.size 1)) (Nat.lt_succ_self _)).trans (by simp)⟩
theorem qG (w:World) (c d:Int) (v0 v1 v2 v3 v4 v5:Value):∃ y,y=(w.alloc (.cells #[zI c,zI d] 44)).alloc (.cells #[v0,v1,v2,v3,v4,v5] 36)/\w.heap.size+2<=y.heap.size/\bY (Below w.heap.size w y)/\bY (Six y (w.heap.size+1) [v0,v1,v2,v3,v4,v5])/\bY (y.cell? (zA w.heap.size 0)=some (zI c)/\y.cell? (zA w.heap.size 1)=some (zI d)) :=
 ⟨_,rfl,by simp,((Hr _ _).alloc (by simp) _).alloc (by simp) _,oP w _ 44 36 _ _ _ _ _ _,Eh w c d _⟩
theorem qf (c d VC VG:Int) (x1:Value) (bO bX bI kO kX kI:Nat) (s g N cc:Nat) (Z:Nat->Nat->Int) (xn xi si:Int) (hs:(s=0/\si=0)∨(s=1/\si=1)) (hN:N<=1048576) (w:World)
 (lO:bO<w.heap.size) (lX:bX<w.heap.size) (lI:bI<w.heap.size) (lg:g<w.heap.size)
 (hO:w.cell? (zA bO s)=some (zS g N cc)) (hX:w.cell? (zA bX s)=some (zI xn)) (hI:w.cell? (zA bI s)=some (zI xi))
 (hr:∀ k j,k<N->j<8->w.cell? (zA g (0+k * 8+j))=some (zI (Z k j))) :
 Hz 84 #[.agg #[zI c,zI d],.agg #[zI VC,x1,zI VG,zS bO 2 kO,zS bX 2 kX,zS bI 2 kI],zI si] w fun e w'=>e=.returned (.bool (dN c d VC si N Z xn xi))/\Below w.heap.size w w':=by
 have HR:bY (∀ k j,k<N->j<8->w.cell? (zA g (0+k * 8+j))=some (zI (Z k j))):=hr;have ag:bY (w.cell? (zA bO s)=some (zS g N cc)):=hO;have ai:bY (w.cell? (zA bX s)=some (zI xn)):=hX;have ak:bY (w.cell? (zA bI s)=some (zI xi)):=hI;clear hr hO hX hI;rcases hs with ⟨rfl,rfl⟩ | ⟨rfl,rfl⟩
 case' _=>have ab:=trivial
 all_goals
  first | (guard_hyp ab;have E:bY (dN c d VC 0 N Z xn xi=(P8.eP c d xn N Z && (inB xi 0 5000 && (if bf c d VC 0=-1 then (xn == 0 && xi == 0) else iM (fun j=>!(Z j 1 == 1 && aQ c d (Z j 3) != bf c d VC 0)) N)))):=rfl) | (have E:bY (dN c d VC 1 N Z xn xi=(P8.eP c d xn N Z && (inB xi 0 5000 && (if bf c d VC 1=-1 then (xn == 0 && xi == 0) else iM (fun j=>!(Z j 1 == 1 && aQ c d (Z j 3) != bf c d VC 1)) N)))):=rfl)
  cases h1:P8.eP c d xn N Z
  ·rw [h1] at E
   go_enter Tryz.func84,Tryz.ntmps84;go_wp2_with fail;obtain ⟨w0,e0,z0,B0,A0,M0⟩:=qG w c d (zI VC) x1 (zI VG) (zS bO 2 kO) (zS bX 2 kX) (zS bI 2 kI);rw [<-e0];clear e0;refine (bT _ _ _ _ _).mono ?_;rintro e w1 ⟨rfl,ac⟩;have B1:=fQ (ah B0.o ac);have A1:=fQ (A0.o.q (by omega) ac);have M1:=fQ (bH (by omega) ac M0.o);have z1:w.heap.size+2<=w1.heap.size:=Hq z0 ac.size;clear ac A0 M0 B0;obtain ⟨a0,a1,a2,a3,a4,a5⟩:=A1.o.a6;have m0:=M1.o.1;have m1:=M1.o.2;have lA:w.heap.size+1<w1.heap.size:=by omega
   have lM:w.heap.size<w1.heap.size:=by omega
   have ao:bO<w1.heap.size:=by omega
   have ap:bX<w1.heap.size:=by omega
   have aq:bI<w1.heap.size:=by omega
   first
   | guard_hyp ab
     have hX:w1.cell? (zA bX 0)=some (zI xn):=(B1.o.cell (p:=⟨bX,_,none⟩) lX).trans ai.o
     have hI:w1.cell? (zA bI 0)=some (zI xi):=(B1.o.cell (p:=⟨bI,_,none⟩) lI).trans ak.o
     have hO:w1.cell? (zA bO 0)=some (zS g N cc):=(B1.o.cell (p:=⟨bO,_,none⟩) lO).trans ag.o
   | have hX:w1.cell? (zA bX 1)=some (zI xn):=(B1.o.cell (p:=⟨bX,_,none⟩) lX).trans ai.o
     have hI:w1.cell? (zA bI 1)=some (zI xi):=(B1.o.cell (p:=⟨bI,_,none⟩) lI).trans ak.o
     have hO:w1.cell? (zA bO 1)=some (zS g N cc):=(B1.o.cell (p:=⟨bO,_,none⟩) lO).trans ag.o
   have ae:bY (∀ k j,k<N->j<8->w1.drew.cell? (zA g (0+k * 8+j))=some (zI (Z k j))):=fun k j a1 a2=>(B1.o.cell (p:=⟨g,_,none⟩) lg).trans (HR.o k j a1 a2);have an:g<w1.drew.heap.size:=by show g<w1.heap.size;omega
   first | (guard_hyp ab;generalize hT:bf c d VC 0=T at *) | (generalize hT:bf c d VC 1=T at *)
   go_wp2;refine Hu (S:=fun w'=>(∀ b o,b<w1.heap.size->w'.cell? (zA b o)=w1.cell? (zA b o))/\w1.heap.size<=w'.heap.size) (by kernel_rfl) ⟨fun _ _ _=>rfl,Ho _⟩ ?_;intro af;refine aA 0 (.agg #[zI c,zI d]) rfl ?_;refine aA 1 (zP (w.heap.size+1) 3) rfl ?_;refine aA 2 (zS bO 2 kO) rfl ?_;first
   | guard_hyp ab
     refine aA 3 (zI 0) rfl ?_
     refine aA 4 (zP bO 0) rfl ?_
   | refine aA 3 (zI 1) rfl ?_
     try simp only [aT]
     refine aA 4 (zP bO 1) rfl ?_
   refine aA 5 (zS g N cc) rfl ?_;refine aA 6 (zP (w.heap.size+1) 4) rfl ?_;refine aA 7 (zS bX 2 kX) rfl ?_;first
   | guard_hyp ab
     refine aA 8 (zI 0) rfl ?_
     refine aA 9 (zP bX 0) rfl ?_
   | refine aA 8 (zI 1) rfl ?_
     try simp only [aT]
     refine aA 9 (zP bX 1) rfl ?_
   refine aA 10 (zI xn) rfl ?_;refine di 11 rfl fun K hK=>?_;go_simp;go_wp2_with (go_at_call 111;refine (P8.iJ c d xn g 0 N cc Z hN _ an ae.o).mono ?_;rintro e w2 ⟨rfl,aa⟩;rw [h1]);refine hK.out _ _ (bM (by assumption) aa) (fun af=>?_);clear hK K;try simp only [aT]
   refine aA 12 (.bool true) rfl ?_;refine aA 13 (.bool true) rfl ?_;refine bU 14 rfl ?_;refine bU 15 rfl ?_;refine bU 16 rfl ?_;refine bU 17 rfl ?_;refine bU 18 rfl ?_;refine bU 19 rfl ?_;refine bU 20 rfl ?_;refine aA 21 (.bool true) rfl ?_;refine Hy (by kernel_rfl) ?_ _;go_wp2;go_ret;exact ⟨by rw [E.o];rfl,ah B1.o (ah ((Hr _ _).drew) aa)⟩
  cases h2:inB xi 0 5000
  ·rw [h1,h2] at E
   go_enter Tryz.func84,Tryz.ntmps84;go_wp2_with fail;obtain ⟨w0,e0,z0,B0,A0,M0⟩:=qG w c d (zI VC) x1 (zI VG) (zS bO 2 kO) (zS bX 2 kX) (zS bI 2 kI);rw [<-e0];clear e0;refine (bT _ _ _ _ _).mono ?_;rintro e w1 ⟨rfl,ac⟩;have B1:=fQ (ah B0.o ac);have A1:=fQ (A0.o.q (by omega) ac);have M1:=fQ (bH (by omega) ac M0.o);have z1:w.heap.size+2<=w1.heap.size:=Hq z0 ac.size;clear ac A0 M0 B0;obtain ⟨a0,a1,a2,a3,a4,a5⟩:=A1.o.a6;have m0:=M1.o.1;have m1:=M1.o.2;have lA:w.heap.size+1<w1.heap.size:=by omega
   have lM:w.heap.size<w1.heap.size:=by omega
   have ao:bO<w1.heap.size:=by omega
   have ap:bX<w1.heap.size:=by omega
   have aq:bI<w1.heap.size:=by omega
   first
   | guard_hyp ab
     have hX:w1.cell? (zA bX 0)=some (zI xn):=(B1.o.cell (p:=⟨bX,_,none⟩) lX).trans ai.o
     have hI:w1.cell? (zA bI 0)=some (zI xi):=(B1.o.cell (p:=⟨bI,_,none⟩) lI).trans ak.o
     have hO:w1.cell? (zA bO 0)=some (zS g N cc):=(B1.o.cell (p:=⟨bO,_,none⟩) lO).trans ag.o
   | have hX:w1.cell? (zA bX 1)=some (zI xn):=(B1.o.cell (p:=⟨bX,_,none⟩) lX).trans ai.o
     have hI:w1.cell? (zA bI 1)=some (zI xi):=(B1.o.cell (p:=⟨bI,_,none⟩) lI).trans ak.o
     have hO:w1.cell? (zA bO 1)=some (zS g N cc):=(B1.o.cell (p:=⟨bO,_,none⟩) lO).trans ag.o
   have ae:bY (∀ k j,k<N->j<8->w1.drew.cell? (zA g (0+k * 8+j))=some (zI (Z k j))):=fun k j a1 a2=>(B1.o.cell (p:=⟨g,_,none⟩) lg).trans (HR.o k j a1 a2);have an:g<w1.drew.heap.size:=by show g<w1.heap.size;omega
   first | (guard_hyp ab;generalize hT:bf c d VC 0=T at *) | (generalize hT:bf c d VC 1=T at *)
   go_wp2;refine Hu (S:=fun w'=>(∀ b o,b<w1.heap.size->w'.cell? (zA b o)=w1.cell? (zA b o))/\w1.heap.size<=w'.heap.size) (by kernel_rfl) ⟨fun _ _ _=>rfl,Ho _⟩ ?_;intro af;refine aA 0 (.agg #[zI c,zI d]) rfl ?_;refine aA 1 (zP (w.heap.size+1) 3) rfl ?_;refine aA 2 (zS bO 2 kO) rfl ?_;first
   | guard_hyp ab
     refine aA 3 (zI 0) rfl ?_
     refine aA 4 (zP bO 0) rfl ?_
   | refine aA 3 (zI 1) rfl ?_
     try simp only [aT]
     refine aA 4 (zP bO 1) rfl ?_
   refine aA 5 (zS g N cc) rfl ?_;refine aA 6 (zP (w.heap.size+1) 4) rfl ?_;refine aA 7 (zS bX 2 kX) rfl ?_;first
   | guard_hyp ab
     refine aA 8 (zI 0) rfl ?_
     refine aA 9 (zP bX 0) rfl ?_
   | refine aA 8 (zI 1) rfl ?_
     try simp only [aT]
     refine aA 9 (zP bX 1) rfl ?_
   refine aA 10 (zI xn) rfl ?_;refine di 11 rfl fun K hK=>?_;go_simp;go_wp2_with (go_at_call 111;refine (P8.iJ c d xn g 0 N cc Z hN _ an ae.o).mono ?_;rintro e w2 ⟨rfl,aa⟩;rw [h1]);refine hK.out _ _ (bM (by assumption) aa) (fun af=>?_);clear hK K;try simp only [aT]
   refine aA 12 (.bool false) rfl ?_;refine aA 13 (.bool false) rfl ?_;refine aA 14 (zP (w.heap.size+1) 5) rfl ?_;refine aA 15 (zS bI 2 kI) rfl ?_;first
   | guard_hyp ab
     refine aA 16 (zI 0) rfl ?_
     refine aA 17 (zP bI 0) rfl ?_
   | refine aA 16 (zI 1) rfl ?_
     try simp only [aT]
     refine aA 17 (zP bI 1) rfl ?_
   refine aA 18 (zI xi) rfl ?_;refine di 19 rfl fun K hK=>?_;go_simp;go_wp2_with (go_at_call 24;refine (kZ _ _ _ _).mono ?_;rintro e w4 ⟨rfl,ad⟩;rw [h2]);refine hK.out _ _ (bM (by assumption) ad) (fun af=>?_);clear hK K;try simp only [aT]
   refine aA 20 (.bool true) rfl ?_;refine aA 21 (.bool true) rfl ?_;refine Hy (by kernel_rfl) ?_ _;go_wp2;go_ret;exact ⟨by rw [E.o];rfl,ah B1.o (ah (ah ((Hr _ _).drew) aa) ad)⟩
  rw [h1,h2] at E
  first | (guard_hyp ab;by_cases h3:bf c d VC 0=-1) | (by_cases h3:bf c d VC 1=-1)
  ·rw [if_pos h3] at E
   cases hx:(xn == 0);all_goals
    go_enter Tryz.func84,Tryz.ntmps84
    go_wp2_with fail
    obtain ⟨w0,e0,z0,B0,A0,M0⟩:=qG w c d (zI VC) x1 (zI VG) (zS bO 2 kO) (zS bX 2 kX) (zS bI 2 kI)
    rw [<-e0]
    clear e0
    refine (bT _ _ _ _ _).mono ?_
    rintro e w1 ⟨rfl,ac⟩
    have B1:=fQ (ah B0.o ac)
    have A1:=fQ (A0.o.q (by omega) ac)
    have M1:=fQ (bH (by omega) ac M0.o)
    have z1:w.heap.size+2<=w1.heap.size:=Hq z0 ac.size
    clear ac A0 M0 B0
    obtain ⟨a0,a1,a2,a3,a4,a5⟩:=A1.o.a6
    have m0:=M1.o.1
    have m1:=M1.o.2
    have lA:w.heap.size+1<w1.heap.size:=by omega
    have lM:w.heap.size<w1.heap.size:=by omega
    have ao:bO<w1.heap.size:=by omega
    have ap:bX<w1.heap.size:=by omega
    have aq:bI<w1.heap.size:=by omega
    first
    | guard_hyp ab
      have hX:w1.cell? (zA bX 0)=some (zI xn):=(B1.o.cell (p:=⟨bX,_,none⟩) lX).trans ai.o
      have hI:w1.cell? (zA bI 0)=some (zI xi):=(B1.o.cell (p:=⟨bI,_,none⟩) lI).trans ak.o
      have hO:w1.cell? (zA bO 0)=some (zS g N cc):=(B1.o.cell (p:=⟨bO,_,none⟩) lO).trans ag.o
    | have hX:w1.cell? (zA bX 1)=some (zI xn):=(B1.o.cell (p:=⟨bX,_,none⟩) lX).trans ai.o
      have hI:w1.cell? (zA bI 1)=some (zI xi):=(B1.o.cell (p:=⟨bI,_,none⟩) lI).trans ak.o
      have hO:w1.cell? (zA bO 1)=some (zS g N cc):=(B1.o.cell (p:=⟨bO,_,none⟩) lO).trans ag.o
    have ae:bY (∀ k j,k<N->j<8->w1.drew.cell? (zA g (0+k * 8+j))=some (zI (Z k j))):=fun k j a1 a2=>(B1.o.cell (p:=⟨g,_,none⟩) lg).trans (HR.o k j a1 a2)
    have an:g<w1.drew.heap.size:=by show g<w1.heap.size;omega
    first | (guard_hyp ab;generalize hT:bf c d VC 0=T at *) | (generalize hT:bf c d VC 1=T at *)
    go_wp2
    refine Hu (S:=fun w'=>(∀ b o,b<w1.heap.size->w'.cell? (zA b o)=w1.cell? (zA b o))/\w1.heap.size<=w'.heap.size) (by kernel_rfl) ⟨fun _ _ _=>rfl,Ho _⟩ ?_
    intro af
    refine aA 0 (.agg #[zI c,zI d]) rfl ?_
    refine aA 1 (zP (w.heap.size+1) 3) rfl ?_
    refine aA 2 (zS bO 2 kO) rfl ?_
    first
    | guard_hyp ab
      refine aA 3 (zI 0) rfl ?_
      refine aA 4 (zP bO 0) rfl ?_
    | refine aA 3 (zI 1) rfl ?_
      try simp only [aT]
      refine aA 4 (zP bO 1) rfl ?_
    refine aA 5 (zS g N cc) rfl ?_
    refine aA 6 (zP (w.heap.size+1) 4) rfl ?_
    refine aA 7 (zS bX 2 kX) rfl ?_
    first
    | guard_hyp ab
      refine aA 8 (zI 0) rfl ?_
      refine aA 9 (zP bX 0) rfl ?_
    | refine aA 8 (zI 1) rfl ?_
      try simp only [aT]
      refine aA 9 (zP bX 1) rfl ?_
    refine aA 10 (zI xn) rfl ?_
    refine di 11 rfl fun K hK=>?_
    go_simp
    go_wp2_with (go_at_call 111;refine (P8.iJ c d xn g 0 N cc Z hN _ an ae.o).mono ?_;rintro e w2 ⟨rfl,aa⟩;rw [h1])
    refine hK.out _ _ (bM (by assumption) aa) (fun af=>?_)
    clear hK K
    try simp only [aT]
    refine aA 12 (.bool false) rfl ?_
    refine aA 13 (.bool false) rfl ?_
    refine aA 14 (zP (w.heap.size+1) 5) rfl ?_
    refine aA 15 (zS bI 2 kI) rfl ?_
    first
    | guard_hyp ab
      refine aA 16 (zI 0) rfl ?_
      refine aA 17 (zP bI 0) rfl ?_
    | refine aA 16 (zI 1) rfl ?_
      try simp only [aT]
      refine aA 17 (zP bI 1) rfl ?_
    refine aA 18 (zI xi) rfl ?_
    refine di 19 rfl fun K hK=>?_
    go_simp
    go_wp2_with (go_at_call 24;refine (kZ _ _ _ _).mono ?_;rintro e w4 ⟨rfl,ad⟩;rw [h2])
    refine hK.out _ _ (bM (by assumption) ad) (fun af=>?_)
    clear hK K
    try simp only [aT]
    refine aA 20 (.bool false) rfl ?_
    refine aA 21 (.bool false) rfl ?_
    refine Hy (by kernel_rfl) ?_ _
    have al:Below w1.heap.size w1 w4:=ah (ah ((Hr _ _).drew) aa) ad
    clear aa ad ae an a0 a1 a2 a3 a4 a5 m0 m1 lA lM ao ap aq hX hI hO
    have B5:=fQ (ah B1.o al)
    have A5:=fQ (A1.o.q (by omega) al)
    have M5:=fQ (bH (by omega) al M1.o)
    have z5:w.heap.size+2<=w4.heap.size:=Hq z1 al.size
    clear al
    obtain ⟨a0,a1,a2,a3,a4,a5⟩:=A5.o.a6
    have m0:=M5.o.1
    have m1:=M5.o.2
    have lA:w.heap.size+1<w4.heap.size:=by omega
    have lM:w.heap.size<w4.heap.size:=by omega
    have ao:bO<w4.heap.size:=by omega
    have ap:bX<w4.heap.size:=by omega
    have aq:bI<w4.heap.size:=by omega
    first
    | guard_hyp ab
      have hX:w4.cell? (zA bX 0)=some (zI xn):=(B5.o.cell (p:=⟨bX,_,none⟩) lX).trans ai.o
      have hI:w4.cell? (zA bI 0)=some (zI xi):=(B5.o.cell (p:=⟨bI,_,none⟩) lI).trans ak.o
      have hO:w4.cell? (zA bO 0)=some (zS g N cc):=(B5.o.cell (p:=⟨bO,_,none⟩) lO).trans ag.o
    | have hX:w4.cell? (zA bX 1)=some (zI xn):=(B5.o.cell (p:=⟨bX,_,none⟩) lX).trans ai.o
      have hI:w4.cell? (zA bI 1)=some (zI xi):=(B5.o.cell (p:=⟨bI,_,none⟩) lI).trans ak.o
      have hO:w4.cell? (zA bO 1)=some (zS g N cc):=(B5.o.cell (p:=⟨bO,_,none⟩) lO).trans ag.o
    subst h3
    go_wp2
    go_ret
    exact ⟨by rw [E.o];simp [hx],B5.o⟩
  rw [if_neg h3] at E
  first | (guard_hyp ab;have aL:(bf c d VC 0 == -1)=false:=by simpa using h3) | (have aL:(bf c d VC 1 == -1)=false:=by simpa using h3)
  go_enter Tryz.func84,Tryz.ntmps84
  go_wp2_with fail
  obtain ⟨w0,e0,z0,B0,A0,M0⟩:=qG w c d (zI VC) x1 (zI VG) (zS bO 2 kO) (zS bX 2 kX) (zS bI 2 kI)
  rw [<-e0]
  clear e0
  refine (bT _ _ _ _ _).mono ?_
  rintro e w1 ⟨rfl,ac⟩
  have B1:=fQ (ah B0.o ac)
  have A1:=fQ (A0.o.q (by omega) ac)
  have M1:=fQ (bH (by omega) ac M0.o)
  have z1:w.heap.size+2<=w1.heap.size:=Hq z0 ac.size
  clear ac A0 M0 B0
  obtain ⟨a0,a1,a2,a3,a4,a5⟩:=A1.o.a6
  have m0:=M1.o.1
  have m1:=M1.o.2
  have lA:w.heap.size+1<w1.heap.size:=by omega
  have lM:w.heap.size<w1.heap.size:=by omega
  have ao:bO<w1.heap.size:=by omega
  have ap:bX<w1.heap.size:=by omega
  have aq:bI<w1.heap.size:=by omega
  first
  | guard_hyp ab
    have hX:w1.cell? (zA bX 0)=some (zI xn):=(B1.o.cell (p:=⟨bX,_,none⟩) lX).trans ai.o
    have hI:w1.cell? (zA bI 0)=some (zI xi):=(B1.o.cell (p:=⟨bI,_,none⟩) lI).trans ak.o
    have hO:w1.cell? (zA bO 0)=some (zS g N cc):=(B1.o.cell (p:=⟨bO,_,none⟩) lO).trans ag.o
  | have hX:w1.cell? (zA bX 1)=some (zI xn):=(B1.o.cell (p:=⟨bX,_,none⟩) lX).trans ai.o
    have hI:w1.cell? (zA bI 1)=some (zI xi):=(B1.o.cell (p:=⟨bI,_,none⟩) lI).trans ak.o
    have hO:w1.cell? (zA bO 1)=some (zS g N cc):=(B1.o.cell (p:=⟨bO,_,none⟩) lO).trans ag.o
  have ae:bY (∀ k j,k<N->j<8->w1.drew.cell? (zA g (0+k * 8+j))=some (zI (Z k j))):=fun k j a1 a2=>(B1.o.cell (p:=⟨g,_,none⟩) lg).trans (HR.o k j a1 a2)
  have an:g<w1.drew.heap.size:=by show g<w1.heap.size;omega
  first | (guard_hyp ab;generalize hT:bf c d VC 0=T at *) | (generalize hT:bf c d VC 1=T at *)
  go_wp2
  refine Hu (S:=fun w'=>(∀ b o,b<w1.heap.size->w'.cell? (zA b o)=w1.cell? (zA b o))/\w1.heap.size<=w'.heap.size) (by kernel_rfl) ⟨fun _ _ _=>rfl,Ho _⟩ ?_
  intro af
  refine aA 0 (.agg #[zI c,zI d]) rfl ?_
  refine aA 1 (zP (w.heap.size+1) 3) rfl ?_
  refine aA 2 (zS bO 2 kO) rfl ?_
  first
  | guard_hyp ab
    refine aA 3 (zI 0) rfl ?_
    refine aA 4 (zP bO 0) rfl ?_
  | refine aA 3 (zI 1) rfl ?_
    try simp only [aT]
    refine aA 4 (zP bO 1) rfl ?_
  refine aA 5 (zS g N cc) rfl ?_
  refine aA 6 (zP (w.heap.size+1) 4) rfl ?_
  refine aA 7 (zS bX 2 kX) rfl ?_
  first
  | guard_hyp ab
    refine aA 8 (zI 0) rfl ?_
    refine aA 9 (zP bX 0) rfl ?_
  | refine aA 8 (zI 1) rfl ?_
    try simp only [aT]
    refine aA 9 (zP bX 1) rfl ?_
  refine aA 10 (zI xn) rfl ?_
  refine di 11 rfl fun K hK=>?_
  go_simp
  go_wp2_with (go_at_call 111;refine (P8.iJ c d xn g 0 N cc Z hN _ an ae.o).mono ?_;rintro e w2 ⟨rfl,aa⟩;rw [h1])
  refine hK.out _ _ (bM (by assumption) aa) (fun af=>?_)
  clear hK K
  try simp only [aT]
  refine aA 12 (.bool false) rfl ?_
  refine aA 13 (.bool false) rfl ?_
  refine aA 14 (zP (w.heap.size+1) 5) rfl ?_
  refine aA 15 (zS bI 2 kI) rfl ?_
  first
  | guard_hyp ab
    refine aA 16 (zI 0) rfl ?_
    refine aA 17 (zP bI 0) rfl ?_
  | refine aA 16 (zI 1) rfl ?_
    try simp only [aT]
    refine aA 17 (zP bI 1) rfl ?_
  refine aA 18 (zI xi) rfl ?_
  refine di 19 rfl fun K hK=>?_
  go_simp
  go_wp2_with (go_at_call 24;refine (kZ _ _ _ _).mono ?_;rintro e w4 ⟨rfl,ad⟩;rw [h2])
  refine hK.out _ _ (bM (by assumption) ad) (fun af=>?_)
  clear hK K
  try simp only [aT]
  refine aA 20 (.bool false) rfl ?_
  refine aA 21 (.bool false) rfl ?_
  refine Hy (by kernel_rfl) ?_ _
  have al:Below w1.heap.size w1 w4:=ah (ah ((Hr _ _).drew) aa) ad
  clear aa ad ae an a0 a1 a2 a3 a4 a5 m0 m1 lA lM ao ap aq hX hI hO
  have B5:=fQ (ah B1.o al)
  have A5:=fQ (A1.o.q (by omega) al)
  have M5:=fQ (bH (by omega) al M1.o)
  have z5:w.heap.size+2<=w4.heap.size:=Hq z1 al.size
  clear al
  obtain ⟨a0,a1,a2,a3,a4,a5⟩:=A5.o.a6
  have m0:=M5.o.1
  have m1:=M5.o.2
  have lA:w.heap.size+1<w4.heap.size:=by omega
  have lM:w.heap.size<w4.heap.size:=by omega
  have ao:bO<w4.heap.size:=by omega
  have ap:bX<w4.heap.size:=by omega
  have aq:bI<w4.heap.size:=by omega
  first
  | guard_hyp ab
    have hX:w4.cell? (zA bX 0)=some (zI xn):=(B5.o.cell (p:=⟨bX,_,none⟩) lX).trans ai.o
    have hI:w4.cell? (zA bI 0)=some (zI xi):=(B5.o.cell (p:=⟨bI,_,none⟩) lI).trans ak.o
    have hO:w4.cell? (zA bO 0)=some (zS g N cc):=(B5.o.cell (p:=⟨bO,_,none⟩) lO).trans ag.o
  | have hX:w4.cell? (zA bX 1)=some (zI xn):=(B5.o.cell (p:=⟨bX,_,none⟩) lX).trans ai.o
    have hI:w4.cell? (zA bI 1)=some (zI xi):=(B5.o.cell (p:=⟨bI,_,none⟩) lI).trans ak.o
    have hO:w4.cell? (zA bO 1)=some (zS g N cc):=(B5.o.cell (p:=⟨bO,_,none⟩) lO).trans ag.o
  go_wp2
  go_loopw [8] (fun i wr=>∃ k:Nat,k<=N/\i=zI k/\iM (fun j=>!(Z j 1 == 1 && aQ c d (Z j 3) != T)) k=true/\Below w4.heap.size w4 wr) (fun i _=>N - (intOf i).toNat)
  case atStart=>exact ⟨0,Nat.zero_le _,rfl,rfl,Hr _ _⟩
  case round =>
   clear a0 a1 a2 a3 a4 a5 m0 m1 lA lM ao ap aq hX hI hO;obtain ⟨k,hk,rfl,av,BR⟩:=hrel;have ar:bY (iM (fun j=>!(Z j 1 == 1 && aQ c d (Z j 3) != T)) k=true):=av;clear av;have aE:=BR.size;have lA:w.heap.size+1<wr.heap.size:=by omega
   have lM:w.heap.size<wr.heap.size:=by omega
   have aN:bO<wr.heap.size:=by omega
   have aM:g<wr.heap.size:=by omega
   have a3:wr.cell? (zA (w.heap.size+1) 3)=some (zS bO 2 kO):=(BR.cell (p:=(zA (w.heap.size+1) 3)) (by show w.heap.size+1<_;omega)).trans (A5.o 3 (by decide)).1;first | (guard_hyp ab;have hO:wr.cell? (zA bO 0)=some (zS g N cc):=(BR.cell (p:=(zA bO 0)) (by show bO<_;omega)).trans ((B5.o.cell (p:=⟨bO,_,none⟩) lO).trans ag.o)) | (have hO:wr.cell? (zA bO 1)=some (zS g N cc):=(BR.cell (p:=(zA bO 1)) (by show bO<_;omega)).trans ((B5.o.cell (p:=⟨bO,_,none⟩) lO).trans ag.o))
   by_cases am:k<N
   ·have aI:(k:Int)<N:=by omega
    have c0:wr.cell? (zA g (k * 8))=some (zI (Z k 0)):=by have:=(BR.cell (p:=(zA g (0+k * 8+0))) (by show g<_;omega)).trans ((B5.o.cell (p:=(zA g (0+k * 8+0))) lg).trans (HR.o k 0 am (by omega)));simpa using this
    have c1:wr.cell? (zA g (k * 8+1))=some (zI (Z k 1)):=by have:=(BR.cell (p:=(zA g (0+k * 8+1))) (by show g<_;omega)).trans ((B5.o.cell (p:=(zA g (0+k * 8+1))) lg).trans (HR.o k 1 am (by omega)));simpa using this
    have c2:wr.cell? (zA g (k * 8+2))=some (zI (Z k 2)):=by have:=(BR.cell (p:=(zA g (0+k * 8+2))) (by show g<_;omega)).trans ((B5.o.cell (p:=(zA g (0+k * 8+2))) lg).trans (HR.o k 2 am (by omega)));simpa using this
    have c3:wr.cell? (zA g (k * 8+3))=some (zI (Z k 3)):=by have:=(BR.cell (p:=(zA g (0+k * 8+3))) (by show g<_;omega)).trans ((B5.o.cell (p:=(zA g (0+k * 8+3))) lg).trans (HR.o k 3 am (by omega)));simpa using this
    have c4:wr.cell? (zA g (k * 8+4))=some (zI (Z k 4)):=by have:=(BR.cell (p:=(zA g (0+k * 8+4))) (by show g<_;omega)).trans ((B5.o.cell (p:=(zA g (0+k * 8+4))) lg).trans (HR.o k 4 am (by omega)));simpa using this
    have c5:wr.cell? (zA g (k * 8+5))=some (zI (Z k 5)):=by have:=(BR.cell (p:=(zA g (0+k * 8+5))) (by show g<_;omega)).trans ((B5.o.cell (p:=(zA g (0+k * 8+5))) lg).trans (HR.o k 5 am (by omega)));simpa using this
    have c6:wr.cell? (zA g (k * 8+6))=some (zI (Z k 6)):=by have:=(BR.cell (p:=(zA g (0+k * 8+6))) (by show g<_;omega)).trans ((B5.o.cell (p:=(zA g (0+k * 8+6))) lg).trans (HR.o k 6 am (by omega)));simpa using this
    have c7:wr.cell? (zA g (k * 8+7))=some (zI (Z k 7)):=by have:=(BR.cell (p:=(zA g (0+k * 8+7))) (by show g<_;omega)).trans ((B5.o.cell (p:=(zA g (0+k * 8+7))) lg).trans (HR.o k 7 am (by omega)));simpa using this
    have m0:wr.cell? (zA w.heap.size 0)=some (zI c):=(BR.cell (p:=(zA w.heap.size 0)) (by show w.heap.size<_;omega)).trans M5.o.1;have m1:wr.cell? (zA w.heap.size 1)=some (zI d):=(BR.cell (p:=(zA w.heap.size 1)) (by show w.heap.size<_;omega)).trans M5.o.2;have az:bY (Below w4.heap.size w4 (wr.alloc (.cells (zE (Z k)).toArray 69))):=BR.alloc aE _;cases aD:(Z k 1 == 1)
    ·go_wp2;go_roundw
     case rel=>exact ⟨k+1,by omega,by go_num,ja ar.o (by simp [aD]),az.o⟩
     case measure=>simp [intOf];omega
    cases hp:(aQ c d (Z k 3) != T)
    ·go_wp2_with fail;refine (dD _ _ _ _).mono ?_;rintro e w6 ⟨rfl,aw⟩;go_wp2;go_roundw
     case rel=>exact ⟨k+1,by omega,by go_num,ja ar.o (by simp [aD,hp]),ah az.o aw⟩
     case measure=>simp [intOf];omega
    go_wp2_with fail;refine (dD _ _ _ _).mono ?_;rintro e w6 ⟨rfl,aw⟩;go_wp2;go_ret;exact ⟨by rw [E.o,kK am (by simp [aD,hp])];rfl,ah B5.o (ah az.o aw)⟩
   have:k=N:=by omega
   subst this;go_wp2;go_ret;exact ⟨by rw [E.o,ar.o];rfl,ah B5.o BR⟩
