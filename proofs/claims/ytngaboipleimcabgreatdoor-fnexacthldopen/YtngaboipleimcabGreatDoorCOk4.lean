/- The walk of CllOk, the program's; conditions: the cell lies in memory of its own. -/
import Derived.Test.YtngaboipleimcabGreatDoorWalksE
set_option linter.unusedVariables false
set_option maxHeartbeats 8000000
set_option maxRecDepth 20000
namespace Go.Proofs.YtngaboipleimcabGreatDoor
open Go.RowKit Go.Deep
def dN (c d VC s:Int) (N:Nat) (Z:Nat->Nat->Int) (xn xi:Int):Bool :=
 P8.eP c d xn N Z && (inB xi 0 5000 && (if bf c d VC s=-1 then (xn == 0 && xi == 0) else iM (fun j=>!(Z j 1 == 1 && aQ c d (Z j 3) != bf c d VC s)) N))
theorem qY (w:World) (t:TypeId) (v0 v1 v2 v3 v4 v5:Value) (o:Obj):Six ((w.alloc (.cells #[v0,v1,v2,v3,v4,v5] t)).alloc o).drew w.heap.size [v0,v1,v2,v3,v4,v5]:=by
 have h:=(fM w t v0 v1 v2 v3 v4 v5).q (W':=(w.alloc (.cells #[v0,v1,v2,v3,v4,v5] t)).alloc o) (by simp) ((Hr _ _).alloc (Ho _) _);exact h
theorem qV (w:World) (cs:Array Value) (t:TypeId) (c d:Int):((w.alloc (.cells cs t)).alloc (.cells #[zI c,zI d] 44)).drew.cell? (zA (w.heap.size+1) 0)=some (zI c)/\((w.alloc (.cells cs t)).alloc (.cells #[zI c,zI d] 44)).drew.cell? (zA (w.heap.size+1) 1)=some (zI d):=by
 have e:(w.alloc (.cells cs t)).heap.size=w.heap.size+1:=by simp
 refine ⟨?_,?_⟩
 ·show ((w.alloc (.cells cs t)).alloc (.cells #[zI c,zI d] 44)).cell? (zA (w.heap.size+1) 0)=_;rw [<-e];simp
 show ((w.alloc (.cells cs t)).alloc (.cells #[zI c,zI d] 44)).cell? (zA (w.heap.size+1) 1)=_;rw [<-e];simp
theorem LU {c d VC si xn xi:Int} {N:Nat} {Z:Nat->Nat->Int} (h1:P8.eP c d xn N Z=false):dN c d VC si N Z xn xi=false:=by unfold dN;rw [h1];rfl
theorem LV {c d VC si xn xi:Int} {N:Nat} {Z:Nat->Nat->Int} (h1:P8.eP c d xn N Z=true) (h2:inB xi 0 5000=false):dN c d VC si N Z xn xi=false:=by unfold dN;rw [h1,h2];rfl
theorem LX {c d VC si xn xi:Int} {N:Nat} {Z:Nat->Nat->Int} (h1:P8.eP c d xn N Z=true) (h2:inB xi 0 5000=true) (h3:bf c d VC si=-1):dN c d VC si N Z xn xi=(xn == 0 && xi == 0):=by unfold dN;rw [h1,h2,if_pos h3];rfl
theorem Lu {c d VC si xn xi T:Int} {N:Nat} {Z:Nat->Nat->Int} (h1:P8.eP c d xn N Z=true) (h2:inB xi 0 5000=true) (hT:bf c d VC si=T) (h3:¬ T=-1):dN c d VC si N Z xn xi=iM (fun j=>!(Z j 1 == 1 && aQ c d (Z j 3) != T)) N:=by unfold dN;rw [h1,h2,hT,if_neg h3];rfl
theorem jw (c d VC VG:Int) (x1:Value) (bO bX bI kO kX kI:Nat) (s:Nat) (y:Option Addr) (N cc:Nat) (Z:Nat->Nat->Int) (xn xi si:Int) (hs:(s=0/\si=0)∨(s=1/\si=1)) (hN:N<=1048576) (w:World)
 (lO:bO<w.heap.size) (lX:bX<w.heap.size) (lI:bI<w.heap.size)
 (hO:w.cell? (zA bO s)=some (.slice y N cc)) (hX:w.cell? (zA bX s)=some (zI xn)) (hI:w.cell? (zA bI s)=some (zI xi)) (hr:P8.kC w y N Z) :
 Hz 107 #[.agg #[zI VC,x1,zI VG,zS bO 2 kO,zS bX 2 kX,zS bI 2 kI],.agg #[zI c,zI d],zI si] w fun e w'=>e=.returned (.bool (dN c d VC si N Z xn xi))/\Below w.heap.size w w':=by
 have HA:=fQ hr;clear hr;rcases hs with ⟨rfl,rfl⟩ | ⟨rfl,rfl⟩;all_goals
  go_enter Tryz.func107,Tryz.ntmps107
  go_wp2
  go_region
  go_wp2_with fail
  obtain ⟨w0,e0⟩:∃ w0,w0=((w.alloc (.cells #[zI VC,x1,zI VG,zS bO 2 kO,zS bX 2 kX,zS bI 2 kI] 36)).alloc (.cells #[zI c,zI d] 44)).drew:=⟨_,rfl⟩
  have z0:w.heap.size+2<=w0.heap.size:=by rw [e0];simp [World.drew]
  have B0:bY (Below w.heap.size w w0):=by rw [e0];exact (((Hr _ _).alloc (by simp) _).alloc (by simp) _).drew
  have A0:bY (Six w0 w.heap.size [zI VC,x1,zI VG,zS bO 2 kO,zS bX 2 kX,zS bI 2 kI]):=by rw [e0];exact qY w 36 (zI VC) (x1) (zI VG) (zS bO 2 kO) (zS bX 2 kX) (zS bI 2 kI) _
  have M0:bY (w0.cell? (zA (w.heap.size+1) 0)=some (zI c)/\w0.cell? (zA (w.heap.size+1) 1)=some (zI d)):=by rw [e0];exact qV w #[zI VC,x1,zI VG,zS bO 2 kO,zS bX 2 kX,zS bI 2 kI] 36 c d
  rw [<-e0]
  clear e0
  refine (P8.lH c d xn y N cc Z hN w0 (lQ HA.o B0.o)).mono ?_
  rintro e w1 ⟨rfl,hb1⟩
  have B1:=fQ (ah B0.o hb1)
  have A1:=fQ (A0.o.q (by omega) hb1)
  have M1:=fQ (bH (by omega) hb1 M0.o)
  have z1:w.heap.size+2<=w1.heap.size:=Hq z0 hb1.size
  clear hb1 A0 M0 B0
  cases h1:P8.eP c d xn N Z
  ·go_wp2
   go_ret;exact ⟨by rw [LU h1];rfl,B1.o⟩
  have a0:=A1.o.a6
  have m0:=M1.o.1
  have m1:=M1.o.2
  have lA:w.heap.size<w1.heap.size:=by omega
  have lM:(w.heap.size+1)<w1.heap.size:=by omega
  go_wp2_with fail
  refine (dn _ _ _ _).mono ?_
  rintro e w2 ⟨rfl,e2⟩
  rw [e2]
  clear e2 w2
  cases h2:inB xi 0 5000
  ·go_wp2
   go_ret;exact ⟨by rw [LV h1 h2];rfl,B1.o⟩
  go_wp2_with fail
  refine (jv _ _ _ _ _).mono ?_
  rintro e w3 ⟨rfl,hb3⟩
  have B3:=fQ (ah B1.o hb3)
  have A3:=fQ (A1.o.q (by omega) hb3)
  have M3:=fQ (bH (by omega) hb3 M1.o)
  have z3:w.heap.size+2<=w3.heap.size:=Hq z1 hb3.size
  clear hb3 A1 M1 B1
  clear a0 m0 m1 lA lM
  clear hX hI hO
  generalize hT:bf c d VC _=T
  by_cases h3:T=-1
  ·subst h3
   cases hx:(xn == 0);all_goals
    go_wp2
    go_ret
    exact ⟨by rw [LX h1 h2 hT];simp [hx],B3.o⟩
  have h3':(T == -1)=false:=by simpa using h3
  go_wp2
  go_loopw [53] (fun i wr=>∃ k:Nat,k<=N/\i=zI k/\iM (fun j=>!(Z j 1 == 1 && aQ c d (Z j 3) != T)) k=true/\Below w3.heap.size w3 wr) (fun i _=>N - (intOf i).toNat)
  case atStart=>exact ⟨0,Nat.zero_le _,rfl,rfl,Hr _ _⟩
  case round =>
   obtain ⟨k,hk,rfl,hall,BR⟩:=hrel;have HALL:bY (iM (fun j=>!(Z j 1 == 1 && aQ c d (Z j 3) != T)) k=true):=hall;clear hall;by_cases hkn:k<N
   ·have hkn':(k:Int)<N:=by omega
    obtain ⟨g,o,rfl,lg,hr⟩:=HA.o.resolve_left (by omega);have HR:=fQ hr;clear hr;have lg3:g<w3.heap.size:=by omega
    have hlw:g<wr.heap.size:=by have:=BR.size;omega
    have hl3:=BR.size;have hmw:w.heap.size+1<wr.heap.size:=by omega
    have c0:=cq8 (fun j hj=>(BR.cell (p:=(zA g (o+k * 8+j))) lg3).trans ((B3.o.cell (p:=(zA g (o+k * 8+j))) lg).trans (HR.o k j hkn (by omega))));have m0:wr.cell? (zA (w.heap.size+1) 0)=some (zI c):=(BR.cell (p:=(zA (w.heap.size+1) 0)) (by show w.heap.size+1<_;omega)).trans M3.o.1;have m1:wr.cell? (zA (w.heap.size+1) 1)=some (zI d):=(BR.cell (p:=(zA (w.heap.size+1) 1)) (by show w.heap.size+1<_;omega)).trans M3.o.2;have BR1:bY (Below w3.heap.size w3 (wr.alloc (.cells (zE (Z k)).toArray 69))):=BR.alloc hl3 _;cases hk1:(Z k 1 == 1)
    ·go_wp2;go_roundw
     case rel=>exact ⟨k+1,by omega,by go_num,ja HALL.o (by simp [hk1]),BR1.o⟩
     case measure=>simp [intOf];omega
    cases hp:(aQ c d (Z k 3) != T)
    ·go_wp2_with fail;refine (gG _ _ _ _).mono ?_;rintro e w4 ⟨rfl,hb4⟩;go_wp2;go_roundw
     case rel=>exact ⟨k+1,by omega,by go_num,ja HALL.o (by simp [hk1,hp]),ah BR1.o hb4⟩
     case measure=>simp [intOf];omega
    go_wp2_with fail;refine (gG _ _ _ _).mono ?_;rintro e w4 ⟨rfl,hb4⟩;go_wp2;go_ret;exact ⟨by rw [Lu h1 h2 hT h3,kK hkn (by simp [hk1,hp])];rfl,ah B3.o (ah BR1.o hb4)⟩
   have:k=N:=by omega
   subst this;go_wp2;go_ret;exact ⟨by rw [Lu h1 h2 hT h3,HALL.o];rfl,ah B3.o BR⟩
theorem kZ (n lo hi:Int) (w:World):Hz 24 #[zI n,zI lo,zI hi] w fun e w'=>e=.returned (.bool (inB n lo hi))/\Below w.heap.size w w':=by
 refine (dh n lo hi w).mono ?_;rintro e w' ⟨rfl,rfl⟩;exact ⟨rfl,Hr _ _⟩
theorem oP (w:World) (cs:Array Value) (t0 t:TypeId) (v0 v1 v2 v3 v4 v5:Value):Six ((w.alloc (.cells cs t0)).alloc (.cells #[v0,v1,v2,v3,v4,v5] t)) (w.heap.size+1) [v0,v1,v2,v3,v4,v5]:=by
 have h:=fM (w.alloc (.cells cs t0)) t v0 v1 v2 v3 v4 v5;rw [show (w.alloc (.cells cs t0)).heap.size=w.heap.size+1 by simp] at h;exact h
theorem Eh (w:World) (c d:Int) (o:Obj):((w.alloc (.cells #[zI c,zI d] 44)).alloc o).cell? (zA w.heap.size 0)=some (zI c)/\((w.alloc (.cells #[zI c,zI d] 44)).alloc o).cell? (zA w.heap.size 1)=some (zI d):=by
 have k:Below (w.heap.size+1) (w.alloc (.cells #[zI c,zI d] 44)) ((w.alloc (.cells #[zI c,zI d] 44)).alloc o):=(Hr _ _).alloc (by simp) _;exact ⟨(k.cell (p:=(zA w.heap.size 0)) (Nat.lt_succ_self _)).trans (by simp),(k.cell (p:=(zA w.heap.size 1)) (Nat.lt_succ_self _)).trans (by simp)⟩
theorem qG (w:World) (c d:Int) (v0 v1 v2 v3 v4 v5:Value):∃ y,y=(w.alloc (.cells #[zI c,zI d] 44)).alloc (.cells #[v0,v1,v2,v3,v4,v5] 36)/\w.heap.size+2<=y.heap.size/\bY (Below w.heap.size w y)/\bY (Six y (w.heap.size+1) [v0,v1,v2,v3,v4,v5])/\bY (y.cell? (zA w.heap.size 0)=some (zI c)/\y.cell? (zA w.heap.size 1)=some (zI d)) :=
 ⟨_,rfl,by simp,((Hr _ _).alloc (by simp) _).alloc (by simp) _,oP w _ 44 36 _ _ _ _ _ _,Eh w c d _⟩
theorem qf (c d VC VG:Int) (x1:Value) (bO bX bI kO kX kI:Nat) (s:Nat) (y:Option Addr) (N cc:Nat) (Z:Nat->Nat->Int) (xn xi si:Int) (hs:(s=0/\si=0)∨(s=1/\si=1)) (hN:N<=1048576) (w:World)
 (lO:bO<w.heap.size) (lX:bX<w.heap.size) (lI:bI<w.heap.size)
 (hO:w.cell? (zA bO s)=some (.slice y N cc)) (hX:w.cell? (zA bX s)=some (zI xn)) (hI:w.cell? (zA bI s)=some (zI xi)) (hr:P8.kC w y N Z) :
 Hz 84 #[.agg #[zI c,zI d],.agg #[zI VC,x1,zI VG,zS bO 2 kO,zS bX 2 kX,zS bI 2 kI],zI si] w fun e w'=>e=.returned (.bool (dN c d VC si N Z xn xi))/\Below w.heap.size w w':=by
 have HA:=fQ hr;have hO0:=fQ hO;have hX0:=fQ hX;have hI0:=fQ hI;clear hr hO hX hI;rcases hs with ⟨rfl,rfl⟩ | ⟨rfl,rfl⟩
 case' _=>have mk0:=trivial
 all_goals
  go_enter Tryz.func84,Tryz.ntmps84
  go_wp2_with fail
  obtain ⟨w0,e0,z0,B0,A0,M0⟩:=qG w c d (zI VC) x1 (zI VG) (zS bO 2 kO) (zS bX 2 kX) (zS bI 2 kI)
  rw [<-e0]
  clear e0
  refine (bT _ _ _ _ _).mono ?_
  rintro e w1 ⟨rfl,hb1⟩
  have B1:=fQ (ah B0.o hb1)
  have A1:=fQ (A0.o.q (by omega) hb1)
  have M1:=fQ (bH (by omega) hb1 M0.o)
  have z1:w.heap.size+2<=w1.heap.size:=Hq z0 hb1.size
  clear hb1 A0 M0 B0
  generalize hT:bf c d VC _=T
  obtain ⟨a0,a1,a2,a3,a4,a5⟩:=A1.o.a6
  have m0:=M1.o.1
  have m1:=M1.o.2
  have lA:w.heap.size+1<w1.heap.size:=by omega
  have lM:w.heap.size<w1.heap.size:=by omega
  have lbO:bO<w1.heap.size:=by omega
  have lbX:bX<w1.heap.size:=by omega
  have lbI:bI<w1.heap.size:=by omega
  have hX:=(B1.o.cell (p:=⟨bX,_,none⟩) lX).trans hX0.o
  have hI:=(B1.o.cell (p:=⟨bI,_,none⟩) lI).trans hI0.o
  have hO:=(B1.o.cell (p:=⟨bO,_,none⟩) lO).trans hO0.o
  have ROWS:=fQ (lQ HA.o B1.o.drew)
  go_wp2
  refine Hu (S:=fun w'=>(∀ b o,b<w1.heap.size->w'.cell? (zA b o)=w1.cell? (zA b o))/\w1.heap.size<=w'.heap.size) (by kernel_rfl) ⟨fun _ _ _=>rfl,Ho _⟩ ?_
  intro af
  refine aA 0 (.agg #[zI c,zI d]) rfl ?_
  refine aA 1 (zP (w.heap.size+1) 3) rfl ?_
  refine aA 2 (zS bO 2 kO) rfl ?_
  first
  | guard_hyp mk0
    refine aA 3 (zI 0) rfl ?_
    refine aA 4 (zP bO 0) rfl ?_
  | refine aA 3 (zI 1) rfl ?_
    try simp only [aT]
    refine aA 4 (zP bO 1) rfl ?_
  refine aA 5 (.slice y N cc) rfl ?_
  refine aA 6 (zP (w.heap.size+1) 4) rfl ?_
  refine aA 7 (zS bX 2 kX) rfl ?_
  first
  | guard_hyp mk0
    refine aA 8 (zI 0) rfl ?_
    refine aA 9 (zP bX 0) rfl ?_
  | refine aA 8 (zI 1) rfl ?_
    try simp only [aT]
    refine aA 9 (zP bX 1) rfl ?_
  refine aA 10 (zI xn) rfl ?_
  refine di 11 rfl fun K hK=>?_
  go_simp
  go_wp2_with (go_at_call 111;refine (P8.iJ c d xn y N cc Z hN _ ROWS.o).mono ?_;rintro e w2 ⟨rfl,hbw2⟩)
  refine hK.out _ _ (bM (by assumption) hbw2) (fun af=>?_)
  clear hK K
  try simp only [aT]
  cases h1:P8.eP c d xn N Z
  ·refine aA 12 (.bool true) rfl ?_
   refine aA 13 (.bool true) rfl ?_;refine bU 14 rfl ?_;refine bU 15 rfl ?_;refine bU 16 rfl ?_;refine bU 17 rfl ?_;refine bU 18 rfl ?_;refine bU 19 rfl ?_;refine bU 20 rfl ?_;refine aA 21 (.bool true) rfl ?_;refine Hy (by kernel_rfl) ?_ _;go_wp2;go_ret;exact ⟨by rw [LU h1];rfl,ah B1.o (ah ((Hr _ _).drew) hbw2)⟩
  refine aA 12 (.bool false) rfl ?_
  refine aA 13 (.bool false) rfl ?_
  refine aA 14 (zP (w.heap.size+1) 5) rfl ?_
  refine aA 15 (zS bI 2 kI) rfl ?_
  first
  | guard_hyp mk0
    refine aA 16 (zI 0) rfl ?_
    refine aA 17 (zP bI 0) rfl ?_
  | refine aA 16 (zI 1) rfl ?_
    try simp only [aT]
    refine aA 17 (zP bI 1) rfl ?_
  refine aA 18 (zI xi) rfl ?_
  refine di 19 rfl fun K hK=>?_
  go_simp
  go_wp2_with (go_at_call 24;refine (kZ _ _ _ _).mono ?_;rintro e w4 ⟨rfl,hbw4⟩)
  refine hK.out _ _ (bM (by assumption) hbw4) (fun af=>?_)
  clear hK K
  try simp only [aT]
  cases h2:inB xi 0 5000
  ·refine aA 20 (.bool true) rfl ?_
   refine aA 21 (.bool true) rfl ?_;refine Hy (by kernel_rfl) ?_ _;go_wp2;go_ret;exact ⟨by rw [LV h1 h2];rfl,ah B1.o (ah (ah ((Hr _ _).drew) hbw2) hbw4)⟩
  refine aA 20 (.bool false) rfl ?_
  refine aA 21 (.bool false) rfl ?_
  refine Hy (by kernel_rfl) ?_ _
  have hb5:Below w1.heap.size w1 w4:=ah (ah ((Hr _ _).drew) hbw2) hbw4
  clear hbw2 hbw4 ROWS a0 a1 a2 a3 a4 a5 m0 m1 lA lM lbO lbX lbI hX hI hO
  have B5:=fQ (ah B1.o hb5)
  have A5:=fQ (A1.o.q (by omega) hb5)
  have M5:=fQ (bH (by omega) hb5 M1.o)
  have z5:w.heap.size+2<=w4.heap.size:=Hq z1 hb5.size
  clear hb5
  obtain ⟨a0,a1,a2,a3,a4,a5⟩:=A5.o.a6
  have m0:=M5.o.1
  have m1:=M5.o.2
  have lA:w.heap.size+1<w4.heap.size:=by omega
  have lM:w.heap.size<w4.heap.size:=by omega
  have lbO:bO<w4.heap.size:=by omega
  have lbX:bX<w4.heap.size:=by omega
  have lbI:bI<w4.heap.size:=by omega
  have hX:=(B5.o.cell (p:=⟨bX,_,none⟩) lX).trans hX0.o
  have hI:=(B5.o.cell (p:=⟨bI,_,none⟩) lI).trans hI0.o
  have hO:=(B5.o.cell (p:=⟨bO,_,none⟩) lO).trans hO0.o
  by_cases h3:T=-1
  ·subst h3
   cases hx:(xn == 0);all_goals
    go_wp2
    go_ret
    exact ⟨by rw [LX h1 h2 hT];simp [hx],B5.o⟩
  have h3':(T == -1)=false:=by simpa using h3
  go_wp2
  go_loopw [8] (fun i wr=>∃ k:Nat,k<=N/\i=zI k/\iM (fun j=>!(Z j 1 == 1 && aQ c d (Z j 3) != T)) k=true/\Below w4.heap.size w4 wr) (fun i _=>N - (intOf i).toNat)
  case atStart=>exact ⟨0,Nat.zero_le _,rfl,rfl,Hr _ _⟩
  case round =>
   clear a0 a1 a2 a3 a4 a5 m0 m1 lA lM lbO lbX lbI hX hI hO;obtain ⟨k,hk,rfl,hall,BR⟩:=hrel;have HALL:bY (iM (fun j=>!(Z j 1 == 1 && aQ c d (Z j 3) != T)) k=true):=hall;clear hall;have hl3:=BR.size;have lA:w.heap.size+1<wr.heap.size:=by omega
   have lM:w.heap.size<wr.heap.size:=by omega
   have lO':bO<wr.heap.size:=by omega
   have a3:wr.cell? (zA (w.heap.size+1) 3)=some (zS bO 2 kO):=(BR.cell (p:=(zA (w.heap.size+1) 3)) (by show w.heap.size+1<_;omega)).trans (A5.o 3 (by decide)).1;have hO:=(BR.cell (p:=(zA bO _)) (by show bO<_;omega)).trans ((B5.o.cell (p:=⟨bO,_,none⟩) lO).trans hO0.o);by_cases hkn:k<N
   ·have hkn':(k:Int)<N:=by omega
    obtain ⟨g,o,rfl,lg,hr⟩:=HA.o.resolve_left (by omega);have HR:=fQ hr;clear hr;have lg4:g<w4.heap.size:=by omega
    have lg':g<wr.heap.size:=by omega
    have c0:=cq8 (fun j hj=>(BR.cell (p:=(zA g (o+k * 8+j))) lg4).trans ((B5.o.cell (p:=(zA g (o+k * 8+j))) lg).trans (HR.o k j hkn (by omega))));have m0:wr.cell? (zA w.heap.size 0)=some (zI c):=(BR.cell (p:=(zA w.heap.size 0)) (by show w.heap.size<_;omega)).trans M5.o.1;have m1:wr.cell? (zA w.heap.size 1)=some (zI d):=(BR.cell (p:=(zA w.heap.size 1)) (by show w.heap.size<_;omega)).trans M5.o.2;have BR1:bY (Below w4.heap.size w4 (wr.alloc (.cells (zE (Z k)).toArray 69))):=BR.alloc hl3 _;cases hk1:(Z k 1 == 1)
    ·go_wp2;go_roundw
     case rel=>exact ⟨k+1,by omega,by go_num,ja HALL.o (by simp [hk1]),BR1.o⟩
     case measure=>simp [intOf];omega
    cases hp:(aQ c d (Z k 3) != T)
    ·go_wp2_with fail;refine (dD _ _ _ _).mono ?_;rintro e w6 ⟨rfl,hb6⟩;go_wp2;go_roundw
     case rel=>exact ⟨k+1,by omega,by go_num,ja HALL.o (by simp [hk1,hp]),ah BR1.o hb6⟩
     case measure=>simp [intOf];omega
    go_wp2_with fail;refine (dD _ _ _ _).mono ?_;rintro e w6 ⟨rfl,hb6⟩;go_wp2;go_ret;exact ⟨by rw [Lu h1 h2 hT h3,kK hkn (by simp [hk1,hp])];rfl,ah B5.o (ah BR1.o hb6)⟩
   have:k=N:=by omega
   subst this;go_wp2;go_ret;exact ⟨by rw [Lu h1 h2 hT h3,HALL.o];rfl,ah B5.o BR⟩
def bD (c d:Int) (V:CV):Bool :=
 hasB c d V.c && (allB c d V.W V.nW && (inB V.g 0 900 && (V.nO == 2 && (V.nX == 2 && (V.nI == 2 && (iM (fun k=>!(aQ c d (V.W k 1) != V.c)) V.nW && (dN c d V.c 0 (V.N 0) (V.O 0) (V.X 0) (V.I 0) && dN c d V.c 1 (V.N 1) (V.O 1) (V.X 1) (V.I 1))))))))
abbrev zG (V:CV) (a:Option Addr) (i b j c k d l:Nat):List Value:=[zI V.c,.slice a V.nW i,zI V.g,zS b V.nO j,zS c V.nX k,zS d V.nI l]
/-- A cell in memory: its lists lie there, at any room; the walkers' list may be nil if it is empty. -/
def dL (w:World) (v:Value) (V:CV):Prop :=
 ∃ aW bO bX bI cW cO cX cI,bO<w.heap.size/\bX<w.heap.size/\bI<w.heap.size /\
  v=.agg (zG V aW cW bO cO bX cX bI cI).toArray /\
  lJ w aW V.nW V.W /\
  (∀ k,k<V.nO->∃ x c,w.cell? (zA bO k)=some (.slice x (V.N k) c)/\P8.kC w x (V.N k) (V.O k)) /\
  (∀ i,i<V.nX->w.cell? (zA bX i)=some (zI (V.X i)))/\(∀ i,i<V.nI->w.cell? (zA bI i)=some (zI (V.I i)))
theorem dL.q {w w':World} {v:Value} {V:CV} (h:dL w v V) (hb:Below w.heap.size w w'):dL w' v V:=by
 obtain ⟨aW,bO,bX,bI,cW,cO,cX,cI,q2,q3,q4,rfl,oW,oO,oX,oI⟩:=h;have hz:=hb.size;refine ⟨aW,bO,bX,bI,cW,cO,cX,cI,by omega,by omega,by omega,rfl,iV oW hb,fun k hk=>?_,fun i hi=>(hb.cell (p:=zA bX i) q3).trans (oX i hi),fun i hi=>(hb.cell (p:=zA bI i) q4).trans (oI i hi)⟩;obtain ⟨x,c,y2,y3⟩:=oO k hk;exact ⟨x,c,(hb.cell (p:=zA bO k) q2).trans y2,lQ y3 hb⟩
theorem eH.g {lo:Nat} {w:World} {v:Value} {V:CV} (h:eH lo w v V):dL w v V:=by
 obtain ⟨bW,bO,bX,bI,q0,q1,q2,q3,q4,rfl,oW,⟨_,xs,_,h3⟩,oX,oI⟩:=h;exact ⟨some (zA bW 0),bO,bX,bI,V.nW,V.nO,V.nX,V.nI,by omega,by omega,by omega,rfl,mP oW (by omega),fun k hk=>by obtain ⟨_,a2,a3,a4⟩:=h3 k hk;exact ⟨_,_,a3,.inr ⟨xs k,0,rfl,a2,P8.aZ a4⟩⟩,oX.2,oI.2⟩
theorem LY (c d:Int) (v:Value) (V:CV) (hs:V.short 1048576) (w:World) (h:dL w v V) :
 Hz 75 #[.agg #[zI c,zI d],v] w fun e w'=>e=.returned (.bool (bD c d V))/\Below w.heap.size w w':=by
 obtain ⟨aW,bO,bX,bI,cW,cO,cX,cI,lO,lX,lI,rfl,gW0,gO0,gX0,gI0⟩:=h;obtain ⟨VC,nW,W,VG,nO,N,O,nX,X,nI,I⟩:=V;simp only at gW0 gO0 gX0 gI0;obtain ⟨sW,sO,sN,sX,sI⟩:=hs;simp only at sW sO sN sX sI;have gW:=fQ gW0;have gO:=fQ gO0;have gX:=fQ gX0;have gI:=fQ gI0;have HN:bY (∀ k,k<nO->N k<=1048576):=sN;clear gW0 gO0 gX0 gI0 sN;go_enter Tryz.func75,Tryz.ntmps75;go_wp2_with fail;obtain ⟨w0,e0,z0,B0,A0,M0⟩:=qG w c d (zI VC) (.slice aW nW cW) (zI VG) (zS bO nO cO) (zS bX nX cX) (zS bI nI cI);rw [<-e0];clear e0;refine (gV _ _ _ _).mono ?_;rintro e w1 ⟨rfl,hb1⟩;have B1:=fQ (ah B0.o hb1);have A1:=fQ (A0.o.q (by omega) hb1);have M1:=fQ (bH (by omega) hb1 M0.o);have z1:w.heap.size+2<=w1.heap.size:=Hq z0 hb1.size;clear hb1 A0 M0 B0;cases h1:hasB c d VC
 ·have E:bY (bD c d ⟨VC,nW,W,VG,nO,N,O,nX,X,nI,I⟩=false):=by show bD c d ⟨VC,nW,W,VG,nO,N,O,nX,X,nI,I⟩=false;simp only [bD];rw [h1];rfl
  go_wp2;go_ret;exact ⟨by rw [E.o];rfl,B1.o⟩
 have a0:=A1.o.a6;have m0:=M1.o.1;have m1:=M1.o.2;have lA:w.heap.size+1<w1.heap.size:=by omega
 have lM:w.heap.size<w1.heap.size:=by omega
 go_wp2_with fail;refine (dV c d VC VG aW nW cW W _ _ _ sW _ (iV gW.o B1.o)).mono ?_;rintro e w2 ⟨rfl,hb2⟩;clear a0 m0 m1 lA lM;have B2:=fQ (ah B1.o hb2);have A2:=fQ (A1.o.q (by omega) hb2);have M2:=fQ (bH (by omega) hb2 M1.o);have z2:w.heap.size+2<=w2.heap.size:=Hq z1 hb2.size;clear hb2 A1 M1 B1;cases h2:(iM (fun k=>!(aQ c d (W k 1) != VC)) nW && allB c d W nW)
 ·have E:bY (bD c d ⟨VC,nW,W,VG,nO,N,O,nX,X,nI,I⟩=false):=by show bD c d ⟨VC,nW,W,VG,nO,N,O,nX,X,nI,I⟩=false;simp only [bD];rcases Bool.and_eq_false_iff.1 h2 with g | g <;> rw [g] <;> simp
  go_wp2;go_ret;exact ⟨by rw [E.o];rfl,B2.o⟩
 have a0:=A2.o.a6;have m0:=M2.o.1;have m1:=M2.o.2;have lA:w.heap.size+1<w2.heap.size:=by omega
 have lM:w.heap.size<w2.heap.size:=by omega
 go_wp2_with fail;refine (dn _ _ _ _).mono ?_;rintro e w3 ⟨rfl,e3⟩;rw [e3];clear e3 w3;cases h3:inB VG 0 900
 ·have E:bY (bD c d ⟨VC,nW,W,VG,nO,N,O,nX,X,nI,I⟩=false):=by show bD c d ⟨VC,nW,W,VG,nO,N,O,nX,X,nI,I⟩=false;simp only [bD];rw [h3];simp
  go_wp2;go_ret;exact ⟨by rw [E.o];rfl,B2.o⟩
 by_cases gO2:¬ nO=2
 ·have gO2':((nO:Int) == 2)=false:=by simp;omega
  have E:bY (bD c d ⟨VC,nW,W,VG,nO,N,O,nX,X,nI,I⟩=false):=by show bD c d ⟨VC,nW,W,VG,nO,N,O,nX,X,nI,I⟩=false;simp only [bD];simp [gO2]
  go_wp2;go_ret;exact ⟨by rw [E.o];rfl,B2.o⟩
 obtain rfl:nO=2:=by omega
 clear gO2;by_cases gX2:¬ nX=2
 ·have gX2':((nX:Int) == 2)=false:=by simp;omega
  have E:bY (bD c d ⟨VC,nW,W,VG,2,N,O,nX,X,nI,I⟩=false):=by show bD c d ⟨VC,nW,W,VG,2,N,O,nX,X,nI,I⟩=false;simp only [bD];simp [gX2]
  go_wp2;go_ret;exact ⟨by rw [E.o];rfl,B2.o⟩
 obtain rfl:nX=2:=by omega
 clear gX2;by_cases gI2:¬ nI=2
 ·have gI2':((nI:Int) == 2)=false:=by simp;omega
  have E:bY (bD c d ⟨VC,nW,W,VG,2,N,O,2,X,nI,I⟩=false):=by show bD c d ⟨VC,nW,W,VG,2,N,O,2,X,nI,I⟩=false;simp only [bD];simp [gI2]
  go_wp2;go_ret;exact ⟨by rw [E.o];rfl,B2.o⟩
 obtain rfl:nI=2:=by omega
 clear gI2;go_wp2_with fail;obtain ⟨y,cc,fO,fr⟩:=gO.o 0 (by decide);refine (jw c d VC VG _ bO bX bI cO cX cI 0 y (N 0) cc (O 0) (X 0) (I 0) 0 (.inl ⟨rfl,rfl⟩) (HN.o 0 (by decide)) _ (by omega) (by omega) (by omega) ((B2.o.cell (p:=zA bO 0) lO).trans fO) ((B2.o.cell (p:=zA bX 0) lX).trans (gX.o 0 (by decide))) ((B2.o.cell (p:=zA bI 0) lI).trans (gI.o 0 (by decide))) (lQ fr B2.o)).mono ?_;rintro e w3 ⟨rfl,hb3⟩;clear fO fr a0 m0 m1 lA lM;have B3:=fQ (ah B2.o hb3);have A3:=fQ (A2.o.q (by omega) hb3);have M3:=fQ (bH (by omega) hb3 M2.o);have z3:w.heap.size+2<=w3.heap.size:=Hq z2 hb3.size;clear hb3 A2 M2 B2;cases h4:dN c d VC 0 (N 0) (O 0) (X 0) (I 0)
 ·have E:bY (bD c d ⟨VC,nW,W,VG,2,N,O,2,X,2,I⟩=false):=by show bD c d ⟨VC,nW,W,VG,2,N,O,2,X,2,I⟩=false;simp only [bD];rw [h4];simp
  go_wp2;go_ret;exact ⟨by rw [E.o];rfl,B3.o⟩
 have a0:=A3.o.a6;have m0:=M3.o.1;have m1:=M3.o.2;have lA:w.heap.size+1<w3.heap.size:=by omega
 have lM:w.heap.size<w3.heap.size:=by omega
 go_wp2_with fail;obtain ⟨y,cc,fO,fr⟩:=gO.o 1 (by decide);refine (jw c d VC VG _ bO bX bI cO cX cI 1 y (N 1) cc (O 1) (X 1) (I 1) 1 (.inr ⟨rfl,rfl⟩) (HN.o 1 (by decide)) _ (by omega) (by omega) (by omega) ((B3.o.cell (p:=zA bO 1) lO).trans fO) ((B3.o.cell (p:=zA bX 1) lX).trans (gX.o 1 (by decide))) ((B3.o.cell (p:=zA bI 1) lI).trans (gI.o 1 (by decide))) (lQ fr B3.o)).mono ?_;rintro e w4 ⟨rfl,hb4⟩;clear fO fr a0 m0 m1 lA lM;have B4:=fQ (ah B3.o hb4);have A4:=fQ (A3.o.q (by omega) hb4);have M4:=fQ (bH (by omega) hb4 M3.o);have z4:w.heap.size+2<=w4.heap.size:=Hq z3 hb4.size;clear hb4 A3 M3 B3;cases h5:dN c d VC 1 (N 1) (O 1) (X 1) (I 1)
 ·have E:bY (bD c d ⟨VC,nW,W,VG,2,N,O,2,X,2,I⟩=false):=by show bD c d ⟨VC,nW,W,VG,2,N,O,2,X,2,I⟩=false;simp only [bD];rw [h5];simp
  go_wp2;go_ret;exact ⟨by rw [E.o];rfl,B4.o⟩
 have E:bY (bD c d ⟨VC,nW,W,VG,2,N,O,2,X,2,I⟩=true):=by
  show bD c d ⟨VC,nW,W,VG,2,N,O,2,X,2,I⟩=true;obtain ⟨g1,g2⟩:=Bool.and_eq_true_iff.1 h2;simp only [bD];rw [h1,g1,g2,h3,h4,h5];rfl
 go_wp2;go_ret;exact ⟨by rw [E.o];rfl,B4.o⟩
theorem oh (c d:Int) (v:Value) (V:CV) (lo:Nat) (hs:V.short 1048576) (w:World) (h:eH lo w v V) :
 Hz 75 #[.agg #[zI c,zI d],v] w fun e w'=>e=.returned (.bool (bD c d V))/\Below w.heap.size w w':=LY c d v V hs w h.g
