/- The walks of CllOk's parts: what a cell has for a side; conditions: it lies in memory. -/
import Derived.Test.YtngaboipleimcabGreatDoorWalksE
set_option linter.unusedVariables false
set_option maxHeartbeats 8000000
namespace Go.Proofs.YtngaboipleimcabGreatDoor
open Go.RowKit Go.Deep
def dN (c d VC s:Int) (N:Nat) (Z:Nat->Nat->Int) (xn xi:Int):Bool :=
 P8.eP c d xn N Z && (inB xi 0 5000 && (if bf c d VC s=-1 then (xn == 0 && xi == 0) else iM (fun j=>!(Z j 1 == 1 && aQ c d (Z j 3) != bf c d VC s)) N))
theorem qY (w:World) (t:TypeId) (v0 v1 v2 v3 v4 v5:Value) (o:Obj):Six ((w.alloc (.cells #[v0,v1,v2,v3,v4,v5] t)).alloc o).drew w.heap.size [v0,v1,v2,v3,v4,v5]:=by
 have h:=(fM w t v0 v1 v2 v3 v4 v5).q (W':=(w.alloc (.cells #[v0,v1,v2,v3,v4,v5] t)).alloc o) (by simp) ((Hr _ _).alloc (Ho _) _);exact h
theorem qV (w:World) (cs:Array Value) (t:TypeId) (c d:Int):((w.alloc (.cells cs t)).alloc (.cells #[zI c,zI d] 44)).drew.cell? (zA (w.heap.size+1) 0)=some (zI c)/\((w.alloc (.cells cs t)).alloc (.cells #[zI c,zI d] 44)).drew.cell? (zA (w.heap.size+1) 1)=some (zI d):=by
 have e:(w.alloc (.cells cs t)).heap.size=w.heap.size+1:=by simp
 refine ⟨?_,?_⟩
 ·show ((w.alloc (.cells cs t)).alloc (.cells #[zI c,zI d] 44)).cell? (zA (w.heap.size+1) 0)=_;rw [<-e];simp
 show ((w.alloc (.cells cs t)).alloc (.cells #[zI c,zI d] 44)).cell? (zA (w.heap.size+1) 1)=_;rw [<-e];simp
theorem jw (c d VC VG:Int) (x1:Value) (bO bX bI kO kX kI:Nat) (s g N cc:Nat) (Z:Nat->Nat->Int) (xn xi si:Int) (hs:(s=0/\si=0)∨(s=1/\si=1)) (hN:N<=1048576) (w:World)
 (lO:bO<w.heap.size) (lX:bX<w.heap.size) (lI:bI<w.heap.size) (lg:g<w.heap.size)
 (hO:w.cell? (zA bO s)=some (zS g N cc)) (hX:w.cell? (zA bX s)=some (zI xn)) (hI:w.cell? (zA bI s)=some (zI xi))
 (hr:∀ k j,k<N->j<8->w.cell? (zA g (0+k * 8+j))=some (zI (Z k j))) :
 Hz 107 #[.agg #[zI VC,x1,zI VG,zS bO 2 kO,zS bX 2 kX,zS bI 2 kI],.agg #[zI c,zI d],zI si] w fun e w'=>e=.returned (.bool (dN c d VC si N Z xn xi))/\Below w.heap.size w w':=by
 have HR:bY (∀ k j,k<N->j<8->w.cell? (zA g (0+k * 8+j))=some (zI (Z k j))):=hr;clear hr;cases h1:P8.eP c d xn N Z
 ·have E:bY (dN c d VC si N Z xn xi=false):=by show dN c d VC si N Z xn xi=false;unfold dN;rw [h1];rfl
  rcases hs with ⟨rfl,rfl⟩ | ⟨rfl,rfl⟩;all_goals
   go_enter Tryz.func107,Tryz.ntmps107
   go_wp2
   go_region
   go_wp2_with fail
   obtain ⟨w0,e0⟩:∃ w0,w0=((w.alloc (.cells #[zI VC,x1,zI VG,zS bO 2 kO,zS bX 2 kX,zS bI 2 kI] 36)).alloc (.cells #[zI c,zI d] 44)).drew:=⟨_,rfl⟩
   have z0:w.heap.size+2<=w0.heap.size:=by rw [e0];simp [World.drew]
   have B0:bY (Below w.heap.size w w0):=by rw [e0];exact (((Hr _ _).alloc (by simp) _).alloc (by simp) _).drew
   have A0:bY (Six w0 w.heap.size [zI VC,x1,zI VG,zS bO 2 kO,zS bX 2 kX,zS bI 2 kI]):=by rw [e0];exact qY w 36 (zI VC) (x1) (zI VG) (zS bO 2 kO) (zS bX 2 kX) (zS bI 2 kI) _
   have M0:bY (w0.cell? (zA (w.heap.size+1) 0)=some (zI c)/\w0.cell? (zA (w.heap.size+1) 1)=some (zI d)):=by rw [e0];exact qV w #[zI VC,x1,zI VG,zS bO 2 kO,zS bX 2 kX,zS bI 2 kI] 36 c d
   rw [<-e0]
   clear e0
   have ab:g<w0.heap.size:=by omega
   refine (P8.lH c d xn g 0 N cc Z hN w0 ab (fun k j a1 a2=>(B0.o.cell (p:=⟨g,_,none⟩) lg).trans (HR.o k j a1 a2))).mono ?_
   rintro e w1 ⟨rfl,aa⟩
   have B1:=fQ (ah B0.o aa)
   have A1:=fQ (A0.o.q (by omega) aa)
   have M1:=fQ (bH (by omega) aa M0.o)
   have z1:w.heap.size+2<=w1.heap.size:=Hq z0 aa.size
   clear aa A0 M0 B0 ab
   rw [h1]
   go_wp2
   go_ret
   exact ⟨by rw [E.o];rfl,B1.o⟩
 cases h2:inB xi 0 5000
 ·have E:bY (dN c d VC si N Z xn xi=false):=by show dN c d VC si N Z xn xi=false;unfold dN;rw [h1,h2];rfl
  rcases hs with ⟨rfl,rfl⟩ | ⟨rfl,rfl⟩;all_goals
   go_enter Tryz.func107,Tryz.ntmps107
   go_wp2
   go_region
   go_wp2_with fail
   obtain ⟨w0,e0⟩:∃ w0,w0=((w.alloc (.cells #[zI VC,x1,zI VG,zS bO 2 kO,zS bX 2 kX,zS bI 2 kI] 36)).alloc (.cells #[zI c,zI d] 44)).drew:=⟨_,rfl⟩
   have z0:w.heap.size+2<=w0.heap.size:=by rw [e0];simp [World.drew]
   have B0:bY (Below w.heap.size w w0):=by rw [e0];exact (((Hr _ _).alloc (by simp) _).alloc (by simp) _).drew
   have A0:bY (Six w0 w.heap.size [zI VC,x1,zI VG,zS bO 2 kO,zS bX 2 kX,zS bI 2 kI]):=by rw [e0];exact qY w 36 (zI VC) (x1) (zI VG) (zS bO 2 kO) (zS bX 2 kX) (zS bI 2 kI) _
   have M0:bY (w0.cell? (zA (w.heap.size+1) 0)=some (zI c)/\w0.cell? (zA (w.heap.size+1) 1)=some (zI d)):=by rw [e0];exact qV w #[zI VC,x1,zI VG,zS bO 2 kO,zS bX 2 kX,zS bI 2 kI] 36 c d
   rw [<-e0]
   clear e0
   have ab:g<w0.heap.size:=by omega
   refine (P8.lH c d xn g 0 N cc Z hN w0 ab (fun k j a1 a2=>(B0.o.cell (p:=⟨g,_,none⟩) lg).trans (HR.o k j a1 a2))).mono ?_
   rintro e w1 ⟨rfl,aa⟩
   have B1:=fQ (ah B0.o aa)
   have A1:=fQ (A0.o.q (by omega) aa)
   have M1:=fQ (bH (by omega) aa M0.o)
   have z1:w.heap.size+2<=w1.heap.size:=Hq z0 aa.size
   clear aa A0 M0 B0 ab
   rw [h1]
   obtain ⟨a0,a1,a2,a3,a4,a5⟩:=A1.o.a6
   have m0:=M1.o.1
   have m1:=M1.o.2
   have lA:w.heap.size<w1.heap.size:=by omega
   have lM:(w.heap.size+1)<w1.heap.size:=by omega
   go_wp2_with fail
   refine (dn _ _ _ _).mono ?_
   rintro e w2 ⟨rfl,e2⟩
   rw [e2,h2]
   clear e2 w2
   go_wp2
   go_ret
   exact ⟨by rw [E.o];rfl,B1.o⟩
 have E:bY (dN c d VC si N Z xn xi=if bf c d VC si=-1 then (xn == 0 && xi == 0) else iM (fun j=>!(Z j 1 == 1 && aQ c d (Z j 3) != bf c d VC si)) N):=by show dN c d VC si N Z xn xi=_;unfold dN;rw [h1,h2];rfl
 by_cases h3:bf c d VC si=-1
 ·rw [if_pos h3] at E;rcases hs with ⟨rfl,rfl⟩ | ⟨rfl,rfl⟩;all_goals
   cases hx:(xn == 0)
   all_goals
    go_enter Tryz.func107,Tryz.ntmps107
    go_wp2
    go_region
    go_wp2_with fail
    obtain ⟨w0,e0⟩:∃ w0,w0=((w.alloc (.cells #[zI VC,x1,zI VG,zS bO 2 kO,zS bX 2 kX,zS bI 2 kI] 36)).alloc (.cells #[zI c,zI d] 44)).drew:=⟨_,rfl⟩
    have z0:w.heap.size+2<=w0.heap.size:=by rw [e0];simp [World.drew]
    have B0:bY (Below w.heap.size w w0):=by rw [e0];exact (((Hr _ _).alloc (by simp) _).alloc (by simp) _).drew
    have A0:bY (Six w0 w.heap.size [zI VC,x1,zI VG,zS bO 2 kO,zS bX 2 kX,zS bI 2 kI]):=by rw [e0];exact qY w 36 (zI VC) (x1) (zI VG) (zS bO 2 kO) (zS bX 2 kX) (zS bI 2 kI) _
    have M0:bY (w0.cell? (zA (w.heap.size+1) 0)=some (zI c)/\w0.cell? (zA (w.heap.size+1) 1)=some (zI d)):=by rw [e0];exact qV w #[zI VC,x1,zI VG,zS bO 2 kO,zS bX 2 kX,zS bI 2 kI] 36 c d
    rw [<-e0]
    clear e0
    have ab:g<w0.heap.size:=by omega
    refine (P8.lH c d xn g 0 N cc Z hN w0 ab (fun k j a1 a2=>(B0.o.cell (p:=⟨g,_,none⟩) lg).trans (HR.o k j a1 a2))).mono ?_
    rintro e w1 ⟨rfl,aa⟩
    have B1:=fQ (ah B0.o aa)
    have A1:=fQ (A0.o.q (by omega) aa)
    have M1:=fQ (bH (by omega) aa M0.o)
    have z1:w.heap.size+2<=w1.heap.size:=Hq z0 aa.size
    clear aa A0 M0 B0 ab
    rw [h1]
    obtain ⟨a0,a1,a2,a3,a4,a5⟩:=A1.o.a6
    have m0:=M1.o.1
    have m1:=M1.o.2
    have lA:w.heap.size<w1.heap.size:=by omega
    have lM:(w.heap.size+1)<w1.heap.size:=by omega
    go_wp2_with fail
    refine (dn _ _ _ _).mono ?_
    rintro e w2 ⟨rfl,e2⟩
    rw [e2,h2]
    clear e2 w2
    go_wp2_with fail
    refine (jv _ _ _ _ _).mono ?_
    rintro e w3 ⟨rfl,ac⟩
    have B3:=fQ (ah B1.o ac)
    have A3:=fQ (A1.o.q (by omega) ac)
    have M3:=fQ (bH (by omega) ac M1.o)
    have z3:w.heap.size+2<=w3.heap.size:=Hq z1 ac.size
    clear ac A1 M1 B1
    clear a0 a1 a2 a3 a4 a5 m0 m1 lA lM
    rw [h3]
    go_wp2
    go_ret
    exact ⟨by rw [E.o];simp [hx],B3.o⟩
 rw [if_neg h3] at E;have ao:(bf c d VC si == -1)=false:=by simpa using h3
 rcases hs with ⟨rfl,rfl⟩ | ⟨rfl,rfl⟩;all_goals
  go_enter Tryz.func107,Tryz.ntmps107
  go_wp2
  go_region
  go_wp2_with fail
  obtain ⟨w0,e0⟩:∃ w0,w0=((w.alloc (.cells #[zI VC,x1,zI VG,zS bO 2 kO,zS bX 2 kX,zS bI 2 kI] 36)).alloc (.cells #[zI c,zI d] 44)).drew:=⟨_,rfl⟩
  have z0:w.heap.size+2<=w0.heap.size:=by rw [e0];simp [World.drew]
  have B0:bY (Below w.heap.size w w0):=by rw [e0];exact (((Hr _ _).alloc (by simp) _).alloc (by simp) _).drew
  have A0:bY (Six w0 w.heap.size [zI VC,x1,zI VG,zS bO 2 kO,zS bX 2 kX,zS bI 2 kI]):=by rw [e0];exact qY w 36 (zI VC) (x1) (zI VG) (zS bO 2 kO) (zS bX 2 kX) (zS bI 2 kI) _
  have M0:bY (w0.cell? (zA (w.heap.size+1) 0)=some (zI c)/\w0.cell? (zA (w.heap.size+1) 1)=some (zI d)):=by rw [e0];exact qV w #[zI VC,x1,zI VG,zS bO 2 kO,zS bX 2 kX,zS bI 2 kI] 36 c d
  rw [<-e0]
  clear e0
  have ab:g<w0.heap.size:=by omega
  refine (P8.lH c d xn g 0 N cc Z hN w0 ab (fun k j a1 a2=>(B0.o.cell (p:=⟨g,_,none⟩) lg).trans (HR.o k j a1 a2))).mono ?_
  rintro e w1 ⟨rfl,aa⟩
  have B1:=fQ (ah B0.o aa)
  have A1:=fQ (A0.o.q (by omega) aa)
  have M1:=fQ (bH (by omega) aa M0.o)
  have z1:w.heap.size+2<=w1.heap.size:=Hq z0 aa.size
  clear aa A0 M0 B0 ab
  rw [h1]
  obtain ⟨a0,a1,a2,a3,a4,a5⟩:=A1.o.a6
  have m0:=M1.o.1
  have m1:=M1.o.2
  have lA:w.heap.size<w1.heap.size:=by omega
  have lM:(w.heap.size+1)<w1.heap.size:=by omega
  go_wp2_with fail
  refine (dn _ _ _ _).mono ?_
  rintro e w2 ⟨rfl,e2⟩
  rw [e2,h2]
  clear e2 w2
  go_wp2_with fail
  refine (jv _ _ _ _ _).mono ?_
  rintro e w3 ⟨rfl,ac⟩
  have B3:=fQ (ah B1.o ac)
  have A3:=fQ (A1.o.q (by omega) ac)
  have M3:=fQ (bH (by omega) ac M1.o)
  have z3:w.heap.size+2<=w3.heap.size:=Hq z1 ac.size
  clear ac A1 M1 B1
  clear a0 a1 a2 a3 a4 a5 m0 m1 lA lM
  clear hX hI hO
  generalize hT:bf c d VC _=T at *
  go_wp2
  go_loopw [53] (fun i wr=>∃ k:Nat,k<=N/\i=zI k/\iM (fun j=>!(Z j 1 == 1 && aQ c d (Z j 3) != T)) k=true/\Below w3.heap.size w3 wr) (fun i _=>N - (intOf i).toNat)
  case atStart=>exact ⟨0,Nat.zero_le _,rfl,rfl,Hr _ _⟩
  case round =>
   obtain ⟨k,hk,rfl,af,BR⟩:=hrel;have ae:bY (iM (fun j=>!(Z j 1 == 1 && aQ c d (Z j 3) != T)) k=true):=af;clear af;by_cases ad:k<N
   ·have am:(k:Int)<N:=by omega
    have an:g<wr.heap.size:=by have:=BR.size;omega
    have al:=BR.size;have ap:w.heap.size+1<wr.heap.size:=by omega
    have c0:wr.cell? (zA g (k * 8))=some (zI (Z k 0)):=by have:=(BR.cell (p:=(zA g (0+k * 8+0))) (by show g<_;omega)).trans ((B3.o.cell (p:=(zA g (0+k * 8+0))) lg).trans (HR.o k 0 ad (by omega)));simpa using this
    have c1:wr.cell? (zA g (k * 8+1))=some (zI (Z k 1)):=by have:=(BR.cell (p:=(zA g (0+k * 8+1))) (by show g<_;omega)).trans ((B3.o.cell (p:=(zA g (0+k * 8+1))) lg).trans (HR.o k 1 ad (by omega)));simpa using this
    have c2:wr.cell? (zA g (k * 8+2))=some (zI (Z k 2)):=by have:=(BR.cell (p:=(zA g (0+k * 8+2))) (by show g<_;omega)).trans ((B3.o.cell (p:=(zA g (0+k * 8+2))) lg).trans (HR.o k 2 ad (by omega)));simpa using this
    have c3:wr.cell? (zA g (k * 8+3))=some (zI (Z k 3)):=by have:=(BR.cell (p:=(zA g (0+k * 8+3))) (by show g<_;omega)).trans ((B3.o.cell (p:=(zA g (0+k * 8+3))) lg).trans (HR.o k 3 ad (by omega)));simpa using this
    have c4:wr.cell? (zA g (k * 8+4))=some (zI (Z k 4)):=by have:=(BR.cell (p:=(zA g (0+k * 8+4))) (by show g<_;omega)).trans ((B3.o.cell (p:=(zA g (0+k * 8+4))) lg).trans (HR.o k 4 ad (by omega)));simpa using this
    have c5:wr.cell? (zA g (k * 8+5))=some (zI (Z k 5)):=by have:=(BR.cell (p:=(zA g (0+k * 8+5))) (by show g<_;omega)).trans ((B3.o.cell (p:=(zA g (0+k * 8+5))) lg).trans (HR.o k 5 ad (by omega)));simpa using this
    have c6:wr.cell? (zA g (k * 8+6))=some (zI (Z k 6)):=by have:=(BR.cell (p:=(zA g (0+k * 8+6))) (by show g<_;omega)).trans ((B3.o.cell (p:=(zA g (0+k * 8+6))) lg).trans (HR.o k 6 ad (by omega)));simpa using this
    have c7:wr.cell? (zA g (k * 8+7))=some (zI (Z k 7)):=by have:=(BR.cell (p:=(zA g (0+k * 8+7))) (by show g<_;omega)).trans ((B3.o.cell (p:=(zA g (0+k * 8+7))) lg).trans (HR.o k 7 ad (by omega)));simpa using this
    have m0:wr.cell? (zA (w.heap.size+1) 0)=some (zI c):=(BR.cell (p:=(zA (w.heap.size+1) 0)) (by show w.heap.size+1<_;omega)).trans M3.o.1;have m1:wr.cell? (zA (w.heap.size+1) 1)=some (zI d):=(BR.cell (p:=(zA (w.heap.size+1) 1)) (by show w.heap.size+1<_;omega)).trans M3.o.2;have ag:bY (Below w3.heap.size w3 (wr.alloc (.cells (zE (Z k)).toArray 69))):=BR.alloc al _;cases ai:(Z k 1 == 1)
    ·go_wp2;go_roundw
     case rel=>exact ⟨k+1,by omega,by go_num,ja ae.o (by simp [ai]),ag.o⟩
     case measure=>simp [intOf];omega
    cases hp:(aQ c d (Z k 3) != T)
    ·go_wp2_with fail;refine (gG _ _ _ _).mono ?_;rintro e w4 ⟨rfl,ak⟩;go_wp2;go_roundw
     case rel=>exact ⟨k+1,by omega,by go_num,ja ae.o (by simp [ai,hp]),ah ag.o ak⟩
     case measure=>simp [intOf];omega
    go_wp2_with fail;refine (gG _ _ _ _).mono ?_;rintro e w4 ⟨rfl,ak⟩;go_wp2;go_ret;exact ⟨by rw [E.o,kK ad (by simp [ai,hp])];rfl,ah B3.o (ah ag.o ak)⟩
   have:k=N:=by omega
   subst this;go_wp2;go_ret;exact ⟨by rw [E.o,ae.o];rfl,ah B3.o BR⟩
