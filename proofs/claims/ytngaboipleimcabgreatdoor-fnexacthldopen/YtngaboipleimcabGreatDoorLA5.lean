/- What is carried: lemmas on lists, cells and draws; conditions: those typed. -/
import Derived.Test.YtngaboipleimcabGreatDoorMo11
set_option linter.unusedVariables false
set_option maxHeartbeats 4000000
namespace Go.Proofs.YtngaboipleimcabGreatDoor
open Go.RowKit Go.Deep Go.Maps
theorem tu (z:Int) (b o n cap m:Nat) (Z:Nat->Nat->Int) (hn:n<=1048576) (w:World) (hb:b<w.heap.size) (hF:First Z n z m)
 (hr:∀ k j,k<n->j<5->w.cell? (zA b (o+k * 5+j))=some (zI (Z k j))) :
 Hz 118 #[.slice (some (zA b o)) n cap,zI z] w fun e w'=>e=.returned (.tuple #[.agg (zF (Z m)).toArray,.bool true])/\Below w.heap.size w w':=by
 have HR:bY (∀ k j,k<n->j<5->w.cell? (zA b (o+k * 5+j))=some (zI (Z k j))):=hr;obtain ⟨hm,hmz,hlt⟩:=hF;have HM:bY (Z m 0=z/\∀ j,j<m->¬ Z j 0=z):=⟨hmz,hlt⟩;clear hr hmz hlt;go_enter Tryz.func118,Tryz.ntmps118;go_wp2;go_loopw [6] (fun i wr=>∃ k:Nat,k<=m/\i=zI k/\wr=w.alloc (.cells z5.toArray 67)) (fun i _=>n - (intOf i).toNat)
 case atStart=>exact ⟨0,Nat.zero_le _,rfl,rfl⟩
 case round =>
  obtain ⟨k,hk,rfl,rfl⟩:=hrel;have hkn:k<n:=by omega
  have c0:=cq5 (fun j hj=>HR.o k j hkn (by omega));by_cases hkm:k=m
  ·have ez:(Z k 0 == z)=true:=by rw [hkm];simp [HM.o.1]
   have HK:bY (k=m):=hkm;clear hkm;go_wp2;exact Hw (v:=.tuple #[.agg (zF (Z k)).toArray,.bool true]) (by simp [results,Tryz.results118,go_sem]) rfl ⟨by rw [HK.o],(Hr _ _).alloc (by simp) _⟩
  have ez:(Z k 0 == z)=false:=by simpa using HM.o.2 k (by omega)
  go_wp2;go_roundw
  case rel=>exact ⟨k+1,by omega,by go_num,by trivial⟩
  case measure=>simp [intOf];omega
theorem vw (z:Int) (b o n cap:Nat) (Z:Nat->Nat->Int) (hn:n<=1048576) (w:World) (hb:b<w.heap.size) (hF:pK Z n z)
 (hr:∀ k j,k<n->j<5->w.cell? (zA b (o+k * 5+j))=some (zI (Z k j))) :
 Hz 118 #[.slice (some (zA b o)) n cap,zI z] w fun e w'=>e=.returned (.tuple #[.agg z5.toArray,.bool false])/\Below w.heap.size w w':=by
 have HR:bY (∀ k j,k<n->j<5->w.cell? (zA b (o+k * 5+j))=some (zI (Z k j))):=hr;have HM:bY (∀ j,j<n->¬ Z j 0=z):=hF;clear hr hF;go_enter Tryz.func118,Tryz.ntmps118;go_wp2;go_loopw [6] (fun i wr=>∃ k:Nat,k<=n/\i=zI k/\wr=w.alloc (.cells z5.toArray 67)) (fun i _=>n - (intOf i).toNat)
 case atStart=>exact ⟨0,Nat.zero_le _,rfl,rfl⟩
 case round =>
  obtain ⟨k,hk,rfl,rfl⟩:=hrel;by_cases hkn:k<n
  ·have hkn':(k:Int)<(n:Int):=by omega
   have c0:=cq5 (fun j hj=>HR.o k j hkn (by omega));have ez:(Z k 0 == z)=false:=by simpa using HM.o k hkn
   go_wp2;go_roundw
   case rel=>exact ⟨k+1,by omega,by go_num,by trivial⟩
   case measure=>simp [intOf];omega
  go_wp2;exact Hw (v:=.tuple #[.agg z5.toArray,.bool false]) (by simp [results,Tryz.results118,go_sem]) rfl ⟨rfl,(Hr _ _).alloc (by simp) _⟩
def FY (W:Nat->Nat->Int) (n:Nat) (z:Int) (f:Nat->Int) (t:Bool):Prop:=(pK W n z/\t=false/\∀ j,f j=0)∨∃ m,First W n z m/\t=true/\∀ j,f j=W m j
theorem CU (W:Nat->Nat->Int) (n:Nat) (z:Int):∃ f t,FY W n z f t:=by
 rcases rP W z n with h | ⟨m,h⟩
 ·exact ⟨fun _=>0,false,.inl ⟨h,rfl,fun _=>rfl⟩⟩
 exact ⟨W m,true,.inr ⟨m,h,rfl,fun _=>rfl⟩⟩
theorem find_spec (z:Int) (b o n cap:Nat) (Z:Nat->Nat->Int) (f:Nat->Int) (t:Bool) (hn:n<=1048576) (w:World) (hb:b<w.heap.size) (hF:FY Z n z f t)
 (hr:∀ k j,k<n->j<5->w.cell? (zA b (o+k * 5+j))=some (zI (Z k j))) :
 Hz 118 #[.slice (some (zA b o)) n cap,zI z] w fun e w'=>e=.returned (.tuple #[.agg (zF f).toArray,.bool t])/\Below w.heap.size w w':=by
 rcases hF with ⟨h1,rfl,h3⟩ | ⟨m,h1,rfl,h3⟩
 ·obtain rfl:f=fun _=>0:=funext h3;exact vw z b o n cap Z hn w hb h1 hr
 obtain rfl:f=Z m:=funext h3;exact tu z b o n cap m Z hn w hb h1 hr
theorem Dn (z:Int) (a:Option Addr) (cap:Nat) (w:World):Hz 118 #[.slice a 0 cap,zI z] w fun e w'=>e=.returned (.tuple #[.agg z5.toArray,.bool false])/\Below w.heap.size w w':=by
 go_enter Tryz.func118,Tryz.ntmps118;go_wp2;go_loopw [6] (fun i wr=>i=zI 0/\wr=w.alloc (.cells z5.toArray 67)) (fun _ _=>0)
 case atStart=>exact ⟨rfl,rfl⟩
 case round =>
  obtain ⟨rfl,rfl⟩:=hrel;go_wp2;exact Hw (v:=.tuple #[.agg z5.toArray,.bool false]) (by simp [results,Tryz.results118,go_sem]) rfl ⟨rfl,(Hr _ _).alloc (by simp) _⟩
theorem BO (z:Int) (a:Option Addr) (n cap:Nat) (Z:Nat->Nat->Int) (f:Nat->Int) (t:Bool) (hn:n<=1048576) (w:World) (hF:FY Z n z f t) (h:lJ w a n Z) :
 Hz 118 #[.slice a n cap,zI z] w fun e w'=>e=.returned (.tuple #[.agg (zF f).toArray,.bool t])/\Below w.heap.size w w':=by
 rcases h with rfl | ⟨b,o,rfl,hb,hr⟩
 ·rcases hF with ⟨_,rfl,h3⟩ | ⟨m,h1,_⟩
  ·obtain rfl:f=fun _=>0:=funext h3;exact Dn z a cap w
  have:=h1.1;omega
 exact find_spec z b o n cap Z f t hn w hb hF hr
theorem yj (W:World) (o0 o1 o2 o3 o4:Int):∀ i,i<5->(W.alloc (.cells #[zI o0,zI o1,zI o2,zI o3,zI o4] 66)).cell? (zA W.heap.size i)=some (zI ([o0,o1,o2,o3,o4].getD i 0)):=by
 intro i hi;have:i=0∨i=1∨i=2∨i=3∨i=4:=by omega
 rcases this with rfl | rfl | rfl | rfl | rfl <;> simp
theorem Ai (w:World) (o1':Obj) (o0 o1 o2 o3 o4:Int):∀ i,i<5->((w.alloc o1').alloc (.cells #[zI o0,zI o1,zI o2,zI o3,zI o4] 66)).cell? (zA (w.heap.size+1) i)=some (zI ([o0,o1,o2,o3,o4].getD i 0)):=by
 have h:=yj (w.alloc o1') o0 o1 o2 o3 o4;rw [show (w.alloc o1').heap.size=w.heap.size+1 by simp] at h;exact h
theorem DL (o0 o1 o2 o3 o4:Int) (V:CV) (aW9:Option Addr) (cW bO cO bX cX bI cI:Nat) (hs0:V.short 1048576) (w:World) (gW0:lJ w aW9 V.nW V.W) (f:Nat->Int) (t:Bool) (hF0:FY V.W V.nW o0 f t) :
 Hz 98 #[.agg (zG V aW9 cW bO cO bX cX bI cI).toArray,.agg #[zI o0,zI o1,zI o2,zI o3,zI o4]] w fun e w'=>e=.returned (.bool (t && decide (f 3<o1)))/\Below w.heap.size w w':=by
 have gW:bY (lJ w aW9 V.nW V.W):=gW0;have hs:bY (V.short 1048576):=hs0;have hF:bY (FY V.W V.nW o0 f t):=hF0;clear gW0 hs0 hF0;go_enter Tryz.func98,Tryz.ntmps98;go_wp2_with fail;obtain ⟨w0,e0⟩:∃ w0,w0=((w.alloc (.cells (zG V aW9 cW bO cO bX cX bI cI).toArray 36)).alloc (.cells #[zI o0,zI o1,zI o2,zI o3,zI o4] 66)):=⟨_,rfl⟩;have z0:w.heap.size+2<=w0.heap.size:=by rw [e0];simp
 have B0:bY (Below w.heap.size w w0):=by rw [e0];exact ((Hr _ _).alloc (by simp) _).alloc (by simp) _
 have O0:bY (∀ i,i<5->w0.cell? (zA (w.heap.size+1) i)=some (zI ([o0,o1,o2,o3,o4].getD i 0))):=by rw [e0];exact Ai w _ o0 o1 o2 o3 o4
 rw [<-e0];clear e0;refine (BO o0 aW9 V.nW cW V.W f t hs.o.1 _ hF.o (iV gW.o B0.o)).mono ?_;rintro e w1 ⟨rfl,hb1⟩;have B1:=fQ (ah B0.o hb1);have u1:w1.cell? (zA (w.heap.size+1) 1)=some (zI o1):=(hb1.cell (p:=(zA (w.heap.size+1) 1)) (by show w.heap.size+1<_;omega)).trans (O0.o 1 (by decide));have lO:w.heap.size+1<w1.heap.size:=by have:=hb1.size;omega
 clear hb1 O0 B0;cases t;all_goals
  go_wp2
  go_ret
  exact ⟨by simp,B1.o.alloc (by omega) _⟩
