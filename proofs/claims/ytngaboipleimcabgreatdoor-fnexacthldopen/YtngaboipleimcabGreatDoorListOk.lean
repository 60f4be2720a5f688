/- The walks of WlkListOk, the program's and the model's: both hand back the plain 'all are ok, and their numbers rise'; conditions: the list lies in memory as a row of structs of five integers. -/
import Derived.Test.YtngaboipleimcabGreatDoorCEq
set_option linter.unusedVariables false
set_option maxHeartbeats 8000000
set_option maxRecDepth 20000
namespace Go.Proofs.YtngaboipleimcabGreatDoor
open Go.RowKit Go.Deep
def Mk (m s k j:Nat):Int:=((s+k * m+j:Nat):Int)
def M1 (s k:Nat):Int:=((s+k:Nat):Int)
theorem rU (w:World) (B k:Nat) (Z:Nat->Nat->Int):w.grownBy (sV w B k Z) (some B)/\(sV w B k Z).heap.size=w.heap.size:=by
 unfold sV;refine ⟨((((P8.aC _ _ _ _).1.trans (P8.aC _ _ _ _).1).trans (P8.aC _ _ _ _).1).trans (P8.aC _ _ _ _).1).trans (P8.aC _ _ _ _).1,?_⟩;rw [(P8.aC _ _ _ _).2,(P8.aC _ _ _ _).2,(P8.aC _ _ _ _).2,(P8.aC _ _ _ _).2,(P8.aC _ _ _ _).2]
theorem mw5 {s k:Nat} (h:s+k * 5<=4000000000):IntKind.wrap .i64 (Mk 5 s k 0+1)=Mk 5 s k 1/\IntKind.wrap .i64 (Mk 5 s k 1+1)=Mk 5 s k 2/\IntKind.wrap .i64 (Mk 5 s k 2+1)=Mk 5 s k 3/\IntKind.wrap .i64 (Mk 5 s k 3+1)=Mk 5 s k 4/\IntKind.wrap .i64 (Mk 5 s k 4+1)=Mk 5 s (k+1) 0:=by
 unfold Mk;and_intros <;> (simp [IntKind.wrap,IntKind.bits,IntKind.signed];omega)
theorem mw8 {s k:Nat} (h:s+k * 8<=4000000000):IntKind.wrap .i64 (Mk 8 s k 0+1)=Mk 8 s k 1/\IntKind.wrap .i64 (Mk 8 s k 1+1)=Mk 8 s k 2/\IntKind.wrap .i64 (Mk 8 s k 2+1)=Mk 8 s k 3/\IntKind.wrap .i64 (Mk 8 s k 3+1)=Mk 8 s k 4/\IntKind.wrap .i64 (Mk 8 s k 4+1)=Mk 8 s k 5/\IntKind.wrap .i64 (Mk 8 s k 5+1)=Mk 8 s k 6/\IntKind.wrap .i64 (Mk 8 s k 6+1)=Mk 8 s k 7/\IntKind.wrap .i64 (Mk 8 s k 7+1)=Mk 8 s (k+1) 0:=by
 unfold Mk;and_intros <;> (simp [IntKind.wrap,IntKind.bits,IntKind.signed];omega)
theorem mw16 {s k:Nat} (h:s+k * 16<=4000000000):IntKind.wrap .i64 (Mk 16 s k 0+1)=Mk 16 s k 1/\IntKind.wrap .i64 (Mk 16 s k 1+1)=Mk 16 s k 2/\IntKind.wrap .i64 (Mk 16 s k 2+1)=Mk 16 s k 3/\IntKind.wrap .i64 (Mk 16 s k 3+1)=Mk 16 s k 4/\IntKind.wrap .i64 (Mk 16 s k 4+1)=Mk 16 s k 5/\IntKind.wrap .i64 (Mk 16 s k 5+1)=Mk 16 s k 6/\IntKind.wrap .i64 (Mk 16 s k 6+1)=Mk 16 s k 7/\IntKind.wrap .i64 (Mk 16 s k 7+1)=Mk 16 s k 8/\IntKind.wrap .i64 (Mk 16 s k 8+1)=Mk 16 s k 9/\IntKind.wrap .i64 (Mk 16 s k 9+1)=Mk 16 s k 10/\IntKind.wrap .i64 (Mk 16 s k 10+1)=Mk 16 s k 11/\IntKind.wrap .i64 (Mk 16 s k 11+1)=Mk 16 s k 12/\IntKind.wrap .i64 (Mk 16 s k 12+1)=Mk 16 s k 13/\IntKind.wrap .i64 (Mk 16 s k 13+1)=Mk 16 s k 14/\IntKind.wrap .i64 (Mk 16 s k 14+1)=Mk 16 s k 15/\IntKind.wrap .i64 (Mk 16 s k 15+1)=Mk 16 s (k+1) 0:=by
 unfold Mk;and_intros <;> (simp [IntKind.wrap,IntKind.bits,IntKind.signed];omega)
theorem Gh (s B n cap:Nat) (Z:Nat->Nat->Int) (hn:n<=2000000) (hs:s<=2000000000) (w:World) (hB:B<w.heap.size) (h:Own5 w B n Z n) :
 Hz 64 #[zS B n cap,zI (s:Int)] w fun e w'=>e=.returned (zI ((s+n * 5:Nat):Int))/\Own5 w' B n (Mk 5 s) n/\w.grownBy w' (some B)/\w'.heap.size=w.heap.size:=by
 have H0:bY (Own5 w B n (Mk 5 s) 0):=⟨h.1,fun _ _ h=>absurd h (by omega)⟩;clear h;go_enter Tryz.func64,Tryz.ntmps64;go_wp2;go_loopw [1,5] (fun c i wr=>∃ k:Nat,k<=n/\zI k=i/\zI (Mk 5 s k 0)=c/\Own5 wr B n (Mk 5 s) k/\w.grownBy wr (some B)/\wr.heap.size=w.heap.size) (fun _ i _=>n - (intOf i).toNat)
 case atStart=>exact ⟨0,Nat.zero_le _,rfl,by simp [Mk],H0.o,World.grownBy.refl _ _,rfl⟩
 case round =>
  obtain ⟨k,hk,rfl,rfl,hown,hg,hsz⟩:=hrel;by_cases hkn:k<n
  ·have hkn':(k:Int)<(n:Int):=by omega
   obtain ⟨⟨v0,d0⟩,f0⟩:=aK hown hkn 0 (by omega);obtain ⟨⟨v1,d1⟩,f1⟩:=aK hown hkn 1 (by omega);obtain ⟨⟨v2,d2⟩,f2⟩:=aK hown hkn 2 (by omega);obtain ⟨⟨v3,d3⟩,f3⟩:=aK hown hkn 3 (by omega);obtain ⟨⟨v4,d4⟩,f4⟩:=aK hown hkn 4 (by omega);simp only [Nat.add_zero] at d0 f0;have HO:bY (Own5 wr B n (Mk 5 s) k):=hown;have HP:bY (Own5 (sV wr B k (Mk 5 s)) B n (Mk 5 s) (k+1)):=jZ hown hkn;have HG:bY (w.grownBy (sV wr B k (Mk 5 s)) (some B)/\(sV wr B k (Mk 5 s)).heap.size=w.heap.size):=⟨hg.trans (rU wr B k (Mk 5 s)).1,(rU wr B k (Mk 5 s)).2.trans hsz⟩;have m1:=mw5 (s:=s) (k:=k) (by omega);clear hown hg hsz;go_wp2;go_roundw
   case rel=>exact ⟨k+1,by omega,by go_num,rfl,HP.o,HG.o.1,HG.o.2⟩
   case measure=>simp [intOf];omega
  have hkn':k=n:=by omega
  subst hkn';have HO:bY (Own5 wr B k (Mk 5 s) k):=hown;clear hown;go_wp2;go_ret;exact ⟨rfl,HO.o,hg,hsz⟩
theorem GL (s B n cap:Nat) (hn:n<=2000000) (hs:s<=2000000000) (w:World) (hB:B<w.heap.size) (h:Own5 w B n (Mk 5 s) n) :
 Hz 67 #[zS B n cap,zI (s:Int)] w fun e w'=>e=.returned (zI ((s+n * 5:Nat):Int))/\Below w.heap.size w w':=by
 have H0:bY (Own5 w B n (Mk 5 s) n):=h;clear h;go_enter Tryz.func67,Tryz.ntmps67;go_wp2;go_loopw [1,5] (fun c i wr=>∃ k:Nat,k<=n/\zI k=i/\zI (Mk 5 s k 0)=c/\w=wr) (fun _ i _=>n - (intOf i).toNat)
 case atStart=>exact ⟨0,Nat.zero_le _,rfl,by simp [Mk],rfl⟩
 case round =>
  obtain ⟨k,hk,rfl,rfl,rfl⟩:=hrel;by_cases hkn:k<n
  ·have hkn':(k:Int)<(n:Int):=by omega
   have c0:=cq5 (fun j hj=>H0.o.2 k j hkn (by omega));have m1:=mw5 (s:=s) (k:=k) (by omega);go_wp2;go_roundw
   case rel=>exact ⟨k+1,by omega,by go_num,rfl,by trivial⟩
   case measure=>simp [intOf];omega
  have hkn':k=n:=by omega
  subst hkn';go_wp2;go_ret;exact ⟨rfl,Hr _ _⟩
theorem Gn (s B n cap:Nat) (Z:Nat->Nat->Int) (hn:n<=2000000) (hs:s<=2000000000) (w:World) (hB:B<w.heap.size) (h:P8.iQ w B n Z n) :
 Hz 95 #[zS B n cap,zI (s:Int)] w fun e w'=>e=.returned (zI ((s+n * 8:Nat):Int))/\P8.iQ w' B n (Mk 8 s) n/\w.grownBy w' (some B)/\w'.heap.size=w.heap.size:=by
 have H0:bY (P8.iQ w B n (Mk 8 s) 0):=⟨h.1,fun _ _ h=>absurd h (by omega)⟩;clear h;go_enter Tryz.func95,Tryz.ntmps95;go_wp2;go_loopw [1,5] (fun c i wr=>∃ k:Nat,k<=n/\zI k=i/\zI (Mk 8 s k 0)=c/\P8.iQ wr B n (Mk 8 s) k/\w.grownBy wr (some B)/\wr.heap.size=w.heap.size) (fun _ i _=>n - (intOf i).toNat)
 case atStart=>exact ⟨0,Nat.zero_le _,rfl,by simp [Mk],H0.o,World.grownBy.refl _ _,rfl⟩
 case round =>
  obtain ⟨k,hk,rfl,rfl,hown,hg,hsz⟩:=hrel;by_cases hkn:k<n
  ·have hkn':(k:Int)<(n:Int):=by omega
   obtain ⟨⟨v0,d0⟩,f0⟩:=P8.aK hown hkn 0 (by omega);obtain ⟨⟨v1,d1⟩,f1⟩:=P8.aK hown hkn 1 (by omega);obtain ⟨⟨v2,d2⟩,f2⟩:=P8.aK hown hkn 2 (by omega);obtain ⟨⟨v3,d3⟩,f3⟩:=P8.aK hown hkn 3 (by omega);obtain ⟨⟨v4,d4⟩,f4⟩:=P8.aK hown hkn 4 (by omega);obtain ⟨⟨v5,d5⟩,f5⟩:=P8.aK hown hkn 5 (by omega);obtain ⟨⟨v6,d6⟩,f6⟩:=P8.aK hown hkn 6 (by omega);obtain ⟨⟨v7,d7⟩,f7⟩:=P8.aK hown hkn 7 (by omega);simp only [Nat.add_zero] at d0 f0;have HO:bY (P8.iQ wr B n (Mk 8 s) k):=hown;have HP:bY (P8.iQ (P8.tq wr B k (Mk 8 s)) B n (Mk 8 s) (k+1)):=P8.jZ hown hkn;have HG:bY (w.grownBy (P8.tq wr B k (Mk 8 s)) (some B)/\(P8.tq wr B k (Mk 8 s)).heap.size=w.heap.size):=⟨hg.trans (P8.rV wr B k (Mk 8 s)).1,(P8.rV wr B k (Mk 8 s)).2.trans hsz⟩;have m1:=mw8 (s:=s) (k:=k) (by omega);clear hown hg hsz;go_wp2;go_roundw
   case rel=>exact ⟨k+1,by omega,by go_num,rfl,HP.o,HG.o.1,HG.o.2⟩
   case measure=>simp [intOf];omega
  have hkn':k=n:=by omega
  subst hkn';have HO:bY (P8.iQ wr B k (Mk 8 s) k):=hown;clear hown;go_wp2;go_ret;exact ⟨rfl,HO.o,hg,hsz⟩
theorem Gi (s B n cap:Nat) (hn:n<=2000000) (hs:s<=2000000000) (w:World) (hB:B<w.heap.size) (h:P8.iQ w B n (Mk 8 s) n) :
 Hz 96 #[zS B n cap,zI (s:Int)] w fun e w'=>e=.returned (zI ((s+n * 8:Nat):Int))/\Below w.heap.size w w':=by
 have H0:bY (P8.iQ w B n (Mk 8 s) n):=h;clear h;go_enter Tryz.func96,Tryz.ntmps96;go_wp2;go_loopw [1,5] (fun c i wr=>∃ k:Nat,k<=n/\zI k=i/\zI (Mk 8 s k 0)=c/\w=wr) (fun _ i _=>n - (intOf i).toNat)
 case atStart=>exact ⟨0,Nat.zero_le _,rfl,by simp [Mk],rfl⟩
 case round =>
  obtain ⟨k,hk,rfl,rfl,rfl⟩:=hrel;by_cases hkn:k<n
  ·have hkn':(k:Int)<(n:Int):=by omega
   have c0:=cq8 (fun j hj=>H0.o.2 k j hkn (by omega));have m1:=mw8 (s:=s) (k:=k) (by omega);go_wp2;go_roundw
   case rel=>exact ⟨k+1,by omega,by go_num,rfl,by trivial⟩
   case measure=>simp [intOf];omega
  have hkn':k=n:=by omega
  subst hkn';go_wp2;go_ret;exact ⟨rfl,Hr _ _⟩
theorem Gq (s B n cap:Nat) (X:Nat->Int) (hn:n<=2000000) (hs:s<=2000000000) (w:World) (hB:B<w.heap.size) (h:fZ w B n X n) :
 Hz 66 #[zS B n cap,zI (s:Int)] w fun e w'=>e=.returned (zI ((s+n:Nat):Int))/\fZ w' B n (M1 s) n/\w.grownBy w' (some B)/\w'.heap.size=w.heap.size:=by
 have H0:bY (fZ w B n (M1 s) 0):=⟨h.1,fun _ h=>absurd h (by omega)⟩;clear h;go_enter Tryz.func66,Tryz.ntmps66;go_wp2;go_loopw [1,5] (fun c i wr=>∃ k:Nat,k<=n/\zI k=i/\zI (M1 s k)=c/\fZ wr B n (M1 s) k/\w.grownBy wr (some B)/\wr.heap.size=w.heap.size) (fun _ i _=>n - (intOf i).toNat)
 case atStart=>exact ⟨0,Nat.zero_le _,rfl,by simp [M1],H0.o,World.grownBy.refl _ _,rfl⟩
 case round =>
  obtain ⟨k,hk,rfl,rfl,hown,hg,hsz⟩:=hrel;by_cases hkn:k<n
  ·have hkn':(k:Int)<(n:Int):=by omega
   obtain ⟨d0,f0⟩:=hown.1 k hkn;obtain ⟨v0,d0⟩:=Option.isSome_iff_exists.1 d0;have HP:bY (fZ (wr.setCell (zA B k) (zI (M1 s k))) B n (M1 s) (k+1)):=uq hown hkn;have HG:bY (w.grownBy (wr.setCell (zA B k) (zI (M1 s k))) (some B)/\(wr.setCell (zA B k) (zI (M1 s k))).heap.size=w.heap.size):=⟨hg.trans (P8.aC wr B k _).1,(P8.aC wr B k _).2.trans hsz⟩;have m1:IntKind.wrap .i64 (M1 s k+1)=M1 s (k+1):=by unfold M1;simp [IntKind.wrap,IntKind.bits,IntKind.signed];omega
   clear hown hg hsz;go_wp2;go_roundw
   case rel=>exact ⟨k+1,by omega,by go_num,rfl,HP.o,HG.o.1,HG.o.2⟩
   case measure=>simp [intOf];omega
  have hkn':k=n:=by omega
  subst hkn';have HO:bY (fZ wr B k (M1 s) k):=hown;clear hown;go_wp2;go_ret;exact ⟨rfl,HO.o,hg,hsz⟩
theorem GU (s B n cap:Nat) (hn:n<=2000000) (hs:s<=2000000000) (w:World) (hB:B<w.heap.size) (h:fZ w B n (M1 s) n) :
 Hz 69 #[zS B n cap,zI (s:Int)] w fun e w'=>e=.returned (zI ((s+n:Nat):Int))/\Below w.heap.size w w':=by
 have H0:bY (fZ w B n (M1 s) n):=h;clear h;go_enter Tryz.func69,Tryz.ntmps69;go_wp2;go_loopw [1,5] (fun c i wr=>∃ k:Nat,k<=n/\zI k=i/\zI (M1 s k)=c/\w=wr) (fun _ i _=>n - (intOf i).toNat)
 case atStart=>exact ⟨0,Nat.zero_le _,rfl,by simp [M1],rfl⟩
 case round =>
  obtain ⟨k,hk,rfl,rfl,rfl⟩:=hrel;by_cases hkn:k<n
  ·have hkn':(k:Int)<(n:Int):=by omega
   have c0:w.cell? (zA B k)=some (zI (M1 s k)):=H0.o.2 k hkn;have m1:IntKind.wrap .i64 (M1 s k+1)=M1 s (k+1):=by unfold M1;simp [IntKind.wrap,IntKind.bits,IntKind.signed];omega
   go_wp2;go_roundw
   case rel=>exact ⟨k+1,by omega,by go_num,rfl,by trivial⟩
   case measure=>simp [intOf];omega
  have hkn':k=n:=by omega
  subst hkn';go_wp2;go_ret;exact ⟨rfl,Hr _ _⟩
theorem EQ (s:Nat) (a:Option Addr) (c:Nat) (w:World) :
 Hz 64 #[.slice a 0 c,zI (s:Int)] w fun e w'=>e=.returned (zI (s:Int))/\w'=w:=by
 go_enter Tryz.func64,Tryz.ntmps64;go_wp2;refine wp_loop_rounds 1 ?_;rw [rounds_succ];go_wp2;go_ret;exact ⟨rfl,rfl⟩
theorem EW (s:Nat) (a:Option Addr) (c:Nat) (w:World) :
 Hz 67 #[.slice a 0 c,zI (s:Int)] w fun e w'=>e=.returned (zI (s:Int))/\Below w.heap.size w w':=by
 go_enter Tryz.func67,Tryz.ntmps67;go_wp2;refine wp_loop_rounds 1 ?_;rw [rounds_succ];go_wp2;go_ret;exact ⟨rfl,Hr _ _⟩
theorem Fp (s:Nat) (a:Option Addr) (c:Nat) (w:World) :
 Hz 95 #[.slice a 0 c,zI (s:Int)] w fun e w'=>e=.returned (zI (s:Int))/\w'=w:=by
 go_enter Tryz.func95,Tryz.ntmps95;go_wp2;refine wp_loop_rounds 1 ?_;rw [rounds_succ];go_wp2;go_ret;exact ⟨rfl,rfl⟩
theorem FT (s:Nat) (a:Option Addr) (c:Nat) (w:World) :
 Hz 96 #[.slice a 0 c,zI (s:Int)] w fun e w'=>e=.returned (zI (s:Int))/\Below w.heap.size w w':=by
 go_enter Tryz.func96,Tryz.ntmps96;go_wp2;refine wp_loop_rounds 1 ?_;rw [rounds_succ];go_wp2;go_ret;exact ⟨rfl,Hr _ _⟩
theorem FP (s:Nat) (a:Option Addr) (c:Nat) (w:World) :
 Hz 66 #[.slice a 0 c,zI (s:Int)] w fun e w'=>e=.returned (zI (s:Int))/\w'=w:=by
 go_enter Tryz.func66,Tryz.ntmps66;go_wp2;refine wp_loop_rounds 1 ?_;rw [rounds_succ];go_wp2;go_ret;exact ⟨rfl,rfl⟩
theorem FM (s:Nat) (a:Option Addr) (c:Nat) (w:World) :
 Hz 69 #[.slice a 0 c,zI (s:Int)] w fun e w'=>e=.returned (zI (s:Int))/\Below w.heap.size w w':=by
 go_enter Tryz.func69,Tryz.ntmps69;go_wp2;refine wp_loop_rounds 1 ?_;rw [rounds_succ];go_wp2;go_ret;exact ⟨rfl,Hr _ _⟩
def Sm (w w':World) (b:Nat):Prop:=∀ o,w'.cell? (zA b o)=w.cell? (zA b o)/\w'.frozen? (zA b o)=w.frozen? (zA b o)
theorem Sm.refl (w:World) (b:Nat):Sm w w b:=fun _=>⟨rfl,rfl⟩
theorem Sm.trans {a b c:World} {g:Nat} (h:Sm a b g) (k:Sm b c g):Sm a c g:=fun o=>⟨(k o).1.trans (h o).1,(k o).2.trans (h o).2⟩
theorem bG {w w':World} {row:Option Nat} {b:Nat} (h:w.grownBy w' row) (hb:b<w.heap.size) (hne:some b≠row):Sm w w' b:=by
 have e:w'.heap[b]? = w.heap[b]?:=h.block b hb hne;exact fun o=>⟨World.cell?_of_block (a:=(zA b o)) e,World.frozen?_of_block (a:=(zA b o)) e⟩
theorem aj {w w':World} {n b:Nat} (h:Below n w w') (hb:b<n):Sm w w' b:=fun o=>⟨h.cell (p:=(zA b o)) hb,h.frozen (p:=(zA b o)) hb⟩
theorem below_grown {w w':World} {g lo:Nat} (h:w.grownBy w' (some g)) (hl:lo<=g) (hs:lo<=w.heap.size):Below lo w w' :=
 ⟨h.os,h.tape,h.output,h.size,fun k hk=>h.block k (by omega) (by intro e;injection e with e;omega)⟩
theorem uY {w w':World} {B n k:Nat} {Z:Nat->Nat->Int} (h:Own5 w B n Z k) (hs:Sm w w' B):Own5 w' B n Z k :=
 ⟨fun i hi=>by rw [(hs i).1,(hs i).2];exact h.1 i hi,fun k' j hk hj=>by rw [(hs _).1];exact h.2 k' j hk hj⟩
theorem nK {w w':World} {B n k:Nat} {Z:Nat->Nat->Int} (h:P8.iQ w B n Z k) (hs:Sm w w' B):P8.iQ w' B n Z k :=
 ⟨fun i hi=>by rw [(hs i).1,(hs i).2];exact h.1 i hi,fun k' j hk hj=>by rw [(hs _).1];exact h.2 k' j hk hj⟩
theorem qZ {w w':World} {B n k:Nat} {X:Nat->Int} (h:fZ w B n X k) (hs:Sm w w' B):fZ w' B n X k :=
 ⟨fun i hi=>by rw [(hs i).1,(hs i).2];exact h.1 i hi,fun k' hk=>by rw [(hs _).1];exact h.2 k' hk⟩
def RW (lo hi:Nat) (w:World) (v:Value) (n:Nat) (Z:Nat->Nat->Int) (g:Nat):Prop :=
 (n=0/\∃ a c,v=.slice a 0 c)∨∃ c,v=zS g n c/\lo<=g/\g<hi/\hi<=w.heap.size/\Own5 w g n Z n
def RP (lo hi:Nat) (w:World) (v:Value) (n:Nat) (Z:Nat->Nat->Int) (g:Nat):Prop :=
 (n=0/\∃ a c,v=.slice a 0 c)∨∃ c,v=zS g n c/\lo<=g/\g<hi/\hi<=w.heap.size/\P8.iQ w g n Z n
def RI (lo hi:Nat) (w:World) (v:Value) (n:Nat) (X:Nat->Int) (g:Nat):Prop :=
 (n=0/\∃ a c,v=.slice a 0 c)∨∃ c,v=zS g n c/\lo<=g/\g<hi/\hi<=w.heap.size/\fZ w g n X n
def RO (lo hi:Nat) (w:World) (v:Value) (n:Nat) (N:Nat->Nat) (O:Nat->Nat->Nat->Int) (g:Nat) (sl:Nat->Value) (xs:Nat->Nat):Prop :=
 (n=0/\∃ a c,v=.slice a 0 c)∨∃ c,v=zS g n c/\lo<=g/\g<hi/\hi<=w.heap.size/\∀ k,k<n->w.cell? (zA g k)=some (sl k)/\RP lo hi w (sl k) (N k) (O k) (xs k)
theorem RW.sm {lo hi:Nat} {w w':World} {v:Value} {n:Nat} {Z:Nat->Nat->Int} {g:Nat} (h:RW lo hi w v n Z g) (hs:w.heap.size<=w'.heap.size) (k:lo<=g->g<hi->Sm w w' g):RW lo hi w' v n Z g:=by
 rcases h with h | ⟨c,h1,h2,h3,h4,h5⟩
 ·exact .inl h
 exact .inr ⟨c,h1,h2,h3,Hq h4 hs,uY h5 (k h2 h3)⟩
theorem RP.sm {lo hi:Nat} {w w':World} {v:Value} {n:Nat} {Z:Nat->Nat->Int} {g:Nat} (h:RP lo hi w v n Z g) (hs:w.heap.size<=w'.heap.size) (k:lo<=g->g<hi->Sm w w' g):RP lo hi w' v n Z g:=by
 rcases h with h | ⟨c,h1,h2,h3,h4,h5⟩
 ·exact .inl h
 exact .inr ⟨c,h1,h2,h3,Hq h4 hs,nK h5 (k h2 h3)⟩
theorem RI.sm {lo hi:Nat} {w w':World} {v:Value} {n:Nat} {X:Nat->Int} {g:Nat} (h:RI lo hi w v n X g) (hs:w.heap.size<=w'.heap.size) (k:lo<=g->g<hi->Sm w w' g):RI lo hi w' v n X g:=by
 rcases h with h | ⟨c,h1,h2,h3,h4,h5⟩
 ·exact .inl h
 exact .inr ⟨c,h1,h2,h3,Hq h4 hs,qZ h5 (k h2 h3)⟩
theorem RO.sm {lo hi:Nat} {w w':World} {v:Value} {n:Nat} {N:Nat->Nat} {O:Nat->Nat->Nat->Int} {g:Nat} {sl:Nat->Value} {xs:Nat->Nat} (h:RO lo hi w v n N O g sl xs) (hs:w.heap.size<=w'.heap.size) (k:lo<=g->g<hi->Sm w w' g) (kx:∀ i,i<n->lo<=xs i->xs i<hi->Sm w w' (xs i)):RO lo hi w' v n N O g sl xs:=by
 rcases h with h | ⟨c,h1,h2,h3,h4,h5⟩
 ·exact .inl h
 exact .inr ⟨c,h1,h2,h3,Hq h4 hs,fun i hi=>⟨((k h2 h3 i).1).trans (h5 i hi).1,(h5 i hi).2.sm hs (kx i hi)⟩⟩
theorem zh (lo hi s:Nat) (v:Value) (n:Nat) (Z:Nat->Nat->Int) (g:Nat) (hn:n<=2000000) (hs:s<=2000000000) (w:World) (h:RW lo hi w v n Z g) :
 Hz 64 #[v,zI (s:Int)] w fun e w'=>e=.returned (zI ((s+n * 5:Nat):Int))/\RW lo hi w' v n (Mk 5 s) g/\w'.heap.size=w.heap.size/\(∀ b,b<w.heap.size->(¬ b=g∨b<lo∨hi<=b)->Sm w w' b)/\Below lo w w':=by
 rcases h with ⟨rfl,a,c,rfl⟩ | ⟨c,rfl,h2,h3,h4,h5⟩
 ·refine (EQ s a c w).mono ?_;rintro e w' ⟨rfl,rfl⟩;exact ⟨by simp,.inl ⟨rfl,a,c,rfl⟩,rfl,fun b _ _=>Sm.refl _ _,Hr _ _⟩
 refine (Gh s g n c Z hn hs w (by omega) h5).mono ?_;rintro e w' ⟨rfl,o,hg,hz⟩;exact ⟨rfl,.inr ⟨c,rfl,h2,h3,by omega,o⟩,hz,fun b hb hne=>bG hg hb (by intro e;injection e with e;omega),below_grown hg h2 (by omega)⟩
theorem Ap (lo hi s:Nat) (v:Value) (n:Nat) (Z:Nat->Nat->Int) (g:Nat) (hn:n<=2000000) (hs:s<=2000000000) (w:World) (h:RP lo hi w v n Z g) :
 Hz 95 #[v,zI (s:Int)] w fun e w'=>e=.returned (zI ((s+n * 8:Nat):Int))/\RP lo hi w' v n (Mk 8 s) g/\w'.heap.size=w.heap.size/\(∀ b,b<w.heap.size->(¬ b=g∨b<lo∨hi<=b)->Sm w w' b)/\Below lo w w':=by
 rcases h with ⟨rfl,a,c,rfl⟩ | ⟨c,rfl,h2,h3,h4,h5⟩
 ·refine (Fp s a c w).mono ?_;rintro e w' ⟨rfl,rfl⟩;exact ⟨by simp,.inl ⟨rfl,a,c,rfl⟩,rfl,fun b _ _=>Sm.refl _ _,Hr _ _⟩
 refine (Gn s g n c Z hn hs w (by omega) h5).mono ?_;rintro e w' ⟨rfl,o,hg,hz⟩;exact ⟨rfl,.inr ⟨c,rfl,h2,h3,by omega,o⟩,hz,fun b hb hne=>bG hg hb (by intro e;injection e with e;omega),below_grown hg h2 (by omega)⟩
theorem uo (lo hi s:Nat) (v:Value) (n:Nat) (X:Nat->Int) (g:Nat) (hn:n<=2000000) (hs:s<=2000000000) (w:World) (h:RI lo hi w v n X g) :
 Hz 66 #[v,zI (s:Int)] w fun e w'=>e=.returned (zI ((s+n:Nat):Int))/\RI lo hi w' v n (M1 s) g/\w'.heap.size=w.heap.size/\(∀ b,b<w.heap.size->(¬ b=g∨b<lo∨hi<=b)->Sm w w' b)/\Below lo w w':=by
 rcases h with ⟨rfl,a,c,rfl⟩ | ⟨c,rfl,h2,h3,h4,h5⟩
 ·refine (FP s a c w).mono ?_;rintro e w' ⟨rfl,rfl⟩;exact ⟨by simp,.inl ⟨rfl,a,c,rfl⟩,rfl,fun b _ _=>Sm.refl _ _,Hr _ _⟩
 refine (Gq s g n c X hn hs w (by omega) h5).mono ?_;rintro e w' ⟨rfl,o,hg,hz⟩;exact ⟨rfl,.inr ⟨c,rfl,h2,h3,by omega,o⟩,hz,fun b hb hne=>bG hg hb (by intro e;injection e with e;omega),below_grown hg h2 (by omega)⟩
theorem zu (lo hi s:Nat) (v:Value) (n:Nat) (g:Nat) (hn:n<=2000000) (hs:s<=2000000000) (w:World) (h:RW lo hi w v n (Mk 5 s) g) :
 Hz 67 #[v,zI (s:Int)] w fun e w'=>e=.returned (zI ((s+n * 5:Nat):Int))/\Below w.heap.size w w':=by
 rcases h with ⟨rfl,a,c,rfl⟩ | ⟨c,rfl,h2,h3,h4,h5⟩
 ·refine (EW s a c w).mono ?_;rintro e w' ⟨rfl,hb⟩;exact ⟨by simp,hb⟩
 exact GL s g n c hn hs w (by omega) h5
theorem AO (lo hi s:Nat) (v:Value) (n:Nat) (g:Nat) (hn:n<=2000000) (hs:s<=2000000000) (w:World) (h:RP lo hi w v n (Mk 8 s) g) :
 Hz 96 #[v,zI (s:Int)] w fun e w'=>e=.returned (zI ((s+n * 8:Nat):Int))/\Below w.heap.size w w':=by
 rcases h with ⟨rfl,a,c,rfl⟩ | ⟨c,rfl,h2,h3,h4,h5⟩
 ·refine (FT s a c w).mono ?_;rintro e w' ⟨rfl,hb⟩;exact ⟨by simp,hb⟩
 exact Gi s g n c hn hs w (by omega) h5
theorem tH (lo hi s:Nat) (v:Value) (n:Nat) (g:Nat) (hn:n<=2000000) (hs:s<=2000000000) (w:World) (h:RI lo hi w v n (M1 s) g) :
 Hz 69 #[v,zI (s:Int)] w fun e w'=>e=.returned (zI ((s+n:Nat):Int))/\Below w.heap.size w w':=by
 rcases h with ⟨rfl,a,c,rfl⟩ | ⟨c,rfl,h2,h3,h4,h5⟩
 ·refine (FM s a c w).mono ?_;rintro e w' ⟨rfl,hb⟩;exact ⟨by simp,hb⟩
 exact GU s g n c hn hs w (by omega) h5
def st (s:Nat) (N:Nat->Nat):Nat->Nat
 | 0=>s
 | k+1=>st s N k+N k * 8
theorem Gf (lo hi s:Nat) (v:Value) (n:Nat) (N:Nat->Nat) (O:Nat->Nat->Nat->Int) (g:Nat) (sl:Nat->Value) (xs:Nat->Nat) (hn:n<=1048576) (hN:∀ k,k<n->N k<=1048576) (hst:∀ k,k<=n->st s N k<=2000000000) (hg:∀ k,k<n->¬ xs k=g) (hx:∀ i j,i<n->j<n->¬ i=j->¬ xs i=xs j)
 (w:World) (h:RO lo hi w v n N O g sl xs) :
 Hz 65 #[v,zI (s:Int)] w fun e w'=>e=.returned (zI ((st s N n:Nat):Int))/\RO lo hi w' v n N (fun k=>Mk 8 (st s N k)) g sl xs/\w'.heap.size=w.heap.size/\(∀ b,b<w.heap.size->((∀ k,k<n->¬ b=xs k)∨b<lo∨hi<=b)->Sm w w' b)/\Below lo w w':=by
 have HG:bY (∀ k,k<n->¬ xs k=g):=hg;have HX:bY (∀ i j,i<n->j<n->¬ i=j->¬ xs i=xs j):=hx;have HN:bY (∀ k,k<n->N k<=1048576):=hN;have HT:bY (∀ k,k<=n->st s N k<=2000000000):=hst;clear hg hx hN hst;rcases h with ⟨rfl,a,c,rfl⟩ | ⟨c,rfl,h2,h3,h4,h5⟩
 ·go_enter Tryz.func65,Tryz.ntmps65;go_wp2;refine wp_loop_rounds 1 ?_;rw [rounds_succ];go_wp2;go_ret;exact ⟨rfl,.inl ⟨rfl,a,c,rfl⟩,rfl,fun b _ _=>Sm.refl _ _,Hr _ _⟩
 have H5:bY (∀ k,k<n->w.cell? (zA g k)=some (sl k)/\RP lo hi w (sl k) (N k) (O k) (xs k)):=h5;clear h5;go_enter Tryz.func65,Tryz.ntmps65;go_wp2;go_loopw [1,5] (fun cc i wr=>∃ k:Nat,k<=n/\i=zI k/\cc=zI ((st s N k:Nat):Int)/\wr.heap.size=w.heap.size/\(∀ b,b<w.heap.size->((∀ j,j<n->¬ b=xs j)∨b<lo∨hi<=b)->Sm w wr b)/\(∀ j,j<k->RP lo hi wr (sl j) (N j) (Mk 8 (st s N j)) (xs j))/\(∀ j,k<=j->j<n->RP lo hi wr (sl j) (N j) (O j) (xs j))/\Below lo w wr) (fun _ i _=>n - (intOf i).toNat)
 case atStart=>exact ⟨0,Nat.zero_le _,rfl,rfl,rfl,fun b _ _=>Sm.refl _ _,fun _ h=>absurd h (by omega),fun j _ hj=>(H5.o j hj).2,Hr _ _⟩
 case round =>
  obtain ⟨k,hk,rfl,rfl,hsz,hsm,hdone,hleft,hbel⟩:=hrel;have SM:bY (∀ b,b<w.heap.size->((∀ j,j<n->¬ b=xs j)∨b<lo∨hi<=b)->Sm w wr b):=hsm;have DN:bY (∀ j,j<k->RP lo hi wr (sl j) (N j) (Mk 8 (st s N j)) (xs j)):=hdone;have LF:bY (∀ j,k<=j->j<n->RP lo hi wr (sl j) (N j) (O j) (xs j)):=hleft;have BL:bY (Below lo w wr):=hbel;clear hsm hdone hleft hbel;by_cases hkn:k<n
  ·have hkn':(k:Int)<n:=by omega
   have hc:wr.cell? (zA g k)=some (sl k):=((SM.o g (by omega) (.inl fun j hj e=>HG.o j hj e.symm)) k).1.trans (H5.o k hkn).1;have SZ:bY (wr.heap.size=w.heap.size):=hsz;have hgw:g<wr.heap.size:=by omega
   clear hsz;obtain ⟨slk,esl⟩:∃ x,x=sl k:=⟨_,rfl⟩;rw [<-esl] at hc;have hRP:bY (RP lo hi wr slk (N k) (O k) (xs k)):=by rw [esl];exact LF.o k (Ho _) hkn
   have ESL:bY (slk=sl k):=esl;clear esl;have hshape:∃ a ln cp,slk=.slice a ln cp:=by
    rcases hRP.o with ⟨_,a,c,e⟩ | ⟨c,e,_⟩
    ·exact ⟨_,_,_,e⟩
    exact ⟨_,_,_,e⟩
   obtain ⟨xa,xl,xc,rfl⟩:=hshape;go_wp2_with fail;refine (Ap lo hi (st s N k) _ (N k) (O k) (xs k) (by have:=HN.o k hkn;omega) (HT.o k hk) _ hRP.o).mono ?_;rintro e w1 ⟨rfl,r1,z1,sm1,gr1⟩;have S1:bY (w1.heap.size=w.heap.size):=z1.trans SZ.o;have SM1:bY (∀ b,b<w.heap.size->((∀ j,j<n->¬ b=xs j)∨b<lo∨hi<=b)->Sm w w1 b):=fun b hb hne=>(SM.o b hb hne).trans (sm1 b (by rw [SZ.o];exact hb) (hne.elim (fun h=>.inl (h k hkn)) .inr));have DN1:bY (∀ j,j<k+1->RP lo hi w1 (sl j) (N j) (Mk 8 (st s N j)) (xs j)):=fun j hj=>by
    by_cases e:j=k
    ·subst e;rw [<-ESL.o];exact r1
    rcases DN.o j (by omega) with h | ⟨c',h1,h2,h3,h4,h5⟩
    ·exact .inl h
    exact .inr ⟨c',h1,h2,h3,by rw [z1];exact h4,nK h5 (sm1 (xs j) (by omega) (.inl (HX.o j k (by omega) hkn e)))⟩
   have LF1:bY (∀ j,k+1<=j->j<n->RP lo hi w1 (sl j) (N j) (O j) (xs j)):=fun j hj hjn=>by
    rcases LF.o j (by omega) hjn with h | ⟨c',h1,h2,h3,h4,h5⟩
    ·exact .inl h
    exact .inr ⟨c',h1,h2,h3,by rw [z1];exact h4,nK h5 (sm1 (xs j) (by omega) (.inl (HX.o j k hjn hkn (by omega))))⟩
   have BL1:bY (Below lo w w1):=BL.o.trans gr1;clear r1 z1 sm1 gr1 SM DN LF BL SZ hc hRP;go_wp2;go_roundw
   case rel=>exact ⟨k+1,by omega,by go_num,rfl,S1.o,SM1.o,DN1.o,LF1.o,BL1.o⟩
   case measure=>simp [intOf];omega
  have hkk:k=n:=by omega
  subst hkk;go_wp2;go_ret;exact ⟨rfl,.inr ⟨c,rfl,h2,h3,by rw [hsz];exact h4,fun j hj=>⟨((SM.o g (by omega) (.inl fun j hj e=>HG.o j hj e.symm)) j).1.trans (H5.o j hj).1,DN.o j hj⟩⟩,hsz,SM.o,BL.o⟩
theorem Gu (lo hi s:Nat) (v:Value) (n:Nat) (N:Nat->Nat) (g:Nat) (sl:Nat->Value) (xs:Nat->Nat) (hn:n<=1048576) (hN:∀ k,k<n->N k<=1048576) (hst:∀ k,k<=n->st s N k<=2000000000)
 (w:World) (h:RO lo hi w v n N (fun k=>Mk 8 (st s N k)) g sl xs) :
 Hz 68 #[v,zI (s:Int)] w fun e w'=>e=.returned (zI ((st s N n:Nat):Int))/\Below w.heap.size w w':=by
 have HN:bY (∀ k,k<n->N k<=1048576):=hN;have HT:bY (∀ k,k<=n->st s N k<=2000000000):=hst;clear hN hst;rcases h with ⟨rfl,a,c,rfl⟩ | ⟨c,rfl,h2,h3,h4,h5⟩
 ·go_enter Tryz.func68,Tryz.ntmps68;go_wp2;refine wp_loop_rounds 1 ?_;rw [rounds_succ];go_wp2;go_ret;exact ⟨rfl,Hr _ _⟩
 have H5:bY (∀ k,k<n->w.cell? (zA g k)=some (sl k)/\RP lo hi w (sl k) (N k) (Mk 8 (st s N k)) (xs k)):=h5;clear h5;go_enter Tryz.func68,Tryz.ntmps68;go_wp2;go_loopw [1,5] (fun cc i wr=>∃ k:Nat,k<=n/\i=zI k/\cc=zI ((st s N k:Nat):Int)/\Below w.heap.size w wr) (fun _ i _=>n - (intOf i).toNat)
 case atStart=>exact ⟨0,Nat.zero_le _,rfl,rfl,Hr _ _⟩
 case round =>
  obtain ⟨k,hk,rfl,rfl,hbel⟩:=hrel;have BL:bY (Below w.heap.size w wr):=hbel;have hz:=hbel.size;clear hbel;by_cases hkn:k<n
  ·have hkn':(k:Int)<n:=by omega
   have hc:wr.cell? (zA g k)=some (sl k):=(BL.o.cell (p:=(zA g k)) (by show g<_;omega)).trans (H5.o k hkn).1;have hgw:g<wr.heap.size:=by omega
   obtain ⟨slk,esl⟩:∃ x,x=sl k:=⟨_,rfl⟩;rw [<-esl] at hc;have hRP:bY (RP lo hi wr slk (N k) (Mk 8 (st s N k)) (xs k)):=by
    rw [esl];rcases (H5.o k hkn).2 with h | ⟨c',q1,q2,q3,q4,q5⟩
    ·exact .inl h
    exact .inr ⟨c',q1,q2,q3,by omega,nK q5 (aj BL.o (by omega))⟩
   clear esl;have hshape:∃ a ln cp,slk=.slice a ln cp:=by
    rcases hRP.o with ⟨_,a,c,e⟩ | ⟨c,e,_⟩
    ·exact ⟨_,_,_,e⟩
    exact ⟨_,_,_,e⟩
   obtain ⟨xa,xl,xc,rfl⟩:=hshape;have hnn:¬ ((st s N (k+1):Nat):Int)<0:=by omega
   go_wp2_with fail;refine (AO lo hi (st s N k) _ (N k) (xs k) (by have:=HN.o k hkn;omega) (HT.o k hk) _ hRP.o).mono ?_;rintro e w1 ⟨rfl,hb1⟩;have B1:=fQ (ah BL.o hb1);rw [show st s N k+N k * 8=st s N (k+1) from rfl];clear hb1 BL hc hRP;obtain ⟨sk,hsk⟩:∃ x,x=st s N (k+1):=⟨_,rfl⟩;rw [<-hsk] at hnn ⊢;have HSK:bY (sk=st s N (k+1)):=hsk;clear hsk;go_wp2;go_roundw
   case rel=>exact ⟨k+1,by omega,by go_num,by rw [HSK.o],B1.o⟩
   case measure=>simp [intOf];omega
  have hkk:k=n:=by omega
  subst hkk;go_wp2;go_ret;exact ⟨rfl,BL.o⟩
def aV (lo hi:Nat) (w:World) (v:Value) (V:CV):Prop :=
 ∃ vW vO vX vI gW gO gX gI sl xs,v=.agg #[zI V.c,vW,zI V.g,vO,vX,vI]/\RW lo hi w vW V.nW V.W gW/\RO lo hi w vO V.nO V.N V.O gO sl xs/\RI lo hi w vX V.nX V.X gX/\RI lo hi w vI V.nI V.I gI /\
  (¬ gW=gO/\¬ gW=gX/\¬ gW=gI/\¬ gO=gX/\¬ gO=gI/\¬ gX=gI)/\(∀ k,k<V.nO->¬ xs k=gW/\¬ xs k=gO/\¬ xs k=gX/\¬ xs k=gI)/\(∀ i j,i<V.nO->j<V.nO->¬ i=j->¬ xs i=xs j)
def CV.s1 (V:CV):Nat:=1+V.nW * 5
def CV.s2 (V:CV):Nat:=st V.s1 V.N V.nO
def CV.s3 (V:CV):Nat:=V.s2+V.nX
def CV.s4 (V:CV):Nat:=V.s3+V.nI
def CV.marked (V:CV):CV:={ V with W:=Mk 5 1,O:=fun k=>Mk 8 (st V.s1 V.N k),X:=M1 V.s2,I:=M1 V.s3 }
def CV.few (V:CV):Prop:=V.short 1048576/\∀ k,k<=V.nO->st V.s1 V.N k<=1000000000
theorem CV.KL {V:CV} (h:V.short 1048576) (hO:V.nO<=2):V.few:=by
 refine ⟨h,fun k hk=>?_⟩;obtain ⟨h1,_,h3,_⟩:=h;have:k=0∨k=1∨k=2:=by omega
 rcases this with rfl | rfl | rfl
 ·simp only [st,CV.s1];omega
 ·have:=h3 0 (by omega);simp only [st,CV.s1];omega
 have:=h3 0 (by omega);have:=h3 1 (by omega);simp only [st,CV.s1];omega
theorem EI (lo hi:Nat) (v:Value) (V:CV) (hs:V.few) (w:World) (hlh:lo<=w.heap.size) (hhi:hi<=w.heap.size) (h:aV lo hi w v V) :
 Hz 34 #[v,zI 1] w fun e w'=>e=.returned (zI ((V.s4:Nat):Int))/\aV lo hi w' v V.marked/\w.heap.size<=w'.heap.size/\(∀ b,b<w.heap.size->(b<lo∨hi<=b)->Sm w w' b)/\Below lo w w':=by
 obtain ⟨vW,vO,vX,vI,gW,gO,gX,gI,sl,xs,rfl,rW,rO,rX,rI,⟨d1,d2,d3,d4,d5,d6⟩,hx1,hx2⟩:=h;obtain ⟨⟨tW,tO,tN,tX,tI⟩,tS⟩:=hs;have HN:bY (∀ k,k<V.nO->V.N k<=1048576):=tN;have HT:bY (∀ k,k<=V.nO->st V.s1 V.N k<=2000000000):=fun k hk=>by have:=tS k hk;omega
 have e2:V.s2<=1000000000:=tS V.nO (Ho _);have X1:bY (∀ k,k<V.nO->¬ xs k=gW/\¬ xs k=gO/\¬ xs k=gX/\¬ xs k=gI):=hx1;have X2:bY (∀ i j,i<V.nO->j<V.nO->¬ i=j->¬ xs i=xs j):=hx2;have RW0:bY (RW lo hi w vW V.nW V.W gW):=rW;have RO0:bY (RO lo hi w vO V.nO V.N V.O gO sl xs):=rO;have RX0:bY (RI lo hi w vX V.nX V.X gX):=rX;have RI0:bY (RI lo hi w vI V.nI V.I gI):=rI;clear rW rO rX rI hx1 hx2 tN tS;go_enter Tryz.func34,Tryz.ntmps34;go_wp2_with fail;obtain ⟨w0,e0⟩:∃ w0,w0=w.alloc (.cells #[zI V.c,vW,zI V.g,vO,vX,vI] 36):=⟨_,rfl⟩;have z0:w.heap.size<w0.heap.size:=by rw [e0];simp
 have hb0:Below w.heap.size w w0:=by rw [e0];exact (Hr _ _).alloc (by simp) _
 have X0:bY (Six w0 w.heap.size [zI V.c,vW,zI V.g,vO,vX,vI]):=by rw [e0];exact fM w 36 (zI V.c) vW (zI V.g) vO vX vI
 rw [<-e0];clear e0;have SM0:bY (∀ b,b<w.heap.size->(b<lo∨hi<=b)->Sm w w0 b):=fun b hb _=>aj hb0 hb;have BL0:bY (Below lo w w0):=hb0.mono hlh;have W0:bY (RW lo hi w0 vW V.nW V.W gW):=RW0.o.sm (by omega) (fun _ h=>aj hb0 (by omega));have O0:bY (RO lo hi w0 vO V.nO V.N V.O gO sl xs):=RO0.o.sm (by omega) (fun _ h=>aj hb0 (by omega)) (fun i _ _ h=>aj hb0 (by omega));have P0:bY (RI lo hi w0 vX V.nX V.X gX):=RX0.o.sm (by omega) (fun _ h=>aj hb0 (by omega));have Q0:bY (RI lo hi w0 vI V.nI V.I gI):=RI0.o.sm (by omega) (fun _ h=>aj hb0 (by omega));clear RW0 RO0 RX0 RI0 hb0;refine (zh lo hi 1 vW V.nW V.W gW (by omega) (by omega) _ W0.o).mono ?_;rintro e w1 ⟨rfl,r1,zz,sm1,bl1⟩;have z1:w.heap.size<w1.heap.size:=by omega
 have SM1:bY (∀ b,b<w.heap.size->(b<lo∨hi<=b)->Sm w w1 b):=fun b hb h=>(SM0.o b hb h).trans (sm1 b (by omega) (.inr h));have BL1:bY (Below lo w w1):=BL0.o.trans bl1;have X1b:bY (Six w1 w.heap.size [zI V.c,vW,zI V.g,vO,vX,vI]):=fun i hi=>by have h1:=sm1 w.heap.size (by omega) (.inr (.inr hhi)) i;rw [h1.1,h1.2];exact X0.o i hi
 have W1:bY (RW lo hi w1 vW V.nW (Mk 5 1) gW):=r1;have O1:bY (RO lo hi w1 vO V.nO V.N V.O gO sl xs):=O0.o.sm (by omega) (fun _ _=>sm1 gO (by omega) (.inl (fun e=>d1 e.symm))) (fun i hi _ _=>sm1 (xs i) (by omega) (.inl (X1.o i hi).1));have P1:bY (RI lo hi w1 vX V.nX V.X gX):=P0.o.sm (by omega) (fun _ _=>sm1 gX (by omega) (.inl (fun e=>d2 e.symm)));have Q1:bY (RI lo hi w1 vI V.nI V.I gI):=Q0.o.sm (by omega) (fun _ _=>sm1 gI (by omega) (.inl (fun e=>d3 e.symm)));clear r1 zz sm1 bl1 SM0 BL0 X0 W0 O0 P0 Q0;have a0:=X1b.o.a6;go_wp2_with fail;clear a0;refine (Gf lo hi V.s1 vO V.nO V.N V.O gO sl xs tO HN.o HT.o (fun k hk=>(X1.o k hk).2.1) X2.o _ O1.o).mono ?_;rintro e w2 ⟨rfl,r1,zz,sm1,bl1⟩;have z2:w.heap.size<w2.heap.size:=by omega
 have SM2:bY (∀ b,b<w.heap.size->(b<lo∨hi<=b)->Sm w w2 b):=fun b hb h=>(SM1.o b hb h).trans (sm1 b (by omega) (.inr h));have BL2:bY (Below lo w w2):=BL1.o.trans bl1;have X2b:bY (Six w2 w.heap.size [zI V.c,vW,zI V.g,vO,vX,vI]):=fun i hi=>by have h1:=sm1 w.heap.size (by omega) (.inr (.inr hhi)) i;rw [h1.1,h1.2];exact X1b.o i hi
 have W2:bY (RW lo hi w2 vW V.nW (Mk 5 1) gW):=W1.o.sm (by omega) (fun _ _=>sm1 gW (by omega) (.inl fun k hk e=>(X1.o k hk).1 e.symm));have O2:bY (RO lo hi w2 vO V.nO V.N (fun k=>Mk 8 (st V.s1 V.N k)) gO sl xs):=r1;have P2:bY (RI lo hi w2 vX V.nX V.X gX):=P1.o.sm (by omega) (fun _ _=>sm1 gX (by omega) (.inl fun k hk e=>(X1.o k hk).2.2.1 e.symm));have Q2:bY (RI lo hi w2 vI V.nI V.I gI):=Q1.o.sm (by omega) (fun _ _=>sm1 gI (by omega) (.inl fun k hk e=>(X1.o k hk).2.2.2 e.symm));clear r1 zz sm1 bl1 SM1 BL1 X1b W1 O1 P1 Q1;have a0:=X2b.o.a6;go_wp2_with fail;clear a0;refine (uo lo hi V.s2 vX V.nX V.X gX (by omega) (by omega) _ P2.o).mono ?_;rintro e w3 ⟨rfl,r1,zz,sm1,bl1⟩;have z3:w.heap.size<w3.heap.size:=by omega
 have SM3:bY (∀ b,b<w.heap.size->(b<lo∨hi<=b)->Sm w w3 b):=fun b hb h=>(SM2.o b hb h).trans (sm1 b (by omega) (.inr h));have BL3:bY (Below lo w w3):=BL2.o.trans bl1;have X3b:bY (Six w3 w.heap.size [zI V.c,vW,zI V.g,vO,vX,vI]):=fun i hi=>by have h1:=sm1 w.heap.size (by omega) (.inr (.inr hhi)) i;rw [h1.1,h1.2];exact X2b.o i hi
 have W3:bY (RW lo hi w3 vW V.nW (Mk 5 1) gW):=W2.o.sm (by omega) (fun _ _=>sm1 gW (by omega) (.inl (d2)));have O3:bY (RO lo hi w3 vO V.nO V.N (fun k=>Mk 8 (st V.s1 V.N k)) gO sl xs):=O2.o.sm (by omega) (fun _ _=>sm1 gO (by omega) (.inl (d4))) (fun i hi _ _=>sm1 (xs i) (by omega) (.inl (X1.o i hi).2.2.1));have P3:bY (RI lo hi w3 vX V.nX (M1 V.s2) gX):=r1;have Q3:bY (RI lo hi w3 vI V.nI V.I gI):=Q2.o.sm (by omega) (fun _ _=>sm1 gI (by omega) (.inl (fun e=>d6 e.symm)));clear r1 zz sm1 bl1 SM2 BL2 X2b W2 O2 P2 Q2;have a0:=X3b.o.a6;go_wp2_with fail;clear a0;refine (uo lo hi V.s3 vI V.nI V.I gI (by omega) (by simp only [CV.s3];omega) _ Q3.o).mono ?_;rintro e w4 ⟨rfl,r1,zz,sm1,bl1⟩;have z4:w.heap.size<w4.heap.size:=by omega
 have SM4:bY (∀ b,b<w.heap.size->(b<lo∨hi<=b)->Sm w w4 b):=fun b hb h=>(SM3.o b hb h).trans (sm1 b (by omega) (.inr h));have BL4:bY (Below lo w w4):=BL3.o.trans bl1;have X4b:bY (Six w4 w.heap.size [zI V.c,vW,zI V.g,vO,vX,vI]):=fun i hi=>by have h1:=sm1 w.heap.size (by omega) (.inr (.inr hhi)) i;rw [h1.1,h1.2];exact X3b.o i hi
 have W4:bY (RW lo hi w4 vW V.nW (Mk 5 1) gW):=W3.o.sm (by omega) (fun _ _=>sm1 gW (by omega) (.inl (d3)));have O4:bY (RO lo hi w4 vO V.nO V.N (fun k=>Mk 8 (st V.s1 V.N k)) gO sl xs):=O3.o.sm (by omega) (fun _ _=>sm1 gO (by omega) (.inl (d5))) (fun i hi _ _=>sm1 (xs i) (by omega) (.inl (X1.o i hi).2.2.2));have P4:bY (RI lo hi w4 vX V.nX (M1 V.s2) gX):=P3.o.sm (by omega) (fun _ _=>sm1 gX (by omega) (.inl (d6)));have Q4:bY (RI lo hi w4 vI V.nI (M1 V.s3) gI):=r1;clear r1 zz sm1 bl1 SM3 BL3 X3b W3 O3 P3 Q3;go_wp2;go_ret;exact ⟨rfl,⟨vW,vO,vX,vI,gW,gO,gX,gI,sl,xs,rfl,W4.o,O4.o,P4.o,Q4.o,⟨d1,d2,d3,d4,d5,d6⟩,X1.o,X2.o⟩,by omega,SM4.o,BL4.o⟩
def one1 (X:Nat->Int) (k:Nat):List Value:=[zI (X k)]
def aP (Z:Nat->Nat->Int) (k:Nat):List Value:=[zI (Z k 0),zI (Z k 1),zI (Z k 2),zI (Z k 3),zI (Z k 4)]
theorem flat_get {m:Nat} (f:Nat->List Value) (hf:∀ k,(f k).length=m) (hm:0<m):∀ n i,i<n * m->((List.range n).flatMap f)[i]? = (f (i / m))[i % m]?
 | 0,i,h=>by omega
 | n+1,i,h=>by
  rw [List.range_succ,List.flatMap_append]
  have hl:((List.range n).flatMap f).length=n * m:=by
   clear h;induction n with
   | zero=>simp
   | succ n ih=>rw [List.range_succ,List.flatMap_append,List.length_append,ih];simp [hf,Nat.succ_mul]
  by_cases hi:i<n * m
  ·rw [List.getElem?_append_left (by omega)];exact flat_get f hf hm n i hi
  rw [List.getElem?_append_right (by omega),hl];have h1:i / m=n:=Nat.div_eq_of_lt_le (by omega) (by omega);have h2:i % m=i - n * m:=by
   have:=Nat.div_add_mod i m;rw [h1,Nat.mul_comm] at this;omega
  rw [h1,h2];simp
theorem GI (b o n cap:Nat) (Z:Nat->Nat->Int) (hn:n<=1048576) (w:World) (hb:b<w.heap.size) (hr:∀ k j,k<n->j<5->w.cell? (zA b (o+k * 5+j))=some (zI (Z k j))) :
 Hz 112 #[.slice (some (zA b o)) n cap] w fun e w'=>(∃ v,e=.returned v/\w'.ownsRow w.heap.size 67 5 v n ((List.range n).flatMap (aP Z)))/\Below w.heap.size w w':=by
 have hlen:((List.range n).flatMap (aP Z)).length=n * 5:=by
  clear hn hr;induction n with
  | zero=>simp
  | succ n ih=>rw [List.range_succ,List.flatMap_append,List.length_append,ih];simp [aP,Nat.succ_mul]
 have hcell:∀ j u,((List.range n).flatMap (aP Z))[j]? = some u->w.cell? (((zA b o):Addr).add j)=some u:=by
  intro j u hj;have hlt:j<n * 5:=by
   have:=(List.getElem?_eq_some_iff.1 hj).1;rw [hlen] at this;exact this
  rw [flat_get (aP Z) (fun _=>rfl) (by decide) n j hlt] at hj;have hq:j / 5<n:=Nat.div_lt_of_lt_mul (by omega);have hr':=hr (j / 5) (j % 5) hq (Nat.mod_lt _ (by decide));rw [iR,show o+j=o+j / 5 * 5+j % 5 by omega,hr',<-hj];have:j % 5<5:=Nat.mod_lt _ (by decide);generalize j % 5=q at this ⊢;match q,this with
  | 0,_=>rfl
  | 1,_=>rfl
  | 2,_=>rfl
  | 3,_=>rfl
  | 4,_=>rfl
 have h1:∀ u ∈ (List.range n).flatMap (aP Z),u.oneCell'=true:=by
  intro u hu;obtain ⟨k,_,hk⟩:=List.mem_flatMap.1 hu;simp [aP] at hk;rcases hk with rfl | rfl | rfl | rfl | rfl <;> rfl
 clear hr;obtain ⟨i5,hi5,hzz⟩:=Option.map_eq_some_iff.1 Tryz.Jl;simp only [Prod.mk.injEq] at hzz;obtain ⟨hz50,hz51,hz52⟩:=hzz;have HC:bY (∀ j u,((List.range n).flatMap (aP Z))[j]? = some u->w.cell? (((zA b o):Addr).add j)=some u):=hcell;have H1:bY (∀ u ∈ (List.range n).flatMap (aP Z),u.oneCell'=true):=h1;have HL:bY (((List.range n).flatMap (aP Z)).length=n * 5):=hlen;clear hcell h1 hlen;go_enter Tryz.func112,Tryz.ntmps112;go_wp2_with (at_builtin;refine wpList_append_own _ rfl _ _ 33 rfl w.heap.size 67 i5 (.agg #[zI 0,zI 0,zI 0,zI 0,zI 0]) 5 40 Tryz.underlying33 hi5 hz50 hz51 hz52 rfl (by decide) _ 0 [] rfl ⟨rfl,.inl ⟨rfl,rfl⟩⟩ (zA b o) n cap ((List.range n).flatMap (aP Z)) rfl HL.o HC.o H1.o (by unfold maxLen;omega) (by omega) (Ho _) ?_);intro v' w2 hown hg hnil;have hb2:Below w.heap.size w w2:=(Hr _ _).grown hg (Ho _) (fun kk e=>by cases e);have HO:bY (w2.ownsRow w.heap.size 67 5 v' n ((List.range n).flatMap (aP Z))):=hown;clear hown hg hnil;go_wp2;go_ret;exact ⟨⟨_,rfl,HO.o⟩,hb2⟩
theorem Gj (b o n cap:Nat) (Z:Nat->Nat->Int) (hn:n<=1048576) (w:World) (hb:b<w.heap.size) (hr:∀ k j,k<n->j<8->w.cell? (zA b (o+k * 8+j))=some (zI (Z k j))) :
 Hz 113 #[.slice (some (zA b o)) n cap] w fun e w'=>(∃ v,e=.returned v/\w'.ownsRow w.heap.size 69 8 v n ((List.range n).flatMap (P8.eight Z))/\(n=0->∃ a,v=.slice a 0 0))/\Below w.heap.size w w':=by
 have hlen:((List.range n).flatMap (P8.eight Z)).length=n * 8:=by
  clear hn hr;induction n with
  | zero=>simp
  | succ n ih=>rw [List.range_succ,List.flatMap_append,List.length_append,ih];simp [P8.eight,Nat.succ_mul]
 have hcell:∀ j u,((List.range n).flatMap (P8.eight Z))[j]? = some u->w.cell? (((zA b o):Addr).add j)=some u:=by
  intro j u hj;have hlt:j<n * 8:=by
   have:=(List.getElem?_eq_some_iff.1 hj).1;rw [hlen] at this;exact this
  rw [flat_get (P8.eight Z) (fun _=>rfl) (by decide) n j hlt] at hj;have hq:j / 8<n:=Nat.div_lt_of_lt_mul (by omega);have hr':=hr (j / 8) (j % 8) hq (Nat.mod_lt _ (by decide));rw [iR,show o+j=o+j / 8 * 8+j % 8 by omega,hr',<-hj];have:j % 8<8:=Nat.mod_lt _ (by decide);generalize j % 8=q at this ⊢;match q,this with
  | 0,_=>rfl
  | 1,_=>rfl
  | 2,_=>rfl
  | 3,_=>rfl
  | 4,_=>rfl
  | 5,_=>rfl
  | 6,_=>rfl
  | 7,_=>rfl
 have h1:∀ u ∈ (List.range n).flatMap (P8.eight Z),u.oneCell'=true:=by
  intro u hu;obtain ⟨k,_,hk⟩:=List.mem_flatMap.1 hu;simp [P8.eight] at hk;rcases hk with rfl | rfl | rfl | rfl | rfl | rfl | rfl | rfl <;> rfl
 clear hr;obtain ⟨i5,hi5,hzz⟩:=Option.map_eq_some_iff.1 P8.Tryz.Jd;simp only [Prod.mk.injEq] at hzz;obtain ⟨hz50,hz51,hz52⟩:=hzz;have HC:bY (∀ j u,((List.range n).flatMap (P8.eight Z))[j]? = some u->w.cell? (((zA b o):Addr).add j)=some u):=hcell;have H1:bY (∀ u ∈ (List.range n).flatMap (P8.eight Z),u.oneCell'=true):=h1;have HL:bY (((List.range n).flatMap (P8.eight Z)).length=n * 8):=hlen;clear hcell h1 hlen;go_enter Tryz.func113,Tryz.ntmps113;go_wp2_with (at_builtin;refine wpList_append_own _ rfl _ _ 127 rfl w.heap.size 69 i5 (.agg #[zI 0,zI 0,zI 0,zI 0,zI 0,zI 0,zI 0,zI 0]) 8 64 Tryz.underlying127 hi5 hz50 hz51 hz52 rfl (by decide) _ 0 [] rfl ⟨rfl,.inl ⟨rfl,rfl⟩⟩ (zA b o) n cap ((List.range n).flatMap (P8.eight Z)) rfl HL.o HC.o H1.o (by unfold maxLen;omega) (by omega) (Ho _) ?_);intro v' w2 hown hg hnil;have hb2:Below w.heap.size w w2:=(Hr _ _).grown hg (Ho _) (fun kk e=>by cases e);have HO:bY (w2.ownsRow w.heap.size 69 8 v' n ((List.range n).flatMap (P8.eight Z))):=hown;have HN0:bY (n=0->∃ a,v'=.slice a 0 0):=fun e=>⟨none,hnil.2 e⟩
 clear hown hg hnil;go_wp2;go_ret;exact ⟨⟨_,rfl,HO.o,HN0.o⟩,hb2⟩
theorem EJ (b o n cap:Nat) (X:Nat->Int) (hn:n<=1048576) (w:World) (hb:b<w.heap.size) (hr:∀ k,k<n->w.cell? (zA b (o+k))=some (zI (X k))) :
 Hz 114 #[.slice (some (zA b o)) n cap] w fun e w'=>(∃ v,e=.returned v/\w'.ownsRow w.heap.size 3 1 v n ((List.range n).flatMap (one1 X)))/\Below w.heap.size w w':=by
 have hlen:((List.range n).flatMap (one1 X)).length=n * 1:=by
  clear hn hr;induction n with
  | zero=>simp
  | succ n ih=>rw [List.range_succ,List.flatMap_append,List.length_append,ih];simp [one1,Nat.succ_mul]
 have hcell:∀ j u,((List.range n).flatMap (one1 X))[j]? = some u->w.cell? (((zA b o):Addr).add j)=some u:=by
  intro j u hj;have hlt:j<n * 1:=by
   have:=(List.getElem?_eq_some_iff.1 hj).1;rw [hlen] at this;exact this
  rw [flat_get (one1 X) (fun _=>rfl) (by decide) n j hlt,Nat.div_one,Nat.mod_one] at hj;rw [iR,hr j (by omega),<-hj];rfl
 have h1:∀ u ∈ (List.range n).flatMap (one1 X),u.oneCell'=true:=by
  intro u hu;obtain ⟨k,_,hk⟩:=List.mem_flatMap.1 hu;simp [one1] at hk;subst hk;rfl
 clear hr;obtain ⟨i5,hi5,hzz⟩:=Option.map_eq_some_iff.1 Tryz.info3;simp only [Prod.mk.injEq] at hzz;obtain ⟨hz50,hz51,hz52⟩:=hzz;have HC:bY (∀ j u,((List.range n).flatMap (one1 X))[j]? = some u->w.cell? (((zA b o):Addr).add j)=some u):=hcell;have H1:bY (∀ u ∈ (List.range n).flatMap (one1 X),u.oneCell'=true):=h1;have HL:bY (((List.range n).flatMap (one1 X)).length=n * 1):=hlen;clear hcell h1 hlen;go_enter Tryz.func114,Tryz.ntmps114;go_wp2_with (at_builtin;refine wpList_append_own _ rfl _ _ 26 rfl w.heap.size 3 i5 (zI 0) 1 8 Tryz.underlying26 hi5 hz50 hz51 hz52 rfl (by decide) _ 0 [] rfl ⟨rfl,.inl ⟨rfl,rfl⟩⟩ (zA b o) n cap ((List.range n).flatMap (one1 X)) rfl HL.o HC.o H1.o (by unfold maxLen;omega) (by omega) (Ho _) ?_);intro v' w2 hown hg hnil;have hb2:Below w.heap.size w w2:=(Hr _ _).grown hg (Ho _) (fun kk e=>by cases e);have HO:bY (w2.ownsRow w.heap.size 3 1 v' n ((List.range n).flatMap (one1 X))):=hown;clear hown hg hnil;go_wp2;go_ret;exact ⟨⟨_,rfl,HO.o⟩,hb2⟩
theorem gZ {w:World} {base n:Nat} {v:Value} {Z:Nat->Nat->Int} (h:w.ownsRow base 67 5 v n ((List.range n).flatMap (aP Z))):∃ g,RW base w.heap.size w v n Z g/\(v.ownBlock=none∨v.ownBlock=some g):=by
 rcases h.2 with ⟨e,hl⟩ | ⟨g,cap,cur,hv,_⟩
 ·subst e;subst hl;exact ⟨0,.inl ⟨rfl,none,0,rfl⟩,.inl rfl⟩
 have ho:w.ownsRow base 67 5 (.slice (some (zA g 0)) n cap) n ((List.range n).flatMap (aP Z)):=by rw [<-hv];exact h
 refine ⟨g,.inr ⟨cap,hv,(ho.lt g rfl).1,(ho.lt g rfl).2,Ho _,fun i hi=>⟨?_,ho.frozenAt i⟩,fun k j hk hj=>?_⟩,.inr (by rw [hv];rfl)⟩
 ·rw [ho.cellAt i (by omega)];have:i<((List.range n).flatMap (aP Z)).length:=by rw [ho.1];omega
  rw [List.getElem?_eq_getElem this];rfl
 skip;have hlt:k * 5+j<n * 5:=by omega
 rw [ho.cellAt (k * 5+j) hlt,flat_get (aP Z) (fun _=>rfl) (by decide) n _ hlt,show (k * 5+j) / 5=k by omega,show (k * 5+j) % 5=j by omega];match j,hj with
 | 0,_=>rfl
 | 1,_=>rfl
 | 2,_=>rfl
 | 3,_=>rfl
 | 4,_=>rfl
theorem Ad {w:World} {base n:Nat} {v:Value} {Z:Nat->Nat->Int} (h:w.ownsRow base 69 8 v n ((List.range n).flatMap (P8.eight Z))):∃ g,RP base w.heap.size w v n Z g/\(v.ownBlock=none∨v.ownBlock=some g):=by
 rcases h.2 with ⟨e,hl⟩ | ⟨g,cap,cur,hv,_⟩
 ·subst e;subst hl;exact ⟨0,.inl ⟨rfl,none,0,rfl⟩,.inl rfl⟩
 have ho:w.ownsRow base 69 8 (.slice (some (zA g 0)) n cap) n ((List.range n).flatMap (P8.eight Z)):=by rw [<-hv];exact h
 refine ⟨g,.inr ⟨cap,hv,(ho.lt g rfl).1,(ho.lt g rfl).2,Ho _,fun i hi=>⟨?_,ho.frozenAt i⟩,fun k j hk hj=>?_⟩,.inr (by rw [hv];rfl)⟩
 ·rw [ho.cellAt i (by omega)];have:i<((List.range n).flatMap (P8.eight Z)).length:=by rw [ho.1];omega
  rw [List.getElem?_eq_getElem this];rfl
 skip;have hlt:k * 8+j<n * 8:=by omega
 rw [ho.cellAt (k * 8+j) hlt,flat_get (P8.eight Z) (fun _=>rfl) (by decide) n _ hlt,show (k * 8+j) / 8=k by omega,show (k * 8+j) % 8=j by omega];match j,hj with
 | 0,_=>rfl
 | 1,_=>rfl
 | 2,_=>rfl
 | 3,_=>rfl
 | 4,_=>rfl
 | 5,_=>rfl
 | 6,_=>rfl
 | 7,_=>rfl
theorem jD {w:World} {base n:Nat} {v:Value} {X:Nat->Int} (h:w.ownsRow base 3 1 v n ((List.range n).flatMap (one1 X))):∃ g,RI base w.heap.size w v n X g/\(v.ownBlock=none∨v.ownBlock=some g):=by
 rcases h.2 with ⟨e,hl⟩ | ⟨g,cap,cur,hv,_⟩
 ·subst e;subst hl;exact ⟨0,.inl ⟨rfl,none,0,rfl⟩,.inl rfl⟩
 have ho:w.ownsRow base 3 1 (.slice (some (zA g 0)) n cap) n ((List.range n).flatMap (one1 X)):=by rw [<-hv];exact h
 refine ⟨g,.inr ⟨cap,hv,(ho.lt g rfl).1,(ho.lt g rfl).2,Ho _,fun i hi=>⟨?_,ho.frozenAt i⟩,fun k hk=>?_⟩,.inr (by rw [hv];rfl)⟩
 ·rw [ho.cellAt i (by omega)];have:i<((List.range n).flatMap (one1 X)).length:=by rw [ho.1];omega
  rw [List.getElem?_eq_getElem this];rfl
 skip;rw [ho.cellAt k (by omega),flat_get (m:=1) (one1 X) (fun _=>rfl) (by decide) n k (by omega),Nat.div_one,Nat.mod_one];rfl
def Ac (c d:Int) (Z:Nat->Nat->Int) (k:Nat):Bool:=jK c d (Z k 0) (Z k 1) (Z k 2) (Z k 3) (Z k 4)
def eG (c d:Int) (Z:Nat->Nat->Int) (k:Nat):Bool:=Ac c d Z k && (k == 0 || decide (Z (k - 1) 0<Z k 0))
def allB (c d:Int) (Z:Nat->Nat->Int):Nat->Bool
 | 0=>true
 | k+1=>allB c d Z k && eG c d Z k
theorem ni {c d:Int} {Z:Nat->Nat->Int} {k:Nat} (h:allB c d Z k=true) (g:eG c d Z k=true):allB c d Z (k+1)=true:=by simp [allB,h,g]
theorem lD {c d:Int} {Z:Nat->Nat->Int} {k:Nat}:∀ n,k<=n->allB c d Z n=true->allB c d Z k=true
 | 0,hk,h=>by obtain rfl:k=0:=by omega
              exact h
 | n+1,hk,h=>by
  by_cases e:k=n+1
  ·subst e;exact h
  simp only [allB,Bool.and_eq_true] at h
  exact lD n (by omega) h.1
theorem nG {c d:Int} {Z:Nat->Nat->Int} {k n:Nat} (h:allB c d Z k=true) (hk:k<n) (g:eG c d Z k=false):allB c d Z n=false:=by
 cases e:allB c d Z n with
 | false=>rfl
 | true =>
  have:=lD n (show k+1<=n by omega) e;simp [allB,g] at this
theorem jd (c d:Int) (b o n cap:Nat) (Z:Nat->Nat->Int) (hn:n<=1048576) (w:World) (hb:b<w.heap.size)
 (hr:∀ k j,k<n->j<5->w.cell? (zA b (o+k * 5+j))=some (zI (Z k j))) :
 Hz 82 #[.agg #[zI c,zI d],.slice (some (zA b o)) n cap] w fun e w'=>e=.returned (.bool (allB c d Z n))/\Below w.heap.size w w':=by
 have HR:bY (∀ k j,k<n->j<5->w.cell? (zA b (o+k * 5+j))=some (zI (Z k j))):=hr;clear hr;go_enter Tryz.func82,Tryz.ntmps82;go_wp2;go_loopw [5] (fun i wr=>∃ k:Nat,k<=n/\i=zI k/\allB c d Z k=true/\((∀ b o,b<w.heap.size+1->wr.cell? (zA b o)=(w.alloc (.cells #[zI c,zI d] 44)).cell? (zA b o))/\w.heap.size+1<=wr.heap.size)/\Below w.heap.size w wr) (fun i _=>n - (intOf i).toNat)
 case atStart=>exact ⟨0,Nat.zero_le _,rfl,rfl,⟨fun _ _ _=>rfl,by simp⟩,(Hr _ _).alloc (by simp) _⟩
 case round =>
  obtain ⟨k,hk,rfl,hall,HS,BR⟩:=hrel;by_cases hkn:k<n
  ·have c0:=cq5 (fun j hj=>HR.o k j hkn (by omega));have cp:w.cell? ⟨b,o+(k - 1) * 5,none⟩=some (zI (Z (k - 1) 0)):=HR.o (k - 1) 0 (by omega) (by omega);have hb1:b<w.heap.size+1:=by omega
   have HALL:bY (allB c d Z k=true):=hall;clear hall;go_wp2;refine Hu (S:=fun w'=>(∀ b o,b<w.heap.size+1->w'.cell? (zA b o)=(w.alloc (.cells #[zI c,zI d] 44)).cell? (zA b o))/\w.heap.size+1<=w'.heap.size) (by kernel_rfl) HS ?_;intro af;refine aA 0 (.agg #[zI c,zI d]) rfl ?_;refine aA 1 (.slice (some (zA b o)) n cap) rfl ?_;refine aA 2 (zI (k:Int)) rfl ?_;refine aA 3 (.pointer (some (zA b (o+k * 5)))) rfl ?_;refine aA 4 (.agg (zF (Z k)).toArray) rfl ?_;refine di 5 rfl fun K hK=>?_;go_simp;go_wp2_with (go_at_call 110;refine (jH _ _ _ _ _ _ _ _).mono ?_;rintro e w2 ⟨rfl,hbw2⟩);refine hK.out _ _ (bM (by assumption) hbw2) (fun af=>?_);clear hK K;try simp only [aT]
   cases hok:jK c d (Z k 0) (Z k 1) (Z k 2) (Z k 3) (Z k 4)
   ·have EG:bY (eG c d Z k=false):=by show eG c d Z k=_;unfold eG Ac;rw [hok];rfl
    refine aA 6 (.bool true) rfl ?_;refine aA 7 (.bool true) rfl ?_;refine bU 8 rfl ?_;refine bU 9 rfl ?_;refine bU 10 rfl ?_;refine bU 11 rfl ?_;refine bU 12 rfl ?_;refine bU 13 rfl ?_;refine bU 14 rfl ?_;refine bU 15 rfl ?_;refine bU 16 rfl ?_;refine bU 17 rfl ?_;refine bU 18 rfl ?_;refine bU 19 rfl ?_;refine bU 20 rfl ?_;refine bU 21 rfl ?_;refine bU 22 rfl ?_;refine bU 23 rfl ?_;refine aA 24 (.bool true) rfl ?_;refine Hy (by kernel_rfl) ?_ _;go_wp2;go_ret;exact ⟨by rw [nG HALL.o hkn EG.o];rfl,by repeat (first | exact BR | refine ah ?_ (by assumption) | apply Below.drew)⟩
   by_cases hk0:k=0
   ·have EG:bY (eG c d Z k=true):=by show eG c d Z k=_;unfold eG Ac;rw [hok];simp [hk0]
    have hkf:¬ 0<k:=by omega
    clear hk0;refine aA 6 (.bool false) rfl ?_;refine aA 7 (.bool false) rfl ?_;refine aA 8 (zI (k:Int)) rfl ?_;refine dY 9 (.bool false) rfl ?_ ?_
    ·intro wx hSw;go_simp <;> omega
    refine aA 10 (.bool false) rfl ?_;refine bU 11 rfl ?_;refine bU 12 rfl ?_;refine bU 13 rfl ?_;refine bU 14 rfl ?_;refine bU 15 rfl ?_;refine bU 16 rfl ?_;refine bU 17 rfl ?_;refine bU 18 rfl ?_;refine bU 19 rfl ?_;refine bU 20 rfl ?_;refine bU 21 rfl ?_;refine bU 22 rfl ?_;refine aA 23 (.bool false) rfl ?_;refine aA 24 (.bool false) rfl ?_;refine Hy (by kernel_rfl) ?_ _;go_wp2;go_roundw
    case rel=>exact ⟨k+1,by omega,by go_num,ni HALL.o EG.o,by assumption,by repeat (first | exact BR | refine ah ?_ (by assumption) | apply Below.drew)⟩
    case measure=>simp [intOf];omega
   by_cases hlt:Z (k - 1) 0<Z k 0
   case' neg=>have hle:=Int.not_lt.1 hlt
   case' pos=>have mk0:=trivial
   all_goals
    refine aA 6 (.bool false) rfl ?_
    refine aA 7 (.bool false) rfl ?_
    refine aA 8 (zI (k:Int)) rfl ?_
    refine dY 9 (.bool true) rfl ?_ ?_
    ·intro wx hSw;go_simp <;> omega
    refine aA 10 (.bool true) rfl ?_
    refine aA 11 (.slice (some (zA b o)) n cap) rfl ?_
    refine aA 12 (zI (k:Int)) rfl ?_
    refine dY 13 (zI ((k:Int) - 1)) rfl ?_ ?_
    ·intro wx hSw;go_simp;rw [IntKind.wrap_i64];omega
    refine dY 14 (.pointer (some ⟨b,o+(k - 1) * 5,none⟩)) rfl ?_ ?_
    ·intro wx hSw;go_simp;intro h;omega
    refine aA 15 (.pointer (some ⟨b,o+(k - 1) * 5,none⟩)) rfl ?_
    refine aA 16 (zI (Z (k - 1) 0)) rfl ?_
    refine aA 17 (.slice (some (zA b o)) n cap) rfl ?_
    refine aA 18 (zI (k:Int)) rfl ?_
    refine aA 19 (.pointer (some (zA b (o+k * 5)))) rfl ?_
    refine aA 20 (.pointer (some (zA b (o+k * 5)))) rfl ?_
    refine aA 21 (zI (Z k 0)) rfl ?_
    first | (guard_hyp mk0;refine aA 22 (.bool false) rfl ?_) | (refine aA 22 (.bool true) rfl ?_)
    try simp only [aT]
    first | (guard_hyp mk0;refine aA 23 (.bool false) rfl ?_) | (refine aA 23 (.bool true) rfl ?_)
    try simp only [aT]
    first | (guard_hyp mk0;refine aA 24 (.bool false) rfl ?_) | (refine aA 24 (.bool true) rfl ?_)
    try simp only [aT]
    refine Hy (by kernel_rfl) ?_ _
    go_wp2
   ·have EG:bY (eG c d Z k=true):=by show eG c d Z k=_;unfold eG Ac;rw [hok];simp [hlt]
    go_roundw
    case rel=>exact ⟨k+1,by omega,by go_num,ni HALL.o EG.o,by assumption,by repeat (first | exact BR | refine ah ?_ (by assumption) | apply Below.drew)⟩
    case measure=>simp [intOf];omega
   have EG:bY (eG c d Z k=false):=by show eG c d Z k=_;unfold eG Ac;rw [hok];simp [hk0,hlt]
   go_ret;exact ⟨by rw [nG HALL.o hkn EG.o];rfl,by repeat (first | exact BR | refine ah ?_ (by assumption) | apply Below.drew)⟩
  have:k=n:=by omega
  subst this;go_wp2;go_ret;exact ⟨by rw [hall];rfl,by repeat (first | exact BR | refine ah ?_ (by assumption) | apply Below.drew)⟩
