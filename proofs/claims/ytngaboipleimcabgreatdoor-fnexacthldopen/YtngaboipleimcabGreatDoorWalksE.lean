/- The walks of PlcEdge and what it calls; conditions: none. -/
import Derived.Test.YtngaboipleimcabGreatDoorListOk
set_option linter.unusedVariables false
set_option maxHeartbeats 8000000
set_option maxRecDepth 20000
namespace Go.Proofs.YtngaboipleimcabGreatDoor
open Go.RowKit Go.Deep
theorem qw {W wr wf:World} {m:Nat} {ob:Obj} (h:(∀ b o,b<m->wr.cell? (zA b o)=W.cell? (zA b o))/\m<=wr.heap.size)
 (h2:(∀ b o,b<wr.heap.size+1->wf.cell? (zA b o)=(wr.alloc ob).cell? (zA b o))/\wr.heap.size+1<=wf.heap.size) :
 (∀ b o,b<m->wf.cell? (zA b o)=W.cell? (zA b o))/\m<=wf.heap.size :=
 ⟨fun b o hb=>by rw [h2.1 b o (by have:=h.2;omega),World.cell?_alloc_lt _ _ _ (by have:=h.2;simp;omega)];exact h.1 b o hb,by have:=h.2;have:=h2.2;omega⟩
theorem vP (c d:Int) (b o n cap:Nat) (Z:Nat->Nat->Int) (hn:n<=1048576) (w:World) (hb:b<w.heap.size)
 (hr:∀ k j,k<n->j<5->w.cell? (zA b (o+k * 5+j))=some (zI (Z k j))) :
 Hz 124 #[.agg #[zI c,zI d],.slice (some (zA b o)) n cap] w fun e w'=>e=.returned (.bool (allB c d Z n))/\Below w.heap.size w w':=by
 have HR:bY (∀ k j,k<n->j<5->w.cell? (zA b (o+k * 5+j))=some (zI (Z k j))):=hr;clear hr;go_enter Tryz.func124,Tryz.ntmps124;go_wp2;go_loopw [9] (fun i wr=>∃ k:Nat,k<=n/\i=zI k/\allB c d Z k=true/\((∀ b o,b<w.heap.size+1->wr.cell? (zA b o)=(w.alloc (.cells #[zI c,zI d] 44)).cell? (zA b o))/\w.heap.size+1<=wr.heap.size)/\Below w.heap.size w wr) (fun i _=>n - (intOf i).toNat)
 case atStart=>exact ⟨0,Nat.zero_le _,rfl,rfl,⟨fun _ _ _=>rfl,by simp⟩,(Hr _ _).alloc (by simp) _⟩
 case round =>
  obtain ⟨k,hk,rfl,hall,HS,BR⟩:=hrel;by_cases hkn:k<n
  ·have c0:w.cell? (zA b (o+k * 5))=some (zI (Z k 0)):=HR.o k 0 hkn (by omega);have c1:w.cell? (zA b (o+k * 5+1))=some (zI (Z k 1)):=HR.o k 1 hkn (by omega);have c2:w.cell? (zA b (o+k * 5+2))=some (zI (Z k 2)):=HR.o k 2 hkn (by omega);have c3:w.cell? (zA b (o+k * 5+3))=some (zI (Z k 3)):=HR.o k 3 hkn (by omega);have c4:w.cell? (zA b (o+k * 5+4))=some (zI (Z k 4)):=HR.o k 4 hkn (by omega);have cp:w.cell? ⟨b,o+(k - 1) * 5,none⟩=some (zI (Z (k - 1) 0)):=HR.o (k - 1) 0 (by omega) (by omega);have hb1:b<w.heap.size+1:=by omega
   have HALL:bY (allB c d Z k=true):=hall;clear hall;have hmw:w.heap.size<wr.heap.size:=HS.2;have hbwr:b<wr.heap.size:=by omega
   replace c0:=(BR.cell (p:=(zA b (o+k * 5))) hb).trans c0;replace c1:=(BR.cell (p:=(zA b (o+k * 5+1))) hb).trans c1;replace c2:=(BR.cell (p:=(zA b (o+k * 5+2))) hb).trans c2;replace c3:=(BR.cell (p:=(zA b (o+k * 5+3))) hb).trans c3;replace c4:=(BR.cell (p:=(zA b (o+k * 5+4))) hb).trans c4;replace cp:=(BR.cell (p:=⟨b,o+(k - 1) * 5,none⟩) hb).trans cp;have m0:wr.cell? (zA w.heap.size 0)=some (zI c):=(HS.1 w.heap.size 0 (by omega)).trans (by simp);have m1:wr.cell? (zA w.heap.size 1)=some (zI d):=(HS.1 w.heap.size 1 (by omega)).trans (by simp);have BR1:Below w.heap.size w (wr.alloc (.cells (zF (Z k)).toArray 67)):=BR.alloc (Nat.le_of_lt hmw) _;have HSH:bY (((∀ b o,b<w.heap.size+1->wr.cell? (zA b o)=(w.alloc (.cells #[zI c,zI d] 44)).cell? (zA b o))/\w.heap.size+1<=wr.heap.size)):=HS;clear HS BR;cases hok:jK c d (Z k 0) (Z k 1) (Z k 2) (Z k 3) (Z k 4)
   ·have EG:bY (eG c d Z k=false):=by show eG c d Z k=_;unfold eG Ac;rw [hok];rfl
    go_wp2;refine Hu (S:=fun w'=>(∀ b o,b<wr.heap.size+1->w'.cell? (zA b o)=(wr.alloc (.cells (zF (Z k)).toArray 67)).cell? (zA b o))/\wr.heap.size+1<=w'.heap.size) (by kernel_rfl) ⟨fun _ _ _=>rfl,by simp⟩ ?_;intro af;refine aA 0 (.agg #[zI c,zI d]) rfl ?_;refine aA 1 (.agg (zF (Z k)).toArray) rfl ?_;refine di 2 rfl fun K hK=>?_;go_simp;go_wp2_with (go_at_call 148;refine (jI _ _ _ _ _ _ _ _).mono ?_;rintro e w2 ⟨rfl,hbw2⟩);refine hK.out _ _ (bM (by assumption) hbw2) (fun af=>?_);clear hK K;try simp only [aT]
    refine aA 3 (.bool true) rfl ?_;refine aA 4 (.bool true) rfl ?_;refine bU 5 rfl ?_;refine bU 6 rfl ?_;refine bU 7 rfl ?_;refine bU 8 rfl ?_;refine bU 9 rfl ?_;refine bU 10 rfl ?_;refine bU 11 rfl ?_;refine bU 12 rfl ?_;refine bU 13 rfl ?_;refine bU 14 rfl ?_;refine bU 15 rfl ?_;refine bU 16 rfl ?_;refine bU 17 rfl ?_;refine aA 18 (.bool true) rfl ?_;refine Hy (by kernel_rfl) ?_ _;go_wp2;go_ret;exact ⟨by rw [nG HALL.o hkn EG.o];rfl,by repeat (first | exact BR1 | refine ah ?_ (by assumption) | apply Below.drew)⟩
   by_cases hk0:k=0
   ·have EG:bY (eG c d Z k=true):=by show eG c d Z k=_;unfold eG Ac;rw [hok];simp [hk0]
    have hkf:¬ 0<k:=by omega
    clear hk0;go_wp2;refine Hu (S:=fun w'=>(∀ b o,b<wr.heap.size+1->w'.cell? (zA b o)=(wr.alloc (.cells (zF (Z k)).toArray 67)).cell? (zA b o))/\wr.heap.size+1<=w'.heap.size) (by kernel_rfl) ⟨fun _ _ _=>rfl,by simp⟩ ?_;intro af;refine aA 0 (.agg #[zI c,zI d]) rfl ?_;refine aA 1 (.agg (zF (Z k)).toArray) rfl ?_;refine di 2 rfl fun K hK=>?_;go_simp;go_wp2_with (go_at_call 148;refine (jI _ _ _ _ _ _ _ _).mono ?_;rintro e w2 ⟨rfl,hbw2⟩);refine hK.out _ _ (bM (by assumption) hbw2) (fun af=>?_);clear hK K;try simp only [aT]
    refine aA 3 (.bool false) rfl ?_;refine aA 4 (.bool false) rfl ?_;refine aA 5 (zI (k:Int)) rfl ?_;refine dY 6 (.bool false) rfl ?_ ?_
    ·intro wx hSw;go_simp <;> omega
    refine aA 7 (.bool false) rfl ?_;refine bU 8 rfl ?_;refine bU 9 rfl ?_;refine bU 10 rfl ?_;refine bU 11 rfl ?_;refine bU 12 rfl ?_;refine bU 13 rfl ?_;refine bU 14 rfl ?_;refine bU 15 rfl ?_;refine bU 16 rfl ?_;refine aA 17 (.bool false) rfl ?_;refine aA 18 (.bool false) rfl ?_;refine Hy (by kernel_rfl) ?_ _;go_wp2;go_roundw
    case rel=>exact ⟨k+1,by omega,by go_num,ni HALL.o EG.o,qw HSH.o (by assumption),by repeat (first | exact BR1 | refine ah ?_ (by assumption) | apply Below.drew)⟩
    case measure=>simp [intOf];omega
   go_wp2;refine Hu (S:=fun w'=>(∀ b o,b<wr.heap.size+1->w'.cell? (zA b o)=(wr.alloc (.cells (zF (Z k)).toArray 67)).cell? (zA b o))/\wr.heap.size+1<=w'.heap.size) (by kernel_rfl) ⟨fun _ _ _=>rfl,by simp⟩ ?_;intro af;refine aA 0 (.agg #[zI c,zI d]) rfl ?_;refine aA 1 (.agg (zF (Z k)).toArray) rfl ?_;refine di 2 rfl fun K hK=>?_;go_simp;go_wp2_with (go_at_call 148;refine (jI _ _ _ _ _ _ _ _).mono ?_;rintro e w2 ⟨rfl,hbw2⟩);refine hK.out _ _ (bM (by assumption) hbw2) (fun af=>?_);clear hK K;try simp only [aT]
   refine aA 3 (.bool false) rfl ?_;refine aA 4 (.bool false) rfl ?_;refine aA 5 (zI (k:Int)) rfl ?_;refine dY 6 (.bool true) rfl ?_ ?_
   ·intro wx hSw;go_simp <;> omega
   refine aA 7 (.bool true) rfl ?_;refine aA 8 (.slice (some (zA b o)) n cap) rfl ?_;refine aA 9 (zI (k:Int)) rfl ?_;refine dY 10 (zI ((k:Int) - 1)) rfl ?_ ?_
   ·intro wx hSw;go_simp;rw [IntKind.wrap_i64];omega
   refine dY 11 (.pointer (some ⟨b,o+(k - 1) * 5,none⟩)) rfl ?_ ?_
   ·intro wx hSw;go_simp;intro h;omega
   refine aA 12 (.pointer (some ⟨b,o+(k - 1) * 5,none⟩)) rfl ?_;refine aA 13 (zI (Z (k - 1) 0)) rfl ?_;refine aA 14 (zP wr.heap.size 0) rfl ?_;refine aA 15 (zI (Z k 0)) rfl ?_;by_cases hlt:Z (k - 1) 0<Z k 0
   ·have EG:bY (eG c d Z k=true):=by show eG c d Z k=_;unfold eG Ac;rw [hok];simp [hlt]
    refine aA 16 (.bool false) rfl ?_;refine aA 17 (.bool false) rfl ?_;refine aA 18 (.bool false) rfl ?_;refine Hy (by kernel_rfl) ?_ _;go_wp2;go_roundw
    case rel=>exact ⟨k+1,by omega,by go_num,ni HALL.o EG.o,qw HSH.o (by assumption),by repeat (first | exact BR1 | refine ah ?_ (by assumption) | apply Below.drew)⟩
    case measure=>simp [intOf];omega
   have EG:bY (eG c d Z k=false):=by show eG c d Z k=_;unfold eG Ac;rw [hok];simp [hk0,hlt]
   have hle:=Int.not_lt.1 hlt;refine aA 16 (.bool true) rfl ?_;refine aA 17 (.bool true) rfl ?_;refine aA 18 (.bool true) rfl ?_;refine Hy (by kernel_rfl) ?_ _;go_wp2;go_ret;exact ⟨by rw [nG HALL.o hkn EG.o];rfl,by repeat (first | exact BR1 | refine ah ?_ (by assumption) | apply Below.drew)⟩
  have:k=n:=by omega
  subst this;go_wp2;go_ret;exact ⟨by rw [hall];rfl,by repeat (first | exact BR | refine ah ?_ (by assumption) | apply Below.drew)⟩
namespace P8
def fV (c d next:Int) (n:Nat) (Z:Nat->Nat->Int) (k:Nat):Bool:=jf c d (Z k 0) (Z k 1) (Z k 2) (Z k 3) (Z k 4) (Z k 5) (Z k 6) (Z k 7) && (Z k 0 == next - n+k)
def jP (c d next:Int) (n:Nat) (Z:Nat->Nat->Int):Nat->Bool
 | 0=>true
 | k+1=>jP c d next n Z k && fV c d next n Z k
def eP (c d next:Int) (n:Nat) (Z:Nat->Nat->Int):Bool:=okB c d && (inB next 0 5000 && (decide ((n:Int)<=next) && jP c d next n Z n))
theorem uF {c d next:Int} {n:Nat} {Z:Nat->Nat->Int} {k:Nat} (h:jP c d next n Z k=true) (g:fV c d next n Z k=true):jP c d next n Z (k+1)=true:=by simp [jP,h,g]
theorem tY {c d next:Int} {m:Nat} {Z:Nat->Nat->Int} {k:Nat}:∀ n,k<=n->jP c d next m Z n=true->jP c d next m Z k=true
 | 0,h,e=>by have:k=0:=by omega
             subst this;exact e
 | n+1,h,e=>by
  by_cases hk:k=n+1
  ·subst hk;exact e
  simp only [jP,Bool.and_eq_true] at e
  exact tY n (by omega) e.1
theorem kT {c d next:Int} {m:Nat} {Z:Nat->Nat->Int} {k n:Nat} (hk:k<n) (g:fV c d next m Z k=false):jP c d next m Z n=false:=by
 match e:jP c d next m Z n with
 | false=>rfl
 | true =>
  have:=tY n (show k+1<=n by omega) e;simp [jP,g] at this
theorem iJ (c d next:Int) (a:Option Addr) (n cap:Nat) (Z:Nat->Nat->Int) (hn:n<=1048576) (w:World) (hr:kC w a n Z) :
 Hz 111 #[.agg #[zI c,zI d],.slice a n cap,zI next] w fun e w'=>e=.returned (.bool (eP c d next n Z))/\Below w.heap.size w w':=by
 have HA:=fQ hr;clear hr;cases h1:okB c d
 ·go_enter Tryz.func111,Tryz.ntmps111;go_wp2_with (go_at_call 81;refine (dM _ _ _).mono ?_;rintro e w1 ⟨rfl,hb1⟩;rw [h1]);go_ret;exact ⟨by simp [eP,h1],ah ((Hr _ _).alloc (by simp) _) hb1⟩
 cases h2:inB next 0 5000
 ·go_enter Tryz.func111,Tryz.ntmps111;go_wp2_with (first | (go_at_call 81;refine (dM _ _ _).mono ?_;rintro e w1 ⟨rfl,hb1⟩;rw [h1]) | (go_at_call 24;refine (dh _ _ _ _).mono ?_;rintro e w1 ⟨rfl,rfl⟩;rw [h2]));go_ret;exact ⟨by simp [eP,h2],ah ((Hr _ _).alloc (by simp) _) hb1⟩
 have hnx:0<=next/\next<=5000:=by simpa [inB] using h2
 by_cases h3:¬ (n:Int)<=next
 ·have h3':next<(n:Int):=by omega
  have HL:bY (eP c d next n Z=false):=by show eP c d next n Z=false;simp [eP,h3]
  clear h3;go_enter Tryz.func111,Tryz.ntmps111;go_wp2_with (first | (go_at_call 81;refine (dM _ _ _).mono ?_;rintro e w1 ⟨rfl,hb1⟩;rw [h1]) | (go_at_call 24;refine (dh _ _ _ _).mono ?_;rintro e w1 ⟨rfl,rfl⟩;rw [h2]));go_ret;exact ⟨by rw [HL.o];rfl,ah ((Hr _ _).alloc (by simp) _) hb1⟩
 have h3':(n:Int)<=next:=by omega
 have m1:IntKind.wrap .i64 (next - (n:Int))=next - (n:Int):=by simp [IntKind.wrap,IntKind.bits,IntKind.signed];omega
 have m2:∀ k:Nat,k<n->IntKind.wrap .i64 (next - (n:Int)+(k:Int))=next - (n:Int)+(k:Int):=by intro k hk;simp [IntKind.wrap,IntKind.bits,IntKind.signed];omega
 have HL:bY (eP c d next n Z=jP c d next n Z n):=by show eP c d next n Z=_;simp [eP,h1,h2,h3']
 clear h3;go_enter Tryz.func111,Tryz.ntmps111;go_wp2_with (first | (go_at_call 81;refine (dM _ _ _).mono ?_;rintro e w1 ⟨rfl,hb1⟩;rw [h1]) | (go_at_call 24;refine (dh _ _ _ _).mono ?_;rintro e w1 ⟨rfl,rfl⟩;rw [h2]));have HS1:(∀ b o,b<w.heap.size+1->w1.cell? (zA b o)=(w.alloc (.cells #[zI c,zI d] 44)).cell? (zA b o))/\w.heap.size+1<=w1.heap.size:=bM ⟨fun _ _ _=>rfl,by simp⟩ hb1;have B1:Below w.heap.size w w1:=ah ((Hr _ _).alloc (by simp) _) hb1;clear hb1;go_loopw [7] (fun i wr=>∃ k:Nat,k<=n/\i=zI k/\jP c d next n Z k=true/\((∀ b o,b<w.heap.size+1->wr.cell? (zA b o)=(w.alloc (.cells #[zI c,zI d] 44)).cell? (zA b o))/\w.heap.size+1<=wr.heap.size)/\Below w.heap.size w wr) (fun i _=>n - (intOf i).toNat)
 case atStart=>exact ⟨0,Nat.zero_le _,rfl,rfl,HS1,B1⟩
 case round =>
  clear HS1 B1;obtain ⟨k,hk,rfl,hall,HS,BR⟩:=hrel;by_cases hkn:k<n
  ·have hkn':(k:Int)<(n:Int):=by omega
   obtain ⟨b,o,rfl,hb,hr⟩:=HA.o.resolve_left (by omega);have HR:=fQ hr;clear hr;have c0:=cq8 (fun j hj=>HR.o k j hkn (by omega));have hb1:b<w.heap.size+1:=by omega
   have HALL:bY (jP c d next n Z k=true):=hall;clear hall;have m3:=m2 k hkn;go_wp2;refine Hu (S:=fun w'=>(∀ b o,b<w.heap.size+1->w'.cell? (zA b o)=(w.alloc (.cells #[zI c,zI d] 44)).cell? (zA b o))/\w.heap.size+1<=w'.heap.size) (by kernel_rfl) HS ?_;intro af;refine aA 0 (.agg #[zI c,zI d]) rfl ?_;refine aA 1 (.slice (some (zA b o)) n cap) rfl ?_;refine aA 2 (zI (k:Int)) rfl ?_;refine aA 3 (.pointer (some (zA b (o+k * 8)))) rfl ?_;refine aA 4 (.agg (zE (Z k)).toArray) rfl ?_;refine di 5 rfl fun K hK=>?_;go_simp;go_wp2_with (go_at_call 104;refine (lK _ _ _ _ _ _ _ _ _ _ _).mono ?_;rintro e w2 ⟨rfl,hbw2⟩);refine hK.out _ _ (bM (by assumption) hbw2) (fun af=>?_);clear hK K;try simp only [aT]
   cases hok:jf c d (Z k 0) (Z k 1) (Z k 2) (Z k 3) (Z k 4) (Z k 5) (Z k 6) (Z k 7)
   ·have EG:bY (fV c d next n Z k=false):=by show fV c d next n Z k=_;simp [fV,hok]
    refine aA 6 (.bool true) rfl ?_;refine aA 7 (.bool true) rfl ?_;refine bU 8 rfl ?_;refine bU 9 rfl ?_;refine bU 10 rfl ?_;refine bU 11 rfl ?_;refine bU 12 rfl ?_;refine bU 13 rfl ?_;refine bU 14 rfl ?_;refine bU 15 rfl ?_;refine bU 16 rfl ?_;refine bU 17 rfl ?_;refine bU 18 rfl ?_;refine bU 19 rfl ?_;refine aA 20 (.bool true) rfl ?_;refine Hy (by kernel_rfl) ?_ _;go_wp2;go_ret;exact ⟨by rw [HL.o,kT hkn EG.o];rfl,by repeat (first | exact BR | refine ah ?_ (by assumption) | apply Below.drew)⟩
   refine aA 6 (.bool false) rfl ?_;refine aA 7 (.bool false) rfl ?_;refine aA 8 (.slice (some (zA b o)) n cap) rfl ?_;refine aA 9 (zI (k:Int)) rfl ?_;refine aA 10 (.pointer (some (zA b (o+k * 8)))) rfl ?_;refine aA 11 (.pointer (some (zA b (o+k * 8)))) rfl ?_;refine aA 12 (zI (Z k 0)) rfl ?_;refine aA 13 (zI next) rfl ?_;refine aA 14 (.slice (some (zA b o)) n cap) rfl ?_;refine aA 15 (zI (n:Int)) rfl ?_;refine aA 16 (zI (next - (n:Int))) rfl ?_;refine aA 17 (zI (k:Int)) rfl ?_;refine aA 18 (zI (next - (n:Int)+(k:Int))) rfl ?_;cases hnum:(Z k 0 != next - n+k)
   ·have EG:bY (fV c d next n Z k=true):=by show fV c d next n Z k=_;simp [fV,hok];simpa using hnum
    refine aA 19 (.bool false) rfl ?_;refine aA 20 (.bool false) rfl ?_;refine Hy (by kernel_rfl) ?_ _;go_wp2;go_roundw
    case rel=>exact ⟨k+1,by omega,by go_num,uF HALL.o EG.o,by assumption,by repeat (first | exact BR | refine ah ?_ (by assumption) | apply Below.drew)⟩
    case measure=>simp [intOf];omega
   have EG:bY (fV c d next n Z k=false):=by show fV c d next n Z k=_;simp [fV];simp at hnum;exact fun _=>hnum
   refine aA 19 (.bool true) rfl ?_;refine aA 20 (.bool true) rfl ?_;refine Hy (by kernel_rfl) ?_ _;go_wp2;go_ret;exact ⟨by rw [HL.o,kT hkn EG.o];rfl,by repeat (first | exact BR | refine ah ?_ (by assumption) | apply Below.drew)⟩
  have:k=n:=by omega
  subst this;have HALL:bY (jP c d next k Z k=true):=hall;clear hall;go_wp2;go_ret;exact ⟨by rw [HL.o,HALL.o];rfl,BR⟩
theorem lH (c d next:Int) (a:Option Addr) (n cap:Nat) (Z:Nat->Nat->Int) (hn:n<=1048576) (w:World) (hr:kC w a n Z) :
 Hz 125 #[.agg #[zI c,zI d],.slice a n cap,zI next] w fun e w'=>e=.returned (.bool (eP c d next n Z))/\Below w.heap.size w w':=by
 have HA:=fQ hr;clear hr;cases h1:okB c d
 ·go_enter Tryz.func125,Tryz.ntmps125;go_wp2_with (go_at_call 122;refine (fE _ _ _).mono ?_;rintro e w1 ⟨rfl,hb1⟩;rw [h1]);go_ret;exact ⟨by simp [eP,h1],ah ((Hr _ _).alloc (by simp) _) hb1⟩
 cases h2:inB next 0 5000
 ·go_enter Tryz.func125,Tryz.ntmps125;go_wp2_with (first | (go_at_call 122;refine (fE _ _ _).mono ?_;rintro e w1 ⟨rfl,hb1⟩;rw [h1]) | (go_at_call 74;refine (dn _ _ _ _).mono ?_;rintro e w1 ⟨rfl,rfl⟩;rw [h2]));go_ret;exact ⟨by simp [eP,h2],ah ((Hr _ _).alloc (by simp) _) hb1⟩
 have hnx:0<=next/\next<=5000:=by simpa [inB] using h2
 by_cases h3:¬ (n:Int)<=next
 ·have h3':next<(n:Int):=by omega
  have HL:bY (eP c d next n Z=false):=by show eP c d next n Z=false;simp [eP,h3]
  clear h3;go_enter Tryz.func125,Tryz.ntmps125;go_wp2_with (first | (go_at_call 122;refine (fE _ _ _).mono ?_;rintro e w1 ⟨rfl,hb1⟩;rw [h1]) | (go_at_call 74;refine (dn _ _ _ _).mono ?_;rintro e w1 ⟨rfl,rfl⟩;rw [h2]));go_ret;exact ⟨by rw [HL.o];rfl,ah ((Hr _ _).alloc (by simp) _) hb1⟩
 have h3':(n:Int)<=next:=by omega
 have m1:IntKind.wrap .i64 (next - (n:Int))=next - (n:Int):=by simp [IntKind.wrap,IntKind.bits,IntKind.signed];omega
 have m2:∀ k:Nat,k<n->IntKind.wrap .i64 (next - (n:Int)+(k:Int))=next - (n:Int)+(k:Int):=by intro k hk;simp [IntKind.wrap,IntKind.bits,IntKind.signed];omega
 have HL:bY (eP c d next n Z=jP c d next n Z n):=by show eP c d next n Z=_;simp [eP,h1,h2,h3']
 clear h3;go_enter Tryz.func125,Tryz.ntmps125;go_wp2_with (first | (go_at_call 122;refine (fE _ _ _).mono ?_;rintro e w1 ⟨rfl,hb1⟩;rw [h1]) | (go_at_call 74;refine (dn _ _ _ _).mono ?_;rintro e w1 ⟨rfl,rfl⟩;rw [h2]));have hfirst:True:=trivial;have HS1:(∀ b o,b<w.heap.size+1->w1.cell? (zA b o)=(w.alloc (.cells #[zI c,zI d] 44)).cell? (zA b o))/\w.heap.size+1<=w1.heap.size:=bM ⟨fun _ _ _=>rfl,by simp⟩ hb1;have B1:Below w.heap.size w w1:=ah ((Hr _ _).alloc (by simp) _) hb1;clear hb1;go_loopw [30] (fun i wr=>∃ k:Nat,k<=n/\i=zI k/\jP c d next n Z k=true/\((∀ b o,b<w.heap.size+1->wr.cell? (zA b o)=(w.alloc (.cells #[zI c,zI d] 44)).cell? (zA b o))/\w.heap.size+1<=wr.heap.size)/\Below w.heap.size w wr) (fun i _=>n - (intOf i).toNat)
 case atStart=>exact ⟨0,Nat.zero_le _,rfl,rfl,HS1,B1⟩
 case round =>
  clear HS1 B1;obtain ⟨k,hk,rfl,hall,HS,BR⟩:=hrel;obtain ⟨HSa,HSb⟩:=HS;by_cases hkn:k<n
  ·have hkn':(k:Int)<(n:Int):=by omega
   obtain ⟨b,o,rfl,hb,hr⟩:=HA.o.resolve_left (by omega);have HR:=fQ hr;clear hr;have c0:=cq8 (fun j hj=>HR.o k j hkn (by omega));have hb1:b<w.heap.size+1:=by omega
   have HALL:bY (jP c d next n Z k=true):=hall;clear hall;have m3:=m2 k hkn;have hlw:w.heap.size<wr.heap.size:=by omega
   have KS:bY ((∀ b o,b<w.heap.size+1->(wr.alloc (.cells (zE (Z k)).toArray 69)).cell? (zA b o)=(w.alloc (.cells #[zI c,zI d] 44)).cell? (zA b o))/\w.heap.size+1<=(wr.alloc (.cells (zE (Z k)).toArray 69)).heap.size):=bM ⟨HSa,HSb⟩ ((Hr _ _).alloc (Ho _) _);have BK:bY (Below w.heap.size w (wr.alloc (.cells (zE (Z k)).toArray 69))):=BR.alloc (by omega) _;cases hnum:(Z k 0 != next - n+k)
   ·cases hok:jf c d (Z k 0) (Z k 1) (Z k 2) (Z k 3) (Z k 4) (Z k 5) (Z k 6) (Z k 7)
    ·have EG:bY (fV c d next n Z k=false):=by show fV c d next n Z k=_;simp [fV,hok]
     go_wp2_with (go_at_call 135;refine (ou _ _ _ _ _ _ _ _ _ _ _).mono ?_;rintro e w2 ⟨rfl,hb2⟩);go_ret;exact ⟨by rw [HL.o,kT hkn EG.o];rfl,ah BK.o hb2⟩
    have EG:bY (fV c d next n Z k=true):=by show fV c d next n Z k=_;simp [fV,hok];simpa using hnum
    go_wp2_with (go_at_call 135;refine (ou _ _ _ _ _ _ _ _ _ _ _).mono ?_;rintro e w2 ⟨rfl,hb2⟩);go_roundw
    case rel=>exact ⟨k+1,by omega,by go_num,uF HALL.o EG.o,bM KS.o hb2,ah BK.o hb2⟩
    case measure=>simp [intOf];omega
   have EG:bY (fV c d next n Z k=false):=by show fV c d next n Z k=_;simp [fV];simp at hnum;exact fun _=>hnum
   go_wp2;go_ret;exact ⟨by rw [HL.o,kT hkn EG.o];rfl,BK.o⟩
  have:k=n:=by omega
  subst this;have HALL:bY (jP c d next k Z k=true):=hall;clear hall;go_wp2;go_ret;exact ⟨by rw [HL.o,HALL.o];rfl,BR⟩
end P8
def bn (s:Int):Int:=if s=0 then -1 else if s=1 then 1 else 0
def hasB (c d k:Int):Bool:=okB c d && inB k 0 (c - 1)
def bf (c d k s:Int):Int:=if hasB c d k=true/\¬ bn s=0/\hasB c d (k+bn s)=true then k+bn s else -1
theorem mZ (s:Int) (w:World) :
 Hz 149 #[zI s] w fun e w'=>e=.returned (zI (bn s))/\w'=w:=by
 by_cases h0:s=0
 ·subst h0;go_enter Tryz.func149,Tryz.ntmps149;go_wp2;go_ret;exact ⟨rfl,rfl⟩
 by_cases h1:s=1
 ·subst h1;go_enter Tryz.func149,Tryz.ntmps149;go_wp2;go_ret;exact ⟨rfl,rfl⟩
 have e0:(s == 0)=false:=by simpa using h0
 have e1:(s == 1)=false:=by simpa using h1
 go_enter Tryz.func149,Tryz.ntmps149;go_wp2;go_ret;exact ⟨by simp [bn,h0,h1],rfl⟩
theorem gV (c d k:Int) (w:World) :
 Hz 105 #[.agg #[zI c,zI d],zI k] w fun e w'=>e=.returned (.bool (hasB c d k))/\Below w.heap.size w w':=by
 cases h:okB c d
 ·go_enter Tryz.func105,Tryz.ntmps105;go_wp2_with fail;refine (fE _ _ _).mono ?_;rintro e w1 ⟨rfl,hb1⟩;go_wp2;go_ret;exact ⟨by simp [hasB,h],ah ((Hr _ _).alloc (by simp) _) hb1⟩
 obtain ⟨a1,a2,a3,a4⟩:=fD h;go_enter Tryz.func105,Tryz.ntmps105;go_wp2_with fail;refine (fE _ _ _).mono ?_;rintro e w1 ⟨rfl,hb1⟩;obtain ⟨hc1,hf1⟩:=cu hb1;go_wp2_with (go_at_call 74;refine (dn _ _ _ _).mono ?_;rintro e w' ⟨rfl,rfl⟩);go_ret;exact ⟨by simp [hasB,h],ah ((Hr _ _).alloc (by simp) _) hb1⟩
theorem fJ {c d k:Int} (h:hasB c d k=true):2<=c/\c<=4/\2<=d/\d<=8/\0<=k/\k<=c - 1:=by
 simp only [hasB,Bool.and_eq_true,aY] at h;have:=fD h.1;omega
theorem jW (s:Int):bn s=-1∨bn s=1∨bn s=0:=by
 unfold bn;split
 ·simp
 split <;> simp
theorem jv (c d k s:Int) (w:World) :
 Hz 126 #[zI s,.agg #[zI c,zI d],zI k] w fun e w'=>e=.returned (zI (bf c d k s))/\Below w.heap.size w w':=by
 by_cases hs:bn s=0
 ·go_enter Tryz.func126,Tryz.ntmps126;go_wp2_with fail;refine (mZ _ _).mono ?_;rintro e w1 ⟨rfl,rfl⟩;go_wp2;go_ret;exact ⟨by simp [bf,hs],(Hr _ _).alloc (by simp) _⟩
 have hs0:(bn s == 0)=false:=by simpa using hs
 cases h:hasB c d k
 ·go_enter Tryz.func126,Tryz.ntmps126;go_wp2_with fail;refine (mZ _ _).mono ?_;rintro e w1 ⟨rfl,rfl⟩;go_wp2_with fail;refine (gV _ _ _ _).mono ?_;rintro e w2 ⟨rfl,hb2⟩;go_wp2;go_ret;exact ⟨by simp [bf,h],ah ((Hr _ _).alloc (by simp) _) hb2⟩
 obtain ⟨a1,a2,a3,a4,a5,a6⟩:=fJ h;have s1:-1<=bn s:=by have:=jW s;omega
 have s2:bn s<=1:=by have:=jW s;omega
 cases h2:hasB c d (k+bn s);all_goals
  go_enter Tryz.func126,Tryz.ntmps126
  go_wp2_with fail
  refine (mZ _ _).mono ?_
  rintro e w1 ⟨rfl,rfl⟩
  go_wp2_with fail
  refine (gV _ _ _ _).mono ?_
  rintro e w2 ⟨rfl,hb2⟩
  obtain ⟨hc2,hf2⟩:=cu hb2
  go_wp2_with fail
  refine (gV _ _ _ _).mono ?_
  rintro e w3 ⟨rfl,hb3⟩
  go_wp2
  go_ret
  exact ⟨by simp [bf,h,h2,hs],ah (ah ((Hr _ _).alloc (by simp) _) hb2) hb3⟩
theorem uO (c d k s:Int) (w:World) :
 Hz 151 #[.agg #[zI c,zI d],zI k,zI s] w fun e w'=>e=.returned (zI (bf c d k s))/\Below w.heap.size w w':=by
 go_enter Tryz.func151,Tryz.ntmps151;go_wp2_with fail;refine (jv _ _ _ _ _).mono ?_;rintro e w1 ⟨rfl,hb1⟩;go_wp2;go_ret;exact ⟨rfl,ah ((Hr _ _).alloc (by simp) _) hb1⟩
theorem kQ {c d k:Int} (h:okB c d=true):hasB c d k=true↔(0<=k/\k<=c - 1):=by
 simp [hasB,h,aY]
theorem uh {c d k:Int} (h:hasB c d k=true):bf c d k 0=if 0<k then k - 1 else -1:=by
 obtain ⟨a1,a2,a3,a4,a5,a6⟩:=fJ h;have ho:okB c d=true:=by simp only [hasB,Bool.and_eq_true] at h;exact h.1
 have e:bn 0=-1:=rfl;unfold bf;rw [e];by_cases g:0<k
 ·rw [if_pos g,if_pos ⟨h,by decide,(kQ ho).2 (by omega)⟩];omega
 rw [if_neg g,if_neg];rintro ⟨_,_,h3⟩;have:=(kQ ho).1 h3;omega
theorem sS {c d k:Int} (h:hasB c d k=true):bf c d k 1=if k<c - 1 then k+1 else -1:=by
 obtain ⟨a1,a2,a3,a4,a5,a6⟩:=fJ h;have ho:okB c d=true:=by simp only [hasB,Bool.and_eq_true] at h;exact h.1
 have e:bn 1=1:=rfl;unfold bf;rw [e];by_cases g:k<c - 1
 ·rw [if_pos g,if_pos ⟨h,by decide,(kQ ho).2 (by omega)⟩]
 rw [if_neg g,if_neg];rintro ⟨_,_,h3⟩;have:=(kQ ho).1 h3;omega
theorem zf {c d k s:Int} (h0:¬ s=0) (h1:¬ s=1):bf c d k s=-1:=by
 have e:bn s=0:=by simp [bn,h0,h1]
 simp [bf,e]
theorem bT (c d k s:Int) (w:World) :
 Hz 97 #[.agg #[zI c,zI d],zI k,zI s] w fun e w'=>e=.returned (zI (bf c d k s))/\Below w.heap.size w w':=by
 cases h:okB c d
 ·go_enter Tryz.func97,Tryz.ntmps97;go_wp2_with fail;refine (dM _ _ _).mono ?_;rintro e w1 ⟨rfl,hb1⟩;go_wp2;go_ret;exact ⟨by simp [bf,hasB,h],ah ((Hr _ _).alloc (by simp) _) hb1⟩
 obtain ⟨a1,a2,a3,a4⟩:=fD h;cases hin:inB k 0 (c - 1)
 ·go_enter Tryz.func97,Tryz.ntmps97;go_wp2_with fail;refine (dM _ _ _).mono ?_;rintro e w1 ⟨rfl,hb1⟩;obtain ⟨hc1,hf1⟩:=cu hb1;go_wp2_with (go_at_call 24;refine (dh _ _ _ _).mono ?_;rintro e w' ⟨rfl,rfl⟩);go_ret;exact ⟨by simp [bf,hasB,h,hin],ah ((Hr _ _).alloc (by simp) _) hb1⟩
 obtain ⟨i1,i2⟩:=aY.1 hin;have hh:hasB c d k=true:=by simp [hasB,h,hin]
 by_cases h0:s=0
 ·subst h0;have E:bY (bf c d k 0=if 0<k then k - 1 else -1):=uh hh;clear hh;by_cases g:0<k;all_goals
   go_enter Tryz.func97,Tryz.ntmps97
   go_wp2_with fail
   refine (dM _ _ _).mono ?_
   rintro e w1 ⟨rfl,hb1⟩
   obtain ⟨hc1,hf1⟩:=cu hb1
   go_wp2_with (go_at_call 24;refine (dh _ _ _ _).mono ?_;rintro e w' ⟨rfl,rfl⟩)
   go_ret
   exact ⟨by rw [E.o];simp [g] <;> omega,ah ((Hr _ _).alloc (by simp) _) hb1⟩
 have e0:(s == 0)=false:=by simpa using h0
 by_cases h1:s=1
 ·subst h1;have E:bY (bf c d k 1=if k<c - 1 then k+1 else -1):=sS hh;clear hh h0 e0;by_cases g:k<c - 1;all_goals
   go_enter Tryz.func97,Tryz.ntmps97
   go_wp2_with fail
   refine (dM _ _ _).mono ?_
   rintro e w1 ⟨rfl,hb1⟩
   obtain ⟨hc1,hf1⟩:=cu hb1
   go_wp2_with (go_at_call 24;refine (dh _ _ _ _).mono ?_;rintro e w' ⟨rfl,rfl⟩)
   go_ret
   exact ⟨by rw [E.o];simp [g] <;> omega,ah ((Hr _ _).alloc (by simp) _) hb1⟩
 have e1:(s == 1)=false:=by simpa using h1
 have E:bY (bf c d k s=-1):=zf h0 h1;clear hh;go_enter Tryz.func97,Tryz.ntmps97;go_wp2_with fail;refine (dM _ _ _).mono ?_;rintro e w1 ⟨rfl,hb1⟩;obtain ⟨hc1,hf1⟩:=cu hb1;go_wp2_with (go_at_call 24;refine (dh _ _ _ _).mono ?_;rintro e w' ⟨rfl,rfl⟩);go_ret;exact ⟨by rw [E.o];rfl,ah ((Hr _ _).alloc (by simp) _) hb1⟩
def iM (p:Nat->Bool):Nat->Bool
 | 0=>true
 | k+1=>iM p k && p k
theorem ja {p:Nat->Bool} {k:Nat} (h:iM p k=true) (g:p k=true):iM p (k+1)=true:=by simp [iM,h,g]
theorem qj {p:Nat->Bool} {k:Nat}:∀ n,k<=n->iM p n=true->iM p k=true
 | 0,h,e=>by have:k=0:=by omega
             subst this;exact e
 | n+1,h,e=>by
  by_cases hk:k=n+1
  ·subst hk;exact e
  simp only [iM,Bool.and_eq_true] at e
  exact qj n (by omega) e.1
theorem kK {p:Nat->Bool} {k n:Nat} (hk:k<n) (g:p k=false):iM p n=false:=by
 match e:iM p n with
 | false=>rfl
 | true =>
  have:=qj n (show k+1<=n by omega) e;simp [iM,g] at this
theorem L9 (c d:Int) (a:Option Addr) (n cap:Nat) (Z:Nat->Nat->Int) (hn:n<=1048576) (w:World) (h:lJ w a n Z) :
 Hz 124 #[.agg #[zI c,zI d],.slice a n cap] w fun e w'=>e=.returned (.bool (allB c d Z n))/\Below w.heap.size w w':=by
 rcases h with rfl | ⟨b,o,rfl,hb,hr⟩
 ·go_enter Tryz.func124,Tryz.ntmps124;go_wp2;refine wp_loop_rounds 1 ?_;rw [rounds_succ];go_wp2;go_ret;exact ⟨rfl,(Hr _ _).alloc (by simp) _⟩
 exact vP c d b o n cap Z hn w hb hr
theorem dV (c d VC VG:Int) (a:Option Addr) (n cap:Nat) (W:Nat->Nat->Int) (x3 x4 x5:Value) (hn:n<=1048576) (w:World) (hr:lJ w a n W) :
 Hz 106 #[.agg #[zI VC,.slice a n cap,zI VG,x3,x4,x5],.agg #[zI c,zI d]] w fun e w'=>e=.returned (.bool (iM (fun k=>!(aQ c d (W k 1) != VC)) n && allB c d W n))/\Below w.heap.size w w':=by
 have HA:=fQ hr;clear hr;go_enter Tryz.func106,Tryz.ntmps106;go_wp2;go_loopw [10] (fun i wr=>∃ k:Nat,k<=n/\i=zI k/\iM (fun k=>!(aQ c d (W k 1) != VC)) k=true/\((∀ g i,g<w.heap.size+1+1->wr.cell? (zA g i)=((w.alloc (.cells #[zI VC,.slice a n cap,zI VG,x3,x4,x5] 36)).alloc (.cells #[zI c,zI d] 44)).cell? (zA g i))/\w.heap.size+1+1<=wr.heap.size)/\Below w.heap.size w wr) (fun i _=>n - (intOf i).toNat)
 case atStart=>exact ⟨0,Nat.zero_le _,rfl,rfl,⟨fun _ _ _=>rfl,by simp⟩,((Hr _ _).alloc (by simp) _).alloc (by simp) _⟩
 case round =>
  obtain ⟨k,hk,rfl,hall,HS,BR⟩:=hrel;have HALL:bY (iM (fun k=>!(aQ c d (W k 1) != VC)) k=true):=hall;clear hall;have hmw:w.heap.size+1<wr.heap.size:=HS.2;have hmw0:w.heap.size<wr.heap.size:=by omega
  have m0:wr.cell? (zA (w.heap.size+1) 0)=some (zI c):=(HS.1 (w.heap.size+1) 0 (by omega)).trans (by simp);have m1:wr.cell? (zA (w.heap.size+1) 1)=some (zI d):=(HS.1 (w.heap.size+1) 1 (by omega)).trans (by simp);have v0:wr.cell? (zA w.heap.size 0)=some (zI VC):=(HS.1 w.heap.size 0 (by omega)).trans (by simp);have v1:wr.cell? (zA w.heap.size 1)=some (.slice a n cap):=(HS.1 w.heap.size 1 (by omega)).trans (by simp);have HSH:bY ((∀ g i,g<w.heap.size+1+1->wr.cell? (zA g i)=((w.alloc (.cells #[zI VC,.slice a n cap,zI VG,x3,x4,x5] 36)).alloc (.cells #[zI c,zI d] 44)).cell? (zA g i))/\w.heap.size+1+1<=wr.heap.size):=HS;clear HS;by_cases hkn:k<n
  ·have hkn':(k:Int)<n:=by omega
   obtain ⟨b,o,rfl,hb,hr⟩:=HA.o.resolve_left (by omega);have HR:=fQ hr;clear hr;have hbwr:b<wr.heap.size:=by omega
   have c0:=cq5 (fun j hj=>(BR.cell (p:=⟨b,_,none⟩) hb).trans (HR.o k j hkn (by omega)));have BR1:Below w.heap.size w (wr.alloc (.cells (zF (W k)).toArray 67)):=BR.alloc (by omega) _;clear BR;go_wp2;refine Hu (S:=fun w'=>(∀ b o,b<wr.heap.size+1->w'.cell? (zA b o)=(wr.alloc (.cells (zF (W k)).toArray 67)).cell? (zA b o))/\wr.heap.size+1<=w'.heap.size) (by kernel_rfl) ⟨fun _ _ _=>rfl,by simp⟩ ?_;intro af;refine aA 0 (.agg #[zI c,zI d]) rfl ?_;refine aA 1 (zP wr.heap.size 1) rfl ?_;refine aA 2 (zI (W k 1)) rfl ?_;refine aA 4 (zP w.heap.size 0) rfl ?_;refine aA 5 (zI VC) rfl ?_;refine di 3 rfl fun K hK=>?_;go_simp;go_wp2_with (go_at_call 123;refine (gG _ _ _ _).mono ?_;rintro e w2 ⟨rfl,hbw2⟩);refine hK.out _ _ (bM (by assumption) hbw2) (fun af=>?_);clear hK K;try simp only [aT]
   cases hp:(aQ c d (W k 1) != VC)
   ·refine aA 6 (.bool false) rfl ?_;refine Hy (by kernel_rfl) ?_ _;go_wp2;go_roundw
    case rel=>exact ⟨k+1,by omega,by go_num,ja HALL.o (by simp [hp]),qw HSH.o (by assumption),by repeat (first | exact BR1 | refine ah ?_ (by assumption) | apply Below.drew)⟩
    case measure=>simp [intOf];omega
   refine aA 6 (.bool true) rfl ?_;refine Hy (by kernel_rfl) ?_ _;go_wp2;go_ret;exact ⟨by rw [kK hkn (by simp [hp])];rfl,by repeat (first | exact BR1 | refine ah ?_ (by assumption) | apply Below.drew)⟩
  have:k=n:=by omega
  subst this;go_wp2_with fail;refine (L9 c d a k cap W hn _ (iV HA.o BR)).mono ?_;rintro e w2 ⟨rfl,hb2⟩;go_wp2;go_ret;exact ⟨by rw [HALL.o,Bool.true_and];rfl,ah BR hb2⟩
theorem uw (a s:Int) (w:World) (h1:-9223372036854775807<=a) (h2:a<=9223372036854775806) :
 Hz 183 #[zI a,zI s] w fun e w'=>e=.returned (zI (a+bn s))/\w'=w:=by
 have s1:-1<=bn s:=by have:=jW s;omega
 have s2:bn s<=1:=by have:=jW s;omega
 go_enter Tryz.func183,Tryz.ntmps183;go_wp2_with fail;refine (mZ _ _).mono ?_;rintro e w1 ⟨rfl,rfl⟩;go_wp2;go_ret;exact ⟨rfl,rfl⟩
def iC (c d a s:Int):Bool:=decide (¬ bf c d (aQ c d a) s=-1) && (aQ c d (a+bn s) == bf c d (aQ c d a) s)
theorem Du {c d a:Int} (h:¬ aQ c d a=-1):0<=a/\a<=31/\okB c d=true:=by
 unfold aQ at h;split at h
 ·rename_i g;have:=jl g.1;have:=aY.1 g.2;exact ⟨by omega,by omega,g.1⟩
 exact absurd rfl h
theorem oH {c d k s:Int} (h:¬ bf c d k s=-1):hasB c d k=true/\¬ bn s=0:=by
 unfold bf at h;split at h
 ·rename_i g;exact ⟨g.1,g.2.1⟩
 exact absurd rfl h
theorem Ea {c d a s:Int} (h:¬ bf c d (aQ c d a) s=-1):0<=a/\a<=31:=by
 have h1:=(oH h).1;have h2:¬ aQ c d a=-1:=by
  intro e;rw [e] at h1;have:=fJ h1;omega
 have:=Du h2;exact ⟨this.1,this.2.1⟩
theorem AA (c d a s:Int) (w:World) :
 Hz 199 #[zI a,.agg #[zI c,zI d],zI s] w fun e w'=>e=.returned (.bool (iC c d a s))/\Below w.heap.size w w':=by
 by_cases hg:bf c d (aQ c d a) s=-1
 ·have E:bY (iC c d a s=false):=by show iC c d a s=false;simp [iC,hg]
  have hg':(bf c d (aQ c d a) s != -1)=false:=by simp [hg]
  clear hg;go_enter Tryz.func199,Tryz.ntmps199;go_wp2;go_region_held3 (fun w'=>w'.cell? (zA w.heap.size 0)=some (zI c)/\w'.cell? (zA w.heap.size 1)=some (zI d)/\w.heap.size<w'.heap.size) (refine ⟨?_,?_,?_⟩ <;> simp_all <;> omega)
   (first
    | (go_at_call 147;refine (lm _ _ _ _).mono ?_;rintro e w' ⟨rfl,hb⟩;obtain ⟨hc,hf⟩:=cu hb;have hz:=hb.size)
    | (go_at_call 126;refine (jv _ _ _ _ _).mono ?_;rintro e w' ⟨rfl,hb⟩;obtain ⟨hc,hf⟩:=cu hb;have hz:=hb.size))
  go_wp2;go_quiet (fail);go_wp2;go_ret;exact ⟨by rw [E.o];rfl,by repeat (first | exact Hr _ _ | refine ah ?_ (by assumption) | apply Below.drew | apply bZ | refine Below.alloc ?_ (by simp) _)⟩
 obtain ⟨b1,b2⟩:=Ea hg;have E:bY (iC c d a s=(aQ c d (a+bn s) == bf c d (aQ c d a) s)):=by show iC c d a s=_;simp [iC,hg]
 have hg':(bf c d (aQ c d a) s != -1)=true:=by simp [hg]
 clear hg;go_enter Tryz.func199,Tryz.ntmps199;go_wp2;go_region_held3 (fun w'=>w'.cell? (zA w.heap.size 0)=some (zI c)/\w'.cell? (zA w.heap.size 1)=some (zI d)/\w.heap.size<w'.heap.size) (refine ⟨?_,?_,?_⟩ <;> simp_all <;> omega)
  (first
   | (go_at_call 147;refine (lm _ _ _ _).mono ?_;rintro e w' ⟨rfl,hb⟩;obtain ⟨hc,hf⟩:=cu hb;have hz:=hb.size)
   | (go_at_call 126;refine (jv _ _ _ _ _).mono ?_;rintro e w' ⟨rfl,hb⟩;obtain ⟨hc,hf⟩:=cu hb;have hz:=hb.size))
 go_wp2;go_region_held3 (fun w'=>w'.cell? (zA w.heap.size 0)=some (zI c)/\w'.cell? (zA w.heap.size 1)=some (zI d)/\w.heap.size<w'.heap.size) (refine ⟨?_,?_,?_⟩ <;> simp_all <;> omega)
  (first
   | (go_at_call 183;refine (uw _ _ _ (by omega) (by omega)).mono ?_;rintro e w' ⟨rfl,rfl⟩)
   | (go_at_call 147;refine (lm _ _ _ _).mono ?_;rintro e w' ⟨rfl,hb⟩;obtain ⟨hc,hf⟩:=cu hb;have hz:=hb.size))
 all_goals
  go_wp2
  go_ret
  exact ⟨by rw [E.o];rfl,by repeat (first | exact Hr _ _ | refine ah ?_ (by assumption) | apply Below.drew | apply bZ | refine Below.alloc ?_ (by simp) _)⟩
theorem oL (c d a s:Int) (w:World) :
 Hz 188 #[.agg #[zI c,zI d],zI a,zI s] w fun e w'=>e=.returned (.bool (iC c d a s))/\Below w.heap.size w w':=by
 go_enter Tryz.func188,Tryz.ntmps188;go_wp2_with fail;refine (AA _ _ _ _ _).mono ?_;rintro e w1 ⟨rfl,hb1⟩;go_wp2;go_ret;exact ⟨rfl,ah ((Hr _ _).alloc (by simp) _) hb1⟩
theorem wH {c d a:Int} (h:okB c d=true) (h0:0<=a) (h1:a<=c * d - 1):aQ c d a=a / d:=by
 unfold aQ;rw [if_pos ⟨h,aY.2 ⟨h0,h1⟩⟩]
theorem ug {c d a:Int} (h:¬ aQ c d a=-1):okB c d=true/\0<=a/\a<=c * d - 1/\aQ c d a=a / d:=by
 unfold aQ at h ⊢;split at h
 ·rename_i g;rw [if_pos g];have:=aY.1 g.2;exact ⟨g.1,this.1,this.2,rfl⟩
 exact absurd rfl h
theorem jX {c d:Int} (h:okB c d=true):d=2∨d=3∨d=4∨d=5∨d=6∨d=7∨d=8:=by
 have:=fD h;omega
theorem AX {c d a:Int} (h:¬ bf c d (aQ c d a) 0=-1):iC c d a 0=(a == aQ c d a * d)/\0<=aQ c d a * d/\aQ c d a * d<=31:=by
 have h1:=(oH h).1;have h2:¬ aQ c d a=-1:=by
  intro e;rw [e] at h1;have:=fJ h1;omega
 obtain ⟨ho,a0,a1,ev⟩:=ug h2;have hs:=uh h1;have hb:=fJ h1;have hc:=fD ho;have hk:0<aQ c d a:=by
  by_cases g:0<aQ c d a
  ·exact g
  rw [if_neg g] at hs;exact absurd hs h
 rw [if_pos hk] at hs;have hm:=jl ho;unfold iC;rw [hs,show bn 0=-1 from rfl];have e1:(decide (¬ aQ c d a - 1=-1))=true:=by simp;omega
 rw [e1,Bool.true_and];have a2:1<=a:=by
  rcases jX ho with rfl | rfl | rfl | rfl | rfl | rfl | rfl <;> omega
 rw [wH ho (by omega) (by omega),ev];refine ⟨?_,?_,?_⟩
 ·rw [Bool.eq_iff_iff];simp only [beq_iff_eq];rw [ev] at hk;rcases jX ho with rfl | rfl | rfl | rfl | rfl | rfl | rfl <;> omega
 ·rcases jX ho with rfl | rfl | rfl | rfl | rfl | rfl | rfl <;> omega
 rcases jX ho with rfl | rfl | rfl | rfl | rfl | rfl | rfl <;> omega
theorem wZ {c d a:Int} (h:¬ bf c d (aQ c d a) 1=-1):iC c d a 1=(a == aQ c d a * d+d - 1)/\0<=aQ c d a * d/\aQ c d a * d<=31/\2<=d/\d<=8:=by
 have h1:=(oH h).1;have h2:¬ aQ c d a=-1:=by
  intro e;rw [e] at h1;have:=fJ h1;omega
 obtain ⟨ho,a0,a1,ev⟩:=ug h2;have hs:=sS h1;have hb:=fJ h1;have hc:=fD ho;have hk:aQ c d a<c - 1:=by
  by_cases g:aQ c d a<c - 1
  ·exact g
  rw [if_neg g] at hs;exact absurd hs h
 rw [if_pos hk] at hs;have hm:=jl ho;unfold iC;rw [hs,show bn 1=1 from rfl];have e1:(decide (¬ aQ c d a+1=-1))=true:=by simp;omega
 rw [e1,Bool.true_and];have a2:a+1<=c * d - 1:=by
  rw [ev] at hk;rcases jX ho with rfl | rfl | rfl | rfl | rfl | rfl | rfl <;> omega
 rw [wH ho (by omega) (by omega),ev];refine ⟨?_,?_,?_,by omega,by omega⟩
 ·rw [Bool.eq_iff_iff];simp only [beq_iff_eq];rcases jX ho with rfl | rfl | rfl | rfl | rfl | rfl | rfl <;> omega
 ·rcases jX ho with rfl | rfl | rfl | rfl | rfl | rfl | rfl <;> omega
 rcases jX ho with rfl | rfl | rfl | rfl | rfl | rfl | rfl <;> omega
theorem zB {c d a s:Int} (h:bf c d (aQ c d a) s=-1):iC c d a s=false:=by simp [iC,h]
theorem zW {c d a s:Int} (h:¬ bf c d (aQ c d a) s=-1):s=0∨s=1:=by
 have:=(oH h).2;unfold bn at this;split at this
 ·left;assumption
 split at this
 ·right;assumption
 exact absurd rfl this
theorem uV (c d a s:Int) (w:World) :
 Hz 162 #[.agg #[zI c,zI d],zI a,zI s] w fun e w'=>e=.returned (.bool (iC c d a s))/\Below w.heap.size w w':=by
 by_cases hg:bf c d (aQ c d a) s=-1
 ·have E:bY (iC c d a s=false):=zB hg;have hg':(bf c d (aQ c d a) s == -1)=true:=by simp [hg]
  clear hg;go_enter Tryz.func162,Tryz.ntmps162;go_wp2_with fail;refine (dD _ _ _ _).mono ?_;rintro e w1 ⟨rfl,hb1⟩;obtain ⟨hc1,hf1⟩:=cu hb1;have hz1:w.heap.size<w1.heap.size:=by have:=hb1.size;simp at this;omega
  go_wp2_with fail;refine (bT _ _ _ _ _).mono ?_;rintro e w2 ⟨rfl,hb2⟩;obtain ⟨hc2,hf2⟩:=cu hb2;go_wp2;go_ret;exact ⟨by rw [E.o];rfl,ah (ah ((Hr _ _).alloc (by simp) _) hb1) hb2⟩
 have hg':(bf c d (aQ c d a) s == -1)=false:=by simpa using hg
 rcases zW hg with rfl | rfl
 ·obtain ⟨E0,p1,p2⟩:=AX hg;have E:bY (iC c d a 0=(a == aQ c d a * d)):=E0;clear hg E0;go_enter Tryz.func162,Tryz.ntmps162;go_wp2_with fail;refine (dD _ _ _ _).mono ?_;rintro e w1 ⟨rfl,hb1⟩;obtain ⟨hc1,hf1⟩:=cu hb1;have hz1:w.heap.size<w1.heap.size:=by have:=hb1.size;simp at this;omega
  go_wp2_with fail;refine (bT _ _ _ _ _).mono ?_;rintro e w2 ⟨rfl,hb2⟩;obtain ⟨hc2,hf2⟩:=cu hb2;go_wp2;all_goals
   go_ret
   exact ⟨by rw [E.o];first | rfl | simp [*],ah (ah ((Hr _ _).alloc (by simp) _) hb1) hb2⟩
 obtain ⟨E0,p1,p2,p3,p4⟩:=wZ hg;have E:bY (iC c d a 1=(a == aQ c d a * d+d - 1)):=E0;clear hg E0;go_enter Tryz.func162,Tryz.ntmps162;go_wp2_with fail;refine (dD _ _ _ _).mono ?_;rintro e w1 ⟨rfl,hb1⟩;obtain ⟨hc1,hf1⟩:=cu hb1;have hz1:w.heap.size<w1.heap.size:=by have:=hb1.size;simp at this;omega
 go_wp2_with fail;refine (bT _ _ _ _ _).mono ?_;rintro e w2 ⟨rfl,hb2⟩;obtain ⟨hc2,hf2⟩:=cu hb2;go_wp2;all_goals
  go_ret
  exact ⟨by rw [E.o];first | rfl | simp [*],ah (ah ((Hr _ _).alloc (by simp) _) hb1) hb2⟩
