/- The walks of CllOk's parts, the program's: the walkers; conditions: the walkers lie in memory. -/
import Derived.Test.YtngaboipleimcaaGreatDoorListOk2
set_option linter.unusedVariables false
set_option maxHeartbeats 8000000
set_option maxRecDepth 20000
namespace Go.Proofs.YtngaboipleimcaaGreatDoor
namespace P8
open Go.RowKit Go.Deep
def fV (c d next:Int) (n:Nat) (Z:Nat→Nat→Int) (k:Nat):Bool:=jf c d (Z k 0) (Z k 1) (Z k 2) (Z k 3) (Z k 4) (Z k 5) (Z k 6) (Z k 7) && (Z k 0 == next - n+k)
def jP (c d next:Int) (n:Nat) (Z:Nat→Nat→Int):Nat→Bool
 | 0=>true
 | k+1=>jP c d next n Z k && fV c d next n Z k
def eP (c d next:Int) (n:Nat) (Z:Nat→Nat→Int):Bool:=okB c d && (inB next 0 5000 && (decide ((n:Int)≤next) && jP c d next n Z n))
theorem uF {c d next:Int} {n:Nat} {Z:Nat→Nat→Int} {k:Nat} (h:jP c d next n Z k=true) (g:fV c d next n Z k=true):jP c d next n Z (k+1)=true:=by simp [jP,h,g]
theorem tY {c d next:Int} {m:Nat} {Z:Nat→Nat→Int} {k:Nat}:∀ n,k≤n→jP c d next m Z n=true→jP c d next m Z k=true
 | 0,h,e=>by have:k=0:=by omega
             subst this;exact e
 | n+1,h,e=>by
  by_cases hk:k=n+1
  ·subst hk;exact e
  ·simp only [jP,Bool.and_eq_true] at e
   exact tY n (by omega) e.1
theorem kT {c d next:Int} {m:Nat} {Z:Nat→Nat→Int} {k n:Nat} (hk:k<n) (g:fV c d next m Z k=false):jP c d next m Z n=false:=by
 match e:jP c d next m Z n with
 | false=>rfl
 | true =>
  have:=tY n (show k+1≤n by omega) e
  simp [jP,g] at this
theorem iJ (c d next:Int) (b o n cap:Nat) (Z:Nat→Nat→Int) (hn:n≤1048576) (w:World) (hb:b<w.heap.size)
 (hr:∀ k j,k<n→j<8→w.cell? (zA b (o+k * 8+j))=some (zI (Z k j))) :
 Hz 112 #[.agg #[zI c,zI d],.slice (some (zA b o)) n cap,zI next] w fun e w'=>e=.returned (.bool (eP c d next n Z))∧Below w.heap.size w w':=by
 have HR:Hid (∀ k j,k<n→j<8→w.cell? (zA b (o+k * 8+j))=some (zI (Z k j))):=hr
 clear hr
 cases h1:okB c d
 ·go_enter Tryz.func112,Tryz.ntmps112
  go_wp2_with (go_at_call 72;refine (dM _ _ _).mono ?_;rintro e w1 ⟨rfl,hb1⟩;rw [h1])
  go_ret
  exact ⟨by simp [eP,h1],ah ((Hr _ _).alloc (by simp) _) hb1⟩
 cases h2:inB next 0 5000
 ·go_enter Tryz.func112,Tryz.ntmps112
  go_wp2_with (first | (go_at_call 72;refine (dM _ _ _).mono ?_;rintro e w1 ⟨rfl,hb1⟩;rw [h1]) | (go_at_call 65;refine (dh _ _ _ _).mono ?_;rintro e w1 ⟨rfl,rfl⟩;rw [h2]))
  go_ret
  exact ⟨by simp [eP,h2],ah ((Hr _ _).alloc (by simp) _) hb1⟩
 have hnx:0≤next∧next≤5000:=by simpa [inB] using h2
 by_cases h3:¬ (n:Int)≤next
 ·have h3':next<(n:Int):=by omega
  have HL:Hid (eP c d next n Z=false):=by show eP c d next n Z=false;simp [eP,h3]
  clear h3
  go_enter Tryz.func112,Tryz.ntmps112
  go_wp2_with (first | (go_at_call 72;refine (dM _ _ _).mono ?_;rintro e w1 ⟨rfl,hb1⟩;rw [h1]) | (go_at_call 65;refine (dh _ _ _ _).mono ?_;rintro e w1 ⟨rfl,rfl⟩;rw [h2]))
  go_ret
  exact ⟨by rw [HL.out];rfl,ah ((Hr _ _).alloc (by simp) _) hb1⟩
 have h3':(n:Int)≤next:=by omega
 have m1:IntKind.wrap .i64 (next - (n:Int))=next - (n:Int):=by simp [IntKind.wrap,IntKind.bits,IntKind.signed];omega
 have m2:∀ k:Nat,k<n→IntKind.wrap .i64 (next - (n:Int)+(k:Int))=next - (n:Int)+(k:Int):=by intro k hk;simp [IntKind.wrap,IntKind.bits,IntKind.signed];omega
 have HL:Hid (eP c d next n Z=jP c d next n Z n):=by show eP c d next n Z=_;simp [eP,h1,h2,h3']
 clear h3
 go_enter Tryz.func112,Tryz.ntmps112
 go_wp2_with (first | (go_at_call 72;refine (dM _ _ _).mono ?_;rintro e w1 ⟨rfl,hb1⟩;rw [h1]) | (go_at_call 65;refine (dh _ _ _ _).mono ?_;rintro e w1 ⟨rfl,rfl⟩;rw [h2]))
 have HS1:(∀ b o,b<w.heap.size+1→w1.cell? (zA b o)=(w.alloc (.cells #[zI c,zI d] 44)).cell? (zA b o))∧w.heap.size+1≤w1.heap.size:=bM ⟨fun _ _ _=>rfl,by simp⟩ hb1
 have B1:Below w.heap.size w w1:=ah ((Hr _ _).alloc (by simp) _) hb1
 clear hb1
 go_loopw [7] (fun i wr=>∃ k:Nat,k≤n∧i=zI k∧jP c d next n Z k=true∧((∀ b o,b<w.heap.size+1→wr.cell? (zA b o)=(w.alloc (.cells #[zI c,zI d] 44)).cell? (zA b o))∧w.heap.size+1≤wr.heap.size)∧Below w.heap.size w wr) (fun i _=>n - (intOf i).toNat)
 case atStart=>exact ⟨0,Nat.zero_le _,rfl,rfl,HS1,B1⟩
 case round =>
  clear HS1 B1
  obtain ⟨k,hk,rfl,hall,HS,BR⟩:=hrel
  by_cases hkn:k<n
  ·have hkn':(k:Int)<(n:Int):=by omega
   have c0:w.cell? (zA b (o+k * 8))=some (zI (Z k 0)):=HR.out k 0 hkn (by omega)
   have c1:w.cell? (zA b (o+k * 8+1))=some (zI (Z k 1)):=HR.out k 1 hkn (by omega)
   have c2:w.cell? (zA b (o+k * 8+2))=some (zI (Z k 2)):=HR.out k 2 hkn (by omega)
   have c3:w.cell? (zA b (o+k * 8+3))=some (zI (Z k 3)):=HR.out k 3 hkn (by omega)
   have c4:w.cell? (zA b (o+k * 8+4))=some (zI (Z k 4)):=HR.out k 4 hkn (by omega)
   have c5:w.cell? (zA b (o+k * 8+5))=some (zI (Z k 5)):=HR.out k 5 hkn (by omega)
   have c6:w.cell? (zA b (o+k * 8+6))=some (zI (Z k 6)):=HR.out k 6 hkn (by omega)
   have c7:w.cell? (zA b (o+k * 8+7))=some (zI (Z k 7)):=HR.out k 7 hkn (by omega)
   have hb1:b<w.heap.size+1:=by omega
   have HALL:Hid (jP c d next n Z k=true):=hall
   clear hall
   have m3:=m2 k hkn
   cases hok:jf c d (Z k 0) (Z k 1) (Z k 2) (Z k 3) (Z k 4) (Z k 5) (Z k 6) (Z k 7)
   ·have EG:Hid (fV c d next n Z k=false):=by show fV c d next n Z k=_;simp [fV,hok]
    go_wp2
    refine Hu (S:=fun w'=>(∀ b o,b<w.heap.size+1→w'.cell? (zA b o)=(w.alloc (.cells #[zI c,zI d] 44)).cell? (zA b o))∧w.heap.size+1≤w'.heap.size) (by kernel_rfl) HS ?_
    intro af
    refine aA 0 (.agg #[zI c,zI d]) rfl ?_
    refine aA 1 (.slice (some (zA b o)) n cap) rfl ?_
    refine aA 2 (zI (k:Int)) rfl ?_
    refine aA 3 (.pointer (some (zA b (o+k * 8)))) rfl ?_
    refine aA 4 (.agg (zE (Z k)).toArray) rfl ?_
    refine di 5 rfl fun K hK=>?_
    go_simp
    go_wp2_with (go_at_call 77;refine (lK _ _ _ _ _ _ _ _ _ _ _).mono ?_;rintro e w2 ⟨rfl,hbw2⟩)
    refine hK.out _ _ (bM (by assumption) hbw2) (fun af=>?_)
    clear hK K
    try simp only [aT]
    refine aA 6 (.bool true) rfl ?_
    refine aA 7 (.bool true) rfl ?_
    refine bU 8 rfl ?_
    refine bU 9 rfl ?_
    refine bU 10 rfl ?_
    refine bU 11 rfl ?_
    refine bU 12 rfl ?_
    refine bU 13 rfl ?_
    refine bU 14 rfl ?_
    refine bU 15 rfl ?_
    refine bU 16 rfl ?_
    refine bU 17 rfl ?_
    refine bU 18 rfl ?_
    refine bU 19 rfl ?_
    refine aA 20 (.bool true) rfl ?_
    refine Hy (by kernel_rfl) ?_ _
    go_wp2
    go_ret
    exact ⟨by rw [HL.out,kT hkn EG.out];rfl,by repeat (first | exact BR | refine ah ?_ (by assumption) | apply Below.drew)⟩
   ·cases hnum:(Z k 0 != next - n+k)
    ·have EG:Hid (fV c d next n Z k=true):=by show fV c d next n Z k=_;simp [fV,hok];simpa using hnum
     go_wp2
     refine Hu (S:=fun w'=>(∀ b o,b<w.heap.size+1→w'.cell? (zA b o)=(w.alloc (.cells #[zI c,zI d] 44)).cell? (zA b o))∧w.heap.size+1≤w'.heap.size) (by kernel_rfl) HS ?_
     intro af
     refine aA 0 (.agg #[zI c,zI d]) rfl ?_
     refine aA 1 (.slice (some (zA b o)) n cap) rfl ?_
     refine aA 2 (zI (k:Int)) rfl ?_
     refine aA 3 (.pointer (some (zA b (o+k * 8)))) rfl ?_
     refine aA 4 (.agg (zE (Z k)).toArray) rfl ?_
     refine di 5 rfl fun K hK=>?_
     go_simp
     go_wp2_with (go_at_call 77;refine (lK _ _ _ _ _ _ _ _ _ _ _).mono ?_;rintro e w2 ⟨rfl,hbw2⟩)
     refine hK.out _ _ (bM (by assumption) hbw2) (fun af=>?_)
     clear hK K
     try simp only [aT]
     refine aA 6 (.bool false) rfl ?_
     refine aA 7 (.bool false) rfl ?_
     refine aA 8 (.slice (some (zA b o)) n cap) rfl ?_
     refine aA 9 (zI (k:Int)) rfl ?_
     refine aA 10 (.pointer (some (zA b (o+k * 8)))) rfl ?_
     refine aA 11 (.pointer (some (zA b (o+k * 8)))) rfl ?_
     refine aA 12 (zI (Z k 0)) rfl ?_
     refine aA 13 (zI next) rfl ?_
     refine aA 14 (.slice (some (zA b o)) n cap) rfl ?_
     refine aA 15 (zI (n:Int)) rfl ?_
     refine aA 16 (zI (next - (n:Int))) rfl ?_
     refine aA 17 (zI (k:Int)) rfl ?_
     refine aA 18 (zI (next - (n:Int)+(k:Int))) rfl ?_
     refine aA 19 (.bool false) rfl ?_
     refine aA 20 (.bool false) rfl ?_
     refine Hy (by kernel_rfl) ?_ _
     go_wp2
     go_roundw
     case rel=>exact ⟨k+1,by omega,by go_num,uF HALL.out EG.out,by assumption,by repeat (first | exact BR | refine ah ?_ (by assumption) | apply Below.drew)⟩
     case measure=>simp [intOf];omega
    ·have EG:Hid (fV c d next n Z k=false):=by show fV c d next n Z k=_;simp [fV];simp at hnum;exact fun _=>hnum
     go_wp2
     refine Hu (S:=fun w'=>(∀ b o,b<w.heap.size+1→w'.cell? (zA b o)=(w.alloc (.cells #[zI c,zI d] 44)).cell? (zA b o))∧w.heap.size+1≤w'.heap.size) (by kernel_rfl) HS ?_
     intro af
     refine aA 0 (.agg #[zI c,zI d]) rfl ?_
     refine aA 1 (.slice (some (zA b o)) n cap) rfl ?_
     refine aA 2 (zI (k:Int)) rfl ?_
     refine aA 3 (.pointer (some (zA b (o+k * 8)))) rfl ?_
     refine aA 4 (.agg (zE (Z k)).toArray) rfl ?_
     refine di 5 rfl fun K hK=>?_
     go_simp
     go_wp2_with (go_at_call 77;refine (lK _ _ _ _ _ _ _ _ _ _ _).mono ?_;rintro e w2 ⟨rfl,hbw2⟩)
     refine hK.out _ _ (bM (by assumption) hbw2) (fun af=>?_)
     clear hK K
     try simp only [aT]
     refine aA 6 (.bool false) rfl ?_
     refine aA 7 (.bool false) rfl ?_
     refine aA 8 (.slice (some (zA b o)) n cap) rfl ?_
     refine aA 9 (zI (k:Int)) rfl ?_
     refine aA 10 (.pointer (some (zA b (o+k * 8)))) rfl ?_
     refine aA 11 (.pointer (some (zA b (o+k * 8)))) rfl ?_
     refine aA 12 (zI (Z k 0)) rfl ?_
     refine aA 13 (zI next) rfl ?_
     refine aA 14 (.slice (some (zA b o)) n cap) rfl ?_
     refine aA 15 (zI (n:Int)) rfl ?_
     refine aA 16 (zI (next - (n:Int))) rfl ?_
     refine aA 17 (zI (k:Int)) rfl ?_
     refine aA 18 (zI (next - (n:Int)+(k:Int))) rfl ?_
     refine aA 19 (.bool true) rfl ?_
     refine aA 20 (.bool true) rfl ?_
     refine Hy (by kernel_rfl) ?_ _
     go_wp2
     go_ret
     exact ⟨by rw [HL.out,kT hkn EG.out];rfl,by repeat (first | exact BR | refine ah ?_ (by assumption) | apply Below.drew)⟩
  ·have:k=n:=by omega
   subst this
   have HALL:Hid (jP c d next k Z k=true):=hall
   clear hall
   go_wp2
   go_ret
   exact ⟨by rw [HL.out,HALL.out];rfl,BR⟩
theorem lH (c d next:Int) (b o n cap:Nat) (Z:Nat→Nat→Int) (hn:n≤1048576) (w:World) (hb:b<w.heap.size)
 (hr:∀ k j,k<n→j<8→w.cell? (zA b (o+k * 8+j))=some (zI (Z k j))) :
 Hz 119 #[.agg #[zI c,zI d],.slice (some (zA b o)) n cap,zI next] w fun e w'=>e=.returned (.bool (eP c d next n Z))∧Below w.heap.size w w':=by
 have HR:Hid (∀ k j,k<n→j<8→w.cell? (zA b (o+k * 8+j))=some (zI (Z k j))):=hr
 clear hr
 cases h1:okB c d
 ·go_enter Tryz.func119,Tryz.ntmps119
  go_wp2_with (go_at_call 89;refine (fE _ _ _).mono ?_;rintro e w1 ⟨rfl,hb1⟩;rw [h1])
  go_ret
  exact ⟨by simp [eP,h1],ah ((Hr _ _).alloc (by simp) _) hb1⟩
 cases h2:inB next 0 5000
 ·go_enter Tryz.func119,Tryz.ntmps119
  go_wp2_with (first | (go_at_call 89;refine (fE _ _ _).mono ?_;rintro e w1 ⟨rfl,hb1⟩;rw [h1]) | (go_at_call 87;refine (dn _ _ _ _).mono ?_;rintro e w1 ⟨rfl,rfl⟩;rw [h2]))
  go_ret
  exact ⟨by simp [eP,h2],ah ((Hr _ _).alloc (by simp) _) hb1⟩
 have hnx:0≤next∧next≤5000:=by simpa [inB] using h2
 by_cases h3:¬ (n:Int)≤next
 ·have h3':next<(n:Int):=by omega
  have HL:Hid (eP c d next n Z=false):=by show eP c d next n Z=false;simp [eP,h3]
  clear h3
  go_enter Tryz.func119,Tryz.ntmps119
  go_wp2_with (first | (go_at_call 89;refine (fE _ _ _).mono ?_;rintro e w1 ⟨rfl,hb1⟩;rw [h1]) | (go_at_call 87;refine (dn _ _ _ _).mono ?_;rintro e w1 ⟨rfl,rfl⟩;rw [h2]))
  go_ret
  exact ⟨by rw [HL.out];rfl,ah ((Hr _ _).alloc (by simp) _) hb1⟩
 have h3':(n:Int)≤next:=by omega
 have m1:IntKind.wrap .i64 (next - (n:Int))=next - (n:Int):=by simp [IntKind.wrap,IntKind.bits,IntKind.signed];omega
 have m2:∀ k:Nat,k<n→IntKind.wrap .i64 (next - (n:Int)+(k:Int))=next - (n:Int)+(k:Int):=by intro k hk;simp [IntKind.wrap,IntKind.bits,IntKind.signed];omega
 have HL:Hid (eP c d next n Z=jP c d next n Z n):=by show eP c d next n Z=_;simp [eP,h1,h2,h3']
 clear h3
 go_enter Tryz.func119,Tryz.ntmps119
 go_wp2_with (first | (go_at_call 89;refine (fE _ _ _).mono ?_;rintro e w1 ⟨rfl,hb1⟩;rw [h1]) | (go_at_call 87;refine (dn _ _ _ _).mono ?_;rintro e w1 ⟨rfl,rfl⟩;rw [h2]))
 have hfirst:True:=trivial
 have HS1:(∀ b o,b<w.heap.size+1→w1.cell? (zA b o)=(w.alloc (.cells #[zI c,zI d] 44)).cell? (zA b o))∧w.heap.size+1≤w1.heap.size:=bM ⟨fun _ _ _=>rfl,by simp⟩ hb1
 have B1:Below w.heap.size w w1:=ah ((Hr _ _).alloc (by simp) _) hb1
 clear hb1
 go_loopw [30] (fun i wr=>∃ k:Nat,k≤n∧i=zI k∧jP c d next n Z k=true∧((∀ b o,b<w.heap.size+1→wr.cell? (zA b o)=(w.alloc (.cells #[zI c,zI d] 44)).cell? (zA b o))∧w.heap.size+1≤wr.heap.size)∧Below w.heap.size w wr) (fun i _=>n - (intOf i).toNat)
 case atStart=>exact ⟨0,Nat.zero_le _,rfl,rfl,HS1,B1⟩
 case round =>
  clear HS1 B1
  obtain ⟨k,hk,rfl,hall,HS,BR⟩:=hrel
  obtain ⟨HSa,HSb⟩:=HS
  by_cases hkn:k<n
  ·have hkn':(k:Int)<(n:Int):=by omega
   have c0:w.cell? (zA b (o+k * 8))=some (zI (Z k 0)):=HR.out k 0 hkn (by omega)
   have c1:w.cell? (zA b (o+k * 8+1))=some (zI (Z k 1)):=HR.out k 1 hkn (by omega)
   have c2:w.cell? (zA b (o+k * 8+2))=some (zI (Z k 2)):=HR.out k 2 hkn (by omega)
   have c3:w.cell? (zA b (o+k * 8+3))=some (zI (Z k 3)):=HR.out k 3 hkn (by omega)
   have c4:w.cell? (zA b (o+k * 8+4))=some (zI (Z k 4)):=HR.out k 4 hkn (by omega)
   have c5:w.cell? (zA b (o+k * 8+5))=some (zI (Z k 5)):=HR.out k 5 hkn (by omega)
   have c6:w.cell? (zA b (o+k * 8+6))=some (zI (Z k 6)):=HR.out k 6 hkn (by omega)
   have c7:w.cell? (zA b (o+k * 8+7))=some (zI (Z k 7)):=HR.out k 7 hkn (by omega)
   have hb1:b<w.heap.size+1:=by omega
   have HALL:Hid (jP c d next n Z k=true):=hall
   clear hall
   have m3:=m2 k hkn
   have hlw:w.heap.size<wr.heap.size:=by omega
   have KS:Hid ((∀ b o,b<w.heap.size+1→(wr.alloc (.cells (zE (Z k)).toArray 50)).cell? (zA b o)=(w.alloc (.cells #[zI c,zI d] 44)).cell? (zA b o))∧w.heap.size+1≤(wr.alloc (.cells (zE (Z k)).toArray 50)).heap.size):=bM ⟨HSa,HSb⟩ ((Hr _ _).alloc (Ho _) _)
   have BK:Hid (Below w.heap.size w (wr.alloc (.cells (zE (Z k)).toArray 50))):=BR.alloc (by omega) _
   cases hnum:(Z k 0 != next - n+k)
   ·cases hok:jf c d (Z k 0) (Z k 1) (Z k 2) (Z k 3) (Z k 4) (Z k 5) (Z k 6) (Z k 7)
    ·have EG:Hid (fV c d next n Z k=false):=by show fV c d next n Z k=_;simp [fV,hok]
     go_wp2_with (go_at_call 93;refine (ou _ _ _ _ _ _ _ _ _ _ _).mono ?_;rintro e w2 ⟨rfl,hb2⟩)
     go_ret
     exact ⟨by rw [HL.out,kT hkn EG.out];rfl,ah BK.out hb2⟩
    ·have EG:Hid (fV c d next n Z k=true):=by show fV c d next n Z k=_;simp [fV,hok];simpa using hnum
     go_wp2_with (go_at_call 93;refine (ou _ _ _ _ _ _ _ _ _ _ _).mono ?_;rintro e w2 ⟨rfl,hb2⟩)
     go_roundw
     case rel=>exact ⟨k+1,by omega,by go_num,uF HALL.out EG.out,bM KS.out hb2,ah BK.out hb2⟩
     case measure=>simp [intOf];omega
   ·have EG:Hid (fV c d next n Z k=false):=by show fV c d next n Z k=_;simp [fV];simp at hnum;exact fun _=>hnum
    go_wp2
    go_ret
    exact ⟨by rw [HL.out,kT hkn EG.out];rfl,BK.out⟩
  ·have:k=n:=by omega
   subst this
   have HALL:Hid (jP c d next k Z k=true):=hall
   clear hall
   go_wp2
   go_ret
   exact ⟨by rw [HL.out,HALL.out];rfl,BR⟩
end P8
open Go.RowKit
def bn (s:Int):Int:=if s=0 then -1 else if s=1 then 1 else 0
def hasB (c d k:Int):Bool:=okB c d && inB k 0 (c - 1)
def bf (c d k s:Int):Int:=if hasB c d k=true∧¬ bn s=0∧hasB c d (k+bn s)=true then k+bn s else -1
theorem mZ (s:Int) (w:World) :
 Hz 143 #[zI s] w fun e w'=>e=.returned (zI (bn s))∧w'=w:=by
 by_cases h0:s=0
 ·subst h0
  go_enter Tryz.func143,Tryz.ntmps143
  go_wp2
  go_ret
  exact ⟨rfl,rfl⟩
 ·by_cases h1:s=1
  ·subst h1
   go_enter Tryz.func143,Tryz.ntmps143
   go_wp2
   go_ret
   exact ⟨rfl,rfl⟩
  ·have e0:(s == 0)=false:=by simpa using h0
   have e1:(s == 1)=false:=by simpa using h1
   go_enter Tryz.func143,Tryz.ntmps143
   go_wp2
   go_ret
   exact ⟨by simp [bn,h0,h1],rfl⟩
theorem gV (c d k:Int) (w:World) :
 Hz 85 #[.agg #[zI c,zI d],zI k] w fun e w'=>e=.returned (.bool (hasB c d k))∧Below w.heap.size w w':=by
 cases h:okB c d
 ·go_enter Tryz.func85,Tryz.ntmps85
  go_wp2_with fail
  refine (fE _ _ _).mono ?_
  rintro e w1 ⟨rfl,hb1⟩
  go_wp2
  go_ret
  exact ⟨by simp [hasB,h],ah ((Hr _ _).alloc (by simp) _) hb1⟩
 ·obtain ⟨a1,a2,a3,a4⟩:=fD h
  go_enter Tryz.func85,Tryz.ntmps85
  go_wp2_with fail
  refine (fE _ _ _).mono ?_
  rintro e w1 ⟨rfl,hb1⟩
  obtain ⟨hc1,hf1⟩:=cu hb1
  go_wp2_with (go_at_call 87;refine (dn _ _ _ _).mono ?_;rintro e w' ⟨rfl,rfl⟩)
  go_ret
  exact ⟨by simp [hasB,h],ah ((Hr _ _).alloc (by simp) _) hb1⟩
theorem fJ {c d k:Int} (h:hasB c d k=true):2≤c∧c≤4∧2≤d∧d≤8∧0≤k∧k≤c - 1:=by
 simp only [hasB,Bool.and_eq_true,aY] at h
 have:=fD h.1;omega
theorem jW (s:Int):bn s=-1∨bn s=1∨bn s=0:=by
 unfold bn;split
 ·simp
 ·split <;> simp
theorem jv (c d k s:Int) (w:World) :
 Hz 120 #[zI s,.agg #[zI c,zI d],zI k] w fun e w'=>e=.returned (zI (bf c d k s))∧Below w.heap.size w w':=by
 by_cases hs:bn s=0
 ·go_enter Tryz.func120,Tryz.ntmps120
  go_wp2_with fail
  refine (mZ _ _).mono ?_
  rintro e w1 ⟨rfl,rfl⟩
  go_wp2
  go_ret
  exact ⟨by simp [bf,hs],(Hr _ _).alloc (by simp) _⟩
 ·have hs0:(bn s == 0)=false:=by simpa using hs
  cases h:hasB c d k
  ·go_enter Tryz.func120,Tryz.ntmps120
   go_wp2_with fail
   refine (mZ _ _).mono ?_
   rintro e w1 ⟨rfl,rfl⟩
   go_wp2_with fail
   refine (gV _ _ _ _).mono ?_
   rintro e w2 ⟨rfl,hb2⟩
   go_wp2
   go_ret
   exact ⟨by simp [bf,h],ah ((Hr _ _).alloc (by simp) _) hb2⟩
  ·obtain ⟨a1,a2,a3,a4,a5,a6⟩:=fJ h
   have s1:-1≤bn s:=by have:=jW s;omega
   have s2:bn s≤1:=by have:=jW s;omega
   cases h2:hasB c d (k+bn s)
   all_goals
    go_enter Tryz.func120,Tryz.ntmps120
    go_wp2_with fail
    refine (mZ _ _).mono ?_
    rintro e w1 ⟨rfl,rfl⟩
    go_wp2_with fail
    refine (gV _ _ _ _).mono ?_
    rintro e w2 ⟨rfl,hb2⟩
    obtain ⟨hc2,hf2⟩:=cu hb2
    go_wp2_with fail
    refine (gV _ _ _ _).mono ?_
    rintro e w3 ⟨rfl,hb3⟩
    go_wp2
    go_ret
    exact ⟨by simp [bf,h,h2,hs],ah (ah ((Hr _ _).alloc (by simp) _) hb2) hb3⟩
theorem uO (c d k s:Int) (w:World) :
 Hz 129 #[.agg #[zI c,zI d],zI k,zI s] w fun e w'=>e=.returned (zI (bf c d k s))∧Below w.heap.size w w':=by
 go_enter Tryz.func129,Tryz.ntmps129
 go_wp2_with fail
 refine (jv _ _ _ _ _).mono ?_
 rintro e w1 ⟨rfl,hb1⟩
 go_wp2
 go_ret
 exact ⟨rfl,ah ((Hr _ _).alloc (by simp) _) hb1⟩
theorem kQ {c d k:Int} (h:okB c d=true):hasB c d k=true↔(0≤k∧k≤c - 1):=by
 simp [hasB,h,aY]
theorem uh {c d k:Int} (h:hasB c d k=true):bf c d k 0=if 0<k then k - 1 else -1:=by
 obtain ⟨a1,a2,a3,a4,a5,a6⟩:=fJ h
 have ho:okB c d=true:=by simp only [hasB,Bool.and_eq_true] at h;exact h.1
 have e:bn 0=-1:=rfl
 unfold bf
 rw [e]
 by_cases g:0<k
 ·rw [if_pos g,if_pos ⟨h,by decide,(kQ ho).2 (by omega)⟩];omega
 ·rw [if_neg g,if_neg]
  rintro ⟨_,_,h3⟩
  have:=(kQ ho).1 h3;omega
theorem sS {c d k:Int} (h:hasB c d k=true):bf c d k 1=if k<c - 1 then k+1 else -1:=by
 obtain ⟨a1,a2,a3,a4,a5,a6⟩:=fJ h
 have ho:okB c d=true:=by simp only [hasB,Bool.and_eq_true] at h;exact h.1
 have e:bn 1=1:=rfl
 unfold bf
 rw [e]
 by_cases g:k<c - 1
 ·rw [if_pos g,if_pos ⟨h,by decide,(kQ ho).2 (by omega)⟩]
 ·rw [if_neg g,if_neg]
  rintro ⟨_,_,h3⟩
  have:=(kQ ho).1 h3;omega
theorem zf {c d k s:Int} (h0:¬ s=0) (h1:¬ s=1):bf c d k s=-1:=by
 have e:bn s=0:=by simp [bn,h0,h1]
 simp [bf,e]
theorem bT (c d k s:Int) (w:World) :
 Hz 78 #[.agg #[zI c,zI d],zI k,zI s] w fun e w'=>e=.returned (zI (bf c d k s))∧Below w.heap.size w w':=by
 cases h:okB c d
 ·go_enter Tryz.func78,Tryz.ntmps78
  go_wp2_with fail
  refine (dM _ _ _).mono ?_
  rintro e w1 ⟨rfl,hb1⟩
  go_wp2
  go_ret
  exact ⟨by simp [bf,hasB,h],ah ((Hr _ _).alloc (by simp) _) hb1⟩
 ·obtain ⟨a1,a2,a3,a4⟩:=fD h
  cases hin:inB k 0 (c - 1)
  ·go_enter Tryz.func78,Tryz.ntmps78
   go_wp2_with fail
   refine (dM _ _ _).mono ?_
   rintro e w1 ⟨rfl,hb1⟩
   obtain ⟨hc1,hf1⟩:=cu hb1
   go_wp2_with (go_at_call 65;refine (dh _ _ _ _).mono ?_;rintro e w' ⟨rfl,rfl⟩)
   go_ret
   exact ⟨by simp [bf,hasB,h,hin],ah ((Hr _ _).alloc (by simp) _) hb1⟩
  ·obtain ⟨i1,i2⟩:=aY.1 hin
   have hh:hasB c d k=true:=by simp [hasB,h,hin]
   by_cases h0:s=0
   ·subst h0
    have E:Hid (bf c d k 0=if 0<k then k - 1 else -1):=uh hh
    clear hh
    by_cases g:0<k
    all_goals
     go_enter Tryz.func78,Tryz.ntmps78
     go_wp2_with fail
     refine (dM _ _ _).mono ?_
     rintro e w1 ⟨rfl,hb1⟩
     obtain ⟨hc1,hf1⟩:=cu hb1
     go_wp2_with (go_at_call 65;refine (dh _ _ _ _).mono ?_;rintro e w' ⟨rfl,rfl⟩)
     go_ret
     exact ⟨by rw [E.out];simp [g] <;> omega,ah ((Hr _ _).alloc (by simp) _) hb1⟩
   ·have e0:(s == 0)=false:=by simpa using h0
    by_cases h1:s=1
    ·subst h1
     have E:Hid (bf c d k 1=if k<c - 1 then k+1 else -1):=sS hh
     clear hh h0 e0
     by_cases g:k<c - 1
     all_goals
      go_enter Tryz.func78,Tryz.ntmps78
      go_wp2_with fail
      refine (dM _ _ _).mono ?_
      rintro e w1 ⟨rfl,hb1⟩
      obtain ⟨hc1,hf1⟩:=cu hb1
      go_wp2_with (go_at_call 65;refine (dh _ _ _ _).mono ?_;rintro e w' ⟨rfl,rfl⟩)
      go_ret
      exact ⟨by rw [E.out];simp [g] <;> omega,ah ((Hr _ _).alloc (by simp) _) hb1⟩
    ·have e1:(s == 1)=false:=by simpa using h1
     have E:Hid (bf c d k s=-1):=zf h0 h1
     clear hh
     go_enter Tryz.func78,Tryz.ntmps78
     go_wp2_with fail
     refine (dM _ _ _).mono ?_
     rintro e w1 ⟨rfl,hb1⟩
     obtain ⟨hc1,hf1⟩:=cu hb1
     go_wp2_with (go_at_call 65;refine (dh _ _ _ _).mono ?_;rintro e w' ⟨rfl,rfl⟩)
     go_ret
     exact ⟨by rw [E.out];rfl,ah ((Hr _ _).alloc (by simp) _) hb1⟩
open Go.Deep
def iM (p:Nat→Bool):Nat→Bool
 | 0=>true
 | k+1=>iM p k && p k
theorem ja {p:Nat→Bool} {k:Nat} (h:iM p k=true) (g:p k=true):iM p (k+1)=true:=by simp [iM,h,g]
theorem qj {p:Nat→Bool} {k:Nat}:∀ n,k≤n→iM p n=true→iM p k=true
 | 0,h,e=>by have:k=0:=by omega
             subst this;exact e
 | n+1,h,e=>by
  by_cases hk:k=n+1
  ·subst hk;exact e
  ·simp only [iM,Bool.and_eq_true] at e
   exact qj n (by omega) e.1
theorem kK {p:Nat→Bool} {k n:Nat} (hk:k<n) (g:p k=false):iM p n=false:=by
 match e:iM p n with
 | false=>rfl
 | true =>
  have:=qj n (show k+1≤n by omega) e
  simp [iM,g] at this
theorem dV (c d VC VG:Int) (b o n cap:Nat) (W:Nat→Nat→Int) (x3 x4 x5:Value) (hn:n≤1048576) (w:World) (hb:b<w.heap.size)
 (hr:∀ k j,k<n→j<5→w.cell? (zA b (o+k * 5+j))=some (zI (W k j))) :
 Hz 86 #[.agg #[zI VC,.slice (some (zA b o)) n cap,zI VG,x3,x4,x5],.agg #[zI c,zI d]] w fun e w'=>e=.returned (.bool (iM (fun k=>!(aQ c d (W k 1) != VC)) n && allB c d W n))∧Below w.heap.size w w':=by
 have HR:Hid (∀ k j,k<n→j<5→w.cell? (zA b (o+k * 5+j))=some (zI (W k j))):=hr
 clear hr
 go_enter Tryz.func86,Tryz.ntmps86
 go_wp2
 go_loopw [10] (fun i wr=>∃ k:Nat,k≤n∧i=zI k∧iM (fun k=>!(aQ c d (W k 1) != VC)) k=true∧((∀ g i,g<w.heap.size+1+1→wr.cell? (zA g i)=((w.alloc (.cells #[zI VC,.slice (some (zA b o)) n cap,zI VG,x3,x4,x5] 41)).alloc (.cells #[zI c,zI d] 44)).cell? (zA g i))∧w.heap.size+1+1≤wr.heap.size)∧Below w.heap.size w wr) (fun i _=>n - (intOf i).toNat)
 case atStart=>exact ⟨0,Nat.zero_le _,rfl,rfl,⟨fun _ _ _=>rfl,by simp⟩,((Hr _ _).alloc (by simp) _).alloc (by simp) _⟩
 case round =>
  obtain ⟨k,hk,rfl,hall,HS,BR⟩:=hrel
  have HALL:Hid (iM (fun k=>!(aQ c d (W k 1) != VC)) k=true):=hall
  clear hall
  have hmw:w.heap.size+1<wr.heap.size:=HS.2
  have hmw0:w.heap.size<wr.heap.size:=by omega
  have m0:wr.cell? (zA (w.heap.size+1) 0)=some (zI c):=(HS.1 (w.heap.size+1) 0 (by omega)).trans (by simp)
  have m1:wr.cell? (zA (w.heap.size+1) 1)=some (zI d):=(HS.1 (w.heap.size+1) 1 (by omega)).trans (by simp)
  have v0:wr.cell? (zA w.heap.size 0)=some (zI VC):=(HS.1 w.heap.size 0 (by omega)).trans (by simp)
  have v1:wr.cell? (zA w.heap.size 1)=some (.slice (some (zA b o)) n cap):=(HS.1 w.heap.size 1 (by omega)).trans (by simp)
  have HSH:Hid ((∀ g i,g<w.heap.size+1+1→wr.cell? (zA g i)=((w.alloc (.cells #[zI VC,.slice (some (zA b o)) n cap,zI VG,x3,x4,x5] 41)).alloc (.cells #[zI c,zI d] 44)).cell? (zA g i))∧w.heap.size+1+1≤wr.heap.size):=HS
  clear HS
  by_cases hkn:k<n
  ·have hkn':(k:Int)<n:=by omega
   have hbwr:b<wr.heap.size:=by omega
   have c0:wr.cell? (zA b (o+k * 5))=some (zI (W k 0)):=(BR.cell (p:=⟨b,_,none⟩) hb).trans (HR.out k 0 hkn (by omega))
   have c1:wr.cell? (zA b (o+k * 5+1))=some (zI (W k 1)):=(BR.cell (p:=⟨b,_,none⟩) hb).trans (HR.out k 1 hkn (by omega))
   have c2:wr.cell? (zA b (o+k * 5+2))=some (zI (W k 2)):=(BR.cell (p:=⟨b,_,none⟩) hb).trans (HR.out k 2 hkn (by omega))
   have c3:wr.cell? (zA b (o+k * 5+3))=some (zI (W k 3)):=(BR.cell (p:=⟨b,_,none⟩) hb).trans (HR.out k 3 hkn (by omega))
   have c4:wr.cell? (zA b (o+k * 5+4))=some (zI (W k 4)):=(BR.cell (p:=⟨b,_,none⟩) hb).trans (HR.out k 4 hkn (by omega))
   have BR1:Below w.heap.size w (wr.alloc (.cells (zF (W k)).toArray 48)):=BR.alloc (by omega) _
   clear BR
   cases hp:(aQ c d (W k 1) != VC)
   ·go_wp2
    refine Hu (S:=fun w'=>(∀ b o,b<wr.heap.size+1→w'.cell? (zA b o)=(wr.alloc (.cells (zF (W k)).toArray 48)).cell? (zA b o))∧wr.heap.size+1≤w'.heap.size) (by kernel_rfl) ⟨fun _ _ _=>rfl,by simp⟩ ?_
    intro af
    refine aA 0 (.agg #[zI c,zI d]) rfl ?_
    refine aA 1 (zP wr.heap.size 1) rfl ?_
    refine aA 2 (zI (W k 1)) rfl ?_
    refine aA 4 (zP w.heap.size 0) rfl ?_
    refine aA 5 (zI VC) rfl ?_
    refine di 3 rfl fun K hK=>?_
    go_simp
    go_wp2_with (go_at_call 117;refine (gG _ _ _ _).mono ?_;rintro e w2 ⟨rfl,hbw2⟩)
    refine hK.out _ _ (bM (by assumption) hbw2) (fun af=>?_)
    clear hK K
    try simp only [aT]
    refine aA 6 (.bool false) rfl ?_
    refine Hy (by kernel_rfl) ?_ _
    go_wp2
    go_roundw
    case rel=>exact ⟨k+1,by omega,by go_num,ja HALL.out (by simp [hp]),qw HSH.out (by assumption),by repeat (first | exact BR1 | refine ah ?_ (by assumption) | apply Below.drew)⟩
    case measure=>simp [intOf];omega
   ·go_wp2
    refine Hu (S:=fun w'=>(∀ b o,b<wr.heap.size+1→w'.cell? (zA b o)=(wr.alloc (.cells (zF (W k)).toArray 48)).cell? (zA b o))∧wr.heap.size+1≤w'.heap.size) (by kernel_rfl) ⟨fun _ _ _=>rfl,by simp⟩ ?_
    intro af
    refine aA 0 (.agg #[zI c,zI d]) rfl ?_
    refine aA 1 (zP wr.heap.size 1) rfl ?_
    refine aA 2 (zI (W k 1)) rfl ?_
    refine aA 4 (zP w.heap.size 0) rfl ?_
    refine aA 5 (zI VC) rfl ?_
    refine di 3 rfl fun K hK=>?_
    go_simp
    go_wp2_with (go_at_call 117;refine (gG _ _ _ _).mono ?_;rintro e w2 ⟨rfl,hbw2⟩)
    refine hK.out _ _ (bM (by assumption) hbw2) (fun af=>?_)
    clear hK K
    try simp only [aT]
    refine aA 6 (.bool true) rfl ?_
    refine Hy (by kernel_rfl) ?_ _
    go_wp2
    go_ret
    exact ⟨by rw [kK hkn (by simp [hp])];rfl,by repeat (first | exact BR1 | refine ah ?_ (by assumption) | apply Below.drew)⟩
  ·have:k=n:=by omega
   subst this
   go_wp2_with fail
   refine (vP c d b o k cap W hn _ (by omega) (fun k' j h1 h2=>(BR.cell (p:=⟨b,_,none⟩) hb).trans (HR.out k' j h1 h2))).mono ?_
   rintro e w2 ⟨rfl,hb2⟩
   go_wp2
   go_ret
   exact ⟨by rw [HALL.out,Bool.true_and];rfl,ah BR hb2⟩
