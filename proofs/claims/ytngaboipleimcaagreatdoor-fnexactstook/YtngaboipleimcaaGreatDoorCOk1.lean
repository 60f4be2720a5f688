/- The walks of CllOk's parts, the program's: the walkers; conditions: the walkers lie in memory. -/
import Derived.Test.YtngaboipleimcaaGreatDoorListOk2
set_option linter.unusedVariables false
namespace Go.Proofs.YtngaboipleimcaaGreatDoor.P8
open Go.RowKit Go.Deep
def goodP (c d next:Int) (n:Nat) (Z:Nat→Nat→Int) (k:Nat):Bool:=pclB c d (Z k 0) (Z k 1) (Z k 2) (Z k 3) (Z k 4) (Z k 5) (Z k 6) (Z k 7) && (Z k 0 == next - n+k)
def allP (c d next:Int) (n:Nat) (Z:Nat→Nat→Int):Nat→Bool
 | 0=>true
 | k+1=>allP c d next n Z k && goodP c d next n Z k
def listP (c d next:Int) (n:Nat) (Z:Nat→Nat→Int):Bool:=okB c d && (inB next 0 5000 && (decide ((n:Int)≤next) && allP c d next n Z n))
theorem allP_step {c d next:Int} {n:Nat} {Z:Nat→Nat→Int} {k:Nat} (h:allP c d next n Z k=true) (g:goodP c d next n Z k=true):allP c d next n Z (k+1)=true:=by simp [allP,h,g]
theorem allP_down {c d next:Int} {m:Nat} {Z:Nat→Nat→Int} {k:Nat}:∀ n,k≤n→allP c d next m Z n=true→allP c d next m Z k=true
 | 0,h,e=>by have:k=0:=by omega
             subst this;exact e
 | n+1,h,e=>by
  by_cases hk:k=n+1
  ·subst hk;exact e
  ·simp only [allP,Bool.and_eq_true] at e
   exact allP_down n (by omega) e.1
theorem allP_stop {c d next:Int} {m:Nat} {Z:Nat→Nat→Int} {k n:Nat} (hk:k<n) (g:goodP c d next m Z k=false):allP c d next m Z n=false:=by
 match e:allP c d next m Z n with
 | false=>rfl
 | true =>
  have:=allP_down n (show k+1≤n by omega) e
  simp [allP,g] at this
set_option maxHeartbeats 8000000 in
set_option maxRecDepth 20000 in
theorem plist_spec (c d next:Int) (b o n cap:Nat) (Z:Nat→Nat→Int) (hn:n≤1048576) (w:World) (hb:b<w.heap.size)
 (hr:∀ k j,k<n→j<8→w.cell? (zA b (o+k * 8+j))=some (zI (Z k j))) :
 Calls Tryz.prog 112 #[.agg #[zI c,zI d],.slice (some (zA b o)) n cap,zI next] w fun e w'=>e=.returned (.bool (listP c d next n Z))∧Below w.heap.size w w':=by
 have HR:Hid (∀ k j,k<n→j<8→w.cell? (zA b (o+k * 8+j))=some (zI (Z k j))):=hr
 clear hr
 cases h1:okB c d
 ·go_enter Tryz.func112,Tryz.ntmps112
  go_wp2_with (go_at_call 72;refine (ok_spec _ _ _).mono ?_;rintro e w1 ⟨rfl,hb1⟩;rw [h1])
  go_ret
  exact ⟨by simp [listP,h1],bthen ((Below.refl _ _).alloc (by simp) _) hb1⟩
 cases h2:inB next 0 5000
 ·go_enter Tryz.func112,Tryz.ntmps112
  go_wp2_with (first | (go_at_call 72;refine (ok_spec _ _ _).mono ?_;rintro e w1 ⟨rfl,hb1⟩;rw [h1]) | (go_at_call 65;refine (in_spec _ _ _ _).mono ?_;rintro e w1 ⟨rfl,rfl⟩;rw [h2]))
  go_ret
  exact ⟨by simp [listP,h2],bthen ((Below.refl _ _).alloc (by simp) _) hb1⟩
 have hnx:0≤next∧next≤5000:=by simpa [inB] using h2
 by_cases h3:¬ (n:Int)≤next
 ·have h3':next<(n:Int):=by omega
  have HL:Hid (listP c d next n Z=false):=by show listP c d next n Z=false;simp [listP,h3]
  clear h3
  go_enter Tryz.func112,Tryz.ntmps112
  go_wp2_with (first | (go_at_call 72;refine (ok_spec _ _ _).mono ?_;rintro e w1 ⟨rfl,hb1⟩;rw [h1]) | (go_at_call 65;refine (in_spec _ _ _ _).mono ?_;rintro e w1 ⟨rfl,rfl⟩;rw [h2]))
  go_ret
  exact ⟨by rw [HL.out];rfl,bthen ((Below.refl _ _).alloc (by simp) _) hb1⟩
 have h3':(n:Int)≤next:=by omega
 have m1:IntKind.wrap .i64 (next - (n:Int))=next - (n:Int):=by simp [IntKind.wrap,IntKind.bits,IntKind.signed];omega
 have m2:∀ k:Nat,k<n→IntKind.wrap .i64 (next - (n:Int)+(k:Int))=next - (n:Int)+(k:Int):=by intro k hk;simp [IntKind.wrap,IntKind.bits,IntKind.signed];omega
 have HL:Hid (listP c d next n Z=allP c d next n Z n):=by show listP c d next n Z=_;simp [listP,h1,h2,h3']
 clear h3
 go_enter Tryz.func112,Tryz.ntmps112
 go_wp2_with (first | (go_at_call 72;refine (ok_spec _ _ _).mono ?_;rintro e w1 ⟨rfl,hb1⟩;rw [h1]) | (go_at_call 65;refine (in_spec _ _ _ _).mono ?_;rintro e w1 ⟨rfl,rfl⟩;rw [h2]))
 have HS1:(∀ b o,b<w.heap.size+1→w1.cell? (zA b o)=(w.alloc (.cells #[zI c,zI d] 44)).cell? (zA b o))∧w.heap.size+1≤w1.heap.size:=keepS ⟨fun _ _ _=>rfl,by simp⟩ hb1
 have B1:Below w.heap.size w w1:=bthen ((Below.refl _ _).alloc (by simp) _) hb1
 clear hb1
 go_loopw [7] (fun i wr=>∃ k:Nat,k≤n∧i=zI k∧allP c d next n Z k=true∧((∀ b o,b<w.heap.size+1→wr.cell? (zA b o)=(w.alloc (.cells #[zI c,zI d] 44)).cell? (zA b o))∧w.heap.size+1≤wr.heap.size)∧Below w.heap.size w wr) (fun i _=>n - (intOf i).toNat)
 case atStart=>exact ⟨0,Nat.zero_le _,rfl,rfl,HS1,B1⟩
 case round =>
  clear HS1 B1
  obtain ⟨k,hk,rfl,hall,HS,BR⟩:=hrel
  by_cases hkn:k<n
  ·have hkn':(k:Int)<(n:Int):=by omega
   have c0:w.cell? (zA b (o+k * 8))=some (zI (Z k 0)):=HR.out k 0 hkn (by omega)
   have c1:w.cell? (zA b (o+k * 8+1))=some (zI (Z k 1)):=HR.out k 1 hkn (by omega)
   have c2:w.cell? (zA b (o+k * 8+2))=some (zI (Z k 2)):=HR.out k 2 hkn (by omega)
   have c3:w.cell? (zA b (o+k * 8+3))=some (zI (Z k 3)):=HR.out k 3 hkn (by omega)
   have c4:w.cell? (zA b (o+k * 8+4))=some (zI (Z k 4)):=HR.out k 4 hkn (by omega)
   have c5:w.cell? (zA b (o+k * 8+5))=some (zI (Z k 5)):=HR.out k 5 hkn (by omega)
   have c6:w.cell? (zA b (o+k * 8+6))=some (zI (Z k 6)):=HR.out k 6 hkn (by omega)
   have c7:w.cell? (zA b (o+k * 8+7))=some (zI (Z k 7)):=HR.out k 7 hkn (by omega)
   have hb1:b<w.heap.size+1:=by omega
   have HALL:Hid (allP c d next n Z k=true):=hall
   clear hall
   have m3:=m2 k hkn
   cases hok:pclB c d (Z k 0) (Z k 1) (Z k 2) (Z k 3) (Z k 4) (Z k 5) (Z k 6) (Z k 7)
   ·have EG:Hid (goodP c d next n Z k=false):=by show goodP c d next n Z k=_;simp [goodP,hok]
    go_wp2
    refine wp_region_held_drew (S:=fun w'=>(∀ b o,b<w.heap.size+1→w'.cell? (zA b o)=(w.alloc (.cells #[zI c,zI d] 44)).cell? (zA b o))∧w.heap.size+1≤w'.heap.size) (by kernel_rfl) HS ?_
    intro hHeld
    refine tka 0 (.agg #[zI c,zI d]) rfl ?_
    try simp only [aT]
    refine tka 1 (.slice (some (zA b o)) n cap) rfl ?_
    try simp only [aT]
    refine tka 2 (zI (k:Int)) rfl ?_
    try simp only [aT]
    refine tka 3 (.pointer (some (zA b (o+k * 8)))) rfl ?_
    try simp only [aT]
    refine tka 4 (.agg (zE (Z k)).toArray) rfl ?_
    try simp only [aT]
    refine rd1 5 rfl fun K hK=>?_
    go_simp
    go_wp2_with (go_at_call 77;refine (pclOk_spec _ _ _ _ _ _ _ _ _ _ _).mono ?_;rintro e w2 ⟨rfl,hbw2⟩)
    refine hK.out _ _ (keepS (by assumption) hbw2) (fun hHeld=>?_)
    clear hK K
    try simp only [aT]
    refine tka 6 (.bool true) rfl ?_
    try simp only [aT]
    refine tka 7 (.bool true) rfl ?_
    try simp only [aT]
    refine tkr 8 rfl ?_
    try simp only [aT]
    refine tkr 9 rfl ?_
    try simp only [aT]
    refine tkr 10 rfl ?_
    try simp only [aT]
    refine tkr 11 rfl ?_
    try simp only [aT]
    refine tkr 12 rfl ?_
    try simp only [aT]
    refine tkr 13 rfl ?_
    try simp only [aT]
    refine tkr 14 rfl ?_
    try simp only [aT]
    refine tkr 15 rfl ?_
    try simp only [aT]
    refine tkr 16 rfl ?_
    try simp only [aT]
    refine tkr 17 rfl ?_
    try simp only [aT]
    refine tkr 18 rfl ?_
    try simp only [aT]
    refine tkr 19 rfl ?_
    try simp only [aT]
    refine tka 20 (.bool true) rfl ?_
    try simp only [aT]
    refine wpAnyH_done (by kernel_rfl) ?_ _
    go_wp2
    go_ret
    exact ⟨by rw [HL.out,allP_stop hkn EG.out];rfl,by repeat (first | exact BR | refine bthen ?_ (by assumption) | apply Below.drew)⟩
   ·cases hnum:(Z k 0 != next - n+k)
    ·have EG:Hid (goodP c d next n Z k=true):=by show goodP c d next n Z k=_;simp [goodP,hok];simpa using hnum
     go_wp2
     refine wp_region_held_drew (S:=fun w'=>(∀ b o,b<w.heap.size+1→w'.cell? (zA b o)=(w.alloc (.cells #[zI c,zI d] 44)).cell? (zA b o))∧w.heap.size+1≤w'.heap.size) (by kernel_rfl) HS ?_
     intro hHeld
     refine tka 0 (.agg #[zI c,zI d]) rfl ?_
     try simp only [aT]
     refine tka 1 (.slice (some (zA b o)) n cap) rfl ?_
     try simp only [aT]
     refine tka 2 (zI (k:Int)) rfl ?_
     try simp only [aT]
     refine tka 3 (.pointer (some (zA b (o+k * 8)))) rfl ?_
     try simp only [aT]
     refine tka 4 (.agg (zE (Z k)).toArray) rfl ?_
     try simp only [aT]
     refine rd1 5 rfl fun K hK=>?_
     go_simp
     go_wp2_with (go_at_call 77;refine (pclOk_spec _ _ _ _ _ _ _ _ _ _ _).mono ?_;rintro e w2 ⟨rfl,hbw2⟩)
     refine hK.out _ _ (keepS (by assumption) hbw2) (fun hHeld=>?_)
     clear hK K
     try simp only [aT]
     refine tka 6 (.bool false) rfl ?_
     try simp only [aT]
     refine tka 7 (.bool false) rfl ?_
     try simp only [aT]
     refine tka 8 (.slice (some (zA b o)) n cap) rfl ?_
     try simp only [aT]
     refine tka 9 (zI (k:Int)) rfl ?_
     try simp only [aT]
     refine tka 10 (.pointer (some (zA b (o+k * 8)))) rfl ?_
     try simp only [aT]
     refine tka 11 (.pointer (some (zA b (o+k * 8)))) rfl ?_
     try simp only [aT]
     refine tka 12 (zI (Z k 0)) rfl ?_
     try simp only [aT]
     refine tka 13 (zI next) rfl ?_
     try simp only [aT]
     refine tka 14 (.slice (some (zA b o)) n cap) rfl ?_
     try simp only [aT]
     refine tka 15 (zI (n:Int)) rfl ?_
     try simp only [aT]
     refine tka 16 (zI (next - (n:Int))) rfl ?_
     try simp only [aT]
     refine tka 17 (zI (k:Int)) rfl ?_
     try simp only [aT]
     refine tka 18 (zI (next - (n:Int)+(k:Int))) rfl ?_
     try simp only [aT]
     refine tka 19 (.bool false) rfl ?_
     try simp only [aT]
     refine tka 20 (.bool false) rfl ?_
     try simp only [aT]
     refine wpAnyH_done (by kernel_rfl) ?_ _
     go_wp2
     go_roundw
     case rel=>exact ⟨k+1,by omega,by go_num,allP_step HALL.out EG.out,by assumption,by repeat (first | exact BR | refine bthen ?_ (by assumption) | apply Below.drew)⟩
     case measure=>simp [intOf];omega
    ·have EG:Hid (goodP c d next n Z k=false):=by show goodP c d next n Z k=_;simp [goodP];simp at hnum;exact fun _=>hnum
     go_wp2
     refine wp_region_held_drew (S:=fun w'=>(∀ b o,b<w.heap.size+1→w'.cell? (zA b o)=(w.alloc (.cells #[zI c,zI d] 44)).cell? (zA b o))∧w.heap.size+1≤w'.heap.size) (by kernel_rfl) HS ?_
     intro hHeld
     refine tka 0 (.agg #[zI c,zI d]) rfl ?_
     try simp only [aT]
     refine tka 1 (.slice (some (zA b o)) n cap) rfl ?_
     try simp only [aT]
     refine tka 2 (zI (k:Int)) rfl ?_
     try simp only [aT]
     refine tka 3 (.pointer (some (zA b (o+k * 8)))) rfl ?_
     try simp only [aT]
     refine tka 4 (.agg (zE (Z k)).toArray) rfl ?_
     try simp only [aT]
     refine rd1 5 rfl fun K hK=>?_
     go_simp
     go_wp2_with (go_at_call 77;refine (pclOk_spec _ _ _ _ _ _ _ _ _ _ _).mono ?_;rintro e w2 ⟨rfl,hbw2⟩)
     refine hK.out _ _ (keepS (by assumption) hbw2) (fun hHeld=>?_)
     clear hK K
     try simp only [aT]
     refine tka 6 (.bool false) rfl ?_
     try simp only [aT]
     refine tka 7 (.bool false) rfl ?_
     try simp only [aT]
     refine tka 8 (.slice (some (zA b o)) n cap) rfl ?_
     try simp only [aT]
     refine tka 9 (zI (k:Int)) rfl ?_
     try simp only [aT]
     refine tka 10 (.pointer (some (zA b (o+k * 8)))) rfl ?_
     try simp only [aT]
     refine tka 11 (.pointer (some (zA b (o+k * 8)))) rfl ?_
     try simp only [aT]
     refine tka 12 (zI (Z k 0)) rfl ?_
     try simp only [aT]
     refine tka 13 (zI next) rfl ?_
     try simp only [aT]
     refine tka 14 (.slice (some (zA b o)) n cap) rfl ?_
     try simp only [aT]
     refine tka 15 (zI (n:Int)) rfl ?_
     try simp only [aT]
     refine tka 16 (zI (next - (n:Int))) rfl ?_
     try simp only [aT]
     refine tka 17 (zI (k:Int)) rfl ?_
     try simp only [aT]
     refine tka 18 (zI (next - (n:Int)+(k:Int))) rfl ?_
     try simp only [aT]
     refine tka 19 (.bool true) rfl ?_
     try simp only [aT]
     refine tka 20 (.bool true) rfl ?_
     try simp only [aT]
     refine wpAnyH_done (by kernel_rfl) ?_ _
     go_wp2
     go_ret
     exact ⟨by rw [HL.out,allP_stop hkn EG.out];rfl,by repeat (first | exact BR | refine bthen ?_ (by assumption) | apply Below.drew)⟩
  ·have:k=n:=by omega
   subst this
   have HALL:Hid (allP c d next k Z k=true):=hall
   clear hall
   go_wp2
   go_ret
   exact ⟨by rw [HL.out,HALL.out];rfl,BR⟩
set_option maxHeartbeats 8000000 in
set_option maxRecDepth 20000 in
theorem plist_impl (c d next:Int) (b o n cap:Nat) (Z:Nat→Nat→Int) (hn:n≤1048576) (w:World) (hb:b<w.heap.size)
 (hr:∀ k j,k<n→j<8→w.cell? (zA b (o+k * 8+j))=some (zI (Z k j))) :
 Calls Tryz.prog 119 #[.agg #[zI c,zI d],.slice (some (zA b o)) n cap,zI next] w fun e w'=>e=.returned (.bool (listP c d next n Z))∧Below w.heap.size w w':=by
 have HR:Hid (∀ k j,k<n→j<8→w.cell? (zA b (o+k * 8+j))=some (zI (Z k j))):=hr
 clear hr
 cases h1:okB c d
 ·go_enter Tryz.func119,Tryz.ntmps119
  go_wp2_with (go_at_call 89;refine (ok_impl _ _ _).mono ?_;rintro e w1 ⟨rfl,hb1⟩;rw [h1])
  go_ret
  exact ⟨by simp [listP,h1],bthen ((Below.refl _ _).alloc (by simp) _) hb1⟩
 cases h2:inB next 0 5000
 ·go_enter Tryz.func119,Tryz.ntmps119
  go_wp2_with (first | (go_at_call 89;refine (ok_impl _ _ _).mono ?_;rintro e w1 ⟨rfl,hb1⟩;rw [h1]) | (go_at_call 87;refine (in_impl _ _ _ _).mono ?_;rintro e w1 ⟨rfl,rfl⟩;rw [h2]))
  go_ret
  exact ⟨by simp [listP,h2],bthen ((Below.refl _ _).alloc (by simp) _) hb1⟩
 have hnx:0≤next∧next≤5000:=by simpa [inB] using h2
 by_cases h3:¬ (n:Int)≤next
 ·have h3':next<(n:Int):=by omega
  have HL:Hid (listP c d next n Z=false):=by show listP c d next n Z=false;simp [listP,h3]
  clear h3
  go_enter Tryz.func119,Tryz.ntmps119
  go_wp2_with (first | (go_at_call 89;refine (ok_impl _ _ _).mono ?_;rintro e w1 ⟨rfl,hb1⟩;rw [h1]) | (go_at_call 87;refine (in_impl _ _ _ _).mono ?_;rintro e w1 ⟨rfl,rfl⟩;rw [h2]))
  go_ret
  exact ⟨by rw [HL.out];rfl,bthen ((Below.refl _ _).alloc (by simp) _) hb1⟩
 have h3':(n:Int)≤next:=by omega
 have m1:IntKind.wrap .i64 (next - (n:Int))=next - (n:Int):=by simp [IntKind.wrap,IntKind.bits,IntKind.signed];omega
 have m2:∀ k:Nat,k<n→IntKind.wrap .i64 (next - (n:Int)+(k:Int))=next - (n:Int)+(k:Int):=by intro k hk;simp [IntKind.wrap,IntKind.bits,IntKind.signed];omega
 have HL:Hid (listP c d next n Z=allP c d next n Z n):=by show listP c d next n Z=_;simp [listP,h1,h2,h3']
 clear h3
 go_enter Tryz.func119,Tryz.ntmps119
 go_wp2_with (first | (go_at_call 89;refine (ok_impl _ _ _).mono ?_;rintro e w1 ⟨rfl,hb1⟩;rw [h1]) | (go_at_call 87;refine (in_impl _ _ _ _).mono ?_;rintro e w1 ⟨rfl,rfl⟩;rw [h2]))
 have hfirst:True:=trivial
 have HS1:(∀ b o,b<w.heap.size+1→w1.cell? (zA b o)=(w.alloc (.cells #[zI c,zI d] 44)).cell? (zA b o))∧w.heap.size+1≤w1.heap.size:=keepS ⟨fun _ _ _=>rfl,by simp⟩ hb1
 have B1:Below w.heap.size w w1:=bthen ((Below.refl _ _).alloc (by simp) _) hb1
 clear hb1
 go_loopw [30] (fun i wr=>∃ k:Nat,k≤n∧i=zI k∧allP c d next n Z k=true∧((∀ b o,b<w.heap.size+1→wr.cell? (zA b o)=(w.alloc (.cells #[zI c,zI d] 44)).cell? (zA b o))∧w.heap.size+1≤wr.heap.size)∧Below w.heap.size w wr) (fun i _=>n - (intOf i).toNat)
 case atStart=>exact ⟨0,Nat.zero_le _,rfl,rfl,HS1,B1⟩
 case round =>
  clear HS1 B1
  obtain ⟨k,hk,rfl,hall,HS,BR⟩:=hrel
  obtain ⟨HSa,HSb⟩:=HS
  by_cases hkn:k<n
  ·have hkn':(k:Int)<(n:Int):=by omega
   have c0:w.cell? (zA b (o+k * 8))=some (zI (Z k 0)):=HR.out k 0 hkn (by omega)
   have c1:w.cell? (zA b (o+k * 8+1))=some (zI (Z k 1)):=HR.out k 1 hkn (by omega)
   have c2:w.cell? (zA b (o+k * 8+2))=some (zI (Z k 2)):=HR.out k 2 hkn (by omega)
   have c3:w.cell? (zA b (o+k * 8+3))=some (zI (Z k 3)):=HR.out k 3 hkn (by omega)
   have c4:w.cell? (zA b (o+k * 8+4))=some (zI (Z k 4)):=HR.out k 4 hkn (by omega)
   have c5:w.cell? (zA b (o+k * 8+5))=some (zI (Z k 5)):=HR.out k 5 hkn (by omega)
   have c6:w.cell? (zA b (o+k * 8+6))=some (zI (Z k 6)):=HR.out k 6 hkn (by omega)
   have c7:w.cell? (zA b (o+k * 8+7))=some (zI (Z k 7)):=HR.out k 7 hkn (by omega)
   have hb1:b<w.heap.size+1:=by omega
   have HALL:Hid (allP c d next n Z k=true):=hall
   clear hall
   have m3:=m2 k hkn
   have hlw:w.heap.size<wr.heap.size:=by omega
   have KS:Hid ((∀ b o,b<w.heap.size+1→(wr.alloc (.cells (zE (Z k)).toArray 50)).cell? (zA b o)=(w.alloc (.cells #[zI c,zI d] 44)).cell? (zA b o))∧w.heap.size+1≤(wr.alloc (.cells (zE (Z k)).toArray 50)).heap.size):=keepS ⟨HSa,HSb⟩ ((Below.refl _ _).alloc (Nat.le_refl _) _)
   have BK:Hid (Below w.heap.size w (wr.alloc (.cells (zE (Z k)).toArray 50))):=BR.alloc (by omega) _
   cases hnum:(Z k 0 != next - n+k)
   ·cases hok:pclB c d (Z k 0) (Z k 1) (Z k 2) (Z k 3) (Z k 4) (Z k 5) (Z k 6) (Z k 7)
    ·have EG:Hid (goodP c d next n Z k=false):=by show goodP c d next n Z k=_;simp [goodP,hok]
     go_wp2_with (go_at_call 93;refine (pclOk_impl _ _ _ _ _ _ _ _ _ _ _).mono ?_;rintro e w2 ⟨rfl,hb2⟩)
     go_ret
     exact ⟨by rw [HL.out,allP_stop hkn EG.out];rfl,bthen BK.out hb2⟩
    ·have EG:Hid (goodP c d next n Z k=true):=by show goodP c d next n Z k=_;simp [goodP,hok];simpa using hnum
     go_wp2_with (go_at_call 93;refine (pclOk_impl _ _ _ _ _ _ _ _ _ _ _).mono ?_;rintro e w2 ⟨rfl,hb2⟩)
     go_roundw
     case rel=>exact ⟨k+1,by omega,by go_num,allP_step HALL.out EG.out,keepS KS.out hb2,bthen BK.out hb2⟩
     case measure=>simp [intOf];omega
   ·have EG:Hid (goodP c d next n Z k=false):=by show goodP c d next n Z k=_;simp [goodP];simp at hnum;exact fun _=>hnum
    go_wp2
    go_ret
    exact ⟨by rw [HL.out,allP_stop hkn EG.out];rfl,BK.out⟩
  ·have:k=n:=by omega
   subst this
   have HALL:Hid (allP c d next k Z k=true):=hall
   clear hall
   go_wp2
   go_ret
   exact ⟨by rw [HL.out,HALL.out];rfl,BR⟩
end Go.Proofs.YtngaboipleimcaaGreatDoor.P8
namespace Go.Proofs.YtngaboipleimcaaGreatDoor
open Go.RowKit
def stepF (s:Int):Int:=if s=0 then -1 else if s=1 then 1 else 0
def hasB (c d k:Int):Bool:=okB c d && inB k 0 (c - 1)
def sideF (c d k s:Int):Int:=if hasB c d k=true∧¬ stepF s=0∧hasB c d (k+stepF s)=true then k+stepF s else -1
theorem step_impl (s:Int) (w:World) :
 Calls Tryz.prog 143 #[zI s] w fun e w'=>e=.returned (zI (stepF s))∧w'=w:=by
 by_cases h0:s=0
 ·subst h0
  go_enter Tryz.func143,Tryz.ntmps143
  go_wp2
  go_ret
  exact ⟨rfl,rfl⟩
 ·by_cases h1:s=1
  ·subst h1
   go_enter Tryz.func143,Tryz.ntmps143
   go_wp2
   go_ret
   exact ⟨rfl,rfl⟩
  ·have e0:(s == 0)=false:=by simpa using h0
   have e1:(s == 1)=false:=by simpa using h1
   go_enter Tryz.func143,Tryz.ntmps143
   go_wp2
   go_ret
   exact ⟨by simp [stepF,h0,h1],rfl⟩
theorem has_impl (c d k:Int) (w:World) :
 Calls Tryz.prog 85 #[.agg #[zI c,zI d],zI k] w fun e w'=>e=.returned (.bool (hasB c d k))∧Below w.heap.size w w':=by
 cases h:okB c d
 ·go_enter Tryz.func85,Tryz.ntmps85
  go_wp2_with fail
  refine (ok_impl _ _ _).mono ?_
  rintro e w1 ⟨rfl,hb1⟩
  go_wp2
  go_ret
  exact ⟨by simp [hasB,h],bthen ((Below.refl _ _).alloc (by simp) _) hb1⟩
 ·obtain ⟨a1,a2,a3,a4⟩:=okB_bounds h
  go_enter Tryz.func85,Tryz.ntmps85
  go_wp2_with fail
  refine (ok_impl _ _ _).mono ?_
  rintro e w1 ⟨rfl,hb1⟩
  obtain ⟨hc1,hf1⟩:=bcell hb1
  go_wp2_with (go_at_call 87;refine (in_impl _ _ _ _).mono ?_;rintro e w' ⟨rfl,rfl⟩)
  go_ret
  exact ⟨by simp [hasB,h],bthen ((Below.refl _ _).alloc (by simp) _) hb1⟩
theorem hasB_bounds {c d k:Int} (h:hasB c d k=true):2≤c∧c≤4∧2≤d∧d≤8∧0≤k∧k≤c - 1:=by
 simp only [hasB,Bool.and_eq_true,inB_true] at h
 have:=okB_bounds h.1;omega
theorem stepF_cases (s:Int):stepF s=-1∨stepF s=1∨stepF s=0:=by
 unfold stepF;split
 ·simp
 ·split <;> simp
theorem beside_impl (c d k s:Int) (w:World) :
 Calls Tryz.prog 120 #[zI s,.agg #[zI c,zI d],zI k] w fun e w'=>e=.returned (zI (sideF c d k s))∧Below w.heap.size w w':=by
 by_cases hs:stepF s=0
 ·go_enter Tryz.func120,Tryz.ntmps120
  go_wp2_with fail
  refine (step_impl _ _).mono ?_
  rintro e w1 ⟨rfl,rfl⟩
  go_wp2
  go_ret
  exact ⟨by simp [sideF,hs],(Below.refl _ _).alloc (by simp) _⟩
 ·have hs0:(stepF s == 0)=false:=by simpa using hs
  cases h:hasB c d k
  ·go_enter Tryz.func120,Tryz.ntmps120
   go_wp2_with fail
   refine (step_impl _ _).mono ?_
   rintro e w1 ⟨rfl,rfl⟩
   go_wp2_with fail
   refine (has_impl _ _ _ _).mono ?_
   rintro e w2 ⟨rfl,hb2⟩
   go_wp2
   go_ret
   exact ⟨by simp [sideF,h],bthen ((Below.refl _ _).alloc (by simp) _) hb2⟩
  ·obtain ⟨a1,a2,a3,a4,a5,a6⟩:=hasB_bounds h
   have s1:-1≤stepF s:=by have:=stepF_cases s;omega
   have s2:stepF s≤1:=by have:=stepF_cases s;omega
   cases h2:hasB c d (k+stepF s)
   all_goals
    go_enter Tryz.func120,Tryz.ntmps120
    go_wp2_with fail
    refine (step_impl _ _).mono ?_
    rintro e w1 ⟨rfl,rfl⟩
    go_wp2_with fail
    refine (has_impl _ _ _ _).mono ?_
    rintro e w2 ⟨rfl,hb2⟩
    obtain ⟨hc2,hf2⟩:=bcell hb2
    go_wp2_with fail
    refine (has_impl _ _ _ _).mono ?_
    rintro e w3 ⟨rfl,hb3⟩
    go_wp2
    go_ret
    exact ⟨by simp [sideF,h,h2,hs],bthen (bthen ((Below.refl _ _).alloc (by simp) _) hb2) hb3⟩
theorem plcSide_impl (c d k s:Int) (w:World) :
 Calls Tryz.prog 129 #[.agg #[zI c,zI d],zI k,zI s] w fun e w'=>e=.returned (zI (sideF c d k s))∧Below w.heap.size w w':=by
 go_enter Tryz.func129,Tryz.ntmps129
 go_wp2_with fail
 refine (beside_impl _ _ _ _ _).mono ?_
 rintro e w1 ⟨rfl,hb1⟩
 go_wp2
 go_ret
 exact ⟨rfl,bthen ((Below.refl _ _).alloc (by simp) _) hb1⟩
theorem hasB_true {c d k:Int} (h:okB c d=true):hasB c d k=true↔(0≤k∧k≤c - 1):=by
 simp [hasB,h,inB_true]
theorem side_left {c d k:Int} (h:hasB c d k=true):sideF c d k 0=if 0<k then k - 1 else -1:=by
 obtain ⟨a1,a2,a3,a4,a5,a6⟩:=hasB_bounds h
 have ho:okB c d=true:=by simp only [hasB,Bool.and_eq_true] at h;exact h.1
 have e:stepF 0=-1:=rfl
 unfold sideF
 rw [e]
 by_cases g:0<k
 ·rw [if_pos g,if_pos ⟨h,by decide,(hasB_true ho).2 (by omega)⟩];omega
 ·rw [if_neg g,if_neg]
  rintro ⟨_,_,h3⟩
  have:=(hasB_true ho).1 h3;omega
theorem side_right {c d k:Int} (h:hasB c d k=true):sideF c d k 1=if k<c - 1 then k+1 else -1:=by
 obtain ⟨a1,a2,a3,a4,a5,a6⟩:=hasB_bounds h
 have ho:okB c d=true:=by simp only [hasB,Bool.and_eq_true] at h;exact h.1
 have e:stepF 1=1:=rfl
 unfold sideF
 rw [e]
 by_cases g:k<c - 1
 ·rw [if_pos g,if_pos ⟨h,by decide,(hasB_true ho).2 (by omega)⟩]
 ·rw [if_neg g,if_neg]
  rintro ⟨_,_,h3⟩
  have:=(hasB_true ho).1 h3;omega
theorem side_else {c d k s:Int} (h0:¬ s=0) (h1:¬ s=1):sideF c d k s=-1:=by
 have e:stepF s=0:=by simp [stepF,h0,h1]
 simp [sideF,e]
set_option maxHeartbeats 400000 in
theorem plcSide_spec (c d k s:Int) (w:World) :
 Calls Tryz.prog 78 #[.agg #[zI c,zI d],zI k,zI s] w fun e w'=>e=.returned (zI (sideF c d k s))∧Below w.heap.size w w':=by
 cases h:okB c d
 ·go_enter Tryz.func78,Tryz.ntmps78
  go_wp2_with fail
  refine (ok_spec _ _ _).mono ?_
  rintro e w1 ⟨rfl,hb1⟩
  go_wp2
  go_ret
  exact ⟨by simp [sideF,hasB,h],bthen ((Below.refl _ _).alloc (by simp) _) hb1⟩
 ·obtain ⟨a1,a2,a3,a4⟩:=okB_bounds h
  cases hin:inB k 0 (c - 1)
  ·go_enter Tryz.func78,Tryz.ntmps78
   go_wp2_with fail
   refine (ok_spec _ _ _).mono ?_
   rintro e w1 ⟨rfl,hb1⟩
   obtain ⟨hc1,hf1⟩:=bcell hb1
   go_wp2_with (go_at_call 65;refine (in_spec _ _ _ _).mono ?_;rintro e w' ⟨rfl,rfl⟩)
   go_ret
   exact ⟨by simp [sideF,hasB,h,hin],bthen ((Below.refl _ _).alloc (by simp) _) hb1⟩
  ·obtain ⟨i1,i2⟩:=inB_true.1 hin
   have hh:hasB c d k=true:=by simp [hasB,h,hin]
   by_cases h0:s=0
   ·subst h0
    have E:Hid (sideF c d k 0=if 0<k then k - 1 else -1):=side_left hh
    clear hh
    by_cases g:0<k
    all_goals
     go_enter Tryz.func78,Tryz.ntmps78
     go_wp2_with fail
     refine (ok_spec _ _ _).mono ?_
     rintro e w1 ⟨rfl,hb1⟩
     obtain ⟨hc1,hf1⟩:=bcell hb1
     go_wp2_with (go_at_call 65;refine (in_spec _ _ _ _).mono ?_;rintro e w' ⟨rfl,rfl⟩)
     go_ret
     exact ⟨by rw [E.out];simp [g] <;> omega,bthen ((Below.refl _ _).alloc (by simp) _) hb1⟩
   ·have e0:(s == 0)=false:=by simpa using h0
    by_cases h1:s=1
    ·subst h1
     have E:Hid (sideF c d k 1=if k<c - 1 then k+1 else -1):=side_right hh
     clear hh h0 e0
     by_cases g:k<c - 1
     all_goals
      go_enter Tryz.func78,Tryz.ntmps78
      go_wp2_with fail
      refine (ok_spec _ _ _).mono ?_
      rintro e w1 ⟨rfl,hb1⟩
      obtain ⟨hc1,hf1⟩:=bcell hb1
      go_wp2_with (go_at_call 65;refine (in_spec _ _ _ _).mono ?_;rintro e w' ⟨rfl,rfl⟩)
      go_ret
      exact ⟨by rw [E.out];simp [g] <;> omega,bthen ((Below.refl _ _).alloc (by simp) _) hb1⟩
    ·have e1:(s == 1)=false:=by simpa using h1
     have E:Hid (sideF c d k s=-1):=side_else h0 h1
     clear hh
     go_enter Tryz.func78,Tryz.ntmps78
     go_wp2_with fail
     refine (ok_spec _ _ _).mono ?_
     rintro e w1 ⟨rfl,hb1⟩
     obtain ⟨hc1,hf1⟩:=bcell hb1
     go_wp2_with (go_at_call 65;refine (in_spec _ _ _ _).mono ?_;rintro e w' ⟨rfl,rfl⟩)
     go_ret
     exact ⟨by rw [E.out];rfl,bthen ((Below.refl _ _).alloc (by simp) _) hb1⟩
end Go.Proofs.YtngaboipleimcaaGreatDoor
namespace Go.Proofs.YtngaboipleimcaaGreatDoor
open Go.RowKit Go.Deep
def allK (p:Nat→Bool):Nat→Bool
 | 0=>true
 | k+1=>allK p k && p k
theorem allK_step {p:Nat→Bool} {k:Nat} (h:allK p k=true) (g:p k=true):allK p (k+1)=true:=by simp [allK,h,g]
theorem allK_down {p:Nat→Bool} {k:Nat}:∀ n,k≤n→allK p n=true→allK p k=true
 | 0,h,e=>by have:k=0:=by omega
             subst this;exact e
 | n+1,h,e=>by
  by_cases hk:k=n+1
  ·subst hk;exact e
  ·simp only [allK,Bool.and_eq_true] at e
   exact allK_down n (by omega) e.1
theorem allK_stop {p:Nat→Bool} {k n:Nat} (hk:k<n) (g:p k=false):allK p n=false:=by
 match e:allK p n with
 | false=>rfl
 | true =>
  have:=allK_down n (show k+1≤n by omega) e
  simp [allK,g] at this
set_option maxHeartbeats 8000000 in
theorem walkersOk_impl (c d VC VG:Int) (b o n cap:Nat) (W:Nat→Nat→Int) (x3 x4 x5:Value) (hn:n≤1048576) (w:World) (hb:b<w.heap.size)
 (hr:∀ k j,k<n→j<5→w.cell? (zA b (o+k * 5+j))=some (zI (W k j))) :
 Calls Tryz.prog 86 #[.agg #[zI VC,.slice (some (zA b o)) n cap,zI VG,x3,x4,x5],.agg #[zI c,zI d]] w fun e w'=>e=.returned (.bool (allK (fun k=>!(cellF c d (W k 1) != VC)) n && allB c d W n))∧Below w.heap.size w w':=by
 have HR:Hid (∀ k j,k<n→j<5→w.cell? (zA b (o+k * 5+j))=some (zI (W k j))):=hr
 clear hr
 go_enter Tryz.func86,Tryz.ntmps86
 go_wp2
 go_loopw [10] (fun i wr=>∃ k:Nat,k≤n∧i=zI k∧allK (fun k=>!(cellF c d (W k 1) != VC)) k=true∧((∀ g i,g<w.heap.size+1+1→wr.cell? (zA g i)=((w.alloc (.cells #[zI VC,.slice (some (zA b o)) n cap,zI VG,x3,x4,x5] 41)).alloc (.cells #[zI c,zI d] 44)).cell? (zA g i))∧w.heap.size+1+1≤wr.heap.size)∧Below w.heap.size w wr) (fun i _=>n - (intOf i).toNat)
 case atStart=>exact ⟨0,Nat.zero_le _,rfl,rfl,⟨fun _ _ _=>rfl,by simp⟩,((Below.refl _ _).alloc (by simp) _).alloc (by simp) _⟩
 case round =>
  obtain ⟨k,hk,rfl,hall,HS,BR⟩:=hrel
  have HALL:Hid (allK (fun k=>!(cellF c d (W k 1) != VC)) k=true):=hall
  clear hall
  have hmw:w.heap.size+1<wr.heap.size:=HS.2
  have hmw0:w.heap.size<wr.heap.size:=by omega
  have m0:wr.cell? (zA (w.heap.size+1) 0)=some (zI c):=(HS.1 (w.heap.size+1) 0 (by omega)).trans (by simp)
  have m1:wr.cell? (zA (w.heap.size+1) 1)=some (zI d):=(HS.1 (w.heap.size+1) 1 (by omega)).trans (by simp)
  have v0:wr.cell? (zA w.heap.size 0)=some (zI VC):=(HS.1 w.heap.size 0 (by omega)).trans (by simp)
  have v1:wr.cell? (zA w.heap.size 1)=some (.slice (some (zA b o)) n cap):=(HS.1 w.heap.size 1 (by omega)).trans (by simp)
  have HSH:Hid ((∀ g i,g<w.heap.size+1+1→wr.cell? (zA g i)=((w.alloc (.cells #[zI VC,.slice (some (zA b o)) n cap,zI VG,x3,x4,x5] 41)).alloc (.cells #[zI c,zI d] 44)).cell? (zA g i))∧w.heap.size+1+1≤wr.heap.size):=HS
  clear HS
  by_cases hkn:k<n
  ·have hkn':(k:Int)<n:=by omega
   have hbwr:b<wr.heap.size:=by omega
   have c0:wr.cell? (zA b (o+k * 5))=some (zI (W k 0)):=(BR.cell (p:=⟨b,_,none⟩) hb).trans (HR.out k 0 hkn (by omega))
   have c1:wr.cell? (zA b (o+k * 5+1))=some (zI (W k 1)):=(BR.cell (p:=⟨b,_,none⟩) hb).trans (HR.out k 1 hkn (by omega))
   have c2:wr.cell? (zA b (o+k * 5+2))=some (zI (W k 2)):=(BR.cell (p:=⟨b,_,none⟩) hb).trans (HR.out k 2 hkn (by omega))
   have c3:wr.cell? (zA b (o+k * 5+3))=some (zI (W k 3)):=(BR.cell (p:=⟨b,_,none⟩) hb).trans (HR.out k 3 hkn (by omega))
   have c4:wr.cell? (zA b (o+k * 5+4))=some (zI (W k 4)):=(BR.cell (p:=⟨b,_,none⟩) hb).trans (HR.out k 4 hkn (by omega))
   have BR1:Below w.heap.size w (wr.alloc (.cells (zF (W k)).toArray 48)):=BR.alloc (by omega) _
   clear BR
   cases hp:(cellF c d (W k 1) != VC)
   ·go_wp2
    refine wp_region_held_drew (S:=fun w'=>(∀ b o,b<wr.heap.size+1→w'.cell? (zA b o)=(wr.alloc (.cells (zF (W k)).toArray 48)).cell? (zA b o))∧wr.heap.size+1≤w'.heap.size) (by kernel_rfl) ⟨fun _ _ _=>rfl,by simp⟩ ?_
    intro hHeld
    refine tka 0 (.agg #[zI c,zI d]) rfl ?_
    try simp only [aT]
    refine tka 1 (zP wr.heap.size 1) rfl ?_
    try simp only [aT]
    refine tka 2 (zI (W k 1)) rfl ?_
    try simp only [aT]
    refine tka 4 (zP w.heap.size 0) rfl ?_
    try simp only [aT]
    refine tka 5 (zI VC) rfl ?_
    try simp only [aT]
    refine rd1 3 rfl fun K hK=>?_
    go_simp
    go_wp2_with (go_at_call 117;refine (plcCell_impl _ _ _ _).mono ?_;rintro e w2 ⟨rfl,hbw2⟩)
    refine hK.out _ _ (keepS (by assumption) hbw2) (fun hHeld=>?_)
    clear hK K
    try simp only [aT]
    refine tka 6 (.bool false) rfl ?_
    try simp only [aT]
    refine wpAnyH_done (by kernel_rfl) ?_ _
    go_wp2
    go_roundw
    case rel=>exact ⟨k+1,by omega,by go_num,allK_step HALL.out (by simp [hp]),keep_down HSH.out (by assumption),by repeat (first | exact BR1 | refine bthen ?_ (by assumption) | apply Below.drew)⟩
    case measure=>simp [intOf];omega
   ·go_wp2
    refine wp_region_held_drew (S:=fun w'=>(∀ b o,b<wr.heap.size+1→w'.cell? (zA b o)=(wr.alloc (.cells (zF (W k)).toArray 48)).cell? (zA b o))∧wr.heap.size+1≤w'.heap.size) (by kernel_rfl) ⟨fun _ _ _=>rfl,by simp⟩ ?_
    intro hHeld
    refine tka 0 (.agg #[zI c,zI d]) rfl ?_
    try simp only [aT]
    refine tka 1 (zP wr.heap.size 1) rfl ?_
    try simp only [aT]
    refine tka 2 (zI (W k 1)) rfl ?_
    try simp only [aT]
    refine tka 4 (zP w.heap.size 0) rfl ?_
    try simp only [aT]
    refine tka 5 (zI VC) rfl ?_
    try simp only [aT]
    refine rd1 3 rfl fun K hK=>?_
    go_simp
    go_wp2_with (go_at_call 117;refine (plcCell_impl _ _ _ _).mono ?_;rintro e w2 ⟨rfl,hbw2⟩)
    refine hK.out _ _ (keepS (by assumption) hbw2) (fun hHeld=>?_)
    clear hK K
    try simp only [aT]
    refine tka 6 (.bool true) rfl ?_
    try simp only [aT]
    refine wpAnyH_done (by kernel_rfl) ?_ _
    go_wp2
    go_ret
    exact ⟨by rw [allK_stop hkn (by simp [hp])];rfl,by repeat (first | exact BR1 | refine bthen ?_ (by assumption) | apply Below.drew)⟩
  ·have:k=n:=by omega
   subst this
   go_wp2_with fail
   refine (listOk_impl c d b o k cap W hn _ (by omega) (fun k' j h1 h2=>(BR.cell (p:=⟨b,_,none⟩) hb).trans (HR.out k' j h1 h2))).mono ?_
   rintro e w2 ⟨rfl,hb2⟩
   go_wp2
   go_ret
   exact ⟨by rw [HALL.out,Bool.true_and];rfl,bthen BR hb2⟩
