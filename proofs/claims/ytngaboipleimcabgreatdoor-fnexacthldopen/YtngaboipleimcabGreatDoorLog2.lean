/- LogOk of the program; conditions: none. -/
import Derived.Test.YtngaboipleimcabGreatDoorLog1
set_option linter.unusedVariables false
set_option maxHeartbeats 4000000
set_option maxRecDepth 100000
namespace Go.Proofs.YtngaboipleimcabGreatDoor
open Go.RowKit
def FN (s p0 p1 p2 p3 p4 p5 p6 p7 n:Int):Bool:=s == 0 && (p0 == 0 && (p1 == 0 && (p2 == 0 && (p3 == 0 && (p4 == 0 && (p5 == 0 && (p6 == 0 && (p7 == 0 && (n == 0)))))))))
def E8 (a0 a1 a2 a3 a4 n:Int):Bool:=a0 == 0 && (a1 == 0 && (a2 == 0 && (a3 == 0 && (a4 == 0 && (n == 0)))))
def FK (a0 a1 a2 a3 a4 p0 p1 p2 p3 p4 p5 p6 p7:Int):Bool:=a0 == 0 && (a1 == 0 && (a2 == 0 && (a3 == 0 && (a4 == 0 && (p0 == 0 && (p1 == 0 && (p2 == 0 && (p3 == 0 && (p4 == 0 && (p5 == 0 && (p6 == 0 && (p7 == 0))))))))))))
def F9 (k a0 a1 a2 a3 a4 s p0 p1 p2 p3 p4 p5 p6 p7 n:Int):Bool:=k == 0 && (a0 == 0 && (a1 == 0 && (a2 == 0 && (a3 == 0 && (a4 == 0 && (s == 0 && (p0 == 0 && (p1 == 0 && (p2 == 0 && (p3 == 0 && (p4 == 0 && (p5 == 0 && (p6 == 0 && (p7 == 0 && (n == 0)))))))))))))))
theorem nb0 (x:Int) (w:World):(if x=0 then Result.ok (Next.value (.bool false)) w else Result.ok (Next.value (.bool true)) w)=Result.ok (Next.value (.bool (!(x == 0)))) w:=by
 by_cases h:x=0 <;> simp [h]
theorem nb (x:Int) (r:Bool) (w:World):(if x=0 then Result.ok (Next.value (.bool (!r))) w else Result.ok (Next.value (.bool true)) w)=Result.ok (Next.value (.bool (!(x == 0 && r)))) w:=by
 by_cases h:x=0 <;> simp [h]
theorem EH {c d a0 a1 a2 a3 a4 s p0 p1 p2 p3 p4 p5 p6 p7 n:Int}:iE c d 1 a0 a1 a2 a3 a4 s p0 p1 p2 p3 p4 p5 p6 p7 n=(okB c d && (iP a0 a1 a2 a3 a4 && FN s p0 p1 p2 p3 p4 p5 p6 p7 n)):=by
 simp [iE,mM,FN,Bool.and_assoc]
theorem EO {c d a0 a1 a2 a3 a4 s p0 p1 p2 p3 p4 p5 p6 p7 n:Int}:iE c d 2 a0 a1 a2 a3 a4 s p0 p1 p2 p3 p4 p5 p6 p7 n=(E8 a0 a1 a2 a3 a4 n && (inB s 0 1 && jf c d p0 p1 p2 p3 p4 p5 p6 p7)):=by
 simp [iE,oG,E8,Bool.and_assoc,Bool.and_comm,Bool.and_left_comm]
theorem Ew {c d a0 a1 a2 a3 a4 s p0 p1 p2 p3 p4 p5 p6 p7 n:Int}:iE c d 3 a0 a1 a2 a3 a4 s p0 p1 p2 p3 p4 p5 p6 p7 n=(okB c d && (FK a0 a1 a2 a3 a4 p0 p1 p2 p3 p4 p5 p6 p7 && (inB s 0 1 && inB n 1 5000))):=by
 simp [iE,oG,mM,FK,Bool.and_assoc,Bool.and_comm,Bool.and_left_comm]
theorem BM {c d k a0 a1 a2 a3 a4 s p0 p1 p2 p3 p4 p5 p6 p7 n:Int} (h1:¬ k=1) (h2:¬ k=2) (h3:¬ k=3):iE c d k a0 a1 a2 a3 a4 s p0 p1 p2 p3 p4 p5 p6 p7 n=false:=by
 simp [iE,h1,h2,h3]
theorem wC (c d k a0 a1 a2 a3 a4 s p0 p1 p2 p3 p4 p5 p6 p7 n:Int) (hk:k=1) (w:World) :
 Hz 109 #[.agg #[zI c,zI d],.agg #[zI k,zI a0,zI a1,zI a2,zI a3,zI a4,zI s,zI p0,zI p1,zI p2,zI p3,zI p4,zI p5,zI p6,zI p7,zI n]] w fun e w'=>e=.returned (.bool (iE c d k a0 a1 a2 a3 a4 s p0 p1 p2 p3 p4 p5 p6 p7 n))/\Below w.heap.size w w':=by
 subst hk;go_enter Tryz.func109,Tryz.ntmps109;go_wp2;refine Hu (S:=fun w'=>(∀ b o,b<w.heap.size+2->w'.cell? (zA b o)=((w.alloc (.cells #[zI c,zI d] 44)).alloc (.cells #[zI 1,zI a0,zI a1,zI a2,zI a3,zI a4,zI s,zI p0,zI p1,zI p2,zI p3,zI p4,zI p5,zI p6,zI p7,zI n] 71)).cell? (zA b o))/\w.heap.size+2<=w'.heap.size) (by kernel_rfl) ⟨fun _ _ _=>rfl,by simp⟩ ?_;intro af;refine dY 0 (.agg #[zI c,zI d]) rfl ?_ ?_
 ·intro wx hSw;have q0:=hSw.1 w.heap.size;have q1:=hSw.1 (w.heap.size+1);go_simp
 refine di 1 rfl fun K hK=>?_;go_simp;go_wp2_with (go_at_call 122;refine (fE _ _ _).mono ?_;rintro e w1 ⟨rfl,hbw1⟩);refine hK.out _ _ (bM (by assumption) hbw1) (fun af=>?_);clear hK K;try simp only [aT]
 cases hok:okB c d
 ·refine aA 2 (.bool true) rfl ?_;refine aA 3 (.bool true) rfl ?_;refine bU 4 rfl ?_;refine bU 5 rfl ?_;refine bU 6 rfl ?_;refine bU 7 rfl ?_;refine aA 8 (.bool true) rfl ?_;refine Hy (by kernel_rfl) ?_ _;go_wp2;go_ret;exact ⟨by simp [iE,hok],by repeat (first | exact Hr _ _ | assumption | refine ah ?_ (by assumption) | apply Below.drew | apply bZ | refine Below.alloc ?_ (by simp <;> omega) _)⟩
 refine aA 2 (.bool false) rfl ?_;refine aA 3 (.bool false) rfl ?_;refine dY 4 (.agg #[zI 1,zI a0,zI a1,zI a2,zI a3,zI a4,zI s,zI p0,zI p1,zI p2,zI p3,zI p4,zI p5,zI p6,zI p7,zI n]) rfl ?_ ?_
 ·intro wx hSw;have q0:=hSw.1 w.heap.size;have q1:=hSw.1 (w.heap.size+1);go_simp
 refine dY 5 (.agg #[zI 1,zI a0,zI a1,zI a2,zI a3,zI a4,zI s,zI p0,zI p1,zI p2,zI p3,zI p4,zI p5,zI p6,zI p7,zI n]) rfl ?_ ?_
 ·intro wx hSw;have q0:=hSw.1 w.heap.size;have q1:=hSw.1 (w.heap.size+1);go_simp
 refine di 6 rfl fun K hK=>?_;go_simp;go_wp2_with (go_at_call 132;refine (CO _ _ _ _ _ _ _ _ _ _ _ _ _ _ _ _ rfl _).mono ?_;rintro e w2 ⟨rfl,hbw2⟩);refine hK.out _ _ (bM (by assumption) hbw2) (fun af=>?_);clear hK K;try simp only [aT]
 refine dY 7 (.bool (!(FN s p0 p1 p2 p3 p4 p5 p6 p7 n))) rfl ?_ ?_
 ·intro wx hSw;go_simp;simp only [nb0,nb,FN]
 refine aA 8 (.bool (!(FN s p0 p1 p2 p3 p4 p5 p6 p7 n))) rfl ?_;refine Hy (by kernel_rfl) ?_ _;have q0:∀ o,w2.cell? (zA w.heap.size o)=((w.alloc (.cells #[zI c,zI d] 44)).alloc (.cells #[zI 1,zI a0,zI a1,zI a2,zI a3,zI a4,zI s,zI p0,zI p1,zI p2,zI p3,zI p4,zI p5,zI p6,zI p7,zI n] 71)).cell? (zA w.heap.size o):=fun o=>af.1 _ o (by omega);have q1:∀ o,w2.cell? (zA (w.heap.size+1) o)=((w.alloc (.cells #[zI c,zI d] 44)).alloc (.cells #[zI 1,zI a0,zI a1,zI a2,zI a3,zI a4,zI s,zI p0,zI p1,zI p2,zI p3,zI p4,zI p5,zI p6,zI p7,zI n] 71)).cell? (zA (w.heap.size+1) o):=fun o=>af.1 _ o (by omega);have l0:w.heap.size<w2.heap.size:=by have:=af.2;omega
 have l1:w.heap.size+1<w2.heap.size:=by have:=af.2;omega
 have HB1:=hbw1;have HB2:=hbw2;clear af;cases hE:FN s p0 p1 p2 p3 p4 p5 p6 p7 n
 ·go_wp2;go_ret;exact ⟨by rw [EH,hE];simp,by repeat (first | exact Hr _ _ | assumption | refine ah ?_ (by assumption) | apply Below.drew | apply bZ | refine Below.alloc ?_ (by simp <;> omega) _)⟩
 have HE:bY (FN s p0 p1 p2 p3 p4 p5 p6 p7 n=true):=hE;clear hE;go_wp2_with (go_at_call 133;refine (yC _ _ _ _ _ _).mono ?_;rintro e w3 ⟨rfl,hbw3⟩);all_goals (go_ret;exact ⟨by rw [EH,HE.o,hok];simp [*],by repeat (first | exact Hr _ _ | assumption | refine ah ?_ (by assumption) | apply Below.drew | apply bZ | refine Below.alloc ?_ (by simp <;> omega) _)⟩)
theorem wu (c d k a0 a1 a2 a3 a4 s p0 p1 p2 p3 p4 p5 p6 p7 n:Int) (hk:k=2) (w:World) :
 Hz 109 #[.agg #[zI c,zI d],.agg #[zI k,zI a0,zI a1,zI a2,zI a3,zI a4,zI s,zI p0,zI p1,zI p2,zI p3,zI p4,zI p5,zI p6,zI p7,zI n]] w fun e w'=>e=.returned (.bool (iE c d k a0 a1 a2 a3 a4 s p0 p1 p2 p3 p4 p5 p6 p7 n))/\Below w.heap.size w w':=by
 subst hk;go_enter Tryz.func109,Tryz.ntmps109;go_wp2;refine Hu (S:=fun w'=>(∀ b o,b<w.heap.size+2->w'.cell? (zA b o)=((w.alloc (.cells #[zI c,zI d] 44)).alloc (.cells #[zI 2,zI a0,zI a1,zI a2,zI a3,zI a4,zI s,zI p0,zI p1,zI p2,zI p3,zI p4,zI p5,zI p6,zI p7,zI n] 71)).cell? (zA b o))/\w.heap.size+2<=w'.heap.size) (by kernel_rfl) ⟨fun _ _ _=>rfl,by simp⟩ ?_;intro af;refine dY 0 (.agg #[zI c,zI d]) rfl ?_ ?_
 ·intro wx hSw;have q0:=hSw.1 w.heap.size;have q1:=hSw.1 (w.heap.size+1);go_simp
 refine di 1 rfl fun K hK=>?_;go_simp;go_wp2_with (go_at_call 122;refine (fE _ _ _).mono ?_;rintro e w1 ⟨rfl,hbw1⟩);refine hK.out _ _ (bM (by assumption) hbw1) (fun af=>?_);clear hK K;try simp only [aT]
 cases hok:okB c d
 ·refine aA 2 (.bool true) rfl ?_;refine aA 3 (.bool true) rfl ?_;refine bU 4 rfl ?_;refine bU 5 rfl ?_;refine bU 6 rfl ?_;refine bU 7 rfl ?_;refine aA 8 (.bool true) rfl ?_;refine Hy (by kernel_rfl) ?_ _;go_wp2;go_ret;exact ⟨by simp [jf,iE,hok],by repeat (first | exact Hr _ _ | assumption | refine ah ?_ (by assumption) | apply Below.drew | apply bZ | refine Below.alloc ?_ (by simp <;> omega) _)⟩
 refine aA 2 (.bool false) rfl ?_;refine aA 3 (.bool false) rfl ?_;refine dY 4 (.agg #[zI 2,zI a0,zI a1,zI a2,zI a3,zI a4,zI s,zI p0,zI p1,zI p2,zI p3,zI p4,zI p5,zI p6,zI p7,zI n]) rfl ?_ ?_
 ·intro wx hSw;have q0:=hSw.1 w.heap.size;have q1:=hSw.1 (w.heap.size+1);go_simp
 refine dY 5 (.agg #[zI 2,zI a0,zI a1,zI a2,zI a3,zI a4,zI s,zI p0,zI p1,zI p2,zI p3,zI p4,zI p5,zI p6,zI p7,zI n]) rfl ?_ ?_
 ·intro wx hSw;have q0:=hSw.1 w.heap.size;have q1:=hSw.1 (w.heap.size+1);go_simp
 refine di 6 rfl fun K hK=>?_;go_simp;go_wp2_with (go_at_call 132;refine (Dz _ _ _ _ _ _ _ _ _ _ _ _ _ _ _ _ rfl _).mono ?_;rintro e w2 ⟨rfl,hbw2⟩);refine hK.out _ _ (bM (by assumption) hbw2) (fun af=>?_);clear hK K;try simp only [aT]
 refine dY 7 (.bool (!(E8 a0 a1 a2 a3 a4 n))) rfl ?_ ?_
 ·intro wx hSw;go_simp;simp only [nb0,nb,E8]
 refine aA 8 (.bool (!(E8 a0 a1 a2 a3 a4 n))) rfl ?_;refine Hy (by kernel_rfl) ?_ _;have q0:∀ o,w2.cell? (zA w.heap.size o)=((w.alloc (.cells #[zI c,zI d] 44)).alloc (.cells #[zI 2,zI a0,zI a1,zI a2,zI a3,zI a4,zI s,zI p0,zI p1,zI p2,zI p3,zI p4,zI p5,zI p6,zI p7,zI n] 71)).cell? (zA w.heap.size o):=fun o=>af.1 _ o (by omega);have q1:∀ o,w2.cell? (zA (w.heap.size+1) o)=((w.alloc (.cells #[zI c,zI d] 44)).alloc (.cells #[zI 2,zI a0,zI a1,zI a2,zI a3,zI a4,zI s,zI p0,zI p1,zI p2,zI p3,zI p4,zI p5,zI p6,zI p7,zI n] 71)).cell? (zA (w.heap.size+1) o):=fun o=>af.1 _ o (by omega);have l0:w.heap.size<w2.heap.size:=by have:=af.2;omega
 have l1:w.heap.size+1<w2.heap.size:=by have:=af.2;omega
 have HB1:=hbw1;have HB2:=hbw2;clear af;cases hE:E8 a0 a1 a2 a3 a4 n
 ·go_wp2;go_ret;exact ⟨by rw [EO,hE];simp,by repeat (first | exact Hr _ _ | assumption | refine ah ?_ (by assumption) | apply Below.drew | apply bZ | refine Below.alloc ?_ (by simp <;> omega) _)⟩
 have HE:bY (E8 a0 a1 a2 a3 a4 n=true):=hE;clear hE;go_wp2_with (first | (go_at_call 134;refine (yU _ _ _ _ _ _ _ _ _ _ _ _ _ _ _ _ _ ).mono ?_;rintro e w3 ⟨rfl,hbw3⟩;obtain ⟨hc3,hf3⟩:=cu hbw3) | (go_at_call 135;refine (ou _ _ _ _ _ _ _ _ _ _ _).mono ?_;rintro e w4 ⟨rfl,hbw4⟩));all_goals (go_ret;exact ⟨by rw [EO,HE.o];simp [*],by repeat (first | exact Hr _ _ | assumption | refine ah ?_ (by assumption) | apply Below.drew | apply bZ | refine Below.alloc ?_ (by simp <;> omega) _)⟩)
