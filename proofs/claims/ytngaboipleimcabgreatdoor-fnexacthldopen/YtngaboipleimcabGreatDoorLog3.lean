/- LogOk of both sides, its other kinds; conditions: none. -/
import Derived.Test.YtngaboipleimcabGreatDoorLog2
set_option linter.unusedVariables false
set_option maxHeartbeats 4000000
set_option maxRecDepth 100000
namespace Go.Proofs.YtngaboipleimcabGreatDoor
open Go.RowKit
theorem wI (c d k a0 a1 a2 a3 a4 s p0 p1 p2 p3 p4 p5 p6 p7 n:Int) (hk:k=3) (w:World) :
 Hz 109 #[.agg #[zI c,zI d],.agg #[zI k,zI a0,zI a1,zI a2,zI a3,zI a4,zI s,zI p0,zI p1,zI p2,zI p3,zI p4,zI p5,zI p6,zI p7,zI n]] w fun e w'=>e=.returned (.bool (iE c d k a0 a1 a2 a3 a4 s p0 p1 p2 p3 p4 p5 p6 p7 n))/\Below w.heap.size w w':=by
 subst hk;go_enter Tryz.func109,Tryz.ntmps109;go_wp2;refine Hu (S:=fun w'=>(∀ b o,b<w.heap.size+2->w'.cell? (zA b o)=((w.alloc (.cells #[zI c,zI d] 44)).alloc (.cells #[zI 3,zI a0,zI a1,zI a2,zI a3,zI a4,zI s,zI p0,zI p1,zI p2,zI p3,zI p4,zI p5,zI p6,zI p7,zI n] 71)).cell? (zA b o))/\w.heap.size+2<=w'.heap.size) (by kernel_rfl) ⟨fun _ _ _=>rfl,by simp⟩ ?_;intro af;refine dY 0 (.agg #[zI c,zI d]) rfl ?_ ?_
 ·intro wx hSw;have q0:=hSw.1 w.heap.size;have q1:=hSw.1 (w.heap.size+1);go_simp
 refine di 1 rfl fun K hK=>?_;go_simp;go_wp2_with (go_at_call 122;refine (fE _ _ _).mono ?_;rintro e w1 ⟨rfl,hbw1⟩);refine hK.out _ _ (bM (by assumption) hbw1) (fun af=>?_);clear hK K;try simp only [aT]
 cases hok:okB c d
 ·refine aA 2 (.bool true) rfl ?_;refine aA 3 (.bool true) rfl ?_;refine bU 4 rfl ?_;refine bU 5 rfl ?_;refine bU 6 rfl ?_;refine bU 7 rfl ?_;refine aA 8 (.bool true) rfl ?_;refine Hy (by kernel_rfl) ?_ _;go_wp2;go_ret;exact ⟨by simp [iE,hok],by repeat (first | exact Hr _ _ | assumption | refine ah ?_ (by assumption) | apply Below.drew | apply bZ | refine Below.alloc ?_ (by simp <;> omega) _)⟩
 refine aA 2 (.bool false) rfl ?_;refine aA 3 (.bool false) rfl ?_;refine dY 4 (.agg #[zI 3,zI a0,zI a1,zI a2,zI a3,zI a4,zI s,zI p0,zI p1,zI p2,zI p3,zI p4,zI p5,zI p6,zI p7,zI n]) rfl ?_ ?_
 ·intro wx hSw;have q0:=hSw.1 w.heap.size;have q1:=hSw.1 (w.heap.size+1);go_simp
 refine dY 5 (.agg #[zI 3,zI a0,zI a1,zI a2,zI a3,zI a4,zI s,zI p0,zI p1,zI p2,zI p3,zI p4,zI p5,zI p6,zI p7,zI n]) rfl ?_ ?_
 ·intro wx hSw;have q0:=hSw.1 w.heap.size;have q1:=hSw.1 (w.heap.size+1);go_simp
 refine di 6 rfl fun K hK=>?_;go_simp;go_wp2_with (go_at_call 132;refine (DC _ _ _ _ _ _ _ _ _ _ _ _ _ _ _ _ rfl _).mono ?_;rintro e w2 ⟨rfl,hbw2⟩);refine hK.out _ _ (bM (by assumption) hbw2) (fun af=>?_);clear hK K;try simp only [aT]
 refine dY 7 (.bool (!(FK a0 a1 a2 a3 a4 p0 p1 p2 p3 p4 p5 p6 p7))) rfl ?_ ?_
 ·intro wx hSw;go_simp;simp only [nb0,nb,FK]
 refine aA 8 (.bool (!(FK a0 a1 a2 a3 a4 p0 p1 p2 p3 p4 p5 p6 p7))) rfl ?_;refine Hy (by kernel_rfl) ?_ _;have q0:∀ o,w2.cell? (zA w.heap.size o)=((w.alloc (.cells #[zI c,zI d] 44)).alloc (.cells #[zI 3,zI a0,zI a1,zI a2,zI a3,zI a4,zI s,zI p0,zI p1,zI p2,zI p3,zI p4,zI p5,zI p6,zI p7,zI n] 71)).cell? (zA w.heap.size o):=fun o=>af.1 _ o (by omega);have q1:∀ o,w2.cell? (zA (w.heap.size+1) o)=((w.alloc (.cells #[zI c,zI d] 44)).alloc (.cells #[zI 3,zI a0,zI a1,zI a2,zI a3,zI a4,zI s,zI p0,zI p1,zI p2,zI p3,zI p4,zI p5,zI p6,zI p7,zI n] 71)).cell? (zA (w.heap.size+1) o):=fun o=>af.1 _ o (by omega);have l0:w.heap.size<w2.heap.size:=by have:=af.2;omega
 have l1:w.heap.size+1<w2.heap.size:=by have:=af.2;omega
 have HB1:=hbw1;have HB2:=hbw2;clear af;cases hE:FK a0 a1 a2 a3 a4 p0 p1 p2 p3 p4 p5 p6 p7
 ·go_wp2;go_ret;exact ⟨by rw [Ew,hE];simp,by repeat (first | exact Hr _ _ | assumption | refine ah ?_ (by assumption) | apply Below.drew | apply bZ | refine Below.alloc ?_ (by simp <;> omega) _)⟩
 have HE:bY (FK a0 a1 a2 a3 a4 p0 p1 p2 p3 p4 p5 p6 p7=true):=hE;clear hE;go_wp2_with (first | (go_at_call 134;refine (yU _ _ _ _ _ _ _ _ _ _ _ _ _ _ _ _ _ ).mono ?_;rintro e w3 ⟨rfl,hbw3⟩;obtain ⟨hc3,hf3⟩:=cu hbw3) | (go_at_call 136;refine (DK _ _ _ _ _ _ _ _ _ _ _ _ _ _ _ _ _ ).mono ?_;rintro e w4 ⟨rfl,hbw4⟩));all_goals (go_ret;exact ⟨by rw [Ew,HE.o,hok];simp [*],by repeat (first | exact Hr _ _ | assumption | refine ah ?_ (by assumption) | apply Below.drew | apply bZ | refine Below.alloc ?_ (by simp <;> omega) _)⟩)
theorem wV (c d k a0 a1 a2 a3 a4 s p0 p1 p2 p3 p4 p5 p6 p7 n:Int) (h1:¬ k=1) (h2:¬ k=2) (h3:¬ k=3) (w:World) :
 Hz 109 #[.agg #[zI c,zI d],.agg #[zI k,zI a0,zI a1,zI a2,zI a3,zI a4,zI s,zI p0,zI p1,zI p2,zI p3,zI p4,zI p5,zI p6,zI p7,zI n]] w fun e w'=>e=.returned (.bool (iE c d k a0 a1 a2 a3 a4 s p0 p1 p2 p3 p4 p5 p6 p7 n))/\Below w.heap.size w w':=by
 go_enter Tryz.func109,Tryz.ntmps109;go_wp2;refine Hu (S:=fun w'=>(∀ b o,b<w.heap.size+2->w'.cell? (zA b o)=((w.alloc (.cells #[zI c,zI d] 44)).alloc (.cells #[zI k,zI a0,zI a1,zI a2,zI a3,zI a4,zI s,zI p0,zI p1,zI p2,zI p3,zI p4,zI p5,zI p6,zI p7,zI n] 71)).cell? (zA b o))/\w.heap.size+2<=w'.heap.size) (by kernel_rfl) ⟨fun _ _ _=>rfl,by simp⟩ ?_;intro af;refine dY 0 (.agg #[zI c,zI d]) rfl ?_ ?_
 ·intro wx hSw;have q0:=hSw.1 w.heap.size;have q1:=hSw.1 (w.heap.size+1);go_simp
 refine di 1 rfl fun K hK=>?_;go_simp;go_wp2_with (go_at_call 122;refine (fE _ _ _).mono ?_;rintro e w1 ⟨rfl,hbw1⟩);refine hK.out _ _ (bM (by assumption) hbw1) (fun af=>?_);clear hK K;try simp only [aT]
 cases hok:okB c d
 ·refine aA 2 (.bool true) rfl ?_;refine aA 3 (.bool true) rfl ?_;refine bU 4 rfl ?_;refine bU 5 rfl ?_;refine bU 6 rfl ?_;refine bU 7 rfl ?_;refine aA 8 (.bool true) rfl ?_;refine Hy (by kernel_rfl) ?_ _;go_wp2;go_ret;exact ⟨by rw [BM h1 h2 h3];rfl,by repeat (first | exact Hr _ _ | assumption | refine ah ?_ (by assumption) | apply Below.drew | apply bZ | refine Below.alloc ?_ (by simp <;> omega) _)⟩
 refine aA 2 (.bool false) rfl ?_;refine aA 3 (.bool false) rfl ?_;refine dY 4 (.agg #[zI k,zI a0,zI a1,zI a2,zI a3,zI a4,zI s,zI p0,zI p1,zI p2,zI p3,zI p4,zI p5,zI p6,zI p7,zI n]) rfl ?_ ?_
 ·intro wx hSw;have q0:=hSw.1 w.heap.size;have q1:=hSw.1 (w.heap.size+1);go_simp
 refine dY 5 (.agg #[zI k,zI a0,zI a1,zI a2,zI a3,zI a4,zI s,zI p0,zI p1,zI p2,zI p3,zI p4,zI p5,zI p6,zI p7,zI n]) rfl ?_ ?_
 ·intro wx hSw;have q0:=hSw.1 w.heap.size;have q1:=hSw.1 (w.heap.size+1);go_simp
 refine di 6 rfl fun K hK=>?_;go_simp;go_wp2_with (go_at_call 132;refine (Cj _ _ _ _ _ _ _ _ _ _ _ _ _ _ _ _ h1 h2 h3 _).mono ?_;rintro e w2 ⟨rfl,hbw2⟩);refine hK.out _ _ (bM (by assumption) hbw2) (fun af=>?_);clear hK K;try simp only [aT]
 refine dY 7 (.bool (!(F9 k a0 a1 a2 a3 a4 s p0 p1 p2 p3 p4 p5 p6 p7 n))) rfl ?_ ?_
 ·intro wx hSw;go_simp;simp only [nb0,nb,F9]
 refine aA 8 (.bool (!(F9 k a0 a1 a2 a3 a4 s p0 p1 p2 p3 p4 p5 p6 p7 n))) rfl ?_;refine Hy (by kernel_rfl) ?_ _;have q0:∀ o,w2.cell? (zA w.heap.size o)=((w.alloc (.cells #[zI c,zI d] 44)).alloc (.cells #[zI k,zI a0,zI a1,zI a2,zI a3,zI a4,zI s,zI p0,zI p1,zI p2,zI p3,zI p4,zI p5,zI p6,zI p7,zI n] 71)).cell? (zA w.heap.size o):=fun o=>af.1 _ o (by omega);have q1:∀ o,w2.cell? (zA (w.heap.size+1) o)=((w.alloc (.cells #[zI c,zI d] 44)).alloc (.cells #[zI k,zI a0,zI a1,zI a2,zI a3,zI a4,zI s,zI p0,zI p1,zI p2,zI p3,zI p4,zI p5,zI p6,zI p7,zI n] 71)).cell? (zA (w.heap.size+1) o):=fun o=>af.1 _ o (by omega);have l0:w.heap.size<w2.heap.size:=by have:=af.2;omega
 have l1:w.heap.size+1<w2.heap.size:=by have:=af.2;omega
 have HB1:=hbw1;have HB2:=hbw2;clear af;cases hE:F9 k a0 a1 a2 a3 a4 s p0 p1 p2 p3 p4 p5 p6 p7 n
 ·go_wp2;go_ret;exact ⟨by rw [BM h1 h2 h3];rfl,by repeat (first | exact Hr _ _ | assumption | refine ah ?_ (by assumption) | apply Below.drew | apply bZ | refine Below.alloc ?_ (by simp <;> omega) _)⟩
 have HE:bY (F9 k a0 a1 a2 a3 a4 s p0 p1 p2 p3 p4 p5 p6 p7 n=true):=hE;clear hE;go_wp2;all_goals (go_ret;exact ⟨by rw [BM h1 h2 h3];rfl,by repeat (first | exact Hr _ _ | assumption | refine ah ?_ (by assumption) | apply Below.drew | apply bZ | refine Below.alloc ?_ (by simp <;> omega) _)⟩)
theorem gK (c d k a0 a1 a2 a3 a4 s p0 p1 p2 p3 p4 p5 p6 p7 n:Int) (w:World) :
 Hz 72 #[.agg #[zI c,zI d],.agg #[zI k,zI a0,zI a1,zI a2,zI a3,zI a4,zI s,zI p0,zI p1,zI p2,zI p3,zI p4,zI p5,zI p6,zI p7,zI n]] w fun e w'=>e=.returned (.bool (iE c d k a0 a1 a2 a3 a4 s p0 p1 p2 p3 p4 p5 p6 p7 n))/\Below w.heap.size w w':=by
 go_enter Tryz.func72,Tryz.ntmps72
 go_wp2_with (first
  | (go_at_call 81;refine (dM _ _ _).mono ?_;rintro e w' ⟨rfl,hb⟩;(first | (replace B0:=ah B0 hb) | (have B0:=hb));obtain ⟨hc,hf⟩:=cu B0)
  | (go_at_call 103;refine (yI _ _ _ _ _ _).mono ?_;rintro e w' ⟨rfl,hb⟩;(first | (replace B0:=ah B0 hb) | (have B0:=hb));obtain ⟨hc,hf⟩:=cu B0)
  | (go_at_call 24;refine (dh _ _ _ _).mono ?_;rintro e w' ⟨rfl,rfl⟩)
  | (go_at_call 104;refine (lK _ _ _ _ _ _ _ _ _ _ _).mono ?_;rintro e w' ⟨rfl,hb⟩;(first | (replace B0:=ah B0 hb) | (have B0:=hb));obtain ⟨hc,hf⟩:=cu B0))
 all_goals (go_ret;exact ⟨by simp_all [iE,oG,mM],by repeat (first | exact Hr _ _ | refine ah ?_ (by assumption) | refine Below.alloc ?_ (by simp <;> omega) _)⟩)
theorem iW (c d k a0 a1 a2 a3 a4 s p0 p1 p2 p3 p4 p5 p6 p7 n:Int) (w:World) :
 Hz 109 #[.agg #[zI c,zI d],.agg #[zI k,zI a0,zI a1,zI a2,zI a3,zI a4,zI s,zI p0,zI p1,zI p2,zI p3,zI p4,zI p5,zI p6,zI p7,zI n]] w fun e w'=>e=.returned (.bool (iE c d k a0 a1 a2 a3 a4 s p0 p1 p2 p3 p4 p5 p6 p7 n))/\Below w.heap.size w w':=by
 by_cases h1:k=1
 ·exact wC c d k a0 a1 a2 a3 a4 s p0 p1 p2 p3 p4 p5 p6 p7 n h1 w
 by_cases h2:k=2
 ·exact wu c d k a0 a1 a2 a3 a4 s p0 p1 p2 p3 p4 p5 p6 p7 n h2 w
 by_cases h3:k=3
 ·exact wI c d k a0 a1 a2 a3 a4 s p0 p1 p2 p3 p4 p5 p6 p7 n h3 w
 exact wV c d k a0 a1 a2 a3 a4 s p0 p1 p2 p3 p4 p5 p6 p7 n h1 h2 h3 w
