/- LogOk of both sides, its other kinds; conditions: none. -/
import Derived.Test.YtngaboipleimcaaGreatDoorLog2
set_option linter.unusedVariables false
namespace Go.Proofs.YtngaboipleimcaaGreatDoor
open Go.RowKit
set_option maxRecDepth 100000 in
set_option maxHeartbeats 4000000 in
theorem logOk_impl3 (c d k a0 a1 a2 a3 a4 s p0 p1 p2 p3 p4 p5 p6 p7 n:Int) (hk:k=3) (w:World) :
 Calls Tryz.prog 49 #[.agg #[zI c,zI d],.agg #[zI k,zI a0,zI a1,zI a2,zI a3,zI a4,zI s,zI p0,zI p1,zI p2,zI p3,zI p4,zI p5,zI p6,zI p7,zI n]] w fun e w'=>e=.returned (.bool (logB c d k a0 a1 a2 a3 a4 s p0 p1 p2 p3 p4 p5 p6 p7 n))∧Below w.heap.size w w':=by
 subst hk
 cases hok:okB c d
 ·go_enter Tryz.func49,Tryz.ntmps49
  go_wp2
  refine wp_region_held_drew (S:=fun w'=>(∀ b o,b<w.heap.size+2→w'.cell? (zA b o)=((w.alloc (.cells #[zI c,zI d] 44)).alloc (.cells #[zI 3,zI a0,zI a1,zI a2,zI a3,zI a4,zI s,zI p0,zI p1,zI p2,zI p3,zI p4,zI p5,zI p6,zI p7,zI n] 52)).cell? (zA b o))∧w.heap.size+2≤w'.heap.size) (by kernel_rfl) ⟨fun _ _ _=>rfl,by simp⟩ ?_
  intro hHeld
  refine tkl 0 (.agg #[zI c,zI d]) rfl ?_ ?_
  ·intro wx hSw;have q0:=hSw.1 w.heap.size;have q1:=hSw.1 (w.heap.size+1);go_simp
  try simp only [aT]
  refine rd1 1 rfl fun K hK=>?_
  go_simp
  go_wp2_with (go_at_call 89;refine (ok_impl _ _ _).mono ?_;rintro e w1 ⟨rfl,hbw1⟩)
  refine hK.out _ _ (keepS (by assumption) hbw1) (fun hHeld=>?_)
  clear hK K
  try simp only [aT]
  refine tka 2 (.bool true) rfl ?_
  try simp only [aT]
  refine tka 3 (.bool true) rfl ?_
  try simp only [aT]
  refine tkr 4 rfl ?_
  try simp only [aT]
  refine tkr 5 rfl ?_
  try simp only [aT]
  refine tkr 6 rfl ?_
  try simp only [aT]
  refine tkr 7 rfl ?_
  try simp only [aT]
  refine tka 8 (.bool true) rfl ?_
  try simp only [aT]
  refine wpAnyH_done (by kernel_rfl) ?_ _
  go_wp2
  go_ret
  exact ⟨by simp [logB,hok],by repeat (first | exact Below.refl _ _ | assumption | refine bthen ?_ (by assumption) | apply Below.drew | apply bdrewN | refine Below.alloc ?_ (by simp <;> omega) _)⟩
 ·go_enter Tryz.func49,Tryz.ntmps49
  go_wp2
  refine wp_region_held_drew (S:=fun w'=>(∀ b o,b<w.heap.size+2→w'.cell? (zA b o)=((w.alloc (.cells #[zI c,zI d] 44)).alloc (.cells #[zI 3,zI a0,zI a1,zI a2,zI a3,zI a4,zI s,zI p0,zI p1,zI p2,zI p3,zI p4,zI p5,zI p6,zI p7,zI n] 52)).cell? (zA b o))∧w.heap.size+2≤w'.heap.size) (by kernel_rfl) ⟨fun _ _ _=>rfl,by simp⟩ ?_
  intro hHeld
  refine tkl 0 (.agg #[zI c,zI d]) rfl ?_ ?_
  ·intro wx hSw;have q0:=hSw.1 w.heap.size;have q1:=hSw.1 (w.heap.size+1);go_simp
  try simp only [aT]
  refine rd1 1 rfl fun K hK=>?_
  go_simp
  go_wp2_with (go_at_call 89;refine (ok_impl _ _ _).mono ?_;rintro e w1 ⟨rfl,hbw1⟩)
  refine hK.out _ _ (keepS (by assumption) hbw1) (fun hHeld=>?_)
  clear hK K
  try simp only [aT]
  refine tka 2 (.bool false) rfl ?_
  try simp only [aT]
  refine tka 3 (.bool false) rfl ?_
  try simp only [aT]
  refine tkl 4 (.agg #[zI 3,zI a0,zI a1,zI a2,zI a3,zI a4,zI s,zI p0,zI p1,zI p2,zI p3,zI p4,zI p5,zI p6,zI p7,zI n]) rfl ?_ ?_
  ·intro wx hSw;have q0:=hSw.1 w.heap.size;have q1:=hSw.1 (w.heap.size+1);go_simp
  try simp only [aT]
  refine tkl 5 (.agg #[zI 3,zI a0,zI a1,zI a2,zI a3,zI a4,zI s,zI p0,zI p1,zI p2,zI p3,zI p4,zI p5,zI p6,zI p7,zI n]) rfl ?_ ?_
  ·intro wx hSw;have q0:=hSw.1 w.heap.size;have q1:=hSw.1 (w.heap.size+1);go_simp
  try simp only [aT]
  refine rd1 6 rfl fun K hK=>?_
  go_simp
  go_wp2_with (go_at_call 90;refine (ofKind_3 _ _ _ _ _ _ _ _ _ _ _ _ _ _ _ _ rfl _).mono ?_;rintro e w2 ⟨rfl,hbw2⟩)
  refine hK.out _ _ (keepS (by assumption) hbw2) (fun hHeld=>?_)
  clear hK K
  try simp only [aT]
  refine tkl 7 (.bool (!(eq3 a0 a1 a2 a3 a4 p0 p1 p2 p3 p4 p5 p6 p7))) rfl ?_ ?_
  ·intro wx hSw;go_simp;simp only [nb0,nb,eq3]
  try simp only [aT]
  refine tka 8 (.bool (!(eq3 a0 a1 a2 a3 a4 p0 p1 p2 p3 p4 p5 p6 p7))) rfl ?_
  try simp only [aT]
  refine wpAnyH_done (by kernel_rfl) ?_ _
  have q0:∀ o,w2.cell? (zA w.heap.size o)=((w.alloc (.cells #[zI c,zI d] 44)).alloc (.cells #[zI 3,zI a0,zI a1,zI a2,zI a3,zI a4,zI s,zI p0,zI p1,zI p2,zI p3,zI p4,zI p5,zI p6,zI p7,zI n] 52)).cell? (zA w.heap.size o):=fun o=>hHeld.1 _ o (by omega)
  have q1:∀ o,w2.cell? (zA (w.heap.size+1) o)=((w.alloc (.cells #[zI c,zI d] 44)).alloc (.cells #[zI 3,zI a0,zI a1,zI a2,zI a3,zI a4,zI s,zI p0,zI p1,zI p2,zI p3,zI p4,zI p5,zI p6,zI p7,zI n] 52)).cell? (zA (w.heap.size+1) o):=fun o=>hHeld.1 _ o (by omega)
  have l0:w.heap.size<w2.heap.size:=by have:=hHeld.2;omega
  have l1:w.heap.size+1<w2.heap.size:=by have:=hHeld.2;omega
  have HB1:=hbw1
  have HB2:=hbw2
  clear hHeld
  cases hE:eq3 a0 a1 a2 a3 a4 p0 p1 p2 p3 p4 p5 p6 p7
  ·go_wp2
   go_ret
   exact ⟨by rw [logB3,hE];simp,by repeat (first | exact Below.refl _ _ | assumption | refine bthen ?_ (by assumption) | apply Below.drew | apply bdrewN | refine Below.alloc ?_ (by simp <;> omega) _)⟩
  ·have HE:Hid (eq3 a0 a1 a2 a3 a4 p0 p1 p2 p3 p4 p5 p6 p7=true):=hE
   clear hE
   go_wp2_with (first | (go_at_call 92;refine (hasSide _ _ _ _ _ _ _ _ _ _ _ _ _ _ _ _ _ ).mono ?_;rintro e w3 ⟨rfl,hbw3⟩;obtain ⟨hc3,hf3⟩:=bcell hbw3) | (go_at_call 94;refine (hasCome _ _ _ _ _ _ _ _ _ _ _ _ _ _ _ _ _ ).mono ?_;rintro e w4 ⟨rfl,hbw4⟩))
   all_goals (go_ret;exact ⟨by rw [logB3,HE.out,hok];simp [*],by repeat (first | exact Below.refl _ _ | assumption | refine bthen ?_ (by assumption) | apply Below.drew | apply bdrewN | refine Below.alloc ?_ (by simp <;> omega) _)⟩)
set_option maxRecDepth 100000 in
set_option maxHeartbeats 4000000 in
theorem logOk_impl0 (c d k a0 a1 a2 a3 a4 s p0 p1 p2 p3 p4 p5 p6 p7 n:Int) (h1:¬ k=1) (h2:¬ k=2) (h3:¬ k=3) (w:World) :
 Calls Tryz.prog 49 #[.agg #[zI c,zI d],.agg #[zI k,zI a0,zI a1,zI a2,zI a3,zI a4,zI s,zI p0,zI p1,zI p2,zI p3,zI p4,zI p5,zI p6,zI p7,zI n]] w fun e w'=>e=.returned (.bool (logB c d k a0 a1 a2 a3 a4 s p0 p1 p2 p3 p4 p5 p6 p7 n))∧Below w.heap.size w w':=by
 cases hok:okB c d
 ·go_enter Tryz.func49,Tryz.ntmps49
  go_wp2
  refine wp_region_held_drew (S:=fun w'=>(∀ b o,b<w.heap.size+2→w'.cell? (zA b o)=((w.alloc (.cells #[zI c,zI d] 44)).alloc (.cells #[zI k,zI a0,zI a1,zI a2,zI a3,zI a4,zI s,zI p0,zI p1,zI p2,zI p3,zI p4,zI p5,zI p6,zI p7,zI n] 52)).cell? (zA b o))∧w.heap.size+2≤w'.heap.size) (by kernel_rfl) ⟨fun _ _ _=>rfl,by simp⟩ ?_
  intro hHeld
  refine tkl 0 (.agg #[zI c,zI d]) rfl ?_ ?_
  ·intro wx hSw;have q0:=hSw.1 w.heap.size;have q1:=hSw.1 (w.heap.size+1);go_simp
  try simp only [aT]
  refine rd1 1 rfl fun K hK=>?_
  go_simp
  go_wp2_with (go_at_call 89;refine (ok_impl _ _ _).mono ?_;rintro e w1 ⟨rfl,hbw1⟩)
  refine hK.out _ _ (keepS (by assumption) hbw1) (fun hHeld=>?_)
  clear hK K
  try simp only [aT]
  refine tka 2 (.bool true) rfl ?_
  try simp only [aT]
  refine tka 3 (.bool true) rfl ?_
  try simp only [aT]
  refine tkr 4 rfl ?_
  try simp only [aT]
  refine tkr 5 rfl ?_
  try simp only [aT]
  refine tkr 6 rfl ?_
  try simp only [aT]
  refine tkr 7 rfl ?_
  try simp only [aT]
  refine tka 8 (.bool true) rfl ?_
  try simp only [aT]
  refine wpAnyH_done (by kernel_rfl) ?_ _
  go_wp2
  go_ret
  exact ⟨by rw [logB0 h1 h2 h3];rfl,by repeat (first | exact Below.refl _ _ | assumption | refine bthen ?_ (by assumption) | apply Below.drew | apply bdrewN | refine Below.alloc ?_ (by simp <;> omega) _)⟩
 ·go_enter Tryz.func49,Tryz.ntmps49
  go_wp2
  refine wp_region_held_drew (S:=fun w'=>(∀ b o,b<w.heap.size+2→w'.cell? (zA b o)=((w.alloc (.cells #[zI c,zI d] 44)).alloc (.cells #[zI k,zI a0,zI a1,zI a2,zI a3,zI a4,zI s,zI p0,zI p1,zI p2,zI p3,zI p4,zI p5,zI p6,zI p7,zI n] 52)).cell? (zA b o))∧w.heap.size+2≤w'.heap.size) (by kernel_rfl) ⟨fun _ _ _=>rfl,by simp⟩ ?_
  intro hHeld
  refine tkl 0 (.agg #[zI c,zI d]) rfl ?_ ?_
  ·intro wx hSw;have q0:=hSw.1 w.heap.size;have q1:=hSw.1 (w.heap.size+1);go_simp
  try simp only [aT]
  refine rd1 1 rfl fun K hK=>?_
  go_simp
  go_wp2_with (go_at_call 89;refine (ok_impl _ _ _).mono ?_;rintro e w1 ⟨rfl,hbw1⟩)
  refine hK.out _ _ (keepS (by assumption) hbw1) (fun hHeld=>?_)
  clear hK K
  try simp only [aT]
  refine tka 2 (.bool false) rfl ?_
  try simp only [aT]
  refine tka 3 (.bool false) rfl ?_
  try simp only [aT]
  refine tkl 4 (.agg #[zI k,zI a0,zI a1,zI a2,zI a3,zI a4,zI s,zI p0,zI p1,zI p2,zI p3,zI p4,zI p5,zI p6,zI p7,zI n]) rfl ?_ ?_
  ·intro wx hSw;have q0:=hSw.1 w.heap.size;have q1:=hSw.1 (w.heap.size+1);go_simp
  try simp only [aT]
  refine tkl 5 (.agg #[zI k,zI a0,zI a1,zI a2,zI a3,zI a4,zI s,zI p0,zI p1,zI p2,zI p3,zI p4,zI p5,zI p6,zI p7,zI n]) rfl ?_ ?_
  ·intro wx hSw;have q0:=hSw.1 w.heap.size;have q1:=hSw.1 (w.heap.size+1);go_simp
  try simp only [aT]
  refine rd1 6 rfl fun K hK=>?_
  go_simp
  go_wp2_with (go_at_call 90;refine (ofKind_0 _ _ _ _ _ _ _ _ _ _ _ _ _ _ _ _ h1 h2 h3 _).mono ?_;rintro e w2 ⟨rfl,hbw2⟩)
  refine hK.out _ _ (keepS (by assumption) hbw2) (fun hHeld=>?_)
  clear hK K
  try simp only [aT]
  refine tkl 7 (.bool (!(eq0 k a0 a1 a2 a3 a4 s p0 p1 p2 p3 p4 p5 p6 p7 n))) rfl ?_ ?_
  ·intro wx hSw;go_simp;simp only [nb0,nb,eq0]
  try simp only [aT]
  refine tka 8 (.bool (!(eq0 k a0 a1 a2 a3 a4 s p0 p1 p2 p3 p4 p5 p6 p7 n))) rfl ?_
  try simp only [aT]
  refine wpAnyH_done (by kernel_rfl) ?_ _
  have q0:∀ o,w2.cell? (zA w.heap.size o)=((w.alloc (.cells #[zI c,zI d] 44)).alloc (.cells #[zI k,zI a0,zI a1,zI a2,zI a3,zI a4,zI s,zI p0,zI p1,zI p2,zI p3,zI p4,zI p5,zI p6,zI p7,zI n] 52)).cell? (zA w.heap.size o):=fun o=>hHeld.1 _ o (by omega)
  have q1:∀ o,w2.cell? (zA (w.heap.size+1) o)=((w.alloc (.cells #[zI c,zI d] 44)).alloc (.cells #[zI k,zI a0,zI a1,zI a2,zI a3,zI a4,zI s,zI p0,zI p1,zI p2,zI p3,zI p4,zI p5,zI p6,zI p7,zI n] 52)).cell? (zA (w.heap.size+1) o):=fun o=>hHeld.1 _ o (by omega)
  have l0:w.heap.size<w2.heap.size:=by have:=hHeld.2;omega
  have l1:w.heap.size+1<w2.heap.size:=by have:=hHeld.2;omega
  have HB1:=hbw1
  have HB2:=hbw2
  clear hHeld
  cases hE:eq0 k a0 a1 a2 a3 a4 s p0 p1 p2 p3 p4 p5 p6 p7 n
  ·go_wp2
   go_ret
   exact ⟨by rw [logB0 h1 h2 h3];rfl,by repeat (first | exact Below.refl _ _ | assumption | refine bthen ?_ (by assumption) | apply Below.drew | apply bdrewN | refine Below.alloc ?_ (by simp <;> omega) _)⟩
  ·have HE:Hid (eq0 k a0 a1 a2 a3 a4 s p0 p1 p2 p3 p4 p5 p6 p7 n=true):=hE
   clear hE
   go_wp2
   all_goals (go_ret;exact ⟨by rw [logB0 h1 h2 h3];rfl,by repeat (first | exact Below.refl _ _ | assumption | refine bthen ?_ (by assumption) | apply Below.drew | apply bdrewN | refine Below.alloc ?_ (by simp <;> omega) _)⟩)
set_option maxRecDepth 100000 in
set_option maxHeartbeats 1000000 in
theorem logOk_spec (c d k a0 a1 a2 a3 a4 s p0 p1 p2 p3 p4 p5 p6 p7 n:Int) (w:World) :
 Calls Tryz.prog 41 #[.agg #[zI c,zI d],.agg #[zI k,zI a0,zI a1,zI a2,zI a3,zI a4,zI s,zI p0,zI p1,zI p2,zI p3,zI p4,zI p5,zI p6,zI p7,zI n]] w fun e w'=>e=.returned (.bool (logB c d k a0 a1 a2 a3 a4 s p0 p1 p2 p3 p4 p5 p6 p7 n))∧Below w.heap.size w w':=by
 go_enter Tryz.func41,Tryz.ntmps41
 go_wp2_with (first
  | (go_at_call 72;refine (ok_spec _ _ _).mono ?_;rintro e w' ⟨rfl,hb⟩;(first | (replace B0:=bthen B0 hb) | (have B0:=hb));obtain ⟨hc,hf⟩:=bcell B0)
  | (go_at_call 76;refine (ordOk_spec _ _ _ _ _ _).mono ?_;rintro e w' ⟨rfl,hb⟩;(first | (replace B0:=bthen B0 hb) | (have B0:=hb));obtain ⟨hc,hf⟩:=bcell B0)
  | (go_at_call 65;refine (in_spec _ _ _ _).mono ?_;rintro e w' ⟨rfl,rfl⟩)
  | (go_at_call 77;refine (pclOk_spec _ _ _ _ _ _ _ _ _ _ _).mono ?_;rintro e w' ⟨rfl,hb⟩;(first | (replace B0:=bthen B0 hb) | (have B0:=hb));obtain ⟨hc,hf⟩:=bcell B0))
 all_goals (go_ret;exact ⟨by simp_all [logB,noOrder,noParcel],by repeat (first | exact Below.refl _ _ | refine bthen ?_ (by assumption) | refine Below.alloc ?_ (by simp <;> omega) _)⟩)
theorem logOk_impl (c d k a0 a1 a2 a3 a4 s p0 p1 p2 p3 p4 p5 p6 p7 n:Int) (w:World) :
 Calls Tryz.prog 49 #[.agg #[zI c,zI d],.agg #[zI k,zI a0,zI a1,zI a2,zI a3,zI a4,zI s,zI p0,zI p1,zI p2,zI p3,zI p4,zI p5,zI p6,zI p7,zI n]] w fun e w'=>e=.returned (.bool (logB c d k a0 a1 a2 a3 a4 s p0 p1 p2 p3 p4 p5 p6 p7 n))∧Below w.heap.size w w':=by
 by_cases h1:k=1
 ·exact logOk_impl1 c d k a0 a1 a2 a3 a4 s p0 p1 p2 p3 p4 p5 p6 p7 n h1 w
 ·by_cases h2:k=2
  ·exact logOk_impl2 c d k a0 a1 a2 a3 a4 s p0 p1 p2 p3 p4 p5 p6 p7 n h2 w
  ·by_cases h3:k=3
   ·exact logOk_impl3 c d k a0 a1 a2 a3 a4 s p0 p1 p2 p3 p4 p5 p6 p7 n h3 w
   ·exact logOk_impl0 c d k a0 a1 a2 a3 a4 s p0 p1 p2 p3 p4 p5 p6 p7 n h1 h2 h3 w
