/- The walks of PlcEdge and what it calls; conditions: none. -/
import Derived.Test.YtngaboipleimcaaGreatDoorCOk1
namespace Go.Proofs.YtngaboipleimcaaGreatDoor
open Go.RowKit
set_option linter.unusedVariables false
theorem next_impl (a s:Int) (w:World) (h1:-9223372036854775807≤a) (h2:a≤9223372036854775806) :
 Calls Tryz.prog 158 #[zI a,zI s] w fun e w'=>e=.returned (zI (a+stepF s))∧w'=w:=by
 have s1:-1≤stepF s:=by have:=stepF_cases s;omega
 have s2:stepF s≤1:=by have:=stepF_cases s;omega
 go_enter Tryz.func158,Tryz.ntmps158
 go_wp2_with fail
 refine (step_impl _ _).mono ?_
 rintro e w1 ⟨rfl,rfl⟩
 go_wp2
 go_ret
 exact ⟨rfl,rfl⟩
def edgeB (c d a s:Int):Bool:=decide (¬ sideF c d (cellF c d a) s=-1) && (cellF c d (a+stepF s) == sideF c d (cellF c d a) s)
theorem cellF_in {c d a:Int} (h:¬ cellF c d a=-1):0≤a∧a≤31∧okB c d=true:=by
 unfold cellF at h
 split at h
 ·rename_i g
  have:=mul_bounds g.1
  have:=inB_true.1 g.2
  exact ⟨by omega,by omega,g.1⟩
 ·exact absurd rfl h
theorem sideF_in {c d k s:Int} (h:¬ sideF c d k s=-1):hasB c d k=true∧¬ stepF s=0:=by
 unfold sideF at h
 split at h
 ·rename_i g;exact ⟨g.1,g.2.1⟩
 ·exact absurd rfl h
theorem edge_in {c d a s:Int} (h:¬ sideF c d (cellF c d a) s=-1):0≤a∧a≤31:=by
 have h1:=(sideF_in h).1
 have h2:¬ cellF c d a=-1:=by
  intro e;rw [e] at h1
  have:=hasB_bounds h1;omega
 have:=cellF_in h2
 exact ⟨this.1,this.2.1⟩
set_option maxHeartbeats 400000 in
theorem edge_impl (c d a s:Int) (w:World) :
 Calls Tryz.prog 171 #[zI a,.agg #[zI c,zI d],zI s] w fun e w'=>e=.returned (.bool (edgeB c d a s))∧Below w.heap.size w w':=by
 by_cases hg:sideF c d (cellF c d a) s=-1
 ·have E:Hid (edgeB c d a s=false):=by show edgeB c d a s=false;simp [edgeB,hg]
  have hg':(sideF c d (cellF c d a) s != -1)=false:=by simp [hg]
  clear hg
  go_enter Tryz.func171,Tryz.ntmps171
  go_wp2
  go_region_held3 (fun w'=>w'.cell? (zA w.heap.size 0)=some (zI c)∧w'.cell? (zA w.heap.size 1)=some (zI d)∧w.heap.size<w'.heap.size) (refine ⟨?_,?_,?_⟩ <;> simp_all <;> omega)
   (first
    | (go_at_call 141;refine (cell_impl _ _ _ _).mono ?_;rintro e w' ⟨rfl,hb⟩;obtain ⟨hc,hf⟩:=bcell hb;have hz:=hb.size)
    | (go_at_call 120;refine (beside_impl _ _ _ _ _).mono ?_;rintro e w' ⟨rfl,hb⟩;obtain ⟨hc,hf⟩:=bcell hb;have hz:=hb.size))
  go_wp2
  go_quiet (fail)
  go_wp2
  go_ret
  exact ⟨by rw [E.out];rfl,by repeat (first | exact Below.refl _ _ | refine bthen ?_ (by assumption) | apply Below.drew | apply bdrewN | refine Below.alloc ?_ (by simp) _)⟩
 ·obtain ⟨b1,b2⟩:=edge_in hg
  have E:Hid (edgeB c d a s=(cellF c d (a+stepF s) == sideF c d (cellF c d a) s)):=by show edgeB c d a s=_;simp [edgeB,hg]
  have hg':(sideF c d (cellF c d a) s != -1)=true:=by simp [hg]
  clear hg
  go_enter Tryz.func171,Tryz.ntmps171
  go_wp2
  go_region_held3 (fun w'=>w'.cell? (zA w.heap.size 0)=some (zI c)∧w'.cell? (zA w.heap.size 1)=some (zI d)∧w.heap.size<w'.heap.size) (refine ⟨?_,?_,?_⟩ <;> simp_all <;> omega)
   (first
    | (go_at_call 141;refine (cell_impl _ _ _ _).mono ?_;rintro e w' ⟨rfl,hb⟩;obtain ⟨hc,hf⟩:=bcell hb;have hz:=hb.size)
    | (go_at_call 120;refine (beside_impl _ _ _ _ _).mono ?_;rintro e w' ⟨rfl,hb⟩;obtain ⟨hc,hf⟩:=bcell hb;have hz:=hb.size))
  go_wp2
  go_region_held3 (fun w'=>w'.cell? (zA w.heap.size 0)=some (zI c)∧w'.cell? (zA w.heap.size 1)=some (zI d)∧w.heap.size<w'.heap.size) (refine ⟨?_,?_,?_⟩ <;> simp_all <;> omega)
   (first
    | (go_at_call 158;refine (next_impl _ _ _ (by omega) (by omega)).mono ?_;rintro e w' ⟨rfl,rfl⟩)
    | (go_at_call 141;refine (cell_impl _ _ _ _).mono ?_;rintro e w' ⟨rfl,hb⟩;obtain ⟨hc,hf⟩:=bcell hb;have hz:=hb.size))
  all_goals
   go_wp2
   go_ret
   exact ⟨by rw [E.out];rfl,by repeat (first | exact Below.refl _ _ | refine bthen ?_ (by assumption) | apply Below.drew | apply bdrewN | refine Below.alloc ?_ (by simp) _)⟩
theorem plcEdge_impl (c d a s:Int) (w:World) :
 Calls Tryz.prog 163 #[.agg #[zI c,zI d],zI a,zI s] w fun e w'=>e=.returned (.bool (edgeB c d a s))∧Below w.heap.size w w':=by
 go_enter Tryz.func163,Tryz.ntmps163
 go_wp2_with fail
 refine (edge_impl _ _ _ _ _).mono ?_
 rintro e w1 ⟨rfl,hb1⟩
 go_wp2
 go_ret
 exact ⟨rfl,bthen ((Below.refl _ _).alloc (by simp) _) hb1⟩
theorem cellF_eq {c d a:Int} (h:okB c d=true) (h0:0≤a) (h1:a≤c * d - 1):cellF c d a=a / d:=by
 unfold cellF;rw [if_pos ⟨h,inB_true.2 ⟨h0,h1⟩⟩]
theorem cellF_val {c d a:Int} (h:¬ cellF c d a=-1):okB c d=true∧0≤a∧a≤c * d - 1∧cellF c d a=a / d:=by
 unfold cellF at h ⊢
 split at h
 ·rename_i g
  rw [if_pos g]
  have:=inB_true.1 g.2
  exact ⟨g.1,this.1,this.2,rfl⟩
 ·exact absurd rfl h
theorem d_cases {c d:Int} (h:okB c d=true):d=2∨d=3∨d=4∨d=5∨d=6∨d=7∨d=8:=by
 have:=okB_bounds h;omega
theorem edge_left {c d a:Int} (h:¬ sideF c d (cellF c d a) 0=-1):edgeB c d a 0=(a == cellF c d a * d)∧0≤cellF c d a * d∧cellF c d a * d≤31:=by
 have h1:=(sideF_in h).1
 have h2:¬ cellF c d a=-1:=by
  intro e;rw [e] at h1
  have:=hasB_bounds h1;omega
 obtain ⟨ho,a0,a1,ev⟩:=cellF_val h2
 have hs:=side_left h1
 have hb:=hasB_bounds h1
 have hc:=okB_bounds ho
 have hk:0<cellF c d a:=by
  by_cases g:0<cellF c d a
  ·exact g
  ·rw [if_neg g] at hs;exact absurd hs h
 rw [if_pos hk] at hs
 have hm:=mul_bounds ho
 unfold edgeB
 rw [hs,show stepF 0=-1 from rfl]
 have e1:(decide (¬ cellF c d a - 1=-1))=true:=by simp;omega
 rw [e1,Bool.true_and]
 have a2:1≤a:=by
  rcases d_cases ho with rfl | rfl | rfl | rfl | rfl | rfl | rfl <;> omega
 rw [cellF_eq ho (by omega) (by omega),ev]
 refine ⟨?_,?_,?_⟩
 ·rw [Bool.eq_iff_iff];simp only [beq_iff_eq]
  rw [ev] at hk
  rcases d_cases ho with rfl | rfl | rfl | rfl | rfl | rfl | rfl <;> omega
 ·rcases d_cases ho with rfl | rfl | rfl | rfl | rfl | rfl | rfl <;> omega
 ·rcases d_cases ho with rfl | rfl | rfl | rfl | rfl | rfl | rfl <;> omega
theorem edge_right {c d a:Int} (h:¬ sideF c d (cellF c d a) 1=-1):edgeB c d a 1=(a == cellF c d a * d+d - 1)∧0≤cellF c d a * d∧cellF c d a * d≤31∧2≤d∧d≤8:=by
 have h1:=(sideF_in h).1
 have h2:¬ cellF c d a=-1:=by
  intro e;rw [e] at h1
  have:=hasB_bounds h1;omega
 obtain ⟨ho,a0,a1,ev⟩:=cellF_val h2
 have hs:=side_right h1
 have hb:=hasB_bounds h1
 have hc:=okB_bounds ho
 have hk:cellF c d a<c - 1:=by
  by_cases g:cellF c d a<c - 1
  ·exact g
  ·rw [if_neg g] at hs;exact absurd hs h
 rw [if_pos hk] at hs
 have hm:=mul_bounds ho
 unfold edgeB
 rw [hs,show stepF 1=1 from rfl]
 have e1:(decide (¬ cellF c d a+1=-1))=true:=by simp;omega
 rw [e1,Bool.true_and]
 have a2:a+1≤c * d - 1:=by
  rw [ev] at hk
  rcases d_cases ho with rfl | rfl | rfl | rfl | rfl | rfl | rfl <;> omega
 rw [cellF_eq ho (by omega) (by omega),ev]
 refine ⟨?_,?_,?_,by omega,by omega⟩
 ·rw [Bool.eq_iff_iff];simp only [beq_iff_eq]
  rcases d_cases ho with rfl | rfl | rfl | rfl | rfl | rfl | rfl <;> omega
 ·rcases d_cases ho with rfl | rfl | rfl | rfl | rfl | rfl | rfl <;> omega
 ·rcases d_cases ho with rfl | rfl | rfl | rfl | rfl | rfl | rfl <;> omega
theorem edge_none {c d a s:Int} (h:sideF c d (cellF c d a) s=-1):edgeB c d a s=false:=by simp [edgeB,h]
theorem edge_side {c d a s:Int} (h:¬ sideF c d (cellF c d a) s=-1):s=0∨s=1:=by
 have:=(sideF_in h).2
 unfold stepF at this
 split at this
 ·left;assumption
 ·split at this
  ·right;assumption
  ·exact absurd rfl this
set_option maxHeartbeats 400000 in
theorem plcEdge_spec (c d a s:Int) (w:World) :
 Calls Tryz.prog 156 #[.agg #[zI c,zI d],zI a,zI s] w fun e w'=>e=.returned (.bool (edgeB c d a s))∧Below w.heap.size w w':=by
 by_cases hg:sideF c d (cellF c d a) s=-1
 ·have E:Hid (edgeB c d a s=false):=edge_none hg
  have hg':(sideF c d (cellF c d a) s == -1)=true:=by simp [hg]
  clear hg
  go_enter Tryz.func156,Tryz.ntmps156
  go_wp2_with fail
  refine (cell_spec _ _ _ _).mono ?_
  rintro e w1 ⟨rfl,hb1⟩
  obtain ⟨hc1,hf1⟩:=bcell hb1
  have hz1:w.heap.size<w1.heap.size:=by have:=hb1.size;simp at this;omega
  go_wp2_with fail
  refine (plcSide_spec _ _ _ _ _).mono ?_
  rintro e w2 ⟨rfl,hb2⟩
  obtain ⟨hc2,hf2⟩:=bcell hb2
  go_wp2
  go_ret
  exact ⟨by rw [E.out];rfl,bthen (bthen ((Below.refl _ _).alloc (by simp) _) hb1) hb2⟩
 ·have hg':(sideF c d (cellF c d a) s == -1)=false:=by simpa using hg
  rcases edge_side hg with rfl | rfl
  ·obtain ⟨E0,p1,p2⟩:=edge_left hg
   have E:Hid (edgeB c d a 0=(a == cellF c d a * d)):=E0
   clear hg E0
   go_enter Tryz.func156,Tryz.ntmps156
   go_wp2_with fail
   refine (cell_spec _ _ _ _).mono ?_
   rintro e w1 ⟨rfl,hb1⟩
   obtain ⟨hc1,hf1⟩:=bcell hb1
   have hz1:w.heap.size<w1.heap.size:=by have:=hb1.size;simp at this;omega
   go_wp2_with fail
   refine (plcSide_spec _ _ _ _ _).mono ?_
   rintro e w2 ⟨rfl,hb2⟩
   obtain ⟨hc2,hf2⟩:=bcell hb2
   go_wp2
   all_goals
    go_ret
    exact ⟨by rw [E.out];first | rfl | simp [*],bthen (bthen ((Below.refl _ _).alloc (by simp) _) hb1) hb2⟩
  ·obtain ⟨E0,p1,p2,p3,p4⟩:=edge_right hg
   have E:Hid (edgeB c d a 1=(a == cellF c d a * d+d - 1)):=E0
   clear hg E0
   go_enter Tryz.func156,Tryz.ntmps156
   go_wp2_with fail
   refine (cell_spec _ _ _ _).mono ?_
   rintro e w1 ⟨rfl,hb1⟩
   obtain ⟨hc1,hf1⟩:=bcell hb1
   have hz1:w.heap.size<w1.heap.size:=by have:=hb1.size;simp at this;omega
   go_wp2_with fail
   refine (plcSide_spec _ _ _ _ _).mono ?_
   rintro e w2 ⟨rfl,hb2⟩
   obtain ⟨hc2,hf2⟩:=bcell hb2
   go_wp2
   all_goals
    go_ret
    exact ⟨by rw [E.out];first | rfl | simp [*],bthen (bthen ((Below.refl _ _).alloc (by simp) _) hb1) hb2⟩
