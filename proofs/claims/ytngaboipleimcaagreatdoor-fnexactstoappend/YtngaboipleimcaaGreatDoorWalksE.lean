/- The walks of PlcEdge and what it calls; conditions: none. -/
import Derived.Test.YtngaboipleimcaaGreatDoorCOk1
set_option linter.unusedVariables false
set_option maxHeartbeats 400000
namespace Go.Proofs.YtngaboipleimcaaGreatDoor
open Go.RowKit
theorem uw (a s:Int) (w:World) (h1:-9223372036854775807≤a) (h2:a≤9223372036854775806) :
 Hz 158 #[zI a,zI s] w fun e w'=>e=.returned (zI (a+bn s))∧w'=w:=by
 have s1:-1≤bn s:=by have:=jW s;omega
 have s2:bn s≤1:=by have:=jW s;omega
 go_enter Tryz.func158,Tryz.ntmps158
 go_wp2_with fail
 refine (mZ _ _).mono ?_
 rintro e w1 ⟨rfl,rfl⟩
 go_wp2
 go_ret
 exact ⟨rfl,rfl⟩
def iC (c d a s:Int):Bool:=decide (¬ bf c d (aQ c d a) s=-1) && (aQ c d (a+bn s) == bf c d (aQ c d a) s)
theorem Du {c d a:Int} (h:¬ aQ c d a=-1):0≤a∧a≤31∧okB c d=true:=by
 unfold aQ at h
 split at h
 ·rename_i g
  have:=jl g.1
  have:=aY.1 g.2
  exact ⟨by omega,by omega,g.1⟩
 ·exact absurd rfl h
theorem oH {c d k s:Int} (h:¬ bf c d k s=-1):hasB c d k=true∧¬ bn s=0:=by
 unfold bf at h
 split at h
 ·rename_i g;exact ⟨g.1,g.2.1⟩
 ·exact absurd rfl h
theorem Ea {c d a s:Int} (h:¬ bf c d (aQ c d a) s=-1):0≤a∧a≤31:=by
 have h1:=(oH h).1
 have h2:¬ aQ c d a=-1:=by
  intro e;rw [e] at h1
  have:=fJ h1;omega
 have:=Du h2
 exact ⟨this.1,this.2.1⟩
theorem AA (c d a s:Int) (w:World) :
 Hz 171 #[zI a,.agg #[zI c,zI d],zI s] w fun e w'=>e=.returned (.bool (iC c d a s))∧Below w.heap.size w w':=by
 by_cases hg:bf c d (aQ c d a) s=-1
 ·have E:Hid (iC c d a s=false):=by show iC c d a s=false;simp [iC,hg]
  have hg':(bf c d (aQ c d a) s != -1)=false:=by simp [hg]
  clear hg
  go_enter Tryz.func171,Tryz.ntmps171
  go_wp2
  go_region_held3 (fun w'=>w'.cell? (zA w.heap.size 0)=some (zI c)∧w'.cell? (zA w.heap.size 1)=some (zI d)∧w.heap.size<w'.heap.size) (refine ⟨?_,?_,?_⟩ <;> simp_all <;> omega)
   (first
    | (go_at_call 141;refine (lm _ _ _ _).mono ?_;rintro e w' ⟨rfl,hb⟩;obtain ⟨hc,hf⟩:=cu hb;have hz:=hb.size)
    | (go_at_call 120;refine (jv _ _ _ _ _).mono ?_;rintro e w' ⟨rfl,hb⟩;obtain ⟨hc,hf⟩:=cu hb;have hz:=hb.size))
  go_wp2
  go_quiet (fail)
  go_wp2
  go_ret
  exact ⟨by rw [E.out];rfl,by repeat (first | exact Hr _ _ | refine ah ?_ (by assumption) | apply Below.drew | apply bZ | refine Below.alloc ?_ (by simp) _)⟩
 ·obtain ⟨b1,b2⟩:=Ea hg
  have E:Hid (iC c d a s=(aQ c d (a+bn s) == bf c d (aQ c d a) s)):=by show iC c d a s=_;simp [iC,hg]
  have hg':(bf c d (aQ c d a) s != -1)=true:=by simp [hg]
  clear hg
  go_enter Tryz.func171,Tryz.ntmps171
  go_wp2
  go_region_held3 (fun w'=>w'.cell? (zA w.heap.size 0)=some (zI c)∧w'.cell? (zA w.heap.size 1)=some (zI d)∧w.heap.size<w'.heap.size) (refine ⟨?_,?_,?_⟩ <;> simp_all <;> omega)
   (first
    | (go_at_call 141;refine (lm _ _ _ _).mono ?_;rintro e w' ⟨rfl,hb⟩;obtain ⟨hc,hf⟩:=cu hb;have hz:=hb.size)
    | (go_at_call 120;refine (jv _ _ _ _ _).mono ?_;rintro e w' ⟨rfl,hb⟩;obtain ⟨hc,hf⟩:=cu hb;have hz:=hb.size))
  go_wp2
  go_region_held3 (fun w'=>w'.cell? (zA w.heap.size 0)=some (zI c)∧w'.cell? (zA w.heap.size 1)=some (zI d)∧w.heap.size<w'.heap.size) (refine ⟨?_,?_,?_⟩ <;> simp_all <;> omega)
   (first
    | (go_at_call 158;refine (uw _ _ _ (by omega) (by omega)).mono ?_;rintro e w' ⟨rfl,rfl⟩)
    | (go_at_call 141;refine (lm _ _ _ _).mono ?_;rintro e w' ⟨rfl,hb⟩;obtain ⟨hc,hf⟩:=cu hb;have hz:=hb.size))
  all_goals
   go_wp2
   go_ret
   exact ⟨by rw [E.out];rfl,by repeat (first | exact Hr _ _ | refine ah ?_ (by assumption) | apply Below.drew | apply bZ | refine Below.alloc ?_ (by simp) _)⟩
theorem oL (c d a s:Int) (w:World) :
 Hz 163 #[.agg #[zI c,zI d],zI a,zI s] w fun e w'=>e=.returned (.bool (iC c d a s))∧Below w.heap.size w w':=by
 go_enter Tryz.func163,Tryz.ntmps163
 go_wp2_with fail
 refine (AA _ _ _ _ _).mono ?_
 rintro e w1 ⟨rfl,hb1⟩
 go_wp2
 go_ret
 exact ⟨rfl,ah ((Hr _ _).alloc (by simp) _) hb1⟩
theorem wH {c d a:Int} (h:okB c d=true) (h0:0≤a) (h1:a≤c * d - 1):aQ c d a=a / d:=by
 unfold aQ;rw [if_pos ⟨h,aY.2 ⟨h0,h1⟩⟩]
theorem ug {c d a:Int} (h:¬ aQ c d a=-1):okB c d=true∧0≤a∧a≤c * d - 1∧aQ c d a=a / d:=by
 unfold aQ at h ⊢
 split at h
 ·rename_i g
  rw [if_pos g]
  have:=aY.1 g.2
  exact ⟨g.1,this.1,this.2,rfl⟩
 ·exact absurd rfl h
theorem jX {c d:Int} (h:okB c d=true):d=2∨d=3∨d=4∨d=5∨d=6∨d=7∨d=8:=by
 have:=fD h;omega
theorem AX {c d a:Int} (h:¬ bf c d (aQ c d a) 0=-1):iC c d a 0=(a == aQ c d a * d)∧0≤aQ c d a * d∧aQ c d a * d≤31:=by
 have h1:=(oH h).1
 have h2:¬ aQ c d a=-1:=by
  intro e;rw [e] at h1
  have:=fJ h1;omega
 obtain ⟨ho,a0,a1,ev⟩:=ug h2
 have hs:=uh h1
 have hb:=fJ h1
 have hc:=fD ho
 have hk:0<aQ c d a:=by
  by_cases g:0<aQ c d a
  ·exact g
  ·rw [if_neg g] at hs;exact absurd hs h
 rw [if_pos hk] at hs
 have hm:=jl ho
 unfold iC
 rw [hs,show bn 0=-1 from rfl]
 have e1:(decide (¬ aQ c d a - 1=-1))=true:=by simp;omega
 rw [e1,Bool.true_and]
 have a2:1≤a:=by
  rcases jX ho with rfl | rfl | rfl | rfl | rfl | rfl | rfl <;> omega
 rw [wH ho (by omega) (by omega),ev]
 refine ⟨?_,?_,?_⟩
 ·rw [Bool.eq_iff_iff];simp only [beq_iff_eq]
  rw [ev] at hk
  rcases jX ho with rfl | rfl | rfl | rfl | rfl | rfl | rfl <;> omega
 ·rcases jX ho with rfl | rfl | rfl | rfl | rfl | rfl | rfl <;> omega
 ·rcases jX ho with rfl | rfl | rfl | rfl | rfl | rfl | rfl <;> omega
theorem wZ {c d a:Int} (h:¬ bf c d (aQ c d a) 1=-1):iC c d a 1=(a == aQ c d a * d+d - 1)∧0≤aQ c d a * d∧aQ c d a * d≤31∧2≤d∧d≤8:=by
 have h1:=(oH h).1
 have h2:¬ aQ c d a=-1:=by
  intro e;rw [e] at h1
  have:=fJ h1;omega
 obtain ⟨ho,a0,a1,ev⟩:=ug h2
 have hs:=sS h1
 have hb:=fJ h1
 have hc:=fD ho
 have hk:aQ c d a<c - 1:=by
  by_cases g:aQ c d a<c - 1
  ·exact g
  ·rw [if_neg g] at hs;exact absurd hs h
 rw [if_pos hk] at hs
 have hm:=jl ho
 unfold iC
 rw [hs,show bn 1=1 from rfl]
 have e1:(decide (¬ aQ c d a+1=-1))=true:=by simp;omega
 rw [e1,Bool.true_and]
 have a2:a+1≤c * d - 1:=by
  rw [ev] at hk
  rcases jX ho with rfl | rfl | rfl | rfl | rfl | rfl | rfl <;> omega
 rw [wH ho (by omega) (by omega),ev]
 refine ⟨?_,?_,?_,by omega,by omega⟩
 ·rw [Bool.eq_iff_iff];simp only [beq_iff_eq]
  rcases jX ho with rfl | rfl | rfl | rfl | rfl | rfl | rfl <;> omega
 ·rcases jX ho with rfl | rfl | rfl | rfl | rfl | rfl | rfl <;> omega
 ·rcases jX ho with rfl | rfl | rfl | rfl | rfl | rfl | rfl <;> omega
theorem zB {c d a s:Int} (h:bf c d (aQ c d a) s=-1):iC c d a s=false:=by simp [iC,h]
theorem zW {c d a s:Int} (h:¬ bf c d (aQ c d a) s=-1):s=0∨s=1:=by
 have:=(oH h).2
 unfold bn at this
 split at this
 ·left;assumption
 ·split at this
  ·right;assumption
  ·exact absurd rfl this
theorem uV (c d a s:Int) (w:World) :
 Hz 156 #[.agg #[zI c,zI d],zI a,zI s] w fun e w'=>e=.returned (.bool (iC c d a s))∧Below w.heap.size w w':=by
 by_cases hg:bf c d (aQ c d a) s=-1
 ·have E:Hid (iC c d a s=false):=zB hg
  have hg':(bf c d (aQ c d a) s == -1)=true:=by simp [hg]
  clear hg
  go_enter Tryz.func156,Tryz.ntmps156
  go_wp2_with fail
  refine (dD _ _ _ _).mono ?_
  rintro e w1 ⟨rfl,hb1⟩
  obtain ⟨hc1,hf1⟩:=cu hb1
  have hz1:w.heap.size<w1.heap.size:=by have:=hb1.size;simp at this;omega
  go_wp2_with fail
  refine (bT _ _ _ _ _).mono ?_
  rintro e w2 ⟨rfl,hb2⟩
  obtain ⟨hc2,hf2⟩:=cu hb2
  go_wp2
  go_ret
  exact ⟨by rw [E.out];rfl,ah (ah ((Hr _ _).alloc (by simp) _) hb1) hb2⟩
 ·have hg':(bf c d (aQ c d a) s == -1)=false:=by simpa using hg
  rcases zW hg with rfl | rfl
  ·obtain ⟨E0,p1,p2⟩:=AX hg
   have E:Hid (iC c d a 0=(a == aQ c d a * d)):=E0
   clear hg E0
   go_enter Tryz.func156,Tryz.ntmps156
   go_wp2_with fail
   refine (dD _ _ _ _).mono ?_
   rintro e w1 ⟨rfl,hb1⟩
   obtain ⟨hc1,hf1⟩:=cu hb1
   have hz1:w.heap.size<w1.heap.size:=by have:=hb1.size;simp at this;omega
   go_wp2_with fail
   refine (bT _ _ _ _ _).mono ?_
   rintro e w2 ⟨rfl,hb2⟩
   obtain ⟨hc2,hf2⟩:=cu hb2
   go_wp2
   all_goals
    go_ret
    exact ⟨by rw [E.out];first | rfl | simp [*],ah (ah ((Hr _ _).alloc (by simp) _) hb1) hb2⟩
  ·obtain ⟨E0,p1,p2,p3,p4⟩:=wZ hg
   have E:Hid (iC c d a 1=(a == aQ c d a * d+d - 1)):=E0
   clear hg E0
   go_enter Tryz.func156,Tryz.ntmps156
   go_wp2_with fail
   refine (dD _ _ _ _).mono ?_
   rintro e w1 ⟨rfl,hb1⟩
   obtain ⟨hc1,hf1⟩:=cu hb1
   have hz1:w.heap.size<w1.heap.size:=by have:=hb1.size;simp at this;omega
   go_wp2_with fail
   refine (bT _ _ _ _ _).mono ?_
   rintro e w2 ⟨rfl,hb2⟩
   obtain ⟨hc2,hf2⟩:=cu hb2
   go_wp2
   all_goals
    go_ret
    exact ⟨by rw [E.out];first | rfl | simp [*],ah (ah ((Hr _ _).alloc (by simp) _) hb1) hb2⟩
