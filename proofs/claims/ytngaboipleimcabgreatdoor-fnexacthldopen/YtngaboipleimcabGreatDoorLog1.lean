/- The walks of one record: its copy, the record of its kind alone, LogOk of both sides; conditions: none. -/
import Derived.Test.YtngaboipleimcabGreatDoorCEq
import Derived.Test.YtngaboipleimcabGreatDoorOrd2
set_option linter.unusedVariables false
set_option maxRecDepth 100000
namespace Go.Proofs.YtngaboipleimcabGreatDoor
open Go.RowKit
def oG (a0 a1 a2 a3 a4:Int):Bool:=a0 == 0 && (a1 == 0 && (a2 == 0 && (a3 == 0 && (a4 == 0))))
def mM (p0 p1 p2 p3 p4 p5 p6 p7:Int):Bool:=p0 == 0 && (p1 == 0 && (p2 == 0 && (p3 == 0 && (p4 == 0 && (p5 == 0 && (p6 == 0 && (p7 == 0)))))))
def iE (c d k a0 a1 a2 a3 a4 s p0 p1 p2 p3 p4 p5 p6 p7 n:Int):Bool :=
 if k=1 then okB c d && (iP a0 a1 a2 a3 a4 && (s == 0 && (mM p0 p1 p2 p3 p4 p5 p6 p7 && n == 0)))
 else if k=2 then oG a0 a1 a2 a3 a4 && (inB s 0 1 && (jf c d p0 p1 p2 p3 p4 p5 p6 p7 && n == 0))
 else if k=3 then okB c d && (oG a0 a1 a2 a3 a4 && (inB s 0 1 && (mM p0 p1 p2 p3 p4 p5 p6 p7 && inB n 1 5000)))
 else false
theorem Gm (k a0 a1 a2 a3 a4 s p0 p1 p2 p3 p4 p5 p6 p7 n:Int) (w:World) :
 Hz 19 #[.agg #[zI k,zI a0,zI a1,zI a2,zI a3,zI a4,zI s,zI p0,zI p1,zI p2,zI p3,zI p4,zI p5,zI p6,zI p7,zI n]] w fun e w'=>e=.returned (.agg #[zI k,zI a0,zI a1,zI a2,zI a3,zI a4,zI s,zI p0,zI p1,zI p2,zI p3,zI p4,zI p5,zI p6,zI p7,zI n])/\Below w.heap.size w w':=by
 go_enter Tryz.func19,Tryz.ntmps19
 go_wp2_with (first
  | (go_at_call 43;refine (DR _ _ _ _ _ _).mono ?_;rintro e w1 ⟨rfl,hb⟩;obtain ⟨hc,hf⟩:=cu hb;(have z:=hb.size;simp at z);(have l0:w.heap.size<w1.heap.size:=by omega);(have l1:w.heap.size+1<w1.heap.size:=by omega);(have l2:w.heap.size+1+1<w1.heap.size:=by omega))
  | (go_at_call 44;refine (vF _ _ _ _ _ _ _ _ _).mono ?_;rintro e w2 ⟨rfl,hb2⟩;obtain ⟨hc2,hf2⟩:=cu hb2))
 exact Hw (v:=.agg #[zI k,zI a0,zI a1,zI a2,zI a3,zI a4,zI s,zI p0,zI p1,zI p2,zI p3,zI p4,zI p5,zI p6,zI p7,zI n]) (by simp [results,Tryz.results19,go_sem,hc,hc2,l1]) rfl ⟨rfl,by
  (iterate 25 (refine Below.setCell ?_ (by simp <;> omega) _))
  refine ah ?_ hb2
  (iterate 6 (refine Below.setCell ?_ (by simp <;> omega) _))
  refine ah ?_ hb
  exact Below.alloc (Below.alloc (Below.alloc (Hr _ _) (by simp) _) (by simp) _) (by simp <;> omega) _⟩
theorem CO (k a0 a1 a2 a3 a4 s p0 p1 p2 p3 p4 p5 p6 p7 n:Int) (hk:k=1) (w:World) :
 Hz 132 #[.agg #[zI k,zI a0,zI a1,zI a2,zI a3,zI a4,zI s,zI p0,zI p1,zI p2,zI p3,zI p4,zI p5,zI p6,zI p7,zI n]] w fun e w'=>e=.returned (.agg #[zI 1,zI a0,zI a1,zI a2,zI a3,zI a4,zI 0,zI 0,zI 0,zI 0,zI 0,zI 0,zI 0,zI 0,zI 0,zI 0])/\Below w.heap.size w w':=by
 subst hk;go_enter Tryz.func132,Tryz.ntmps132;go_wp2;exact Hw (v:=.agg #[zI 1,zI a0,zI a1,zI a2,zI a3,zI a4,zI 0,zI 0,zI 0,zI 0,zI 0,zI 0,zI 0,zI 0,zI 0,zI 0]) (by simp [results,Tryz.results132,go_sem]) rfl ⟨rfl,Below.alloc (Below.alloc (Hr _ _) (by simp) _) (by simp) _⟩
theorem Dz (k a0 a1 a2 a3 a4 s p0 p1 p2 p3 p4 p5 p6 p7 n:Int) (hk:k=2) (w:World) :
 Hz 132 #[.agg #[zI k,zI a0,zI a1,zI a2,zI a3,zI a4,zI s,zI p0,zI p1,zI p2,zI p3,zI p4,zI p5,zI p6,zI p7,zI n]] w fun e w'=>e=.returned (.agg #[zI 2,zI 0,zI 0,zI 0,zI 0,zI 0,zI s,zI p0,zI p1,zI p2,zI p3,zI p4,zI p5,zI p6,zI p7,zI 0])/\Below w.heap.size w w':=by
 subst hk;go_enter Tryz.func132,Tryz.ntmps132;go_wp2;exact Hw (v:=.agg #[zI 2,zI 0,zI 0,zI 0,zI 0,zI 0,zI s,zI p0,zI p1,zI p2,zI p3,zI p4,zI p5,zI p6,zI p7,zI 0]) (by simp [results,Tryz.results132,go_sem]) rfl ⟨rfl,Below.alloc (Below.alloc (Hr _ _) (by simp) _) (by simp) _⟩
theorem DC (k a0 a1 a2 a3 a4 s p0 p1 p2 p3 p4 p5 p6 p7 n:Int) (hk:k=3) (w:World) :
 Hz 132 #[.agg #[zI k,zI a0,zI a1,zI a2,zI a3,zI a4,zI s,zI p0,zI p1,zI p2,zI p3,zI p4,zI p5,zI p6,zI p7,zI n]] w fun e w'=>e=.returned (.agg #[zI 3,zI 0,zI 0,zI 0,zI 0,zI 0,zI s,zI 0,zI 0,zI 0,zI 0,zI 0,zI 0,zI 0,zI 0,zI n])/\Below w.heap.size w w':=by
 subst hk;go_enter Tryz.func132,Tryz.ntmps132;go_wp2;exact Hw (v:=.agg #[zI 3,zI 0,zI 0,zI 0,zI 0,zI 0,zI s,zI 0,zI 0,zI 0,zI 0,zI 0,zI 0,zI 0,zI 0,zI n]) (by simp [results,Tryz.results132,go_sem]) rfl ⟨rfl,Below.alloc (Below.alloc (Hr _ _) (by simp) _) (by simp) _⟩
theorem Cj (k a0 a1 a2 a3 a4 s p0 p1 p2 p3 p4 p5 p6 p7 n:Int) (h1:¬ k=1) (h2:¬ k=2) (h3:¬ k=3) (w:World) :
 Hz 132 #[.agg #[zI k,zI a0,zI a1,zI a2,zI a3,zI a4,zI s,zI p0,zI p1,zI p2,zI p3,zI p4,zI p5,zI p6,zI p7,zI n]] w fun e w'=>e=.returned (.agg #[zI 0,zI 0,zI 0,zI 0,zI 0,zI 0,zI 0,zI 0,zI 0,zI 0,zI 0,zI 0,zI 0,zI 0,zI 0,zI 0])/\Below w.heap.size w w':=by
 go_enter Tryz.func132,Tryz.ntmps132;go_wp2;exact Hw (v:=.agg #[zI 0,zI 0,zI 0,zI 0,zI 0,zI 0,zI 0,zI 0,zI 0,zI 0,zI 0,zI 0,zI 0,zI 0,zI 0,zI 0]) (by simp [results,Tryz.results132,go_sem]) rfl ⟨rfl,Below.alloc (Below.alloc (Hr _ _) (by simp) _) (by simp) _⟩
theorem yU (k a0 a1 a2 a3 a4 s p0 p1 p2 p3 p4 p5 p6 p7 n:Int) (w:World) :
 Hz 134 #[.agg #[zI k,zI a0,zI a1,zI a2,zI a3,zI a4,zI s,zI p0,zI p1,zI p2,zI p3,zI p4,zI p5,zI p6,zI p7,zI n]] w fun e w'=>e=.returned (.bool (inB s 0 1))/\Below w.heap.size w w':=by
 have hw:=qo s;unfold jy at hw;go_enter Tryz.func134,Tryz.ntmps134;go_wp2_with (go_at_call 156;refine (pY _ _).mono ?_;rintro e w' ⟨rfl,rfl⟩);go_ret;exact ⟨by cases h:inB s 0 1 <;> simp_all,(Hr _ _).alloc (by simp) _⟩
theorem DK (k a0 a1 a2 a3 a4 s p0 p1 p2 p3 p4 p5 p6 p7 n:Int) (w:World) :
 Hz 136 #[.agg #[zI k,zI a0,zI a1,zI a2,zI a3,zI a4,zI s,zI p0,zI p1,zI p2,zI p3,zI p4,zI p5,zI p6,zI p7,zI n]] w fun e w'=>e=.returned (.bool (inB n 1 5000))/\Below w.heap.size w w':=by
 go_enter Tryz.func136,Tryz.ntmps136;go_wp2_with (go_at_call 74;refine (dn _ _ _ _).mono ?_;rintro e w' ⟨rfl,rfl⟩);go_ret;exact ⟨rfl,(Hr _ _).alloc (by simp) _⟩
