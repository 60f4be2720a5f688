/- Comparisons of cells that hold the same: they answer true; conditions: both lie in memory. -/
import Derived.Test.YtngaboipleimcabGreatDoorOrd2
import Derived.Laws.AppendOwn
set_option linter.unusedVariables false
set_option maxHeartbeats 8000000
set_option maxRecDepth 100000
namespace Go.Proofs.YtngaboipleimcabGreatDoor
open Go.RowKit
def jS (i a n s l:Int):Bool:=(i == 0 && (a == 0 && (n == 0 && (s == 0 && l == 0))))
def oC (pn pk i a n s l pc:Int):Value :=
 if pk=1/\pc=0 then .iface 221 (.agg #[zI pn,zI i,zI a,zI n,zI s,zI l]) else if pk=2/\jS i a n s l=true then .iface 223 (.agg #[zI pn,zI pc]) else .nilIface
theorem vF (pn pk i a n s l pc:Int) (w:World) :
 Hz 44 #[.agg #[zI pn,zI pk,zI i,zI a,zI n,zI s,zI l,zI pc]] w fun e w'=>e=.returned (.agg #[zI pn,zI pk,zI i,zI a,zI n,zI s,zI l,zI pc])/\Below w.heap.size w w':=by
 go_enter Tryz.func44,Tryz.ntmps44;go_wp2_with (go_at_call 73;refine (wK _ _ _ _ _ _).mono ?_;rintro e w1 ⟨rfl,hb⟩;obtain ⟨hc,hf⟩:=cu hb);exact Hw (v:=.agg #[zI pn,zI pk,zI i,zI a,zI n,zI s,zI l,zI pc]) (by simp [results,Tryz.results44,go_sem,hc]) rfl ⟨rfl,by (iterate 14 (refine Below.setCell ?_ (by simp <;> omega) _));exact ah (Below.alloc (Below.alloc (Below.alloc (Hr _ _) (by simp) _) (by simp) _) (by simp <;> omega) _) hb⟩
theorem y8 (pn pk i a n s l pc:Int) (w:World) :
 Hz 157 #[.agg #[zI pn,zI pk,zI i,zI a,zI n,zI s,zI l,zI pc]] w fun e w'=>e=.returned (oC pn pk i a n s l pc)/\Below w.heap.size w w':=by
 go_enter Tryz.func157,Tryz.ntmps157;go_wp2;all_goals (go_ret;exact ⟨by simp_all [oC,jS],by repeat (first | exact Hr _ _ | refine Below.alloc ?_ (by simp <;> omega) _)⟩)
theorem vz (n:Int) (w:World) :
 Hz 235 #[.agg #[zI n]] w fun e w'=>e=.returned (.bool (inB n 0 4999))/\Below w.heap.size w w':=by
 go_enter Tryz.func235,Tryz.ntmps235;go_wp2_with (go_at_call 74;refine (dn _ _ _ _).mono ?_;rintro e w' ⟨rfl,rfl⟩);go_ret;exact ⟨rfl,by repeat (first | exact Hr _ _ | refine Below.alloc ?_ (by simp <;> omega) _)⟩
theorem vV (c d pn i a n s l:Int) (w:World) :
 Hz 236 #[.agg #[zI pn,zI i,zI a,zI n,zI s,zI l],.agg #[zI c,zI d]] w fun e w'=>e=.returned (.bool (jK c d i a n s l))/\Below w.heap.size w w':=by
 go_enter Tryz.func236,Tryz.ntmps236;go_wp2_with (go_at_call 148;refine (jI _ _ _ _ _ _ _ _).mono ?_;rintro e w' ⟨rfl,hb⟩;obtain ⟨hc,hf⟩:=cu hb);go_ret;exact ⟨rfl,by repeat (first | exact Hr _ _ | refine ah ?_ (by assumption) | refine Below.alloc ?_ (by simp <;> omega) _)⟩
theorem xK (c d pn pc:Int) (w:World) :
 Hz 238 #[.agg #[zI pn,zI pc],.agg #[zI c,zI d]] w fun e w'=>e=.returned (.bool (okB c d && inB pc 1 9))/\Below w.heap.size w w':=by
 cases h1:okB c d;all_goals
  go_enter Tryz.func238,Tryz.ntmps238
  go_wp2_with (first | (go_at_call 122;refine (fE _ _ _).mono ?_;rintro e w' ⟨rfl,hb⟩;obtain ⟨hc,hf⟩:=cu hb) | (go_at_call 226;refine (jc _ _).mono ?_;rintro e w' ⟨rfl,rfl⟩))
  go_ret
  exact ⟨by simp,by repeat (first | exact Hr _ _ | refine ah ?_ (by assumption) | refine Below.alloc ?_ (by simp <;> omega) _)⟩
def jf (c d pn pk i a n s l pc:Int):Bool:=okB c d && (inB pn 0 4999 && (if pk=1 then jK c d i a n s l && pc == 0 else pk == 2 && (jS i a n s l && inB pc 1 9)))
theorem Dx {c d i a n s l:Int} (h:okB c d=false):jK c d i a n s l=false:=by
 simp [jK,aQ,h]
theorem lK (c d pn pk i a n s l pc:Int) (w:World) :
 Hz 104 #[.agg #[zI c,zI d],.agg #[zI pn,zI pk,zI i,zI a,zI n,zI s,zI l,zI pc]] w fun e w'=>e=.returned (.bool (jf c d pn pk i a n s l pc))/\Below w.heap.size w w':=by
 go_enter Tryz.func104,Tryz.ntmps104
 go_wp2_with (first
  | (go_at_call 81;refine (dM _ _ _).mono ?_;rintro e w' ⟨rfl,hb⟩;(first | (replace B0:=ah B0 hb) | (have B0:=hb));obtain ⟨hc,hf⟩:=cu B0)
  | (go_at_call 24;refine (dh _ _ _ _).mono ?_;rintro e w' ⟨rfl,rfl⟩)
  | (go_at_call 110;refine (jH _ _ _ _ _ _ _ _).mono ?_;rintro e w' ⟨rfl,hb⟩;(first | (replace B0:=ah B0 hb) | (have B0:=hb));obtain ⟨hc,hf⟩:=cu B0))
 all_goals (go_ret;exact ⟨by simp_all [jf,jS],by repeat (first | exact Hr _ _ | refine ah ?_ (by assumption) | refine Below.alloc ?_ (by simp <;> omega) _)⟩)
theorem uG (c d pn pk i a n s l pc:Int) (t:TypeId) (V:Value) (ff:Nat) (ob:Bool) (hd:oC pn pk i a n s l pc=.iface t V)
 (hm1:∀ (w:World),(method 400 t V "loop.example/landmarch/impl.hasNumber").run Tryz.prog w=.ok (235,.agg #[zI pn]) w)
 (hm2:∀ (w:World),(method 400 t V "loop.example/landmarch/impl.okOn").run Tryz.prog w=.ok (ff,V) w)
 (hcf:∀ (a:Array Value) (w:World),(callFunc ff a).run Tryz.prog w=.ok (.enter ff a) w)
 (hok:∀ w:World,Hz ff #[V,.agg #[zI c,zI d]] w fun e w'=>e=.returned (.bool ob)/\Below w.heap.size w w') (w:World) :
 Hz 135 #[.agg #[zI c,zI d],.agg #[zI pn,zI pk,zI i,zI a,zI n,zI s,zI l,zI pc]] w fun e w'=>e=.returned (.bool (inB pn 0 4999 && ob))/\Below w.heap.size w w':=by
 cases h1:inB pn 0 4999;all_goals
  go_enter Tryz.func135,Tryz.ntmps135
  go_wp2_with (first
   | (go_at_call 157;refine (y8 _ _ _ _ _ _ _ _ _).mono ?_;rintro e w1 ⟨rfl,hb1⟩;rw [hd])
   | (go_at_call 235;refine (vz _ _).mono ?_;rintro e w2 ⟨rfl,hb2⟩;have B2:=ah hb1 hb2;obtain ⟨hc2,hf2⟩:=cu B2;rw [h1]))
  try (refine (hok _).mono ?_;rintro e w3 ⟨rfl,hb3⟩;go_wp2)
  go_ret
  exact ⟨by simp,by repeat (first | exact Hr _ _ | refine ah ?_ (by assumption) | refine Below.alloc ?_ (by simp <;> omega) _)⟩
theorem yS (c d pn pk i a n s l pc:Int) (hd:oC pn pk i a n s l pc=.nilIface) (w:World) :
 Hz 135 #[.agg #[zI c,zI d],.agg #[zI pn,zI pk,zI i,zI a,zI n,zI s,zI l,zI pc]] w fun e w'=>e=.returned (.bool false)/\Below w.heap.size w w':=by
 go_enter Tryz.func135,Tryz.ntmps135;go_wp2_with (go_at_call 157;refine (y8 _ _ _ _ _ _ _ _ _).mono ?_;rintro e w1 ⟨rfl,hb1⟩;rw [hd]);go_ret;exact ⟨rfl,by repeat (first | exact Hr _ _ | refine ah ?_ (by assumption) | refine Below.alloc ?_ (by simp <;> omega) _)⟩
theorem ou (c d pn pk i a n s l pc:Int) (w:World) :
 Hz 135 #[.agg #[zI c,zI d],.agg #[zI pn,zI pk,zI i,zI a,zI n,zI s,zI l,zI pc]] w fun e w'=>e=.returned (.bool (jf c d pn pk i a n s l pc))/\Below w.heap.size w w':=by
 by_cases h1:pk=1/\pc=0
 ·obtain ⟨rfl,rfl⟩:=h1;refine (uG c d pn 1 i a n s l 0 221 (.agg #[zI pn,zI i,zI a,zI n,zI s,zI l]) 236 (jK c d i a n s l) rfl (fun _=>by kernel_rfl) (fun _=>by kernel_rfl) (fun _ _=>by kernel_rfl) (vV c d pn i a n s l) w).mono ?_;rintro e w' ⟨rfl,hb⟩;refine ⟨?_,hb⟩;cases h:okB c d
  ·simp [jf,h,Dx h]
  simp [jf,h]
 by_cases h2:pk=2/\jS i a n s l=true
 ·have hd:oC pn pk i a n s l pc=.iface 223 (.agg #[zI pn,zI pc]):=by simp [oC,h2]
  obtain ⟨rfl,h3⟩:=h2;refine (uG c d pn 2 i a n s l pc 223 (.agg #[zI pn,zI pc]) 238 (okB c d && inB pc 1 9) hd (fun _=>by kernel_rfl) (fun _=>by kernel_rfl) (fun _ _=>by kernel_rfl) (xK c d pn pc) w).mono ?_;rintro e w' ⟨rfl,hb⟩;refine ⟨?_,hb⟩;cases h:okB c d <;> simp [jf,h,h3]
 refine (yS c d pn pk i a n s l pc (by simp [oC,h1,h2]) w).mono ?_;rintro e w' ⟨rfl,hb⟩;refine ⟨?_,hb⟩;by_cases h3:pk=1
 ·subst h3;have:pc≠0:=fun h=>h1 ⟨rfl,h⟩;simp [jf,this]
 by_cases h4:pk=2
 ·subst h4;have:jS i a n s l=false:=by simpa using h2
  simp [jf,this]
 simp [jf,h3,h4]
theorem uy (c d:Int) (w:World) :
 Hz 7 #[.agg #[zI c,zI d]] w fun e w'=>e=.returned (.agg #[zI c,zI d])/\Below w.heap.size w w':=by
 go_enter Tryz.func7,Tryz.ntmps7;go_wp2;exact Hw (v:=.agg #[zI c,zI d]) (by simp [results,Tryz.results7,go_sem]) rfl ⟨rfl,(((Hr _ _).alloc (by simp) _).alloc (by simp) _).alloc (by simp;omega) _⟩
namespace P8
open Go.Deep
theorem rQ (i a n s l:Int) (w:World) :
 Hz 91 #[.agg #[zI i,zI a,zI n,zI s,zI l],.agg #[zI i,zI a,zI n,zI s,zI l]] w fun e w'=>e=.returned (.bool true)/\Below w.heap.size w w':=by
 go_enter Tryz.func91,Tryz.ntmps91;go_wp2;go_ret;exact ⟨rfl,by repeat (first | exact Hr _ _ | refine ah ?_ (by assumption) | apply Below.drew | apply bZ | refine Below.alloc ?_ (by simp) _)⟩
theorem vT (pn pk i a n s l pc:Int) (w:World) :
 Hz 94 #[.agg #[zI pn,zI pk,zI i,zI a,zI n,zI s,zI l,zI pc],.agg #[zI pn,zI pk,zI i,zI a,zI n,zI s,zI l,zI pc]] w fun e w'=>e=.returned (.bool true)/\Below w.heap.size w w':=by
 go_enter Tryz.func94,Tryz.ntmps94;go_wp2_with (go_at_call 91;refine (rQ _ _ _ _ _ _).mono ?_;rintro e w1 ⟨rfl,hb⟩;obtain ⟨hc,hf⟩:=cu hb);go_ret;exact ⟨rfl,by repeat (first | exact Hr _ _ | refine ah ?_ (by assumption) | refine Below.alloc ?_ (by simp <;> omega) _)⟩
theorem Tryz.Jd:(Tryz.prog.info? 69).map (fun i=>(i.zero,i.size,i.bytes))=some (some (.agg #[zI 0,zI 0,zI 0,zI 0,zI 0,zI 0,zI 0,zI 0]),8,64):=by kernel_rfl
theorem EN (n:Nat) (hn:n<=1048576) (w:World) :
 (Instr.makeSlice 127 (zI (n:Int)) (zI (n:Int))).run Tryz.prog w=.ok (zS w.heap.size n n) (w.alloc (.cells (madeCells #[zI 0,zI 0,zI 0,zI 0,zI 0,zI 0,zI 0,zI 0] (n * 8)) 69)):=by
 obtain ⟨i,hi,hzz⟩:=Option.map_eq_some_iff.1 Tryz.Jd;simp only [Prod.mk.injEq] at hzz;obtain ⟨hz,hs,hb⟩:=hzz;have:=run_make (P:=Tryz.prog) w 127 69 i _ Tryz.underlying127 hi hz .i64 .i64 n n (by omega) (by omega) (by rw [hb];omega) (by omega);rw [this,hs];rfl
def iQ (wr:World) (B n:Nat) (Z:Nat->Nat->Int) (k:Nat):Prop :=
 (∀ i,i<n * 8->(wr.cell? (zA B i)).isSome=true/\wr.frozen? (zA B i)=false)/\∀ k' j,k'<k->j<8->wr.cell? (zA B (k' * 8+j))=some (zI (Z k' j))
theorem aK {wr:World} {B n k:Nat} {Z:Nat->Nat->Int} (h:iQ wr B n Z k) (hk:k<n) (j:Nat) (hj:j<8):(∃ v,wr.cell? (zA B (k * 8+j))=some v)/\wr.frozen? (zA B (k * 8+j))=false:=by
 obtain ⟨h1,h2⟩:=h.1 (k * 8+j) (by omega);exact ⟨Option.isSome_iff_exists.1 h1,h2⟩
theorem own_below {w w':World} {B n k:Nat} {Z:Nat->Nat->Int} (h:iQ w B n Z k) (hB:B<w.heap.size) (hb:Below w.heap.size w w'):iQ w' B n Z k :=
 ⟨fun i hi=>by rw [hb.cell (p:=(zA B i)) hB,hb.frozen (p:=(zA B i)) hB];exact h.1 i hi,fun k' j hk hj=>by rw [hb.cell (p:=(zA B (k' * 8+j))) hB];exact h.2 k' j hk hj⟩
def tq (w:World) (B k:Nat) (Z:Nat->Nat->Int):World :=
 ((((((((w.setCell (zA B (k * 8)) (zI (Z k 0))).setCell (zA B (k * 8+1)) (zI (Z k 1))).setCell (zA B (k * 8+2)) (zI (Z k 2))).setCell (zA B (k * 8+3)) (zI (Z k 3))).setCell (zA B (k * 8+4)) (zI (Z k 4))).setCell (zA B (k * 8+5)) (zI (Z k 5))).setCell (zA B (k * 8+6)) (zI (Z k 6))).setCell (zA B (k * 8+7)) (zI (Z k 7)))
theorem oz (w:World) (B k:Nat) (Z:Nat->Nat->Int):tq w B k Z=w.setCells B (k * 8) (zE (Z k)):=rfl
theorem jZ {w:World} {B n k:Nat} {Z:Nat->Nat->Int} (h:iQ w B n Z k) (hk:k<n):iQ (tq w B k Z) B n Z (k+1):=by
 have hin:∀ j,j<8->(tq w B k Z).cell? (zA B (k * 8+j))=some (zI (Z k j)):=by
  intro j hj;rw [oz];have:=World.cell?_setCells_in B (zE (Z k)) (k * 8) w (fun j' hj'=>(h.1 (k * 8+j') (by simp at hj';omega)).1) j (by simpa using hj);rw [this];match j,hj with
  | 0,_=>rfl
  | 1,_=>rfl
  | 2,_=>rfl
  | 3,_=>rfl
  | 4,_=>rfl
  | 5,_=>rfl
  | 6,_=>rfl
  | 7,_=>rfl
 have hout:∀ i,(i<k * 8∨k * 8+8<=i)->(tq w B k Z).cell? (zA B i)=w.cell? (zA B i):=by
  intro i hi;rw [oz];exact World.cell?_setCells_out B _ (k * 8) w (zA B i) (fun _ _=>by simpa using hi)
 refine ⟨fun i hi=>⟨?_,?_⟩,fun k' j hk' hj=>?_⟩
 ·by_cases hc:i<k * 8∨k * 8+8<=i
  ·rw [hout i hc];exact (h.1 i hi).1
  have:=hin (i - k * 8) (by omega);rw [show k * 8+(i - k * 8)=i by omega] at this;rw [this];rfl
 ·rw [oz,World.frozen?_setCells];exact (h.1 i hi).2
 by_cases hc:k'=k
 ·subst hc;exact hin j hj
 rw [hout _ (by omega)];exact h.2 k' j (by omega) hj
theorem toList (b o:Nat) (n cap:Nat) (Z:Nat->Nat->Int) (hn:n<=1048576) (w:World) (hb:b<w.heap.size)
 (hr:∀ k j,k<n->j<8->w.cell? (zA b (o+k * 8+j))=some (zI (Z k j))) :
 Hz 85 #[.slice (some (zA b o)) n cap] w fun e w'=>e=.returned (zS w.heap.size n n)/\iQ w' w.heap.size n Z n/\w.heap.size<w'.heap.size/\Below w.heap.size w w':=by
 have hmk:=EN n hn;have HR:bY (∀ k j,k<n->j<8->w.cell? (zA b (o+k * 8+j))=some (zI (Z k j))):=hr;clear hr;go_enter Tryz.func85,Tryz.ntmps85;go_wp2;go_loopw [4] (fun i wr=>∃ k:Nat,k<=n/\i=zI k/\iQ wr w.heap.size n Z k/\w.heap.size<wr.heap.size/\Below w.heap.size w wr) (fun i _=>n - (intOf i).toNat)
 case atStart=>exact ⟨0,Nat.zero_le _,rfl,⟨fun i hi=>by simp [size_madeCells,hi],fun _ _ h=>absurd h (by omega)⟩,by simp,(Hr _ _).alloc (by simp) _⟩
 case round =>
  obtain ⟨k,hk,rfl,hown,hsz,hbel⟩:=hrel;have c0:=fun (h:k<n)=>cq8 (fun j hj=>(hbel.cell (by exact hb)).trans (HR.o k j h (by omega)));clear hmk;go_wp2_with fail
  ·refine (vF _ _ _ _ _ _ _ _ _).mono ?_;rintro e w1 ⟨rfl,hb1⟩;have hlt:k<n:=by assumption
   have hown1:=own_below hown hsz hb1;have hsz1:w.heap.size<w1.heap.size:=Hg hsz hb1.size;have hbel1:Below w.heap.size w w1:=hbel.trans (hb1.mono (Nat.le_of_lt hsz));clear hown hb1 hbel c0;obtain ⟨⟨v0,d0⟩,f0⟩:=aK hown1 hlt 0 (by omega);obtain ⟨⟨v1,d1⟩,f1⟩:=aK hown1 hlt 1 (by omega);obtain ⟨⟨v2,d2⟩,f2⟩:=aK hown1 hlt 2 (by omega);obtain ⟨⟨v3,d3⟩,f3⟩:=aK hown1 hlt 3 (by omega);obtain ⟨⟨v4,d4⟩,f4⟩:=aK hown1 hlt 4 (by omega);obtain ⟨⟨v5,d5⟩,f5⟩:=aK hown1 hlt 5 (by omega);obtain ⟨⟨v6,d6⟩,f6⟩:=aK hown1 hlt 6 (by omega);obtain ⟨⟨v7,d7⟩,f7⟩:=aK hown1 hlt 7 (by omega);simp only [Nat.add_zero] at d0 f0;go_wp2;go_roundw
   case rel=>exact ⟨k+1,by omega,by go_num,jZ hown1 hlt,by simpa [World.setCell] using hsz1,((((((((hbel1.setCell (Ho _) _).setCell (Ho _) _).setCell (Ho _) _).setCell (Ho _) _).setCell (Ho _) _).setCell (Ho _) _).setCell (Ho _) _).setCell (Ho _) _)⟩
   case measure=>simp [intOf];omega
  have:k=n:=by omega
  subst this;go_ret;exact ⟨rfl,hown,hsz,hbel⟩
theorem o9 (a:Option Addr) (cap:Nat) (Z:Nat->Nat->Int) (w:World) :
 Hz 85 #[.slice a 0 cap] w fun e w'=>e=.returned (zS w.heap.size 0 0)/\iQ w' w.heap.size 0 Z 0/\w.heap.size<w'.heap.size/\Below w.heap.size w w':=by
 have hmk:∀ w:World,(Instr.makeSlice 127 (zI 0) (zI 0)).run Tryz.prog w=.ok (zS w.heap.size 0 0) (w.alloc (.cells (madeCells #[zI 0,zI 0,zI 0,zI 0,zI 0,zI 0,zI 0,zI 0] 0) 69)):=fun w=>EN 0 (by omega) w;go_enter Tryz.func85,Tryz.ntmps85;go_wp2;refine wp_loop_rounds 1 ?_;rw [rounds_succ];go_wp2;go_ret;exact ⟨rfl,⟨fun i hi=>absurd hi (by omega),fun _ _ h=>absurd h (by omega)⟩,by simp,(Hr _ _).alloc (by simp) _⟩
theorem sH (b1 o1 cap1 b2 o2 cap2 n:Nat) (Z:Nat->Nat->Int) (hn:n<=2000000) (w:World) (hb1:b1<w.heap.size) (hb2:b2<w.heap.size)
 (h1:∀ k j,k<n->j<8->w.cell? (zA b1 (o1+k * 8+j))=some (zI (Z k j))) (h2:∀ k j,k<n->j<8->w.cell? (zA b2 (o2+k * 8+j))=some (zI (Z k j))) :
 Hz 92 #[.slice (some (zA b1 o1)) n cap1,.slice (some (zA b2 o2)) n cap2] w fun e w'=>e=.returned (.bool true)/\Below w.heap.size w w':=by
 have H1:bY (∀ k j,k<n->j<8->w.cell? (zA b1 (o1+k * 8+j))=some (zI (Z k j))):=h1;have H2:bY (∀ k j,k<n->j<8->w.cell? (zA b2 (o2+k * 8+j))=some (zI (Z k j))):=h2;clear h1 h2;go_enter Tryz.func92,Tryz.ntmps92;go_wp2;go_loopw [5] (fun i wr=>∃ k:Nat,k<=n/\i=zI k/\((∀ b o,b<w.heap.size->wr.cell? (zA b o)=w.cell? (zA b o))/\w.heap.size<=wr.heap.size)/\Below w.heap.size w wr) (fun i _=>n - (intOf i).toNat)
 case atStart=>exact ⟨0,Nat.zero_le _,rfl,⟨fun _ _ _=>rfl,Ho _⟩,Hr _ _⟩
 case round =>
  obtain ⟨k,hk,rfl,HS,BR⟩:=hrel;by_cases hkn:k<n
  ·have c10:=cq8 (fun j hj=>H1.o k j hkn (by omega));have c20:=cq8 (fun j hj=>H2.o k j hkn (by omega));go_wp2;refine Hu (S:=fun w'=>(∀ b o,b<w.heap.size->w'.cell? (zA b o)=w.cell? (zA b o))/\w.heap.size<=w'.heap.size) (by kernel_rfl) HS ?_;intro af;refine aA 0 (.slice (some (zA b1 o1)) n cap1) rfl ?_;refine aA 1 (zI (k:Int)) rfl ?_;refine aA 2 (.pointer (some (zA b1 (o1+k * 8)))) rfl ?_;refine aA 3 (.agg (zE (Z k)).toArray) rfl ?_;refine aA 4 (.slice (some (zA b2 o2)) n cap2) rfl ?_;refine aA 5 (zI (k:Int)) rfl ?_;refine aA 6 (.pointer (some (zA b2 (o2+k * 8)))) rfl ?_;refine aA 7 (.agg (zE (Z k)).toArray) rfl ?_;refine di 8 rfl fun K hK=>?_;go_simp;go_wp2_with (go_at_call 94;refine (vT _ _ _ _ _ _ _ _ _).mono ?_;rintro e w2 ⟨rfl,hbw2⟩);refine hK.out _ _ (bM (by assumption) hbw2) (fun af=>?_);clear hK K;try simp only [aT]
   refine aA 9 (.bool false) rfl ?_;refine Hy (by kernel_rfl) ?_ _;go_wp2;go_roundw
   case rel=>exact ⟨k+1,by omega,by go_num,by assumption,by repeat (first | exact BR | refine ah ?_ (by assumption) | apply Below.drew)⟩
   case measure=>simp [intOf];omega
  have:k=n:=by omega
  subst this;go_wp2;go_ret;exact ⟨rfl,by repeat (first | exact BR | refine ah ?_ (by assumption) | apply Below.drew)⟩
theorem aZ {w:World} {B n:Nat} {Z:Nat->Nat->Int} (h:iQ w B n Z n):∀ k j,k<n->j<8->w.cell? (zA B (0+k * 8+j))=some (zI (Z k j)):=fun k j hk hj=>by
 rw [Nat.zero_add];exact h.2 k j hk hj
end P8
open Go.Deep
theorem fP {w:World} {B k:Nat} {u:Value} (h:(w.cell? (zA B k)).isSome=true):(w.setCell (zA B k) u).cell? (zA B k)=some u:=by
 have:=World.cell?_setCells_in B [u] k w (fun j hj=>by
  have:j=0:=by simpa using hj
  subst this;exact h) 0 (by simp)
 rw [show w.setCell (zA B k) u=w.setCells B k [u] from rfl];simpa using this
theorem aJ {w:World} {B k b i:Nat} {u:Value} (h:¬ (B=b/\k=i)):(w.setCell (zA B k) u).cell? (zA b i)=w.cell? (zA b i) :=
 World.cell?_setCell_other _ _ _ _ (by intro e;injection e with e1 e2;exact h ⟨e1,e2⟩)
theorem aB {w:World} {B k b i:Nat} {u:Value}:(w.setCell (zA B k) u).frozen? (zA b i)=w.frozen? (zA b i):=World.frozen?_setCell ..
theorem ay {w:World} {B k:Nat} {u:Value}:(w.setCell (zA B k) u).heap.size=w.heap.size:=by simp [World.setCell]
def fZ (w:World) (B n:Nat) (X:Nat->Int) (k:Nat):Prop :=
 (∀ i,i<n->(w.cell? (zA B i)).isSome=true/\w.frozen? (zA B i)=false)/\∀ j,j<k->w.cell? (zA B j)=some (zI (X j))
theorem uq {w:World} {B n k:Nat} {X:Nat->Int} (h:fZ w B n X k) (hk:k<n):fZ (w.setCell (zA B k) (zI (X k))) B n X (k+1):=by
 refine ⟨fun i hi=>⟨?_,?_⟩,fun j hj=>?_⟩
 ·by_cases hc:k=i
  ·subst hc;rw [fP (h.1 k hk).1];rfl
  rw [aJ (fun e=>hc e.2)];exact (h.1 i hi).1
 ·rw [aB];exact (h.1 i hi).2
 by_cases hc:k=j
 ·subst hc;exact fP (h.1 k hk).1
 rw [aJ (fun e=>hc e.2)];exact h.2 j (by omega)
theorem bV {w w':World} {B n k:Nat} {X:Nat->Int} (h:fZ w B n X k) (hB:B<w.heap.size) (hb:Below w.heap.size w w'):fZ w' B n X k :=
 ⟨fun i hi=>by rw [hb.cell (p:=(zA B i)) hB,hb.frozen (p:=(zA B i)) hB];exact h.1 i hi,fun j hj=>by rw [hb.cell (p:=(zA B j)) hB];exact h.2 j hj⟩
theorem Tryz.info3:(Tryz.prog.info? 3).map (fun i=>(i.zero,i.size,i.bytes))=some (some (zI 0),1,8):=by kernel_rfl
theorem Tryz.Jk:(Tryz.prog.info? 127).map (fun i=>(i.zero,i.size,i.bytes))=some (some (.slice none 0 0),1,24):=by kernel_rfl
theorem Gx (n:Nat) (hn:n<=1048576) (w:World) :
 (Instr.makeSlice 26 (zI (n:Int)) (zI (n:Int))).run Tryz.prog w=.ok (zS w.heap.size n n) (w.alloc (.cells (madeCells #[zI 0] (n * 1)) 3)):=by
 obtain ⟨i,hi,hzz⟩:=Option.map_eq_some_iff.1 Tryz.info3;simp only [Prod.mk.injEq] at hzz;obtain ⟨hz,hs,hb⟩:=hzz;have:=run_make (P:=Tryz.prog) w 26 3 i _ Tryz.underlying26 hi hz .i64 .i64 n n (by omega) (by omega) (by rw [hb];omega) (by omega);rw [this,hs];rfl
theorem EP (n:Nat) (hn:n<=1048576) (w:World) :
 (Instr.makeSlice 34 (zI (n:Int)) (zI (n:Int))).run Tryz.prog w=.ok (zS w.heap.size n n) (w.alloc (.cells (madeCells #[.slice none 0 0] (n * 1)) 127)):=by
 obtain ⟨i,hi,hzz⟩:=Option.map_eq_some_iff.1 Tryz.Jk;simp only [Prod.mk.injEq] at hzz;obtain ⟨hz,hs,hb⟩:=hzz;have:=run_make (P:=Tryz.prog) w 34 127 i _ Tryz.underlying34 hi hz .i64 .i64 n n (by omega) (by omega) (by rw [hb];omega) (by omega);rw [this,hs];rfl
theorem CZ (a:Option Addr) (n cap:Nat) (X:Nat->Int) (hn:n<=1048576) (w:World) (h:Row1 w a n X) :
 Hz 54 #[.slice a n cap] w fun e w'=>e=.returned (zS w.heap.size n n)/\fZ w' w.heap.size n X n/\w.heap.size<w'.heap.size/\Below w.heap.size w w':=by
 have hmk:=Gx n hn;have HR:bY (Row1 w a n X):=h;clear h;go_enter Tryz.func54,Tryz.ntmps54;go_wp2;go_loopw [4] (fun i wr=>∃ k:Nat,k<=n/\i=zI k/\fZ wr w.heap.size n X k/\w.heap.size<wr.heap.size/\Below w.heap.size w wr) (fun i _=>n - (intOf i).toNat)
 case atStart=>exact ⟨0,Nat.zero_le _,rfl,⟨fun i hi=>by simp [size_madeCells,hi],fun _ h=>absurd h (by omega)⟩,by simp,(Hr _ _).alloc (by simp) _⟩
 case round =>
  clear hmk;obtain ⟨k,hk,rfl,hown,hsz,hbel⟩:=hrel;by_cases hkn:k<n
  ·have hkn':(k:Int)<n:=by omega
   obtain ⟨b,o,rfl,hb,hrow⟩:∃ b o,a=some ⟨b,o,none⟩/\b<w.heap.size/\∀ k,k<n->w.cell? ⟨b,o+k,none⟩=some (zI (X k)):=by
    rcases HR.o with h | h
    ·omega
    exact h
   have hc:wr.cell? (zA b (o+k))=some (zI (X k)):=(hbel.cell (p:=(zA b (o+k))) hb).trans (hrow k hkn);clear hrow;obtain ⟨d0,f0⟩:=hown.1 k hkn;obtain ⟨v0,d0⟩:=Option.isSome_iff_exists.1 d0;go_wp2;go_roundw
   case rel=>exact ⟨k+1,by omega,by go_num,uq hown hkn,by simpa [World.setCell] using hsz,hbel.setCell (Ho _) _⟩
   case measure=>simp [intOf];omega
  have:k=n:=by omega
  subst this;go_wp2;go_ret;exact ⟨rfl,hown,hsz,hbel⟩
theorem Az (a:Option Addr) (n cap:Nat) (Z:Nat->Nat->Int) (hn:n<=1048576) (w:World) (h:P8.kC w a n Z) :
 Hz 85 #[.slice a n cap] w fun e w'=>e=.returned (zS w.heap.size n n)/\P8.iQ w' w.heap.size n Z n/\w.heap.size<w'.heap.size/\Below w.heap.size w w':=by
 rcases h with rfl | ⟨b,o,rfl,hb,hr⟩
 ·exact P8.o9 a cap Z w
 exact P8.toList b o n cap Z hn w hb hr
theorem Bd (a:Option Addr) (n cap:Nat) (Z:Nat->Nat->Int) (hn:n<=1048576) (w:World) (h:lJ w a n Z) :
 Hz 52 #[.slice a n cap] w fun e w'=>e=.returned (zS w.heap.size n n)/\Own5 w' w.heap.size n Z n/\w.heap.size<w'.heap.size/\Below w.heap.size w w':=by
 rcases h with rfl | ⟨b,o,rfl,hb,hr⟩
 ·exact o9 a cap Z w
 exact toList b o n cap Z hn w hb hr
theorem sG {w:World} {B g n k j:Nat} {Z:Nat->Nat->Int} {u:Value} (h:P8.iQ w g n Z k) (hne:¬ B=g):P8.iQ (w.setCell (zA B j) u) g n Z k :=
 ⟨fun i hi=>by rw [aJ (fun e=>hne e.1),aB];exact h.1 i hi,fun k' j' hk hj=>by rw [aJ (fun e=>hne e.1)];exact h.2 k' j' hk hj⟩
def nM (w:World) (B n:Nat) (N:Nat->Nat) (O:Nat->Nat->Nat->Int) (k:Nat):Prop :=
 (∀ i,i<n->(w.cell? (zA B i)).isSome=true/\w.frozen? (zA B i)=false) /\
  ∃ xs:Nat->Nat,(∀ i j,i<j->j<k->xs i<xs j)/\∀ j,j<k->B<xs j/\xs j<w.heap.size/\w.cell? (zA B j)=some (zS (xs j) (N j) (N j))/\P8.iQ w (xs j) (N j) (O j) (N j)
theorem fU {w w':World} {B n k:Nat} {N:Nat->Nat} {O:Nat->Nat->Nat->Int} (h:nM w B n N O k) (hB:B<w.heap.size) (hb:Below w.heap.size w w'):nM w' B n N O k:=by
 obtain ⟨h1,xs,h2,h3⟩:=h;refine ⟨fun i hi=>by rw [hb.cell (p:=(zA B i)) hB,hb.frozen (p:=(zA B i)) hB];exact h1 i hi,xs,h2,fun j hj=>?_⟩;obtain ⟨a1,a2,a3,a4⟩:=h3 j hj;exact ⟨a1,Hg a2 hb.size,(hb.cell (p:=(zA B j)) hB).trans a3,P8.own_below a4 a2 hb⟩
theorem zK {wr w1:World} {B n k:Nat} {N:Nat->Nat} {O:Nat->Nat->Nat->Int} (h:nM wr B n N O k) (hk:k<n) (hB:B<wr.heap.size) (hb:Below wr.heap.size wr w1) (ho:P8.iQ w1 wr.heap.size (N k) (O k) (N k)) (hs:wr.heap.size<w1.heap.size) :
 nM (w1.setCell (zA B k) (zS wr.heap.size (N k) (N k))) B n N O (k+1):=by
 obtain ⟨g1,xs,h2,g3⟩:=h;have h3':∀ j,j<k->xs j<wr.heap.size:=fun j hj=>(g3 j hj).2.1;have h1:∀ i,i<n->(w1.cell? (zA B i)).isSome=true/\w1.frozen? (zA B i)=false:=fun i hi=>by rw [hb.cell (p:=(zA B i)) hB,hb.frozen (p:=(zA B i)) hB];exact g1 i hi
 have h3:∀ j,j<k->B<xs j/\xs j<w1.heap.size/\w1.cell? (zA B j)=some (zS (xs j) (N j) (N j))/\P8.iQ w1 (xs j) (N j) (O j) (N j):=fun j hj=>by
  obtain ⟨a1,a2,a3,a4⟩:=g3 j hj;exact ⟨a1,Hg a2 hb.size,(hb.cell (p:=(zA B j)) hB).trans a3,P8.own_below a4 a2 hb⟩
 refine ⟨fun i hi=>⟨?_,by rw [aB];exact (h1 i hi).2⟩,fun j=>if j=k then wr.heap.size else xs j,fun i j hij hj=>?_,fun j hj=>?_⟩
 ·by_cases hc:k=i
  ·subst hc;rw [fP (h1 k hk).1];rfl
  rw [aJ (fun e=>hc e.2)];exact (h1 i hi).1
 ·dsimp only;by_cases hjk:j=k
  ·subst hjk;rw [if_pos rfl,if_neg (by omega)];exact h3' i hij
  rw [if_neg (by omega),if_neg hjk];exact h2 i j hij (by omega)
 dsimp only;by_cases hjk:j=k
 ·subst hjk;simp only [if_pos];exact ⟨hB,by rw [ay];exact hs,fP (h1 j hk).1,sG ho (by omega)⟩
 rw [if_neg hjk];obtain ⟨a1,a2,a3,a4⟩:=h3 j (by omega);exact ⟨a1,by rw [ay];exact a2,by rw [aJ (fun e=>hjk e.2.symm)];exact a3,sG a4 (by omega)⟩
theorem Fj (a:Option Addr) (n cap:Nat) (N:Nat->Nat) (O:Nat->Nat->Nat->Int) (hn:n<=1048576) (hN:∀ k,k<n->N k<=1048576) (w:World) (h:mD w a n N O) :
 Hz 53 #[.slice a n cap] w fun e w'=>e=.returned (zS w.heap.size n n)/\nM w' w.heap.size n N O n/\w.heap.size<w'.heap.size/\Below w.heap.size w w':=by
 have hmk:=EP n hn;have HR:bY (mD w a n N O):=h;have HN:bY (∀ k,k<n->N k<=1048576):=hN;clear h hN;go_enter Tryz.func53,Tryz.ntmps53;go_wp2;go_loopw [4] (fun i wr=>∃ k:Nat,k<=n/\i=zI k/\nM wr w.heap.size n N O k/\w.heap.size<wr.heap.size/\Below w.heap.size w wr) (fun i _=>n - (intOf i).toNat)
 case atStart=>exact ⟨0,Nat.zero_le _,rfl,⟨fun i hi=>by simp [size_madeCells,hi],fun _=>0,fun _ _ _ h=>absurd h (by omega),fun _ h=>absurd h (by omega)⟩,by simp,(Hr _ _).alloc (by simp) _⟩
 case round =>
  clear hmk;obtain ⟨k,hk,rfl,hown0,hsz,hbel⟩:=hrel;have hown:bY (nM wr w.heap.size n N O k):=hown0;clear hown0;by_cases hkn:k<n
  ·have hkn':(k:Int)<n:=by omega
   obtain ⟨b,o,rfl,hb,hrow⟩:∃ b o,a=some ⟨b,o,none⟩/\b<w.heap.size/\∀ k,k<n->∃ x c,w.cell? ⟨b,o+k,none⟩=some (.slice x (N k) c)/\P8.kC w x (N k) (O k):=by
    rcases HR.o with h | h
    ·omega
    exact h
   obtain ⟨x,c,hc0,hx⟩:=hrow k hkn;have HX:bY (P8.kC wr x (N k) (O k)):=lQ hx hbel;have hc:wr.cell? (zA b (o+k))=some (.slice x (N k) c):=(hbel.cell (p:=(zA b (o+k))) hb).trans hc0;clear hrow hx hc0;go_wp2_with fail;refine (Az x (N k) c (O k) (HN.o k hkn) _ HX.o).mono ?_;rintro e w1 ⟨rfl,ho1,hs1,hb1⟩;have hsz1:w.heap.size<w1.heap.size:=Hg hsz hb1.size;have hbel1:Below w.heap.size w w1:=hbel.trans (hb1.mono (Nat.le_of_lt hsz));have NX:bY (nM (w1.setCell (zA w.heap.size k) (zS wr.heap.size (N k) (N k))) w.heap.size n N O (k+1)):=zK hown.o hkn hsz hb1 ho1 hs1;obtain ⟨d0,f0⟩:=(fU hown.o hsz hb1).1 k hkn;obtain ⟨v0,d0⟩:=Option.isSome_iff_exists.1 d0;clear ho1 hs1 hb1 hbel hc HX hown;go_wp2;go_roundw
   case rel=>exact ⟨k+1,by omega,by go_num,NX.o,by simpa [World.setCell] using hsz1,hbel1.setCell (Ho _) _⟩
   case measure=>simp [intOf];omega
  have:k=n:=by omega
  subst this;go_wp2;go_ret;exact ⟨rfl,hown.o,hsz,hbel⟩
def eH (lo:Nat) (w:World) (v:Value) (V:CV):Prop :=
 ∃ bW bO bX bI,lo<=bW/\bW<bO/\bO<bX/\bX<bI/\bI<w.heap.size /\
  v=.agg (zC V bW V.nW bO V.nO bX V.nX bI V.nI).toArray /\
  Own5 w bW V.nW V.W V.nW/\nM w bO V.nO V.N V.O V.nO/\fZ w bX V.nX V.X V.nX/\fZ w bI V.nI V.I V.nI
theorem mO {w:World} {B n:Nat} {X:Nat->Int} (h:fZ w B n X n) (hB:B<w.heap.size):Row1 w (some (zA B 0)) n X :=
 .inr ⟨B,0,rfl,hB,fun k hk=>by rw [Nat.zero_add];exact h.2 k hk⟩
theorem mP {w:World} {B n:Nat} {Z:Nat->Nat->Int} (h:Own5 w B n Z n) (hB:B<w.heap.size):lJ w (some (zA B 0)) n Z :=
 .inr ⟨B,0,rfl,hB,aZ h⟩
theorem qE {w:World} {B n:Nat} {Z:Nat->Nat->Int} (h:P8.iQ w B n Z n) (hB:B<w.heap.size):P8.kC w (some (zA B 0)) n Z :=
 .inr ⟨B,0,rfl,hB,P8.aZ h⟩
theorem wS {w:World} {B n:Nat} {N:Nat->Nat} {O:Nat->Nat->Nat->Int} (h:nM w B n N O n) (hB:B<w.heap.size):mD w (some (zA B 0)) n N O:=by
 obtain ⟨_,xs,_,h3⟩:=h;refine .inr ⟨B,0,rfl,hB,fun k hk=>?_⟩;obtain ⟨_,a2,a3,a4⟩:=h3 k hk;exact ⟨_,_,by rw [Nat.zero_add];exact a3,qE a4 a2⟩
theorem eH.at {lo:Nat} {w:World} {v:Value} {V:CV} (h:eH lo w v V):iO w v V:=by
 obtain ⟨bW,bO,bX,bI,h0,h1,h2,h3,h4,rfl,g1,g2,g3,g4⟩:=h;exact ⟨_,_,_,_,_,_,_,_,rfl,mP g1 (by omega),wS g2 (by omega),mO g3 (by omega),mO g4 (by omega)⟩
theorem eH.q {lo:Nat} {w w':World} {v:Value} {V:CV} (h:eH lo w v V) (hb:Below w.heap.size w w'):eH lo w' v V:=by
 obtain ⟨bW,bO,bX,bI,h0,h1,h2,h3,h4,rfl,g1,g2,g3,g4⟩:=h;exact ⟨bW,bO,bX,bI,h0,h1,h2,h3,Hg h4 hb.size,rfl,own_below g1 (by omega) hb,fU g2 (by omega) hb,bV g3 (by omega) hb,bV g4 (by omega) hb⟩
def Six (W:World) (b:Nat) (l:List Value):Prop:=∀ i,i<6->W.cell? (zA b i)=some (l.getD i undef)/\W.frozen? (zA b i)=false
theorem Six.a6 {W:World} {b:Nat} {v0 v1 v2 v3 v4 v5:Value} (h:Six W b [v0,v1,v2,v3,v4,v5]):W.cell? (zA b 0)=some v0/\W.cell? (zA b 1)=some v1/\W.cell? (zA b 2)=some v2/\W.cell? (zA b 3)=some v3/\W.cell? (zA b 4)=some v4/\W.cell? (zA b 5)=some v5:=⟨(h 0 (by decide)).1,(h 1 (by decide)).1,(h 2 (by decide)).1,(h 3 (by decide)).1,(h 4 (by decide)).1,(h 5 (by decide)).1⟩
theorem Six.f6 {W:World} {b:Nat} {v0 v1 v2 v3 v4 v5:Value} (h:Six W b [v0,v1,v2,v3,v4,v5]):W.frozen? (zA b 0)=false/\W.frozen? (zA b 1)=false/\W.frozen? (zA b 2)=false/\W.frozen? (zA b 3)=false/\W.frozen? (zA b 4)=false/\W.frozen? (zA b 5)=false:=⟨(h 0 (by decide)).2,(h 1 (by decide)).2,(h 2 (by decide)).2,(h 3 (by decide)).2,(h 4 (by decide)).2,(h 5 (by decide)).2⟩
theorem Six.q {W W':World} {b:Nat} {l:List Value} (h:Six W b l) (hb:b<W.heap.size) (k:Below W.heap.size W W'):Six W' b l:=fun i hi=>by
 rw [k.cell (p:=(zA b i)) hb,k.frozen (p:=(zA b i)) hb];exact h i hi
theorem Six.far {W:World} {b g j:Nat} {l:List Value} {v:Value} (h:Six W b l) (hn:¬ g=b):Six (W.setCell (zA g j) v) b l:=fun i hi=>by
 rw [aJ (fun e=>hn e.1),aB];exact h i hi
theorem Six.set {W:World} {b j:Nat} {l:List Value} {v:Value} (h:Six W b l) (hl:l.length=6) (hj:j<6):Six (W.setCell (zA b j) v) b (l.set j v):=fun i hi=>by
 rw [aB]
 refine ⟨?_,(h i hi).2⟩
 by_cases e:j=i
 ·subst e
  rw [fP (by rw [(h j hi).1];rfl)]
  simp [List.getD,hl,hi]
 rw [aJ (fun e'=>e e'.2),(h i hi).1]
 simp [List.getD,List.getElem?_set_ne e]
theorem gQ {w:World} {B g n k j:Nat} {Z:Nat->Nat->Int} {u:Value} (h:Own5 w g n Z k) (hne:¬ B=g):Own5 (w.setCell (zA B j) u) g n Z k :=
 ⟨fun i hi=>by rw [aJ (fun e=>hne e.1),aB];exact h.1 i hi,fun k' j' hk hj=>by rw [aJ (fun e=>hne e.1)];exact h.2 k' j' hk hj⟩
theorem dU {w:World} {B g n k j:Nat} {X:Nat->Int} {u:Value} (h:fZ w g n X k) (hne:¬ B=g):fZ (w.setCell (zA B j) u) g n X k :=
 ⟨fun i hi=>by rw [aJ (fun e=>hne e.1),aB];exact h.1 i hi,fun k' hk=>by rw [aJ (fun e=>hne e.1)];exact h.2 k' hk⟩
theorem fM (W:World) (t:TypeId) (v0 v1 v2 v3 v4 v5:Value):Six (W.alloc (.cells #[v0,v1,v2,v3,v4,v5] t)) W.heap.size [v0,v1,v2,v3,v4,v5]:=by
 intro i hi;have:i=0∨i=1∨i=2∨i=3∨i=4∨i=5:=by omega
 rcases this with rfl | rfl | rfl | rfl | rfl | rfl <;> exact ⟨by simp,by simp⟩
namespace P8
def eight (Z:Nat->Nat->Int) (k:Nat):List Value:=(zE (Z k))
def rest (Z:Nat->Nat->Int) (n:Nat) (z:Int):List Nat:=(List.range n).filter (fun k=>decide (z<=Z k 0))
def lu (w:World) (base:Nat) (v:Value) (L:List Nat) (Z:Nat->Nat->Int):Prop:=w.ownsRow base 69 8 v L.length (L.flatMap (eight Z))
theorem qC:∃ i,Tryz.prog.info? 69=some i/\i.zero=some (.agg #[zI 0,zI 0,zI 0,zI 0,zI 0,zI 0,zI 0,zI 0])/\i.size=8/\i.bytes=64:=by
 obtain ⟨i,hi,hzz⟩:=Option.map_eq_some_iff.1 Tryz.Jd;simp only [Prod.mk.injEq] at hzz;exact ⟨i,hi,hzz.1,hzz.2.1,hzz.2.2⟩
theorem jG (Z:Nat->Nat->Int) (k:Nat) (z:Int):rest Z (k+1) z=rest Z k z++(if z<=Z k 0 then [k] else []):=by
 unfold rest;rw [List.range_succ,List.filter_append];congr 1;by_cases h:z<=Z k 0 <;> simp [h]
theorem vU (Z:Nat->Nat->Int) (k:Nat) (z:Int):(rest Z k z).length<=k:=by
 have:=(List.filter_sublist (p:=fun k=>decide (z<=Z k 0)) (l:=List.range k)).length_le;rw [List.length_range] at this;exact this
theorem sF {α:Type} [Inhabited α] {m:Nat} (f:α->List Value) (hf:∀ x,(f x).length=m):∀ (L:List α) (i c:Nat),i<L.length->c<m->(L.flatMap f)[i * m+c]? = some (f L[i]!)[c]!
 | [],i,c,hi,_=>absurd hi (by simp)
 | x :: r,0,c,_,hc=>by
  rw [List.flatMap_cons,List.getElem?_append_left (by rw [hf];omega)]
  have:c<(f x).length:=by rw [hf];exact hc
  simp [this]
 | x :: r,i+1,c,hi,hc=>by
  have h:=sF f hf r i c (by simpa using hi) hc
  rw [List.flatMap_cons,List.getElem?_append_right (by rw [hf,Nat.add_mul];omega),hf]
  rw [show (i+1) * m+c - m=i * m+c by rw [Nat.add_mul];omega,h]
  simp
def M (k j:Nat):Int:=((1+k * 8+j:Nat):Int)
theorem aC (w:World) (B i:Nat) (u:Value):w.grownBy (w.setCell (zA B i) u) (some B)/\(w.setCell (zA B i) u).heap.size=w.heap.size :=
 ⟨⟨rfl,rfl,rfl,by simp [World.setCell],fun k _ hne=>Below.heap_setCell _ _ _ _ (fun e=>hne (by rw [e]))⟩,by simp [World.setCell]⟩
theorem rV (w:World) (B k:Nat) (Z:Nat->Nat->Int):w.grownBy (tq w B k Z) (some B)/\(tq w B k Z).heap.size=w.heap.size:=by
 unfold tq;refine ⟨((((((((aC _ _ _ _).1.trans (aC _ _ _ _).1).trans (aC _ _ _ _).1).trans (aC _ _ _ _).1).trans (aC _ _ _ _).1).trans (aC _ _ _ _).1).trans (aC _ _ _ _).1).trans (aC _ _ _ _).1),?_⟩;rw [(aC _ _ _ _).2,(aC _ _ _ _).2,(aC _ _ _ _).2,(aC _ _ _ _).2,(aC _ _ _ _).2,(aC _ _ _ _).2,(aC _ _ _ _).2,(aC _ _ _ _).2]
theorem held (B n cap:Nat) (hn:n<=2000000) (w:World) (hB:B<w.heap.size) (h:iQ w B n M n) :
 Hz 96 #[.slice (some (zA B 0)) n cap,zI 1] w fun e w'=>e=.returned (zI ((1+n * 8:Nat):Int))/\Below w.heap.size w w':=by
 have H0:bY (iQ w B n M n):=h;clear h;go_enter Tryz.func96,Tryz.ntmps96;go_wp2;go_loopw [1,5] (fun c i wr=>∃ k:Nat,k<=n/\zI k=i/\zI (M k 0)=c/\w=wr) (fun _ i _=>n - (intOf i).toNat)
 case atStart=>exact ⟨0,Nat.zero_le _,rfl,rfl,rfl⟩
 case round =>
  obtain ⟨k,hk,rfl,rfl,rfl⟩:=hrel;by_cases hkn:k<n
  ·have hkn':(k:Int)<(n:Int):=by omega
   have c0:=cq8 (fun j hj=>H0.o.2 k j hkn (by omega));have m1:IntKind.wrap .i64 (M k 0+1)=M k 1:=by unfold M;simp [IntKind.wrap,IntKind.bits,IntKind.signed];omega
   have m2:IntKind.wrap .i64 (M k 1+1)=M k 2:=by unfold M;simp [IntKind.wrap,IntKind.bits,IntKind.signed];omega
   have m3:IntKind.wrap .i64 (M k 2+1)=M k 3:=by unfold M;simp [IntKind.wrap,IntKind.bits,IntKind.signed];omega
   have m4:IntKind.wrap .i64 (M k 3+1)=M k 4:=by unfold M;simp [IntKind.wrap,IntKind.bits,IntKind.signed];omega
   have m5:IntKind.wrap .i64 (M k 4+1)=M k 5:=by unfold M;simp [IntKind.wrap,IntKind.bits,IntKind.signed];omega
   have m6:IntKind.wrap .i64 (M k 5+1)=M k 6:=by unfold M;simp [IntKind.wrap,IntKind.bits,IntKind.signed];omega
   have m7:IntKind.wrap .i64 (M k 6+1)=M k 7:=by unfold M;simp [IntKind.wrap,IntKind.bits,IntKind.signed];omega
   have m8:IntKind.wrap .i64 (M k 7+1)=M (k+1) 0:=by unfold M;simp [IntKind.wrap,IntKind.bits,IntKind.signed];omega
   go_wp2;go_roundw
   case rel=>exact ⟨k+1,by omega,by go_num,rfl,by trivial⟩
   case measure=>simp [intOf];omega
  have hkn':k=n:=by omega
  subst hkn';go_wp2;go_ret;exact ⟨rfl,Hr _ _⟩
theorem jg {w w':World} (h:Below w.heap.size w w'):w.grownBy w' none:=⟨h.os,h.tape,h.output,h.size,fun k hk _=>h.block k hk⟩
theorem lu.q {w w':World} {base:Nat} {v:Value} {L:List Nat} {Z:Nat->Nat->Int} (h:lu w base v L Z) (hb:Below w.heap.size w w'):lu w' base v L Z :=
 World.ownsRow.kept h (jg hb) (by cases e:v.ownBlock <;> simp)
theorem lu.kept {w w':World} {base:Nat} {v:Value} {L:List Nat} {Z:Nat->Nat->Int} {row:Option Nat} (h:lu w base v L Z) (hg:w.grownBy w' row) (hne:v.ownBlock=none∨v.ownBlock≠row):lu w' base v L Z :=
 World.ownsRow.kept h hg hne
theorem lu.own {w:World} {base:Nat} {v:Value} {L:List Nat} {Z:Nat->Nat->Int} (h:lu w base v L Z):(L.length=0/\∃ a c,v=.slice a 0 c) ∨
 ∃ g cap,v=.slice (some (zA g 0)) L.length cap/\base<=g/\g<w.heap.size/\iQ w g L.length (fun k j=>Z L[k]! j) L.length:=by
 rcases h.2 with ⟨e,hl⟩ | ⟨g,cap,cur,hv,_⟩
 ·exact .inl ⟨hl,none,0,e⟩
 have ho:w.ownsRow base 69 8 (.slice (some (zA g 0)) L.length cap) L.length (L.flatMap (eight Z)):=by rw [<-hv];exact h
 refine .inr ⟨g,cap,hv,(ho.lt g rfl).1,(ho.lt g rfl).2,fun i hi=>⟨?_,ho.frozenAt i⟩,fun k j hk hj=>?_⟩
 ·rw [ho.cellAt i hi];have:i<(L.flatMap (eight Z)).length:=by rw [ho.1];exact hi
  rw [List.getElem?_eq_getElem this];rfl
 rw [ho.cellAt (k * 8+j) (by omega),sF (m:=8) (eight Z) (fun _=>rfl) L k j hk hj];match j,hj with
 | 0,_=>rfl
 | 1,_=>rfl
 | 2,_=>rfl
 | 3,_=>rfl
 | 4,_=>rfl
 | 5,_=>rfl
 | 6,_=>rfl
 | 7,_=>rfl
theorem yV (a1 a2:Option Addr) (c1 c2:Nat) (w:World) :
 Hz 92 #[.slice a1 0 c1,.slice a2 0 c2] w fun e w'=>e=.returned (.bool true)/\Below w.heap.size w w':=by
 go_enter Tryz.func92,Tryz.ntmps92;go_wp2;refine wp_loop_rounds 1 ?_;rw [rounds_succ];go_wp2;go_ret;exact ⟨rfl,Hr _ _⟩
end P8
theorem rG (a1 a2:Option Addr) (c1 c2:Nat) (w:World) :
 Hz 60 #[.slice a1 0 c1,.slice a2 0 c2] w fun e w'=>e=.returned (.bool true)/\Below w.heap.size w w':=by
 go_enter Tryz.func60,Tryz.ntmps60;go_wp2;refine wp_loop_rounds 1 ?_;rw [rounds_succ];go_wp2;go_ret;exact ⟨rfl,Hr _ _⟩
theorem zZ (a1 a2:Option Addr) (n c1 c2:Nat) (Z:Nat->Nat->Int) (hn:n<=2000000) (w:World) (h1:lJ w a1 n Z) (h2:lJ w a2 n Z) :
 Hz 60 #[.slice a1 n c1,.slice a2 n c2] w fun e w'=>e=.returned (.bool true)/\Below w.heap.size w w':=by
 rcases h1 with rfl | ⟨b1,o1,rfl,hb1,hr1⟩
 ·exact rG _ _ _ _ _
 rcases h2 with rfl | ⟨b2,o2,rfl,hb2,hr2⟩
 ·exact rG _ _ _ _ _
 exact sH b1 o1 c1 b2 o2 c2 n Z hn w hb1 hb2 hr1 hr2
theorem Bh (a1 a2:Option Addr) (n c1 c2:Nat) (Z:Nat->Nat->Int) (hn:n<=2000000) (w:World) (h1:P8.kC w a1 n Z) (h2:P8.kC w a2 n Z) :
 Hz 92 #[.slice a1 n c1,.slice a2 n c2] w fun e w'=>e=.returned (.bool true)/\Below w.heap.size w w':=by
 rcases h1 with rfl | ⟨b1,o1,rfl,hb1,hr1⟩
 ·exact P8.yV _ _ _ _ _
 rcases h2 with rfl | ⟨b2,o2,rfl,hb2,hr2⟩
 ·exact P8.yV _ _ _ _ _
 exact P8.sH b1 o1 c1 b2 o2 c2 n Z hn w hb1 hb2 hr1 hr2
theorem BN (a1 a2:Option Addr) (n c1 c2:Nat) (X:Nat->Int) (hn:n<=2000000) (w:World) (h1:Row1 w a1 n X) (h2:Row1 w a2 n X) :
 Hz 62 #[.slice a1 n c1,.slice a2 n c2] w fun e w'=>e=.returned (.bool true)/\Below w.heap.size w w':=by
 have H1:bY (Row1 w a1 n X):=h1;have H2:bY (Row1 w a2 n X):=h2;clear h1 h2;go_enter Tryz.func62,Tryz.ntmps62;go_wp2;go_loopw [5] (fun i wr=>∃ k:Nat,k<=n/\i=zI k/\Below w.heap.size w wr) (fun i _=>n - (intOf i).toNat)
 case atStart=>exact ⟨0,Nat.zero_le _,rfl,Hr _ _⟩
 case round =>
  obtain ⟨k,hk,rfl,hbel⟩:=hrel;by_cases hkn:k<n
  ·have hkn':(k:Int)<n:=by omega
   obtain ⟨b1,o1,rfl,hb1,hr1⟩:∃ b o,a1=some ⟨b,o,none⟩/\b<w.heap.size/\∀ k,k<n->w.cell? ⟨b,o+k,none⟩=some (zI (X k)):=by
    rcases H1.o with h | h
    ·omega
    exact h
   obtain ⟨b2,o2,rfl,hb2,hr2⟩:∃ b o,a2=some ⟨b,o,none⟩/\b<w.heap.size/\∀ k,k<n->w.cell? ⟨b,o+k,none⟩=some (zI (X k)):=by
    rcases H2.o with h | h
    ·omega
    exact h
   have d1:wr.cell? (zA b1 (o1+k))=some (zI (X k)):=(hbel.cell (p:=(zA b1 (o1+k))) hb1).trans (hr1 k hkn);have d2:wr.cell? (zA b2 (o2+k))=some (zI (X k)):=(hbel.cell (p:=(zA b2 (o2+k))) hb2).trans (hr2 k hkn);clear hr1 hr2;go_wp2;go_region;go_wp2;go_roundw
   case rel=>exact ⟨k+1,by omega,by go_num,by repeat (first | exact hbel | apply Below.drew | apply bZ)⟩
   case measure=>simp [intOf];omega
  have:k=n:=by omega
  subst this;go_wp2;go_ret;exact ⟨rfl,hbel⟩
theorem uf {w w':World} {a:Option Addr} {n:Nat} {Z:Nat->Nat->Int} (h:P8.kC w a n Z) (k:(∀ b o,b<w.heap.size->w'.cell? (zA b o)=w.cell? (zA b o))/\w.heap.size<=w'.heap.size):P8.kC w' a n Z:=by
 rcases h with rfl | ⟨b,o,rfl,hlt,hr⟩
 ·exact .inl rfl
 exact .inr ⟨b,o,rfl,Hg hlt k.2,fun i j hi hj=>(k.1 b _ hlt).trans (hr i j hi hj)⟩
theorem Fe (a1 a2:Option Addr) (n c1 c2:Nat) (N:Nat->Nat) (O:Nat->Nat->Nat->Int) (hn:n<=2000000) (hN:∀ k,k<n->N k<=2000000) (w:World) (h1:mD w a1 n N O) (h2:mD w a2 n N O) :
 Hz 61 #[.slice a1 n c1,.slice a2 n c2] w fun e w'=>e=.returned (.bool true)/\Below w.heap.size w w':=by
 have H1:bY (mD w a1 n N O):=h1;have H2:bY (mD w a2 n N O):=h2;have HN:bY (∀ k,k<n->N k<=2000000):=hN;clear h1 h2 hN;go_enter Tryz.func61,Tryz.ntmps61;go_wp2;go_loopw [5] (fun i wr=>∃ k:Nat,k<=n/\i=zI k/\((∀ b o,b<w.heap.size->wr.cell? (zA b o)=w.cell? (zA b o))/\w.heap.size<=wr.heap.size)/\Below w.heap.size w wr) (fun i _=>n - (intOf i).toNat)
 case atStart=>exact ⟨0,Nat.zero_le _,rfl,⟨fun _ _ _=>rfl,Ho _⟩,Hr _ _⟩
 case round =>
  obtain ⟨k,hk,rfl,HS,BR⟩:=hrel;by_cases hkn:k<n
  ·have hkn':(k:Int)<n:=by omega
   obtain ⟨b1,o1,rfl,hb1,hr1⟩:∃ b o,a1=some ⟨b,o,none⟩/\b<w.heap.size/\∀ k,k<n->∃ x c,w.cell? ⟨b,o+k,none⟩=some (.slice x (N k) c)/\P8.kC w x (N k) (O k):=by
    rcases H1.o with h | h
    ·omega
    exact h
   obtain ⟨b2,o2,rfl,hb2,hr2⟩:∃ b o,a2=some ⟨b,o,none⟩/\b<w.heap.size/\∀ k,k<n->∃ x c,w.cell? ⟨b,o+k,none⟩=some (.slice x (N k) c)/\P8.kC w x (N k) (O k):=by
    rcases H2.o with h | h
    ·omega
    exact h
   obtain ⟨x1,d1,e1,hx1⟩:=hr1 k hkn;obtain ⟨x2,d2,e2,hx2⟩:=hr2 k hkn;have HX1:bY (P8.kC w x1 (N k) (O k)):=hx1;have HX2:bY (P8.kC w x2 (N k) (O k)):=hx2;clear hr1 hr2 hx1 hx2;go_wp2;refine Hu (S:=fun w'=>(∀ b o,b<w.heap.size->w'.cell? (zA b o)=w.cell? (zA b o))/\w.heap.size<=w'.heap.size) (by kernel_rfl) HS ?_;intro af;refine aA 0 (.slice (some (zA b1 o1)) n c1) rfl ?_;refine aA 1 (zI (k:Int)) rfl ?_;refine aA 2 (.pointer (some (zA b1 (o1+k)))) rfl ?_;refine aA 3 (.slice x1 (N k) d1) rfl ?_;refine aA 4 (.slice (some (zA b2 o2)) n c2) rfl ?_;refine aA 5 (zI (k:Int)) rfl ?_;refine aA 6 (.pointer (some (zA b2 (o2+k)))) rfl ?_;refine aA 7 (.slice x2 (N k) d2) rfl ?_;refine di 8 rfl fun K hK=>?_;go_simp;go_wp2_with (go_at_call 92;refine (Bh x1 x2 (N k) d1 d2 (O k) (HN.o k hkn) _ (uf HX1.o (by assumption)) (uf HX2.o (by assumption))).mono ?_;rintro e w2 ⟨rfl,hbw2⟩);refine hK.out _ _ (bM (by assumption) hbw2) (fun af=>?_);clear hK K;try simp only [aT]
   refine aA 9 (.bool false) rfl ?_;refine Hy (by kernel_rfl) ?_ _;go_wp2;go_roundw
   case rel=>exact ⟨k+1,by omega,by go_num,by assumption,by repeat (first | exact BR | refine ah ?_ (by assumption) | apply Below.drew)⟩
   case measure=>simp [intOf];omega
  have:k=n:=by omega
  subst this;go_wp2;go_ret;exact ⟨rfl,BR⟩
theorem uP (v1 v2:Value) (V:CV) (hs:V.short 2000000) (w:World) (h1:iO w v1 V) (h2:iO w v2 V) :
 Hz 32 #[v1,v2] w fun e w'=>e=.returned (.bool true)/\Below w.heap.size w w':=by
 obtain ⟨aW,kW,aO,kO,aX,kX,aI,kI,rfl,rW,rO,rX,rI⟩:=h1;obtain ⟨bW,lW,bO,lO,bX,lX,bI,lI,rfl,sW,sO,sX,sI⟩:=h2;obtain ⟨VC,nW,W,VG,nO,N,O,nX,X,nI,I⟩:=V;simp only at rW rO rX rI sW sO sX sI;obtain ⟨tW,tO,tN,tX,tI⟩:=hs;simp only at tW tO tN tX tI;have HW:bY (lJ w aW nW W/\lJ w bW nW W):=⟨rW,sW⟩;have HO:bY (mD w aO nO N O/\mD w bO nO N O):=⟨rO,sO⟩;have HX:bY (Row1 w aX nX X/\Row1 w bX nX X):=⟨rX,sX⟩;have HI:bY (Row1 w aI nI I/\Row1 w bI nI I):=⟨rI,sI⟩;have HN:bY (∀ k,k<nO->N k<=2000000):=tN;clear rW rO rX rI sW sO sX sI tN;go_enter Tryz.func32,Tryz.ntmps32;go_wp2_with fail;obtain ⟨w0,e0⟩:∃ w0,w0=(w.alloc (.cells #[zI VC,.slice aW nW kW,zI VG,.slice aO nO kO,.slice aX nX kX,.slice aI nI kI] 36)).alloc (.cells #[zI VC,.slice bW nW lW,zI VG,.slice bO nO lO,.slice bX nX lX,.slice bI nI lI] 36):=⟨_,rfl⟩;have z0:w.heap.size+2<=w0.heap.size:=by rw [e0];simp
 have B0:bY (Below w.heap.size w w0):=by rw [e0];exact ((Hr _ _).alloc (by simp) _).alloc (by simp) _
 have A0:bY (Six w0 w.heap.size [zI VC,.slice aW nW kW,zI VG,.slice aO nO kO,.slice aX nX kX,.slice aI nI kI]):=by rw [e0];exact (fM w 36 (zI VC) (.slice aW nW kW) (zI VG) (.slice aO nO kO) (.slice aX nX kX) (.slice aI nI kI)).q (by simp) ((Hr _ _).alloc (by simp) _)
 have C0:bY (Six w0 (w.heap.size+1) [zI VC,.slice bW nW lW,zI VG,.slice bO nO lO,.slice bX nX lX,.slice bI nI lI]):=by rw [e0];have:=fM (w.alloc (.cells #[zI VC,.slice aW nW kW,zI VG,.slice aO nO kO,.slice aX nX kX,.slice aI nI kI] 36)) 36 (zI VC) (.slice bW nW lW) (zI VG) (.slice bO nO lO) (.slice bX nX lX) (.slice bI nI lI);rw [show (w.alloc (.cells #[zI VC,.slice aW nW kW,zI VG,.slice aO nO kO,.slice aX nX kX,.slice aI nI kI] 36)).heap.size=w.heap.size+1 by simp] at this;exact this
 rw [<-e0];clear e0;refine (zZ aW bW nW kW lW W tW _ (iV HW.o.1 B0.o) (iV HW.o.2 B0.o)).mono ?_;rintro e w1 ⟨rfl,hb⟩;have B1:=fQ (ah B0.o hb);have A1:=fQ (A0.o.q (by omega) hb);have C1:=fQ (C0.o.q (by omega) hb);have z1:w.heap.size+2<=w1.heap.size:=Hq z0 hb.size;have a0:=A1.o.a6;have c0:=C1.o.a6;clear hb A0 C0 B0;go_wp2_with fail;clear a0 c0;refine (Fe aO bO nO kO lO N O tO HN.o _ (jO HO.o.1 B1.o) (jO HO.o.2 B1.o)).mono ?_;rintro e w2 ⟨rfl,hb⟩;have B2:=fQ (ah B1.o hb);have A2:=fQ (A1.o.q (by omega) hb);have C2:=fQ (C1.o.q (by omega) hb);have z2:w.heap.size+2<=w2.heap.size:=Hq z1 hb.size;have a0:=A2.o.a6;have c0:=C2.o.a6;clear hb A1 C1 B1;go_wp2_with fail;clear a0 c0;refine (BN aX bX nX kX lX X tX _ (iG HX.o.1 B2.o) (iG HX.o.2 B2.o)).mono ?_;rintro e w3 ⟨rfl,hb⟩;have B3:=fQ (ah B2.o hb);have A3:=fQ (A2.o.q (by omega) hb);have C3:=fQ (C2.o.q (by omega) hb);have z3:w.heap.size+2<=w3.heap.size:=Hq z2 hb.size;have a0:=A3.o.a6;have c0:=C3.o.a6;clear hb A2 C2 B2;go_wp2_with fail;clear a0 c0;refine (BN aI bI nI kI lI I tI _ (iG HI.o.1 B3.o) (iG HI.o.2 B3.o)).mono ?_;rintro e w4 ⟨rfl,hb⟩;have B4:=fQ (ah B3.o hb);clear hb;go_wp2;go_ret;exact ⟨rfl,B4.o⟩
