/- A record that came in, by value: its sixteen numbers, each of them one that an integer holds; no Go text in sight; conditions: none beyond those typed. -/
import Derived.Test.YtngaboipleimcaaGreatDoorWalksD
set_option linter.unusedVariables false
namespace Go.Proofs.YtngaboipleimcaaGreatDoor
namespace P16
open Go.RowKit Go.ChangeShapes Go.WideShapes Go.ChangeAt Go.Deep
theorem zY {H:Type} {enc:TypeId × Value→H} {P:Program} {w:World} {base:Nat} {spare:Nat→Bool} {held:Bool} {fuel:Nat} {t ti to tp tw:TypeId} {gs fs:Array Field} {g0 g1 g2 g3 g4 f0 f1 f2 f3:Field} {k:IntKind} {cs:List Value} {x:DataW H × List MemPlace}
 (hs:P.underlying t=some (.struct #[g0,g1,g2,g3,g4])) (ho5:P.underlying to=some (.struct gs)) (hp:P.underlying tp=some (.struct #[f0,f1,f2,f3])) (hw5:P.underlying tw=some (.struct fs)) (hi:P.underlying ti=some (.int k)) (h1:P.cellsOf ti=1) (hC:P.cellsOf t=16) (hCo:P.cellsOf to=5) (hCp:P.cellsOf tp=8) (hC5:P.cellsOf tw=5) (hgz:gs.size=5) (hsz:fs.size=5)
 (hgoff:∀ (i:Nat) (f:Field),gs[i]? = some f→f.offset=i∧f.type=ti) (hoff:∀ (i:Nat) (f:Field),fs[i]? = some f→f.offset=i∧f.type=ti)
 (q0:g0.offset=0∧g0.type=ti) (q1:g1.offset=1∧g1.type=to) (q2:g2.offset=6∧g2.type=ti) (q3:g3.offset=7∧g3.type=tp) (q4:g4.offset=15∧g4.type=ti)
 (o0:f0.offset=0∧f0.type=ti) (o1:f1.offset=1∧f1.type=ti) (o2:f2.offset=2∧f2.type=tw) (o3:f3.offset=7∧f3.type=ti)
 (hf:DataW.trod enc P w base spare held fuel t cs=some x):∀ i,i<16→∃ z,cs[i]? = some (.int k z)∧(Lit.int k z).wf=true:=by
 obtain ⟨xs,n,_,_,hl,hlen,hfld⟩:=DataW.trod_struct hs hf
 rw [hC] at hl
 have hxs:∀ i,i<5→∃ x,xs[i]? = some x:=fun i hi=>⟨xs[i]'(by rw [hlen];simpa using hi),List.getElem?_eq_getElem _⟩
 have one:∀ (i q:Nat) (f:Field),i<5→q<16→(#[g0,g1,g2,g3,g4]:Array Field)[i]? = some f→f.offset=q∧f.type=ti→∃ z,cs[q]? = some (.int k z)∧(Lit.int k z).wf=true:=by
  intro i q f hi4 hq hg ho
  have:=hfld i f hg
  rw [ho.1,ho.2,h1] at this
  obtain ⟨x,hx⟩:=hxs i hi4
  rw [hx] at this
  obtain ⟨z,hz,_,hw⟩:=DataW.trod_int hi this
  refine ⟨z,?_,hw⟩
  have hlt':q<cs.length:=by omega
  have:(cs.drop q).take 1=[cs[q]]:=by
   rw [List.drop_eq_getElem_cons hlt',List.take_succ_cons,List.take_zero]
  rw [this] at hz
  rw [List.getElem?_eq_getElem hlt']
  simpa using hz
 have five:∀ j,j<5→∃ z,cs[1+j]? = some (.int k z)∧(Lit.int k z).wf=true:=by
  intro j hj
  have:=hfld 1 g1 rfl
  rw [q1.1,q1.2,hCo] at this
  obtain ⟨x,hx⟩:=hxs 1 (by omega)
  rw [hx] at this
  obtain ⟨z,hz,hw⟩:=P8.lY ho5 hi h1 (by rw [hCo,hgz]) hgoff this j (by omega)
  refine ⟨z,?_,hw⟩
  rw [←hz,List.getElem?_take_of_lt hj,List.getElem?_drop]
 have eight:∀ j,j<8→∃ z,cs[7+j]? = some (.int k z)∧(Lit.int k z).wf=true:=by
  intro j hj
  have:=hfld 3 g3 rfl
  rw [q3.1,q3.2,hCp] at this
  obtain ⟨x,hx⟩:=hxs 3 (by omega)
  rw [hx] at this
  obtain ⟨z,hz,hw⟩:=P8.pJ hp hw5 hi h1 hCp hC5 hsz hoff o0 o1 o2 o3 this j (by omega)
  refine ⟨z,?_,hw⟩
  rw [←hz,List.getElem?_take_of_lt hj,List.getElem?_drop]
 intro i hi16
 match i,hi16 with
 | 0,_=>exact one 0 0 g0 (by omega) (by omega) rfl q0
 | 1,_=>exact five 0 (by omega)
 | 2,_=>exact five 1 (by omega)
 | 3,_=>exact five 2 (by omega)
 | 4,_=>exact five 3 (by omega)
 | 5,_=>exact five 4 (by omega)
 | 6,_=>exact one 2 6 g2 (by omega) (by omega) rfl q2
 | 7,_=>exact eight 0 (by omega)
 | 8,_=>exact eight 1 (by omega)
 | 9,_=>exact eight 2 (by omega)
 | 10,_=>exact eight 3 (by omega)
 | 11,_=>exact eight 4 (by omega)
 | 12,_=>exact eight 5 (by omega)
 | 13,_=>exact eight 6 (by omega)
 | 14,_=>exact eight 7 (by omega)
 | 15,_=>exact one 4 15 g4 (by omega) (by omega) rfl q4
 | i+16,h=>omega
theorem open_rec {H:Type} {enc:TypeId × Value→H} {P:Program} {w:World} {base b0:Nat} {spare:Nat→Bool} {held:Bool} {r:Reach} {t ti to tp tw:TypeId} {gs fs:Array Field} {g0 g1 g2 g3 g4 f0 f1 f2 f3:Field} {v:Value} {d:DataW H} {p:List MemPlace}
 (hs:P.underlying t=some (.struct #[g0,g1,g2,g3,g4])) (ho5:P.underlying to=some (.struct gs)) (hp:P.underlying tp=some (.struct #[f0,f1,f2,f3])) (hw5:P.underlying tw=some (.struct fs)) (hi:P.underlying ti=some (.int .i64)) (h1:P.cellsOf ti=1) (hC:P.cellsOf t=16) (hCo:P.cellsOf to=5) (hCp:P.cellsOf tp=8) (hC5:P.cellsOf tw=5) (hgz:gs.size=5) (hsz:fs.size=5)
 (hgoff:∀ (i:Nat) (f:Field),gs[i]? = some f→f.offset=i∧f.type=ti) (hoff:∀ (i:Nat) (f:Field),fs[i]? = some f→f.offset=i∧f.type=ti)
 (q0:g0.offset=0∧g0.type=ti) (q1:g1.offset=1∧g1.type=to) (q2:g2.offset=6∧g2.type=ti) (q3:g3.offset=7∧g3.type=tp) (q4:g4.offset=15∧g4.type=ti)
 (o0:f0.offset=0∧f0.type=ti) (o1:f1.offset=1∧f1.type=ti) (o2:f2.offset=2∧f2.type=tw) (o3:f3.offset=7∧f3.type=ti)
 (hv:Value.okWide P w r b0 t v) (h:DataW.Trod enc P w base spare held t v d p) :
 ∃ R:Nat→Int,v=.agg (zR R).toArray∧∀ j,j<16→(Lit.int .i64 (R j)).wf=true:=by
 obtain ⟨cs,rfl,hsz8⟩:=okWide_struct hs hv
 obtain ⟨fuel,hf⟩:=h
 have hall:=zY hs ho5 hp hw5 hi h1 hC hCo hCp hC5 hgz hsz hgoff hoff q0 q1 q2 q3 q4 o0 o1 o2 o3 hf
 simp only [Value.cells] at hall
 obtain ⟨x0,e0,f0⟩:=hall 0 (by omega)
 obtain ⟨x1,e1,f1⟩:=hall 1 (by omega)
 obtain ⟨x2,e2,f2⟩:=hall 2 (by omega)
 obtain ⟨x3,e3,f3⟩:=hall 3 (by omega)
 obtain ⟨x4,e4,f4⟩:=hall 4 (by omega)
 obtain ⟨x5,e5,f5⟩:=hall 5 (by omega)
 obtain ⟨x6,e6,f6⟩:=hall 6 (by omega)
 obtain ⟨x7,e7,f7⟩:=hall 7 (by omega)
 obtain ⟨x8,e8,f8⟩:=hall 8 (by omega)
 obtain ⟨x9,e9,f9⟩:=hall 9 (by omega)
 obtain ⟨x10,e10,f10⟩:=hall 10 (by omega)
 obtain ⟨x11,e11,f11⟩:=hall 11 (by omega)
 obtain ⟨x12,e12,f12⟩:=hall 12 (by omega)
 obtain ⟨x13,e13,f13⟩:=hall 13 (by omega)
 obtain ⟨x14,e14,f14⟩:=hall 14 (by omega)
 obtain ⟨x15,e15,f15⟩:=hall 15 (by omega)
 refine ⟨fun j=>[x0,x1,x2,x3,x4,x5,x6,x7,x8,x9,x10,x11,x12,x13,x14,x15].getD j 0,?_,fun j hj=>?_⟩
 rotate_left
 ·match j,hj with
  | 0,_=>exact f0
  | 1,_=>exact f1
  | 2,_=>exact f2
  | 3,_=>exact f3
  | 4,_=>exact f4
  | 5,_=>exact f5
  | 6,_=>exact f6
  | 7,_=>exact f7
  | 8,_=>exact f8
  | 9,_=>exact f9
  | 10,_=>exact f10
  | 11,_=>exact f11
  | 12,_=>exact f12
  | 13,_=>exact f13
  | 14,_=>exact f14
  | 15,_=>exact f15
  | j+16,hj=>omega
 congr 1
 apply Array.ext'
 apply List.ext_getElem?
 intro i
 have hlen:cs.toList.length=16:=by simp [hsz8,hC]
 match i with
 | 0=>simpa using e0
 | 1=>simpa using e1
 | 2=>simpa using e2
 | 3=>simpa using e3
 | 4=>simpa using e4
 | 5=>simpa using e5
 | 6=>simpa using e6
 | 7=>simpa using e7
 | 8=>simpa using e8
 | 9=>simpa using e9
 | 10=>simpa using e10
 | 11=>simpa using e11
 | 12=>simpa using e12
 | 13=>simpa using e13
 | 14=>simpa using e14
 | 15=>simpa using e15
 | i+16=>rw [List.getElem?_eq_none (by omega),List.getElem?_eq_none (by simp)]
end P16
