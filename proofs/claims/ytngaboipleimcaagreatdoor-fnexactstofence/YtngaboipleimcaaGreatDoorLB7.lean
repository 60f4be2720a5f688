/- A record that came in, by value: its sixteen numbers, each of them one that an integer holds; no Go text in sight; conditions: none beyond those typed. -/
import Derived.Test.YtngaboipleimcaaGreatDoorWalksD
set_option linter.unusedVariables false
namespace Go.Proofs.YtngaboipleimcaaGreatDoor
namespace P16
open Go.RowKit Go.ChangeShapes Go.WideShapes Go.ChangeAt Go.Deep
theorem zY {H:Type} {enc:TypeId × Value→H} {P:Program} {w:World} {base:Nat} {spare:Nat→Bool} {held:Bool} {fuel:Nat} {t ti to tp tw:TypeId} {gs fs:Array Field} {g0 g1 g2 g3 g4 f0 f1 f2 f3:Field} {k:IntKind} {cs:List Value} {x:DataW H × List MemPlace}
 (hs:P.underlying t=some (.struct #[g0,g1,g2,g3,g4])) (ho5:P.underlying to=some (.struct gs)) (hp:P.underlying tp=some (.struct #[f0,f1,f2,f3])) (hw5:P.underlying tw=some (.struct fs)) (hi:P.underlying ti=some (.int k)) (h1:P.cellsOf ti=1) (hC:P.cellsOf t=16) (hCo:P.cellsOf to=5) (hCp:P.cellsOf tp=8) (hC5:P.cellsOf tw=5) (hgz:gs.size=5) (hsz:fs.size=5)
 (hgoff:∀ (i:Nat) (f:Field),gs[i]? = some f→f.offset=i∧f.type=ti) (hoff:∀ (i:Nat) (f:Field),fs[i]? = some f→f.offset=i∧f.type=ti)
 (q0:g0.offset=0∧g0.type=ti) (q1:g1.offset=1∧g1.type=to) (q2:g2.offset=6∧g2.type=ti) (q3:g3.offset=7∧g3.type=tp) (q4:g4.offset=15∧g4.type=ti)
 (o0:f0.offset=0∧f0.type=ti) (o1:f1.offset=1∧f1.type=ti) (o2:f2.offset=2∧f2.type=tw) (o3:f3.offset=7∧f3.type=ti)
 (hf:DataW.trod enc P w base spare held fuel t cs=some x):∀ i,i<16→∃ z,cs[i]? = some (.int k z)∧(Lit.int k z).wf=true:=by
 obtain ⟨xs,n,_,_,hl,hlen,hfld⟩:=DataW.trod_struct hs hf
 rw [hC] at hl
 have hxs:∀ i,i<5→∃ x,xs[i]? = some x:=fun i hi=>⟨xs[i]'(by rw [hlen];simpa using hi),List.getElem?_eq_getElem _⟩
 have one:∀ (i q:Nat) (f:Field),i<5→q<16→(#[g0,g1,g2,g3,g4]:Array Field)[i]? = some f→f.offset=q∧f.type=ti→∃ z,cs[q]? = some (.int k z)∧(Lit.int k z).wf=true:=by
  intro i q f hi4 hq hg ho
  have:=hfld i f hg
  rw [ho.1,ho.2,h1] at this
  obtain ⟨x,hx⟩:=hxs i hi4
  rw [hx] at this
  obtain ⟨z,hz,_,hw⟩:=DataW.trod_int hi this
  refine ⟨z,?_,hw⟩
  have hlt':q<cs.length:=by omega
  have:(cs.drop q).take 1=[cs[q]]:=by
   rw [List.drop_eq_getElem_cons hlt',List.take_succ_cons,List.take_zero]
  rw [this] at hz
  rw [List.getElem?_eq_getElem hlt']
  simpa using hz
 have five:∀ j,j<5→∃ z,cs[1+j]? = some (.int k z)∧(Lit.int k z).wf=true:=by
  intro j hj
  have:=hfld 1 g1 rfl
  rw [q1.1,q1.2,hCo] at this
  obtain ⟨x,hx⟩:=hxs 1 (by omega)
  rw [hx] at this
  obtain ⟨z,hz,hw⟩:=P8.lY ho5 hi h1 (by rw [hCo,hgz]) hgoff this j (by omega)
  refine ⟨z,?_,hw⟩
  rw [←hz,List.getElem?_take_of_lt hj,List.getElem?_drop]
 have eight:∀ j,j<8→∃ z,cs[7+j]? = some (.int k z)∧(Lit.int k z).wf=true:=by
  intro j hj
  have:=hfld 3 g3 rfl
  rw [q3.1,q3.2,hCp] at this
  obtain ⟨x,hx⟩:=hxs 3 (by omega)
  rw [hx] at this
  obtain ⟨z,hz,hw⟩:=P8.pJ hp hw5 hi h1 hCp hC5 hsz hoff o0 o1 o2 o3 this j (by omega)
  refine ⟨z,?_,hw⟩
  rw [←hz,List.getElem?_take_of_lt hj,List.getElem?_drop]
 intro i hi16
 match i,hi16 with
 | 0,_=>exact one 0 0 g0 (by omega) (by omega) rfl q0
 | 1,_=>exact five 0 (by omega)
 | 2,_=>exact five 1 (by omega)
 | 3,_=>exact five 2 (by omega)
 | 4,_=>exact five 3 (by omega)
 | 5,_=>exact five 4 (by omega)
 | 6,_=>exact one 2 6 g2 (by omega) (by omega) rfl q2
 | 7,_=>exact eight 0 (by omega)
 | 8,_=>exact eight 1 (by omega)
 | 9,_=>exact eight 2 (by omega)
 | 10,_=>exact eight 3 (by omega)
 | 11,_=>exact eight 4 (by omega)
 | 12,_=>exact eight 5 (by omega)
 | 13,_=>exact eight 6 (by omega)
 | 14,_=>exact eight 7 (by omega)
 | 15,_=>exact one 4 15 g4 (by omega) (by omega) rfl q4
 | i+16,h=>omega
end P16
