/- A hold, a store and a record that came in: where they lie; conditions: none beyond those typed. -/
import Derived.Test.YtngaboipleimcabGreatDoorHB
set_option linter.unusedVariables false
namespace Go.Proofs.YtngaboipleimcabGreatDoor
namespace P16
open Go.RowKit Go.ChangeShapes Go.WideShapes Go.ChangeAt Go.Deep
theorem zY {H:Type} {enc:TypeId × Value->H} {P:Program} {w:World} {base:Nat} {spare:Nat->Bool} {held:Bool} {fuel:Nat} {t ti t9 tp tw:TypeId} {gs fs:Array Field} {g0 g1 g2 g3 g4 f0 f1 f2 f3:Field} {k:IntKind} {cs:List Value} {x:DataW H × List MemPlace}
 (hs:P.underlying t=some (.struct #[g0,g1,g2,g3,g4])) (ho5:P.underlying t9=some (.struct gs)) (hp:P.underlying tp=some (.struct #[f0,f1,f2,f3])) (hw5:P.underlying tw=some (.struct fs)) (hi:P.underlying ti=some (.int k)) (h1:P.cellsOf ti=1) (hC:P.cellsOf t=16) (hCo:P.cellsOf t9=5) (hCp:P.cellsOf tp=8) (hC5:P.cellsOf tw=5) (hgz:gs.size=5) (hsz:fs.size=5)
 (hgoff:∀ (i:Nat) (f:Field),gs[i]? = some f->f.offset=i/\f.type=ti) (hoff:∀ (i:Nat) (f:Field),fs[i]? = some f->f.offset=i/\f.type=ti)
 (q0:g0.offset=0/\g0.type=ti) (q1:g1.offset=1/\g1.type=t9) (q2:g2.offset=6/\g2.type=ti) (q3:g3.offset=7/\g3.type=tp) (q4:g4.offset=15/\g4.type=ti)
 (o0:f0.offset=0/\f0.type=ti) (o1:f1.offset=1/\f1.type=ti) (o2:f2.offset=2/\f2.type=tw) (o3:f3.offset=7/\f3.type=ti)
 (hf:DataW.trod enc P w base spare held fuel t cs=some x):∀ i,i<16->∃ z,cs[i]? = some (.int k z)/\(Lit.int k z).wf=true:=by
 obtain ⟨xs,n,_,_,hl,hlen,hfld⟩:=DataW.trod_struct hs hf;rw [hC] at hl;have hxs:∀ i,i<5->∃ x,xs[i]? = some x:=fun i hi=>⟨xs[i]'(by rw [hlen];simpa using hi),List.getElem?_eq_getElem _⟩
 have one:∀ (i q:Nat) (f:Field),i<5->q<16->(#[g0,g1,g2,g3,g4]:Array Field)[i]? = some f->f.offset=q/\f.type=ti->∃ z,cs[q]? = some (.int k z)/\(Lit.int k z).wf=true:=by
  intro i q f hi4 hq hg ho;have:=hfld i f hg;rw [ho.1,ho.2,h1] at this;obtain ⟨x,hx⟩:=hxs i hi4;rw [hx] at this;obtain ⟨z,hz,_,hw⟩:=DataW.trod_int hi this;refine ⟨z,?_,hw⟩;have hlt':q<cs.length:=by omega
  have:(cs.drop q).take 1=[cs[q]]:=by
   rw [List.drop_eq_getElem_cons hlt',List.take_succ_cons,List.take_zero]
  rw [this] at hz;rw [List.getElem?_eq_getElem hlt'];simpa using hz
 have five:∀ j,j<5->∃ z,cs[1+j]? = some (.int k z)/\(Lit.int k z).wf=true:=by
  intro j hj;have:=hfld 1 g1 rfl;rw [q1.1,q1.2,hCo] at this;obtain ⟨x,hx⟩:=hxs 1 (by omega);rw [hx] at this;obtain ⟨z,hz,hw⟩:=P8.lY ho5 hi h1 (by rw [hCo,hgz]) hgoff this j (by omega);refine ⟨z,?_,hw⟩;rw [<-hz,List.getElem?_take_of_lt hj,List.getElem?_drop]
 have eight:∀ j,j<8->∃ z,cs[7+j]? = some (.int k z)/\(Lit.int k z).wf=true:=by
  intro j hj;have:=hfld 3 g3 rfl;rw [q3.1,q3.2,hCp] at this;obtain ⟨x,hx⟩:=hxs 3 (by omega);rw [hx] at this;obtain ⟨z,hz,hw⟩:=P8.pJ hp hw5 hi h1 hCp hC5 hsz hoff o0 o1 o2 o3 this j (by omega);refine ⟨z,?_,hw⟩;rw [<-hz,List.getElem?_take_of_lt hj,List.getElem?_drop]
 intro i hi16;match i,hi16 with
 | 0,_=>exact one 0 0 g0 (by omega) (by omega) rfl q0
 | 1,_=>exact five 0 (by omega)
 | 2,_=>exact five 1 (by omega)
 | 3,_=>exact five 2 (by omega)
 | 4,_=>exact five 3 (by omega)
 | 5,_=>exact five 4 (by omega)
 | 6,_=>exact one 2 6 g2 (by omega) (by omega) rfl q2
 | 7,_=>exact eight 0 (by omega)
 | 8,_=>exact eight 1 (by omega)
 | 9,_=>exact eight 2 (by omega)
 | 10,_=>exact eight 3 (by omega)
 | 11,_=>exact eight 4 (by omega)
 | 12,_=>exact eight 5 (by omega)
 | 13,_=>exact eight 6 (by omega)
 | 14,_=>exact eight 7 (by omega)
 | 15,_=>exact one 4 15 g4 (by omega) (by omega) rfl q4
 | i+16,h=>omega
end P16
namespace P16
open Go.RowKit Go.ChangeShapes Go.WideShapes Go.ChangeAt Go.Deep
theorem xX {H:Type} {enc:TypeId × Value->H} {P:Program} {w:World} {base:Nat} {spare:Nat->Bool} {held:Bool} {t e ti t5 tp tw:TypeId} {gs fs:Array Field} {g0 g1 g2 g3 g4 f0 f1 f2 f3:Field} {a:Option Addr} {len cap:Nat} {d:DataW H} {p:List MemPlace}
 (ht:P.underlying t=some (.slice e)) (hs:P.underlying e=some (.struct #[g0,g1,g2,g3,g4])) (ho5:P.underlying t5=some (.struct gs)) (hp:P.underlying tp=some (.struct #[f0,f1,f2,f3])) (hw5:P.underlying tw=some (.struct fs)) (hi:P.underlying ti=some (.int .i64)) (h1:P.cellsOf ti=1) (hC:P.cellsOf e=16) (hCo:P.cellsOf t5=5) (hCp:P.cellsOf tp=8) (hC5:P.cellsOf tw=5) (hgz:gs.size=5) (hsz:fs.size=5)
 (hgoff:∀ (i:Nat) (f:Field),gs[i]? = some f->f.offset=i/\f.type=ti) (hoff:∀ (i:Nat) (f:Field),fs[i]? = some f->f.offset=i/\f.type=ti)
 (q0:g0.offset=0/\g0.type=ti) (q1:g1.offset=1/\g1.type=t5) (q2:g2.offset=6/\g2.type=ti) (q3:g3.offset=7/\g3.type=tp) (q4:g4.offset=15/\g4.type=ti)
 (o0:f0.offset=0/\f0.type=ti) (o1:f1.offset=1/\f1.type=ti) (o2:f2.offset=2/\f2.type=tw) (o3:f3.offset=7/\f3.type=ti)
 (h:DataW.Trod enc P w base spare held t (.slice a len cap) d p):len<=maxLen/\∃ Z,qA w a len Z/\∀ k j,k<len->j<16->(Lit.int .i64 (Z k j)).wf=true:=by
 obtain ⟨fuel,hf⟩:=h;rcases open_slice ht hf with ⟨hcs,_⟩ | ⟨x,l,c,m,n,D,Pl,hcs,_,hl,hm,hmm,_,hel⟩
 ·simp [Value.cells] at hcs;obtain ⟨rfl,rfl,rfl⟩:=hcs;exact ⟨Nat.zero_le _,fun _ _=>0,.inl rfl,fun _ _ h=>absurd h (by omega)⟩
 simp [Value.cells] at hcs;obtain ⟨rfl,rfl,rfl⟩:=hcs;refine ⟨Hq hl hm,?_⟩;by_cases h0:len=0
 ·exact ⟨fun _ _=>0,.inl h0,fun _ _ h=>absurd h (by omega)⟩
 have hlm:len<=m:=by rw [hmm];split <;> omega
 have hall:∀ k j,k<len->j<16->∃ z,w.cell? ((x.add (k * 16)).add j)=some (zI z)/\(Lit.int .i64 z).wf=true:=by
  intro k j hk hj;obtain ⟨cs',hcs',htr⟩:=hel k (by omega);rw [hC] at hcs';obtain ⟨_,hlen,hc⟩:=World.cells?_some hcs';obtain ⟨z,hz,hzw⟩:=zY hs ho5 hp hw5 hi h1 hC hCo hCp hC5 hgz hsz hgoff hoff q0 q1 q2 q3 q4 o0 o1 o2 o3 htr j (by omega);refine ⟨z,?_,hzw⟩;rw [<-hz];exact hc j hj
 obtain ⟨b,o,spot⟩:=x;have hspot:spot=none:=by
  obtain ⟨z,hz,_⟩:=hall 0 0 (by omega) (by omega);simpa [Addr.add] using World.cell?_spot hz
 subst hspot;have hadd:∀ k j,(((zA b o):Addr).add (k * 16)).add j=(zA b (o+k * 16+j)):=by
  intro k j;unfold Addr.add;split <;> split <;> simp_all
 have hblk:b<w.heap.size:=by
  obtain ⟨z,hz,_⟩:=hall 0 0 (by omega) (by omega);exact World.block_lt_of_cell? w _ hz
 refine ⟨fun k j=>match w.cell? (zA b (o+k * 16+j)) with | some (.int _ z)=>z | _=>0,.inr ⟨b,o,rfl,hblk,?_⟩,?_⟩
 ·intro k j hk hj;obtain ⟨z,hz,_⟩:=hall k j hk hj;rw [hadd] at hz;simp only [hz]
 intro k j hk hj;obtain ⟨z,hz,hzw⟩:=hall k j hk hj;rw [hadd] at hz;simp only [hz];exact hzw
end P16
open Go.RowKit Go.ChangeShapes Go.WideShapes Go.ChangeAt Go.Deep
section
variable {H:Type} {enc:TypeId × Value->H} {P:Program} {w:World} {base:Nat} {spare:Nat->Bool} {held:Bool}
variable {tw8 ti:TypeId} {fs5:Array Field} {g0 g1 g2 g3:Field}
theorem xA {t tW e5 tO eO p tX:TypeId} {f0 f1 f2 f3 f4 f5:Field} {q5:Array Field} {cs:Array Value} {d:DataW H} {pl:List MemPlace}
 (ht:P.underlying t=some (.struct #[f0,f1,f2,f3,f4,f5])) (hct:P.cellsOf t=6)
 (q0:f0.offset=0/\f0.type=ti) (q1:f1.offset=1/\f1.type=tW) (q2:f2.offset=2/\f2.type=ti) (q3:f3.offset=3/\f3.type=tO) (q4:f4.offset=4/\f4.type=tX) (q5':f5.offset=5/\f5.type=tX)
 (hW:P.underlying tW=some (.slice e5)) (hW5:P.underlying e5=some (.struct q5)) (hc5:P.cellsOf e5=5) (hsz5:q5.size=5) (hoff5:∀ (i:Nat) (f:Field),q5[i]? = some f->f.offset=i/\f.type=ti)
 (hX:P.underlying tX=some (.slice ti)) (hcW:P.cellsOf tW=1) (hcO:P.cellsOf tO=1) (hcX:P.cellsOf tX=1)
 (hO:P.underlying tO=some (.slice eO)) (he:P.underlying eO=some (.slice p)) (h1:P.cellsOf eO=1)
 (hs:P.underlying p=some (.struct #[g0,g1,g2,g3])) (hw5:P.underlying tw8=some (.struct fs5)) (hi:P.underlying ti=some (.int .i64)) (hi1:P.cellsOf ti=1) (hC:P.cellsOf p=8) (hC5:P.cellsOf tw8=5) (hsz:fs5.size=5)
 (hoff:∀ (i:Nat) (f:Field),fs5[i]? = some f->f.offset=i/\f.type=ti)
 (o0:g0.offset=0/\g0.type=ti) (o1:g1.offset=1/\g1.type=ti) (o2:g2.offset=2/\g2.type=tw8) (o3:g3.offset=7/\g3.type=ti)
 (h:DataW.Trod enc P w base spare held t (.agg cs) d pl):∃ V aW kW aO kO aX kX aI kI,cs=(zD V aW kW aO kO aX kX aI kI).toArray/\iO w (.agg cs) V/\V.short maxLen/\(∀ k j,k<V.nW->j<5->(Lit.int .i64 (V.W k j)).wf=true):=by
 obtain ⟨fuel,hf⟩:=h;obtain ⟨xs,n,_,_,hl,hlen,hfld⟩:=DataW.trod_struct ht hf;simp only [Value.cells] at hl hfld;rw [hct] at hl;have one:∀ (i:Nat) (f:Field) (ty:TypeId),(#[f0,f1,f2,f3,f4,f5]:Array Field)[i]? = some f->f.offset=i/\f.type=ty->P.cellsOf ty=1->(hi:i<cs.toList.length)->∃ x,DataW.trod enc P w base spare held n ty [cs.toList[i]]=some x:=by
  intro i f ty hg ho h1 hi;have:=hfld i f hg;rw [ho.1,ho.2,h1] at this;have e:(cs.toList.drop i).take 1=[cs.toList[i]]:=by
   rw [List.drop_eq_getElem_cons hi,List.take_succ_cons,List.take_zero]
  rw [e] at this;have hx:i<xs.length:=by rw [hlen];exact (by rw [hl] at hi;simpa using hi)
  rw [List.getElem?_eq_getElem hx] at this;exact ⟨_,this⟩
 obtain ⟨x0,t0⟩:=one 0 f0 ti rfl q0 hi1 (by omega);obtain ⟨x1,t1⟩:=one 1 f1 tW rfl q1 hcW (by omega);obtain ⟨x2,t2⟩:=one 2 f2 ti rfl q2 hi1 (by omega);obtain ⟨x3,t3⟩:=one 3 f3 tO rfl q3 hcO (by omega);obtain ⟨x4,t4⟩:=one 4 f4 tX rfl q4 hcX (by omega);obtain ⟨x5,t5⟩:=one 5 f5 tX rfl q5' hcX (by omega);obtain ⟨z0,e0,_,_⟩:=DataW.trod_int hi t0;obtain ⟨z2,e2,_,_⟩:=DataW.trod_int hi t2;obtain ⟨aX,nX,kX,X,e4,lX,rX⟩:=uK hX hi hi1 t4;obtain ⟨aI,nI,kI,I,e5,lI,rI⟩:=uK hX hi hi1 t5;obtain ⟨aO,nO,kO,N,O,e3,lO,lN,rO⟩:=Af hO he h1 hs hw5 hi hi1 hC hC5 hsz hoff o0 o1 o2 o3 t3;have hsl:∃ xa ln cp,cs.toList[1]=.slice xa ln cp:=by
  rcases open_slice hW t1 with ⟨hq,_⟩ | ⟨_,_,_,_,_,_,_,hq,_⟩
  ·exact ⟨_,_,_,by simpa using hq⟩
  exact ⟨_,_,_,by simpa using hq⟩
 obtain ⟨aW,nW,kW,e1⟩:=hsl;rw [e1] at t1;obtain ⟨lW,W,rW,fW⟩:=zx hW hW5 hi hi1 hc5 hsz5 hoff5 (show DataW.Trod enc P w base spare held tW (.slice aW nW kW) x1.1 x1.2 from ⟨n,t1⟩);simp only [List.cons.injEq,and_true] at e0 e2 e3 e4 e5;have ec:cs=(zD ⟨z0,nW,W,z2,nO,N,O,nX,X,nI,I⟩ aW kW aO kO aX kX aI kI).toArray:=by
  apply Array.ext';apply List.ext_getElem?;intro i;match i with
  | 0=>rw [List.getElem?_eq_getElem (by omega),e0];rfl
  | 1=>rw [List.getElem?_eq_getElem (by omega),e1];rfl
  | 2=>rw [List.getElem?_eq_getElem (by omega),e2];rfl
  | 3=>rw [List.getElem?_eq_getElem (by omega),e3];rfl
  | 4=>rw [List.getElem?_eq_getElem (by omega),e4];rfl
  | 5=>rw [List.getElem?_eq_getElem (by omega),e5];rfl
  | i+6=>rw [List.getElem?_eq_none (by omega),List.getElem?_eq_none (by simp)]
 exact ⟨⟨z0,nW,W,z2,nO,N,O,nX,X,nI,I⟩,aW,kW,aO,kO,aX,kX,aI,kI,ec,⟨aW,kW,aO,kO,aX,kX,aI,kI,by rw [ec],rW,rO,rX,rI⟩,⟨lW,lO,lN,lX,lI⟩,fW⟩
theorem xI {b0:Nat} {r:Reach} {t tC tR:TypeId} {f0 f1 f2:Field} {v:Value} {d:DataW H} {pl:List MemPlace}
 (ht:P.underlying t=some (.struct #[f0,f1,f2])) (hct:P.cellsOf t=8) (hi:P.underlying ti=some (.int .i64)) (hi1:P.cellsOf ti=1) (hC:P.cellsOf tC=6) (hR:P.cellsOf tR=1)
 (q0:f0.offset=0/\f0.type=ti) (q1:f1.offset=1/\f1.type=tC) (q2:f2.offset=7/\f2.type=tR)
 (hv:Value.okWide P w r b0 t v) (h:DataW.Trod enc P w base spare held t v d pl)
 (hcell:∀ (cs:Array Value) (d:DataW H) (pl:List MemPlace),DataW.Trod enc P w base spare held tC (.agg cs) d pl->∃ V aW kW aO kO aX kX aI kI,cs=(zD V aW kW aO kO aX kX aI kI).toArray/\iO w (.agg cs) V/\V.short maxLen/\(∀ k j,k<V.nW->j<5->(Lit.int .i64 (V.W k j)).wf=true))
 (hrow:∀ (u:Value) (d:DataW H) (pl:List MemPlace) (n:Nat) x,DataW.trod enc P w base spare held n tR [u]=some x->∃ a len cap Z,u=.slice a len cap/\len<=maxLen/\P16.qA w a len Z/\∀ k j,k<len->j<16->(Lit.int .i64 (Z k j)).wf=true) :
 ∃ a V aW kW aO kO aX kX aI kI aR nR kR Z,v=Am a (zD V aW kW aO kO aX kX aI kI) (.slice aR nR kR)/\iO w (.agg (zD V aW kW aO kO aX kX aI kI).toArray) V/\V.short maxLen/\nR<=maxLen/\(∀ k j,k<V.nW->j<5->(Lit.int .i64 (V.W k j)).wf=true)/\P16.qA w aR nR Z/\∀ k j,k<nR->j<16->(Lit.int .i64 (Z k j)).wf=true:=by
 obtain ⟨cs,rfl,hsize⟩:=okWide_struct ht hv;obtain ⟨fuel,hf⟩:=h;obtain ⟨xs,n,_,_,hl,hlen,hfld⟩:=DataW.trod_struct ht hf;simp only [Value.cells] at hl hfld;rw [hct] at hl;have hx:∀ i,i<3->∃ x,xs[i]? = some x:=fun i hi=>⟨xs[i]'(by rw [hlen];simpa using hi),List.getElem?_eq_getElem _⟩
 obtain ⟨x0,h0⟩:=hx 0 (by omega);obtain ⟨x1,h1⟩:=hx 1 (by omega);obtain ⟨x2,h2⟩:=hx 2 (by omega);have t0:=hfld 0 f0 rfl;have t1:=hfld 1 f1 rfl;have t2:=hfld 2 f2 rfl;rw [q0.1,q0.2,hi1,h0] at t0;rw [q1.1,q1.2,hC,h1] at t1;rw [q2.1,q2.2,hR,h2] at t2;obtain ⟨z0,e0,_,_⟩:=DataW.trod_int hi t0;obtain ⟨V,aW,kW,aO,kO,aX,kX,aI,kI,e1,hc,hs,hw⟩:=hcell ((cs.toList.drop 1).take 6).toArray x1.1 x1.2 ⟨n,by simpa [Value.cells] using t1⟩;have l7:7<cs.toList.length:=by omega
 have e7:(cs.toList.drop 7).take 1=[cs.toList[7]]:=by rw [List.drop_eq_getElem_cons l7,List.take_succ_cons,List.take_zero]
 rw [e7] at t2;obtain ⟨aR,nR,kR,Z,e2,hn,hr,hz⟩:=hrow _ x2.1 x2.2 n x2 t2;rw [e1] at hc;refine ⟨z0,V,aW,kW,aO,kO,aX,kX,aI,kI,aR,nR,kR,Z,?_,hc,hs,hn,hw,hr,hz⟩;have e1':(cs.toList.drop 1).take 6=zD V aW kW aO kO aX kX aI kI:=by simpa using congrArg Array.toList e1
 have ee:cs.toList=(cs.toList.drop 0).take 1++((cs.toList.drop 1).take 6++(cs.toList.drop 7).take 1):=by
  have a1:cs.toList=cs.toList.take 1++cs.toList.drop 1:=(List.take_append_drop 1 _).symm;have a2:cs.toList.drop 1=(cs.toList.drop 1).take 6++(cs.toList.drop 1).drop 6:=(List.take_append_drop 6 _).symm;have a3:(cs.toList.drop 1).drop 6=(cs.toList.drop 7).take 1:=by rw [List.drop_drop,List.take_of_length_le (by simp at hl ⊢;omega)]
  rw [List.drop_zero,<-a3,<-a2,<-a1]
 show Value.agg cs=.agg _;congr 1;apply Array.ext';rw [ee,e0,e1',e7,e2];rfl
end
