/- The walks of WlkOk and what it calls; conditions: none. -/
import Derived.Deep.RegionHeld3
import Derived.WalkKit
import Derived.ProofKit
import Derived.OpenShut
import Derived.Below
import Derived.Deep.Slices
import Derived.Test.YtngaboipleimcabGreatDoorRows
import Derived.WalkSpells
import Derived.Deep.QuietTactic
import Derived.BigQuiet
import Derived.LoopTactic
import Derived.Deep.OwnRows
import Derived.Laws.IdiomCopy
set_option linter.unusedVariables false
set_option maxHeartbeats 8000000
namespace Go.Proofs.YtngaboipleimcabGreatDoor
abbrev Hg:=@Nat.lt_of_lt_of_le
abbrev Hl:=@Nat.le_of_eq
abbrev Ho:=@Nat.le_refl
abbrev Hq:=@Nat.le_trans
abbrev Hr:=@Go.RowKit.Below.refl
abbrev Ht:=@Nat.le_succ
abbrev Hu:=@wp_region_held_drew
abbrev Hw:=@bodyPost_ret
abbrev Hy:=@wpAnyH_done
theorem aS:(∀ {α:Type} (l:List α) (i:Nat) (a:α),l.toArray.setIfInBounds i a=(l.set i a).toArray)/\(∀ {α:Type} (x a:α) (xs:List α),(x :: xs).set 0 a=a :: xs) /\
 (∀ {α:Type} (x a:α) (xs:List α) (i:Nat),(x :: xs).set (i+1) a=x :: xs.set i a)/\(∀ {α:Type} (xs:List α) (i:Nat) (h:i<xs.toArray.size),xs.toArray[i]=xs[i]'(by simpa using h)) /\
 (∀ {α:Type} (a:α) (ys:List α) (h:0<(a :: ys).length),(a :: ys)[0]=a)/\(∀ {α:Type} (a:α) (ys:List α) (i:Nat) (h:i+1<(a :: ys).length),(a :: ys)[i+1]=ys[i]'(Nat.lt_of_succ_lt_succ h)) :=
 ⟨fun _ _ _=>List.setIfInBounds_toArray _ _ _,fun _ _ _=>rfl,fun _ _ _ _=>rfl,fun _ _ _=>List.getElem_toArray _,fun _ _ _=>rfl,fun _ _ _ _=>rfl⟩
set_option linter.defProp false in
def aT:=And.intro @Act.put.eq_1 aS
section
variable {P:Program} {ops:Array Oper} {Q:Exit->Act->World->Prop} {md:Region.Mode} {S:World->Prop}
theorem dY (i:Nat) {oi:Oper} (v:Value) {fuel:Nat} {listed:Array Bool} {a a':Act} {w:World} (hi:ops[i]? = some oi) (hy:∀ w,S w->(execOp a.eval oi).run P w=.ok (.value v) w) (h:wpAnyH P md ops Q S fuel (listed.setIfInBounds i true) a' w)
 (hs:Region.noSelect ops=true:=by kernel_rfl) (hf:Region.free md ops listed i=true:=by kernel_rfl) (hr:(Region.ready md ops listed).contains i=true:=by kernel_rfl)
 (hQ:∀ c a w,Q (.panic c) (a.put oi.dst v) w->Q (.panic c) a w:=by exact fun _ _ _ h=>h) (hw:Region.wanted oi (yielded ops a.tmps)=true:=by rfl) (hS:S w:=by assumption) (ha:a.put oi.dst v=a':=by (try simp only [aT]);exact rfl):wpAnyH P md ops Q S (fuel+1) listed a w := by
 subst ha;exact wpAnyH_take hi hs hf hr hQ (Or.inl ⟨hw,hy⟩) hS h
theorem aA (i:Nat) {oi:Oper} (v:Value) {fuel:Nat} {listed:Array Bool} {a a':Act} {w:World} (hi:ops[i]? = some oi) (h:wpAnyH P md ops Q S fuel (listed.setIfInBounds i true) a' w)
 (hy:∀ w,S w->(execOp a.eval oi).run P w=.ok (.value v) w:=by intro wx hSw;(try simp only [aT]);go_simp) (hs:Region.noSelect ops=true:=by kernel_rfl) (hf:Region.free md ops listed i=true:=by kernel_rfl) (hr:(Region.ready md ops listed).contains i=true:=by kernel_rfl)
 (hQ:∀ c a w,Q (.panic c) (a.put oi.dst v) w->Q (.panic c) a w:=by exact fun _ _ _ h=>h) (hw:Region.wanted oi (yielded ops a.tmps)=true:=by rfl) (hS:S w:=by assumption) (ha:a.put oi.dst v=a':=by (try simp only [aT]);exact rfl):wpAnyH P md ops Q S (fuel+1) listed a w := by
 subst ha;exact wpAnyH_take hi hs hf hr hQ (Or.inl ⟨hw,hy⟩) hS h
theorem bF (i:Nat) {oi:Oper} (v:Value) {fuel:Nat} {listed:Array Bool} {a a':Act} {w:World} (hi:ops[i]? = some oi) (h:wpAnyH P md ops Q S fuel (listed.setIfInBounds i true) a' w)
 (hy:∀ w,S w->(execOp a.eval oi).run P w=.ok (.value v) w:=by intro wx hSw;obtain ⟨hcS,hfS⟩:=iZ hSw;(try simp only [aT]);go_simp) (hs:Region.noSelect ops=true:=by kernel_rfl) (hf:Region.free md ops listed i=true:=by kernel_rfl) (hr:(Region.ready md ops listed).contains i=true:=by kernel_rfl)
 (hQ:∀ c a w,Q (.panic c) (a.put oi.dst v) w->Q (.panic c) a w:=by exact fun _ _ _ h=>h) (hw:Region.wanted oi (yielded ops a.tmps)=true:=by rfl) (hS:S w:=by assumption) (ha:a.put oi.dst v=a':=by (try simp only [aT]);exact rfl):wpAnyH P md ops Q S (fuel+1) listed a w := by
 subst ha;exact wpAnyH_take hi hs hf hr hQ (Or.inl ⟨hw,hy⟩) hS h
theorem bU (i:Nat) {oi:Oper} {fuel:Nat} {listed:Array Bool} {a a':Act} {w:World} (hi:ops[i]? = some oi) (h:wpAnyH P md ops Q S fuel (listed.setIfInBounds i true) a' w)
 (hs:Region.noSelect ops=true:=by kernel_rfl) (hf:Region.free md ops listed i=true:=by kernel_rfl) (hr:(Region.ready md ops listed).contains i=true:=by kernel_rfl)
 (hQ:∀ c a w,Q (.panic c) (a.put oi.dst undef) w->Q (.panic c) a w:=by exact fun _ _ _ h=>h) (hw:Region.wanted oi (yielded ops a.tmps)=false:=by rfl) (hS:S w:=by assumption) (ha:a.put oi.dst undef=a':=by (try simp only [aT]);exact rfl):wpAnyH P md ops Q S (fuel+1) listed a w := by
 subst ha;exact wpAnyH_take hi hs hf hr hQ (Or.inr ⟨hw,rfl⟩) hS h
theorem y9 (rs:List Nat) {fuel:Nat} {listed:Array Bool} {a:Act} {w:World} (h:AllReadyH P md ops Q S fuel listed a w rs) (hr:Region.ready md ops listed=rs:=by kernel_rfl) (hne:rs≠[]:=by simp):wpAnyH P md ops Q S (fuel+1) listed a w:=wpAnyH_ready hr hne h
theorem di (i:Nat) {o:Oper} {fuel:Nat} {listed:Array Bool} {a:Act} {w:World} (ho:ops[i]? = some o)
 (h:∀ K':Act->World->Prop,Shut (∀ a w,S w->(S w->wpAnyH P md ops Q S fuel (listed.setIfInBounds i true) a w)->K' a w)->if Region.wanted o (yielded ops a.tmps)=true then Oper.wp P o a w K' Q else K' (a.put o.dst undef) w)
 (hr:Region.ready md ops listed=[i]:=by kernel_rfl):wpAnyH P md ops Q S (fuel+1) listed a w:=wpAnyH_ready hr (by simp) (AllReadyH.cons ho h AllReadyH.nil)
end
open Go.RowKit Go.ChangeShapes Go.WideShapes Go.ChangeAt
abbrev Hz:=@Calls Tryz.prog
abbrev zI (z:Int):Value:=.int .i64 z
abbrev zA (b o:Nat):Addr:=⟨b,o,none⟩
abbrev zS (b n c:Nat):Value:=.slice (some ⟨b,0,none⟩) n c
abbrev zP (b o:Nat):Value:=.pointer (some ⟨b,o,none⟩)
abbrev zN:List Value:=[zI 0,.slice none 0 0,zI 0,.slice none 0 0,.slice none 0 0,.slice none 0 0]
abbrev z5:List Value:=[zI 0,zI 0,zI 0,zI 0,zI 0]
abbrev zF (f:Nat->Int):List Value:=[zI (f 0),zI (f 1),zI (f 2),zI (f 3),zI (f 4)]
abbrev zE (f:Nat->Int):List Value:=[zI (f 0),zI (f 1),zI (f 2),zI (f 3),zI (f 4),zI (f 5),zI (f 6),zI (f 7)]
abbrev zR (f:Nat->Int):List Value:=[zI (f 0),zI (f 1),zI (f 2),zI (f 3),zI (f 4),zI (f 5),zI (f 6),zI (f 7),zI (f 8),zI (f 9),zI (f 10),zI (f 11),zI (f 12),zI (f 13),zI (f 14),zI (f 15)]
def bY (p:Prop):Prop:=p
theorem bY.o {p:Prop} (h:bY p):p:=h
theorem fQ {p:Prop} (h:p):bY p:=h
theorem BA {w v:World} {b i:Nat} {x:Option Value} (hl:b<w.heap.size) (hb:Below w.heap.size w v) (h:w.cell? (zA b i)=x):v.cell? (zA b i)=x:=(hb.cell (p:=(zA b i)) hl).trans h
theorem bH {w v:World} {b:Nat} {x y:Option Value} (hl:b<w.heap.size) (hb:Below w.heap.size w v) (h:w.cell? (zA b 0)=x/\w.cell? (zA b 1)=y):v.cell? (zA b 0)=x/\v.cell? (zA b 1)=y:=⟨BA hl hb h.1,BA hl hb h.2⟩
theorem cu {W w1:World} (hb:Below W.heap.size W w1):(∀ b o,b<W.heap.size->w1.cell? (zA b o)=W.cell? (zA b o))/\(∀ b o,b<W.heap.size->w1.frozen? (zA b o)=W.frozen? (zA b o)) :=
 ⟨fun b o h=>hb.cell (p:=(zA b o)) h,fun b o h=>hb.frozen (p:=(zA b o)) h⟩
theorem ah {a b c:World} (h:Below a.heap.size a b) (k:Below b.heap.size b c):Below a.heap.size a c:=h.trans (k.mono h.size)
theorem ru {H:Type} {enc:TypeId × Value->H} {P:Program} {w:World} {base b0:Nat} {spare:Nat->Bool} {held:Bool} {r:Reach} {t ti:TypeId} {fs:Array Field} {k:IntKind} {v:Value} {d:DataW H} {p:List MemPlace}
 (hs:P.underlying t=some (.struct fs)) (hi:P.underlying ti=some (.int k)) (h1:P.cellsOf ti=1) (hC:P.cellsOf t=fs.size)
 (hoff:∀ (i:Nat) (f:Field),fs[i]? = some f->f.offset=i/\f.type=ti)
 (hv:Value.okWide P w r b0 t v) (h:DataW.Trod enc P w base spare held t v d p) :
 ∃ zs:List Int,v=.agg (zs.map (Value.int k)).toArray/\zs.length=fs.size/\∀ z ∈ zs,(Lit.int k z).wf=true:=by
 obtain ⟨cs,rfl,hsz⟩:=okWide_struct hs hv;obtain ⟨fuel,hf⟩:=h;obtain ⟨xs,n,_,_,hl,hlen,hfld⟩:=DataW.trod_struct hs hf;have hall:∀ i,i<fs.size->∃ z,cs.toList[i]? = some (.int k z)/\(Lit.int k z).wf=true:=by
  intro i hlt;have hg:fs[i]? = some fs[i]:=by simp [hlt]
  obtain ⟨ho,hty⟩:=hoff i _ hg;have:=hfld i _ hg;rw [ho,hty,h1] at this;have hx:∃ x,xs[i]? = some x:=⟨xs[i],by simp [hlen,hlt]⟩;obtain ⟨x,hx⟩:=hx;rw [hx] at this;obtain ⟨z,hz,_,hw⟩:=DataW.trod_int hi this;refine ⟨z,?_,hw⟩;have hlt':i<cs.toList.length:=by rw [show cs.toList.length=cs.size from by simp,hsz,hC];exact hlt
  have:(cs.toList.drop i).take 1=[cs.toList[i]]:=by
   rw [List.drop_eq_getElem_cons hlt'];simp
  simp only [Value.cells] at hz;rw [this] at hz;rw [List.getElem?_eq_getElem hlt'];simpa using hz
 have hsize:cs.toList.length=fs.size:=by simp [hsz,hC]
 refine ⟨cs.toList.map intOf,?_,by simp [hsz,hC],?_⟩
 ·congr 1;apply Array.ext';simp only [List.map_map];apply List.ext_getElem?;intro i;by_cases hlt:i<fs.size
  ·obtain ⟨z,hz,_⟩:=hall i hlt;simp only [List.getElem?_map,hz,Option.map_some,Function.comp];rfl
  rw [List.getElem?_eq_none (by omega),List.getElem?_eq_none (by simp only [List.length_map];omega)]
 intro z hz;obtain ⟨c,hc,rfl⟩:=List.mem_map.1 hz;obtain ⟨i,hi'⟩:=List.getElem?_of_mem hc;have hlt:i<fs.size:=by
  rw [<-hsize];exact (List.getElem?_eq_some_iff.1 hi').1
 obtain ⟨z,hz,hw⟩:=hall i hlt;rw [hi'] at hz;cases hz;exact hw
theorem Aq {H:Type} {enc:TypeId × Value->H} {P:Program} {w:World} {base b0:Nat} {spare:Nat->Bool} {held:Bool} {r:Reach} {t ti:TypeId} {k:IntKind} {v:Value} {d:DataW H} {p:List MemPlace} {f0 f1:Field}
 (hs:P.underlying t=some (.struct #[f0,f1])) (hi:P.underlying ti=some (.int k)) (h1:P.cellsOf ti=1) (hC:P.cellsOf t=2)
 (o0:f0.offset=0/\f0.type=ti) (o1:f1.offset=1/\f1.type=ti)
 (hv:Value.okWide P w r b0 t v) (h:DataW.Trod enc P w base spare held t v d p) :
 ∃ x0 x1:Int,v=.agg #[.int k x0,.int k x1]/\(Lit.int k x0).wf=true/\(Lit.int k x1).wf=true:=by
 obtain ⟨zs,hz,hl,hwf⟩:=ru hs hi h1 (by simpa using hC) (by
  intro i f hf;match i,hf with
  | 0,hf=>simp at hf;subst hf;exact o0
  | 1,hf=>simp at hf;subst hf;exact o1
  | i+2,hf=>simp at hf) hv h
 match zs,hl with
 | [x0,x1],_=>exact ⟨x0,x1,by simpa using hz,hwf _ (by simp),hwf _ (by simp)⟩
open Go.Deep
theorem lY {H:Type} {enc:TypeId × Value->H} {P:Program} {w:World} {base:Nat} {spare:Nat->Bool} {held:Bool} {fuel:Nat} {t ti:TypeId} {fs:Array Field} {k:IntKind} {cs:List Value} {x:DataW H × List MemPlace}
 (hs:P.underlying t=some (.struct fs)) (hi:P.underlying ti=some (.int k)) (h1:P.cellsOf ti=1) (hC:P.cellsOf t=fs.size)
 (hoff:∀ (i:Nat) (f:Field),fs[i]? = some f->f.offset=i/\f.type=ti)
 (hf:DataW.trod enc P w base spare held fuel t cs=some x):∀ i,i<fs.size->∃ z,cs[i]? = some (.int k z)/\(Lit.int k z).wf=true:=by
 obtain ⟨xs,n,_,_,hl,hlen,hfld⟩:=DataW.trod_struct hs hf;intro i hlt;have hg:fs[i]? = some fs[i]:=by simp [hlt]
 obtain ⟨ho,hty⟩:=hoff i _ hg;have:=hfld i _ hg;rw [ho,hty,h1] at this;have hx:∃ x,xs[i]? = some x:=⟨xs[i],by simp [hlen,hlt]⟩;obtain ⟨x,hx⟩:=hx;rw [hx] at this;obtain ⟨z,hz,_,hw⟩:=DataW.trod_int hi this;refine ⟨z,?_,hw⟩;have hlt':i<cs.length:=by rw [hl,hC];exact hlt
 have:(cs.drop i).take 1=[cs[i]]:=by
  rw [List.drop_eq_getElem_cons hlt',List.take_succ_cons,List.take_zero]
 rw [this] at hz;rw [List.getElem?_eq_getElem hlt'];simpa using hz
def lJ (w:World) (a:Option Addr) (n:Nat) (Z:Nat->Nat->Int):Prop :=
 n=0∨∃ b o,a=some (zA b o)/\b<w.heap.size/\∀ k j,k<n->j<5->w.cell? (zA b (o+k * 5+j))=some (zI (Z k j))
theorem zx {H:Type} {enc:TypeId × Value->H} {P:Program} {w:World} {base:Nat} {spare:Nat->Bool} {held:Bool} {t e ti:TypeId} {fs:Array Field} {a:Option Addr} {len cap:Nat} {d:DataW H} {p:List MemPlace}
 (ht:P.underlying t=some (.slice e)) (hs:P.underlying e=some (.struct fs)) (hi:P.underlying ti=some (.int .i64)) (h1:P.cellsOf ti=1) (hC:P.cellsOf e=5) (hsz:fs.size=5)
 (hoff:∀ (i:Nat) (f:Field),fs[i]? = some f->f.offset=i/\f.type=ti)
 (h:DataW.Trod enc P w base spare held t (.slice a len cap) d p):len<=maxLen/\∃ Z,lJ w a len Z/\∀ k j,k<len->j<5->(Lit.int .i64 (Z k j)).wf=true:=by
 obtain ⟨fuel,hf⟩:=h;rcases open_slice ht hf with ⟨hcs,_⟩ | ⟨x,l,c,m,n,D,Pl,hcs,_,hl,hm,hmm,_,hel⟩
 ·simp [Value.cells] at hcs;obtain ⟨rfl,rfl,rfl⟩:=hcs;exact ⟨Nat.zero_le _,fun _ _=>0,.inl rfl,fun _ _ h=>absurd h (by omega)⟩
 simp [Value.cells] at hcs;obtain ⟨rfl,rfl,rfl⟩:=hcs;refine ⟨Hq hl hm,?_⟩;by_cases h0:len=0
 ·exact ⟨fun _ _=>0,.inl h0,fun _ _ h=>absurd h (by omega)⟩
 have hlm:len<=m:=by rw [hmm];split <;> omega
 have hall:∀ k j,k<len->j<5->∃ z,w.cell? ((x.add (k * 5)).add j)=some (zI z)/\(Lit.int .i64 z).wf=true:=by
  intro k j hk hj;obtain ⟨cs',hcs',htr⟩:=hel k (by omega);rw [hC] at hcs';obtain ⟨_,hlen,hc⟩:=World.cells?_some hcs';obtain ⟨z,hz,hzw⟩:=lY hs hi h1 (by rw [hC,hsz]) hoff htr j (by omega);refine ⟨z,?_,hzw⟩;rw [<-hz];exact hc j hj
 obtain ⟨b,o,spot⟩:=x;have hspot:spot=none:=by
  obtain ⟨z,hz,_⟩:=hall 0 0 (by omega) (by omega);simpa [Addr.add] using World.cell?_spot hz
 subst hspot;have hadd:∀ k j,(((zA b o):Addr).add (k * 5)).add j=(zA b (o+k * 5+j)):=by
  intro k j;unfold Addr.add;split <;> split <;> simp_all
 have hblk:b<w.heap.size:=by
  obtain ⟨z,hz,_⟩:=hall 0 0 (by omega) (by omega);exact World.block_lt_of_cell? w _ hz
 refine ⟨fun k j=>match w.cell? (zA b (o+k * 5+j)) with | some (.int _ z)=>z | _=>0,.inr ⟨b,o,rfl,hblk,?_⟩,?_⟩
 ·intro k j hk hj;obtain ⟨z,hz,_⟩:=hall k j hk hj;rw [hadd] at hz;simp only [hz]
 intro k j hk hj;obtain ⟨z,hz,hzw⟩:=hall k j hk hj;rw [hadd] at hz;simp only [hz];exact hzw
namespace P8
theorem lY {H:Type} {enc:TypeId × Value->H} {P:Program} {w:World} {base:Nat} {spare:Nat->Bool} {held:Bool} {fuel:Nat} {t ti:TypeId} {fs:Array Field} {k:IntKind} {cs:List Value} {x:DataW H × List MemPlace}
 (hs:P.underlying t=some (.struct fs)) (hi:P.underlying ti=some (.int k)) (h1:P.cellsOf ti=1) (hC:P.cellsOf t=fs.size)
 (hoff:∀ (i:Nat) (f:Field),fs[i]? = some f->f.offset=i/\f.type=ti)
 (hf:DataW.trod enc P w base spare held fuel t cs=some x):∀ i,i<fs.size->∃ z,cs[i]? = some (.int k z)/\(Lit.int k z).wf=true:=by
 obtain ⟨xs,n,_,_,hl,hlen,hfld⟩:=DataW.trod_struct hs hf;intro i hlt;have hg:fs[i]? = some fs[i]:=by simp [hlt]
 obtain ⟨ho,hty⟩:=hoff i _ hg;have:=hfld i _ hg;rw [ho,hty,h1] at this;have hx:∃ x,xs[i]? = some x:=⟨xs[i],by simp [hlen,hlt]⟩;obtain ⟨x,hx⟩:=hx;rw [hx] at this;obtain ⟨z,hz,_,hw⟩:=DataW.trod_int hi this;refine ⟨z,?_,hw⟩;have hlt':i<cs.length:=by rw [hl,hC];exact hlt
 have:(cs.drop i).take 1=[cs[i]]:=by
  rw [List.drop_eq_getElem_cons hlt',List.take_succ_cons,List.take_zero]
 rw [this] at hz;rw [List.getElem?_eq_getElem hlt'];simpa using hz
theorem pJ {H:Type} {enc:TypeId × Value->H} {P:Program} {w:World} {base:Nat} {spare:Nat->Bool} {held:Bool} {fuel:Nat} {t ti tw:TypeId} {fs:Array Field} {f0 f1 f2 f3:Field} {k:IntKind} {cs:List Value} {x:DataW H × List MemPlace}
 (hs:P.underlying t=some (.struct #[f0,f1,f2,f3])) (hw5:P.underlying tw=some (.struct fs)) (hi:P.underlying ti=some (.int k)) (h1:P.cellsOf ti=1) (hC:P.cellsOf t=8) (hC5:P.cellsOf tw=5) (hsz:fs.size=5)
 (hoff:∀ (i:Nat) (f:Field),fs[i]? = some f->f.offset=i/\f.type=ti)
 (o0:f0.offset=0/\f0.type=ti) (o1:f1.offset=1/\f1.type=ti) (o2:f2.offset=2/\f2.type=tw) (o3:f3.offset=7/\f3.type=ti)
 (hf:DataW.trod enc P w base spare held fuel t cs=some x):∀ i,i<8->∃ z,cs[i]? = some (.int k z)/\(Lit.int k z).wf=true:=by
 obtain ⟨xs,n,_,_,hl,hlen,hfld⟩:=DataW.trod_struct hs hf;rw [hC] at hl;have hxs:∀ i,i<4->∃ x,xs[i]? = some x:=fun i hi=>⟨xs[i]'(by rw [hlen];simpa using hi),List.getElem?_eq_getElem _⟩
 have one:∀ (i q:Nat) (f:Field),i<4->q<8->(#[f0,f1,f2,f3]:Array Field)[i]? = some f->f.offset=q/\f.type=ti->∃ z,cs[q]? = some (.int k z)/\(Lit.int k z).wf=true:=by
  intro i q f hi4 hq hg ho;have:=hfld i f hg;rw [ho.1,ho.2,h1] at this;obtain ⟨x,hx⟩:=hxs i hi4;rw [hx] at this;obtain ⟨z,hz,_,hw⟩:=DataW.trod_int hi this;refine ⟨z,?_,hw⟩;have hlt':q<cs.length:=by omega
  have:(cs.drop q).take 1=[cs[q]]:=by
   rw [List.drop_eq_getElem_cons hlt',List.take_succ_cons,List.take_zero]
  rw [this] at hz;rw [List.getElem?_eq_getElem hlt'];simpa using hz
 have five:∀ j,j<5->∃ z,cs[2+j]? = some (.int k z)/\(Lit.int k z).wf=true:=by
  intro j hj;have:=hfld 2 f2 rfl;rw [o2.1,o2.2,hC5] at this;obtain ⟨x,hx⟩:=hxs 2 (by omega);rw [hx] at this;obtain ⟨z,hz,hw⟩:=lY hw5 hi h1 (by rw [hC5,hsz]) hoff this j (by omega);refine ⟨z,?_,hw⟩;rw [<-hz,List.getElem?_take_of_lt hj,List.getElem?_drop]
 intro i hi8;match i,hi8 with
 | 0,_=>exact one 0 0 f0 (by omega) (by omega) rfl o0
 | 1,_=>exact one 1 1 f1 (by omega) (by omega) rfl o1
 | 2,_=>exact five 0 (by omega)
 | 3,_=>exact five 1 (by omega)
 | 4,_=>exact five 2 (by omega)
 | 5,_=>exact five 3 (by omega)
 | 6,_=>exact five 4 (by omega)
 | 7,_=>exact one 3 7 f3 (by omega) (by omega) rfl o3
def kC (w:World) (a:Option Addr) (n:Nat) (Z:Nat->Nat->Int):Prop :=
 n=0∨∃ b o,a=some (zA b o)/\b<w.heap.size/\∀ k j,k<n->j<8->w.cell? (zA b (o+k * 8+j))=some (zI (Z k j))
theorem AU {H:Type} {enc:TypeId × Value->H} {P:Program} {w:World} {base:Nat} {spare:Nat->Bool} {held:Bool} {t e ti tw:TypeId} {fs:Array Field} {f0 f1 f2 f3:Field} {a:Option Addr} {len cap:Nat} {d:DataW H} {p:List MemPlace}
 (ht:P.underlying t=some (.slice e)) (hs:P.underlying e=some (.struct #[f0,f1,f2,f3])) (hw5:P.underlying tw=some (.struct fs)) (hi:P.underlying ti=some (.int .i64)) (h1:P.cellsOf ti=1) (hC:P.cellsOf e=8) (hC5:P.cellsOf tw=5) (hsz:fs.size=5)
 (hoff:∀ (i:Nat) (f:Field),fs[i]? = some f->f.offset=i/\f.type=ti)
 (o0:f0.offset=0/\f0.type=ti) (o1:f1.offset=1/\f1.type=ti) (o2:f2.offset=2/\f2.type=tw) (o3:f3.offset=7/\f3.type=ti)
 (h:DataW.Trod enc P w base spare held t (.slice a len cap) d p):len<=maxLen/\∃ Z,kC w a len Z/\∀ k j,k<len->j<8->(Lit.int .i64 (Z k j)).wf=true:=by
 obtain ⟨fuel,hf⟩:=h;rcases open_slice ht hf with ⟨hcs,_⟩ | ⟨x,l,c,m,n,D,Pl,hcs,_,hl,hm,hmm,_,hel⟩
 ·simp [Value.cells] at hcs;obtain ⟨rfl,rfl,rfl⟩:=hcs;exact ⟨Nat.zero_le _,fun _ _=>0,.inl rfl,fun _ _ h=>absurd h (by omega)⟩
 simp [Value.cells] at hcs;obtain ⟨rfl,rfl,rfl⟩:=hcs;refine ⟨Hq hl hm,?_⟩;by_cases h0:len=0
 ·exact ⟨fun _ _=>0,.inl h0,fun _ _ h=>absurd h (by omega)⟩
 have hlm:len<=m:=by rw [hmm];split <;> omega
 have hall:∀ k j,k<len->j<8->∃ z,w.cell? ((x.add (k * 8)).add j)=some (zI z)/\(Lit.int .i64 z).wf=true:=by
  intro k j hk hj;obtain ⟨cs',hcs',htr⟩:=hel k (by omega);rw [hC] at hcs';obtain ⟨_,hlen,hc⟩:=World.cells?_some hcs';obtain ⟨z,hz,hzw⟩:=pJ hs hw5 hi h1 hC hC5 hsz hoff o0 o1 o2 o3 htr j (by omega);refine ⟨z,?_,hzw⟩;rw [<-hz];exact hc j hj
 obtain ⟨b,o,spot⟩:=x;have hspot:spot=none:=by
  obtain ⟨z,hz,_⟩:=hall 0 0 (by omega) (by omega);simpa [Addr.add] using World.cell?_spot hz
 subst hspot;have hadd:∀ k j,(((zA b o):Addr).add (k * 8)).add j=(zA b (o+k * 8+j)):=by
  intro k j;unfold Addr.add;split <;> split <;> simp_all
 have hblk:b<w.heap.size:=by
  obtain ⟨z,hz,_⟩:=hall 0 0 (by omega) (by omega);exact World.block_lt_of_cell? w _ hz
 refine ⟨fun k j=>match w.cell? (zA b (o+k * 8+j)) with | some (.int _ z)=>z | _=>0,.inr ⟨b,o,rfl,hblk,?_⟩,?_⟩
 ·intro k j hk hj;obtain ⟨z,hz,_⟩:=hall k j hk hj;rw [hadd] at hz;simp only [hz]
 intro k j hk hj;obtain ⟨z,hz,hzw⟩:=hall k j hk hj;rw [hadd] at hz;simp only [hz];exact hzw
end P8
def Row1 (w:World) (a:Option Addr) (n:Nat) (X:Nat->Int):Prop :=
 n=0∨∃ b o,a=some (zA b o)/\b<w.heap.size/\∀ k,k<n->w.cell? (zA b (o+k))=some (zI (X k))
def mD (w:World) (a:Option Addr) (n:Nat) (N:Nat->Nat) (O:Nat->Nat->Nat->Int):Prop :=
 n=0∨∃ b o,a=some (zA b o)/\b<w.heap.size/\∀ k,k<n->∃ x c,w.cell? (zA b (o+k))=some (.slice x (N k) c)/\P8.kC w x (N k) (O k)
structure CV where
 c:Int
 nW:Nat
 W:Nat->Nat->Int
 g:Int
 nO:Nat
 N:Nat->Nat
 O:Nat->Nat->Nat->Int
 nX:Nat
 X:Nat->Int
 nI:Nat
 I:Nat->Int
abbrev zC (V:CV) (a i b j c k d l:Nat):List Value:=[zI V.c,zS a V.nW i,zI V.g,zS b V.nO j,zS c V.nX k,zS d V.nI l]
abbrev zD (V:CV) (a:Option Addr) (i:Nat) (b:Option Addr) (j:Nat) (c:Option Addr) (k:Nat) (d:Option Addr) (l:Nat):List Value:=[zI V.c,.slice a V.nW i,zI V.g,.slice b V.nO j,.slice c V.nX k,.slice d V.nI l]
def iO (w:World) (v:Value) (V:CV):Prop :=
 ∃ aW kW aO kO aX kX aI kI,v=.agg (zD V aW kW aO kO aX kX aI kI).toArray /\
  lJ w aW V.nW V.W/\mD w aO V.nO V.N V.O/\Row1 w aX V.nX V.X/\Row1 w aI V.nI V.I
def CV.short (V:CV) (m:Nat):Prop:=V.nW<=m/\V.nO<=m/\(∀ k,k<V.nO->V.N k<=m)/\V.nX<=m/\V.nI<=m
theorem iG {w w':World} {a:Option Addr} {n:Nat} {X:Nat->Int} (h:Row1 w a n X) (hb:Below w.heap.size w w'):Row1 w' a n X:=by
 rcases h with rfl | ⟨b,o,rfl,hlt,hr⟩
 ·exact .inl rfl
 exact .inr ⟨b,o,rfl,Hg hlt hb.size,fun k hk=>(hb.cell (p:=⟨b,_,none⟩) hlt).trans (hr k hk)⟩
theorem iV {w w':World} {a:Option Addr} {n:Nat} {Z:Nat->Nat->Int} (h:lJ w a n Z) (hb:Below w.heap.size w w'):lJ w' a n Z:=by
 rcases h with rfl | ⟨b,o,rfl,hlt,hr⟩
 ·exact .inl rfl
 exact .inr ⟨b,o,rfl,Hg hlt hb.size,fun k j hk hj=>(hb.cell (p:=⟨b,_,none⟩) hlt).trans (hr k j hk hj)⟩
theorem lQ {w w':World} {a:Option Addr} {n:Nat} {Z:Nat->Nat->Int} (h:P8.kC w a n Z) (hb:Below w.heap.size w w'):P8.kC w' a n Z:=by
 rcases h with rfl | ⟨b,o,rfl,hlt,hr⟩
 ·exact .inl rfl
 exact .inr ⟨b,o,rfl,Hg hlt hb.size,fun k j hk hj=>(hb.cell (p:=⟨b,_,none⟩) hlt).trans (hr k j hk hj)⟩
theorem jO {w w':World} {a:Option Addr} {n:Nat} {N:Nat->Nat} {O:Nat->Nat->Nat->Int} (h:mD w a n N O) (hb:Below w.heap.size w w'):mD w' a n N O:=by
 rcases h with rfl | ⟨b,o,rfl,hlt,hr⟩
 ·exact .inl rfl
 refine .inr ⟨b,o,rfl,Hg hlt hb.size,fun k hk=>?_⟩;obtain ⟨x,c,h1,h2⟩:=hr k hk;exact ⟨x,c,(hb.cell (p:=⟨b,_,none⟩) hlt).trans h1,lQ h2 hb⟩
theorem dw {w w':World} {v:Value} {V:CV} (h:iO w v V) (hb:Below w.heap.size w w'):iO w' v V:=by
 obtain ⟨aW,kW,aO,kO,aX,kX,aI,kI,e,h1,h2,h3,h4⟩:=h;exact ⟨aW,kW,aO,kO,aX,kX,aI,kI,e,iV h1 hb,jO h2 hb,iG h3 hb,iG h4 hb⟩
section
variable {H:Type} {enc:TypeId × Value->H} {P:Program} {w:World} {base:Nat} {spare:Nat->Bool} {held:Bool}
theorem iR (b o k:Nat):((zA b o):Addr).add k=(zA b (o+k)):=by
 unfold Addr.add;split <;> simp_all
theorem uJ {x:Addr} {v:Value} (h:w.cell? (x.add 0)=some v):∃ b o,x=(zA b o)/\b<w.heap.size:=by
 obtain ⟨b,o,spot⟩:=x;have hs:=World.cell?_spot h;have hb:=World.block_lt_of_cell? w _ h;simp [Addr.add] at hs hb;subst hs;exact ⟨b,o,rfl,hb⟩
theorem uK {t e:TypeId} {fuel:Nat} {cs:List Value} {x:DataW H × List MemPlace} (ht:P.underlying t=some (.slice e)) (hi:P.underlying e=some (.int .i64)) (h1:P.cellsOf e=1)
 (h:DataW.trod enc P w base spare held fuel t cs=some x):∃ a len cap X,cs=[.slice a len cap]/\len<=maxLen/\Row1 w a len X:=by
 rcases open_slice1 ht h1 h with ⟨hcs,_⟩ | ⟨x,l,c,m,n,V,D,Pl,hcs,_,hl,hm,hmm,_,hel⟩
 ·exact ⟨none,0,0,fun _=>0,hcs,Nat.zero_le _,.inl rfl⟩
 by_cases h0:l=0
 ·subst h0;exact ⟨some x,0,c,fun _=>0,hcs,Nat.zero_le _,.inl rfl⟩
 have hlm:l<=m:=by rw [hmm];split <;> omega
 obtain ⟨b,o,rfl,hb⟩:=uJ (hel 0 (by omega)).1;refine ⟨_,l,c,fun k=>match V k with | .int _ z=>z | _=>0,hcs,Hq hl hm,.inr ⟨b,o,rfl,hb,fun k hk=>?_⟩⟩;obtain ⟨hc,htr⟩:=hel k (by omega);obtain ⟨z,hz,_,_⟩:=DataW.trod_int hi htr;rw [iR] at hc;have hv:V k=zI z:=by simpa using hz
 rw [hc];simp [hv]
variable {tw8 ti:TypeId} {fs5:Array Field} {g0 g1 g2 g3:Field}
theorem Af {t e p:TypeId} {fuel:Nat} {cs:List Value} {x:DataW H × List MemPlace} (ht:P.underlying t=some (.slice e)) (he:P.underlying e=some (.slice p)) (h1:P.cellsOf e=1)
 (hs:P.underlying p=some (.struct #[g0,g1,g2,g3])) (hw5:P.underlying tw8=some (.struct fs5)) (hi:P.underlying ti=some (.int .i64)) (hi1:P.cellsOf ti=1) (hC:P.cellsOf p=8) (hC5:P.cellsOf tw8=5) (hsz:fs5.size=5)
 (hoff:∀ (i:Nat) (f:Field),fs5[i]? = some f->f.offset=i/\f.type=ti)
 (o0:g0.offset=0/\g0.type=ti) (o1:g1.offset=1/\g1.type=ti) (o2:g2.offset=2/\g2.type=tw8) (o3:g3.offset=7/\g3.type=ti)
 (h:DataW.trod enc P w base spare held fuel t cs=some x):∃ a len cap N O,cs=[.slice a len cap]/\len<=maxLen/\(∀ k,k<len->N k<=maxLen)/\mD w a len N O:=by
 rcases open_slice1 ht h1 h with ⟨hcs,_⟩ | ⟨x,l,c,m,n,V,D,Pl,hcs,_,hl,hm,hmm,_,hel⟩
 ·exact ⟨none,0,0,fun _=>0,fun _ _ _=>0,hcs,Nat.zero_le _,fun _ h=>absurd h (by omega),.inl rfl⟩
 by_cases h0:l=0
 ·subst h0;exact ⟨some x,0,c,fun _=>0,fun _ _ _=>0,hcs,Nat.zero_le _,fun _ h=>absurd h (by omega),.inl rfl⟩
 have hlm:l<=m:=by rw [hmm];split <;> omega
 obtain ⟨b,o,rfl,hb⟩:=uJ (hel 0 (by omega)).1;have hin:∀ k,∃ q:Nat × (Nat->Nat->Int),k<l->∃ xa c,w.cell? (zA b (o+k))=some (.slice xa q.1 c)/\q.1<=maxLen/\P8.kC w xa q.1 q.2:=by
  intro k;by_cases hk:k<l
  ·obtain ⟨hc,htr⟩:=hel k (by omega);rw [iR] at hc;have hsl:∃ xa ln cp,V k=.slice xa ln cp:=by
    rcases open_slice he htr with ⟨hq,_⟩ | ⟨_,_,_,_,_,_,_,hq,_⟩
    ·exact ⟨_,_,_,by simpa using hq⟩
    exact ⟨_,_,_,by simpa using hq⟩
   obtain ⟨xa,ln,cp,hV⟩:=hsl;rw [hV] at hc htr;obtain ⟨hln,Z,hZ,_⟩:=P8.AU he hs hw5 hi hi1 hC hC5 hsz hoff o0 o1 o2 o3 (show DataW.Trod enc P w base spare held e (.slice xa ln cp) (D k) (Pl k) from ⟨n,htr⟩);exact ⟨(ln,Z),fun _=>⟨xa,cp,hc,hln,hZ⟩⟩
  exact ⟨(0,fun _ _=>0),fun h=>absurd h hk⟩
 refine ⟨_,l,c,fun k=>(Classical.choose (hin k)).1,fun k=>(Classical.choose (hin k)).2,hcs,Hq hl hm,fun k hk=>?_,.inr ⟨b,o,rfl,hb,fun k hk=>?_⟩⟩
 ·obtain ⟨_,_,_,h2,_⟩:=Classical.choose_spec (hin k) hk;exact h2
 obtain ⟨xa,cp,h1,_,h3⟩:=Classical.choose_spec (hin k) hk;exact ⟨xa,cp,h1,h3⟩
end
theorem bZ {a b:World} (h:Below a.heap.size a b) (n:Nat):Below a.heap.size a (b.drewN n):=h.trans ⟨rfl,rfl,rfl,Ho _,fun _ _=>rfl⟩
theorem wK (i a n s l:Int) (w:World) :
 Hz 73 #[.agg #[zI i,zI a,zI n,zI s,zI l]] w fun e w'=>e=.returned (.agg #[zI i,zI a,zI n,zI s,zI l])/\Below w.heap.size w w':=by
 go_enter Tryz.func73,Tryz.ntmps73;go_wp2;exact Hw (v:=.agg #[zI i,zI a,zI n,zI s,zI l]) (by simp [results,Tryz.results73,go_sem]) rfl ⟨rfl,(((Hr _ _).alloc (by simp) _).alloc (by simp) _).alloc (by simp;omega) _⟩
theorem bM {W w1 w2:World} {m:Nat} (h:(∀ b o,b<m->w1.cell? (zA b o)=W.cell? (zA b o))/\m<=w1.heap.size) (hb:Below w1.heap.size w1 w2) :
 (∀ b o,b<m->w2.cell? (zA b o)=W.cell? (zA b o))/\m<=w2.heap.size :=
 ⟨fun b o hlt=>(hb.cell (p:=(zA b o)) (Hg hlt h.2)).trans (h.1 b o hlt),Hq h.2 hb.size⟩
theorem CG (a:Option Addr) (n cap:Nat) (left:Int) (h0:0<=left) (h1:left<=1048576) (hn:(n:Int)<=9223372036854775807) (w:World) :
 Hz 49 #[.slice a n cap,zI left] w fun e w'=>e=.returned (zI (if (n:Int)<=left then left - n else -1))/\Below w.heap.size w w':=by
 by_cases h:(n:Int)<=left
 ·go_enter Tryz.func49,Tryz.ntmps49;go_wp2;all_goals (go_ret;exact ⟨by simp <;> omega,Hr _ _⟩)
 go_enter Tryz.func49,Tryz.ntmps49;go_wp2;all_goals (go_ret;exact ⟨by simp <;> omega,Hr _ _⟩)
theorem zJ (a:Option Addr) (n cap:Nat) (left:Int) (h0:0<=left) (h1:left<=1048576) (hn:(n:Int)<=9223372036854775807) (w:World) :
 Hz 47 #[.slice a n cap,zI left] w fun e w'=>e=.returned (zI (if (n:Int)<=left then left - n else -1))/\Below w.heap.size w w':=by
 by_cases h:(n:Int)<=left
 ·go_enter Tryz.func47,Tryz.ntmps47;go_wp2;all_goals (go_ret;exact ⟨by simp <;> omega,Hr _ _⟩)
 go_enter Tryz.func47,Tryz.ntmps47;go_wp2;all_goals (go_ret;exact ⟨by simp <;> omega,Hr _ _⟩)
theorem zO (a:Option Addr) (n cap:Nat) (left:Int) (h0:0<=left) (h1:left<=1048576) (hn:(n:Int)<=9223372036854775807) (w:World) :
 Hz 80 #[.slice a n cap,zI left] w fun e w'=>e=.returned (zI (if (n:Int)<=left then left - n else -1))/\Below w.heap.size w w':=by
 by_cases h:(n:Int)<=left
 ·go_enter Tryz.func80,Tryz.ntmps80;go_wp2;all_goals (go_ret;exact ⟨by simp <;> omega,Hr _ _⟩)
 go_enter Tryz.func80,Tryz.ntmps80;go_wp2;all_goals (go_ret;exact ⟨by simp <;> omega,Hr _ _⟩)
theorem rQ (i a n s l:Int) (w:World) :
 Hz 91 #[.agg #[zI i,zI a,zI n,zI s,zI l],.agg #[zI i,zI a,zI n,zI s,zI l]] w fun e w'=>e=.returned (.bool true)/\Below w.heap.size w w':=by
 go_enter Tryz.func91,Tryz.ntmps91;go_wp2;go_ret;exact ⟨rfl,by repeat (first | exact Hr _ _ | refine ah ?_ (by assumption) | apply Below.drew | apply bZ | refine Below.alloc ?_ (by simp) _)⟩
theorem Tryz.Jl:(Tryz.prog.info? 67).map (fun i=>(i.zero,i.size,i.bytes))=some (some (.agg z5.toArray),5,40):=by kernel_rfl
theorem ED (n:Nat) (hn:n<=1048576) (w:World) :
 (Instr.makeSlice 33 (zI (n:Int)) (zI (n:Int))).run Tryz.prog w=.ok (zS w.heap.size n n) (w.alloc (.cells (madeCells z5.toArray (n * 5)) 67)):=by
 obtain ⟨i,hi,hzz⟩:=Option.map_eq_some_iff.1 Tryz.Jl;simp only [Prod.mk.injEq] at hzz;obtain ⟨hz,hs,hb⟩:=hzz;have:=run_make (P:=Tryz.prog) w 33 67 i _ Tryz.underlying33 hi hz .i64 .i64 n n (by omega) (by omega) (by rw [hb];omega) (by omega);rw [this,hs];rfl
def Own5 (wr:World) (B n:Nat) (Z:Nat->Nat->Int) (k:Nat):Prop :=
 (∀ i,i<n * 5->(wr.cell? (zA B i)).isSome=true/\wr.frozen? (zA B i)=false)/\∀ k' j,k'<k->j<5->wr.cell? (zA B (k' * 5+j))=some (zI (Z k' j))
theorem aK {wr:World} {B n k:Nat} {Z:Nat->Nat->Int} (h:Own5 wr B n Z k) (hk:k<n) (j:Nat) (hj:j<5):(∃ v,wr.cell? (zA B (k * 5+j))=some v)/\wr.frozen? (zA B (k * 5+j))=false:=by
 obtain ⟨h1,h2⟩:=h.1 (k * 5+j) (by omega);exact ⟨Option.isSome_iff_exists.1 h1,h2⟩
theorem own_below {w w':World} {B n k:Nat} {Z:Nat->Nat->Int} (h:Own5 w B n Z k) (hB:B<w.heap.size) (hb:Below w.heap.size w w'):Own5 w' B n Z k :=
 ⟨fun i hi=>by rw [hb.cell (p:=(zA B i)) hB,hb.frozen (p:=(zA B i)) hB];exact h.1 i hi,fun k' j hk hj=>by rw [hb.cell (p:=(zA B (k' * 5+j))) hB];exact h.2 k' j hk hj⟩
def sV (w:World) (B k:Nat) (Z:Nat->Nat->Int):World :=
 ((((w.setCell (zA B (k * 5)) (zI (Z k 0))).setCell (zA B (k * 5+1)) (zI (Z k 1))).setCell (zA B (k * 5+2)) (zI (Z k 2))).setCell (zA B (k * 5+3)) (zI (Z k 3))).setCell (zA B (k * 5+4)) (zI (Z k 4))
theorem og (w:World) (B k:Nat) (Z:Nat->Nat->Int):sV w B k Z=w.setCells B (k * 5) (zF (Z k)):=rfl
theorem jZ {w:World} {B n k:Nat} {Z:Nat->Nat->Int} (h:Own5 w B n Z k) (hk:k<n):Own5 (sV w B k Z) B n Z (k+1):=by
 have hin:∀ j,j<5->(sV w B k Z).cell? (zA B (k * 5+j))=some (zI (Z k j)):=by
  intro j hj;rw [og];have:=World.cell?_setCells_in B (zF (Z k)) (k * 5) w (fun j' hj'=>(h.1 (k * 5+j') (by simp at hj';omega)).1) j (by simpa using hj);rw [this];match j,hj with
  | 0,_=>rfl
  | 1,_=>rfl
  | 2,_=>rfl
  | 3,_=>rfl
  | 4,_=>rfl
 have hout:∀ i,(i<k * 5∨k * 5+5<=i)->(sV w B k Z).cell? (zA B i)=w.cell? (zA B i):=by
  intro i hi;rw [og];exact World.cell?_setCells_out B _ (k * 5) w (zA B i) (fun _ _=>by simpa using hi)
 refine ⟨fun i hi=>⟨?_,?_⟩,fun k' j hk' hj=>?_⟩
 ·by_cases hc:i<k * 5∨k * 5+5<=i
  ·rw [hout i hc];exact (h.1 i hi).1
  have:=hin (i - k * 5) (by omega);rw [show k * 5+(i - k * 5)=i by omega] at this;rw [this];rfl
 ·rw [og,World.frozen?_setCells];exact (h.1 i hi).2
 by_cases hc:k'=k
 ·subst hc;exact hin j hj
 rw [hout _ (by omega)];exact h.2 k' j (by omega) hj
theorem cq5 {w:World} {B o:Nat} {f:Nat->Int} (h:∀ j,j<5->w.cell? (zA B (o+j))=some (zI (f j))):w.cell? (zA B o)=some (zI (f 0))/\w.cell? (zA B (o+1))=some (zI (f 1))/\w.cell? (zA B (o+2))=some (zI (f 2))/\w.cell? (zA B (o+3))=some (zI (f 3))/\w.cell? (zA B (o+4))=some (zI (f 4)):=⟨h 0 (by decide),h 1 (by decide),h 2 (by decide),h 3 (by decide),h 4 (by decide)⟩
theorem cq8 {w:World} {B o:Nat} {f:Nat->Int} (h:∀ j,j<8->w.cell? (zA B (o+j))=some (zI (f j))):w.cell? (zA B o)=some (zI (f 0))/\w.cell? (zA B (o+1))=some (zI (f 1))/\w.cell? (zA B (o+2))=some (zI (f 2))/\w.cell? (zA B (o+3))=some (zI (f 3))/\w.cell? (zA B (o+4))=some (zI (f 4))/\w.cell? (zA B (o+5))=some (zI (f 5))/\w.cell? (zA B (o+6))=some (zI (f 6))/\w.cell? (zA B (o+7))=some (zI (f 7)):=⟨h 0 (by decide),h 1 (by decide),h 2 (by decide),h 3 (by decide),h 4 (by decide),h 5 (by decide),h 6 (by decide),h 7 (by decide)⟩
theorem cq16 {w:World} {B o:Nat} {f:Nat->Int} (h:∀ j,j<16->w.cell? (zA B (o+j))=some (zI (f j))):w.cell? (zA B o)=some (zI (f 0))/\w.cell? (zA B (o+1))=some (zI (f 1))/\w.cell? (zA B (o+2))=some (zI (f 2))/\w.cell? (zA B (o+3))=some (zI (f 3))/\w.cell? (zA B (o+4))=some (zI (f 4))/\w.cell? (zA B (o+5))=some (zI (f 5))/\w.cell? (zA B (o+6))=some (zI (f 6))/\w.cell? (zA B (o+7))=some (zI (f 7))/\w.cell? (zA B (o+8))=some (zI (f 8))/\w.cell? (zA B (o+9))=some (zI (f 9))/\w.cell? (zA B (o+10))=some (zI (f 10))/\w.cell? (zA B (o+11))=some (zI (f 11))/\w.cell? (zA B (o+12))=some (zI (f 12))/\w.cell? (zA B (o+13))=some (zI (f 13))/\w.cell? (zA B (o+14))=some (zI (f 14))/\w.cell? (zA B (o+15))=some (zI (f 15)):=⟨h 0 (by decide),h 1 (by decide),h 2 (by decide),h 3 (by decide),h 4 (by decide),h 5 (by decide),h 6 (by decide),h 7 (by decide),h 8 (by decide),h 9 (by decide),h 10 (by decide),h 11 (by decide),h 12 (by decide),h 13 (by decide),h 14 (by decide),h 15 (by decide)⟩
theorem toList (b o:Nat) (n cap:Nat) (Z:Nat->Nat->Int) (hn:n<=1048576) (w:World) (hb:b<w.heap.size)
 (hr:∀ k j,k<n->j<5->w.cell? (zA b (o+k * 5+j))=some (zI (Z k j))) :
 Hz 52 #[.slice (some (zA b o)) n cap] w fun e w'=>e=.returned (zS w.heap.size n n)/\Own5 w' w.heap.size n Z n/\w.heap.size<w'.heap.size/\Below w.heap.size w w':=by
 have hmk:=ED n hn;have HR:bY (∀ k j,k<n->j<5->w.cell? (zA b (o+k * 5+j))=some (zI (Z k j))):=hr;clear hr;go_enter Tryz.func52,Tryz.ntmps52;go_wp2;go_loopw [4] (fun i wr=>∃ k:Nat,k<=n/\i=zI k/\Own5 wr w.heap.size n Z k/\w.heap.size<wr.heap.size/\Below w.heap.size w wr) (fun i _=>n - (intOf i).toNat)
 case atStart=>exact ⟨0,Nat.zero_le _,rfl,⟨fun i hi=>by simp [size_madeCells,hi],fun _ _ h=>absurd h (by omega)⟩,by simp,(Hr _ _).alloc (by simp) _⟩
 case round =>
  obtain ⟨k,hk,rfl,hown,hsz,hbel⟩:=hrel;have c0:=fun (h:k<n)=>cq5 (fun j hj=>(hbel.cell (by exact hb)).trans (HR.o k j h (by omega)));clear hmk;go_wp2_with fail
  ·refine (wK _ _ _ _ _ _).mono ?_;rintro e w1 ⟨rfl,hb1⟩;have hlt:k<n:=by assumption
   have hown1:=own_below hown hsz hb1;have hsz1:w.heap.size<w1.heap.size:=Hg hsz hb1.size;have hbel1:Below w.heap.size w w1:=hbel.trans (hb1.mono (Nat.le_of_lt hsz));clear hown hb1 hbel c0;obtain ⟨⟨v0,d0⟩,f0⟩:=aK hown1 hlt 0 (by omega);obtain ⟨⟨v1,d1⟩,f1⟩:=aK hown1 hlt 1 (by omega);obtain ⟨⟨v2,d2⟩,f2⟩:=aK hown1 hlt 2 (by omega);obtain ⟨⟨v3,d3⟩,f3⟩:=aK hown1 hlt 3 (by omega);obtain ⟨⟨v4,d4⟩,f4⟩:=aK hown1 hlt 4 (by omega);simp only [Nat.add_zero] at d0 f0;go_wp2;go_roundw
   case rel=>exact ⟨k+1,by omega,by go_num,jZ hown1 hlt,by simpa [World.setCell] using hsz1,((((hbel1.setCell (Ho _) _).setCell (Ho _) _).setCell (Ho _) _).setCell (Ho _) _).setCell (Ho _) _⟩
   case measure=>simp [intOf];omega
  have:k=n:=by omega
  subst this;go_ret;exact ⟨rfl,hown,hsz,hbel⟩
theorem o9 (a:Option Addr) (cap:Nat) (Z:Nat->Nat->Int) (w:World) :
 Hz 52 #[.slice a 0 cap] w fun e w'=>e=.returned (zS w.heap.size 0 0)/\Own5 w' w.heap.size 0 Z 0/\w.heap.size<w'.heap.size/\Below w.heap.size w w':=by
 have hmk:∀ w:World,(Instr.makeSlice 33 (zI 0) (zI 0)).run Tryz.prog w=.ok (zS w.heap.size 0 0) (w.alloc (.cells (madeCells z5.toArray 0) 67)):=fun w=>ED 0 (by omega) w;go_enter Tryz.func52,Tryz.ntmps52;go_wp2;refine wp_loop_rounds 1 ?_;rw [rounds_succ];go_wp2;go_ret;exact ⟨rfl,⟨fun i hi=>absurd hi (by omega),fun _ _ h=>absurd h (by omega)⟩,by simp,(Hr _ _).alloc (by simp) _⟩
theorem sH (b1 o1 cap1 b2 o2 cap2 n:Nat) (Z:Nat->Nat->Int) (hn:n<=2000000) (w:World) (hb1:b1<w.heap.size) (hb2:b2<w.heap.size)
 (h1:∀ k j,k<n->j<5->w.cell? (zA b1 (o1+k * 5+j))=some (zI (Z k j))) (h2:∀ k j,k<n->j<5->w.cell? (zA b2 (o2+k * 5+j))=some (zI (Z k j))) :
 Hz 60 #[.slice (some (zA b1 o1)) n cap1,.slice (some (zA b2 o2)) n cap2] w fun e w'=>e=.returned (.bool true)/\Below w.heap.size w w':=by
 have H1:bY (∀ k j,k<n->j<5->w.cell? (zA b1 (o1+k * 5+j))=some (zI (Z k j))):=h1;have H2:bY (∀ k j,k<n->j<5->w.cell? (zA b2 (o2+k * 5+j))=some (zI (Z k j))):=h2;clear h1 h2;go_enter Tryz.func60,Tryz.ntmps60;go_wp2;go_loopw [5] (fun i wr=>∃ k:Nat,k<=n/\i=zI k/\((∀ b o,b<w.heap.size->wr.cell? (zA b o)=w.cell? (zA b o))/\w.heap.size<=wr.heap.size)/\Below w.heap.size w wr) (fun i _=>n - (intOf i).toNat)
 case atStart=>exact ⟨0,Nat.zero_le _,rfl,⟨fun _ _ _=>rfl,Ho _⟩,Hr _ _⟩
 case round =>
  obtain ⟨k,hk,rfl,HS,BR⟩:=hrel;by_cases hkn:k<n
  ·have c10:=cq5 (fun j hj=>H1.o k j hkn (by omega));have c20:=cq5 (fun j hj=>H2.o k j hkn (by omega));go_wp2;refine Hu (S:=fun w'=>(∀ b o,b<w.heap.size->w'.cell? (zA b o)=w.cell? (zA b o))/\w.heap.size<=w'.heap.size) (by kernel_rfl) HS ?_;intro af;refine aA 0 (.slice (some (zA b1 o1)) n cap1) rfl ?_;refine aA 1 (zI (k:Int)) rfl ?_;refine aA 2 (.pointer (some (zA b1 (o1+k * 5)))) rfl ?_;refine aA 3 (.agg (zF (Z k)).toArray) rfl ?_;refine aA 4 (.slice (some (zA b2 o2)) n cap2) rfl ?_;refine aA 5 (zI (k:Int)) rfl ?_;refine aA 6 (.pointer (some (zA b2 (o2+k * 5)))) rfl ?_;refine aA 7 (.agg (zF (Z k)).toArray) rfl ?_;refine di 8 rfl fun K hK=>?_;go_simp;go_wp2_with (go_at_call 91;refine (rQ _ _ _ _ _ _).mono ?_;rintro e w2 ⟨rfl,hbw2⟩);refine hK.out _ _ (bM (by assumption) hbw2) (fun af=>?_);clear hK K;try simp only [aT]
   refine aA 9 (.bool false) rfl ?_;refine Hy (by kernel_rfl) ?_ _;go_wp2;go_roundw
   case rel=>exact ⟨k+1,by omega,by go_num,by assumption,by repeat (first | exact BR | refine ah ?_ (by assumption) | apply Below.drew)⟩
   case measure=>simp [intOf];omega
  have:k=n:=by omega
  subst this;go_wp2;go_ret;exact ⟨rfl,by repeat (first | exact BR | refine ah ?_ (by assumption) | apply Below.drew)⟩
theorem aZ {w:World} {B n:Nat} {Z:Nat->Nat->Int} (h:Own5 w B n Z n):∀ k j,k<n->j<5->w.cell? (zA B (0+k * 5+j))=some (zI (Z k j)):=fun k j hk hj=>by
 rw [Nat.zero_add];exact h.2 k j hk hj
def inB (n lo hi:Int):Bool:=decide (lo<=n/\n<=hi)
def okB (c d:Int):Bool:=inB c 2 4 && inB d 2 8
theorem dh (n lo hi:Int) (w:World) :
 Hz 24 #[zI n,zI lo,zI hi] w fun e w'=>e=.returned (.bool (inB n lo hi))/\w'=w:=by
 go_enter Tryz.func24,Tryz.ntmps24;go_wp2;all_goals (go_ret;exact ⟨by simp [inB, *] <;> omega,rfl⟩)
theorem dn (n lo hi:Int) (w:World) :
 Hz 74 #[zI n,zI lo,zI hi] w fun e w'=>e=.returned (.bool (inB n lo hi))/\w'=w:=by
 go_enter Tryz.func74,Tryz.ntmps74;go_wp2;all_goals (go_ret;exact ⟨by simp [inB, *] <;> omega,rfl⟩)
theorem dM (c d:Int) (w:World) :
 Hz 81 #[.agg #[zI c,zI d]] w fun e w'=>e=.returned (.bool (okB c d))/\Below w.heap.size w w':=by
 cases h:inB c 2 4;all_goals
  go_enter Tryz.func81,Tryz.ntmps81
  go_wp2_with (go_at_call 24;refine (dh _ _ _ _).mono ?_;rintro e w' ⟨rfl,rfl⟩)
  go_ret
  exact ⟨by simp [okB,h],(Hr _ _).alloc (by simp) _⟩
theorem fE (c d:Int) (w:World) :
 Hz 122 #[.agg #[zI c,zI d]] w fun e w'=>e=.returned (.bool (okB c d))/\Below w.heap.size w w':=by
 cases h:inB c 2 4;all_goals
  go_enter Tryz.func122,Tryz.ntmps122
  go_wp2_with (go_at_call 74;refine (dn _ _ _ _).mono ?_;rintro e w' ⟨rfl,rfl⟩)
  go_ret
  exact ⟨by simp [okB,h],(Hr _ _).alloc (by simp) _⟩
def aQ (c d a:Int):Int:=if okB c d=true/\inB a 0 (c * d - 1)=true then a / d else -1
theorem aY {n lo hi:Int}:inB n lo hi=true↔lo<=n/\n<=hi:=by simp [inB]
theorem fD {c d:Int} (h:okB c d=true):2<=c/\c<=4/\2<=d/\d<=8:=by
 simp only [okB,Bool.and_eq_true,aY] at h;omega
theorem jl {c d:Int} (h:okB c d=true):4<=c * d/\c * d<=32:=by
 obtain ⟨a,b,e,f⟩:=fD h;have:c=2∨c=3∨c=4:=by omega
 rcases this with rfl | rfl | rfl <;> omega
theorem dD (c d a:Int) (w:World) :
 Hz 83 #[.agg #[zI c,zI d],zI a] w fun e w'=>e=.returned (zI (aQ c d a))/\Below w.heap.size w w':=by
 cases h:okB c d
 ·go_enter Tryz.func83,Tryz.ntmps83;go_wp2_with fail;refine (dM _ _ _).mono ?_;rintro e w1 ⟨rfl,hb1⟩;go_wp2;go_ret;exact ⟨by simp [aQ,h],ah ((Hr _ _).alloc (by simp) _) hb1⟩
 obtain ⟨a1,a2,a3,a4⟩:=fD h;obtain ⟨m1,m2⟩:=jl h;cases hin:inB a 0 (c * d - 1)
 ·go_enter Tryz.func83,Tryz.ntmps83;go_wp2_with fail;refine (dM _ _ _).mono ?_;rintro e w1 ⟨rfl,hb1⟩;obtain ⟨hc1,hf1⟩:=cu hb1;go_wp2_with (go_at_call 24;refine (dh _ _ _ _).mono ?_;rintro e w' ⟨rfl,rfl⟩);go_ret;exact ⟨by simp [aQ,h,hin],ah ((Hr _ _).alloc (by simp) _) hb1⟩
 obtain ⟨i1,i2⟩:=aY.1 hin;go_enter Tryz.func83,Tryz.ntmps83;go_wp2_with fail;refine (dM _ _ _).mono ?_;rintro e w1 ⟨rfl,hb1⟩;obtain ⟨hc1,hf1⟩:=cu hb1;go_wp2_with (go_at_call 24;refine (dh _ _ _ _).mono ?_;rintro e w' ⟨rfl,rfl⟩);go_ret;exact ⟨by simp [aQ,h,hin],ah ((Hr _ _).alloc (by simp) _) hb1⟩
theorem lm (c d a:Int) (w:World) :
 Hz 147 #[zI a,.agg #[zI c,zI d]] w fun e w'=>e=.returned (zI (aQ c d a))/\Below w.heap.size w w':=by
 cases h:okB c d
 ·go_enter Tryz.func147,Tryz.ntmps147;go_wp2_with fail;refine (fE _ _ _).mono ?_;rintro e w1 ⟨rfl,hb1⟩;go_wp2;go_ret;exact ⟨by simp [aQ,h],ah ((Hr _ _).alloc (by simp) _) hb1⟩
 obtain ⟨a1,a2,a3,a4⟩:=fD h;obtain ⟨m1,m2⟩:=jl h;cases hin:inB a 0 (c * d - 1)
 ·go_enter Tryz.func147,Tryz.ntmps147;go_wp2_with fail;refine (fE _ _ _).mono ?_;rintro e w1 ⟨rfl,hb1⟩;obtain ⟨hc1,hf1⟩:=cu hb1;go_wp2_with (go_at_call 74;refine (dn _ _ _ _).mono ?_;rintro e w' ⟨rfl,rfl⟩);go_ret;exact ⟨by simp [aQ,h,hin],ah ((Hr _ _).alloc (by simp) _) hb1⟩
 obtain ⟨i1,i2⟩:=aY.1 hin;go_enter Tryz.func147,Tryz.ntmps147;go_wp2_with fail;refine (fE _ _ _).mono ?_;rintro e w1 ⟨rfl,hb1⟩;obtain ⟨hc1,hf1⟩:=cu hb1;go_wp2_with (go_at_call 74;refine (dn _ _ _ _).mono ?_;rintro e w' ⟨rfl,rfl⟩);go_ret;exact ⟨by simp [aQ,h,hin],ah ((Hr _ _).alloc (by simp) _) hb1⟩
theorem gG (c d a:Int) (w:World) :
 Hz 123 #[.agg #[zI c,zI d],zI a] w fun e w'=>e=.returned (zI (aQ c d a))/\Below w.heap.size w w':=by
 go_enter Tryz.func123,Tryz.ntmps123;go_wp2_with fail;refine (lm _ _ _ _).mono ?_;rintro e w1 ⟨rfl,hb1⟩;go_wp2;go_ret;exact ⟨rfl,ah ((Hr _ _).alloc (by simp) _) hb1⟩
def fF (i n s l:Int):Bool:=inB i 1 9 && (inB n 0 99 && (inB s 0 900 && inB l 0 9))
def jK (c d i a n s l:Int):Bool:=fF i n s l && (aQ c d a != -1)
theorem qB (i a n s l:Int) (w:World) :
 Hz 163 #[.agg #[zI i,zI a,zI n,zI s,zI l]] w fun e w'=>e=.returned (.bool (fF i n s l))/\Below w.heap.size w w':=by
 cases h1:inB i 1 9
 ·go_enter Tryz.func163,Tryz.ntmps163;go_wp2_with (go_at_call 74;refine (dn _ _ _ _).mono ?_;rintro e w' ⟨rfl,rfl⟩);go_ret;exact ⟨by simp [fF, *],by repeat (first | exact Hr _ _ | refine ah ?_ (by assumption) | apply Below.drew | apply bZ | refine Below.alloc ?_ (by simp) _)⟩
 
 cases h2:inB n 0 99
 ·go_enter Tryz.func163,Tryz.ntmps163;go_wp2_with (go_at_call 74;refine (dn _ _ _ _).mono ?_;rintro e w' ⟨rfl,rfl⟩);go_ret;exact ⟨by simp [fF, *],by repeat (first | exact Hr _ _ | refine ah ?_ (by assumption) | apply Below.drew | apply bZ | refine Below.alloc ?_ (by simp) _)⟩
 
 cases h3:inB s 0 900
 ·go_enter Tryz.func163,Tryz.ntmps163;go_wp2_with (go_at_call 74;refine (dn _ _ _ _).mono ?_;rintro e w' ⟨rfl,rfl⟩);go_ret;exact ⟨by simp [fF, *],by repeat (first | exact Hr _ _ | refine ah ?_ (by assumption) | apply Below.drew | apply bZ | refine Below.alloc ?_ (by simp) _)⟩
 go_enter Tryz.func163,Tryz.ntmps163;go_wp2_with (go_at_call 74;refine (dn _ _ _ _).mono ?_;rintro e w' ⟨rfl,rfl⟩);go_ret;exact ⟨by simp [fF, *],by repeat (first | exact Hr _ _ | refine ah ?_ (by assumption) | apply Below.drew | apply bZ | refine Below.alloc ?_ (by simp) _)⟩
theorem jI (c d i a n s l:Int) (w:World) :
 Hz 148 #[.agg #[zI c,zI d],.agg #[zI i,zI a,zI n,zI s,zI l]] w fun e w'=>e=.returned (.bool (jK c d i a n s l))/\Below w.heap.size w w':=by
 cases h1:fF i n s l
 ·go_enter Tryz.func148,Tryz.ntmps148;go_wp2_with (first | (go_at_call 163;refine (qB _ _ _ _ _ _).mono ?_;rintro e w' ⟨rfl,hb⟩;obtain ⟨hc,hf⟩:=cu hb) | (go_at_call 123;refine (gG _ _ _ _).mono ?_;rintro e w' ⟨rfl,hb⟩;obtain ⟨hc,hf⟩:=cu hb));go_ret;exact ⟨by simp [jK, *],by repeat (first | exact Hr _ _ | refine ah ?_ (by assumption) | apply Below.drew | apply bZ | refine Below.alloc ?_ (by simp) _)⟩
 go_enter Tryz.func148,Tryz.ntmps148;go_wp2_with (first | (go_at_call 163;refine (qB _ _ _ _ _ _).mono ?_;rintro e w' ⟨rfl,hb⟩;obtain ⟨hc,hf⟩:=cu hb) | (go_at_call 123;refine (gG _ _ _ _).mono ?_;rintro e w' ⟨rfl,hb⟩;obtain ⟨hc,hf⟩:=cu hb));go_ret;exact ⟨by simp [jK, *],by repeat (first | exact Hr _ _ | refine ah ?_ (by assumption) | apply Below.drew | apply bZ | refine Below.alloc ?_ (by simp) _)⟩
theorem jH (c d i a n s l:Int) (w:World) :
 Hz 110 #[.agg #[zI c,zI d],.agg #[zI i,zI a,zI n,zI s,zI l]] w fun e w'=>e=.returned (.bool (jK c d i a n s l))/\Below w.heap.size w w':=by
 cases h1:inB i 1 9
 ·go_enter Tryz.func110,Tryz.ntmps110;go_wp2_with (first | (go_at_call 24;refine (dh _ _ _ _).mono ?_;rintro e w' ⟨rfl,rfl⟩) | (go_at_call 83;refine (dD _ _ _ _).mono ?_;rintro e w' ⟨rfl,hb⟩;obtain ⟨hc,hf⟩:=cu hb));go_ret;exact ⟨by simp [jK,fF, *],by repeat (first | exact Hr _ _ | refine ah ?_ (by assumption) | apply Below.drew | apply bZ | refine Below.alloc ?_ (by simp) _)⟩
 
 cases h0:(aQ c d a != -1)
 ·go_enter Tryz.func110,Tryz.ntmps110;go_wp2_with (first | (go_at_call 24;refine (dh _ _ _ _).mono ?_;rintro e w' ⟨rfl,rfl⟩) | (go_at_call 83;refine (dD _ _ _ _).mono ?_;rintro e w' ⟨rfl,hb⟩;obtain ⟨hc,hf⟩:=cu hb));go_ret;exact ⟨by simp [jK,fF, *],by repeat (first | exact Hr _ _ | refine ah ?_ (by assumption) | apply Below.drew | apply bZ | refine Below.alloc ?_ (by simp) _)⟩
 
 cases h2:inB n 0 99
 ·go_enter Tryz.func110,Tryz.ntmps110;go_wp2_with (first | (go_at_call 24;refine (dh _ _ _ _).mono ?_;rintro e w' ⟨rfl,rfl⟩) | (go_at_call 83;refine (dD _ _ _ _).mono ?_;rintro e w' ⟨rfl,hb⟩;obtain ⟨hc,hf⟩:=cu hb));go_ret;exact ⟨by simp [jK,fF, *],by repeat (first | exact Hr _ _ | refine ah ?_ (by assumption) | apply Below.drew | apply bZ | refine Below.alloc ?_ (by simp) _)⟩
 
 cases h3:inB s 0 900
 ·go_enter Tryz.func110,Tryz.ntmps110;go_wp2_with (first | (go_at_call 24;refine (dh _ _ _ _).mono ?_;rintro e w' ⟨rfl,rfl⟩) | (go_at_call 83;refine (dD _ _ _ _).mono ?_;rintro e w' ⟨rfl,hb⟩;obtain ⟨hc,hf⟩:=cu hb));go_ret;exact ⟨by simp [jK,fF, *],by repeat (first | exact Hr _ _ | refine ah ?_ (by assumption) | apply Below.drew | apply bZ | refine Below.alloc ?_ (by simp) _)⟩
 go_enter Tryz.func110,Tryz.ntmps110;go_wp2_with (first | (go_at_call 24;refine (dh _ _ _ _).mono ?_;rintro e w' ⟨rfl,rfl⟩) | (go_at_call 83;refine (dD _ _ _ _).mono ?_;rintro e w' ⟨rfl,hb⟩;obtain ⟨hc,hf⟩:=cu hb));go_ret;exact ⟨by simp [jK,fF, *],by repeat (first | exact Hr _ _ | refine ah ?_ (by assumption) | apply Below.drew | apply bZ | refine Below.alloc ?_ (by simp) _)⟩
