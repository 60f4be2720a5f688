/- For every map, store and age the program's HldOpen answers as the model's HldOpen; it writes into no argument, and its answer owns its memory, behind another call too; conditions: none beyond the card's own: the library's variable errors.errorType is what the program's text lays. -/
import Derived.Test.YtngaboipleimcabGreatDoorHP
import Derived.Test.YtngaboipleimcabGreatDoorHR
import Derived.ShutString
import Derived.ChangeSame
import Derived.ChangeVars
import Derived.JoinedOf
import Derived.LaidLaws
import Derived.LaidHandle
import Derived.Stop.Joined
import Derived.ChangeOld
set_option linter.unusedVariables false
set_option maxRecDepth 100000
namespace Go.Proofs.YtngaboipleimcabGreatDoor
namespace FnExactHldOpenDone
open Go.ChangeShapes Go.WideShapes Go.ChangeAt Go.RowKit
open Go.ChangeMaps (open_string shut_string)
theorem own:ownKnob Tryz.prog.godebug=none:=by kernel_rfl
theorem laidOut:laidOutB Tryz.prog=true:=by kernel_rfl
theorem et:Tryz.prog.globalNamed "errors.errorType"=some 0:=by kernel_rfl
theorem rt:(Tryz.prog.cutTypes.find? (·.1 == "internal/reflectlite.rtype")).map (·.2)=some 257:=by kernel_rfl
theorem oneRow:((List.range 300).filter fun t=>Tryz.prog.rowNamed t [101,114,114,111,114])=[204]:=by kernel_rfl
theorem size:Tryz.prog.types.size=300:=by kernel_rfl
theorem handle_of_laid {W:World} (h:laidMetH Tryz.prog Rows.fnExactHldOpenRow.laid W):W.cell? (zA 0 0)=some (.iface 257 (.agg #[zP 1 204])):=by
 have h':laidMet Tryz.prog [] W/\handlesMet Tryz.prog Rows.fnExactHldOpenRow.laid W:=h;obtain ⟨name,u,ty,e1,e2,e3,e4,e5⟩:=h'.2 _ (List.mem_singleton.2 rfl);have en:name=[101,114,114,111,114]:=(Option.some.inj e1).symm;subst en;obtain rfl:=Option.some.inj (rt.symm.trans e2);have hm:ty ∈ (List.range 300).filter fun t=>Tryz.prog.rowNamed t [101,114,114,111,114]:=List.mem_filter.2 ⟨List.mem_range.2 (by rw [<-size];exact e3),e4⟩;rw [oneRow] at hm;obtain rfl:=List.mem_singleton.1 hm;have hh:typeHandle Tryz.prog 204=zP 1 204:=by kernel_rfl
 rw [hh] at e5;simpa using World.var?_cell et e5 0
noncomputable def laidWorld (os:Os):World :=
 let w0:=World.holding Tryz.prog os ⟨#[],#[],[]⟩
 { w0 with heap:=w0.heap.modify 0 fun
  | .cells _ t frozen=>.cells #[.iface 257 (.agg #[zP 1 204])] t frozen
  | o=>o }
theorem laidWorld_met (os:Os) (args:Array Value):laidMetH Tryz.prog Rows.fnExactHldOpenRow.laid ((laidWorld os).forCall (fun _ _=>0) ⟨#[],args,[]⟩).memory :=
 laidMetH_of_parts (laidMet_nil _ _) (by kernel_rfl)
theorem lifted (os:Os) (started:os.Started) (H:Type) (enc:TypeId × Value->H) :
 ReturnsInHanded {} Tryz.checked os 3 .any (fun w args=>(Rows.fnExactHldOpenSpec.pre enc Tryz.prog Tryz.f3 [] false w args/\laidMetH Tryz.prog Rows.fnExactHldOpenRow.laid w)/\sizedMet enc Tryz.prog Tryz.f3 (OpenSpec.ofChange Rows.fnExactHldOpenSpec) false w args)
  (Rows.fnExactHldOpenSpec.post enc Tryz.prog Tryz.f3 false true false false):=by
 refine returnsInHanded_of_change_and (C:=Tryz.checked) (X:=fun w _=>laidMetH Tryz.prog Rows.fnExactHldOpenRow.laid w) (fun _ _ _ hh h=>h.of_heap hh) own started (by kernel_rfl) Tryz.func3
  (ChangeSpec.witness_at (enc:=enc) (C:=Tryz.checked) (os:=os) (X:=fun w _=>laidMetH Tryz.prog Rows.fnExactHldOpenRow.laid w) false (laidWorld os) #[.agg #[zI 0,zI 0],.agg z8.toArray,zI 0] 8 rfl (by kernel_rfl) (by kernel_rfl) (by kernel_rfl) (by kernel_rfl) (by kernel_rfl) (laidWorld_met os _)) ?_
 intro W base args ds gs before hval0 hW _ _ hL _;have hg:=handle_of_laid hL;have hval:∀ (j:Nat) t v,Tryz.f3.params[j]? = some t->args[j]? = some v->Value.okWide Tryz.prog W .any base t v:=hval0;have hW':=hW;obtain ⟨p,q,hA0,hV,rfl,hfz,hnd⟩:=hW;have hA:DataW.TrodAll enc Tryz.prog W 0 (fun _=>true) true Tryz.f3.params.toList args.toList ds p:=hA0;rw [Tryz.params3] at hA hval;obtain ⟨v0,vs0,d0,ds0,p0,q0,hargs,rfl,rfl,h0,r0⟩:=trodAll_cons hA;obtain ⟨v1,vs1,d1,ds1,p1,q1,rfl,rfl,rfl,h1,r1⟩:=trodAll_cons r0;obtain ⟨v2,vs2,d2,ds2,p2,q2,rfl,rfl,rfl,h2,r2⟩:=trodAll_cons r1;obtain ⟨rfl,rfl,rfl⟩:=trodAll_nil r2;obtain rfl:args=#[v0,v1,v2]:=by cases args;simp_all
 obtain ⟨rfl,rfl⟩:=trodVars_none hV;have k0:=h0;have lt0:∀ x ∈ p0,x.block<W.heap.size:=by obtain ⟨m,hm⟩:=k0;exact DataW.trod_lt m _ _ _ hm
 obtain ⟨a0x,a0y,rfl,w0x,w0y⟩:=Aq Tryz.underlying23 Tryz.underlying3 (by kernel_rfl) (by kernel_rfl) ⟨rfl,rfl⟩ ⟨rfl,rfl⟩ (hval 0 23 v0 rfl rfl) h0;have k1:=h1;have lt1:∀ x ∈ p1,x.block<W.heap.size:=by obtain ⟨m,hm⟩:=k1;exact DataW.trod_lt m _ _ _ hm
 obtain ⟨a,V1,aW,kW,aO,kO,aX,kX,aI,kI,aR,nR,kR,Z,rfl,hc1,hs1,hn1,hw1,hr1,hz1⟩:=xI (ti:=3) (tC:=28) (tR:=29) Tryz.underlying31 (by kernel_rfl) Tryz.underlying3 (by kernel_rfl) (by kernel_rfl) (by kernel_rfl) ⟨rfl,rfl⟩ ⟨rfl,rfl⟩ ⟨rfl,rfl⟩ (hval 1 31 v1 rfl rfl) h1
  (fun cs d pl h=>xA (ti:=3) (tW:=24) (tO:=25) (tX:=26) Tryz.underlying28 (by kernel_rfl) ⟨rfl,rfl⟩ ⟨rfl,rfl⟩ ⟨rfl,rfl⟩ ⟨rfl,rfl⟩ ⟨rfl,rfl⟩ ⟨rfl,rfl⟩ Tryz.underlying24 Tryz.underlying57 (by kernel_rfl) rfl (by intro i f hf;match i,hf with | 0,hf=>(cases hf;exact ⟨rfl,rfl⟩) | 1,hf=>(cases hf;exact ⟨rfl,rfl⟩) | 2,hf=>(cases hf;exact ⟨rfl,rfl⟩) | 3,hf=>(cases hf;exact ⟨rfl,rfl⟩) | 4,hf=>(cases hf;exact ⟨rfl,rfl⟩) | i+5,hf=>simp at hf) Tryz.underlying26 (by kernel_rfl) (by kernel_rfl) (by kernel_rfl) Tryz.underlying25 Tryz.underlying122 (by kernel_rfl) Tryz.underlying59 Tryz.underlying57 Tryz.underlying3 (by kernel_rfl) (by kernel_rfl) (by kernel_rfl) rfl (by intro i f hf;match i,hf with | 0,hf=>(cases hf;exact ⟨rfl,rfl⟩) | 1,hf=>(cases hf;exact ⟨rfl,rfl⟩) | 2,hf=>(cases hf;exact ⟨rfl,rfl⟩) | 3,hf=>(cases hf;exact ⟨rfl,rfl⟩) | 4,hf=>(cases hf;exact ⟨rfl,rfl⟩) | i+5,hf=>simp at hf) ⟨rfl,rfl⟩ ⟨rfl,rfl⟩ ⟨rfl,rfl⟩ ⟨rfl,rfl⟩ h)
  (fun u d pl n x h=>by
   have hsl:∃ aa ll cc,u=.slice aa ll cc:=by
    rcases Go.Deep.open_slice Tryz.underlying29 h with ⟨hq,_⟩ | ⟨_,_,_,_,_,_,_,hq,_⟩
    ·exact ⟨_,_,_,by simpa using hq⟩
    exact ⟨_,_,_,by simpa using hq⟩
   obtain ⟨aa,ll,cc,rfl⟩:=hsl;obtain ⟨hl,Z,hZ,hw⟩:=P16.xX Tryz.underlying29 Tryz.underlying61 Tryz.underlying55 Tryz.underlying59 Tryz.underlying57 Tryz.underlying3 (by kernel_rfl) (by kernel_rfl) (by kernel_rfl) (by kernel_rfl) (by kernel_rfl) rfl rfl (by intro i f hf;match i,hf with | 0,hf=>(cases hf;exact ⟨rfl,rfl⟩) | 1,hf=>(cases hf;exact ⟨rfl,rfl⟩) | 2,hf=>(cases hf;exact ⟨rfl,rfl⟩) | 3,hf=>(cases hf;exact ⟨rfl,rfl⟩) | 4,hf=>(cases hf;exact ⟨rfl,rfl⟩) | i+5,hf=>simp at hf) (by intro i f hf;match i,hf with | 0,hf=>(cases hf;exact ⟨rfl,rfl⟩) | 1,hf=>(cases hf;exact ⟨rfl,rfl⟩) | 2,hf=>(cases hf;exact ⟨rfl,rfl⟩) | 3,hf=>(cases hf;exact ⟨rfl,rfl⟩) | 4,hf=>(cases hf;exact ⟨rfl,rfl⟩) | i+5,hf=>simp at hf) ⟨rfl,rfl⟩ ⟨rfl,rfl⟩ ⟨rfl,rfl⟩ ⟨rfl,rfl⟩ ⟨rfl,rfl⟩ ⟨rfl,rfl⟩ ⟨rfl,rfl⟩ ⟨rfl,rfl⟩ ⟨rfl,rfl⟩ (show DataW.Trod enc Tryz.prog W 0 (fun _=>true) true 29 (.slice aa ll cc) x.1 x.2 from ⟨n,h⟩)
   exact ⟨aa,ll,cc,Z,rfl,hl,hZ,hw⟩)
 have k2:=h2;have lt2:∀ x ∈ p2,x.block<W.heap.size:=by obtain ⟨m,hm⟩:=k2;exact DataW.trod_lt m _ _ _ hm
 obtain ⟨zg,rfl,_,_,_⟩:=open_int Tryz.underlying3 (hval 2 3 v2 rfl rfl) h2;clear hA0 hval0;refine (LJ a0x a0y zg a V1 Z aW kW aO kO aX kX aI kI aR nR kR hs1 hn1 (fun k hk=>hw1 k 0 hk (by omega)) hz1 W hg hc1 hr1).mono fun e W' ⟨he,bel⟩=>?_;subst he;exact ⟨_,rfl,_,_,_,[],_,[],hW',trodAll_mk1 (shut_bool Tryz.underlying4 _),(trodAll_cons_mk (Below.trod laidOut (by kernel_rfl) (of_decide_eq_true (by kernel_rfl)) k0 bel lt0) (trodAll_cons_mk (Below.trod laidOut (by kernel_rfl) (of_decide_eq_true (by kernel_rfl)) k1 bel lt1) (trodAll_cons_mk (Below.trod laidOut (by kernel_rfl) (of_decide_eq_true (by kernel_rfl)) k2 bel lt2) trodAll_mk0))),rfl,bel.frame _,fun h=>by cases h⟩
theorem over:Rows.FnExactHldOpenSaid :=
 OpenClaim.holds_of_wide 3 Tryz.f3 rfl rfl rfl rfl rfl rfl rfl ⟨rfl,rfl,rfl,rfl,rfl⟩ rfl rfl rfl rfl rfl (by kernel_rfl) Tryz.func3 (by kernel_rfl)
  (of_decide_eq_true (by kernel_rfl)) (by unfold Func.isWrapper;first | (rw [if_pos (by decide +kernel)];kernel_rfl) | (rw [if_neg (by decide +kernel)];exact ⟨rfl,rfl⟩))
  (fun os started H enc _=>lifted os started H enc)
end FnExactHldOpenDone
