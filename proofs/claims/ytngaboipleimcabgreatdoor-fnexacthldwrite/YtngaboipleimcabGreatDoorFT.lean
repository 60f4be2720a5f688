/- The records of a list, told one behind the other; fold of the program: records done in a scene as long as they fit; conditions: scene and list lie in memory, the list below the scene. -/
import Derived.RangeFuncBox
import Derived.RangeFuncNested
import Derived.RangeFuncLeaves
import Derived.RangeFuncCalls
import Derived.Shelf.Abstract
import Derived.WalkKit
import Derived.OwnWalkIn
import Derived.TacticsInMore
import Derived.LoopNIn
import Derived.LoopIn
import Derived.Test.YtngaboipleimcabGreatDoorFP
set_option linter.unusedVariables false
set_option maxHeartbeats 4000000
set_option maxRecDepth 100000
namespace Go.Proofs.YtngaboipleimcabGreatDoor
open Go.RowKit Go.Shelf
attribute [local go_sem] Oper.semAt_some
/-- The first k numbers below len. -/
def oU (len k:Nat):List (Fin len):=(List.finRange len).take k
theorem ny {len k:Nat} (h:k<len):oU len (k+1)=oU len k++[⟨k,h⟩]:=by
 unfold oU;rw [List.take_add_one];simp [h]
theorem jY {len k:Nat} (h:k<=len):(oU len k).length=k:=by simp [oU];omega
theorem Ce (F:Fence) (n:Nat) (am:F.fn 137) (ao:F.round=none) (hn:1<=n) (l Bs n₀ b ab len ar B:Nat) (Z:Nat->Nat->Int) (ac:len<=1048576) (hb:b<n₀) (J Jx:List (Fin len)->World->Prop) (an:AbidesFrom B J)
 (hY:∀ pre (x:Fin len) W,J pre W->pre.length<len->YieldAt F (n - 1) Tryz.prog l #[.agg #[zI (Z x.1 0),zI (Z x.1 1),zI (Z x.1 2),zI (Z x.1 3),zI (Z x.1 4),zI (Z x.1 5),zI (Z x.1 6),zI (Z x.1 7),zI (Z x.1 8),zI (Z x.1 9),zI (Z x.1 10),zI (Z x.1 11),zI (Z x.1 12),zI (Z x.1 13),zI (Z x.1 14),zI (Z x.1 15)]] W fun e W' =>
  (e=.returned (.bool true)/\J (pre++[x]) W'/\Below n₀ W W')∨(e=.returned (.bool false)/\Jx (pre++[x]) W'))
 (W:World) (az:n₀<=W.heap.size) (aw:W.cell? (zA Bs 0)=some (.slice (some (zA b ab)) len ar)) (hc:∀ k j,k<len->j<16->W.cell? (zA b (ab+k * 16+j))=some (zI (Z k j))) (h0:J [] W) :
 CallsIn F n Tryz.prog 137 #[.func (.yield l) #[] #[],zP Bs 0] W fun e W'=>(∃ v,e=.returned v) /\
  ((∃ ys,ys=oU len len/\J ys W')∨(∃ pre,(∃ k,k<=len/\pre=oU len k)/\Jx pre W')):=by
 have HC:bY (∀ k j,k<len->j<16->W.cell? (zA b (ab+k * 16+j))=some (zI (Z k j))):=hc;clear hc;refine callsIn_of_wp Tryz.func137 rfl am ?_ ao;simp only [Tryz.ntmps137,List.size_toArray,List.length_cons,List.length_nil,Nat.reduceAdd,Nat.reduceSub,Array.replicate_succ,Array.replicate_zero,List.push_toArray,List.append_toArray,List.nil_append,List.cons_append];gi_wp2;gi_loopw [7] (fun i wr=>∃ k:Nat,k<=len/\i=zI k/\J (oU len k) wr/\Below n₀ W wr)
  (fun i _=>len - (intOf i).toNat)
 case atStart=>exact ⟨0,Nat.zero_le _,rfl,h0,Hr _ _⟩
 case round =>
  obtain ⟨k,hk,rfl,ag,ad⟩:=hrel;by_cases aa:k<len
  ·have ap:(k:Int)<len:=by omega
   have hz:=ad.size;have ak:J (oU len k) (wr.alloc (.cells #[zI (Z k 0),zI (Z k 1),zI (Z k 2),zI (Z k 3),zI (Z k 4),zI (Z k 5),zI (Z k 6),zI (Z k 7),zI (Z k 8),zI (Z k 9),zI (Z k 10),zI (Z k 11),zI (Z k 12),zI (Z k 13),zI (Z k 14),zI (Z k 15)] 71)):=an _ _ _ none ag (World.grownBy_alloc wr _ none) (fun r e=>by cases e);obtain ⟨fn,aq,ae,av,hy,hR⟩:=hY _ ⟨k,aa⟩ _ ak (by rw [jY hk];exact aa);simp only at hy hR;have c0:=cq16 (fun j hj=>(ad.cell (p:=(zA b (ab+k * 16+j))) hb).trans (HC.o k j aa (by omega)));gi_wp2;refine hR.mono ?_;rintro e W3 (⟨rfl,ai,al⟩ | ⟨rfl,af⟩)
   ·gi_wp2;go_roundw
    case rel=>exact ⟨k+1,by omega,by simp,by rw [ny aa];exact ai,(ad.alloc (by omega) _).trans al⟩
    case measure=>simp [intOf];omega
   gi_wp2;refine Hw (results_none rfl _ _ _) rfl ?_;exact ⟨⟨_,rfl⟩,.inr ⟨_,⟨k+1,by omega,(ny aa).symm⟩,af⟩⟩
  obtain rfl:k=len:=by omega
  gi_wp2;go_end0;exact ⟨⟨_,rfl⟩,.inl ⟨_,rfl,ag⟩⟩
theorem DW (F:Fence) (n:Nat) (ab:F.fn 115) (ac:F.round=none) (a:Option Addr) (len aa:Nat) (w:World) :
 CallsIn F n Tryz.prog 115 #[.slice a len aa] w fun e w'=>e=.returned (.func (.func 137) #[] #[zP w.heap.size 0])/\w'=w.alloc (.cells #[.slice a len aa] 39):=by
 refine callsIn_of_wp Tryz.func115 rfl ab ?_ ac;simp only [Tryz.ntmps115,List.size_toArray,List.length_cons,List.length_nil,Nat.reduceAdd,Nat.reduceSub,Array.replicate_succ,Array.replicate_zero,List.push_toArray,List.append_toArray,List.nil_append,List.cons_append];gi_wp2;go_ret;exact ⟨rfl,rfl⟩
theorem yA (F:Fence) (n:Nat) (ag:F.fn 137) (ai:F.round=none) (hn:1<=n) (Bs n₀ b ab len ac:Nat) (Z:Nat->Nat->Int) (aa:len<=1048576) (hb:b<n₀) (w:World) (af:Bs<w.heap.size) (ae:n₀<=w.heap.size)
 (hc:w.cell? (zA Bs 0)=some (.slice (some (zA b ab)) len ac)) (hr:∀ k j,k<len->j<16->w.cell? (zA b (ab+k * 16+j))=some (zI (Z k j))) :
 SeqStopsK F n Tryz.prog 137 #[zP Bs 0] (fun x:Fin len=>#[.agg #[zI (Z x.1 0),zI (Z x.1 1),zI (Z x.1 2),zI (Z x.1 3),zI (Z x.1 4),zI (Z x.1 5),zI (Z x.1 6),zI (Z x.1 7),zI (Z x.1 8),zI (Z x.1 9),zI (Z x.1 10),zI (Z x.1 11),zI (Z x.1 12),zI (Z x.1 13),zI (Z x.1 14),zI (Z x.1 15)]]) (Below n₀) (fun ys=>ys=oU len len) (fun ad=>∃ k,k<=len/\ad=oU len k) len w:=fun l J Jx W hW hJ _ hY h0 =>
 Ce F n ag ai hn l Bs n₀ b ab len ac W.heap.size Z aa hb J Jx hJ hY W (Hq ae hW.size) ((hW.cell (p:=(zA Bs 0)) af).trans hc) (fun k j h1 h2=>(hW.cell (p:=(zA b (ab+k * 16+j))) (by show b<_;omega)).trans (hr k j h1 h2)) h0
