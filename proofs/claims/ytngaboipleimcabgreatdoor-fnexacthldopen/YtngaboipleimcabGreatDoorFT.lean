/- The records of a list, told one behind the other; fold of the program: records done in a scene as long as they fit; conditions: scene and list lie in memory, the list below the scene. -/
import Derived.RangeFuncBox
import Derived.RangeFuncNested
import Derived.RangeFuncLeaves
import Derived.RangeFuncCalls
import Derived.Shelf.Abstract
import Derived.WalkKit
import Derived.OwnWalkIn
import Derived.TacticsInMore
import Derived.LoopNIn
import Derived.LoopIn
import Derived.Test.YtngaboipleimcabGreatDoorFP
set_option linter.unusedVariables false
set_option maxHeartbeats 4000000
set_option maxRecDepth 100000
namespace Go.Proofs.YtngaboipleimcabGreatDoor
open Go.RowKit Go.Shelf
attribute [local go_sem] Oper.semAt_some
/-- The first k numbers below len. -/
def oU (len k:Nat):List (Fin len):=(List.finRange len).take k
theorem ny {len k:Nat} (h:k<len):oU len (k+1)=oU len k++[⟨k,h⟩]:=by
 unfold oU;rw [List.take_add_one];simp [h]
theorem jY {len k:Nat} (h:k<=len):(oU len k).length=k:=by simp [oU];omega
theorem Ce (F:Fence) (n:Nat) (h67:F.fn 137) (hro:F.round=none) (hn:1<=n) (l Bs n₀ b off len cap B:Nat) (a:Option Addr) (ha:len≠0->a=some (zA b off)) (Z:Nat->Nat->Int) (hreach:len<=1048576) (hb:b<n₀) (J Jx:List (Fin len)->World->Prop) (hJa:AbidesFrom B J)
 (hY:∀ pre (x:Fin len) W,J pre W->pre.length<len->YieldAt F (n - 1) Tryz.prog l #[.agg #[zI (Z x.1 0),zI (Z x.1 1),zI (Z x.1 2),zI (Z x.1 3),zI (Z x.1 4),zI (Z x.1 5),zI (Z x.1 6),zI (Z x.1 7),zI (Z x.1 8),zI (Z x.1 9),zI (Z x.1 10),zI (Z x.1 11),zI (Z x.1 12),zI (Z x.1 13),zI (Z x.1 14),zI (Z x.1 15)]] W fun e W' =>
  (e=.returned (.bool true)/\J (pre++[x]) W'/\Below n₀ W W')∨(e=.returned (.bool false)/\Jx (pre++[x]) W'))
 (W:World) (hn0:n₀<=W.heap.size) (hBs:W.cell? (zA Bs 0)=some (.slice a len cap)) (hc:∀ k j,k<len->j<16->W.cell? (zA b (off+k * 16+j))=some (zI (Z k j))) (h0:J [] W) :
 CallsIn F n Tryz.prog 137 #[.func (.yield l) #[] #[],zP Bs 0] W fun e W'=>(∃ v,e=.returned v) /\
  ((∃ ys,ys=oU len len/\J ys W')∨(∃ pre,(∃ k,k<=len/\pre=oU len k)/\Jx pre W')):=by
 have HC:bY (∀ k j,k<len->j<16->W.cell? (zA b (off+k * 16+j))=some (zI (Z k j))):=hc;clear hc;refine callsIn_of_wp Tryz.func137 rfl h67 ?_ hro;simp only [Tryz.ntmps137,List.size_toArray,List.length_cons,List.length_nil,Nat.reduceAdd,Nat.reduceSub,Array.replicate_succ,Array.replicate_zero,List.push_toArray,List.append_toArray,List.nil_append,List.cons_append];gi_wp2;gi_loopw [7] (fun i wr=>∃ k:Nat,k<=len/\i=zI k/\J (oU len k) wr/\Below n₀ W wr)
  (fun i _=>len - (intOf i).toNat)
 case atStart=>exact ⟨0,Nat.zero_le _,rfl,h0,Hr _ _⟩
 case round =>
  obtain ⟨k,hk,rfl,hJs,hnx⟩:=hrel;by_cases hlt:k<len
  ·have hkn':(k:Int)<len:=by omega
   obtain rfl:=ha (by omega);have hz:=hnx.size;have hJ2:J (oU len k) (wr.alloc (.cells #[zI (Z k 0),zI (Z k 1),zI (Z k 2),zI (Z k 3),zI (Z k 4),zI (Z k 5),zI (Z k 6),zI (Z k 7),zI (Z k 8),zI (Z k 9),zI (Z k 10),zI (Z k 11),zI (Z k 12),zI (Z k 13),zI (Z k 14),zI (Z k 15)] 71)):=hJa _ _ _ none hJs (World.grownBy_alloc wr _ none) (fun r e=>by cases e);obtain ⟨fn,tmps,assign,body,hy,hR⟩:=hY _ ⟨k,hlt⟩ _ hJ2 (by rw [jY hk];exact hlt);simp only at hy hR;have c0:=cq16 (fun j hj=>(hnx.cell (p:=(zA b (off+k * 16+j))) hb).trans (HC.o k j hlt (by omega)));gi_wp2;refine hR.mono ?_;rintro e W3 (⟨rfl,hJ3,hk3⟩ | ⟨rfl,hJx3⟩)
   ·gi_wp2;go_roundw
    case rel=>exact ⟨k+1,by omega,by simp,by rw [ny hlt];exact hJ3,(hnx.alloc (by omega) _).trans hk3⟩
    case measure=>simp [intOf];omega
   gi_wp2;refine Hw (results_none rfl _ _ _) rfl ?_;exact ⟨⟨_,rfl⟩,.inr ⟨_,⟨k+1,by omega,(ny hlt).symm⟩,hJx3⟩⟩
  obtain rfl:k=len:=by omega
  gi_wp2;go_end0;exact ⟨⟨_,rfl⟩,.inl ⟨_,rfl,hJs⟩⟩
theorem DW (F:Fence) (n:Nat) (h46:F.fn 115) (hro:F.round=none) (a:Option Addr) (len cap:Nat) (w:World) :
 CallsIn F n Tryz.prog 115 #[.slice a len cap] w fun e w'=>e=.returned (.func (.func 137) #[] #[zP w.heap.size 0])/\w'=w.alloc (.cells #[.slice a len cap] 39):=by
 refine callsIn_of_wp Tryz.func115 rfl h46 ?_ hro;simp only [Tryz.ntmps115,List.size_toArray,List.length_cons,List.length_nil,Nat.reduceAdd,Nat.reduceSub,Array.replicate_succ,Array.replicate_zero,List.push_toArray,List.append_toArray,List.nil_append,List.cons_append];gi_wp2;go_ret;exact ⟨rfl,rfl⟩
theorem yA (F:Fence) (n:Nat) (h67:F.fn 137) (hro:F.round=none) (hn:1<=n) (Bs n₀ b off len cap:Nat) (a:Option Addr) (ha:len≠0->a=some (zA b off)) (Z:Nat->Nat->Int) (hreach:len<=1048576) (hb:b<n₀) (w:World) (hBs:Bs<w.heap.size) (hn₀:n₀<=w.heap.size)
 (hc:w.cell? (zA Bs 0)=some (.slice a len cap)) (hr:∀ k j,k<len->j<16->w.cell? (zA b (off+k * 16+j))=some (zI (Z k j))) :
 SeqStopsK F n Tryz.prog 137 #[zP Bs 0] (fun x:Fin len=>#[.agg #[zI (Z x.1 0),zI (Z x.1 1),zI (Z x.1 2),zI (Z x.1 3),zI (Z x.1 4),zI (Z x.1 5),zI (Z x.1 6),zI (Z x.1 7),zI (Z x.1 8),zI (Z x.1 9),zI (Z x.1 10),zI (Z x.1 11),zI (Z x.1 12),zI (Z x.1 13),zI (Z x.1 14),zI (Z x.1 15)]]) (Below n₀) (fun ys=>ys=oU len len) (fun pre=>∃ k,k<=len/\pre=oU len k) len w:=fun l J Jx W hW hJ _ hY h0 =>
 Ce F n h67 hro hn l Bs n₀ b off len cap W.heap.size a ha Z hreach hb J Jx hJ hY W (Hq hn₀ hW.size) ((hW.cell (p:=(zA Bs 0)) hBs).trans hc) (fun k j h1 h2=>(hW.cell (p:=(zA b (off+k * 16+j))) (by show b<_;omega)).trans (hr k j h1 h2)) h0
