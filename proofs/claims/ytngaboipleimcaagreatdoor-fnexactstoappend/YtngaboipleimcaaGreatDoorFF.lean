/- fold of the program: records done in a scene as long as they fit; conditions: scene and list lie in memory, the list below the scene. -/
import Derived.RangeFuncBox
import Derived.RangeFuncNested
import Derived.RangeFuncLeaves
import Derived.RangeFuncCalls
import Derived.Shelf.Abstract
import Derived.WalkKit
import Derived.OwnWalkIn
import Derived.TacticsInMore
import Derived.LoopNIn
import Derived.LoopIn
import Derived.Test.YtngaboipleimcaaGreatDoorFP
import Derived.WalkMore
set_option linter.unusedVariables false
set_option maxHeartbeats 4000000
set_option maxRecDepth 100000
namespace Go.Proofs.YtngaboipleimcaaGreatDoor
open Go.RowKit Go.Shelf
attribute [local go_sem] Oper.semAt_some
/-- The first k numbers below len. -/
def oU (len k:Nat):List (Fin len):=(List.finRange len).take k
theorem ny {len k:Nat} (h:k<len):oU len (k+1)=oU len k++[⟨k,h⟩]:=by
 unfold oU
 rw [List.take_add_one]
 simp [h]
theorem jY {len k:Nat} (h:k≤len):(oU len k).length=k:=by simp [oU];omega
theorem Ce (F:Fence) (n:Nat) (h67:F.fn 134) (hro:F.round=none) (hn:1≤n) (l Bs n₀ b off len cap B:Nat) (Z:Nat→Nat→Int) (hreach:len≤1048576) (hb:b<n₀) (J Jx:List (Fin len)→World→Prop) (hJa:AbidesFrom B J)
 (hY:∀ pre (x:Fin len) W,J pre W→pre.length<len→YieldAt F (n - 1) Tryz.prog l #[.agg #[zI (Z x.1 0),zI (Z x.1 1),zI (Z x.1 2),zI (Z x.1 3),zI (Z x.1 4),zI (Z x.1 5),zI (Z x.1 6),zI (Z x.1 7),zI (Z x.1 8),zI (Z x.1 9),zI (Z x.1 10),zI (Z x.1 11),zI (Z x.1 12),zI (Z x.1 13),zI (Z x.1 14),zI (Z x.1 15)]] W fun e W' =>
  (e=.returned (.bool true)∧J (pre++[x]) W'∧Below n₀ W W')∨(e=.returned (.bool false)∧Jx (pre++[x]) W'))
 (W:World) (hn0:n₀≤W.heap.size) (hBs:W.cell? (zA Bs 0)=some (.slice (some (zA b off)) len cap)) (hc:∀ k j,k<len→j<16→W.cell? (zA b (off+k * 16+j))=some (zI (Z k j))) (h0:J [] W) :
 CallsIn F n Tryz.prog 134 #[.func (.yield l) #[] #[],zP Bs 0] W fun e W'=>(∃ v,e=.returned v) ∧
  ((∃ ys,ys=oU len len∧J ys W')∨(∃ pre,(∃ k,k≤len∧pre=oU len k)∧Jx pre W')):=by
 have HC:Hid (∀ k j,k<len→j<16→W.cell? (zA b (off+k * 16+j))=some (zI (Z k j))):=hc
 clear hc
 refine callsIn_of_wp Tryz.func134 rfl h67 ?_ hro
 simp only [Tryz.ntmps134,List.size_toArray,List.length_cons,List.length_nil,Nat.reduceAdd,Nat.reduceSub,Array.replicate_succ,Array.replicate_zero,List.push_toArray,List.append_toArray,List.nil_append,List.cons_append]
 gi_wp2
 gi_loopw [7] (fun i wr=>∃ k:Nat,k≤len∧i=zI k∧J (oU len k) wr∧Below n₀ W wr)
  (fun i _=>len - (intOf i).toNat)
 case atStart=>exact ⟨0,Nat.zero_le _,rfl,h0,Hr _ _⟩
 case round =>
  obtain ⟨k,hk,rfl,hJs,hnx⟩:=hrel
  by_cases hlt:k<len
  ·have hkn':(k:Int)<len:=by omega
   have hz:=hnx.size
   have hJ2:J (oU len k) (wr.alloc (.cells #[zI (Z k 0),zI (Z k 1),zI (Z k 2),zI (Z k 3),zI (Z k 4),zI (Z k 5),zI (Z k 6),zI (Z k 7),zI (Z k 8),zI (Z k 9),zI (Z k 10),zI (Z k 11),zI (Z k 12),zI (Z k 13),zI (Z k 14),zI (Z k 15)] 52)):=hJa _ _ _ none hJs (World.grownBy_alloc wr _ none) (fun r e=>by cases e)
   obtain ⟨fn,tmps,assign,body,hy,hR⟩:=hY _ ⟨k,hlt⟩ _ hJ2 (by rw [jY hk];exact hlt)
   simp only at hy hR
   have c0:wr.cell? (zA b (off+k * 16))=some (zI (Z k 0)):=(hnx.cell (p:=(zA b (off+k * 16))) hb).trans (HC.out k 0 hlt (by omega))
   have c1:wr.cell? (zA b (off+k * 16+1))=some (zI (Z k 1)):=(hnx.cell (p:=(zA b (off+k * 16+1))) hb).trans (HC.out k 1 hlt (by omega))
   have c2:wr.cell? (zA b (off+k * 16+2))=some (zI (Z k 2)):=(hnx.cell (p:=(zA b (off+k * 16+2))) hb).trans (HC.out k 2 hlt (by omega))
   have c3:wr.cell? (zA b (off+k * 16+3))=some (zI (Z k 3)):=(hnx.cell (p:=(zA b (off+k * 16+3))) hb).trans (HC.out k 3 hlt (by omega))
   have c4:wr.cell? (zA b (off+k * 16+4))=some (zI (Z k 4)):=(hnx.cell (p:=(zA b (off+k * 16+4))) hb).trans (HC.out k 4 hlt (by omega))
   have c5:wr.cell? (zA b (off+k * 16+5))=some (zI (Z k 5)):=(hnx.cell (p:=(zA b (off+k * 16+5))) hb).trans (HC.out k 5 hlt (by omega))
   have c6:wr.cell? (zA b (off+k * 16+6))=some (zI (Z k 6)):=(hnx.cell (p:=(zA b (off+k * 16+6))) hb).trans (HC.out k 6 hlt (by omega))
   have c7:wr.cell? (zA b (off+k * 16+7))=some (zI (Z k 7)):=(hnx.cell (p:=(zA b (off+k * 16+7))) hb).trans (HC.out k 7 hlt (by omega))
   have c8:wr.cell? (zA b (off+k * 16+8))=some (zI (Z k 8)):=(hnx.cell (p:=(zA b (off+k * 16+8))) hb).trans (HC.out k 8 hlt (by omega))
   have c9:wr.cell? (zA b (off+k * 16+9))=some (zI (Z k 9)):=(hnx.cell (p:=(zA b (off+k * 16+9))) hb).trans (HC.out k 9 hlt (by omega))
   have c10:wr.cell? (zA b (off+k * 16+10))=some (zI (Z k 10)):=(hnx.cell (p:=(zA b (off+k * 16+10))) hb).trans (HC.out k 10 hlt (by omega))
   have c11:wr.cell? (zA b (off+k * 16+11))=some (zI (Z k 11)):=(hnx.cell (p:=(zA b (off+k * 16+11))) hb).trans (HC.out k 11 hlt (by omega))
   have c12:wr.cell? (zA b (off+k * 16+12))=some (zI (Z k 12)):=(hnx.cell (p:=(zA b (off+k * 16+12))) hb).trans (HC.out k 12 hlt (by omega))
   have c13:wr.cell? (zA b (off+k * 16+13))=some (zI (Z k 13)):=(hnx.cell (p:=(zA b (off+k * 16+13))) hb).trans (HC.out k 13 hlt (by omega))
   have c14:wr.cell? (zA b (off+k * 16+14))=some (zI (Z k 14)):=(hnx.cell (p:=(zA b (off+k * 16+14))) hb).trans (HC.out k 14 hlt (by omega))
   have c15:wr.cell? (zA b (off+k * 16+15))=some (zI (Z k 15)):=(hnx.cell (p:=(zA b (off+k * 16+15))) hb).trans (HC.out k 15 hlt (by omega))
   gi_wp2
   refine hR.mono ?_
   rintro e W3 (⟨rfl,hJ3,hk3⟩ | ⟨rfl,hJx3⟩)
   ·gi_wp2
    go_roundw
    case rel=>exact ⟨k+1,by omega,by simp,by rw [ny hlt];exact hJ3,(hnx.alloc (by omega) _).trans hk3⟩
    case measure=>simp [intOf];omega
   ·gi_wp2
    refine Hw (results_none rfl _ _ _) rfl ?_
    exact ⟨⟨_,rfl⟩,.inr ⟨_,⟨k+1,by omega,(ny hlt).symm⟩,hJx3⟩⟩
  ·obtain rfl:k=len:=by omega
   gi_wp2
   go_end0
   exact ⟨⟨_,rfl⟩,.inl ⟨_,rfl,hJs⟩⟩
theorem DW (F:Fence) (n:Nat) (h46:F.fn 107) (hro:F.round=none) (a:Option Addr) (len cap:Nat) (w:World) :
 CallsIn F n Tryz.prog 107 #[.slice a len cap] w fun e w'=>e=.returned (.func (.func 134) #[] #[zP w.heap.size 0])∧w'=w.alloc (.cells #[.slice a len cap] 61):=by
 refine callsIn_of_wp Tryz.func107 rfl h46 ?_ hro
 simp only [Tryz.ntmps107,List.size_toArray,List.length_cons,List.length_nil,Nat.reduceAdd,Nat.reduceSub,Array.replicate_succ,Array.replicate_zero,List.push_toArray,List.append_toArray,List.nil_append,List.cons_append]
 gi_wp2
 go_ret
 exact ⟨rfl,rfl⟩
theorem yA (F:Fence) (n:Nat) (h67:F.fn 134) (hro:F.round=none) (hn:1≤n) (Bs n₀ b off len cap:Nat) (Z:Nat→Nat→Int) (hreach:len≤1048576) (hb:b<n₀) (w:World) (hBs:Bs<w.heap.size) (hn₀:n₀≤w.heap.size)
 (hc:w.cell? (zA Bs 0)=some (.slice (some (zA b off)) len cap)) (hr:∀ k j,k<len→j<16→w.cell? (zA b (off+k * 16+j))=some (zI (Z k j))) :
 SeqStopsK F n Tryz.prog 134 #[zP Bs 0] (fun x:Fin len=>#[.agg #[zI (Z x.1 0),zI (Z x.1 1),zI (Z x.1 2),zI (Z x.1 3),zI (Z x.1 4),zI (Z x.1 5),zI (Z x.1 6),zI (Z x.1 7),zI (Z x.1 8),zI (Z x.1 9),zI (Z x.1 10),zI (Z x.1 11),zI (Z x.1 12),zI (Z x.1 13),zI (Z x.1 14),zI (Z x.1 15)]]) (Below n₀) (fun ys=>ys=oU len len) (fun pre=>∃ k,k≤len∧pre=oU len k) len w:=fun l J Jx W hW hJ _ hY h0 =>
 Ce F n h67 hro hn l Bs n₀ b off len cap W.heap.size Z hreach hb J Jx hJ hY W (Hq hn₀ hW.size) ((hW.cell (p:=(zA Bs 0)) hBs).trans hc) (fun k j h1 h2=>(hW.cell (p:=(zA b (off+k * 16+j))) (by show b<_;omega)).trans (hr k j h1 h2)) h0
attribute [local go_sem] Oper.semAt_some
theorem Sc.grown {w w':World} {c d:Int} {s b:Nat} {lo:Lo} {V:CV} {n:Nat} {M:Int→Option (Nat→Int)} {row:Option Nat} (h:Sc w c d s b lo V n M) (hg:w.grownBy w' row) (hr:∀ r,row=some r→¬ r=b∧((lo.k0≤r∧r<lo.k1)∨∃ o:Obj,w.heap[r]? = some o∧o.isCells=false)):Sc w' c d s b lo V n M:=by
 obtain ⟨aW,kW,kO,aX,kX,aI,kI,gW,gO,gX,gI,sl,xs,hN,rW,rX,rI,hO,hM,⟨l1,l2,l3,l4,l5,l6,l7,l8⟩,hd,hx1,hx2,hkk⟩:=h
 have hz:=hg.size
 have k:∀ g o,g<w.heap.size→(w.cell? (zA g o)).isSome=true→(g<lo.k0∨lo.k1≤g)→Sm w w' g:=fun g o h1 h2 h5=>bG hg h1 (fun e=>by
  obtain ⟨_,h6 | ⟨ob,h3,h4⟩⟩:=hr g (by rw [e])
  ·omega
  ·rw [vY h2 h3] at h4;cases h4)
 have kW':V.nW≠0→gW<w.heap.size→Sm w w' gW:=fun e h1=>by
  rcases rW with ⟨e0,_⟩ | ⟨_,_,_,_,_,ho⟩
  ·exact absurd e0 e
  ·exact k gW _ h1 (by rw [ho.2 0 0 (by omega) (by omega)];rfl) (hkk.W e)
 have k1:∀ {a:Option Addr} {k m:Nat} {X:Nat→Int} {g:Nat},RI lo.l w.heap.size w (.slice a m k) m X g→m≠0→(g<lo.k0∨lo.k1≤g)→g<w.heap.size→Sm w w' g:=fun r e h5 h1=>by
  rcases r with ⟨e0,_⟩ | ⟨_,_,_,_,_,ho⟩
  ·exact absurd e0 e
  ·exact k _ _ h1 (by rw [ho.2 0 (by omega)];rfl) h5
 have kx:∀ j,j<V.nO→V.N j≠0→xs j<w.heap.size→Sm w w' (xs j):=fun j hj e h1=>by
  rcases (hO j hj).2.2.1 with ⟨e0,_⟩ | ⟨_,_,_,_,_,ho⟩
  ·exact absurd e0 e
  ·exact k _ _ h1 (by rw [ho.2 0 0 (by omega) (by omega)];rfl) (hkk.x j hj e)
 have kO':∀ j,j<V.nO→Sm w w' gO:=fun j hj=>k gO j l2 (by rw [(hO j hj).1];rfl) hkk.O
 exact ⟨aW,kW,kO,aX,kX,aI,kI,gW,gO,gX,gI,sl,xs,hN.sm (k s 0 l4 (by rw [(hN 0 (by decide)).1];rfl) hkk.s),rW.go (Ho _) hz (Ho _) (fun e _ h=>kW' e h),rX.go (Ho _) hz (Ho _) (fun e _ h=>k1 rX e (hkk.X e) h),rI.go (Ho _) hz (Ho _) (fun e _ h=>k1 rI e (hkk.I e) h),
  fun j hj=>⟨(kO' j hj j).1.trans (hO j hj).1,(kO' j hj j).2.trans (hO j hj).2.1,(hO j hj).2.2.go (Ho _) hz (Ho _) (fun e _ h=>kx j hj e h)⟩,hM.kept hg (fun e=>(hr b (by rw [e])).1 rfl),⟨l1,by omega,l3,by omega,l5,l6,l7,l8⟩,hd,hx1,hx2,hkk.up hz⟩
theorem Sv.grown {w w':World} {c d:Int} {s b:Nat} {lo:Lo} {V:CV} {n:Nat} {row:Option Nat} (h:Sv w c d s b lo V n) (hg:w.grownBy w' row) (hr:∀ r,row=some r→¬ r=b∧((lo.k0≤r∧r<lo.k1)∨∃ o:Obj,w.heap[r]? = some o∧o.isCells=false)):Sv w' c d s b lo V n:=by
 obtain ⟨n0,W0,h⟩:=h
 exact ⟨n0,W0,h.grown hg hr⟩
theorem Sv.far {w:World} {c d:Int} {s b:Nat} {lo:Lo} {V:CV} {n x j:Nat} (h:Sv w c d s b lo V n) (h1:lo.k0≤x) (h2:x<lo.k1) (hb:¬ x=b) (u:Value):Sv (w.setCell (zA x j) u) c d s b lo V n :=
 h.grown (P8.aC w x j u).1 (fun r e=>by injection e with e;subst e;exact ⟨hb,.inl ⟨h1,h2⟩⟩)
theorem Sv.reach {w w':World} {c d:Int} {s b l:Nat} {V:CV} {n:Nat} (h:Sv w c d s b ⟨l,w.heap.size,w.heap.size⟩ V n) (hb:Below w.heap.size w w'):Sv w' c d s b ⟨l,w.heap.size,w'.heap.size⟩ V n:=by
 obtain ⟨n0,W0,h⟩:=h
 exact ⟨n0,W0,h.reach hb⟩
/-- What records do to a cell, one behind the other; whether all fit. -/
def jJ (c d:Int) (V:CV) (L:List (Nat→Int)):CV × Bool:=L.foldl (fun p x=>((aF c d p.1 x).1,p.2 && (aF c d p.1 x).2.2)) (V,true)
theorem nT {c d:Int} {V:CV} {L:List (Nat→Int)} {x:Nat→Int}:jJ c d V (L++[x])=((aF c d (jJ c d V L).1 x).1,(jJ c d V L).2 && (aF c d (jJ c d V L).1 x).2.2):=by simp [jJ]
theorem wQ {c d:Int}:∀ (L:List (Nat→Int)) (p:CV × Bool),bD c d p.1=true→bD c d (L.foldl (fun p x=>((aF c d p.1 x).1,p.2 && (aF c d p.1 x).2.2)) p).1=true
 | [],p,h=>h
 | x :: L,p,h=>wQ L _ (tZ h)
def kP {len:Nat} (Z:Nat→Nat→Int) (L:List (Fin len)):List (Nat→Int):=L.map (fun x=>Z x.1)
theorem nZ {len:Nat} {Z:Nat→Nat→Int} {L:List (Fin len)} {x:Fin len}:kP Z (L++[x])=kP Z L++[Z x.1]:=by simp [kP]
theorem pR {c d:Int} {V:CV} {len:Nat} {Z:Nat→Nat→Int}:∀ k,k≤len→(jJ c d V (kP Z (oU len k))).1=bg c d V Z k∧((jJ c d V (kP Z (oU len k))).2=true↔∀ j,j<k→wE c d V Z j=true)
 | 0,_=>by simp [oU,kP,jJ,bg]
 | k+1,h=>by
  obtain ⟨h1,h2⟩:=pR (c:=c) (d:=d) (V:=V) (len:=len) (Z:=Z) k (by omega)
  rw [ny (show k<len by omega),nZ,nT]
  refine ⟨by rw [h1];rfl,?_⟩
  rw [Bool.and_eq_true,h2,h1]
  constructor
  ·rintro ⟨a,b⟩ j hj
   by_cases e:j=k
   ·subst e;exact b
   ·exact a j (by omega)
  ·exact fun a=>⟨fun j hj=>a j (by omega),a k (by omega)⟩
def FI (c d:Int) (s b l:Nat) (V:CV) (n0:Nat) (Z:Nat→Nat→Int) (w w0:World) (len:Nat) (pre:List (Fin len)) (W:World):Prop :=
 (W.cell? (zA (w.heap.size+1) 0)=some (zI (pre.length:Int))∧W.frozen? (zA (w.heap.size+1) 0)=false∧W.cell? (zA w.heap.size 0)=some (zP s 0)∧w0.heap.size≤W.heap.size) ∧
 Sv W c d s b ⟨l,w.heap.size,w0.heap.size⟩ (jJ c d V (kP Z pre)).1 (n0+5 * pre.length)∧(jJ c d V (kP Z pre)).2=true∧Below l w W
def FX (c d:Int) (s b l:Nat) (V:CV) (n0:Nat) (Z:Nat→Nat→Int) (w w0:World) (len:Nat) (q:Code) (xs:List (Fin len)) (W:World):Prop :=
 q=Code.exit 0∧∃ pre x,xs=pre++[x]∧(aF c d (jJ c d V (kP Z pre)).1 (Z x.1)).2.2=false ∧
 (W.cell? (zA (w.heap.size+1) 0)=some (zI (pre.length:Int))∧W.frozen? (zA (w.heap.size+1) 0)=false∧w0.heap.size≤W.heap.size) ∧
 Sv W c d s b ⟨l,w.heap.size,w0.heap.size⟩ (jJ c d V (kP Z pre)).1 (n0+5 * len)∧(jJ c d V (kP Z pre)).2=true∧Below l w W
theorem Es (c d:Int) (s b l:Nat) (V:CV) (n0:Nat) (hV0:bD c d V=true) (bl off len cap:Nat) (Z:Nat→Nat→Int) (hlen:len≤1048576) (hwf0:∀ k j,k<len→j<16→(Lit.int .i64 (Z k j)).wf=true) (hl0:0<l) (w:World)
 (hg00:w.cell? (zA 0 0)=some (.iface 226 (.agg #[zP 1 199]))) (hbl:bl<l) (hr0:∀ k j,k<len→j<16→w.cell? (zA bl (off+k * 16+j))=some (zI (Z k j))) (hS0:Sv w c d s b ⟨l,w.heap.size,w.heap.size⟩ V n0) :
 CallsIn Fence.wide 5 Tryz.prog 63 #[zP s 0,.slice (some (zA bl off)) len cap] w fun e w'=>e=.returned (zI (gm c d V Z len:Int))∧(∃ k1,Sv w' c d s b ⟨l,w.heap.size,k1⟩ (bg c d V Z (gm c d V Z len)) (n0+5 * len))∧Below l w w':=by
 have hro:Fence.wide.round=none:=rfl
 have f107:Fence.wide.fn 107:=trivial
 have f51:Fence.wide.fn 51:=trivial
 have hls1:l≤s:=hS0.at.2.2.1.1
 have hls:l≤w.heap.size:=Hq hls1 (Nat.le_of_lt hS0.at.2.1)
 have hbw:b<w.heap.size:=hS0.at.2.2.2.2.1
 have hsw:s<w.heap.size:=hS0.at.2.1
 have hV:=hid hV0
 have hwf:=hid hwf0
 have hg0:=hid hg00
 have hr:=hid hr0
 have hS:=hid hS0
 clear hV0 hwf0 hg00 hr0 hS0
 refine callsIn_of_wp_marks Tryz.func63 rfl trivial ?_ hro
 simp only [Tryz.ntmps63,List.size_toArray,List.length_cons,List.length_nil,Nat.reduceAdd,Nat.reduceSub,Array.replicate_succ,Array.replicate_zero,List.push_toArray,List.append_toArray,List.nil_append,List.cons_append]
 gi_wp2
 refine wpIn_wide.2 (wp_scope_straight ((wpIn_wide (n:=5)).1 ?_))
 gi_wp2
 refine wpIn_label ?_
 gi_wp2_with (gi_at_call 107;refine (DW Fence.wide 4 trivial hro _ _ _ _).mono ?_;rintro e w' ⟨rfl,rfl⟩)
 have bA0:=Boxed.new w 93 (zP s 0)
 have bC0:=Boxed.new (w.alloc (.cells #[zP s 0] 93)) 3 (zI 0)
 have bN0:=Boxed.new ((w.alloc (.cells #[zP s 0] 93)).alloc (.cells #[zI 0] 3)) 61 (.slice (some (zA bl off)) len cap)
 simp only [World.size_alloc] at bC0 bN0
 have bA:=(bA0.alloc (.cells #[zI 0] 3)).alloc (.cells #[.slice (some (zA bl off)) len cap] 61)
 have bC:=bC0.alloc (.cells #[.slice (some (zA bl off)) len cap] 61)
 have hB0:Below w.heap.size w (((w.alloc (.cells #[zP s 0] 93)).alloc (.cells #[zI 0] 3)).alloc (.cells #[.slice (some (zA bl off)) len cap] 61)):=(((Hr _ w).alloc (Ho _) _).alloc (by simp) _).alloc (by simp;omega) _
 obtain ⟨W0,hW0⟩:∃ W0,(((w.alloc (.cells #[zP s 0] 93)).alloc (.cells #[zI 0] 3)).alloc (.cells #[.slice (some (zA bl off)) len cap] 61))=W0:=⟨_,rfl⟩
 have hsz:W0.heap.size=w.heap.size+1+1+1:=by rw [←hW0];simp
 rw [hW0] at bA bC bN0 hB0 ⊢
 clear hW0 bA0 bC0
 have hI0:FI c d s b l V n0 Z w W0 len [] W0:=⟨⟨bC.cell,bC.frozen,bA.cell,Ho _⟩,hS.out.reach hB0,rfl,hB0.mono hls⟩
 have hIo:OwnFrom W0.heap.size (FI c d s b l V n0 Z w W0 len):=fun pre W W' row hs hg hr=>by
  obtain ⟨⟨i1,i2,i3,i4⟩,i5,i6,i7⟩:=hs
  exact ⟨⟨cell_kept i1 hg (fun r e=>(hr r e).2),(frozen_kept i1 hg (fun r e=>(hr r e).2)).trans i2,cell_kept i3 hg (fun r e=>(hr r e).2),Hq i4 hg.size⟩,i5.grown hg (fun r e=>⟨by have:=(hr r e).1;omega,.inr (hr r e).2⟩),i6,i7.grown hg (by have:=i7.size;omega) (fun k e=>by have:=(hr k e).1;omega)⟩
 have hXo:∀ q,OwnFrom W0.heap.size (FX c d s b l V n0 Z w W0 len q):=fun q xs W W' row hs hg hr=>by
  obtain ⟨i0,pre,x,j1,j2,⟨i1,i2,i4⟩,i5,i6,i7⟩:=hs
  exact ⟨i0,pre,x,j1,j2,⟨cell_kept i1 hg (fun r e=>(hr r e).2),(frozen_kept i1 hg (fun r e=>(hr r e).2)).trans i2,Hq i4 hg.size⟩,i5.grown hg (fun r e=>⟨by have:=(hr r e).1;omega,.inr (hr r e).2⟩),i6,i7.grown hg (by have:=i7.size;omega) (fun k e=>by have:=(hr k e).1;omega)⟩
 refine wpIn_rangeFunc_ownH hro (by omega) (gf:=134) (lb:=#[zP (w.heap.size+1+1) 0]) rfl trivial (enters_of Tryz.func134 (by kernel_rfl) rfl)
  (yA Fence.wide 4 trivial hro (by omega) (w.heap.size+1+1) l bl off len cap Z hlen hbl W0 (by omega) (by omega) bN0.cell (fun k j g1 g2=>(hB0.cell (p:=(zA bl (off+k * 16+j))) (by show bl<_;omega)).trans (hr.out k j g1 g2))) belowK_t (belowK_b (by omega)) (Hr _ _) (fun _=>rfl)
  (FI c d s b l V n0 Z w W0 len) (FX c d s b l V n0 Z w W0 len) hIo hXo hI0
  (fun x a' W=>∃ Bx,w.heap.size+1+1<Bx∧(∀ j,j<16→W.cell? (zA Bx j)=some (zI (Z x.1 j)))∧a'={ tmps:=#[zP s 0,.slice (some (zA bl off)) len cap,zP w.heap.size 0,undef,zI 0,zP (w.heap.size+1) 0,zP Bx 0,undef,undef,.slice (some (zA bl off)) len cap,.func (.func 134) #[] #[zP (w.heap.size+1+1) 0],.agg #[zI (Z x.1 0),zI (Z x.1 1),zI (Z x.1 2),zI (Z x.1 3),zI (Z x.1 4),zI (Z x.1 5),zI (Z x.1 6),zI (Z x.1 7),zI (Z x.1 8),zI (Z x.1 9),zI (Z x.1 10),zI (Z x.1 11),zI (Z x.1 12),zI (Z x.1 13),zI (Z x.1 14),zI (Z x.1 15)],undef,undef,undef,undef,undef,undef,undef,undef,undef,undef,undef],defers:=[] })
  (fun x a' _ X Y row hs hg hr=>by obtain ⟨Bx,h1,h2,h3⟩:=hs;exact ⟨Bx,h1,fun j hj=>cell_kept (h2 j hj) hg (fun r e=>(hr r e).2),h3⟩)
  ?assign ?body ?done ?stop
 case assign =>
  rintro q pre x W K hI hK
  obtain ⟨⟨i1,i2,i3,i4⟩,i5,i6,i7⟩:=hI
  have hA:=(Hr W.heap.size W).alloc (Ho _) (.cells #[zI (Z x.1 0),zI (Z x.1 1),zI (Z x.1 2),zI (Z x.1 3),zI (Z x.1 4),zI (Z x.1 5),zI (Z x.1 6),zI (Z x.1 7),zI (Z x.1 8),zI (Z x.1 9),zI (Z x.1 10),zI (Z x.1 11),zI (Z x.1 12),zI (Z x.1 13),zI (Z x.1 14),zI (Z x.1 15)] 52)
  gi_wp2
  exact hK _ _ ((KeepsOthers.alloc _ _).from _) ((Hr _ W).alloc (by omega) _) (hIo _ _ _ none ⟨⟨i1,i2,i3,i4⟩,i5,i6,i7⟩ (World.grownBy_alloc W _ none) (fun r e=>by cases e)) ⟨W.heap.size,by omega,fun j hj=>by
   have:j=0∨j=1∨j=2∨j=3∨j=4∨j=5∨j=6∨j=7∨j=8∨j=9∨j=10∨j=11∨j=12∨j=13∨j=14∨j=15:=by omega
   rcases this with rfl | rfl | rfl | rfl | rfl | rfl | rfl | rfl | rfl | rfl | rfl | rfl | rfl | rfl | rfl | rfl <;> simp,rfl⟩
 case body =>
  rintro q pre x a' W hl ⟨r,hr'⟩ ⟨⟨i1,i2,i3,i4⟩,i5,i6,i7⟩ ⟨Bx,hBx,hX,rfl⟩ hlt
  have x0:=hX 0 (by omega)
  have x1:=hX 1 (by omega)
  have x2:=hX 2 (by omega)
  have x3:=hX 3 (by omega)
  have x4:=hX 4 (by omega)
  have x5:=hX 5 (by omega)
  have x6:=hX 6 (by omega)
  have x7:=hX 7 (by omega)
  have x8:=hX 8 (by omega)
  have x9:=hX 9 (by omega)
  have x10:=hX 10 (by omega)
  have x11:=hX 11 (by omega)
  have x12:=hX 12 (by omega)
  have x13:=hX 13 (by omega)
  have x14:=hX 14 (by omega)
  have x15:=hX 15 (by omega)
  clear hX hIo hXo hI0
  have hU:bD c d (jJ c d V (kP Z pre)).1=true:=wQ _ (V,true) hV.out
  obtain ⟨U,eU⟩:∃ U,U=(jJ c d V (kP Z pre)).1:=⟨_,rfl⟩
  rw [←eU] at hU i5
  have gW:W.cell? (zA 0 0)=some (.iface 226 (.agg #[zP 1 199])):=(i7.cell (p:=(zA 0 0)) hl0).trans hg0.out
  have hap:=xu c d (Z x.1) s b ⟨l,w.heap.size,W0.heap.size⟩ U (n0+5 * pre.length) hU (fun j hj=>hwf.out x.1 j x.2 hj) hl0 W gW i5
  have HU:=hid hU
  have HE:=hid eU
  have HS:=hid i5
  have HF:=hid i6
  have HB:=hid i7
  have hlt':=hid hlt
  clear hU eU i5 i6 i7 gW hlt
  gi_wp2_with (gi_at_call 51;refine (CallsIn.inRound q (callsIn_wide.2 hap)).mono ?_;rintro e W2 ⟨rfl,hS2,hb2⟩;have k1:=hb2.keep (w.heap.size+1) (Ht _) (by show _<W0.heap.size;omega);have k2:=hb2.keep w.heap.size (Ho _) (by show _<W0.heap.size;omega);have c1:W2.cell? (zA (w.heap.size+1) 0)=some (zI (pre.length:Int)):=(World.cell?_of_block (a:=(zA (w.heap.size+1) 0)) k1).trans i1;have c2:W2.cell? (zA w.heap.size 0)=some (zP s 0):=(World.cell?_of_block (a:=(zA w.heap.size 0)) k2).trans i3;have f1:W2.frozen? (zA (w.heap.size+1) 0)=false:=(World.frozen?_of_block (a:=(zA (w.heap.size+1) 0)) k1).trans i2;have hwr:IntKind.i64.wrap ((pre.length:Int)+1)=(pre.length:Int)+1:=by (rw [IntKind.wrap_i64];have:=hlt'.out;omega))
  ·rename_i hfit
   have hsz2:(W2.setCell (zA (w.heap.size+1) 0) (zI ((pre.length:Int)+1))).heap.size=W2.heap.size:=ay
   have z2:=hb2.size
   refine ⟨⟨by rw [hsz2];exact z2,fun k o hk h1 h2=>(KeepsOthers.setCell _ _ _).same k o (hb2.oth k o (by omega) h1 h2) h2⟩,hb2.low.setCell (by show l≤w.heap.size+1;omega) _,⟨?_,by rw [World.frozen?_setCell];exact f1,(aJ (fun e=>by have:=e.1;omega)).trans c2,by rw [hsz2];omega⟩,?_,?_,(HB.out.trans hb2.low).setCell (by show l≤w.heap.size+1;omega) _⟩
   ·rw [List.length_append]
    exact World.cell?_setCell_same' _ _ _ (by rw [c1];rfl)
   ·rw [nZ,nT,←HE.out,List.length_append]
    exact (hS2.far (by show w.heap.size≤_;omega) (by show _<W0.heap.size;omega) (by omega) _).mono (by simp;omega)
   ·rw [nZ,nT,←HE.out,HF.out,hfit];rfl
  ·rename_i hfit
   have hnf:(aF c d U (Z x.1)).2.2=false:=by simpa using hfit
   have hU2:=wo hnf
   have z2:=hb2.size
   refine ⟨⟨z2,fun k o hk h1 h2=>hb2.oth k o (by omega) h1 h2⟩,rfl,pre,x,rfl,by rw [←HE.out];exact hnf,⟨c1,f1,by omega⟩,?_,HF.out,HB.out.trans hb2.low⟩
   rw [←HE.out,←hU2]
   exact hS2.mono (by have:=hlt'.out;omega)
 case done =>
  rintro D ys W hD rfl ⟨⟨i1,_⟩,i5,i6,i7⟩ hK
  obtain ⟨f1,f2⟩:=pR (c:=c) (d:=d) (V:=V) (len:=len) (Z:=Z) len (Ho _)
  have hall:=oD len (f2.1 i6)
  rw [f1] at i5
  rw [jY (Ho _)] at i1 i5
  have h9:Below l w (W.putObj D (.deferred none)):=i7.trans (belowK_b (w:=w) hls W D _ _ (by omega) hK rfl rfl)
  have h8:Sv (W.putObj D (.deferred none)) c d s b ⟨l,w.heap.size,W0.heap.size⟩ (bg c d V Z len) (n0+5 * len):=i5.grown (grownBy_putObj' W D _) (fun r e=>by cases e;exact ⟨by omega,.inr ⟨_,hK,rfl⟩⟩)
  have H8:=hid h8
  have H9:=hid h9
  have HA:=hid hall
  clear h8 h9 hall i5 i6 i7 f1 f2
  gi_wp2
  refine ⟨by simp,.inl ⟨_,_,rfl,run_takeDeferred hK,?_⟩⟩
  exact ⟨_,results_tmp rfl _ _ _,by rw [HA.out];rfl,⟨_,by rw [HA.out];exact H8.out⟩,H9.out⟩
 case stop =>
  rintro D q pre W hD ⟨k,hk,hp⟩ ⟨rfl,pre2,x,e2,hnf,⟨i1,i2,i4⟩,i5,i6,i7⟩ hK
  obtain ⟨m,em⟩:∃ m,m=pre2.length:=⟨_,rfl⟩
  have hkm:k=m+1:=by
   have h:=congrArg List.length (e2.symm.trans hp)
   rw [List.length_append,jY hk] at h
   simp at h;omega
  subst hkm
  have hm:m<len:=by omega
  obtain ⟨e3,e4⟩:=List.append_inj' (hp.symm.trans e2 |>.symm.trans (ny hm)) rfl
  have e5:x=⟨m,hm⟩:=by simpa using e4
  subst e3 e5
  obtain ⟨g1,g2⟩:=pR (c:=c) (d:=d) (V:=V) (len:=len) (Z:=Z) m (by omega)
  rw [g1] at hnf i5
  have hall:=nJ (g2.1 i6) hnf len hm
  rw [jY (by omega)] at i1
  have h9:Below l w (W.putObj D (.deferred none)):=i7.trans (belowK_b (w:=w) hls W D _ _ (by omega) hK rfl rfl)
  have h8:Sv (W.putObj D (.deferred none)) c d s b ⟨l,w.heap.size,W0.heap.size⟩ (bg c d V Z m) (n0+5 * len):=i5.grown (grownBy_putObj' W D _) (fun r e=>by cases e;exact ⟨by omega,.inr ⟨_,hK,rfl⟩⟩)
  have H8:=hid h8
  have H9:=hid h9
  have HA:=hid hall
  clear h8 h9 hall i5 i6 i7 g1 g2 hnf hp e2 em
  gi_wp2
  refine ⟨by simp,.inl ⟨_,_,rfl,run_takeDeferred hK,?_⟩⟩
  exact ⟨_,results_tmp rfl _ _ _,by rw [HA.out];rfl,⟨_,by rw [HA.out];exact H8.out⟩,H9.out⟩
