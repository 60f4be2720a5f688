/- Copies of a store, of the program and of the model; conditions: the store lies in memory. -/
import Derived.Test.YtngaboipleimcaaGreatDoorSM
import Derived.Test.YtngaboipleimcaaGreatDoorFG
import Derived.ArgAppend
set_option linter.unusedVariables false
set_option maxHeartbeats 8000000
set_option maxRecDepth 20000
namespace Go.Proofs.YtngaboipleimcaaGreatDoor
open Go.RowKit Go.Deep
def Ie (Z:Nat→Nat→Int) (k:Nat):List Value:=zR (Z k)
theorem Io (n:Nat) (Z:Nat→Nat→Int):((List.range n).flatMap (Ie Z)).length=n * 16:=by
 induction n with
 | zero=>simp
 | succ n ih=>rw [List.range_succ,List.flatMap_append,List.length_append,ih];simp [Ie,zR,Nat.succ_mul]
theorem Iw (Z:Nat→Nat→Int) (k j:Nat) (hj:j<16):(Ie Z k)[j]? = some (zI (Z k j)):=by
 match j,hj with
 | 0,_=>rfl
 | 1,_=>rfl
 | 2,_=>rfl
 | 3,_=>rfl
 | 4,_=>rfl
 | 5,_=>rfl
 | 6,_=>rfl
 | 7,_=>rfl
 | 8,_=>rfl
 | 9,_=>rfl
 | 10,_=>rfl
 | 11,_=>rfl
 | 12,_=>rfl
 | 13,_=>rfl
 | 14,_=>rfl
 | 15,_=>rfl
 | j+16,h=>omega
theorem Il {w:World} {b o n:Nat} {Z:Nat→Nat→Int} (hr:∀ k j,k<n→j<16→w.cell? (zA b (o+k * 16+j))=some (zI (Z k j))):∀ j u,((List.range n).flatMap (Ie Z))[j]? = some u→w.cell? (((zA b o):Addr).add j)=some u:=by
 intro j u hj
 have hlt:j<n * 16:=by
  have:=(List.getElem?_eq_some_iff.1 hj).1
  rw [Io] at this;exact this
 rw [flat_get (Ie Z) (fun _=>rfl) (by decide) n j hlt] at hj
 have hq:j / 16<n:=Nat.div_lt_of_lt_mul (by omega)
 rw [iR,show o+j=o+j / 16 * 16+j % 16 by omega,hr (j / 16) (j % 16) hq (Nat.mod_lt _ (by decide)),←hj,Iw Z _ _ (Nat.mod_lt _ (by decide))]
theorem II (n:Nat) (Z:Nat→Nat→Int):∀ u ∈ (List.range n).flatMap (Ie Z),u.oneCell'=true:=by
 intro u hu
 obtain ⟨k,_,hk⟩:=List.mem_flatMap.1 hu
 simp [Ie,zR] at hk
 rcases hk with rfl | rfl | rfl | rfl | rfl | rfl | rfl | rfl | rfl | rfl | rfl | rfl | rfl | rfl | rfl | rfl <;> rfl
def RR (lo hi:Nat) (w:World) (v:Value) (n:Nat) (Z:Nat→Nat→Int) (g:Nat):Prop :=
 (n=0∧∃ a c,v=.slice a 0 c)∨∃ c,v=zS g n c∧lo≤g∧g<hi∧hi≤w.heap.size∧P16.iy w g n Z n
theorem IB {w w':World} {B n k:Nat} {Z:Nat→Nat→Int} (h:P16.iy w B n Z k) (hs:Sm w w' B):P16.iy w' B n Z k :=
 ⟨fun i hi=>by rw [(hs i).1,(hs i).2];exact h.1 i hi,fun k' j hk hj=>by rw [(hs _).1];exact h.2 k' j hk hj⟩
theorem RR.sm {lo hi:Nat} {w w':World} {v:Value} {n:Nat} {Z:Nat→Nat→Int} {g:Nat} (h:RR lo hi w v n Z g) (hs:w.heap.size≤w'.heap.size) (k:lo≤g→g<hi→Sm w w' g):RR lo hi w' v n Z g:=by
 rcases h with h | ⟨c,h1,h2,h3,h4,h5⟩
 ·exact .inl h
 ·exact .inr ⟨c,h1,h2,h3,Hq h4 hs,IB h5 (k h2 h3)⟩
theorem RR.below {lo hi:Nat} {w w':World} {v:Value} {n:Nat} {Z:Nat→Nat→Int} {g:Nat} (h:RR lo hi w v n Z g) (hh:hi≤w.heap.size) (hb:Below w.heap.size w w'):RR lo hi w' v n Z g :=
 h.sm hb.size (fun _ g2=>aj hb (by omega))
theorem RR.wide {lo hi lo' hi':Nat} {w:World} {v:Value} {n:Nat} {Z:Nat→Nat→Int} {g:Nat} (h:RR lo hi w v n Z g) (h1:lo'≤lo) (h2:hi≤hi') (h3:hi'≤w.heap.size):RR lo' hi' w v n Z g:=by
 rcases h with h | ⟨c,g1,g2,g3,g4,g5⟩
 ·exact .inl h
 ·exact .inr ⟨c,g1,by omega,by omega,h3,g5⟩
theorem RR.shape {lo hi:Nat} {w:World} {v:Value} {n:Nat} {Z:Nat→Nat→Int} {g:Nat} (h:RR lo hi w v n Z g):∃ a c,v=.slice a n c:=by
 rcases h with ⟨e,a,c,h⟩ | ⟨c,h,_⟩
 ·exact ⟨_,_,by rw [h,e]⟩
 ·exact ⟨_,_,h⟩
theorem RR.row {lo hi:Nat} {w:World} {a:Option Addr} {n c:Nat} {Z:Nat→Nat→Int} {g:Nat} (h:RR lo hi w (.slice a n c) n Z g):P16.qA w a n Z:=by
 rcases h with ⟨e,_⟩ | ⟨c',h,h1,h2,h3,h4⟩
 ·exact .inl e
 ·injection h with h _ _
  exact .inr ⟨g,0,h,by omega,P16.aZ h4⟩
theorem Ik {w:World} {base n:Nat} {v:Value} {Z:Nat→Nat→Int} (h:w.ownsRow base 52 16 v n ((List.range n).flatMap (Ie Z))):∃ g,RR base w.heap.size w v n Z g∧(v.ownBlock=none∨v.ownBlock=some g):=by
 rcases h.2 with ⟨e,hl⟩ | ⟨g,cap,cur,hv,_⟩
 ·subst e;subst hl
  exact ⟨0,.inl ⟨rfl,none,0,rfl⟩,.inl rfl⟩
 ·have ho:w.ownsRow base 52 16 (.slice (some (zA g 0)) n cap) n ((List.range n).flatMap (Ie Z)):=by rw [←hv];exact h
  refine ⟨g,.inr ⟨cap,hv,(ho.lt g rfl).1,(ho.lt g rfl).2,Ho _,fun i hi=>⟨?_,ho.frozenAt i⟩,fun k j hk hj=>?_⟩,.inr (by rw [hv];rfl)⟩
  ·rw [ho.cellAt i (by omega)]
   have:i<((List.range n).flatMap (Ie Z)).length:=by rw [ho.1];omega
   rw [List.getElem?_eq_getElem this]
   rfl
  ·skip
   have hlt:k * 16+j<n * 16:=by omega
   rw [ho.cellAt (k * 16+j) hlt,flat_get (Ie Z) (fun _=>rfl) (by decide) n _ hlt,show (k * 16+j) / 16=k by omega,show (k * 16+j) % 16=j by omega]
   exact Iw Z k j hj
theorem IU (s B n cap:Nat) (hn:n≤2000000) (hs:s≤2000000000) (w:World) (hB:B<w.heap.size) (h:P16.iy w B n (Mk 16 s) n) :
 Hz 70 #[zS B n cap,zI (s:Int)] w fun e w'=>e=.returned (zI ((s+n * 16:Nat):Int))∧Below w.heap.size w w':=by
 have H0:Hid (P16.iy w B n (Mk 16 s) n):=h
 clear h
 go_enter Tryz.func70,Tryz.ntmps70
 go_wp2
 go_loopw [1,5] (fun c i wr=>∃ k:Nat,k≤n∧zI k=i∧zI (Mk 16 s k 0)=c∧w=wr) (fun _ i _=>n - (intOf i).toNat)
 case atStart=>exact ⟨0,Nat.zero_le _,rfl,by simp [Mk],rfl⟩
 case round =>
  obtain ⟨k,hk,rfl,rfl,rfl⟩:=hrel
  by_cases hkn:k<n
  ·have hkn':(k:Int)<(n:Int):=by omega
   have c0:w.cell? (zA B (k * 16))=some (zI (Mk 16 s k 0)):=H0.out.2 k 0 hkn (by omega)
   have c1:w.cell? (zA B (k * 16+1))=some (zI (Mk 16 s k 1)):=H0.out.2 k 1 hkn (by omega)
   have c2:w.cell? (zA B (k * 16+2))=some (zI (Mk 16 s k 2)):=H0.out.2 k 2 hkn (by omega)
   have c3:w.cell? (zA B (k * 16+3))=some (zI (Mk 16 s k 3)):=H0.out.2 k 3 hkn (by omega)
   have c4:w.cell? (zA B (k * 16+4))=some (zI (Mk 16 s k 4)):=H0.out.2 k 4 hkn (by omega)
   have c5:w.cell? (zA B (k * 16+5))=some (zI (Mk 16 s k 5)):=H0.out.2 k 5 hkn (by omega)
   have c6:w.cell? (zA B (k * 16+6))=some (zI (Mk 16 s k 6)):=H0.out.2 k 6 hkn (by omega)
   have c7:w.cell? (zA B (k * 16+7))=some (zI (Mk 16 s k 7)):=H0.out.2 k 7 hkn (by omega)
   have c8:w.cell? (zA B (k * 16+8))=some (zI (Mk 16 s k 8)):=H0.out.2 k 8 hkn (by omega)
   have c9:w.cell? (zA B (k * 16+9))=some (zI (Mk 16 s k 9)):=H0.out.2 k 9 hkn (by omega)
   have c10:w.cell? (zA B (k * 16+10))=some (zI (Mk 16 s k 10)):=H0.out.2 k 10 hkn (by omega)
   have c11:w.cell? (zA B (k * 16+11))=some (zI (Mk 16 s k 11)):=H0.out.2 k 11 hkn (by omega)
   have c12:w.cell? (zA B (k * 16+12))=some (zI (Mk 16 s k 12)):=H0.out.2 k 12 hkn (by omega)
   have c13:w.cell? (zA B (k * 16+13))=some (zI (Mk 16 s k 13)):=H0.out.2 k 13 hkn (by omega)
   have c14:w.cell? (zA B (k * 16+14))=some (zI (Mk 16 s k 14)):=H0.out.2 k 14 hkn (by omega)
   have c15:w.cell? (zA B (k * 16+15))=some (zI (Mk 16 s k 15)):=H0.out.2 k 15 hkn (by omega)
   have m1:IntKind.wrap .i64 ((Mk 16 s k 0)+1)=(Mk 16 s k 1):=by unfold Mk;simp [IntKind.wrap,IntKind.bits,IntKind.signed];omega
   have m2:IntKind.wrap .i64 ((Mk 16 s k 1)+1)=(Mk 16 s k 2):=by unfold Mk;simp [IntKind.wrap,IntKind.bits,IntKind.signed];omega
   have m3:IntKind.wrap .i64 ((Mk 16 s k 2)+1)=(Mk 16 s k 3):=by unfold Mk;simp [IntKind.wrap,IntKind.bits,IntKind.signed];omega
   have m4:IntKind.wrap .i64 ((Mk 16 s k 3)+1)=(Mk 16 s k 4):=by unfold Mk;simp [IntKind.wrap,IntKind.bits,IntKind.signed];omega
   have m5:IntKind.wrap .i64 ((Mk 16 s k 4)+1)=(Mk 16 s k 5):=by unfold Mk;simp [IntKind.wrap,IntKind.bits,IntKind.signed];omega
   have m6:IntKind.wrap .i64 ((Mk 16 s k 5)+1)=(Mk 16 s k 6):=by unfold Mk;simp [IntKind.wrap,IntKind.bits,IntKind.signed];omega
   have m7:IntKind.wrap .i64 ((Mk 16 s k 6)+1)=(Mk 16 s k 7):=by unfold Mk;simp [IntKind.wrap,IntKind.bits,IntKind.signed];omega
   have m8:IntKind.wrap .i64 ((Mk 16 s k 7)+1)=(Mk 16 s k 8):=by unfold Mk;simp [IntKind.wrap,IntKind.bits,IntKind.signed];omega
   have m9:IntKind.wrap .i64 ((Mk 16 s k 8)+1)=(Mk 16 s k 9):=by unfold Mk;simp [IntKind.wrap,IntKind.bits,IntKind.signed];omega
   have m10:IntKind.wrap .i64 ((Mk 16 s k 9)+1)=(Mk 16 s k 10):=by unfold Mk;simp [IntKind.wrap,IntKind.bits,IntKind.signed];omega
   have m11:IntKind.wrap .i64 ((Mk 16 s k 10)+1)=(Mk 16 s k 11):=by unfold Mk;simp [IntKind.wrap,IntKind.bits,IntKind.signed];omega
   have m12:IntKind.wrap .i64 ((Mk 16 s k 11)+1)=(Mk 16 s k 12):=by unfold Mk;simp [IntKind.wrap,IntKind.bits,IntKind.signed];omega
   have m13:IntKind.wrap .i64 ((Mk 16 s k 12)+1)=(Mk 16 s k 13):=by unfold Mk;simp [IntKind.wrap,IntKind.bits,IntKind.signed];omega
   have m14:IntKind.wrap .i64 ((Mk 16 s k 13)+1)=(Mk 16 s k 14):=by unfold Mk;simp [IntKind.wrap,IntKind.bits,IntKind.signed];omega
   have m15:IntKind.wrap .i64 ((Mk 16 s k 14)+1)=(Mk 16 s k 15):=by unfold Mk;simp [IntKind.wrap,IntKind.bits,IntKind.signed];omega
   have m16:IntKind.wrap .i64 ((Mk 16 s k 15)+1)=(Mk 16 s (k+1) 0):=by unfold Mk;simp [IntKind.wrap,IntKind.bits,IntKind.signed];omega
   go_wp2
   go_roundw
   case rel=>exact ⟨k+1,by omega,by go_num,rfl,by trivial⟩
   case measure=>simp [intOf];omega
  ·have hkn':k=n:=by omega
   subst hkn'
   go_wp2
   go_ret
   exact ⟨rfl,Hr _ _⟩
theorem IK (s:Nat) (a:Option Addr) (c:Nat) (w:World) :
 Hz 70 #[.slice a 0 c,zI (s:Int)] w fun e w'=>e=.returned (zI (s:Int))∧Below w.heap.size w w':=by
 go_enter Tryz.func70,Tryz.ntmps70
 go_wp2
 refine wp_loop_rounds 1 ?_
 rw [rounds_succ]
 go_wp2
 go_ret
 exact ⟨rfl,Hr _ _⟩
theorem IJ (s:Nat) (a:Option Addr) (c:Nat) (w:World) :
 Hz 23 #[.slice a 0 c,zI (s:Int)] w fun e w'=>e=.returned (zI (s:Int))∧w'=w:=by
 go_enter Tryz.func23,Tryz.ntmps23
 go_wp2
 refine wp_loop_rounds 1 ?_
 rw [rounds_succ]
 go_wp2
 go_ret
 exact ⟨rfl,rfl⟩
theorem IA (lo hi s:Nat) (v:Value) (n:Nat) (Z:Nat→Nat→Int) (g:Nat) (hn:n≤2000000) (hs:s≤2000000000) (w:World) (h:RR lo hi w v n Z g) :
 Hz 23 #[v,zI (s:Int)] w fun e w'=>e=.returned (zI ((s+n * 16:Nat):Int))∧RR lo hi w' v n (Mk 16 s) g∧w'.heap.size=w.heap.size∧(∀ b,b<w.heap.size→(¬ b=g∨b<lo∨hi≤b)→Sm w w' b)∧Below lo w w':=by
 rcases h with ⟨rfl,a,c,rfl⟩ | ⟨c,rfl,h2,h3,h4,h5⟩
 ·refine (IJ s a c w).mono ?_
  rintro e w' ⟨rfl,rfl⟩
  exact ⟨by simp,.inl ⟨rfl,a,c,rfl⟩,rfl,fun b _ _=>Sm.refl _ _,Hr _ _⟩
 ·refine (Gl s g n c Z hn hs w (by omega) h5).mono ?_
  rintro e w' ⟨rfl,o,hg,hz⟩
  exact ⟨rfl,.inr ⟨c,rfl,h2,h3,by omega,o⟩,hz,fun b hb hne=>bG hg hb (by intro e;injection e with e;omega),below_grown hg h2 (by omega)⟩
theorem Iz (lo hi s:Nat) (v:Value) (n:Nat) (g:Nat) (hn:n≤2000000) (hs:s≤2000000000) (w:World) (h:RR lo hi w v n (Mk 16 s) g) :
 Hz 70 #[v,zI (s:Int)] w fun e w'=>e=.returned (zI ((s+n * 16:Nat):Int))∧Below w.heap.size w w':=by
 rcases h with ⟨rfl,a,c,rfl⟩ | ⟨c,rfl,h2,h3,h4,h5⟩
 ·refine (IK s a c w).mono ?_
  rintro e w' ⟨rfl,hb⟩
  exact ⟨by simp,hb⟩
 ·exact IU s g n c hn hs w (by omega) h5
theorem IL (b o n cap:Nat) (Z:Nat→Nat→Int) (hn:n≤1048576) (w:World) (hb:b<w.heap.size) (hr:∀ k j,k<n→j<16→w.cell? (zA b (o+k * 16+j))=some (zI (Z k j))) :
 Hz 110 #[.slice (some (zA b o)) n cap] w fun e w'=>(∃ v,e=.returned v∧w'.ownsRow w.heap.size 52 16 v n ((List.range n).flatMap (Ie Z)))∧Below w.heap.size w w':=by
 have HC:Hid (∀ j u,((List.range n).flatMap (Ie Z))[j]? = some u→w.cell? (((zA b o):Addr).add j)=some u):=Il hr
 have H1:Hid (∀ u ∈ (List.range n).flatMap (Ie Z),u.oneCell'=true):=II n Z
 have HL:Hid (((List.range n).flatMap (Ie Z)).length=n * 16):=Io n Z
 clear hr
 obtain ⟨i5,hi5,hzz⟩:=Option.map_eq_some_iff.1 P16.Tryz.Fg
 simp only [Prod.mk.injEq] at hzz
 obtain ⟨hz50,hz51,hz52⟩:=hzz
 go_enter Tryz.func110,Tryz.ntmps110
 go_wp2_with (at_builtin;refine wpList_append_own _ rfl _ _ 61 rfl w.heap.size 52 i5 (.agg (zR fun _=>0).toArray) 16 128 Tryz.underlying61 hi5 hz50 hz51 hz52 rfl (by decide) _ 0 [] rfl ⟨rfl,.inl ⟨rfl,rfl⟩⟩ (zA b o) n cap ((List.range n).flatMap (Ie Z)) rfl HL.out HC.out H1.out (by unfold maxLen;omega) (by omega) (Ho _) ?_)
 intro v' w2 hown hg hnil
 have hb2:Below w.heap.size w w2:=(Hr _ _).grown hg (Ho _) (fun kk e=>by cases e)
 have HO:Hid (w2.ownsRow w.heap.size 52 16 v' n ((List.range n).flatMap (Ie Z))):=hown
 clear hown hg hnil
 go_wp2
 go_ret
 exact ⟨⟨_,rfl,HO.out⟩,hb2⟩
theorem RR.zero {lo hi lo' hi':Nat} {w w':World} {v:Value} {n:Nat} {Z Z':Nat→Nat→Int} {g g':Nat} (h:RR lo hi w v n Z g) (e:n=0):RR lo' hi' w' v n Z' g':=by
 obtain ⟨a,c,rfl⟩:=h.shape
 exact .inl ⟨e,a,c,by rw [e]⟩
def Ih (lo hi:Nat) (w:World) (u:Value) (a:Int) (V:CV) (n:Nat) (Z:Nat→Nat→Int):Prop :=
 ∃ aW kW aO kO aX kX aI kI aR kR l m g,u=.agg [zI a,zI V.c,.slice aW V.nW kW,zI V.g,.slice aO V.nO kO,.slice aX V.nX kX,.slice aI V.nI kI,.slice aR n kR].toArray∧aV l m w (.agg (zD V aW kW aO kO aX kX aI kI).toArray) V∧RR lo hi w (.slice aR n kR) n Z g∧lo≤l∧l≤m∧m≤hi∧hi≤w.heap.size∧(g<l∨m≤g)
theorem Ih.sm {lo hi:Nat} {w w':World} {u:Value} {a:Int} {V:CV} {n:Nat} {Z:Nat→Nat→Int} (h:Ih lo hi w u a V n Z) (hs:w.heap.size≤w'.heap.size) (k:∀ b,lo≤b→b<hi→Sm w w' b):Ih lo hi w' u a V n Z:=by
 obtain ⟨aW,kW,aO,kO,aX,kX,aI,kI,aR,kR,l,m,g,e,h1,h2,h3,h4,h5,h6,h7⟩:=h
 exact ⟨aW,kW,aO,kO,aX,kX,aI,kI,aR,kR,l,m,g,e,h1.sm hs (fun b q1 q2=>k b (by omega) (by omega)),h2.sm hs (k g),h3,h4,h5,by omega,h7⟩
theorem Ih.below {lo hi:Nat} {w w':World} {u:Value} {a:Int} {V:CV} {n:Nat} {Z:Nat→Nat→Int} (h:Ih lo hi w u a V n Z) (hb:Below w.heap.size w w'):Ih lo hi w' u a V n Z:=by
 have hh:hi≤w.heap.size:=by obtain ⟨_,_,_,_,_,_,_,_,_,_,_,_,_,_,_,_,_,_,_,q,_⟩:=h;exact q
 exact h.sm hb.size (fun b _ q=>aj hb (by omega))
theorem Ih.wide {lo hi lo' hi':Nat} {w:World} {u:Value} {a:Int} {V:CV} {n:Nat} {Z:Nat→Nat→Int} (h:Ih lo hi w u a V n Z) (q1:lo'≤lo) (q2:hi≤hi') (q3:hi'≤w.heap.size):Ih lo' hi' w u a V n Z:=by
 obtain ⟨aW,kW,aO,kO,aX,kX,aI,kI,aR,kR,l,m,g,e,h1,h2,h3,h4,h5,h6,h7⟩:=h
 exact ⟨aW,kW,aO,kO,aX,kX,aI,kI,aR,kR,l,m,g,e,h1,h2.wide q1 q2 q3,by omega,h4,by omega,q3,h7⟩
theorem IQ (a1 a2:Option Addr) (c1 c2:Nat) (w:World) :
 Hz 22 #[.slice a1 0 c1,.slice a2 0 c2] w fun e w'=>e=.returned (.bool true)∧Below w.heap.size w w':=by
 go_enter Tryz.func22,Tryz.ntmps22
 go_wp2
 refine wp_loop_rounds 1 ?_
 rw [rounds_succ]
 go_wp2
 go_ret
 exact ⟨rfl,Hr _ _⟩
theorem IE (a1 a2:Option Addr) (c1 c2 n:Nat) (Z:Nat→Nat→Int) (hn:n≤2000000) (w:World) (h1:P16.qA w a1 n Z) (h2:P16.qA w a2 n Z) :
 Hz 22 #[.slice a1 n c1,.slice a2 n c2] w fun e w'=>e=.returned (.bool true)∧Below w.heap.size w w':=by
 rcases h1 with rfl | ⟨b1,o1,rfl,l1,r1⟩
 ·exact IQ a1 a2 c1 c2 w
 rcases h2 with rfl | ⟨b2,o2,rfl,l2,r2⟩
 ·exact IQ _ _ c1 c2 w
 exact P16.sH b1 o1 c1 b2 o2 c2 n Z hn w l1 l2 r1 r2
theorem IC (a:Int) (V:CV) (n:Nat) (Z:Nat→Nat→Int) (u1 u2:Value) (l1 h1 l2 h2:Nat) (hs0:V.short 2000000) (hn:n≤2000000) (w:World) (q1:Ih l1 h1 w u1 a V n Z) (q2:Ih l2 h2 w u2 a V n Z) :
 Hz 28 #[u1,u2] w fun e w'=>e=.returned (.bool true)∧Below w.heap.size w w':=by
 obtain ⟨aW,kW,aO,kO,aX,kX,aI,kI,aR,kR,l,m,g,rfl,g1,g2,_,_,_,_,_⟩:=q1
 obtain ⟨bW,jW,bO,jO,bX,jX,bI,jI,bR,jR,l',m',g',rfl,g1',g2',_,_,_,_,_⟩:=q2
 have hs:=hid hs0
 have C1:=hid g1.at
 have C2:=hid g1'.at
 have G1:=hid g2.row
 have G2:=hid g2'.row
 clear hs0 g1 g2 g1' g2'
 go_enter Tryz.func28,Tryz.ntmps28
 go_wp2_with fail
 obtain ⟨w0,e0,B1,S1,Q1,hz0⟩:=EX w [zI a,zI V.c,.slice aW V.nW kW,zI V.g,.slice aO V.nO kO,.slice aX V.nX kX,.slice aI V.nI kI,.slice aR n kR] 71 [zI a,zI V.c,.slice bW V.nW jW,zI V.g,.slice bO V.nO jO,.slice bX V.nX jX,.slice bI V.nI jI,.slice bR n jR] 71
 rw [←e0]
 clear e0
 refine (uP _ _ V hs.out _ (dw C1.out B1.out) (dw C2.out B1.out)).mono ?_
 rintro e w1 ⟨rfl,hb'⟩
 have kz1:=hb'.size
 have B2:=hid (ah B1.out hb')
 have S2:=hid (S1.out.below hb')
 have Q2:=hid (Q1.out.below hb')
 clear B1 S1 Q1 hb'
 obtain ⟨y0,y1,y2,y3,y4,y5,y6,y7⟩:=S2.out.a8
 have hlS:w.heap.size<w1.heap.size:=S2.out.1
 obtain ⟨o0,o1,o2,o3,o4,o5,o6,o7⟩:=Q2.out.a8
 have hlO:(w.heap.size+1)<w1.heap.size:=Q2.out.1
 go_wp2_with fail
 clear y0 y1 y2 y3 y4 y5 y6 y7 hlS
 clear o0 o1 o2 o3 o4 o5 o6 o7 hlO
 refine (IE _ _ _ _ n Z hn _ (P16.iL G1.out B2.out) (P16.iL G2.out B2.out)).mono ?_
 rintro e w2 ⟨rfl,hb'⟩
 go_wp2
 go_ret
 exact ⟨rfl,ah B2.out hb'⟩
theorem IG (a:Int) (V:CV) (n:Nat) (Z:Nat→Nat→Int) (u:Value) (lo hi:Nat) (hf:V.few) (hn:n≤1048576) (w:World) (q:Ih lo hi w u a V n Z) :
 Hz 31 #[u,zI 1] w fun e w'=>e=.returned (zI ((V.s4+n * 16:Nat):Int))∧Ih lo hi w' u a V.marked n (Mk 16 V.s4)∧w.heap.size≤w'.heap.size∧(∀ b,b<w.heap.size→(b<lo∨hi≤b)→Sm w w' b)∧Below lo w w':=by
 obtain ⟨aW,kW,aO,kO,aX,kX,aI,kI,aR,kR,l,m,g,rfl,g1,g2,g3,g4,g5,g6,g7⟩:=q
 have HC:=hid g1
 have HR:=hid g2
 have HF:=hid hf
 clear g1 g2 hf
 go_enter Tryz.func31,Tryz.ntmps31
 go_wp2_with fail
 obtain ⟨w0,e0,B1,S1,hz0⟩:=Gz w [zI a,zI V.c,.slice aW V.nW kW,zI V.g,.slice aO V.nO kO,.slice aX V.nX kX,.slice aI V.nI kI,.slice aR n kR] 71
 rw [←e0]
 clear e0
 refine (EI l m _ V HF.out _ (by omega) (by omega) (HC.out.below (by omega) B1.out)).mono ?_
 rintro e w1 ⟨rfl,hm,kz1,hsm,hb⟩
 have SM:=hid hsm
 have CM:=hid hm
 have S2:=hid (S1.out.sm kz1 (hsm _ (by omega) (.inr (by omega))))
 have K1:Hid (RR lo hi w1 (.slice aR n kR) n Z g):=(HR.out.below g6 B1.out).sm kz1 (fun q1 q2=>hsm g (by omega) g7)
 have B2:Hid (Below lo w w1):=(B1.out.mono (by omega)).trans (hb.mono (by omega))
 clear hsm hm hb S1
 obtain ⟨y0,y1,y2,y3,y4,y5,y6,y7⟩:=S2.out.a8
 have hlS:w.heap.size<w1.heap.size:=S2.out.1
 go_wp2_with fail
 clear y0 y1 y2 y3 y4 y5 y6 y7 hlS
 refine (IA lo hi V.s4 _ n Z g (by omega) (FC HF.out) _ K1.out).mono ?_
 rintro e w2 ⟨rfl,hr,hz,hsm,hb⟩
 have RM:=hid hr
 have SG:=hid hsm
 have B3:Hid (Below lo w w2):=B2.out.trans hb
 have BB:=hid B1.out
 clear hr hsm hb
 go_wp2
 go_ret
 refine ⟨rfl,⟨aW,kW,aO,kO,aX,kX,aI,kI,aR,kR,l,m,g,rfl,CM.out.sm (by omega) (fun b q1 q2=>SG.out b (by omega) (.inl (by omega))),RM.out,g3,g4,g5,by omega,g7⟩,by omega,fun b hw hb=>?_,B3.out⟩
 exact ((aj BB.out (by omega)).trans (SM.out b (by omega) (by omega))).trans (SG.out b (by omega) (.inr hb))
theorem Iu (a:Int) (V:CV) (n:Nat) (u:Value) (lo hi:Nat) (hf:V.few) (hn:n≤1048576) (w:World) (q:Ih lo hi w u a V.marked n (Mk 16 V.s4)) :
 Hz 34 #[u,zI 1] w fun e w'=>e=.returned (zI ((V.s4+n * 16:Nat):Int))∧Below w.heap.size w w':=by
 obtain ⟨aW,kW,aO,kO,aX,kX,aI,kI,aR,kR,l,m,g,rfl,g1,g2,g3,g4,g5,g6,g7⟩:=q
 have HC:Hid (aV l m w (.agg (zD V aW kW aO kO aX kX aI kI).toArray) V.marked):=g1
 have HR:=hid g2
 have HF:=hid hf
 clear g1 g2 hf
 change Hz 34 #[.agg [zI a,zI V.c,.slice aW V.nW kW,zI V.g,.slice aO V.nO kO,.slice aX V.nX kX,.slice aI V.nI kI,.slice aR n kR].toArray,zI 1] w _
 go_enter Tryz.func34,Tryz.ntmps34
 go_wp2_with fail
 obtain ⟨w0,e0,B1,S1,hz0⟩:=Gz w [zI a,zI V.c,.slice aW V.nW kW,zI V.g,.slice aO V.nO kO,.slice aX V.nX kX,.slice aI V.nI kI,.slice aR n kR] 71
 rw [←e0]
 clear e0
 refine (Ey l m _ V HF.out _ (by omega) (HC.out.below (by omega) B1.out)).mono ?_
 rintro e w1 ⟨rfl,hb⟩
 have kz1:=hb.size
 have B2:=hid (ah B1.out hb)
 have S2:=hid (S1.out.below hb)
 clear hb S1
 have hq:¬ ((V.s4:Nat):Int)<0:=by omega
 obtain ⟨y0,y1,y2,y3,y4,y5,y6,y7⟩:=S2.out.a8
 have hlS:w.heap.size<w1.heap.size:=S2.out.1
 go_wp2_with fail
 clear y0 y1 y2 y3 y4 y5 y6 y7 hlS
 refine (Iz lo hi V.s4 _ n g (by omega) (FC HF.out) _ (HR.out.below g6 B2.out)).mono ?_
 rintro e w2 ⟨rfl,hb⟩
 obtain ⟨zm,ezm⟩:∃ z:Nat,z=V.s4+n * 16:=⟨_,rfl⟩
 rw [←ezm]
 have hzm:¬ ((zm:Nat):Int)<0:=by omega
 have EZ:=hid ezm
 clear ezm
 go_wp2
 go_ret
 exact ⟨by have h:=EZ.out;subst h;rfl,ah B2.out hb⟩
def H7 (w:World) (g:Nat) (v0 v1 v2 v3 v4 v5 v6 v7:Value):World:=(((((((w.setCell (zA g 0) v0).setCell (zA g 1) v1).setCell (zA g 2) v2).setCell (zA g 3) v3).setCell (zA g 4) v4).setCell (zA g 5) v5).setCell (zA g 6) v6).setCell (zA g 7) v7
theorem H6 (w:World) (g:Nat) (v0 v1 v2 v3 v4 v5 v6 v7:Value):(H7 w g v0 v1 v2 v3 v4 v5 v6 v7).heap.size=w.heap.size:=size_put g [v0,v1,v2,v3,v4,v5,v6,v7] 0 w
theorem Ia {w:World} {g b:Nat} (h:¬ b=g) (v0 v1 v2 v3 v4 v5 v6 v7:Value):Sm w (H7 w g v0 v1 v2 v3 v4 v5 v6 v7) b:=jQ h [v0,v1,v2,v3,v4,v5,v6,v7] 0 w
theorem HY {n:Nat} {a w:World} (h:Below n a w) {g:Nat} (hg:n≤g) (v0 v1 v2 v3 v4 v5 v6 v7:Value):Below n a (H7 w g v0 v1 v2 v3 v4 v5 v6 v7):=gu hg [v0,v1,v2,v3,v4,v5,v6,v7] 0 h
theorem Ic {w:World} {g:Nat} {l:List Value} (h:Bk w g l) (hl:l.length=8) (v0 v1 v2 v3 v4 v5 v6 v7:Value):Bk (H7 w g v0 v1 v2 v3 v4 v5 v6 v7) g [v0,v1,v2,v3,v4,v5,v6,v7]:=jM (l:=[v0,v1,v2,v3,v4,v5,v6,v7]) h (by rw [hl];rfl)
def RX (m:Nat) (w:World) (v:Value) (n:Nat) (Z:Nat→Nat→Int):Prop :=
 (n=0∧∃ b,v=.slice (some b) 0 0)∨∃ base,m≤base∧base≤w.heap.size∧w.ownsRow base 52 16 v n ((List.range n).flatMap (Ie Z))
theorem RX.low {m m':Nat} {w:World} {v:Value} {n:Nat} {Z:Nat→Nat→Int} (h:RX m w v n Z) (hm:m'≤m):RX m' w v n Z:=by
 rcases h with h | ⟨b,h1,h2,h3⟩
 ·exact .inl h
 ·exact .inr ⟨b,by omega,h2,h3⟩
theorem RX.kept {m:Nat} {w w':World} {v:Value} {n:Nat} {Z:Nat→Nat→Int} {row:Option Nat} (h:RX m w v n Z) (hg:w.grownBy w' row) (hr:∀ b,row=some b→b<m):RX m w' v n Z:=by
 rcases h with h | ⟨b,h1,h2,h3⟩
 ·exact .inl h
 ·refine .inr ⟨b,h1,Hq h2 hg.size,World.ownsRow.kept h3 hg ?_⟩
  cases e:v.ownBlock with
  | none=>exact .inl rfl
  | some g=>refine .inr (fun e2=>?_);have q1:=(h3.lt g e).1;have q2:=hr g e2.symm;omega
theorem jg {w w':World} (h:Below w.heap.size w w'):w.grownBy w' none:=⟨h.os,h.tape,h.output,h.size,fun k hk _=>h.block k hk⟩
theorem RX.below {m:Nat} {w w':World} {v:Value} {n:Nat} {Z:Nat→Nat→Int} (h:RX m w v n Z) (hb:Below w.heap.size w w'):RX m w' v n Z:=h.kept (jg hb) (fun _ e=>by cases e)
theorem IW (w:World) (g:Nat) (v0 v1 v2 v3 v4 v5 v6 v7:Value):w.grownBy (H7 w g v0 v1 v2 v3 v4 v5 v6 v7) (some g) :=
 (((((((P8.aC _ _ _ _).1.trans (P8.aC _ _ _ _).1).trans (P8.aC _ _ _ _).1).trans (P8.aC _ _ _ _).1).trans (P8.aC _ _ _ _).1).trans (P8.aC _ _ _ _).1).trans (P8.aC _ _ _ _).1).trans (P8.aC _ _ _ _).1
theorem Full.sm {lo hi:Nat} {w w':World} {v:Value} (h:Full w v) (ht:mV lo hi w v) (hs:w.heap.size≤w'.heap.size) (k:∀ b,lo≤b→b<hi→Sm w w' b):Full w' v:=fun x0 x1 x2 g n c x4 x5 e j hj=>by
 obtain ⟨y,l,d,e1,e2⟩:=h x0 x1 x2 g n c x4 x5 e j hj
 obtain ⟨h1,h2,_⟩:=ht x0 x1 x2 g n c x4 x5 e
 exact ⟨y,l,d,((k g h1 h2) j).1.trans e1,by omega⟩
theorem IX {lo hi:Nat} {w w':World} {v:Value} (h:Full w v∧mV lo hi w v) (hh:hi≤w.heap.size) (hb:Below w.heap.size w w'):Full w' v∧mV lo hi w' v :=
 ⟨h.1.sm h.2 hb.size (fun b _ q=>aj hb (by omega)),h.2.sm (fun b _ q=>aj hb (by omega))⟩
/-- A store that a copy made: as Ih, the records' row with its room, and (fl) the cell's inner lists by their blocks. -/
def I5 (fl:Bool) (lo hi:Nat) (w:World) (u:Value) (a:Int) (V:CV) (n:Nat) (Z:Nat→Nat→Int):Prop :=
 ∃ a1 k1 a2 k2 a3 k3 a4 k4 aR kR l m g,u=.agg [zI a,zI V.c,.slice a1 V.nW k1,zI V.g,.slice a2 V.nO k2,.slice a3 V.nX k3,.slice a4 V.nI k4,.slice aR n kR].toArray∧aV l m w (.agg (zD V a1 k1 a2 k2 a3 k3 a4 k4).toArray) V∧RR lo hi w (.slice aR n kR) n Z g∧lo≤l∧l≤m∧m≤hi∧hi≤w.heap.size∧m≤g∧RX m w (.slice aR n kR) n Z∧(∀ b,(Value.slice aR n kR).ownBlock=some b→b<hi)∧(fl=true→Full w (.agg (zD V a1 k1 a2 k2 a3 k3 a4 k4).toArray))
theorem I5.o {fl:Bool} {lo hi:Nat} {w:World} {u:Value} {a:Int} {V:CV} {n:Nat} {Z:Nat→Nat→Int} (h:I5 fl lo hi w u a V n Z):Ih lo hi w u a V n Z:=by
 obtain ⟨a1,k1,a2,k2,a3,k3,a4,k4,aR,kR,l,m,g,e,h1,h2,h3,h4,h5,h6,h7,_⟩:=h
 exact ⟨a1,k1,a2,k2,a3,k3,a4,k4,aR,kR,l,m,g,e,h1,h2,h3,h4,h5,h6,.inr h7⟩
theorem IV {w:World} {o:Oper} {a:Act} {K:Act→World→Prop} {Q:Exit→Act→World→Prop} (s x:Operand) (ho:o.op=.call { callee:=.builtin .append,args:=#[s,x],argTypes:=#[61,61] })
 (b:Addr) (hs:a.eval s=.slice (some b) 0 0) (bl off m c:Nat) (Z:Nat→Nat→Int) (hx:a.eval x=.slice (some (zA bl off)) m c) (hm:m≤1048576) (hr:∀ k j,k<m→j<16→w.cell? (zA bl (off+k * 16+j))=some (zI (Z k j)))
 (h:∀ v' w' g,RR w.heap.size w'.heap.size w' v' m Z g→RX w.heap.size w' v' m Z→(∀ q,v'.ownBlock=some q→q<w'.heap.size∨q=b.block)→Below w.heap.size w w'→K (a.put o.dst v') w'):o.wp Tryz.prog a w K Q:=by
 obtain ⟨i5,hi5,hzz⟩:=Option.map_eq_some_iff.1 P16.Tryz.Fg
 simp only [Prod.mk.injEq] at hzz
 obtain ⟨hz50,hz51,hz52⟩:=hzz
 have HC:=Il hr
 by_cases hm0:m=0
 ·subst hm0
  have hf:=run_firstCells_some (P:=Tryz.prog) w i5.size 0 (zA bl off) 0 c [] (by simp) (fun j u hj=>by simp at hj)
  have hrun:(Builtin.append_ #[61,61] o.type #[.slice (some b) 0 0,.slice (some (zA bl off)) 0 c]).run Tryz.prog w=.ok (.slice (some b) 0 0) w:=by
   simp [Builtin.append_,run_underlying Tryz.underlying61,sizeOf,typeInfo,hi5,Builtin.lenOf,hf,storeCells]
  unfold Oper.wp execOp
  simp only [ho,resolve,invoke,builtin,Sem.run_bind,Sem.run_pure,Result.andThen_ok,List.map_toArray,List.map_cons,List.map_nil,hs,hx,hrun]
  exact h _ w 0 (.inl ⟨rfl,_,_,rfl⟩) (.inl ⟨rfl,_,rfl⟩) (fun q e=>by simp [Value.ownBlock] at e;exact .inr e.symm) (Hr _ _)
 ·obtain ⟨v',w',hrun,r1,r2⟩:=run_append_arg_grows (P:=Tryz.prog) w 61 o.type 52 i5 (.agg (zR fun _=>0).toArray) 16 128 Tryz.underlying61 hi5 hz50 hz51 hz52 rfl (by decide) b 0 0 [] rfl (fun j u hj=>by simp at hj) (zA bl off) m c ((List.range m).flatMap (Ie Z)) (Io m Z) HC (by omega) (by unfold maxLen;omega) (by omega)
  unfold Oper.wp execOp
  simp only [ho,resolve,invoke,builtin,Sem.run_bind,Sem.run_pure,Result.andThen_ok,List.map_toArray,List.map_cons,List.map_nil,hs,hx,hrun]
  have r1':w'.ownsRow w.heap.size 52 16 v' m ((List.range m).flatMap (Ie Z)):=by simpa using r1
  obtain ⟨g,hg,_⟩:=Ik r1'
  exact h v' w' g hg (.inr ⟨_,Ho _,r2.size,r1'⟩) (fun q e=>.inl (r1'.lt q e).2) ((Hr _ _).grown r2 (Ho _) (fun kk e=>by cases e))
theorem IY (a:Int) (V:CV) (lo bW bO bX bI bR nR:Nat) (Z:Nat→Nat→Int) (hs0:V.short 1048576) (hnR:nR≤1048576) (w:World) (CP0:eH lo w (.agg (zC V bW V.nW bO V.nO bX V.nX bI V.nI).toArray) V) (hbR:bR<w.heap.size) (hR0:∀ k j,k<nR→j<16→w.cell? ⟨bR,0+k * 16+j,none⟩=some (.int .i64 (Z k j))) :
 Hz 69 #[.agg [zI a,zI V.c,zS bW V.nW V.nW,zI V.g,zS bO V.nO V.nO,zS bX V.nX V.nX,zS bI V.nI V.nI,zS bR nR nR].toArray] w fun e w'=>(∃ u,e=.returned u∧I5 false w.heap.size w'.heap.size w' u a V nR Z)∧Below w.heap.size w w':=by
 have hs:=hid hs0
 have HR:=hid hR0
 have CP:=hid CP0
 clear hs0 CP0 hR0
 go_enter Tryz.func69,Tryz.ntmps69
 go_wp2_with fail
 obtain ⟨w0,e0,B1,S1,Q1,hz0⟩:=EX w [zI a,zI V.c,zS bW V.nW V.nW,zI V.g,zS bO V.nO V.nO,zS bX V.nX V.nX,zS bI V.nI V.nI,zS bR nR nR] 71 z8 71
 rw [←e0]
 clear e0
 obtain ⟨y0,y1,y2,y3,y4,y5,y6,y7⟩:=S1.out.a8
 have hlS:w.heap.size<w0.heap.size:=S1.out.1
 have hl1:w.heap.size<w.heap.size+1:=Nat.lt_succ_self _
 refine Hu (S:=fun w'=>Below (w.heap.size+1) w0 w') (by kernel_rfl) ((Hr _ _).drew) ?_
 intro af
 obtain ⟨X,hX⟩:∃ X,X=w0.drew:=⟨_,rfl⟩
 have hz1:w0.heap.size≤X.heap.size:=by rw [hX];exact Ho _
 have BX:Hid (Below w0.heap.size w0 X):=by unfold Hid;rw [hX];exact (Hr _ _).drew
 rw [←hX] at af ⊢
 clear hX
 refine bF 0 (zP w.heap.size 0) rfl ?_
 refine bF 1 (zI a) rfl ?_
 refine bF 2 (zP w.heap.size 1) rfl ?_
 refine bF 3 (.agg (zC V bW V.nW bO V.nO bX V.nX bI V.nI).toArray) rfl ?_
 refine bF 5 (zP w.heap.size 7) rfl ?_
 refine bF 6 (zS bR nR nR) rfl ?_
 refine di 4 rfl fun K hK=>?_
 go_simp
 go_wp2_with fail
 refine (Ez _ V lo hs.out _ (CP.out.below (ah B1.out BX.out))).mono ?_
 rintro e u1 ⟨⟨uu,rfl,hO,hT⟩,hb⟩
 clear hT
 have ku1:=hb.size
 obtain ⟨a1,k1,a2,k2,a3,k3,a4,k4,rfl,hA,hB,hC,hD⟩:=hO.at
 clear hA hB hC hD
 have OC1:=hid hO
 have B2:=hid (ah BX.out hb)
 clear hO BX
 refine hK.out _ _ (bJ af (by omega) hb) (fun ai=>?_)
 clear hK K af
 have af:=ai
 clear ai
 try simp only [aT]
 clear hb
 refine di 7 rfl fun K hK=>?_
 go_simp
 go_wp2_with fail
 refine (IL bR 0 nR nR Z hnR _ (by omega) (fun k j q1 q2=>((B1.out.trans (B2.out.mono (by omega))).cell (p:=⟨bR,0+k * 16+j,none⟩) hbR).trans (HR.out k j q1 q2))).mono ?_
 rintro e u2 ⟨⟨uv,rfl,hO⟩,hb⟩
 have ku2:=hb.size
 obtain ⟨gg,hRL,hgo⟩:=Ik hO
 clear hgo
 obtain ⟨aR,kR,rfl⟩:=hRL.shape
 obtain ⟨mm,emm⟩:∃ m,m=u1.heap.size:=⟨_,rfl⟩
 have RXM:Hid (RX mm u2 (.slice aR nR kR) nR Z):=.inr ⟨_,by omega,ku2,hO⟩
 have LTB:Hid (∀ b,(Value.slice aR nR kR).ownBlock=some b→b<u2.heap.size):=fun b e=>(hO.lt b e).2
 have RL0:RR u1.heap.size u2.heap.size u2 (.slice aR nR kR) nR Z gg:=hRL
 have GEN:Hid (∃ g,(u1.heap.size≤g∧g<u2.heap.size+1)∧RR u1.heap.size u2.heap.size u2 (.slice aR nR kR) nR Z g):=by
  rcases hRL with ⟨h,h'⟩ | ⟨c,e,h1,h2,h3,h4⟩
  ·exact ⟨u1.heap.size,⟨Ho _,by omega⟩,.inl ⟨h,h'⟩⟩
  ·exact ⟨gg,⟨h1,by omega⟩,.inr ⟨c,e,h1,h2,h3,h4⟩⟩
 clear hRL RL0 gg
 obtain ⟨gg,⟨hg1,hg2⟩,hRL⟩:=GEN.out
 have RL:=hid hRL
 have OC:=hid (OC1.out.below (Ho _) hb)
 rw [←emm] at OC
 have B8:=hid (ah B2.out hb)
 clear hRL hO OC1 B2 GEN
 refine hK.out _ _ (bJ af (by omega) hb) (fun ai=>?_)
 clear hK K af
 have af:=ai
 clear ai
 try simp only [aT]
 clear hb
 refine bF 8 (.agg [zI a,zI V.c,.slice a1 V.nW k1,zI V.g,.slice a2 V.nO k2,.slice a3 V.nX k3,.slice a4 V.nI k4,.slice aR nR kR].toArray) rfl ?_
 have Q3:=hid (Q1.out.below (B8.out))
 obtain ⟨p0,p1,p2,p3,p4,p5,p6,p7⟩:=Q3.out.a8
 obtain ⟨t0,t1,t2,t3,t4,t5,t6,t7⟩:=Q3.out.f8
 have hlQ:(w.heap.size+1)<u2.heap.size:=Q3.out.1
 refine di 9 rfl fun K hK=>?_
 go_simp
 obtain ⟨w6,e6⟩:∃ y,y=H7 u2 (w.heap.size+1) (zI a) (zI V.c) (.slice a1 V.nW k1) (zI V.g) (.slice a2 V.nO k2) (.slice a3 V.nX k3) (.slice a4 V.nI k4) (.slice aR nR kR):=⟨_,rfl⟩
 have hz6:w6.heap.size=u2.heap.size:=by rw [e6];exact H6 _ _ _ _ _ _ _ _ _ _
 have Q6:Bk w6 (w.heap.size+1) [zI a,zI V.c,.slice a1 V.nW k1,zI V.g,.slice a2 V.nO k2,.slice a3 V.nX k3,.slice a4 V.nI k4,.slice aR nR kR]:=by rw [e6];exact Ic Q3.out rfl _ _ _ _ _ _ _ _
 have RXQ:RX mm w6 (.slice aR nR kR) nR Z:=by rw [e6];exact RXM.out.kept (IW _ _ _ _ _ _ _ _ _ _) (fun b e=>by cases e;omega)
 have SP:∀ b,¬ b=w.heap.size+1→Sm u2 w6 b:=fun b hb=>by rw [e6];exact Ia hb _ _ _ _ _ _ _ _
 have B9:Below w.heap.size w w6:=by rw [e6];exact HY ((B1.out.trans (B8.out.mono (by omega)))) (by omega) _ _ _ _ _ _ _ _
 have hN:Below (w.heap.size+1) w0 w6:=by rw [e6];exact HY (B8.out.mono (by omega)) (Ho _) _ _ _ _ _ _ _ _
 unfold H7 at e6
 rw [←e6]
 clear e6 p0 p1 p2 p3 p4 p5 p6 p7 t0 t1 t2 t3 t4 t5 t6 t7 hlQ Q3
 refine hK.out _ _ hN (fun ai=>?_)
 try simp only [aT]
 clear hK K af ai
 refine Hy (by kernel_rfl) ?_ _
 obtain ⟨p0,p1,p2,p3,p4,p5,p6,p7⟩:=Q6.a8
 have hlQ:(w.heap.size+1)<w6.heap.size:=Q6.1
 have HN:=hid hN
 have QQ:=hid Q6
 have SQ:=hid SP
 have RXW:=hid RXQ
 have BN:=hid B9
 clear hN Q6 SP B9 RXQ
 go_wp2
 refine Hw (v:=.agg [zI a,zI V.c,.slice a1 V.nW k1,zI V.g,.slice a2 V.nO k2,.slice a3 V.nX k3,.slice a4 V.nI k4,.slice aR nR kR].toArray) (by simp [results,Tryz.results69,go_sem,p0,p1,p2,p3,p4,p5,p6,p7]) rfl ?_
 exact ⟨⟨_,rfl,a1,k1,a2,k2,a3,k3,a4,k4,aR,kR,X.heap.size,mm,gg,rfl,OC.out.sm (by omega) (fun b q1 q2=>SQ.out b (by omega)),(RL.out.sm (by omega) (fun q1 q2=>SQ.out gg (by omega))).wide (by omega) (by omega) (by omega),by omega,by omega,by omega,by omega,by omega,RXW.out,fun b e=>by have:=LTB.out b e;omega,fun e=>by cases e⟩,BN.out⟩
theorem IZ (a:Int) (V:CV) (lo bW bO bX bI bR nR:Nat) (Z:Nat→Nat→Int) (hs0:V.short 1048576) (hnR:nR≤1048576) (w:World) (CP0:eH lo w (.agg (zC V bW V.nW bO V.nO bX V.nX bI V.nI).toArray) V) (hbR:bR<w.heap.size) (hR0:∀ k j,k<nR→j<16→w.cell? ⟨bR,0+k * 16+j,none⟩=some (.int .i64 (Z k j))) :
 Hz 67 #[.agg [zI a,zI V.c,zS bW V.nW V.nW,zI V.g,zS bO V.nO V.nO,zS bX V.nX V.nX,zS bI V.nI V.nI,zS bR nR nR].toArray] w fun e w'=>(∃ u,e=.returned u∧I5 true w.heap.size w'.heap.size w' u a V nR Z)∧Below w.heap.size w w':=by
 have hs:=hid hs0
 have HR:=hid hR0
 have CP:=hid CP0
 clear hs0 CP0 hR0
 go_enter Tryz.func67,Tryz.ntmps67
 go_wp2_with fail
 obtain ⟨w0,e0,B1,S1,Q1,hz0⟩:=EX w [zI a,zI V.c,zS bW V.nW V.nW,zI V.g,zS bO V.nO V.nO,zS bX V.nX V.nX,zS bI V.nI V.nI,zS bR nR nR] 71 z8 71
 rw [←e0]
 clear e0
 obtain ⟨y0,y1,y2,y3,y4,y5,y6,y7⟩:=S1.out.a8
 have hlS:w.heap.size<w0.heap.size:=S1.out.1
 have hl1:w.heap.size<w.heap.size+1:=Nat.lt_succ_self _
 refine Hu (S:=fun w'=>Below (w.heap.size+1) w0 w') (by kernel_rfl) ((Hr _ _).drew) ?_
 intro af
 obtain ⟨X,hX⟩:∃ X,X=w0.drew:=⟨_,rfl⟩
 have hz1:w0.heap.size≤X.heap.size:=by rw [hX];exact Ho _
 have BX:Hid (Below w0.heap.size w0 X):=by unfold Hid;rw [hX];exact (Hr _ _).drew
 rw [←hX] at af ⊢
 clear hX
 refine bF 0 (zP w.heap.size 0) rfl ?_
 refine bF 1 (zI a) rfl ?_
 refine bF 2 (zP w.heap.size 1) rfl ?_
 refine bF 3 (.agg (zC V bW V.nW bO V.nO bX V.nX bI V.nI).toArray) rfl ?_
 refine bF 6 (zP w.heap.size 7) rfl ?_
 refine bF 7 (zS bR nR nR) rfl ?_
 refine y9 [4,5] (AllReadyH.cons rfl (fun K hK=>?_) (AllReadyH.cons rfl (fun K hK=>?_) AllReadyH.nil))
 ·go_simp
  go_wp2_with fail
  refine (fC _ V hs.out _ (CP.out.below (ah B1.out BX.out)).cellS.g).mono ?_
  rintro e u1 ⟨⟨uu,rfl,hO,hT,hF⟩,hb⟩
  have ku1:=hb.size
  obtain ⟨a1,k1,a2,k2,a3,k3,a4,k4,rfl,hA,hB,hC,hD⟩:=hO.at
  clear hA hB hC hD
  have OC1:=hid hO
  obtain ⟨ll,ell⟩:∃ l,l=X.heap.size:=⟨_,rfl⟩
  have FT1:=hid (And.intro hF hT)
  rw [←ell] at OC1 FT1
  have B2:=hid (ah BX.out hb)
  clear hO hT hF
  refine hK.out _ _ (bJ af (by omega) hb) (fun ai=>?_)
  clear hK K af
  have af:=ai
  clear ai
  try simp only [aT]
  clear hb BX
  have BX:=B2
  clear B2
  refine di 5 rfl fun K hK=>?_
  go_simp
  obtain ⟨u2,eA⟩:∃ y,y=u1.alloc (.cells #[] 52):=⟨_,rfl⟩
  rw [←eA]
  have hb:Below u1.heap.size u1 u2:=by rw [eA];exact (Hr _ _).alloc (Ho _) _
  have ku2:=hb.size
  have lb0:u1.heap.size<u2.heap.size:=by rw [eA];simp
  clear eA
  have B2:=hid (ah BX.out hb)
  obtain ⟨bb,ebb⟩:∃ b,b=u1.heap.size:=⟨_,rfl⟩
  rw [←ebb]
  have lbb:bb<u2.heap.size:=by omega
  replace OC1:=hid (OC1.out.below (by omega) hb)
  replace FT1:=hid (IX FT1.out (by omega) hb)
  refine hK.out _ _ (bJ af (by omega) hb) (fun ai=>?_)
  clear hK K af
  have af:=ai
  clear ai
  try simp only [aT]
  clear hb BX ebb
  have BX:=B2
  clear B2
  refine di 8 rfl fun K hK=>?_
  rw [if_pos (by rfl)]
  refine IV _ _ rfl _ rfl bR 0 nR nR Z rfl hnR (fun k j q1 q2=>((B1.out.trans (BX.out.mono (by omega))).cell (p:=⟨bR,0+k * 16+j,none⟩) hbR).trans (HR.out k j q1 q2)) ?_
  intro uv u9 gg hRL hRX hLT hb
  have ku9:=hb.size
  obtain ⟨aR,kR,rfl⟩:=hRL.shape
  obtain ⟨mm,emm⟩:∃ m,m=u1.heap.size:=⟨_,rfl⟩
  have RXM:Hid (RX mm u9 (.slice aR nR kR) nR Z):=hRX.low (by omega)
  have LTB:Hid (∀ b,(Value.slice aR nR kR).ownBlock=some b→b<u9.heap.size):=fun b e=>by rcases hLT b e with h | h;exact h;have h2:b=bb:=h;omega
  clear hRX hLT
  have GEN:Hid (∃ g,(u2.heap.size≤g∧g<u9.heap.size+1)∧RR u2.heap.size u9.heap.size u9 (.slice aR nR kR) nR Z g):=by
   rcases hRL with ⟨h,h'⟩ | ⟨c,e,h1,h2,h3,h4⟩
   ·exact ⟨u2.heap.size,⟨Ho _,by omega⟩,.inl ⟨h,h'⟩⟩
   ·exact ⟨gg,⟨h1,by omega⟩,.inr ⟨c,e,h1,h2,h3,h4⟩⟩
  clear hRL gg
  obtain ⟨gg,⟨hg1,hg2⟩,hRL⟩:=GEN.out
  have RL:=hid hRL
  have OC:=hid (OC1.out.below (by omega) hb)
  have FT:=hid (IX FT1.out (by omega) hb)
  rw [←emm] at OC FT
  have B8:=hid (ah BX.out hb)
  clear hRL OC1 FT1 GEN
  refine hK.out _ _ (bJ af (by omega) hb) (fun ai=>?_)
  clear hK K af
  have af:=ai
  clear ai
  try simp only [aT]
  clear hb
  refine bF 9 (.agg [zI a,zI V.c,.slice a1 V.nW k1,zI V.g,.slice a2 V.nO k2,.slice a3 V.nX k3,.slice a4 V.nI k4,.slice aR nR kR].toArray) rfl ?_
  have Q3:=hid (Q1.out.below (B8.out))
  obtain ⟨p0,p1,p2,p3,p4,p5,p6,p7⟩:=Q3.out.a8
  obtain ⟨t0,t1,t2,t3,t4,t5,t6,t7⟩:=Q3.out.f8
  have hlQ:(w.heap.size+1)<u9.heap.size:=Q3.out.1
  refine di 10 rfl fun K hK=>?_
  go_simp
  obtain ⟨w6,e6⟩:∃ y,y=H7 u9 (w.heap.size+1) (zI a) (zI V.c) (.slice a1 V.nW k1) (zI V.g) (.slice a2 V.nO k2) (.slice a3 V.nX k3) (.slice a4 V.nI k4) (.slice aR nR kR):=⟨_,rfl⟩
  have hz6:w6.heap.size=u9.heap.size:=by rw [e6];exact H6 _ _ _ _ _ _ _ _ _ _
  have Q6:Bk w6 (w.heap.size+1) [zI a,zI V.c,.slice a1 V.nW k1,zI V.g,.slice a2 V.nO k2,.slice a3 V.nX k3,.slice a4 V.nI k4,.slice aR nR kR]:=by rw [e6];exact Ic Q3.out rfl _ _ _ _ _ _ _ _
  have RXQ:RX mm w6 (.slice aR nR kR) nR Z:=by rw [e6];exact RXM.out.kept (IW _ _ _ _ _ _ _ _ _ _) (fun b e=>by cases e;omega)
  have SP:∀ b,¬ b=w.heap.size+1→Sm u9 w6 b:=fun b hb=>by rw [e6];exact Ia hb _ _ _ _ _ _ _ _
  have B9:Below w.heap.size w w6:=by rw [e6];exact HY ((B1.out.trans (B8.out.mono (by omega)))) (by omega) _ _ _ _ _ _ _ _
  have hN:Below (w.heap.size+1) w0 w6:=by rw [e6];exact HY (B8.out.mono (by omega)) (Ho _) _ _ _ _ _ _ _ _
  unfold H7 at e6
  rw [←e6]
  clear e6 p0 p1 p2 p3 p4 p5 p6 p7 t0 t1 t2 t3 t4 t5 t6 t7 hlQ Q3
  refine hK.out _ _ hN (fun ai=>?_)
  try simp only [aT]
  clear hK K af ai
  refine Hy (by kernel_rfl) ?_ _
  obtain ⟨p0,p1,p2,p3,p4,p5,p6,p7⟩:=Q6.a8
  have hlQ:(w.heap.size+1)<w6.heap.size:=Q6.1
  have HN:=hid hN
  have QQ:=hid Q6
  have SQ:=hid SP
  have RXW:=hid RXQ
  have BN:=hid B9
  clear hN Q6 SP B9 RXQ
  go_wp2
  refine Hw (v:=.agg [zI a,zI V.c,.slice a1 V.nW k1,zI V.g,.slice a2 V.nO k2,.slice a3 V.nX k3,.slice a4 V.nI k4,.slice aR nR kR].toArray) (by simp [results,Tryz.results67,go_sem,p0,p1,p2,p3,p4,p5,p6,p7]) rfl ?_
  exact ⟨⟨_,rfl,a1,k1,a2,k2,a3,k3,a4,k4,aR,kR,ll,mm,gg,rfl,OC.out.sm (by omega) (fun b q1 q2=>SQ.out b (by omega)),(RL.out.sm (by omega) (fun q1 q2=>SQ.out gg (by omega))).wide (by omega) (by omega) (by omega),by omega,by omega,by omega,by omega,by omega,RXW.out,fun b e=>by have:=LTB.out b e;omega,fun _=>FT.out.1.sm FT.out.2 (by omega) (fun b q1 q2=>SQ.out b (by omega))⟩,BN.out⟩
 ·go_simp
  obtain ⟨u1,eA⟩:∃ y,y=X.alloc (.cells #[] 52):=⟨_,rfl⟩
  rw [←eA]
  have hb:Below X.heap.size X u1:=by rw [eA];exact (Hr _ _).alloc (Ho _) _
  have ku2:=hb.size
  have lb0:X.heap.size<u1.heap.size:=by rw [eA];simp
  clear eA
  have B2:=hid (ah BX.out hb)
  obtain ⟨bb,ebb⟩:∃ b,b=X.heap.size:=⟨_,rfl⟩
  rw [←ebb]
  have lbb:bb<u1.heap.size:=by omega
  refine hK.out _ _ (bJ af (by omega) hb) (fun ai=>?_)
  clear hK K af
  have af:=ai
  clear ai
  try simp only [aT]
  clear hb BX ebb
  have BX:=B2
  clear B2
  refine di 4 rfl fun K hK=>?_
  go_simp
  go_wp2_with fail
  refine (fC _ V hs.out _ (CP.out.below (ah B1.out BX.out)).cellS.g).mono ?_
  rintro e u2 ⟨⟨uu,rfl,hO,hT,hF⟩,hb⟩
  have ku1:=hb.size
  obtain ⟨a1,k1,a2,k2,a3,k3,a4,k4,rfl,hA,hB,hC,hD⟩:=hO.at
  clear hA hB hC hD
  have OC1:=hid hO
  obtain ⟨ll,ell⟩:∃ l,l=u1.heap.size:=⟨_,rfl⟩
  have FT1:=hid (And.intro hF hT)
  rw [←ell] at OC1 FT1
  have B2:=hid (ah BX.out hb)
  clear hO hT hF
  refine hK.out _ _ (bJ af (by omega) hb) (fun ai=>?_)
  clear hK K af
  have af:=ai
  clear ai
  try simp only [aT]
  clear hb BX
  have BX:=B2
  clear B2
  refine di 8 rfl fun K hK=>?_
  rw [if_pos (by rfl)]
  refine IV _ _ rfl _ rfl bR 0 nR nR Z rfl hnR (fun k j q1 q2=>((B1.out.trans (BX.out.mono (by omega))).cell (p:=⟨bR,0+k * 16+j,none⟩) hbR).trans (HR.out k j q1 q2)) ?_
  intro uv u9 gg hRL hRX hLT hb
  have ku9:=hb.size
  obtain ⟨aR,kR,rfl⟩:=hRL.shape
  obtain ⟨mm,emm⟩:∃ m,m=u2.heap.size:=⟨_,rfl⟩
  have RXM:Hid (RX mm u9 (.slice aR nR kR) nR Z):=hRX.low (by omega)
  have LTB:Hid (∀ b,(Value.slice aR nR kR).ownBlock=some b→b<u9.heap.size):=fun b e=>by rcases hLT b e with h | h;exact h;have h2:b=bb:=h;omega
  clear hRX hLT
  have GEN:Hid (∃ g,(u2.heap.size≤g∧g<u9.heap.size+1)∧RR u2.heap.size u9.heap.size u9 (.slice aR nR kR) nR Z g):=by
   rcases hRL with ⟨h,h'⟩ | ⟨c,e,h1,h2,h3,h4⟩
   ·exact ⟨u2.heap.size,⟨Ho _,by omega⟩,.inl ⟨h,h'⟩⟩
   ·exact ⟨gg,⟨h1,by omega⟩,.inr ⟨c,e,h1,h2,h3,h4⟩⟩
  clear hRL gg
  obtain ⟨gg,⟨hg1,hg2⟩,hRL⟩:=GEN.out
  have RL:=hid hRL
  have OC:=hid (OC1.out.below (by omega) hb)
  have FT:=hid (IX FT1.out (by omega) hb)
  rw [←emm] at OC FT
  have B8:=hid (ah BX.out hb)
  clear hRL OC1 FT1 GEN
  refine hK.out _ _ (bJ af (by omega) hb) (fun ai=>?_)
  clear hK K af
  have af:=ai
  clear ai
  try simp only [aT]
  clear hb
  refine bF 9 (.agg [zI a,zI V.c,.slice a1 V.nW k1,zI V.g,.slice a2 V.nO k2,.slice a3 V.nX k3,.slice a4 V.nI k4,.slice aR nR kR].toArray) rfl ?_
  have Q3:=hid (Q1.out.below (B8.out))
  obtain ⟨p0,p1,p2,p3,p4,p5,p6,p7⟩:=Q3.out.a8
  obtain ⟨t0,t1,t2,t3,t4,t5,t6,t7⟩:=Q3.out.f8
  have hlQ:(w.heap.size+1)<u9.heap.size:=Q3.out.1
  refine di 10 rfl fun K hK=>?_
  go_simp
  obtain ⟨w6,e6⟩:∃ y,y=H7 u9 (w.heap.size+1) (zI a) (zI V.c) (.slice a1 V.nW k1) (zI V.g) (.slice a2 V.nO k2) (.slice a3 V.nX k3) (.slice a4 V.nI k4) (.slice aR nR kR):=⟨_,rfl⟩
  have hz6:w6.heap.size=u9.heap.size:=by rw [e6];exact H6 _ _ _ _ _ _ _ _ _ _
  have Q6:Bk w6 (w.heap.size+1) [zI a,zI V.c,.slice a1 V.nW k1,zI V.g,.slice a2 V.nO k2,.slice a3 V.nX k3,.slice a4 V.nI k4,.slice aR nR kR]:=by rw [e6];exact Ic Q3.out rfl _ _ _ _ _ _ _ _
  have RXQ:RX mm w6 (.slice aR nR kR) nR Z:=by rw [e6];exact RXM.out.kept (IW _ _ _ _ _ _ _ _ _ _) (fun b e=>by cases e;omega)
  have SP:∀ b,¬ b=w.heap.size+1→Sm u9 w6 b:=fun b hb=>by rw [e6];exact Ia hb _ _ _ _ _ _ _ _
  have B9:Below w.heap.size w w6:=by rw [e6];exact HY ((B1.out.trans (B8.out.mono (by omega)))) (by omega) _ _ _ _ _ _ _ _
  have hN:Below (w.heap.size+1) w0 w6:=by rw [e6];exact HY (B8.out.mono (by omega)) (Ho _) _ _ _ _ _ _ _ _
  unfold H7 at e6
  rw [←e6]
  clear e6 p0 p1 p2 p3 p4 p5 p6 p7 t0 t1 t2 t3 t4 t5 t6 t7 hlQ Q3
  refine hK.out _ _ hN (fun ai=>?_)
  try simp only [aT]
  clear hK K af ai
  refine Hy (by kernel_rfl) ?_ _
  obtain ⟨p0,p1,p2,p3,p4,p5,p6,p7⟩:=Q6.a8
  have hlQ:(w.heap.size+1)<w6.heap.size:=Q6.1
  have HN:=hid hN
  have QQ:=hid Q6
  have SQ:=hid SP
  have RXW:=hid RXQ
  have BN:=hid B9
  clear hN Q6 SP B9 RXQ
  go_wp2
  refine Hw (v:=.agg [zI a,zI V.c,.slice a1 V.nW k1,zI V.g,.slice a2 V.nO k2,.slice a3 V.nX k3,.slice a4 V.nI k4,.slice aR nR kR].toArray) (by simp [results,Tryz.results67,go_sem,p0,p1,p2,p3,p4,p5,p6,p7]) rfl ?_
  exact ⟨⟨_,rfl,a1,k1,a2,k2,a3,k3,a4,k4,aR,kR,ll,mm,gg,rfl,OC.out.sm (by omega) (fun b q1 q2=>SQ.out b (by omega)),(RL.out.sm (by omega) (fun q1 q2=>SQ.out gg (by omega))).wide (by omega) (by omega) (by omega),by omega,by omega,by omega,by omega,by omega,RXW.out,fun b e=>by have:=LTB.out b e;omega,fun _=>FT.out.1.sm FT.out.2 (by omega) (fun b q1 q2=>SQ.out b (by omega))⟩,BN.out⟩
