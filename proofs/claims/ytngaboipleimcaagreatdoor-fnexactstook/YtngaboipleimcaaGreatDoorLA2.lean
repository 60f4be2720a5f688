/- What is carried: lemmas on lists, cells and draws; conditions: those typed. -/
import Derived.Test.YtngaboipleimcaaGreatDoorLA1
set_option linter.unusedVariables false
namespace Go.Proofs.YtngaboipleimcaaGreatDoor
open Go.RowKit Go.ChangeShapes Go.WideShapes Go.ChangeAt
end Go.Proofs.YtngaboipleimcaaGreatDoor
namespace Go.Proofs.YtngaboipleimcaaGreatDoor
open Go.RowKit Go.ChangeShapes Go.WideShapes Go.ChangeAt Go.Deep
end Go.Proofs.YtngaboipleimcaaGreatDoor
namespace Go.Proofs.YtngaboipleimcaaGreatDoor.P8
open Go.RowKit Go.ChangeShapes Go.WideShapes Go.ChangeAt Go.Deep
end Go.Proofs.YtngaboipleimcaaGreatDoor.P8
namespace Go.Proofs.YtngaboipleimcaaGreatDoor
open Go.RowKit Go.ChangeShapes Go.WideShapes Go.ChangeAt Go.Deep
section
variable {H:Type} {enc:TypeId × Value→H} {P:Program} {w:World} {base:Nat} {spare:Nat→Bool} {held:Bool}
variable {tw8 ti:TypeId} {fs5:Array Field} {g0 g1 g2 g3:Field}
end
end Go.Proofs.YtngaboipleimcaaGreatDoor
namespace Go.Proofs.YtngaboipleimcaaGreatDoor
open Go.RowKit
end Go.Proofs.YtngaboipleimcaaGreatDoor
namespace Go.Proofs.YtngaboipleimcaaGreatDoor
open Go.RowKit Go.Deep
end Go.Proofs.YtngaboipleimcaaGreatDoor
namespace Go.Proofs.YtngaboipleimcaaGreatDoor
open Go.RowKit
end Go.Proofs.YtngaboipleimcaaGreatDoor
namespace Go.Proofs.YtngaboipleimcaaGreatDoor.P8
open Go.RowKit Go.Deep
end Go.Proofs.YtngaboipleimcaaGreatDoor.P8
namespace Go.Proofs.YtngaboipleimcaaGreatDoor
open Go.RowKit Go.Deep
end Go.Proofs.YtngaboipleimcaaGreatDoor
namespace Go.Proofs.YtngaboipleimcaaGreatDoor.P8
open Go.RowKit Go.Deep
set_option maxHeartbeats 1000000 in
set_option maxRecDepth 20000 in
theorem from_spec (z:Int) (b o n cap:Nat) (Z:Nat→Nat→Int) (hn:n≤1048576) (w:World) (hb:b<w.heap.size)
 (hr:∀ k j,k<n→j<8→w.cell? (zA b (o+k * 8+j))=some (zI (Z k j))) :
 Calls Tryz.prog 116 #[.slice (some (zA b o)) n cap,zI z] w fun e w'=>∃ v,e=.returned v∧Walks w' w.heap.size v (rest Z n z) Z∧Below w.heap.size w w':=by
 have HR:Hid (∀ k j,k<n→j<8→w.cell? (zA b (o+k * 8+j))=some (zI (Z k j))):=hr
 clear hr
 obtain ⟨i5,hi5,hz50,hz51,hz52⟩:=info_parts8
 go_enter Tryz.func116,Tryz.ntmps116
 go_wp2
 go_loopw [5,6] (fun s i wr=>∃ (k:Nat) (v:Value),k≤n∧zI k=i∧v=s∧v≠.slice none 0 0∧wr.ownsRow w.heap.size 50 8 v (rest Z k z).length ((rest Z k z).flatMap (eight Z))∧w.heap.size≤wr.heap.size∧Below w.heap.size w wr) (fun _ i _=>n - (intOf i).toNat)
 case atStart=>exact ⟨0,_,Nat.zero_le _,rfl,rfl,by simp,World.ownsRow_lit w #[] 0 (Nat.le_refl _) (by simp) (by simp),by simp,(Below.refl _ _).alloc (by simp) _⟩
 case round =>
  obtain ⟨k,v,hk,rfl,rfl,hnn,ho,hsz,hbel⟩:=hrel
  by_cases hkn:k<n
  ·have hkn':(k:Int)<(n:Int):=by omega
   have c0:wr.cell? (zA b (o+k * 8))=some (zI (Z k 0)):=(hbel.cell (by exact hb)).trans (HR.out k 0 hkn (by omega))
   have c1:wr.cell? (zA b (o+k * 8+1))=some (zI (Z k 1)):=(hbel.cell (by exact hb)).trans (HR.out k 1 hkn (by omega))
   have c2:wr.cell? (zA b (o+k * 8+2))=some (zI (Z k 2)):=(hbel.cell (by exact hb)).trans (HR.out k 2 hkn (by omega))
   have c3:wr.cell? (zA b (o+k * 8+3))=some (zI (Z k 3)):=(hbel.cell (by exact hb)).trans (HR.out k 3 hkn (by omega))
   have c4:wr.cell? (zA b (o+k * 8+4))=some (zI (Z k 4)):=(hbel.cell (by exact hb)).trans (HR.out k 4 hkn (by omega))
   have c5:wr.cell? (zA b (o+k * 8+5))=some (zI (Z k 5)):=(hbel.cell (by exact hb)).trans (HR.out k 5 hkn (by omega))
   have c6:wr.cell? (zA b (o+k * 8+6))=some (zI (Z k 6)):=(hbel.cell (by exact hb)).trans (HR.out k 6 hkn (by omega))
   have c7:wr.cell? (zA b (o+k * 8+7))=some (zI (Z k 7)):=(hbel.cell (by exact hb)).trans (HR.out k 7 hkn (by omega))
   have HLEN:Hid ((rest Z k z).length≤k):=rest_len Z k z
   by_cases hz:¬ z≤Z k 0
   ·have ez:Z k 0<z:=by omega
    have HO:Hid (wr.ownsRow w.heap.size 50 8 v (rest Z (k+1) z).length ((rest Z (k+1) z).flatMap (eight Z))):=by
     unfold Hid
     rw [rest_next,if_neg hz,List.append_nil]
     exact ho
    have HNN:Hid (v≠.slice none 0 0):=hnn
    clear ho hz hnn
    go_wp2
    go_roundw
    case rel=>exact ⟨k+1,_,by omega,by go_num,rfl,HNN.out,HO.out,hsz,hbel⟩
    case measure=>simp [intOf];omega
   ·have ez:z≤Z k 0:=by omega
    have HZ:Hid (z≤Z k 0):=ez
    have HNN:Hid (v≠.slice none 0 0):=hnn
    clear hz hnn
    go_wp2_with (at_builtin;refine wpList_append_own _ rfl _ _ 125 rfl w.heap.size 50 i5 (.agg #[zI 0,zI 0,zI 0,zI 0,zI 0,zI 0,zI 0,zI 0]) 8 64 Tryz.underlying125 hi5 hz50 hz51 hz52 rfl (by decide) _ _ _ rfl (ho.alloc _) (zA wr.heap.size 0) 1 1 (eight Z k) rfl rfl ?d1 ?d2 ?d3 ?d4 ?d5 ?_)
    case d1 =>
     intro j u hj
     match j,hj with
     | 0,hj=>simp [eight] at hj;subst hj;simp [Addr.add]
     | 1,hj=>simp [eight] at hj;subst hj;simp [Addr.add]
     | 2,hj=>simp [eight] at hj;subst hj;simp [Addr.add]
     | 3,hj=>simp [eight] at hj;subst hj;simp [Addr.add]
     | 4,hj=>simp [eight] at hj;subst hj;simp [Addr.add]
     | 5,hj=>simp [eight] at hj;subst hj;simp [Addr.add]
     | 6,hj=>simp [eight] at hj;subst hj;simp [Addr.add]
     | 7,hj=>simp [eight] at hj;subst hj;simp [Addr.add]
     | j+8,hj=>simp [eight] at hj
    case d2=>intro u hu;simp [eight] at hu;rcases hu with rfl | rfl | rfl | rfl | rfl | rfl | rfl | rfl <;> rfl
    case d3=>have:=HLEN.out;unfold maxLen;omega
    case d4=>have:=HLEN.out;omega
    case d5=>simp;omega
    ·intro v' w2 hown' hg2 hnil
     have hall:=(World.grownBy_alloc wr _ _).trans hg2
     have HO:Hid (w2.ownsRow w.heap.size 50 8 v' (rest Z (k+1) z).length ((rest Z (k+1) z).flatMap (eight Z))):=by
      unfold Hid
      rw [rest_next,if_pos HZ.out,List.length_append,List.flatMap_append]
      simpa using hown'
     have HNN':Hid (v'≠.slice none 0 0):=hnil
     have hs2:w.heap.size≤w2.heap.size:=Nat.le_trans hsz hall.size
     have hb2:Below w.heap.size w w2:=hbel.grown hall hsz (fun kk e=>(ho.lt kk e).1)
     clear hown' hg2 hnil hall ho c0 c1 c2 c3 c4 c5 c6 c7 HZ HNN
     go_wp2
     go_roundw
     case rel=>exact ⟨k+1,_,by omega,by go_num,rfl,HNN'.out,HO.out,hs2,hb2⟩
     case measure=>simp [intOf];omega
  ·have hkn':k=n:=by omega
   subst hkn'
   have HO:Hid (wr.ownsRow w.heap.size 50 8 v (rest Z k z).length ((rest Z k z).flatMap (eight Z))):=ho
   have HW:Hid (Walks wr w.heap.size v (rest Z k z) Z):=ho
   clear ho hnn
   go_wp2
   go_ret
   exact ⟨_,rfl,HW.out,hbel⟩
end Go.Proofs.YtngaboipleimcaaGreatDoor.P8
namespace Go.Proofs.YtngaboipleimcaaGreatDoor
open Go.RowKit Go.Deep
end Go.Proofs.YtngaboipleimcaaGreatDoor
namespace Go.Proofs.YtngaboipleimcaaGreatDoor.P8
open Go.RowKit Go.Deep
end Go.Proofs.YtngaboipleimcaaGreatDoor.P8
namespace Go.Proofs.YtngaboipleimcaaGreatDoor
open Go.RowKit
end Go.Proofs.YtngaboipleimcaaGreatDoor
namespace Go.Proofs.YtngaboipleimcaaGreatDoor
open Go.RowKit Go.Deep
end Go.Proofs.YtngaboipleimcaaGreatDoor
namespace Go.Proofs.YtngaboipleimcaaGreatDoor
open Go
section
variable {P:Program} {ops:Array Oper} {Q:Exit→Act→World→Prop}
end
end Go.Proofs.YtngaboipleimcaaGreatDoor
namespace Go.Proofs.YtngaboipleimcaaGreatDoor
open Go.RowKit Go.Deep
end Go.Proofs.YtngaboipleimcaaGreatDoor
namespace Go.Proofs.YtngaboipleimcaaGreatDoor
open Go.RowKit Go.Maps Go.WideMaps Go.ChangeMaps Go.MapKept
open Go.WideElems (Fit rd rg pl)
end Go.Proofs.YtngaboipleimcaaGreatDoor
namespace Go.Proofs.YtngaboipleimcaaGreatDoor
open Go.RowKit Go.Deep
end Go.Proofs.YtngaboipleimcaaGreatDoor
namespace Go.Proofs
end Go.Proofs
namespace Go.Proofs.YtngaboipleimcaaGreatDoor
open Go.RowKit Go.Maps Go.WideMaps Go.ChangeMaps Go.MapKept
open Go.WideElems (Fit)
end Go.Proofs.YtngaboipleimcaaGreatDoor
namespace Go.Proofs.YtngaboipleimcaaGreatDoor
open Go.RowKit Go.Deep Go.Maps
end Go.Proofs.YtngaboipleimcaaGreatDoor
namespace Go.Proofs.YtngaboipleimcaaGreatDoor
open Go.RowKit Go.Deep
set_option maxRecDepth 20000 in
set_option maxHeartbeats 8000000 in
theorem l5Ack_spec (v:Value) (V:CV) (lo q:Nat) (z:Int) (hs0:V.short 1048576) (hqO:q<V.nO) (hqX:q<V.nX) (hX0:0≤V.X q) (hX1:V.X q≤5000) (hat0:∀ k,k<V.N q→V.O q k 0=V.X q - V.N q+k) (w:World) (h:CellG w v V) :
 Calls Tryz.prog 82 #[v,zI (q:Int),zI z] w fun e w'=>(∃ u t,e=.returned (.tuple #[u,.bool t])∧t=ackB V q z∧OwnC w.heap.size w'.heap.size w' u (V.after q z))∧Below w.heap.size w w':=by
 obtain ⟨aW9,bO,bX,bI,cW,cO,cX,cI,q2,q3,q4,rfl,g1,g2,g3,g4⟩:=h
 have CP:Hid (CellG w (.agg (zG V aW9 cW bO cO bX cX bI cI).toArray) V):=⟨aW9,bO,bX,bI,cW,cO,cX,cI,q2,q3,q4,rfl,g1,g2,g3,g4⟩
 have hs:Hid (V.short 1048576):=hs0
 have hat:Hid (∀ k,k<V.N q→V.O q k 0=V.X q - V.N q+k):=hat0
 have hNq:V.N q≤1048576:=hs0.2.2.1 q hqO
 clear g1 g2 g3 g4 hs0 hat0 q2 q3 q4
 have hwr:IntKind.i64.wrap (V.X q - V.N q)=V.X q - V.N q:=by rw [IntKind.wrap_i64];omega
 have hq1:(q:Int)<V.nO:=by omega
 have hq2:(q:Int)<V.nX:=by omega
 go_enter Tryz.func82,Tryz.ntmps82
 go_wp2_with fail
 obtain ⟨w0,e0⟩:∃ w0,w0=((w.alloc (.cells (zG V aW9 cW bO cO bX cX bI cI).toArray 41)).alloc (.cells zN.toArray 41)):=⟨_,rfl⟩
 have z0:w.heap.size+2≤w0.heap.size:=by rw [e0];simp
 have B0:Hid (Below w.heap.size w w0):=by rw [e0];exact ((Below.refl _ _).alloc (by simp) _).alloc (by simp) _
 have R0:Hid (Six w0 (w.heap.size+1) zN):=by rw [e0];have h:=six_new (w.alloc (.cells (zG V aW9 cW bO cO bX cX bI cI).toArray 41)) 41 (zI 0) (.slice none 0 0) (zI 0) (.slice none 0 0) (.slice none 0 0) (.slice none 0 0);rw [World.size_alloc] at h;exact h
 rw [←e0]
 clear e0
 refine (copyG_spec _ V hs.out _ (CP.out.below B0.out)).mono ?_
 rintro e w1 ⟨⟨v1,rfl,hO,hT,_⟩,hb1⟩
 obtain ⟨aW,kW,aO,kO,aX,kX,aI,kI,rfl,_,_,_,_⟩:=hO.at
 have B1:=hid (bthen B0.out hb1)
 have R1:=hid (R0.out.below (by omega) hb1)
 have z1:w0.heap.size≤w1.heap.size:=hb1.size
 have HO:Hid (OwnC w0.heap.size w1.heap.size w1 (.agg (zD V aW kW aO kO aX kX aI kI).toArray) V):=hO
 have HT:Hid (Thaw w0.heap.size w1.heap.size w1 (.agg (zD V aW kW aO kO aX kX aI kI).toArray)):=hT
 clear hO hT hb1 B0 R0
 go_wp2_with fail
 obtain ⟨w2,e2⟩:∃ w2,w2=w1.alloc (.cells (zD V aW kW aO kO aX kX aI kI).toArray 41):=⟨_,rfl⟩
 have k2:Below w1.heap.size w1 w2:=by rw [e2];exact (Below.refl _ _).alloc (Nat.le_refl _) _
 have X2:Hid (Six w2 w1.heap.size (zD V aW kW aO kO aX kX aI kI)):=by rw [e2];exact six_new w1 41 (zI V.c) (.slice aW V.nW kW) (zI V.g) (.slice aO V.nO kO) (.slice aX V.nX kX) (.slice aI V.nI kI)
 have z2:w1.heap.size<w2.heap.size:=by rw [e2];simp
 rw [←e2]
 clear e2
 have B2:=hid (bthen B1.out k2)
 have R2:=hid (R1.out.below (by omega) k2)
 have O2:=HO.out.below (Nat.le_refl _) k2
 have T2:=HT.out.sm (fun b _ hb=>sm_below k2 hb)
 clear B1 R1 HO HT k2
 generalize w1.heap.size=x8 at *
 generalize w0.heap.size=l0 at *
 have OWX:Hid (OwnC l0 x8 w2 (.agg (zD V aW kW aO kO aX kX aI kI).toArray) V):=O2
 obtain ⟨vW,vO,vX,vI,gW,gO,gX,gI,sl,xs,e,rW,rO,rX,rI,hd,hx1,hx2⟩:=O2
 obtain ⟨rfl,rfl,rfl,rfl⟩:=agg6 e
 rcases rO with ⟨e0,_⟩ | ⟨co,e1,l1,l2,l3,hc1⟩
 ·exact absurd e0 (by omega)
 simp only [Value.slice.injEq,true_and] at e1
 obtain ⟨rfl,rfl⟩:=e1
 obtain ⟨_,_,ex,hax⟩:=rX.is
 simp only [Value.slice.injEq,true_and] at ex
 obtain ⟨rfl,rfl⟩:=ex
 obtain rfl:=hax (by omega)
 have OW:Hid (OwnC l0 x8 w2 (.agg #[zI V.c,.slice aW V.nW kW,zI V.g,zS gO V.nO kO,zS gX V.nX kX,.slice aI V.nI kI]) V):=OWX.out
 clear OWX
 have lX:l0≤gX∧gX<x8:=rX.in (by omega)
 have OX:Own1 w2 gX V.nX V.X V.nX:=by rcases rX with h | ⟨_,_,_,_,_,h⟩;omega;exact h
 obtain ⟨qa,qc,eq,hqa⟩:=(hc1 q hqO).2.is
 have oq:w2.cell? (zA gO q)=some (.slice qa (V.N q) qc):=by rw [←eq];exact (hc1 q hqO).1
 have fq:w2.frozen? (zA gO q)=false:=(T2 _ _ _ gO V.nO kO _ _ rfl).2.2.1 q hqO
 have xq:w2.cell? (zA gX q)=some (zI (V.X q)):=OX.2 q hqX
 have HP:Hid (RP l0 x8 w2 (.slice qa (V.N q) qc) (V.N q) (V.O q) (xs q)):=by rw [←eq];exact (hc1 q hqO).2
 have RWH:Hid (RW l0 x8 w2 (.slice aW V.nW kW) V.nW V.W gW):=rW
 have RXH:Hid (RI l0 x8 w2 (zS gX V.nX kX) V.nX V.X gX):=rX
 have RIH:Hid (RI l0 x8 w2 (.slice aI V.nI kI) V.nI V.I gI):=rI
 have CH:Hid (∀ k,k<V.nO→w2.cell? (zA gO k)=some (sl k)∧RP l0 x8 w2 (sl k) (V.N k) (V.O k) (xs k)):=hc1
 have DH:Hid _:=hd
 have H1:Hid _:=hx1
 have H2:Hid _:=hx2
 have HQA:Hid (V.N q≠0→qa=some (zA (xs q) 0)):=hqa
 clear rW rX rI hc1 hd hx1 hx2 T2 OX e eq hqa hax
 have a0:w2.cell? (zA x8 0)=some (zI V.c):=(X2.out 0 (by decide)).1
 have a1:w2.cell? (zA x8 1)=some (.slice aW V.nW kW):=(X2.out 1 (by decide)).1
 have a2:w2.cell? (zA x8 2)=some (zI V.g):=(X2.out 2 (by decide)).1
 have a3:w2.cell? (zA x8 3)=some (zS gO V.nO kO):=(X2.out 3 (by decide)).1
 have a4:w2.cell? (zA x8 4)=some (zS gX V.nX kX):=(X2.out 4 (by decide)).1
 have a5:w2.cell? (zA x8 5)=some (.slice aI V.nI kI):=(X2.out 5 (by decide)).1
 obtain ⟨r0,r1,r2,r3,r4,r5⟩:=R2.out.a6
 obtain ⟨f0,f1,f2,f3,f4,f5⟩:=R2.out.f6
 have lx:x8<w2.heap.size:=by omega
 have lr:w.heap.size+1<w2.heap.size:=by omega
 have lgX:gX<w2.heap.size:=by omega
 have lgO:gO<w2.heap.size:=by omega
 have hxr:¬ x8=w.heap.size+1:=by omega
 by_cases hz:V.X q<z
 ·have hA:ackB V q z=false:=by simp [ackB,hz]
  refine wp_region_held_drew (S:=fun w'=>(∀ b o,b<w2.heap.size→w'.cell? (zA b o)=w2.cell? (zA b o))∧w2.heap.size≤w'.heap.size) (by kernel_rfl) ⟨fun _ _ _=>rfl,Nat.le_refl _⟩ ?_
  intro hHeld
  refine tka 0 (zI z) rfl ?_
  try simp only [aT]
  refine tka 1 (zP x8 4) rfl ?_
  try simp only [aT]
  refine tkl 2 (zS gX V.nX kX) rfl ?_ ?_
  ·intro wx hSw;have y4:=(hSw.1 x8 4 lx).trans a4;clear hSw;go_simp
  try simp only [aT]
  refine tka 3 (zI (q:Int)) rfl ?_
  try simp only [aT]
  refine tka 4 (zP gX q) rfl ?_
  try simp only [aT]
  refine tkl 5 (zI (V.X q)) rfl ?_ ?_
  ·intro wx hSw;have yx:=(hSw.1 gX q lgX).trans xq;clear hSw;go_simp
  try simp only [aT]
  refine tka 6 (.bool true) rfl ?_
  try simp only [aT]
  refine tka 7 (.bool true) rfl ?_
  try simp only [aT]
  refine tkr 8 rfl ?_
  try simp only [aT]
  refine tkr 9 rfl ?_
  try simp only [aT]
  refine tkr 10 rfl ?_
  try simp only [aT]
  refine tkr 11 rfl ?_
  try simp only [aT]
  refine tkr 12 rfl ?_
  try simp only [aT]
  refine tkr 13 rfl ?_
  try simp only [aT]
  refine tkr 14 rfl ?_
  try simp only [aT]
  refine tkr 15 rfl ?_
  try simp only [aT]
  refine tkr 16 rfl ?_
  try simp only [aT]
  refine tkr 17 rfl ?_
  try simp only [aT]
  refine tkr 18 rfl ?_
  try simp only [aT]
  refine tkr 19 rfl ?_
  try simp only [aT]
  refine tkr 20 rfl ?_
  try simp only [aT]
  refine tkr 21 rfl ?_
  try simp only [aT]
  refine tka 22 (.bool true) rfl ?_
  try simp only [aT]
  refine wpAnyH_done (by kernel_rfl) ?_ _
  clear hHeld
  obtain ⟨w3,e3⟩:∃ w3,w3=w2.drew:=⟨_,rfl⟩
  rw [←e3]
  have k3:Below w2.heap.size w2 w3:=by rw [e3];exact (Below.refl _ _).drew
  have lx3:x8<w3.heap.size:=by rw [e3];exact lx
  have lr3:w.heap.size+1<w3.heap.size:=by rw [e3];exact lr
  have hz9:w3.heap.size=w2.heap.size:=by rw [e3];rfl
  have HZ9:Hid (w3.heap.size=w2.heap.size):=hz9
  clear e3 hz9 xq oq fq hwr
  have A_w3:Hid (Six w3 x8 [zI V.c,.slice aW V.nW kW,zI V.g,zS gO V.nO kO,zS gX V.nX kX,.slice aI V.nI kI]):=fun i hi=>by have h:=(fun g (hg:g<w2.heap.size)=>sm_below k3 hg) x8 lx i;rw [h.1,h.2];exact X2.out i hi
  have R_w3:Hid (Six w3 (w.heap.size+1) zN):=fun i hi=>by have h:=(fun g (hg:g<w2.heap.size)=>sm_below k3 hg) (w.heap.size+1) lr i;rw [h.1,h.2];exact R2.out i hi
  clear a0 a1 a2 a3 a4 a5 r0 f0 r1 f1 r2 f2 r3 f3 r4 f4 r5 f5
  obtain ⟨a0,a1,a2,a3,a4,a5⟩:=A_w3.out.a6
  obtain ⟨r0,r1,r2,r3,r4,r5⟩:=R_w3.out.a6
  obtain ⟨f0,f1,f2,f3,f4,f5⟩:=R_w3.out.f6
  have K3:Hid (Below w2.heap.size w2 w3):=k3
  clear k3
  go_wp2
  refine bodyPost_ret (v:=.tuple #[.agg #[zI V.c,.slice aW V.nW kW,zI V.g,zS gO V.nO kO,zS gX V.nX kX,.slice aI V.nI kI],.bool false]) (by simp [results,Tryz.results82,go_sem,r0,r1,r2,r3,r4,r5]) rfl ?_
  have hzz:=size_put6 w3 (w.heap.size+1) (.int .i64 V.c) (.slice aW V.nW kW) (.int .i64 V.g) (.slice (some ⟨gO,0,none⟩) V.nO kO) (.slice (some ⟨gX,0,none⟩) V.nX kX) (.slice aI V.nI kI)
  have hz9:=HZ9.out
  refine ⟨⟨_,_,rfl,hA.symm,?_⟩,below_put6 (bthen B2.out K3.out) (Nat.le_succ _) _ _ _ _ _ _⟩
  rw [show V.after q z=V by simp [CV.after,hA]]
  show OwnC w.heap.size (put6 w3 (w.heap.size+1) (zI V.c) (.slice aW V.nW kW) (zI V.g) (zS gO V.nO kO) (zS gX V.nX kX) (.slice aI V.nI kI)).heap.size (put6 w3 (w.heap.size+1) (zI V.c) (.slice aW V.nW kW) (zI V.g) (zS gO V.nO kO) (zS gX V.nX kX) (.slice aI V.nI kI)) _ _
  rw [hzz]
  exact OW.out.more (by omega) (by omega) (Nat.le_of_eq hzz.symm) (fun y h1 h2=>Sm.trans (sm_below K3.out (by omega)) (sm_put6 (by omega) (zI V.c) (.slice aW V.nW kW) (zI V.g) (zS gO V.nO kO) (zS gX V.nX kX) (.slice aI V.nI kI)))
 have hz1:decide (V.X q<z)=false:=by simp;omega
 have hone:=ack_one hat.out (z:=z) (by omega)
 by_cases hz2:z≤V.X q - V.N q
 ·have hA:ackB V q z=false:=by simp [ackB];exact fun _=>hone.2 hz2
  clear hz hone
  refine wp_region_held_drew (S:=fun w'=>(∀ b o,b<w2.heap.size→w'.cell? (zA b o)=w2.cell? (zA b o))∧w2.heap.size≤w'.heap.size) (by kernel_rfl) ⟨fun _ _ _=>rfl,Nat.le_refl _⟩ ?_
  intro hHeld
  refine tka 0 (zI z) rfl ?_
  try simp only [aT]
  refine tka 1 (zP x8 4) rfl ?_
  try simp only [aT]
  refine tkl 2 (zS gX V.nX kX) rfl ?_ ?_
  ·intro wx hSw;have y4:=(hSw.1 x8 4 lx).trans a4;clear hSw;go_simp
  try simp only [aT]
  refine tka 3 (zI (q:Int)) rfl ?_
  try simp only [aT]
  refine tka 4 (zP gX q) rfl ?_
  try simp only [aT]
  refine tkl 5 (zI (V.X q)) rfl ?_ ?_
  ·intro wx hSw;have yx:=(hSw.1 gX q lgX).trans xq;clear hSw;go_simp
  try simp only [aT]
  refine tka 6 (.bool false) rfl ?_
  try simp only [aT]
  refine tka 7 (.bool false) rfl ?_
  try simp only [aT]
  refine tka 8 (zI z) rfl ?_
  try simp only [aT]
  refine tka 9 (zP x8 4) rfl ?_
  try simp only [aT]
  refine tkl 10 (zS gX V.nX kX) rfl ?_ ?_
  ·intro wx hSw;have y4:=(hSw.1 x8 4 lx).trans a4;clear hSw;go_simp
  try simp only [aT]
  refine tka 11 (zI (q:Int)) rfl ?_
  try simp only [aT]
  refine tka 12 (zP gX q) rfl ?_
  try simp only [aT]
  refine tkl 13 (zI (V.X q)) rfl ?_ ?_
  ·intro wx hSw;have yx:=(hSw.1 gX q lgX).trans xq;clear hSw;go_simp
  try simp only [aT]
  refine tka 14 (zP x8 3) rfl ?_
  try simp only [aT]
  refine tkl 15 (zS gO V.nO kO) rfl ?_ ?_
  ·intro wx hSw;have y3:=(hSw.1 x8 3 lx).trans a3;clear hSw;go_simp
  try simp only [aT]
  refine tka 16 (zI (q:Int)) rfl ?_
  try simp only [aT]
  refine tka 17 (zP gO q) rfl ?_
  try simp only [aT]
  refine tkl 18 (.slice qa (V.N q) qc) rfl ?_ ?_
  ·intro wx hSw;have yo:=(hSw.1 gO q lgO).trans oq;clear hSw;go_simp
  try simp only [aT]
  refine tka 19 (zI (V.N q:Int)) rfl ?_
  try simp only [aT]
  refine tka 20 (zI (V.X q - V.N q)) rfl ?_
  try simp only [aT]
  refine tka 21 (.bool true) rfl ?_
  try simp only [aT]
  refine tka 22 (.bool true) rfl ?_
  try simp only [aT]
  refine wpAnyH_done (by kernel_rfl) ?_ _
  clear hHeld
  obtain ⟨w3,e3⟩:∃ w3,w3=w2.drew:=⟨_,rfl⟩
  rw [←e3]
  have k3:Below w2.heap.size w2 w3:=by rw [e3];exact (Below.refl _ _).drew
  have lx3:x8<w3.heap.size:=by rw [e3];exact lx
  have lr3:w.heap.size+1<w3.heap.size:=by rw [e3];exact lr
  have hz9:w3.heap.size=w2.heap.size:=by rw [e3];rfl
  have HZ9:Hid (w3.heap.size=w2.heap.size):=hz9
  clear e3 hz9 xq oq fq hwr
  have A_w3:Hid (Six w3 x8 [zI V.c,.slice aW V.nW kW,zI V.g,zS gO V.nO kO,zS gX V.nX kX,.slice aI V.nI kI]):=fun i hi=>by have h:=(fun g (hg:g<w2.heap.size)=>sm_below k3 hg) x8 lx i;rw [h.1,h.2];exact X2.out i hi
  have R_w3:Hid (Six w3 (w.heap.size+1) zN):=fun i hi=>by have h:=(fun g (hg:g<w2.heap.size)=>sm_below k3 hg) (w.heap.size+1) lr i;rw [h.1,h.2];exact R2.out i hi
  clear a0 a1 a2 a3 a4 a5 r0 f0 r1 f1 r2 f2 r3 f3 r4 f4 r5 f5
  obtain ⟨a0,a1,a2,a3,a4,a5⟩:=A_w3.out.a6
  obtain ⟨r0,r1,r2,r3,r4,r5⟩:=R_w3.out.a6
  obtain ⟨f0,f1,f2,f3,f4,f5⟩:=R_w3.out.f6
  have K3:Hid (Below w2.heap.size w2 w3):=k3
  clear k3
  go_wp2
  refine bodyPost_ret (v:=.tuple #[.agg #[zI V.c,.slice aW V.nW kW,zI V.g,zS gO V.nO kO,zS gX V.nX kX,.slice aI V.nI kI],.bool false]) (by simp [results,Tryz.results82,go_sem,r0,r1,r2,r3,r4,r5]) rfl ?_
  have hzz:=size_put6 w3 (w.heap.size+1) (.int .i64 V.c) (.slice aW V.nW kW) (.int .i64 V.g) (.slice (some ⟨gO,0,none⟩) V.nO kO) (.slice (some ⟨gX,0,none⟩) V.nX kX) (.slice aI V.nI kI)
  have hz9:=HZ9.out
  refine ⟨⟨_,_,rfl,hA.symm,?_⟩,below_put6 (bthen B2.out K3.out) (Nat.le_succ _) _ _ _ _ _ _⟩
  rw [show V.after q z=V by simp [CV.after,hA]]
  show OwnC w.heap.size (put6 w3 (w.heap.size+1) (zI V.c) (.slice aW V.nW kW) (zI V.g) (zS gO V.nO kO) (zS gX V.nX kX) (.slice aI V.nI kI)).heap.size (put6 w3 (w.heap.size+1) (zI V.c) (.slice aW V.nW kW) (zI V.g) (zS gO V.nO kO) (zS gX V.nX kX) (.slice aI V.nI kI)) _ _
  rw [hzz]
  exact OW.out.more (by omega) (by omega) (Nat.le_of_eq hzz.symm) (fun y h1 h2=>Sm.trans (sm_below K3.out (by omega)) (sm_put6 (by omega) (zI V.c) (.slice aW V.nW kW) (zI V.g) (zS gO V.nO kO) (zS gX V.nX kX) (.slice aI V.nI kI)))
 have hA:ackB V q z=true:=by
  simp only [ackB,hz1,Bool.false_or,Bool.not_eq_true',decide_eq_false_iff_not]
  exact fun e=>hz2 (hone.1 e)
 have hN0:V.N q≠0:=fun e=>by omega
 have hz3:decide (z≤V.X q - V.N q)=false:=by simp;omega
 clear hz hone hz2
 refine wp_region_held_drew (S:=fun w'=>(∀ b o,b<w2.heap.size→w'.cell? (zA b o)=w2.cell? (zA b o))∧w2.heap.size≤w'.heap.size) (by kernel_rfl) ⟨fun _ _ _=>rfl,Nat.le_refl _⟩ ?_
 intro hHeld
 refine tka 0 (zI z) rfl ?_
 try simp only [aT]
 refine tka 1 (zP x8 4) rfl ?_
 try simp only [aT]
 refine tkl 2 (zS gX V.nX kX) rfl ?_ ?_
 ·intro wx hSw;have y4:=(hSw.1 x8 4 lx).trans a4;clear hSw;go_simp
 try simp only [aT]
 refine tka 3 (zI (q:Int)) rfl ?_
 try simp only [aT]
 refine tka 4 (zP gX q) rfl ?_
 try simp only [aT]
 refine tkl 5 (zI (V.X q)) rfl ?_ ?_
 ·intro wx hSw;have yx:=(hSw.1 gX q lgX).trans xq;clear hSw;go_simp
 try simp only [aT]
 refine tka 6 (.bool false) rfl ?_
 try simp only [aT]
 refine tka 7 (.bool false) rfl ?_
 try simp only [aT]
 refine tka 8 (zI z) rfl ?_
 try simp only [aT]
 refine tka 9 (zP x8 4) rfl ?_
 try simp only [aT]
 refine tkl 10 (zS gX V.nX kX) rfl ?_ ?_
 ·intro wx hSw;have y4:=(hSw.1 x8 4 lx).trans a4;clear hSw;go_simp
 try simp only [aT]
 refine tka 11 (zI (q:Int)) rfl ?_
 try simp only [aT]
 refine tka 12 (zP gX q) rfl ?_
 try simp only [aT]
 refine tkl 13 (zI (V.X q)) rfl ?_ ?_
 ·intro wx hSw;have yx:=(hSw.1 gX q lgX).trans xq;clear hSw;go_simp
 try simp only [aT]
 refine tka 14 (zP x8 3) rfl ?_
 try simp only [aT]
 refine tkl 15 (zS gO V.nO kO) rfl ?_ ?_
 ·intro wx hSw;have y3:=(hSw.1 x8 3 lx).trans a3;clear hSw;go_simp
 try simp only [aT]
 refine tka 16 (zI (q:Int)) rfl ?_
 try simp only [aT]
 refine tka 17 (zP gO q) rfl ?_
 try simp only [aT]
 refine tkl 18 (.slice qa (V.N q) qc) rfl ?_ ?_
 ·intro wx hSw;have yo:=(hSw.1 gO q lgO).trans oq;clear hSw;go_simp
 try simp only [aT]
 refine tka 19 (zI (V.N q:Int)) rfl ?_
 try simp only [aT]
 refine tka 20 (zI (V.X q - V.N q)) rfl ?_
 try simp only [aT]
 refine tka 21 (.bool false) rfl ?_
 try simp only [aT]
 refine tka 22 (.bool false) rfl ?_
 try simp only [aT]
 refine wpAnyH_done (by kernel_rfl) ?_ _
 clear hHeld
 obtain ⟨w3,e3⟩:∃ w3,w3=w2.drew:=⟨_,rfl⟩
 rw [←e3]
 have k3:Below w2.heap.size w2 w3:=by rw [e3];exact (Below.refl _ _).drew
 have lx3:x8<w3.heap.size:=by rw [e3];exact lx
 have lr3:w.heap.size+1<w3.heap.size:=by rw [e3];exact lr
 have lgO3:gO<w3.heap.size:=by rw [e3];exact lgO
 have HZ9:Hid (w3.heap.size=w2.heap.size):=by rw [e3];rfl
 have oq3:w3.cell? (zA gO q)=some (.slice qa (V.N q) qc):=(k3.cell (p:=(zA gO q)) lgO).trans oq
 have fq3:w3.frozen? (zA gO q)=false:=(k3.frozen (p:=(zA gO q)) lgO).trans fq
 have hxO:¬ x8=gO:=by omega
 clear e3 xq oq fq hwr
 have A_w3:Hid (Six w3 x8 [zI V.c,.slice aW V.nW kW,zI V.g,zS gO V.nO kO,zS gX V.nX kX,.slice aI V.nI kI]):=fun i hi=>by have h:=(fun g (hg:g<w2.heap.size)=>sm_below k3 hg) x8 lx i;rw [h.1,h.2];exact X2.out i hi
 have R_w3:Hid (Six w3 (w.heap.size+1) zN):=fun i hi=>by have h:=(fun g (hg:g<w2.heap.size)=>sm_below k3 hg) (w.heap.size+1) lr i;rw [h.1,h.2];exact R2.out i hi
 clear a0 a1 a2 a3 a4 a5 r0 f0 r1 f1 r2 f2 r3 f3 r4 f4 r5 f5
 obtain ⟨a0,a1,a2,a3,a4,a5⟩:=A_w3.out.a6
 obtain ⟨r0,r1,r2,r3,r4,r5⟩:=R_w3.out.a6
 obtain ⟨f0,f1,f2,f3,f4,f5⟩:=R_w3.out.f6
 have K3:Hid (Below w2.heap.size w2 w3):=k3
 clear k3
 obtain rfl:=HQA.out hN0
 have OQ:Hid (P8.Own8 w2 (xs q) (V.N q) (V.O q) (V.N q)):=by rcases HP.out with h | ⟨_,_,_,_,_,h⟩;exact absurd h.1 hN0;exact h
 have lq:l0≤xs q∧xs q<x8:=HP.out.in hN0
 go_wp2_with fail
 refine wp_region_held_drew (S:=fun w'=>(∀ b o,b<w3.heap.size→¬ b=gO→w'.cell? (zA b o)=w3.cell? (zA b o))∧w3.heap.size≤w'.heap.size) (by kernel_rfl) ⟨fun _ _ _ _=>rfl,Nat.le_refl _⟩ ?_
 intro hHeld
 refine tka 0 (zP x8 3) rfl ?_
 try simp only [aT]
 refine tkl 1 (zS gO V.nO kO) rfl ?_ ?_
 ·intro wx hSw;have y3:=(hSw.1 x8 3 lx3 hxO).trans a3;clear hSw;go_simp
 try simp only [aT]
 refine tka 2 (zI (q:Int)) rfl ?_
 try simp only [aT]
 refine tka 3 (zP x8 3) rfl ?_
 try simp only [aT]
 refine tkl 4 (zS gO V.nO kO) rfl ?_ ?_
 ·intro wx hSw;have y3:=(hSw.1 x8 3 lx3 hxO).trans a3;clear hSw;go_simp
 try simp only [aT]
 refine tka 5 (zI (q:Int)) rfl ?_
 try simp only [aT]
 refine tka 6 (zP gO q) rfl ?_
 try simp only [aT]
 refine tka 8 (zI z) rfl ?_
 try simp only [aT]
 refine rd1 7 rfl fun K hK=>?_
 go_simp
 refine hK.out _ _ hHeld (fun hNew=>?_)
 clear hK K hHeld
 have hHeld:=hNew
 clear hNew
 try simp only [aT]
 refine rd1 9 rfl fun K hK=>?_
 go_simp
 go_wp2_with fail
 refine (P8.from_spec z (xs q) 0 (V.N q) qc (V.O q) hNq w3.drew (by have:=HZ9.out;show xs q<w3.heap.size;omega) (fun k j h1 h2=>(K3.out.cell (p:=⟨xs q,_,none⟩) (by show xs q<_;omega)).trans (P8.own_row OQ.out k j h1 h2))).mono ?_
 rintro e w4 ⟨u,rfl,hu,hb4⟩
 obtain ⟨g9,uc,ua,hue,hg9,hRP⟩:=rp_ofL (lo:=w3.heap.size) hu (Nat.le_refl _)
 subst hue
 obtain ⟨r,hr⟩:∃ r,r=(P8.rest (V.O q) (V.N q) z).length:=⟨_,rfl⟩
 rw [←hr]
 have HR:Hid (r=(P8.rest (V.O q) (V.N q) z).length):=hr
 have HRP:Hid _:=hRP
 have hb5:Below w3.heap.size w3 w4:=bthen ((Below.refl _ _).drew) hb4
 have z4:w3.heap.size≤w4.heap.size:=hb5.size
 have hg9b:w3.heap.size≤g9:=hg9
 clear hr hu hRP hg9
 refine hK.out _ _ ⟨fun b o h1 h2=>hb5.cell (p:=(zA b o)) h1,z4⟩ (fun hNew=>?_)
 clear hK K hHeld
 have hHeld:=hNew
 clear hNew
 try simp only [aT]
 have oq4:w4.cell? (zA gO q)=some (zS (xs q) (V.N q) qc):=(hb5.cell (p:=(zA gO q)) lgO3).trans oq3
 have fq4:w4.frozen? (zA gO q)=false:=(hb5.frozen (p:=(zA gO q)) lgO3).trans fq3
 have lgO4:gO<w4.heap.size:=by omega
 clear oq3 fq3
 refine tka 10 (zP gO q) rfl ?_
 try simp only [aT]
 refine rd1 11 rfl fun K hK=>?_
 clear hHeld
 go_simp
 refine hK.out _ _ ⟨fun b o h1 h2=>(set_out (fun e=>h2 e.1.symm)).trans (hb5.cell (p:=(zA b o)) h1),by rw [set_size];exact z4⟩ (fun hNew=>?_)
 clear hK K hNew
 try simp only [aT]
 refine wpAnyH_done (by kernel_rfl) ?_ _
 obtain ⟨w5,e5⟩:∃ w5,w5=(w4.setCell (zA gO q) (.slice ua r uc)):=⟨_,rfl⟩
 rw [←e5]
 have s5:∀ g,g<w2.heap.size→¬ g=gO→Sm w2 w5 g:=fun g h1 h2=>by rw [e5];exact ((sm_below K3.out h1).trans (sm_below hb5 (by have:=HZ9.out;omega))).trans (fun o=>⟨set_out (fun e=>h2 e.1.symm),set_frozen⟩)
 have S5:Hid (∀ g,g<w2.heap.size→¬ g=gO→Sm w2 w5 g):=s5
 have z5:Hid (w5.heap.size=w4.heap.size):=by rw [e5];exact set_size
 have B5:Hid (Below w.heap.size w w5):=by rw [e5];exact (bthen (bthen B2.out K3.out) hb5).setCell (by show w.heap.size≤gO;omega) _
 have G5:Hid (∀ k,k<V.nO→w5.cell? (zA gO k)=some (if k=q then .slice ua r uc else sl k)):=fun k hk=>by
  rw [e5]
  by_cases e:k=q
  ·subst e;rw [if_pos rfl];exact set_in (by rw [oq4];rfl)
  ·rw [if_neg e,set_out (fun h=>e h.2.symm),hb5.cell (p:=(zA gO k)) lgO3,K3.out.cell (p:=(zA gO k)) lgO];exact (CH.out k hk).1
 have P5:Hid (RP w3.heap.size w4.heap.size w5 (.slice ua r uc) r (fun i j=>V.O q (P8.rest (V.O q) (V.N q) z)[i]! j) g9):=by
  have h:=HRP.out
  rw [←HR.out] at h
  exact RP.go h (Nat.le_refl _) (Nat.le_refl _) (by rw [z5.out];exact Nat.le_refl _) (fun _ h1 _=>by rw [e5];exact fun o=>⟨set_out (fun e=>by have:=e.1;omega),set_frozen⟩)
 have lx5:x8<w5.heap.size:=by rw [z5.out];omega
 have lr5:w.heap.size+1<w5.heap.size:=by rw [z5.out];omega
 clear e5 oq4 fq4 hb5 hb4 s5
 have A_w5:Hid (Six w5 x8 [zI V.c,.slice aW V.nW kW,zI V.g,zS gO V.nO kO,zS gX V.nX kX,.slice aI V.nI kI]):=fun i hi=>by have h:=S5.out x8 lx hxO i;rw [h.1,h.2];exact X2.out i hi
 have R_w5:Hid (Six w5 (w.heap.size+1) zN):=fun i hi=>by have h:=S5.out (w.heap.size+1) lr (by omega) i;rw [h.1,h.2];exact R2.out i hi
 clear a0 a1 a2 a3 a4 a5 r0 f0 r1 f1 r2 f2 r3 f3 r4 f4 r5 f5
 obtain ⟨a0,a1,a2,a3,a4,a5⟩:=A_w5.out.a6
 obtain ⟨r0,r1,r2,r3,r4,r5⟩:=R_w5.out.a6
 obtain ⟨f0,f1,f2,f3,f4,f5⟩:=R_w5.out.f6
 go_wp2
 refine bodyPost_ret (v:=.tuple #[.agg #[zI V.c,.slice aW V.nW kW,zI V.g,zS gO V.nO kO,zS gX V.nX kX,.slice aI V.nI kI],.bool true]) (by simp [results,Tryz.results82,go_sem,r0,r1,r2,r3,r4,r5]) rfl ?_
 have hzz:=size_put6 w5 (w.heap.size+1) (.int .i64 V.c) (.slice aW V.nW kW) (.int .i64 V.g) (.slice (some ⟨gO,0,none⟩) V.nO kO) (.slice (some ⟨gX,0,none⟩) V.nX kX) (.slice aI V.nI kI)
 have hz9:=HZ9.out
 have hz5:=z5.out
 refine ⟨⟨_,_,rfl,hA.symm,?_⟩,below_put6 B5.out (Nat.le_succ _) _ _ _ _ _ _⟩
 rw [show V.after q z=V.ack q z by simp [CV.after,hA]]
 show OwnC w.heap.size (put6 w5 (w.heap.size+1) (zI V.c) (.slice aW V.nW kW) (zI V.g) (zS gO V.nO kO) (zS gX V.nX kX) (.slice aI V.nI kI)).heap.size (put6 w5 (w.heap.size+1) (zI V.c) (.slice aW V.nW kW) (zI V.g) (zS gO V.nO kO) (zS gX V.nX kX) (.slice aI V.nI kI)) _ _
 rw [hzz]
 have hF:∀ g,¬ g=w.heap.size+1→Sm w5 (put6 w5 (w.heap.size+1) (zI V.c) (.slice aW V.nW kW) (zI V.g) (zS gO V.nO kO) (zS gX V.nX kX) (.slice aI V.nI kI)) g:=fun g h=>sm_put6 (fun e=>h e.symm) (zI V.c) (.slice aW V.nW kW) (zI V.g) (zS gO V.nO kO) (zS gX V.nX kX) (.slice aI V.nI kI)
 have hSw:∀ g,g<x8→l0≤g→¬ g=gO→Sm w2 (put6 w5 (w.heap.size+1) (zI V.c) (.slice aW V.nW kW) (zI V.g) (zS gO V.nO kO) (zS gX V.nX kX) (.slice aI V.nI kI)) g:=fun g h1 h2 h3=>(S5.out g (by omega) h3).trans (hF g (by omega))
 obtain ⟨d1,d2,d3,d4,d5,d6⟩:=DH.out
 have e0:(V.ack q z).N q=r:=by rw [HR.out];simp [CV.ack]
 have e1:∀ k,¬ k=q→(V.ack q z).N k=V.N k:=fun k hk=>by simp [CV.ack,hk]
 have e2:∀ k,¬ k=q→(V.ack q z).O k=V.O k:=fun k hk=>by simp [CV.ack,hk]
 have e3:(V.ack q z).O q=fun i j=>V.O q (P8.rest (V.O q) (V.N q) z)[i]! j:=by simp [CV.ack]
 have hlt:∀ k,k<V.nO→V.N k≠0→l0≤xs k∧xs k<x8:=fun k hk e=>(CH.out k hk).2.in e
 refine ownC_any (V:=V.ack q z) (gW:=gW) (gO:=gO) (gX:=gX) (gI:=gI) (sl:=fun k=>if k=q then .slice ua r uc else sl k) (xs:=fun k=>if k=q then g9 else xs k) (RWH.out.go (by omega) (by omega) (Nat.le_of_eq hzz.symm) (fun _ h1 h2=>hSw _ h2 h1 d1)) (by omega) (by omega) (Nat.le_of_eq hzz.symm) (fun k hk=>⟨(hF gO (by omega) k).1.trans (G5.out k hk),?_⟩) (RXH.out.go (by omega) (by omega) (Nat.le_of_eq hzz.symm) (fun _ h1 h2=>hSw _ h2 h1 (fun e=>d4 e.symm))) (RIH.out.go (by omega) (by omega) (Nat.le_of_eq hzz.symm) (fun _ h1 h2=>hSw _ h2 h1 (fun e=>d5 e.symm))) (fun _=>d1) (fun _ _=>d2) (fun _ _=>d3) (fun _=>d4) (fun _=>d5) (fun _ _=>d6) (fun k hk e=>?_) (fun i j hij hj n1 n2=>?_)
 ·by_cases e:k=q
  ·subst e
   simp only [if_true]
   rw [e0,e3]
   exact P5.out.go (by omega) (by omega) (Nat.le_of_eq hzz.symm) (fun _ h1 h2=>hF g9 (by omega))
  ·simp only [if_neg e]
   rw [e1 k e,e2 k e]
   exact (CH.out k hk).2.go (by omega) (by omega) (Nat.le_of_eq hzz.symm) (fun _ h1 h2=>hSw _ h2 h1 (H1.out k hk).2.1)
 ·by_cases e':k=q
  ·subst e'
   simp only [if_true]
   exact ⟨fun h=>by have:=RWH.out.in h;omega,by omega,fun h=>by have:=RXH.out.in h;omega,fun h=>by have:=RIH.out.in h;omega⟩
  ·simp only [if_neg e']
   have h:=H1.out k hk
   exact ⟨fun _=>h.1,h.2.1,fun _=>h.2.2.1,fun _=>h.2.2.2⟩
 ·have hj2:j<V.nO:=hj
  by_cases ei:i=q
  ·subst ei
   have ej:¬ j=i:=by omega
   simp only [if_true,if_neg ej]
   rw [e1 j ej] at n2
   have:=hlt j hj2 n2
   omega
  ·simp only [if_neg ei]
   rw [e1 i ei] at n1
   by_cases ej:j=q
   ·subst ej
    simp only [if_true]
    have:=hlt i (by omega) n1
    omega
   ·simp only [if_neg ej]
    exact H2.out i j (by omega) hj2 (by omega)
