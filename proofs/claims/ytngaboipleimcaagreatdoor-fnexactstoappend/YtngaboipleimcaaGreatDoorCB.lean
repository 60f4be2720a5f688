/- The size of a cell with the sum of its parcels; a copy whose lists lie block by block; conditions: the cell lies in memory. -/
import Derived.Test.YtngaboipleimcaaGreatDoorLB2
import Derived.Test.YtngaboipleimcaaGreatDoorMo11
set_option linter.unusedVariables false
set_option maxHeartbeats 4000000
namespace Go.Proofs.YtngaboipleimcaaGreatDoor
open Go.RowKit Go.Deep
def mG (N:Nat→Nat):Nat→Nat
 | 0=>0
 | k+1=>mG N k+N k
theorem DJ (a:Option Addr) (n cap:Nat) (N:Nat→Nat) (O:Nat→Nat→Nat→Int) (left:Int) (h0:0≤left) (h1:left≤1048576) (hn:(n:Int)≤9223372036854775807) (hN:∀ k,k<n→(N k:Int)≤9223372036854775807) (w:World) (h:mD w a n N O) :
 Hz 38 #[.slice a n cap,zI left] w fun e w'=>(∃ r:Int,e=.returned (zI r)∧(r=-1∨(0≤r∧r≤left∧(n:Int)≤left∧(∀ k,k<n→(N k:Int)≤left)∧(mG N n:Int)≤left)))∧Below w.heap.size w w':=by
 have HN:Hid (∀ k,k<n→(N k:Int)≤9223372036854775807):=hN
 have HR:Hid (mD w a n N O):=h
 clear hN h
 by_cases h:(n:Int)≤left
 ·have hd:0≤left - n:=by omega
  go_enter Tryz.func38,Tryz.ntmps38
  go_wp2
  go_loopw [1,5] (fun l i wr=>∃ (k:Nat) (r:Int),k≤n∧i=zI k∧l=zI r∧0≤r∧r≤left∧(∀ j,j<k→(N j:Int)≤left)∧(mG N k:Int)+r≤left∧Below w.heap.size w wr) (fun _ i _=>n - (intOf i).toNat)
  case atStart=>exact ⟨0,left - n,Nat.zero_le _,rfl,by go_num,by omega,by omega,fun _ h=>absurd h (by omega),by simp [mG];omega,Hr _ _⟩
  case round =>
   obtain ⟨k,r,hk,rfl,rfl,hr0,hr1,hall,hsum,hbel⟩:=hrel
   have HSU:Hid ((mG N k:Int)+r≤left):=hsum
   clear hsum
   have HA:Hid (∀ j,j<k→(N j:Int)≤left):=hall
   clear hall
   by_cases hkn:k<n
   ·have hkn':(k:Int)<n:=by omega
    obtain ⟨b,o,rfl,hb,hrow⟩:∃ b o,a=some ⟨b,o,none⟩∧b<w.heap.size∧∀ k,k<n→∃ x c,w.cell? ⟨b,o+k,none⟩=some (.slice x (N k) c)∧P8.kC w x (N k) (O k):=by
     rcases HR.out with h | h
     ·omega
     ·exact h
    obtain ⟨x,c,hc,_⟩:=hrow k hkn
    clear hrow
    have hc':wr.cell? (zA b (o+k))=some (.slice x (N k) c):=(hbel.cell (p:=(zA b (o+k))) hb).trans hc
    clear hc
    go_wp2_with fail
    refine (zO x (N k) c r hr0 (by omega) (HN.out k hkn) _).mono ?_
    rintro e w1 ⟨rfl,hb1⟩
    have B1:Below w.heap.size w w1:=ah hbel hb1
    clear hb1 hbel hc'
    by_cases hle:(N k:Int)≤r
    ·have hd1:0≤r - (N k:Int):=by omega
     rw [if_pos hle]
     go_wp2
     go_roundw
     case rel=>exact ⟨k+1,r - (N k:Int),by omega,by go_num,rfl,by omega,by omega,fun j hj=>by
      by_cases hjk:j=k
      ·subst hjk;omega
      ·exact HA.out j (by omega),by have:=HSU.out;simp only [mG];omega,B1⟩
     case measure=>simp [intOf];omega
    ·rw [if_neg hle]
     go_wp2
     go_ret
     exact ⟨⟨-1,rfl,.inl rfl⟩,B1⟩
   ·have:k=n:=by omega
    subst this
    go_wp2
    go_ret
    exact ⟨⟨r,rfl,.inr ⟨hr0,hr1,h,HA.out,by have:=HSU.out;omega⟩⟩,hbel⟩
 ·go_enter Tryz.func38,Tryz.ntmps38
  go_wp2
  all_goals (go_ret;exact ⟨⟨-1,rfl,.inl rfl⟩,Hr _ _⟩)
theorem DZ (v:Value) (V:CV) (hs:V.short maxLen) (w:World) (h:iO w v V) :
 Hz 9 #[v,zI 1048576] w fun e w'=>(∃ r:Int,e=.returned (zI r)∧(r<0∨(0≤r∧r≤1048576∧V.short 1048576∧mG V.N V.nO≤1048576)))∧Below w.heap.size w w':=by
 obtain ⟨aW,kW,aO,kO,aX,kX,aI,kI,rfl,rW,rO,rX,rI⟩:=h
 obtain ⟨VC,nW,W,VG,nO,N,O,nX,X,nI,I⟩:=V
 simp only at rW rO rX rI ⊢
 simp only [CV.short] at hs ⊢
 obtain ⟨sW,sO,sN,sX,sI⟩:=hs
 unfold maxLen at sW sO sN sX sI
 have HO:Hid (mD w aO nO N O):=rO
 have HN:Hid (∀ k,k<nO→(N k:Int)≤9223372036854775807):=fun k hk=>by have:=sN k hk;omega
 clear rW rO rX rI sN
 go_enter Tryz.func9,Tryz.ntmps9
 go_wp2_with fail
 refine (zJ aW nW kW 1048576 (by omega) (by omega) (by omega) _).mono ?_
 rintro e w1 ⟨rfl,hb1⟩
 have B1:Below w.heap.size w w1:=ah (by first | exact Hr _ _ | exact (Hr _ _).alloc (by simp) _) hb1
 by_cases hW:(nW:Int)≤1048576
 ·rw [if_pos hW]
  have hW0:0≤1048576 - (nW:Int):=by omega
  obtain ⟨hc1,hf1⟩:=cu hb1
  have s1:w.heap.size<w1.heap.size:=by have:=hb1.size;simp at this;omega
  go_wp2_with fail
  refine (DJ aO nO kO N O _ hW0 (by omega) (by omega) HN.out _ (jO HO.out B1)).mono ?_
  rintro e w2 ⟨⟨r,rfl,hr⟩,hb2⟩
  have B2:=ah B1 hb2
  obtain ⟨hc2,hf2⟩:=cu hb2
  have s2:w.heap.size<w2.heap.size:=Hg s1 hb2.size
  rcases hr with rfl | ⟨r0,r1,r2,r3,r4⟩
  ·go_wp2
   go_ret
   exact ⟨⟨-1,rfl,.inl (by omega)⟩,B2⟩
  ·have HR3:Hid (∀ k,k<nO→(N k:Int)≤1048576 - (nW:Int)):=r3
   have HR4:Hid ((mG N nO:Int)≤1048576 - (nW:Int)):=r4
   clear r3 r4
   go_wp2_with fail
   refine (CG aX nX kX _ r0 (by omega) (by omega) _).mono ?_
   rintro e w3 ⟨rfl,hb3⟩
   have B3:=ah B2 hb3
   obtain ⟨hc3,hf3⟩:=cu hb3
   have s3:w.heap.size<w3.heap.size:=Hg s2 hb3.size
   by_cases hX:(nX:Int)≤r
   ·rw [if_pos hX]
    have hX0:0≤r - (nX:Int):=by omega
    go_wp2_with fail
    refine (CG aI nI kI _ hX0 (by omega) (by omega) _).mono ?_
    rintro e w4 ⟨rfl,hb4⟩
    have B4:=ah B3 hb4
    by_cases hI:(nI:Int)≤r - (nX:Int)
    ·rw [if_pos hI]
     have hI0:0≤r - (nX:Int) - (nI:Int):=by omega
     go_wp2
     go_ret
     exact ⟨⟨_,rfl,.inr ⟨hI0,by omega,⟨by omega,by omega,fun k hk=>by have:=HR3.out k hk;omega,by omega,by omega⟩,by have:=HR4.out;omega⟩⟩,B4⟩
    ·rw [if_neg hI]
     go_wp2
     go_ret
     exact ⟨⟨-1,rfl,.inl (by omega)⟩,B4⟩
   ·rw [if_neg hX]
    go_wp2
    go_ret
    exact ⟨⟨-1,rfl,.inl (by omega)⟩,B3⟩
 ·rw [if_neg hW]
  go_wp2
  go_ret
  exact ⟨⟨-1,rfl,.inl (by omega)⟩,B1⟩
def nS (hi:Nat) (w:World) (B n:Nat) (N:Nat→Nat) (O:Nat→Nat→Nat→Int) (k:Nat):Prop :=
 (∀ i,i<n→(w.cell? (zA B i)).isSome=true∧w.frozen? (zA B i)=false) ∧
  ∃ xs:Nat→Nat,(∀ i j,i<j→j<k→xs i<xs j)∧∀ j,j<k→B<xs j∧xs j<w.heap.size∧xs j<hi∧w.cell? (zA B j)=some (zS (xs j) (N j) (N j))∧P8.iQ w (xs j) (N j) (O j) (N j)
theorem Dc {hi:Nat} {w:World} {B n k:Nat} {N:Nat→Nat} {O:Nat→Nat→Nat→Int} (h:nM w B n N O k) (e:hi=w.heap.size):nS hi w B n N O k:=by
 obtain ⟨h1,xs,h2,h3⟩:=h
 exact ⟨h1,xs,h2,fun j hj=>⟨(h3 j hj).1,(h3 j hj).2.1,by rw [e];exact (h3 j hj).2.1,(h3 j hj).2.2.1,(h3 j hj).2.2.2⟩⟩
theorem Ah {hi:Nat} {w:World} {B n k:Nat} {N:Nat→Nat} {O:Nat→Nat→Nat→Int} (h:nS hi w B n N O k):nM w B n N O k:=by
 obtain ⟨h1,xs,h2,h3⟩:=h
 exact ⟨h1,xs,h2,fun j hj=>⟨(h3 j hj).1,(h3 j hj).2.1,(h3 j hj).2.2.2.1,(h3 j hj).2.2.2.2⟩⟩
theorem mX {hi:Nat} {w w':World} {B n k:Nat} {N:Nat→Nat} {O:Nat→Nat→Nat→Int} (h:nS hi w B n N O k) (hB:B<w.heap.size) (hb:Below w.heap.size w w'):nS hi w' B n N O k:=by
 obtain ⟨h1,xs,h2,h3⟩:=h
 refine ⟨fun i hi=>by rw [hb.cell (p:=(zA B i)) hB,hb.frozen (p:=(zA B i)) hB];exact h1 i hi,xs,h2,fun j hj=>?_⟩
 obtain ⟨y1,y2,y3,y4,y5⟩:=h3 j hj
 exact ⟨y1,Hg y2 hb.size,y3,by rw [hb.cell (p:=(zA B j)) hB];exact y4,P8.own_below y5 y2 hb⟩
theorem ig {hi:Nat} {w:World} {B g n k j:Nat} {N:Nat→Nat} {O:Nat→Nat→Nat→Int} {u:Value} (h:nS hi w g n N O k) (hne:B<g):nS hi (w.setCell (zA B j) u) g n N O k:=by
 obtain ⟨h1,xs,h2,h3⟩:=h
 refine ⟨fun i hi=>by rw [aJ (fun e=>by have:=e.1;omega),aB];exact h1 i hi,xs,h2,fun i hi=>?_⟩
 obtain ⟨y1,y2,y3,y4,y5⟩:=h3 i hi
 exact ⟨y1,by rw [ay];exact y2,y3,by rw [aJ (fun e=>by have:=e.1;omega)];exact y4,sG y5 (by omega)⟩
def gq (lo:Nat) (w:World) (v:Value) (V:CV):Prop :=
 ∃ bW bO bX bI hi,lo≤bW∧bW<bO∧bO<bX∧bX<bI∧bI<w.heap.size∧hi≤bX ∧
  v=.agg (zC V bW V.nW bO V.nO bX V.nX bI V.nI).toArray ∧
  Own5 w bW V.nW V.W V.nW∧nS hi w bO V.nO V.N V.O V.nO∧fZ w bX V.nX V.X V.nX∧fZ w bI V.nI V.I V.nI
theorem gq.copy {lo:Nat} {w:World} {v:Value} {V:CV} (h:gq lo w v V):eH lo w v V:=by
 obtain ⟨bW,bO,bX,bI,hi,q0,q1,q2,q3,q4,q5,e,g1,g2,g3,g4⟩:=h
 exact ⟨bW,bO,bX,bI,q0,q1,q2,q3,q4,e,g1,Ah g2,g3,g4⟩
theorem gq.own {lo:Nat} {w:World} {v:Value} {V:CV} (h:gq lo w v V):aV lo w.heap.size w v V:=by
 obtain ⟨bW,bO,bX,bI,hi,q0,q1,q2,q3,q4,q5,rfl,g1,⟨_,xs,hx,hy⟩,g3,g4⟩:=h
 exact jL (gW:=bW) (gO:=bO) (gX:=bX) (gI:=bI) (sl:=fun k=>zS (xs k) (V.N k) (V.N k)) (xs:=xs) (.inr ⟨_,rfl,q0,by omega,Ho _,g1⟩) (by omega) (by omega) (Ho _)
  (fun k hk=>⟨(hy k hk).2.2.2.1,.inr ⟨_,rfl,by have:=(hy k hk).1;omega,(hy k hk).2.1,Ho _,(hy k hk).2.2.2.2⟩⟩) (.inr ⟨_,rfl,by omega,by omega,Ho _,g3⟩) (.inr ⟨_,rfl,by omega,by omega,Ho _,g4⟩)
  (fun _=>by omega) (fun _ _=>by omega) (fun _ _=>by omega) (fun _=>by omega) (fun _=>by omega) (fun _ _=>by omega)
  (fun k hk _=>by have h1:=(hy k hk).1;have h2:=(hy k hk).2.2.1;exact ⟨fun _=>by omega,by omega,fun _=>by omega,fun _=>by omega⟩) (fun i j hij hj _ _=>by have:=hx i j hij hj;omega)
theorem DI (v:Value) (V:CV) (hs:V.short 1048576) (w:World) (h:iO w v V) :
 Hz 12 #[v] w fun e w'=>(∃ v',e=.returned v'∧gq w.heap.size w' v' V)∧Below w.heap.size w w':=by
 obtain ⟨aW,kW,aO,kO,aX,kX,aI,kI,rfl,rW,rO,rX,rI⟩:=h
 obtain ⟨VC,nW,W,VG,nO,N,O,nX,X,nI,I⟩:=V
 simp only at rW rO rX rI
 obtain ⟨sW,sO,sN,sX,sI⟩:=hs
 simp only at sW sO sN sX sI
 have HW:Hid (lJ w aW nW W):=rW
 have HO:Hid (mD w aO nO N O):=rO
 have HX:Hid (Row1 w aX nX X):=rX
 have HI:Hid (Row1 w aI nI I):=rI
 have HN:Hid (∀ k,k<nO→N k≤1048576):=sN
 clear rW rO rX rI sN
 go_enter Tryz.func12,Tryz.ntmps12
 go_wp2_with fail
 obtain ⟨w0,e0⟩:∃ w0,w0=(((w.alloc (.cells #[zI VC,.slice aW nW kW,zI VG,.slice aO nO kO,.slice aX nX kX,.slice aI nI kI] 28)).alloc (.cells zN.toArray 41)).alloc (.cells #[zI VC,.slice none 0 0,zI 0,.slice none 0 0,.slice none 0 0,.slice none 0 0] 41)):=⟨_,rfl⟩
 have z0:w.heap.size+3≤w0.heap.size:=by rw [e0];simp
 have B0:Hid (Below w.heap.size w w0):=by rw [e0];exact (((Hr _ _).alloc (by simp) _).alloc (by simp) _).alloc (by simp;omega) _
 have A0:Hid (Six w0 w.heap.size [zI VC,.slice aW nW kW,zI VG,.slice aO nO kO,.slice aX nX kX,.slice aI nI kI]):=by rw [e0];exact ((fM w 28 (zI VC) (.slice aW nW kW) (zI VG) (.slice aO nO kO) (.slice aX nX kX) (.slice aI nI kI)).below (by simp) ((Hr _ _).alloc (by simp) _)).below (by simp;omega) ((Hr _ _).alloc (by simp) _)
 have R0:Hid (Six w0 (w.heap.size+1) zN):=by rw [e0];have:=(fM (w.alloc (.cells #[zI VC,.slice aW nW kW,zI VG,.slice aO nO kO,.slice aX nX kX,.slice aI nI kI] 28)) 41 (zI 0) (.slice none 0 0) (zI 0) (.slice none 0 0) (.slice none 0 0) (.slice none 0 0)).below (by simp) ((Hr _ _).alloc (by simp) (.cells #[zI VC,.slice none 0 0,zI 0,.slice none 0 0,.slice none 0 0,.slice none 0 0] 41));rw [show (w.alloc (.cells #[zI VC,.slice aW nW kW,zI VG,.slice aO nO kO,.slice aX nX kX,.slice aI nI kI] 28)).heap.size=w.heap.size+1 by simp] at this;exact this
 have O0:Hid (Six w0 (w.heap.size+1+1) [zI VC,.slice none 0 0,zI 0,.slice none 0 0,.slice none 0 0,.slice none 0 0]):=by rw [e0];have:=fM ((w.alloc (.cells #[zI VC,.slice aW nW kW,zI VG,.slice aO nO kO,.slice aX nX kX,.slice aI nI kI] 28)).alloc (.cells zN.toArray 41)) 41 (zI VC) (.slice none 0 0) (zI 0) (.slice none 0 0) (.slice none 0 0) (.slice none 0 0);rw [show ((w.alloc (.cells #[zI VC,.slice aW nW kW,zI VG,.slice aO nO kO,.slice aX nX kX,.slice aI nI kI] 28)).alloc (.cells zN.toArray 41)).heap.size=w.heap.size+1+1 by simp] at this;exact this
 rw [←e0]
 clear e0
 refine (Bd aW nW kW W sW _ (iV HW.out B0.out)).mono ?_
 rintro e w1 ⟨rfl,ho,hz1,hb⟩
 obtain ⟨b1,eb⟩:∃ b,b=w0.heap.size:=⟨_,rfl⟩
 rw [←eb] at ho hz1 ⊢
 have zz1:w0.heap.size≤b1:=by omega
 clear eb
 have hbl1:=hb.size
 have bA:Hid (Six ((w1.setCell (zA (w.heap.size+1+1) 1) (zS b1 nW nW)).setCell (zA (w.heap.size+1+1) 2) (zI VG)) w.heap.size [zI VC,.slice aW nW kW,zI VG,.slice aO nO kO,.slice aX nX kX,.slice aI nI kI]):=(((A0.out.below (by omega) hb).far (by omega)).far (by omega))
 have bR:Hid (Six ((w1.setCell (zA (w.heap.size+1+1) 1) (zS b1 nW nW)).setCell (zA (w.heap.size+1+1) 2) (zI VG)) (w.heap.size+1) zN):=(((R0.out.below (by omega) hb).far (by omega)).far (by omega))
 have bO:Hid (Six ((w1.setCell (zA (w.heap.size+1+1) 1) (zS b1 nW nW)).setCell (zA (w.heap.size+1+1) 2) (zI VG)) (w.heap.size+1+1) [zI VC,zS b1 nW nW,zI VG,.slice none 0 0,.slice none 0 0,.slice none 0 0]):=(((O0.out.below (by omega) hb).set (j:=1) (v:=zS b1 nW nW) rfl (by decide)).set (j:=2) (v:=zI VG) rfl (by decide))
 have bB:Hid (Below w.heap.size w ((w1.setCell (zA (w.heap.size+1+1) 1) (zS b1 nW nW)).setCell (zA (w.heap.size+1+1) 2) (zI VG))):=(((ah B0.out hb).setCell (by simp;omega) _).setCell (by simp;omega) _)
 have nb1:Hid (Own5 ((w1.setCell (zA (w.heap.size+1+1) 1) (zS b1 nW nW)).setCell (zA (w.heap.size+1+1) 2) (zI VG)) b1 nW W nW):=(gQ ((gQ (ho) (by omega))) (by omega))
 have a0:w1.cell? (zA w.heap.size 0)=some (zI VC):=((A0.out.below (by omega) hb) 0 (by decide)).1
 have a1:w1.cell? (zA w.heap.size 1)=some (.slice aW nW kW):=((A0.out.below (by omega) hb) 1 (by decide)).1
 have a2:w1.cell? (zA w.heap.size 2)=some (zI VG):=((A0.out.below (by omega) hb) 2 (by decide)).1
 have a3:w1.cell? (zA w.heap.size 3)=some (.slice aO nO kO):=((A0.out.below (by omega) hb) 3 (by decide)).1
 have a4:w1.cell? (zA w.heap.size 4)=some (.slice aX nX kX):=((A0.out.below (by omega) hb) 4 (by decide)).1
 have a5:w1.cell? (zA w.heap.size 5)=some (.slice aI nI kI):=((A0.out.below (by omega) hb) 5 (by decide)).1
 have hO:=O0.out.below (by omega) hb
 have y0:=(hO 0 (by decide)).1
 have f0:=(hO 0 (by decide)).2
 have y1:=(hO 1 (by decide)).1
 have f1:=(hO 1 (by decide)).2
 have y2:=(hO 2 (by decide)).1
 have f2:=(hO 2 (by decide)).2
 have y3:=(hO 3 (by decide)).1
 have f3:=(hO 3 (by decide)).2
 have y4:=(hO 4 (by decide)).1
 have f4:=(hO 4 (by decide)).2
 have y5:=(hO 5 (by decide)).1
 have f5:=(hO 5 (by decide)).2
 simp only [List.getD,List.getElem?_cons_zero,List.getElem?_cons_succ,Option.getD_some] at y0 y1 y2 y3 y4 y5
 clear hO
 clear ho hb
 go_wp2_with fail
 obtain ⟨w15,e0⟩:∃ x,x=((w1.setCell (zA (w.heap.size+1+1) 1) (zS b1 nW nW)).setCell (zA (w.heap.size+1+1) 2) (zI VG)):=⟨_,rfl⟩
 rw [←e0] at bA bR bO bB  nb1 ⊢
 have z1:w1.heap.size≤w15.heap.size:=by rw [e0];simp [World.setCell]
 clear e0 a0 a1 a2 a3 a4 a5 y0 y1 y2 y3 y4 y5 f0 f1 f2 f3 f4 f5 A0 R0 O0 B0
 have A1:=bA
 have R1:=bR
 have O1:=bO
 have B1:=bB
 clear bA bR bO bB
 have ob1:=nb1
 clear nb1
 refine (Fj aO nO kO N O sO HN.out _ (jO HO.out B1.out)).mono ?_
 rintro e w2 ⟨rfl,ho,hz2,hb⟩
 obtain ⟨hi2,ehi⟩:∃ hi2,hi2=w2.heap.size:=⟨_,rfl⟩
 replace ho:=Dc ho ehi
 have hhi2:hi2≤w2.heap.size:=by omega
 clear ehi
 obtain ⟨b2,eb⟩:∃ b,b=w15.heap.size:=⟨_,rfl⟩
 rw [←eb] at ho hz2 ⊢
 have zz2:w15.heap.size≤b2:=by omega
 clear eb
 have hbl2:=hb.size
 have bA:Hid (Six (w2.setCell (zA (w.heap.size+1+1) 3) (zS b2 nO nO)) w.heap.size [zI VC,.slice aW nW kW,zI VG,.slice aO nO kO,.slice aX nX kX,.slice aI nI kI]):=((A1.out.below (by omega) hb).far (by omega))
 have bR:Hid (Six (w2.setCell (zA (w.heap.size+1+1) 3) (zS b2 nO nO)) (w.heap.size+1) zN):=((R1.out.below (by omega) hb).far (by omega))
 have bO:Hid (Six (w2.setCell (zA (w.heap.size+1+1) 3) (zS b2 nO nO)) (w.heap.size+1+1) [zI VC,zS b1 nW nW,zI VG,zS b2 nO nO,.slice none 0 0,.slice none 0 0]):=((O1.out.below (by omega) hb).set (j:=3) (v:=zS b2 nO nO) rfl (by decide))
 have bB:Hid (Below w.heap.size w (w2.setCell (zA (w.heap.size+1+1) 3) (zS b2 nO nO))):=((ah B1.out hb).setCell (by simp;omega) _)
 have nb1:Hid (Own5 (w2.setCell (zA (w.heap.size+1+1) 3) (zS b2 nO nO)) b1 nW W nW):=(gQ (own_below ob1.out (by omega) hb) (by omega))
 have nb2:Hid (nS hi2 (w2.setCell (zA (w.heap.size+1+1) 3) (zS b2 nO nO)) b2 nO N O nO):=(ig (ho) (by omega))
 have a0:w2.cell? (zA w.heap.size 0)=some (zI VC):=((A1.out.below (by omega) hb) 0 (by decide)).1
 have a1:w2.cell? (zA w.heap.size 1)=some (.slice aW nW kW):=((A1.out.below (by omega) hb) 1 (by decide)).1
 have a2:w2.cell? (zA w.heap.size 2)=some (zI VG):=((A1.out.below (by omega) hb) 2 (by decide)).1
 have a3:w2.cell? (zA w.heap.size 3)=some (.slice aO nO kO):=((A1.out.below (by omega) hb) 3 (by decide)).1
 have a4:w2.cell? (zA w.heap.size 4)=some (.slice aX nX kX):=((A1.out.below (by omega) hb) 4 (by decide)).1
 have a5:w2.cell? (zA w.heap.size 5)=some (.slice aI nI kI):=((A1.out.below (by omega) hb) 5 (by decide)).1
 have hO:=O1.out.below (by omega) hb
 have y0:=(hO 0 (by decide)).1
 have f0:=(hO 0 (by decide)).2
 have y1:=(hO 1 (by decide)).1
 have f1:=(hO 1 (by decide)).2
 have y2:=(hO 2 (by decide)).1
 have f2:=(hO 2 (by decide)).2
 have y3:=(hO 3 (by decide)).1
 have f3:=(hO 3 (by decide)).2
 have y4:=(hO 4 (by decide)).1
 have f4:=(hO 4 (by decide)).2
 have y5:=(hO 5 (by decide)).1
 have f5:=(hO 5 (by decide)).2
 simp only [List.getD,List.getElem?_cons_zero,List.getElem?_cons_succ,Option.getD_some] at y0 y1 y2 y3 y4 y5
 clear hO
 clear ho hb
 go_wp2_with fail
 obtain ⟨w25,e0⟩:∃ x,x=(w2.setCell (zA (w.heap.size+1+1) 3) (zS b2 nO nO)):=⟨_,rfl⟩
 rw [←e0] at bA bR bO bB nb1 nb2 ⊢
 have z2:w2.heap.size≤w25.heap.size:=by rw [e0];simp [World.setCell]
 clear e0 a0 a1 a2 a3 a4 a5 y0 y1 y2 y3 y4 y5 f0 f1 f2 f3 f4 f5 A1 R1 O1 B1
 have A2:=bA
 have R2:=bR
 have O2:=bO
 have B2:=bB
 clear bA bR bO bB
 have ob1:=nb1
 clear nb1
 have ob2:=nb2
 clear nb2
 refine (CZ aX nX kX X sX _ (iG HX.out B2.out)).mono ?_
 rintro e w3 ⟨rfl,ho,hz3,hb⟩
 obtain ⟨b3,eb⟩:∃ b,b=w25.heap.size:=⟨_,rfl⟩
 rw [←eb] at ho hz3 ⊢
 have zz3:w25.heap.size≤b3:=by omega
 clear eb
 have hbl3:=hb.size
 have bA:Hid (Six (w3.setCell (zA (w.heap.size+1+1) 4) (zS b3 nX nX)) w.heap.size [zI VC,.slice aW nW kW,zI VG,.slice aO nO kO,.slice aX nX kX,.slice aI nI kI]):=((A2.out.below (by omega) hb).far (by omega))
 have bR:Hid (Six (w3.setCell (zA (w.heap.size+1+1) 4) (zS b3 nX nX)) (w.heap.size+1) zN):=((R2.out.below (by omega) hb).far (by omega))
 have bO:Hid (Six (w3.setCell (zA (w.heap.size+1+1) 4) (zS b3 nX nX)) (w.heap.size+1+1) [zI VC,zS b1 nW nW,zI VG,zS b2 nO nO,zS b3 nX nX,.slice none 0 0]):=((O2.out.below (by omega) hb).set (j:=4) (v:=zS b3 nX nX) rfl (by decide))
 have bB:Hid (Below w.heap.size w (w3.setCell (zA (w.heap.size+1+1) 4) (zS b3 nX nX))):=((ah B2.out hb).setCell (by simp;omega) _)
 have nb1:Hid (Own5 (w3.setCell (zA (w.heap.size+1+1) 4) (zS b3 nX nX)) b1 nW W nW):=(gQ (own_below ob1.out (by omega) hb) (by omega))
 have nb2:Hid (nS hi2 (w3.setCell (zA (w.heap.size+1+1) 4) (zS b3 nX nX)) b2 nO N O nO):=(ig (mX ob2.out (by omega) hb) (by omega))
 have nb3:Hid (fZ (w3.setCell (zA (w.heap.size+1+1) 4) (zS b3 nX nX)) b3 nX X nX):=(dU (ho) (by omega))
 have a0:w3.cell? (zA w.heap.size 0)=some (zI VC):=((A2.out.below (by omega) hb) 0 (by decide)).1
 have a1:w3.cell? (zA w.heap.size 1)=some (.slice aW nW kW):=((A2.out.below (by omega) hb) 1 (by decide)).1
 have a2:w3.cell? (zA w.heap.size 2)=some (zI VG):=((A2.out.below (by omega) hb) 2 (by decide)).1
 have a3:w3.cell? (zA w.heap.size 3)=some (.slice aO nO kO):=((A2.out.below (by omega) hb) 3 (by decide)).1
 have a4:w3.cell? (zA w.heap.size 4)=some (.slice aX nX kX):=((A2.out.below (by omega) hb) 4 (by decide)).1
 have a5:w3.cell? (zA w.heap.size 5)=some (.slice aI nI kI):=((A2.out.below (by omega) hb) 5 (by decide)).1
 have hO:=O2.out.below (by omega) hb
 have y0:=(hO 0 (by decide)).1
 have f0:=(hO 0 (by decide)).2
 have y1:=(hO 1 (by decide)).1
 have f1:=(hO 1 (by decide)).2
 have y2:=(hO 2 (by decide)).1
 have f2:=(hO 2 (by decide)).2
 have y3:=(hO 3 (by decide)).1
 have f3:=(hO 3 (by decide)).2
 have y4:=(hO 4 (by decide)).1
 have f4:=(hO 4 (by decide)).2
 have y5:=(hO 5 (by decide)).1
 have f5:=(hO 5 (by decide)).2
 simp only [List.getD,List.getElem?_cons_zero,List.getElem?_cons_succ,Option.getD_some] at y0 y1 y2 y3 y4 y5
 clear hO
 clear ho hb
 go_wp2_with fail
 obtain ⟨w35,e0⟩:∃ x,x=(w3.setCell (zA (w.heap.size+1+1) 4) (zS b3 nX nX)):=⟨_,rfl⟩
 rw [←e0] at bA bR bO bB nb1 nb2 nb3 ⊢
 have z3:w3.heap.size≤w35.heap.size:=by rw [e0];simp [World.setCell]
 clear e0 a0 a1 a2 a3 a4 a5 y0 y1 y2 y3 y4 y5 f0 f1 f2 f3 f4 f5 A2 R2 O2 B2
 have A3:=bA
 have R3:=bR
 have O3:=bO
 have B3:=bB
 clear bA bR bO bB
 have ob1:=nb1
 clear nb1
 have ob2:=nb2
 clear nb2
 have ob3:=nb3
 clear nb3
 refine (CZ aI nI kI I sI _ (iG HI.out B3.out)).mono ?_
 rintro e w4 ⟨rfl,ho,hz4,hb⟩
 obtain ⟨b4,eb⟩:∃ b,b=w35.heap.size:=⟨_,rfl⟩
 rw [←eb] at ho hz4 ⊢
 have zz4:w35.heap.size≤b4:=by omega
 clear eb
 have hbl4:=hb.size
 have bA:Hid (Six (w4.setCell (zA (w.heap.size+1+1) 5) (zS b4 nI nI)) w.heap.size [zI VC,.slice aW nW kW,zI VG,.slice aO nO kO,.slice aX nX kX,.slice aI nI kI]):=((A3.out.below (by omega) hb).far (by omega))
 have bR:Hid (Six (w4.setCell (zA (w.heap.size+1+1) 5) (zS b4 nI nI)) (w.heap.size+1) zN):=((R3.out.below (by omega) hb).far (by omega))
 have bO:Hid (Six (w4.setCell (zA (w.heap.size+1+1) 5) (zS b4 nI nI)) (w.heap.size+1+1) [zI VC,zS b1 nW nW,zI VG,zS b2 nO nO,zS b3 nX nX,zS b4 nI nI]):=((O3.out.below (by omega) hb).set (j:=5) (v:=zS b4 nI nI) rfl (by decide))
 have bB:Hid (Below w.heap.size w (w4.setCell (zA (w.heap.size+1+1) 5) (zS b4 nI nI))):=((ah B3.out hb).setCell (by simp;omega) _)
 have nb1:Hid (Own5 (w4.setCell (zA (w.heap.size+1+1) 5) (zS b4 nI nI)) b1 nW W nW):=(gQ (own_below ob1.out (by omega) hb) (by omega))
 have nb2:Hid (nS hi2 (w4.setCell (zA (w.heap.size+1+1) 5) (zS b4 nI nI)) b2 nO N O nO):=(ig (mX ob2.out (by omega) hb) (by omega))
 have nb3:Hid (fZ (w4.setCell (zA (w.heap.size+1+1) 5) (zS b4 nI nI)) b3 nX X nX):=(dU (bV ob3.out (by omega) hb) (by omega))
 have nb4:Hid (fZ (w4.setCell (zA (w.heap.size+1+1) 5) (zS b4 nI nI)) b4 nI I nI):=(dU (ho) (by omega))
 have a0:w4.cell? (zA w.heap.size 0)=some (zI VC):=((A3.out.below (by omega) hb) 0 (by decide)).1
 have a1:w4.cell? (zA w.heap.size 1)=some (.slice aW nW kW):=((A3.out.below (by omega) hb) 1 (by decide)).1
 have a2:w4.cell? (zA w.heap.size 2)=some (zI VG):=((A3.out.below (by omega) hb) 2 (by decide)).1
 have a3:w4.cell? (zA w.heap.size 3)=some (.slice aO nO kO):=((A3.out.below (by omega) hb) 3 (by decide)).1
 have a4:w4.cell? (zA w.heap.size 4)=some (.slice aX nX kX):=((A3.out.below (by omega) hb) 4 (by decide)).1
 have a5:w4.cell? (zA w.heap.size 5)=some (.slice aI nI kI):=((A3.out.below (by omega) hb) 5 (by decide)).1
 have hO:=O3.out.below (by omega) hb
 have y0:=(hO 0 (by decide)).1
 have f0:=(hO 0 (by decide)).2
 have y1:=(hO 1 (by decide)).1
 have f1:=(hO 1 (by decide)).2
 have y2:=(hO 2 (by decide)).1
 have f2:=(hO 2 (by decide)).2
 have y3:=(hO 3 (by decide)).1
 have f3:=(hO 3 (by decide)).2
 have y4:=(hO 4 (by decide)).1
 have f4:=(hO 4 (by decide)).2
 have y5:=(hO 5 (by decide)).1
 have f5:=(hO 5 (by decide)).2
 simp only [List.getD,List.getElem?_cons_zero,List.getElem?_cons_succ,Option.getD_some] at y0 y1 y2 y3 y4 y5
 have hR:=R3.out.below (by omega) hb
 have r0:=(hR 0 (by decide)).1
 have g0:=(hR 0 (by decide)).2
 have r1:=(hR 1 (by decide)).1
 have g1:=(hR 1 (by decide)).2
 have r2:=(hR 2 (by decide)).1
 have g2:=(hR 2 (by decide)).2
 have r3:=(hR 3 (by decide)).1
 have g3:=(hR 3 (by decide)).2
 have r4:=(hR 4 (by decide)).1
 have g4:=(hR 4 (by decide)).2
 have r5:=(hR 5 (by decide)).1
 have g5:=(hR 5 (by decide)).2
 simp only [List.getD,List.getElem?_cons_zero,List.getElem?_cons_succ,Option.getD_some] at r0 r1 r2 r3 r4 r5
 clear hO
 go_wp2
 refine Hw (v:=.agg #[zI VC,zS b1 nW nW,zI VG,zS b2 nO nO,zS b3 nX nX,zS b4 nI nI]) (by simp [results,Tryz.results12,go_sem,r0,r1,r2,r3,r4,r5]) rfl ?_
 refine ⟨⟨_,rfl,b1,b2,b3,b4,hi2,by omega,by omega,by omega,by omega,by simp [World.setCell];omega,by omega,rfl,(gQ ((gQ ((gQ ((gQ ((gQ ((gQ (nb1.out) (by omega))) (by omega))) (by omega))) (by omega))) (by omega))) (by omega)),(ig ((ig ((ig ((ig ((ig ((ig (nb2.out) (by omega))) (by omega))) (by omega))) (by omega))) (by omega))) (by omega)),(dU ((dU ((dU ((dU ((dU ((dU (nb3.out) (by omega))) (by omega))) (by omega))) (by omega))) (by omega))) (by omega)),(dU ((dU ((dU ((dU ((dU ((dU (nb4.out) (by omega))) (by omega))) (by omega))) (by omega))) (by omega))) (by omega))⟩,((((((bB.out.setCell (by simp) _).setCell (by simp) _).setCell (by simp) _).setCell (by simp) _).setCell (by simp) _).setCell (by simp) _)⟩
