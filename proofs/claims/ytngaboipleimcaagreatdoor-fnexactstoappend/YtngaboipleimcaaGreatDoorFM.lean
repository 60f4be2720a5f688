/- LogFold of the model; conditions: the cell and the records lie in memory. -/
import Derived.Test.YtngaboipleimcaaGreatDoorLB4
import Derived.Test.YtngaboipleimcaaGreatDoorFP
set_option linter.unusedVariables false
set_option maxHeartbeats 8000000
set_option maxRecDepth 20000
namespace Go.Proofs.YtngaboipleimcaaGreatDoor
open Go.RowKit Go.Deep
attribute [local go_sem ↓] uH
def foldM (c d:Int) (V:CV) (nR:Nat) (Z:Nat→Nat→Int):CV × Nat:=if bD c d V=true∧nR≤250 then (bg c d V Z (gm c d V Z nR),gm c d V Z nR) else (CV.zero,0)
def LF (c d:Int) (V:CV) (Z:Nat→Nat→Int) (w:World) (xb k:Nat) (wr:World):Prop:=∃ aW kW aO kO aX kX aI kI lo hi,Bk wr xb (zD (bg c d V Z k) aW kW aO kO aX kX aI kI)∧aV lo hi wr (.agg (zD (bg c d V Z k) aW kW aO kO aX kX aI kI).toArray) (bg c d V Z k)∧(hi≤xb∨xb<lo)∧w.heap.size+3≤lo∧hi≤wr.heap.size∧Below w.heap.size w wr∧Bk wr w.heap.size [zI c,zI d]∧Bk wr (w.heap.size+1+1) zN∧w.heap.size+3≤xb
theorem yE {w:World} {b o:Nat} {R:Nat→Int} (h:∀ j,j<16→w.cell? ⟨b,o+j,none⟩=some (zI (R j))):(xB (zP b o)).run Tryz.prog w=.ok (rv R) w:=by
 refine run_loadAt_mid w b o 52 (zR R) _ ?_ Tryz.underlying52 rfl (by kernel_rfl)
 intro j v hv
 obtain ⟨hj,rfl⟩:=List.getElem?_eq_some_iff.1 hv
 have e:(zR R)[j]=zI (R j):=by
  have hj16:j<16:=hj
  have:j=0∨j=1∨j=2∨j=3∨j=4∨j=5∨j=6∨j=7∨j=8∨j=9∨j=10∨j=11∨j=12∨j=13∨j=14∨j=15:=by omega
  rcases this with rfl | rfl | rfl | rfl | rfl | rfl | rfl | rfl | rfl | rfl | rfl | rfl | rfl | rfl | rfl | rfl <;> rfl
 rw [h j hj,e]
theorem Dl {c d:Int} {V:CV} (h:bD c d V=true):V.short 1048576:=by
 obtain ⟨h1,h2,h3⟩:=dH h
 have h9:=jF h
 refine ⟨by omega,by omega,fun k hk=>?_,by omega,by omega⟩
 have:=(kD h k (by omega)).2
 omega
theorem gy {w:World} {g:Nat} {l:List Value} (h:Bk w g l) (hl:l.length=6) (v0 v1 v2 v3 v4 v5:Value):Bk (aG w g v0 v1 v2 v3 v4 v5) g [v0,v1,v2,v3,v4,v5]:=jM (l:=[v0,v1,v2,v3,v4,v5]) h (by rw [hl];rfl)
def Jd (w:World) (V:CV) (aW:Option Addr) (bO bX bI:Nat):Prop :=
 bO<w.heap.size∧bX<w.heap.size∧bI<w.heap.size∧lJ w aW V.nW V.W∧(V.nW≠0→∃ b,aW=some (zA b 0))∧(∀ k,k<V.nO→∃ y c,y<w.heap.size∧w.cell? (zA bO k)=some (zS y (V.N k) c)∧∀ i j,i<V.N k→j<8→w.cell? (zA y (0+i * 8+j))=some (zI (V.O k i j)))∧(∀ i,i<V.nX→w.cell? (zA bX i)=some (zI (V.X i)))∧(∀ i,i<V.nI→w.cell? (zA bI i)=some (zI (V.I i)))
theorem Jd.below {w w':World} {V:CV} {aW:Option Addr} {bO bX bI:Nat} (h:Jd w V aW bO bX bI) (hb:Below w.heap.size w w'):Jd w' V aW bO bX bI:=by
 obtain ⟨h1,h2,h3,h4,h5,h6,h7,h8⟩:=h
 have hz:=hb.size
 refine ⟨by omega,by omega,by omega,iV h4 hb,h5,fun k hk=>?_,fun i hi=>(hb.cell (p:=zA bX i) h2).trans (h7 i hi),fun i hi=>(hb.cell (p:=zA bI i) h3).trans (h8 i hi)⟩
 obtain ⟨y,c,y1,y2,y3⟩:=h6 k hk
 exact ⟨y,c,by omega,(hb.cell (p:=zA bO k) h1).trans y2,fun i j q1 q2=>(hb.cell (p:=zA y _) y1).trans (y3 i j q1 q2)⟩
theorem Jd.g {w:World} {V:CV} {aW:Option Addr} {bO bX bI:Nat} (h:Jd w V aW bO bX bI) (cW cO cX cI:Nat):dL w (.agg (zG V aW cW bO cO bX cX bI cI).toArray) V:=by
 obtain ⟨h1,h2,h3,h4,h5,h6,h7,h8⟩:=h
 exact ⟨aW,bO,bX,bI,cW,cO,cX,cI,h1,h2,h3,rfl,h4,fun k hk=>by obtain ⟨y,c,y1,y2,y3⟩:=h6 k hk;exact ⟨_,c,y2,.inr ⟨y,0,rfl,y1,y3⟩⟩,h7,h8⟩
theorem aV.f {lo hi:Nat} {w:World} {V:CV} {a1 a2 a3 a4:Option Addr} {k1 k2 k3 k4:Nat} (h:aV lo hi w (.agg (zD V a1 k1 a2 k2 a3 k3 a4 k4).toArray) V) (hF:Full w (.agg (zD V a1 k1 a2 k2 a3 k3 a4 k4).toArray)) (h2:V.nO=2∧V.nX=2∧V.nI=2) :
 ∃ bO bX bI,a2=some (zA bO 0)∧a3=some (zA bX 0)∧a4=some (zA bI 0)∧Jd w V a1 bO bX bI:=by
 obtain ⟨vW,vO,vX,vI,gW,gO,gX,gI,sl,xs,e,rW,rO,rX,rI,_⟩:=h
 obtain ⟨rfl,rfl,rfl,rfl⟩:=kV e
 rcases rO with ⟨e0,_⟩ | ⟨cO,e1,o1,o2,o3,o4⟩
 ·omega
 rcases rX with ⟨e0,_⟩ | ⟨cX,e3,x1,x2,x3,x4⟩
 ·omega
 rcases rI with ⟨e0,_⟩ | ⟨cI,e5,i1,i2,i3,i4⟩
 ·omega
 simp only [Value.slice.injEq,true_and] at e1 e3 e5
 obtain ⟨rfl,rfl⟩:=e1
 obtain ⟨rfl,rfl⟩:=e3
 obtain ⟨rfl,rfl⟩:=e5
 refine ⟨gO,gX,gI,rfl,rfl,rfl,by omega,by omega,by omega,?_,?_,fun k hk=>?_,x4.2,i4.2⟩
 ·rcases rW with ⟨e0,_⟩ | ⟨c,e0,h1,h2,h3,h4⟩
  ·exact .inl e0
  ·simp only [Value.slice.injEq,true_and] at e0
   obtain ⟨rfl,rfl⟩:=e0
   exact mP h4 (by omega)
 ·intro hn
  rcases rW with ⟨e0,_⟩ | ⟨c,e0,h1,h2,h3,h4⟩
  ·exact absurd e0 hn
  ·simp only [Value.slice.injEq,true_and] at e0
   exact ⟨gW,e0.1⟩
 ·obtain ⟨c1,c2⟩:=o4 k hk
  obtain ⟨y,l,c,q1,q2⟩:=hF _ _ _ gO V.nO k2 _ _ rfl k hk
  rcases c2 with ⟨e0,x,c',e1⟩ | ⟨c',e1,g1,g2,g3,g4⟩
  ·rw [c1,e1] at q1
   simp only [Option.some.injEq,Value.slice.injEq] at q1
   obtain ⟨rfl,rfl,rfl⟩:=q1
   exact ⟨y,c',q2,by rw [c1,e1,e0],fun i j hi=>absurd hi (by omega)⟩
  ·exact ⟨xs k,c',by omega,by rw [c1,e1],P8.aZ g4⟩
theorem Jl (c d:Int) (a:Option Addr) (n cap:Nat) (Z:Nat→Nat→Int) (hn:n≤1048576) (w:World) (h:lJ w a n Z) :
 Hz 73 #[.agg #[zI c,zI d],.slice a n cap] w fun e w'=>e=.returned (.bool (allB c d Z n))∧Below w.heap.size w w':=by
 rcases h with rfl | ⟨b,o,rfl,hb,hr⟩
 ·go_enter Tryz.func73,Tryz.ntmps73
  go_wp2
  refine wp_loop_rounds 1 ?_
  rw [rounds_succ]
  go_wp2
  go_ret
  exact ⟨rfl,(Hr _ _).alloc (by simp) _⟩
 ·exact jd c d b o n cap Z hn w hb hr
theorem Jp (c d:Int) (V:CV) (aW:Option Addr) (cW bO cO bX cX bI cI:Nat) (hs:V.short 1048576) (w:World) (h:Jd w V aW bO bX bI) (HB:bD c d V=true) :
 Hz 40 #[.agg #[zI c,zI d],.agg (zG V aW cW bO cO bX cX bI cI).toArray] w fun e w'=>e=.returned (.bool true)∧Below w.heap.size w w':=by
 obtain ⟨VC,nW,W,VG,nO,N,O,nX,X,nI,I⟩:=V
 obtain ⟨lO,lX,lI,hW0,hA0,hO0,hX0,hI0⟩:=h
 obtain ⟨sW,sO,sN,sX,sI⟩:=hs
 simp only at lO lX lI hW0 hA0 hO0 hX0 hI0 sW sO sN sX sI
 simp only [bD,Bool.and_eq_true,beq_iff_eq] at HB
 obtain ⟨h01,h2,h3,rfl,rfl,rfl,hall,h4,h5⟩:=HB
 have h01':=h01
 simp only [hasB,Bool.and_eq_true] at h01'
 obtain ⟨h0,h1⟩:=h01'
 have gW:=hid hW0
 have gA:=hid hA0
 have gO:=hid hO0
 have gX:=hid hX0
 have gI:=hid hI0
 have HN:Hid (∀ k,k<2→N k≤1048576):=sN
 have HL:Hid (iM (fun k=>!(aQ c d (W k 1) != VC)) nW=true):=hall
 clear hW0 hA0 hO0 hX0 hI0 sN hall
 obtain ⟨x1,x2,x3,x4⟩:=fD h0
 go_enter Tryz.func40,Tryz.ntmps40
 go_wp2_with fail
 obtain ⟨w0,e0,z0,B0,A0,M0⟩:=qG w c d (zI VC) (.slice aW nW cW) (zI VG) (zS bO 2 cO) (zS bX 2 cX) (zS bI 2 cI)
 rw [←e0]
 clear e0
 refine (dM _ _ _).mono ?_
 rintro e w1 ⟨rfl,hb1⟩
 rw [h0]
 have B1:=hid (ah B0.out hb1)
 have A1:=hid (A0.out.below (by omega) hb1)
 have M1:=hid (bH (by omega) hb1 M0.out)
 have z1:w.heap.size+2≤w1.heap.size:=Hq z0 hb1.size
 clear hb1 A0 M0 B0
 obtain ⟨a0,a1,a2,a3,a4,a5⟩:=A1.out.a6
 have m0:=M1.out.1
 have m1:=M1.out.2
 have lA:w.heap.size+1<w1.heap.size:=by omega
 have lM:w.heap.size<w1.heap.size:=by omega
 go_wp2_with fail
 refine (dh _ _ _ _).mono ?_
 rintro e w2 ⟨rfl,e2⟩
 rw [e2,h1]
 clear e2 w2
 go_wp2_with fail
 refine (Jl c d aW nW cW W sW _ (iV gW.out B1.out)).mono ?_
 rintro e w2 ⟨rfl,hb2⟩
 rw [h2]
 clear a0 a1 a2 a3 a4 a5 m0 m1 lA lM
 have B2:=hid (ah B1.out hb2)
 have A2:=hid (A1.out.below (by omega) hb2)
 have M2:=hid (bH (by omega) hb2 M1.out)
 have z2:w.heap.size+2≤w2.heap.size:=Hq z1 hb2.size
 clear hb2 A1 M1 B1
 obtain ⟨a0,a1,a2,a3,a4,a5⟩:=A2.out.a6
 have m0:=M2.out.1
 have m1:=M2.out.2
 have lA:w.heap.size+1<w2.heap.size:=by omega
 have lM:w.heap.size<w2.heap.size:=by omega
 go_wp2_with fail
 refine (dh _ _ _ _).mono ?_
 rintro e w3 ⟨rfl,e3⟩
 rw [e3,h3]
 clear e3 w3
 go_wp2
 go_loopw [5] (fun i wr=>∃ k:Nat,k≤nW∧i=zI k∧iM (fun k=>!(aQ c d (W k 1) != VC)) k=true∧Below w2.heap.size w2 wr) (fun i _=>nW - (intOf i).toNat)
 case atStart=>exact ⟨0,Nat.zero_le _,rfl,rfl,Hr _ _⟩
 case round =>
  clear a0 a1 a2 a3 a4 a5 m0 m1 lA lM
  obtain ⟨k,hk,rfl,hall,BR⟩:=hrel
  have HALL:Hid (iM (fun k=>!(aQ c d (W k 1) != VC)) k=true):=hall
  clear hall
  have hl3:=BR.size
  have lA:w.heap.size+1<wr.heap.size:=by omega
  have lM:w.heap.size<wr.heap.size:=by omega
  have a0:wr.cell? (zA (w.heap.size+1) 0)=some (zI VC):=(BR.cell (p:=(zA (w.heap.size+1) 0)) (by show w.heap.size+1<_;omega)).trans (A2.out 0 (by decide)).1
  have a1:wr.cell? (zA (w.heap.size+1) 1)=some (.slice aW nW cW):=(BR.cell (p:=(zA (w.heap.size+1) 1)) (by show w.heap.size+1<_;omega)).trans (A2.out 1 (by decide)).1
  have a2:wr.cell? (zA (w.heap.size+1) 2)=some (zI VG):=(BR.cell (p:=(zA (w.heap.size+1) 2)) (by show w.heap.size+1<_;omega)).trans (A2.out 2 (by decide)).1
  have a3:wr.cell? (zA (w.heap.size+1) 3)=some (zS bO 2 cO):=(BR.cell (p:=(zA (w.heap.size+1) 3)) (by show w.heap.size+1<_;omega)).trans (A2.out 3 (by decide)).1
  have a4:wr.cell? (zA (w.heap.size+1) 4)=some (zS bX 2 cX):=(BR.cell (p:=(zA (w.heap.size+1) 4)) (by show w.heap.size+1<_;omega)).trans (A2.out 4 (by decide)).1
  have a5:wr.cell? (zA (w.heap.size+1) 5)=some (zS bI 2 cI):=(BR.cell (p:=(zA (w.heap.size+1) 5)) (by show w.heap.size+1<_;omega)).trans (A2.out 5 (by decide)).1
  have m0:wr.cell? (zA w.heap.size 0)=some (zI c):=(BR.cell (p:=(zA w.heap.size 0)) (by show w.heap.size<_;omega)).trans M2.out.1
  have m1:wr.cell? (zA w.heap.size 1)=some (zI d):=(BR.cell (p:=(zA w.heap.size 1)) (by show w.heap.size<_;omega)).trans M2.out.2
  by_cases hkn:k<nW
  ·have hkn':(k:Int)<nW:=by omega
   have hRow:=gW.out
   obtain ⟨bW,rfl⟩:=gA.out (by omega)
   rcases hRow with hz | ⟨bW',oW,e1,lW,hR⟩
   ·omega
   simp only [Option.some.injEq,Addr.mk.injEq,and_true] at e1
   obtain ⟨rfl,rfl⟩:=e1
   have lW':bW<wr.heap.size:=by omega
   have c0:wr.cell? (zA bW (k * 5))=some (zI (W k 0)):=by have:=(BR.cell (p:=(zA bW (0+k * 5+0))) (by show bW<_;omega)).trans ((B2.out.cell (p:=(zA bW (0+k * 5+0))) lW).trans (hR k 0 hkn (by omega)));simpa using this
   have c1:wr.cell? (zA bW (k * 5+1))=some (zI (W k 1)):=by have:=(BR.cell (p:=(zA bW (0+k * 5+1))) (by show bW<_;omega)).trans ((B2.out.cell (p:=(zA bW (0+k * 5+1))) lW).trans (hR k 1 hkn (by omega)));simpa using this
   have c2:wr.cell? (zA bW (k * 5+2))=some (zI (W k 2)):=by have:=(BR.cell (p:=(zA bW (0+k * 5+2))) (by show bW<_;omega)).trans ((B2.out.cell (p:=(zA bW (0+k * 5+2))) lW).trans (hR k 2 hkn (by omega)));simpa using this
   have c3:wr.cell? (zA bW (k * 5+3))=some (zI (W k 3)):=by have:=(BR.cell (p:=(zA bW (0+k * 5+3))) (by show bW<_;omega)).trans ((B2.out.cell (p:=(zA bW (0+k * 5+3))) lW).trans (hR k 3 hkn (by omega)));simpa using this
   have c4:wr.cell? (zA bW (k * 5+4))=some (zI (W k 4)):=by have:=(BR.cell (p:=(zA bW (0+k * 5+4))) (by show bW<_;omega)).trans ((B2.out.cell (p:=(zA bW (0+k * 5+4))) lW).trans (hR k 4 hkn (by omega)));simpa using this
   cases hp:(aQ c d (W k 1) != VC)
   ·go_wp2
    refine Hu (S:=fun w'=>(∀ b o,b<wr.heap.size→w'.cell? (zA b o)=wr.cell? (zA b o))∧wr.heap.size≤w'.heap.size) (by kernel_rfl) ⟨fun _ _ _=>rfl,Ho _⟩ ?_
    intro af
    refine aA 0 (.agg #[zI c,zI d]) rfl ?_
    refine aA 1 (zP (w.heap.size+1) 1) rfl ?_
    refine aA 2 (zS bW nW cW) rfl ?_
    refine aA 3 (zI (k:Int)) rfl ?_
    refine aA 4 (.pointer (some (zA bW (k * 5)))) rfl ?_
    refine aA 5 (.pointer (some (zA bW (k * 5+1)))) rfl ?_
    refine aA 6 (zI (W k 1)) rfl ?_
    refine aA 8 (zP (w.heap.size+1) 0) rfl ?_
    refine aA 9 (zI VC) rfl ?_
    refine di 7 rfl fun K hK=>?_
    go_simp
    go_wp2_with (go_at_call 74;refine (dD _ _ _ _).mono ?_;rintro e v2 ⟨rfl,hbv2⟩)
    refine hK.out _ _ (bM (by assumption) hbv2) (fun af=>?_)
    clear hK K
    try simp only [aT]
    refine aA 10 (.bool false) rfl ?_
    refine Hy (by kernel_rfl) ?_ _
    go_wp2
    go_roundw
    case rel=>exact ⟨k+1,by omega,by go_num,ja HALL.out (by simp [hp]),by repeat (first | exact BR | refine ah ?_ (by assumption) | apply Below.drew)⟩
    case measure=>simp [intOf];omega
   ·have EG:iM (fun k=>!(aQ c d (W k 1) != VC)) nW=false:=kK hkn (by simp [hp])
    rw [HL.out] at EG
    cases EG
  ·have:k=nW:=by omega
   subst this
   have B3:=hid (ah B2.out BR)
   have A3:Hid (Six wr (w.heap.size+1) [zI VC,.slice aW k cW,zI VG,zS bO 2 cO,zS bX 2 cX,zS bI 2 cI]):=A2.out.below (by omega) BR
   have M3:Hid (wr.cell? (zA w.heap.size 0)=some (zI c)∧wr.cell? (zA w.heap.size 1)=some (zI d)):=⟨m0,m1⟩
   have z3:w.heap.size+2≤wr.heap.size:=by omega
   clear BR A2 M2 B2
   have zwr:=z3
   have kzr:=B3.out.size
   go_wp2_with fail
   obtain ⟨y,cy,fg,fO,fr⟩:=gO.out 0 (by decide)
   refine (qf c d VC VG _ bO bX bI cO cX cI 0 y (N 0) cy (O 0) (X 0) (I 0) 0 (.inl ⟨rfl,rfl⟩) (HN.out 0 (by decide)) _ (by omega) (by omega) (by omega) (by omega) ((B3.out.cell (p:=zA bO 0) lO).trans fO) ((B3.out.cell (p:=zA bX 0) lX).trans (gX.out 0 (by decide))) ((B3.out.cell (p:=zA bI 0) lI).trans (gI.out 0 (by decide))) (fun i j q1 q2=>(B3.out.cell (p:=zA y _) fg).trans (fr i j q1 q2))).mono ?_
   rintro e w4 ⟨rfl,hb4⟩
   clear y cy fg fO fr
   rw [h4]
   clear a0 a1 a2 a3 a4 a5 m0 m1 lA lM
   have B4:=hid (ah B3.out hb4)
   have A4:=hid (A3.out.below (by omega) hb4)
   have M4:=hid (bH (by omega) hb4 M3.out)
   have zw4:w.heap.size+2≤w4.heap.size:=Hq zwr hb4.size
   have kzw4:wr.heap.size≤w4.heap.size:=hb4.size
   clear hb4 A3 M3 B3
   obtain ⟨a0,a1,a2,a3,a4,a5⟩:=A4.out.a6
   have m0:=M4.out.1
   have m1:=M4.out.2
   have lA:w.heap.size+1<w4.heap.size:=by omega
   have lM:w.heap.size<w4.heap.size:=by omega
   go_wp2_with fail
   obtain ⟨y,cy,fg,fO,fr⟩:=gO.out 1 (by decide)
   refine (qf c d VC VG _ bO bX bI cO cX cI 1 y (N 1) cy (O 1) (X 1) (I 1) 1 (.inr ⟨rfl,rfl⟩) (HN.out 1 (by decide)) _ (by omega) (by omega) (by omega) (by omega) ((B4.out.cell (p:=zA bO 1) lO).trans fO) ((B4.out.cell (p:=zA bX 1) lX).trans (gX.out 1 (by decide))) ((B4.out.cell (p:=zA bI 1) lI).trans (gI.out 1 (by decide))) (fun i j q1 q2=>(B4.out.cell (p:=zA y _) fg).trans (fr i j q1 q2))).mono ?_
   rintro e w5 ⟨rfl,hb4⟩
   clear y cy fg fO fr
   rw [h5]
   clear a0 a1 a2 a3 a4 a5 m0 m1 lA lM
   have B5:=hid (ah B4.out hb4)
   have A5:=hid (A4.out.below (by omega) hb4)
   have M5:=hid (bH (by omega) hb4 M4.out)
   have zw5:w.heap.size+2≤w5.heap.size:=Hq zw4 hb4.size
   have kzw5:w4.heap.size≤w5.heap.size:=hb4.size
   clear hb4 A4 M4 B4
   go_wp2
   go_ret
   exact ⟨rfl,B5.out⟩
theorem Jo (c d:Int) (V:CV) (aW0:Option Addr) (cW bO cO bX cX bI cI:Nat) (aR:Option Addr) (bR nR kR:Nat) (Z:Nat→Nat→Int) (hs0:V.short 1048576) (hnR:nR≤1048576) (w:World) (CP0:Jd w V aW0 bO bX bI) (hR0:nR≠0→aR=some (zA bR 0)∧bR<w.heap.size∧∀ k j,k<nR→j<16→w.cell? (zA bR (0+k * 16+j))=some (zI (Z k j))) (h1:bD c d V=true) (h2:¬ (250:Int)<nR) :
 Hz 19 #[.agg #[zI c,zI d],.agg (zG V aW0 cW bO cO bX cX bI cI).toArray,.slice aR nR kR] w fun e w'=>(∃ u,e=.returned (.tuple #[u,zI ((foldM c d V nR Z).2:Int)])∧aV w.heap.size w'.heap.size w' u (foldM c d V nR Z).1)∧Below w.heap.size w w':=by
 have hs:=hid hs0
 have HR:=hid hR0
 have CP:=hid CP0
 have HL:=hid h1
 have h1b:=h1
 have ER:Hid (foldM c d V nR Z=(bg c d V Z (gm c d V Z nR),gm c d V Z nR)):=by unfold Hid foldM;rw [if_pos ⟨h1,by omega⟩]
 clear hs0 CP0 h1 hR0
 go_enter Tryz.func19,Tryz.ntmps19
 go_wp2_with fail
 obtain ⟨w0,e0,hB0,hM0,hC0,hQ0,hz0⟩:=FZ w [zI c,zI d] 44 (zG V aW0 cW bO cO bX cX bI cI) 41 zN 41
 rw [←e0]
 clear e0
 have B1:=hid hB0
 have M2:=hid hM0
 have C3:=hid hC0
 have Q5:=hid hQ0
 clear hB0 hM0 hC0 hQ0
 obtain ⟨yM0,yM1⟩:=M2.out.a2
 have hlM:(w.heap.size)<w0.heap.size:=M2.out.1
 obtain ⟨yC0,yC1,yC2,yC3,yC4,yC5⟩:=C3.out.a6
 have hlC:(w.heap.size+1)<w0.heap.size:=C3.out.1
 go_wp2_with fail
 clear yM0 yM1 hlM yC0 yC1 yC2 yC3 yC4 yC5 hlC
 refine (Jp c d V aW0 cW bO cO bX cX bI cI hs.out _ (CP.out.below B1.out) h1b).mono ?_
 rintro e w1 ⟨rfl,hb⟩
 clear h1b
 have B6:=hid (ah B1.out hb)
 have M6:=hid (M2.out.below hb)
 have C6:=hid (C3.out.below hb)
 have Q6:=hid (Q5.out.below hb)
 clear B1 M2 C3 Q5
 have zzw1:w0.heap.size≤w1.heap.size:=hb.size
 clear hb
 obtain ⟨yC0,yC1,yC2,yC3,yC4,yC5⟩:=C6.out.a6
 have hlC:(w.heap.size+1)<w1.heap.size:=C6.out.1
 go_wp2_with fail
 clear yC0 yC1 yC2 yC3 yC4 yC5 hlC
 refine (fC _ V hs.out _ ((CP.out.below B6.out).g cW cO cX cI)).mono ?_
 rintro e w2 ⟨⟨u,rfl,hO,_,_⟩,hb⟩
 have B7:=hid (ah B6.out hb)
 have M7:=hid (M6.out.below hb)
 have Q7:=hid (Q6.out.below hb)
 clear B6 M6 C6 Q6
 have zzw2:w1.heap.size≤w2.heap.size:=hb.size
 clear hb
 obtain ⟨aW,kW,aO,kO,aX,kX,aI,kI,rfl,_,_,_,_⟩:=hO.at
 have O6:=hid hO
 clear hO
 go_upto_region 5 with fail
 obtain ⟨w3,en⟩:∃ y,y=w2.alloc (.cells (zD V aW kW aO kO aX kX aI kI).toArray 41):=⟨_,rfl⟩
 have hbx:Below w2.heap.size w2 w3:=by rw [en];exact (Hr _ _).alloc (Ho _) _
 have hX:Bk w3 w2.heap.size (zD V aW kW aO kO aX kX aI kI):=by rw [en];exact aU w2 41 (zD V aW kW aO kO aX kX aI kI)
 rw [←en]
 clear en
 have LF0:Hid (LF c d V Z w w2.heap.size 0 w3):=⟨aW,kW,aO,kO,aX,kX,aI,kI,w1.heap.size,w2.heap.size,hX,O6.out.below (Ho _) hbx,.inl (Ho _),by omega,hbx.size,ah B7.out hbx,M7.out.below hbx,Q7.out.below hbx,by omega⟩
 clear B7 M7 Q7 O6 hbx hX
 obtain ⟨xb,exb⟩:∃ x,x=w2.heap.size:=⟨_,rfl⟩
 rw [←exb] at LF0 ⊢
 clear exb
 go_loopw [9] (fun i wr=>∃ k:Nat,k≤nR∧i=zI k∧Hid (∀ j,j<k→wE c d V Z j=true)∧Hid (LF c d V Z w xb k wr)) (fun i _=>nR - (intOf i).toNat)
 case atStart=>exact ⟨0,Nat.zero_le _,rfl,fun j hj=>absurd hj (Nat.not_lt_zero _),LF0⟩
 case round=>
  obtain ⟨k,hk,rfl,HF,HX⟩:=hrel
  clear LF0
  by_cases hkn:k<nR
  ·have hkn':(k:Int)<(nR:Int):=by omega
   obtain ⟨rfl,hbR,hRR⟩:=HR.out (by omega)
   obtain ⟨a1,k1,a2,k2,a3,k3,a4,k4,l1,h1,X,O,hd,hl,hh,B,M,Q,hxb⟩:=HX.out
   have hU:=uZ (Z:=Z) HL.out k
   have G:Hid (dL wr (.agg (zD (bg c d V Z k) a1 k1 a2 k2 a3 k3 a4 k4).toArray) (bg c d V Z k)):=O.g (dH hU)
   have SU:=hid (Dl hU)
   have HU:=hid hU
   have R1:Hid (∀ j,j<16→wr.cell? ⟨bR,k * 16+j,none⟩=some (zI (Z k j))):=fun j hj=>by have h:=(B.cell (p:=⟨bR,_,none⟩) (by show bR<_;omega)).trans (hRR k j hkn hj);rw [Nat.zero_add] at h;exact h
   have X1:=hid X
   have O1:=hid O
   have B1:=hid B
   have M1:=hid M
   have Q1:=hid Q
   have hxw:xb<wr.heap.size:=X.1
   have lbR:bR<wr.heap.size:=by have:=B.size;omega
   clear X O B M Q hU HX
   obtain ⟨yM0,yM1⟩:=M1.out.a2
   have hlM:(w.heap.size)<wr.heap.size:=M1.out.1
   obtain ⟨yX0,yX1,yX2,yX3,yX4,yX5⟩:=X1.out.a6
   have hlX:xb<wr.heap.size:=X1.out.1
   go_upto_region 7 with fail
   refine Hu (S:=fun w'=>Below (wr.heap.size) wr w') (by kernel_rfl) ((Hr _ _).drew) ?_
   intro af
   obtain ⟨X0,hX0⟩:∃ X,X=wr.drew:=⟨_,rfl⟩
   have hz0:wr.heap.size≤X0.heap.size:=by rw [hX0];exact Ho _
   rw [←hX0] at af ⊢
   clear hX0
   refine bF 0 (.agg #[zI c,zI d]) rfl ?_
   refine bF 1 (.agg (zD (bg c d V Z k) a1 k1 a2 k2 a3 k3 a4 k4).toArray) rfl ?_
   refine bF 2 (zS bR nR kR) rfl ?_
   refine bF 3 (zI k) rfl ?_
   refine bF 4 (zP bR (k * 16)) rfl ?_
   refine dY 5 (rv (Z k)) rfl ?_ ?_
   ·intro wx hSw
    obtain ⟨hcS,hfS⟩:=iZ hSw
    have yR:=yE (w:=wx) (b:=bR) (o:=k * 16) (R:=Z k) (fun j hj=>(hcS bR _ lbR).trans (R1.out j hj))
    (try simp only [aT])
    go_simp
   try simp only [aT]
   refine y9 [6,11] (AllReadyH.cons rfl (fun K hK=>?_) (AllReadyH.cons rfl (fun K hK=>?_) AllReadyH.nil))
   ·go_simp
    go_wp2_with fail
    refine (pq c d _ (bg c d V Z k) 0 (Z k) SU.out HU.out _ (G.out.below af)).mono ?_
    rintro e w4 ⟨⟨u,rfl,hO⟩,hb⟩
    have hP:aV X0.heap.size w4.heap.size w4 u (bg c d V Z (k+1)):=hO
    clear hO
    obtain ⟨Un,eUn⟩:∃ U,U=bg c d V Z (k+1):=⟨_,rfl⟩
    rw [←eUn] at hP
    have EUn:=hid eUn
    clear eUn
    obtain ⟨ft,eft⟩:∃ b,b=(aF c d (bg c d V Z k) (Z k)).2.2:=⟨_,rfl⟩
    have EF:Hid (ft=wE c d V Z k):=eft
    rw [←eft]
    clear eft
    obtain ⟨cc,ecc⟩:∃ b,b=(aF c d (bg c d V Z k) (Z k)).2.1:=⟨_,rfl⟩
    rw [←ecc]
    clear ecc
    obtain ⟨b1,j1,b2,j2,b3,j3,b4,j4,rfl,_,_,_,_⟩:=hP.at
    have kz4:X0.heap.size≤w4.heap.size:=hb.size
    have OP:=hid hP
    clear hP
    refine hK.out _ _ (bJ af (by omega) hb) (fun ai=>?_)
    clear hK K af
    have af:=ai
    clear ai
    try simp only [aT]
    clear hb
    refine bF 7 (.tuple #[.agg (zD Un b1 j1 b2 j2 b3 j3 b4 j4).toArray,zI cc,.bool ft]) rfl ?_
    refine bF 8 (.agg (zD Un b1 j1 b2 j2 b3 j3 b4 j4).toArray) rfl ?_
    refine bF 9 (zI cc) rfl ?_
    refine bF 10 (.bool ft) rfl ?_
    refine di 11 rfl fun K hK=>?_
    go_simp
    obtain ⟨w5,eA⟩:∃ X,X=w4.alloc (.cells zN.toArray 41):=⟨_,rfl⟩
    rw [←eA]
    have hbA:Below w4.heap.size w4 w5:=by rw [eA];exact (Hr _ _).alloc (Ho _) _
    have hZ:Bk w5 w4.heap.size zN:=by rw [eA];exact aU w4 41 zN
    have kzA:w4.heap.size+1≤w5.heap.size:=by rw [eA];simp
    clear eA
    have Y:=hid hZ
    clear hZ
    have l2e:=hid (OP.out.below (Ho _) hbA)
    clear OP
    have OP:=l2e
    clear l2e
    refine hK.out _ _ (bJ af (by omega) hbA) (fun ai=>?_)
    clear hK K af
    have af:=ai
    clear ai
    try simp only [aT]
    clear hbA
    obtain ⟨yb,eyb⟩:∃ x,x=w4.heap.size:=⟨_,rfl⟩
    rw [←eyb] at Y ⊢
    have yb1:=Hl eyb
    have yb2:=Hl eyb.symm
    clear eyb
    obtain ⟨l2,el2⟩:∃ x,x=X0.heap.size:=⟨_,rfl⟩
    rw [←el2] at OP
    have l21:=Hl el2
    have l22:=Hl el2.symm
    clear el2
    obtain ⟨h2',eh2⟩:∃ x,x=w4.heap.size:=⟨_,rfl⟩
    rw [←eh2] at OP
    have h21:=Hl eh2
    have h22:=Hl eh2.symm
    clear eh2
    obtain ⟨zQ0,zQ1,zQ2,zQ3,zQ4,zQ5⟩:=Y.out.f6
    obtain ⟨yQ0,yQ1,yQ2,yQ3,yQ4,yQ5⟩:=Y.out.a6
    have hlY:=Y.out.1
    refine di 12 rfl fun K hK=>?_
    go_simp
    obtain ⟨w6,e6⟩:∃ X,X=aG w5 yb (zI Un.c) (.slice b1 Un.nW j1) (zI Un.g) (.slice b2 Un.nO j2) (.slice b3 Un.nX j3) (.slice b4 Un.nI j4):=⟨_,rfl⟩
    have hB6:Below wr.heap.size wr w6:=by rw [e6];exact ax af (by omega) _ _ _ _ _ _
    have hz6:w6.heap.size=w5.heap.size:=by rw [e6];exact au _ _ _ _ _ _ _ _
    have Y6:Hid (Bk w6 yb (zD Un b1 j1 b2 j2 b3 j3 b4 j4)):=by unfold Hid;rw [e6];exact gy Y.out rfl _ _ _ _ _ _
    have O6:Hid (aV l2 h2' w6 (.agg (zD Un b1 j1 b2 j2 b3 j3 b4 j4).toArray) Un):=by unfold Hid;rw [e6];exact OP.out.sm (Hl (au _ _ _ _ _ _ _ _).symm) (fun b q1 q2=>aH (by omega) _ _ _ _ _ _)
    unfold aG at e6
    rw [←e6]
    clear e6 OP Y yQ0 yQ1 yQ2 yQ3 yQ4 yQ5 zQ0 zQ1 zQ2 zQ3 zQ4 zQ5 hlY
    refine hK.out _ _ hB6 (fun ai=>?_)
    clear hK K af ai
    try simp only [aT]
    refine bF 13 (zI cc) rfl ?_
    refine bF 14 (.bool ft) rfl ?_
    refine Hy (by kernel_rfl) ?_ _
    have X6:=hid (X1.out.below hB6)
    have O7:=hid (O1.out.below hh hB6)
    have B6:=hid (ah B1.out hB6)
    have M6:=hid (M1.out.below hB6)
    have Q6:=hid (Q1.out.below hB6)
    have hwz:=hB6.size
    clear yM0 yM1 hlM yX0 yX1 yX2 yX3 yX4 yX5 hlX X1 O1 B1 M1 Q1 hB6 G R1
    obtain ⟨yX0,yX1,yX2,yX3,yX4,yX5⟩:=X6.out.a6
    obtain ⟨zX0,zX1,zX2,zX3,zX4,zX5⟩:=X6.out.f6
    have hlX:xb<w6.heap.size:=X6.out.1
    obtain ⟨yY0,yY1,yY2,yY3,yY4,yY5⟩:=Y6.out.a6
    have hlY:yb<w6.heap.size:=Y6.out.1
    obtain ⟨yQ0,yQ1,yQ2,yQ3,yQ4,yQ5⟩:=Q6.out.a6
    obtain ⟨zQ0,zQ1,zQ2,zQ3,zQ4,zQ5⟩:=Q6.out.f6
    have hlQ:(w.heap.size+1+1)<w6.heap.size:=Q6.out.1
    cases ft
    ·have ER2:Hid (foldM c d V nR Z=(bg c d V Z k,k)):=by unfold Hid;rw [ER.out,nJ HF.out EF.out.symm nR hkn]
     clear yY0 yY1 yY2 yY3 yY4 yY5 hlY zX0 zX1 zX2 zX3 zX4 zX5
     go_wp2
     refine Hw (v:=.tuple #[.agg (zD (bg c d V Z k) a1 k1 a2 k2 a3 k3 a4 k4).toArray,zI k]) (by simp [results,Tryz.results19,go_sem,yQ0,yQ1,yQ2,yQ3,yQ4,yQ5]) rfl ?_
     have hzz:=au w6 (w.heap.size+1+1) (zI (bg c d V Z k).c) (.slice a1 (bg c d V Z k).nW k1) (zI (bg c d V Z k).g) (.slice a2 (bg c d V Z k).nO k2) (.slice a3 (bg c d V Z k).nX k3) (.slice a4 (bg c d V Z k).nI k4)
     refine ⟨⟨_,by rw [ER2.out],?_⟩,ax B6.out (by omega) _ _ _ _ _ _⟩
     show aV w.heap.size (aG w6 (w.heap.size+1+1) (zI (bg c d V Z k).c) (.slice a1 (bg c d V Z k).nW k1) (zI (bg c d V Z k).g) (.slice a2 (bg c d V Z k).nO k2) (.slice a3 (bg c d V Z k).nX k3) (.slice a4 (bg c d V Z k).nI k4)).heap.size (aG w6 (w.heap.size+1+1) (zI (bg c d V Z k).c) (.slice a1 (bg c d V Z k).nW k1) (zI (bg c d V Z k).g) (.slice a2 (bg c d V Z k).nO k2) (.slice a3 (bg c d V Z k).nX k3) (.slice a4 (bg c d V Z k).nI k4)) _ _
     rw [hzz,ER2.out]
     exact (O7.out.sm (Hl hzz.symm) (fun x g1 g2=>aH (by omega) (zI (bg c d V Z k).c) (.slice a1 (bg c d V Z k).nW k1) (zI (bg c d V Z k).g) (.slice a2 (bg c d V Z k).nO k2) (.slice a3 (bg c d V Z k).nX k3) (.slice a4 (bg c d V Z k).nI k4))).wide (by omega) (by omega) (by omega)
    ·clear yQ0 yQ1 yQ2 yQ3 yQ4 yQ5 zQ0 zQ1 zQ2 zQ3 zQ4 zQ5 hlQ
     go_wp2
     go_roundw
     case rel=>
      refine ⟨k+1,by omega,by go_num,fun j hj=>?_,?_⟩
      ·by_cases e:j<k
       ·exact HF.out j e
       ·have e2:j=k:=by omega
        subst e2
        exact EF.out.symm
      ·obtain rfl:=EUn.out
       have hzz:=au w6 xb (zI (bg c d V Z (k+1)).c) (.slice b1 (bg c d V Z (k+1)).nW j1) (zI (bg c d V Z (k+1)).g) (.slice b2 (bg c d V Z (k+1)).nO j2) (.slice b3 (bg c d V Z (k+1)).nX j3) (.slice b4 (bg c d V Z (k+1)).nI j4)
       have SS:∀ x,¬ x=xb→Sm w6 (aG w6 xb (zI (bg c d V Z (k+1)).c) (.slice b1 (bg c d V Z (k+1)).nW j1) (zI (bg c d V Z (k+1)).g) (.slice b2 (bg c d V Z (k+1)).nO j2) (.slice b3 (bg c d V Z (k+1)).nX j3) (.slice b4 (bg c d V Z (k+1)).nI j4)) x:=fun x hx=>aH (fun e=>hx e.symm) _ _ _ _ _ _
       exact ⟨b1,j1,b2,j2,b3,j3,b4,j4,l2,h2',gy X6.out rfl _ _ _ _ _ _,O6.out.sm (Hl hzz.symm) (fun b q1 q2=>SS b (by omega)),.inr (by omega),by omega,by show _≤(aG _ _ _ _ _ _ _ _).heap.size;rw [au];omega,ax B6.out (by omega) _ _ _ _ _ _,M6.out.sm (Hl hzz.symm) (SS _ (by omega)),Q6.out.sm (Hl hzz.symm) (SS _ (by omega)),hxb⟩
     case measure=>simp [intOf];omega
   ·go_simp
    obtain ⟨w4,eA⟩:∃ X,X=X0.alloc (.cells zN.toArray 41):=⟨_,rfl⟩
    rw [←eA]
    have hbA:Below X0.heap.size X0 w4:=by rw [eA];exact (Hr _ _).alloc (Ho _) _
    have hZ:Bk w4 X0.heap.size zN:=by rw [eA];exact aU X0 41 zN
    have kzA:X0.heap.size+1≤w4.heap.size:=by rw [eA];simp
    clear eA
    have Y:=hid hZ
    clear hZ
    refine hK.out _ _ (bJ af (by omega) hbA) (fun ai=>?_)
    clear hK K af
    have af:=ai
    clear ai
    try simp only [aT]
    clear hbA
    obtain ⟨yb,eyb⟩:∃ x,x=X0.heap.size:=⟨_,rfl⟩
    rw [←eyb] at Y ⊢
    have yb1:=Hl eyb
    have yb2:=Hl eyb.symm
    clear eyb
    refine di 6 rfl fun K hK=>?_
    go_simp
    go_wp2_with fail
    refine (pq c d _ (bg c d V Z k) 0 (Z k) SU.out HU.out _ (G.out.below af)).mono ?_
    rintro e w5 ⟨⟨u,rfl,hO⟩,hb⟩
    have hP:aV w4.heap.size w5.heap.size w5 u (bg c d V Z (k+1)):=hO
    clear hO
    obtain ⟨Un,eUn⟩:∃ U,U=bg c d V Z (k+1):=⟨_,rfl⟩
    rw [←eUn] at hP
    have EUn:=hid eUn
    clear eUn
    obtain ⟨ft,eft⟩:∃ b,b=(aF c d (bg c d V Z k) (Z k)).2.2:=⟨_,rfl⟩
    have EF:Hid (ft=wE c d V Z k):=eft
    rw [←eft]
    clear eft
    obtain ⟨cc,ecc⟩:∃ b,b=(aF c d (bg c d V Z k) (Z k)).2.1:=⟨_,rfl⟩
    rw [←ecc]
    clear ecc
    obtain ⟨b1,j1,b2,j2,b3,j3,b4,j4,rfl,_,_,_,_⟩:=hP.at
    have kz4:w4.heap.size≤w5.heap.size:=hb.size
    have OP:=hid hP
    clear hP
    have Y2:=hid (Y.out.below hb)
    clear Y
    have Y:=Y2
    clear Y2
    refine hK.out _ _ (bJ af (by omega) hb) (fun ai=>?_)
    clear hK K af
    have af:=ai
    clear ai
    try simp only [aT]
    clear hb
    refine bF 7 (.tuple #[.agg (zD Un b1 j1 b2 j2 b3 j3 b4 j4).toArray,zI cc,.bool ft]) rfl ?_
    refine bF 8 (.agg (zD Un b1 j1 b2 j2 b3 j3 b4 j4).toArray) rfl ?_
    refine bF 9 (zI cc) rfl ?_
    refine bF 10 (.bool ft) rfl ?_
    obtain ⟨l2,el2⟩:∃ x,x=w4.heap.size:=⟨_,rfl⟩
    rw [←el2] at OP
    have l21:=Hl el2
    have l22:=Hl el2.symm
    clear el2
    obtain ⟨h2',eh2⟩:∃ x,x=w5.heap.size:=⟨_,rfl⟩
    rw [←eh2] at OP
    have h21:=Hl eh2
    have h22:=Hl eh2.symm
    clear eh2
    obtain ⟨zQ0,zQ1,zQ2,zQ3,zQ4,zQ5⟩:=Y.out.f6
    obtain ⟨yQ0,yQ1,yQ2,yQ3,yQ4,yQ5⟩:=Y.out.a6
    have hlY:=Y.out.1
    refine di 12 rfl fun K hK=>?_
    go_simp
    obtain ⟨w6,e6⟩:∃ X,X=aG w5 yb (zI Un.c) (.slice b1 Un.nW j1) (zI Un.g) (.slice b2 Un.nO j2) (.slice b3 Un.nX j3) (.slice b4 Un.nI j4):=⟨_,rfl⟩
    have hB6:Below wr.heap.size wr w6:=by rw [e6];exact ax af (by omega) _ _ _ _ _ _
    have hz6:w6.heap.size=w5.heap.size:=by rw [e6];exact au _ _ _ _ _ _ _ _
    have Y6:Hid (Bk w6 yb (zD Un b1 j1 b2 j2 b3 j3 b4 j4)):=by unfold Hid;rw [e6];exact gy Y.out rfl _ _ _ _ _ _
    have O6:Hid (aV l2 h2' w6 (.agg (zD Un b1 j1 b2 j2 b3 j3 b4 j4).toArray) Un):=by unfold Hid;rw [e6];exact OP.out.sm (Hl (au _ _ _ _ _ _ _ _).symm) (fun b q1 q2=>aH (by omega) _ _ _ _ _ _)
    unfold aG at e6
    rw [←e6]
    clear e6 OP Y yQ0 yQ1 yQ2 yQ3 yQ4 yQ5 zQ0 zQ1 zQ2 zQ3 zQ4 zQ5 hlY
    refine hK.out _ _ hB6 (fun ai=>?_)
    clear hK K af ai
    try simp only [aT]
    refine bF 13 (zI cc) rfl ?_
    refine bF 14 (.bool ft) rfl ?_
    refine Hy (by kernel_rfl) ?_ _
    have X6:=hid (X1.out.below hB6)
    have O7:=hid (O1.out.below hh hB6)
    have B6:=hid (ah B1.out hB6)
    have M6:=hid (M1.out.below hB6)
    have Q6:=hid (Q1.out.below hB6)
    have hwz:=hB6.size
    clear yM0 yM1 hlM yX0 yX1 yX2 yX3 yX4 yX5 hlX X1 O1 B1 M1 Q1 hB6 G R1
    obtain ⟨yX0,yX1,yX2,yX3,yX4,yX5⟩:=X6.out.a6
    obtain ⟨zX0,zX1,zX2,zX3,zX4,zX5⟩:=X6.out.f6
    have hlX:xb<w6.heap.size:=X6.out.1
    obtain ⟨yY0,yY1,yY2,yY3,yY4,yY5⟩:=Y6.out.a6
    have hlY:yb<w6.heap.size:=Y6.out.1
    obtain ⟨yQ0,yQ1,yQ2,yQ3,yQ4,yQ5⟩:=Q6.out.a6
    obtain ⟨zQ0,zQ1,zQ2,zQ3,zQ4,zQ5⟩:=Q6.out.f6
    have hlQ:(w.heap.size+1+1)<w6.heap.size:=Q6.out.1
    cases ft
    ·have ER2:Hid (foldM c d V nR Z=(bg c d V Z k,k)):=by unfold Hid;rw [ER.out,nJ HF.out EF.out.symm nR hkn]
     clear yY0 yY1 yY2 yY3 yY4 yY5 hlY zX0 zX1 zX2 zX3 zX4 zX5
     go_wp2
     refine Hw (v:=.tuple #[.agg (zD (bg c d V Z k) a1 k1 a2 k2 a3 k3 a4 k4).toArray,zI k]) (by simp [results,Tryz.results19,go_sem,yQ0,yQ1,yQ2,yQ3,yQ4,yQ5]) rfl ?_
     have hzz:=au w6 (w.heap.size+1+1) (zI (bg c d V Z k).c) (.slice a1 (bg c d V Z k).nW k1) (zI (bg c d V Z k).g) (.slice a2 (bg c d V Z k).nO k2) (.slice a3 (bg c d V Z k).nX k3) (.slice a4 (bg c d V Z k).nI k4)
     refine ⟨⟨_,by rw [ER2.out],?_⟩,ax B6.out (by omega) _ _ _ _ _ _⟩
     show aV w.heap.size (aG w6 (w.heap.size+1+1) (zI (bg c d V Z k).c) (.slice a1 (bg c d V Z k).nW k1) (zI (bg c d V Z k).g) (.slice a2 (bg c d V Z k).nO k2) (.slice a3 (bg c d V Z k).nX k3) (.slice a4 (bg c d V Z k).nI k4)).heap.size (aG w6 (w.heap.size+1+1) (zI (bg c d V Z k).c) (.slice a1 (bg c d V Z k).nW k1) (zI (bg c d V Z k).g) (.slice a2 (bg c d V Z k).nO k2) (.slice a3 (bg c d V Z k).nX k3) (.slice a4 (bg c d V Z k).nI k4)) _ _
     rw [hzz,ER2.out]
     exact (O7.out.sm (Hl hzz.symm) (fun x g1 g2=>aH (by omega) (zI (bg c d V Z k).c) (.slice a1 (bg c d V Z k).nW k1) (zI (bg c d V Z k).g) (.slice a2 (bg c d V Z k).nO k2) (.slice a3 (bg c d V Z k).nX k3) (.slice a4 (bg c d V Z k).nI k4))).wide (by omega) (by omega) (by omega)
    ·clear yQ0 yQ1 yQ2 yQ3 yQ4 yQ5 zQ0 zQ1 zQ2 zQ3 zQ4 zQ5 hlQ
     go_wp2
     go_roundw
     case rel=>
      refine ⟨k+1,by omega,by go_num,fun j hj=>?_,?_⟩
      ·by_cases e:j<k
       ·exact HF.out j e
       ·have e2:j=k:=by omega
        subst e2
        exact EF.out.symm
      ·obtain rfl:=EUn.out
       have hzz:=au w6 xb (zI (bg c d V Z (k+1)).c) (.slice b1 (bg c d V Z (k+1)).nW j1) (zI (bg c d V Z (k+1)).g) (.slice b2 (bg c d V Z (k+1)).nO j2) (.slice b3 (bg c d V Z (k+1)).nX j3) (.slice b4 (bg c d V Z (k+1)).nI j4)
       have SS:∀ x,¬ x=xb→Sm w6 (aG w6 xb (zI (bg c d V Z (k+1)).c) (.slice b1 (bg c d V Z (k+1)).nW j1) (zI (bg c d V Z (k+1)).g) (.slice b2 (bg c d V Z (k+1)).nO j2) (.slice b3 (bg c d V Z (k+1)).nX j3) (.slice b4 (bg c d V Z (k+1)).nI j4)) x:=fun x hx=>aH (fun e=>hx e.symm) _ _ _ _ _ _
       exact ⟨b1,j1,b2,j2,b3,j3,b4,j4,l2,h2',gy X6.out rfl _ _ _ _ _ _,O6.out.sm (Hl hzz.symm) (fun b q1 q2=>SS b (by omega)),.inr (by omega),by omega,by show _≤(aG _ _ _ _ _ _ _ _).heap.size;rw [au];omega,ax B6.out (by omega) _ _ _ _ _ _,M6.out.sm (Hl hzz.symm) (SS _ (by omega)),Q6.out.sm (Hl hzz.symm) (SS _ (by omega)),hxb⟩
     case measure=>simp [intOf];omega
  ·have hkn':¬ (k:Int)<(nR:Int):=by omega
   obtain rfl:nR=k:=by omega
   obtain ⟨a1,k1,a2,k2,a3,k3,a4,k4,l1,h1,X,O,hd,hl,hh,B,M,Q,hxb⟩:=HX.out
   have ER2:Hid (foldM c d V nR Z=(bg c d V Z nR,nR)):=by unfold Hid;rw [ER.out,oD nR HF.out]
   have O7:=hid O
   have B6:=hid B
   obtain ⟨yX0,yX1,yX2,yX3,yX4,yX5⟩:=X.a6
   have hlX:xb<wr.heap.size:=X.1
   obtain ⟨yQ0,yQ1,yQ2,yQ3,yQ4,yQ5⟩:=Q.a6
   obtain ⟨zQ0,zQ1,zQ2,zQ3,zQ4,zQ5⟩:=Q.f6
   have hlQ:(w.heap.size+1+1)<wr.heap.size:=Q.1
   have hwz:=B.size
   clear X O B M Q HX HF ER
   go_wp2
   refine Hw (v:=.tuple #[.agg (zD (bg c d V Z nR) a1 k1 a2 k2 a3 k3 a4 k4).toArray,zI nR]) (by simp [results,Tryz.results19,go_sem,yQ0,yQ1,yQ2,yQ3,yQ4,yQ5]) rfl ?_
   have hzz:=au wr (w.heap.size+1+1) (zI (bg c d V Z nR).c) (.slice a1 (bg c d V Z nR).nW k1) (zI (bg c d V Z nR).g) (.slice a2 (bg c d V Z nR).nO k2) (.slice a3 (bg c d V Z nR).nX k3) (.slice a4 (bg c d V Z nR).nI k4)
   refine ⟨⟨_,by rw [ER2.out],?_⟩,ax B6.out (by omega) _ _ _ _ _ _⟩
   show aV w.heap.size (aG wr (w.heap.size+1+1) (zI (bg c d V Z nR).c) (.slice a1 (bg c d V Z nR).nW k1) (zI (bg c d V Z nR).g) (.slice a2 (bg c d V Z nR).nO k2) (.slice a3 (bg c d V Z nR).nX k3) (.slice a4 (bg c d V Z nR).nI k4)).heap.size (aG wr (w.heap.size+1+1) (zI (bg c d V Z nR).c) (.slice a1 (bg c d V Z nR).nW k1) (zI (bg c d V Z nR).g) (.slice a2 (bg c d V Z nR).nO k2) (.slice a3 (bg c d V Z nR).nX k3) (.slice a4 (bg c d V Z nR).nI k4)) _ _
   rw [hzz,ER2.out]
   exact (O7.out.sm (Hl hzz.symm) (fun x g1 g2=>aH (by omega) (zI (bg c d V Z nR).c) (.slice a1 (bg c d V Z nR).nW k1) (zI (bg c d V Z nR).g) (.slice a2 (bg c d V Z nR).nO k2) (.slice a3 (bg c d V Z nR).nX k3) (.slice a4 (bg c d V Z nR).nI k4))).wide (by omega) (by omega) (by omega)
theorem eH.f {lo:Nat} {w:World} {V:CV} {bW bO bX bI:Nat} (h:eH lo w (.agg (zC V bW V.nW bO V.nO bX V.nX bI V.nI).toArray) V):Jd w V (some (zA bW 0)) bO bX bI:=by
 obtain ⟨bW',bO',bX',bI',q0,q1,q2,q3,q4,e,g1,g2,g3,g4⟩:=h
 obtain ⟨e1,e2,e3,e4⟩:=kV e
 simp only [Value.slice.injEq,Option.some.injEq,Addr.mk.injEq,and_true] at e1 e2 e3 e4
 subst e1 e2 e3 e4
 refine ⟨by omega,by omega,by omega,mP g1 (by omega),fun _=>⟨_,rfl⟩,fun k hk=>?_,g3.2,g4.2⟩
 obtain ⟨_,xs,_,h3⟩:=g2
 obtain ⟨_,a2,a3,a4⟩:=h3 k hk
 exact ⟨xs k,_,a2,a3,P8.aZ a4⟩
theorem Jr (c d:Int) (V:CV) (lo bW bO bX bI bR nR:Nat) (Z:Nat→Nat→Int) (hs0:V.short 1048576) (hnR:nR≤1048576) (w:World) (CP0:eH lo w (.agg (zC V bW V.nW bO V.nO bX V.nX bI V.nI).toArray) V) (hbR:bR<w.heap.size) (hR0:∀ k j,k<nR→j<16→w.cell? ⟨bR,0+k * 16+j,none⟩=some (.int .i64 (Z k j))) (h1:¬ (bD c d V=true∧nR≤250)) :
 Hz 19 #[.agg #[zI c,zI d],.agg (zC V bW V.nW bO V.nO bX V.nX bI V.nI).toArray,zS bR nR nR] w fun e w'=>(∃ u,e=.returned (.tuple #[u,zI ((foldM c d V nR Z).2:Int)])∧aV w.heap.size w'.heap.size w' u (foldM c d V nR Z).1)∧Below w.heap.size w w':=by
 have hs:=hid hs0
 have HR:=hid hR0
 have CP:=hid CP0
 have HL:=hid h1
 have ER:Hid (foldM c d V nR Z=(CV.zero,0)):=by unfold Hid foldM;rw [if_neg h1]
 clear hs0 CP0 h1 hR0
 go_enter Tryz.func19,Tryz.ntmps19
 go_wp2_with fail
 obtain ⟨w0,e0,hB0,hM0,hC0,hQ0,hz0⟩:=FZ w [zI c,zI d] 44 (zC V bW V.nW bO V.nO bX V.nX bI V.nI) 41 zN 41
 rw [←e0]
 clear e0
 have B1:=hid hB0
 have M2:=hid hM0
 have C3:=hid hC0
 have Q5:=hid hQ0
 clear hB0 hM0 hC0 hQ0
 obtain ⟨yM0,yM1⟩:=M2.out.a2
 have hlM:(w.heap.size)<w0.heap.size:=M2.out.1
 obtain ⟨yC0,yC1,yC2,yC3,yC4,yC5⟩:=C3.out.a6
 have hlC:(w.heap.size+1)<w0.heap.size:=C3.out.1
 go_wp2_with fail
 clear yM0 yM1 hlM yC0 yC1 yC2 yC3 yC4 yC5 hlC
 refine (lV c d _ V lo hs.out _ (CP.out.below B1.out)).mono ?_
 rintro e w1 ⟨rfl,hb⟩
 have B6:=hid (ah B1.out hb)
 have M6:=hid (M2.out.below hb)
 have C6:=hid (C3.out.below hb)
 have Q6:=hid (Q5.out.below hb)
 clear B1 M2 C3 Q5
 have zzw1:w0.heap.size≤w1.heap.size:=hb.size
 clear hb
 obtain ⟨yQ0,yQ1,yQ2,yQ3,yQ4,yQ5⟩:=Q6.out.a6
 obtain ⟨zQ0,zQ1,zQ2,zQ3,zQ4,zQ5⟩:=Q6.out.f6
 have hlQ:(w.heap.size+1+1)<w1.heap.size:=Q6.out.1
 cases h2:bD c d V
 all_goals
  have h3:bD c d V=true→(250:Int)<nR:=fun h=>by have:=HL.out;simp only [h,true_and] at this;omega
  first | (have h4:=h3 h2;go_wp2) | go_wp2
  refine Hw (v:=.tuple #[.agg zN.toArray,zI 0]) (by simp [results,Tryz.results19,go_sem,yQ0,yQ1,yQ2,yQ3,yQ4,yQ5]) rfl ?_
  exact ⟨⟨_,by rw [ER.out];rfl,by rw [ER.out];exact iH _ _ _⟩,ax B6.out (by omega) _ _ _ _ _ _⟩
theorem sJ (c d:Int) (V:CV) (lo bW bO bX bI bR nR:Nat) (Z:Nat→Nat→Int) (hs0:V.short 1048576) (hnR:nR≤1048576) (w:World) (CP0:eH lo w (.agg (zC V bW V.nW bO V.nO bX V.nX bI V.nI).toArray) V) (hbR:bR<w.heap.size) (hR0:∀ k j,k<nR→j<16→w.cell? ⟨bR,0+k * 16+j,none⟩=some (.int .i64 (Z k j))) :
 Hz 19 #[.agg #[zI c,zI d],.agg (zC V bW V.nW bO V.nO bX V.nX bI V.nI).toArray,zS bR nR nR] w fun e w'=>(∃ u,e=.returned (.tuple #[u,zI ((foldM c d V nR Z).2:Int)])∧aV w.heap.size w'.heap.size w' u (foldM c d V nR Z).1)∧Below w.heap.size w w':=by
 by_cases h:bD c d V=true∧nR≤250
 ·exact Jo c d V (some (zA bW 0)) V.nW bO V.nO bX V.nX bI V.nI (some (zA bR 0)) bR nR nR Z hs0 hnR w CP0.f (fun _=>⟨rfl,hbR,hR0⟩) h.1 (by omega)
 ·exact Jr c d V lo bW bO bX bI bR nR Z hs0 hnR w CP0 hbR hR0 h
