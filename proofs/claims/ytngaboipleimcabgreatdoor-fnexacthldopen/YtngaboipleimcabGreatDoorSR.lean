/- Lists of records: their size, their copy, and that two of the same records are the same; conditions: the lists lie in memory. -/
import Derived.Test.YtngaboipleimcabGreatDoorFO
set_option linter.unusedVariables false
set_option maxHeartbeats 4000000
set_option maxRecDepth 100000
namespace Go.Proofs.YtngaboipleimcabGreatDoor
namespace P16
open Go.RowKit Go.Deep
theorem En (a0 a1 a2 a3 a4:Int) (w:World) :
 Hz 93 #[.agg #[zI a0,zI a1,zI a2,zI a3,zI a4],.agg #[zI a0,zI a1,zI a2,zI a3,zI a4]] w fun e w'=>e=.returned (.bool true)/\Below w.heap.size w w':=by
 go_enter Tryz.func93,Tryz.ntmps93;go_wp2;go_ret;exact ⟨rfl,by repeat (first | exact Hr _ _ | refine Below.alloc ?_ (by simp <;> omega) _)⟩
theorem GN (k a0 a1 a2 a3 a4 s p0 p1 p2 p3 p4 p5 p6 p7 n:Int) (w:World) :
 Hz 63 #[.agg #[zI k,zI a0,zI a1,zI a2,zI a3,zI a4,zI s,zI p0,zI p1,zI p2,zI p3,zI p4,zI p5,zI p6,zI p7,zI n],.agg #[zI k,zI a0,zI a1,zI a2,zI a3,zI a4,zI s,zI p0,zI p1,zI p2,zI p3,zI p4,zI p5,zI p6,zI p7,zI n]] w fun e w'=>e=.returned (.bool true)/\Below w.heap.size w w':=by
 go_enter Tryz.func63,Tryz.ntmps63
 go_wp2_with (first
  | (go_at_call 93;refine (En _ _ _ _ _ _).mono ?_;rintro e w1 ⟨rfl,hb⟩;obtain ⟨hc,hf⟩:=cu hb;(have z1:=hb.size;simp at z1);(have l0:w.heap.size<w1.heap.size:=by omega);(have l1:w.heap.size+1<w1.heap.size:=by omega))
  | (go_at_call 94;refine (P8.vT _ _ _ _ _ _ _ _ _).mono ?_;rintro e w2 ⟨rfl,hb2⟩;obtain ⟨hc2,hf2⟩:=cu hb2))
 go_ret;exact ⟨rfl,by repeat (first | exact Hr _ _ | refine ah ?_ (by assumption) | refine Below.alloc ?_ (by simp <;> omega) _)⟩
theorem Tryz.Jw:(Tryz.prog.info? 71).map (fun i=>(i.zero,i.size,i.bytes))=some (some (.agg #[zI 0,zI 0,zI 0,zI 0,zI 0,zI 0,zI 0,zI 0,zI 0,zI 0,zI 0,zI 0,zI 0,zI 0,zI 0,zI 0]),16,128):=by kernel_rfl
theorem BI (n:Nat) (hn:n<=1048576) (w:World) :
 (Instr.makeSlice 39 (zI (n:Int)) (zI (n:Int))).run Tryz.prog w=.ok (zS w.heap.size n n) (w.alloc (.cells (madeCells #[zI 0,zI 0,zI 0,zI 0,zI 0,zI 0,zI 0,zI 0,zI 0,zI 0,zI 0,zI 0,zI 0,zI 0,zI 0,zI 0] (n * 16)) 71)):=by
 obtain ⟨i,hi,hzz⟩:=Option.map_eq_some_iff.1 Tryz.Jw;simp only [Prod.mk.injEq] at hzz;obtain ⟨hz,hs,hb⟩:=hzz;have:=run_make (P:=Tryz.prog) w 39 71 i _ Tryz.underlying39 hi hz .i64 .i64 n n (by omega) (by omega) (by rw [hb];omega) (by omega);rw [this,hs];rfl
/-- Block B of wr is a row of n records of the call's own, of which the first k hold Z's. -/
def iy (wr:World) (B n:Nat) (Z:Nat->Nat->Int) (k:Nat):Prop :=
 (∀ i,i<n * 16->(wr.cell? (zA B i)).isSome=true/\wr.frozen? (zA B i)=false)/\∀ k' j,k'<k->j<16->wr.cell? (zA B (k' * 16+j))=some (zI (Z k' j))
theorem aK {wr:World} {B n k:Nat} {Z:Nat->Nat->Int} (h:iy wr B n Z k) (hk:k<n) (j:Nat) (hj:j<16):(∃ v,wr.cell? (zA B (k * 16+j))=some v)/\wr.frozen? (zA B (k * 16+j))=false:=by
 obtain ⟨h1,h2⟩:=h.1 (k * 16+j) (by omega);exact ⟨Option.isSome_iff_exists.1 h1,h2⟩
theorem own_below {w w':World} {B n k:Nat} {Z:Nat->Nat->Int} (h:iy w B n Z k) (hB:B<w.heap.size) (hb:Below w.heap.size w w'):iy w' B n Z k :=
 ⟨fun i hi=>by rw [hb.cell (p:=(zA B i)) hB,hb.frozen (p:=(zA B i)) hB];exact h.1 i hi,fun k' j hk hj=>by rw [hb.cell (p:=(zA B (k' * 16+j))) hB];exact h.2 k' j hk hj⟩
def nN (w:World) (B k:Nat) (Z:Nat->Nat->Int):World :=
 ((((((((((((((((w.setCell (zA B (k * 16)) (zI (Z k 0))).setCell (zA B (k * 16+1)) (zI (Z k 1))).setCell (zA B (k * 16+2)) (zI (Z k 2))).setCell (zA B (k * 16+3)) (zI (Z k 3))).setCell (zA B (k * 16+4)) (zI (Z k 4))).setCell (zA B (k * 16+5)) (zI (Z k 5))).setCell (zA B (k * 16+6)) (zI (Z k 6))).setCell (zA B (k * 16+7)) (zI (Z k 7))).setCell (zA B (k * 16+8)) (zI (Z k 8))).setCell (zA B (k * 16+9)) (zI (Z k 9))).setCell (zA B (k * 16+10)) (zI (Z k 10))).setCell (zA B (k * 16+11)) (zI (Z k 11))).setCell (zA B (k * 16+12)) (zI (Z k 12))).setCell (zA B (k * 16+13)) (zI (Z k 13))).setCell (zA B (k * 16+14)) (zI (Z k 14))).setCell (zA B (k * 16+15)) (zI (Z k 15)))
theorem mY (w:World) (B k:Nat) (Z:Nat->Nat->Int):nN w B k Z=w.setCells B (k * 16) [zI (Z k 0),zI (Z k 1),zI (Z k 2),zI (Z k 3),zI (Z k 4),zI (Z k 5),zI (Z k 6),zI (Z k 7),zI (Z k 8),zI (Z k 9),zI (Z k 10),zI (Z k 11),zI (Z k 12),zI (Z k 13),zI (Z k 14),zI (Z k 15)]:=rfl
theorem jZ {w:World} {B n k:Nat} {Z:Nat->Nat->Int} (h:iy w B n Z k) (hk:k<n):iy (nN w B k Z) B n Z (k+1):=by
 have hin:∀ j,j<16->(nN w B k Z).cell? (zA B (k * 16+j))=some (zI (Z k j)):=by
  intro j hj;rw [mY];have:=World.cell?_setCells_in B [zI (Z k 0),zI (Z k 1),zI (Z k 2),zI (Z k 3),zI (Z k 4),zI (Z k 5),zI (Z k 6),zI (Z k 7),zI (Z k 8),zI (Z k 9),zI (Z k 10),zI (Z k 11),zI (Z k 12),zI (Z k 13),zI (Z k 14),zI (Z k 15)] (k * 16) w (fun j' hj'=>(h.1 (k * 16+j') (by simp at hj';omega)).1) j (by simpa using hj);rw [this];match j,hj with
  | 0,_=>rfl
  | 1,_=>rfl
  | 2,_=>rfl
  | 3,_=>rfl
  | 4,_=>rfl
  | 5,_=>rfl
  | 6,_=>rfl
  | 7,_=>rfl
  | 8,_=>rfl
  | 9,_=>rfl
  | 10,_=>rfl
  | 11,_=>rfl
  | 12,_=>rfl
  | 13,_=>rfl
  | 14,_=>rfl
  | 15,_=>rfl
  | j+16,hj=>omega
 have hout:∀ i,(i<k * 16∨k * 16+16<=i)->(nN w B k Z).cell? (zA B i)=w.cell? (zA B i):=by
  intro i hi;rw [mY];exact World.cell?_setCells_out B _ (k * 16) w (zA B i) (fun _ _=>by simpa using hi)
 refine ⟨fun i hi=>⟨?_,?_⟩,fun k' j hk' hj=>?_⟩
 ·by_cases hc:i<k * 16∨k * 16+16<=i
  ·rw [hout i hc];exact (h.1 i hi).1
  have:=hin (i - k * 16) (by omega);rw [show k * 16+(i - k * 16)=i by omega] at this;rw [this];rfl
 ·rw [mY,World.frozen?_setCells];exact (h.1 i hi).2
 by_cases hc:k'=k
 ·subst hc;exact hin j hj
 rw [hout _ (by omega)];exact h.2 k' j (by omega) hj
theorem aZ {w:World} {B n:Nat} {Z:Nat->Nat->Int} (h:iy w B n Z n):∀ k j,k<n->j<16->w.cell? (zA B (0+k * 16+j))=some (zI (Z k j)):=fun k j hk hj=>by
 rw [Nat.zero_add];exact h.2 k j hk hj
theorem toList (b o:Nat) (n cap:Nat) (Z:Nat->Nat->Int) (hn:n<=1048576) (w:World) (hb:b<w.heap.size)
 (hr:∀ k j,k<n->j<16->w.cell? (zA b (o+k * 16+j))=some (zI (Z k j))) :
 Hz 28 #[.slice (some (zA b o)) n cap] w fun e w'=>e=.returned (zS w.heap.size n n)/\iy w' w.heap.size n Z n/\w.heap.size<w'.heap.size/\Below w.heap.size w w':=by
 have hmk:=BI n hn;have HR:bY (∀ k j,k<n->j<16->w.cell? (zA b (o+k * 16+j))=some (zI (Z k j))):=hr;clear hr;go_enter Tryz.func28,Tryz.ntmps28;go_wp2;go_loopw [4] (fun i wr=>∃ k:Nat,k<=n/\i=zI k/\iy wr w.heap.size n Z k/\w.heap.size<wr.heap.size/\Below w.heap.size w wr) (fun i _=>n - (intOf i).toNat)
 case atStart=>exact ⟨0,Nat.zero_le _,rfl,⟨fun i hi=>by simp [size_madeCells,hi],fun _ _ h=>absurd h (by omega)⟩,by simp,(Hr _ _).alloc (by simp) _⟩
 case round =>
  obtain ⟨k,hk,rfl,hown,hsz,hbel⟩:=hrel;have c0:=fun (h:k<n)=>cq16 (fun j hj=>(hbel.cell (by exact hb)).trans (HR.o k j h (by omega)));clear hmk;go_wp2_with fail
  ·refine (Gm _ _ _ _ _ _ _ _ _ _ _ _ _ _ _ _ _ ).mono ?_;rintro e w1 ⟨rfl,hb1⟩;have hlt:k<n:=by assumption
   have hown1:=own_below hown hsz hb1;have hsz1:w.heap.size<w1.heap.size:=Hg hsz hb1.size;have hbel1:Below w.heap.size w w1:=hbel.trans (hb1.mono (Nat.le_of_lt hsz));clear hown hb1 hbel c0;obtain ⟨⟨v0,d0⟩,f0⟩:=aK hown1 hlt 0 (by omega);obtain ⟨⟨v1,d1⟩,f1⟩:=aK hown1 hlt 1 (by omega);obtain ⟨⟨v2,d2⟩,f2⟩:=aK hown1 hlt 2 (by omega);obtain ⟨⟨v3,d3⟩,f3⟩:=aK hown1 hlt 3 (by omega);obtain ⟨⟨v4,d4⟩,f4⟩:=aK hown1 hlt 4 (by omega);obtain ⟨⟨v5,d5⟩,f5⟩:=aK hown1 hlt 5 (by omega);obtain ⟨⟨v6,d6⟩,f6⟩:=aK hown1 hlt 6 (by omega);obtain ⟨⟨v7,d7⟩,f7⟩:=aK hown1 hlt 7 (by omega);obtain ⟨⟨v8,d8⟩,f8⟩:=aK hown1 hlt 8 (by omega);obtain ⟨⟨v9,d9⟩,f9⟩:=aK hown1 hlt 9 (by omega);obtain ⟨⟨v10,d10⟩,f10⟩:=aK hown1 hlt 10 (by omega);obtain ⟨⟨v11,d11⟩,f11⟩:=aK hown1 hlt 11 (by omega);obtain ⟨⟨v12,d12⟩,f12⟩:=aK hown1 hlt 12 (by omega);obtain ⟨⟨v13,d13⟩,f13⟩:=aK hown1 hlt 13 (by omega);obtain ⟨⟨v14,d14⟩,f14⟩:=aK hown1 hlt 14 (by omega);obtain ⟨⟨v15,d15⟩,f15⟩:=aK hown1 hlt 15 (by omega);simp only [Nat.add_zero] at d0 f0;go_wp2;go_roundw
   case rel=>exact ⟨k+1,by omega,by go_num,jZ hown1 hlt,by simpa [World.setCell] using hsz1,((((((((((((((((hbel1.setCell (Ho _) _).setCell (Ho _) _).setCell (Ho _) _).setCell (Ho _) _).setCell (Ho _) _).setCell (Ho _) _).setCell (Ho _) _).setCell (Ho _) _).setCell (Ho _) _).setCell (Ho _) _).setCell (Ho _) _).setCell (Ho _) _).setCell (Ho _) _).setCell (Ho _) _).setCell (Ho _) _).setCell (Ho _) _)⟩
   case measure=>simp [intOf];omega
  have:k=n:=by omega
  subst this;go_ret;exact ⟨rfl,hown,hsz,hbel⟩
theorem o9 (a:Option Addr) (cap:Nat) (Z:Nat->Nat->Int) (w:World) :
 Hz 28 #[.slice a 0 cap] w fun e w'=>e=.returned (zS w.heap.size 0 0)/\iy w' w.heap.size 0 Z 0/\w.heap.size<w'.heap.size/\Below w.heap.size w w':=by
 have hmk:∀ w:World,(Instr.makeSlice 39 (zI 0) (zI 0)).run Tryz.prog w=.ok (zS w.heap.size 0 0) (w.alloc (.cells (madeCells #[zI 0,zI 0,zI 0,zI 0,zI 0,zI 0,zI 0,zI 0,zI 0,zI 0,zI 0,zI 0,zI 0,zI 0,zI 0,zI 0] 0) 71)):=fun w=>BI 0 (by omega) w;go_enter Tryz.func28,Tryz.ntmps28;go_wp2;refine wp_loop_rounds 1 ?_;rw [rounds_succ];go_wp2;go_ret;exact ⟨rfl,⟨fun i hi=>absurd hi (by omega),fun _ _ h=>absurd h (by omega)⟩,by simp,(Hr _ _).alloc (by simp) _⟩
theorem yu (a:Option Addr) (n cap:Nat) (Z:Nat->Nat->Int) (hn:n<=1048576) (w:World) (h:qA w a n Z) :
 Hz 28 #[.slice a n cap] w fun e w'=>e=.returned (zS w.heap.size n n)/\iy w' w.heap.size n Z n/\w.heap.size<w'.heap.size/\Below w.heap.size w w':=by
 rcases h with rfl | ⟨b,o,rfl,hb,hr⟩
 ·exact o9 a cap Z w
 exact toList b o n cap Z hn w hb hr
theorem sH (b1 o1 cap1 b2 o2 cap2 n:Nat) (Z:Nat->Nat->Int) (hn:n<=2000000) (w:World) (hb1:b1<w.heap.size) (hb2:b2<w.heap.size)
 (h1:∀ k j,k<n->j<16->w.cell? (zA b1 (o1+k * 16+j))=some (zI (Z k j))) (h2:∀ k j,k<n->j<16->w.cell? (zA b2 (o2+k * 16+j))=some (zI (Z k j))) :
 Hz 33 #[.slice (some (zA b1 o1)) n cap1,.slice (some (zA b2 o2)) n cap2] w fun e w'=>e=.returned (.bool true)/\Below w.heap.size w w':=by
 have H1:bY (∀ k j,k<n->j<16->w.cell? (zA b1 (o1+k * 16+j))=some (zI (Z k j))):=h1;have H2:bY (∀ k j,k<n->j<16->w.cell? (zA b2 (o2+k * 16+j))=some (zI (Z k j))):=h2;clear h1 h2;go_enter Tryz.func33,Tryz.ntmps33;go_wp2;go_loopw [5] (fun i wr=>∃ k:Nat,k<=n/\i=zI k/\((∀ b o,b<w.heap.size->wr.cell? (zA b o)=w.cell? (zA b o))/\w.heap.size<=wr.heap.size)/\Below w.heap.size w wr) (fun i _=>n - (intOf i).toNat)
 case atStart=>exact ⟨0,Nat.zero_le _,rfl,⟨fun _ _ _=>rfl,Ho _⟩,Hr _ _⟩
 case round =>
  obtain ⟨k,hk,rfl,HS,BR⟩:=hrel;by_cases hkn:k<n
  ·skip;have c1_0:=cq16 (fun j hj=>H1.o k j hkn (by omega));have c2_0:=cq16 (fun j hj=>H2.o k j hkn (by omega));go_wp2;refine Hu (S:=fun w'=>(∀ b o,b<w.heap.size->w'.cell? (zA b o)=w.cell? (zA b o))/\w.heap.size<=w'.heap.size) (by kernel_rfl) HS ?_;intro af;refine wpAnyH_take (i:=0) (v:=.slice (some (zA b1 o1)) n cap1) rfl (by kernel_rfl) (by kernel_rfl) (by kernel_rfl) (fun _ _ _ h=>h) (Or.inl ⟨by rfl,?_⟩) (by assumption) ?_
   ·intro wx hSw;go_simp
   try simp only [Act.put,List.setIfInBounds_toArray,List.set_cons_zero,List.set_cons_succ,List.getElem_toArray,List.getElem_cons_zero]
   refine wpAnyH_take (i:=1) (v:=zI (k:Int)) rfl (by kernel_rfl) (by kernel_rfl) (by kernel_rfl) (fun _ _ _ h=>h) (Or.inl ⟨by rfl,?_⟩) (by assumption) ?_
   ·intro wx hSw;go_simp
   try simp only [Act.put,List.setIfInBounds_toArray,List.set_cons_zero,List.set_cons_succ,List.getElem_toArray,List.getElem_cons_zero,List.getElem_cons_succ]
   refine wpAnyH_take (i:=2) (v:=.pointer (some (zA b1 (o1+k * 16)))) rfl (by kernel_rfl) (by kernel_rfl) (by kernel_rfl) (fun _ _ _ h=>h) (Or.inl ⟨by rfl,?_⟩) (by assumption) ?_
   ·intro wx hSw;go_simp
   try simp only [Act.put,List.setIfInBounds_toArray,List.set_cons_zero,List.set_cons_succ,List.getElem_toArray,List.getElem_cons_zero,List.getElem_cons_succ]
   refine wpAnyH_take (i:=3) (v:=.agg #[zI (Z k 0),zI (Z k 1),zI (Z k 2),zI (Z k 3),zI (Z k 4),zI (Z k 5),zI (Z k 6),zI (Z k 7),zI (Z k 8),zI (Z k 9),zI (Z k 10),zI (Z k 11),zI (Z k 12),zI (Z k 13),zI (Z k 14),zI (Z k 15)]) rfl (by kernel_rfl) (by kernel_rfl) (by kernel_rfl) (fun _ _ _ h=>h) (Or.inl ⟨by rfl,?_⟩) (by assumption) ?_
   ·intro wx hSw;go_simp
   try simp only [Act.put,List.setIfInBounds_toArray,List.set_cons_zero,List.set_cons_succ,List.getElem_toArray,List.getElem_cons_zero,List.getElem_cons_succ]
   refine wpAnyH_take (i:=4) (v:=.slice (some (zA b2 o2)) n cap2) rfl (by kernel_rfl) (by kernel_rfl) (by kernel_rfl) (fun _ _ _ h=>h) (Or.inl ⟨by rfl,?_⟩) (by assumption) ?_
   ·intro wx hSw;go_simp
   try simp only [Act.put,List.setIfInBounds_toArray,List.set_cons_zero,List.set_cons_succ,List.getElem_toArray,List.getElem_cons_zero,List.getElem_cons_succ]
   refine wpAnyH_take (i:=5) (v:=zI (k:Int)) rfl (by kernel_rfl) (by kernel_rfl) (by kernel_rfl) (fun _ _ _ h=>h) (Or.inl ⟨by rfl,?_⟩) (by assumption) ?_
   ·intro wx hSw;go_simp
   try simp only [Act.put,List.setIfInBounds_toArray,List.set_cons_zero,List.set_cons_succ,List.getElem_toArray,List.getElem_cons_zero,List.getElem_cons_succ]
   refine wpAnyH_take (i:=6) (v:=.pointer (some (zA b2 (o2+k * 16)))) rfl (by kernel_rfl) (by kernel_rfl) (by kernel_rfl) (fun _ _ _ h=>h) (Or.inl ⟨by rfl,?_⟩) (by assumption) ?_
   ·intro wx hSw;go_simp
   try simp only [Act.put,List.setIfInBounds_toArray,List.set_cons_zero,List.set_cons_succ,List.getElem_toArray,List.getElem_cons_zero,List.getElem_cons_succ]
   refine wpAnyH_take (i:=7) (v:=.agg #[zI (Z k 0),zI (Z k 1),zI (Z k 2),zI (Z k 3),zI (Z k 4),zI (Z k 5),zI (Z k 6),zI (Z k 7),zI (Z k 8),zI (Z k 9),zI (Z k 10),zI (Z k 11),zI (Z k 12),zI (Z k 13),zI (Z k 14),zI (Z k 15)]) rfl (by kernel_rfl) (by kernel_rfl) (by kernel_rfl) (fun _ _ _ h=>h) (Or.inl ⟨by rfl,?_⟩) (by assumption) ?_
   ·intro wx hSw;go_simp
   try simp only [Act.put,List.setIfInBounds_toArray,List.set_cons_zero,List.set_cons_succ,List.getElem_toArray,List.getElem_cons_zero,List.getElem_cons_succ]
   refine wpAnyH_ready (rs:=[8]) (by kernel_rfl) (by simp) ?_;refine AllReadyH.cons rfl (fun K hK=>?_) AllReadyH.nil;go_simp;go_wp2_with (go_at_call 63;refine (GN _ _ _ _ _ _ _ _ _ _ _ _ _ _ _ _ _ ).mono ?_;rintro e w2 ⟨rfl,hbw2⟩);refine hK.out _ _ (bM (by assumption) hbw2) (fun af=>?_);clear hK K;try simp only [Act.put,List.setIfInBounds_toArray,List.set_cons_zero,List.set_cons_succ,List.getElem_toArray,List.getElem_cons_zero,List.getElem_cons_succ]
   refine wpAnyH_take (i:=9) (v:=.bool false) rfl (by kernel_rfl) (by kernel_rfl) (by kernel_rfl) (fun _ _ _ h=>h) (Or.inl ⟨by rfl,?_⟩) (by assumption) ?_
   ·intro wx hSw;go_simp
   try simp only [Act.put,List.setIfInBounds_toArray,List.set_cons_zero,List.set_cons_succ,List.getElem_toArray,List.getElem_cons_zero,List.getElem_cons_succ]
   refine Hy (by kernel_rfl) ?_ _;go_wp2;go_roundw
   case rel=>exact ⟨k+1,by omega,by go_num,by assumption,by repeat (first | exact BR | refine ah ?_ (by assumption) | apply Below.drew)⟩
   case measure=>simp [intOf];omega
  have:k=n:=by omega
  subst this;go_wp2;go_ret;exact ⟨rfl,by repeat (first | exact BR | refine ah ?_ (by assumption) | apply Below.drew)⟩
end P16
