/- The walks of WlkListOk, the program's and the model's: both hand back the plain 'all are ok, and their numbers rise'; conditions: the list lies in memory as a row of structs of five integers. -/
import Derived.Test.YtngaboipleimcaaGreatDoorCEq
namespace Go.Proofs.YtngaboipleimcaaGreatDoor
open Go.RowKit Go.Deep
set_option linter.unusedVariables false
def M1 (s k:Nat):Int:=((s+k:Nat):Int)
def Sm (w w':World) (b:Nat):Prop:=∀ o,w'.cell? (zA b o)=w.cell? (zA b o)∧w'.frozen? (zA b o)=w.frozen? (zA b o)
theorem Sm.refl (w:World) (b:Nat):Sm w w b:=fun _=>⟨rfl,rfl⟩
theorem Sm.trans {a b c:World} {g:Nat} (h:Sm a b g) (k:Sm b c g):Sm a c g:=fun o=>⟨(k o).1.trans (h o).1,(k o).2.trans (h o).2⟩
theorem sm_grown {w w':World} {row:Option Nat} {b:Nat} (h:w.grownBy w' row) (hb:b<w.heap.size) (hne:some b≠row):Sm w w' b:=by
 have e:w'.heap[b]? = w.heap[b]?:=h.block b hb hne
 exact fun o=>⟨World.cell?_of_block (a:=(zA b o)) e,World.frozen?_of_block (a:=(zA b o)) e⟩
theorem sm_below {w w':World} {n b:Nat} (h:Below n w w') (hb:b<n):Sm w w' b:=fun o=>⟨h.cell (p:=(zA b o)) hb,h.frozen (p:=(zA b o)) hb⟩
theorem below_grown {w w':World} {g lo:Nat} (h:w.grownBy w' (some g)) (hl:lo≤g) (hs:lo≤w.heap.size):Below lo w w' :=
 ⟨h.os,h.tape,h.output,h.size,fun k hk=>h.block k (by omega) (by intro e;injection e with e;omega)⟩
theorem own5_sm {w w':World} {B n k:Nat} {Z:Nat→Nat→Int} (h:Own5 w B n Z k) (hs:Sm w w' B):Own5 w' B n Z k :=
 ⟨fun i hi=>by rw [(hs i).1,(hs i).2];exact h.1 i hi,fun k' j hk hj=>by rw [(hs _).1];exact h.2 k' j hk hj⟩
theorem own8_sm {w w':World} {B n k:Nat} {Z:Nat→Nat→Int} (h:P8.Own8 w B n Z k) (hs:Sm w w' B):P8.Own8 w' B n Z k :=
 ⟨fun i hi=>by rw [(hs i).1,(hs i).2];exact h.1 i hi,fun k' j hk hj=>by rw [(hs _).1];exact h.2 k' j hk hj⟩
theorem own1_sm {w w':World} {B n k:Nat} {X:Nat→Int} (h:Own1 w B n X k) (hs:Sm w w' B):Own1 w' B n X k :=
 ⟨fun i hi=>by rw [(hs i).1,(hs i).2];exact h.1 i hi,fun k' hk=>by rw [(hs _).1];exact h.2 k' hk⟩
def RW (lo hi:Nat) (w:World) (v:Value) (n:Nat) (Z:Nat→Nat→Int) (g:Nat):Prop :=
 (n=0∧∃ a c,v=.slice a 0 c)∨∃ c,v=zS g n c∧lo≤g∧g<hi∧hi≤w.heap.size∧Own5 w g n Z n
def RP (lo hi:Nat) (w:World) (v:Value) (n:Nat) (Z:Nat→Nat→Int) (g:Nat):Prop :=
 (n=0∧∃ a c,v=.slice a 0 c)∨∃ c,v=zS g n c∧lo≤g∧g<hi∧hi≤w.heap.size∧P8.Own8 w g n Z n
def RI (lo hi:Nat) (w:World) (v:Value) (n:Nat) (X:Nat→Int) (g:Nat):Prop :=
 (n=0∧∃ a c,v=.slice a 0 c)∨∃ c,v=zS g n c∧lo≤g∧g<hi∧hi≤w.heap.size∧Own1 w g n X n
def RO (lo hi:Nat) (w:World) (v:Value) (n:Nat) (N:Nat→Nat) (O:Nat→Nat→Nat→Int) (g:Nat) (sl:Nat→Value) (xs:Nat→Nat):Prop :=
 (n=0∧∃ a c,v=.slice a 0 c)∨∃ c,v=zS g n c∧lo≤g∧g<hi∧hi≤w.heap.size∧∀ k,k<n→w.cell? (zA g k)=some (sl k)∧RP lo hi w (sl k) (N k) (O k) (xs k)
theorem RW.sm {lo hi:Nat} {w w':World} {v:Value} {n:Nat} {Z:Nat→Nat→Int} {g:Nat} (h:RW lo hi w v n Z g) (hs:w.heap.size≤w'.heap.size) (k:lo≤g→g<hi→Sm w w' g):RW lo hi w' v n Z g:=by
 rcases h with h | ⟨c,h1,h2,h3,h4,h5⟩
 ·exact .inl h
 ·exact .inr ⟨c,h1,h2,h3,Nat.le_trans h4 hs,own5_sm h5 (k h2 h3)⟩
theorem RP.sm {lo hi:Nat} {w w':World} {v:Value} {n:Nat} {Z:Nat→Nat→Int} {g:Nat} (h:RP lo hi w v n Z g) (hs:w.heap.size≤w'.heap.size) (k:lo≤g→g<hi→Sm w w' g):RP lo hi w' v n Z g:=by
 rcases h with h | ⟨c,h1,h2,h3,h4,h5⟩
 ·exact .inl h
 ·exact .inr ⟨c,h1,h2,h3,Nat.le_trans h4 hs,own8_sm h5 (k h2 h3)⟩
theorem RI.sm {lo hi:Nat} {w w':World} {v:Value} {n:Nat} {X:Nat→Int} {g:Nat} (h:RI lo hi w v n X g) (hs:w.heap.size≤w'.heap.size) (k:lo≤g→g<hi→Sm w w' g):RI lo hi w' v n X g:=by
 rcases h with h | ⟨c,h1,h2,h3,h4,h5⟩
 ·exact .inl h
 ·exact .inr ⟨c,h1,h2,h3,Nat.le_trans h4 hs,own1_sm h5 (k h2 h3)⟩
theorem RO.sm {lo hi:Nat} {w w':World} {v:Value} {n:Nat} {N:Nat→Nat} {O:Nat→Nat→Nat→Int} {g:Nat} {sl:Nat→Value} {xs:Nat→Nat} (h:RO lo hi w v n N O g sl xs) (hs:w.heap.size≤w'.heap.size) (k:lo≤g→g<hi→Sm w w' g) (kx:∀ i,i<n→lo≤xs i→xs i<hi→Sm w w' (xs i)):RO lo hi w' v n N O g sl xs:=by
 rcases h with h | ⟨c,h1,h2,h3,h4,h5⟩
 ·exact .inl h
 ·exact .inr ⟨c,h1,h2,h3,Nat.le_trans h4 hs,fun i hi=>⟨((k h2 h3 i).1).trans (h5 i hi).1,(h5 i hi).2.sm hs (kx i hi)⟩⟩
def st (s:Nat) (N:Nat→Nat):Nat→Nat
 | 0=>s
 | k+1=>st s N k+N k * 8
def OwnC (lo hi:Nat) (w:World) (v:Value) (V:CV):Prop :=
 ∃ vW vO vX vI gW gO gX gI sl xs,v=.agg #[zI V.c,vW,zI V.g,vO,vX,vI]∧RW lo hi w vW V.nW V.W gW∧RO lo hi w vO V.nO V.N V.O gO sl xs∧RI lo hi w vX V.nX V.X gX∧RI lo hi w vI V.nI V.I gI ∧
  (¬ gW=gO∧¬ gW=gX∧¬ gW=gI∧¬ gO=gX∧¬ gO=gI∧¬ gX=gI)∧(∀ k,k<V.nO→¬ xs k=gW∧¬ xs k=gO∧¬ xs k=gX∧¬ xs k=gI)∧(∀ i j,i<V.nO→j<V.nO→¬ i=j→¬ xs i=xs j)
def CV.s1 (V:CV):Nat:=1+V.nW * 5
def CV.s2 (V:CV):Nat:=st V.s1 V.N V.nO
def CV.s3 (V:CV):Nat:=V.s2+V.nX
def CV.s4 (V:CV):Nat:=V.s3+V.nI
def one1 (X:Nat→Int) (k:Nat):List Value:=[zI (X k)]
def five5 (Z:Nat→Nat→Int) (k:Nat):List Value:=[zI (Z k 0),zI (Z k 1),zI (Z k 2),zI (Z k 3),zI (Z k 4)]
theorem flat_get {m:Nat} (f:Nat→List Value) (hf:∀ k,(f k).length=m) (hm:0<m):∀ n i,i<n * m→((List.range n).flatMap f)[i]? = (f (i / m))[i % m]?
 | 0,i,h=>by omega
 | n+1,i,h=>by
  rw [List.range_succ,List.flatMap_append]
  have hl:((List.range n).flatMap f).length=n * m:=by
   clear h
   induction n with
   | zero=>simp
   | succ n ih=>rw [List.range_succ,List.flatMap_append,List.length_append,ih];simp [hf,Nat.succ_mul]
  by_cases hi:i<n * m
  ·rw [List.getElem?_append_left (by omega)]
   exact flat_get f hf hm n i hi
  ·rw [List.getElem?_append_right (by omega),hl]
   have h1:i / m=n:=Nat.div_eq_of_lt_le (by omega) (by omega)
   have h2:i % m=i - n * m:=by
    have:=Nat.div_add_mod i m
    rw [h1,Nat.mul_comm] at this
    omega
   rw [h1,h2]
   simp
set_option maxHeartbeats 1000000 in
theorem copyW (b o n cap:Nat) (Z:Nat→Nat→Int) (hn:n≤1048576) (w:World) (hb:b<w.heap.size) (hr:∀ k j,k<n→j<5→w.cell? (zA b (o+k * 5+j))=some (zI (Z k j))) :
 Calls Tryz.prog 125 #[.slice (some (zA b o)) n cap] w fun e w'=>(∃ v,e=.returned v∧w'.ownsRow w.heap.size 48 5 v n ((List.range n).flatMap (five5 Z)))∧Below w.heap.size w w':=by
 have hlen:((List.range n).flatMap (five5 Z)).length=n * 5:=by
  clear hn hr
  induction n with
  | zero=>simp
  | succ n ih=>rw [List.range_succ,List.flatMap_append,List.length_append,ih];simp [five5,Nat.succ_mul]
 have hcell:∀ j u,((List.range n).flatMap (five5 Z))[j]? = some u→w.cell? (((zA b o):Addr).add j)=some u:=by
  intro j u hj
  have hlt:j<n * 5:=by
   have:=(List.getElem?_eq_some_iff.1 hj).1
   rw [hlen] at this;exact this
  rw [flat_get (five5 Z) (fun _=>rfl) (by decide) n j hlt] at hj
  have hq:j / 5<n:=Nat.div_lt_of_lt_mul (by omega)
  have hr':=hr (j / 5) (j % 5) hq (Nat.mod_lt _ (by decide))
  rw [add_none,show o+j=o+j / 5 * 5+j % 5 by omega,hr',←hj]
  have:j % 5<5:=Nat.mod_lt _ (by decide)
  generalize j % 5=q at this ⊢
  match q,this with
  | 0,_=>rfl
  | 1,_=>rfl
  | 2,_=>rfl
  | 3,_=>rfl
  | 4,_=>rfl
 have h1:∀ u ∈ (List.range n).flatMap (five5 Z),u.oneCell'=true:=by
  intro u hu
  obtain ⟨k,_,hk⟩:=List.mem_flatMap.1 hu
  simp [five5] at hk
  rcases hk with rfl | rfl | rfl | rfl | rfl <;> rfl
 clear hr
 obtain ⟨i5,hi5,hzz⟩:=Option.map_eq_some_iff.1 Tryz.info48
 simp only [Prod.mk.injEq] at hzz
 obtain ⟨hz50,hz51,hz52⟩:=hzz
 have HC:Hid (∀ j u,((List.range n).flatMap (five5 Z))[j]? = some u→w.cell? (((zA b o):Addr).add j)=some u):=hcell
 have H1:Hid (∀ u ∈ (List.range n).flatMap (five5 Z),u.oneCell'=true):=h1
 have HL:Hid (((List.range n).flatMap (five5 Z)).length=n * 5):=hlen
 clear hcell h1 hlen
 go_enter Tryz.func125,Tryz.ntmps125
 go_wp2_with (at_builtin;refine wpList_append_own _ rfl _ _ 38 rfl w.heap.size 48 i5 (.agg #[zI 0,zI 0,zI 0,zI 0,zI 0]) 5 40 Tryz.underlying38 hi5 hz50 hz51 hz52 rfl (by decide) _ 0 [] rfl ⟨rfl,.inl ⟨rfl,rfl⟩⟩ (zA b o) n cap ((List.range n).flatMap (five5 Z)) rfl HL.out HC.out H1.out (by unfold maxLen;omega) (by omega) (Nat.le_refl _) ?_)
 intro v' w2 hown hg hnil
 have hb2:Below w.heap.size w w2:=(Below.refl _ _).grown hg (Nat.le_refl _) (fun kk e=>by cases e)
 have HO:Hid (w2.ownsRow w.heap.size 48 5 v' n ((List.range n).flatMap (five5 Z))):=hown
 clear hown hg hnil
 go_wp2
 go_ret
 exact ⟨⟨_,rfl,HO.out⟩,hb2⟩
set_option maxHeartbeats 1000000 in
theorem copyP (b o n cap:Nat) (Z:Nat→Nat→Int) (hn:n≤1048576) (w:World) (hb:b<w.heap.size) (hr:∀ k j,k<n→j<8→w.cell? (zA b (o+k * 8+j))=some (zI (Z k j))) :
 Calls Tryz.prog 126 #[.slice (some (zA b o)) n cap] w fun e w'=>(∃ v,e=.returned v∧w'.ownsRow w.heap.size 50 8 v n ((List.range n).flatMap (P8.eight Z))∧(n=0→∃ a,v=.slice a 0 0))∧Below w.heap.size w w':=by
 have hlen:((List.range n).flatMap (P8.eight Z)).length=n * 8:=by
  clear hn hr
  induction n with
  | zero=>simp
  | succ n ih=>rw [List.range_succ,List.flatMap_append,List.length_append,ih];simp [P8.eight,Nat.succ_mul]
 have hcell:∀ j u,((List.range n).flatMap (P8.eight Z))[j]? = some u→w.cell? (((zA b o):Addr).add j)=some u:=by
  intro j u hj
  have hlt:j<n * 8:=by
   have:=(List.getElem?_eq_some_iff.1 hj).1
   rw [hlen] at this;exact this
  rw [flat_get (P8.eight Z) (fun _=>rfl) (by decide) n j hlt] at hj
  have hq:j / 8<n:=Nat.div_lt_of_lt_mul (by omega)
  have hr':=hr (j / 8) (j % 8) hq (Nat.mod_lt _ (by decide))
  rw [add_none,show o+j=o+j / 8 * 8+j % 8 by omega,hr',←hj]
  have:j % 8<8:=Nat.mod_lt _ (by decide)
  generalize j % 8=q at this ⊢
  match q,this with
  | 0,_=>rfl
  | 1,_=>rfl
  | 2,_=>rfl
  | 3,_=>rfl
  | 4,_=>rfl
  | 5,_=>rfl
  | 6,_=>rfl
  | 7,_=>rfl
 have h1:∀ u ∈ (List.range n).flatMap (P8.eight Z),u.oneCell'=true:=by
  intro u hu
  obtain ⟨k,_,hk⟩:=List.mem_flatMap.1 hu
  simp [P8.eight] at hk
  rcases hk with rfl | rfl | rfl | rfl | rfl | rfl | rfl | rfl <;> rfl
 clear hr
 obtain ⟨i5,hi5,hzz⟩:=Option.map_eq_some_iff.1 P8.Tryz.info50
 simp only [Prod.mk.injEq] at hzz
 obtain ⟨hz50,hz51,hz52⟩:=hzz
 have HC:Hid (∀ j u,((List.range n).flatMap (P8.eight Z))[j]? = some u→w.cell? (((zA b o):Addr).add j)=some u):=hcell
 have H1:Hid (∀ u ∈ (List.range n).flatMap (P8.eight Z),u.oneCell'=true):=h1
 have HL:Hid (((List.range n).flatMap (P8.eight Z)).length=n * 8):=hlen
 clear hcell h1 hlen
 go_enter Tryz.func126,Tryz.ntmps126
 go_wp2_with (at_builtin;refine wpList_append_own _ rfl _ _ 125 rfl w.heap.size 50 i5 (.agg #[zI 0,zI 0,zI 0,zI 0,zI 0,zI 0,zI 0,zI 0]) 8 64 Tryz.underlying125 hi5 hz50 hz51 hz52 rfl (by decide) _ 0 [] rfl ⟨rfl,.inl ⟨rfl,rfl⟩⟩ (zA b o) n cap ((List.range n).flatMap (P8.eight Z)) rfl HL.out HC.out H1.out (by unfold maxLen;omega) (by omega) (Nat.le_refl _) ?_)
 intro v' w2 hown hg hnil
 have hb2:Below w.heap.size w w2:=(Below.refl _ _).grown hg (Nat.le_refl _) (fun kk e=>by cases e)
 have HO:Hid (w2.ownsRow w.heap.size 50 8 v' n ((List.range n).flatMap (P8.eight Z))):=hown
 have HN0:Hid (n=0→∃ a,v'=.slice a 0 0):=fun e=>⟨none,hnil.2 e⟩
 clear hown hg hnil
 go_wp2
 go_ret
 exact ⟨⟨_,rfl,HO.out,HN0.out⟩,hb2⟩
set_option maxHeartbeats 1000000 in
theorem copyI (b o n cap:Nat) (X:Nat→Int) (hn:n≤1048576) (w:World) (hb:b<w.heap.size) (hr:∀ k,k<n→w.cell? (zA b (o+k))=some (zI (X k))) :
 Calls Tryz.prog 127 #[.slice (some (zA b o)) n cap] w fun e w'=>(∃ v,e=.returned v∧w'.ownsRow w.heap.size 3 1 v n ((List.range n).flatMap (one1 X)))∧Below w.heap.size w w':=by
 have hlen:((List.range n).flatMap (one1 X)).length=n * 1:=by
  clear hn hr
  induction n with
  | zero=>simp
  | succ n ih=>rw [List.range_succ,List.flatMap_append,List.length_append,ih];simp [one1,Nat.succ_mul]
 have hcell:∀ j u,((List.range n).flatMap (one1 X))[j]? = some u→w.cell? (((zA b o):Addr).add j)=some u:=by
  intro j u hj
  have hlt:j<n * 1:=by
   have:=(List.getElem?_eq_some_iff.1 hj).1
   rw [hlen] at this;exact this
  rw [flat_get (one1 X) (fun _=>rfl) (by decide) n j hlt,Nat.div_one,Nat.mod_one] at hj
  rw [add_none,hr j (by omega),←hj]
  rfl
 have h1:∀ u ∈ (List.range n).flatMap (one1 X),u.oneCell'=true:=by
  intro u hu
  obtain ⟨k,_,hk⟩:=List.mem_flatMap.1 hu
  simp [one1] at hk
  subst hk;rfl
 clear hr
 obtain ⟨i5,hi5,hzz⟩:=Option.map_eq_some_iff.1 Tryz.info3
 simp only [Prod.mk.injEq] at hzz
 obtain ⟨hz50,hz51,hz52⟩:=hzz
 have HC:Hid (∀ j u,((List.range n).flatMap (one1 X))[j]? = some u→w.cell? (((zA b o):Addr).add j)=some u):=hcell
 have H1:Hid (∀ u ∈ (List.range n).flatMap (one1 X),u.oneCell'=true):=h1
 have HL:Hid (((List.range n).flatMap (one1 X)).length=n * 1):=hlen
 clear hcell h1 hlen
 go_enter Tryz.func127,Tryz.ntmps127
 go_wp2_with (at_builtin;refine wpList_append_own _ rfl _ _ 26 rfl w.heap.size 3 i5 (zI 0) 1 8 Tryz.underlying26 hi5 hz50 hz51 hz52 rfl (by decide) _ 0 [] rfl ⟨rfl,.inl ⟨rfl,rfl⟩⟩ (zA b o) n cap ((List.range n).flatMap (one1 X)) rfl HL.out HC.out H1.out (by unfold maxLen;omega) (by omega) (Nat.le_refl _) ?_)
 intro v' w2 hown hg hnil
 have hb2:Below w.heap.size w w2:=(Below.refl _ _).grown hg (Nat.le_refl _) (fun kk e=>by cases e)
 have HO:Hid (w2.ownsRow w.heap.size 3 1 v' n ((List.range n).flatMap (one1 X))):=hown
 clear hown hg hnil
 go_wp2
 go_ret
 exact ⟨⟨_,rfl,HO.out⟩,hb2⟩
theorem rw_of_own {w:World} {base n:Nat} {v:Value} {Z:Nat→Nat→Int} (h:w.ownsRow base 48 5 v n ((List.range n).flatMap (five5 Z))):∃ g,RW base w.heap.size w v n Z g∧(v.ownBlock=none∨v.ownBlock=some g):=by
 rcases h.2 with ⟨e,hl⟩ | ⟨g,cap,cur,hv,_⟩
 ·subst e;subst hl
  exact ⟨0,.inl ⟨rfl,none,0,rfl⟩,.inl rfl⟩
 ·have ho:w.ownsRow base 48 5 (.slice (some (zA g 0)) n cap) n ((List.range n).flatMap (five5 Z)):=by rw [←hv];exact h
  refine ⟨g,.inr ⟨cap,hv,(ho.lt g rfl).1,(ho.lt g rfl).2,Nat.le_refl _,fun i hi=>⟨?_,ho.frozenAt i⟩,fun k j hk hj=>?_⟩,.inr (by rw [hv];rfl)⟩
  ·rw [ho.cellAt i (by omega)]
   have:i<((List.range n).flatMap (five5 Z)).length:=by rw [ho.1];omega
   rw [List.getElem?_eq_getElem this]
   rfl
  ·skip
   have hlt:k * 5+j<n * 5:=by omega
   rw [ho.cellAt (k * 5+j) hlt,flat_get (five5 Z) (fun _=>rfl) (by decide) n _ hlt,show (k * 5+j) / 5=k by omega,show (k * 5+j) % 5=j by omega]
   match j,hj with
   | 0,_=>rfl
   | 1,_=>rfl
   | 2,_=>rfl
   | 3,_=>rfl
   | 4,_=>rfl
theorem rp_of_own {w:World} {base n:Nat} {v:Value} {Z:Nat→Nat→Int} (h:w.ownsRow base 50 8 v n ((List.range n).flatMap (P8.eight Z))):∃ g,RP base w.heap.size w v n Z g∧(v.ownBlock=none∨v.ownBlock=some g):=by
 rcases h.2 with ⟨e,hl⟩ | ⟨g,cap,cur,hv,_⟩
 ·subst e;subst hl
  exact ⟨0,.inl ⟨rfl,none,0,rfl⟩,.inl rfl⟩
 ·have ho:w.ownsRow base 50 8 (.slice (some (zA g 0)) n cap) n ((List.range n).flatMap (P8.eight Z)):=by rw [←hv];exact h
  refine ⟨g,.inr ⟨cap,hv,(ho.lt g rfl).1,(ho.lt g rfl).2,Nat.le_refl _,fun i hi=>⟨?_,ho.frozenAt i⟩,fun k j hk hj=>?_⟩,.inr (by rw [hv];rfl)⟩
  ·rw [ho.cellAt i (by omega)]
   have:i<((List.range n).flatMap (P8.eight Z)).length:=by rw [ho.1];omega
   rw [List.getElem?_eq_getElem this]
   rfl
  ·skip
   have hlt:k * 8+j<n * 8:=by omega
   rw [ho.cellAt (k * 8+j) hlt,flat_get (P8.eight Z) (fun _=>rfl) (by decide) n _ hlt,show (k * 8+j) / 8=k by omega,show (k * 8+j) % 8=j by omega]
   match j,hj with
   | 0,_=>rfl
   | 1,_=>rfl
   | 2,_=>rfl
   | 3,_=>rfl
   | 4,_=>rfl
   | 5,_=>rfl
   | 6,_=>rfl
   | 7,_=>rfl
theorem ri_of_own {w:World} {base n:Nat} {v:Value} {X:Nat→Int} (h:w.ownsRow base 3 1 v n ((List.range n).flatMap (one1 X))):∃ g,RI base w.heap.size w v n X g∧(v.ownBlock=none∨v.ownBlock=some g):=by
 rcases h.2 with ⟨e,hl⟩ | ⟨g,cap,cur,hv,_⟩
 ·subst e;subst hl
  exact ⟨0,.inl ⟨rfl,none,0,rfl⟩,.inl rfl⟩
 ·have ho:w.ownsRow base 3 1 (.slice (some (zA g 0)) n cap) n ((List.range n).flatMap (one1 X)):=by rw [←hv];exact h
  refine ⟨g,.inr ⟨cap,hv,(ho.lt g rfl).1,(ho.lt g rfl).2,Nat.le_refl _,fun i hi=>⟨?_,ho.frozenAt i⟩,fun k hk=>?_⟩,.inr (by rw [hv];rfl)⟩
  ·rw [ho.cellAt i (by omega)]
   have:i<((List.range n).flatMap (one1 X)).length:=by rw [ho.1];omega
   rw [List.getElem?_eq_getElem this]
   rfl
  ·skip
   rw [ho.cellAt k (by omega),flat_get (m:=1) (one1 X) (fun _=>rfl) (by decide) n k (by omega),Nat.div_one,Nat.mod_one]
   rfl
def wkB (c d:Int) (Z:Nat→Nat→Int) (k:Nat):Bool:=wlkB c d (Z k 0) (Z k 1) (Z k 2) (Z k 3) (Z k 4)
def goodB (c d:Int) (Z:Nat→Nat→Int) (k:Nat):Bool:=wkB c d Z k && (k == 0 || decide (Z (k - 1) 0<Z k 0))
def allB (c d:Int) (Z:Nat→Nat→Int):Nat→Bool
 | 0=>true
 | k+1=>allB c d Z k && goodB c d Z k
theorem allB_step {c d:Int} {Z:Nat→Nat→Int} {k:Nat} (h:allB c d Z k=true) (g:goodB c d Z k=true):allB c d Z (k+1)=true:=by simp [allB,h,g]
theorem allB_down {c d:Int} {Z:Nat→Nat→Int} {k:Nat}:∀ n,k≤n→allB c d Z n=true→allB c d Z k=true
 | 0,hk,h=>by obtain rfl:k=0:=by omega
              exact h
 | n+1,hk,h=>by
  by_cases e:k=n+1
  ·subst e;exact h
  ·simp only [allB,Bool.and_eq_true] at h
   exact allB_down n (by omega) h.1
theorem allB_stop {c d:Int} {Z:Nat→Nat→Int} {k n:Nat} (h:allB c d Z k=true) (hk:k<n) (g:goodB c d Z k=false):allB c d Z n=false:=by
 cases e:allB c d Z n with
 | false=>rfl
 | true =>
  have:=allB_down n (show k+1≤n by omega) e
  simp [allB,g] at this
set_option maxHeartbeats 8000000 in
theorem listOk_spec (c d:Int) (b o n cap:Nat) (Z:Nat→Nat→Int) (hn:n≤1048576) (w:World) (hb:b<w.heap.size)
 (hr:∀ k j,k<n→j<5→w.cell? (zA b (o+k * 5+j))=some (zI (Z k j))) :
 Calls Tryz.prog 73 #[.agg #[zI c,zI d],.slice (some (zA b o)) n cap] w fun e w'=>e=.returned (.bool (allB c d Z n))∧Below w.heap.size w w':=by
 have HR:Hid (∀ k j,k<n→j<5→w.cell? (zA b (o+k * 5+j))=some (zI (Z k j))):=hr
 clear hr
 go_enter Tryz.func73,Tryz.ntmps73
 go_wp2
 go_loopw [5] (fun i wr=>∃ k:Nat,k≤n∧i=zI k∧allB c d Z k=true∧((∀ b o,b<w.heap.size+1→wr.cell? (zA b o)=(w.alloc (.cells #[zI c,zI d] 44)).cell? (zA b o))∧w.heap.size+1≤wr.heap.size)∧Below w.heap.size w wr) (fun i _=>n - (intOf i).toNat)
 case atStart=>exact ⟨0,Nat.zero_le _,rfl,rfl,⟨fun _ _ _=>rfl,by simp⟩,(Below.refl _ _).alloc (by simp) _⟩
 case round =>
  obtain ⟨k,hk,rfl,hall,HS,BR⟩:=hrel
  by_cases hkn:k<n
  ·have c0:w.cell? (zA b (o+k * 5))=some (zI (Z k 0)):=HR.out k 0 hkn (by omega)
   have c1:w.cell? (zA b (o+k * 5+1))=some (zI (Z k 1)):=HR.out k 1 hkn (by omega)
   have c2:w.cell? (zA b (o+k * 5+2))=some (zI (Z k 2)):=HR.out k 2 hkn (by omega)
   have c3:w.cell? (zA b (o+k * 5+3))=some (zI (Z k 3)):=HR.out k 3 hkn (by omega)
   have c4:w.cell? (zA b (o+k * 5+4))=some (zI (Z k 4)):=HR.out k 4 hkn (by omega)
   have cp:w.cell? ⟨b,o+(k - 1) * 5,none⟩=some (zI (Z (k - 1) 0)):=HR.out (k - 1) 0 (by omega) (by omega)
   have hb1:b<w.heap.size+1:=by omega
   have HALL:Hid (allB c d Z k=true):=hall
   clear hall
   cases hok:wlkB c d (Z k 0) (Z k 1) (Z k 2) (Z k 3) (Z k 4)
   ·have EG:Hid (goodB c d Z k=false):=by show goodB c d Z k=_;unfold goodB wkB;rw [hok];rfl
    go_wp2
    refine wp_region_held_drew (S:=fun w'=>(∀ b o,b<w.heap.size+1→w'.cell? (zA b o)=(w.alloc (.cells #[zI c,zI d] 44)).cell? (zA b o))∧w.heap.size+1≤w'.heap.size) (by kernel_rfl) HS ?_
    intro hHeld
    refine tka 0 (.agg #[zI c,zI d]) rfl ?_
    try simp only [aT]
    refine tka 1 (.slice (some (zA b o)) n cap) rfl ?_
    try simp only [aT]
    refine tka 2 (zI (k:Int)) rfl ?_
    try simp only [aT]
    refine tka 3 (.pointer (some (zA b (o+k * 5)))) rfl ?_
    try simp only [aT]
    refine tka 4 (.agg (zF (Z k)).toArray) rfl ?_
    try simp only [aT]
    refine rd1 5 rfl fun K hK=>?_
    go_simp
    go_wp2_with (go_at_call 111;refine (wlkOk_spec _ _ _ _ _ _ _ _).mono ?_;rintro e w2 ⟨rfl,hbw2⟩)
    refine hK.out _ _ (keepS (by assumption) hbw2) (fun hHeld=>?_)
    clear hK K
    try simp only [aT]
    refine tka 6 (.bool true) rfl ?_
    try simp only [aT]
    refine tka 7 (.bool true) rfl ?_
    try simp only [aT]
    refine tkr 8 rfl ?_
    try simp only [aT]
    refine tkr 9 rfl ?_
    try simp only [aT]
    refine tkr 10 rfl ?_
    try simp only [aT]
    refine tkr 11 rfl ?_
    try simp only [aT]
    refine tkr 12 rfl ?_
    try simp only [aT]
    refine tkr 13 rfl ?_
    try simp only [aT]
    refine tkr 14 rfl ?_
    try simp only [aT]
    refine tkr 15 rfl ?_
    try simp only [aT]
    refine tkr 16 rfl ?_
    try simp only [aT]
    refine tkr 17 rfl ?_
    try simp only [aT]
    refine tkr 18 rfl ?_
    try simp only [aT]
    refine tkr 19 rfl ?_
    try simp only [aT]
    refine tkr 20 rfl ?_
    try simp only [aT]
    refine tkr 21 rfl ?_
    try simp only [aT]
    refine tkr 22 rfl ?_
    try simp only [aT]
    refine tkr 23 rfl ?_
    try simp only [aT]
    refine tka 24 (.bool true) rfl ?_
    try simp only [aT]
    refine wpAnyH_done (by kernel_rfl) ?_ _
    go_wp2
    go_ret
    exact ⟨by rw [allB_stop HALL.out hkn EG.out];rfl,by repeat (first | exact BR | refine bthen ?_ (by assumption) | apply Below.drew)⟩
   ·by_cases hk0:k=0
    ·have EG:Hid (goodB c d Z k=true):=by show goodB c d Z k=_;unfold goodB wkB;rw [hok];simp [hk0]
     have hkf:¬ 0<k:=by omega
     clear hk0
     go_wp2
     refine wp_region_held_drew (S:=fun w'=>(∀ b o,b<w.heap.size+1→w'.cell? (zA b o)=(w.alloc (.cells #[zI c,zI d] 44)).cell? (zA b o))∧w.heap.size+1≤w'.heap.size) (by kernel_rfl) HS ?_
     intro hHeld
     refine tka 0 (.agg #[zI c,zI d]) rfl ?_
     try simp only [aT]
     refine tka 1 (.slice (some (zA b o)) n cap) rfl ?_
     try simp only [aT]
     refine tka 2 (zI (k:Int)) rfl ?_
     try simp only [aT]
     refine tka 3 (.pointer (some (zA b (o+k * 5)))) rfl ?_
     try simp only [aT]
     refine tka 4 (.agg (zF (Z k)).toArray) rfl ?_
     try simp only [aT]
     refine rd1 5 rfl fun K hK=>?_
     go_simp
     go_wp2_with (go_at_call 111;refine (wlkOk_spec _ _ _ _ _ _ _ _).mono ?_;rintro e w2 ⟨rfl,hbw2⟩)
     refine hK.out _ _ (keepS (by assumption) hbw2) (fun hHeld=>?_)
     clear hK K
     try simp only [aT]
     refine tka 6 (.bool false) rfl ?_
     try simp only [aT]
     refine tka 7 (.bool false) rfl ?_
     try simp only [aT]
     refine tka 8 (zI (k:Int)) rfl ?_
     try simp only [aT]
     refine tkl 9 (.bool false) rfl ?_ ?_
     ·intro wx hSw;go_simp <;> omega
     try simp only [aT]
     refine tka 10 (.bool false) rfl ?_
     try simp only [aT]
     refine tkr 11 rfl ?_
     try simp only [aT]
     refine tkr 12 rfl ?_
     try simp only [aT]
     refine tkr 13 rfl ?_
     try simp only [aT]
     refine tkr 14 rfl ?_
     try simp only [aT]
     refine tkr 15 rfl ?_
     try simp only [aT]
     refine tkr 16 rfl ?_
     try simp only [aT]
     refine tkr 17 rfl ?_
     try simp only [aT]
     refine tkr 18 rfl ?_
     try simp only [aT]
     refine tkr 19 rfl ?_
     try simp only [aT]
     refine tkr 20 rfl ?_
     try simp only [aT]
     refine tkr 21 rfl ?_
     try simp only [aT]
     refine tkr 22 rfl ?_
     try simp only [aT]
     refine tka 23 (.bool false) rfl ?_
     try simp only [aT]
     refine tka 24 (.bool false) rfl ?_
     try simp only [aT]
     refine wpAnyH_done (by kernel_rfl) ?_ _
     go_wp2
     go_roundw
     case rel=>exact ⟨k+1,by omega,by go_num,allB_step HALL.out EG.out,by assumption,by repeat (first | exact BR | refine bthen ?_ (by assumption) | apply Below.drew)⟩
     case measure=>simp [intOf];omega
    ·by_cases hlt:Z (k - 1) 0<Z k 0
     ·have EG:Hid (goodB c d Z k=true):=by show goodB c d Z k=_;unfold goodB wkB;rw [hok];simp [hlt]
      go_wp2
      refine wp_region_held_drew (S:=fun w'=>(∀ b o,b<w.heap.size+1→w'.cell? (zA b o)=(w.alloc (.cells #[zI c,zI d] 44)).cell? (zA b o))∧w.heap.size+1≤w'.heap.size) (by kernel_rfl) HS ?_
      intro hHeld
      refine tka 0 (.agg #[zI c,zI d]) rfl ?_
      try simp only [aT]
      refine tka 1 (.slice (some (zA b o)) n cap) rfl ?_
      try simp only [aT]
      refine tka 2 (zI (k:Int)) rfl ?_
      try simp only [aT]
      refine tka 3 (.pointer (some (zA b (o+k * 5)))) rfl ?_
      try simp only [aT]
      refine tka 4 (.agg (zF (Z k)).toArray) rfl ?_
      try simp only [aT]
      refine rd1 5 rfl fun K hK=>?_
      go_simp
      go_wp2_with (go_at_call 111;refine (wlkOk_spec _ _ _ _ _ _ _ _).mono ?_;rintro e w2 ⟨rfl,hbw2⟩)
      refine hK.out _ _ (keepS (by assumption) hbw2) (fun hHeld=>?_)
      clear hK K
      try simp only [aT]
      refine tka 6 (.bool false) rfl ?_
      try simp only [aT]
      refine tka 7 (.bool false) rfl ?_
      try simp only [aT]
      refine tka 8 (zI (k:Int)) rfl ?_
      try simp only [aT]
      refine tkl 9 (.bool true) rfl ?_ ?_
      ·intro wx hSw;go_simp <;> omega
      try simp only [aT]
      refine tka 10 (.bool true) rfl ?_
      try simp only [aT]
      refine tka 11 (.slice (some (zA b o)) n cap) rfl ?_
      try simp only [aT]
      refine tka 12 (zI (k:Int)) rfl ?_
      try simp only [aT]
      refine tkl 13 (zI ((k:Int) - 1)) rfl ?_ ?_
      ·intro wx hSw;go_simp;rw [IntKind.wrap_i64];omega
      try simp only [aT]
      refine tkl 14 (.pointer (some ⟨b,o+(k - 1) * 5,none⟩)) rfl ?_ ?_
      ·intro wx hSw;go_simp;intro h;omega
      try simp only [aT]
      refine tka 15 (.pointer (some ⟨b,o+(k - 1) * 5,none⟩)) rfl ?_
      try simp only [aT]
      refine tka 16 (zI (Z (k - 1) 0)) rfl ?_
      try simp only [aT]
      refine tka 17 (.slice (some (zA b o)) n cap) rfl ?_
      try simp only [aT]
      refine tka 18 (zI (k:Int)) rfl ?_
      try simp only [aT]
      refine tka 19 (.pointer (some (zA b (o+k * 5)))) rfl ?_
      try simp only [aT]
      refine tka 20 (.pointer (some (zA b (o+k * 5)))) rfl ?_
      try simp only [aT]
      refine tka 21 (zI (Z k 0)) rfl ?_
      try simp only [aT]
      refine tka 22 (.bool false) rfl ?_
      try simp only [aT]
      refine tka 23 (.bool false) rfl ?_
      try simp only [aT]
      refine tka 24 (.bool false) rfl ?_
      try simp only [aT]
      refine wpAnyH_done (by kernel_rfl) ?_ _
      go_wp2
      go_roundw
      case rel=>exact ⟨k+1,by omega,by go_num,allB_step HALL.out EG.out,by assumption,by repeat (first | exact BR | refine bthen ?_ (by assumption) | apply Below.drew)⟩
      case measure=>simp [intOf];omega
     ·have EG:Hid (goodB c d Z k=false):=by show goodB c d Z k=_;unfold goodB wkB;rw [hok];simp [hk0,hlt]
      go_wp2
      refine wp_region_held_drew (S:=fun w'=>(∀ b o,b<w.heap.size+1→w'.cell? (zA b o)=(w.alloc (.cells #[zI c,zI d] 44)).cell? (zA b o))∧w.heap.size+1≤w'.heap.size) (by kernel_rfl) HS ?_
      intro hHeld
      refine tka 0 (.agg #[zI c,zI d]) rfl ?_
      try simp only [aT]
      refine tka 1 (.slice (some (zA b o)) n cap) rfl ?_
      try simp only [aT]
      refine tka 2 (zI (k:Int)) rfl ?_
      try simp only [aT]
      refine tka 3 (.pointer (some (zA b (o+k * 5)))) rfl ?_
      try simp only [aT]
      refine tka 4 (.agg (zF (Z k)).toArray) rfl ?_
      try simp only [aT]
      refine rd1 5 rfl fun K hK=>?_
      go_simp
      go_wp2_with (go_at_call 111;refine (wlkOk_spec _ _ _ _ _ _ _ _).mono ?_;rintro e w2 ⟨rfl,hbw2⟩)
      refine hK.out _ _ (keepS (by assumption) hbw2) (fun hHeld=>?_)
      clear hK K
      try simp only [aT]
      refine tka 6 (.bool false) rfl ?_
      try simp only [aT]
      refine tka 7 (.bool false) rfl ?_
      try simp only [aT]
      refine tka 8 (zI (k:Int)) rfl ?_
      try simp only [aT]
      refine tkl 9 (.bool true) rfl ?_ ?_
      ·intro wx hSw;go_simp <;> omega
      try simp only [aT]
      refine tka 10 (.bool true) rfl ?_
      try simp only [aT]
      refine tka 11 (.slice (some (zA b o)) n cap) rfl ?_
      try simp only [aT]
      refine tka 12 (zI (k:Int)) rfl ?_
      try simp only [aT]
      refine tkl 13 (zI ((k:Int) - 1)) rfl ?_ ?_
      ·intro wx hSw;go_simp;rw [IntKind.wrap_i64];omega
      try simp only [aT]
      refine tkl 14 (.pointer (some ⟨b,o+(k - 1) * 5,none⟩)) rfl ?_ ?_
      ·intro wx hSw;go_simp;intro h;omega
      try simp only [aT]
      refine tka 15 (.pointer (some ⟨b,o+(k - 1) * 5,none⟩)) rfl ?_
      try simp only [aT]
      refine tka 16 (zI (Z (k - 1) 0)) rfl ?_
      try simp only [aT]
      refine tka 17 (.slice (some (zA b o)) n cap) rfl ?_
      try simp only [aT]
      refine tka 18 (zI (k:Int)) rfl ?_
      try simp only [aT]
      refine tka 19 (.pointer (some (zA b (o+k * 5)))) rfl ?_
      try simp only [aT]
      refine tka 20 (.pointer (some (zA b (o+k * 5)))) rfl ?_
      try simp only [aT]
      refine tka 21 (zI (Z k 0)) rfl ?_
      try simp only [aT]
      refine tka 22 (.bool true) rfl ?_
      try simp only [aT]
      refine tka 23 (.bool true) rfl ?_
      try simp only [aT]
      refine tka 24 (.bool true) rfl ?_
      try simp only [aT]
      refine wpAnyH_done (by kernel_rfl) ?_ _
      go_wp2
      go_ret
      exact ⟨by rw [allB_stop HALL.out hkn EG.out];rfl,by repeat (first | exact BR | refine bthen ?_ (by assumption) | apply Below.drew)⟩
  ·have:k=n:=by omega
   subst this
   go_wp2
   go_ret
   exact ⟨by rw [hall];rfl,by repeat (first | exact BR | refine bthen ?_ (by assumption) | apply Below.drew)⟩
