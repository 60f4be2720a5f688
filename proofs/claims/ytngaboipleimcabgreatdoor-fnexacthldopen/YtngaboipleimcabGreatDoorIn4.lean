/- A walker among others, by its number; and CllIn of the program; conditions: the cell lies in memory. -/
import Derived.Test.YtngaboipleimcabGreatDoorShelf
import Derived.Laws.MakeOwn
import Derived.RangeFuncOwn
set_option linter.unusedVariables false
set_option maxHeartbeats 4000000
set_option maxRecDepth 20000
namespace Go.Proofs.YtngaboipleimcabGreatDoor
open Go.RowKit Go.Maps Go.Sort Go.Shelf Go.WideMaps Go.ChangeMaps Go.MapKept
open Go.WideElems (Fit)
theorem BH:∀ {l m:List Int},l.Pairwise (·<·)->m.Pairwise (·<·)->(∀ z,z ∈ l↔z ∈ m)->l=m
 | [],[],_,_,_=>rfl
 | [],b :: m,_,_,h=>absurd ((h b).2 (by simp)) (by simp)
 | a :: l,[],_,_,h=>absurd ((h a).1 (by simp)) (by simp)
 | a :: l,b :: m,h1,h2,h=>by
  obtain ⟨p1,q1⟩:=List.pairwise_cons.1 h1
  obtain ⟨p2,q2⟩:=List.pairwise_cons.1 h2
  have hab:a=b:=by
   have ha:=(h a).1 (by simp);have hb:=(h b).2 (by simp);rcases List.mem_cons.1 ha with e | ha
   ·exact e
   rcases List.mem_cons.1 hb with e | hb
   ·exact e.symm
   have:=p2 a ha;have:=p1 b hb;omega
  subst hab;rw [BH q1 q2 (fun z=>?_)];constructor
  ·intro hz;rcases List.mem_cons.1 ((h z).1 (List.mem_cons_of_mem _ hz)) with e | hz'
   ·have:=p1 z hz;omega
   exact hz'
  intro hz;rcases List.mem_cons.1 ((h z).2 (List.mem_cons_of_mem _ hz)) with e | hz'
  ·have:=p2 z hz;omega
  exact hz'
theorem Wm.own {w:World} {b n:Nat} {M:Int->Option (Nat->Int)} (h:Wm w b n M) (hn:n<=maxLen) :
 ∃ D:DataW Unit,w.ownsMap Tryz.prog 3 (fun _=>some (.nil,[])) b n D/\(∀ z,z ∈ intKeys D↔(M z).isSome=true)/\(intKeys D).Nodup/\Maps.size D<=n:=by
 obtain ⟨es,clock,hb,hs,hsz,hent,hno⟩:=h;have hrd:∀ x ∈ es.toList,∀ z,x.key=kI z->(Lit.int .i64 z).wf=true->WideElems.rd Tryz.prog 3 (fun _=>some ((.nil:DataW Unit),[])) x=some (.int .i64 z,.nil):=fun x hx z hk hw=>by
  simp [WideElems.rd,hk,kI,keyOf_int_mk Tryz.underlying3 hw]
 have hrg:∀ x ∈ es.toList,∀ z,x.key=kI z->(Lit.int .i64 z).wf=true->WideElems.rg Tryz.prog 3 (fun _=>some ((.nil:DataW Unit),[])) x=(.int .i64 z,.nil):=fun x hx z hk hw=>by
  simp [WideElems.rg,hrd x hx z hk hw]
 have hF:Fit Tryz.prog 3 (fun _=>some ((.nil:DataW Unit),[])) es clock:=⟨Hq hsz hn,hs,fun x hx=>by
  obtain ⟨z,Z,hk,hw,_⟩:=hent x hx
  exact ⟨_,hrd x hx z hk hw⟩⟩
 refine ⟨_,⟨es,clock,hb,hF,hsz,rfl⟩,?_,?_,?_⟩
 ·intro z;have hp:=(WideShapes.sorted_perm (es.toList.map (WideElems.rg Tryz.prog 3 (fun _=>some ((.nil:DataW Unit),[]))))).map (fun p=>_root_.Go.intOf p.1);show z ∈ (List.foldr DataW.insert [] _).map (fun p=>_root_.Go.intOf p.1)↔_;rw [hp.mem_iff,List.map_map];constructor
  ·intro hz;obtain ⟨x,hx,e⟩:=List.mem_map.1 hz;obtain ⟨z',Z,hk,hw,hM,_⟩:=hent x hx;simp only [Function.comp,hrg x hx z' hk hw] at e;have:z'=z:=e;subst this;rw [hM];rfl
  intro hz;obtain ⟨Z,hZ⟩:=Option.isSome_iff_exists.1 hz;obtain ⟨x,hx,hk⟩:=hno z Z hZ;obtain ⟨z',Z',hk',hw,_⟩:=hent x hx;have:z'=z:=qi (hk'.symm.trans hk);subst this;exact List.mem_map.2 ⟨x,hx,by simp only [Function.comp,hrg x hx z' hk hw];rfl⟩
 ·have hp:=(WideShapes.sorted_perm (es.toList.map (WideElems.rg Tryz.prog 3 (fun _=>some ((.nil:DataW Unit),[]))))).map (fun p=>_root_.Go.intOf p.1);show ((List.foldr DataW.insert [] _).map (fun p=>_root_.Go.intOf p.1)).Nodup;rw [hp.nodup_iff,List.map_map];have hpw:=((stamped_iff es clock).1 hs).2.2;refine List.pairwise_map.2 (List.Pairwise.imp_of_mem ?_ hpw);intro x y hx hy hne e;obtain ⟨z1,Z1,hk1,hw1,_⟩:=hent x hx;obtain ⟨z2,Z2,hk2,hw2,_⟩:=hent y hy;simp only [Function.comp,hrg x hx z1 hk1 hw1,hrg y hy z2 hk2 hw2] at e;have:z1=z2:=e;exact hne (by rw [hk1,hk2,this])
 show (List.foldr DataW.insert [] _).length<=n;rw [length_sorted];simpa using hsz
theorem Bc (mb:Option Nat) (w:World):Hz 117 #[.map mb] w fun e w'=>e=.returned (.func (.func 140) #[] #[.pointer (some ⟨w.heap.size,0,none⟩)])/\w'=w.alloc (.cells #[.map mb] 133) :=
 (callsIn_wide (n:=5)).1 (AnyZI.keys_in Tryz.keysA Fence.wide 5 trivial rfl mb w)
theorem sorts (m:Nat):AnyZI.SortsIn Tryz.prog Tryz.sortedA_ren Fence.wide m :=
 ⟨fun blk off cap ss W hH hblk hsz=>callsIn_wide.2 (AnyM.slices_Sort_int Tryz.sortA blk off cap ss W hH hblk hsz),
  fun p cap W=>callsIn_wide.2 (AnyM.slices_Sort_int_none Tryz.sortA p cap W)⟩
theorem xh (b n:Nat) (M:Int->Option (Nat->Int)) (L:List Int) (hn:n<=1048576) (hL:L.Pairwise (·<·)) (hm:∀ z,z ∈ L↔(M z).isSome=true) (w:World) (h:Wm w b n M) :
 Hz 116 #[.func (.func 140) #[] #[.pointer (some ⟨w.heap.size,0,none⟩)]] (w.alloc (.cells #[.map (some b)] 133)) fun e w'=>(∃ v,e=.returned v/\w'.ownsRow (w.heap.size+1) 3 1 v L.length (L.map encZ))/\Below (w.heap.size+1) (w.alloc (.cells #[.map (some b)] 133)) w':=by
 obtain ⟨D0,hown,hk,hnd,hsz⟩:=h.own (Hq hn (by decide));have hbl:=hown.lt;have hseq:SeqGives Fence.wide 2 Tryz.prog 140 #[.pointer (some ⟨w.heap.size,0,none⟩)] encZ (fun ss=>ss.Perm (intKeys D0)) (Maps.size D0) (w.alloc (.cells #[.map (some b)] 133)) :=
  AnyZI.keys_gives (ρ:=Tryz.keysA_ren) { Tryz.keysA with } Fence.wide _ trivial rfl (by omega) w.heap.size b n D0 _ (by simp) (by simp) (by
   obtain ⟨es,clock,hb,Ft,hs,hD⟩:=hown
   exact ⟨es,clock,(Below.heap_alloc _ _ b hbl).trans hb,Ft,hs,hD⟩)
 have cS:=AnyZI.sorted_in Tryz.sortedA Fence.wide 5 trivial trivial trivial trivial rfl (by omega) (sorts _) (enters_of Tryz.func139 (by kernel_rfl) rfl) 140 #[.pointer (some ⟨w.heap.size,0,none⟩)] trivial (enters_of Tryz.func140 (by kernel_rfl) rfl) _ _ (Hq (Hq hsz hn) (by decide)) (by omega) _ hseq;change CallsIn _ _ Tryz.prog 116 _ _ _ at cS;refine ((callsIn_wide (n:=5)).1 cS).mono ?_;rintro e w' ⟨v,ss,rfl,hS,hrow,hnil,hb⟩;have hnds:(ss.mergeSort (fun x y=>decide (x<=y))).Nodup:=((List.mergeSort_perm ss _).trans hS).nodup_iff.2 hnd;have hsrt:(ss.mergeSort (fun x y=>decide (x<=y))).Pairwise (fun x y=>decide (x<=y)=true):=List.pairwise_mergeSort (by simp;omega) (by simp;omega) ss;have heq:ss.mergeSort (fun x y=>decide (x<=y))=L:=BH ((hsrt.and hnds).imp (fun h=>by simp at h;omega)) hL (fun z=>by rw [((List.mergeSort_perm ss _).trans hS).mem_iff,hk z,hm z]);have hlen:ss.length=L.length:=by rw [<-heq,List.length_mergeSort]
 rw [heq,hlen] at hrow;rw [World.size_alloc] at hrow hb;exact ⟨⟨v,rfl,hrow⟩,hb⟩
open Go.Deep
theorem gb {w w':World} (h:Below w.heap.size w w'):w.grownBy w' none:=⟨h.os,h.tape,h.output,h.size,fun k hk _=>h.block k hk⟩
theorem Wm.wf {w:World} {b n:Nat} {M:Int->Option (Nat->Int)} (h:Wm w b n M) {z:Int} (hz:(M z).isSome=true):(Lit.int .i64 z).wf=true:=by
 obtain ⟨es,clock,hb,hs,hn,hent,hno⟩:=h;obtain ⟨Y,hY⟩:=Option.isSome_iff_exists.1 hz;obtain ⟨x,hx,hk⟩:=hno z Y hY;obtain ⟨z',Z',hk',hw,_⟩:=hent x hx;have:z'=z:=qi (hk'.symm.trans hk);subst this;exact hw
theorem GR (b n:Nat) (M:Int->Option (Nat->Int)) (L:List Int) (Z:Nat->Nat->Int) (hn:n<=1048576) (hL:L.Pairwise (·<·)) (hm:∀ z,z ∈ L↔(M z).isSome=true) (hZ0:∀ k,k<L.length->Z k=(M L[k]!).getD fun _=>0) (hln:L.length<=1048576) (w:World) (h:Wm w b n M) :
 Hz 90 #[.map (some b)] w fun e w'=>(∃ v g,e=.returned v/\RW w.heap.size w'.heap.size w' v L.length Z g)/\Below w.heap.size w w':=by
 obtain ⟨D,hown,_,_,hszD⟩:=h.own (Hq hn (by decide));have hlen:=hown.len Tryz.underlying133 3;have hbl:=h.lt;have HW:bY (Wm w b n M):=h;have HL:bY (L.Pairwise (·<·)):=hL;have HM:bY (∀ z,z ∈ L↔(M z).isSome=true):=hm;have HZ:bY (∀ k,k<L.length->Z k=(M L[k]!).getD fun _=>0):=hZ0;generalize Maps.size D=m at *;obtain ⟨i5,hi5,hz50,hz51,hz52⟩:=info_parts Tryz.Jl;obtain ⟨w1,hmk,hrow1,hg1⟩:=run_make_own (P:=Tryz.prog) w w.heap.size 33 67 i5 _ 5 Tryz.underlying33 hi5 hz50 hz51 .i64 .i64 m (by rw [hz52];omega) (by unfold maxLen;omega) (Ho _);have hb1:Below w.heap.size w w1:=⟨hg1.os,hg1.tape,hg1.output,hg1.size,fun k hk=>hg1.block k hk (by simp)⟩;have hz1:w.heap.size<w1.heap.size:=(hrow1.lt w.heap.size rfl).2;clear hown h hL hm hZ0 hg1;go_enter Tryz.func90,Tryz.ntmps90;go_wp2_with fail;clear hlen hmk;refine (Bc _ _).mono ?_;rintro e w2 ⟨rfl,rfl⟩;go_wp2_with fail;refine (xh b n M L hn HL.o HM.o w1 (HW.o.q hbl hb1)).mono ?_;rintro e w3 ⟨⟨v3,rfl,hrow3⟩,hb3⟩;obtain ⟨a3,c3,gk,e3,hgk,hck⟩:∃ a c gk,v3=.slice a L.length c/\((a=some (zA gk 0)/\w1.heap.size<gk)∨L.length=0)/\∀ j,j<L.length->w3.cell? (zA gk j)=some (zI L[j]!)/\gk<w3.heap.size:=by
  rcases hrow3.2 with ⟨e,h0⟩ | ⟨g,cap,cur,e,hbg,hcur,hle⟩
  ·exact ⟨none,0,0,by rw [e,h0],.inr h0,fun j hj=>absurd hj (by omega)⟩
  refine ⟨_,cap,g,e,.inl ⟨rfl,by omega⟩,fun j hj=>⟨?_,(Array.getElem?_eq_some_iff.1 hcur).1⟩⟩;have:=hrow3.cells (g:=g) (by rw [e];rfl) j (zI L[j]!) (by simp [hj,encZ]);rw [iR,Nat.zero_add] at this;exact this
 subst e3;have hb3':Below w.heap.size w w3:=hb1.trans ((((Hr _ w1).alloc (Ho _) _).trans (hb3.mono (by omega))).mono (by omega));have hr3:w3.ownsRow w.heap.size 67 5 (zS w.heap.size 0 m) 0 []:=hrow1.kept (gb (((Hr _ w1).alloc (Ho _) _).trans (hb3.mono (by omega)))) (by simp [Value.ownBlock]);have HB3:bY (Below w.heap.size w w3):=hb3';have HR3:bY (w3.ownsRow w.heap.size 67 5 (zS w.heap.size 0 m) 0 []):=hr3;have HCK:bY (∀ j,j<L.length->w3.cell? (zA gk j)=some (zI L[j]!)/\gk<w3.heap.size):=hck;have hz3:w1.heap.size<=w3.heap.size:=by have:=hb3.size;simp at this;omega
 clear hb3' hr3 hck hb3 hrow3 hrow1 hb1;go_wp2_with fail;go_loopw [3,13] (fun s i wr=>∃ (k:Nat) (v:Value),k<=L.length/\zI k=i/\v=s/\wr.ownsRow w.heap.size 67 5 v k ((List.range k).flatMap (aP Z))/\w3.heap.size<=wr.heap.size/\Below w.heap.size w wr/\(∀ j,j<L.length->wr.cell? (zA gk j)=some (zI L[j]!)/\gk<wr.heap.size/\¬ v.ownBlock=some gk)) (fun _ i _=>L.length - (intOf i).toNat)
 case atStart=>exact ⟨0,_,Nat.zero_le _,rfl,rfl,HR3.o,Ho _,HB3.o,fun j hj=>⟨(HCK.o j hj).1,(HCK.o j hj).2,by rcases hgk with h | h;simp [Value.ownBlock];omega;omega⟩⟩
 case round =>
  obtain ⟨k,v,hk,rfl,rfl,ho,hsz,hbel,hks⟩:=hrel;have HK:bY (∀ j,j<L.length->wr.cell? (zA gk j)=some (zI L[j]!)/\gk<wr.heap.size/\¬ v.ownBlock=some gk):=hks;have HBL:bY (Below w.heap.size w wr):=hbel;clear hks hbel;by_cases hkn:k<L.length
  ·have hkn':(k:Int)<(L.length:Int):=by omega
   obtain ⟨rfl,hg2⟩:a3=some (zA gk 0)/\w1.heap.size<gk:=by rcases hgk with h | h;exact h;omega
   have ck:wr.cell? (zA gk k)=some (zI L[k]!):=(HK.o k hkn).1;have lgk:gk<wr.heap.size:=(HK.o k hkn).2.1;have hMs:(M L[k]!).isSome=true:=(HM.o _).1 (by simp [hkn]);have hl:(Instr.lookup 133 (.map (some b)) (zI L[k]!) false).run Tryz.prog wr=.ok (.agg (zF (Z k)).toArray) wr:=by
    rw [(HW.o.q hbl HBL.o).look1 (HW.o.wf hMs),<-HZ.o k hkn];rfl
   obtain ⟨va,vl,vc,ev⟩:∃ a l c,v=.slice a l c:=by rcases ho.2 with ⟨e,_⟩ | ⟨g,cap,cur,hv,_⟩;exact ⟨_,_,_,e⟩;exact ⟨_,_,_,hv⟩
   subst ev;clear hMs;generalize hq:L[k]! = qk at *;clear hq;go_wp2_with (at_builtin;refine wpList_append_own_at _ rfl _ _ 33 rfl w.heap.size 67 i5 (.agg z5.toArray) 5 40 Tryz.underlying33 hi5 hz50 hz51 hz52 rfl (by decide) _ _ _ rfl (ho.alloc _) (zA wr.heap.size 0) 1 1 (aP Z k) rfl rfl ?d1 ?d2 ?d3 ?d4 ?d5 ?_)
   case d1 =>
    intro j u hj;match j,hj with
    | 0,hj=>simp [aP] at hj;subst hj;simp
    | 1,hj=>simp [aP] at hj;subst hj;simp
    | 2,hj=>simp [aP] at hj;subst hj;simp
    | 3,hj=>simp [aP] at hj;subst hj;simp
    | 4,hj=>simp [aP] at hj;subst hj;simp
    | j+5,hj=>simp [aP] at hj
   case d2=>intro u hu;simp [aP] at hu;rcases hu with rfl | rfl | rfl | rfl | rfl <;> rfl
   case d3=>unfold maxLen;omega
   case d4=>omega
   case d5=>have:=HBL.o.size;simp;omega
   ·intro v' w5 hown' hgrow hnil hloc;have hall:=(World.grownBy_alloc wr _ _).trans hgrow;have HO:bY (w5.ownsRow w.heap.size 67 5 v' (k+1) ((List.range (k+1)).flatMap (aP Z))):=by
     unfold bY;rw [List.range_succ,List.flatMap_append];simpa using hown'
    have hs5:w3.heap.size<=w5.heap.size:=Hq hsz hall.size;have hb5:bY (Below w.heap.size w w5):=HBL.o.grown hall HBL.o.size (fun kk e=>(ho.lt kk e).1);have HK5:bY (∀ j,j<L.length->w5.cell? (zA gk j)=some (zI L[j]!)/\gk<w5.heap.size/\¬ v'.ownBlock=some gk):=fun j hj=>by
     obtain ⟨h1,h2,h3⟩:=HK.o j hj;refine ⟨((bG hall (b:=gk) h2 (fun e=>h3 e.symm)) j).1.trans h1,Hg h2 hall.size,?_⟩;rcases hloc with h | h
     ·rw [h];exact h3
     intro e;rw [h] at e;simp at e;omega
    clear hown' hgrow hnil hall hloc ho HK HBL ck lgk hl;go_wp2;go_roundw
    case rel=>exact ⟨k+1,_,by omega,by go_num,rfl,HO.o,hs5,hb5.o,HK5.o⟩
    case measure=>simp [intOf];omega
  have hkn':k=L.length:=by omega
  subst hkn';obtain ⟨g,hRW,_⟩:=gZ ho;go_wp2;go_ret;exact ⟨⟨_,g,rfl,hRW⟩,HBL.o⟩
def CV.with (V:CV) (n:Nat) (Z:Nat->Nat->Int):CV:={ V with nW:=n,W:=Z }
theorem Bo (c d:Int) (s b:Nat) (lo:Lo) (V:CV) (n:Nat) (M:Int->Option (Nat->Int)) (L:List Int) (Z:Nat->Nat->Int) (hn:n<=1048576) (hL:L.Pairwise (·<·)) (hm:∀ z,z ∈ L↔(M z).isSome=true) (hZ0:∀ k,k<L.length->Z k=(M L[k]!).getD fun _=>0) (hln:L.length<=1048576) (w:World) (h:Sc w c d s b lo V n M) :
 Hz 59 #[zP s 0] w fun e w'=>(∃ v,e=.returned v/\aV lo.l w'.heap.size w' v (V.with L.length Z))/\Below lo.l w w':=by
 obtain ⟨aW,kW,kO,aX,kX,aI,kI,gW,gO,gX,gI,sl,xs,hN,rW,rX,rI,hO,hM,⟨l1,l2,l3,l4,l5,l6,l7,l8⟩,hd,hx1,hx2,hkk⟩:=h;have hlo:lo.l<=w.heap.size:=by omega
 have NI:bY (qH w s [zI c,zI d,zI V.c,.slice aW V.nW kW,zI V.g,zS gO V.nO kO,.slice aX V.nX kX,.slice aI V.nI kI,.map (some b)]):=hN;have RXH:bY (RI lo.l w.heap.size w (.slice aX V.nX kX) V.nX V.X gX):=rX;have RIH:bY (RI lo.l w.heap.size w (.slice aI V.nI kI) V.nI V.I gI):=rI;have OH:bY (∀ k,k<V.nO->w.cell? (zA gO k)=some (sl k)/\w.frozen? (zA gO k)=false/\jT lo.l w.heap.size w (sl k) (V.N k) (V.O k) (xs k)):=hO;have MH:bY (Wm w b n M):=hM;have DH:bY _:=hd;have X1:bY _:=hx1;have X2:bY _:=hx2;have n8:w.cell? (zA s 8)=some (.map (some b)):=(hN 8 (by decide)).1;clear hN rW rX rI hO hM hd hx1 hx2;go_enter Tryz.func59,Tryz.ntmps59;go_wp2_with fail;obtain ⟨w0,e0⟩:∃ w0,w0=w.alloc (.cells zN.toArray 36):=⟨_,rfl⟩;have hb0:Below w.heap.size w w0:=by rw [e0];exact (Hr _ _).alloc (Ho _) _
 have R0:bY (Six w0 w.heap.size zN):=by rw [e0];exact fM w 36 (zI 0) (.slice none 0 0) (zI 0) (.slice none 0 0) (.slice none 0 0) (.slice none 0 0)
 have z0:w.heap.size+1<=w0.heap.size:=by rw [e0];simp
 rw [<-e0];clear e0 n8;refine (GR b n M L Z hn hL hm hZ0 hln w0 (MH.o.q MH.o.lt hb0)).mono ?_;rintro e w1 ⟨⟨v,g,rfl,hRW⟩,hb1⟩;obtain ⟨ua,uc,rfl,hua⟩:=hRW.is;have HRW:bY (RW w0.heap.size w1.heap.size w1 (.slice ua L.length uc) L.length Z g):=hRW;have B1:bY (Below w.heap.size w w1):=ah hb0 hb1;have N1:bY (qH w1 s [zI c,zI d,zI V.c,.slice aW V.nW kW,zI V.g,zS gO V.nO kO,.slice aX V.nX kX,.slice aI V.nI kI,.map (some b)]):=NI.o.sm (aj B1.o l4);have R1:=fQ (R0.o.q (by omega) hb1);have z1:w0.heap.size<=w1.heap.size:=hb1.size;clear hRW hb1 hb0 hua NI R0;have n2:w1.cell? (zA s 2)=some (zI V.c):=(N1.o 2 (by decide)).1;have n3:w1.cell? (zA s 3)=some (.slice aW V.nW kW):=(N1.o 3 (by decide)).1;have n4:w1.cell? (zA s 4)=some (zI V.g):=(N1.o 4 (by decide)).1;have n5:w1.cell? (zA s 5)=some (zS gO V.nO kO):=(N1.o 5 (by decide)).1;have n6:w1.cell? (zA s 6)=some (.slice aX V.nX kX):=(N1.o 6 (by decide)).1;have n7:w1.cell? (zA s 7)=some (.slice aI V.nI kI):=(N1.o 7 (by decide)).1;have n8:w1.cell? (zA s 8)=some (.map (some b)):=(N1.o 8 (by decide)).1;have f3:w1.frozen? (zA s 3)=false:=(N1.o 3 (by decide)).2;obtain ⟨r0,r1,r2,r3,r4,r5⟩:=R1.o.a6;have q0:=R1.o.f6;have ls:s<w1.heap.size:=by omega
 have lr:w.heap.size<w1.heap.size:=by omega
 have hsr:¬ s=w.heap.size:=by omega
 go_wp2;refine Hw (v:=.agg #[zI V.c,.slice ua L.length uc,zI V.g,zS gO V.nO kO,.slice aX V.nX kX,.slice aI V.nI kI]) (by simp [results,Tryz.results59,go_sem,r0,r1,r2,r3,r4,r5]) rfl ?_;have hS:∀ x,¬ s=x->¬ w.heap.size=x->Sm w1 (aG (w1.setCell (zA s 3) (.slice ua L.length uc)) w.heap.size (zI V.c) (.slice ua L.length uc) (zI V.g) (zS gO V.nO kO) (.slice aX V.nX kX) (.slice aI V.nI kI)) x:=fun x h1 h2=>Sm.trans (fun o=>⟨aJ (fun e=>h1 e.1),aB⟩) (aH h2 (zI V.c) (.slice ua L.length uc) (zI V.g) (zS gO V.nO kO) (.slice aX V.nX kX) (.slice aI V.nI kI));have hzz:(aG (w1.setCell (zA s 3) (.slice ua L.length uc)) w.heap.size (zI V.c) (.slice ua L.length uc) (zI V.g) (zS gO V.nO kO) (.slice aX V.nX kX) (.slice aI V.nI kI)).heap.size=w1.heap.size:=(au (w1.setCell (zA s 3) (.slice ua L.length uc)) w.heap.size (zI V.c) (.slice ua L.length uc) (zI V.g) (zS gO V.nO kO) (.slice aX V.nX kX) (.slice aI V.nI kI)).trans ay;have hbb:Below lo.l w (aG (w1.setCell (zA s 3) (.slice ua L.length uc)) w.heap.size (zI V.c) (.slice ua L.length uc) (zI V.g) (zS gO V.nO kO) (.slice aX V.nX kX) (.slice aI V.nI kI)):=ax ((B1.o.mono hlo).setCell l3 _) hlo (zI V.c) (.slice ua L.length uc) (zI V.g) (zS gO V.nO kO) (.slice aX V.nX kX) (.slice aI V.nI kI);refine ⟨⟨_,rfl,?_⟩,hbb⟩;show aV lo.l (aG (w1.setCell (zA s 3) (.slice ua L.length uc)) w.heap.size (zI V.c) (.slice ua L.length uc) (zI V.g) (zS gO V.nO kO) (.slice aX V.nX kX) (.slice aI V.nI kI)).heap.size (aG (w1.setCell (zA s 3) (.slice ua L.length uc)) w.heap.size (zI V.c) (.slice ua L.length uc) (zI V.g) (zS gO V.nO kO) (.slice aX V.nX kX) (.slice aI V.nI kI)) _ _;rw [hzz];have hSw:∀ x,x<w.heap.size->¬ s=x->Sm w (aG (w1.setCell (zA s 3) (.slice ua L.length uc)) w.heap.size (zI V.c) (.slice ua L.length uc) (zI V.g) (zS gO V.nO kO) (.slice aX V.nX kX) (.slice aI V.nI kI)) x:=fun x h1 h2=>(aj B1.o h1).trans (hS x h2 (by omega));obtain ⟨d1,d2,d3,d4,d5,d6⟩:=DH.o;have inX:=fun e=>RXH.o.in e;have inI:=fun e=>RIH.o.in e;have inP:=fun k hk e=>(OH.o k hk).2.2.in e;have inG:=fun e=>HRW.o.in e;exact jL (V:=V.with L.length Z) (gW:=g) (gO:=gO) (gX:=gX) (gI:=gI) (sl:=sl) (xs:=xs) (HRW.o.go (by omega) (Ho _) (Hl hzz.symm) (fun _ h1 h2=>hS g (by omega) (by omega))) l1 (by omega) (Hl hzz.symm)
  (fun k hk=>⟨(hSw gO l2 (fun e=>l7 e.symm) k).1.trans (OH.o k hk).1,((OH.o k hk).2.2.go (Ho _) (by omega) (Hl hzz.symm) (fun e _ h=>hSw _ h (fun h'=>(X1.o k hk e).1.1 h'.symm))).1⟩)
  (RXH.o.go (Ho _) (by omega) (Hl hzz.symm) (fun e _ h=>hSw _ h (fun h'=>(d2 e).1 h'.symm))) (RIH.o.go (Ho _) (by omega) (Hl hzz.symm) (fun e _ h=>hSw _ h (fun h'=>(d3 e).1 h'.symm)))
  (fun e=>by have:=inG e;omega) (fun e e2=>by have:=inG e;have:=inX e2;omega) (fun e e2=>by have:=inG e;have:=inI e2;omega) (fun e=>(d2 e).2.2) (fun e=>(d3 e).2.2) d6
  (fun k hk e=>⟨fun e2=>by have:=inG e2;have:=inP k hk e;omega,(X1.o k hk e).1.2.2,(X1.o k hk e).2.2.1,(X1.o k hk e).2.2.2⟩) (fun i j hij hj n1 n2=>X2.o i j hij hj n1 n2)
theorem bJ {n:Nat} {a b c:World} (h:Below n a b) (hn:n<=a.heap.size) (k:Below b.heap.size b c):Below n a c:=h.trans (k.mono (Hq hn h.size))
theorem iZ {n:Nat} {W w1:World} (hb:Below n W w1):(∀ b o,b<n->w1.cell? (zA b o)=W.cell? (zA b o))/\(∀ b o,b<n->w1.frozen? (zA b o)=W.frozen? (zA b o)) :=
 ⟨fun b o h=>hb.cell (p:=(zA b o)) h,fun b o h=>hb.frozen (p:=(zA b o)) h⟩
def Bk (W:World) (b:Nat) (l:List Value):Prop:=b<W.heap.size/\∀ i,i<l.length->W.cell? (zA b i)=some (l.getD i undef)/\W.frozen? (zA b i)=false
theorem Bk.a2 {W:World} {b:Nat} {v0 v1:Value} (h:Bk W b [v0,v1]):W.cell? (zA b 0)=some v0/\W.cell? (zA b 1)=some v1:=⟨(h.2 0 (by simp)).1,(h.2 1 (by simp)).1⟩
theorem Bk.f2 {W:World} {b:Nat} {v0 v1:Value} (h:Bk W b [v0,v1]):W.frozen? (zA b 0)=false/\W.frozen? (zA b 1)=false:=⟨(h.2 0 (by simp)).2,(h.2 1 (by simp)).2⟩
theorem Bk.a5 {W:World} {b:Nat} {v0 v1 v2 v3 v4:Value} (h:Bk W b [v0,v1,v2,v3,v4]):W.cell? (zA b 0)=some v0/\W.cell? (zA b 1)=some v1/\W.cell? (zA b 2)=some v2/\W.cell? (zA b 3)=some v3/\W.cell? (zA b 4)=some v4:=⟨(h.2 0 (by simp)).1,(h.2 1 (by simp)).1,(h.2 2 (by simp)).1,(h.2 3 (by simp)).1,(h.2 4 (by simp)).1⟩
theorem Bk.f5 {W:World} {b:Nat} {v0 v1 v2 v3 v4:Value} (h:Bk W b [v0,v1,v2,v3,v4]):W.frozen? (zA b 0)=false/\W.frozen? (zA b 1)=false/\W.frozen? (zA b 2)=false/\W.frozen? (zA b 3)=false/\W.frozen? (zA b 4)=false:=⟨(h.2 0 (by simp)).2,(h.2 1 (by simp)).2,(h.2 2 (by simp)).2,(h.2 3 (by simp)).2,(h.2 4 (by simp)).2⟩
theorem Bk.a6 {W:World} {b:Nat} {v0 v1 v2 v3 v4 v5:Value} (h:Bk W b [v0,v1,v2,v3,v4,v5]):W.cell? (zA b 0)=some v0/\W.cell? (zA b 1)=some v1/\W.cell? (zA b 2)=some v2/\W.cell? (zA b 3)=some v3/\W.cell? (zA b 4)=some v4/\W.cell? (zA b 5)=some v5:=⟨(h.2 0 (by simp)).1,(h.2 1 (by simp)).1,(h.2 2 (by simp)).1,(h.2 3 (by simp)).1,(h.2 4 (by simp)).1,(h.2 5 (by simp)).1⟩
theorem Bk.f6 {W:World} {b:Nat} {v0 v1 v2 v3 v4 v5:Value} (h:Bk W b [v0,v1,v2,v3,v4,v5]):W.frozen? (zA b 0)=false/\W.frozen? (zA b 1)=false/\W.frozen? (zA b 2)=false/\W.frozen? (zA b 3)=false/\W.frozen? (zA b 4)=false/\W.frozen? (zA b 5)=false:=⟨(h.2 0 (by simp)).2,(h.2 1 (by simp)).2,(h.2 2 (by simp)).2,(h.2 3 (by simp)).2,(h.2 4 (by simp)).2,(h.2 5 (by simp)).2⟩
theorem Bk.a8 {W:World} {b:Nat} {v0 v1 v2 v3 v4 v5 v6 v7:Value} (h:Bk W b [v0,v1,v2,v3,v4,v5,v6,v7]):W.cell? (zA b 0)=some v0/\W.cell? (zA b 1)=some v1/\W.cell? (zA b 2)=some v2/\W.cell? (zA b 3)=some v3/\W.cell? (zA b 4)=some v4/\W.cell? (zA b 5)=some v5/\W.cell? (zA b 6)=some v6/\W.cell? (zA b 7)=some v7:=⟨(h.2 0 (by simp)).1,(h.2 1 (by simp)).1,(h.2 2 (by simp)).1,(h.2 3 (by simp)).1,(h.2 4 (by simp)).1,(h.2 5 (by simp)).1,(h.2 6 (by simp)).1,(h.2 7 (by simp)).1⟩
theorem Bk.f8 {W:World} {b:Nat} {v0 v1 v2 v3 v4 v5 v6 v7:Value} (h:Bk W b [v0,v1,v2,v3,v4,v5,v6,v7]):W.frozen? (zA b 0)=false/\W.frozen? (zA b 1)=false/\W.frozen? (zA b 2)=false/\W.frozen? (zA b 3)=false/\W.frozen? (zA b 4)=false/\W.frozen? (zA b 5)=false/\W.frozen? (zA b 6)=false/\W.frozen? (zA b 7)=false:=⟨(h.2 0 (by simp)).2,(h.2 1 (by simp)).2,(h.2 2 (by simp)).2,(h.2 3 (by simp)).2,(h.2 4 (by simp)).2,(h.2 5 (by simp)).2,(h.2 6 (by simp)).2,(h.2 7 (by simp)).2⟩
theorem Bk.a9 {W:World} {b:Nat} {v0 v1 v2 v3 v4 v5 v6 v7 v8:Value} (h:Bk W b [v0,v1,v2,v3,v4,v5,v6,v7,v8]):W.cell? (zA b 0)=some v0/\W.cell? (zA b 1)=some v1/\W.cell? (zA b 2)=some v2/\W.cell? (zA b 3)=some v3/\W.cell? (zA b 4)=some v4/\W.cell? (zA b 5)=some v5/\W.cell? (zA b 6)=some v6/\W.cell? (zA b 7)=some v7/\W.cell? (zA b 8)=some v8:=⟨(h.2 0 (by simp)).1,(h.2 1 (by simp)).1,(h.2 2 (by simp)).1,(h.2 3 (by simp)).1,(h.2 4 (by simp)).1,(h.2 5 (by simp)).1,(h.2 6 (by simp)).1,(h.2 7 (by simp)).1,(h.2 8 (by simp)).1⟩
theorem Bk.f9 {W:World} {b:Nat} {v0 v1 v2 v3 v4 v5 v6 v7 v8:Value} (h:Bk W b [v0,v1,v2,v3,v4,v5,v6,v7,v8]):W.frozen? (zA b 0)=false/\W.frozen? (zA b 1)=false/\W.frozen? (zA b 2)=false/\W.frozen? (zA b 3)=false/\W.frozen? (zA b 4)=false/\W.frozen? (zA b 5)=false/\W.frozen? (zA b 6)=false/\W.frozen? (zA b 7)=false/\W.frozen? (zA b 8)=false:=⟨(h.2 0 (by simp)).2,(h.2 1 (by simp)).2,(h.2 2 (by simp)).2,(h.2 3 (by simp)).2,(h.2 4 (by simp)).2,(h.2 5 (by simp)).2,(h.2 6 (by simp)).2,(h.2 7 (by simp)).2,(h.2 8 (by simp)).2⟩
theorem Bk.a16 {W:World} {b:Nat} {v0 v1 v2 v3 v4 v5 v6 v7 v8 v9 v10 v11 v12 v13 v14 v15:Value} (h:Bk W b [v0,v1,v2,v3,v4,v5,v6,v7,v8,v9,v10,v11,v12,v13,v14,v15]):W.cell? (zA b 0)=some v0/\W.cell? (zA b 1)=some v1/\W.cell? (zA b 2)=some v2/\W.cell? (zA b 3)=some v3/\W.cell? (zA b 4)=some v4/\W.cell? (zA b 5)=some v5/\W.cell? (zA b 6)=some v6/\W.cell? (zA b 7)=some v7/\W.cell? (zA b 8)=some v8/\W.cell? (zA b 9)=some v9/\W.cell? (zA b 10)=some v10/\W.cell? (zA b 11)=some v11/\W.cell? (zA b 12)=some v12/\W.cell? (zA b 13)=some v13/\W.cell? (zA b 14)=some v14/\W.cell? (zA b 15)=some v15:=⟨(h.2 0 (by simp)).1,(h.2 1 (by simp)).1,(h.2 2 (by simp)).1,(h.2 3 (by simp)).1,(h.2 4 (by simp)).1,(h.2 5 (by simp)).1,(h.2 6 (by simp)).1,(h.2 7 (by simp)).1,(h.2 8 (by simp)).1,(h.2 9 (by simp)).1,(h.2 10 (by simp)).1,(h.2 11 (by simp)).1,(h.2 12 (by simp)).1,(h.2 13 (by simp)).1,(h.2 14 (by simp)).1,(h.2 15 (by simp)).1⟩
theorem Bk.f16 {W:World} {b:Nat} {v0 v1 v2 v3 v4 v5 v6 v7 v8 v9 v10 v11 v12 v13 v14 v15:Value} (h:Bk W b [v0,v1,v2,v3,v4,v5,v6,v7,v8,v9,v10,v11,v12,v13,v14,v15]):W.frozen? (zA b 0)=false/\W.frozen? (zA b 1)=false/\W.frozen? (zA b 2)=false/\W.frozen? (zA b 3)=false/\W.frozen? (zA b 4)=false/\W.frozen? (zA b 5)=false/\W.frozen? (zA b 6)=false/\W.frozen? (zA b 7)=false/\W.frozen? (zA b 8)=false/\W.frozen? (zA b 9)=false/\W.frozen? (zA b 10)=false/\W.frozen? (zA b 11)=false/\W.frozen? (zA b 12)=false/\W.frozen? (zA b 13)=false/\W.frozen? (zA b 14)=false/\W.frozen? (zA b 15)=false:=⟨(h.2 0 (by simp)).2,(h.2 1 (by simp)).2,(h.2 2 (by simp)).2,(h.2 3 (by simp)).2,(h.2 4 (by simp)).2,(h.2 5 (by simp)).2,(h.2 6 (by simp)).2,(h.2 7 (by simp)).2,(h.2 8 (by simp)).2,(h.2 9 (by simp)).2,(h.2 10 (by simp)).2,(h.2 11 (by simp)).2,(h.2 12 (by simp)).2,(h.2 13 (by simp)).2,(h.2 14 (by simp)).2,(h.2 15 (by simp)).2⟩
theorem Bk.q {W W':World} {b:Nat} {l:List Value} (h:Bk W b l) (k:Below W.heap.size W W'):Bk W' b l:=⟨Hg h.1 k.size,fun i hi=>by
 rw [k.cell (p:=(zA b i)) h.1,k.frozen (p:=(zA b i)) h.1];exact h.2 i hi⟩
theorem Bk.far {W:World} {b g j:Nat} {l:List Value} {v:Value} (h:Bk W b l) (hn:¬ g=b):Bk (W.setCell (zA g j) v) b l:=⟨by rw [ay];exact h.1,fun i hi=>by
 rw [aJ (fun e=>hn e.1),aB];exact h.2 i hi⟩
theorem Bk.set {W:World} {b j:Nat} {l:List Value} {v:Value} (h:Bk W b l) (hj:j<l.length):Bk (W.setCell (zA b j) v) b (l.set j v):=⟨by rw [ay];exact h.1,fun i hi=>by
 rw [List.length_set] at hi
 rw [aB]
 refine ⟨?_,(h.2 i hi).2⟩
 by_cases e:j=i
 ·subst e
  rw [fP (by rw [(h.2 j hj).1];rfl)]
  simp [List.getD,hj]
 rw [aJ (fun k=>e k.2),(h.2 i hi).1]
 simp [List.getD,e]⟩
theorem aU (W:World) (t:TypeId) (l:List Value):Bk (W.alloc (.cells l.toArray t)) W.heap.size l:=⟨by simp,fun i hi=>by
 have e:l.getD i undef=l[i]:=by simp [List.getD,List.getElem?_eq_getElem hi]
 rw [e]
 exact ⟨by simp [hi],by simp⟩⟩
theorem Bk.sm {W W':World} {b:Nat} {l:List Value} (h:Bk W b l) (hz:W.heap.size<=W'.heap.size) (k:Sm W W' b):Bk W' b l :=
 ⟨Hg h.1 hz,fun i hi=>by rw [(k i).1,(k i).2];exact h.2 i hi⟩
def qg (b:Nat):List Value->Nat->World->World
 | [],_,W=>W
 | v :: l,k,W=>qg b l (k+1) (W.setCell (zA b k) v)
theorem size_put (b:Nat):∀ (l:List Value) (k:Nat) (W:World),(qg b l k W).heap.size=W.heap.size
 | [],_,_=>rfl
 | v :: l,k,W=>by rw [qg,size_put b l,ay]
theorem jQ {b c:Nat} (h:¬ c=b):∀ (l:List Value) (k:Nat) (W:World),Sm W (qg b l k W) c
 | [],_,W=>Sm.refl W c
 | v :: l,k,W=>Sm.trans (fun o=>⟨aJ (fun e=>h e.1.symm),aB⟩) (jQ h l (k+1) _)
theorem gu {n b:Nat} {A:World} (h:n<=b):∀ (l:List Value) (k:Nat) {W:World},Below n A W->Below n A (qg b l k W)
 | [],_,_,hb=>hb
 | v :: l,k,W,hb=>gu h l (k+1) (hb.setCell h v)
theorem vC {b:Nat}:∀ (l:List Value) (k:Nat) (W:World),(∀ i,i<l.length->(W.cell? (zA b (k+i))).isSome=true)->∀ i,i<l.length->(qg b l k W).cell? (zA b (k+i))=some (l.getD i undef)
 | [],_,_,_,i,hi=>absurd hi (by simp)
 | v :: l,k,W,h,i,hi=>by
  rw [qg]
  have h0:∀ (l:List Value) (m:Nat) (W:World) (j:Nat),j<m->(qg b l m W).cell? (zA b j)=W.cell? (zA b j):=by
   intro l;induction l with
   | nil=>intro m W j _;rfl
   | cons u l ih=>intro m W j hj;rw [qg,ih (m+1) _ j (by omega),aJ (by omega)]
  by_cases e:i=0
  ·subst e;show (qg b l (k+1) (W.setCell (zA b k) v)).cell? (zA b k)=_;rw [h0 l (k+1) _ k (by omega),fP (by simpa using h 0 (by simp))];rfl
  obtain ⟨i,rfl⟩:∃ j,i=j+1:=⟨i - 1,by omega⟩
  have:=vC l (k+1) (W.setCell (zA b k) v) (fun j hj=>by
   rw [aJ (by omega),show k+1+j=k+(j+1) by omega];exact h (j+1) (by simpa using hj)) i (by simpa using hi)
  rw [show k+(i+1)=k+1+i by omega,this];rfl
theorem rM {b c o:Nat}:∀ (l:List Value) (k:Nat) (W:World),(qg b l k W).frozen? (zA c o)=W.frozen? (zA c o)
 | [],_,_=>rfl
 | v :: l,k,W=>by rw [qg,rM l,aB]
theorem jM {W:World} {b:Nat} {l l':List Value} (h:Bk W b l') (hl:l.length=l'.length):Bk (qg b l 0 W) b l :=
 ⟨by rw [size_put];exact h.1,fun i hi=>by
  have:=vC l 0 W (fun j hj=>by rw [Nat.zero_add,(h.2 j (by omega)).1];rfl) i hi
  rw [Nat.zero_add] at this
  exact ⟨this,by rw [rM];exact (h.2 i (by omega)).2⟩⟩
theorem bx1 (w:World) (a:List Value) (ta:TypeId):∃ y,y=(w.alloc (.cells a.toArray ta))/\Below w.heap.size w y/\Bk y (w.heap.size) a/\w.heap.size+1<=y.heap.size :=
 ⟨_,rfl,(Hr _ _).alloc (by simp) _,(by have h:=aU w ta a;exact h),by simp⟩
theorem GY (w:World) (a:List Value) (ta:TypeId) (b:List Value) (tb:TypeId):∃ y,y=((w.alloc (.cells a.toArray ta)).alloc (.cells b.toArray tb))/\Below w.heap.size w y/\Bk y (w.heap.size) a/\Bk y (w.heap.size+1) b/\w.heap.size+2<=y.heap.size :=
 ⟨_,rfl,((Hr _ _).alloc (by simp) _).alloc (by simp) _,(by have h:=aU w ta a;exact (h).q ((Hr _ _).alloc (Ho _) _)),(by have h:=aU (w.alloc (.cells a.toArray ta)) tb b;rw [World.size_alloc] at h;exact h),by simp⟩
theorem FZ (w:World) (a:List Value) (ta:TypeId) (b:List Value) (tb:TypeId) (c:List Value) (tc:TypeId):∃ y,y=(((w.alloc (.cells a.toArray ta)).alloc (.cells b.toArray tb)).alloc (.cells c.toArray tc))/\Below w.heap.size w y/\Bk y (w.heap.size) a/\Bk y (w.heap.size+1) b/\Bk y (w.heap.size+1+1) c/\w.heap.size+3<=y.heap.size :=
 ⟨_,rfl,(((Hr _ _).alloc (by simp) _).alloc (by simp) _).alloc (by simp;omega) _,(by have h:=aU w ta a;exact ((h).q ((Hr _ _).alloc (Ho _) _)).q ((Hr _ _).alloc (Ho _) _)),(by have h:=aU (w.alloc (.cells a.toArray ta)) tb b;rw [World.size_alloc] at h;exact (h).q ((Hr _ _).alloc (Ho _) _)),(by have h:=aU ((w.alloc (.cells a.toArray ta)).alloc (.cells b.toArray tb)) tc c;rw [World.size_alloc,World.size_alloc] at h;exact h),by simp⟩
theorem zV (w:World) (a:List Value) (ta:TypeId) (b:List Value) (tb:TypeId) (c:List Value) (tc:TypeId) (d:List Value) (td:TypeId):∃ y,y=((((w.alloc (.cells a.toArray ta)).alloc (.cells b.toArray tb)).alloc (.cells c.toArray tc)).alloc (.cells d.toArray td))/\Below w.heap.size w y/\Bk y (w.heap.size) a/\Bk y (w.heap.size+1) b/\Bk y (w.heap.size+1+1) c/\Bk y (w.heap.size+1+1+1) d/\w.heap.size+4<=y.heap.size :=
 ⟨_,rfl,((((Hr _ _).alloc (by simp) _).alloc (by simp) _).alloc (by simp;omega) _).alloc (by simp;omega) _,(by have h:=aU w ta a;exact (((h).q ((Hr _ _).alloc (Ho _) _)).q ((Hr _ _).alloc (Ho _) _)).q ((Hr _ _).alloc (Ho _) _)),(by have h:=aU (w.alloc (.cells a.toArray ta)) tb b;rw [World.size_alloc] at h;exact ((h).q ((Hr _ _).alloc (Ho _) _)).q ((Hr _ _).alloc (Ho _) _)),(by have h:=aU ((w.alloc (.cells a.toArray ta)).alloc (.cells b.toArray tb)) tc c;rw [World.size_alloc,World.size_alloc] at h;exact (h).q ((Hr _ _).alloc (Ho _) _)),(by have h:=aU (((w.alloc (.cells a.toArray ta)).alloc (.cells b.toArray tb)).alloc (.cells c.toArray tc)) td d;rw [World.size_alloc,World.size_alloc,World.size_alloc] at h;exact h),by simp⟩
theorem Gz (w:World) (a:List Value) (ta:TypeId):∃ y,y=(w.alloc (.cells a.toArray ta))/\bY (Below w.heap.size w y)/\bY (Bk y (w.heap.size) a)/\w.heap.size+1<=y.heap.size :=
 ⟨_,rfl,(Hr _ _).alloc (by simp) _,(by have h:=aU w ta a;exact h),by simp⟩
theorem EX (w:World) (a:List Value) (ta:TypeId) (b:List Value) (tb:TypeId):∃ y,y=((w.alloc (.cells a.toArray ta)).alloc (.cells b.toArray tb))/\bY (Below w.heap.size w y)/\bY (Bk y (w.heap.size) a)/\bY (Bk y (w.heap.size+1) b)/\w.heap.size+2<=y.heap.size :=
 ⟨_,rfl,((Hr _ _).alloc (by simp) _).alloc (by simp) _,(by have h:=aU w ta a;exact (h).q ((Hr _ _).alloc (Ho _) _)),(by have h:=aU (w.alloc (.cells a.toArray ta)) tb b;rw [World.size_alloc] at h;exact h),by simp⟩
theorem Ff (w:World) (a:List Value) (ta:TypeId) (b:List Value) (tb:TypeId) (c:List Value) (tc:TypeId):∃ y,y=(((w.alloc (.cells a.toArray ta)).alloc (.cells b.toArray tb)).alloc (.cells c.toArray tc))/\bY (Below w.heap.size w y)/\bY (Bk y (w.heap.size) a)/\bY (Bk y (w.heap.size+1) b)/\bY (Bk y (w.heap.size+1+1) c)/\w.heap.size+3<=y.heap.size :=
 ⟨_,rfl,(((Hr _ _).alloc (by simp) _).alloc (by simp) _).alloc (by simp;omega) _,(by have h:=aU w ta a;exact ((h).q ((Hr _ _).alloc (Ho _) _)).q ((Hr _ _).alloc (Ho _) _)),(by have h:=aU (w.alloc (.cells a.toArray ta)) tb b;rw [World.size_alloc] at h;exact (h).q ((Hr _ _).alloc (Ho _) _)),(by have h:=aU ((w.alloc (.cells a.toArray ta)).alloc (.cells b.toArray tb)) tc c;rw [World.size_alloc,World.size_alloc] at h;exact h),by simp⟩
theorem F8 (w:World) (a:List Value) (ta:TypeId) (b:List Value) (tb:TypeId) (c:List Value) (tc:TypeId) (d:List Value) (td:TypeId):∃ y,y=((((w.alloc (.cells a.toArray ta)).alloc (.cells b.toArray tb)).alloc (.cells c.toArray tc)).alloc (.cells d.toArray td))/\bY (Below w.heap.size w y)/\bY (Bk y (w.heap.size) a)/\bY (Bk y (w.heap.size+1) b)/\bY (Bk y (w.heap.size+1+1) c)/\bY (Bk y (w.heap.size+1+1+1) d)/\w.heap.size+4<=y.heap.size :=
 ⟨_,rfl,((((Hr _ _).alloc (by simp) _).alloc (by simp) _).alloc (by simp;omega) _).alloc (by simp;omega) _,(by have h:=aU w ta a;exact (((h).q ((Hr _ _).alloc (Ho _) _)).q ((Hr _ _).alloc (Ho _) _)).q ((Hr _ _).alloc (Ho _) _)),(by have h:=aU (w.alloc (.cells a.toArray ta)) tb b;rw [World.size_alloc] at h;exact ((h).q ((Hr _ _).alloc (Ho _) _)).q ((Hr _ _).alloc (Ho _) _)),(by have h:=aU ((w.alloc (.cells a.toArray ta)).alloc (.cells b.toArray tb)) tc c;rw [World.size_alloc,World.size_alloc] at h;exact (h).q ((Hr _ _).alloc (Ho _) _)),(by have h:=aU (((w.alloc (.cells a.toArray ta)).alloc (.cells b.toArray tb)).alloc (.cells c.toArray tc)) td d;rw [World.size_alloc,World.size_alloc,World.size_alloc] at h;exact h),by simp⟩
def mg (c d:Int) (V:CV) (M:Int->Option (Nat->Int)) (pk pi pa pc:Int):Bool:=if pk=2 then decide (V.g+pc<=900) else !(M pi).isSome && (aQ c d pa == V.c)
theorem oQ (c d pn pk pi pa pm ps pl pc:Int) (s b:Nat) (lo:Lo) (V:CV) (n:Nat) (M:Int->Option (Nat->Int)) (hg:0<=V.g/\V.g<=900) (hpc:0<=pc/\pc<=900) (hwf:(Lit.int .i64 pi).wf=true) (w:World) (h:Sc w c d s b lo V n M) :
 Hz 152 #[zP s 0,.agg #[zI pn,zI pk,zI pi,zI pa,zI pm,zI ps,zI pl,zI pc]] w fun e w'=>e=.returned (.bool (mg c d V M pk pi pa pc))/\Below w.heap.size w w':=by
 obtain ⟨aW,kW,kO,aX,kX,aI,kI,gW,gO,gX,gI,sl,xs,hN,rW,rX,rI,hO,hM,⟨l1,l2,l3,l4,l5,l6,l7,l8⟩,hd,hx1,hx2,hkk⟩:=h;have HN:bY (qH w s [zI c,zI d,zI V.c,.slice aW V.nW kW,zI V.g,zS gO V.nO kO,.slice aX V.nX kX,.slice aI V.nI kI,.map (some b)]):=hN;have HM:bY (Wm w b n M):=hM;have hbl:b<w.heap.size:=hM.lt;clear hN rW rX rI hO hM hd hx1 hx2;by_cases hk:pk=2
 ·have hv:mg c d V M pk pi pa pc=decide (V.g+pc<=900):=by simp [mg,hk]
  rw [hv];subst hk;go_enter Tryz.func152,Tryz.ntmps152;go_upto_region 1 with fail;obtain ⟨w0,e0,hb0,X0,-⟩:=bx1 w [zI pn,zI 2,zI pi,zI pa,zI pm,zI ps,zI pl,zI pc] 69;rw [<-e0];clear e0;have z0:=X0.1;have B1:bY (Below w.heap.size w w0):=hb0;have P2:bY (Bk w0 w.heap.size [zI pn,zI 2,zI pi,zI pa,zI pm,zI ps,zI pl,zI pc]):=X0;have M3:=fQ (HM.o.q hbl hb0);have S4:bY (Bk w0 s [zI c,zI d,zI V.c,.slice aW V.nW kW,zI V.g,zS gO V.nO kO,.slice aX V.nX kX,.slice aI V.nI kI,.map (some b)]):=⟨by omega,fun i hi=>by rw [(aj hb0 l4 i).1,(aj hb0 l4 i).2];exact HN.o i (by simpa using hi)⟩;clear X0 hb0 HM HN;have yP0:=P2.o.a8;have hlP:w.heap.size<w0.heap.size:=P2.o.1;have yS0:=S4.o.a9;have hlS:s<w0.heap.size:=S4.o.1;go_wp2;go_region;go_wp2;go_ret;exact ⟨by simp,by repeat (first | exact B1.o | apply Below.drew | apply bZ)⟩
 have hk1:(pk == 2)=false:=by simp [hk]
 have hv:mg c d V M pk pi pa pc=(!(M pi).isSome && (aQ c d pa == V.c)):=by simp [mg,hk]
 rw [hv];clear hv;obtain ⟨Y,eY⟩:∃ Y,Y=((M pi).getD fun _=>0):=⟨_,rfl⟩;obtain ⟨t,et⟩:∃ t,t=(M pi).isSome:=⟨_,rfl⟩;rw [<-et];have EY:bY (Y=((M pi).getD fun _=>0)):=eY;have ET:bY (t=(M pi).isSome):=et;clear eY et;go_enter Tryz.func152,Tryz.ntmps152;go_upto_region 1 with fail;obtain ⟨w0,e0,hb0,X0,-⟩:=bx1 w [zI pn,zI pk,zI pi,zI pa,zI pm,zI ps,zI pl,zI pc] 69;rw [<-e0];clear e0;have z0:=X0.1;have B5:bY (Below w.heap.size w w0):=hb0;have P6:bY (Bk w0 w.heap.size [zI pn,zI pk,zI pi,zI pa,zI pm,zI ps,zI pl,zI pc]):=X0;have M7:=fQ (HM.o.q hbl hb0);have S8:bY (Bk w0 s [zI c,zI d,zI V.c,.slice aW V.nW kW,zI V.g,zS gO V.nO kO,.slice aX V.nX kX,.slice aI V.nI kI,.map (some b)]):=⟨by omega,fun i hi=>by rw [(aj hb0 l4 i).1,(aj hb0 l4 i).2];exact HN.o i (by simpa using hi)⟩;clear X0 hb0 HM HN;have yP0:=P6.o.a8;have hlP:w.heap.size<w0.heap.size:=P6.o.1;have yS0:=S8.o.a9;have hlS:s<w0.heap.size:=S8.o.1;have HL:bY (∀ wx,Below w0.heap.size w0 wx->(Instr.lookup 133 (.map (some b)) (zI pi) true).run Tryz.prog wx=.ok (.tuple #[.agg (zF Y).toArray,.bool t]) wx):=fun wx hx=>by
  rw [(M7.o.q (by omega) hx).look hwf,<-EY.o,<-ET.o];rfl
 clear EY ET;go_upto_region 3 with fail;go_cut [5,6] (fun p q wx=>∃ g,zP g 0=p/\.bool t=q/\Below w0.heap.size w0 wx)
 case first =>
  refine Hu (S:=fun w'=>Below (w0.heap.size) w0 w') (by kernel_rfl) ((Hr _ _).drew) ?_;intro af;obtain ⟨X0,hX0⟩:∃ X,X=w0.drew:=⟨_,rfl⟩;have hz0:w0.heap.size<=X0.heap.size:=by rw [hX0];exact Ho _
  rw [<-hX0] at af ⊢;clear hX0;refine bF 0 (zP s 0) rfl ?_;refine bF 4 (zP w.heap.size 2) rfl ?_;refine bF 1 (zP s 0) rfl ?_;refine bF 5 (zP w.heap.size 2) rfl ?_;refine bF 2 (zP s 8) rfl ?_;refine bF 6 (zI pi) rfl ?_;refine bF 3 (.map (some b)) rfl ?_;refine dY 7 (.tuple #[.agg (zF Y).toArray,.bool t]) rfl ?_ ?_
  ·intro wx hSw;obtain ⟨hcS,hfS⟩:=iZ hSw;have hl:=HL.o wx hSw;go_simp
  refine bF 8 (.tuple #[.agg (zF Y).toArray,.bool t]) rfl ?_;refine bF 9 (.agg (zF Y).toArray) rfl ?_;refine bF 10 (.bool t) rfl ?_;refine di 11 rfl fun K hK=>?_;go_simp;obtain ⟨Xgk,eA⟩:∃ X,X=X0.alloc (.cells z5.toArray 67):=⟨_,rfl⟩;rw [<-eA];have hbA:Below X0.heap.size X0 Xgk:=by rw [eA];exact (Hr _ _).alloc (Ho _) _
  have hZgk:Bk Xgk X0.heap.size z5:=by rw [eA];exact aU X0 67 z5
  have hzAgk1:Xgk.heap.size<=X0.heap.size+1:=by rw [eA];simp
  have hzAgk2:X0.heap.size+1<=Xgk.heap.size:=by rw [eA];simp
  clear eA;have hsz_Xgk:=hbA.size;refine hK.out _ _ (bJ af (by omega) hbA) (fun ai=>?_);clear hK K af;have af:=ai;clear ai;try simp only [aT]
  clear hbA;obtain ⟨gk,egk⟩:∃ g,g=X0.heap.size:=⟨_,rfl⟩;rw [<-egk] at hZgk ⊢;have egk1:gk<=X0.heap.size:=by omega
  have egk2:X0.heap.size<=gk:=by omega
  clear egk;refine di 12 rfl fun K hK=>?_;have r0:=(hZgk.2 0 (by simp)).1;have r1:=(hZgk.2 1 (by simp)).1;have r2:=(hZgk.2 2 (by simp)).1;have r3:=(hZgk.2 3 (by simp)).1;have r4:=(hZgk.2 4 (by simp)).1;have f0:=(hZgk.2 0 (by simp)).2;have f1:=(hZgk.2 1 (by simp)).2;have f2:=(hZgk.2 2 (by simp)).2;have f3:=(hZgk.2 3 (by simp)).2;have f4:=(hZgk.2 4 (by simp)).2;simp only [List.getD,List.getElem?_cons_zero,List.getElem?_cons_succ,Option.getD_some] at r0 r1 r2 r3 r4;have lZgk:=hZgk.1;have hkgk:w0.heap.size<=gk:=by omega
  go_simp;obtain ⟨XSgk,eS⟩:∃ X,X=(((((Xgk.setCell (zA gk 0) (zI (Y 0))).setCell (zA gk 1) (zI (Y 1))).setCell (zA gk 2) (zI (Y 2))).setCell (zA gk 3) (zI (Y 3))).setCell (zA gk 4) (zI (Y 4))):=⟨_,rfl⟩;rw [<-eS];have hPgk:Bk XSgk gk (zF Y):=by rw [eS];exact jM (l:=(zF Y)) hZgk rfl
  have hzgk1:XSgk.heap.size<=Xgk.heap.size:=by rw [eS];exact Hl (size_put gk (zF Y) 0 Xgk)
  have hzgk2:Xgk.heap.size<=XSgk.heap.size:=by rw [eS];exact Hl (size_put gk (zF Y) 0 Xgk).symm
  have hmgk:∀ b,¬ b=gk->Sm Xgk XSgk b:=by rw [eS];exact fun b hb=>jQ hb (zF Y) 0 Xgk
  have hBgk:Below (w0.heap.size) w0 XSgk:=by rw [eS];exact gu hkgk (zF Y) 0 af
  clear eS r0 f0 r1 f1 r2 f2 r3 f3 r4 f4;refine hK.out _ _ hBgk (fun ai=>?_);clear hK K af;have af:=ai;clear ai;try simp only [aT]
  refine bF 13 (.bool t) rfl ?_;refine Hy (by kernel_rfl) ?_ _;go_wp2;go_meet
  case rel=>exact ⟨gk,rfl,rfl,af⟩
 case rest =>
  obtain ⟨w1,hw1⟩:∃ wq,wq=wc:=⟨_,rfl⟩;subst hw1;obtain ⟨gk,rfl,rfl,hb1⟩:=hcut;clear HL;clear yP0 yS0 hlP hlS;have y_w1:w0.heap.size<=w1.heap.size:=hb1.size;have B9:=fQ (ah B5.o hb1);have P9:=fQ (P6.o.q hb1);have M9:=fQ (M7.o.q (by omega) hb1);have S9:=fQ (S8.o.q hb1);clear B5 P6 M7 S8;clear hb1;have yP0:=P9.o.a8;have hlP:w.heap.size<w1.heap.size:=P9.o.1;have yS0:=S9.o.a9;have hlS:s<w1.heap.size:=S9.o.1;cases t
  ·go_upto_region 4 with fail;refine Hu (S:=fun w'=>Below (w1.heap.size) w1 w') (by kernel_rfl) ((Hr _ _).drew) ?_;intro af;obtain ⟨X0,hX0⟩:∃ X,X=w1.drew:=⟨_,rfl⟩;have hz0:w1.heap.size<=X0.heap.size:=by rw [hX0];exact Ho _
   rw [<-hX0] at af ⊢;clear hX0;refine bF 0 (.bool false) rfl ?_;refine bF 1 (.bool true) rfl ?_;refine bF 2 (.bool true) rfl ?_;refine bF 3 (zP s 0) rfl ?_;refine bF 7 (zP w.heap.size 2) rfl ?_;refine bF 11 (zP s 0) rfl ?_;refine bF 4 (zP s 0) rfl ?_;refine bF 8 (zP w.heap.size 3) rfl ?_;refine bF 12 (zP s 0) rfl ?_;refine bF 5 (zP s 0) rfl ?_;refine bF 9 (zI pa) rfl ?_;refine bF 13 (zP s 2) rfl ?_;refine bF 6 (.agg #[zI c,zI d]) rfl ?_;refine bF 14 (zP s 2) rfl ?_;refine bF 15 (zI V.c) rfl ?_;refine di 10 rfl fun K hK=>?_;go_simp;go_wp2_with fail;refine (gG c d pa _).mono ?_;rintro e xc ⟨rfl,hxc⟩;have hsz_xc:=hxc.size;refine hK.out _ _ (bJ af (by omega) hxc) (fun ai=>?_);clear hK K af;have af:=ai;clear ai;try simp only [aT]
   refine bF 16 (.bool (aQ c d pa == V.c)) rfl ?_;refine bF 17 (.bool (aQ c d pa == V.c)) rfl ?_;refine bF 18 (.bool (aQ c d pa == V.c)) rfl ?_;refine Hy (by kernel_rfl) ?_ _;go_wp2;go_ret;exact ⟨by simp,B9.o.trans (af.mono (by have:=B9.o.size;omega))⟩
  go_upto_region 4 with fail;refine Hu (S:=fun w'=>Below (w1.heap.size) w1 w') (by kernel_rfl) ((Hr _ _).drew) ?_;intro af;obtain ⟨X0,hX0⟩:∃ X,X=w1.drew:=⟨_,rfl⟩;have hz0:w1.heap.size<=X0.heap.size:=by rw [hX0];exact Ho _
  rw [<-hX0] at af ⊢;clear hX0;refine bF 0 (.bool true) rfl ?_;refine bF 1 (.bool false) rfl ?_;refine bF 2 (.bool false) rfl ?_;refine bU 3 rfl ?_;refine bU 4 rfl ?_;refine bU 5 rfl ?_;refine bU 6 rfl ?_;refine bU 7 rfl ?_;refine bU 8 rfl ?_;refine bU 9 rfl ?_;refine bU 10 rfl ?_;refine bU 11 rfl ?_;refine bU 12 rfl ?_;refine bU 13 rfl ?_;refine bU 14 rfl ?_;refine bU 15 rfl ?_;refine bU 16 rfl ?_;refine bF 17 (.bool false) rfl ?_;refine bF 18 (.bool false) rfl ?_;refine Hy (by kernel_rfl) ?_ _;go_wp2;go_ret;exact ⟨by simp,B9.o.trans (af.mono (by have:=B9.o.size;omega))⟩
theorem Wm.mono {w:World} {b n m:Nat} {M:Int->Option (Nat->Int)} (h:Wm w b n M) (hnm:n<=m):Wm w b m M:=by
 obtain ⟨es,clock,h1,h2,h3,r⟩:=h;exact ⟨es,clock,h1,h2,Hq h3 hnm,r⟩
theorem vY {w:World} {x off:Nat} {o:Obj} (h:(w.cell? ⟨x,off,none⟩).isSome=true) (ho:w.heap[x]? = some o):o.isCells=true:=by
 unfold World.cell? at h;simp only [ho] at h;cases o <;> first | rfl | simp at h
structure Bl (b:Nat) (lo:Lo) (w w':World):Prop where
 low:Below lo.l w w'
 keep:∀ x,lo.k0<=x->x<lo.k1->w'.heap[x]? = w.heap[x]?
 oth:∀ k o,¬ k=b->w.heap[k]? = some o->o.isCells=false->w'.heap[k]? = some o
theorem Bl.up {b:Nat} {lo:Lo} {w w':World} (h:Below w.heap.size w w') (hl:lo.l<=w.heap.size/\lo.k1<=w.heap.size):Bl b lo w w':=⟨h.mono hl.1,fun x _ hx=>h.block x (by omega),fun k o _ hk _=>(h.block k (Array.getElem?_eq_some_iff.1 hk).1).trans hk⟩
theorem Bl.trans {b:Nat} {lo:Lo} {x y z:World} (h:Bl b lo x y) (k:Bl b lo y z):Bl b lo x z:=⟨h.1.trans k.1,fun i h1 h2=>(k.2 i h1 h2).trans (h.2 i h1 h2),fun i o hi ho hc=>k.3 i o hi (h.3 i o hi ho hc) hc⟩
theorem Bl.setCell {b:Nat} {lo:Lo} {w w':World} (h:Bl b lo w w') {p:Addr} (hp:lo.l<=p.block/\(p.block<lo.k0∨lo.k1<=p.block)) (v:Value):Bl b lo w (w'.setCell p v):=⟨h.1.setCell hp.1 v,fun k h1 h2=>(Below.heap_setCell w' p v k (by omega)).trans (h.2 k h1 h2),fun k o hk ho hc=>(KeepsOthers.setCell _ _ _).same k o (h.3 k o hk ho hc) hc⟩
theorem Bl.drew {b:Nat} {lo:Lo} {w w':World} (h:Bl b lo w w'):Bl b lo w w'.drew:=⟨h.1.drew,h.2,h.3⟩
theorem Bl.size {b:Nat} {lo:Lo} {w w':World} (h:Bl b lo w w'):w.heap.size<=w'.heap.size:=h.1.size
theorem Bl.grown {b:Nat} {lo:Lo} {w w':World} (h:Below lo.l w w') (hg:w.grownBy w' (some b)) (hb:b<lo.k0∨lo.k1<=b) (hk:lo.k1<=w.heap.size):Bl b lo w w':=⟨h,fun k h1 h2=>hg.block k (by omega) (fun e=>by injection e;omega),fun k o hk ho _=>(hg.block k (Array.getElem?_eq_some_iff.1 ho).1 (fun e=>hk (by injection e))).trans ho⟩
theorem Sc.mono {w:World} {c d:Int} {s b:Nat} {lo:Lo} {V:CV} {n m:Nat} {M:Int->Option (Nat->Int)} (h:Sc w c d s b lo V n M) (hnm:n<=m):Sc w c d s b lo V m M:=by
 obtain ⟨aW,kW,kO,aX,kX,aI,kI,gW,gO,gX,gI,sl,xs,hN,rW,rX,rI,hO,hM,⟨l1,l2,l3,l4,l5,l6,l7,l8⟩,⟨d1,d2,d3,d4,d5,d6⟩,hx1,hx2,hkk⟩:=h;exact ⟨aW,kW,kO,aX,kX,aI,kI,gW,gO,gX,gI,sl,xs,hN,rW,rX,rI,hO,hM.mono hnm,⟨l1,l2,l3,l4,l5,l6,l7,l8⟩,⟨d1,d2,d3,d4,d5,d6⟩,hx1,hx2,hkk⟩
def jo (X:Nat->Int) (q:Nat) (z:Int):Nat->Int:=fun j=>if j=q then z else X j
theorem rq {w:World} {B n k:Nat} {X:Nat->Int} {z:Int} (h:fZ w B n X n) (hk:k<n):fZ (w.setCell (zA B k) (zI z)) B n (jo X k z) n:=by
 refine ⟨fun i hi=>⟨?_,by rw [aB];exact (h.1 i hi).2⟩,fun j hj=>?_⟩
 ·by_cases hc:k=i
  ·subst hc;rw [fP (h.1 k hk).1];rfl
  rw [aJ (fun e=>hc e.2)];exact (h.1 i hi).1
 by_cases hc:k=j
 ·subst hc;rw [fP (h.1 k hk).1];simp [jo]
 rw [aJ (fun e=>hc e.2)];show _=some (Value.int .i64 (if j=k then z else X j));rw [if_neg (fun e=>hc e.symm)];exact h.2 j hj
theorem cZ {w:World} {B j b:Nat} {u:Value} (h:¬ b=B):Sm w (w.setCell (zA B j) u) b:=fun o=>⟨aJ (fun e=>h e.1.symm),aB⟩
theorem Sc.ins {w:World} {c d:Int} {s b:Nat} {lo:Lo} {V:CV} {n:Nat} {M:Int->Option (Nat->Int)} (h:Sc w c d s b lo V n M) {q:Nat} (hq:q<V.nI) :
 ∃ gI kI,w.cell? (zA s 7)=some (zS gI V.nI kI)/\w.cell? (zA gI q)=some (zI (V.I q))/\w.frozen? (zA gI q)=false/\(lo.l<=gI/\(gI<lo.k0∨lo.k1<=gI))/\gI<w.heap.size/\¬ gI=s /\
  ∀ z,Sc (w.setCell (zA gI q) (zI z)) c d s b lo { V with I:=jo V.I q z } n M:=by
 obtain ⟨aW,kW,kO,aX,kX,aI,kI,gW,gO,gX,gI,sl,xs,hN,rW,rX,rI,hO,hM,⟨l1,l2,l3,l4,l5,l6,l7,l8⟩,⟨d1,d2,d3,d4,d5,d6⟩,hx1,hx2,hkk⟩:=h;have h0:V.nI≠0:=by omega
 obtain ⟨e1,e2,e3⟩:=d3 h0;rcases rI with ⟨e,_⟩ | ⟨cI,eI,i1,i2,i3,i4⟩
 ·omega
 simp only [Value.slice.injEq,true_and] at eI;obtain ⟨rfl,rfl⟩:=eI;refine ⟨gI,kI,(hN 7 (by decide)).1,i4.2 q hq,(i4.1 q hq).2,⟨i1,hkk.I h0⟩,i2,e1,fun z=>?_⟩;have hz:w.heap.size=(w.setCell (zA gI q) (zI z)).heap.size:=ay.symm;have k:∀ g,¬ g=gI->Sm w (w.setCell (zA gI q) (zI z)) g:=fun g hg=>cZ hg
 refine ⟨aW,kW,kO,aX,kX,_,kI,gW,gO,gX,gI,sl,xs,hN.sm (k s (fun e=>e1 e.symm)),rW.go (Ho _) (Hl hz) (Ho _) (fun e _ _=>k gW (d5 e h0)),rX.go (Ho _) (Hl hz) (Ho _) (fun e _ _=>k gX (d6 e h0)),.inr ⟨kI,rfl,i1,by omega,Ho _,rq i4 hq⟩,
  fun j hj=>⟨((k gO e3 j).1).trans (hO j hj).1,((k gO e3 j).2).trans (hO j hj).2.1,(hO j hj).2.2.go (Ho _) (Hl hz) (Ho _) (fun e _ _=>k (xs j) ((hx1 j hj e).2.2.2 h0))⟩,hM.kept (P8.aC w gI q _).1 (fun e=>e2 (by injection e with e;exact e.symm)),⟨l1,by omega,l3,by omega,l5,l6,l7,l8⟩,⟨d1,d2,d3,d4,d5,d6⟩,hx1,hx2,hkk.up (Hl hz)⟩
theorem Sc.ground {w:World} {c d:Int} {s b:Nat} {lo:Lo} {V:CV} {n:Nat} {M:Int->Option (Nat->Int)} (h:Sc w c d s b lo V n M) (z:Int):Sc (w.setCell (zA s 4) (zI z)) c d s b lo { V with g:=z } n M:=by
 obtain ⟨aW,kW,kO,aX,kX,aI,kI,gW,gO,gX,gI,sl,xs,hN,rW,rX,rI,hO,hM,⟨l1,l2,l3,l4,l5,l6,l7,l8⟩,⟨d1,d2,d3,d4,d5,d6⟩,hx1,hx2,hkk⟩:=h;have hz:w.heap.size=(w.setCell (zA s 4) (zI z)).heap.size:=ay.symm;have k:∀ g,¬ g=s->Sm w (w.setCell (zA s 4) (zI z)) g:=fun g hg=>cZ hg
 refine ⟨aW,kW,kO,aX,kX,aI,kI,gW,gO,gX,gI,sl,xs,fun i hi=>?_,rW.go (Ho _) (Hl hz) (Ho _) (fun e _ _=>k gW (d1 e).1),rX.go (Ho _) (Hl hz) (Ho _) (fun e _ _=>k gX (d2 e).1),rI.go (Ho _) (Hl hz) (Ho _) (fun e _ _=>k gI (d3 e).1),
  fun j hj=>⟨((k gO l7 j).1).trans (hO j hj).1,((k gO l7 j).2).trans (hO j hj).2.1,(hO j hj).2.2.go (Ho _) (Hl hz) (Ho _) (fun e _ _=>k (xs j) (hx1 j hj e).1.1)⟩,hM.kept (P8.aC w s 4 _).1 (fun e=>l6 (by injection e with e;exact e.symm)),⟨l1,by omega,l3,by omega,l5,l6,l7,l8⟩,⟨d1,d2,d3,d4,d5,d6⟩,hx1,hx2,hkk.up (Hl hz)⟩
 rw [aB];refine ⟨?_,(hN i hi).2⟩;by_cases e:i=4
 ·subst e;rw [fP (by rw [(hN 4 (by decide)).1];rfl)];rfl
 rw [aJ (fun q=>e q.2.symm),(hN i hi).1];match i,hi,e with
 | 0,_,_=>rfl
 | 1,_,_=>rfl
 | 2,_,_=>rfl
 | 3,_,_=>rfl
 | 4,_,e=>exact absurd rfl e
 | 5,_,_=>rfl
 | 6,_,_=>rfl
 | 7,_,_=>rfl
 | 8,_,_=>rfl
theorem Sc.put {w:World} {c d:Int} {s b:Nat} {lo:Lo} {V:CV} {n:Nat} {M:Int->Option (Nat->Int)} (h:Sc w c d s b lo V n M) {z:Int} (hw:(Lit.int .i64 z).wf=true) (Z:Nat->Int) :
 ∃ w2,(Instr.mapUpdate 133 (.map (some b)) (zI z) (wv Z)).run Tryz.prog w=.ok () w2/\Sc w2 c d s b lo V (n+1) (mQ M z Z)/\Bl b lo w w2/\w.grownBy w2 (some b):=by
 obtain ⟨aW,kW,kO,aX,kX,aI,kI,gW,gO,gX,gI,sl,xs,hN,rW,rX,rI,hO,hM,⟨l1,l2,l3,l4,l5,l6,l7,l8⟩,⟨d1,d2,d3,d4,d5,d6⟩,hx1,hx2,hkk⟩:=h;obtain ⟨w2,hr,hm,hg⟩:=hM.put hw Z;have hbl:=hM.lt;have hz:=hg.size;have k:∀ g,g<w.heap.size->¬ g=b->Sm w w2 g:=fun g hg' hne=>bG hg hg' (fun e=>hne (by injection e))
 refine ⟨w2,hr,⟨aW,kW,kO,aX,kX,aI,kI,gW,gO,gX,gI,sl,xs,hN.sm (k s l4 l6),rW.go (Ho _) hz (Ho _) (fun e _ h=>k gW h (d1 e).2.1),rX.go (Ho _) hz (Ho _) (fun e _ h=>k gX h (d2 e).2.1),rI.go (Ho _) hz (Ho _) (fun e _ h=>k gI h (d3 e).2.1),
  fun j hj=>⟨((k gO l2 l8 j).1).trans (hO j hj).1,((k gO l2 l8 j).2).trans (hO j hj).2.1,(hO j hj).2.2.go (Ho _) hz (Ho _) (fun e _ h=>k (xs j) h (hx1 j hj e).1.2.1)⟩,hm,⟨l1,by omega,l3,by omega,l5,l6,l7,l8⟩,⟨d1,d2,d3,d4,d5,d6⟩,hx1,hx2,hkk.up hz⟩,.grown (below_grown hg l5 (by omega)) hg hkk.b hkk.k.2,hg⟩
def zp (pi pa pm ps pl:Int):Nat->Int
 | 0=>pi
 | 1=>pa
 | 2=>pm
 | 3=>ps
 | _=>pl
def takeB (c d:Int) (V:CV) (M:Int->Option (Nat->Int)) (q:Nat) (pn pk pi pa pc:Int):Bool:=!(pn != V.I q) && mg c d V M pk pi pa pc
def CV.took (V:CV) (q:Nat) (pk pc:Int):CV:={ V with I:=jo V.I q (V.I q+1),g:=if pk=1 then V.g else V.g+pc }
def qy (M:Int->Option (Nat->Int)) (pk pi pa pm ps pl:Int):Int->Option (Nat->Int):=if pk=1 then mQ M pi (zp pi pa pm ps pl) else M
def Fb (c d:Int) (V:CV) (M:Int->Option (Nat->Int)) (q:Nat) (pn pk pi pa pc:Int):CV:=if takeB c d V M q pn pk pi pa pc then V.took q pk pc else V
def Fz (c d:Int) (V:CV) (M:Int->Option (Nat->Int)) (q:Nat) (pn pk pi pa pm ps pl pc:Int):Int->Option (Nat->Int):=if takeB c d V M q pn pk pi pa pc then qy M pk pi pa pm ps pl else M
theorem yX {c d:Int} {V:CV} {M:Int->Option (Nat->Int)} {q:Nat} {pn pk pi pa pm ps pl pc:Int} (h:takeB c d V M q pn pk pi pa pc=false):Fb c d V M q pn pk pi pa pc=V/\Fz c d V M q pn pk pi pa pm ps pl pc=M:=by simp [Fb,Fz,h]
theorem vk {c d:Int} {V:CV} {M:Int->Option (Nat->Int)} {q:Nat} {pn pk pi pa pm ps pl pc:Int} (h:takeB c d V M q pn pk pi pa pc=true):Fb c d V M q pn pk pi pa pc=V.took q pk pc/\Fz c d V M q pn pk pi pa pm ps pl pc=qy M pk pi pa pm ps pl:=by simp [Fb,Fz,h]
theorem Sc.at4 {w:World} {c d:Int} {s b:Nat} {lo:Lo} {V:CV} {n:Nat} {M:Int->Option (Nat->Int)} (h:Sc w c d s b lo V n M) :
 w.cell? (zA s 4)=some (zI V.g)/\w.frozen? (zA s 4)=false/\w.cell? (zA s 8)=some (.map (some b))/\s<w.heap.size/\(lo.l<=s/\(s<lo.k0∨lo.k1<=s))/\(lo.l<=b/\(b<lo.k0∨lo.k1<=b))/\b<w.heap.size/\¬ s=b:=by
 obtain ⟨aW,kW,kO,aX,kX,aI,kI,gW,gO,gX,gI,sl,xs,hN,rW,rX,rI,hO,hM,⟨l1,l2,l3,l4,l5,l6,l7,l8⟩,_,_,_,hkk⟩:=h;exact ⟨(hN 4 (by decide)).1,(hN 4 (by decide)).2,(hN 8 (by decide)).1,l4,⟨l3,hkk.s⟩,⟨l5,hkk.b⟩,hM.lt,l6⟩
theorem wW (c d pn pk pi pa pm ps pl pc:Int) (q s b:Nat) (lo:Lo) (V:CV) (n:Nat) (M:Int->Option (Nat->Int)) (hk:pk=1∨pk=2) (hq:q<V.nI) (hI:0<=V.I q/\V.I q<=5000) (hg:0<=V.g/\V.g<=900) (hpc:0<=pc/\pc<=900) (hwf:(Lit.int .i64 pi).wf=true) (w:World) (h:Sc w c d s b lo V n M) :
 Hz 130 #[zP s 0,zI (q:Int),.agg #[zI pn,zI pk,zI pi,zI pa,zI pm,zI ps,zI pl,zI pc]] w fun e w'=>e=.returned (.bool (takeB c d V M q pn pk pi pa pc))/\Sc w' c d s b lo (Fb c d V M q pn pk pi pa pc) (n+1) (Fz c d V M q pn pk pi pa pm ps pl pc)/\Bl b lo w w':=by
 have hK1:=h.kk;go_enter Tryz.func130,Tryz.ntmps130;go_upto_region 1 with fail;obtain ⟨w0,e0,hb0,X0,-⟩:=bx1 w [zI pn,zI pk,zI pi,zI pa,zI pm,zI ps,zI pl,zI pc] 69;rw [<-e0];clear e0;have z0:=X0.1;obtain ⟨gJ,kJ,c7w,_,_,_,gJ2,_,_⟩:=h.ins hq;have HJ:bY (w.cell? (zA s 7)=some (zS gJ V.nI kJ)):=c7w;clear c7w;have hlw:s<w.heap.size:=h.at4.2.2.2.1;have hlo:lo.l<=s:=h.at4.2.2.2.2.1.1;have B1:bY (Below w.heap.size w w0):=hb0;have P2:bY (Bk w0 w.heap.size [zI pn,zI pk,zI pi,zI pa,zI pm,zI ps,zI pl,zI pc]):=X0;have S3:bY (Sc w0 c d s b lo V n M):=h.q hb0;clear X0 hb0 h;obtain ⟨gI,kI,c7,cq,fq,g1,g2,g3,hset⟩:=S3.o.ins hq;obtain ⟨c4,f4,c8,ls,_,lb,lbw,nsb⟩:=S3.o.at4;have hq':(q:Int)<V.nI:=by omega
 clear hset;obtain ⟨yP0,yP1,yP2,yP3,yP4,yP5,yP6,yP7⟩:=P2.o.a8;have hlP:w.heap.size<w0.heap.size:=P2.o.1;refine Hu (S:=fun w'=>Below (w0.heap.size) w0 w') (by kernel_rfl) ((Hr _ _).drew) ?_;intro af;obtain ⟨X0,hX0⟩:∃ X,X=w0.drew:=⟨_,rfl⟩;have hz0:w0.heap.size<=X0.heap.size:=by rw [hX0];exact Ho _
 rw [<-hX0] at af ⊢;clear hX0;refine bF 0 (zP w.heap.size 0) rfl ?_;refine bF 2 (zP s 0) rfl ?_;refine bF 7 (zI (q:Int)) rfl ?_;refine bF 1 (zI pn) rfl ?_;refine bF 3 (zP s 0) rfl ?_;refine bF 4 (zP s 2) rfl ?_;refine bF 5 (zP s 7) rfl ?_;refine bF 6 (zS gI V.nI kI) rfl ?_;refine bF 8 (zP gI q) rfl ?_;refine bF 9 (zI (V.I q)) rfl ?_;cases hne:(pn != V.I q)
 ·refine bF 10 (.bool false) rfl ?_;refine bF 11 (.bool false) rfl ?_;refine bF 12 (zP s 0) rfl ?_;refine bF 13 (.agg #[zI pn,zI pk,zI pi,zI pa,zI pm,zI ps,zI pl,zI pc]) rfl ?_;refine di 14 rfl fun K hK=>?_;go_simp;go_wp2_with fail;refine (oQ c d pn pk pi pa pm ps pl pc s b lo V n M hg hpc hwf _ (S3.o.q af)).mono ?_;rintro e xr ⟨rfl,hxr⟩;cases hroom:mg c d V M pk pi pa pc
  ·have hsz_xr:=hxr.size;refine hK.out _ _ (bJ af (by omega) hxr) (fun ai=>?_);clear hK K af;have af:=ai;clear ai;try simp only [aT]
   refine bF 15 (.bool true) rfl ?_;refine bF 16 (.bool true) rfl ?_;refine Hy (by kernel_rfl) ?_ _;go_wp2;go_ret;have ht:takeB c d V M q pn pk pi pa pc=false:=by simp [takeB,hroom]
   exact ⟨by rw [ht] <;> rfl,by rw [(yX (pm:=pm) (ps:=ps) (pl:=pl) ht).1,(yX (pm:=pm) (ps:=ps) (pl:=pl) ht).2];exact (S3.o.q af).mono (Ht n),Bl.up (B1.o.trans (af.mono (by have:=B1.o.size;omega))) (by omega)⟩
  have hsz_xr:=hxr.size;refine hK.out _ _ (bJ af (by omega) hxr) (fun ai=>?_);clear hK K af;have af:=ai;clear ai;try simp only [aT]
  refine bF 15 (.bool false) rfl ?_;refine bF 16 (.bool false) rfl ?_;refine Hy (by kernel_rfl) ?_ _;have ht:takeB c d V M q pn pk pi pa pc=true:=by simp [takeB,hroom,hne]
  have SX:=S3.o.q af;have BX:Below w.heap.size w xr:=B1.o.trans (af.mono (by have:=B1.o.size;omega));obtain ⟨zX,hzX⟩:∃ z,z=w0.heap.size:=⟨_,rfl⟩;have hzz:w0.heap.size<=xr.heap.size:=af.size;have PX:Bk xr w.heap.size [zI pn,zI pk,zI pi,zI pa,zI pm,zI ps,zI pl,zI pc]:=P2.o.q af;clear c7 cq fq c4 f4 c8 hzX yP0 yP1 yP2 yP3 yP4 yP5 yP6 yP7 hlP;obtain ⟨gI,kI,c7,cq,fq,g1,g2,g3,hset⟩:=SX.ins hq;obtain ⟨c4,f4,c8,ls,_,lb,lbw,nsb⟩:=SX.at4;have eJ:gI=gJ:=by have:=(BX.cell (p:=(zA s 7)) hlw).trans HJ.o;rw [c7] at this;simp only [Option.some.injEq,Value.slice.injEq,Addr.mk.injEq,true_and,and_true] at this;exact this.1
  have nPI:¬ w.heap.size=gI:=by omega
  have nIP:¬ gI=w.heap.size:=by omega
  have nPs:¬ w.heap.size=s:=by omega
  have nsP:¬ s=w.heap.size:=by omega
  have hsg:¬ s=gI:=fun e=>g3 e.symm;clear eJ;have yP0:xr.cell? (zA w.heap.size 0)=some (zI pn):=(PX.2 0 (by simp)).1;have yP1:xr.cell? (zA w.heap.size 1)=some (zI pk):=(PX.2 1 (by simp)).1;have yP2:xr.cell? (zA w.heap.size 2)=some (zI pi):=(PX.2 2 (by simp)).1;have yP3:xr.cell? (zA w.heap.size 3)=some (zI pa):=(PX.2 3 (by simp)).1;have yP4:xr.cell? (zA w.heap.size 4)=some (zI pm):=(PX.2 4 (by simp)).1;have yP5:xr.cell? (zA w.heap.size 5)=some (zI ps):=(PX.2 5 (by simp)).1;have yP6:xr.cell? (zA w.heap.size 6)=some (zI pl):=(PX.2 6 (by simp)).1;have yP7:xr.cell? (zA w.heap.size 7)=some (zI pc):=(PX.2 7 (by simp)).1;have lyP:=PX.1;have HSET:bY (∀ z,Sc (xr.setCell (zA gI q) (zI z)) c d s b lo { V with I:=jo V.I q z } n M):=hset;clear hset;have PX2:bY (Bk xr w.heap.size [zI pn,zI pk,zI pi,zI pa,zI pm,zI ps,zI pl,zI pc]):=PX;clear PX;rcases hk with hk | hk
  ·subst hk;have hmu:=((HSET.o (V.I q+1)).q ((Hr _ _).drew)).put hwf (zp pi pa pm ps pl);obtain ⟨wm,hr,hS2,hB2,hG2⟩:=hmu;have hr2:(Instr.mapUpdate 133 (.map (some b)) (zI pi) (.agg #[zI pi,zI pa,zI pm,zI ps,zI pl])).run Tryz.prog (xr.setCell (zA gI q) (zI (V.I q+1))).drew=.ok () wm:=hr;have HS2:bY (Sc wm c d s b lo { V with I:=jo V.I q (V.I q+1) } (n+1) (mQ M pi (zp pi pa pm ps pl))):=hS2;have HB2:bY (Bl b lo w wm):=(((Bl.up BX (by omega)).setCell (by show lo.l<=gI/\(gI<lo.k0∨lo.k1<=gI);omega) _).drew.trans hB2);clear hS2 hB2 hG2 hr HSET;go_wp2;go_region;go_wp2;go_ret;have e1:V.took q 1 pc={ V with I:=jo V.I q (V.I q+1) }:=by simp [CV.took]
   have e2:qy M 1 pi pa pm ps pl=mQ M pi (zp pi pa pm ps pl):=by simp [qy]
   exact ⟨by rw [ht] <;> rfl,by rw [(vk (pm:=pm) (ps:=ps) (pl:=pl) ht).1,(vk (pm:=pm) (ps:=ps) (pl:=pl) ht).2,e1,e2];exact HS2.o,HB2.o⟩
  subst hk;have hne1:((2:Int) == 1)=false:=by decide
  have HS2:bY (Sc (((xr.setCell (zA gI q) (zI (V.I q+1))).setCell (zA s 4) (zI (V.g+pc))).drew) c d s b lo { V with I:=jo V.I q (V.I q+1),g:=V.g+pc } (n+1) M):=(((HSET.o (V.I q+1)).ground (V.g+pc)).q ((Hr _ _).drew)).mono (Ht n);have HB2:bY (Bl b lo w (((xr.setCell (zA gI q) (zI (V.I q+1))).setCell (zA s 4) (zI (V.g+pc))).drew)):=(((Bl.up BX (by omega)).setCell (by show lo.l<=gI/\(gI<lo.k0∨lo.k1<=gI);omega) _).setCell (by show lo.l<=s/\(s<lo.k0∨lo.k1<=s);omega) _).drew;clear HSET;go_wp2;go_region;go_wp2;go_ret;have e1:V.took q 2 pc={ V with I:=jo V.I q (V.I q+1),g:=V.g+pc }:=by simp [CV.took]
  have e2:qy M 2 pi pa pm ps pl=M:=by simp [qy]
  exact ⟨by rw [ht] <;> rfl,by rw [(vk (pm:=pm) (ps:=ps) (pl:=pl) ht).1,(vk (pm:=pm) (ps:=ps) (pl:=pl) ht).2,e1,e2];exact HS2.o,HB2.o⟩
 refine bF 10 (.bool true) rfl ?_;refine bF 11 (.bool true) rfl ?_;refine bU 12 rfl ?_;refine bU 13 rfl ?_;refine bU 14 rfl ?_;refine bU 15 rfl ?_;refine bF 16 (.bool true) rfl ?_;refine Hy (by kernel_rfl) ?_ _;go_wp2;go_ret;have ht:takeB c d V M q pn pk pi pa pc=false:=by simp [takeB,hne]
 exact ⟨by rw [ht] <;> rfl,by rw [(yX (pm:=pm) (ps:=ps) (pl:=pl) ht).1,(yX (pm:=pm) (ps:=ps) (pl:=pl) ht).2];exact (S3.o.q af).mono (Ht n),Bl.up (B1.o.trans (af.mono (by have:=B1.o.size;omega))) (by omega)⟩
theorem uD {c d:Int} {Z:Nat->Nat->Int} {n:Nat} (h:allB c d Z n=true):∀ j,j+1<n->Z j 0<Z (j+1) 0:=fun j hj=>by
 have h1:=lD n (show j+2<=n by omega) h
 simp [allB,eG] at h1
 omega
theorem wX {c d:Int} {Z:Nat->Nat->Int} {n:Nat} (h:allB c d Z n=true) (i:Nat):∀ j,i<j->j<n->Z i 0<Z j 0
 | 0,h1,_=>by omega
 | j+1,h1,h2=>by
  have h3:=uD h j h2
  by_cases e:i=j
  ·subst e;exact h3
  have:=wX h i j (by omega) (by omega)
  omega
theorem fB {c d:Int} {V:CV} (h:bD c d V=true):∀ i j,i<j->j<V.nW->V.W i 0<V.W j 0:=by
 simp only [bD,Bool.and_eq_true] at h;exact fun i j=>wX h.2.1 i j
theorem dH {c d:Int} {V:CV} (h:bD c d V=true):V.nO=2/\V.nX=2/\V.nI=2:=by
 simp only [bD,Bool.and_eq_true,beq_iff_eq] at h;exact ⟨h.2.2.2.1,h.2.2.2.2.1,h.2.2.2.2.2.1⟩
theorem qh {W:Nat->Nat->Int} {z:Int} {m:Nat}:∀ n,m<n->W m 0=z->(∀ j,m<j->j<n->¬ W j 0=z)->dA W n z=some (W m)
 | 0,h,_,_=>by omega
 | n+1,h,hz,hu=>by
  by_cases e:m=n
  ·subst e;simp [dA,mQ,hz]
  have h1:¬ z=W n 0:=fun e1=>hu n (by omega) (by omega) e1.symm
  simp only [dA,mQ,if_neg h1]
  exact qh n (by omega) hz (fun j h2 h3=>hu j h2 (by omega))
theorem uX {W:Nat->Nat->Int} {z:Int}:∀ n,(dA W n z).isSome=true->∃ m,m<n/\W m 0=z
 | 0,h=>by cases h
 | n+1,h=>by
  by_cases e:z=W n 0
  ·exact ⟨n,by omega,e.symm⟩
  simp only [dA,mQ,if_neg e] at h
  obtain ⟨m,h1,h2⟩:=uX n h
  exact ⟨m,by omega,h2⟩
def ids (V:CV):List Int:=(List.range V.nW).map (fun k=>V.W k 0)
theorem Ed {V:CV}:(ids V).length=V.nW:=by simp [ids]
theorem Fh {c d:Int} {V:CV} (h:bD c d V=true) (k:Nat) (hk:k<V.nW):dA V.W V.nW (V.W k 0)=some (V.W k) :=
 qh V.nW hk rfl (fun j h1 h2 e=>by have:=fB h k j h1 h2;omega)
theorem aV.low {lo lo' hi:Nat} {w:World} {v:Value} {V:CV} (h:aV lo hi w v V) (h0:lo'<=lo) (hh:hi<=w.heap.size):aV lo' hi w v V:=by
 obtain ⟨vW,vO,vX,vI,gW,gO,gX,gI,sl,xs,e,rW,rO,rX,rI,hd,hx1,hx2⟩:=h;have sm:∀ g,Sm w w g:=fun g=>Sm.refl w g;refine ⟨vW,vO,vX,vI,gW,gO,gX,gI,sl,xs,e,rW.go h0 (Ho _) hh (fun _ _ _=>sm _),?_,rX.go h0 (Ho _) hh (fun _ _ _=>sm _),rI.go h0 (Ho _) hh (fun _ _ _=>sm _),hd,hx1,hx2⟩;rcases rO with r | ⟨co,e1,l1,l2,l3,hc⟩
 ·exact .inl r
 exact .inr ⟨co,e1,by omega,l2,l3,fun k hk=>⟨(hc k hk).1,(hc k hk).2.go h0 (Ho _) hh (fun _ _ _=>sm _)⟩⟩
def CV.zero:CV:=⟨0,0,fun _ _=>0,0,0,fun _=>0,fun _ _ _=>0,0,fun _=>0,0,fun _=>0⟩
def bK (W:Nat->Nat->Int) (z:Int):Nat->Nat
 | 0=>0
 | n+1=>if W n 0<z then n+1 else bK W z n
theorem jU (W:Nat->Nat->Int) (z:Int):∀ n,bK W z n<=n
 | 0=>Ho _
 | n+1=>by unfold bK;split;exact Ho _;have:=jU W z n;omega
theorem oJ (W:Nat->Nat->Int) (z:Int):∀ n k,bK W z n<=k->k<n->¬ W k 0<z
 | 0,k,_,h=>by omega
 | n+1,k,h1,h2=>by
  unfold bK at h1
  split at h1
  ·omega
  rename_i hn
  by_cases e:k=n
  ·subst e;exact hn
  exact oJ W z n k h1 (by omega)
theorem oN (W:Nat->Nat->Int) (z:Int):∀ n,(∀ i j,i<j->j<n->W i 0<W j 0)->∀ k,k<bK W z n->W k 0<z
 | 0,_,k,h=>by simp [bK] at h
 | n+1,ha,k,h=>by
  unfold bK at h
  split at h
  ·rename_i hn
   by_cases e:k=n
   ·subst e;exact hn
   have:=ha k n (by omega) (by omega);omega
  exact oN W z n (fun i j h1 h2=>ha i j h1 (by omega)) k h
def dK (W:Nat->Nat->Int) (n:Nat) (z:Int) (Zp:Nat->Int):Nat->Nat->Int:=fun k=>if k<bK W z n then W k else if k=bK W z n then Zp else W (k - 1)
theorem wG {W:Nat->Nat->Int} {n:Nat} {z:Int} {Zp:Nat->Int} (ha:∀ i j,i<j->j<n->W i 0<W j 0) (hno:∀ k,k<n->¬ W k 0=z) (hz:Zp 0=z):∀ i j,i<j->j<n+1->dK W n z Zp i 0<dK W n z Zp j 0:=by
 intro i j hij hj;have hle:=jU W z n;have lo:∀ k,k<bK W z n->W k 0<z:=oN W z n ha;have hi:∀ k,bK W z n<=k->k<n->z<W k 0:=fun k h1 h2=>by have:=oJ W z n k h1 h2;have:=hno k h2;omega
 unfold dK;by_cases i1:i<bK W z n
 ·rw [if_pos i1];by_cases j1:j<bK W z n
  ·rw [if_pos j1];exact ha i j hij (by omega)
  rw [if_neg j1];by_cases j2:j=bK W z n
  ·rw [if_pos j2,hz];exact lo i i1
  rw [if_neg j2];have:=lo i i1;have:=hi (j - 1) (by omega) (by omega);omega
 rw [if_neg i1,if_neg (show ¬ j<bK W z n by omega),if_neg (show ¬ j=bK W z n by omega)];by_cases i2:i=bK W z n
 ·rw [if_pos i2,hz];exact hi (j - 1) (by omega) (by omega)
 rw [if_neg i2];exact ha (i - 1) (j - 1) (by omega) (by omega)
def CV.inn (c d:Int) (V:CV) (q:Nat) (pn pk pi pa pm ps pl pc:Int):CV :=
 if takeB c d V (dA V.W V.nW) q pn pk pi pa pc then (if pk=1 then (V.took q pk pc).with (V.nW+1) (dK V.W V.nW pi (zp pi pa pm ps pl)) else V.took q pk pc) else V
theorem pM {c d pn pk i a n s l pc:Int} (h:jf c d pn pk i a n s l pc=true):(pk=1∨pk=2)/\(0<=pc/\pc<=900):=by
 simp only [jf,Bool.and_eq_true] at h;obtain ⟨_,_,h⟩:=h;split at h
 ·rename_i e;simp only [Bool.and_eq_true,beq_iff_eq] at h;exact ⟨.inl e,by omega⟩
 simp only [Bool.and_eq_true,beq_iff_eq,aY] at h;exact ⟨.inr h.1,by omega⟩
