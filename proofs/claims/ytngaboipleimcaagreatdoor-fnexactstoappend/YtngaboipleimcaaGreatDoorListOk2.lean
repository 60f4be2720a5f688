/- The walks of WlkListOk, the program's and the model's: both hand back the plain 'all are ok, and their numbers rise'; conditions: the list lies in memory as a row of structs of five integers. -/
import Derived.Test.YtngaboipleimcaaGreatDoorListOk
set_option linter.unusedVariables false
set_option maxHeartbeats 8000000
namespace Go.Proofs.YtngaboipleimcaaGreatDoor
open Go.RowKit Go.Deep
theorem qw {W wr wf:World} {m:Nat} {ob:Obj} (h:(∀ b o,b<m→wr.cell? (zA b o)=W.cell? (zA b o))∧m≤wr.heap.size)
 (h2:(∀ b o,b<wr.heap.size+1→wf.cell? (zA b o)=(wr.alloc ob).cell? (zA b o))∧wr.heap.size+1≤wf.heap.size) :
 (∀ b o,b<m→wf.cell? (zA b o)=W.cell? (zA b o))∧m≤wf.heap.size :=
 ⟨fun b o hb=>by rw [h2.1 b o (by have:=h.2;omega),World.cell?_alloc_lt _ _ _ (by have:=h.2;simp;omega)];exact h.1 b o hb,by have:=h.2;have:=h2.2;omega⟩
theorem vP (c d:Int) (b o n cap:Nat) (Z:Nat→Nat→Int) (hn:n≤1048576) (w:World) (hb:b<w.heap.size)
 (hr:∀ k j,k<n→j<5→w.cell? (zA b (o+k * 5+j))=some (zI (Z k j))) :
 Hz 118 #[.agg #[zI c,zI d],.slice (some (zA b o)) n cap] w fun e w'=>e=.returned (.bool (allB c d Z n))∧Below w.heap.size w w':=by
 have HR:Hid (∀ k j,k<n→j<5→w.cell? (zA b (o+k * 5+j))=some (zI (Z k j))):=hr
 clear hr
 go_enter Tryz.func118,Tryz.ntmps118
 go_wp2
 go_loopw [9] (fun i wr=>∃ k:Nat,k≤n∧i=zI k∧allB c d Z k=true∧((∀ b o,b<w.heap.size+1→wr.cell? (zA b o)=(w.alloc (.cells #[zI c,zI d] 44)).cell? (zA b o))∧w.heap.size+1≤wr.heap.size)∧Below w.heap.size w wr) (fun i _=>n - (intOf i).toNat)
 case atStart=>exact ⟨0,Nat.zero_le _,rfl,rfl,⟨fun _ _ _=>rfl,by simp⟩,(Hr _ _).alloc (by simp) _⟩
 case round =>
  obtain ⟨k,hk,rfl,hall,HS,BR⟩:=hrel
  by_cases hkn:k<n
  ·have c0:w.cell? (zA b (o+k * 5))=some (zI (Z k 0)):=HR.out k 0 hkn (by omega)
   have c1:w.cell? (zA b (o+k * 5+1))=some (zI (Z k 1)):=HR.out k 1 hkn (by omega)
   have c2:w.cell? (zA b (o+k * 5+2))=some (zI (Z k 2)):=HR.out k 2 hkn (by omega)
   have c3:w.cell? (zA b (o+k * 5+3))=some (zI (Z k 3)):=HR.out k 3 hkn (by omega)
   have c4:w.cell? (zA b (o+k * 5+4))=some (zI (Z k 4)):=HR.out k 4 hkn (by omega)
   have cp:w.cell? ⟨b,o+(k - 1) * 5,none⟩=some (zI (Z (k - 1) 0)):=HR.out (k - 1) 0 (by omega) (by omega)
   have hb1:b<w.heap.size+1:=by omega
   have HALL:Hid (allB c d Z k=true):=hall
   clear hall
   have hmw:w.heap.size<wr.heap.size:=HS.2
   have hbwr:b<wr.heap.size:=by omega
   replace c0:=(BR.cell (p:=(zA b (o+k * 5))) hb).trans c0
   replace c1:=(BR.cell (p:=(zA b (o+k * 5+1))) hb).trans c1
   replace c2:=(BR.cell (p:=(zA b (o+k * 5+2))) hb).trans c2
   replace c3:=(BR.cell (p:=(zA b (o+k * 5+3))) hb).trans c3
   replace c4:=(BR.cell (p:=(zA b (o+k * 5+4))) hb).trans c4
   replace cp:=(BR.cell (p:=⟨b,o+(k - 1) * 5,none⟩) hb).trans cp
   have m0:wr.cell? (zA w.heap.size 0)=some (zI c):=(HS.1 w.heap.size 0 (by omega)).trans (by simp)
   have m1:wr.cell? (zA w.heap.size 1)=some (zI d):=(HS.1 w.heap.size 1 (by omega)).trans (by simp)
   have BR1:Below w.heap.size w (wr.alloc (.cells (zF (Z k)).toArray 48)):=BR.alloc (Nat.le_of_lt hmw) _
   have HSH:Hid (((∀ b o,b<w.heap.size+1→wr.cell? (zA b o)=(w.alloc (.cells #[zI c,zI d] 44)).cell? (zA b o))∧w.heap.size+1≤wr.heap.size)):=HS
   clear HS BR
   cases hok:jK c d (Z k 0) (Z k 1) (Z k 2) (Z k 3) (Z k 4)
   ·have EG:Hid (eG c d Z k=false):=by show eG c d Z k=_;unfold eG Ac;rw [hok];rfl
    go_wp2
    refine Hu (S:=fun w'=>(∀ b o,b<wr.heap.size+1→w'.cell? (zA b o)=(wr.alloc (.cells (zF (Z k)).toArray 48)).cell? (zA b o))∧wr.heap.size+1≤w'.heap.size) (by kernel_rfl) ⟨fun _ _ _=>rfl,by simp⟩ ?_
    intro af
    refine aA 0 (.agg #[zI c,zI d]) rfl ?_
    refine aA 1 (.agg (zF (Z k)).toArray) rfl ?_
    refine di 2 rfl fun K hK=>?_
    go_simp
    go_wp2_with (go_at_call 142;refine (jI _ _ _ _ _ _ _ _).mono ?_;rintro e w2 ⟨rfl,hbw2⟩)
    refine hK.out _ _ (bM (by assumption) hbw2) (fun af=>?_)
    clear hK K
    try simp only [aT]
    refine aA 3 (.bool true) rfl ?_
    refine aA 4 (.bool true) rfl ?_
    refine bU 5 rfl ?_
    refine bU 6 rfl ?_
    refine bU 7 rfl ?_
    refine bU 8 rfl ?_
    refine bU 9 rfl ?_
    refine bU 10 rfl ?_
    refine bU 11 rfl ?_
    refine bU 12 rfl ?_
    refine bU 13 rfl ?_
    refine bU 14 rfl ?_
    refine bU 15 rfl ?_
    refine bU 16 rfl ?_
    refine bU 17 rfl ?_
    refine aA 18 (.bool true) rfl ?_
    refine Hy (by kernel_rfl) ?_ _
    go_wp2
    go_ret
    exact ⟨by rw [nG HALL.out hkn EG.out];rfl,by repeat (first | exact BR1 | refine ah ?_ (by assumption) | apply Below.drew)⟩
   ·by_cases hk0:k=0
    ·have EG:Hid (eG c d Z k=true):=by show eG c d Z k=_;unfold eG Ac;rw [hok];simp [hk0]
     have hkf:¬ 0<k:=by omega
     clear hk0
     go_wp2
     refine Hu (S:=fun w'=>(∀ b o,b<wr.heap.size+1→w'.cell? (zA b o)=(wr.alloc (.cells (zF (Z k)).toArray 48)).cell? (zA b o))∧wr.heap.size+1≤w'.heap.size) (by kernel_rfl) ⟨fun _ _ _=>rfl,by simp⟩ ?_
     intro af
     refine aA 0 (.agg #[zI c,zI d]) rfl ?_
     refine aA 1 (.agg (zF (Z k)).toArray) rfl ?_
     refine di 2 rfl fun K hK=>?_
     go_simp
     go_wp2_with (go_at_call 142;refine (jI _ _ _ _ _ _ _ _).mono ?_;rintro e w2 ⟨rfl,hbw2⟩)
     refine hK.out _ _ (bM (by assumption) hbw2) (fun af=>?_)
     clear hK K
     try simp only [aT]
     refine aA 3 (.bool false) rfl ?_
     refine aA 4 (.bool false) rfl ?_
     refine aA 5 (zI (k:Int)) rfl ?_
     refine dY 6 (.bool false) rfl ?_ ?_
     ·intro wx hSw;go_simp <;> omega
     try simp only [aT]
     refine aA 7 (.bool false) rfl ?_
     refine bU 8 rfl ?_
     refine bU 9 rfl ?_
     refine bU 10 rfl ?_
     refine bU 11 rfl ?_
     refine bU 12 rfl ?_
     refine bU 13 rfl ?_
     refine bU 14 rfl ?_
     refine bU 15 rfl ?_
     refine bU 16 rfl ?_
     refine aA 17 (.bool false) rfl ?_
     refine aA 18 (.bool false) rfl ?_
     refine Hy (by kernel_rfl) ?_ _
     go_wp2
     go_roundw
     case rel=>exact ⟨k+1,by omega,by go_num,ni HALL.out EG.out,qw HSH.out (by assumption),by repeat (first | exact BR1 | refine ah ?_ (by assumption) | apply Below.drew)⟩
     case measure=>simp [intOf];omega
    ·by_cases hlt:Z (k - 1) 0<Z k 0
     ·have EG:Hid (eG c d Z k=true):=by show eG c d Z k=_;unfold eG Ac;rw [hok];simp [hlt]
      go_wp2
      refine Hu (S:=fun w'=>(∀ b o,b<wr.heap.size+1→w'.cell? (zA b o)=(wr.alloc (.cells (zF (Z k)).toArray 48)).cell? (zA b o))∧wr.heap.size+1≤w'.heap.size) (by kernel_rfl) ⟨fun _ _ _=>rfl,by simp⟩ ?_
      intro af
      refine aA 0 (.agg #[zI c,zI d]) rfl ?_
      refine aA 1 (.agg (zF (Z k)).toArray) rfl ?_
      refine di 2 rfl fun K hK=>?_
      go_simp
      go_wp2_with (go_at_call 142;refine (jI _ _ _ _ _ _ _ _).mono ?_;rintro e w2 ⟨rfl,hbw2⟩)
      refine hK.out _ _ (bM (by assumption) hbw2) (fun af=>?_)
      clear hK K
      try simp only [aT]
      refine aA 3 (.bool false) rfl ?_
      refine aA 4 (.bool false) rfl ?_
      refine aA 5 (zI (k:Int)) rfl ?_
      refine dY 6 (.bool true) rfl ?_ ?_
      ·intro wx hSw;go_simp <;> omega
      try simp only [aT]
      refine aA 7 (.bool true) rfl ?_
      refine aA 8 (.slice (some (zA b o)) n cap) rfl ?_
      refine aA 9 (zI (k:Int)) rfl ?_
      refine dY 10 (zI ((k:Int) - 1)) rfl ?_ ?_
      ·intro wx hSw;go_simp;rw [IntKind.wrap_i64];omega
      try simp only [aT]
      refine dY 11 (.pointer (some ⟨b,o+(k - 1) * 5,none⟩)) rfl ?_ ?_
      ·intro wx hSw;go_simp;intro h;omega
      try simp only [aT]
      refine aA 12 (.pointer (some ⟨b,o+(k - 1) * 5,none⟩)) rfl ?_
      refine aA 13 (zI (Z (k - 1) 0)) rfl ?_
      refine aA 14 (zP wr.heap.size 0) rfl ?_
      refine aA 15 (zI (Z k 0)) rfl ?_
      refine aA 16 (.bool false) rfl ?_
      refine aA 17 (.bool false) rfl ?_
      refine aA 18 (.bool false) rfl ?_
      refine Hy (by kernel_rfl) ?_ _
      go_wp2
      go_roundw
      case rel=>exact ⟨k+1,by omega,by go_num,ni HALL.out EG.out,qw HSH.out (by assumption),by repeat (first | exact BR1 | refine ah ?_ (by assumption) | apply Below.drew)⟩
      case measure=>simp [intOf];omega
     ·have EG:Hid (eG c d Z k=false):=by show eG c d Z k=_;unfold eG Ac;rw [hok];simp [hk0,hlt]
      go_wp2
      refine Hu (S:=fun w'=>(∀ b o,b<wr.heap.size+1→w'.cell? (zA b o)=(wr.alloc (.cells (zF (Z k)).toArray 48)).cell? (zA b o))∧wr.heap.size+1≤w'.heap.size) (by kernel_rfl) ⟨fun _ _ _=>rfl,by simp⟩ ?_
      intro af
      refine aA 0 (.agg #[zI c,zI d]) rfl ?_
      refine aA 1 (.agg (zF (Z k)).toArray) rfl ?_
      refine di 2 rfl fun K hK=>?_
      go_simp
      go_wp2_with (go_at_call 142;refine (jI _ _ _ _ _ _ _ _).mono ?_;rintro e w2 ⟨rfl,hbw2⟩)
      refine hK.out _ _ (bM (by assumption) hbw2) (fun af=>?_)
      clear hK K
      try simp only [aT]
      refine aA 3 (.bool false) rfl ?_
      refine aA 4 (.bool false) rfl ?_
      refine aA 5 (zI (k:Int)) rfl ?_
      refine dY 6 (.bool true) rfl ?_ ?_
      ·intro wx hSw;go_simp <;> omega
      try simp only [aT]
      refine aA 7 (.bool true) rfl ?_
      refine aA 8 (.slice (some (zA b o)) n cap) rfl ?_
      refine aA 9 (zI (k:Int)) rfl ?_
      refine dY 10 (zI ((k:Int) - 1)) rfl ?_ ?_
      ·intro wx hSw;go_simp;rw [IntKind.wrap_i64];omega
      try simp only [aT]
      refine dY 11 (.pointer (some ⟨b,o+(k - 1) * 5,none⟩)) rfl ?_ ?_
      ·intro wx hSw;go_simp;intro h;omega
      try simp only [aT]
      refine aA 12 (.pointer (some ⟨b,o+(k - 1) * 5,none⟩)) rfl ?_
      refine aA 13 (zI (Z (k - 1) 0)) rfl ?_
      refine aA 14 (zP wr.heap.size 0) rfl ?_
      refine aA 15 (zI (Z k 0)) rfl ?_
      refine aA 16 (.bool true) rfl ?_
      refine aA 17 (.bool true) rfl ?_
      refine aA 18 (.bool true) rfl ?_
      refine Hy (by kernel_rfl) ?_ _
      go_wp2
      go_ret
      exact ⟨by rw [nG HALL.out hkn EG.out];rfl,by repeat (first | exact BR1 | refine ah ?_ (by assumption) | apply Below.drew)⟩
  ·have:k=n:=by omega
   subst this
   go_wp2
   go_ret
   exact ⟨by rw [hall];rfl,by repeat (first | exact BR | refine ah ?_ (by assumption) | apply Below.drew)⟩
