/- The walks of WlkListOk, the program's and the model's: both hand back the plain 'all are ok, and their numbers rise'; conditions: the list lies in memory as a row of structs of five integers. -/
import Derived.Test.YtngaboipleimcaaGreatDoorListOk
namespace Go.Proofs.YtngaboipleimcaaGreatDoor
open Go.RowKit Go.Deep
set_option linter.unusedVariables false
theorem keep_down {W wr wf:World} {m:Nat} {ob:Obj} (h:(∀ b o,b<m→wr.cell? (zA b o)=W.cell? (zA b o))∧m≤wr.heap.size)
 (h2:(∀ b o,b<wr.heap.size+1→wf.cell? (zA b o)=(wr.alloc ob).cell? (zA b o))∧wr.heap.size+1≤wf.heap.size) :
 (∀ b o,b<m→wf.cell? (zA b o)=W.cell? (zA b o))∧m≤wf.heap.size :=
 ⟨fun b o hb=>by rw [h2.1 b o (by have:=h.2;omega),World.cell?_alloc_lt _ _ _ (by have:=h.2;simp;omega)];exact h.1 b o hb,by have:=h.2;have:=h2.2;omega⟩
set_option maxHeartbeats 8000000 in
theorem listOk_impl (c d:Int) (b o n cap:Nat) (Z:Nat→Nat→Int) (hn:n≤1048576) (w:World) (hb:b<w.heap.size)
 (hr:∀ k j,k<n→j<5→w.cell? (zA b (o+k * 5+j))=some (zI (Z k j))) :
 Calls Tryz.prog 118 #[.agg #[zI c,zI d],.slice (some (zA b o)) n cap] w fun e w'=>e=.returned (.bool (allB c d Z n))∧Below w.heap.size w w':=by
 have HR:Hid (∀ k j,k<n→j<5→w.cell? (zA b (o+k * 5+j))=some (zI (Z k j))):=hr
 clear hr
 go_enter Tryz.func118,Tryz.ntmps118
 go_wp2
 go_loopw [9] (fun i wr=>∃ k:Nat,k≤n∧i=zI k∧allB c d Z k=true∧((∀ b o,b<w.heap.size+1→wr.cell? (zA b o)=(w.alloc (.cells #[zI c,zI d] 44)).cell? (zA b o))∧w.heap.size+1≤wr.heap.size)∧Below w.heap.size w wr) (fun i _=>n - (intOf i).toNat)
 case atStart=>exact ⟨0,Nat.zero_le _,rfl,rfl,⟨fun _ _ _=>rfl,by simp⟩,(Below.refl _ _).alloc (by simp) _⟩
 case round =>
  obtain ⟨k,hk,rfl,hall,HS,BR⟩:=hrel
  by_cases hkn:k<n
  ·have c0:w.cell? (zA b (o+k * 5))=some (zI (Z k 0)):=HR.out k 0 hkn (by omega)
   have c1:w.cell? (zA b (o+k * 5+1))=some (zI (Z k 1)):=HR.out k 1 hkn (by omega)
   have c2:w.cell? (zA b (o+k * 5+2))=some (zI (Z k 2)):=HR.out k 2 hkn (by omega)
   have c3:w.cell? (zA b (o+k * 5+3))=some (zI (Z k 3)):=HR.out k 3 hkn (by omega)
   have c4:w.cell? (zA b (o+k * 5+4))=some (zI (Z k 4)):=HR.out k 4 hkn (by omega)
   have cp:w.cell? ⟨b,o+(k - 1) * 5,none⟩=some (zI (Z (k - 1) 0)):=HR.out (k - 1) 0 (by omega) (by omega)
   have hb1:b<w.heap.size+1:=by omega
   have HALL:Hid (allB c d Z k=true):=hall
   clear hall
   have hmw:w.heap.size<wr.heap.size:=HS.2
   have hbwr:b<wr.heap.size:=by omega
   replace c0:=(BR.cell (p:=(zA b (o+k * 5))) hb).trans c0
   replace c1:=(BR.cell (p:=(zA b (o+k * 5+1))) hb).trans c1
   replace c2:=(BR.cell (p:=(zA b (o+k * 5+2))) hb).trans c2
   replace c3:=(BR.cell (p:=(zA b (o+k * 5+3))) hb).trans c3
   replace c4:=(BR.cell (p:=(zA b (o+k * 5+4))) hb).trans c4
   replace cp:=(BR.cell (p:=⟨b,o+(k - 1) * 5,none⟩) hb).trans cp
   have m0:wr.cell? (zA w.heap.size 0)=some (zI c):=(HS.1 w.heap.size 0 (by omega)).trans (by simp)
   have m1:wr.cell? (zA w.heap.size 1)=some (zI d):=(HS.1 w.heap.size 1 (by omega)).trans (by simp)
   have BR1:Below w.heap.size w (wr.alloc (.cells (zF (Z k)).toArray 48)):=BR.alloc (Nat.le_of_lt hmw) _
   have HSH:Hid (((∀ b o,b<w.heap.size+1→wr.cell? (zA b o)=(w.alloc (.cells #[zI c,zI d] 44)).cell? (zA b o))∧w.heap.size+1≤wr.heap.size)):=HS
   clear HS BR
   cases hok:wlkB c d (Z k 0) (Z k 1) (Z k 2) (Z k 3) (Z k 4)
   ·have EG:Hid (goodB c d Z k=false):=by show goodB c d Z k=_;unfold goodB wkB;rw [hok];rfl
    go_wp2
    refine wp_region_held_drew (S:=fun w'=>(∀ b o,b<wr.heap.size+1→w'.cell? (zA b o)=(wr.alloc (.cells (zF (Z k)).toArray 48)).cell? (zA b o))∧wr.heap.size+1≤w'.heap.size) (by kernel_rfl) ⟨fun _ _ _=>rfl,by simp⟩ ?_
    intro hHeld
    refine tka 0 (.agg #[zI c,zI d]) rfl ?_
    try simp only [aT]
    refine tka 1 (.agg (zF (Z k)).toArray) rfl ?_
    try simp only [aT]
    refine rd1 2 rfl fun K hK=>?_
    go_simp
    go_wp2_with (go_at_call 142;refine (wlkOk_impl _ _ _ _ _ _ _ _).mono ?_;rintro e w2 ⟨rfl,hbw2⟩)
    refine hK.out _ _ (keepS (by assumption) hbw2) (fun hHeld=>?_)
    clear hK K
    try simp only [aT]
    refine tka 3 (.bool true) rfl ?_
    try simp only [aT]
    refine tka 4 (.bool true) rfl ?_
    try simp only [aT]
    refine tkr 5 rfl ?_
    try simp only [aT]
    refine tkr 6 rfl ?_
    try simp only [aT]
    refine tkr 7 rfl ?_
    try simp only [aT]
    refine tkr 8 rfl ?_
    try simp only [aT]
    refine tkr 9 rfl ?_
    try simp only [aT]
    refine tkr 10 rfl ?_
    try simp only [aT]
    refine tkr 11 rfl ?_
    try simp only [aT]
    refine tkr 12 rfl ?_
    try simp only [aT]
    refine tkr 13 rfl ?_
    try simp only [aT]
    refine tkr 14 rfl ?_
    try simp only [aT]
    refine tkr 15 rfl ?_
    try simp only [aT]
    refine tkr 16 rfl ?_
    try simp only [aT]
    refine tkr 17 rfl ?_
    try simp only [aT]
    refine tka 18 (.bool true) rfl ?_
    try simp only [aT]
    refine wpAnyH_done (by kernel_rfl) ?_ _
    go_wp2
    go_ret
    exact ⟨by rw [allB_stop HALL.out hkn EG.out];rfl,by repeat (first | exact BR1 | refine bthen ?_ (by assumption) | apply Below.drew)⟩
   ·by_cases hk0:k=0
    ·have EG:Hid (goodB c d Z k=true):=by show goodB c d Z k=_;unfold goodB wkB;rw [hok];simp [hk0]
     have hkf:¬ 0<k:=by omega
     clear hk0
     go_wp2
     refine wp_region_held_drew (S:=fun w'=>(∀ b o,b<wr.heap.size+1→w'.cell? (zA b o)=(wr.alloc (.cells (zF (Z k)).toArray 48)).cell? (zA b o))∧wr.heap.size+1≤w'.heap.size) (by kernel_rfl) ⟨fun _ _ _=>rfl,by simp⟩ ?_
     intro hHeld
     refine tka 0 (.agg #[zI c,zI d]) rfl ?_
     try simp only [aT]
     refine tka 1 (.agg (zF (Z k)).toArray) rfl ?_
     try simp only [aT]
     refine rd1 2 rfl fun K hK=>?_
     go_simp
     go_wp2_with (go_at_call 142;refine (wlkOk_impl _ _ _ _ _ _ _ _).mono ?_;rintro e w2 ⟨rfl,hbw2⟩)
     refine hK.out _ _ (keepS (by assumption) hbw2) (fun hHeld=>?_)
     clear hK K
     try simp only [aT]
     refine tka 3 (.bool false) rfl ?_
     try simp only [aT]
     refine tka 4 (.bool false) rfl ?_
     try simp only [aT]
     refine tka 5 (zI (k:Int)) rfl ?_
     try simp only [aT]
     refine tkl 6 (.bool false) rfl ?_ ?_
     ·intro wx hSw;go_simp <;> omega
     try simp only [aT]
     refine tka 7 (.bool false) rfl ?_
     try simp only [aT]
     refine tkr 8 rfl ?_
     try simp only [aT]
     refine tkr 9 rfl ?_
     try simp only [aT]
     refine tkr 10 rfl ?_
     try simp only [aT]
     refine tkr 11 rfl ?_
     try simp only [aT]
     refine tkr 12 rfl ?_
     try simp only [aT]
     refine tkr 13 rfl ?_
     try simp only [aT]
     refine tkr 14 rfl ?_
     try simp only [aT]
     refine tkr 15 rfl ?_
     try simp only [aT]
     refine tkr 16 rfl ?_
     try simp only [aT]
     refine tka 17 (.bool false) rfl ?_
     try simp only [aT]
     refine tka 18 (.bool false) rfl ?_
     try simp only [aT]
     refine wpAnyH_done (by kernel_rfl) ?_ _
     go_wp2
     go_roundw
     case rel=>exact ⟨k+1,by omega,by go_num,allB_step HALL.out EG.out,keep_down HSH.out (by assumption),by repeat (first | exact BR1 | refine bthen ?_ (by assumption) | apply Below.drew)⟩
     case measure=>simp [intOf];omega
    ·by_cases hlt:Z (k - 1) 0<Z k 0
     ·have EG:Hid (goodB c d Z k=true):=by show goodB c d Z k=_;unfold goodB wkB;rw [hok];simp [hlt]
      go_wp2
      refine wp_region_held_drew (S:=fun w'=>(∀ b o,b<wr.heap.size+1→w'.cell? (zA b o)=(wr.alloc (.cells (zF (Z k)).toArray 48)).cell? (zA b o))∧wr.heap.size+1≤w'.heap.size) (by kernel_rfl) ⟨fun _ _ _=>rfl,by simp⟩ ?_
      intro hHeld
      refine tka 0 (.agg #[zI c,zI d]) rfl ?_
      try simp only [aT]
      refine tka 1 (.agg (zF (Z k)).toArray) rfl ?_
      try simp only [aT]
      refine rd1 2 rfl fun K hK=>?_
      go_simp
      go_wp2_with (go_at_call 142;refine (wlkOk_impl _ _ _ _ _ _ _ _).mono ?_;rintro e w2 ⟨rfl,hbw2⟩)
      refine hK.out _ _ (keepS (by assumption) hbw2) (fun hHeld=>?_)
      clear hK K
      try simp only [aT]
      refine tka 3 (.bool false) rfl ?_
      try simp only [aT]
      refine tka 4 (.bool false) rfl ?_
      try simp only [aT]
      refine tka 5 (zI (k:Int)) rfl ?_
      try simp only [aT]
      refine tkl 6 (.bool true) rfl ?_ ?_
      ·intro wx hSw;go_simp <;> omega
      try simp only [aT]
      refine tka 7 (.bool true) rfl ?_
      try simp only [aT]
      refine tka 8 (.slice (some (zA b o)) n cap) rfl ?_
      try simp only [aT]
      refine tka 9 (zI (k:Int)) rfl ?_
      try simp only [aT]
      refine tkl 10 (zI ((k:Int) - 1)) rfl ?_ ?_
      ·intro wx hSw;go_simp;rw [IntKind.wrap_i64];omega
      try simp only [aT]
      refine tkl 11 (.pointer (some ⟨b,o+(k - 1) * 5,none⟩)) rfl ?_ ?_
      ·intro wx hSw;go_simp;intro h;omega
      try simp only [aT]
      refine tka 12 (.pointer (some ⟨b,o+(k - 1) * 5,none⟩)) rfl ?_
      try simp only [aT]
      refine tka 13 (zI (Z (k - 1) 0)) rfl ?_
      try simp only [aT]
      refine tka 14 (zP wr.heap.size 0) rfl ?_
      try simp only [aT]
      refine tka 15 (zI (Z k 0)) rfl ?_
      try simp only [aT]
      refine tka 16 (.bool false) rfl ?_
      try simp only [aT]
      refine tka 17 (.bool false) rfl ?_
      try simp only [aT]
      refine tka 18 (.bool false) rfl ?_
      try simp only [aT]
      refine wpAnyH_done (by kernel_rfl) ?_ _
      go_wp2
      go_roundw
      case rel=>exact ⟨k+1,by omega,by go_num,allB_step HALL.out EG.out,keep_down HSH.out (by assumption),by repeat (first | exact BR1 | refine bthen ?_ (by assumption) | apply Below.drew)⟩
      case measure=>simp [intOf];omega
     ·have EG:Hid (goodB c d Z k=false):=by show goodB c d Z k=_;unfold goodB wkB;rw [hok];simp [hk0,hlt]
      go_wp2
      refine wp_region_held_drew (S:=fun w'=>(∀ b o,b<wr.heap.size+1→w'.cell? (zA b o)=(wr.alloc (.cells (zF (Z k)).toArray 48)).cell? (zA b o))∧wr.heap.size+1≤w'.heap.size) (by kernel_rfl) ⟨fun _ _ _=>rfl,by simp⟩ ?_
      intro hHeld
      refine tka 0 (.agg #[zI c,zI d]) rfl ?_
      try simp only [aT]
      refine tka 1 (.agg (zF (Z k)).toArray) rfl ?_
      try simp only [aT]
      refine rd1 2 rfl fun K hK=>?_
      go_simp
      go_wp2_with (go_at_call 142;refine (wlkOk_impl _ _ _ _ _ _ _ _).mono ?_;rintro e w2 ⟨rfl,hbw2⟩)
      refine hK.out _ _ (keepS (by assumption) hbw2) (fun hHeld=>?_)
      clear hK K
      try simp only [aT]
      refine tka 3 (.bool false) rfl ?_
      try simp only [aT]
      refine tka 4 (.bool false) rfl ?_
      try simp only [aT]
      refine tka 5 (zI (k:Int)) rfl ?_
      try simp only [aT]
      refine tkl 6 (.bool true) rfl ?_ ?_
      ·intro wx hSw;go_simp <;> omega
      try simp only [aT]
      refine tka 7 (.bool true) rfl ?_
      try simp only [aT]
      refine tka 8 (.slice (some (zA b o)) n cap) rfl ?_
      try simp only [aT]
      refine tka 9 (zI (k:Int)) rfl ?_
      try simp only [aT]
      refine tkl 10 (zI ((k:Int) - 1)) rfl ?_ ?_
      ·intro wx hSw;go_simp;rw [IntKind.wrap_i64];omega
      try simp only [aT]
      refine tkl 11 (.pointer (some ⟨b,o+(k - 1) * 5,none⟩)) rfl ?_ ?_
      ·intro wx hSw;go_simp;intro h;omega
      try simp only [aT]
      refine tka 12 (.pointer (some ⟨b,o+(k - 1) * 5,none⟩)) rfl ?_
      try simp only [aT]
      refine tka 13 (zI (Z (k - 1) 0)) rfl ?_
      try simp only [aT]
      refine tka 14 (zP wr.heap.size 0) rfl ?_
      try simp only [aT]
      refine tka 15 (zI (Z k 0)) rfl ?_
      try simp only [aT]
      refine tka 16 (.bool true) rfl ?_
      try simp only [aT]
      refine tka 17 (.bool true) rfl ?_
      try simp only [aT]
      refine tka 18 (.bool true) rfl ?_
      try simp only [aT]
      refine wpAnyH_done (by kernel_rfl) ?_ _
      go_wp2
      go_ret
      exact ⟨by rw [allB_stop HALL.out hkn EG.out];rfl,by repeat (first | exact BR1 | refine bthen ?_ (by assumption) | apply Below.drew)⟩
  ·have:k=n:=by omega
   subst this
   go_wp2
   go_ret
   exact ⟨by rw [hall];rfl,by repeat (first | exact BR | refine bthen ?_ (by assumption) | apply Below.drew)⟩
