/- The walks of the two OrdOk; conditions: none. -/
import Derived.Test.YtngaboipleimcaaGreatDoorOrd1
namespace Go.Proofs.YtngaboipleimcaaGreatDoor
open Go.RowKit
set_option linter.unusedVariables false
def kindB (who k to n:Int):Bool :=
 if k=1 then sideB to && n == 0 else if k=2 then inB to 1 9 && (to != who && inB n 1 9) else if k=3 then to == 0 && inB n 1 9 else if k=4 then to == 0 && inB n 1 9 else
 if k=5 then sideB to && inB n 1 9 else if k=6 then to == 0 && n == 0 else false
def ordB (who seq k to n:Int):Bool:=inB who 1 9 && (inB seq 1 900 && kindB who k to n)
theorem ordOk_spec (who seq k to n:Int) (w:World) :
 Calls Tryz.prog 76 #[.agg #[zI who,zI seq,zI k,zI to,zI n]] w fun e w'=>e=.returned (.bool (ordB who seq k to n))∧Below w.heap.size w w':=by
 have hk:k=1∨k=2∨k=3∨k=4∨k=5∨k=6∨(k≠1∧k≠2∧k≠3∧k≠4∧k≠5∧k≠6):=by omega
 go_enter Tryz.func76,Tryz.ntmps76
 go_wp2_with (go_at_call 65;refine (in_spec _ _ _ _).mono ?_;rintro e w' ⟨rfl,rfl⟩)
 all_goals (go_ret;exact ⟨by simp_all [ordB,kindB,sideB],(Below.refl _ _).alloc (by simp) _⟩)
theorem in_T {n lo hi:Int} {b:Bool} (h:inB n lo hi=b) (w:World) :
 Calls Tryz.prog 87 #[zI n,zI lo,zI hi] w fun e w'=>e=.returned (.bool b)∧Below w.heap.size w w' :=
 (in_impl n lo hi w).mono (by rintro e w' ⟨rfl,rfl⟩;exact ⟨by rw [h],Below.refl _ _⟩)
set_option maxRecDepth 100000 in
set_option maxHeartbeats 2000000 in
theorem ordOk_gen (who seq k to n to2 n2:Int) (t:TypeId) (V:Value) (ff:Nat) (fb:Bool) (hd:deedV k to n=.iface t V)
 (hm:∀ (w:World),(method 386 t V "loop.example/landmarch/impl.fits").run Tryz.prog w=.ok (ff,V) w)
 (hcf:∀ (a:Array Value) (w:World),(callFunc ff a).run Tryz.prog w=.ok (.enter ff a) w)
 (hfit:∀ w:World,Calls Tryz.prog ff #[V,zI who] w fun e w'=>e=.returned (.bool fb)∧Below w.heap.size w w')
 (hord:∀ w:World,Calls Tryz.prog 122 #[zI who,zI seq,.iface t V] w fun e w'=>e=.returned (.agg #[zI who,zI seq,zI k,zI to2,zI n2])∧Below w.heap.size w w')
 (w:World) :
 Calls Tryz.prog 91 #[.agg #[zI who,zI seq,zI k,zI to,zI n]] w fun e w'=>e=.returned (.bool (inB who 1 9 && (inB seq 1 900 && (fb && (to == to2 && n == n2)))))∧Below w.heap.size w w':=by
 cases h1:inB who 1 9
 ·skip
  go_enter Tryz.func91,Tryz.ntmps91
  go_wp2_with (go_at_call 121;refine (deedOf _ _ _ _ _ _).mono ?_;rintro e w1 ⟨rfl,hb1⟩;rw [hd])
  obtain ⟨hc1,hf1⟩:=bcell hb1
  have hlt:w.heap.size<w1.heap.size:=Nat.lt_of_lt_of_le (by simp) hb1.size
  have x0:w1.cell? (zA w.heap.size 0)=some (zI who):=by rw [hc1 _ _ (by simp)];simp
  have x1:w1.cell? (zA w.heap.size 1)=some (zI seq):=by rw [hc1 _ _ (by simp)];simp
  have x2:w1.cell? (zA w.heap.size 2)=some (zI k):=by rw [hc1 _ _ (by simp)];simp
  have x3:w1.cell? (zA w.heap.size 3)=some (zI to):=by rw [hc1 _ _ (by simp)];simp
  have x4:w1.cell? (zA w.heap.size 4)=some (zI n):=by rw [hc1 _ _ (by simp)];simp
  clear hc1 hf1
  refine wp_region_held_drew (S:=fun w'=>(∀ b o,b<w1.heap.size→w'.cell? (zA b o)=w1.cell? (zA b o))∧w1.heap.size≤w'.heap.size) (by kernel_rfl) ⟨fun _ _ _=>rfl,Nat.le_refl _⟩ ?_
  intro hHeld
  refine tka 0 (.iface t V) rfl ?_
  try simp only [aT]
  refine tka 1 (.bool true) rfl ?_
  try simp only [aT]
  refine tka 2 (.bool true) rfl ?_
  try simp only [aT]
  refine tka 3 (zP w.heap.size 0) rfl ?_
  try simp only [aT]
  refine tka 4 (zI who) rfl ?_
  try simp only [aT]
  refine rd1 5 rfl fun K hK=>?_
  go_simp
  go_wp2_with (go_at_call 87;refine (in_T h1 _).mono ?_;rintro e wa ⟨rfl,hbwa⟩)
  refine hK.out _ _ (keepS (by assumption) hbwa) (fun hHeld=>?_)
  clear hK K
  try simp only [aT]
  refine tka 6 (.bool false) rfl ?_
  try simp only [aT]
  refine tka 7 (.bool false) rfl ?_
  try simp only [aT]
  refine tkr 8 rfl ?_
  try simp only [aT]
  refine tkr 9 rfl ?_
  try simp only [aT]
  refine tkr 10 rfl ?_
  try simp only [aT]
  refine tka 11 (.bool false) rfl ?_
  try simp only [aT]
  refine tka 12 (.bool false) rfl ?_
  try simp only [aT]
  refine tkr 13 rfl ?_
  try simp only [aT]
  refine tkr 14 rfl ?_
  try simp only [aT]
  refine tkr 15 rfl ?_
  try simp only [aT]
  refine tkr 16 rfl ?_
  try simp only [aT]
  refine tka 17 (.bool false) rfl ?_
  try simp only [aT]
  refine tka 18 (.bool false) rfl ?_
  try simp only [aT]
  refine tkr 19 rfl ?_
  try simp only [aT]
  refine tkr 20 rfl ?_
  try simp only [aT]
  refine tkr 21 rfl ?_
  try simp only [aT]
  refine tkr 22 rfl ?_
  try simp only [aT]
  refine tkr 23 rfl ?_
  try simp only [aT]
  refine tkr 24 rfl ?_
  try simp only [aT]
  refine tkr 25 rfl ?_
  try simp only [aT]
  refine tkr 26 rfl ?_
  try simp only [aT]
  refine tka 27 (.bool false) rfl ?_
  try simp only [aT]
  refine tka 28 (.bool false) rfl ?_
  try simp only [aT]
  refine wpAnyH_done (by kernel_rfl) ?_ _
  go_wp2
  go_ret
  exact ⟨by simp,by repeat (first | exact Below.refl _ _ | refine bthen ?_ (by assumption) | apply Below.drew | apply bdrewN | refine Below.alloc ?_ (by simp <;> omega) _)⟩
 ·cases h2:inB seq 1 900
  ·skip
   go_enter Tryz.func91,Tryz.ntmps91
   go_wp2_with (go_at_call 121;refine (deedOf _ _ _ _ _ _).mono ?_;rintro e w1 ⟨rfl,hb1⟩;rw [hd])
   obtain ⟨hc1,hf1⟩:=bcell hb1
   have hlt:w.heap.size<w1.heap.size:=Nat.lt_of_lt_of_le (by simp) hb1.size
   have x0:w1.cell? (zA w.heap.size 0)=some (zI who):=by rw [hc1 _ _ (by simp)];simp
   have x1:w1.cell? (zA w.heap.size 1)=some (zI seq):=by rw [hc1 _ _ (by simp)];simp
   have x2:w1.cell? (zA w.heap.size 2)=some (zI k):=by rw [hc1 _ _ (by simp)];simp
   have x3:w1.cell? (zA w.heap.size 3)=some (zI to):=by rw [hc1 _ _ (by simp)];simp
   have x4:w1.cell? (zA w.heap.size 4)=some (zI n):=by rw [hc1 _ _ (by simp)];simp
   clear hc1 hf1
   refine wp_region_held_drew (S:=fun w'=>(∀ b o,b<w1.heap.size→w'.cell? (zA b o)=w1.cell? (zA b o))∧w1.heap.size≤w'.heap.size) (by kernel_rfl) ⟨fun _ _ _=>rfl,Nat.le_refl _⟩ ?_
   intro hHeld
   refine tka 0 (.iface t V) rfl ?_
   try simp only [aT]
   refine tka 1 (.bool true) rfl ?_
   try simp only [aT]
   refine tka 2 (.bool true) rfl ?_
   try simp only [aT]
   refine tka 3 (zP w.heap.size 0) rfl ?_
   try simp only [aT]
   refine tka 4 (zI who) rfl ?_
   try simp only [aT]
   refine rd1 5 rfl fun K hK=>?_
   go_simp
   go_wp2_with (go_at_call 87;refine (in_T h1 _).mono ?_;rintro e wa ⟨rfl,hbwa⟩)
   refine hK.out _ _ (keepS (by assumption) hbwa) (fun hHeld=>?_)
   clear hK K
   try simp only [aT]
   refine tka 6 (.bool true) rfl ?_
   try simp only [aT]
   refine tka 7 (.bool true) rfl ?_
   try simp only [aT]
   refine tka 8 (zP w.heap.size 1) rfl ?_
   try simp only [aT]
   refine tka 9 (zI seq) rfl ?_
   try simp only [aT]
   refine rd1 10 rfl fun K hK=>?_
   go_simp
   go_wp2_with (go_at_call 87;refine (in_T h2 _).mono ?_;rintro e wb ⟨rfl,hbwb⟩)
   refine hK.out _ _ (keepS (by assumption) hbwb) (fun hHeld=>?_)
   clear hK K
   try simp only [aT]
   refine tka 11 (.bool false) rfl ?_
   try simp only [aT]
   refine tka 12 (.bool false) rfl ?_
   try simp only [aT]
   refine tkr 13 rfl ?_
   try simp only [aT]
   refine tkr 14 rfl ?_
   try simp only [aT]
   refine tkr 15 rfl ?_
   try simp only [aT]
   refine tkr 16 rfl ?_
   try simp only [aT]
   refine tka 17 (.bool false) rfl ?_
   try simp only [aT]
   refine tka 18 (.bool false) rfl ?_
   try simp only [aT]
   refine tkr 19 rfl ?_
   try simp only [aT]
   refine tkr 20 rfl ?_
   try simp only [aT]
   refine tkr 21 rfl ?_
   try simp only [aT]
   refine tkr 22 rfl ?_
   try simp only [aT]
   refine tkr 23 rfl ?_
   try simp only [aT]
   refine tkr 24 rfl ?_
   try simp only [aT]
   refine tkr 25 rfl ?_
   try simp only [aT]
   refine tkr 26 rfl ?_
   try simp only [aT]
   refine tka 27 (.bool false) rfl ?_
   try simp only [aT]
   refine tka 28 (.bool false) rfl ?_
   try simp only [aT]
   refine wpAnyH_done (by kernel_rfl) ?_ _
   go_wp2
   go_ret
   exact ⟨by simp,by repeat (first | exact Below.refl _ _ | refine bthen ?_ (by assumption) | apply Below.drew | apply bdrewN | refine Below.alloc ?_ (by simp <;> omega) _)⟩
  ·cases h3:fb
   ·rw [h3] at hfit
    go_enter Tryz.func91,Tryz.ntmps91
    go_wp2_with (go_at_call 121;refine (deedOf _ _ _ _ _ _).mono ?_;rintro e w1 ⟨rfl,hb1⟩;rw [hd])
    obtain ⟨hc1,hf1⟩:=bcell hb1
    have hlt:w.heap.size<w1.heap.size:=Nat.lt_of_lt_of_le (by simp) hb1.size
    have x0:w1.cell? (zA w.heap.size 0)=some (zI who):=by rw [hc1 _ _ (by simp)];simp
    have x1:w1.cell? (zA w.heap.size 1)=some (zI seq):=by rw [hc1 _ _ (by simp)];simp
    have x2:w1.cell? (zA w.heap.size 2)=some (zI k):=by rw [hc1 _ _ (by simp)];simp
    have x3:w1.cell? (zA w.heap.size 3)=some (zI to):=by rw [hc1 _ _ (by simp)];simp
    have x4:w1.cell? (zA w.heap.size 4)=some (zI n):=by rw [hc1 _ _ (by simp)];simp
    clear hc1 hf1
    refine wp_region_held_drew (S:=fun w'=>(∀ b o,b<w1.heap.size→w'.cell? (zA b o)=w1.cell? (zA b o))∧w1.heap.size≤w'.heap.size) (by kernel_rfl) ⟨fun _ _ _=>rfl,Nat.le_refl _⟩ ?_
    intro hHeld
    refine tka 0 (.iface t V) rfl ?_
    try simp only [aT]
    refine tka 1 (.bool true) rfl ?_
    try simp only [aT]
    refine tka 2 (.bool true) rfl ?_
    try simp only [aT]
    refine tka 3 (zP w.heap.size 0) rfl ?_
    try simp only [aT]
    refine tka 4 (zI who) rfl ?_
    try simp only [aT]
    refine rd1 5 rfl fun K hK=>?_
    go_simp
    go_wp2_with (go_at_call 87;refine (in_T h1 _).mono ?_;rintro e wa ⟨rfl,hbwa⟩)
    refine hK.out _ _ (keepS (by assumption) hbwa) (fun hHeld=>?_)
    clear hK K
    try simp only [aT]
    refine tka 6 (.bool true) rfl ?_
    try simp only [aT]
    refine tka 7 (.bool true) rfl ?_
    try simp only [aT]
    refine tka 8 (zP w.heap.size 1) rfl ?_
    try simp only [aT]
    refine tka 9 (zI seq) rfl ?_
    try simp only [aT]
    refine rd1 10 rfl fun K hK=>?_
    go_simp
    go_wp2_with (go_at_call 87;refine (in_T h2 _).mono ?_;rintro e wb ⟨rfl,hbwb⟩)
    refine hK.out _ _ (keepS (by assumption) hbwb) (fun hHeld=>?_)
    clear hK K
    try simp only [aT]
    refine tka 11 (.bool true) rfl ?_
    try simp only [aT]
    refine tka 12 (.bool true) rfl ?_
    try simp only [aT]
    refine tka 13 (.iface t V) rfl ?_
    try simp only [aT]
    refine tka 14 (zP w.heap.size 0) rfl ?_
    try simp only [aT]
    refine tka 15 (zI who) rfl ?_
    try simp only [aT]
    refine rd1 16 rfl fun K hK=>?_
    go_simp
    go_wp2_with fail
    refine (hfit _).mono ?_
    rintro e wc ⟨rfl,hbwc⟩
    refine hK.out _ _ (keepS (by assumption) hbwc) (fun hHeld=>?_)
    clear hK K
    try simp only [aT]
    refine tka 17 (.bool false) rfl ?_
    try simp only [aT]
    refine tka 18 (.bool false) rfl ?_
    try simp only [aT]
    refine tkr 19 rfl ?_
    try simp only [aT]
    refine tkr 20 rfl ?_
    try simp only [aT]
    refine tkr 21 rfl ?_
    try simp only [aT]
    refine tkr 22 rfl ?_
    try simp only [aT]
    refine tkr 23 rfl ?_
    try simp only [aT]
    refine tkr 24 rfl ?_
    try simp only [aT]
    refine tkr 25 rfl ?_
    try simp only [aT]
    refine tkr 26 rfl ?_
    try simp only [aT]
    refine tka 27 (.bool false) rfl ?_
    try simp only [aT]
    refine tka 28 (.bool false) rfl ?_
    try simp only [aT]
    refine wpAnyH_done (by kernel_rfl) ?_ _
    go_wp2
    go_ret
    exact ⟨by simp,by repeat (first | exact Below.refl _ _ | refine bthen ?_ (by assumption) | apply Below.drew | apply bdrewN | refine Below.alloc ?_ (by simp <;> omega) _)⟩
   ·rw [h3] at hfit
    go_enter Tryz.func91,Tryz.ntmps91
    go_wp2_with (go_at_call 121;refine (deedOf _ _ _ _ _ _).mono ?_;rintro e w1 ⟨rfl,hb1⟩;rw [hd])
    obtain ⟨hc1,hf1⟩:=bcell hb1
    have hlt:w.heap.size<w1.heap.size:=Nat.lt_of_lt_of_le (by simp) hb1.size
    have x0:w1.cell? (zA w.heap.size 0)=some (zI who):=by rw [hc1 _ _ (by simp)];simp
    have x1:w1.cell? (zA w.heap.size 1)=some (zI seq):=by rw [hc1 _ _ (by simp)];simp
    have x2:w1.cell? (zA w.heap.size 2)=some (zI k):=by rw [hc1 _ _ (by simp)];simp
    have x3:w1.cell? (zA w.heap.size 3)=some (zI to):=by rw [hc1 _ _ (by simp)];simp
    have x4:w1.cell? (zA w.heap.size 4)=some (zI n):=by rw [hc1 _ _ (by simp)];simp
    clear hc1 hf1
    refine wp_region_held_drew (S:=fun w'=>(∀ b o,b<w1.heap.size→w'.cell? (zA b o)=w1.cell? (zA b o))∧w1.heap.size≤w'.heap.size) (by kernel_rfl) ⟨fun _ _ _=>rfl,Nat.le_refl _⟩ ?_
    intro hHeld
    refine tka 0 (.iface t V) rfl ?_
    try simp only [aT]
    refine tka 1 (.bool true) rfl ?_
    try simp only [aT]
    refine tka 2 (.bool true) rfl ?_
    try simp only [aT]
    refine tka 3 (zP w.heap.size 0) rfl ?_
    try simp only [aT]
    refine tka 4 (zI who) rfl ?_
    try simp only [aT]
    refine rd1 5 rfl fun K hK=>?_
    go_simp
    go_wp2_with (go_at_call 87;refine (in_T h1 _).mono ?_;rintro e wa ⟨rfl,hbwa⟩)
    refine hK.out _ _ (keepS (by assumption) hbwa) (fun hHeld=>?_)
    clear hK K
    try simp only [aT]
    refine tka 6 (.bool true) rfl ?_
    try simp only [aT]
    refine tka 7 (.bool true) rfl ?_
    try simp only [aT]
    refine tka 8 (zP w.heap.size 1) rfl ?_
    try simp only [aT]
    refine tka 9 (zI seq) rfl ?_
    try simp only [aT]
    refine rd1 10 rfl fun K hK=>?_
    go_simp
    go_wp2_with (go_at_call 87;refine (in_T h2 _).mono ?_;rintro e wb ⟨rfl,hbwb⟩)
    refine hK.out _ _ (keepS (by assumption) hbwb) (fun hHeld=>?_)
    clear hK K
    try simp only [aT]
    refine tka 11 (.bool true) rfl ?_
    try simp only [aT]
    refine tka 12 (.bool true) rfl ?_
    try simp only [aT]
    refine tka 13 (.iface t V) rfl ?_
    try simp only [aT]
    refine tka 14 (zP w.heap.size 0) rfl ?_
    try simp only [aT]
    refine tka 15 (zI who) rfl ?_
    try simp only [aT]
    refine rd1 16 rfl fun K hK=>?_
    go_simp
    go_wp2_with fail
    refine (hfit _).mono ?_
    rintro e wc ⟨rfl,hbwc⟩
    refine hK.out _ _ (keepS (by assumption) hbwc) (fun hHeld=>?_)
    clear hK K
    try simp only [aT]
    refine tka 17 (.bool true) rfl ?_
    try simp only [aT]
    refine tka 18 (.bool true) rfl ?_
    try simp only [aT]
    refine tka 19 (zP w.heap.size 0) rfl ?_
    try simp only [aT]
    refine tka 20 (zI who) rfl ?_
    try simp only [aT]
    refine tka 21 (zP w.heap.size 1) rfl ?_
    try simp only [aT]
    refine tka 22 (zI seq) rfl ?_
    try simp only [aT]
    refine tka 23 (.iface t V) rfl ?_
    try simp only [aT]
    refine tka 25 (.agg #[zI who,zI seq,zI k,zI to,zI n]) rfl ?_
    try simp only [aT]
    refine rd1 24 rfl fun K hK=>?_
    go_simp
    go_wp2_with (go_at_call 122;refine (hord _).mono ?_;rintro e wd ⟨rfl,hbwd⟩)
    refine hK.out _ _ (keepS (by assumption) hbwd) (fun hHeld=>?_)
    clear hK K
    try simp only [aT]
    refine tkl 26 (.bool (to == to2 && n == n2)) rfl ?_ ?_
    ·intro wx hSw;first | (go_simp;done) | (go_simp;(repeat' split) <;> first | (simp_all;done) | (simp_all;omega))
    try simp only [aT]
    refine tka 27 (.bool (to == to2 && n == n2)) rfl ?_
    try simp only [aT]
    refine tka 28 (.bool (to == to2 && n == n2)) rfl ?_
    try simp only [aT]
    refine wpAnyH_done (by kernel_rfl) ?_ _
    go_wp2
    go_ret
    exact ⟨by simp,by repeat (first | exact Below.refl _ _ | refine bthen ?_ (by assumption) | apply Below.drew | apply bdrewN | refine Below.alloc ?_ (by simp <;> omega) _)⟩
theorem ordOk_step (who seq to n:Int) (w:World) :
 Calls Tryz.prog 91 #[.agg #[zI who,zI seq,zI 1,zI to,zI n]] w fun e w'=>e=.returned (.bool (ordB who seq 1 to n))∧Below w.heap.size w w' :=
 (ordOk_gen who seq 1 to n to 0 179 (.agg #[zI to]) 210 _ rfl (fun _=>by kernel_rfl) (fun _ _=>by kernel_rfl) (fits_step to who) (order_step who seq to n) w).mono
  (by rintro e w' ⟨rfl,hb⟩;exact ⟨by simp [ordB,kindB],hb⟩)
theorem ordOk_give (who seq to n:Int) (w:World) :
 Calls Tryz.prog 91 #[.agg #[zI who,zI seq,zI 2,zI to,zI n]] w fun e w'=>e=.returned (.bool (ordB who seq 2 to n))∧Below w.heap.size w w' :=
 (ordOk_gen who seq 2 to n to n 181 (.agg #[zI to,zI n]) 212 _ rfl (fun _=>by kernel_rfl) (fun _ _=>by kernel_rfl) (fits_give to n who) (order_give who seq to n) w).mono
  (by rintro e w' ⟨rfl,hb⟩;exact ⟨by simp [ordB,kindB],hb⟩)
theorem ordOk_drop (who seq to n:Int) (w:World) :
 Calls Tryz.prog 91 #[.agg #[zI who,zI seq,zI 3,zI to,zI n]] w fun e w'=>e=.returned (.bool (ordB who seq 3 to n))∧Below w.heap.size w w' :=
 (ordOk_gen who seq 3 to n 0 n 183 (.agg #[zI n]) 215 _ rfl (fun _=>by kernel_rfl) (fun _ _=>by kernel_rfl) (fits_drop n who) (order_drop who seq to n) w).mono
  (by rintro e w' ⟨rfl,hb⟩;exact ⟨by simp [ordB,kindB,Bool.and_comm],hb⟩)
theorem ordOk_pick (who seq to n:Int) (w:World) :
 Calls Tryz.prog 91 #[.agg #[zI who,zI seq,zI 4,zI to,zI n]] w fun e w'=>e=.returned (.bool (ordB who seq 4 to n))∧Below w.heap.size w w' :=
 (ordOk_gen who seq 4 to n 0 n 184 (.agg #[zI n]) 217 _ rfl (fun _=>by kernel_rfl) (fun _ _=>by kernel_rfl) (fits_pick n who) (order_pick who seq to n) w).mono
  (by rintro e w' ⟨rfl,hb⟩;exact ⟨by simp [ordB,kindB,Bool.and_comm],hb⟩)
theorem ordOk_throw (who seq to n:Int) (w:World) :
 Calls Tryz.prog 91 #[.agg #[zI who,zI seq,zI 5,zI to,zI n]] w fun e w'=>e=.returned (.bool (ordB who seq 5 to n))∧Below w.heap.size w w' :=
 (ordOk_gen who seq 5 to n to n 186 (.agg #[zI to,zI n]) 219 _ rfl (fun _=>by kernel_rfl) (fun _ _=>by kernel_rfl) (fits_throw to n who) (order_throw who seq to n) w).mono
  (by rintro e w' ⟨rfl,hb⟩;exact ⟨by simp [ordB,kindB],hb⟩)
theorem ordOk_rest (who seq to n:Int) (w:World) :
 Calls Tryz.prog 91 #[.agg #[zI who,zI seq,zI 6,zI to,zI n]] w fun e w'=>e=.returned (.bool (ordB who seq 6 to n))∧Below w.heap.size w w' :=
 (ordOk_gen who seq 6 to n 0 0 188 (.agg #[]) 221 _ rfl (fun _=>by kernel_rfl) (fun _ _=>by kernel_rfl) (fits_rest who) (order_rest who seq to n) w).mono
  (by rintro e w' ⟨rfl,hb⟩;exact ⟨by simp [ordB,kindB],hb⟩)
set_option maxRecDepth 100000 in
set_option maxHeartbeats 2000000 in
theorem ordOk_none (who seq k to n:Int) (h:k≠1∧k≠2∧k≠3∧k≠4∧k≠5∧k≠6) (w:World) :
 Calls Tryz.prog 91 #[.agg #[zI who,zI seq,zI k,zI to,zI n]] w fun e w'=>e=.returned (.bool (ordB who seq k to n))∧Below w.heap.size w w':=by
 have hd:deedV k to n=.nilIface:=by obtain ⟨a,b,c,d,e,f⟩:=h;simp [deedV, *]
 have hB:Hid (ordB who seq k to n=false):=by obtain ⟨a,b,c,d,e,f⟩:=h;show ordB who seq k to n=false;simp [ordB,kindB, *]
 clear h
 go_enter Tryz.func91,Tryz.ntmps91
 go_wp2_with (go_at_call 121;refine (deedOf _ _ _ _ _ _).mono ?_;rintro e w1 ⟨rfl,hb1⟩;rw [hd])
 refine wp_region_held_drew (S:=fun w'=>(∀ b o,b<w1.heap.size→w'.cell? (zA b o)=w1.cell? (zA b o))∧w1.heap.size≤w'.heap.size) (by kernel_rfl) ⟨fun _ _ _=>rfl,Nat.le_refl _⟩ ?_
 intro hHeld
 refine tka 0 .nilIface rfl ?_
 try simp only [aT]
 refine tka 1 (.bool false) rfl ?_
 try simp only [aT]
 refine tka 2 (.bool false) rfl ?_
 try simp only [aT]
 refine tkr 3 rfl ?_
 try simp only [aT]
 refine tkr 4 rfl ?_
 try simp only [aT]
 refine tkr 5 rfl ?_
 try simp only [aT]
 refine tka 6 (.bool false) rfl ?_
 try simp only [aT]
 refine tka 7 (.bool false) rfl ?_
 try simp only [aT]
 refine tkr 8 rfl ?_
 try simp only [aT]
 refine tkr 9 rfl ?_
 try simp only [aT]
 refine tkr 10 rfl ?_
 try simp only [aT]
 refine tka 11 (.bool false) rfl ?_
 try simp only [aT]
 refine tka 12 (.bool false) rfl ?_
 try simp only [aT]
 refine tkr 13 rfl ?_
 try simp only [aT]
 refine tkr 14 rfl ?_
 try simp only [aT]
 refine tkr 15 rfl ?_
 try simp only [aT]
 refine tkr 16 rfl ?_
 try simp only [aT]
 refine tka 17 (.bool false) rfl ?_
 try simp only [aT]
 refine tka 18 (.bool false) rfl ?_
 try simp only [aT]
 refine tkr 19 rfl ?_
 try simp only [aT]
 refine tkr 20 rfl ?_
 try simp only [aT]
 refine tkr 21 rfl ?_
 try simp only [aT]
 refine tkr 22 rfl ?_
 try simp only [aT]
 refine tkr 23 rfl ?_
 try simp only [aT]
 refine tkr 24 rfl ?_
 try simp only [aT]
 refine tkr 25 rfl ?_
 try simp only [aT]
 refine tkr 26 rfl ?_
 try simp only [aT]
 refine tka 27 (.bool false) rfl ?_
 try simp only [aT]
 refine tka 28 (.bool false) rfl ?_
 try simp only [aT]
 refine wpAnyH_done (by kernel_rfl) ?_ _
 go_wp2
 go_ret
 exact ⟨by rw [hB.out];rfl,by repeat (first | exact Below.refl _ _ | refine bthen ?_ (by assumption) | apply Below.drew | apply bdrewN | refine Below.alloc ?_ (by simp <;> omega) _)⟩
theorem ordOk_impl (who seq k to n:Int) (w:World) :
 Calls Tryz.prog 91 #[.agg #[zI who,zI seq,zI k,zI to,zI n]] w fun e w'=>e=.returned (.bool (ordB who seq k to n))∧Below w.heap.size w w':=by
 by_cases h1:k=1
 ·subst h1;exact ordOk_step who seq to n w
 by_cases h2:k=2
 ·subst h2;exact ordOk_give who seq to n w
 by_cases h3:k=3
 ·subst h3;exact ordOk_drop who seq to n w
 by_cases h4:k=4
 ·subst h4;exact ordOk_pick who seq to n w
 by_cases h5:k=5
 ·subst h5;exact ordOk_throw who seq to n w
 by_cases h6:k=6
 ·subst h6;exact ordOk_rest who seq to n w
 exact ordOk_none who seq k to n ⟨h1,h2,h3,h4,h5,h6⟩ w
