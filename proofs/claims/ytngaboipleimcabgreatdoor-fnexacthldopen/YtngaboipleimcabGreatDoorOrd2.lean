/- The walks of the two OrdOk; conditions: none. -/
import Derived.Test.YtngaboipleimcabGreatDoorWalksD
set_option linter.unusedVariables false
set_option maxRecDepth 100000
set_option maxHeartbeats 2000000
namespace Go.Proofs.YtngaboipleimcabGreatDoor
open Go.RowKit
def ve (s:Int):ByteArray:=if s=0 then ⟨#[108,101,102,116]⟩ else if s=1 then ⟨#[114,105,103,104,116]⟩ else ⟨#[]⟩
def jy (s:Int):Bool:=inB s 0 1
def vN (k to n:Int):Value :=
 if k=1 then .iface 209 (.agg #[zI to]) else if k=2 then .iface 211 (.agg #[zI to,zI n]) else if k=3 then .iface 213 (.agg #[zI n]) else
 if k=4 then .iface 214 (.agg #[zI n]) else if k=5 then .iface 216 (.agg #[zI to,zI n]) else if k=6 then .iface 218 (.agg #[]) else .nilIface
theorem DR (who seq k to n:Int) (w:World) :
 Hz 43 #[.agg #[zI who,zI seq,zI k,zI to,zI n]] w fun e w'=>e=.returned (.agg #[zI who,zI seq,zI k,zI to,zI n])/\Below w.heap.size w w':=by
 go_enter Tryz.func43,Tryz.ntmps43;go_wp2;exact Hw (v:=.agg #[zI who,zI seq,zI k,zI to,zI n]) (by simp [results,Tryz.results43,go_sem]) rfl ⟨rfl,(((Hr _ _).alloc (by simp) _).alloc (by simp) _).alloc (by simp;omega) _⟩
theorem pY (s:Int) (w:World) :
 Hz 156 #[zI s] w fun e w'=>e=.returned (.string (ve s))/\w'=w:=by
 go_enter Tryz.func156,Tryz.ntmps156;go_wp2;all_goals (go_ret;exact ⟨by simp_all [ve],rfl⟩)
theorem qo (s:Int):(ve s).toList.isEmpty=!jy s:=by
 unfold ve jy inB;by_cases h0:s=0
 ·subst h0;decide +kernel
 by_cases h1:s=1
 ·subst h1;decide +kernel
 rw [if_neg h0,if_neg h1];have:¬ (0<=s/\s<=1):=by omega
 rw [decide_eq_false this];decide +kernel
theorem rF (who seq k to n:Int) (w:World) :
 Hz 154 #[.agg #[zI who,zI seq,zI k,zI to,zI n]] w fun e w'=>e=.returned (vN k to n)/\Below w.heap.size w w':=by
 go_enter Tryz.func154,Tryz.ntmps154;go_wp2;all_goals (go_ret;exact ⟨by simp_all [vN],(Hr _ _).alloc (by simp) _⟩)
theorem jc (n:Int) (w:World) :
 Hz 226 #[zI n] w fun e w'=>e=.returned (.bool (inB n 1 9))/\w'=w:=by
 go_enter Tryz.func226,Tryz.ntmps226;go_wp2_with (go_at_call 74;refine (dn _ _ _ _).mono ?_;rintro e w' ⟨rfl,rfl⟩);go_ret;exact ⟨rfl,rfl⟩
theorem Bf (to who:Int) (w:World) :
 Hz 222 #[.agg #[zI to],zI who] w fun e w'=>e=.returned (.bool (jy to))/\Below w.heap.size w w':=by
 go_enter Tryz.func222,Tryz.ntmps222;go_wp2_with (go_at_call 156;refine (pY _ _).mono ?_;rintro e w' ⟨rfl,rfl⟩);go_ret;exact ⟨by have:=qo to;cases h:jy to <;> simp_all,(Hr _ _).alloc (by simp) _⟩
theorem zn (to n who:Int) (w:World) :
 Hz 224 #[.agg #[zI to,zI n],zI who] w fun e w'=>e=.returned (.bool (inB to 1 9 && (to != who && inB n 1 9)))/\Below w.heap.size w w':=by
 cases h1:inB to 1 9
 ·go_enter Tryz.func224,Tryz.ntmps224;go_wp2_with (first | (go_at_call 74;refine (dn _ _ _ _).mono ?_;rintro e w' ⟨rfl,rfl⟩) | (go_at_call 226;refine (jc _ _).mono ?_;rintro e w' ⟨rfl,rfl⟩));all_goals (go_ret;exact ⟨by simp [*],(Hr _ _).alloc (by simp) _⟩)
 cases h2:(to != who);all_goals
  go_enter Tryz.func224,Tryz.ntmps224
  go_wp2_with (first | (go_at_call 74;refine (dn _ _ _ _).mono ?_;rintro e w' ⟨rfl,rfl⟩) | (go_at_call 226;refine (jc _ _).mono ?_;rintro e w' ⟨rfl,rfl⟩))
  all_goals (go_ret;exact ⟨by simp_all,(Hr _ _).alloc (by simp) _⟩)
theorem AP (n who:Int) (w:World) :
 Hz 227 #[.agg #[zI n],zI who] w fun e w'=>e=.returned (.bool (inB n 1 9))/\Below w.heap.size w w':=by
 go_enter Tryz.func227,Tryz.ntmps227;go_wp2_with (go_at_call 226;refine (jc _ _).mono ?_;rintro e w' ⟨rfl,rfl⟩);go_ret;exact ⟨rfl,(Hr _ _).alloc (by simp) _⟩
theorem zU (n who:Int) (w:World) :
 Hz 229 #[.agg #[zI n],zI who] w fun e w'=>e=.returned (.bool (inB n 1 9))/\Below w.heap.size w w':=by
 go_enter Tryz.func229,Tryz.ntmps229;go_wp2_with (go_at_call 226;refine (jc _ _).mono ?_;rintro e w' ⟨rfl,rfl⟩);go_ret;exact ⟨rfl,(Hr _ _).alloc (by simp) _⟩
theorem yQ (to n who:Int) (w:World) :
 Hz 231 #[.agg #[zI to,zI n],zI who] w fun e w'=>e=.returned (.bool (jy to && inB n 1 9))/\Below w.heap.size w w':=by
 have hw:=qo to;cases h1:jy to;all_goals
  rw [h1] at hw
  go_enter Tryz.func231,Tryz.ntmps231
  go_wp2_with (first | (go_at_call 156;refine (pY _ _).mono ?_;rintro e w' ⟨rfl,rfl⟩) | (go_at_call 226;refine (jc _ _).mono ?_;rintro e w' ⟨rfl,rfl⟩))
  all_goals (go_ret;exact ⟨by simp_all,(Hr _ _).alloc (by simp) _⟩)
theorem zo (who:Int) (w:World) :
 Hz 233 #[.agg #[],zI who] w fun e w'=>e=.returned (.bool true)/\Below w.heap.size w w':=by
 go_enter Tryz.func233,Tryz.ntmps233;go_wp2;go_ret;exact ⟨rfl,by first | exact Hr _ _ | exact (Hr _ _).alloc (by simp) _⟩
theorem yM (who seq to n:Int) (w:World) :
 Hz 155 #[zI who,zI seq,.iface 209 (.agg #[zI to])] w fun e w'=>e=.returned (.agg #[zI who,zI seq,zI 1,zI to,zI 0])/\Below w.heap.size w w':=by
 have hstep:∀ (v:Value) (w:World),(Instr.typeAssert (.iface 209 v) 186 209 true).run Tryz.prog w=.ok (.tuple #[v,.bool true]) w:=fun _ _=>by kernel_rfl
 go_enter Tryz.func155,Tryz.ntmps155;go_wp2;go_region;go_wp2;exact Hw (v:=.agg #[zI who,zI seq,zI 1,zI to,zI 0]) (by simp [results,Tryz.results155,go_sem]) rfl ⟨rfl,by repeat (first | exact Hr _ _ | apply Below.drew | refine Below.alloc ?_ (by simp <;> omega) _)⟩
theorem yF (who seq to n:Int) (w:World) :
 Hz 155 #[zI who,zI seq,.iface 211 (.agg #[zI to,zI n])] w fun e w'=>e=.returned (.agg #[zI who,zI seq,zI 2,zI to,zI n])/\Below w.heap.size w w':=by
 have hstep:∀ (v:Value) (w:World),(Instr.typeAssert (.iface 211 v) 186 209 true).run Tryz.prog w=.ok (.tuple #[.agg #[zI 0],.bool false]) w:=fun _ _=>by kernel_rfl
 have hgive:∀ (v:Value) (w:World),(Instr.typeAssert (.iface 211 v) 186 211 true).run Tryz.prog w=.ok (.tuple #[v,.bool true]) w:=fun _ _=>by kernel_rfl
 go_enter Tryz.func155,Tryz.ntmps155;go_wp2;go_region;go_wp2;exact Hw (v:=.agg #[zI who,zI seq,zI 2,zI to,zI n]) (by simp [results,Tryz.results155,go_sem]) rfl ⟨rfl,by repeat (first | exact Hr _ _ | apply Below.drew | refine Below.alloc ?_ (by simp <;> omega) _)⟩
theorem xE (who seq to n:Int) (w:World) :
 Hz 155 #[zI who,zI seq,.iface 213 (.agg #[zI n])] w fun e w'=>e=.returned (.agg #[zI who,zI seq,zI 3,zI 0,zI n])/\Below w.heap.size w w':=by
 have hstep:∀ (v:Value) (w:World),(Instr.typeAssert (.iface 213 v) 186 209 true).run Tryz.prog w=.ok (.tuple #[.agg #[zI 0],.bool false]) w:=fun _ _=>by kernel_rfl
 have hgive:∀ (v:Value) (w:World),(Instr.typeAssert (.iface 213 v) 186 211 true).run Tryz.prog w=.ok (.tuple #[.agg #[zI 0,zI 0],.bool false]) w:=fun _ _=>by kernel_rfl
 have hdrop:∀ (v:Value) (w:World),(Instr.typeAssert (.iface 213 v) 186 213 true).run Tryz.prog w=.ok (.tuple #[v,.bool true]) w:=fun _ _=>by kernel_rfl
 go_enter Tryz.func155,Tryz.ntmps155;go_wp2;go_region;go_wp2;exact Hw (v:=.agg #[zI who,zI seq,zI 3,zI 0,zI n]) (by simp [results,Tryz.results155,go_sem]) rfl ⟨rfl,by repeat (first | exact Hr _ _ | apply Below.drew | refine Below.alloc ?_ (by simp <;> omega) _)⟩
theorem yB (who seq to n:Int) (w:World) :
 Hz 155 #[zI who,zI seq,.iface 214 (.agg #[zI n])] w fun e w'=>e=.returned (.agg #[zI who,zI seq,zI 4,zI 0,zI n])/\Below w.heap.size w w':=by
 have hstep:∀ (v:Value) (w:World),(Instr.typeAssert (.iface 214 v) 186 209 true).run Tryz.prog w=.ok (.tuple #[.agg #[zI 0],.bool false]) w:=fun _ _=>by kernel_rfl
 have hgive:∀ (v:Value) (w:World),(Instr.typeAssert (.iface 214 v) 186 211 true).run Tryz.prog w=.ok (.tuple #[.agg #[zI 0,zI 0],.bool false]) w:=fun _ _=>by kernel_rfl
 have hdrop:∀ (v:Value) (w:World),(Instr.typeAssert (.iface 214 v) 186 213 true).run Tryz.prog w=.ok (.tuple #[.agg #[zI 0],.bool false]) w:=fun _ _=>by kernel_rfl
 have hpick:∀ (v:Value) (w:World),(Instr.typeAssert (.iface 214 v) 186 214 true).run Tryz.prog w=.ok (.tuple #[v,.bool true]) w:=fun _ _=>by kernel_rfl
 go_enter Tryz.func155,Tryz.ntmps155;go_wp2;go_region;go_wp2;exact Hw (v:=.agg #[zI who,zI seq,zI 4,zI 0,zI n]) (by simp [results,Tryz.results155,go_sem]) rfl ⟨rfl,by repeat (first | exact Hr _ _ | apply Below.drew | refine Below.alloc ?_ (by simp <;> omega) _)⟩
theorem vS (who seq to n:Int) (w:World) :
 Hz 155 #[zI who,zI seq,.iface 216 (.agg #[zI to,zI n])] w fun e w'=>e=.returned (.agg #[zI who,zI seq,zI 5,zI to,zI n])/\Below w.heap.size w w':=by
 have hstep:∀ (v:Value) (w:World),(Instr.typeAssert (.iface 216 v) 186 209 true).run Tryz.prog w=.ok (.tuple #[.agg #[zI 0],.bool false]) w:=fun _ _=>by kernel_rfl
 have hgive:∀ (v:Value) (w:World),(Instr.typeAssert (.iface 216 v) 186 211 true).run Tryz.prog w=.ok (.tuple #[.agg #[zI 0,zI 0],.bool false]) w:=fun _ _=>by kernel_rfl
 have hdrop:∀ (v:Value) (w:World),(Instr.typeAssert (.iface 216 v) 186 213 true).run Tryz.prog w=.ok (.tuple #[.agg #[zI 0],.bool false]) w:=fun _ _=>by kernel_rfl
 have hpick:∀ (v:Value) (w:World),(Instr.typeAssert (.iface 216 v) 186 214 true).run Tryz.prog w=.ok (.tuple #[.agg #[zI 0],.bool false]) w:=fun _ _=>by kernel_rfl
 have hthrow:∀ (v:Value) (w:World),(Instr.typeAssert (.iface 216 v) 186 216 true).run Tryz.prog w=.ok (.tuple #[v,.bool true]) w:=fun _ _=>by kernel_rfl
 go_enter Tryz.func155,Tryz.ntmps155;go_wp2;go_region;go_wp2;exact Hw (v:=.agg #[zI who,zI seq,zI 5,zI to,zI n]) (by simp [results,Tryz.results155,go_sem]) rfl ⟨rfl,by repeat (first | exact Hr _ _ | apply Below.drew | refine Below.alloc ?_ (by simp <;> omega) _)⟩
theorem xR (who seq to n:Int) (w:World) :
 Hz 155 #[zI who,zI seq,.iface 218 (.agg #[])] w fun e w'=>e=.returned (.agg #[zI who,zI seq,zI 6,zI 0,zI 0])/\Below w.heap.size w w':=by
 have hstep:∀ (v:Value) (w:World),(Instr.typeAssert (.iface 218 v) 186 209 true).run Tryz.prog w=.ok (.tuple #[.agg #[zI 0],.bool false]) w:=fun _ _=>by kernel_rfl
 have hgive:∀ (v:Value) (w:World),(Instr.typeAssert (.iface 218 v) 186 211 true).run Tryz.prog w=.ok (.tuple #[.agg #[zI 0,zI 0],.bool false]) w:=fun _ _=>by kernel_rfl
 have hdrop:∀ (v:Value) (w:World),(Instr.typeAssert (.iface 218 v) 186 213 true).run Tryz.prog w=.ok (.tuple #[.agg #[zI 0],.bool false]) w:=fun _ _=>by kernel_rfl
 have hpick:∀ (v:Value) (w:World),(Instr.typeAssert (.iface 218 v) 186 214 true).run Tryz.prog w=.ok (.tuple #[.agg #[zI 0],.bool false]) w:=fun _ _=>by kernel_rfl
 have hthrow:∀ (v:Value) (w:World),(Instr.typeAssert (.iface 218 v) 186 216 true).run Tryz.prog w=.ok (.tuple #[.agg #[zI 0,zI 0],.bool false]) w:=fun _ _=>by kernel_rfl
 have hrest:∀ (v:Value) (w:World),(Instr.typeAssert (.iface 218 v) 186 218 true).run Tryz.prog w=.ok (.tuple #[v,.bool true]) w:=fun _ _=>by kernel_rfl
 go_enter Tryz.func155,Tryz.ntmps155;go_wp2;exact Hw (v:=.agg #[zI who,zI seq,zI 6,zI 0,zI 0]) (by simp [results,Tryz.results155,go_sem]) rfl ⟨rfl,by repeat (first | exact Hr _ _ | apply Below.drew | refine Below.alloc ?_ (by simp <;> omega) _)⟩
def jq (who k to n:Int):Bool :=
 if k=1 then jy to && n == 0 else if k=2 then inB to 1 9 && (to != who && inB n 1 9) else if k=3 then to == 0 && inB n 1 9 else if k=4 then to == 0 && inB n 1 9 else
 if k=5 then jy to && inB n 1 9 else if k=6 then to == 0 && n == 0 else false
def iP (who seq k to n:Int):Bool:=inB who 1 9 && (inB seq 1 900 && jq who k to n)
theorem yI (who seq k to n:Int) (w:World) :
 Hz 103 #[.agg #[zI who,zI seq,zI k,zI to,zI n]] w fun e w'=>e=.returned (.bool (iP who seq k to n))/\Below w.heap.size w w':=by
 have hk:k=1∨k=2∨k=3∨k=4∨k=5∨k=6∨(k≠1/\k≠2/\k≠3/\k≠4/\k≠5/\k≠6):=by omega
 go_enter Tryz.func103,Tryz.ntmps103;go_wp2_with (go_at_call 24;refine (dh _ _ _ _).mono ?_;rintro e w' ⟨rfl,rfl⟩);all_goals (go_ret;exact ⟨by simp_all [iP,jq,jy],(Hr _ _).alloc (by simp) _⟩)
theorem xY {n lo hi:Int} {b:Bool} (h:inB n lo hi=b) (w:World) :
 Hz 74 #[zI n,zI lo,zI hi] w fun e w'=>e=.returned (.bool b)/\Below w.heap.size w w' :=
 (dn n lo hi w).mono (by rintro e w' ⟨rfl,rfl⟩;exact ⟨by rw [h],Hr _ _⟩)
theorem jE (who seq k to n to2 n2:Int) (t:TypeId) (V:Value) (ff:Nat) (fb:Bool) (hd:vN k to n=.iface t V)
 (hm:∀ (w:World),(method 400 t V "loop.example/landmarch/impl.fits").run Tryz.prog w=.ok (ff,V) w)
 (hcf:∀ (a:Array Value) (w:World),(callFunc ff a).run Tryz.prog w=.ok (.enter ff a) w)
 (hfit:∀ w:World,Hz ff #[V,zI who] w fun e w'=>e=.returned (.bool fb)/\Below w.heap.size w w')
 (hord:∀ w:World,Hz 155 #[zI who,zI seq,.iface t V] w fun e w'=>e=.returned (.agg #[zI who,zI seq,zI k,zI to2,zI n2])/\Below w.heap.size w w')
 (w:World) :
 Hz 133 #[.agg #[zI who,zI seq,zI k,zI to,zI n]] w fun e w'=>e=.returned (.bool (inB who 1 9 && (inB seq 1 900 && (fb && (to == to2 && n == n2)))))/\Below w.heap.size w w':=by
 go_enter Tryz.func133,Tryz.ntmps133;go_wp2_with (go_at_call 154;refine (rF _ _ _ _ _ _).mono ?_;rintro e w1 ⟨rfl,hb1⟩;rw [hd]);obtain ⟨hc1,hf1⟩:=cu hb1;have hlt:w.heap.size<w1.heap.size:=Hg (by simp) hb1.size;have x0:w1.cell? (zA w.heap.size 0)=some (zI who):=by rw [hc1 _ _ (by simp)];simp
 have x1:w1.cell? (zA w.heap.size 1)=some (zI seq):=by rw [hc1 _ _ (by simp)];simp
 have x2:w1.cell? (zA w.heap.size 2)=some (zI k):=by rw [hc1 _ _ (by simp)];simp
 have x3:w1.cell? (zA w.heap.size 3)=some (zI to):=by rw [hc1 _ _ (by simp)];simp
 have x4:w1.cell? (zA w.heap.size 4)=some (zI n):=by rw [hc1 _ _ (by simp)];simp
 clear hc1 hf1;refine Hu (S:=fun w'=>(∀ b o,b<w1.heap.size->w'.cell? (zA b o)=w1.cell? (zA b o))/\w1.heap.size<=w'.heap.size) (by kernel_rfl) ⟨fun _ _ _=>rfl,Ho _⟩ ?_;intro af;refine aA 0 (.iface t V) rfl ?_;refine aA 1 (.bool true) rfl ?_;refine aA 2 (.bool true) rfl ?_;refine aA 3 (zP w.heap.size 0) rfl ?_;refine aA 4 (zI who) rfl ?_;refine di 5 rfl fun K hK=>?_;go_simp;cases h1:inB who 1 9
 ·go_wp2_with (go_at_call 74;refine (xY h1 _).mono ?_;rintro e wa ⟨rfl,hbwa⟩);refine hK.out _ _ (bM (by assumption) hbwa) (fun af=>?_);clear hK K;try simp only [aT]
  refine aA 6 (.bool false) rfl ?_;refine aA 7 (.bool false) rfl ?_;refine bU 8 rfl ?_;refine bU 9 rfl ?_;refine bU 10 rfl ?_;refine aA 11 (.bool false) rfl ?_;refine aA 12 (.bool false) rfl ?_;refine bU 13 rfl ?_;refine bU 14 rfl ?_;refine bU 15 rfl ?_;refine bU 16 rfl ?_;refine aA 17 (.bool false) rfl ?_;refine aA 18 (.bool false) rfl ?_;refine bU 19 rfl ?_;refine bU 20 rfl ?_;refine bU 21 rfl ?_;refine bU 22 rfl ?_;refine bU 23 rfl ?_;refine bU 24 rfl ?_;refine bU 25 rfl ?_;refine bU 26 rfl ?_;refine aA 27 (.bool false) rfl ?_;refine aA 28 (.bool false) rfl ?_;refine Hy (by kernel_rfl) ?_ _;go_wp2;go_ret;exact ⟨by simp [*],by repeat (first | exact Hr _ _ | refine ah ?_ (by assumption) | apply Below.drew | apply bZ | refine Below.alloc ?_ (by simp <;> omega) _)⟩
 go_wp2_with (go_at_call 74;refine (xY h1 _).mono ?_;rintro e wa ⟨rfl,hbwa⟩);refine hK.out _ _ (bM (by assumption) hbwa) (fun af=>?_);clear hK K;try simp only [aT]
 refine aA 6 (.bool true) rfl ?_;refine aA 7 (.bool true) rfl ?_;refine aA 8 (zP w.heap.size 1) rfl ?_;refine aA 9 (zI seq) rfl ?_;refine di 10 rfl fun K hK=>?_;go_simp;cases h2:inB seq 1 900
 ·go_wp2_with (go_at_call 74;refine (xY h2 _).mono ?_;rintro e wb ⟨rfl,hbwb⟩);refine hK.out _ _ (bM (by assumption) hbwb) (fun af=>?_);clear hK K;try simp only [aT]
  refine aA 11 (.bool false) rfl ?_;refine aA 12 (.bool false) rfl ?_;refine bU 13 rfl ?_;refine bU 14 rfl ?_;refine bU 15 rfl ?_;refine bU 16 rfl ?_;refine aA 17 (.bool false) rfl ?_;refine aA 18 (.bool false) rfl ?_;refine bU 19 rfl ?_;refine bU 20 rfl ?_;refine bU 21 rfl ?_;refine bU 22 rfl ?_;refine bU 23 rfl ?_;refine bU 24 rfl ?_;refine bU 25 rfl ?_;refine bU 26 rfl ?_;refine aA 27 (.bool false) rfl ?_;refine aA 28 (.bool false) rfl ?_;refine Hy (by kernel_rfl) ?_ _;go_wp2;go_ret;exact ⟨by simp [*],by repeat (first | exact Hr _ _ | refine ah ?_ (by assumption) | apply Below.drew | apply bZ | refine Below.alloc ?_ (by simp <;> omega) _)⟩
 go_wp2_with (go_at_call 74;refine (xY h2 _).mono ?_;rintro e wb ⟨rfl,hbwb⟩);refine hK.out _ _ (bM (by assumption) hbwb) (fun af=>?_);clear hK K;try simp only [aT]
 refine aA 11 (.bool true) rfl ?_;refine aA 12 (.bool true) rfl ?_;refine aA 13 (.iface t V) rfl ?_;refine aA 14 (zP w.heap.size 0) rfl ?_;refine aA 15 (zI who) rfl ?_;refine di 16 rfl fun K hK=>?_;go_simp;go_wp2_with fail;refine (hfit _).mono ?_;rintro e wc ⟨rfl,hbwc⟩;refine hK.out _ _ (bM (by assumption) hbwc) (fun af=>?_);clear hK K;try simp only [aT]
 cases h3:fb
 ·rw [h3] at hfit;refine aA 17 (.bool false) rfl ?_;refine aA 18 (.bool false) rfl ?_;refine bU 19 rfl ?_;refine bU 20 rfl ?_;refine bU 21 rfl ?_;refine bU 22 rfl ?_;refine bU 23 rfl ?_;refine bU 24 rfl ?_;refine bU 25 rfl ?_;refine bU 26 rfl ?_;refine aA 27 (.bool false) rfl ?_;refine aA 28 (.bool false) rfl ?_;refine Hy (by kernel_rfl) ?_ _;go_wp2;go_ret;exact ⟨by simp [*],by repeat (first | exact Hr _ _ | refine ah ?_ (by assumption) | apply Below.drew | apply bZ | refine Below.alloc ?_ (by simp <;> omega) _)⟩
 rw [h3] at hfit;refine aA 17 (.bool true) rfl ?_;refine aA 18 (.bool true) rfl ?_;refine aA 19 (zP w.heap.size 0) rfl ?_;refine aA 20 (zI who) rfl ?_;refine aA 21 (zP w.heap.size 1) rfl ?_;refine aA 22 (zI seq) rfl ?_;refine aA 23 (.iface t V) rfl ?_;refine aA 25 (.agg #[zI who,zI seq,zI k,zI to,zI n]) rfl ?_;refine di 24 rfl fun K hK=>?_;go_simp;go_wp2_with (go_at_call 155;refine (hord _).mono ?_;rintro e wd ⟨rfl,hbwd⟩);refine hK.out _ _ (bM (by assumption) hbwd) (fun af=>?_);clear hK K;try simp only [aT]
 refine dY 26 (.bool (to == to2 && n == n2)) rfl ?_ ?_
 ·intro wx hSw;first | (go_simp;done) | (go_simp;(repeat' split) <;> first | (simp_all;done) | (simp_all;omega))
 refine aA 27 (.bool (to == to2 && n == n2)) rfl ?_;refine aA 28 (.bool (to == to2 && n == n2)) rfl ?_;refine Hy (by kernel_rfl) ?_ _;go_wp2;go_ret;exact ⟨by simp [*],by repeat (first | exact Hr _ _ | refine ah ?_ (by assumption) | apply Below.drew | apply bZ | refine Below.alloc ?_ (by simp <;> omega) _)⟩
theorem yt (who seq to n:Int) (w:World) :
 Hz 133 #[.agg #[zI who,zI seq,zI 1,zI to,zI n]] w fun e w'=>e=.returned (.bool (iP who seq 1 to n))/\Below w.heap.size w w' :=
 (jE who seq 1 to n to 0 209 (.agg #[zI to]) 222 _ rfl (fun _=>by kernel_rfl) (fun _ _=>by kernel_rfl) (Bf to who) (yM who seq to n) w).mono
  (by rintro e w' ⟨rfl,hb⟩;exact ⟨by simp [iP,jq],hb⟩)
theorem yw (who seq to n:Int) (w:World) :
 Hz 133 #[.agg #[zI who,zI seq,zI 2,zI to,zI n]] w fun e w'=>e=.returned (.bool (iP who seq 2 to n))/\Below w.heap.size w w' :=
 (jE who seq 2 to n to n 211 (.agg #[zI to,zI n]) 224 _ rfl (fun _=>by kernel_rfl) (fun _ _=>by kernel_rfl) (zn to n who) (yF who seq to n) w).mono
  (by rintro e w' ⟨rfl,hb⟩;exact ⟨by simp [iP,jq],hb⟩)
theorem xG (who seq to n:Int) (w:World) :
 Hz 133 #[.agg #[zI who,zI seq,zI 3,zI to,zI n]] w fun e w'=>e=.returned (.bool (iP who seq 3 to n))/\Below w.heap.size w w' :=
 (jE who seq 3 to n 0 n 213 (.agg #[zI n]) 227 _ rfl (fun _=>by kernel_rfl) (fun _ _=>by kernel_rfl) (AP n who) (xE who seq to n) w).mono
  (by rintro e w' ⟨rfl,hb⟩;exact ⟨by simp [iP,jq,Bool.and_comm],hb⟩)
theorem xU (who seq to n:Int) (w:World) :
 Hz 133 #[.agg #[zI who,zI seq,zI 4,zI to,zI n]] w fun e w'=>e=.returned (.bool (iP who seq 4 to n))/\Below w.heap.size w w' :=
 (jE who seq 4 to n 0 n 214 (.agg #[zI n]) 229 _ rfl (fun _=>by kernel_rfl) (fun _ _=>by kernel_rfl) (zU n who) (yB who seq to n) w).mono
  (by rintro e w' ⟨rfl,hb⟩;exact ⟨by simp [iP,jq,Bool.and_comm],hb⟩)
theorem vH (who seq to n:Int) (w:World) :
 Hz 133 #[.agg #[zI who,zI seq,zI 5,zI to,zI n]] w fun e w'=>e=.returned (.bool (iP who seq 5 to n))/\Below w.heap.size w w' :=
 (jE who seq 5 to n to n 216 (.agg #[zI to,zI n]) 231 _ rfl (fun _=>by kernel_rfl) (fun _ _=>by kernel_rfl) (yQ to n who) (vS who seq to n) w).mono
  (by rintro e w' ⟨rfl,hb⟩;exact ⟨by simp [iP,jq],hb⟩)
theorem xC (who seq to n:Int) (w:World) :
 Hz 133 #[.agg #[zI who,zI seq,zI 6,zI to,zI n]] w fun e w'=>e=.returned (.bool (iP who seq 6 to n))/\Below w.heap.size w w' :=
 (jE who seq 6 to n 0 0 218 (.agg #[]) 233 _ rfl (fun _=>by kernel_rfl) (fun _ _=>by kernel_rfl) (zo who) (xR who seq to n) w).mono
  (by rintro e w' ⟨rfl,hb⟩;exact ⟨by simp [iP,jq],hb⟩)
theorem xP (who seq k to n:Int) (h:k≠1/\k≠2/\k≠3/\k≠4/\k≠5/\k≠6) (w:World) :
 Hz 133 #[.agg #[zI who,zI seq,zI k,zI to,zI n]] w fun e w'=>e=.returned (.bool (iP who seq k to n))/\Below w.heap.size w w':=by
 have hd:vN k to n=.nilIface:=by obtain ⟨a,b,c,d,e,f⟩:=h;simp [vN, *]
 have hB:bY (iP who seq k to n=false):=by obtain ⟨a,b,c,d,e,f⟩:=h;show iP who seq k to n=false;simp [iP,jq, *]
 clear h;go_enter Tryz.func133,Tryz.ntmps133;go_wp2_with (go_at_call 154;refine (rF _ _ _ _ _ _).mono ?_;rintro e w1 ⟨rfl,hb1⟩;rw [hd]);refine Hu (S:=fun w'=>(∀ b o,b<w1.heap.size->w'.cell? (zA b o)=w1.cell? (zA b o))/\w1.heap.size<=w'.heap.size) (by kernel_rfl) ⟨fun _ _ _=>rfl,Ho _⟩ ?_;intro af;refine aA 0 .nilIface rfl ?_;refine aA 1 (.bool false) rfl ?_;refine aA 2 (.bool false) rfl ?_;refine bU 3 rfl ?_;refine bU 4 rfl ?_;refine bU 5 rfl ?_;refine aA 6 (.bool false) rfl ?_;refine aA 7 (.bool false) rfl ?_;refine bU 8 rfl ?_;refine bU 9 rfl ?_;refine bU 10 rfl ?_;refine aA 11 (.bool false) rfl ?_;refine aA 12 (.bool false) rfl ?_;refine bU 13 rfl ?_;refine bU 14 rfl ?_;refine bU 15 rfl ?_;refine bU 16 rfl ?_;refine aA 17 (.bool false) rfl ?_;refine aA 18 (.bool false) rfl ?_;refine bU 19 rfl ?_;refine bU 20 rfl ?_;refine bU 21 rfl ?_;refine bU 22 rfl ?_;refine bU 23 rfl ?_;refine bU 24 rfl ?_;refine bU 25 rfl ?_;refine bU 26 rfl ?_;refine aA 27 (.bool false) rfl ?_;refine aA 28 (.bool false) rfl ?_;refine Hy (by kernel_rfl) ?_ _;go_wp2;go_ret;exact ⟨by rw [hB.o];rfl,by repeat (first | exact Hr _ _ | refine ah ?_ (by assumption) | apply Below.drew | apply bZ | refine Below.alloc ?_ (by simp <;> omega) _)⟩
theorem yC (who seq k to n:Int) (w:World) :
 Hz 133 #[.agg #[zI who,zI seq,zI k,zI to,zI n]] w fun e w'=>e=.returned (.bool (iP who seq k to n))/\Below w.heap.size w w':=by
 by_cases h1:k=1
 ·subst h1;exact yt who seq to n w
 by_cases h2:k=2
 ·subst h2;exact yw who seq to n w
 by_cases h3:k=3
 ·subst h3;exact xG who seq to n w
 by_cases h4:k=4
 ·subst h4;exact xU who seq to n w
 by_cases h5:k=5
 ·subst h5;exact vH who seq to n w
 by_cases h6:k=6
 ·subst h6;exact xC who seq to n w
 exact xP who seq k to n ⟨h1,h2,h3,h4,h5,h6⟩ w
