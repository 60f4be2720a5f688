/- The walks of OrdOk's callees: which deed an order is, whether it fits, and the order of a deed; conditions: none. -/
import Derived.Test.YtngaboipleimcaaGreatDoorWalksD
set_option linter.unusedVariables false
set_option maxRecDepth 100000
namespace Go.Proofs.YtngaboipleimcaaGreatDoor
open Go.RowKit
def ve (s:Int):ByteArray:=if s=0 then ⟨#[108,101,102,116]⟩ else if s=1 then ⟨#[114,105,103,104,116]⟩ else ⟨#[]⟩
def jy (s:Int):Bool:=inB s 0 1
def vN (k to n:Int):Value :=
 if k=1 then .iface 179 (.agg #[zI to]) else if k=2 then .iface 181 (.agg #[zI to,zI n]) else if k=3 then .iface 183 (.agg #[zI n]) else
 if k=4 then .iface 184 (.agg #[zI n]) else if k=5 then .iface 186 (.agg #[zI to,zI n]) else if k=6 then .iface 188 (.agg #[]) else .nilIface
theorem DR (who seq k to n:Int) (w:World) :
 Hz 46 #[.agg #[zI who,zI seq,zI k,zI to,zI n]] w fun e w'=>e=.returned (.agg #[zI who,zI seq,zI k,zI to,zI n])∧Below w.heap.size w w':=by
 go_enter Tryz.func46,Tryz.ntmps46
 go_wp2
 exact Hw (v:=.agg #[zI who,zI seq,zI k,zI to,zI n]) (by simp [results,Tryz.results46,go_sem]) rfl ⟨rfl,(((Hr _ _).alloc (by simp) _).alloc (by simp) _).alloc (by simp;omega) _⟩
theorem pY (s:Int) (w:World) :
 Hz 123 #[zI s] w fun e w'=>e=.returned (.string (ve s))∧w'=w:=by
 go_enter Tryz.func123,Tryz.ntmps123
 go_wp2
 all_goals (go_ret;exact ⟨by simp_all [ve],rfl⟩)
theorem qo (s:Int):(ve s).toList.isEmpty=!jy s:=by
 unfold ve jy inB
 by_cases h0:s=0
 ·subst h0;decide +kernel
 ·by_cases h1:s=1
  ·subst h1;decide +kernel
  ·rw [if_neg h0,if_neg h1]
   have:¬ (0≤s∧s≤1):=by omega
   rw [decide_eq_false this]
   decide +kernel
theorem rF (who seq k to n:Int) (w:World) :
 Hz 121 #[.agg #[zI who,zI seq,zI k,zI to,zI n]] w fun e w'=>e=.returned (vN k to n)∧Below w.heap.size w w':=by
 go_enter Tryz.func121,Tryz.ntmps121
 go_wp2
 all_goals (go_ret;exact ⟨by simp_all [vN],(Hr _ _).alloc (by simp) _⟩)
theorem jc (n:Int) (w:World) :
 Hz 214 #[zI n] w fun e w'=>e=.returned (.bool (inB n 1 9))∧w'=w:=by
 go_enter Tryz.func214,Tryz.ntmps214
 go_wp2_with (go_at_call 87;refine (dn _ _ _ _).mono ?_;rintro e w' ⟨rfl,rfl⟩)
 go_ret
 exact ⟨rfl,rfl⟩
theorem Bf (to who:Int) (w:World) :
 Hz 210 #[.agg #[zI to],zI who] w fun e w'=>e=.returned (.bool (jy to))∧Below w.heap.size w w':=by
 go_enter Tryz.func210,Tryz.ntmps210
 go_wp2_with (go_at_call 123;refine (pY _ _).mono ?_;rintro e w' ⟨rfl,rfl⟩)
 go_ret
 exact ⟨by have:=qo to;cases h:jy to <;> simp_all,(Hr _ _).alloc (by simp) _⟩
theorem zn (to n who:Int) (w:World) :
 Hz 212 #[.agg #[zI to,zI n],zI who] w fun e w'=>e=.returned (.bool (inB to 1 9 && (to != who && inB n 1 9)))∧Below w.heap.size w w':=by
 cases h1:inB to 1 9
 ·go_enter Tryz.func212,Tryz.ntmps212
  go_wp2_with (first | (go_at_call 87;refine (dn _ _ _ _).mono ?_;rintro e w' ⟨rfl,rfl⟩) | (go_at_call 214;refine (jc _ _).mono ?_;rintro e w' ⟨rfl,rfl⟩))
  all_goals (go_ret;exact ⟨by simp [*],(Hr _ _).alloc (by simp) _⟩)
 ·cases h2:(to != who)
  all_goals
   go_enter Tryz.func212,Tryz.ntmps212
   go_wp2_with (first | (go_at_call 87;refine (dn _ _ _ _).mono ?_;rintro e w' ⟨rfl,rfl⟩) | (go_at_call 214;refine (jc _ _).mono ?_;rintro e w' ⟨rfl,rfl⟩))
   all_goals (go_ret;exact ⟨by simp_all,(Hr _ _).alloc (by simp) _⟩)
theorem AP (n who:Int) (w:World) :
 Hz 215 #[.agg #[zI n],zI who] w fun e w'=>e=.returned (.bool (inB n 1 9))∧Below w.heap.size w w':=by
 go_enter Tryz.func215,Tryz.ntmps215
 go_wp2_with (go_at_call 214;refine (jc _ _).mono ?_;rintro e w' ⟨rfl,rfl⟩)
 go_ret
 exact ⟨rfl,(Hr _ _).alloc (by simp) _⟩
theorem zU (n who:Int) (w:World) :
 Hz 217 #[.agg #[zI n],zI who] w fun e w'=>e=.returned (.bool (inB n 1 9))∧Below w.heap.size w w':=by
 go_enter Tryz.func217,Tryz.ntmps217
 go_wp2_with (go_at_call 214;refine (jc _ _).mono ?_;rintro e w' ⟨rfl,rfl⟩)
 go_ret
 exact ⟨rfl,(Hr _ _).alloc (by simp) _⟩
theorem yQ (to n who:Int) (w:World) :
 Hz 219 #[.agg #[zI to,zI n],zI who] w fun e w'=>e=.returned (.bool (jy to && inB n 1 9))∧Below w.heap.size w w':=by
 have hw:=qo to
 cases h1:jy to
 all_goals
  rw [h1] at hw
  go_enter Tryz.func219,Tryz.ntmps219
  go_wp2_with (first | (go_at_call 123;refine (pY _ _).mono ?_;rintro e w' ⟨rfl,rfl⟩) | (go_at_call 214;refine (jc _ _).mono ?_;rintro e w' ⟨rfl,rfl⟩))
  all_goals (go_ret;exact ⟨by simp_all,(Hr _ _).alloc (by simp) _⟩)
theorem zo (who:Int) (w:World) :
 Hz 221 #[.agg #[],zI who] w fun e w'=>e=.returned (.bool true)∧Below w.heap.size w w':=by
 go_enter Tryz.func221,Tryz.ntmps221
 go_wp2
 go_ret
 exact ⟨rfl,by first | exact Hr _ _ | exact (Hr _ _).alloc (by simp) _⟩
theorem yM (who seq to n:Int) (w:World) :
 Hz 122 #[zI who,zI seq,.iface 179 (.agg #[zI to])] w fun e w'=>e=.returned (.agg #[zI who,zI seq,zI 1,zI to,zI 0])∧Below w.heap.size w w':=by
 have hstep:∀ (v:Value) (w:World),(Instr.typeAssert (.iface 179 v) 156 179 true).run Tryz.prog w=.ok (.tuple #[v,.bool true]) w:=fun _ _=>by kernel_rfl
 go_enter Tryz.func122,Tryz.ntmps122
 go_wp2
 go_region
 go_wp2
 exact Hw (v:=.agg #[zI who,zI seq,zI 1,zI to,zI 0]) (by simp [results,Tryz.results122,go_sem]) rfl ⟨rfl,by repeat (first | exact Hr _ _ | apply Below.drew | refine Below.alloc ?_ (by simp <;> omega) _)⟩
theorem yF (who seq to n:Int) (w:World) :
 Hz 122 #[zI who,zI seq,.iface 181 (.agg #[zI to,zI n])] w fun e w'=>e=.returned (.agg #[zI who,zI seq,zI 2,zI to,zI n])∧Below w.heap.size w w':=by
 have hstep:∀ (v:Value) (w:World),(Instr.typeAssert (.iface 181 v) 156 179 true).run Tryz.prog w=.ok (.tuple #[.agg #[zI 0],.bool false]) w:=fun _ _=>by kernel_rfl
 have hgive:∀ (v:Value) (w:World),(Instr.typeAssert (.iface 181 v) 156 181 true).run Tryz.prog w=.ok (.tuple #[v,.bool true]) w:=fun _ _=>by kernel_rfl
 go_enter Tryz.func122,Tryz.ntmps122
 go_wp2
 go_region
 go_wp2
 exact Hw (v:=.agg #[zI who,zI seq,zI 2,zI to,zI n]) (by simp [results,Tryz.results122,go_sem]) rfl ⟨rfl,by repeat (first | exact Hr _ _ | apply Below.drew | refine Below.alloc ?_ (by simp <;> omega) _)⟩
theorem xE (who seq to n:Int) (w:World) :
 Hz 122 #[zI who,zI seq,.iface 183 (.agg #[zI n])] w fun e w'=>e=.returned (.agg #[zI who,zI seq,zI 3,zI 0,zI n])∧Below w.heap.size w w':=by
 have hstep:∀ (v:Value) (w:World),(Instr.typeAssert (.iface 183 v) 156 179 true).run Tryz.prog w=.ok (.tuple #[.agg #[zI 0],.bool false]) w:=fun _ _=>by kernel_rfl
 have hgive:∀ (v:Value) (w:World),(Instr.typeAssert (.iface 183 v) 156 181 true).run Tryz.prog w=.ok (.tuple #[.agg #[zI 0,zI 0],.bool false]) w:=fun _ _=>by kernel_rfl
 have hdrop:∀ (v:Value) (w:World),(Instr.typeAssert (.iface 183 v) 156 183 true).run Tryz.prog w=.ok (.tuple #[v,.bool true]) w:=fun _ _=>by kernel_rfl
 go_enter Tryz.func122,Tryz.ntmps122
 go_wp2
 go_region
 go_wp2
 exact Hw (v:=.agg #[zI who,zI seq,zI 3,zI 0,zI n]) (by simp [results,Tryz.results122,go_sem]) rfl ⟨rfl,by repeat (first | exact Hr _ _ | apply Below.drew | refine Below.alloc ?_ (by simp <;> omega) _)⟩
theorem yB (who seq to n:Int) (w:World) :
 Hz 122 #[zI who,zI seq,.iface 184 (.agg #[zI n])] w fun e w'=>e=.returned (.agg #[zI who,zI seq,zI 4,zI 0,zI n])∧Below w.heap.size w w':=by
 have hstep:∀ (v:Value) (w:World),(Instr.typeAssert (.iface 184 v) 156 179 true).run Tryz.prog w=.ok (.tuple #[.agg #[zI 0],.bool false]) w:=fun _ _=>by kernel_rfl
 have hgive:∀ (v:Value) (w:World),(Instr.typeAssert (.iface 184 v) 156 181 true).run Tryz.prog w=.ok (.tuple #[.agg #[zI 0,zI 0],.bool false]) w:=fun _ _=>by kernel_rfl
 have hdrop:∀ (v:Value) (w:World),(Instr.typeAssert (.iface 184 v) 156 183 true).run Tryz.prog w=.ok (.tuple #[.agg #[zI 0],.bool false]) w:=fun _ _=>by kernel_rfl
 have hpick:∀ (v:Value) (w:World),(Instr.typeAssert (.iface 184 v) 156 184 true).run Tryz.prog w=.ok (.tuple #[v,.bool true]) w:=fun _ _=>by kernel_rfl
 go_enter Tryz.func122,Tryz.ntmps122
 go_wp2
 go_region
 go_wp2
 exact Hw (v:=.agg #[zI who,zI seq,zI 4,zI 0,zI n]) (by simp [results,Tryz.results122,go_sem]) rfl ⟨rfl,by repeat (first | exact Hr _ _ | apply Below.drew | refine Below.alloc ?_ (by simp <;> omega) _)⟩
theorem vS (who seq to n:Int) (w:World) :
 Hz 122 #[zI who,zI seq,.iface 186 (.agg #[zI to,zI n])] w fun e w'=>e=.returned (.agg #[zI who,zI seq,zI 5,zI to,zI n])∧Below w.heap.size w w':=by
 have hstep:∀ (v:Value) (w:World),(Instr.typeAssert (.iface 186 v) 156 179 true).run Tryz.prog w=.ok (.tuple #[.agg #[zI 0],.bool false]) w:=fun _ _=>by kernel_rfl
 have hgive:∀ (v:Value) (w:World),(Instr.typeAssert (.iface 186 v) 156 181 true).run Tryz.prog w=.ok (.tuple #[.agg #[zI 0,zI 0],.bool false]) w:=fun _ _=>by kernel_rfl
 have hdrop:∀ (v:Value) (w:World),(Instr.typeAssert (.iface 186 v) 156 183 true).run Tryz.prog w=.ok (.tuple #[.agg #[zI 0],.bool false]) w:=fun _ _=>by kernel_rfl
 have hpick:∀ (v:Value) (w:World),(Instr.typeAssert (.iface 186 v) 156 184 true).run Tryz.prog w=.ok (.tuple #[.agg #[zI 0],.bool false]) w:=fun _ _=>by kernel_rfl
 have hthrow:∀ (v:Value) (w:World),(Instr.typeAssert (.iface 186 v) 156 186 true).run Tryz.prog w=.ok (.tuple #[v,.bool true]) w:=fun _ _=>by kernel_rfl
 go_enter Tryz.func122,Tryz.ntmps122
 go_wp2
 go_region
 go_wp2
 exact Hw (v:=.agg #[zI who,zI seq,zI 5,zI to,zI n]) (by simp [results,Tryz.results122,go_sem]) rfl ⟨rfl,by repeat (first | exact Hr _ _ | apply Below.drew | refine Below.alloc ?_ (by simp <;> omega) _)⟩
theorem xR (who seq to n:Int) (w:World) :
 Hz 122 #[zI who,zI seq,.iface 188 (.agg #[])] w fun e w'=>e=.returned (.agg #[zI who,zI seq,zI 6,zI 0,zI 0])∧Below w.heap.size w w':=by
 have hstep:∀ (v:Value) (w:World),(Instr.typeAssert (.iface 188 v) 156 179 true).run Tryz.prog w=.ok (.tuple #[.agg #[zI 0],.bool false]) w:=fun _ _=>by kernel_rfl
 have hgive:∀ (v:Value) (w:World),(Instr.typeAssert (.iface 188 v) 156 181 true).run Tryz.prog w=.ok (.tuple #[.agg #[zI 0,zI 0],.bool false]) w:=fun _ _=>by kernel_rfl
 have hdrop:∀ (v:Value) (w:World),(Instr.typeAssert (.iface 188 v) 156 183 true).run Tryz.prog w=.ok (.tuple #[.agg #[zI 0],.bool false]) w:=fun _ _=>by kernel_rfl
 have hpick:∀ (v:Value) (w:World),(Instr.typeAssert (.iface 188 v) 156 184 true).run Tryz.prog w=.ok (.tuple #[.agg #[zI 0],.bool false]) w:=fun _ _=>by kernel_rfl
 have hthrow:∀ (v:Value) (w:World),(Instr.typeAssert (.iface 188 v) 156 186 true).run Tryz.prog w=.ok (.tuple #[.agg #[zI 0,zI 0],.bool false]) w:=fun _ _=>by kernel_rfl
 have hrest:∀ (v:Value) (w:World),(Instr.typeAssert (.iface 188 v) 156 188 true).run Tryz.prog w=.ok (.tuple #[v,.bool true]) w:=fun _ _=>by kernel_rfl
 go_enter Tryz.func122,Tryz.ntmps122
 go_wp2
 exact Hw (v:=.agg #[zI who,zI seq,zI 6,zI 0,zI 0]) (by simp [results,Tryz.results122,go_sem]) rfl ⟨rfl,by repeat (first | exact Hr _ _ | apply Below.drew | refine Below.alloc ?_ (by simp <;> omega) _)⟩
