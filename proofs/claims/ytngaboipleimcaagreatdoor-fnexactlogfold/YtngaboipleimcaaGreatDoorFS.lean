/- state of a store, of the program: the scene behind all its records, or none; conditions: the store lies in memory of its own. -/
import Derived.Test.YtngaboipleimcaaGreatDoorFF
import Derived.Test.YtngaboipleimcaaGreatDoorLB0
set_option linter.unusedVariables false
set_option maxRecDepth 20000
namespace Go.Proofs.YtngaboipleimcaaGreatDoor
open Go.RowKit Go.Deep
theorem AZ (c d:Int) (s b l:Nat) (V:CV) (n0:Nat) (hV:bD c d V=true) (bl off len cap:Nat) (Z:Nat→Nat→Int) (hlen:len≤1048576) (hwf:∀ k j,k<len→j<16→(Lit.int .i64 (Z k j)).wf=true) (hl:0<l) (w:World) (hg:w.cell? (zA 0 0)=some (.iface 226 (.agg #[zP 1 199]))) (hbl:bl<l)
 (hr:∀ k j,k<len→j<16→w.cell? ⟨bl,off+k * 16+j,none⟩=some (.int .i64 (Z k j))) (h:Sv w c d s b ⟨l,w.heap.size,w.heap.size⟩ V n0) :
 Hz 63 #[zP s 0,.slice (some ⟨bl,off,none⟩) len cap] w fun e w'=>e=.returned (zI (gm c d V Z len:Int))∧(∃ k1,Sv w' c d s b ⟨l,w.heap.size,k1⟩ (bg c d V Z (gm c d V Z len)) (n0+5 * len))∧Below l w w' :=
 (callsIn_wide (n:=5)).1 (Es c d s b l V n0 hV bl off len cap Z hlen hwf hl w hg hbl hr h)
