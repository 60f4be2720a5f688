/- LogOk of the program; conditions: none. -/
import Derived.Test.YtiahmakaegnnfaaLog1
import Derived.Deep.RegionHeld3
import Derived.Deep.QuietTactic
import Derived.BigQuiet
namespace Go.Proofs.Ytiahmakaegnnfaa
open Go.RowKit
set_option linter.unusedVariables false

def eq1 (s p0 p1 p2 p3 p4 p5 p6 p7 n : Int) : Bool := s == 0 && (p0 == 0 && (p1 == 0 && (p2 == 0 && (p3 == 0 && (p4 == 0 && (p5 == 0 && (p6 == 0 && (p7 == 0 && (n == 0)))))))))
def eq2 (a0 a1 a2 a3 a4 n : Int) : Bool := a0 == 0 && (a1 == 0 && (a2 == 0 && (a3 == 0 && (a4 == 0 && (n == 0)))))
def eq3 (a0 a1 a2 a3 a4 p0 p1 p2 p3 p4 p5 p6 p7 : Int) : Bool := a0 == 0 && (a1 == 0 && (a2 == 0 && (a3 == 0 && (a4 == 0 && (p0 == 0 && (p1 == 0 && (p2 == 0 && (p3 == 0 && (p4 == 0 && (p5 == 0 && (p6 == 0 && (p7 == 0))))))))))))
def eq0 (k a0 a1 a2 a3 a4 s p0 p1 p2 p3 p4 p5 p6 p7 n : Int) : Bool := k == 0 && (a0 == 0 && (a1 == 0 && (a2 == 0 && (a3 == 0 && (a4 == 0 && (s == 0 && (p0 == 0 && (p1 == 0 && (p2 == 0 && (p3 == 0 && (p4 == 0 && (p5 == 0 && (p6 == 0 && (p7 == 0 && (n == 0)))))))))))))))
theorem nb0 (x : Int) (w : World) : (if x = 0 then Result.ok (Next.value (.bool false)) w else Result.ok (Next.value (.bool true)) w) = Result.ok (Next.value (.bool (!(x == 0)))) w := by
  by_cases h : x = 0 <;> simp [h]
theorem nb (x : Int) (r : Bool) (w : World) : (if x = 0 then Result.ok (Next.value (.bool (!r))) w else Result.ok (Next.value (.bool true)) w) = Result.ok (Next.value (.bool (!(x == 0 && r)))) w := by
  by_cases h : x = 0 <;> simp [h]
theorem logB1 {c d a0 a1 a2 a3 a4 s p0 p1 p2 p3 p4 p5 p6 p7 n : Int} : logB c d 1 a0 a1 a2 a3 a4 s p0 p1 p2 p3 p4 p5 p6 p7 n = (okB c d && (ordB a0 a1 a2 a3 a4 && eq1 s p0 p1 p2 p3 p4 p5 p6 p7 n)) := by
  simp [logB, noParcel, eq1, Bool.and_assoc]
theorem logB2 {c d a0 a1 a2 a3 a4 s p0 p1 p2 p3 p4 p5 p6 p7 n : Int} : logB c d 2 a0 a1 a2 a3 a4 s p0 p1 p2 p3 p4 p5 p6 p7 n = (eq2 a0 a1 a2 a3 a4 n && (inB s 0 1 && pclB c d p0 p1 p2 p3 p4 p5 p6 p7)) := by
  simp [logB, noOrder, eq2, Bool.and_assoc, Bool.and_comm, Bool.and_left_comm]
theorem logB3 {c d a0 a1 a2 a3 a4 s p0 p1 p2 p3 p4 p5 p6 p7 n : Int} : logB c d 3 a0 a1 a2 a3 a4 s p0 p1 p2 p3 p4 p5 p6 p7 n = (okB c d && (eq3 a0 a1 a2 a3 a4 p0 p1 p2 p3 p4 p5 p6 p7 && (inB s 0 1 && inB n 1 5000))) := by
  simp [logB, noOrder, noParcel, eq3, Bool.and_assoc, Bool.and_comm, Bool.and_left_comm]
theorem logB0 {c d k a0 a1 a2 a3 a4 s p0 p1 p2 p3 p4 p5 p6 p7 n : Int} (h1 : ¬ k = 1) (h2 : ¬ k = 2) (h3 : ¬ k = 3) : logB c d k a0 a1 a2 a3 a4 s p0 p1 p2 p3 p4 p5 p6 p7 n = false := by
  simp [logB, h1, h2, h3]

end Go.Proofs.Ytiahmakaegnnfaa
