/- Plain facts: the digits of the numbers below 5000 are read back; no Go text in sight; conditions: none. -/
import Derived.Test.YtpfemjenhnnfmaaDoorPlain
namespace Go.Proofs.YtpfemjenhnnfmaaDoor
set_option maxRecDepth 20000

def goodDigits4 (n : Nat) : Bool := (Lib.decDigits n).all (fun b => b != 32) && decide ((Lib.decDigits n).length ≤ 4) && decide (atoiV (Lib.decDigits n) = n) && decide (numF (Lib.decDigits n) = n)
theorem digits_all4 : ∀ n, n < 5000 → goodDigits4 n = true := by decide +kernel

end Go.Proofs.YtpfemjenhnnfmaaDoor
