/- Plain facts on texts of walkers: what the words of such a text are, and what number each word spells, for both readers; no Go text in sight; conditions: those typed. -/
import Derived.Test.YtpfemjenhnnfmaaDoorText
import Derived.Lib.AtoiAll
import Derived.Lib.Split
namespace Go.Proofs.YtpfemjenhnnfmaaDoor
open Go.RowKit
set_option linter.unusedVariables false

/-- What Atoi hands back beside its error. -/
def atoiV (l : List UInt8) : Int := match Lib.atoiAll l with
  | .ok v => v
  | .syntax => 0
  | .range => Lib.atoiSat l

/-- The model's loop over a word's bytes; none, if one is no digit. -/
def numGo : Int → List UInt8 → Option Int
  | n, [] => some n
  | n, b :: r => if b.toNat < 48 ∨ 57 < b.toNat then none else numGo (n * 10 + (b.toNat - 48 : Nat)) r
def numF (l : List UInt8) : Int :=
  if l.length = 0 ∨ 5 < l.length ∨ (1 < l.length ∧ l.head? = some 48) then -1 else (numGo 0 l).getD (-1)

def goodDigits (n : Nat) : Bool := (Lib.decDigits n).all (fun b => b != 32) && decide ((Lib.decDigits n).length ≤ 3) && decide (atoiV (Lib.decDigits n) = n) && decide (numF (Lib.decDigits n) = n)
theorem digits_all : ∀ n, n < 901 → goodDigits n = true := by decide +kernel
end Go.Proofs.YtpfemjenhnnfmaaDoor
