/- The walk of orderOf at what a reader makes; conditions: none. -/
import Derived.Test.YtmccbbanganjlaaDoorORead2
namespace Go.Proofs.YtmccbbanganjlaaDoor
open Go.RowKit
set_option linter.unusedVariables false

/-- The order of a reader's deed: kind, what and how many. -/
def ordK (f : Nat) : Int := if f = 55 then 1 else if f = 57 then 2 else if f = 58 then 3 else if f = 59 then 4 else if f = 60 then 5 else 6
def ordT (f : Nat) (a : ByteArray) : Int := if f = 55 then sideF a else if f = 57 then atoiV a.data.toList else if f = 60 then sideF a else 0
def ordN (f : Nat) (a b : ByteArray) : Int := if f = 57 then atoiV b.data.toList else if f = 58 then atoiV a.data.toList else if f = 59 then atoiV a.data.toList else if f = 60 then atoiV b.data.toList else 0

theorem order_R (x a b : ByteArray) (f : Nat) (h : readerOf x = some f) (who seq : Int) (w : World) :
    Calls Tryd.prog 34 #[.int .i64 who, .int .i64 seq, deedR f a b] w fun e w' => e = .returned (.agg #[.int .i64 who, .int .i64 seq, .int .i64 (ordK f), .int .i64 (ordT f a), .int .i64 (ordN f a b)]) ∧ Below w.heap.size w w' := by
  unfold readerOf at h
  repeat' split at h
  all_goals first
    | (simp only [Option.some.injEq] at h; subst h; first | exact order_step who seq _ 0 w | exact order_give who seq _ _ w | exact order_drop who seq 0 _ w | exact order_pick who seq 0 _ w | exact order_throw who seq _ _ w | exact order_rest who seq 0 0 w)
    | (simp at h; done)
end Go.Proofs.YtmccbbanganjlaaDoor
