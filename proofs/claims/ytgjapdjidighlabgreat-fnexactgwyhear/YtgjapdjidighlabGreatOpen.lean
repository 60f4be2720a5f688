/- A slice of structs of five integers that came in: where its numbers lie; no Go text in sight; conditions: none beyond those typed. -/
import Derived.Test.YtgjapdjidighlabGreatKit
import Derived.Deep.Slices
namespace Go.Proofs.YtgjapdjidighlabGreat
open Go.RowKit Go.ChangeShapes Go.WideShapes Go.ChangeAt Go.Deep
end Go.Proofs.YtgjapdjidighlabGreat
