/- The walk of the copy of one walker; small facts on worlds; conditions: none. -/
import Derived.Test.YtodmfbbicdbjdaaRows
import Derived.WalkKit
import Derived.WalkSpells
import Derived.Below
import Derived.Test.YtodmfbbicdbjdaaKit
import Derived.Deep.RegionHeld3
import Derived.Deep.QuietTactic
import Derived.BigQuiet
namespace Go.Proofs.Ytodmfbbicdbjdaa
open Go.RowKit
set_option linter.unusedVariables false

end Go.Proofs.Ytodmfbbicdbjdaa
