/- The walk of the law FnExactArbOk: it answers true; conditions: the table lies in memory. -/
import Derived.Test.YtodmfbbicdbjdaaArb3
namespace Go.Proofs.Ytodmfbbicdbjdaa
open Go.RowKit Go.Deep
set_option linter.unusedVariables false

end Go.Proofs.Ytodmfbbicdbjdaa
