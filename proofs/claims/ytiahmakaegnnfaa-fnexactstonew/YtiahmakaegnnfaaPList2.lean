/- The walks of PclListOk, the program's and the model's; conditions: the list lies in memory as a row of parcels. -/
import Derived.Test.YtiahmakaegnnfaaPList
namespace Go.Proofs.Ytiahmakaegnnfaa.P8
open Go.RowKit Go.Deep
set_option linter.unusedVariables false

end Go.Proofs.Ytiahmakaegnnfaa.P8
