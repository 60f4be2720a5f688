/- StoOk of the model; conditions: the store lies in memory. -/
import Derived.Test.YtngaboipleimcaaGreatDoorFM
import Derived.Test.YtngaboipleimcaaGreatDoorFS
set_option linter.unusedVariables false
set_option maxRecDepth 20000
