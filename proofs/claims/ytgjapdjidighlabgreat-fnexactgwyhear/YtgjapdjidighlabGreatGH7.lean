/- The law FnExactGwyHear, and messages that come in; conditions: those typed. -/
import Derived.Test.YtgjapdjidighlabGreatGH6
import Derived.Test.YtgjapdjidighlabGreatMsg9
namespace Go.Proofs.YtgjapdjidighlabGreat
open Go.RowKit Go.Deep
set_option linter.unusedVariables false
end Go.Proofs.YtgjapdjidighlabGreat
