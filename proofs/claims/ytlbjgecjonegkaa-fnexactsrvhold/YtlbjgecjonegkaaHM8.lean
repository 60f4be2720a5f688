/- SrvOk of the law FnExactSrvHold, and servers that come in; conditions: the holds and ghosts lie in memory. -/
import Derived.Test.YtlbjgecjonegkaaHM7
import Derived.Test.YtlbjgecjonegkaaHS9
namespace Go.Proofs.Ytlbjgecjonegkaa
open Go.RowKit Go.Deep
set_option linter.unusedVariables false
end Go.Proofs.Ytlbjgecjonegkaa
