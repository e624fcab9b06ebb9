/- Contracts: times, bits.Div64. -/
import Derived.Test.YtllgknodgmgemaaLeaf
import Derived.Test.YtllgknodgmgemaaNum2
import Derived.Test.YtllgknodgmgemaaShelf
import Derived.Deep.QuietTactic
import Derived.BigQuiet
namespace Go.Proofs.Ytllgknodgmgemaa
open Go.RowKit

end Go.Proofs.Ytllgknodgmgemaa
