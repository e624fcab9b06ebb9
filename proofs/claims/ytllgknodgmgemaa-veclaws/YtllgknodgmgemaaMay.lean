/- Contract of the reference's May. -/
import Derived.Test.YtllgknodgmgemaaLeaf
import Derived.Deep.QuietTactic
import Derived.BigQuiet
namespace Go.Proofs.Ytllgknodgmgemaa
open Go.RowKit

end Go.Proofs.Ytllgknodgmgemaa
