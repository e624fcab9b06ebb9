/- Contracts: nearest, share, operate, Mul, wakes. -/
import Derived.Test.YtllgknodgmgemaaMul
namespace Go.Proofs.Ytllgknodgmgemaa
open Go.RowKit

end Go.Proofs.Ytllgknodgmgemaa
