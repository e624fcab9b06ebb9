/- Contracts: nearest, share, operate, Mul, wakes. -/
import Derived.Test.YtbmocnigmpmfkaaMul
namespace Go.Proofs.Ytbmocnigmpmfkaa
open Go.RowKit

end Go.Proofs.Ytbmocnigmpmfkaa
