/- Contracts: nearest, share, operate, Mul, wakes. Contracts: fit, sum, difference, product, quotient, operate, and the faces Add, Sub, Neg, Mul, Div, Ratio, wakes. -/
import Derived.Test.YtbmocnigmpmfkaaMg17
namespace Go.Proofs.Ytbmocnigmpmfkaa
open Go.RowKit

end Go.Proofs.Ytbmocnigmpmfkaa

namespace Go.Proofs.Ytbmocnigmpmfkaa
open Go.RowKit

end Go.Proofs.Ytbmocnigmpmfkaa
