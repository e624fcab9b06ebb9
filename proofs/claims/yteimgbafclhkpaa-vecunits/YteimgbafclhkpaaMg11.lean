/- Contracts: nearest, share, operate, Mul, wakes. Contracts: fit, sum, difference, product, quotient, operate, and the faces Add, Sub, Neg, Mul, Div, Ratio, wakes. -/
import Derived.Test.YteimgbafclhkpaaMulm
namespace Go.Proofs.Yteimgbafclhkpaa
open Go.RowKit

end Go.Proofs.Yteimgbafclhkpaa

namespace Go.Proofs.Yteimgbafclhkpaa
open Go.RowKit

end Go.Proofs.Yteimgbafclhkpaa
