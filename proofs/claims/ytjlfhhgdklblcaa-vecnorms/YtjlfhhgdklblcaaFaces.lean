/- Contracts: fit, sum, difference, product, quotient, operate, and the faces Add, Sub, Neg, Mul, Div, Ratio, wakes. -/
import Derived.Test.YtjlfhhgdklblcaaOps
namespace Go.Proofs.Ytjlfhhgdklblcaa
open Go.RowKit

end Go.Proofs.Ytjlfhhgdklblcaa
