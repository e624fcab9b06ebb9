/- Contracts: nearest, share, operate, Mul, wakes. -/
import Derived.Test.YtjlfhhgdklblcaaMul
namespace Go.Proofs.Ytjlfhhgdklblcaa
open Go.RowKit

end Go.Proofs.Ytjlfhhgdklblcaa
