/- Contracts: nearest, share, operate, Mul, wakes. -/
import Derived.Test.YtojcndgoihkfnaaMul
namespace Go.Proofs.Ytojcndgoihkfnaa
open Go.RowKit

end Go.Proofs.Ytojcndgoihkfnaa
