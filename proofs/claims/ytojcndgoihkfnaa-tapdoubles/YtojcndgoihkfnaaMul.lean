/- Contracts: times, bits.Div64. -/
import Derived.Test.YtojcndgoihkfnaaLeaf
import Derived.Test.YtojcndgoihkfnaaNum2
import Derived.Test.YtojcndgoihkfnaaShelf
import Derived.Deep.QuietTactic
import Derived.BigQuiet
namespace Go.Proofs.Ytojcndgoihkfnaa
open Go.RowKit

end Go.Proofs.Ytojcndgoihkfnaa
