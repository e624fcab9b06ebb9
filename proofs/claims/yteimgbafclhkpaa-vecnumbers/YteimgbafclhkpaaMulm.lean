/- Contracts: times, bits.Div64. -/
import Derived.Test.YteimgbafclhkpaaLeafm
import Derived.Test.YteimgbafclhkpaaMg0
import Derived.Test.YteimgbafclhkpaaMg1
import Derived.Deep.QuietTactic
import Derived.BigQuiet
namespace Go.Proofs.Yteimgbafclhkpaa
open Go.RowKit

end Go.Proofs.Yteimgbafclhkpaa
