/- Contracts: times, bits.Div64. -/
import Derived.Test.YtbmocnigmpmfkaaLeaf
import Derived.Test.YtbmocnigmpmfkaaNum2
import Derived.Test.YtbmocnigmpmfkaaShelf
import Derived.Deep.QuietTactic
import Derived.BigQuiet
namespace Go.Proofs.Ytbmocnigmpmfkaa
open Go.RowKit

end Go.Proofs.Ytbmocnigmpmfkaa
