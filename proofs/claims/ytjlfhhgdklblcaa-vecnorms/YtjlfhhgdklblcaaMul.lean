/- Contracts: times, bits.Div64. -/
import Derived.Test.YtjlfhhgdklblcaaLeaf
import Derived.Test.YtjlfhhgdklblcaaNum2
import Derived.Test.YtjlfhhgdklblcaaShelf
import Derived.Deep.QuietTactic
import Derived.BigQuiet
namespace Go.Proofs.Ytjlfhhgdklblcaa
open Go.RowKit

end Go.Proofs.Ytjlfhhgdklblcaa
