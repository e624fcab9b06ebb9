/- Contracts: times, bits.Div64. -/
import Derived.Test.YtfmalpnlencmbaaMg2
import Derived.Test.YtfmalpnlencmbaaMg0
import Derived.Test.YtfmalpnlencmbaaMg1
import Derived.Deep.QuietTactic
import Derived.BigQuiet
namespace Go.Proofs.Ytfmalpnlencmbaa
open Go.RowKit

end Go.Proofs.Ytfmalpnlencmbaa
