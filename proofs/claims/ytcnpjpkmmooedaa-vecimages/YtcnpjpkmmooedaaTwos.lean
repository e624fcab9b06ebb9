/- A list of Two in memory. -/
import Derived.Test.YtcnpjpkmmooedaaFaces
namespace Go.Proofs.Ytcnpjpkmmooedaa
open Go.RowKit

end Go.Proofs.Ytcnpjpkmmooedaa
