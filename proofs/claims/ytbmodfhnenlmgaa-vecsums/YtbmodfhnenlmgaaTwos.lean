/- A list of Two in memory. -/
import Derived.Test.YtbmodfhnenlmgaaFaces
namespace Go.Proofs.Ytbmodfhnenlmgaa
open Go.RowKit

end Go.Proofs.Ytbmodfhnenlmgaa
