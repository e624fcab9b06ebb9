/- A list of Two in memory. -/
import Derived.Test.YtmbdcgijjpcppaaGreatMg15
namespace Go.Proofs.YtmbdcgijjpcppaaGreat
open Go.RowKit

end Go.Proofs.YtmbdcgijjpcppaaGreat
