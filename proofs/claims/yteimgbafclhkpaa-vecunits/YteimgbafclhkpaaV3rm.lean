/- vec: through. -/
import Derived.Test.YteimgbafclhkpaaMg6
namespace Go.Proofs.Yteimgbafclhkpaa
open Go.RowKit Go.Shelf

end Go.Proofs.Yteimgbafclhkpaa
