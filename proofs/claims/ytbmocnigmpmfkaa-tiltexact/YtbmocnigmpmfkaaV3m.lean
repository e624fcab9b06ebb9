/- vec: through. -/
import Derived.Test.YtbmocnigmpmfkaaV0
namespace Go.Proofs.Ytbmocnigmpmfkaa
open Go.RowKit Go.Shelf

end Go.Proofs.Ytbmocnigmpmfkaa
