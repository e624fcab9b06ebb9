/- vec: Add, Sub, Neg, Scale. -/
import Derived.Test.YtbmocnigmpmfkaaV6d
import Derived.Test.YtbmocnigmpmfkaaV5
import Derived.Test.YtbmocnigmpmfkaaV4
import Derived.Test.YtbmocnigmpmfkaaFaces  
namespace Go.Proofs.Ytbmocnigmpmfkaa
open Go.RowKit Go.Shelf

end Go.Proofs.Ytbmocnigmpmfkaa
