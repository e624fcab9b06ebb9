/- vec: Add, Sub, Neg, Scale. -/
import Derived.Test.YteimgbafclhkpaaMg6
import Derived.Test.YteimgbafclhkpaaV5m
import Derived.Test.YteimgbafclhkpaaMg9
import Derived.Test.YteimgbafclhkpaaMg11
namespace Go.Proofs.Yteimgbafclhkpaa
open Go.RowKit Go.Shelf

end Go.Proofs.Yteimgbafclhkpaa
