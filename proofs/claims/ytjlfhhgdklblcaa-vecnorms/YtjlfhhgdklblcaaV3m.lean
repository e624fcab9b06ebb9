/- vec: through. -/
import Derived.Test.YtjlfhhgdklblcaaV0
namespace Go.Proofs.Ytjlfhhgdklblcaa
open Go.RowKit Go.Shelf

end Go.Proofs.Ytjlfhhgdklblcaa
