/- The reference of layer 3: less, Cross, dot, Dot, Apply. vec: through. -/
import Derived.Test.YtbmocnigmpmfkaaMg47
import Derived.Test.YtbmocnigmpmfkaaMg12
namespace Go.Proofs.Ytbmocnigmpmfkaa
open Go.RowKit Go.Shelf

theorem fit_i64 {a : Int} (h : okW a = true) : Fit 64 a := fit_word a (word64 h).1 (word64 h).2
theorem nearQ_word (x : Int) (r : Value) (w : World) (h : IsI w r x) (f : Fit 200 x) :
    Calls Try.prog 28 #[r] w fun e w' => e = .returned (.tuple #[.int .i64 (fitR (nearQ x)).1, .int .i64 (fitR (nearQ x)).2]) ∧ Ext w w' := nearq_any x (nearQ x) 200 r w h (by omega) (by omega) f (nearQ_spec x)

end Go.Proofs.Ytbmocnigmpmfkaa

namespace Go.Proofs.Ytbmocnigmpmfkaa
open Go.RowKit Go.Shelf

end Go.Proofs.Ytbmocnigmpmfkaa
