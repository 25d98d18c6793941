/- CONTRACTS of layer 6 (caveat): the reference's All. -/
import Derived.Test.YtagblhkihammdaaCavF
import Derived.Test.YtagblhkihammdaaQ2
namespace Go.Proofs.Ytagblhkihammdaa.W
open Go.ChangeShapes Go.WideShapes Go.ChangeAt Go.RowKit


end Go.Proofs.Ytagblhkihammdaa.W
