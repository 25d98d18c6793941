/- CONTRACTS of layer 6 (caveat): what a caveat allows, the reference's. -/
import Derived.Test.YtagblhkihammdaaCavH
namespace Go.Proofs.Ytagblhkihammdaa.W
open Go.ChangeShapes Go.WideShapes Go.ChangeAt Go.RowKit


end Go.Proofs.Ytagblhkihammdaa.W
