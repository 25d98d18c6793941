/- LAYER 11 (record): Same of both. -/
import Derived.Test.YtiopcojkdglapaaRcO
set_option linter.unusedSimpArgs false
set_option linter.unusedVariables false
namespace Go.Proofs.Ytiopcojkdglapaa.W
open Go Go.ChangeShapes Go.WideShapes Go.ChangeAt Go.RowKit
open Go.Proofs.Ytiopcojkdglapaa.P (enc dec)


end Go.Proofs.Ytiopcojkdglapaa.W
