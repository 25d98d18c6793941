/- LAYER 11 (record): Same of both. -/
import Derived.Test.YtppladknpjgpaaaRcO
set_option linter.unusedSimpArgs false
set_option linter.unusedVariables false
namespace Go.Proofs.Ytppladknpjgpaaa.W
open Go Go.ChangeShapes Go.WideShapes Go.ChangeAt Go.RowKit
open Go.Proofs.Ytppladknpjgpaaa.P (enc dec)


end Go.Proofs.Ytppladknpjgpaaa.W
