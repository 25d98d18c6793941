/- CONTRACTS of layer 2 (pack): the reference's reader of numbers. -/
import Derived.Test.YtpcpgodnhamdiaaPackR
set_option linter.unusedSimpArgs false
set_option linter.unusedVariables false
namespace Go.Proofs.Ytpcpgodnhamdiaa.W
open Go.ChangeShapes Go.WideShapes Go.ChangeAt Go.RowKit
open Go.Proofs.Ytpcpgodnhamdiaa.P (mk lo hi enc tl gr up dec)


end Go.Proofs.Ytpcpgodnhamdiaa.W
