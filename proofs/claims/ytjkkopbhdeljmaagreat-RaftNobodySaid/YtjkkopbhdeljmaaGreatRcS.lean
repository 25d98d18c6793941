/- LAYER 11 (record): Same of both. -/
import Derived.Test.YtjkkopbhdeljmaaGreatRcO
set_option linter.unusedSimpArgs false
set_option linter.unusedVariables false
namespace Go.Proofs.YtjkkopbhdeljmaaGreat.W
open Go Go.ChangeShapes Go.WideShapes Go.ChangeAt Go.RowKit
open Go.Proofs.YtjkkopbhdeljmaaGreat.P (enc dec)


end Go.Proofs.YtjkkopbhdeljmaaGreat.W
