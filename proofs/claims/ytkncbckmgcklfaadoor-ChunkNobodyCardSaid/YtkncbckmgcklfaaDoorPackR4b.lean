/- CONTRACTS of layer 2 (pack): the reference's reader of numbers. -/
import Derived.Test.YtkncbckmgcklfaaDoorPackR
set_option linter.unusedSimpArgs false
set_option linter.unusedVariables false
namespace Go.Proofs.YtkncbckmgcklfaaDoor.W
open Go.ChangeShapes Go.WideShapes Go.ChangeAt Go.RowKit
open Go.Proofs.YtkncbckmgcklfaaDoor.P (mk lo hi enc tl gr up dec)


end Go.Proofs.YtkncbckmgcklfaaDoor.W
