/- CONTRACTS of layer 1 (nums), the third part: sums of lists; awake. -/
import Derived.Test.YtnkpcolkhmphmaaNumsWb
import Derived.Test.YtnkpcolkhmphmaaSumP
set_option linter.unusedSimpArgs false
set_option linter.unusedVariables false
namespace Go.Proofs.Ytnkpcolkhmphmaa.W
open Go.ChangeShapes Go.WideShapes Go.ChangeAt Go.RowKit
open Go.Proofs.Ytnkpcolkhmphmaa.B Go.Proofs.Ytnkpcolkhmphmaa.S






end Go.Proofs.Ytnkpcolkhmphmaa.W
