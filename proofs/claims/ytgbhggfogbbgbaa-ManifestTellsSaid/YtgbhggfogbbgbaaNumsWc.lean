/- CONTRACTS of layer 1 (nums), the third part: sums of lists; awake. -/
import Derived.Test.YtgbhggfogbbgbaaNumsWb
import Derived.Test.YtgbhggfogbbgbaaSumP
set_option linter.unusedSimpArgs false
set_option linter.unusedVariables false
namespace Go.Proofs.Ytgbhggfogbbgbaa.W
open Go.ChangeShapes Go.WideShapes Go.ChangeAt Go.RowKit
open Go.Proofs.Ytgbhggfogbbgbaa.B Go.Proofs.Ytgbhggfogbbgbaa.S






end Go.Proofs.Ytgbhggfogbbgbaa.W
