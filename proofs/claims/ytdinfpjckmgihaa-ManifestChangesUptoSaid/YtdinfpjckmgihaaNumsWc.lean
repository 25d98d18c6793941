/- CONTRACTS of layer 1 (nums), the third part: sums of lists; awake. -/
import Derived.Test.YtdinfpjckmgihaaNumsWb
import Derived.Test.YtdinfpjckmgihaaSumP
set_option linter.unusedSimpArgs false
set_option linter.unusedVariables false
namespace Go.Proofs.Ytdinfpjckmgihaa.W
open Go.ChangeShapes Go.WideShapes Go.ChangeAt Go.RowKit
open Go.Proofs.Ytdinfpjckmgihaa.B Go.Proofs.Ytdinfpjckmgihaa.S






end Go.Proofs.Ytdinfpjckmgihaa.W
