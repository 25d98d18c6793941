/- CONTRACTS of layer 1 (nums), the third part: sums of lists; awake. -/
import Derived.Test.YtmacjpgeamlmhaaNumsWb
import Derived.Test.YtmacjpgeamlmhaaSumP
set_option linter.unusedSimpArgs false
set_option linter.unusedVariables false
namespace Go.Proofs.Ytmacjpgeamlmhaa.W
open Go.ChangeShapes Go.WideShapes Go.ChangeAt Go.RowKit
open Go.Proofs.Ytmacjpgeamlmhaa.B Go.Proofs.Ytmacjpgeamlmhaa.S






end Go.Proofs.Ytmacjpgeamlmhaa.W
