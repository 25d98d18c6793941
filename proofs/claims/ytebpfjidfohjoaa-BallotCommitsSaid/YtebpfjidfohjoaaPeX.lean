/- LAYER 12 (peers): the reference's Change. -/
import Derived.Test.YtebpfjidfohjoaaPeW
set_option linter.unusedSimpArgs false
set_option linter.unusedVariables false
namespace Go.Proofs.Ytebpfjidfohjoaa.W
open Go Go.ChangeShapes Go.WideShapes Go.ChangeAt Go.RowKit
open Go.Proofs.Ytebpfjidfohjoaa.B (hasV elV bitsV mem mem_and mem_ref cntM cnt T bits_127 cntM_le)

end Go.Proofs.Ytebpfjidfohjoaa.W
