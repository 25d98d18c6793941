/- LAYER 11 (record): Check of the reference. -/
import Derived.Test.YtpjhknmomlmnjaaRcC
set_option linter.unusedSimpArgs false
set_option linter.unusedVariables false
namespace Go.Proofs.Ytpjhknmomlmnjaa.W
open Go Go.ChangeShapes Go.WideShapes Go.ChangeAt Go.RowKit
open Go.Proofs.Ytpjhknmomlmnjaa.P (enc dec)

end Go.Proofs.Ytpjhknmomlmnjaa.W
