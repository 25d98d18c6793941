/- LAYER 11 (record): Check of the reference. -/
import Derived.Test.YtdcioeoofngibaaRcC
set_option linter.unusedSimpArgs false
set_option linter.unusedVariables false
namespace Go.Proofs.Ytdcioeoofngibaa.W
open Go Go.ChangeShapes Go.WideShapes Go.ChangeAt Go.RowKit
open Go.Proofs.Ytdcioeoofngibaa.P (enc dec)

end Go.Proofs.Ytdcioeoofngibaa.W
