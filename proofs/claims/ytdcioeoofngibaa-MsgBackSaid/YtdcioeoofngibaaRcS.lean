/- LAYER 11 (record): Same of both. -/
import Derived.Test.YtdcioeoofngibaaRcO
set_option linter.unusedSimpArgs false
set_option linter.unusedVariables false
namespace Go.Proofs.Ytdcioeoofngibaa.W
open Go Go.ChangeShapes Go.WideShapes Go.ChangeAt Go.RowKit
open Go.Proofs.Ytdcioeoofngibaa.P (enc dec)


end Go.Proofs.Ytdcioeoofngibaa.W
