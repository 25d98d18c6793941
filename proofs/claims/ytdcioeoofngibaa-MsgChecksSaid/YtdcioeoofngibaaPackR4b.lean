/- CONTRACTS of layer 2 (pack): the reference's reader of numbers. -/
import Derived.Test.YtdcioeoofngibaaPackR
set_option linter.unusedSimpArgs false
set_option linter.unusedVariables false
namespace Go.Proofs.Ytdcioeoofngibaa.W
open Go.ChangeShapes Go.WideShapes Go.ChangeAt Go.RowKit
open Go.Proofs.Ytdcioeoofngibaa.P (mk lo hi enc tl gr up dec)


end Go.Proofs.Ytdcioeoofngibaa.W
