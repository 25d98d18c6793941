/- CONTRACTS of layer 2 (pack): the reference's reader of numbers. -/
import Derived.Test.YtjkkopbhdeljmaaGreatPackR
set_option linter.unusedSimpArgs false
set_option linter.unusedVariables false
namespace Go.Proofs.YtjkkopbhdeljmaaGreat.W
open Go.ChangeShapes Go.WideShapes Go.ChangeAt Go.RowKit
open Go.Proofs.YtjkkopbhdeljmaaGreat.P (mk lo hi enc tl gr up dec)


end Go.Proofs.YtjkkopbhdeljmaaGreat.W
