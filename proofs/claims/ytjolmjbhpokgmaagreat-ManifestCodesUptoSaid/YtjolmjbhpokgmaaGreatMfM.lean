/- LAYER 20 (manifest): the reference's Piece, Bytes, at, copied, Find, Names. LAYER 20 (manifest): the reference's Find, Names, Bytes. -/
import Derived.Test.YtjolmjbhpokgmaaGreatMfK
import Derived.Test.YtjolmjbhpokgmaaGreatMfUb
import Derived.Test.YtjolmjbhpokgmaaGreatLg
import Derived.Test.YtjolmjbhpokgmaaGreatRun
set_option linter.unusedSimpArgs false
set_option linter.unusedVariables false
namespace Go.Proofs.YtjolmjbhpokgmaaGreat.W
open Go Go.ChangeShapes Go.WideShapes Go.ChangeAt Go.RowKit
open Go.Proofs.YtjolmjbhpokgmaaGreat.P (enc dec)
open Go.Proofs.YtjolmjbhpokgmaaGreat.S

end Go.Proofs.YtjolmjbhpokgmaaGreat.W

namespace Go.Proofs.YtjolmjbhpokgmaaGreat.W
open Go Go.ChangeShapes Go.WideShapes Go.ChangeAt Go.RowKit
open Go.Proofs.YtjolmjbhpokgmaaGreat.P (enc dec)
open Go.Proofs.YtjolmjbhpokgmaaGreat.S

end Go.Proofs.YtjolmjbhpokgmaaGreat.W
