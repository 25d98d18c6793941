/- LAYER 20 (manifest): the reference's Piece, Bytes, at, copied, Find, Names. LAYER 20 (manifest): the reference's Find, Names, Bytes. -/
import Derived.Test.YtphlkdfcngdlnaaGreatMfK
import Derived.Test.YtphlkdfcngdlnaaGreatMfUb
import Derived.Test.YtphlkdfcngdlnaaGreatLg
import Derived.Test.YtphlkdfcngdlnaaGreatRun
set_option linter.unusedSimpArgs false
set_option linter.unusedVariables false
namespace Go.Proofs.YtphlkdfcngdlnaaGreat.W
open Go Go.ChangeShapes Go.WideShapes Go.ChangeAt Go.RowKit
open Go.Proofs.YtphlkdfcngdlnaaGreat.P (enc dec)
open Go.Proofs.YtphlkdfcngdlnaaGreat.S

end Go.Proofs.YtphlkdfcngdlnaaGreat.W

namespace Go.Proofs.YtphlkdfcngdlnaaGreat.W
open Go Go.ChangeShapes Go.WideShapes Go.ChangeAt Go.RowKit
open Go.Proofs.YtphlkdfcngdlnaaGreat.P (enc dec)
open Go.Proofs.YtphlkdfcngdlnaaGreat.S

end Go.Proofs.YtphlkdfcngdlnaaGreat.W
