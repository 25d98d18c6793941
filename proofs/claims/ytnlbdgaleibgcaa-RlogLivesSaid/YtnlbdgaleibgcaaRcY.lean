/- LAYER 11 (record): the closures of Apply; slices.IndexFunc with them. -/
import Derived.Test.YtnlbdgaleibgcaaRcX
set_option linter.unusedSimpArgs false
set_option linter.unusedVariables false
namespace Go.Proofs.Ytnlbdgaleibgcaa.W
open Go Go.ChangeShapes Go.WideShapes Go.ChangeAt Go.RowKit

def pr1 (r : Rc) (e : En) : Bool := decide (e.ix ≤ r.i)
def pr2 (r : Rc) (e : En) : Bool := decide (r.i ≤ e.ix)
end Go.Proofs.Ytnlbdgaleibgcaa.W
