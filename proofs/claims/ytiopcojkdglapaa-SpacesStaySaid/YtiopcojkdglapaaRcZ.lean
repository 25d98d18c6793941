/- LAYER 11 (record): copied. -/
import Derived.Test.YtiopcojkdglapaaRcX
set_option linter.unusedSimpArgs false
set_option linter.unusedVariables false
namespace Go.Proofs.Ytiopcojkdglapaa.W
open Go Go.ChangeShapes Go.WideShapes Go.ChangeAt Go.RowKit

theorem NB_sv (s : Sv) : NB s.cells := by
  intro x hx
  simp [Sv.cells, B] at hx
end Go.Proofs.Ytiopcojkdglapaa.W
