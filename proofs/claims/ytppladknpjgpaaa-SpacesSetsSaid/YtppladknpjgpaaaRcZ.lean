/- LAYER 11 (record): copied. -/
import Derived.Test.YtppladknpjgpaaaRcX
set_option linter.unusedSimpArgs false
set_option linter.unusedVariables false
namespace Go.Proofs.Ytppladknpjgpaaa.W
open Go Go.ChangeShapes Go.WideShapes Go.ChangeAt Go.RowKit

theorem NB_sv (s : Sv) : NB s.cells := by
  intro x hx
  simp [Sv.cells, B] at hx
end Go.Proofs.Ytppladknpjgpaaa.W
