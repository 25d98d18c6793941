/- LAYER 11 (record): last of both, copiedEntry. -/
import Derived.Test.YtiopcojkdglapaaRcV
import Derived.Test.YtiopcojkdglapaaRcR
set_option linter.unusedSimpArgs false
set_option linter.unusedVariables false
namespace Go.Proofs.Ytiopcojkdglapaa.W
open Go Go.ChangeShapes Go.WideShapes Go.ChangeAt Go.RowKit

/-- the last entry's number, or without one the base's -/
def lastV (b : Int) (L : List (En × List UInt8)) : Int := if L.length = 0 then b else (L.getD (L.length - 1) Ez).1.ix
theorem sv_one (s : Sv) : ∀ v ∈ s.cells, v.oneCell' = true := by
  intro v hv
  simp [Sv.cells] at hv
  rcases hv with rfl | rfl | rfl | rfl | rfl | rfl | rfl <;> rfl
end Go.Proofs.Ytiopcojkdglapaa.W
