/- CONTRACTS of layer 3 (sha): the reference's words, constants and beginning. -/
import Derived.Test.YtkncbckmgcklfaaDoorShaN
import Derived.Test.YtkncbckmgcklfaaDoorTail
import Derived.IntWalk
set_option linter.unusedSimpArgs false
set_option linter.unusedVariables false
namespace Go.Proofs.YtkncbckmgcklfaaDoor.W
open Go.ChangeShapes Go.WideShapes Go.ChangeAt Go.RowKit
open Go.Proofs.YtkncbckmgcklfaaDoor.P

theorem size64 : (Tryd.prog.info? 99).map (·.size) = some 64 := by kernel_rfl
theorem zero64 : (Tryd.prog.info? 99).map (·.zero) = some (some (.agg ((List.replicate 64 (0 : UInt32)).map U).toArray)) := by kernel_rfl

end Go.Proofs.YtkncbckmgcklfaaDoor.W
