/- LAYER 11 (record): copied. -/
import Derived.Test.YtjkkopbhdeljmaaGreatRcX
set_option linter.unusedSimpArgs false
set_option linter.unusedVariables false
namespace Go.Proofs.YtjkkopbhdeljmaaGreat.W
open Go Go.ChangeShapes Go.WideShapes Go.ChangeAt Go.RowKit

theorem infoEn : (Tryz.prog.info? 69).map (fun i => (i.zero, i.size, i.bytes)) = some (some (.agg #[.int .i64 0, .int .i64 0, .int .i64 0, .slice none 0 0]), 4, 48) := by kernel_rfl
theorem sv_zero : (Tryz.prog.info? 25).map (·.zero) = some (some (.agg [.int .i64 0, .int .i64 0, .int .i64 0, .int .i64 0, .int .i64 0, .slice none 0 0, .slice none 0 0].toArray)) := by kernel_rfl
theorem NB_sv (s : Sv) : NB s.cells := by
  intro x hx
  simp [Sv.cells, B] at hx
end Go.Proofs.YtjkkopbhdeljmaaGreat.W
