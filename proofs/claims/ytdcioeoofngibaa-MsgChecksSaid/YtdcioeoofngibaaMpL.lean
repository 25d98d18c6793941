/- LAYER 16 (msg): the law MsgChecks. -/
import Derived.Test.YtdcioeoofngibaaMpH
import Derived.Test.YtdcioeoofngibaaMsL
set_option linter.unusedSimpArgs false
set_option linter.unusedVariables false
namespace Go.Proofs.Ytdcioeoofngibaa.W
open Go Go.ChangeShapes Go.WideShapes Go.ChangeAt Go.RowKit

theorem law_MsgChecks (m n : Ms) (w : World) (wm : ∃ l L, MsF w m l L) (wn : ∃ l L, MsF w n l L) :
    Calls Try.prog 3 #[.agg m.cells.toArray, .agg n.cells.toArray] w fun x w' => x = .returned (.bool true) ∧ Below w.heap.size w w' := by
  obtain ⟨d, L, hm⟩ := wm
  obtain ⟨d', L', hn⟩ := wn
  exact checks_of mpencP mpcheckP mpsameP mpall m n d d' L L' w hm hn
end Go.Proofs.Ytdcioeoofngibaa.W
