/- LAYER 12 (peers): the laws PeersTells, PeersMatch, PeersMeet. -/
import Derived.Test.YtebpfjidfohjoaaPeK
import Derived.Test.YtebpfjidfohjoaaQ
import Derived.Test.YtebpfjidfohjoaaOpen
set_option linter.unusedSimpArgs false
set_option linter.unusedVariables false
namespace Go.Proofs.Ytebpfjidfohjoaa.W
open Go Go.ChangeShapes Go.WideShapes Go.ChangeAt Go.RowKit
open Go.Proofs.Ytebpfjidfohjoaa.B (hasV elV bitsV mem mem_and mem_ref cntM cnt T bits_127 cntM_le lsN lsN_len lsN_lt mlN nGe nGt Best)

/-- the best, as a function -/
noncomputable def bestV (V : List Int) : Int := Classical.choose (B.best_ex V)
theorem bestV_is (V : List Int) : Best V (bestV V) := Classical.choose_spec (B.best_ex V)
theorem pmatch_v (c : Int) (ms : List Int) (hms : ms.length = 7) (w : World) :
    Calls Try.prog 18 #[.int .i64 c, .agg (ms.map (Value.int .i64)).toArray] w fun y w' => y = .returned (.int .i64 (bestV (vals c ms))) ∧ Below w.heap.size w w' :=
  (pmatch c ms hms w).mono fun e w' ⟨b, he, hb, hw⟩ => ⟨by rw [he, hb.unique (bestV_is _)], hw⟩
theorem umatch_v (c : Int) (ms : List Int) (hms : ms.length = 7) (w : World) :
    Calls Try.prog 16 #[.int .i64 c, .agg (ms.map (Value.int .i64)).toArray] w fun y w' => y = .returned (.int .i64 (bestV (vals c ms))) ∧ Below w.heap.size w w' :=
  (umatch c ms hms w).mono fun e w' ⟨b, he, hb, hw⟩ => ⟨by rw [he, hb.unique (bestV_is _)], hw⟩
theorem best_543 : bestV (vals 7 [5, 3, 4, 0, 0, 0, 0]) = 4 :=
  (bestV_is _).unique (.inr ⟨by decide +kernel, by decide +kernel, by decide +kernel⟩)
theorem q73 : quoM 7 3 = true := by decide +kernel
theorem q71 : quoM 7 1 = false := by decide +kernel
theorem g715 : chgM 7 15 = 0 := by decide +kernel


end Go.Proofs.Ytebpfjidfohjoaa.W
