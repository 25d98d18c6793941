/- LAYER 15 (ballot): the laws. -/
import Derived.Test.YtebpfjidfohjoaaBaN
import Derived.Test.YtebpfjidfohjoaaBaP
set_option linter.unusedSimpArgs false
set_option linter.unusedVariables false
namespace Go.Proofs.Ytebpfjidfohjoaa.W
open Go Go.ChangeShapes Go.WideShapes Go.ChangeAt Go.RowKit

theorem law_BallotFresh (a b c d : Int) (w : World) (w0 : (Lit.int .i64 a).wf = true) (w1 : (Lit.int .i64 b).wf = true) (w2 : (Lit.int .i64 c).wf = true) (w3 : (Lit.int .i64 d).wf = true) :
    Calls Try.prog 4 #[.int .i64 a, .int .i64 b, .int .i64 c, .int .i64 d] w fun e w' => e = .returned (.bool true) ∧ Below w.heap.size w w' := fresh_of pFresh pVote pTime a b c d w
theorem law_BallotApart (a b : Int) (w : World) (w0 : (Lit.int .i64 a).wf = true) (w1 : (Lit.int .i64 b).wf = true) :
    Calls Try.prog 7 #[.int .i64 a, .int .i64 b] w fun e w' => e = .returned (.bool true) ∧ Below w.heap.size w w' := apart_of pFresh pVote pTime a b w
theorem law_BallotBack (a b c : Int) (w : World) (w0 : (Lit.int .i64 a).wf = true) (w1 : (Lit.int .i64 b).wf = true) (w2 : (Lit.int .i64 c).wf = true) :
    Calls Try.prog 6 #[.int .i64 a, .int .i64 b, .int .i64 c] w fun e w' => e = .returned (.bool true) ∧ Below w.heap.size w w' := back_of15 pFresh pVote pTime pBack a b c w w0 w1
theorem law_BallotRises (c : Int) (ms : List Int) (x y z : Int) (w : World) (w0 : (Lit.int .i64 c).wf = true) (hms : ms.length = 7) (w2 : (Lit.int .i64 x).wf = true) (w3 : (Lit.int .i64 y).wf = true) (w4 : (Lit.int .i64 z).wf = true) :
    Calls Try.prog 5 #[.int .i64 c, .agg (ms.map (Value.int .i64)).toArray, .int .i64 x, .int .i64 y, .int .i64 z] w fun e w' => e = .returned (.bool true) ∧ Below w.heap.size w w' := rises_of15 pFresh pVote pTime pCommit c ms x y z w hms
theorem law_BallotCommits (c : Int) (ms : List Int) (x y z : Int) (w : World) (w0 : (Lit.int .i64 c).wf = true) (hms : ms.length = 7) (w2 : (Lit.int .i64 x).wf = true) (w3 : (Lit.int .i64 y).wf = true) (w4 : (Lit.int .i64 z).wf = true) :
    Calls Try.prog 3 #[.int .i64 c, .agg (ms.map (Value.int .i64)).toArray, .int .i64 x, .int .i64 y, .int .i64 z] w fun e w' => e = .returned (.bool true) ∧ Below w.heap.size w w' := commits_of15 pFresh pVote pTime pWon pCommit pBack c ms x y z w hms
end Go.Proofs.Ytebpfjidfohjoaa.W
