/- LAYER 17 (raft): laws, as the frames ask. -/
import Derived.Test.YtjkkopbhdeljmaaGreatRaE
import Derived.Test.YtjkkopbhdeljmaaGreatMsO
set_option linter.unusedSimpArgs false
set_option linter.unusedVariables false
namespace Go.Proofs.YtjkkopbhdeljmaaGreat.W
open Go Go.ChangeShapes Go.WideShapes Go.ChangeAt Go.RowKit

theorem law_RaftNobody (m : Ms) (n : Int) (ba : Option Addr) (bm bc : Nat) (zs : List Int) (w : World) (_wm : ∃ l L, MsF w m l L) {q : Prop} (_wn : q) (_wb : IsRow .u8 w ba bm bc zs) :
    Calls Tryz.prog 4 #[.agg m.cells.toArray, .int .i64 n, .slice ba bm bc] w fun x w' => x = .returned (.bool true) ∧ Below w.heap.size w w' :=
  nobody17 m.cells rfl n ba bm bc w
end Go.Proofs.YtjkkopbhdeljmaaGreat.W
