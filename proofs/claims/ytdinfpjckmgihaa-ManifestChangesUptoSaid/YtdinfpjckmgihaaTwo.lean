/- TWO OPERATIONS OF A REGION THAT DRAWS that may come up in either order, both of them acts (two makes); MAKE of n elements of one cell each. No number of a dump. -/
import Derived.Test.YtdinfpjckmgihaaArr
import Derived.Test.YtdinfpjckmgihaaTail
set_option linter.unusedSimpArgs false
set_option linter.unusedVariables false
namespace Go.Proofs.Ytdinfpjckmgihaa.W
open Go Go.ChangeShapes Go.WideShapes Go.ChangeAt Go.RowKit

section
variable {P : Program} {ops : Array Oper} {Q : Exit → Act → World → Prop} {S : World → Prop} {a : Act} {w : World} {fuel : Nat} {listed : Array Bool}
/-- operations i and j, whatever they do, are those that may come up -/
theorem h_two (i j : Nat) {o o' : Oper} (hi : ops[i]? = some o) (hj : ops[j]? = some o') (hr : Region.ready .any ops listed = [i, j])
    (h : ∀ K : Exit → Act → World → Prop, (∀ a' w', S w' → WH P ops Q S fuel (listed.setIfInBounds i true) a' w' → K .normal a' w') → wpList P ops K [o] a w)
    (h' : ∀ K : Exit → Act → World → Prop, (∀ a' w', S w' → WH P ops Q S fuel (listed.setIfInBounds j true) a' w' → K .normal a' w') → wpList P ops K [o'] a w) : WH P ops Q S (fuel + 1) listed a w :=
  ⟨fun hQ hs hS => by
    refine wpAnyH_all hr (by simp) fun k hk => ?_
    have hk' : k = i ∨ k = j := by simpa using hk
    rcases hk' with rfl | rfl
    · exact wpOp_of_list hi (h _ fun a' w' h1 h2 => ⟨rfl, h1, h2.out hQ hs h1⟩)
    · exact wpOp_of_list hj (h' _ fun a' w' h1 h2 => ⟨rfl, h1, h2.out hQ hs h1⟩)⟩
end
end Go.Proofs.Ytdinfpjckmgihaa.W
