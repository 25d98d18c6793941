/- TWO OPERATIONS OF A REGION THAT DRAWS that may come up in either order, both of them acts (two makes); MAKE of n elements of one cell each. No number of a dump. -/
import Derived.Test.YthbbiiegbddpdaaDoorArr
import Derived.Test.YthbbiiegbddpdaaDoorTail
set_option linter.unusedSimpArgs false
set_option linter.unusedVariables false
namespace Go.Proofs.YthbbiiegbddpdaaDoor.W
open Go Go.ChangeShapes Go.WideShapes Go.ChangeAt Go.RowKit

section
variable {P : Program} {ops : Array Oper} {Q : Exit → Act → World → Prop} {S : World → Prop} {a : Act} {w : World} {fuel : Nat} {listed : Array Bool}
/-- operations i and j, whatever they do, are those that may come up -/
theorem h_two (i j : Nat) {o o' : Oper} (hi : ops[i]? = some o) (hj : ops[j]? = some o') (hr : Region.ready .any ops listed = [i, j])
    (h : ∀ K : Exit → Act → World → Prop, (∀ a' w', S w' → WH P ops Q S fuel (listed.setIfInBounds i true) a' w' → K .normal a' w') → wpList P ops K [o] a w)
    (h' : ∀ K : Exit → Act → World → Prop, (∀ a' w', S w' → WH P ops Q S fuel (listed.setIfInBounds j true) a' w' → K .normal a' w') → wpList P ops K [o'] a w) : WH P ops Q S (fuel + 1) listed a w :=
  ⟨fun hQ hs hS => by
    refine wpAnyH_all hr (by simp) fun k hk => ?_
    have hk' : k = i ∨ k = j := by simpa using hk
    rcases hk' with rfl | rfl
    · exact wpOp_of_list hi (h _ fun a' w' h1 h2 => ⟨rfl, h1, h2.out hQ hs h1⟩)
    · exact wpOp_of_list hj (h' _ fun a' w' h1 h2 => ⟨rfl, h1, h2.out hQ hs h1⟩)⟩
/-- MAKE of n elements of one cell each. -/
theorem make_one {rest : List Oper} {o : Oper} (hgd : o.guard = none) (x y : Operand) (T : TypeId)
    (ho : o.op = Op.makeSlice T x y) (elem : TypeId) (z : Value) (b : Nat) (hu : P.underlying T = some (.slice elem)) (hi : (P.info? elem).map (fun i => (i.zero, i.size, i.bytes)) = some (some z, 1, b)) (hz : z.cells = #[z])
    (X : Int) (n : Nat) (hx : a.eval x = .int .i64 X) (hy : a.eval y = .int .i64 X) (hn : X = (n : Int)) (hc : n ≤ 16777216) (hb : b * n ≤ 281474976710656)
    (h : ∀ w', Row w' w.heap.size elem (List.replicate n z) → Below w.heap.size w w' → w'.heap.size = w.heap.size + 1 → wpList P ops Q rest (a.put o.dst (.slice (some ⟨w.heap.size, 0, none⟩) n n)) w') :
    wpList P ops Q (o :: rest) a w := by
  subst hn
  refine wpList_plain hgd fun K hK => ?_
  cases hq : P.info? elem with
  | none => simp [hq] at hi
  | some i =>
    simp [hq] at hi
    obtain ⟨hz0, hs, hby⟩ := hi
    have hrun := run_makeSlice (P := P) (w := w) T elem i z hu hq hz0 .i64 .i64 (n : Int) (n : Int) (by omega) (Int.le_refl _) (by rw [hs]; simpa using hc)
      (by rw [hby]; have : ((b * n : Nat) : Int) ≤ 281474976710656 := by omega
          rwa [Int.natCast_mul] at this) (by omega)
    unfold Oper.wp
    simp [execOp, ho, hx, hy, hrun, Result.andThen]
    refine hK _ _ (h _ ?_ ((Below.refl _ _).alloc (Nat.le_refl _) _) (by simp))
    unfold Row
    rw [heap_alloc_new]
    congr 2
    apply Array.ext'
    rw [hs, hz]
    simp [toList_madeCells_one]
end
end Go.Proofs.YthbbiiegbddpdaaDoor.W
