/- LAYER 11 (record): what a record's kind has (own of the program, only of the reference). -/
import Derived.Test.YtiopcojkdglapaaRcS
import Derived.BigRegion
set_option linter.unusedSimpArgs false
set_option linter.unusedVariables false
namespace Go.Proofs.Ytiopcojkdglapaa.W
open Go Go.ChangeShapes Go.WideShapes Go.ChangeAt Go.RowKit
open Go.Proofs.Ytiopcojkdglapaa.P (enc dec)

/-- STORE of a struct into a part of a row. -/
theorem store_part {P : Program} {w : World} {ops : Array Oper} {rest : List Oper} {o : Oper} {a : Act} {Q : Exit → Act → World → Prop} (hgd : o.guard = none) (ty : TypeId) (x y : Operand) (ho : o.op = .store ty x y)
    (g off : Nat) (cells : List Value) (hx : a.eval x = .pointer (some ⟨g, off, none⟩)) (hy : a.eval y = .agg cells.toArray)
    (t : TypeId) (L : List Value) (hg : Row w g t L) (hi : (P.info? ty).map (·.size) = some cells.length) (hfit : off + cells.length ≤ L.length) (h1 : ∀ v ∈ cells, v.oneCell' = true)
    (h : ∀ w', Row w' g t (splice L off cells) → Upd w w' g → wpList P ops Q rest (a.put o.dst undef) w') : wpList P ops Q (o :: rest) a w := by
  refine wpList_plain hgd fun K hK => ?_
  have hrun := run_storeCells_at (P := P) g off t cells 0 L.toArray w hg (by simpa using hfit) h1
  unfold Oper.wp execOp
  cases hq : P.info? ty with
  | none => simp [hq] at hi
  | some i =>
    have hs : i.size = cells.length := by simpa [hq] using hi
    simp [ho, hx, hy, Instr.storeAt, Instr.sureAddr, storeVar, sizeOf, typeInfo, hq, hs, Value.cells, hrun, Result.andThen]
    refine hK _ _ (h _ ?_ (Upd.setRow _ _ _))
    unfold Row
    rw [setRow_heap w g _ _ _ _ hg]
    congr 2
def Rc.z (k : Int) : Rc := ⟨k, 0, 0, ⟨0, 0, 0, none, 0, 0⟩, 0, 0, none, 0, 0⟩
def Rc.own (r : Rc) : Rc :=
  if r.k = 1 then ⟨1, r.t, 0, ⟨0, 0, 0, none, 0, 0⟩, r.i, r.f, r.a, r.n, r.c⟩ else if r.k = 2 then ⟨2, r.t, r.v, ⟨0, 0, 0, none, 0, 0⟩, 0, 0, none, 0, 0⟩
  else if r.k = 3 then ⟨3, 0, 0, r.e, 0, 0, none, 0, 0⟩ else if r.k = 4 then ⟨4, 0, 0, ⟨0, 0, 0, none, 0, 0⟩, r.i, 0, none, 0, 0⟩ else Rc.z r.k
def Rc.only (r : Rc) : Rc :=
  if r.k = 1 then ⟨1, r.t, 0, ⟨0, 0, 0, none, 0, 0⟩, r.i, r.f, r.a, r.n, r.c⟩ else if r.k = 2 then ⟨2, r.t, r.v, ⟨0, 0, 0, none, 0, 0⟩, 0, 0, none, 0, 0⟩
  else if r.k = 3 then ⟨3, 0, 0, r.e, 0, 0, none, 0, 0⟩ else ⟨r.k, 0, 0, ⟨0, 0, 0, none, 0, 0⟩, r.i, 0, none, 0, 0⟩
theorem rc_one (r : Rc) : ∀ v ∈ r.cells, v.oneCell' = true := by
  intro v hv
  simp [Rc.cells] at hv
  rcases hv with rfl | rfl | rfl | rfl | rfl | rfl | rfl | rfl | rfl | rfl <;> rfl
theorem en_one (e : En) : ∀ v ∈ e.cells, v.oneCell' = true := by
  intro v hv
  simp [En.cells] at hv
  rcases hv with rfl | rfl | rfl | rfl <;> rfl
theorem kinds (k : Int) : k = 1 ∨ k = 2 ∨ k = 3 ∨ k = 4 ∨ ((k == 1) = false ∧ (k == 2) = false ∧ (k == 3) = false ∧ (k == 4) = false) := by
  by_cases h1 : k = 1
  · exact .inl h1
  by_cases h2 : k = 2
  · exact .inr (.inl h2)
  by_cases h3 : k = 3
  · exact .inr (.inr (.inl h3))
  by_cases h4 : k = 4
  · exact .inr (.inr (.inr (.inl h4)))
  · exact .inr (.inr (.inr (.inr ⟨by simpa using h1, by simpa using h2, by simpa using h3, by simpa using h4⟩)))

end Go.Proofs.Ytiopcojkdglapaa.W
