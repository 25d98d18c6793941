/- For XRf: lists of facts; one operation by what it gives. No number of a dump. -/
import Derived.Test.YtmacjpgeamlmhaaRf
set_option linter.unusedSimpArgs false
set_option linter.unusedVariables false
namespace Go.Proofs.Ytmacjpgeamlmhaa.W
open Go Go.ChangeShapes Go.WideShapes Go.ChangeAt Go.RowKit

def MonoL : List (Value → World → Prop) → Prop
  | [] => True
  | p :: ps => (∀ v w1 w2, p v w1 → Below w1.heap.size w1 w2 → p v w2) ∧ MonoL ps
theorem monoL_get : ∀ {Rl : List (Value → World → Prop)}, MonoL Rl → ∀ i v w1 w2, (Rl.getD i (fun _ _ => True)) v w1 → Below w1.heap.size w1 w2 → (Rl.getD i (fun _ _ => True)) v w2
  | [], _, _, _, _, _, _, _ => by simp
  | p :: ps, h, 0, v, w1, w2, h1, hb => h.1 v w1 w2 h1 hb
  | p :: ps, h, i + 1, v, w1, w2, h1, hb => monoL_get h.2 i v w1 w2 h1 hb
theorem ex_call {P : Program} {w : World} (b : Act) (o : Oper) (f : FuncId) (xs : Array Operand) (ts : Array TypeId) (ho : o.op = .call { callee := .value (.func f), args := xs, argTypes := ts }) (args : Array Value) (ha : xs.map b.eval = args) (hc : (callFunc f args).run P w = .ok (.enter f args) w) :
    (execOp b.eval o).run P w = .ok (.enter f args) w := by
  have hf : b.eval (.func f) = .func (.func f) #[] #[] := rfl
  unfold execOp
  simp only [ho]
  unfold resolve
  simp only [ha, hf]
  simp [invoke, go_sem, hc]
section
variable {P : Program} {ops : Array Oper} {o : Oper} {b : Act} {w : World} {K : Exit → Act → World → Prop}
theorem rf_val (hw : Region.wanted o (yielded ops b.tmps) = true) (v : Value) (hrun : (execOp b.eval o).run P w = .ok (.value v) w) (h : K .normal (b.put o.dst v) w) : wpList P ops K [o] b w := by
  refine wpList_step fun K' hK => ?_
  simp only [hw, if_true]
  unfold Oper.wp
  rw [hrun]
  exact hK _ _ h
theorem rf_call (hw : Region.wanted o (yielded ops b.tmps) = true) (f : FuncId) (args : Array Value) (hrun : (execOp b.eval o).run P w = .ok (.enter f args) w) (v : Value)
    (hc : Calls P f args w fun e w' => e = .returned v ∧ Below w.heap.size w w') (h : ∀ w', Below w.heap.size w w' → K .normal (b.put o.dst v) w') : wpList P ops K [o] b w := by
  refine wpList_step fun K' hK => ?_
  simp only [hw, if_true]
  unfold Oper.wp
  rw [hrun, Oper.upon_enter]
  refine hc.mono fun e w'' hh => ?_
  obtain ⟨rfl, hr⟩ := hh
  exact hK _ _ (h w'' hr)
theorem rf_make (hw : Region.wanted o (yielded ops b.tmps) = true) (v : Value) (w' : World) (hrun : (execOp b.eval o).run P w = .ok (.value v) w') (h : K .normal (b.put o.dst v) w') : wpList P ops K [o] b w := by
  refine wpList_step fun K' hK => ?_
  simp only [hw, if_true]
  unfold Oper.wp
  rw [hrun]
  exact hK _ _ h
end
end Go.Proofs.Ytmacjpgeamlmhaa.W
