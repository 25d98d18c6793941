/- GUARDED OPERATIONS in a region without draws: a value, a whole struct that is read. No number of a dump. -/
import Derived.Test.YtkfhppbmnjmnoaaGreatDoorArr
set_option linter.unusedSimpArgs false
set_option linter.unusedVariables false
namespace Go.Proofs.YtkfhppbmnjmnoaaGreatDoor.W
open Go Go.ChangeShapes Go.WideShapes Go.ChangeAt Go.RowKit

theorem lg_wanted {ops : Array Oper} {o : Oper} {a : Act} (k : Nat) (want : Bool) (t : Tmp) (hgd : o.guard = some (k, want)) (hdst : (ops[k]?).bind (·.dst) = some t) (hv : a.eval (.tmp t) = .bool want) : Region.wanted o (yielded ops a.tmps) = true := by
  have hv2 : a.tmps[t]? = some (.bool want) := by
    have h : a.tmps.getD t undef = .bool want := hv
    rw [Array.getD_eq_getD_getElem?] at h
    cases hq : a.tmps[t]? with
    | none => rw [hq] at h; cases h
    | some x => rw [hq] at h; simp at h; rw [h]
  simp [Region.wanted, hgd, yielded, hdst, hv2]
theorem lg_val {P : Program} {ops : Array Oper} {rest : List Oper} {o : Oper} {a : Act} {w : World} {Q : Exit → Act → World → Prop} (k : Nat) (want : Bool) (t : Tmp) (hgd : o.guard = some (k, want)) (hdst : (ops[k]?).bind (·.dst) = some t) (hv : a.eval (.tmp t) = .bool want) (v : Value) (hrun : (execOp a.eval o).run P w = .ok (.value v) w)
    (h : wpList P ops Q rest (a.put o.dst v) w) : wpList P ops Q (o :: rest) a w := by
  have hw := lg_wanted k want t hgd hdst hv
  refine wpList_step fun K hK => ?_
  simp only [hw, if_true]
  unfold Oper.wp
  rw [hrun]
  exact hK _ _ h
/-- what a whole struct's load gives -/
theorem lg_all {P : Program} {o : Oper} {a : Act} {w : World} (ty : TypeId) (x : Operand) (ho : o.op = .load ty x) (g : Nat) (hx : a.eval x = .pointer (some ⟨g, 0, none⟩)) (t : TypeId) (L : List Value) (d : TypeDesc) (hr : Row w g t L)
    (hu : P.underlying ty = some d) (hd : (match d with | .struct _ | .array _ _ => true | _ => false) = true) (hi : (P.info? ty).map (·.size) = some L.length) : (execOp a.eval o).run P w = .ok (.value (.agg L.toArray)) w := by
  have hl : (loadCells ⟨g, 0, none⟩ L.length).run P w = .ok L.toArray w := run_loadCells_list (P := P) w ⟨g, 0, none⟩ L (fun j v hv => by rw [Go.WideShapes.add_plain, Nat.zero_add, hr.cellV]; exact hv)
  have hagg : (isAgg ty).run P w = .ok true w := by
    unfold isAgg
    rw [Sem.run_bind, run_underlying hu w]
    cases d <;> simp_all
  unfold execOp
  cases hq : P.info? ty with
  | none => simp [hq] at hi
  | some i =>
    have hs : i.size = L.length := by simpa [hq] using hi
    simp [ho, hx, Instr.loadAt, Instr.sureAddr, loadVar, Sem.run_bind, hagg, sizeOf, typeInfo, hq, hs, hl, Result.andThen]
/-- LOAD of a whole struct, guarded -/
theorem load_rowg {P : Program} {w : World} {ops : Array Oper} {rest : List Oper} {o : Oper} {a : Act} {Q : Exit → Act → World → Prop} (k : Nat) (want : Bool) (t : Tmp) (hgd : o.guard = some (k, want)) (ty : TypeId) (x : Operand) (ho : o.op = .load ty x)
    (g : Nat) (t' : TypeId) (L : List Value) (d : TypeDesc) (hg : Row w g t' L) (hu : P.underlying ty = some d) (hd : (match d with | .struct _ | .array _ _ => true | _ => false) = true)
    (hdst : (ops[k]?).bind (·.dst) = some t) (hv : a.eval (.tmp t) = .bool want) (hx : a.eval x = .pointer (some ⟨g, 0, none⟩)) (hi : (P.info? ty).map (·.size) = some L.length)
    (h : wpList P ops Q rest (a.put o.dst (.agg L.toArray)) w) : wpList P ops Q (o :: rest) a w :=
  lg_val k want t hgd hdst hv _ (lg_all ty x ho g hx t' L d hg hu hd hi) h
end Go.Proofs.YtkfhppbmnjmnoaaGreatDoor.W
