/- LAYER 12 (peers): the laws PeersMatch, PeersMeet, PeersBest. -/
import Derived.Test.YtebpfjidfohjoaaPeL
set_option linter.unusedSimpArgs false
set_option linter.unusedVariables false
namespace Go.Proofs.Ytebpfjidfohjoaa.W
open Go Go.ChangeShapes Go.WideShapes Go.ChangeAt Go.RowKit
open Go.Proofs.Ytebpfjidfohjoaa.B (hasV elV bitsV mem mem_and mem_ref cntM cnt T bits_127 cntM_le lsN lsN_len lsN_lt mlN nGe nGt Best)

/-- a whole array is read -/
theorem load_agg {P : Program} {o : Oper} {a : Act} {w : World} (ty : TypeId) (x : Operand) (ho : o.op = .load ty x) (g : Nat) (hx : a.eval x = .pointer (some ⟨g, 0, none⟩)) (t : TypeId) (L : List Value) (d : TypeDesc) (hr : Row w g t L)
    (hu : P.underlying ty = some d) (hd : (match d with | .struct _ | .array _ _ => true | _ => false) = true) (hi : (P.info? ty).map (·.size) = some L.length) : (execOp a.eval o).run P w = .ok (.value (.agg L.toArray)) w := by
  have hl : (loadCells ⟨g, 0, none⟩ L.length).run P w = .ok L.toArray w := run_loadCells_list (P := P) w ⟨g, 0, none⟩ L (fun j v hv => by rw [Go.WideShapes.add_plain, Nat.zero_add, hr.cellV]; exact hv)
  have hagg : (isAgg ty).run P w = .ok true w := by
    unfold isAgg
    rw [Sem.run_bind, run_underlying hu w]
    cases d <;> simp_all
  unfold execOp
  cases hq : P.info? ty with
  | none => simp [hq] at hi
  | some i =>
    have hs : i.size = L.length := by simpa [hq] using hi
    simp [ho, hx, Instr.loadAt, Instr.sureAddr, loadVar, Sem.run_bind, hagg, sizeOf, typeInfo, hq, hs, hl, Result.andThen]
/-- an array of seven ints that came in -/
theorem seven_open {H : Type} {enc : TypeId × Value → H} {w : World} {base : Nat} {sp : Nat → Bool} {held : Bool} {v : Value} {d : DataW H} {p : List MemPlace} {X : Prop} (_ : X) (h : DataW.Trod enc Try.prog w base sp held 22 v d p) :
    ∃ ms : List Int, v = .agg (ms.map (Value.int .i64)).toArray ∧ ms.length = 7 := by
  obtain ⟨zs, h1, h2, -⟩ := open_ints_arr Try.underlying22 Try.underlying3 (by kernel_rfl) (by kernel_rfl) (by decide) h
  exact ⟨zs, h1, h2⟩
theorem sevenSize (ms : List Int) (h : ms.length = 7) : (Try.prog.info? 22).map (·.size) = some (ms.map (Value.int .i64)).length := by rw [List.length_map, h]; kernel_rfl


end Go.Proofs.Ytebpfjidfohjoaa.W
