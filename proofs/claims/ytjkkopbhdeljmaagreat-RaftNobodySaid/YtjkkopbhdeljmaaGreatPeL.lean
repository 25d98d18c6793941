/- LAYER 12 (peers): the laws PeersTells, PeersMatch, PeersMeet. LAYER 12 (peers): the laws PeersMatch, PeersMeet, PeersBest. -/
import Derived.Test.YtjkkopbhdeljmaaGreatPeK
import Derived.Test.YtjkkopbhdeljmaaGreatQ
import Derived.Test.YtjkkopbhdeljmaaGreatOpen
set_option linter.unusedSimpArgs false
set_option linter.unusedVariables false
namespace Go.Proofs.YtjkkopbhdeljmaaGreat.W
open Go Go.ChangeShapes Go.WideShapes Go.ChangeAt Go.RowKit
open Go.Proofs.YtjkkopbhdeljmaaGreat.B (hasV elV bitsV mem mem_and mem_ref cntM cnt T bits_127 cntM_le lsN lsN_len lsN_lt mlN nGe nGt Best)

/-- the best, as a function -/
noncomputable def bestV (V : List Int) : Int := Classical.choose (B.best_ex V)
theorem bestV_is (V : List Int) : Best V (bestV V) := Classical.choose_spec (B.best_ex V)
theorem pmatch_v (c : Int) (ms : List Int) (hms : ms.length = 7) (w : World) :
    Calls Tryz.prog 80 #[.int .i64 c, .agg (ms.map (Value.int .i64)).toArray] w fun y w' => y = .returned (.int .i64 (bestV (vals c ms))) ∧ Below w.heap.size w w' :=
  (pmatch c ms hms w).mono fun e w' ⟨b, he, hb, hw⟩ => ⟨by rw [he, hb.unique (bestV_is _)], hw⟩
theorem best_543 : bestV (vals 7 [5, 3, 4, 0, 0, 0, 0]) = 4 :=
  (bestV_is _).unique (.inr ⟨by decide +kernel, by decide +kernel, by decide +kernel⟩)
theorem q73 : quoM 7 3 = true := by decide +kernel
theorem q71 : quoM 7 1 = false := by decide +kernel
theorem g715 : chgM 7 15 = 0 := by decide +kernel


end Go.Proofs.YtjkkopbhdeljmaaGreat.W

namespace Go.Proofs.YtjkkopbhdeljmaaGreat.W
open Go Go.ChangeShapes Go.WideShapes Go.ChangeAt Go.RowKit
open Go.Proofs.YtjkkopbhdeljmaaGreat.B (hasV elV bitsV mem mem_and mem_ref cntM cnt T bits_127 cntM_le lsN lsN_len lsN_lt mlN nGe nGt Best)

/-- a whole array is read -/
theorem load_agg {P : Program} {o : Oper} {a : Act} {w : World} (ty : TypeId) (x : Operand) (ho : o.op = .load ty x) (g : Nat) (hx : a.eval x = .pointer (some ⟨g, 0, none⟩)) (t : TypeId) (L : List Value) (d : TypeDesc) (hr : Row w g t L)
    (hu : P.underlying ty = some d) (hd : (match d with | .struct _ | .array _ _ => true | _ => false) = true) (hi : (P.info? ty).map (·.size) = some L.length) : (execOp a.eval o).run P w = .ok (.value (.agg L.toArray)) w := by
  have hl : (loadCells ⟨g, 0, none⟩ L.length).run P w = .ok L.toArray w := run_loadCells_list (P := P) w ⟨g, 0, none⟩ L (fun j v hv => by rw [Go.WideShapes.add_plain, Nat.zero_add, hr.cellV]; exact hv)
  have hagg : (isAgg ty).run P w = .ok true w := by
    unfold isAgg
    rw [Sem.run_bind, run_underlying hu w]
    cases d <;> simp_all
  unfold execOp
  cases hq : P.info? ty with
  | none => simp [hq] at hi
  | some i =>
    have hs : i.size = L.length := by simpa [hq] using hi
    simp [ho, hx, Instr.loadAt, Instr.sureAddr, loadVar, Sem.run_bind, hagg, sizeOf, typeInfo, hq, hs, hl, Result.andThen]
/-- an array of seven ints that came in -/
theorem seven_open {H : Type} {enc : TypeId × Value → H} {w : World} {base : Nat} {sp : Nat → Bool} {held : Bool} {v : Value} {d : DataW H} {p : List MemPlace} {X : Prop} (_ : X) (h : DataW.Trod enc Tryz.prog w base sp held 53 v d p) :
    ∃ ms : List Int, v = .agg (ms.map (Value.int .i64)).toArray ∧ ms.length = 7 := by
  obtain ⟨zs, h1, h2, -⟩ := open_ints_arr Tryz.underlying53 Tryz.underlying3 (by kernel_rfl) (by kernel_rfl) (by decide) h
  exact ⟨zs, h1, h2⟩
theorem sevenSize (ms : List Int) (h : ms.length = 7) : (Tryz.prog.info? 53).map (·.size) = some (ms.map (Value.int .i64)).length := by rw [List.length_map, h]; kernel_rfl


end Go.Proofs.YtjkkopbhdeljmaaGreat.W
