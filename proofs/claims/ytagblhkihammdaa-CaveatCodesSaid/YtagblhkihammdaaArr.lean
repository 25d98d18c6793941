/- ARRAYS IN MEMORY: a block whose cells are a list's (Row); what boxing, allocating, loading, storing and copying make of them. No number of a dump. -/
import Derived.Test.YtagblhkihammdaaMem2
import Derived.Laws.Rows
import Derived.Laws.CopyOwn
namespace Go.Proofs.Ytagblhkihammdaa.W
open Go.ChangeShapes Go.WideShapes Go.ChangeAt Go.RowKit

/-- block g (of type t) holds just these cells -/
def Row (w : World) (g : Nat) (t : TypeId) (L : List Value) : Prop := w.heap[g]? = some (.cells L.toArray t (0, 0))
theorem Row.lt {w : World} {g : Nat} {t : TypeId} {L : List Value} (h : Row w g t L) : g < w.heap.size := (Array.getElem?_eq_some_iff.1 h).1
theorem Row.new (w : World) (t : TypeId) (L : List Value) : Row (w.alloc (.cells L.toArray t)) w.heap.size t L := heap_alloc_new w _
theorem Row.below {w w' : World} {g : Nat} {t : TypeId} {L : List Value} (h : Row w g t L) {base : Nat} (hb : Below base w w') (hg : g < base) : Row w' g t L := (hb.block g hg).trans h
theorem Row.upd {w w' : World} {g g' : Nat} {t : TypeId} {L : List Value} (h : Row w g t L) (hu : Upd w w' g') (hg : g ≠ g') : Row w' g t L := (hu.block g hg).trans h
theorem Row.drewN {w : World} {g : Nat} {t : TypeId} {L : List Value} (h : Row w g t L) (n : Nat) : Row (w.drewN n) g t L := h
theorem Row.alloc {w : World} {g : Nat} {t : TypeId} {L : List Value} (h : Row w g t L) (o : Obj) : Row (w.alloc o) g t L := (heap_alloc_old w o h.lt).trans h
theorem Row.frozen {w : World} {g : Nat} {t : TypeId} {L : List Value} (h : Row w g t L) (i : Nat) : w.frozen? ⟨g, i, none⟩ = false := frozen_of_row w g i _ t h
theorem Row.cellV {w : World} {g : Nat} {t : TypeId} {L : List Value} (h : Row w g t L) (i : Nat) : w.cell? ⟨g, i, none⟩ = L[i]? := by
  rw [cell_of_row w g i _ t _ h]; simp
theorem Row.cell {α : Type} {f : α → Value} {w : World} {g : Nat} {t : TypeId} {L : List α} (h : Row w g t (L.map f)) (d : α) (i : Nat) (hi : i < L.length) : w.cell? ⟨g, i, none⟩ = some (f (L.getD i d)) := by
  rw [h.cellV]; simp [hi]
theorem Row.setV {w : World} {g : Nat} {t : TypeId} {L : List Value} (h : Row w g t L) (i : Nat) (v : Value) : Row (w.setCell ⟨g, i, none⟩ v) g t (L.set i v) := by
  unfold Row; rw [heap_setCell_same w g i _ t v h]; congr 2; simp
theorem Row.set {α : Type} {f : α → Value} {w : World} {g : Nat} {t : TypeId} {L : List α} (h : Row w g t (L.map f)) (i : Nat) (x : α) : Row (w.setCell ⟨g, i, none⟩ (f x)) g t ((L.set i x).map f) := by
  have := h.setV i (f x); rwa [List.map_set]
theorem Row.setRow {w : World} {g : Nat} {t : TypeId} {L : List Value} (h : Row w g t L) (L' : List Value) : Row (w.setRow g L'.toArray) g t L' := setRow_heap w g _ _ t _ h
theorem Row.unique {w : World} {g : Nat} {t t' : TypeId} {L L' : List Value} (h : Row w g t L) (h' : Row w g t' L') : L = L' := by
  have := h.symm.trans h'; simpa using (by simpa using this : _ ∧ _).1

section
variable {P : Program}
/-- BOX of an array's value. -/
theorem box_row {w : World} {ops : Array Oper} {rest : List Oper} {o : Oper} {a : Act} {Q : Exit → Act → World → Prop} (hgd : o.guard = none) (ty : TypeId) (x : Operand)
    (ho : o.op = .box ty x) (L : List Value) (hx : a.eval x = .agg L.toArray)
    (h : ∀ w', Row w' w.heap.size ty L → Below w.heap.size w w' → w'.heap.size = w.heap.size + 1 → wpList P ops Q rest (a.put o.dst (.pointer (some ⟨w.heap.size, 0, none⟩))) w') :
    wpList P ops Q (o :: rest) a w := by
  refine wpList_plain hgd fun K hK => ?_
  unfold Oper.wp
  simp [execOp, ho, hx, Instr.box, newVar, newRow, Value.cells, Result.andThen]
  exact hK _ _ (h (w.alloc (.cells L.toArray ty)) (Row.new _ _ _) ((Below.refl _ _).alloc (Nat.le_refl _) _) (by simp))
/-- ALLOC of an array: its zeros. -/
theorem alloc_row {w : World} {ops : Array Oper} {rest : List Oper} {o : Oper} {a : Act} {Q : Exit → Act → World → Prop} (hgd : o.guard = none) (ty : TypeId)
    (ho : o.op = .alloc ty) (L : List Value) (hz : (P.info? ty).map (·.zero) = some (some (.agg L.toArray))) 
    (h : ∀ w', Row w' w.heap.size ty L → Below w.heap.size w w' → w'.heap.size = w.heap.size + 1 → wpList P ops Q rest (a.put o.dst (.pointer (some ⟨w.heap.size, 0, none⟩))) w') :
    wpList P ops Q (o :: rest) a w := by
  refine wpList_plain hgd fun K hK => ?_
  unfold Oper.wp
  cases hq : P.info? ty with
  | none => simp [hq] at hz
  | some i =>
    have hz' : i.zero = some (.agg L.toArray) := by simpa [hq] using hz
    simp [execOp, ho, Instr.alloc, zeroValue, typeInfo, hq, hz', newVar, newRow, Value.cells, Result.andThen]
    exact hK _ _ (h (w.alloc (.cells L.toArray ty)) (Row.new _ _ _) ((Below.refl _ _).alloc (Nat.le_refl _) _) (by simp))
/-- LOAD of a whole array. -/
theorem load_row {w : World} {ops : Array Oper} {rest : List Oper} {o : Oper} {a : Act} {Q : Exit → Act → World → Prop} (hgd : o.guard = none) (ty : TypeId) (x : Operand) (ho : o.op = .load ty x)
    (g : Nat) (hx : a.eval x = .pointer (some ⟨g, 0, none⟩)) (t : TypeId) (L : List Value) (d : TypeDesc) (hg : Row w g t L)
    (hu : P.underlying ty = some d) (hd : (match d with | .struct _ | .array _ _ => true | _ => false) = true) (hi : (P.info? ty).map (·.size) = some L.length)
    (h : wpList P ops Q rest (a.put o.dst (.agg L.toArray)) w) : wpList P ops Q (o :: rest) a w :=
  wpList_load_row hgd ty x ho g hx t L.toArray _ d hg hu hd (by simpa using hi) h
/-- STORE of a whole array. -/
theorem store_row {w : World} {ops : Array Oper} {rest : List Oper} {o : Oper} {a : Act} {Q : Exit → Act → World → Prop} (hgd : o.guard = none) (ty : TypeId) (x y : Operand) (ho : o.op = .store ty x y)
    (g : Nat) (L : List Value) (hx : a.eval x = .pointer (some ⟨g, 0, none⟩)) (hy : a.eval y = .agg L.toArray)
    (t : TypeId) (old : List Value) (hg : Row w g t old) (hi : (P.info? ty).map (·.size) = some L.length)
    (hold : old.length = L.length) (h1 : ∀ v ∈ L, v.oneCell' = true)
    (h : ∀ w', Row w' g t L → Upd w w' g → wpList P ops Q rest (a.put o.dst undef) w') : wpList P ops Q (o :: rest) a w :=
  wpList_store_row hgd ty x y ho g L.toArray hx hy t old.toArray hg (by simpa using hi) (by simpa using hold) (Array.all_eq_true_iff_forall_mem.2 (fun v hv => h1 v (by simpa using hv)))
    (h _ (hg.setRow L) (Upd.setRow _ _ _))
/-- BUILD of an array. -/
theorem build_row {w : World} {ops : Array Oper} {rest : List Oper} {o : Oper} {a : Act} {Q : Exit → Act → World → Prop} (hgd : o.guard = none) (ty : TypeId) (parts : Array (Nat × Operand)) (ho : o.op = .build ty parts)
    (L : List Value) (hb : P.built ty (parts.map fun (i, x) => (i, a.eval x)).toList = some L.toArray)
    (h : wpList P ops Q rest (a.put o.dst (.agg L.toArray)) w) : wpList P ops Q (o :: rest) a w :=
  wpList_build hgd ty parts ho (by rw [hb]; rfl) (by rw [hb]; exact h)
/-- LOAD of an array out of cells, wherever they lie. -/
theorem load_cells {w : World} {ops : Array Oper} {rest : List Oper} {o : Oper} {a : Act} {Q : Exit → Act → World → Prop} (hgd : o.guard = none) (ty : TypeId) (x : Operand) (ho : o.op = .load ty x)
    (g off : Nat) (hx : a.eval x = .pointer (some ⟨g, off, none⟩)) (L : List Value) (d : TypeDesc) (hc : ∀ j v, L[j]? = some v → w.cell? ⟨g, off + j, none⟩ = some v)
    (hu : P.underlying ty = some d) (hd : (match d with | .struct _ | .array _ _ => true | _ => false) = true) (hi : (P.info? ty).map (·.size) = some L.length)
    (h : wpList P ops Q rest (a.put o.dst (.agg L.toArray)) w) : wpList P ops Q (o :: rest) a w := by
  refine wpList_plain hgd fun K hK => ?_
  have hl : (loadCells ⟨g, off, none⟩ L.length).run P w = .ok L.toArray w := run_loadCells_list (P := P) w ⟨g, off, none⟩ L (fun j v hv => by rw [Go.WideShapes.add_plain]; exact hc j v hv)
  have hagg : (isAgg ty).run P w = .ok true w := by
    unfold isAgg
    rw [Sem.run_bind, run_underlying hu w]
    cases d <;> simp_all
  unfold Oper.wp execOp
  cases hq : P.info? ty with
  | none => simp [hq] at hi
  | some i =>
    have hs : i.size = L.length := by simpa [hq] using hi
    simp [ho, hx, Instr.loadAt, Instr.sureAddr, loadVar, Sem.run_bind, hagg, sizeOf, typeInfo, hq, hs, hl, Result.andThen]
    exact hK _ _ h
/-- INDEX of an array's value. -/
theorem index_row {w : World} {ops : Array Oper} {rest : List Oper} {o : Oper} {a : Act} {Q : Exit → Act → World → Prop} (hgd : o.guard = none) (ty : TypeId) (x i : Operand) (ho : o.op = .index ty x i)
    {α : Type} (f : α → Value) (d : α) (L : List α) (hx : a.eval x = .agg (L.map f).toArray) (k : Nat) (hi : a.eval i = .int .i64 (k : Int)) (n : Nat) (elem : TypeId) (q : IntKind) (hu : P.underlying ty = some (.array n elem))
    (he : P.underlying elem = some (.int q)) (hsz : (P.info? elem).map (·.size) = some 1) (hn : L.length = n) (hk : k < n)
    (h : wpList P ops Q rest (a.put o.dst (f (L.getD k d))) w) : wpList P ops Q (o :: rest) a w := by
  refine wpList_plain hgd fun K hK => ?_
  have hag : (isAgg elem).run P w = .ok false w := by unfold isAgg; rw [Sem.run_bind, run_underlying he w]; rfl
  unfold Oper.wp
  cases hq : P.info? elem with
  | none => simp [hq] at hsz
  | some inf =>
    have hs : inf.size = 1 := by simpa [hq] using hsz
    simp [execOp, ho, hx, hi, Instr.index, asIntOf, Result.andThen, run_underlying hu w, sizeOf, typeInfo, hq, hs, part, hag, hn ▸ hk]
    have e : L[k]'(by omega) = L.getD k d := by simp [hn ▸ hk]
    rw [e, if_pos hk]
    exact hK _ _ h
/-- A[r:] of an array in memory. -/
theorem run_sliceAt_low (w : World) (arr elem : TypeId) (n g off r : Nat) (hu : P.underlying arr = some (.array n elem)) (hsz : (P.info? elem).map (·.size) = some 1) (hr : r < n) :
    (Instr.sliceAt arr (.pointer (some ⟨g, off, none⟩)) (some (.int .i64 (r : Int))) none none).run P w = .ok (.slice (some ⟨g, off + r, none⟩) (n - r) (n - r)) w := by
  cases hq : P.info? elem with
  | none => simp [hq] at hsz
  | some inf =>
    have hs : inf.size = 1 := by simpa [hq] using hsz
    have h1 : r ≤ n := by omega
    have h2 : n ≠ r := by omega
    simp [Instr.sliceAt, run_underlying hu w, Instr.sureAddr, Instr.sliceBounds, Instr.sliceBound, asIntOf, Result.andThen, sizeOf, typeInfo, hq, hs, h1, h2, Go.WideShapes.add_plain]
/-- COPY into a row, out of cells (of the same row too). -/
theorem copy_row {w : World} {ops : Array Oper} {rest : List Oper} {o : Oper} {a : Act} {Q : Exit → Act → World → Prop} (hgd : o.guard = none) (d s : Operand) (dT sT : TypeId)
    (ho : o.op = .call { callee := .builtin .copy, args := #[d, s], argTypes := #[dT, sT] }) (g off so g' : Nat) (dLen dCap sLen sCap : Nat)
    (hd : a.eval d = .slice (some ⟨g, off, none⟩) dLen dCap) (hs : a.eval s = .slice (some ⟨g', so, none⟩) sLen sCap)
    (elem : TypeId) (hu : P.underlying dT = some (.slice elem)) (hsz : (P.info? elem).map (·.size) = some 1)
    (t : TypeId) (L : List Value) (hg : Row w g t L) (cs : List Value) (hn : cs.length = Nat.min sLen dLen) (hfit : off + cs.length ≤ L.length) (h1 : ∀ v ∈ cs, v.oneCell' = true)
    (hc : ∀ j v, cs[j]? = some v → w.cell? ⟨g', so + j, none⟩ = some v)
    (h : ∀ w', Row w' g t (splice L off cs) → Upd w w' g → wpList P ops Q rest (a.put o.dst (goInt cs.length)) w') : wpList P ops Q (o :: rest) a w := by
  refine wpList_copy_own hgd d s dT sT ho elem hu hsz g off dLen dCap _ sLen sCap hd hs _ _ hg cs hn ?_ hfit h1 ?_
  · intro j v hj
    rw [Go.WideShapes.add_plain]; exact hc j v hj
  · exact h _ (by unfold Row; rw [setRow_heap w g _ _ _ _ hg]; congr 2) (Upd.setRow _ _ _)
end
end Go.Proofs.Ytagblhkihammdaa.W
