/- ARRAYS IN MEMORY: a block whose cells are a list's (Row); what boxing, allocating, loading, storing and copying make of them. No number of a dump. A WORLD THAT HAS GROWN, and of whose old blocks one alone was written. CELLS one by one: boxes, allocations and stores of one cell; a result that lies in a cell, and one more beside it. No number of a dump. SLICES OF STRUCTS (k cells an element): make and copy. No number of a dump. -/
import Derived.Test.YtkfhppbmnjmnoaaGreatDoorMem
import Derived.Laws.Rows
import Derived.Laws.CopyOwn
import Derived.WalkSmall
import Derived.Laws.ResultCell
import Derived.Laws.MakeOwn
import Derived.Laws.CopyRow
set_option linter.unusedSimpArgs false
set_option linter.unusedVariables false
namespace Go.Proofs.YtkfhppbmnjmnoaaGreatDoor.W
open Go.ChangeShapes Go.WideShapes Go.ChangeAt Go.RowKit

/-- block g (of type t) holds just these cells -/
def Row (w : World) (g : Nat) (t : TypeId) (L : List Value) : Prop := w.heap[g]? = some (.cells L.toArray t (0, 0))
theorem Row.lt {w : World} {g : Nat} {t : TypeId} {L : List Value} (h : Row w g t L) : g < w.heap.size := (Array.getElem?_eq_some_iff.1 h).1
theorem Row.new (w : World) (t : TypeId) (L : List Value) : Row (w.alloc (.cells L.toArray t)) w.heap.size t L := heap_alloc_new w _
theorem Row.below {w w' : World} {g : Nat} {t : TypeId} {L : List Value} (h : Row w g t L) {base : Nat} (hb : Below base w w') (hg : g < base) : Row w' g t L := (hb.block g hg).trans h
theorem Row.upd {w w' : World} {g g' : Nat} {t : TypeId} {L : List Value} (h : Row w g t L) (hu : Upd w w' g') (hg : g ≠ g') : Row w' g t L := (hu.block g hg).trans h
theorem Row.drewN {w : World} {g : Nat} {t : TypeId} {L : List Value} (h : Row w g t L) (n : Nat) : Row (w.drewN n) g t L := h
theorem Row.alloc {w : World} {g : Nat} {t : TypeId} {L : List Value} (h : Row w g t L) (o : Obj) : Row (w.alloc o) g t L := (heap_alloc_old w o h.lt).trans h
theorem Row.frozen {w : World} {g : Nat} {t : TypeId} {L : List Value} (h : Row w g t L) (i : Nat) : w.frozen? ⟨g, i, none⟩ = false := frozen_of_row w g i _ t h
theorem Row.cellV {w : World} {g : Nat} {t : TypeId} {L : List Value} (h : Row w g t L) (i : Nat) : w.cell? ⟨g, i, none⟩ = L[i]? := by
  rw [cell_of_row w g i _ t _ h]; simp
theorem Row.cell {α : Type} {f : α → Value} {w : World} {g : Nat} {t : TypeId} {L : List α} (h : Row w g t (L.map f)) (d : α) (i : Nat) (hi : i < L.length) : w.cell? ⟨g, i, none⟩ = some (f (L.getD i d)) := by
  rw [h.cellV]; simp [hi]
theorem Row.setV {w : World} {g : Nat} {t : TypeId} {L : List Value} (h : Row w g t L) (i : Nat) (v : Value) : Row (w.setCell ⟨g, i, none⟩ v) g t (L.set i v) := by
  unfold Row; rw [heap_setCell_same w g i _ t v h]; congr 2; simp
theorem Row.set {α : Type} {f : α → Value} {w : World} {g : Nat} {t : TypeId} {L : List α} (h : Row w g t (L.map f)) (i : Nat) (x : α) : Row (w.setCell ⟨g, i, none⟩ (f x)) g t ((L.set i x).map f) := by
  have := h.setV i (f x); rwa [List.map_set]
theorem Row.setRow {w : World} {g : Nat} {t : TypeId} {L : List Value} (h : Row w g t L) (L' : List Value) : Row (w.setRow g L'.toArray) g t L' := setRow_heap w g _ _ t _ h
theorem Row.unique {w : World} {g : Nat} {t t' : TypeId} {L L' : List Value} (h : Row w g t L) (h' : Row w g t' L') : L = L' := by
  have := h.symm.trans h'; simpa using (by simpa using this : _ ∧ _).1

section
variable {P : Program}
/-- BOX of an array's value. -/
theorem box_row {w : World} {ops : Array Oper} {rest : List Oper} {o : Oper} {a : Act} {Q : Exit → Act → World → Prop} (hgd : o.guard = none) (ty : TypeId) (x : Operand)
    (ho : o.op = .box ty x) (L : List Value) (hx : a.eval x = .agg L.toArray)
    (h : ∀ w', Row w' w.heap.size ty L → Below w.heap.size w w' → w'.heap.size = w.heap.size + 1 → wpList P ops Q rest (a.put o.dst (.pointer (some ⟨w.heap.size, 0, none⟩))) w') :
    wpList P ops Q (o :: rest) a w := by
  refine wpList_plain hgd fun K hK => ?_
  unfold Oper.wp
  simp [execOp, ho, hx, Instr.box, newVar, newRow, Value.cells, Result.andThen]
  exact hK _ _ (h (w.alloc (.cells L.toArray ty)) (Row.new _ _ _) ((Below.refl _ _).alloc (Nat.le_refl _) _) (by simp))
/-- ALLOC of an array: its zeros. -/
theorem alloc_row {w : World} {ops : Array Oper} {rest : List Oper} {o : Oper} {a : Act} {Q : Exit → Act → World → Prop} (hgd : o.guard = none) (ty : TypeId)
    (ho : o.op = .alloc ty) (L : List Value) (hz : (P.info? ty).map (·.zero) = some (some (.agg L.toArray))) 
    (h : ∀ w', Row w' w.heap.size ty L → Below w.heap.size w w' → w'.heap.size = w.heap.size + 1 → wpList P ops Q rest (a.put o.dst (.pointer (some ⟨w.heap.size, 0, none⟩))) w') :
    wpList P ops Q (o :: rest) a w := by
  refine wpList_plain hgd fun K hK => ?_
  unfold Oper.wp
  cases hq : P.info? ty with
  | none => simp [hq] at hz
  | some i =>
    have hz' : i.zero = some (.agg L.toArray) := by simpa [hq] using hz
    simp [execOp, ho, Instr.alloc, zeroValue, typeInfo, hq, hz', newVar, newRow, Value.cells, Result.andThen]
    exact hK _ _ (h (w.alloc (.cells L.toArray ty)) (Row.new _ _ _) ((Below.refl _ _).alloc (Nat.le_refl _) _) (by simp))
/-- LOAD of a whole array. -/
theorem load_row {w : World} {ops : Array Oper} {rest : List Oper} {o : Oper} {a : Act} {Q : Exit → Act → World → Prop} (hgd : o.guard = none) (ty : TypeId) (x : Operand) (ho : o.op = .load ty x)
    (g : Nat) (hx : a.eval x = .pointer (some ⟨g, 0, none⟩)) (t : TypeId) (L : List Value) (d : TypeDesc) (hg : Row w g t L)
    (hu : P.underlying ty = some d) (hd : (match d with | .struct _ | .array _ _ => true | _ => false) = true) (hi : (P.info? ty).map (·.size) = some L.length)
    (h : wpList P ops Q rest (a.put o.dst (.agg L.toArray)) w) : wpList P ops Q (o :: rest) a w :=
  wpList_load_row hgd ty x ho g hx t L.toArray _ d hg hu hd (by simpa using hi) h
/-- STORE of a whole array. -/
theorem store_row {w : World} {ops : Array Oper} {rest : List Oper} {o : Oper} {a : Act} {Q : Exit → Act → World → Prop} (hgd : o.guard = none) (ty : TypeId) (x y : Operand) (ho : o.op = .store ty x y)
    (g : Nat) (L : List Value) (hx : a.eval x = .pointer (some ⟨g, 0, none⟩)) (hy : a.eval y = .agg L.toArray)
    (t : TypeId) (old : List Value) (hg : Row w g t old) (hi : (P.info? ty).map (·.size) = some L.length)
    (hold : old.length = L.length) (h1 : ∀ v ∈ L, v.oneCell' = true)
    (h : ∀ w', Row w' g t L → Upd w w' g → wpList P ops Q rest (a.put o.dst undef) w') : wpList P ops Q (o :: rest) a w :=
  wpList_store_row hgd ty x y ho g L.toArray hx hy t old.toArray hg (by simpa using hi) (by simpa using hold) (Array.all_eq_true_iff_forall_mem.2 (fun v hv => h1 v (by simpa using hv)))
    (h _ (hg.setRow L) (Upd.setRow _ _ _))
/-- BUILD of an array. -/
theorem build_row {w : World} {ops : Array Oper} {rest : List Oper} {o : Oper} {a : Act} {Q : Exit → Act → World → Prop} (hgd : o.guard = none) (ty : TypeId) (parts : Array (Nat × Operand)) (ho : o.op = .build ty parts)
    (L : List Value) (hb : P.built ty (parts.map fun (i, x) => (i, a.eval x)).toList = some L.toArray)
    (h : wpList P ops Q rest (a.put o.dst (.agg L.toArray)) w) : wpList P ops Q (o :: rest) a w :=
  wpList_build hgd ty parts ho (by rw [hb]; rfl) (by rw [hb]; exact h)
/-- LOAD of an array out of cells, wherever they lie. -/
theorem load_cells {w : World} {ops : Array Oper} {rest : List Oper} {o : Oper} {a : Act} {Q : Exit → Act → World → Prop} (hgd : o.guard = none) (ty : TypeId) (x : Operand) (ho : o.op = .load ty x)
    (g off : Nat) (hx : a.eval x = .pointer (some ⟨g, off, none⟩)) (L : List Value) (d : TypeDesc) (hc : ∀ j v, L[j]? = some v → w.cell? ⟨g, off + j, none⟩ = some v)
    (hu : P.underlying ty = some d) (hd : (match d with | .struct _ | .array _ _ => true | _ => false) = true) (hi : (P.info? ty).map (·.size) = some L.length)
    (h : wpList P ops Q rest (a.put o.dst (.agg L.toArray)) w) : wpList P ops Q (o :: rest) a w := by
  refine wpList_plain hgd fun K hK => ?_
  have hl : (loadCells ⟨g, off, none⟩ L.length).run P w = .ok L.toArray w := run_loadCells_list (P := P) w ⟨g, off, none⟩ L (fun j v hv => by rw [Go.WideShapes.add_plain]; exact hc j v hv)
  have hagg : (isAgg ty).run P w = .ok true w := by
    unfold isAgg
    rw [Sem.run_bind, run_underlying hu w]
    cases d <;> simp_all
  unfold Oper.wp execOp
  cases hq : P.info? ty with
  | none => simp [hq] at hi
  | some i =>
    have hs : i.size = L.length := by simpa [hq] using hi
    simp [ho, hx, Instr.loadAt, Instr.sureAddr, loadVar, Sem.run_bind, hagg, sizeOf, typeInfo, hq, hs, hl, Result.andThen]
    exact hK _ _ h
/-- INDEX of an array's value. -/
theorem index_row {w : World} {ops : Array Oper} {rest : List Oper} {o : Oper} {a : Act} {Q : Exit → Act → World → Prop} (hgd : o.guard = none) (ty : TypeId) (x i : Operand) (ho : o.op = .index ty x i)
    {α : Type} (f : α → Value) (d : α) (L : List α) (hx : a.eval x = .agg (L.map f).toArray) (k : Nat) (hi : a.eval i = .int .i64 (k : Int)) (n : Nat) (elem : TypeId) (q : IntKind) (hu : P.underlying ty = some (.array n elem))
    (he : P.underlying elem = some (.int q)) (hsz : (P.info? elem).map (·.size) = some 1) (hn : L.length = n) (hk : k < n)
    (h : wpList P ops Q rest (a.put o.dst (f (L.getD k d))) w) : wpList P ops Q (o :: rest) a w := by
  refine wpList_plain hgd fun K hK => ?_
  have hag : (isAgg elem).run P w = .ok false w := by unfold isAgg; rw [Sem.run_bind, run_underlying he w]; rfl
  unfold Oper.wp
  cases hq : P.info? elem with
  | none => simp [hq] at hsz
  | some inf =>
    have hs : inf.size = 1 := by simpa [hq] using hsz
    simp [execOp, ho, hx, hi, Instr.index, asIntOf, Result.andThen, run_underlying hu w, sizeOf, typeInfo, hq, hs, part, hag, hn ▸ hk]
    have e : L[k]'(by omega) = L.getD k d := by simp [hn ▸ hk]
    rw [e, if_pos hk]
    exact hK _ _ h
/-- A[r:] of an array in memory. -/
theorem run_sliceAt_low (w : World) (arr elem : TypeId) (n g off r : Nat) (hu : P.underlying arr = some (.array n elem)) (hsz : (P.info? elem).map (·.size) = some 1) (hr : r < n) :
    (Instr.sliceAt arr (.pointer (some ⟨g, off, none⟩)) (some (.int .i64 (r : Int))) none none).run P w = .ok (.slice (some ⟨g, off + r, none⟩) (n - r) (n - r)) w := by
  cases hq : P.info? elem with
  | none => simp [hq] at hsz
  | some inf =>
    have hs : inf.size = 1 := by simpa [hq] using hsz
    have h1 : r ≤ n := by omega
    have h2 : n ≠ r := by omega
    simp [Instr.sliceAt, run_underlying hu w, Instr.sureAddr, Instr.sliceBounds, Instr.sliceBound, asIntOf, Result.andThen, sizeOf, typeInfo, hq, hs, h1, h2, Go.WideShapes.add_plain]
/-- COPY into a row, out of cells (of the same row too). -/
theorem copy_row {w : World} {ops : Array Oper} {rest : List Oper} {o : Oper} {a : Act} {Q : Exit → Act → World → Prop} (hgd : o.guard = none) (d s : Operand) (dT sT : TypeId)
    (ho : o.op = .call { callee := .builtin .copy, args := #[d, s], argTypes := #[dT, sT] }) (g off so g' : Nat) (dLen dCap sLen sCap : Nat)
    (hd : a.eval d = .slice (some ⟨g, off, none⟩) dLen dCap) (hs : a.eval s = .slice (some ⟨g', so, none⟩) sLen sCap)
    (elem : TypeId) (hu : P.underlying dT = some (.slice elem)) (hsz : (P.info? elem).map (·.size) = some 1)
    (t : TypeId) (L : List Value) (hg : Row w g t L) (cs : List Value) (hn : cs.length = Nat.min sLen dLen) (hfit : off + cs.length ≤ L.length) (h1 : ∀ v ∈ cs, v.oneCell' = true)
    (hc : ∀ j v, cs[j]? = some v → w.cell? ⟨g', so + j, none⟩ = some v)
    (h : ∀ w', Row w' g t (splice L off cs) → Upd w w' g → wpList P ops Q rest (a.put o.dst (goInt cs.length)) w') : wpList P ops Q (o :: rest) a w := by
  refine wpList_copy_own hgd d s dT sT ho elem hu hsz g off dLen dCap _ sLen sCap hd hs _ _ hg cs hn ?_ hfit h1 ?_
  · intro j v hj
    rw [Go.WideShapes.add_plain]; exact hc j v hj
  · exact h _ (by unfold Row; rw [setRow_heap w g _ _ _ _ hg]; congr 2) (Upd.setRow _ _ _)
end
end Go.Proofs.YtkfhppbmnjmnoaaGreatDoor.W

namespace Go.Proofs.YtkfhppbmnjmnoaaGreatDoor.W
open Go.ChangeShapes Go.WideShapes Go.ChangeAt Go.RowKit

/-- w' is w, grown, but for block g -/
structure Gw (g : Nat) (w w' : World) : Prop where
  os : w'.os = w.os
  tape : w'.tape = w.tape
  output : w'.output = w.output
  size : w.heap.size ≤ w'.heap.size
  block : ∀ k, k < w.heap.size → k ≠ g → w'.heap[k]? = w.heap[k]?
theorem Gw.refl (g : Nat) (w : World) : Gw g w w := ⟨rfl, rfl, rfl, Nat.le_refl _, fun _ _ _ => rfl⟩
theorem Gw.trans {g : Nat} {w w' w'' : World} (h : Gw g w w') (k : Gw g w' w'') : Gw g w w'' :=
  ⟨k.os.trans h.os, k.tape.trans h.tape, k.output.trans h.output, Nat.le_trans h.size k.size, fun j hj hg => (k.block j (Nat.lt_of_lt_of_le hj h.size) hg).trans (h.block j hj hg)⟩
theorem Gw.upd {g : Nat} {w w' : World} (h : Upd w w' g) : Gw g w w' := ⟨h.os, h.tape, h.output, Nat.le_of_eq h.size.symm, fun k _ hg => h.block k hg⟩
theorem Gw.of_below {g : Nat} {w w' : World} (h : Below w.heap.size w w') : Gw g w w' := ⟨h.os, h.tape, h.output, h.size, fun k hk _ => h.block k hk⟩
theorem Gw.drewN {g : Nat} (w : World) (n : Nat) : Gw g w (w.drewN n) := Gw.of_below (below_drewN (Below.refl _ _) n)
theorem Gw.below {g base : Nat} {w w' : World} (h : Gw g w w') (hg : base ≤ g) (hb : base ≤ w.heap.size) : Below base w w' := ⟨h.os, h.tape, h.output, h.size, fun k hk => h.block k (by omega) (by omega)⟩
theorem Row.gw {g g' : Nat} {w w' : World} {t : TypeId} {L : List Value} (h : Row w g' t L) (k : Gw g w w') (hn : g' ≠ g) : Row w' g' t L := (k.block g' h.lt hn).trans h
theorem Gw.cell {g : Nat} {w w' : World} (h : Gw g w w') {p : Addr} (hp : p.block < w.heap.size) (hn : p.block ≠ g) : w'.cell? p = w.cell? p := World.cell?_of_block (h.block p.block hp hn)
theorem Rd.gw {g : Nat} {w w' : World} {a : Option Addr} {len cap : Nat} {l : List UInt8} (h : Rd w a len cap l) (k : Gw g w w') (hn : len ≠ 0 → ∀ b off, a = some ⟨b, off, none⟩ → b ≠ g) : Rd w' a len cap l := by
  obtain ⟨h1, h2, h3, h4, h5⟩ := h
  refine ⟨h1, h2, h3, h4, ?_⟩
  by_cases h0 : len = 0
  · exact .inl h0
  · obtain ⟨b, off, rfl, hlt, hc⟩ := h5.resolve_left h0
    exact .inr ⟨b, off, rfl, Nat.lt_of_lt_of_le hlt k.size, fun i hi => by rw [k.cell hlt (hn h0 b off rfl)]; exact hc i hi⟩

end Go.Proofs.YtkfhppbmnjmnoaaGreatDoor.W

namespace Go.Proofs.YtkfhppbmnjmnoaaGreatDoor.W
open Go Go.ChangeShapes Go.WideShapes Go.ChangeAt Go.RowKit

theorem Row.k0 {w : World} {g : Nat} {t : TypeId} {a : Value} {L : List Value} (h : Row w g t (a :: L)) : w.cell? ⟨g, 0, none⟩ = some a := by rw [h.cellV]; rfl
theorem Gw.tail {w w1 w2 : World} {p g : Nat} (h : Gw p w w1) (hg : w.heap.size ≤ g) (hu : Upd w1 w2 g) : Gw p w w2 :=
  ⟨hu.os.trans h.os, hu.tape.trans h.tape, hu.output.trans h.output, by rw [hu.size]; exact h.size, fun k hk hp => (hu.block k (by omega)).trans (h.block k hk hp)⟩
theorem box_cell {P : Program} {w : World} {ops : Array Oper} {rest : List Oper} {o : Oper} {a : Act} {Q : Exit → Act → World → Prop} (hgd : o.guard = none) (ty : TypeId) (x : Operand)
    (ho : o.op = .box ty x) (v : Value) (hx : a.eval x = v) (hv : v.cells = #[v])
    (h : ∀ w', Row w' w.heap.size ty [v] → Below w.heap.size w w' → w'.heap.size = w.heap.size + 1 → wpList P ops Q rest (a.put o.dst (.pointer (some ⟨w.heap.size, 0, none⟩))) w') :
    wpList P ops Q (o :: rest) a w := by
  refine wpList_plain hgd fun K hK => ?_
  unfold Oper.wp
  simp [execOp, ho, hx, Instr.box, newVar, newRow, hv, Result.andThen]
  exact hK _ _ (h (w.alloc (.cells [v].toArray ty)) (Row.new _ _ _) ((Below.refl _ _).alloc (Nat.le_refl _) _) (by simp))
theorem alloc_cell {P : Program} {w : World} {ops : Array Oper} {rest : List Oper} {o : Oper} {a : Act} {Q : Exit → Act → World → Prop} (hgd : o.guard = none) (ty : TypeId)
    (ho : o.op = .alloc ty) (v : Value) (hv : v.cells = #[v]) (hz : (P.info? ty).map (·.zero) = some (some v))
    (h : ∀ w', Row w' w.heap.size ty [v] → Below w.heap.size w w' → w'.heap.size = w.heap.size + 1 → wpList P ops Q rest (a.put o.dst (.pointer (some ⟨w.heap.size, 0, none⟩))) w') :
    wpList P ops Q (o :: rest) a w := by
  refine wpList_plain hgd fun K hK => ?_
  unfold Oper.wp
  cases hq : P.info? ty with
  | none => simp [hq] at hz
  | some i =>
    have hz' : i.zero = some v := by simpa [hq] using hz
    simp [execOp, ho, Instr.alloc, zeroValue, typeInfo, hq, hz', newVar, newRow, hv, Result.andThen]
    exact hK _ _ (h (w.alloc (.cells [v].toArray ty)) (Row.new _ _ _) ((Below.refl _ _).alloc (Nat.le_refl _) _) (by simp))
theorem splice1 (L : List Value) (k : Nat) (v : Value) (h : k < L.length) : splice L k [v] = L.set k v := by
  unfold splice
  rw [List.set_eq_take_append_cons_drop, if_pos h]; rfl
/-- STORE of one cell. -/
theorem store_cell {P : Program} {w : World} {ops : Array Oper} {rest : List Oper} {o : Oper} {a : Act} {Q : Exit → Act → World → Prop} (hgd : o.guard = none) (ty : TypeId) (x y : Operand) (ho : o.op = .store ty x y)
    (g off : Nat) (v : Value) (hx : a.eval x = .pointer (some ⟨g, off, none⟩)) (hy : a.eval y = v) (hv : v.cells = #[v]) (h1 : v.oneCell' = true)
    (t : TypeId) (L : List Value) (hg : Row w g t L) (hi : (P.info? ty).map (·.size) = some 1) (hfit : off < L.length)
    (h : ∀ w', Row w' g t (L.set off v) → Upd w w' g → wpList P ops Q rest (a.put o.dst undef) w') : wpList P ops Q (o :: rest) a w := by
  refine wpList_plain hgd fun K hK => ?_
  have hrun := run_storeCells_at (P := P) g off t [v] 0 L.toArray w hg (by simp; omega) (by simpa using h1)
  unfold Oper.wp execOp
  cases hq : P.info? ty with
  | none => simp [hq] at hi
  | some i =>
    have hs : i.size = 1 := by simpa [hq] using hi
    simp [ho, hx, hy, Instr.storeAt, Instr.sureAddr, storeVar, sizeOf, typeInfo, hq, hs, hv, hrun, Result.andThen]
    refine hK _ _ (h _ ?_ (Upd.setRow _ _ _))
    rw [← splice1 L off v hfit]
    unfold Row
    rw [setRow_heap w g _ _ _ _ hg]
    congr 2
theorem results_row_tmp {P : Program} {fn : Func} {p u : Tmp} {ty : TypeId} (h : fn.results = #[.cell p ty, .tmp u]) (tmps : Array Value) (w : World) (g : Nat) (t : TypeId) (cs : Array Value) (fr : Nat × Nat) (d : TypeDesc)
    (hp : tmps.getD p undef = .pointer (some ⟨g, 0, none⟩)) (hg : w.heap[g]? = some (.cells cs t fr))
    (hu : P.underlying ty = some d) (hd : (match d with | .struct _ | .array _ _ => true | _ => false) = true) (hi : (P.info? ty).map (·.size) = some cs.size) :
    (results fn tmps).run P w = .ok (.tuple #[.agg cs, tmps.getD u undef]) w := by
  rw [results_cell_tmp h, hp]
  simp [asAddr, run_loadVar_row w g t ty cs fr d hg hu hd hi, Result.andThen]

end Go.Proofs.YtkfhppbmnjmnoaaGreatDoor.W

namespace Go.Proofs.YtkfhppbmnjmnoaaGreatDoor.W
open Go Go.ChangeShapes Go.WideShapes Go.ChangeAt Go.RowKit

section
variable {P : Program}
theorem run_copy_wide (w : World) (T ty elem : TypeId) (k g off dLen dCap : Nat) (t : TypeId) (L : List Value) (sp : Option Addr) (sLen sCap : Nat) (cs : List Value)
    (hu : P.underlying T = some (.slice elem)) (hk : (P.info? elem).map (·.size) = some k) (hg : Row w g t L) (hle : sLen ≤ dLen) (hcs : cs.length = sLen * k)
    (hsrc : sLen = 0 ∨ ∃ b o, sp = some ⟨b, o, none⟩ ∧ ∀ j v, cs[j]? = some v → w.cell? ⟨b, o + j, none⟩ = some v) (hfit : off + cs.length ≤ L.length) (h1 : ∀ v ∈ cs, v.oneCell' = true) :
    (Builtin.copy_ #[T, T] ty #[.slice (some ⟨g, off, none⟩) dLen dCap, .slice sp sLen sCap]).run P w = .ok (goInt sLen) (w.setRow g (splice L off cs).toArray) := by
  have hst := run_storeCells_at (P := P) g off t cs 0 L.toArray w hg (by simpa using hfit) h1
  have hmin : Nat.min sLen dLen = sLen := Nat.min_eq_left hle
  cases hq : P.info? elem with
  | none => simp [hq] at hk
  | some i =>
    have hi : i.size = k := by simpa [hq] using hk
    rcases sp with _ | ad
    · have h0 : sLen = 0 := by
        rcases hsrc with h0 | ⟨b, o, e, -⟩
        · exact h0
        · cases e
      subst h0
      have hc : cs = [] := List.eq_nil_of_length_eq_zero (by simpa using hcs)
      subst hc
      have hs0 : (storeCells ⟨g, off, none⟩ []).run P w = .ok () (w.setRow g (splice L off []).toArray) := by simpa [splice] using hst
      simp [Builtin.copy_, run_underlying hu, Builtin.lenOf, Builtin.firstCells, sizeOf, typeInfo, hq, hs0]
    · have hl := run_loadCells_list (P := P) w ad cs (by
        intro j v hj
        rcases hsrc with h0 | ⟨b, o, e, hc⟩
        · subst h0
          have : cs = [] := List.eq_nil_of_length_eq_zero (by simpa using hcs)
          subst this; simp at hj
        · obtain rfl : ad = ⟨b, o, none⟩ := by simpa using e
          rw [Go.WideShapes.add_plain]; exact hc j v hj)
      rw [hcs] at hl
      simp [Builtin.copy_, run_underlying hu, Builtin.lenOf, Builtin.firstCells, sizeOf, typeInfo, hq, hi, hmin, hl, hst, splice]
/-- COPY of elements into a row. -/
theorem copy_wide {w : World} {ops : Array Oper} {rest : List Oper} {o : Oper} {a : Act} {Q : Exit → Act → World → Prop} (hgd : o.guard = none) (d s : Operand) (T : TypeId)
    (ho : o.op = .call { callee := .builtin .copy, args := #[d, s], argTypes := #[T, T] }) (elem : TypeId) (k g off dLen dCap : Nat) (t : TypeId) (L : List Value) (sp : Option Addr) (sLen sCap : Nat) (cs : List Value)
    (hd : a.eval d = .slice (some ⟨g, off, none⟩) dLen dCap) (hs : a.eval s = .slice sp sLen sCap)
    (hu : P.underlying T = some (.slice elem)) (hk : (P.info? elem).map (·.size) = some k) (hg : Row w g t L) (hle : sLen ≤ dLen) (hcs : cs.length = sLen * k)
    (hsrc : sLen = 0 ∨ ∃ b o, sp = some ⟨b, o, none⟩ ∧ ∀ j v, cs[j]? = some v → w.cell? ⟨b, o + j, none⟩ = some v) (hfit : off + cs.length ≤ L.length) (h1 : ∀ v ∈ cs, v.oneCell' = true)
    (h : ∀ w', Row w' g t (splice L off cs) → Upd w w' g → wpList P ops Q rest (a.put o.dst (goInt sLen)) w') : wpList P ops Q (o :: rest) a w := by
  refine wpList_plain hgd fun K hK => ?_
  have hrun := run_copy_wide w T o.type elem k g off dLen dCap t L sp sLen sCap cs hu hk hg hle hcs hsrc hfit h1
  unfold Oper.wp
  simp [execOp, ho, resolve, invoke, builtin, hd, hs, hrun, Result.andThen]
  refine hK _ _ (h _ ?_ (Upd.setRow _ _ _))
  unfold Row
  rw [setRow_heap w g _ _ _ _ hg]
/-- MAKE of n elements. -/
theorem make_wide {w : World} {ops : Array Oper} {rest : List Oper} {o : Oper} {a : Act} {Q : Exit → Act → World → Prop} (hgd : o.guard = none) (x y : Operand) (T : TypeId)
    (ho : o.op = Op.makeSlice T x y) (elem : TypeId) (z : Array Value) (k b : Nat) (hu : P.underlying T = some (.slice elem)) (hi : (P.info? elem).map (fun i => (i.zero, i.size, i.bytes)) = some (some (.agg z), k, b))
    (X : Int) (n : Nat) (hx : a.eval x = .int .i64 X) (hy : a.eval y = .int .i64 X) (hn : X = (n : Int)) (hc : n * k ≤ 16777216) (hb : b * n ≤ 281474976710656) (hn2 : n ≤ 281474976710656)
    (h : ∀ w', Row w' w.heap.size elem (madeCells z (n * k)).toList → Below w.heap.size w w' → w'.heap.size = w.heap.size + 1 → wpList P ops Q rest (a.put o.dst (.slice (some ⟨w.heap.size, 0, none⟩) n n)) w') :
    wpList P ops Q (o :: rest) a w := by
  subst hn
  refine wpList_plain hgd fun K hK => ?_
  cases hq : P.info? elem with
  | none => simp [hq] at hi
  | some i =>
    simp [hq] at hi
    obtain ⟨hz, hs, hby⟩ := hi
    have hrun := run_makeSlice (P := P) (w := w) T elem i (.agg z) hu hq hz .i64 .i64 (n : Int) (n : Int) (by omega) (Int.le_refl _) (by rw [hs]; simpa using hc)
      (by rw [hby]; have : ((b * n : Nat) : Int) ≤ 281474976710656 := by omega
          rwa [Int.natCast_mul] at this) (by omega)
    unfold Oper.wp
    simp [execOp, ho, hx, hy, hrun, Result.andThen]
    refine hK _ _ (h _ ?_ ((Below.refl _ _).alloc (Nat.le_refl _) _) (by simp))
    unfold Row
    rw [heap_alloc_new]
    simp [Value.cells, hs]
end
end Go.Proofs.YtkfhppbmnjmnoaaGreatDoor.W
