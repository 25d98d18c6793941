/- LAYER 11 (record): the closures of Apply; slices.IndexFunc with them. LAYER 11 (record): clear of a part of a row of entries. LAYER 11 (record): slices.DeleteFunc with the closures of Apply. -/
import Derived.Test.YtjkkopbhdeljmaaGreatRcX
set_option linter.unusedSimpArgs false
set_option linter.unusedVariables false
namespace Go.Proofs.YtjkkopbhdeljmaaGreat.W
open Go Go.ChangeShapes Go.WideShapes Go.ChangeAt Go.RowKit

def pr1 (r : Rc) (e : En) : Bool := decide (e.ix ≤ r.i)
def pr2 (r : Rc) (e : En) : Bool := decide (r.i ≤ e.ix)
end Go.Proofs.YtjkkopbhdeljmaaGreat.W

namespace Go.Proofs.YtjkkopbhdeljmaaGreat.W
open Go Go.ChangeShapes Go.WideShapes Go.ChangeAt Go.RowKit

section
variable {P : Program}
theorem run_clear_wide (w : World) (T ty elem : TypeId) (z : Array Value) (g off n c : Nat) (t : TypeId) (L : List Value) (hu : P.underlying T = some (.slice elem)) (hz : (P.info? elem).map (·.zero) = some (some (.agg z)))
    (hg : Row w g t L) (hfit : off + (n + 1) * z.size ≤ L.length) (h1 : ∀ v ∈ (madeCells z ((n + 1) * z.size)).toList, v.oneCell' = true) :
    (Builtin.clear_ #[T] ty #[.slice (some ⟨g, off, none⟩) (n + 1) c]).run P w = .ok (.tuple #[]) (w.setRow g (splice L off (madeCells z ((n + 1) * z.size)).toList).toArray) := by
  have hst := run_storeCells_at (P := P) g off t (madeCells z ((n + 1) * z.size)).toList 0 L.toArray w hg (by simpa [size_madeCells] using hfit) h1
  cases hq : P.info? elem with
  | none => simp [hq] at hz
  | some i =>
    have hi : i.zero = some (.agg z) := by simpa [hq] using hz
    have hzc : (Builtin.zeroCells (Value.agg z).cells (n + 1)) = madeCells z ((n + 1) * z.size) := rfl
    simp [Builtin.clear_, run_underlying hu, zeroValue, typeInfo, hq, hi, hzc, hst, splice]
theorem clear_wide {w : World} {ops : Array Oper} {rest : List Oper} {o : Oper} {a : Act} {Q : Exit → Act → World → Prop} (hgd : o.guard = none) (d : Operand) (T : TypeId)
    (ho : o.op = .call { callee := .builtin .clear, args := #[d], argTypes := #[T] }) (elem : TypeId) (z : Array Value) (g off n c : Nat) (t : TypeId) (L : List Value)
    (hd : a.eval d = .slice (some ⟨g, off, none⟩) (n + 1) c)
    (hu : P.underlying T = some (.slice elem)) (hz : (P.info? elem).map (·.zero) = some (some (.agg z)))
    (hg : Row w g t L) (hfit : off + (n + 1) * z.size ≤ L.length) (h1 : ∀ v ∈ (madeCells z ((n + 1) * z.size)).toList, v.oneCell' = true)
    (h : ∀ w', Row w' g t (splice L off (madeCells z ((n + 1) * z.size)).toList) → Upd w w' g → wpList P ops Q rest (a.put o.dst (.tuple #[])) w') : wpList P ops Q (o :: rest) a w := by
  refine wpList_plain hgd fun K hK => ?_
  have hrun := run_clear_wide w T o.type elem z g off n c t L hu hz hg hfit h1
  unfold Oper.wp
  simp [execOp, ho, resolve, invoke, builtin, hd, hrun, Result.andThen]
  refine hK _ _ (h _ ?_ (Upd.setRow _ _ _))
  unfold Row
  rw [setRow_heap w g _ _ _ _ hg]
end
/-- the tail of a row of entries made nothing -/
theorem splice_tail (M : List En) (i n : Nat) (hn : M.length = n) (hi : i ≤ n) : splice (flat M) (i * 4) (flat (List.replicate (n - i) En.zero)) = flat (M.take i ++ List.replicate (n - i) En.zero) := by
  unfold splice
  have h1 : (flat M).drop (i * 4 + (flat (List.replicate (n - i) En.zero)).length) = [] := by
    apply List.drop_eq_nil_of_le
    rw [flat_len, flat_len, List.length_replicate]; omega
  have h2 : (flat M).take (i * 4) = flat (M.take i) := by
    have : flat M = flat (M.take i) ++ flat (M.drop i) := by rw [← flat_app, List.take_append_drop]
    rw [this, List.take_append_of_le_length (by rw [flat_len, List.length_take]; omega), List.take_of_length_le (by rw [flat_len, List.length_take]; omega)]
  rw [h1, h2, List.append_nil, ← flat_app]
theorem flat_one (M : List En) : ∀ v ∈ flat M, v.oneCell' = true := by
  induction M with
  | nil => intro v hv; simp [flat] at hv
  | cons e M ih =>
    intro v hv
    simp only [flat, List.mem_append] at hv
    rcases hv with h | h
    · exact en_one e v h
    · exact ih v h
end Go.Proofs.YtjkkopbhdeljmaaGreat.W

namespace Go.Proofs.YtjkkopbhdeljmaaGreat.W
open Go Go.ChangeShapes Go.WideShapes Go.ChangeAt Go.RowKit

theorem take_next (M : List En) (j : Nat) (q : En → Bool) (h : j < M.length) : (M.take (j + 1)).filter q = (M.take j).filter q ++ (if q (M.getD j En.zero) then [M.getD j En.zero] else []) := by
  have h1 : M.take (j + 1) = M.take j ++ [M.getD j En.zero] := by
    rw [List.take_succ_eq_append_getElem h]
    simp [List.getD_eq_getElem?_getD, h]
  rw [h1, List.filter_append]
  congr 1
  obtain ⟨x, hx⟩ : ∃ x, M.getD j En.zero = x := ⟨_, rfl⟩
  rw [hx]
  cases hq : q x <;> simp [hq]
theorem all_kept (M : List En) (k : Nat) (q : En → Bool) (hk : k ≤ M.length) (h : ∀ i, i < k → q (M.getD i En.zero) = true) : (M.take k).filter q = M.take k := by
  apply List.filter_eq_self.2
  intro x hx
  obtain ⟨i, hi, rfl⟩ := List.getElem_of_mem hx
  have hi' : i < k := by have := List.length_take_le k M; rw [List.length_take] at hi; omega
  have := h i hi'
  rw [List.getD_eq_getElem?_getD, List.getElem?_eq_getElem (by omega)] at this
  simpa using this
theorem at_drop (R M : List En) (j n : Nat) (hR : R.length = n) (hM : M.length = n) (hj : j < n) (h : R.drop j = M.drop j) : R.getD j En.zero = M.getD j En.zero := by
  have := congrArg (fun l => l[0]?) h
  simp only [List.getElem?_drop, Nat.add_zero] at this
  rw [List.getD_eq_getElem?_getD, List.getD_eq_getElem?_getD, this]
theorem drop_next {R M : List En} {j : Nat} (h : R.drop j = M.drop j) : R.drop (j + 1) = M.drop (j + 1) := by
  rw [← List.drop_drop, ← List.drop_drop, h]
theorem set_take (R : List En) (m : Nat) (e : En) (h : m < R.length) : (R.set m e).take (m + 1) = R.take m ++ [e] := by
  rw [List.take_succ_eq_append_getElem (by simpa using h)]
  simp [List.take_set_of_le]
end Go.Proofs.YtjkkopbhdeljmaaGreat.W
