/- LISTS OF STRUCTS: what slices.Delete is made of: append within the row itself, clear; what the row then holds. No number of a dump. -/
import Derived.Test.YthbbiiegbddpdaaDoorLs
import Derived.Test.YthbbiiegbddpdaaDoorArr
set_option linter.unusedSimpArgs false
set_option linter.unusedVariables false
namespace Go.Proofs.YthbbiiegbddpdaaDoor.W
open Go Go.ChangeShapes Go.WideShapes Go.ChangeAt Go.RowKit
variable {α : Type} {P : Program} {E : El α}

theorem dl_splice (L : List Value) (o : Nat) (cs : List Value) : splice L o cs = L.take o ++ (cs ++ L.drop (o + cs.length)) := rfl
theorem dl_len (L : List Value) (o : Nat) (cs : List Value) (h : o + cs.length ≤ L.length) : (splice L o cs).length = L.length := by
  rw [dl_splice]; simp only [List.length_append, List.length_take, List.length_drop]; omega
theorem flatE_take (hE : E.Ok P) (L : List α) (i : Nat) (hi : i ≤ L.length) : (flatE E L).take (i * E.k) = flatE E (L.take i) := by
  have h : flatE E L = flatE E (L.take i) ++ flatE E (L.drop i) := by rw [← flatE_app, List.take_append_drop]
  rw [h]
  exact List.take_left' (by rw [flatE_len hE, List.length_take, Nat.min_eq_left hi])
theorem flatE_drop (hE : E.Ok P) (L : List α) (i : Nat) (hi : i ≤ L.length) : (flatE E L).drop (i * E.k) = flatE E (L.drop i) := by
  have h : flatE E L = flatE E (L.take i) ++ flatE E (L.drop i) := by rw [← flatE_app, List.take_append_drop]
  rw [h]
  exact List.drop_left' (by rw [flatE_len hE, List.length_take, Nat.min_eq_left hi])
/-- APPEND within a row that has room, out of anywhere (the row itself too). -/
theorem append_in (hE : E.Ok P) {w : World} {ops : Array Oper} {rest : List Oper} {o : Oper} {a : Act} {Q : Exit → Act → World → Prop} (hgd : o.guard = none) (s x : Operand)
    (ho : o.op = .call { callee := .builtin .append, args := #[s, x], argTypes := #[E.sT, E.sT] })
    (g i c : Nat) (R : List Value) (hs : a.eval s = .slice (some ⟨g, 0, none⟩) i c) (hR : Row w g E.eT R) (hRl : R.length = c * E.k)
    (ad : Addr) (m c2 : Nat) (cs : List Value) (hx : a.eval x = .slice (some ad) m c2) (hcs : cs.length = m * E.k) (hsrc : ∀ j u, cs[j]? = some u → w.cell? (ad.add j) = some u) (h1 : ∀ u ∈ cs, u.oneCell' = true) (hroom : i + m ≤ c)
    (h : ∀ w', Row w' g E.eT (splice R (i * E.k) cs) → Upd w w' g → wpList P ops Q rest (a.put o.dst (.slice (some ⟨g, 0, none⟩) (i + m) c)) w') : wpList P ops Q (o :: rest) a w := by
  obtain ⟨i0, hi, hz0, hz1, hz2⟩ := info_parts hE.info
  have hfit : i * i0.size + cs.length ≤ R.toArray.size := by
    have : (i + m) * E.k ≤ c * E.k := Nat.mul_le_mul_right _ hroom
    rw [Nat.add_mul] at this
    rw [hz1, hcs, List.size_toArray, hRl]; exact this
  have hrun := run_append_room (P := P) w E.sT o.type E.eT i0 hE.und hi g i c R.toArray hR ad m c2 cs (by rw [hz1]; exact hcs) hsrc h1 hroom hfit
  refine wpList_plain hgd fun K hK => ?_
  unfold Oper.wp
  simp [execOp, ho, resolve, invoke, builtin, hs, hx, hrun, Result.andThen]
  rw [hz1]
  refine hK _ _ (h _ ?_ (Upd.setRow _ _ _))
  unfold Row
  rw [setRow_heap w g _ _ _ _ hR]
  congr 3
theorem run_clear_one (w : World) (T ty ety : TypeId) (z : Array Value) (g off n c : Nat) (t : TypeId) (L : List Value) (hu : P.underlying T = some (.slice ety)) (hz : (P.info? ety).map (·.zero) = some (some (.agg z)))
    (hg : Row w g t L) (hfit : off + (n + 1) * z.size ≤ L.length) (h1 : ∀ v ∈ (madeCells z ((n + 1) * z.size)).toList, v.oneCell' = true) :
    (Builtin.clear_ #[T] ty #[.slice (some ⟨g, off, none⟩) (n + 1) c]).run P w = .ok (.tuple #[]) (w.setRow g (splice L off (madeCells z ((n + 1) * z.size)).toList).toArray) := by
  have hst := run_storeCells_at (P := P) g off t (madeCells z ((n + 1) * z.size)).toList 0 L.toArray w hg (by simpa [size_madeCells] using hfit) h1
  cases hq : P.info? ety with
  | none => simp [hq] at hz
  | some i =>
    have hi : i.zero = some (.agg z) := by simpa [hq] using hz
    have hzc : (Builtin.zeroCells (Value.agg z).cells (n + 1)) = madeCells z ((n + 1) * z.size) := rfl
    simp [Builtin.clear_, run_underlying hu, zeroValue, typeInfo, hq, hi, hzc, hst, splice]
/-- CLEAR of n + 1 structs within a row. -/
theorem clear_in {w : World} {ops : Array Oper} {rest : List Oper} {o : Oper} {a : Act} {Q : Exit → Act → World → Prop} (hgd : o.guard = none) (d : Operand) (T : TypeId)
    (ho : o.op = .call { callee := .builtin .clear, args := #[d], argTypes := #[T] }) (ety : TypeId) (z : Array Value) (g off n c : Nat) (t : TypeId) (L : List Value)
    (hd : a.eval d = .slice (some ⟨g, off, none⟩) (n + 1) c)
    (hu : P.underlying T = some (.slice ety)) (hz : (P.info? ety).map (·.zero) = some (some (.agg z)))
    (hg : Row w g t L) (hfit : off + (n + 1) * z.size ≤ L.length) (h1 : ∀ v ∈ (madeCells z ((n + 1) * z.size)).toList, v.oneCell' = true)
    (h : ∀ w', Row w' g t (splice L off (madeCells z ((n + 1) * z.size)).toList) → Upd w w' g → wpList P ops Q rest (a.put o.dst (.tuple #[])) w') : wpList P ops Q (o :: rest) a w := by
  refine wpList_plain hgd fun K hK => ?_
  have hrun := run_clear_one w T o.type ety z g off n c t L hu hz hg hfit h1
  unfold Oper.wp
  simp [execOp, ho, resolve, invoke, builtin, hd, hrun, Result.andThen]
  refine hK _ _ (h _ ?_ (Upd.setRow _ _ _))
  unfold Row
  rw [setRow_heap w g _ _ _ _ hg]
/-- one struct of a row taken out, the last place made nothing -/
theorem del_row (hE : E.Ok P) (R : List Value) (L : List α) (n c i : Nat) (Z : List Value) (hL : L.length = n) (hi : i < n) (hnc : n ≤ c) (hR : R.length = c * E.k) (ht : R.take (n * E.k) = flatE E L) (hZ : Z.length = E.k) :
    (splice (splice R (i * E.k) (flatE E (L.drop (i + 1)))) ((n - 1) * E.k) Z).take ((n - 1) * E.k) = flatE E (L.take i ++ L.drop (i + 1)) ∧ (splice (splice R (i * E.k) (flatE E (L.drop (i + 1)))) ((n - 1) * E.k) Z).length = c * E.k := by
  have hd : (flatE E (L.drop (i + 1))).length = (n - 1 - i) * E.k := by rw [flatE_len hE, List.length_drop, hL]; congr 1; omega
  have e1 : i * E.k + (n - 1 - i) * E.k = (n - 1) * E.k := by rw [← Nat.add_mul]; congr 1; omega
  have e2 : (n - 1) * E.k + E.k = n * E.k := by
    have : (n - 1 + 1) * E.k = n * E.k := by congr 1; omega
    rw [Nat.add_mul, Nat.one_mul] at this; exact this
  have e3 : n * E.k ≤ c * E.k := Nat.mul_le_mul_right _ hnc
  have e4 : i * E.k ≤ n * E.k := Nat.mul_le_mul_right _ (by omega)
  have hs : (splice R (i * E.k) (flatE E (L.drop (i + 1)))).length = c * E.k := by rw [dl_len _ _ _ (by rw [hd, hR]; omega), hR]
  refine ⟨?_, by rw [dl_len _ _ _ (by rw [hZ, hs]; omega), hs]⟩
  rw [dl_splice (splice R _ _), List.take_append_of_le_length (by rw [List.length_take, hs]; omega), List.take_take, Nat.min_self, dl_splice, ← List.append_assoc,
    List.take_left' (by rw [List.length_append, List.length_take, hR, hd, Nat.min_eq_left (by omega)]; exact e1), flatE_app]
  congr 1
  rw [← flatE_take hE L i (by omega), ← ht, List.take_take, Nat.min_eq_left e4]
end Go.Proofs.YthbbiiegbddpdaaDoor.W
