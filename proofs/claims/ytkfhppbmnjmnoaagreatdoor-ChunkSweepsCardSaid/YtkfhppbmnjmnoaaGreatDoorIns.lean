/- LISTS OF STRUCTS: what slices.Insert is made of: copy of as many as there is room for, append of zeros, what the rows then hold. No number of a dump. -/
import Derived.Test.YtkfhppbmnjmnoaaGreatDoorLs
import Derived.Test.YtkfhppbmnjmnoaaGreatDoorArr
import Derived.Lib.AppendZerosOnto
import Derived.Lib.Overlaps
set_option linter.unusedSimpArgs false
set_option linter.unusedVariables false
namespace Go.Proofs.YtkfhppbmnjmnoaaGreatDoor.W
open Go Go.ChangeShapes Go.WideShapes Go.ChangeAt Go.RowKit
variable {α : Type} {P : Program} {E : El α}

theorem run_copy_min (w : World) (T ty elm : TypeId) (k g off dLen dCap : Nat) (t : TypeId) (L : List Value) (sp : Option Addr) (sLen sCap : Nat) (cs : List Value)
    (hu : P.underlying T = some (.slice elm)) (hk : (P.info? elm).map (·.size) = some k) (hg : Row w g t L) (hcs : cs.length = Nat.min sLen dLen * k)
    (hsrc : ∃ b o, sp = some ⟨b, o, none⟩ ∧ ∀ j v, cs[j]? = some v → w.cell? ⟨b, o + j, none⟩ = some v) (hfit : off + cs.length ≤ L.length) (h1 : ∀ v ∈ cs, v.oneCell' = true) :
    (Builtin.copy_ #[T, T] ty #[.slice (some ⟨g, off, none⟩) dLen dCap, .slice sp sLen sCap]).run P w = .ok (goInt (Nat.min sLen dLen)) (w.setRow g (splice L off cs).toArray) := by
  have hst := run_storeCells_at (P := P) g off t cs 0 L.toArray w hg (by simpa using hfit) h1
  obtain ⟨b, o, rfl, hc⟩ := hsrc
  cases hq : P.info? elm with
  | none => simp [hq] at hk
  | some i =>
    have hi : i.size = k := by simpa [hq] using hk
    have hl := run_loadCells_list (P := P) w ⟨b, o, none⟩ cs (by
      intro j v hj
      rw [Go.WideShapes.add_plain]; exact hc j v hj)
    rw [hcs] at hl
    generalize hm : Nat.min sLen dLen = m at *
    simp [Builtin.copy_, run_underlying hu, Builtin.lenOf, Builtin.firstCells, sizeOf, typeInfo, hq, hi, hm, hl, hst, splice]
/-- COPY of elements into a row, as many as there is room for. -/
theorem copy_min {w : World} {ops : Array Oper} {rest : List Oper} {o : Oper} {a : Act} {Q : Exit → Act → World → Prop} (hgd : o.guard = none) (d s : Operand) (T : TypeId)
    (ho : o.op = .call { callee := .builtin .copy, args := #[d, s], argTypes := #[T, T] }) (elm : TypeId) (k g off dLen dCap : Nat) (t : TypeId) (L : List Value) (sp : Option Addr) (sLen sCap : Nat) (cs : List Value)
    (hd : a.eval d = .slice (some ⟨g, off, none⟩) dLen dCap) (hs : a.eval s = .slice sp sLen sCap)
    (hu : P.underlying T = some (.slice elm)) (hk : (P.info? elm).map (·.size) = some k) (hg : Row w g t L) (hcs : cs.length = Nat.min sLen dLen * k)
    (hsrc : ∃ b o, sp = some ⟨b, o, none⟩ ∧ ∀ j v, cs[j]? = some v → w.cell? ⟨b, o + j, none⟩ = some v) (hfit : off + cs.length ≤ L.length) (h1 : ∀ v ∈ cs, v.oneCell' = true)
    (h : ∀ w', Row w' g t (splice L off cs) → Upd w w' g → wpList P ops Q rest (a.put o.dst (goInt (Nat.min sLen dLen))) w') : wpList P ops Q (o :: rest) a w := by
  refine wpList_plain hgd fun K hK => ?_
  have hrun := run_copy_min w T o.type elm k g off dLen dCap t L sp sLen sCap cs hu hk hg hcs hsrc hfit h1
  unfold Oper.wp
  generalize Nat.min sLen dLen = m at *
  simp [execOp, ho, resolve, invoke, builtin, hd, hs, hrun, Result.andThen]
  refine hK _ _ (h _ ?_ (Upd.setRow _ _ _))
  unfold Row
  rw [setRow_heap w g _ _ _ _ hg]
/-- APPEND of zeros onto the first i elements of a row, where there is no room: a new row. -/
theorem append_zeros (hE : E.Ok P) {w : World} {ops : Array Oper} {rest : List Oper} {o : Oper} {a : Act} {Q : Exit → Act → World → Prop} (hgd : o.guard = none) (s x : Operand) (tn : TypeId) (kn : IntKind)
    (htn : P.underlying tn = some (.int kn))
    (ho : o.op = .call { callee := .builtin .append, args := #[s, x], argTypes := #[E.sT, tn] })
    (g c i q : Nat) (X : Int) (L : List α) (hs : a.eval s = .slice (some ⟨g, 0, none⟩) i c) (hx : a.eval x = .int .i64 X) (hX : X = (q : Int)) (hq0 : 0 < q) (hL : L.length = i) (hc : c < i + q) (hmax : i + q ≤ 1000000)
    (hcell : ∀ j u, (flatE E L)[j]? = some u → w.cell? ⟨g, j, none⟩ = some u)
    (h : ∀ w' G R, Row w' w.heap.size E.eT R → R.take (i * E.k) = flatE E L → R.length = G * E.k → i + q ≤ G → G ≤ maxLen → Below w.heap.size w w' → w'.heap.size = w.heap.size + 1 → wpList P ops Q rest (a.put o.dst (.slice (some ⟨w.heap.size, 0, none⟩) (i + q) G)) w') : wpList P ops Q (o :: rest) a w := by
  subst hX
  obtain ⟨i0, hi, hz0, hz1, hz2⟩ := info_parts hE.info
  have hp := hE.pos
  have hsm := hE.small
  have hold : (Builtin.firstCells i0.size i (.slice (some ⟨g, 0, none⟩) i c)).run P w.drew = .ok (flatE E L).toArray w.drew :=
    run_firstCells_some (w := w.drew) i0.size i ⟨g, 0, none⟩ i c (flatE E L) (by rw [flatE_len hE, hz1, hL]) (fun j u hj => by rw [Go.WideShapes.add_plain, Nat.zero_add]; exact hcell j u hj)
  have hby : (i + q) * i0.bytes ≤ 1000000 * 4096 := by rw [hz2]; exact Nat.mul_le_mul hmax hsm
  have hbq : q * i0.bytes ≤ 1000000 * 4096 := by rw [hz2]; exact Nat.mul_le_mul (by omega) hsm
  have hrun := Lib.run_append_grow_zeros (P := P) w E.sT tn o.type E.eT i0 E.z .i64 kn hE.und htn hi hz0 (some ⟨g, 0, none⟩) i c (flatE E L).toArray.toList (by simpa using hold) q hq0 (by omega) hc (by omega) (by omega) (growslice_fits (by omega) (by omega))
  refine wpList_plain hgd fun K hK => ?_
  unfold Oper.wp
  simp [execOp, ho, resolve, invoke, builtin, hs, hx, hrun, Result.andThen]
  have hge := grownCap_ge w (i + q) c E.eT
  have hcm := grownCap_le_maxLen w (i + q) c E.eT (by unfold maxLen; omega)
  have hmk : ∀ n : Nat, n * E.z.cells.size = n * E.k := fun n => by rw [hE.zs]
  refine hK _ _ (h _ (grownCap w (i + q) c E.eT) ((flatE E L) ++ (Builtin.zeroCells E.z.cells q).toList ++ (Builtin.zeroCells E.z.cells (grownCap w (i + q) c E.eT - (i + q))).toList) ?_ ?_ ?_ hge hcm ((Below.refl _ _).drew.alloc (Nat.le_refl _) _) (by simp))
  · unfold Row
    rw [show ((flatE E L) ++ (Builtin.zeroCells E.z.cells q).toList ++ (Builtin.zeroCells E.z.cells (grownCap w (i + q) c E.eT - (i + q))).toList).toArray = (flatE E L).toArray ++ Builtin.zeroCells E.z.cells q ++ Builtin.zeroCells E.z.cells (grownCap w (i + q) c E.eT - (i + q)) by
      apply Array.toList_inj.1; simp]
    simpa using heap_alloc_new w.drew (.cells ((flatE E L).toArray ++ Builtin.zeroCells E.z.cells q ++ Builtin.zeroCells E.z.cells (grownCap w (i + q) c E.eT - (i + q))) E.eT)
  · rw [List.append_assoc]; exact List.take_left' (by rw [flatE_len hE, hL])
  · simp only [List.length_append, flatE_len hE, hL, Array.length_toList, size_zeroCells, hmk]
    rw [← Nat.add_mul, ← Nat.add_mul]
    congr 1
    omega
-- ---- what the rows hold
theorem splice_len (L : List Value) (o : Nat) (cs : List Value) (h : o + cs.length ≤ L.length) : (splice L o cs).length = L.length := by
  unfold splice; simp only [List.length_append, List.length_take, List.length_drop]; omega
theorem ins_shift {R A B S : List Value} (h : R.take (A.length + B.length) = A ++ B) (hl : A.length + S.length + B.length ≤ R.length) :
    (splice (splice R (A.length + S.length) B) A.length S).take (A.length + S.length + B.length) = A ++ S ++ B := by
  have hA : R.take A.length = A := by
    have := congrArg (List.take A.length) h
    rw [List.take_take, List.take_left' rfl] at this
    rwa [Nat.min_eq_left (by omega)] at this
  have e1 : (splice R (A.length + S.length) B).take A.length = A := by
    unfold splice
    rw [List.take_append_of_le_length (by rw [List.length_take]; omega), List.take_take, Nat.min_eq_left (by omega), hA]
  have e2 : (splice R (A.length + S.length) B).drop (A.length + S.length) = B ++ R.drop (A.length + S.length + B.length) := by
    unfold splice
    rw [List.drop_left' (by rw [List.length_take]; omega)]
  show ((splice R (A.length + S.length) B).take A.length ++ (S ++ (splice R (A.length + S.length) B).drop (A.length + S.length))).take _ = _
  rw [e1, e2, ← List.append_assoc, ← List.append_assoc]
  exact List.take_left' (by simp only [List.length_append])
theorem ins_fresh {R A B S : List Value} (h : R.take A.length = A) (hl : A.length + S.length + B.length ≤ R.length) :
    (splice (splice R A.length S) (A.length + S.length) B).take (A.length + S.length + B.length) = A ++ S ++ B := by
  have e1 : (splice R A.length S).take (A.length + S.length) = A ++ S := by
    unfold splice
    rw [h, ← List.append_assoc]
    exact List.take_left' (by simp only [List.length_append])
  show ((splice R A.length S).take (A.length + S.length) ++ (B ++ _)).take _ = _
  rw [e1, ← List.append_assoc]
  exact List.take_left' (by simp only [List.length_append])
end Go.Proofs.YtkfhppbmnjmnoaaGreatDoor.W
