/- LISTS OF STRUCTS that a call owns, as a row: the live ones and what lies behind them; one written, the tail cleared; a part of an own list. No number of a dump. -/
import Derived.Test.YthbbiiegbddpdaaDoorDel
import Derived.Lib.AppendZerosOnto
set_option linter.unusedSimpArgs false
set_option linter.unusedVariables false
namespace Go.Proofs.YthbbiiegbddpdaaDoor.W
open Go Go.ChangeShapes Go.WideShapes Go.ChangeAt Go.RowKit
variable {α : Type} {P : Program} {E : El α}

/-- an own row: v is nil and L empty, or the row g holds the cells of L and Z behind them -/
structure OwR (E : El α) (w : World) (g n c : Nat) (L : List α) (Z : List Value) : Prop where
  row : Row w g E.eT (flatE E L ++ Z)
  hn : L.length = n
  hnc : n ≤ c
  hcm : c ≤ maxLen
  hl : (flatE E L ++ Z).length = c * E.k
theorem LsO.owr {w : World} {base : Nat} {v : Value} {L : List α} (hE : E.Ok P) (h : LsO E w base v L) : (v = .slice none 0 0 ∧ L = []) ∨ ∃ g c Z, v = .slice (some ⟨g, 0, none⟩) L.length c ∧ base ≤ g ∧ OwR E w g L.length c L Z := by
  obtain ⟨h1, h2⟩ := h
  rcases h2 with ⟨rfl, h0⟩ | ⟨g, cap, cur, rfl, hg, hh, hn, hm, hsz, ht⟩
  · exact .inl ⟨rfl, List.eq_nil_of_length_eq_zero h0⟩
  · have e : cur.toList = flatE E L ++ cur.toList.drop (L.length * E.k) := by
      rw [← ht, List.take_append_drop]
    refine .inr ⟨g, cap, cur.toList.drop (L.length * E.k), rfl, hg, ?_, rfl, hn, hm, ?_⟩
    · rw [← e]; exact hh
    · rw [← e]; simpa using hsz
theorem OwR.lso {w : World} {base g n c : Nat} {L : List α} {Z : List Value} (hE : E.Ok P) (h : OwR E w g n c L Z) (hb : base ≤ g) (m : Nat) (hm : m ≤ n) : LsO E w base (.slice (some ⟨g, 0, none⟩) m c) (L.take m) := by
  obtain ⟨h1, h2, h3, h4, h5⟩ := h
  have hl : (L.take m).length = m := by rw [List.length_take]; omega
  refine ⟨by rw [flatE_len hE], .inr ⟨g, c, (flatE E L ++ Z).toArray, by rw [hl], hb, h1, by rw [hl]; omega, h4, by simpa using h5, ?_⟩⟩
  rw [hl]
  simp only
  have hk : m * E.k ≤ (flatE E L).length := by rw [flatE_len hE, h2]; exact Nat.mul_le_mul_right _ hm
  rw [List.take_append_of_le_length hk, flatE_take hE L m (by omega)]
theorem OwR.ls {w : World} {g n c : Nat} {L : List α} {Z : List Value} (hE : E.Ok P) (h : OwR E w g n c L Z) (hf : ∀ x ∈ L, E.fit w x) : Ls E w (some ⟨g, 0, none⟩) n c L := by
  have h2 := h.hn
  have h0 := h.lso hE (Nat.zero_le g) n (Nat.le_refl _)
  rw [List.take_of_length_le (by omega)] at h0
  obtain ⟨a, cap, e, hl, -⟩ := h0.ls hE hf
  injection e with e1 e2 e3
  subst e1 e2 e3
  exact hl
theorem OwR.below {w w' : World} {g n c : Nat} {L : List α} {Z : List Value} (h : OwR E w g n c L Z) (hb : Below w.heap.size w w') : OwR E w' g n c L Z := ⟨h.row.below hb h.row.lt, h.hn, h.hnc, h.hcm, h.hl⟩
theorem OwR.upd {w w' : World} {g q n c : Nat} {L : List α} {Z : List Value} (h : OwR E w g n c L Z) (hu : Upd w w' q) (hg : g ≠ q) : OwR E w' g n c L Z := ⟨h.row.upd hu hg, h.hn, h.hnc, h.hcm, h.hl⟩
theorem flatE_set (hE : E.Ok P) (x : α) (Z : List Value) : ∀ (L : List α) (i : Nat), i < L.length → splice (flatE E L ++ Z) (i * E.k) (E.cells x) = flatE E (L.set i x) ++ Z
  | [], i, h => by simp at h
  | y :: L, 0, h => by
    simp only [List.set_cons_zero, flatE, List.flatMap_cons, splice, Nat.zero_mul, Nat.zero_add, List.take_zero, List.nil_append, List.append_assoc]
    rw [hE.len x, List.drop_left' (hE.len y)]
  | y :: L, i + 1, h => by
    have h3 := flatE_set hE x Z L i (by simpa using h)
    simp only [List.set_cons_succ, flatE, List.flatMap_cons, List.append_assoc] at h3 ⊢
    rw [← h3]
    unfold splice
    have e1 : (i + 1) * E.k = (E.cells y).length + i * E.k := by rw [hE.len, Nat.add_mul]; omega
    rw [e1, List.take_length_add_append, Nat.add_assoc, List.drop_length_add_append]
    simp only [List.append_assoc]
theorem flatE_tail (hE : E.Ok P) (L M : List α) (Z : List Value) (n m : Nat) (hL : L.length = n) (hm : m ≤ n) (hM : M.length = n - m) : splice (flatE E L ++ Z) (m * E.k) (flatE E M) = flatE E (L.take m ++ M) ++ Z := by
  unfold splice
  have h1 : m * E.k + (flatE E M).length = (flatE E L).length := by
    rw [flatE_len hE, flatE_len hE, hM, hL, ← Nat.add_mul]; congr 1; omega
  have h2 : (flatE E L ++ Z).take (m * E.k) = flatE E (L.take m) := by
    have hk : m * E.k ≤ (flatE E L).length := by rw [flatE_len hE, hL]; exact Nat.mul_le_mul_right _ hm
    rw [List.take_append_of_le_length hk, flatE_take hE L m (by omega)]
  rw [h2, h1, List.drop_left, flatE_app, List.append_assoc]
theorem made_flat (hE : E.Ok P) (x : α) (z : Array Value) (hz : z = (E.cells x).toArray) (n : Nat) : (madeCells z (n * z.size)).toList = flatE E (List.replicate n x) := by
  have hk : z.size = E.k := by rw [hz]; simp [hE.len]
  have hp := hE.pos
  apply List.ext_getElem?
  intro i
  by_cases hi : i < n * E.k
  · have h0 : i / E.k < n := Nat.div_lt_of_lt_mul (by rw [Nat.mul_comm]; exact hi)
    have hm := Nat.mod_lt i hp
    have hd : i / E.k * E.k + i % E.k = i := by rw [Nat.mul_comm]; exact Nat.div_add_mod i E.k
    have h1 := flatE_at hE (List.replicate n x) (i / E.k) (i % E.k) x (by simp [h0]) hm
    rw [hd] at h1
    rw [h1]
    have hx : i % E.k < (E.cells x).length := by rw [hE.len]; exact hm
    have hzl : i % z.size < z.size := by rw [hk]; exact hm
    simp only [madeCells, Array.getElem?_toList, Array.getElem?_map, Array.getElem?_range, hk, if_pos hi, Option.map_some]
    rw [getElem!_pos z _ (by rw [hk]; exact hm)]
    subst hz
    simp [hx]
  · have h2 : n * E.k ≤ i := by omega
    rw [List.getElem?_eq_none (by simp [size_madeCells, hk]; exact h2), List.getElem?_eq_none (by rw [flatE_len hE]; simpa using h2)]
theorem OwR.set {w w' : World} {g n c : Nat} {R : List α} {Z : List Value} (hE : E.Ok P) (h : OwR E w g n c R Z) (m : Nat) (e : α) (hm : m < n) (hr : Row w' g E.eT (splice (flatE E R ++ Z) (m * E.k) (E.cells e))) : OwR E w' g n c (R.set m e) Z := by
  obtain ⟨h1, h2, h3, h4, h5⟩ := h
  rw [flatE_set hE e Z R m (by omega)] at hr
  refine ⟨hr, by rw [List.length_set]; exact h2, h3, h4, ?_⟩
  simp only [List.length_append, flatE_len hE, List.length_set] at h5 ⊢
  exact h5
theorem OwR.clr {w w' : World} {g n c : Nat} {R : List α} {Z : List Value} (hE : E.Ok P) (h : OwR E w g n c R Z) (m p : Nat) (x : α) (z : Array Value) (hz : z = (E.cells x).toArray) (hp : n - m = p + 1) (hr : Row w' g E.eT (splice (flatE E R ++ Z) (m * E.k) (madeCells z ((p + 1) * z.size)).toList)) : OwR E w' g n c (R.take m ++ List.replicate (p + 1) x) Z := by
  obtain ⟨h1, h2, h3, h4, h5⟩ := h
  rw [made_flat hE x z hz (p + 1), flatE_tail hE R (List.replicate (p + 1) x) Z n m h2 (by omega) (by simp [hp])] at hr
  refine ⟨hr, by rw [List.length_append, List.length_take, List.length_replicate, h2]; omega, h3, h4, ?_⟩
  simp only [List.length_append, flatE_len hE, List.length_take, List.length_replicate, h2] at h5 ⊢
  rw [show min m n + (p + 1) = n by omega]; exact h5
theorem made_one (hE : E.Ok P) (x : α) (z : Array Value) (hz : z = (E.cells x).toArray) (n : Nat) : ∀ v ∈ (madeCells z (n * z.size)).toList, v.oneCell' = true := by
  rw [made_flat hE x z hz n]; exact flatE_one hE _
/-- APPEND of zeros to nothing (slices.Grow of nil): an empty list with room. -/
theorem append_zeros0 (hE : E.Ok P) {w : World} {ops : Array Oper} {rest : List Oper} {o : Oper} {a : Act} {Q : Exit → Act → World → Prop} (hgd : o.guard = none) (s x : Operand) (tn : TypeId) (kn : IntKind)
    (htn : P.underlying tn = some (.int kn))
    (ho : o.op = .call { callee := .builtin .append, args := #[s, x], argTypes := #[E.sT, tn] })
    (q : Nat) (X : Int) (hs : a.eval s = .slice none 0 0) (hx : a.eval x = .int .i64 X) (hX : X = (q : Int)) (hq0 : 0 < q) (hmax : q ≤ 1000000)
    (h : ∀ w' G, LsO E w' w.heap.size (.slice (some ⟨w.heap.size, 0, none⟩) 0 G) [] → q ≤ G → G ≤ maxLen → Below w.heap.size w w' → wpList P ops Q rest (a.put o.dst (.slice (some ⟨w.heap.size, 0, none⟩) q G)) w') : wpList P ops Q (o :: rest) a w := by
  subst hX
  obtain ⟨i0, hi, hz0, hz1, hz2⟩ := info_parts hE.info
  have hp := hE.pos
  have hsm := hE.small
  have hold : (Builtin.firstCells i0.size 0 (.slice none 0 0)).run P w.drew = .ok ([] : List Value).toArray w.drew := by simp [Builtin.firstCells]
  have hby : q * i0.bytes ≤ 1000000 * 4096 := by rw [hz2]; exact Nat.mul_le_mul hmax hsm
  have hrun := Lib.run_append_grow_zeros (P := P) w E.sT tn o.type E.eT i0 E.z .i64 kn hE.und htn hi hz0 none 0 0 [] hold q hq0 (by omega) (by omega) (by omega) (by omega) (growslice_fits (by rw [Nat.zero_add]; omega) (by rw [Nat.zero_add]; omega))
  refine wpList_plain hgd fun K hK => ?_
  unfold Oper.wp
  simp [execOp, ho, resolve, invoke, builtin, hs, hx, hrun, Result.andThen]
  have hge := grownCap_ge w q 0 E.eT
  have hcm := grownCap_le_maxLen w q 0 E.eT (by unfold maxLen; omega)
  refine hK _ _ (h _ (grownCap w q 0 E.eT) ⟨by simp [flatE], .inr ⟨w.heap.size, grownCap w q 0 E.eT, _, rfl, Nat.le_refl _, heap_alloc_new w.drew _, by simp, hcm, ?_, by simp [flatE]⟩⟩ hge hcm ((Below.refl _ _).drew.alloc (Nat.le_refl _) _))
  simp only [Array.size_append, size_zeroCells, hE.zs]
  rw [← Nat.add_mul]
  congr 1
  omega
-- ---- plain: what DeleteFunc keeps
theorem take_nextS (M : List α) (j : Nat) (q : α → Bool) (x : α) (hx : M[j]? = some x) : (M.take (j + 1)).filter q = (M.take j).filter q ++ (if q x then [x] else []) := by
  obtain ⟨h, e⟩ := List.getElem?_eq_some_iff.1 hx
  rw [List.take_succ_eq_append_getElem h, List.filter_append, e]
  congr 1
  cases hq : q x <;> simp [hq]
theorem all_keptS (M : List α) (k : Nat) (q : α → Bool) (h : ∀ i, i < k → ∀ x, M[i]? = some x → q x = true) : (M.take k).filter q = M.take k := by
  apply List.filter_eq_self.2
  intro x hx
  obtain ⟨i, hi, rfl⟩ := List.getElem_of_mem hx
  rw [List.length_take] at hi
  rw [List.getElem_take]
  exact h i (by omega) _ (List.getElem?_eq_getElem (by omega))
theorem drop_nextS {R M : List α} {j : Nat} (h : R.drop j = M.drop j) : R.drop (j + 1) = M.drop (j + 1) := by
  rw [← List.drop_drop, ← List.drop_drop, h]
theorem at_dropS {R M : List α} {j : Nat} (h : R.drop j = M.drop j) : R[j]? = M[j]? := by
  have := congrArg (fun l => l[0]?) h
  simpa only [List.getElem?_drop, Nat.add_zero] using this
theorem set_takeS (R : List α) (m : Nat) (e : α) (h : m < R.length) : (R.set m e).take (m + 1) = R.take m ++ [e] := by
  rw [List.take_succ_eq_append_getElem (by simpa using h)]
  simp [List.take_set_of_le]
theorem LsO.firstn {w : World} {base : Nat} {v : Value} {L : List α} (hE : E.Ok P) {a : Option Addr} {n c : Nat} (h : LsO E w base v L) (hv : v = .slice a n c) (m : Nat) (hm : m ≤ n) : LsO E w base (.slice a m c) (L.take m) := by
  rcases h.owr hE with ⟨e, rfl⟩ | ⟨g, c', Z, e, hb, ho⟩
  · rw [hv] at e
    injection e with e1 e2 e3
    subst e1 e2 e3
    obtain rfl : m = 0 := by omega
    exact LsO.nil _ _
  · rw [hv] at e
    injection e with e1 e2 e3
    subst e1 e2 e3
    exact ho.lso hE hb m hm
-- ---- plain: the first that .., and a list with one more ahead of it
def idxI (p : α → Bool) : List α → Int
  | [] => -1
  | x :: t => if p x = true then 0 else if idxI p t < 0 then -1 else idxI p t + 1
theorem idxI_no (p : α → Bool) : ∀ L : List α, (∀ (i : Nat) (x : α), L[i]? = some x → p x = false) → idxI p L = -1
  | [], _ => rfl
  | y :: t, h => by
    have h0 : p y = false := h 0 y rfl
    have h1 := idxI_no p t (fun i x hx => h (i + 1) x (by simpa using hx))
    simp [idxI, h0, h1]
theorem idxI_at (p : α → Bool) : ∀ (L : List α) (k : Nat) (x : α), L[k]? = some x → p x = true → (∀ i, i < k → ∀ y, L[i]? = some y → p y = false) → idxI p L = (k : Int)
  | [], k, x, h, _, _ => by simp at h
  | y :: t, 0, x, h, hp, _ => by
    simp at h; subst h; simp [idxI, hp]
  | y :: t, k + 1, x, h, hp, hb => by
    have h0 : p y = false := hb 0 (by omega) y rfl
    have h1 := idxI_at p t k x (by simpa using h) hp (fun i hi z hz => hb (i + 1) (by omega) z (by simpa using hz))
    simp only [idxI, h0, h1]
    rw [if_neg (by decide), if_neg (by omega)]; omega
theorem idxI_or (p : α → Bool) : ∀ L : List α, (idxI p L = -1 ∧ ∀ x ∈ L, p x = false) ∨ ∃ (k : Nat) (x : α), idxI p L = (k : Int) ∧ k < L.length ∧ L[k]? = some x ∧ p x = true ∧ ∀ i, i < k → ∀ y, L[i]? = some y → p y = false
  | [] => .inl ⟨rfl, by simp⟩
  | y :: t => by
    cases h : p y with
    | true => exact .inr ⟨0, y, by simp [idxI, h], by simp, rfl, h, fun i hi => absurd hi (Nat.not_lt_zero _)⟩
    | false =>
      rcases idxI_or p t with ⟨h1, h2⟩ | ⟨k, x, h1, h2, h3, h4, h5⟩
      · refine .inl ⟨by simp [idxI, h, h1], fun x hx => ?_⟩
        rcases List.mem_cons.1 hx with rfl | hx
        · exact h
        · exact h2 x hx
      · refine .inr ⟨k + 1, x, ?_, by simp; omega, by simpa using h3, h4, fun i hi z hz => ?_⟩
        · simp only [idxI, h, h1]
          rw [if_neg (by decide), if_neg (by omega)]; omega
        · cases i with
          | zero => simp at hz; rw [← hz]; exact h
          | succ i => exact h5 i (by omega) z (by simpa using hz)
def insP (p : α → Bool) (x : α) : List α → List α
  | [] => [x]
  | y :: t => if p y = true then x :: y :: t else y :: insP p x t
theorem insP_no (p : α → Bool) (x : α) : ∀ L : List α, (∀ y ∈ L, p y = false) → insP p x L = L ++ [x]
  | [], _ => rfl
  | y :: t, h => by
    have h0 : p y = false := h y (by simp)
    rw [insP, if_neg (by rw [h0]; decide), insP_no p x t (fun z hz => h z (by simp [hz]))]; rfl
theorem insP_at (p : α → Bool) (x : α) : ∀ (L : List α) (k : Nat) (y : α), L[k]? = some y → p y = true → (∀ i, i < k → ∀ y, L[i]? = some y → p y = false) → insP p x L = L.take k ++ [x] ++ L.drop k
  | [], k, y, h, _, _ => by simp at h
  | z :: t, 0, y, h, hp, _ => by
    simp at h; subst h; simp [insP, hp]
  | z :: t, k + 1, y, h, hp, hb => by
    have h0 : p z = false := hb 0 (by omega) z rfl
    have h1 := insP_at p x t k y (by simpa using h) hp (fun i hi u hu => hb (i + 1) (by omega) u (by simpa using hu))
    rw [insP, if_neg (by rw [h0]; decide), h1]; simp
theorem mem_insP (p : α → Bool) (x y : α) : ∀ L : List α, y ∈ insP p x L ↔ y = x ∨ y ∈ L
  | [] => by simp [insP]
  | z :: t => by
    have ih := mem_insP p x y t
    unfold insP
    split
    · simp
    · simp only [List.mem_cons, ih]
      constructor
      · rintro (h | h | h) <;> simp [h]
      · rintro (h | h | h) <;> simp [h]
theorem insP_len (p : α → Bool) (x : α) : ∀ L : List α, (insP p x L).length = L.length + 1
  | [] => rfl
  | z :: t => by
    have ih := insP_len p x t
    unfold insP
    split <;> simp [ih]
end Go.Proofs.YthbbiiegbddpdaaDoor.W
