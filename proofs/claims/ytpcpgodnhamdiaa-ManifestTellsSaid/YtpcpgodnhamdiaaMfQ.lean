/- LAYER 20 (manifest): what the two make of sums is the same. -/
import Derived.Test.YtpcpgodnhamdiaaMfP
set_option linter.unusedSimpArgs false
set_option linter.unusedVariables false
namespace Go.Proofs.Ytpcpgodnhamdiaa.W
open Go Go.ChangeShapes Go.WideShapes Go.ChangeAt Go.RowKit

theorem bl_trans : ∀ (x y z : List UInt8), Op.bytesLess x y = true → Op.bytesLess y z = true → Op.bytesLess x z = true
  | [], [], z, h, _ => by simp [Op.bytesLess] at h
  | [], _ :: _, [], _, h => by simp [Op.bytesLess] at h
  | [], _ :: _, _ :: _, _, _ => by simp [Op.bytesLess]
  | _ :: _, [], _, h, _ => by simp [Op.bytesLess] at h
  | _ :: _, _ :: _, [], _, h => by simp [Op.bytesLess] at h
  | a :: x, b :: y, c :: z, h, k => by
    simp only [Op.bytesLess, Bool.or_eq_true, decide_eq_true_eq, Bool.and_eq_true, beq_iff_eq] at h k ⊢
    rcases h with h | ⟨rfl, h⟩
    · rcases k with k | ⟨rfl, k⟩
      · exact .inl (show a.toNat < c.toNat from Nat.lt_trans (show a.toNat < b.toNat from h) (show b.toNat < c.toNat from k))
      · exact .inl h
    · rcases k with k | ⟨rfl, k⟩
      · exact .inl k
      · exact .inr ⟨rfl, bl_trans x y z h k⟩
theorem bl_lt : ∀ (x y : List UInt8), x < y ↔ Op.bytesLess x y = true
  | [], [] => by simp [Op.bytesLess]
  | [], _ :: _ => by simp [Op.bytesLess]
  | _ :: _, [] => by simp [Op.bytesLess]
  | a :: x, b :: y => by
    rw [List.cons_lt_cons_iff, bl_lt x y]
    simp only [Op.bytesLess, Bool.or_eq_true, decide_eq_true_eq, Bool.and_eq_true, beq_iff_eq]
theorem bl_le (x y : List UInt8) : decide (x ≤ y) = !Op.bytesLess y x := by
  have h := bl_lt y x
  rw [Bool.eq_iff_iff, decide_eq_true_eq, ← List.not_lt, h]
  simp
theorem ltM_data (a b : ByteArray) : ltM a b = Op.bytesLess a.data.toList b.data.toList := by unfold ltM; rw [ByteArray.toList_eq, ByteArray.toList_eq]
theorem ltM_trans {a b c : ByteArray} (h : ltM a b = true) (k : ltM b c = true) : ltM a c = true := bl_trans _ _ _ h k
/-- strictly rising -/
def SSM (L : List ByteArray) : Prop := L.Pairwise (fun a b => ltM a b = true)
theorem ssm_ext : ∀ (L M : List ByteArray), SSM L → SSM M → (∀ x, x ∈ L ↔ x ∈ M) → L = M
  | [], [], _, _, _ => rfl
  | [], y :: M, _, _, h => by have := (h y).2 (List.mem_cons_self ..); cases this
  | x :: L, [], _, _, h => by have := (h x).1 (List.mem_cons_self ..); cases this
  | x :: L, y :: M, hl, hm, h => by
    obtain ⟨l1, l2⟩ := List.pairwise_cons.1 hl
    obtain ⟨m1, m2⟩ := List.pairwise_cons.1 hm
    have hxy : x = y := by
      rcases List.mem_cons.1 ((h x).1 (List.mem_cons_self ..)) with e | e
      · exact e
      · rcases List.mem_cons.1 ((h y).2 (List.mem_cons_self ..)) with e2 | e2
        · exact e2.symm
        · have h1 := m1 x e
          have h2 := l1 y e2
          rw [ltM_asym h1] at h2; cases h2
    subst hxy
    rw [ssm_ext L M l2 m2 (fun z => ⟨fun hz => by
      rcases List.mem_cons.1 ((h z).1 (List.mem_cons_of_mem _ hz)) with e | e
      · have := l1 z hz; rw [e, ltM_self] at this; cases this
      · exact e, fun hz => by
      rcases List.mem_cons.1 ((h z).2 (List.mem_cons_of_mem _ hz)) with e | e
      · have := m1 z hz; rw [e, ltM_self] at this; cases this
      · exact e⟩)]
-- ---- the reference
theorem pos_spec (s : ByteArray) : ∀ L : List ByteArray, (∀ x ∈ L.take (posM s L), ltM x s = true) ∧ (∀ y, L[posM s L]? = some y → ltM y s = false)
  | [] => ⟨fun x h => by simp at h, fun y h => by simp [posM] at h⟩
  | x :: L => by
    cases h : ltM x s with
    | true =>
      obtain ⟨h1, h2⟩ := pos_spec s L
      refine ⟨fun y hy => ?_, fun y hy => ?_⟩
      · simp only [posM, h, if_true, List.take_succ_cons] at hy
        rcases List.mem_cons.1 hy with rfl | hy
        · exact h
        · exact h1 y hy
      · simp only [posM, h, if_true, List.getElem?_cons_succ] at hy
        exact h2 y hy
    | false =>
      refine ⟨fun y hy => by simp [posM, h] at hy, fun y hy => by simp [posM, h] at hy; rw [← hy]; exact h⟩
theorem ssm_ins {L : List ByteArray} (s : ByteArray) (hL : SSM L) : SSM (insM L s) ∧ ∀ x, x ∈ insM L s ↔ x ∈ L ∨ x = s := by
  obtain ⟨h1, h2⟩ := pos_spec s L
  obtain ⟨k, hk⟩ : ∃ k, posM s L = k := ⟨_, rfl⟩
  rw [hk] at h1 h2
  have key : (∀ y ∈ L.drop k, ltM s y = true) → SSM (L.take k ++ [s] ++ L.drop k) ∧ ∀ x, x ∈ L.take k ++ [s] ++ L.drop k ↔ x ∈ L ∨ x = s := fun hd => by
    have hp : (L.take k ++ L.drop k).Pairwise (fun a b => ltM a b = true) := by rw [List.take_append_drop]; exact hL
    obtain ⟨p1, p2, p3⟩ := List.pairwise_append.1 hp
    refine ⟨List.pairwise_append.2 ⟨List.pairwise_append.2 ⟨p1, List.pairwise_singleton _ _, fun a ha b hb => by rw [List.mem_singleton.1 hb]; exact h1 a ha⟩, p2, fun a ha b hb => ?_⟩, fun x => ?_⟩
    · rcases List.mem_append.1 ha with ha | ha
      · exact p3 a ha b hb
      · rw [List.mem_singleton.1 ha]; exact hd b hb
    · have hx : x ∈ L ↔ x ∈ L.take k ∨ x ∈ L.drop k := by rw [← List.mem_append, List.take_append_drop]
      rw [hx]
      simp only [List.mem_append, List.mem_singleton]
      constructor
      · rintro ((h | h) | h)
        · exact .inl (.inl h)
        · exact .inr h
        · exact .inl (.inr h)
      · rintro ((h | h) | h)
        · exact .inl (.inl h)
        · exact .inr h
        · exact .inl (.inr h)
  unfold insM
  rw [hk]
  cases hq : L[k]? with
  | none =>
    dsimp only
    refine key (fun y hy => ?_)
    have : L.length ≤ k := List.getElem?_eq_none_iff.1 hq
    rw [List.drop_of_length_le this] at hy; cases hy
  | some y =>
    dsimp only
    have hy := h2 y hq
    cases he : eqM y s with
    | true =>
      have := (eqM_iff y s).1 he
      subst this
      simp only [if_true]
      exact ⟨hL, fun x => ⟨.inl, fun h => by rcases h with h | rfl; exact h; exact List.mem_of_getElem? hq⟩⟩
    | false =>
      simp only [Bool.false_eq_true, if_false]
      have hsy : ltM s y = true := ltM_total hy (eqM_ne.1 he)
      refine key (fun z hz => ?_)
      obtain ⟨hk1, hk2⟩ := List.getElem?_eq_some_iff.1 hq
      rw [List.drop_eq_getElem_cons hk1, hk2] at hz
      rcases List.mem_cons.1 hz with rfl | hz
      · exact hsy
      · have hp : (L.drop k).Pairwise (fun a b => ltM a b = true) := List.Pairwise.sublist (List.drop_sublist _ _) hL
        rw [List.drop_eq_getElem_cons hk1, hk2] at hp
        exact ltM_trans hsy ((List.pairwise_cons.1 hp).1 z hz)
theorem ssm_fold : ∀ (M A : List ByteArray), SSM A → SSM (M.foldl insM A) ∧ ∀ x, x ∈ M.foldl insM A ↔ x ∈ A ∨ x ∈ M
  | [], A, h => ⟨h, fun x => by simp⟩
  | s :: M, A, h => by
    obtain ⟨h1, h2⟩ := ssm_ins s h
    obtain ⟨h3, h4⟩ := ssm_fold M _ h1
    refine ⟨h3, fun x => ?_⟩
    rw [List.foldl_cons, h4, h2, List.mem_cons]
    constructor
    · rintro ((h | h) | h)
      · exact .inl h
      · exact .inr (.inl h)
      · exact .inr (.inr h)
    · rintro (h | h | h)
      · exact .inl (.inl h)
      · exact .inl (.inr h)
      · exact .inr h
-- ---- the program
theorem compact_spec (zs : List (List UInt8)) (hs : zs.Pairwise (fun a b => Op.bytesLess b a = false)) : ∀ m, m ≤ zs.length →
    (Lib.compactUpTo zs.toArray m).Pairwise (fun a b => Op.bytesLess a b = true) ∧ ∀ x, x ∈ Lib.compactUpTo zs.toArray m ↔ x ∈ zs.take m
  | 0, _ => by
    have : Lib.compactUpTo zs.toArray 0 = [] := by simp [Lib.compactUpTo]
    rw [this]
    exact ⟨List.Pairwise.nil, fun x => by simp⟩
  | m + 1, hm => by
    obtain ⟨h1, h2⟩ := compact_spec zs hs m (by omega)
    have hml : m < zs.length := by omega
    have hd : zs.toArray[m]! = zs[m] := by simp [hml]
    rw [Lib.compactUpTo_succ, List.take_succ_eq_append_getElem hml, hd]
    have hpw := List.pairwise_iff_getElem.1 hs
    by_cases hz : m = 0
    · subst hz
      have hk : Lib.keeps zs.toArray 0 = true := by simp [Lib.keeps]
      have h0 : Lib.compactUpTo zs.toArray 0 = [] := by simp [Lib.compactUpTo]
      rw [hk, h0]
      simp
    · have hd2 : zs.toArray[m - 1]! = zs[m - 1] := by simp [show m - 1 < zs.length by omega]
      by_cases he : zs[m] = zs[m - 1]
      · have hk : Lib.keeps zs.toArray m = false := Lib.keeps_neg (by omega) (by rw [hd, hd2, he])
        rw [hk]
        simp only [Bool.false_eq_true, if_false, List.append_nil]
        refine ⟨h1, fun x => ?_⟩
        rw [h2, List.mem_append, List.mem_singleton]
        refine ⟨.inl, fun h => ?_⟩
        rcases h with h | rfl
        · exact h
        · rw [he]
          exact List.mem_take_iff_getElem.2 ⟨m - 1, by omega, rfl⟩
      · have hk : Lib.keeps zs.toArray m = true := Lib.keeps_pos (by rw [hd, hd2]; exact he)
        rw [hk]
        simp only [if_true]
        have hlt : Op.bytesLess zs[m - 1] zs[m] = true := by
          have := hpw (m - 1) m (by omega) hml (by omega)
          exact ml_total _ _ this he
        refine ⟨List.pairwise_append.2 ⟨h1, List.pairwise_singleton _ _, fun a ha b hb => ?_⟩, fun x => by rw [List.mem_append, List.mem_append, h2]⟩
        rw [List.mem_singleton.1 hb]
        obtain ⟨i, hi, rfl⟩ := List.mem_take_iff_getElem.1 ((h2 a).1 ha)
        have hi' : i < m := by omega
        by_cases hie : i = m - 1
        · subst hie; exact hlt
        · have h3 := hpw i (m - 1) (by omega) (by omega) (by omega)
          by_cases h4 : zs[i] = zs[m - 1]
          · rw [h4]; exact hlt
          · exact bl_trans _ _ _ (ml_total _ _ h3 (fun e => h4 e.symm)) hlt
theorem needs_spec (L : List ByteArray) : SSM (compactM (sortM L)) ∧ ∀ x, x ∈ compactM (sortM L) ↔ x ∈ L := by
  have hb : ∀ ss, byL (ofL ss) = ss := fun ss => by
    unfold byL ofL
    rw [List.map_map]
    have : ((fun b : ByteArray => b.data.toList) ∘ fun s : List UInt8 => (⟨s.toArray⟩ : ByteArray)) = id := by funext s; rfl
    rw [this, List.map_id]
  unfold compactM sortM
  rw [hb]
  obtain ⟨S, hS⟩ : ∃ S, (byL L).mergeSort (fun x y => decide (x ≤ y)) = S := ⟨_, rfl⟩
  have hsort : S.Pairwise (fun a b => Op.bytesLess b a = false) := by
    rw [← hS]
    refine List.Pairwise.imp ?_ (List.pairwise_mergeSort (le := fun x y : List UInt8 => decide (x ≤ y)) ?_ ?_ _)
    · intro a b h
      rw [bl_le] at h
      simpa using h
    · intro a b c h1 h2
      rw [bl_le] at h1 h2 ⊢
      simp only [Bool.not_eq_true'] at h1 h2 ⊢
      cases hca : Op.bytesLess c a with
      | false => rfl
      | true =>
        by_cases hab : a = b
        · subst hab; rw [hca] at h2; cases h2
        · have h3 := ml_total b a h1 (fun e => hab e.symm)
          rw [bl_trans c a b hca h3] at h2; cases h2
    · intro a b
      rw [bl_le, bl_le]
      cases h : Op.bytesLess b a with
      | false => simp
      | true => simp [ml_asym _ _ h]
  have hmem : ∀ x, x ∈ S ↔ x ∈ byL L := fun x => by rw [← hS]; exact (List.mergeSort_perm _ _).mem_iff
  rw [hS]
  obtain ⟨h1, h2⟩ := compact_spec S hsort S.length (Nat.le_refl _)
  rw [List.take_length] at h2
  refine ⟨?_, fun x => ?_⟩
  · unfold SSM ofL
    rw [List.pairwise_map]
    exact List.Pairwise.imp (fun {a b} h => by rw [ltM_data]; exact h) h1
  · unfold ofL
    constructor
    · intro h
      obtain ⟨y, hy, rfl⟩ := List.mem_map.1 h
      have := (hmem y).1 ((h2 y).1 hy)
      unfold byL at this
      obtain ⟨b, hb, rfl⟩ := List.mem_map.1 this
      exact hb
    · intro h
      refine List.mem_map.2 ⟨x.data.toList, (h2 _).2 ((hmem _).2 (List.mem_map.2 ⟨x, h, rfl⟩)), rfl⟩
theorem needs_same (L : List Sn) : needsM L = needsR (sumsM L) := by
  obtain ⟨h1, h2⟩ := needs_spec (sumsM L)
  obtain ⟨h3, h4⟩ := ssm_fold (sumsM L) [] List.Pairwise.nil
  refine ssm_ext _ _ h1 h3 (fun x => ?_)
  unfold needsM needsR
  rw [h2, h4]
  simp
end Go.Proofs.Ytpcpgodnhamdiaa.W
