/- A REGION THAT DRAWS, BY FACTS, where some operations write the region's own new blocks: facts of two kinds (pure ones abide anything above the region's start; facts of memory abide growth alone), and for an operation that writes the condition that every other fact of memory is waited for by that operation, or by one that it waits for, alone. No number of a dump. -/
import Derived.Test.YtpcpgodnhamdiaaRf
set_option linter.unusedSimpArgs false
set_option linter.unusedVariables false
namespace Go.Proofs.Ytpcpgodnhamdiaa.W
open Go Go.ChangeShapes Go.WideShapes Go.ChangeAt Go.RowKit

/-- operation k waits for operation j -/
def waits (l : List Oper) (k j : Nat) : Bool := match l[k]? with
  | some o => o.after.any fun e => Region.binds .any e && e.on == j
  | none => false
/-- what may be written when -/
def mayWrite (l : List Oper) (us : Nat → Nat → Bool) (pu fin wr : Nat → Bool) : Bool :=
  (List.range l.length).all fun i => !wr i || (List.range l.length).all fun j => j == i || pu j || waits l j i || (!fin j && (List.range l.length).all fun k => !(us k j && waits l k j) || k == i || waits l i k)
theorem mayWrite_spec {l : List Oper} {us : Nat → Nat → Bool} {pu fin wr : Nat → Bool} (h : mayWrite l us pu fin wr = true) {i j : Nat} (hi : i < l.length) (hj : j < l.length) (hw : wr i = true) (hji : j ≠ i) (hp : pu j = false) (hx : waits l j i = false) :
    fin j = false ∧ ∀ k, k < l.length → us k j = true → waits l k j = true → k = i ∨ waits l i k = true := by
  unfold mayWrite at h
  have h1 := List.all_eq_true.1 h i (List.mem_range.2 hi)
  rw [hw] at h1
  simp at h1
  have h3 := h1 j hj
  simp only [hp, hx, Bool.false_eq_true, or_false, false_or] at h3
  rcases h3 with h3 | h3
  · exact absurd h3 hji
  · refine ⟨by simpa using h3.1, fun k hk hku hkj => ?_⟩
    have h4 := h3.2 k hk
    rw [hku, hkj] at h4
    simpa using h4
section
variable {P : Program}
/-- what operation i may use: of those that it waits for, the facts of those that it is told to use -/
structure RfIn3 (l : List Oper) (D : List Tmp) (R : Nat → Value → World → Prop) (us : Nat → Nat → Bool) (a : Act) (w0 : World) (i : Nat) (o : Oper) (vs : Nat → Value) (b : Act) (w : World) : Prop where
  bel : Below w0.heap.size w0 w
  size : b.tmps.size = a.tmps.size
  dep : ∀ j, us i j = true → (o.after.any fun e => Region.binds .any e && e.on == j) = true → j < l.length → b.tmps.getD (D.getD j 0) undef = vs j ∧ R j (vs j) w
  old : ∀ t, t ∉ D → b.tmps.getD t undef = a.tmps.getD t undef
  /-- what is written by operations alone that wait for this one -/
  old2 : ∀ t, (∀ j, j < l.length → D.getD j 0 = t → waits l j i = true) → b.tmps.getD t undef = a.tmps.getD t undef
theorem region_facts2 {id : Nat} {Q : Exit → Act → World → Prop} {a : Act} {w : World} {l : List Oper} (hm : P.follows .mixedOrders = true) (hb : backB .any l.toArray = true)
    (D : List Tmp) (hD : l.map (·.dst) = D.map some) (hN : D.Nodup) (hlt : ∀ t ∈ D, t < a.tmps.size)
    (R : Nat → Value → World → Prop) (us : Nat → Nat → Bool) (pu fin wr : Nat → Bool) (hok : mayWrite l us pu fin wr = true)
    (hP : ∀ i v w1 w2, pu i = true → R i v w1 → Below w.drew.heap.size w1 w2 → R i v w2)
    (hR : ∀ i v w1 w2, R i v w1 → Below w1.heap.size w1 w2 → R i v w2)
    (hstep : ∀ i o, l[i]? = some o → ∀ (vs : Nat → Value) (b : Act) (w' : World), RfIn3 l D R us a w.drew i o vs b w' →
      ∀ K : Exit → Act → World → Prop, (∀ v w2, (wr i = false → Below w'.heap.size w' w2) → Below w.drew.heap.size w' w2 → R i v w2 → K .normal (b.put o.dst v) w2) → wpList P l.toArray K [o] b w')
    (hend : ∀ vs w', Below w.drew.heap.size w.drew w' → (∀ i, i < l.length → (pu i || fin i) = true → R i (vs i) w') → Q .normal (rfPut l vs 0 a) w') :
    (Code.region id l.toArray true).wp P Q a w := by
  have hlen : l.length = D.length := by have := congrArg List.length hD; simpa using this
  have hdst : ∀ i o, l[i]? = some o → o.dst = some (D.getD i 0) := fun i o ho => by
    have h1 := congrArg (fun z => z[i]?) hD
    have hi : i < D.length := by rw [← hlen]; exact (List.getElem?_eq_some_iff.1 ho).1
    simp only [List.getElem?_map, ho, Option.map_some, List.getElem?_eq_getElem hi, Option.some.injEq] at h1
    rw [h1]; simp [List.getD_eq_getElem?_getD, hi]
  refine wp_region_inv hm hb (fun a0 d b w' => a0 = a → b.defers = a.defers ∧ b.tmps.size = a.tmps.size ∧ Below w.drew.heap.size w.drew w' ∧ (∀ j k, k < l.length → d.getD j false = true → waits l j k = true → d.getD k false = true) ∧
    ∃ vs : Nat → Value, (∀ j, j < l.length → d.getD j false = true → b.tmps.getD (D.getD j 0) undef = vs j ∧ ((pu j = true ∨ fin j = true ∨ ∃ k, k < l.length ∧ d.getD k false = false ∧ us k j = true ∧ waits l k j = true) → R j (vs j) w')) ∧ (∀ t, (∀ j, j < l.length → d.getD j false = true → D.getD j 0 ≠ t) → b.tmps.getD t undef = a.tmps.getD t undef)) ?_ ?_ ?_
  · intro _
    refine ⟨rfl, rfl, Below.refl _ _, fun j k hk h _ => ?_, fun _ => undef, fun j hj h => ?_, fun t _ => rfl⟩
    · by_cases hj : j < l.length
      · simp [Array.getD_eq_getD_getElem?, hj] at h
      · simp [Array.getD_eq_getD_getElem?, hj] at h
    · simp [Array.getD_eq_getD_getElem?, hj] at h
  · intro d b w' i o hds hI ho hnd haft K hK
    obtain ⟨h1, h2, h3, h7, vs, h4, h5⟩ := hI rfl
    have hil : i < l.length := (List.getElem?_eq_some_iff.1 ho).1
    have hid : i < d.size := by rw [hds]; exact hil
    have hdi := hdst i o ho
    have hwi : ∀ j, waits l i j = (o.after.any fun e => Region.binds .any e && e.on == j) := fun j => by unfold waits; rw [ho]
    have hndi : d.getD i false = false := by simpa [Array.getD_eq_getD_getElem?, hid] using hnd
    have hdone : ∀ j, waits l i j = true → d.getD j false = true := fun j hj => by
      rw [hwi] at hj
      obtain ⟨e, he, h⟩ := Array.any_eq_true'.1 hj
      simp only [Bool.and_eq_true, beq_iff_eq] at h
      have := haft e he h.1
      rw [h.2] at this
      exact this
    have hset : ∀ j, j ≠ i → (d.setIfInBounds i true).getD j false = d.getD j false := fun j hji => by
      simp only [Array.getD_eq_getD_getElem?]
      rw [Array.getElem?_setIfInBounds_ne (fun h => hji h.symm)]
    have hseti : (d.setIfInBounds i true).getD i false = true := by simp [Array.getD_eq_getD_getElem?, hid]
    refine hstep i o ho vs b w' ⟨h3, h2, fun j hju hj hjl => ?_, fun t ht => h5 t fun j hj _ e => ht ?_, fun t ht => h5 t fun j hj hd e => by have h8 := h7 j i hil hd (ht j hj e); rw [hndi] at h8; cases h8⟩ K fun v w2 hgr hbel hRi => hK _ _ fun _ => ?_
    · rw [← hwi] at hj
      obtain ⟨q1, q2⟩ := h4 j hjl (hdone j hj)
      exact ⟨q1, q2 (.inr (.inr ⟨i, hil, hndi, hju, hj⟩))⟩
    · rw [← e]
      have hj2 : j < D.length := by rw [← hlen]; exact hj
      have : D.getD j 0 = D[j] := by simp [List.getD_eq_getElem?_getD, hj2]
      rw [this]; exact List.getElem_mem hj2
    · have hDi : D.getD i 0 < b.tmps.size := by
        rw [h2]
        have hi2 : i < D.length := by rw [← hlen]; exact hil
        have : D.getD i 0 = D[i] := by simp [List.getD_eq_getElem?_getD, hi2]
        rw [this]; exact hlt _ (List.getElem_mem hi2)
      rw [hdi]
      refine ⟨by rw [rfPut_defers0, h1], by rw [rfPut_size0, h2], h3.trans hbel, fun j k hk hj hjk => ?_, fun j => if j = i then v else vs j, fun j hj hd => ?_, fun t ht => ?_⟩
      · by_cases hki : k = i
        · rw [hki]; exact hseti
        · rw [hset k hki]
          by_cases hji : j = i
          · subst hji; exact hdone k hjk
          · rw [hset j hji] at hj
            exact h7 j k hk hj hjk
      · by_cases hji : j = i
        · subst hji
          dsimp only
          rw [if_pos rfl, rfPut_get0 _ _ _ hDi]
          exact ⟨rfl, fun _ => hRi⟩
        · dsimp only
          rw [if_neg hji]
          rw [hset j hji] at hd
          obtain ⟨q1, q2⟩ := h4 j hj hd
          rw [rfPut_other0 _ _ _ _ (fun e => hji (nodup_getD hN (by omega) (by omega) e))]
          refine ⟨q1, fun hlive => ?_⟩
          have hlive0 : pu j = true ∨ fin j = true ∨ ∃ k, k < l.length ∧ k ≠ i ∧ d.getD k false = false ∧ us k j = true ∧ waits l k j = true := by
            rcases hlive with h | h | ⟨k, hk, hkd, hku, hkw⟩
            · exact .inl h
            · exact .inr (.inl h)
            · have hki : k ≠ i := by rintro rfl; rw [hseti] at hkd; cases hkd
              rw [hset k hki] at hkd
              exact .inr (.inr ⟨k, hk, hki, hkd, hku, hkw⟩)
          have hRj : R j (vs j) w' := q2 (by
            rcases hlive0 with h | h | ⟨k, hk, -, hkd, hku, hkw⟩
            · exact .inl h
            · exact .inr (.inl h)
            · exact .inr (.inr ⟨k, hk, hkd, hku, hkw⟩))
          cases hpu : pu j with
          | true => exact hP j _ _ _ hpu hRj hbel
          | false =>
            cases hwr : wr i with
            | false => exact hR j _ _ _ hRj (hgr hwr)
            | true =>
              exfalso
              cases hji2 : waits l j i with
              | true =>
                have := h7 j i hil hd hji2
                rw [hndi] at this; cases this
              | false =>
                obtain ⟨hf, hk⟩ := mayWrite_spec hok hil hj hwr hji hpu hji2
                rcases hlive0 with h | h | ⟨k, hkl, hki, hkd, hku, hkw⟩
                · rw [hpu] at h; cases h
                · rw [hf] at h; cases h
                · rcases hk k hkl hku hkw with h | h
                  · exact hki h
                  · have := hdone k h
                    rw [hkd] at this; cases this
      · have hti : D.getD i 0 ≠ t := ht i hil hseti
        rw [rfPut_other0 _ _ _ _ (fun e => hti e.symm)]
        refine h5 t fun j hj hd => ht j hj ?_
        by_cases hji : j = i
        · subst hji; exact hseti
        · rw [hset j hji]; exact hd
  · intro b w' hI
    obtain ⟨h1, h2, h3, -, vs, h4, h5⟩ := hI rfl
    have hall : ∀ j, j < l.length → (Array.replicate l.length true).getD j false = true := fun j hj => by simp [Array.getD_eq_getD_getElem?, hj]
    have hbe : b = rfPut l vs 0 a := by
      refine act_ext (by rw [rfPut_size, h2]) (by rw [rfPut_defers, h1]) fun t => ?_
      by_cases ht : t ∈ D
      · obtain ⟨j, hj, rfl⟩ := List.getElem_of_mem ht
        have hg : D.getD j 0 = D[j] := by simp [List.getD_eq_getElem?_getD, hj]
        have h6 := rfPut_at vs l D 0 a j hD hN hlt hj
        have h7 := (h4 j (by omega) (hall j (by omega))).1
        rw [hg] at h6 h7
        rw [h6, h7, Nat.zero_add]
      · rw [rfPut_not vs l D 0 a t hD ht]
        exact h5 t fun j hj _ e => ht (by
          have hj2 : j < D.length := by rw [← hlen]; exact hj
          rw [← e, show D.getD j 0 = D[j] by simp [List.getD_eq_getElem?_getD, hj2]]
          exact List.getElem_mem hj2)
    rw [hbe]
    refine hend vs w' h3 fun i hi hpf => (h4 i hi (hall i hi)).2 ?_
    simp only [Bool.or_eq_true] at hpf
    rcases hpf with h | h
    · exact .inl h
    · exact .inr (.inl h)
end
end Go.Proofs.Ytpcpgodnhamdiaa.W
