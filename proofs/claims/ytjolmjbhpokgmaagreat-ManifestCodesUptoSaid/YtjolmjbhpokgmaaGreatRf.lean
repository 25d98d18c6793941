/- A REGION THAT DRAWS, BY FACTS: each operation owes a fact about its value that abides new blocks, out of the facts of those that it waits for; in whatever order they come up, at the end all facts hold. No operation writes an old block. No number of a dump. For XRf: lists of facts; one operation by what it gives. No number of a dump. -/
import Derived.Test.YtjolmjbhpokgmaaGreatTail
import Derived.Test.YtjolmjbhpokgmaaGreatLg
set_option linter.unusedSimpArgs false
set_option linter.unusedVariables false
namespace Go.Proofs.YtjolmjbhpokgmaaGreat.W
open Go Go.ChangeShapes Go.WideShapes Go.ChangeAt Go.RowKit

/-- the values of a region's operations, laid where they belong -/
def rfPut : List Oper → (Nat → Value) → Nat → Act → Act
  | [], _, _, a => a
  | o :: l, vs, k, a => rfPut l vs (k + 1) (a.put o.dst (vs k))
theorem rfPut_size0 (a : Act) (d : Option Tmp) (v : Value) : (a.put d v).tmps.size = a.tmps.size := by
  unfold Act.put; cases d <;> simp
theorem rfPut_defers0 (a : Act) (d : Option Tmp) (v : Value) : (a.put d v).defers = a.defers := by
  unfold Act.put; cases d <;> rfl
theorem rfPut_get0 (a : Act) (t : Tmp) (v : Value) (ht : t < a.tmps.size) : (a.put (some t) v).tmps.getD t undef = v := by
  simp [Act.put, Array.getD_eq_getD_getElem?, ht]
theorem rfPut_other0 (a : Act) (t s : Tmp) (v : Value) (hs : s ≠ t) : (a.put (some t) v).tmps.getD s undef = a.tmps.getD s undef := by
  simp only [Act.put, Array.getD_eq_getD_getElem?]
  rw [Array.getElem?_setIfInBounds_ne (fun h => hs h.symm)]
theorem rfPut_size (l : List Oper) (vs : Nat → Value) : ∀ k (a : Act), (rfPut l vs k a).tmps.size = a.tmps.size := by
  induction l with
  | nil => intro k a; rfl
  | cons o l ih => intro k a; show (rfPut l vs (k + 1) _).tmps.size = _; rw [ih, rfPut_size0]
theorem rfPut_defers (l : List Oper) (vs : Nat → Value) : ∀ k (a : Act), (rfPut l vs k a).defers = a.defers := by
  induction l with
  | nil => intro k a; rfl
  | cons o l ih => intro k a; show (rfPut l vs (k + 1) _).defers = _; rw [ih, rfPut_defers0]
theorem rfPut_not (vs : Nat → Value) : ∀ (l : List Oper) (D : List Tmp) (k : Nat) (a : Act) (t : Tmp), l.map (·.dst) = D.map some → t ∉ D → (rfPut l vs k a).tmps.getD t undef = a.tmps.getD t undef
  | [], _, _, _, _, _, _ => rfl
  | o :: l, [], _, _, _, h, _ => by simp at h
  | o :: l, s :: D, k, a, t, h, ht => by
    simp at h
    show (rfPut l vs (k + 1) _).tmps.getD t undef = _
    rw [rfPut_not vs l D (k + 1) _ t h.2 (fun hm => ht (by simp [hm])), h.1, rfPut_other0 _ _ _ _ (fun e => ht (by simp [e]))]
theorem rfPut_at (vs : Nat → Value) : ∀ (l : List Oper) (D : List Tmp) (k : Nat) (a : Act) (j : Nat), l.map (·.dst) = D.map some → D.Nodup → (∀ t ∈ D, t < a.tmps.size) → j < D.length → (rfPut l vs k a).tmps.getD (D.getD j 0) undef = vs (k + j)
  | [], [], _, _, _, _, _, _, hj => by simp at hj
  | [], _ :: _, _, _, _, h, _, _, _ => by simp at h
  | _ :: _, [], _, _, _, h, _, _, _ => by simp at h
  | o :: l, s :: D, k, a, 0, h, hn, hs, _ => by
    simp at h
    show (rfPut l vs (k + 1) _).tmps.getD s undef = _
    rw [rfPut_not vs l D (k + 1) _ s h.2 (List.nodup_cons.1 hn).1, h.1, rfPut_get0 _ _ _ (hs s (by simp))]
    rfl
  | o :: l, s :: D, k, a, j + 1, h, hn, hs, hj => by
    simp at h
    show (rfPut l vs (k + 1) _).tmps.getD (D.getD j 0) undef = _
    rw [rfPut_at vs l D (k + 1) _ j h.2 (List.nodup_cons.1 hn).2 (fun t ht => by rw [rfPut_size0]; exact hs t (by simp [ht])) (by simpa using hj)]
    congr 1
    omega
theorem act_ext {a b : Act} (h : a.tmps.size = b.tmps.size) (hd : a.defers = b.defers) (ht : ∀ t, a.tmps.getD t undef = b.tmps.getD t undef) : a = b := by
  obtain ⟨x, d⟩ := a
  obtain ⟨y, e⟩ := b
  dsimp only at h hd ht
  subst hd
  congr 1
  refine Array.ext h fun i h1 h2 => ?_
  have := ht i
  simpa [Array.getD_eq_getD_getElem?, h1, h2] using this
theorem nodup_getD {D : List Tmp} (hn : D.Nodup) {i j : Nat} (hi : i < D.length) (hj : j < D.length) (h : D.getD i 0 = D.getD j 0) : i = j := by
  have h1 : D.getD i 0 = D[i] := by simp [List.getD_eq_getElem?_getD, hi]
  have h2 : D.getD j 0 = D[j] := by simp [List.getD_eq_getElem?_getD, hj]
  rw [h1, h2] at h
  first | exact (List.Nodup.getElem_inj_iff hn).1 h | exact (List.getElem_inj hn).1 h | exact List.getElem_inj hn |>.mp h
section
variable {P : Program}
/-- what an operation may use: its own act's slots of those that it waits for, with their facts; all other slots as at the beginning -/
structure RfIn (l : List Oper) (D : List Tmp) (R : Nat → Value → World → Prop) (a : Act) (w0 : World) (o : Oper) (vs : Nat → Value) (b : Act) (w : World) : Prop where
  bel : Below w0.heap.size w0 w
  size : b.tmps.size = a.tmps.size
  dep : ∀ j, (o.after.any fun e => Region.binds .any e && e.on == j) = true → j < l.length → b.tmps.getD (D.getD j 0) undef = vs j ∧ R j (vs j) w
  old : ∀ t, t ∉ D → b.tmps.getD t undef = a.tmps.getD t undef
theorem region_facts {id : Nat} {Q : Exit → Act → World → Prop} {a : Act} {w : World} {l : List Oper} (hm : P.follows .mixedOrders = true) (hb : backB .any l.toArray = true)
    (D : List Tmp) (hD : l.map (·.dst) = D.map some) (hN : D.Nodup) (hlt : ∀ t ∈ D, t < a.tmps.size)
    (R : Nat → Value → World → Prop) (hR : ∀ i v w1 w2, R i v w1 → Below w1.heap.size w1 w2 → R i v w2)
    (hstep : ∀ i o, l[i]? = some o → ∀ (vs : Nat → Value) (b : Act) (w' : World), RfIn l D R a w.drew o vs b w' →
      ∀ K : Exit → Act → World → Prop, (∀ v w2, Below w'.heap.size w' w2 → R i v w2 → K .normal (b.put o.dst v) w2) → wpList P l.toArray K [o] b w')
    (hend : ∀ vs w', Below w.drew.heap.size w.drew w' → (∀ i, i < l.length → R i (vs i) w') → Q .normal (rfPut l vs 0 a) w') :
    (Code.region id l.toArray true).wp P Q a w := by
  have hlen : l.length = D.length := by have := congrArg List.length hD; simpa using this
  have hdst : ∀ i o, l[i]? = some o → o.dst = some (D.getD i 0) := fun i o ho => by
    have h1 := congrArg (fun z => z[i]?) hD
    have hi : i < D.length := by rw [← hlen]; exact (List.getElem?_eq_some_iff.1 ho).1
    simp only [List.getElem?_map, ho, Option.map_some, List.getElem?_eq_getElem hi, Option.some.injEq] at h1
    rw [h1]; simp [List.getD_eq_getElem?_getD, hi]
  refine wp_region_inv hm hb (fun a0 d b w' => a0 = a → b.defers = a.defers ∧ b.tmps.size = a.tmps.size ∧ Below w.drew.heap.size w.drew w' ∧ ∃ vs : Nat → Value, (∀ j, j < l.length → d.getD j false = true → b.tmps.getD (D.getD j 0) undef = vs j ∧ R j (vs j) w') ∧ (∀ t, (∀ j, j < l.length → d.getD j false = true → D.getD j 0 ≠ t) → b.tmps.getD t undef = a.tmps.getD t undef)) ?_ ?_ ?_
  · intro _
    refine ⟨rfl, rfl, Below.refl _ _, fun _ => undef, fun j hj h => ?_, fun t _ => rfl⟩
    simp [Array.getD_eq_getD_getElem?, hj] at h
  · intro d b w' i o hds hI ho hnd haft K hK
    obtain ⟨h1, h2, h3, vs, h4, h5⟩ := hI rfl
    have hil : i < l.length := (List.getElem?_eq_some_iff.1 ho).1
    have hid : i < d.size := by rw [hds]; exact hil
    have hdi := hdst i o ho
    refine hstep i o ho vs b w' ⟨h3, h2, fun j hj hjl => ?_, fun t ht => h5 t fun j hj _ e => ht ?_⟩ K fun v w2 hbel hRi => hK _ _ fun _ => ?_
    · obtain ⟨e, he, h⟩ := Array.any_eq_true'.1 hj
      simp only [Bool.and_eq_true, beq_iff_eq] at h
      have := haft e he h.1
      rw [h.2] at this
      exact h4 j hjl this
    · rw [← e]
      have hj2 : j < D.length := by rw [← hlen]; exact hj
      have : D.getD j 0 = D[j] := by simp [List.getD_eq_getElem?_getD, hj2]
      rw [this]; exact List.getElem_mem hj2
    · have hDi : D.getD i 0 < b.tmps.size := by
        rw [h2]
        have hi2 : i < D.length := by rw [← hlen]; exact hil
        have : D.getD i 0 = D[i] := by simp [List.getD_eq_getElem?_getD, hi2]
        rw [this]; exact hlt _ (List.getElem_mem hi2)
      rw [hdi]
      refine ⟨by rw [rfPut_defers0, h1], by rw [rfPut_size0, h2], h3.trans (hbel.mono h3.size), fun j => if j = i then v else vs j, fun j hj hd => ?_, fun t ht => ?_⟩
      · by_cases hji : j = i
        · subst hji
          dsimp only
          rw [if_pos rfl, rfPut_get0 _ _ _ hDi]
          exact ⟨rfl, hRi⟩
        · dsimp only
          rw [if_neg hji]
          have hd2 : d.getD j false = true := by
            have hq : (d.setIfInBounds i true).getD j false = d.getD j false := by
              simp only [Array.getD_eq_getD_getElem?]
              rw [Array.getElem?_setIfInBounds_ne (fun h => hji h.symm)]
            rw [← hq]; exact hd
          obtain ⟨q1, q2⟩ := h4 j hj hd2
          rw [rfPut_other0 _ _ _ _ (fun e => hji (nodup_getD hN (by omega) (by omega) e))]
          exact ⟨q1, hR j _ _ _ q2 hbel⟩
      · have hti : D.getD i 0 ≠ t := ht i hil (by simp [Array.getD_eq_getD_getElem?, hid])
        rw [rfPut_other0 _ _ _ _ (fun e => hti e.symm)]
        refine h5 t fun j hj hd => ht j hj ?_
        by_cases hji : j = i
        · subst hji; simp [Array.getD_eq_getD_getElem?, hid]
        · simp only [Array.getD_eq_getD_getElem?] at hd ⊢
          rw [Array.getElem?_setIfInBounds_ne (fun h => hji h.symm)]; exact hd
  · intro b w' hI
    obtain ⟨h1, h2, h3, vs, h4, h5⟩ := hI rfl
    have hall : ∀ j, j < l.length → (Array.replicate l.length true).getD j false = true := fun j hj => by simp [Array.getD_eq_getD_getElem?, hj]
    have hbe : b = rfPut l vs 0 a := by
      refine act_ext (by rw [rfPut_size, h2]) (by rw [rfPut_defers, h1]) fun t => ?_
      by_cases ht : t ∈ D
      · obtain ⟨j, hj, rfl⟩ := List.getElem_of_mem ht
        have hg : D.getD j 0 = D[j] := by simp [List.getD_eq_getElem?_getD, hj]
        have h6 := rfPut_at vs l D 0 a j hD hN hlt hj
        have h7 := (h4 j (by omega) (hall j (by omega))).1
        rw [hg] at h6 h7
        rw [h6, h7, Nat.zero_add]
      · rw [rfPut_not vs l D 0 a t hD ht]
        exact h5 t fun j hj _ e => ht (by
          have hj2 : j < D.length := by rw [← hlen]; exact hj
          rw [← e, show D.getD j 0 = D[j] by simp [List.getD_eq_getElem?_getD, hj2]]
          exact List.getElem_mem hj2)
    rw [hbe]
    exact hend vs w' h3 fun i hi => (h4 i hi (hall i hi)).2
end
end Go.Proofs.YtjolmjbhpokgmaaGreat.W

namespace Go.Proofs.YtjolmjbhpokgmaaGreat.W
open Go Go.ChangeShapes Go.WideShapes Go.ChangeAt Go.RowKit

def MonoL : List (Value → World → Prop) → Prop
  | [] => True
  | p :: ps => (∀ v w1 w2, p v w1 → Below w1.heap.size w1 w2 → p v w2) ∧ MonoL ps
theorem monoL_get : ∀ {Rl : List (Value → World → Prop)}, MonoL Rl → ∀ i v w1 w2, (Rl.getD i (fun _ _ => True)) v w1 → Below w1.heap.size w1 w2 → (Rl.getD i (fun _ _ => True)) v w2
  | [], _, _, _, _, _, _, _ => by simp
  | p :: ps, h, 0, v, w1, w2, h1, hb => h.1 v w1 w2 h1 hb
  | p :: ps, h, i + 1, v, w1, w2, h1, hb => monoL_get h.2 i v w1 w2 h1 hb
theorem ex_call {P : Program} {w : World} (b : Act) (o : Oper) (f : FuncId) (xs : Array Operand) (ts : Array TypeId) (ho : o.op = .call { callee := .value (.func f), args := xs, argTypes := ts }) (args : Array Value) (ha : xs.map b.eval = args) (hc : (callFunc f args).run P w = .ok (.enter f args) w) :
    (execOp b.eval o).run P w = .ok (.enter f args) w := by
  have hf : b.eval (.func f) = .func (.func f) #[] #[] := rfl
  unfold execOp
  simp only [ho]
  unfold resolve
  simp only [ha, hf]
  simp [invoke, go_sem, hc]
section
variable {P : Program} {ops : Array Oper} {o : Oper} {b : Act} {w : World} {K : Exit → Act → World → Prop}
theorem rf_val (hw : Region.wanted o (yielded ops b.tmps) = true) (v : Value) (hrun : (execOp b.eval o).run P w = .ok (.value v) w) (h : K .normal (b.put o.dst v) w) : wpList P ops K [o] b w := by
  refine wpList_step fun K' hK => ?_
  simp only [hw, if_true]
  unfold Oper.wp
  rw [hrun]
  exact hK _ _ h
theorem rf_call (hw : Region.wanted o (yielded ops b.tmps) = true) (f : FuncId) (args : Array Value) (hrun : (execOp b.eval o).run P w = .ok (.enter f args) w) (v : Value)
    (hc : Calls P f args w fun e w' => e = .returned v ∧ Below w.heap.size w w') (h : ∀ w', Below w.heap.size w w' → K .normal (b.put o.dst v) w') : wpList P ops K [o] b w := by
  refine wpList_step fun K' hK => ?_
  simp only [hw, if_true]
  unfold Oper.wp
  rw [hrun, Oper.upon_enter]
  refine hc.mono fun e w'' hh => ?_
  obtain ⟨rfl, hr⟩ := hh
  exact hK _ _ (h w'' hr)
theorem rf_make (hw : Region.wanted o (yielded ops b.tmps) = true) (v : Value) (w' : World) (hrun : (execOp b.eval o).run P w = .ok (.value v) w') (h : K .normal (b.put o.dst v) w') : wpList P ops K [o] b w := by
  refine wpList_step fun K' hK => ?_
  simp only [hw, if_true]
  unfold Oper.wp
  rw [hrun]
  exact hK _ _ h
end
end Go.Proofs.YtjolmjbhpokgmaaGreat.W
