/- A REGION THAT DRAWS ITS ORDER, its first n operations quiet in a class of worlds, the rest forced and last: one walk in the text's order serves every order. (The library has this for operations that leave the very world; here calls may draw.) No number of a dump. REGIONS THAT DRAW THEIR ORDER, in which calls make memory (their answers hang on the world) and other operations only read what stays: the reads are taken first, whichever they are; the others come up one by one. No number of a dump. -/
import Derived.StillTail
import Derived.Great.BuildSlice
import Derived.Deep.QuietTactic
import Derived.Deep.RegionHeld3
set_option linter.unusedSimpArgs false
set_option linter.unusedVariables false
namespace Go.Proofs.YtkfhppbmnjmnoaaGreatDoor.W
open Go

section
variable {P : Program} {ops : Array Oper} {md : Region.Mode} {C : World → Prop}
/-- the head, in whatever order; L holds where it has been done -/
def anyHead (P : Program) (md : Region.Mode) (ops : Array Oper) (C : World → Prop) (n : Nat) (L : Array Bool → Act → Prop) : Nat → Array Bool → Act → Prop
  | 0, done, a => L done a
  | k + 1, done, a => Region.ready md ops done ≠ [] ∧ ∀ i ∈ Region.ready md ops done, i < n ∧ qOp P ops C i (anyHead P md ops C n L k (done.setIfInBounds i true)) a

theorem anyHead_any {n m : Nat} {L : Array Bool → Act → Prop} {Q : Exit → Act → World → Prop} (hL : ∀ done a w, C w → L done a → wpAny P md ops Q m done a w) :
    ∀ (k : Nat) (done : Array Bool) (a : Act) (w : World), C w → anyHead P md ops C n L k done a → wpAny P md ops Q (k + m) done a w := by
  intro k
  induction k with
  | zero => intro done a w hw h; rw [Nat.zero_add]; exact hL _ _ _ hw h
  | succ k ih =>
    intro done a w hw h
    rw [show k + 1 + m = (k + m) + 1 by omega]
    exact ⟨fun e => absurd e h.1, fun i hi => wpOp_of_qOp hw (fun a' w' hw' h' => ih _ a' w' hw' h') (h.2 i hi).2⟩

theorem anyHead_first {n i : Nat} {oi : Oper} {v : Value} {L : Array Bool → Act → Prop} (hi : ops[i]? = some oi) (hsel : ∀ (j : Nat) (o : Oper) cs b, ops[j]? = some o → o.op ≠ .select cs b)
    (hs : Region.sinkB md ops n = true) (hc : Region.chainB md ops n = true) (hn : n < ops.size) (hin : i < n) (hdone : ∀ done a, L done a → ∀ j ∈ Region.ready md ops done, n ≤ j) (k : Nat) :
    ∀ (done : Array Bool) (a : Act), HeadInv md ops n done →
      (∀ j oj, ops[j]? = some oj → j ≠ i → done.getD j true = false → (∀ e ∈ oj.after, Region.binds md e = true → e.on ≠ i) → oi.apart ops oj = true) →
      i ∈ Region.ready md ops done → YieldsIn P ops C oi v a →
      anyHead P md ops C n L k (done.setIfInBounds i true) (a.put oi.dst v) → anyHead P md ops C n L (k + 1) done a := by
  induction k with
  | zero =>
    intro done a inv _ hr hy H
    have hun := (mem_ready.1 hr).1
    refine ⟨(fun e => by rw [e] at hr; cases hr), fun j hj => ?_⟩
    have hjn : j < n := (Nat.lt_or_ge j n).resolve_right fun h => tail_waits hs hc hn inv _ i rfl hin hun j h hj
    refine ⟨hjn, ?_⟩
    by_cases e : j = i
    · subst e; exact hy.qOp hi H
    · have := hdone _ _ H j (ready_mono hj e); omega
  | succ k ih =>
    intro done a inv hfree hr hy H
    have hun := (mem_ready.1 hr).1
    refine ⟨(fun e => by rw [e] at hr; cases hr), fun j hj => ?_⟩
    have hjn : j < n := (Nat.lt_or_ge j n).resolve_right fun h => tail_waits hs hc hn inv _ i rfl hin hun j h hj
    refine ⟨hjn, ?_⟩
    by_cases e : j = i
    · subst e; exact hy.qOp hi H
    · have h1 := (H.2 j (ready_mono hj e)).2
      obtain ⟨hju, oj, hoj, hall⟩ := mem_ready.1 hj
      have hno : ∀ x ∈ oj.after, Region.binds md x = true → x.on ≠ i := fun x hx hb heq => by
        have h2 := hall x hx hb
        rw [heq, getD_both hun] at h2
        cases h2
      have h2 := qOp_put hoj (hfree j oj hoj e hju hno) (fun cs b => hsel i oi cs b hi) (fun cs b => hsel j oj cs b hoj) hy h1
      refine qOp_mono (fun a' h3 => ih (done.setIfInBounds j true) a' (inv.set hj hjn) (fun m om hm hmi hmu hmo => hfree m om hm hmi ?_ hmo) (ready_mono hr (Ne.symm e)) h3.1 ?_) h2
      · by_cases q : j = m
        · subst q; exact hju
        · rwa [getD_set_ne true q] at hmu
      · rw [Array.setIfInBounds_comm _ _ e]; exact h3.2

theorem anyHead_lex {n m : Nat} {T : Act → Prop} (hsel : Region.noSelect ops = true) (hs : Region.sinkB md ops n = true) (hc : Region.chainB md ops n = true) (hn : n < ops.size) :
    ∀ (l : List Oper) (k : Nat) (done : Array Bool) (a : Act), (∀ j, j < l.length → l[j]? = ops[k + j]?) → k + l.length = n → HeadInv md ops n done →
    Region.lexHead md ops m l.length k done = true → wpQuiet P ops C T l a →
    anyHead P md ops C n (fun done' a' => Region.seqB md ops m n done' = true ∧ T a') l.length done a := by
  intro l
  induction l with
  | nil =>
    intro k done a _ hk _ hB h
    obtain rfl : k = n := by simpa using hk
    exact ⟨by simpa [Region.lexHead] using hB, h⟩
  | cons o l ih =>
    intro k done a hl hk inv hB h
    have h0 : ops[k]? = some o := by simpa using (hl 0 (by simp)).symm
    simp only [List.length_cons, Region.lexHead, Bool.and_eq_true] at hB
    obtain ⟨⟨hr, hf⟩, hB'⟩ := hB
    simp only [List.length_cons] at hk
    have hr' : k ∈ Region.ready md ops done := by simpa using hr
    have hst : qOp P ops C k (wpQuiet P ops C T l) a := by unfold qOp; simp only [h0]; exact h
    obtain ⟨v, hy, hK⟩ := yieldsIn_of_qOp h0 hst
    exact anyHead_first h0 (Region.noSelect_spec hsel) hs hc hn (by omega) (fun done' a' hL => seqB_ready hL.1) l.length done a inv (Region.free_spec h0 hf) hr' hy
      (ih (k + 1) _ _ (fun j hj => by have := hl (j + 1) (by simp; omega); simpa [Nat.add_assoc, Nat.add_comm 1 j] using this) (by omega) (inv.set hr' (by omega)) hB' hK)

theorem wp_region_quiet_tail {id : Nat} {Q : Exit → Act → World → Prop} {a : Act} {w : World} {l : List Oper} (n : Nat) (hm : P.follows .mixedOrders = true) (hB : Region.lexTailB .any l.toArray n = true)
    (hC : C { w with drawn := w.drawn + 1 })
    (h : wpQuiet P l.toArray C (fun a' => ∀ w', C w' → wpList P l.toArray Q (l.drop n) a' w') (l.take n) a) : (Code.region id l.toArray true).wp P Q a w := by
  simp only [Region.lexTailB, Bool.and_eq_true, decide_eq_true_eq] at hB
  obtain ⟨⟨⟨⟨hsel, hn⟩, hs⟩, hc⟩, hlex⟩ := hB
  have hnl : n < l.length := by simpa using hn
  have htl : (l.take n).length = n := by simp; omega
  have hdl : (l.drop n).length = l.toArray.size - n := by simp
  have inv0 : HeadInv .any l.toArray n (Array.replicate l.toArray.size false) :=
    ⟨by simp, fun j oj _ hl => (by rw [getD_replicate_false] at hl; cases hl), fun t _ ht => getD_in (by simpa using ht) (getD_replicate_false _ _)⟩
  have H := anyHead_lex (md := .any) (m := l.toArray.size - n) hsel hs hc hn (l.take n) 0 _ a (fun j hj => by rw [htl] at hj; simp [hj]) (by simpa using htl) inv0 (by rw [htl]; exact hlex) h
  refine wp_region_any hm ?_
  have := anyHead_any (Q := Q) (m := l.toArray.size - n) (fun done a' w' hw' hL => by
    have := wpAny_of_seq (md := .any) (Q' := Q) (l.drop n) n done a' w' (fun j => by simp [List.getElem?_drop]) (by rw [hdl]; exact hL.1) (hL.2 w' hw')
    rwa [hdl] at this) _ _ _ _ hC H
  rw [htl, show n + (l.toArray.size - n) = l.toArray.size by omega] at this
  exact this

/-- .. at the class 'w after some draws' -/
theorem wp_region_tail {id : Nat} {Q : Exit → Act → World → Prop} {a : Act} {w : World} {l : List Oper} (n : Nat) (hm : P.follows .mixedOrders = true) (hB : Region.lexTailB .any l.toArray n = true)
    (h : wpQuiet P l.toArray (fun w' => ∃ m, w' = w.drewN m) (fun a' => ∀ w', (∃ m, w' = w.drewN m) → wpList P l.toArray Q (l.drop n) a' w') (l.take n) a) : (Code.region id l.toArray true).wp P Q a w :=
  wp_region_quiet_tail (C := fun w' => ∃ m, w' = w.drewN m) n hm hB ⟨1, rfl⟩ h

/-! ### a region whose operations make memory in any order: an invariant over what has been done -/
theorem wpOp_of_list {Q : Exit → Act → World → Prop} {i : Nat} {o : Oper} {K : Act → World → Prop} {a : Act} {w : World} (hi : ops[i]? = some o)
    (h : wpList P ops (fun ex a' w' => ex = .normal ∧ K a' w') [o] a w) : wpOp P ops Q i K a w := by
  unfold wpOp
  simp only [hi]
  unfold wpList at h
  have hno : ∀ {K' : Act → World → Prop}, ¬ LetsOut (fun ex a' w' => ex = Exit.normal ∧ K' a' w') := by
    rintro K' ⟨_, _, h, _⟩; cases h
  split
  · rename_i hw
    rw [if_pos hw] at h
    rcases h with h | ⟨_, h⟩
    · left
      unfold Oper.wp at *
      generalize (execOp a.eval o).run P w = r at *
      cases r with
      | ok n w' =>
        cases n <;> simp only [Oper.upon, wpList] at h ⊢
        case value v => exact h.2
        case skip => exact h.2
        case defer d => exact h.2
        case enter f args =>
          refine h.mono fun e w'' h => ?_
          cases e with
          | returned v => exact h.2
          | panicked c => exact absurd h.1 (by intro h; cases h)
          | outgrown => exact absurd h hno
        case row r args => exact h.mono fun v w'' h => h.2
      | halt x w' => cases x <;> simp only [Oper.upon] at h ⊢; exact absurd h.1 (by intro h; cases h)
    · exact absurd h hno
  · rename_i hw
    rw [if_neg hw] at h
    exact h.2

/-- A call by its contract, whatever it hands back and leaves. -/
theorem call_list {Q : Exit → Act → World → Prop} {o : Oper} {rest : List Oper} {a : Act} {w : World} (hg : o.guard = none) (f : FuncId) (args : Array Value) (hrun : (execOp a.eval o).run P w = .ok (.enter f args) w)
    (R : Value → World → Prop) (hc : Calls P f args w fun e w' => ∃ v, e = .returned v ∧ R v w') (h : ∀ v w', R v w' → wpList P ops Q rest (a.put o.dst v) w') : wpList P ops Q (o :: rest) a w := by
  refine wpList_plain hg fun K hK => ?_
  unfold Oper.wp
  rw [hrun, Oper.upon_enter]
  refine hc.mono fun e w'' hh => ?_
  obtain ⟨v, rfl, hr⟩ := hh
  exact hK _ _ (h v w'' hr)

theorem wpl_nil {Q : Exit → Act → World → Prop} {a : Act} {w : World} (h : Q .normal a w) : wpList P ops Q [] a w := h

def backB (md : Region.Mode) (ops : Array Oper) : Bool := (List.range ops.size).all fun i => match ops[i]? with | some o => o.after.all (fun e => !Region.binds md e || decide (e.on < i)) | none => true

theorem ready_nil {done : Array Bool} (hb : backB md ops = true) (hs : done.size = ops.size) (hr : Region.ready md ops done = []) : ∀ i, i < ops.size → done.getD i true = true := by
  intro i
  induction i using Nat.strongRecOn with
  | _ i ih =>
    intro hi
    cases hd : done.getD i true with
    | true => rfl
    | false =>
      exfalso
      have hm : i ∈ Region.ready md ops done := by
        refine mem_ready.2 ⟨hd, ops[i], by simp [hi], fun e he hbd => ?_⟩
        have h1 := List.all_eq_true.1 hb i (List.mem_range.2 hi)
        simp only [hi, Array.getElem?_eq_getElem] at h1
        have h2 := (Array.all_eq_true_iff_forall_mem.1 h1) e he
        simp [hbd] at h2
        have h3 := ih e.on h2 (by omega)
        have h4 : e.on < done.size := by omega
        simp [h4] at h3 ⊢; exact h3
      rw [hr] at hm; cases hm

theorem wpAny_inv {Q : Exit → Act → World → Prop} (I : Array Bool → Act → World → Prop)
    (hstep : ∀ d a w i, d.size = ops.size → I d a w → i ∈ Region.ready md ops d → wpOp P ops Q i (fun a' w' => I (d.setIfInBounds i true) a' w') a w)
    (hend : ∀ d a w, d.size = ops.size → Region.ready md ops d = [] → I d a w → Q .normal a w) :
    ∀ (k : Nat) (d : Array Bool) (a : Act) (w : World), d.size = ops.size → d.toList.count false ≤ k → I d a w → wpAny P md ops Q k d a w := by
  intro k
  induction k with
  | zero =>
    intro d a w hs hc hi
    have hr : Region.ready md ops d = [] := by
      apply List.eq_nil_iff_forall_not_mem.2
      intro i hm
      obtain ⟨h1, o, ho, -⟩ := mem_ready.1 hm
      have hi : i < d.size := by have := (Array.getElem?_eq_some_iff.1 ho).1; omega
      simp [hi] at h1
      have : false ∈ d.toList := by rw [← h1]; simp
      have := List.count_pos_iff.2 this
      omega
    exact ⟨hr, hend d a w hs hr hi⟩
  | succ k ih =>
    intro d a w hs hc hi
    refine ⟨fun hr => hend d a w hs hr hi, fun i hm => ?_⟩
    obtain ⟨h1, o, ho, -⟩ := mem_ready.1 hm
    have hid : i < d.size := by have := (Array.getElem?_eq_some_iff.1 ho).1; omega
    have h1' : d[i] = false := by simpa [hid] using h1
    refine wpOp_mono (fun a' w' h => ih (d.setIfInBounds i true) a' w' (by simpa using hs) ?_ h) (hstep d a w i hs hi hm)
    have : (d.setIfInBounds i true).toList = d.toList.set i true := by simp
    rw [this, List.count_set (by simpa using hid)]
    have hp : 0 < d.toList.count false := List.count_pos_iff.2 (by rw [← h1']; simp)
    have hc' : Array.count false d ≤ k + 1 := by simpa using hc
    have hp' : 0 < Array.count false d := by simpa using hp
    simp [h1']
    omega

/-- A region by an invariant: it holds at the beginning, each operation that may come up keeps it, and where all is done it gives what is asked. -/
theorem wp_region_inv {id : Nat} {Q : Exit → Act → World → Prop} {a : Act} {w : World} {l : List Oper} (hm : P.follows .mixedOrders = true) (hb : backB .any l.toArray = true)
    (I : Act → Array Bool → Act → World → Prop) (h0 : I a (Array.replicate l.length false) a w.drew)
    (hstep : ∀ d b w i o, d.size = l.length → I a d b w → l[i]? = some o → d.getD i true = false → (∀ e ∈ o.after, Region.binds .any e = true → d.getD e.on false = true) →
      ∀ K : Exit → Act → World → Prop, (∀ b' w', I a (d.setIfInBounds i true) b' w' → K .normal b' w') → wpList P l.toArray K [o] b w)
    (hend : ∀ b w, I a (Array.replicate l.length true) b w → Q .normal b w) : (Code.region id l.toArray true).wp P Q a w := by
  refine wp_region_any hm (wpAny_inv (I a) ?_ ?_ _ _ _ _ (by simp) ?_ ?_)
  · intro d a w i hs hi hr
    obtain ⟨h1, o, ho, h2⟩ := mem_ready.1 hr
    exact wpOp_of_list ho (hstep d a w i o (by simpa using hs) hi (by simpa using ho) h1 h2 _ (fun _ _ h => ⟨rfl, h⟩))
  · intro d a w hs hr hi
    refine hend a w ?_
    have : d = Array.replicate l.length true := by
      apply Array.ext
      · simpa using hs
      · intro i h1 h2
        have := ready_nil hb hs hr i (by simpa using h2)
        simpa [h1] using this
    rwa [← this]
  · simp
  · simpa using h0
end
theorem val_list {P : Program} {ops : Array Oper} {rest : List Oper} {o : Oper} {a : Act} {w : World} {Q : Exit → Act → World → Prop} (hgd : o.guard = none) (v : Value) (hrun : (execOp a.eval o).run P w = .ok (.value v) w)
    (h : wpList P ops Q rest (a.put o.dst v) w) : wpList P ops Q (o :: rest) a w := by
  refine wpList_plain hgd fun K hK => ?_
  unfold Oper.wp
  rw [hrun]
  exact hK _ _ h


end Go.Proofs.YtkfhppbmnjmnoaaGreatDoor.W

namespace Go.Proofs.YtkfhppbmnjmnoaaGreatDoor.W
open Go

section
variable {P : Program} {ops : Array Oper} {Q : Exit → Act → World → Prop} {S : World → Prop} {a : Act} {w : World} {fuel : Nat} {listed : Array Bool}
/-- what is left of the region, closed: no step of Lean's own unfolds it -/
structure WH (P : Program) (ops : Array Oper) (Q : Exit → Act → World → Prop) (S : World → Prop) (fuel : Nat) (listed : Array Bool) (a : Act) (w : World) : Prop where
  out : (∀ c a d v w, Q (.panic c) (a.put d v) w → Q (.panic c) a w) → Region.noSelect ops = true → S w → wpAnyH P .any ops Q S fuel listed a w
theorem region_h {id : Nat} {l : List Oper} (S : World → Prop) (hm : P.follows .mixedOrders = true) (hs : Region.noSelect l.toArray = true) (hS : S w.drew)
    (h : WH P l.toArray (NoPanic Q) S l.length (Array.replicate l.length false) a w.drew) : (Code.region id l.toArray true).wp P Q a w :=
  wp_region_noPanic (wp_region_held hm (h.out (fun _ _ _ _ _ h => h) hs hS))
/-- operation i reads: it is taken first -/
theorem h_read (i : Nat) {o : Oper} (hi : ops[i]? = some o) (hf : Region.free .any ops listed i = true) (hr : (Region.ready .any ops listed).contains i = true) (hw : Region.wanted o (yielded ops a.tmps) = true) (v : Value)
    (hv : ∀ w, S w → (execOp a.eval o).run P w = .ok (.value v) w) (h : WH P ops Q S fuel (listed.setIfInBounds i true) (a.put o.dst v) w) : WH P ops Q S (fuel + 1) listed a w :=
  ⟨fun hQ hs hS => wpAnyH_take hi hs hf hr (fun c a w => hQ c a o.dst v w) (.inl ⟨hw, hv⟩) hS (h.out hQ hs hS)⟩
/-- operation i is not wanted -/
theorem h_skip (i : Nat) {o : Oper} (hi : ops[i]? = some o) (hf : Region.free .any ops listed i = true) (hr : (Region.ready .any ops listed).contains i = true) (hw : Region.wanted o (yielded ops a.tmps) = false)
    (h : WH P ops Q S fuel (listed.setIfInBounds i true) (a.put o.dst undef) w) : WH P ops Q S (fuel + 1) listed a w :=
  ⟨fun hQ hs hS => wpAnyH_take hi hs hf hr (fun c a w => hQ c a o.dst undef w) (.inr ⟨hw, rfl⟩) hS (h.out hQ hs hS)⟩
/-- operation i, a call, is the only one that may come up -/
theorem h_call (i : Nat) {o : Oper} (hi : ops[i]? = some o) (hr : Region.ready .any ops listed = [i]) (hw : Region.wanted o (yielded ops a.tmps) = true) (f : FuncId) (args : Array Value)
    (hrun : (execOp a.eval o).run P w = .ok (.enter f args) w)
    (hc : Calls P f args w fun e w' => ∃ v, e = .returned v ∧ S w' ∧ WH P ops Q S fuel (listed.setIfInBounds i true) (a.put o.dst v) w') : WH P ops Q S (fuel + 1) listed a w :=
  ⟨fun hQ hs hS => by
    refine wpAnyH_all hr (by simp) fun j hj => ?_
    obtain rfl : j = i := by simpa using hj
    unfold wpOp
    simp only [hi, hw, if_true]
    refine .inl ?_
    unfold Oper.wp
    rw [hrun, Oper.upon_enter]
    refine hc.mono ?_
    rintro e w' ⟨v, rfl, h1, h2⟩
    exact ⟨h1, h2.out hQ hs h1⟩⟩
/-- operation i, whatever it does, is the only one that may come up -/
theorem h_list (i : Nat) {o : Oper} (hi : ops[i]? = some o) (hr : Region.ready .any ops listed = [i])
    (h : ∀ K : Exit → Act → World → Prop, (∀ a' w', S w' → WH P ops Q S fuel (listed.setIfInBounds i true) a' w' → K .normal a' w') → wpList P ops K [o] a w) : WH P ops Q S (fuel + 1) listed a w :=
  ⟨fun hQ hs hS => by
    refine wpAnyH_all hr (by simp) fun j hj => ?_
    obtain rfl : j = i := by simpa using hj
    exact wpOp_of_list hi (h _ fun a' w' h1 h2 => ⟨rfl, h1, h2.out hQ hs h1⟩)⟩
theorem h_done (hr : Region.ready .any ops listed = []) (h : Q .normal a w) : WH P ops (NoPanic Q) S fuel listed a w :=
  ⟨fun _ _ _ => wpAnyH_done hr (NoPanic.normal h) _⟩
theorem h_free {o : Oper} (h : o.guard = none) : Region.wanted o (yielded ops a.tmps) = true := by simp [Region.wanted, h]
end
end Go.Proofs.YtkfhppbmnjmnoaaGreatDoor.W
