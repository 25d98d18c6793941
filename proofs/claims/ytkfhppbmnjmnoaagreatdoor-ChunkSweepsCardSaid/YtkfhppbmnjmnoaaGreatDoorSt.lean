/- REGIONS THAT DRAW THEIR ORDER and end with a store (x.f = e): what is read may lie where the store writes: all reads are taken first, under a fact S that holds until the store (operation t), which waits for all of them. No number of a dump. -/
import Derived.Test.YtkfhppbmnjmnoaaGreatDoorTail
set_option linter.unusedSimpArgs false
set_option linter.unusedVariables false
namespace Go.Proofs.YtkfhppbmnjmnoaaGreatDoor.W
open Go

section
variable {P : Program} {md : Region.Mode} {ops : Array Oper} {Q : Exit → Act → World → Prop} {S : World → Prop} {t : Nat}
/-- Whatever order is picked from here on, AND 'S' HOLDS BEHIND EVERY OPERATION THAT COMES UP AHEAD OF t. -/
def wpAnyT (P : Program) (md : Region.Mode) (ops : Array Oper) (Q : Exit → Act → World → Prop) (S : World → Prop) (t : Nat) : Nat → Array Bool → Act → World → Prop
  | 0, listed, a, w => Region.ready md ops listed = [] ∧ Q .normal a w
  | fuel + 1, listed, a, w =>
    (Region.ready md ops listed = [] → Q .normal a w) ∧
    ∀ i ∈ Region.ready md ops listed, wpOp P ops Q i (fun a' w' => ((listed.setIfInBounds i true).getD t true = false → S w') ∧ wpAnyT P md ops Q S t fuel (listed.setIfInBounds i true) a' w') a w
theorem wpAny_of_T : ∀ (fuel : Nat) (listed : Array Bool) (a : Act) (w : World), wpAnyT P md ops Q S t fuel listed a w → wpAny P md ops Q fuel listed a w
  | 0, _, _, _, h => h
  | fuel + 1, _, _, _, h => ⟨h.1, fun i hi => wpOp_mono (fun a' w' h' => wpAny_of_T fuel _ a' w' h'.2) (h.2 i hi)⟩
/-- does t wait for i? -/
def waitsB (md : Region.Mode) (ops : Array Oper) (t i : Nat) : Bool := match ops[t]? with | some o => o.after.any (fun e => Region.binds md e && e.on == i) | none => false
theorem waitsB_spec {i : Nat} (h : waitsB md ops t i = true) : ∀ ot, ops[t]? = some ot → ∃ e ∈ ot.after, Region.binds md e = true ∧ e.on = i := by
  intro ot ho
  unfold waitsB at h
  rw [ho] at h
  simp only [Array.any_eq_true] at h
  obtain ⟨j, hj, hb⟩ := h
  simp only [Bool.and_eq_true, beq_iff_eq] at hb
  exact ⟨_, Array.getElem_mem hj, hb.1, hb.2⟩
theorem wpAnyT_first {i : Nat} {oi : Oper} {v : Value} (hi : ops[i]? = some oi) (hsel : ∀ (j : Nat) (o : Oper) cs b, ops[j]? = some o → o.op ≠ .select cs b)
    (hQ : ∀ c a w, Q (.panic c) (a.put oi.dst v) w → Q (.panic c) a w) (hit : i ≠ t) (hdep : ∀ ot, ops[t]? = some ot → ∃ e ∈ ot.after, Region.binds md e = true ∧ e.on = i) :
    ∀ (fuel : Nat) (listed : Array Bool) (a : Act) (w : World),
      (∀ j oj, ops[j]? = some oj → j ≠ i → listed.getD j true = false → (∀ e ∈ oj.after, Region.binds md e = true → e.on ≠ i) → oi.apart ops oj = true) →
      i ∈ Region.ready md ops listed → listed.getD t true = false → YieldsIf P ops S oi v a → S w →
      wpAnyT P md ops Q S t fuel (listed.setIfInBounds i true) (a.put oi.dst v) w → wpAnyT P md ops Q S t (fuel + 1) listed a w := by
  intro fuel
  induction fuel with
  | zero =>
    intro listed a w _ hr _ hy hS H
    refine ⟨fun h => (by rw [h] at hr; cases hr), fun j hj => ?_⟩
    by_cases hji : j = i
    · subst hji; exact hy.wpOp hi hS ⟨fun _ => hS, H⟩
    · have := ready_mono hj hji
      rw [H.1] at this
      cases this
  | succ fuel ih =>
    intro listed a w hfree hr ht hy hS H
    refine ⟨fun h => (by rw [h] at hr; cases hr), fun j hj => ?_⟩
    by_cases hji : j = i
    · subst hji; exact hy.wpOp hi hS ⟨fun _ => hS, H⟩
    · have h1 := H.2 j (ready_mono hj hji)
      obtain ⟨hjun, oj, hoj, hall⟩ := mem_ready.1 hj
      have hnot : ∀ e ∈ oj.after, Region.binds md e = true → e.on ≠ i := fun e he hb heq => by
        have h1 := hall e he hb
        have h0 := (mem_ready.1 hr).1
        rw [heq] at h1
        rcases Nat.lt_or_ge i listed.size with h' | h'
        · simp [h'] at h0 h1; rw [h0] at h1; cases h1
        · simp [Array.getElem?_eq_none h'] at h1
      have hjt : j ≠ t := by
        rintro rfl
        obtain ⟨e, he, hb, heq⟩ := hdep oj hoj
        exact hnot e he hb heq
      have h2 := wpOp_putIf hoj (hfree j oj hoj hji hjun hnot) (fun cs b => hsel i oi cs b hi) (fun cs b => hsel j oj cs b hoj) hQ hy h1
      have hfree' : ∀ k ok, ops[k]? = some ok → k ≠ i → (listed.setIfInBounds j true).getD k true = false →
          (∀ e ∈ ok.after, Region.binds md e = true → e.on ≠ i) → oi.apart ops ok = true := fun k ok hk hki hun hno => by
        refine hfree k ok hk hki ?_ hno
        by_cases hjk : j = k
        · subst hjk; exact hjun
        · rw [getD_set_ne true hjk] at hun; exact hun
      have ht2 : (listed.setIfInBounds j true).getD t true = false := by rw [getD_set_ne true hjt]; exact ht
      have ht3 : ((listed.setIfInBounds i true).setIfInBounds j true).getD t true = false := by rw [getD_set_ne true hjt, getD_set_ne true hit]; exact ht
      refine wpOp_mono (fun a' w' h3 => ⟨fun _ => h3.2.1 ht3, ih (listed.setIfInBounds j true) a' w' hfree' (ready_mono hr (Ne.symm hji)) ht2 h3.1 (h3.2.1 ht3) ?_⟩) h2
      rw [Array.setIfInBounds_comm _ _ hji]
      exact h3.2.2
end

section
variable {P : Program} {ops : Array Oper} {Q : Exit → Act → World → Prop} {S : World → Prop} {t : Nat} {a : Act} {w : World} {fuel : Nat} {listed : Array Bool}
/-- what is left of the region, closed: no step of Lean's own unfolds it -/
structure WT (P : Program) (ops : Array Oper) (Q : Exit → Act → World → Prop) (S : World → Prop) (t : Nat) (fuel : Nat) (listed : Array Bool) (a : Act) (w : World) : Prop where
  out : (∀ c a d v w, Q (.panic c) (a.put d v) w → Q (.panic c) a w) → Region.noSelect ops = true → S w → listed.getD t true = false → wpAnyT P .any ops Q S t fuel listed a w
theorem region_t {id : Nat} {l : List Oper} (S : World → Prop) (t : Nat) (hm : P.follows .mixedOrders = true) (hs : Region.noSelect l.toArray = true) (ht0 : decide (t < l.length) = true) (hS : S w.drew)
    (h : WT P l.toArray (NoPanic Q) S t l.length (Array.replicate l.length false) a w.drew) : (Code.region id l.toArray true).wp P Q a w :=
  wp_region_noPanic (wp_region_any hm (wpAny_of_T _ _ _ _ (h.out (fun _ _ _ _ _ h => h) hs hS (by have ht := of_decide_eq_true ht0; simp [ht]))))
/-- operation i reads: it is taken first -/
theorem t_read (i : Nat) {o : Oper} (hi : ops[i]? = some o) (hf : Region.free .any ops listed i = true) (hr : (Region.ready .any ops listed).contains i = true) (hd : (waitsB .any ops t i && !(i == t)) = true) (hw : Region.wanted o (yielded ops a.tmps) = true) (v : Value)
    (hv : ∀ w, S w → (execOp a.eval o).run P w = .ok (.value v) w) (h : WT P ops Q S t fuel (listed.setIfInBounds i true) (a.put o.dst v) w) : WT P ops Q S t (fuel + 1) listed a w :=
  ⟨fun hQ hs hS ht => by
    simp only [Bool.and_eq_true, Bool.not_eq_true', beq_eq_false_iff_ne] at hd
    exact wpAnyT_first hi (Region.noSelect_spec hs) (fun c a w => hQ c a o.dst v w) hd.2 (waitsB_spec hd.1) fuel listed a w (Region.free_spec hi hf) (by simpa using hr) ht (.inl ⟨hw, hv⟩) hS (h.out hQ hs hS (by rw [getD_set_ne true hd.2]; exact ht))⟩
/-- operation i is not wanted -/
theorem t_skip (i : Nat) {o : Oper} (hi : ops[i]? = some o) (hf : Region.free .any ops listed i = true) (hr : (Region.ready .any ops listed).contains i = true) (hd : (waitsB .any ops t i && !(i == t)) = true) (hw : Region.wanted o (yielded ops a.tmps) = false)
    (h : WT P ops Q S t fuel (listed.setIfInBounds i true) (a.put o.dst undef) w) : WT P ops Q S t (fuel + 1) listed a w :=
  ⟨fun hQ hs hS ht => by
    simp only [Bool.and_eq_true, Bool.not_eq_true', beq_eq_false_iff_ne] at hd
    exact wpAnyT_first hi (Region.noSelect_spec hs) (fun c a w => hQ c a o.dst undef w) hd.2 (waitsB_spec hd.1) fuel listed a w (Region.free_spec hi hf) (by simpa using hr) ht (.inr ⟨hw, rfl⟩) hS (h.out hQ hs hS (by rw [getD_set_ne true hd.2]; exact ht))⟩
/-- operation i, a call, is the only one that may come up -/
theorem t_call (i : Nat) {o : Oper} (hi : ops[i]? = some o) (hr : Region.ready .any ops listed = [i]) (hit : (i == t) = false) (hw : Region.wanted o (yielded ops a.tmps) = true) (f : FuncId) (args : Array Value)
    (hrun : (execOp a.eval o).run P w = .ok (.enter f args) w)
    (hc : Calls P f args w fun e w' => ∃ v, e = .returned v ∧ S w' ∧ WT P ops Q S t fuel (listed.setIfInBounds i true) (a.put o.dst v) w') : WT P ops Q S t (fuel + 1) listed a w :=
  ⟨fun hQ hs hS ht => by
    have hne : i ≠ t := by simpa using hit
    refine ⟨fun h0 => (by rw [hr] at h0; cases h0), ?_⟩
    rw [hr]
    intro j hj
    obtain rfl : j = i := by simpa using hj
    unfold wpOp
    simp only [hi, hw, if_true]
    refine .inl ?_
    unfold Oper.wp
    rw [hrun, Oper.upon_enter]
    refine hc.mono ?_
    rintro e w' ⟨v, rfl, h1, h2⟩
    exact ⟨fun _ => h1, h2.out hQ hs h1 (by rw [getD_set_ne true hne]; exact ht)⟩⟩
/-- operation i, whatever it does, is the only one that may come up -/
theorem t_list (i : Nat) {o : Oper} (hi : ops[i]? = some o) (hr : Region.ready .any ops listed = [i]) (hit : (i == t) = false)
    (h : ∀ K : Exit → Act → World → Prop, (∀ a' w', S w' → WT P ops Q S t fuel (listed.setIfInBounds i true) a' w' → K .normal a' w') → wpList P ops K [o] a w) : WT P ops Q S t (fuel + 1) listed a w :=
  ⟨fun hQ hs hS ht => by
    have hne : i ≠ t := by simpa using hit
    refine ⟨fun h0 => (by rw [hr] at h0; cases h0), ?_⟩
    rw [hr]
    intro j hj
    obtain rfl : j = i := by simpa using hj
    exact wpOp_of_list hi (h _ fun a' w' h1 h2 => ⟨rfl, fun _ => h1, h2.out hQ hs h1 (by rw [getD_set_ne true hne]; exact ht)⟩)⟩
/-- operation i reads, and is the only one that may come up -/
theorem t_one (i : Nat) {o : Oper} (hi : ops[i]? = some o) (hr : Region.ready .any ops listed = [i]) (hit : (i == t) = false) (hg : o.guard = none) (v : Value)
    (hv : (execOp a.eval o).run P w = .ok (.value v) w) (h : WT P ops Q S t fuel (listed.setIfInBounds i true) (a.put o.dst v) w) : WT P ops Q S t (fuel + 1) listed a w :=
  ⟨fun hQ hs hS ht => by
    have hne : i ≠ t := by simpa using hit
    refine ⟨fun h0 => (by rw [hr] at h0; cases h0), ?_⟩
    rw [hr]
    intro j hj
    obtain rfl : j = i := by simpa using hj
    exact wpOp_of_list hi (val_list hg v hv (wpl_nil ⟨rfl, fun _ => hS, h.out hQ hs hS (by rw [getD_set_ne true hne]; exact ht)⟩))⟩
/-- the store, the last one: S need not hold behind it -/
theorem t_last (i : Nat) {o : Oper} (hi : ops[i]? = some o) (hr : Region.ready .any ops listed = [i]) (hit : (i == t) = true) (hd : Region.ready .any ops (listed.setIfInBounds i true) = []) (hsz : decide (i < listed.size) = true)
    (h : ∀ K : Exit → Act → World → Prop, (∀ a' w', Q .normal a' w' → K .normal a' w') → wpList P ops K [o] a w) : WT P ops (NoPanic Q) S t (fuel + 1) listed a w :=
  ⟨fun _ _ _ _ => by
    obtain rfl : i = t := by simpa using hit
    have hlt : i < listed.size := of_decide_eq_true hsz
    refine ⟨fun h0 => (by rw [hr] at h0; cases h0), ?_⟩
    rw [hr]
    intro j hj
    obtain rfl : j = i := by simpa using hj
    refine wpOp_of_list hi (h _ fun a' w' h1 => ⟨rfl, fun h0 => ?_, ?_⟩)
    · simp [hlt] at h0
    · cases fuel with
      | zero => exact ⟨hd, NoPanic.normal h1⟩
      | succ n => exact ⟨fun _ => NoPanic.normal h1, by rw [hd]; simp⟩⟩
theorem t_free {o : Oper} (h : o.guard = none) : Region.wanted o (yielded ops a.tmps) = true := by simp [Region.wanted, h]
/-- what is left of the region behind operation t: S is asked no more -/
structure WU (P : Program) (ops : Array Oper) (Q : Exit → Act → World → Prop) (S : World → Prop) (t : Nat) (fuel : Nat) (listed : Array Bool) (a : Act) (w : World) : Prop where
  out : listed.getD t true = true → wpAnyT P .any ops Q S t fuel listed a w
theorem getD_set_t {listed : Array Bool} {i t : Nat} (h : listed.getD t true = true) : (listed.setIfInBounds i true).getD t true = true := by
  by_cases hit : i = t
  · subst hit
    by_cases hi : i < listed.size
    · simp [hi]
    · simp [Array.getElem?_eq_none (Nat.not_lt.1 hi)]
  · rw [getD_set_ne true hit]; exact h
/-- operation t, a store, with others behind it -/
theorem t_store (i : Nat) {o : Oper} (hi : ops[i]? = some o) (hr : Region.ready .any ops listed = [i]) (hit : (i == t) = true) (hsz : decide (i < listed.size) = true)
    (h : ∀ K : Exit → Act → World → Prop, (∀ a' w', WU P ops Q S t fuel (listed.setIfInBounds i true) a' w' → K .normal a' w') → wpList P ops K [o] a w) : WT P ops Q S t (fuel + 1) listed a w :=
  ⟨fun _ _ _ _ => by
    obtain rfl : i = t := by simpa using hit
    have hlt : i < listed.size := of_decide_eq_true hsz
    refine ⟨fun h0 => (by rw [hr] at h0; cases h0), ?_⟩
    rw [hr]
    intro j hj
    obtain rfl : j = i := by simpa using hj
    exact wpOp_of_list hi (h _ fun a' w' h1 => ⟨rfl, ⟨fun h0 => (by simp [hlt] at h0), h1.out (by simp [hlt])⟩⟩)⟩
/-- an operation behind t, the only one that may come up -/
theorem u_list (i : Nat) {o : Oper} (hi : ops[i]? = some o) (hr : Region.ready .any ops listed = [i])
    (h : ∀ K : Exit → Act → World → Prop, (∀ a' w', WU P ops Q S t fuel (listed.setIfInBounds i true) a' w' → K .normal a' w') → wpList P ops K [o] a w) : WU P ops Q S t (fuel + 1) listed a w :=
  ⟨fun ht => by
    refine ⟨fun h0 => (by rw [hr] at h0; cases h0), ?_⟩
    rw [hr]
    intro j hj
    obtain rfl : j = i := by simpa using hj
    exact wpOp_of_list hi (h _ fun a' w' h1 => ⟨rfl, ⟨fun h0 => (by rw [getD_set_t ht] at h0; cases h0), h1.out (getD_set_t ht)⟩⟩)⟩
theorem u_one (i : Nat) {o : Oper} (hi : ops[i]? = some o) (hr : Region.ready .any ops listed = [i]) (hg : o.guard = none) (v : Value)
    (hv : (execOp a.eval o).run P w = .ok (.value v) w) (h : WU P ops Q S t fuel (listed.setIfInBounds i true) (a.put o.dst v) w) : WU P ops Q S t (fuel + 1) listed a w :=
  u_list i hi hr fun K hK => val_list hg v hv (wpl_nil (hK _ _ h))
theorem u_done (hr : Region.ready .any ops listed = []) (h : Q .normal a w) : WU P ops (NoPanic Q) S t fuel listed a w :=
  ⟨fun _ => by
    cases fuel with
    | zero => exact ⟨hr, NoPanic.normal h⟩
    | succ n => exact ⟨fun _ => NoPanic.normal h, by rw [hr]; simp⟩⟩
end
end Go.Proofs.YtkfhppbmnjmnoaaGreatDoor.W
