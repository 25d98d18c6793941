/- REGIONS THAT DRAW THEIR ORDER, in which several operations may come up (allocations beside calls): each is gone on with. No number of a dump. -/
import Derived.Test.YtmacjpgeamlmhaaSt
set_option linter.unusedSimpArgs false
set_option linter.unusedVariables false
namespace Go.Proofs.Ytmacjpgeamlmhaa.W
open Go

section
variable {P : Program} {ops : Array Oper} {Q : Exit → Act → World → Prop} {S : World → Prop} {t : Nat} {fuel : Nat} {listed : Array Bool} {a : Act} {w : World}
/-- operation i comes up next (a region that ends with a store) -/
def OneT (P : Program) (ops : Array Oper) (Q : Exit → Act → World → Prop) (S : World → Prop) (t fuel : Nat) (listed : Array Bool) (a : Act) (w : World) (i : Nat) : Prop :=
  (i == t) = false ∧ wpOp P ops Q i (fun a' w' => S w' ∧ WT P ops Q S t fuel (listed.setIfInBounds i true) a' w') a w
def AllT (P : Program) (ops : Array Oper) (Q : Exit → Act → World → Prop) (S : World → Prop) (t fuel : Nat) (listed : Array Bool) (a : Act) (w : World) : List Nat → Prop
  | [] => True
  | i :: rs => OneT P ops Q S t fuel listed a w i ∧ AllT P ops Q S t fuel listed a w rs
theorem AllT.get : ∀ (rs : List Nat), AllT P ops Q S t fuel listed a w rs → ∀ i ∈ rs, OneT P ops Q S t fuel listed a w i
  | [], _, i, hi => by cases hi
  | j :: rs, h, i, hi => by
    rcases List.mem_cons.1 hi with rfl | hi
    · exact h.1
    · exact AllT.get rs h.2 i hi
theorem t_pick (rs : List Nat) (hr : Region.ready .any ops listed = rs) (hne : (rs == []) = false) (h : AllT P ops Q S t fuel listed a w rs) : WT P ops Q S t (fuel + 1) listed a w :=
  ⟨fun hQ hs hS ht => by
    refine ⟨fun h0 => ?_, fun i hi => ?_⟩
    · rw [hr] at h0; subst h0; simp at hne
    · rw [hr] at hi
      obtain ⟨hit, hw⟩ := AllT.get rs h i hi
      have hne : i ≠ t := by simpa using hit
      exact wpOp_mono (fun a' w' h' => ⟨fun _ => h'.1, h'.2.out hQ hs h'.1 (by rw [getD_set_ne true hne]; exact ht)⟩) hw⟩
theorem one_call {i : Nat} {o : Oper} (hi : ops[i]? = some o) (hit : (i == t) = false) (hw : Region.wanted o (yielded ops a.tmps) = true) (f : FuncId) (args : Array Value)
    (hrun : (execOp a.eval o).run P w = .ok (.enter f args) w)
    (hc : Calls P f args w fun e w' => ∃ v, e = .returned v ∧ S w' ∧ WT P ops Q S t fuel (listed.setIfInBounds i true) (a.put o.dst v) w') : OneT P ops Q S t fuel listed a w i := by
  refine ⟨hit, ?_⟩
  unfold wpOp
  simp only [hi, hw, if_true]
  refine .inl ?_
  unfold Oper.wp
  rw [hrun, Oper.upon_enter]
  refine hc.mono ?_
  rintro e w' ⟨v, rfl, h1, h2⟩
  exact ⟨h1, h2⟩
theorem one_list {i : Nat} {o : Oper} (hi : ops[i]? = some o) (hit : (i == t) = false)
    (h : ∀ K : Exit → Act → World → Prop, (∀ a' w', S w' → WT P ops Q S t fuel (listed.setIfInBounds i true) a' w' → K .normal a' w') → wpList P ops K [o] a w) : OneT P ops Q S t fuel listed a w i :=
  ⟨hit, wpOp_of_list hi (h _ fun a' w' h1 h2 => ⟨rfl, h1, h2⟩)⟩
end
end Go.Proofs.Ytmacjpgeamlmhaa.W
