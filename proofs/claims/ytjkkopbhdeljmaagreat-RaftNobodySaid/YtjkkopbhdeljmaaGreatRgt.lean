/- A REGION THAT DRAWS ITS ORDER IN A ROUND of a range over a function: whatever holds of it in the plain frame (no defer in it) holds in the round. No number of a dump. -/
import Derived.Test.YtjkkopbhdeljmaaGreatSt
import Derived.OrdersIn
import Derived.RangeFuncCalls
import Derived.TacticsIn
set_option linter.unusedSimpArgs false
set_option linter.unusedVariables false
namespace Go.Proofs.YtjkkopbhdeljmaaGreat.W
open Go

section
variable {P : Program} {r n : Nat} {md : Region.Mode} {ops : Array Oper} {Q : Exit → Act → World → Prop}
theorem rows_wide {row : String} {args : Array Value} {w : World} {R : Value → World → Prop} (h : Rows P row args w R) : RowsIn (Fence.wide.inRound r) n P row args w R :=
  fun c cs _ => let ⟨v, w', q, s⟩ := h c cs; ⟨v, w', q, stepsIn_wide.2 s⟩
theorem deep_wide {k : Nat} : (Fence.wide.inRound r).depth.isSome = true → 1 ≤ k := fun h => by simp [Fence.inRound, Fence.wide] at h
theorem op_in {o : Oper} {a : Act} {w : World} {K : Act → World → Prop} (hd : ∀ c, o.op ≠ .defer c) (h : o.wp P a w K Q) : o.wpIn (Fence.wide.inRound r) n P a w K Q := by
  unfold Oper.wpIn
  refine ⟨fun _ _ => trivial, ?_⟩
  rw [Oper.semAt_eq _ _ _ hd]
  unfold Oper.wp at h
  generalize (execOp a.eval o).run P w = x at *
  cases x with
  | ok nx w' =>
    cases nx <;> simp only [Oper.upon] at h
    case value v => exact h
    case skip => exact h
    case defer d => exact h
    case enter f args =>
      refine ⟨deep_wide, CallsIn.inRound _ (callsIn_wide.2 (h.mono fun e w'' h => ?_))⟩
      cases e with
      | returned v => exact h
      | panicked c => exact h
      | outgrown => exact h
    case row row args => exact ⟨deep_wide, rows_wide h⟩
  | halt x w' =>
    cases x <;> simp only [Oper.upon] at h
    exact h
/-- one operation of a round, by what holds of it in the plain frame -/
theorem list_in {o : Oper} {rest : List Oper} {a : Act} {w : World} (hgd : o.guard = none) (hd : ∀ c, o.op ≠ .defer c) (h : wpList P ops (fun ex a' w' => ex = Exit.normal ∧ wpListIn (Fence.wide.inRound r) n P ops Q rest a' w') [o] a w) :
    wpListIn (Fence.wide.inRound r) n P ops Q (o :: rest) a w := by
  have hw : Region.wanted o (yielded ops a.tmps) = true := h_free hgd
  unfold wpListIn
  rw [if_pos hw]
  refine op_in hd ?_
  unfold wpList at h
  rw [if_pos hw] at h
  have hno : ∀ {K' : Act → World → Prop}, ¬ LetsOut (fun ex a' w' => ex = Exit.normal ∧ K' a' w') := by
    rintro K' ⟨_, _, h, _⟩; cases h
  rcases h with h | ⟨_, h⟩
  · unfold Oper.wp at *
    generalize (execOp a.eval o).run P w = x at *
    cases x with
    | ok nx w' =>
      cases nx <;> simp only [Oper.upon, wpList] at h ⊢
      case value v => exact h.2
      case skip => exact h.2
      case defer d => exact h.2
      case enter f args =>
        refine h.mono fun e w'' h => ?_
        cases e with
        | returned v => exact h.2
        | panicked c => exact absurd h.1 (by intro h; cases h)
        | outgrown => exact absurd h hno
      case row r args => exact h.mono fun v w'' h => h.2
    | halt x w' => cases x <;> simp only [Oper.upon] at h ⊢; exact absurd h.1 (by intro h; cases h)
  · exact absurd h hno
/-- no operation is a defer statement -/
def noDefer (ops : Array Oper) : Bool := ops.all fun o => match o.op with | .defer _ => false | _ => true
theorem noDefer_spec (h : noDefer ops = true) {i : Nat} {o : Oper} (hi : ops[i]? = some o) : ∀ c, o.op ≠ .defer c := by
  intro c hc
  have hlt := (Array.getElem?_eq_some_iff.1 hi)
  obtain ⟨h1, h2⟩ := hlt
  have := Array.all_eq_true.1 h i h1
  rw [h2, hc] at this
  cases this
theorem any_in (hd : noDefer ops = true) (hl : ¬ LetsOut Q) : ∀ (fuel : Nat) (listed : Array Bool) (a : Act) (w : World), wpAny P md ops Q fuel listed a w → wpAnyIn (Fence.wide.inRound r) n P md ops Q fuel listed a w
  | 0, _, _, _, h => h
  | fuel + 1, listed, a, w, h => by
    refine ⟨h.1, fun i hi => ?_⟩
    have h2 := h.2 i hi
    unfold wpOp at h2
    unfold wpOpIn
    split
    · rename_i e
      simp only [e] at h2
      exact any_in hd hl fuel _ a w h2
    · rename_i o e
      simp only [e] at h2
      split
      · rename_i hw
        rw [if_pos hw] at h2
        rcases h2 with h2 | ⟨_, h2⟩
        · exact Oper.wpIn_mono (fun a' w' h3 => any_in hd hl fuel _ a' w' h3) (op_in (noDefer_spec hd e) h2)
        · exact absurd h2 hl
      · rename_i hw
        rw [if_neg hw] at h2
        exact ⟨fun _ _ => trivial, any_in hd hl fuel _ _ w h2⟩
/-- a region of reads, operations that make memory, and a store at its end (XSt), in a round -/
theorem region_t_in {id : Nat} {l : List Oper} {a : Act} {w : World} (S : World → Prop) (t : Nat) (hm : P.follows .mixedOrders = true) (hs : Region.noSelect l.toArray = true) (hd : noDefer l.toArray = true) (ht0 : decide (t < l.length) = true) (hS : S w.drew)
    (h : WT P l.toArray (NoPanic fun e a' w' => e = Exit.normal ∧ Q .normal a' w') S t l.length (Array.replicate l.length false) a w.drew) : (Code.region id l.toArray true).wpIn (Fence.wide.inRound r) n P Q a w := by
  have h1 := wpAny_of_T _ _ _ _ (h.out (fun _ _ _ _ _ h => h) hs hS (by have ht := of_decide_eq_true ht0; simp [ht]))
  have h2 := any_in (r := r) (n := n) hd (by rintro ⟨_, _, h, _⟩; cases h) _ _ _ _ h1
  have h3 : (Code.region id l.toArray true).wpIn (Fence.wide.inRound r) n P (NoPanic fun e a' w' => e = Exit.normal ∧ Q .normal a' w') a w := wpIn_region_any hm (by simpa using h2)
  refine wpIn_mono h3 ?_
  intro e a' w' h4
  have h5 := NoPanic.imp _ _ _ h4
  obtain ⟨rfl, h6⟩ := h5
  exact h6
end
end Go.Proofs.YtjkkopbhdeljmaaGreat.W
