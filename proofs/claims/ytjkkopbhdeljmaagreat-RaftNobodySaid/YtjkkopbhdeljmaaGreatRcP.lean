/- LAYER 11 (record), plain: which record may be. LAYER 11 (record): fits and Check of the program, Check of the reference. -/
import Derived.Test.YtjkkopbhdeljmaaGreatRcW
set_option linter.unusedSimpArgs false
set_option linter.unusedVariables false
namespace Go.Proofs.YtjkkopbhdeljmaaGreat.W
open Go Go.ChangeShapes Go.WideShapes Go.ChangeAt Go.RowKit
open Go.Proofs.YtjkkopbhdeljmaaGreat.P (enc dec)

def fitsR (r : Rc) : Bool :=
  if r.k = 1 then inV r.i 0 2147483648 && (inV r.t 0 2147483648 && (inV r.f 0 127 && decide (r.n ≤ 131072))) else if r.k = 2 then inV r.t 0 2147483648 && inV r.v 0 7
  else if r.k = 3 then enOk r.e else if r.k = 4 then inV r.i 1 2147483648 else false
def ownE (r : Rc) (l : List UInt8) : List UInt8 := if r.k = 3 then l else []
def ownS (r : Rc) (s : List UInt8) : List UInt8 := if r.k = 1 then s else []
def selfR (r : Rc) (l s : List UInt8) : Bool := sameR r r.own l (ownE r l) s (ownS r s)
/-- may the record be: the error's number -/
def chkR (r : Rc) (l s : List UInt8) : Int := if fitsR r && selfR r l s then 0 else 1
theorem own_e {w : World} {r : Rc} {l : List UInt8} (h : Rd w r.e.a r.e.n r.e.c l) : Rd w r.own.e.a r.own.e.n r.own.e.c (ownE r l) := by
  unfold Rc.own ownE
  by_cases h1 : r.k = 1
  · rw [if_pos h1, if_neg (by omega)]; exact Rd_nil _
  by_cases h2 : r.k = 2
  · rw [if_neg h1, if_pos h2, if_neg (by omega)]; exact Rd_nil _
  by_cases h3 : r.k = 3
  · rw [if_neg h1, if_neg h2, if_pos h3, if_pos h3]; exact h
  by_cases h4 : r.k = 4
  · rw [if_neg h1, if_neg h2, if_neg h3, if_pos h4, if_neg h3]; exact Rd_nil _
  · rw [if_neg h1, if_neg h2, if_neg h3, if_neg h4, if_neg h3]; exact Rd_nil _
theorem own_s {w : World} {r : Rc} {s : List UInt8} (h : Rd w r.a r.n r.c s) : Rd w r.own.a r.own.n r.own.c (ownS r s) := by
  unfold Rc.own ownS
  by_cases h1 : r.k = 1
  · rw [if_pos h1, if_pos h1]; exact h
  by_cases h2 : r.k = 2
  · rw [if_neg h1, if_pos h2, if_neg h1]; exact Rd_nil _
  by_cases h3 : r.k = 3
  · rw [if_neg h1, if_neg h2, if_pos h3, if_neg h1]; exact Rd_nil _
  by_cases h4 : r.k = 4
  · rw [if_neg h1, if_neg h2, if_neg h3, if_pos h4, if_neg h1]; exact Rd_nil _
  · rw [if_neg h1, if_neg h2, if_neg h3, if_neg h4, if_neg h1]; exact Rd_nil _
theorem only_e {w : World} {r : Rc} {l : List UInt8} (h : Rd w r.e.a r.e.n r.e.c l) : Rd w r.only.e.a r.only.e.n r.only.e.c (ownE r l) := by
  unfold Rc.only ownE
  by_cases h1 : r.k = 1
  · rw [if_pos h1, if_neg (by omega)]; exact Rd_nil _
  by_cases h2 : r.k = 2
  · rw [if_neg h1, if_pos h2, if_neg (by omega)]; exact Rd_nil _
  by_cases h3 : r.k = 3
  · rw [if_neg h1, if_neg h2, if_pos h3, if_pos h3]; exact h
  · rw [if_neg h1, if_neg h2, if_neg h3, if_neg h3]; exact Rd_nil _
theorem only_s {w : World} {r : Rc} {s : List UInt8} (h : Rd w r.a r.n r.c s) : Rd w r.only.a r.only.n r.only.c (ownS r s) := by
  unfold Rc.only ownS
  by_cases h1 : r.k = 1
  · rw [if_pos h1, if_pos h1]; exact h
  by_cases h2 : r.k = 2
  · rw [if_neg h1, if_pos h2, if_neg h1]; exact Rd_nil _
  by_cases h3 : r.k = 3
  · rw [if_neg h1, if_neg h2, if_pos h3, if_neg h1]; exact Rd_nil _
  · rw [if_neg h1, if_neg h2, if_neg h3, if_neg h1]; exact Rd_nil _
theorem only_own {r : Rc} (h : inV r.k 1 4 = true) : r.only = r.own := by
  obtain ⟨k, t, v, e, i, f, a, n, c⟩ := r
  unfold inV at h
  simp at h
  have : k = 1 ∨ k = 2 ∨ k = 3 ∨ k = 4 := by omega
  rcases this with rfl | rfl | rfl | rfl <;> rfl
/-- what the reference looks at -/
def okU (r : Rc) (l s : List UInt8) : Bool := inV r.k 1 4 && (sameR r r.only l (ownE r l) s (ownS r s) && (inV r.t 0 2147483648 && (inV r.v 0 7 && (inV r.i 0 2147483648 && (inV r.f 0 127 && decide (r.n ≤ 131072))))))
def chkU (r : Rc) (l s : List UInt8) : Int := if (!okU r l s || ((r.k == 3) && !enOk r.e)) || ((r.k == 4) && decide (r.i < 1)) then 1 else 0
/-- what a record that has nothing but what its kind has looks like -/
theorem self_spec {r : Rc} {l s : List UInt8} (hk : inV r.k 1 4 = true) (h : selfR r l s = true) :
    (r.k ≠ 1 → r.f = 0 ∧ s = []) ∧ (r.k ≠ 1 → r.k ≠ 4 → r.i = 0) ∧ (r.k ≠ 1 → r.k ≠ 2 → r.t = 0) ∧ (r.k ≠ 2 → r.v = 0) ∧ (r.k ≠ 3 → r.e.ix = 0 ∧ r.e.tm = 0 ∧ r.e.kd = 0 ∧ l = []) := by
  obtain ⟨k, t, v, ⟨ix, tm, kd, ea, en, ec⟩, i, f, a, n, c⟩ := r
  unfold inV at hk
  simp at hk
  have : k = 1 ∨ k = 2 ∨ k = 3 ∨ k = 4 := by omega
  rcases this with rfl | rfl | rfl | rfl
  all_goals
    simp [selfR, sameR, sameE, Rc.own, ownE, ownS] at h
    simp
    try omega
  all_goals simp_all
theorem chk_eq (r : Rc) (l s : List UInt8) (hn : s.length = r.n) : chkU r l s = chkR r l s := by
  cases hk : inV r.k 1 4
  · have h1 : okU r l s = false := by unfold okU; rw [hk]; rfl
    have h2 : fitsR r = false := by
      unfold inV at hk
      unfold fitsR
      simp at hk
      rw [if_neg (by omega), if_neg (by omega), if_neg (by omega), if_neg (by omega)]
    unfold chkU chkR; rw [h1, h2]; rfl
  · have hoo := only_own hk
    cases hs : selfR r l s
    · have h1 : okU r l s = false := by unfold okU; rw [hk, hoo]; unfold selfR at hs; rw [hs]; rfl
      unfold chkU chkR; rw [h1, hs]; simp
    · obtain ⟨a1, a2, a3, a4, a5⟩ := self_spec hk hs
      have hS : sameR r r.only l (ownE r l) s (ownS r s) = true := by rw [hoo]; exact hs
      unfold chkU chkR okU
      rw [hk, hS, hs]
      obtain ⟨k, t, v, ⟨ix, tm, kd, ea, en, ec⟩, i, f, a, n, c⟩ := r
      unfold inV at hk
      simp at hk
      dsimp only at a1 a2 a3 a4 a5 hn ⊢
      have : k = 1 ∨ k = 2 ∨ k = 3 ∨ k = 4 := by omega
      rcases this with rfl | rfl | rfl | rfl
      · have hv := a4 (by decide)
        subst hv
        unfold fitsR
        simp only [if_true]
        have e7 : inV 0 0 7 = true := by decide
        rw [e7]
        generalize inV t 0 2147483648 = b1
        generalize inV i 0 2147483648 = b2
        generalize inV f 0 127 = b3
        generalize decide (n ≤ 131072) = b4
        cases b1 <;> cases b2 <;> cases b3 <;> cases b4 <;> rfl
      · obtain ⟨hf, rfl⟩ := a1 (by decide)
        have hi := a2 (by decide) (by decide)
        subst hf hi
        have hn0 : n = 0 := by simpa using hn.symm
        subst hn0
        unfold fitsR
        simp only [show ¬ ((2 : Int) = 1) by decide, if_true, if_false]
        have e1 : inV 0 0 2147483648 = true := by decide
        have e2 : inV 0 0 127 = true := by decide
        rw [e1, e2]
        generalize inV t 0 2147483648 = b1
        generalize inV v 0 7 = b2
        cases b1 <;> cases b2 <;> rfl
      · obtain ⟨hf, rfl⟩ := a1 (by decide)
        have hi := a2 (by decide) (by decide)
        have ht := a3 (by decide) (by decide)
        have hv := a4 (by decide)
        subst hf hi ht hv
        have hn0 : n = 0 := by simpa using hn.symm
        subst hn0
        unfold fitsR
        simp only [show ¬ ((3 : Int) = 1) by decide, show ¬ ((3 : Int) = 2) by decide, if_true, if_false]
        have e1 : inV 0 0 2147483648 = true := by decide
        have e2 : inV 0 0 127 = true := by decide
        have e3 : inV 0 0 7 = true := by decide
        rw [e1, e2, e3]
        generalize enOk ⟨ix, tm, kd, ea, en, ec⟩ = b1
        cases b1 <;> rfl
      · obtain ⟨hf, rfl⟩ := a1 (by decide)
        have ht := a3 (by decide) (by decide)
        have hv := a4 (by decide)
        subst hf ht hv
        have hn0 : n = 0 := by simpa using hn.symm
        subst hn0
        unfold fitsR
        simp only [show ¬ ((4 : Int) = 1) by decide, show ¬ ((4 : Int) = 2) by decide, show ¬ ((4 : Int) = 3) by decide, if_true, if_false]
        have e1 : inV 0 0 2147483648 = true := by decide
        have e2 : inV 0 0 127 = true := by decide
        have e3 : inV 0 0 7 = true := by decide
        rw [e1, e2, e3]
        unfold inV
        by_cases h1 : i < 1
        · rw [decide_eq_true h1, decide_eq_false (show ¬ 1 ≤ i by omega)]; simp
        · rw [decide_eq_false h1, decide_eq_true (show 1 ≤ i by omega), decide_eq_true (show 0 ≤ i by omega)]
          generalize decide (i ≤ 2147483648) = b
          cases b <;> rfl
end Go.Proofs.YtjkkopbhdeljmaaGreat.W

namespace Go.Proofs.YtjkkopbhdeljmaaGreat.W
open Go Go.ChangeShapes Go.WideShapes Go.ChangeAt Go.RowKit
open Go.Proofs.YtjkkopbhdeljmaaGreat.P (enc dec)

/-- a whole struct is read -/
theorem load_all {P : Program} {o : Oper} {a : Act} {w : World} (ty : TypeId) (x : Operand) (ho : o.op = .load ty x) (g : Nat) (hx : a.eval x = .pointer (some ⟨g, 0, none⟩)) (t : TypeId) (L : List Value) (d : TypeDesc) (hr : Row w g t L)
    (hu : P.underlying ty = some d) (hd : (match d with | .struct _ | .array _ _ => true | _ => false) = true) (hi : (P.info? ty).map (·.size) = some L.length) : (execOp a.eval o).run P w = .ok (.value (.agg L.toArray)) w := by
  have hl : (loadCells ⟨g, 0, none⟩ L.length).run P w = .ok L.toArray w := run_loadCells_list (P := P) w ⟨g, 0, none⟩ L (fun j v hv => by rw [Go.WideShapes.add_plain, Nat.zero_add, hr.cellV]; exact hv)
  have hagg : (isAgg ty).run P w = .ok true w := by
    unfold isAgg
    rw [Sem.run_bind, run_underlying hu w]
    cases d <;> simp_all
  unfold execOp
  cases hq : P.info? ty with
  | none => simp [hq] at hi
  | some i =>
    have hs : i.size = L.length := by simpa [hq] using hi
    simp [ho, hx, Instr.loadAt, Instr.sureAddr, loadVar, Sem.run_bind, hagg, sizeOf, typeInfo, hq, hs, hl, Result.andThen]
theorem ch2 : ∀ b0 b1 : Bool, (b0 = false) ∨ (b0 = true ∧ b1 = false) ∨ (b0 = true ∧ b1 = true) := by decide





end Go.Proofs.YtjkkopbhdeljmaaGreat.W
