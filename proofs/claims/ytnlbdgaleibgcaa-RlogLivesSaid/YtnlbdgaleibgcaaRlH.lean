/- LAYER 13 (rlog): From, ConfAt, Compact, plain. -/
import Derived.Test.YtnlbdgaleibgcaaRlC
import Derived.Test.YtnlbdgaleibgcaaRlG
set_option linter.unusedSimpArgs false
set_option linter.unusedVariables false
namespace Go.Proofs.Ytnlbdgaleibgcaa.W
open Go Go.ChangeShapes Go.WideShapes Go.ChangeAt Go.RowKit

/-- the members that entries up to a number say, on from some -/
def confL (i : Int) : Int → List Pe → Int
  | c, [] => c
  | c, x :: l => confL i (if x.1 ≤ i ∧ confIn x ≠ 0 then confIn x else c) l
def LS.confAt (q : LS) (i : Int) : Int := confL i q.c q.l
def LS.from (q : LS) (i most : Int) : List Pe := if q.has i = true then (q.l.drop (i - q.b - 1).toNat).take most.toNat else []
def LS.compact (q : LS) (i : Int) : LS × Int := if q.termE i = 0 then (⟨i, q.term i, q.confAt i, q.l.filter (fun x => !decide (x.1 ≤ i))⟩, 0) else (q, 6)
theorem confL_none (i : Int) : ∀ (l : List Pe) (c : Int), (∀ x ∈ l, x.1 ≤ i → confIn x = 0) → confL i c l = c
  | [], _, _ => rfl
  | x :: l, c, h => by
    unfold confL
    rw [if_neg (fun k => k.2 (h x List.mem_cons_self k.1))]
    exact confL_none i l c (fun y hy => h y (List.mem_cons_of_mem _ hy))
theorem confL_app (i : Int) (x : Pe) : ∀ (l : List Pe) (c : Int), confL i c (l ++ [x]) = if x.1 ≤ i ∧ confIn x ≠ 0 then confIn x else confL i c l
  | [], _ => rfl
  | y :: l, c => by
    rw [List.cons_append]
    exact confL_app i x l _
theorem confL_at (i : Int) (x : Pe) (hx : x.1 ≤ i) (h0 : confIn x ≠ 0) : ∀ (l l' : List Pe) (c : Int), (∀ y ∈ l', y.1 ≤ i → confIn y = 0) → confL i c (l ++ x :: l') = confIn x
  | [], l', c, h => by
    show confL i (if x.1 ≤ i ∧ confIn x ≠ 0 then confIn x else c) l' = _
    rw [if_pos ⟨hx, h0⟩]
    exact confL_none i l' _ h
  | y :: l, l', c, h => confL_at i x hx h0 l l' _ h
theorem rise_drop : ∀ (l : List Pe) (b i : Int), rise b l → b ≤ i → i ≤ b + l.length → rise i (l.filter (fun x => !decide (x.1 ≤ i))) ∧ l.filter (fun x => !decide (x.1 ≤ i)) = l.drop (i - b).toNat
  | [], _, _, _, _, _ => ⟨trivial, by simp⟩
  | y :: l, b, i, h, hi, hl => by
    by_cases hb : b = i
    · subst hb
      have h1 : (y :: l).filter (fun x => !decide (x.1 ≤ b)) = y :: l := by
        rw [List.filter_eq_self]
        intro x hx
        have := rise_gt _ _ h x hx
        simp; omega
      rw [h1]
      exact ⟨h, by simp⟩
    · have hy := h.1
      obtain ⟨h3, h4⟩ := rise_drop l (b + 1) i h.2 (by omega) (by simp at hl; omega)
      rw [List.filter_cons_of_neg (by simp; omega)]
      refine ⟨h3, ?_⟩
      have h2 : (i - b).toNat = (i - (b + 1)).toNat + 1 := by omega
      rw [h4, h2, List.drop_succ_cons]
theorem termE_has {q : LS} {i : Int} (h : q.termE i = 0) : q.b ≤ i ∧ i ≤ q.b + q.l.length := by
  unfold LS.termE at h
  split at h
  · rename_i h1; subst h1; omega
  · split at h
    · rename_i h1
      unfold LS.has LS.last at h1
      simp at h1
      omega
    · exact absurd h (by decide)
theorem LOK.compact {q : LS} {i : Int} (h : LOK q) (hl : q.last ≤ 4294967296) : LOK (q.compact i).1 ∧ (q.compact i).1.last = q.last ∨ (q.compact i).1 = q := by
  unfold LS.compact
  split
  · rename_i h1
    have h2 := termE_has h1
    obtain ⟨h3, h4⟩ := rise_drop q.l q.b i h.r h2.1 h2.2
    left
    have hbb := h.b
    unfold LS.last at hl
    refine ⟨⟨h3, (show 0 ≤ i ∧ i ≤ 4294967296 from ⟨by omega, by omega⟩), Nat.le_trans (List.length_filter_le _ _) h.n, fun x hx => h.x x (List.mem_filter.1 hx).1⟩, ?_⟩
    unfold LS.last
    dsimp only
    rw [h4, List.length_drop]
    omega
  · exact .inr rfl
theorem at_drop_pe (L : List (En × List UInt8)) (k m : Nat) : (L.map pe).drop k = (L.drop k).map pe := by rw [List.map_drop]
end Go.Proofs.Ytnlbdgaleibgcaa.W
