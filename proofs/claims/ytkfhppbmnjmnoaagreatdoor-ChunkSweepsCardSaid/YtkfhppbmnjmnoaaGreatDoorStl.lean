/- THE ORDER OF STRINGS, plain -/
import Derived.Test.YtkfhppbmnjmnoaaGreatDoorLs
set_option linter.unusedSimpArgs false
set_option linter.unusedVariables false
namespace Go.Proofs.YtkfhppbmnjmnoaaGreatDoor.W
open Go Go.ChangeShapes Go.WideShapes Go.ChangeAt Go.RowKit

def ltM (a b : ByteArray) : Bool := Op.bytesLess a.toList b.toList
def eqM (a b : ByteArray) : Bool := a.toList == b.toList
theorem eqM_iff (a b : ByteArray) : eqM a b = true ↔ a = b := by
  unfold eqM
  rw [ByteArray.toList_eq, ByteArray.toList_eq]
  constructor
  · intro h
    have h := by simpa using h
    exact ByteArray.ext h
  · rintro rfl; simp
theorem eqM_ne {a b : ByteArray} : eqM a b = false ↔ a ≠ b := by
  constructor
  · intro h e
    rw [(eqM_iff a b).2 e] at h; cases h
  · intro h
    cases hq : eqM a b with
    | false => rfl
    | true => exact absurd ((eqM_iff a b).1 hq) h
theorem ml_self : ∀ x : List UInt8, Op.bytesLess x x = false
  | [] => rfl
  | a :: x => by simp [Op.bytesLess, ml_self x]
theorem ml_total : ∀ (x y : List UInt8), Op.bytesLess x y = false → x ≠ y → Op.bytesLess y x = true
  | [], [], _, h => absurd rfl h
  | [], _ :: _, h, _ => by simp [Op.bytesLess] at h
  | _ :: _, [], _, _ => by simp [Op.bytesLess]
  | a :: x, b :: y, h, hne => by
    simp only [Op.bytesLess, Bool.or_eq_false_iff, decide_eq_false_iff_not, Bool.and_eq_false_iff] at h
    simp only [Op.bytesLess, Bool.or_eq_true, decide_eq_true_eq, Bool.and_eq_true, beq_iff_eq]
    have h1 : ¬ a.toNat < b.toNat := h.1
    by_cases hab : a = b
    · subst hab
      refine .inr ⟨rfl, ml_total x y ?_ (fun e => hne (by rw [e]))⟩
      rcases h.2 with h2 | h2
      · simp at h2
      · exact h2
    · have h2 : a.toNat ≠ b.toNat := fun e => hab (UInt8.toNat_inj.1 e)
      exact .inl (show b.toNat < a.toNat by omega)
theorem ml_asym : ∀ (x y : List UInt8), Op.bytesLess x y = true → Op.bytesLess y x = false
  | [], [], h => by simp [Op.bytesLess] at h
  | [], _ :: _, _ => by simp [Op.bytesLess]
  | _ :: _, [], h => by simp [Op.bytesLess] at h
  | a :: x, b :: y, h => by
    simp only [Op.bytesLess, Bool.or_eq_true, decide_eq_true_eq, Bool.and_eq_true, beq_iff_eq] at h
    simp only [Op.bytesLess, Bool.or_eq_false_iff, decide_eq_false_iff_not, Bool.and_eq_false_iff]
    rcases h with h | ⟨rfl, h⟩
    · refine ⟨fun h2 => ?_, .inl ?_⟩
      · have h1 : a.toNat < b.toNat := h
        have h3 : b.toNat < a.toNat := h2
        omega
      · simp; intro e; subst e; exact absurd (show b.toNat < b.toNat from h) (by omega)
    · exact ⟨fun h2 => absurd (show a.toNat < a.toNat from h2) (by omega), .inr (ml_asym x y h)⟩
theorem ltM_asym {a b : ByteArray} (h : ltM a b = true) : ltM b a = false := ml_asym _ _ h
theorem ltM_self (a : ByteArray) : ltM a a = false := ml_self _
theorem ltM_total {a b : ByteArray} (h : ltM a b = false) (he : a ≠ b) : ltM b a = true :=
  ml_total _ _ h (fun e => he ((eqM_iff a b).1 (by unfold eqM; rw [e]; simp)))
end Go.Proofs.YtkfhppbmnjmnoaaGreatDoor.W
