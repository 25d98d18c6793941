/- BYTES: Clone, Equal of the library; numbers and texts that are read of what was written, and back. -/
import Derived.Test.YtiopcojkdglapaaPackR5
import Derived.Test.YtiopcojkdglapaaFro
import Derived.Test.YtiopcojkdglapaaTail
import Derived.Test.YtiopcojkdglapaaOwn
set_option linter.unusedSimpArgs false
set_option linter.unusedVariables false
namespace Go.Proofs.Ytiopcojkdglapaa.W
open Go Go.ChangeShapes Go.WideShapes Go.ChangeAt Go.RowKit
open Go.Proofs.Ytiopcojkdglapaa.P (enc dec)

theorem str_eqb2 (a b : ByteArray) : (a.toList == b.toList) = decide (a.data.toList = b.data.toList) := by
  rw [ByteArray.toList_eq, ByteArray.toList_eq]
  rw [Bool.eq_iff_iff]; simp
theorem numR_zero {most : Int} {l : List UInt8} {e : Int} (h : (numR most l e).2.2 ≠ 0) : (numR most l e).1 = 0 := by
  unfold numR at h ⊢
  split
  · rfl
  · rename_i h1
    rw [if_neg h1] at h
    split
    · rfl
    · rename_i h2
      rw [if_neg h2] at h
      split
      · rfl
      · rename_i h3; rw [if_neg h3] at h; simp at h
theorem textR_none {most : Int} {l : List UInt8} {e : Int} (h : (textR most l e).2.2 ≠ 0) : (textR most l e).1 = [] := by
  unfold textR at h ⊢
  split
  · rfl
  · rename_i h1
    rw [if_neg h1] at h
    split
    · rfl
    · rename_i h2; rw [if_neg h2] at h; simp at h
theorem num_enc (most : Int) (n : Nat) (t : List UInt8) (hn : n < 9223372036854775808) (hm : ¬ most < (n : Int)) : numR most (enc n ++ t) 0 = (n, t, 0) := by
  have h := P.dec_enc n hn t
  rw [numR_ok (by rw [h]) (by rw [h]; exact hm), h]
  simp
theorem text_enc (most : Int) (s : ByteArray) (t : List UInt8) (hn : s.size < 9223372036854775808) (hm : ¬ most < (s.size : Int)) : textR most (enc s.size ++ (s.data.toList ++ t)) 0 = (s.data.toList, t, 0) := by
  have h := num_enc most s.size (s.data.toList ++ t) hn hm
  unfold textR
  rw [h]
  have hl : s.data.toList.length = s.size := by simp
  simp only
  rw [if_neg (by simp), if_neg (by simp), List.take_left' hl, List.drop_left' hl]
theorem num_back (most : Int) (l : List UInt8) (h : (numR most l 0).2.2 = 0) : enc (numR most l 0).1 ++ (numR most l 0).2.1 = l ∧ ((numR most l 0).1 : Int) ≤ most := by
  by_cases h1 : (dec 9 0 0 l).2.2 = 0
  · by_cases h2 : most < ((dec 9 0 0 l).1 : Int)
    · rw [numR_long h1 h2] at h; simp at h
    · rw [numR_ok h1 h2]
      simp only
      rw [P.enc_dec9 l h1, List.take_append_drop]
      exact ⟨rfl, by omega⟩
  · rw [numR_bad h1] at h; exact absurd h h1
theorem text_back (most : Int) (l : List UInt8) (h : (textR most l 0).2.2 = 0) : enc (textR most l 0).1.length ++ ((textR most l 0).1 ++ (textR most l 0).2.1) = l ∧ ((textR most l 0).1.length : Int) ≤ most := by
  unfold textR at h ⊢
  by_cases h1 : (numR most l 0).2.2 = 0
  · obtain ⟨b1, b2⟩ := num_back most l h1
    by_cases h2 : (numR most l 0).2.1.length < (numR most l 0).1
    · rw [if_neg (by simp [h1]), if_pos h2] at h; simp at h
    · rw [if_neg (by simp [h1]), if_neg h2]
      simp only
      rw [List.take_append_drop, List.length_take, Nat.min_eq_left (by omega)]
      exact ⟨b1, b2⟩
  · rw [if_pos h1] at h; exact absurd h h1
theorem numR_le {most : Int} {l : List UInt8} (hm : 0 ≤ most) (h : (numR most l 0).2.2 = 0 ∨ (numR most l 0).2.2 ≠ 0) : ((numR most l 0).1 : Int) ≤ most := by
  rcases h with h | h
  · exact (num_back most l h).2
  · rw [numR_zero h]; exact hm
theorem textR_err {m : Int} {l : List UInt8} {e : Int} (h : e ≠ 0) : (textR m l e).2.2 = e := by
  unfold textR
  rw [numR_err h, if_pos h]
end Go.Proofs.Ytiopcojkdglapaa.W
