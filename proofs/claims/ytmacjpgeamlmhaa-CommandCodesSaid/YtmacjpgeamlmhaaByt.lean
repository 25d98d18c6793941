/- BYTES: Clone, Equal of the library; numbers and texts that are read of what was written, and back. -/
import Derived.Test.YtmacjpgeamlmhaaPackR5
import Derived.Test.YtmacjpgeamlmhaaFro
import Derived.Test.YtmacjpgeamlmhaaTail
import Derived.Test.YtmacjpgeamlmhaaOwn
set_option linter.unusedSimpArgs false
set_option linter.unusedVariables false
namespace Go.Proofs.Ytmacjpgeamlmhaa.W
open Go Go.ChangeShapes Go.WideShapes Go.ChangeAt Go.RowKit
open Go.Proofs.Ytmacjpgeamlmhaa.P (enc dec)

theorem str_eqb2 (a b : ByteArray) : (a.toList == b.toList) = decide (a.data.toList = b.data.toList) := by
  rw [ByteArray.toList_eq, ByteArray.toList_eq]
  rw [Bool.eq_iff_iff]; simp
set_option maxHeartbeats 400000 in
theorem fclone (a : Option Addr) (len cap : Nat) (l : List UInt8) (w : World) (hr : Rd w a len cap l) (hmax : len ≤ 140737488355000) :
    Calls Try.prog 93 #[.slice a len cap] w fun e w' => ∃ v, e = .returned v ∧ Fr w' w.heap.size v l ∧ Below w.heap.size w w' := by
  have HR := Lib.hid hr
  have hnil := fun (w : World) (a : Option Addr) (n c : Nat) => Lib.run_eql_slice_nil (P := Try.prog) w 26 5 a n c 0 0 Try.underlying26
  rcases a with _ | ad
  · have h0 := hr.hnil rfl
    have h1 := hr.hle
    have h2 := hr.hlen
    obtain rfl : len = 0 := by omega
    have : l = [] := List.eq_nil_of_length_eq_zero h2
    subst this h0
    clear hr h1 h2
    go_enter Try.func93, Try.ntmps93
    go_wp2_with fail
    go_ret
    exact ⟨_, rfl, Fr.nil _ _, Below.refl _ _⟩
  · clear hr
    go_enter Try.func93, Try.ntmps93
    go_wp2_with (at_builtin; refine append_rd rfl _ _ rfl w.heap.size _ [] rfl (Fr.empty w _ (Nat.le_refl _)) _ _ _ l rfl (HR.out.mono ((Below.refl _ _).alloc (Nat.le_refl _) _)) (by simp; omega) (by simp) ?_; intro v2 w2 hf2 hb2 _)
    go_ret
    exact ⟨_, rfl, hf2, ((Below.refl _ _).alloc (Nat.le_refl _) _).trans hb2⟩
theorem numR_zero {most : Int} {l : List UInt8} {e : Int} (h : (numR most l e).2.2 ≠ 0) : (numR most l e).1 = 0 := by
  unfold numR at h ⊢
  split
  · rfl
  · rename_i h1
    rw [if_neg h1] at h
    split
    · rfl
    · rename_i h2
      rw [if_neg h2] at h
      split
      · rfl
      · rename_i h3; rw [if_neg h3] at h; simp at h
theorem textR_none {most : Int} {l : List UInt8} {e : Int} (h : (textR most l e).2.2 ≠ 0) : (textR most l e).1 = [] := by
  unfold textR at h ⊢
  split
  · rfl
  · rename_i h1
    rw [if_neg h1] at h
    split
    · rfl
    · rename_i h2; rw [if_neg h2] at h; simp at h
theorem num_enc (most : Int) (n : Nat) (t : List UInt8) (hn : n < 9223372036854775808) (hm : ¬ most < (n : Int)) : numR most (enc n ++ t) 0 = (n, t, 0) := by
  have h := P.dec_enc n hn t
  rw [numR_ok (by rw [h]) (by rw [h]; exact hm), h]
  simp
theorem text_enc (most : Int) (s : ByteArray) (t : List UInt8) (hn : s.size < 9223372036854775808) (hm : ¬ most < (s.size : Int)) : textR most (enc s.size ++ (s.data.toList ++ t)) 0 = (s.data.toList, t, 0) := by
  have h := num_enc most s.size (s.data.toList ++ t) hn hm
  unfold textR
  rw [h]
  have hl : s.data.toList.length = s.size := by simp
  simp only
  rw [if_neg (by simp), if_neg (by simp), List.take_left' hl, List.drop_left' hl]
theorem num_back (most : Int) (l : List UInt8) (h : (numR most l 0).2.2 = 0) : enc (numR most l 0).1 ++ (numR most l 0).2.1 = l ∧ ((numR most l 0).1 : Int) ≤ most := by
  by_cases h1 : (dec 9 0 0 l).2.2 = 0
  · by_cases h2 : most < ((dec 9 0 0 l).1 : Int)
    · rw [numR_long h1 h2] at h; simp at h
    · rw [numR_ok h1 h2]
      simp only
      rw [P.enc_dec9 l h1, List.take_append_drop]
      exact ⟨rfl, by omega⟩
  · rw [numR_bad h1] at h; exact absurd h h1
theorem text_back (most : Int) (l : List UInt8) (h : (textR most l 0).2.2 = 0) : enc (textR most l 0).1.length ++ ((textR most l 0).1 ++ (textR most l 0).2.1) = l ∧ ((textR most l 0).1.length : Int) ≤ most := by
  unfold textR at h ⊢
  by_cases h1 : (numR most l 0).2.2 = 0
  · obtain ⟨b1, b2⟩ := num_back most l h1
    by_cases h2 : (numR most l 0).2.1.length < (numR most l 0).1
    · rw [if_neg (by simp [h1]), if_pos h2] at h; simp at h
    · rw [if_neg (by simp [h1]), if_neg h2]
      simp only
      rw [List.take_append_drop, List.length_take, Nat.min_eq_left (by omega)]
      exact ⟨b1, b2⟩
  · rw [if_pos h1] at h; exact absurd h h1
theorem numR_le {most : Int} {l : List UInt8} (hm : 0 ≤ most) (h : (numR most l 0).2.2 = 0 ∨ (numR most l 0).2.2 ≠ 0) : ((numR most l 0).1 : Int) ≤ most := by
  rcases h with h | h
  · exact (num_back most l h).2
  · rw [numR_zero h]; exact hm
theorem textR_err {m : Int} {l : List UInt8} {e : Int} (h : e ≠ 0) : (textR m l e).2.2 = e := by
  unfold textR
  rw [numR_err h, if_pos h]
end Go.Proofs.Ytmacjpgeamlmhaa.W
