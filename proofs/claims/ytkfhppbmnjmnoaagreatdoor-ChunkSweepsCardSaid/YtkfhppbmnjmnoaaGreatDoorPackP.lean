/- PLAIN MATHEMATICS of layer 2 (pack): a number's bytes, groups of seven bits; no program. -/
import Derived.WalkKit
import Derived.Laws.BitsAllLaws
import Derived.Test.YtkfhppbmnjmnoaaGreatDoorBitsP
set_option linter.unusedSimpArgs false
set_option linter.unusedVariables false
namespace Go.Proofs.YtkfhppbmnjmnoaaGreatDoor.P
open Go.RowKit

/-- a group with the mark, and one without -/
def mk (d : Nat) : UInt8 := UInt8.ofNat (d % 128 + 128)
def lo (d : Nat) : UInt8 := UInt8.ofNat (d % 128)
theorem mk_nat (d : Nat) : (mk d).toNat = d % 128 + 128 := by unfold mk; rw [UInt8.toNat_ofNat']; omega
theorem lo_nat (d : Nat) : (lo d).toNat = d % 128 := by unfold lo; rw [UInt8.toNat_ofNat']; omega

/-- the groups above the lowest one, all with the mark -/
def hi (n : Nat) : List UInt8 := if n = 0 then [] else hi (n / 128) ++ [mk n]
termination_by n
decreasing_by omega
theorem hi_zero : hi 0 = [] := by unfold hi; simp
theorem hi_pos {n : Nat} (h : n ≠ 0) : hi n = hi (n / 128) ++ [mk n] := by
  conv => lhs; unfold hi
  rw [if_neg h]
/-- a number's bytes -/
def enc (n : Nat) : List UInt8 := hi (n / 128) ++ [lo n]
theorem enc_len_pos (n : Nat) : 1 ≤ (enc n).length := by unfold enc; simp
theorem hi_len (n k : Nat) (h : n < 128 ^ k) : (hi n).length ≤ k := by
  induction k generalizing n with
  | zero => have : n = 0 := by simpa using h
            subst this; rw [hi_zero]; simp
  | succ k ih =>
    by_cases h0 : n = 0
    · subst h0; rw [hi_zero]; simp
    · rw [hi_pos h0, List.length_append]
      have := ih (n / 128) (by rw [Nat.pow_succ] at h; exact Nat.div_lt_of_lt_mul (by omega))
      simp; omega
theorem enc_len (n : Nat) (h : n < 9223372036854775808) : (enc n).length ≤ 9 := by
  unfold enc; rw [List.length_append]
  have := hi_len (n / 128) 8 (by omega)
  simp; omega
/-- how many bytes: one, and one more as long as the number has more groups -/
theorem enc_len_lt {n : Nat} (h : n < 128) : (enc n).length = 1 := by
  unfold enc; rw [show n / 128 = 0 by omega, hi_zero]; rfl
theorem enc_len_ge {n : Nat} (h : 128 ≤ n) : (enc n).length = (enc (n / 128)).length + 1 := by
  unfold enc; rw [hi_pos (by omega)]; simp

/-- the lowest j groups, all with the mark -/
def tl : Nat → Nat → List UInt8
  | 0, _ => []
  | j + 1, n => tl j (n / 128) ++ [mk n]
theorem tl_len (j : Nat) : ∀ n, (tl j n).length = j := by
  induction j with
  | zero => intro n; rfl
  | succ j ih => intro n; simp [tl, ih]
theorem tl_hi (j : Nat) : ∀ n, (hi n).length = j → tl j n = hi n := by
  induction j with
  | zero =>
    intro n h
    have := List.eq_nil_of_length_eq_zero h
    rw [this]; rfl
  | succ j ih =>
    intro n h
    by_cases h0 : n = 0
    · subst h0; rw [hi_zero] at h; simp at h
    · rw [hi_pos h0] at h ⊢
      simp at h
      simp only [tl]; rw [ih _ h]
/-- all groups with the mark; then the last one's mark goes -/
theorem tl_enc (n : Nat) : ∃ p, tl (enc n).length n = p ++ [mk n] ∧ enc n = p ++ [lo n] := by
  refine ⟨hi (n / 128), ?_, rfl⟩
  have e : (enc n).length = (hi (n / 128)).length + 1 := by unfold enc; simp
  rw [e]
  simp only [tl]; rw [tl_hi _ _ rfl]

theorem or128 : ∀ d : Fin 128, bits .or .u8 (d.val : Int) 128 = ((d.val + 128 : Nat) : Int) := by decide +kernel
theorem andNot128 : ∀ d : Fin 128, bits .andNot .u8 ((d.val + 128 : Nat) : Int) 128 = (d.val : Int) := by decide +kernel
theorem or_mk (n : Nat) : bits .or .u8 (((n % 128 : Nat)) : Int) 128 = ((mk n).toNat : Int) := by
  have := or128 ⟨n % 128, by omega⟩
  rw [mk_nat]; exact this
theorem andNot_mk (n : Nat) : bits .andNot .u8 ((mk n).toNat : Int) 128 = ((lo n).toNat : Int) := by
  have := andNot128 ⟨n % 128, by omega⟩
  rw [mk_nat, lo_nat]; exact this

/-! ### reading -/
/-- what the bytes begin with: the number, how many bytes it has, the error; f: how many more bytes it may have, i: how many were read -/
def dec : Nat → Nat → Nat → List UInt8 → Nat × Nat × Int
  | 0, _, _, _ => (0, 0, 3)
  | _ + 1, _, _, [] => (0, 0, 4)
  | f + 1, i, acc, x :: t =>
    if i = 0 ∧ x.toNat = 128 then (0, 0, 3)
    else if x.toNat < 128 then (acc * 128 + x.toNat % 128, i + 1, 0)
    else dec f (i + 1) (acc * 128 + x.toNat % 128) t
theorem dec_size (f : Nat) : ∀ i acc l, (dec f i acc l).2.2 = 0 → i < (dec f i acc l).2.1 ∧ (dec f i acc l).2.1 ≤ i + l.length ∧ (dec f i acc l).2.1 ≤ i + f := by
  induction f with
  | zero => intro i acc l h; simp [dec] at h
  | succ f ih =>
    intro i acc l
    cases l with
    | nil => intro h; simp [dec] at h
    | cons x t =>
      simp only [dec]
      split
      · intro h; simp at h
      · split
        · intro _; simp
        · intro h
          have := ih _ _ _ h
          simp; omega
theorem dec_err (f : Nat) : ∀ i acc l, (dec f i acc l).2.2 = 0 ∨ ((dec f i acc l).2.2 = 3 ∨ (dec f i acc l).2.2 = 4) ∧ (dec f i acc l).1 = 0 ∧ (dec f i acc l).2.1 = 0 := by
  induction f with
  | zero => intro i acc l; right; simp [dec]
  | succ f ih =>
    intro i acc l
    cases l with
    | nil => right; simp [dec]
    | cons x t =>
      simp only [dec]
      split
      · right; simp
      · split
        · left; rfl
        · exact ih _ _ _
theorem dec_lt (f : Nat) : ∀ i acc l B, acc < B → (dec f i acc l).1 < B * 128 ^ f := by
  induction f with
  | zero => intro i acc l B h; simp [dec]; try omega
  | succ f ih =>
    intro i acc l B h
    have hp : 0 < 128 ^ f := Nat.pow_pos (by decide)
    have h1 : B * 128 ^ (f + 1) = (B * 128) * 128 ^ f := by rw [Nat.pow_succ, Nat.mul_assoc, Nat.mul_comm 128]
    have hB : B * 128 ≤ (B * 128) * 128 ^ f := Nat.le_mul_of_pos_right _ hp
    cases l with
    | nil => simp only [dec]; rw [h1]; omega
    | cons x t =>
      simp only [dec]
      rw [h1]
      split
      · omega
      · split
        · omega
        · exact ih _ _ _ _ (by omega)
theorem dec_rng (l : List UInt8) : (dec 9 0 0 l).1 < 9223372036854775808 := by
  have := dec_lt 9 0 0 l 1 (by omega)
  simpa using this

theorem hi_mark (n : Nat) : ∀ x ∈ hi n, 128 ≤ x.toNat := by
  induction n using Nat.strongRecOn with
  | _ n ih =>
    by_cases h0 : n = 0
    · subst h0; rw [hi_zero]; simp
    · rw [hi_pos h0]
      intro x hx
      rcases List.mem_append.1 hx with h | h
      · exact ih _ (by omega) x h
      · rw [List.mem_singleton.1 h, mk_nat]; omega
theorem hi_head (n : Nat) (h : n ≠ 0) : ∃ x r, hi n = x :: r ∧ x.toNat ≠ 128 := by
  induction n using Nat.strongRecOn with
  | _ n ih =>
    rw [hi_pos h]
    by_cases h1 : n / 128 = 0
    · refine ⟨mk n, [], by rw [h1, hi_zero]; rfl, ?_⟩
      rw [mk_nat]; omega
    · obtain ⟨x, r, e, hx⟩ := ih (n / 128) (by omega) h1
      exact ⟨x, r ++ [mk n], by rw [e]; rfl, hx⟩
/-- the number of marked groups -/
def val (acc : Nat) (l : List UInt8) : Nat := l.foldl (fun a x => a * 128 + x.toNat % 128) acc
theorem val_hi (n : Nat) : val 0 (hi n) = n := by
  induction n using Nat.strongRecOn with
  | _ n ih =>
    by_cases h0 : n = 0
    · subst h0; rw [hi_zero]; rfl
    · rw [hi_pos h0]
      unfold val at ih ⊢
      rw [List.foldl_append, ih _ (by omega)]
      simp only [List.foldl_cons, List.foldl_nil]; rw [mk_nat]; omega
/-- reading goes over marked groups -/
theorem dec_over (ms : List UInt8) : ∀ f i acc t, (∀ x ∈ ms, 128 ≤ x.toNat) → (i ≠ 0 ∨ ∀ x r, ms = x :: r → x.toNat ≠ 128) → dec (f + ms.length) i acc (ms ++ t) = dec f (i + ms.length) (val acc ms) t := by
  induction ms with
  | nil => intro f i acc t _ _; rfl
  | cons x r ih =>
    intro f i acc t hm h0
    have hx := hm x (by simp)
    rw [List.length_cons, show f + (r.length + 1) = (f + r.length) + 1 by omega, List.cons_append]
    simp only [dec]
    rw [if_neg, if_neg (by omega), ih _ _ _ _ (fun y hy => hm y (by simp [hy])) (.inl (by omega))]
    · congr 1; omega
    · rintro ⟨e1, e2⟩
      rcases h0 with h | h
      · exact h e1
      · exact h x r rfl e2
theorem dec_enc (n : Nat) (h : n < 9223372036854775808) (t : List UInt8) : dec 9 0 0 (enc n ++ t) = (n, (enc n).length, 0) := by
  have hl := enc_len n h
  have e : (enc n).length = (hi (n / 128)).length + 1 := by unfold enc; simp
  obtain ⟨f, hf⟩ : ∃ f, 9 = (f + 1) + (hi (n / 128)).length := ⟨8 - (hi (n / 128)).length, by omega⟩
  unfold enc
  rw [hf, List.append_assoc, dec_over _ _ _ _ _ (hi_mark _) ?_, val_hi]
  · simp only [List.cons_append, List.nil_append, dec]
    rw [if_neg, if_pos (by rw [lo_nat]; omega), lo_nat]
    · simp; omega
    · rintro ⟨-, h2⟩; rw [lo_nat] at h2; omega
  · right
    intro x r hx
    by_cases h0 : n / 128 = 0
    · rw [h0, hi_zero] at hx; cases hx
    · obtain ⟨y, s, hy, hne⟩ := hi_head _ h0
      rw [hy] at hx; cases hx; exact hne
/-- what was read has just the bytes that were taken -/
theorem enc_dec (f : Nat) : ∀ i n0 l, i = (hi n0).length → (i = 0 ↔ n0 = 0) → (dec f i n0 l).2.2 = 0 → hi n0 ++ l.take ((dec f i n0 l).2.1 - i) = enc (dec f i n0 l).1 := by
  induction f with
  | zero => intro i n0 l _ _ h; simp [dec] at h
  | succ f ih =>
    intro i n0 l hi0 hz
    cases l with
    | nil => intro h; simp [dec] at h
    | cons x t =>
      simp only [dec]
      split
      · intro h; simp at h
      · rename_i hn
        split
        · rename_i hx
          intro _
          simp only [show i + 1 - i = 1 by omega]
          unfold enc
          rw [show (n0 * 128 + x.toNat % 128) / 128 = n0 by omega]
          congr 1
          simp
          apply UInt8.toNat_inj.1
          rw [lo_nat]; omega
        · rename_i hx
          intro h
          have hne : n0 * 128 + x.toNat % 128 ≠ 0 := by
            intro e
            have : i = 0 := hz.2 (by omega)
            have hx2 := x.toNat_lt
            exact hn ⟨this, by omega⟩
          have e1 : hi (n0 * 128 + x.toNat % 128) = hi n0 ++ [x] := by
            rw [hi_pos hne, show (n0 * 128 + x.toNat % 128) / 128 = n0 by omega]
            congr 2
            apply UInt8.toNat_inj.1
            have hx2 := x.toNat_lt
            rw [mk_nat]; omega
          have h2 := ih (i + 1) _ t (by rw [e1]; simp; omega) ⟨fun h => by omega, fun h => absurd h hne⟩ h
          have h3 := dec_size _ _ _ _ h
          rw [← h2, e1, List.append_assoc]
          congr 1
          rw [show (dec f (i + 1) (n0 * 128 + x.toNat % 128) t).2.1 - i = ((dec f (i + 1) (n0 * 128 + x.toNat % 128) t).2.1 - (i + 1)) + 1 by omega]
          rfl
theorem enc_dec9 (l : List UInt8) (h : (dec 9 0 0 l).2.2 = 0) : enc (dec 9 0 0 l).1 = l.take (dec 9 0 0 l).2.1 := by
  have := enc_dec 9 0 0 l (by rw [hi_zero]; rfl) (by simp) h
  rw [hi_zero] at this
  simpa using this.symm

/-! ### the reference's groups -/
/-- a number's groups, the highest first, without marks -/
def gr (n : Nat) : List UInt8 := if n < 128 then [lo n] else gr (n / 128) ++ [lo n]
termination_by n
decreasing_by omega
theorem gr_lt {n : Nat} (h : n < 128) : gr n = [lo n] := by unfold gr; rw [if_pos h]
theorem gr_ge {n : Nat} (h : ¬ n < 128) : gr n = gr (n / 128) ++ [lo n] := by
  conv => lhs; unfold gr
  rw [if_neg h]
theorem gr_len (n : Nat) : (gr n).length = (enc n).length := by
  induction n using Nat.strongRecOn with
  | _ n ih =>
    by_cases h : n < 128
    · rw [gr_lt h, enc_len_lt h]; rfl
    · rw [gr_ge h, enc_len_ge (by omega), List.length_append, ih _ (by omega)]; rfl
/-- a group gets its mark -/
def up (x : UInt8) : UInt8 := UInt8.ofNat (x.toNat + 128)
theorem up_lo (n : Nat) : up (lo n) = mk n := by
  apply UInt8.toNat_inj.1
  unfold up; rw [UInt8.toNat_ofNat', lo_nat, mk_nat]; omega
theorem up_gr (n : Nat) : (gr n).map up = hi (n / 128) ++ [mk n] := by
  induction n using Nat.strongRecOn with
  | _ n ih =>
    by_cases h : n < 128
    · rw [gr_lt h, show n / 128 = 0 by omega, hi_zero, List.map_singleton, up_lo]; rfl
    · rw [gr_ge h, List.map_append, ih _ (by omega), hi_pos (n := n / 128) (by omega), List.map_singleton, up_lo]
/-- all groups but the last one with the mark: a number's bytes -/
theorem gr_split (n : Nat) : ∃ p, gr n = p ++ [lo n] ∧ enc n = p.map up ++ [lo n] := by
  have hu := up_gr n
  by_cases h : n < 128
  · refine ⟨[], gr_lt h, ?_⟩
    unfold enc; rw [show n / 128 = 0 by omega, hi_zero]; rfl
  · refine ⟨gr (n / 128), gr_ge h, ?_⟩
    unfold enc
    rw [gr_ge h, List.map_append, List.map_singleton, up_lo] at hu
    rw [List.append_cancel_right hu]
theorem gr_small (n : Nat) : ∀ x ∈ gr n, x.toNat < 128 := by
  induction n using Nat.strongRecOn with
  | _ n ih =>
    by_cases h : n < 128
    · rw [gr_lt h]; intro x hx; rw [List.mem_singleton.1 hx, lo_nat]; omega
    · rw [gr_ge h]
      intro x hx
      rcases List.mem_append.1 hx with h2 | h2
      · exact ih _ (by omega) x h2
      · rw [List.mem_singleton.1 h2, lo_nat]; omega
end Go.Proofs.YtkfhppbmnjmnoaaGreatDoor.P
