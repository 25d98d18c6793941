/- PLAIN MATHEMATICS of checked sums: no program. CONTRACTS of layer 1 (nums), the third part: sums of lists; awake. -/
import Derived.WalkKit
import Derived.Test.YtiopcojkdglapaaNumsW
set_option linter.unusedSimpArgs false
set_option linter.unusedVariables false
namespace Go.Proofs.Ytiopcojkdglapaa.S
/-- the sum, on from acc: the number and the error -/
def sumG (most acc : Int) : List Int → Int × Int
  | [] => (acc, 0)
  | n :: l => if n < 0 ∨ 9223372036854775807 < acc + n ∨ most < acc + n then (0, 8) else sumG most (acc + n) l
def total : List Int → Int
  | [] => 0
  | n :: l => n + total l
theorem total_nonneg (l : List Int) (h : ∀ n ∈ l, 0 ≤ n) : 0 ≤ total l := by
  induction l with
  | nil => exact Int.le_refl _
  | cons n l ih =>
    have h1 := h n (by simp)
    have h2 := ih (fun m hm => h m (by simp [hm]))
    simp only [total]; omega
theorem total_append (l m : List Int) : total (l ++ m) = total l + total m := by
  induction l with
  | nil => simp [total]
  | cons n l ih => simp only [List.cons_append, total, ih]; omega
theorem total_reverse (l : List Int) : total l.reverse = total l := by
  induction l with
  | nil => rfl
  | cons n l ih => rw [List.reverse_cons, total_append, ih]; simp only [total]; omega
/-- a sum is OK where none is below 0 and the whole keeps its limits -/
theorem sumG_ok (most : Int) (l : List Int) : ∀ acc, 0 ≤ acc → (∀ n ∈ l, 0 ≤ n) → (l = [] ∨ (acc + total l ≤ 9223372036854775807 ∧ acc + total l ≤ most)) → sumG most acc l = (acc + total l, 0) := by
  induction l with
  | nil => intro acc _ _ _; simp [sumG, total]
  | cons n l ih =>
    intro acc ha hn ht
    have h1 := hn n (by simp)
    have hl : ∀ m ∈ l, 0 ≤ m := fun m hm => hn m (by simp [hm])
    have h2 := total_nonneg l hl
    have ht' : acc + (n + total l) ≤ 9223372036854775807 ∧ acc + (n + total l) ≤ most := by
      rcases ht with h | h
      · cases h
      · exact h
    simp only [sumG, total]
    rw [if_neg (by omega), ih (acc + n) (by omega) hl (.inr (by omega))]
    congr 1; omega
theorem sumG_bad (most : Int) (l : List Int) : ∀ acc, 0 ≤ acc → ¬ ((∀ n ∈ l, 0 ≤ n) ∧ (l = [] ∨ (acc + total l ≤ 9223372036854775807 ∧ acc + total l ≤ most))) → sumG most acc l = (0, 8) := by
  induction l with
  | nil => intro acc _ h; exact absurd ⟨by simp, .inl rfl⟩ h
  | cons n l ih =>
    intro acc ha h
    simp only [sumG]
    split
    · rfl
    · rename_i hc
      apply ih (acc + n) (by omega)
      rintro ⟨h1, h2⟩
      apply h
      refine ⟨?_, .inr ?_⟩
      · intro m hm
        rcases List.mem_cons.1 hm with e | e
        · omega
        · exact h1 m e
      · simp only [total]
        rcases h2 with e | e
        · subst e; simp only [total]; omega
        · omega
/-- the sum does not hang on the order -/
theorem sumG_reverse (most : Int) (l : List Int) : sumG most 0 l.reverse = sumG most 0 l := by
  by_cases h : (∀ n ∈ l, 0 ≤ n) ∧ (l = [] ∨ (0 + total l ≤ 9223372036854775807 ∧ 0 + total l ≤ most))
  · rw [sumG_ok most l 0 (by omega) h.1 h.2, sumG_ok most l.reverse 0 (by omega) (by simpa using h.1) (by rw [total_reverse]; simpa using h.2), total_reverse]
  · rw [sumG_bad most l 0 (by omega) h, sumG_bad most l.reverse 0 (by omega) (by rw [total_reverse]; simpa using h)]
theorem sumG_rng (most : Int) (l : List Int) : ∀ acc, 0 ≤ acc → acc ≤ 9223372036854775807 → 0 ≤ (sumG most acc l).1 ∧ (sumG most acc l).1 ≤ 9223372036854775807 := by
  induction l with
  | nil => intro acc h1 h2; exact ⟨h1, h2⟩
  | cons n l ih =>
    intro acc h1 h2
    simp only [sumG]
    split
    · decide
    · exact ih _ (by omega) (by omega)
theorem drop_getD (l : List Int) (k : Nat) (h : k < l.length) : l.drop k = l.getD k 0 :: l.drop (k + 1) := by
  rw [List.drop_eq_getElem_cons h]; simp [h]
end Go.Proofs.Ytiopcojkdglapaa.S

namespace Go.Proofs.Ytiopcojkdglapaa.W
open Go.ChangeShapes Go.WideShapes Go.ChangeAt Go.RowKit
open Go.Proofs.Ytiopcojkdglapaa.B Go.Proofs.Ytiopcojkdglapaa.S

theorem nadd_in (a b : Int) (w : World) (a1 : -9223372036854775808 ≤ a) (a2 : a ≤ 9223372036854775807) (b1 : -9223372036854775808 ≤ b) (b2 : b ≤ 9223372036854775807)
    (h1 : -9223372036854775808 ≤ a + b) (h2 : a + b ≤ 9223372036854775807) :
    Calls Try.prog 144 #[.int .i64 a, .int .i64 b] w fun e w' => e = .returned (.tuple #[.int .i64 (a + b), .int .i64 0]) ∧ w = w' := by
  have h := nadd a b w (WalkArith.wf_i64 ⟨a1, a2⟩) (WalkArith.wf_i64 ⟨b1, b2⟩)
  rw [cv_in h1 h2, ce_in h1 h2] at h; exact h
theorem nadd_out (a b : Int) (w : World) (a1 : -9223372036854775808 ≤ a) (a2 : a ≤ 9223372036854775807) (b1 : -9223372036854775808 ≤ b) (b2 : b ≤ 9223372036854775807)
    (h : a + b < -9223372036854775808 ∨ 9223372036854775807 < a + b) :
    Calls Try.prog 144 #[.int .i64 a, .int .i64 b] w fun e w' => e = .returned (.tuple #[.int .i64 0, .int .i64 8]) ∧ w = w' := by
  have h' := nadd a b w (WalkArith.wf_i64 ⟨a1, a2⟩) (WalkArith.wf_i64 ⟨b1, b2⟩)
  rw [cv_out h, ce_out h] at h'; exact h'


set_option maxHeartbeats 1000000 in
theorem rsum (most : Int) (a : Option Addr) (len cap : Nat) (l : List Int) (w : World) (hrow : Sl .i64 w a len l) :
    Calls Try.prog 146 #[.int .i64 most, .slice a len cap] w fun e w' => e = .returned (.tuple #[.int .i64 (sumG most 0 l).1, .int .i64 (sumG most 0 l).2]) ∧ w = w' := by
  obtain ⟨hl, hmax, hb, hc⟩ := hrow
  by_cases h0 : len = 0
  · subst h0
    have : l = [] := List.eq_nil_of_length_eq_zero hl
    subst this
    clear hb hc hl hmax
    go_enter Try.func146, Try.ntmps146
    go_wp2
    go_loop [6, 7] (fun s i => s = .int .i64 0 ∧ i = .int .i64 0) (fun _ _ => 0)
    case atStart => exact ⟨rfl, rfl⟩
    case round =>
      obtain ⟨rfl, rfl⟩ := hrel
      go_wp2
      go_ret2
      exact ⟨rfl, rfl⟩
  · obtain ⟨b, off, rfl, hlt0, hcell⟩ := hc.resolve_left h0
    clear hlt0
    have HC := Lib.hid hcell
    have HB := Lib.hid hb
    have HL := Lib.hid hl
    clear hcell hb hc hl
    go_enter Try.func146, Try.ntmps146
    go_wp2
    go_loop [6, 7] (fun s i => ∃ (k : Nat) (x : Int), k ≤ len ∧ i = .int .i64 k ∧ s = .int .i64 x ∧ 0 ≤ x ∧ x ≤ 9223372036854775807 ∧ Hid (sumG most 0 l = sumG most x (l.drop k))) (fun _ i => len - (intOf i).toNat)
    case atStart => exact ⟨0, 0, Nat.zero_le _, rfl, rfl, by omega, by omega, Lib.hid rfl⟩
    case round =>
      obtain ⟨k, x, hk, rfl, rfl, x1, x2, HS⟩ := hrel
      by_cases hlt : k < len
      · have hcell := HC.out k hlt
        have hd := drop_getD l k (by rw [HL.out]; exact hlt)
        have hmem : l.getD k 0 ∈ l := by
          have hk' : k < l.length := by rw [HL.out]; exact hlt
          have e : l.getD k 0 = l[k] := by simp [hk']
          rw [e]; exact List.getElem_mem _
        obtain ⟨n1, n2⟩ := bd (HB.out _ hmem)
        have hs := HS.out
        rw [hd] at hs
        simp only [sumG] at hs
        clear hmem hd
        generalize l.getD k 0 = n at *
        by_cases c1 : n < 0
        · rw [if_pos (.inl c1)] at hs
          have HS' := Lib.hid hs
          clear hs
          go_wp2
          go_ret2
          exact ⟨by rw [HS'.out]; rfl, rfl⟩
        · by_cases c2 : 9223372036854775807 < x + n
          · rw [if_pos (.inr (.inl c2))] at hs
            have HS' := Lib.hid hs
            clear hs
            go_wp2
            go_ret2
            exact ⟨by rw [HS'.out]; rfl, rfl⟩
          · by_cases c3 : most < x + n
            · rw [if_pos (.inr (.inr c3))] at hs
              have HS' := Lib.hid hs
              clear hs
              go_wp2
              go_ret2
              exact ⟨by rw [HS'.out]; rfl, rfl⟩
            · rw [if_neg (by omega)] at hs
              have HS' := Lib.hid hs
              clear hs
              go_wp2
              go_round
              case rel => exact ⟨k + 1, x + n, by omega, by go_num, rfl, by omega, by omega, HS'⟩
              case measure => simp [intOf]; omega
      · obtain rfl : k = len := by omega
        have e : l.drop k = [] := List.drop_eq_nil_of_le (by rw [HL.out]; omega)
        have hs := HS.out
        rw [e] at hs
        have HS' := Lib.hid hs
        clear hs e
        go_wp2
        go_ret2
        exact ⟨by rw [HS'.out]; rfl, rfl⟩



end Go.Proofs.Ytiopcojkdglapaa.W
