/- CONTRACTS of layer 1 (nums), the third part: sums of lists; awake. -/
import Derived.Test.YtckfggffoohcjaaNumsWb
import Derived.Test.YtckfggffoohcjaaSumP
set_option linter.unusedSimpArgs false
set_option linter.unusedVariables false
namespace Go.Proofs.Ytckfggffoohcjaa.W
open Go.ChangeShapes Go.WideShapes Go.ChangeAt Go.RowKit
open Go.Proofs.Ytckfggffoohcjaa.B Go.Proofs.Ytckfggffoohcjaa.S

theorem nadd_in (a b : Int) (w : World) (a1 : -9223372036854775808 ≤ a) (a2 : a ≤ 9223372036854775807) (b1 : -9223372036854775808 ≤ b) (b2 : b ≤ 9223372036854775807)
    (h1 : -9223372036854775808 ≤ a + b) (h2 : a + b ≤ 9223372036854775807) :
    Calls Try.prog 71 #[.int .i64 a, .int .i64 b] w fun e w' => e = .returned (.tuple #[.int .i64 (a + b), .int .i64 0]) ∧ w = w' := by
  have h := nadd a b w (WalkArith.wf_i64 ⟨a1, a2⟩) (WalkArith.wf_i64 ⟨b1, b2⟩)
  rw [cv_in h1 h2, ce_in h1 h2] at h; exact h
theorem nadd_out (a b : Int) (w : World) (a1 : -9223372036854775808 ≤ a) (a2 : a ≤ 9223372036854775807) (b1 : -9223372036854775808 ≤ b) (b2 : b ≤ 9223372036854775807)
    (h : a + b < -9223372036854775808 ∨ 9223372036854775807 < a + b) :
    Calls Try.prog 71 #[.int .i64 a, .int .i64 b] w fun e w' => e = .returned (.tuple #[.int .i64 0, .int .i64 8]) ∧ w = w' := by
  have h' := nadd a b w (WalkArith.wf_i64 ⟨a1, a2⟩) (WalkArith.wf_i64 ⟨b1, b2⟩)
  rw [cv_out h, ce_out h] at h'; exact h'


set_option maxHeartbeats 1000000 in
theorem rsum (most : Int) (a : Option Addr) (len cap : Nat) (l : List Int) (w : World) (hrow : Sl .i64 w a len l) :
    Calls Try.prog 74 #[.int .i64 most, .slice a len cap] w fun e w' => e = .returned (.tuple #[.int .i64 (sumG most 0 l).1, .int .i64 (sumG most 0 l).2]) ∧ w = w' := by
  obtain ⟨hl, hmax, hb, hc⟩ := hrow
  by_cases h0 : len = 0
  · subst h0
    have : l = [] := List.eq_nil_of_length_eq_zero hl
    subst this
    clear hb hc hl hmax
    go_enter Try.func74, Try.ntmps74
    go_wp2
    go_loop [6, 7] (fun s i => s = .int .i64 0 ∧ i = .int .i64 0) (fun _ _ => 0)
    case atStart => exact ⟨rfl, rfl⟩
    case round =>
      obtain ⟨rfl, rfl⟩ := hrel
      go_wp2
      go_ret2
      exact ⟨rfl, rfl⟩
  · obtain ⟨b, off, rfl, hlt0, hcell⟩ := hc.resolve_left h0
    clear hlt0
    have HC := Lib.hid hcell
    have HB := Lib.hid hb
    have HL := Lib.hid hl
    clear hcell hb hc hl
    go_enter Try.func74, Try.ntmps74
    go_wp2
    go_loop [6, 7] (fun s i => ∃ (k : Nat) (x : Int), k ≤ len ∧ i = .int .i64 k ∧ s = .int .i64 x ∧ 0 ≤ x ∧ x ≤ 9223372036854775807 ∧ Hid (sumG most 0 l = sumG most x (l.drop k))) (fun _ i => len - (intOf i).toNat)
    case atStart => exact ⟨0, 0, Nat.zero_le _, rfl, rfl, by omega, by omega, Lib.hid rfl⟩
    case round =>
      obtain ⟨k, x, hk, rfl, rfl, x1, x2, HS⟩ := hrel
      by_cases hlt : k < len
      · have hcell := HC.out k hlt
        have hd := drop_getD l k (by rw [HL.out]; exact hlt)
        have hmem : l.getD k 0 ∈ l := by
          have hk' : k < l.length := by rw [HL.out]; exact hlt
          have e : l.getD k 0 = l[k] := by simp [hk']
          rw [e]; exact List.getElem_mem _
        obtain ⟨n1, n2⟩ := bd (HB.out _ hmem)
        have hs := HS.out
        rw [hd] at hs
        simp only [sumG] at hs
        clear hmem hd
        generalize l.getD k 0 = n at *
        by_cases c1 : n < 0
        · rw [if_pos (.inl c1)] at hs
          have HS' := Lib.hid hs
          clear hs
          go_wp2
          go_ret2
          exact ⟨by rw [HS'.out]; rfl, rfl⟩
        · by_cases c2 : 9223372036854775807 < x + n
          · rw [if_pos (.inr (.inl c2))] at hs
            have HS' := Lib.hid hs
            clear hs
            go_wp2
            go_ret2
            exact ⟨by rw [HS'.out]; rfl, rfl⟩
          · by_cases c3 : most < x + n
            · rw [if_pos (.inr (.inr c3))] at hs
              have HS' := Lib.hid hs
              clear hs
              go_wp2
              go_ret2
              exact ⟨by rw [HS'.out]; rfl, rfl⟩
            · rw [if_neg (by omega)] at hs
              have HS' := Lib.hid hs
              clear hs
              go_wp2
              go_round
              case rel => exact ⟨k + 1, x + n, by omega, by go_num, rfl, by omega, by omega, HS'⟩
              case measure => simp [intOf]; omega
      · obtain rfl : k = len := by omega
        have e : l.drop k = [] := List.drop_eq_nil_of_le (by rw [HL.out]; omega)
        have hs := HS.out
        rw [e] at hs
        have HS' := Lib.hid hs
        clear hs e
        go_wp2
        go_ret2
        exact ⟨by rw [HS'.out]; rfl, rfl⟩



end Go.Proofs.Ytckfggffoohcjaa.W
