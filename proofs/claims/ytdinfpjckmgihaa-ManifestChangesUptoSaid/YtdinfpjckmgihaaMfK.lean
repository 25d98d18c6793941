/- LAYER 20 (manifest): slices.Equal of strings. -/
import Derived.Test.YtdinfpjckmgihaaMfJ
set_option linter.unusedSimpArgs false
set_option linter.unusedVariables false
namespace Go.Proofs.Ytdinfpjckmgihaa.W
open Go Go.ChangeShapes Go.WideShapes Go.ChangeAt Go.RowKit
open Go.Proofs.Ytdinfpjckmgihaa.P (enc dec)
open Go.Proofs.Ytdinfpjckmgihaa.S

theorem str_next (L M : List ByteArray) (k : Nat) (x : ByteArray) (h1 : L[k]? = some x) (h2 : M[k]? = some x) (e : L.take k = M.take k) : L.take (k + 1) = M.take (k + 1) := by
  obtain ⟨a1, a2⟩ := List.getElem?_eq_some_iff.1 h1
  obtain ⟨b1, b2⟩ := List.getElem?_eq_some_iff.1 h2
  rw [List.take_succ_eq_append_getElem a1, List.take_succ_eq_append_getElem b1, a2, b2, e]
set_option maxRecDepth 100000 in
set_option maxHeartbeats 16000000 in
theorem strequal (a a' : Option Addr) (n c n' c' : Nat) (L M : List ByteArray) (w : World) (V : Bool) (h1 : Ls strE w a n c L) (h2 : Ls strE w a' n' c' M) (hV : V = true ↔ L = M) :
    Calls Try.prog 22 #[.slice a n c, .slice a' n' c'] w fun x w' => x = .returned (.bool V) ∧ Below w.heap.size w w' := by
  have H1 := Lib.hid h1
  have H2 := Lib.hid h2
  have L1 := Lib.hid h1.hlen
  have L2 := Lib.hid h2.hlen
  have HV := Lib.hid hV
  have hm := h1.hmax
  have hle := h1.hle
  clear h1 h2 hV
  by_cases hn : n = n'
  case neg =>
    have HF := Lib.hid (show V = false by
      cases hh : V with
      | false => rfl
      | true => exact absurd (by rw [← L1.out, ← L2.out, HV.out.1 hh]) hn)
    have gn : ((n : Int) == (n' : Int)) = false := beq_eq_false_iff_ne.2 (by omega)
    have gm : ¬ ((n : Int) = (n' : Int)) := by omega
    clear HV
    go_enter Try.func22, Try.ntmps22
    go_wp2_with fail
    go_ret
    exact ⟨one (vbool (by rw [HF.out])), Below.refl _ _⟩
  subst hn
  go_enter Try.func22, Try.ntmps22
  go_wp2_with fail
  go_loopw [13] (fun i wr => ∃ k : Nat, i = .int .i64 (k : Int) ∧ k ≤ n ∧ Hid (L.take k = M.take k) ∧ Hid (Below w.heap.size w wr)) (fun i _ => n - (intOf i).toNat)
  case atStart => exact ⟨0, rfl, Nat.zero_le _, Lib.hid rfl, Lib.hid (Below.refl _ _)⟩
  case round =>
    obtain ⟨k, rfl, hk, P, B⟩ := hrel
    by_cases hlt : k < n
    · obtain ⟨b, o, x, rfl, hx1, hc1, -⟩ := H1.out.at strOk B.out k hlt
      obtain ⟨b', o', y, rfl, hx2, hc2, -⟩ := H2.out.at strOk B.out k hlt
      have g1 : (0 : Int) ≤ (k : Int) := by omega
      have g2 : (k : Int) < (n : Int) := by omega
      have d1 : wr.cell? ⟨b, o + k, none⟩ = some (.string x) := by have := hc1 0 (.string x) rfl; rw [show o + k * strE.k + 0 = o + k by show o + k * 1 + 0 = o + k; omega] at this; exact this
      have d2 : wr.cell? ⟨b', o' + k, none⟩ = some (.string y) := by have := hc2 0 (.string y) rfl; rw [show o' + k * strE.k + 0 = o' + k by show o' + k * 1 + 0 = o' + k; omega] at this; exact this
      clear hc1 hc2
      by_cases hxy : x = y
      · subst hxy
        have HN := Lib.hid (str_next L M k x hx1 hx2 P.out)
        clear hx1 hx2
        go_wp2_with fail
        go_quiet (fail)
        go_wp2_with fail
        go_roundw
        case rel => exact ⟨k + 1, vint (by omega), by omega, HN, Lib.hid (below_drewN B.out _)⟩
        case measure => simp [intOf]; omega
      · have HF := Lib.hid (show V = false by
          cases hh : V with
          | false => rfl
          | true =>
            have := HV.out.1 hh
            rw [this, hx2] at hx1
            exact absurd (Option.some.inj hx1).symm hxy)
        have ne1 : (x.toList == y.toList) = false := eqM_ne.2 hxy
        have ne3 : ¬ x.toList = y.toList := fun e => by rw [e] at ne1; simp at ne1
        have ne2 : (x.toList != y.toList) = true := by rw [bne, ne1]; rfl
        clear hx1 hx2 hxy
        go_wp2_with fail
        go_quiet (fail)
        go_wp2_with fail
        go_ret
        exact ⟨one (vbool (by rw [HF.out])), below_drewN B.out _⟩
    · obtain rfl : n = k := by omega
      have HT := Lib.hid (show V = true from HV.out.2 (by
        have := P.out
        rwa [List.take_of_length_le (by rw [L1.out]; exact Nat.le_refl _), List.take_of_length_le (by rw [L2.out]; exact Nat.le_refl _)] at this))
      go_wp2_with fail
      go_ret
      exact ⟨one (vbool (by rw [HT.out])), B.out⟩
end Go.Proofs.Ytdinfpjckmgihaa.W
