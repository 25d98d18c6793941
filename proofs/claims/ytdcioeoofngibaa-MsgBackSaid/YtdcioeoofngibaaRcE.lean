/- LAYER 11 (record): Encode of both. -/
import Derived.Test.YtdcioeoofngibaaRcQ
import Derived.Test.YtdcioeoofngibaaRcU
set_option linter.unusedSimpArgs false
set_option linter.unusedVariables false
namespace Go.Proofs.Ytdcioeoofngibaa.W
open Go Go.ChangeShapes Go.WideShapes Go.ChangeAt Go.RowKit
open Go.Proofs.Ytdcioeoofngibaa.P (enc dec)

/-- a record's bytes -/
def encR (r : Rc) (l s : List UInt8) : List UInt8 :=
  encZ r.k ++ (if r.k = 1 then [r.i, r.t, r.f].flatMap encZ ++ (enc s.length ++ s) else if r.k = 2 then [r.t, r.v].flatMap encZ else if r.k = 3 then codeE r.e l else encZ r.i)
theorem pnum_rd (a : Option Addr) (len cap : Nat) (n : Int) (l : List UInt8) (w : World) (hr : Rd w a len cap l) (h2 : n ≤ 9223372036854775807) (hmax : len ≤ 190000) :
    Calls Try.prog 23 #[.slice a len cap, .int .i64 n] w fun x w' => ∃ a' m c', x = .returned (.slice a' m c') ∧ Rd w' a' m c' (l ++ enc n.toNat) ∧ Below w.heap.size w w' ∧ m ≤ len + 9 := by
  have h9 := P.enc_len n.toNat (by omega)
  refine (pnum a len cap n l w hr h2 (by omega)).mono ?_
  rintro x w' ⟨rfl, hk, hb, -⟩
  exact ⟨_, _, _, rfl, hk.rd' _ (by rw [List.length_append, hr.hlen]) (by omega), hb, by omega⟩
theorem chk_facts {r : Rc} {l s : List UInt8} (h : chkR r l s = 0) : fitsR r = true := by
  unfold chkR at h
  cases hf : fitsR r
  · rw [hf] at h; simp at h
  · rfl
theorem fits1 {t v i f : Int} {e : En} {a : Option Addr} {n c : Nat} (h : fitsR ⟨1, t, v, e, i, f, a, n, c⟩ = true) : (0 ≤ i ∧ i ≤ 2147483648) ∧ (0 ≤ t ∧ t ≤ 2147483648) ∧ (0 ≤ f ∧ f ≤ 127) ∧ n ≤ 131072 := by
  unfold fitsR inV at h; simpa using h
theorem fits2 {t v i f : Int} {e : En} {a : Option Addr} {n c : Nat} (h : fitsR ⟨2, t, v, e, i, f, a, n, c⟩ = true) : (0 ≤ t ∧ t ≤ 2147483648) ∧ (0 ≤ v ∧ v ≤ 7) := by
  unfold fitsR inV at h; simpa using h
theorem fits3 {t v i f : Int} {e : En} {a : Option Addr} {n c : Nat} (h : fitsR ⟨3, t, v, e, i, f, a, n, c⟩ = true) : enOk e = true := by
  unfold fitsR at h; simpa using h
theorem fits4 {t v i f : Int} {e : En} {a : Option Addr} {n c : Nat} (h : fitsR ⟨4, t, v, e, i, f, a, n, c⟩ = true) : 1 ≤ i ∧ i ≤ 2147483648 := by
  unfold fitsR inV at h; simpa using h
theorem fitsk {k t v i f : Int} {e : En} {a : Option Addr} {n c : Nat} (k1 : (k == 1) = false) (k2 : (k == 2) = false) (k3 : (k == 3) = false) (k4 : (k == 4) = false) : fitsR ⟨k, t, v, e, i, f, a, n, c⟩ = false := by
  simp only [beq_eq_false_iff_ne] at k1 k2 k3 k4
  unfold fitsR; dsimp only; rw [if_neg k1, if_neg k2, if_neg k3, if_neg k4]
/-- the bytes; none of a record that may not be -/
def encV (r : Rc) (l s : List UInt8) : List UInt8 := if chkR r l s = 0 then encR r l s else []
theorem chk01R (r : Rc) (l s : List UInt8) : chkR r l s = 0 ∨ chkR r l s = 1 := by unfold chkR; split <;> simp
end Go.Proofs.Ytdcioeoofngibaa.W
