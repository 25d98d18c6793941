/- lists.Numbers of the program; plain: the bytes of numbers. -/
import Derived.Test.YtkmdbdieloimiaaIz
import Derived.Test.YtkmdbdieloimiaaPackR5
import Derived.Test.YtkmdbdieloimiaaByt
import Derived.Test.YtkmdbdieloimiaaTail
set_option linter.unusedSimpArgs false
set_option linter.unusedVariables false
namespace Go.Proofs.Ytkmdbdieloimiaa.W
open Go Go.ChangeShapes Go.WideShapes Go.ChangeAt Go.RowKit
open Go.Proofs.Ytkmdbdieloimiaa.P (enc dec)
open Go.Proofs.Ytkmdbdieloimiaa.S

def codeN (l : List Int) : List UInt8 := l.flatMap (fun n => enc n.toNat)
theorem codeN_step (l : List Int) (k : Nat) (n : Int) (h : l[k]? = some n) : codeN (l.take (k + 1)) = codeN (l.take k) ++ enc n.toNat := by
  obtain ⟨h1, h2⟩ := List.getElem?_eq_some_iff.1 h
  unfold codeN
  rw [List.take_succ_eq_append_getElem h1, List.flatMap_append, h2]; simp
theorem codeN_len : ∀ l : List Int, (∀ n ∈ l, SI64 n) → (codeN l).length ≤ l.length * 9
  | [], _ => by simp [codeN]
  | n :: l, h => by
    have h0 := (h n (by simp)).2
    have h1 := P.enc_len n.toNat (by omega)
    have h2 := codeN_len l (fun m hm => h m (by simp [hm]))
    simp only [codeN, List.flatMap_cons, List.length_append, List.length_cons] at h2 ⊢
    omega
theorem pnumG (a : Option Addr) (len cap : Nat) (n : Int) (l : List UInt8) (w : World) (hr : Rd w a len cap l) (h2 : n ≤ 9223372036854775807) (hmax : len ≤ 140737488355000) (T : List UInt8) (hT : l ++ enc n.toNat = T) (q : Nat) (hq : T.length = q) :
    Calls Try.prog 52 #[.slice a len cap, .int .i64 n] w fun e w' => ∃ y d, e = .returned (.slice y q d) ∧ Fr w' w.heap.size (.slice y q d) T ∧ Rd w' y q d T ∧ Below w.heap.size w w' := by
  have hl9 := P.enc_len n.toNat (by omega)
  have hll : (l ++ enc n.toNat).length = len + (enc n.toNat).length := by rw [List.length_append, hr.hlen]
  rw [hT] at hll
  refine (pnum a len cap n l w hr h2 hmax).mono ?_
  rintro x w' ⟨rfl, hbk, hb, -⟩
  rw [hT] at hbk
  have e : len + (enc n.toNat).length = q := by omega
  rw [e]
  have hf := hbk.fr (base := w.heap.size) (Nat.le_refl _) (by omega)
  rw [hq] at hf
  exact ⟨_, _, rfl, hf, hbk.rd' q hq (by omega), hb⟩
set_option maxRecDepth 100000 in
set_option maxHeartbeats 8000000 in
theorem lnumbers (a0 : Option Addr) (m0 c0 : Nat) (S : List UInt8) (a : Option Addr) (n c : Nat) (L : List Int) (w : World) (hr : Rd w a0 m0 c0 S) (hm0 : m0 ≤ 100000000) (h : Sl .i64 w a n L) (h0 : 0 < n) (hn : n ≤ 100) (T : List UInt8) (hT : S ++ codeN L = T) (q : Nat) (hq : T.length = q) :
    Calls Try.prog 69 #[.slice a0 m0 c0, .slice a n c] w fun x w' => ∃ y d, x = .returned (.slice y q d) ∧ Fr w' w.heap.size (.slice y q d) T ∧ Rd w' y q d T ∧ Below w.heap.size w w' := by
  have H := Lib.hid h
  have HL := Lib.hid h.1
  have HB := Lib.hid (fun k => codeN_len (L.take k) (fun s hs => bd (h.2.2.1 s (List.mem_of_mem_take hs))))
  have HR := Lib.hid hr
  have HSL := Lib.hid hr.hlen
  have HT := Lib.hid hT
  have HQ := Lib.hid hq
  have G0 := Lib.hid h0
  clear h hr hT hq h0
  go_enter Try.func69, Try.ntmps69
  go_wp2_with fail
  go_loopw [0, 9] (fun v i wr => ∃ (k : Nat) (y : Option Addr) (m d : Nat), v = .slice y m d ∧ i = .int .i64 (k : Int) ∧ k ≤ n ∧ Hid (Rd wr y m d (S ++ codeN (L.take k))) ∧ Hid (0 < k → Fr wr w.heap.size (.slice y m d) (S ++ codeN (L.take k))) ∧ Hid (Below w.heap.size w wr)) (fun _ i _ => n - (intOf i).toNat)
  case atStart => exact ⟨0, _, _, _, rfl, rfl, Nat.zero_le _, Lib.hid (by simpa [codeN] using HR.out), Lib.hid (fun h => absurd h (Nat.lt_irrefl _)), Lib.hid (Below.refl _ _)⟩
  case round =>
    obtain ⟨k, y, m, d, rfl, rfl, hk, R, F, B⟩ := hrel
    have hbl := HB.out k
    have hlk : (L.take k).length ≤ 100 := by rw [List.length_take]; omega
    have hm : m ≤ 100000900 := by
      have h1 := R.out.hlen
      rw [List.length_append, HSL.out] at h1
      have : (L.take k).length * 9 ≤ 100 * 9 := Nat.mul_le_mul_right _ hlk
      omega
    clear hbl hlk
    by_cases hlt : k < n
    · obtain ⟨b, o, s, rfl, hx, hcell, s1, s2⟩ := H.out.at B.out k hlt
      obtain ⟨T2, hT2⟩ : ∃ T2, (S ++ codeN (L.take k)) ++ enc s.toNat = T2 := ⟨_, rfl⟩
      obtain ⟨q2, hq2⟩ : ∃ q, T2.length = q := ⟨_, rfl⟩
      have HST := Lib.hid (show S ++ codeN (L.take (k + 1)) = T2 by rw [← hT2, codeN_step L k s hx]; simp)
      have HN := Lib.hid (pnumG y m d s _ wr R.out s2 (by omega) T2 hT2 q2 hq2)
      have g1 : (0 : Int) ≤ (k : Int) := by omega
      have g2 : (k : Int) < (n : Int) := by omega
      clear hx hT2 hq2 F R
      go_wp2_with (go_at_call 52; (with_reducible refine HN.out.mono ?_); rintro z w7 ⟨y7, d7, rfl, hf, hrd, hb⟩; have F7 := Lib.hid (hf.base B.out.size); have R7 := Lib.hid hrd; have B7 := Lib.hid (B.out.trans (hb.mono B.out.size)); clear hf hrd hb)
      go_roundw
      case rel => exact ⟨k + 1, y7, q2, d7, rfl, vint (by omega), by omega, Lib.hid (by rw [HST.out]; exact R7.out), Lib.hid (fun _ => by rw [HST.out]; exact F7.out), B7⟩
      case measure => simp [intOf]; omega
    · obtain rfl : n = k := by omega
      have ht : L.take n = L := List.take_of_length_le (by rw [HL.out]; exact Nat.le_refl _)
      rw [ht, HT.out] at R F
      have hmq : m = q := by rw [← HQ.out, ← R.out.hlen]
      subst hmq
      have F2 := Lib.hid (F.out G0.out)
      clear ht F hm
      go_wp2_with fail
      go_ret
      exact ⟨_, _, rfl, F2.out, R.out, B.out⟩
end Go.Proofs.Ytkmdbdieloimiaa.W
