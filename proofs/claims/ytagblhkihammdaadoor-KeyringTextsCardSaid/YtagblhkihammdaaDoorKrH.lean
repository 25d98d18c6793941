/- CONTRACTS of layer 7 (keyring): what tickets are of, of both. THE LAW KeyringTexts. -/
import Derived.Test.YtagblhkihammdaaDoorKrG
import Derived.Test.YtagblhkihammdaaDoorPackO
namespace Go.Proofs.YtagblhkihammdaaDoor.W
open Go Go.ChangeShapes Go.WideShapes Go.ChangeAt Go.RowKit
open Go.Proofs.YtagblhkihammdaaDoor.P (enc)

def encI (z : Int) : List UInt8 := enc z.toNat
theorem encI_len (z : Int) (h : z ≤ 9223372036854775807) : (encI z).length ≤ 9 := P.enc_len z.toNat (by omega)
theorem encs_len : ∀ (zs : List Int), (∀ z ∈ zs, z ≤ 9223372036854775807) → (zs.flatMap encI).length ≤ 9 * zs.length
  | [], _ => by simp
  | z :: t, h => by
    have h1 := encI_len z (h z (by simp))
    have h2 := encs_len t (fun x hx => h x (by simp [hx]))
    rw [List.flatMap_cons, List.length_append, List.length_cons]; omega
theorem encs_step (zs : List Int) (k : Nat) (h : k < zs.length) : (zs.take (k + 1)).flatMap encI = (zs.take k).flatMap encI ++ encI (zs.getD k 0) := by
  rw [List.take_succ_eq_append_getElem h, List.flatMap_append]
  simp [h]

set_option maxRecDepth 100000 in
set_option maxHeartbeats 1000000 in
theorem krtext_any (s : ByteArray) (hs : s.size ≤ 1000) (b : Nat) (zs : List Int) (n : Nat) (w : World) (hn : zs.length = n) (hz : n ≤ 10) (hfit : ∀ z ∈ zs, z ≤ 9223372036854775807) (hlt : b < w.heap.size)
    (hc : ∀ i, i < n → w.cell? ⟨b, i, none⟩ = some (.int .i64 (zs.getD i 0))) :
    Calls Tryd.prog 57 #[.string s, .slice (some ⟨b, 0, none⟩) n n] w fun e w' => ∃ a m c, e = .returned (.slice a m c) ∧ Rd w' a m c (s.data.toList ++ zs.flatMap encI) ∧ m ≤ 1100 ∧ Below w.heap.size w w' := by
  have HC := Lib.hid hc
  have HN := Lib.hid hn
  have HFIT := Lib.hid hfit
  have HLT := Lib.hid hlt
  have HSM := Lib.hid (show s.size ≤ maxLen by unfold maxLen; omega)
  obtain ⟨S, hS⟩ : ∃ S, s.data.toList = S := ⟨_, rfl⟩
  have hSl : S.length = s.size := by rw [← hS]; simp
  have HS := Lib.hid hS
  have HSL := Lib.hid (show S.length ≤ 1000 by omega)
  rw [hS]
  clear hc hn hfit hlt hS hSl
  go_enter Tryd.func57, Tryd.ntmps57
  go_wp2_with (with_reducible refine conv_str rfl _ rfl s rfl HSM.out ?_; intro w2 c2 hr2 hb2 hz2; rw [HS.out] at hr2; have HR2 := Lib.hid hr2; have HB2 := Lib.hid hb2; clear hr2 hb2 hz2)
  have HR0 : Hid (Rd w2 (some ⟨w.heap.size, 0, none⟩) s.size c2 (S ++ (zs.take 0).flatMap encI)) := Lib.hid (by simpa using HR2.out)
  go_loopw [5, 12] (fun v i wr => ∃ (k m c : Nat) (a : Option Addr), v = .slice a m c ∧ i = .int .i64 (k : Int) ∧ k ≤ n ∧ Hid (Rd wr a m c (S ++ (zs.take k).flatMap encI)) ∧ Hid (Below w.heap.size w wr)) (fun _ i _ => n - (intOf i).toNat)
  case atStart => exact ⟨0, s.size, c2, _, rfl, rfl, Nat.zero_le _, HR0, HB2⟩
  case round =>
    obtain ⟨k, m, c, a, rfl, rfl, hk, HR, HB⟩ := hrel
    have hml := HR.out.hlen
    have hel := encs_len (zs.take k) (fun z hz => HFIT.out z (List.mem_of_mem_take hz))
    have hm : m ≤ 1090 := by
      rw [← hml, List.length_append]
      have := HSL.out
      have : (zs.take k).length ≤ k := by simp; omega
      omega
    clear hml hel
    by_cases hlt : k < n
    · have hcell := HC.out k hlt
      rw [← HB.out.cell (p := ⟨b, k, none⟩) HLT.out] at hcell
      have hst := encs_step zs k (by rw [HN.out]; exact hlt)
      have hfz := HFIT.out (zs.getD k 0) (by
        have hk2 : k < zs.length := by rw [HN.out]; exact hlt
        have : zs.getD k 0 = zs[k] := by simp [hk2]
        rw [this]; exact List.getElem_mem hk2)
      obtain ⟨z, hz0⟩ : ∃ z, zs.getD k 0 = z := ⟨_, rfl⟩
      rw [hz0] at hcell hst hfz
      have hst2 : S ++ (zs.take k).flatMap encI ++ enc z.toNat = S ++ (zs.take (k + 1)).flatMap encI := by rw [hst, List.append_assoc]; rfl
      have HST := Lib.hid hst2
      have el := encI_len z hfz
      unfold encI at el
      obtain ⟨q, hq⟩ : ∃ q, (enc z.toNat).length = q := ⟨_, rfl⟩
      have HQ := Lib.hid hq
      have HLQ := Lib.hid HR.out.hlen
      rw [hq] at el
      clear hst hst2 hz0 hq
      go_wp2_with (go_at_call 95; refine (pnum a m c z _ wr HR.out hfz (by omega)).mono ?_; rw [HST.out, HQ.out]; rintro e w4 ⟨rfl, hk4, hb4, hz4⟩; have HR4 := Lib.hid (hk4.rd' (m + q) (by rw [← HST.out, @List.length_append _ (S ++ _) _, HLQ.out, HQ.out]) (by omega)); have HB4 := Lib.hid (HB.out.trans (hb4.mono HB.out.size)); clear hk4 hb4 hz4)
      go_roundw
      case rel => exact ⟨k + 1, m + q, m + q, _, rfl, vint (by omega), by omega, HR4, HB4⟩
      case measure => simp [intOf]; omega
    · obtain rfl : n = k := by omega
      have hr := HR.out
      rw [List.take_of_length_le (by rw [HN.out]; exact Nat.le_refl _)] at hr
      have HRR := Lib.hid hr
      clear hr
      go_wp2_with fail
      go_ret
      exact ⟨a, m, c, rfl, HRR.out, by omega, HB.out⟩

end Go.Proofs.YtagblhkihammdaaDoor.W
