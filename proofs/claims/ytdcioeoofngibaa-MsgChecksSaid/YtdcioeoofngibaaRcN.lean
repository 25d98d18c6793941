/- LAYER 11 (record): numbers behind bytes. -/
import Derived.Test.YtdcioeoofngibaaRcO
set_option linter.unusedSimpArgs false
set_option linter.unusedVariables false
namespace Go.Proofs.Ytdcioeoofngibaa.W
open Go Go.ChangeShapes Go.WideShapes Go.ChangeAt Go.RowKit
open Go.Proofs.Ytdcioeoofngibaa.P (enc dec)

theorem fr_of_blk {w : World} {g base : Nat} {L : List UInt8} (h : Blk w g L) (hg : base ≤ g) (n : Nat) (hn : L.length = n) (hm : n ≤ 9223372036854775807) : Fr w base (.slice (some ⟨g, 0, none⟩) n n) L := by
  subst hn; exact h.fr hg hm
def encZ (z : Int) : List UInt8 := enc z.toNat
theorem encZ_len (z : Int) (h : z ≤ 9223372036854775807) : (encZ z).length ≤ 9 := P.enc_len z.toNat (by omega)
theorem encz_len : ∀ (zs : List Int), (∀ z ∈ zs, z ≤ 9223372036854775807) → (zs.flatMap encZ).length ≤ 9 * zs.length
  | [], _ => by simp
  | z :: t, h => by
    have h1 := encZ_len z (h z (by simp))
    have h2 := encz_len t (fun x hx => h x (by simp [hx]))
    rw [List.flatMap_cons, List.length_append, List.length_cons]; omega
theorem encz_step (zs : List Int) (k : Nat) (h : k < zs.length) : (zs.take (k + 1)).flatMap encZ = (zs.take k).flatMap encZ ++ encZ (zs.getD k 0) := by
  rw [List.take_succ_eq_append_getElem h, List.flatMap_append]
  simp [h]
set_option maxRecDepth 100000 in
set_option maxHeartbeats 1000000 in
theorem rnumbers (a : Option Addr) (m0 c0 : Nat) (S : List UInt8) (b : Nat) (zs : List Int) (n : Nat) (w : World) (hr : Rd w a m0 c0 S) (hm0 : m0 ≤ 200000) (hn : zs.length = n) (hpos : 0 < n) (hz : n ≤ 10) (hfit : ∀ z ∈ zs, z ≤ 9223372036854775807) (hlt : b < w.heap.size)
    (hc : ∀ i, i < n → w.cell? ⟨b, i, none⟩ = some (.int .i64 (zs.getD i 0))) :
    Calls Try.prog 84 #[.slice a m0 c0, .slice (some ⟨b, 0, none⟩) n n] w fun e w' => ∃ v, e = .returned v ∧ Fr w' w.heap.size v (S ++ zs.flatMap encZ) ∧ Below w.heap.size w w' := by
  have HC := Lib.hid hc
  have HN := Lib.hid hn
  have HFIT := Lib.hid hfit
  have HLT := Lib.hid hlt
  have HR0 : Hid (Rd w a m0 c0 (S ++ (zs.take 0).flatMap encZ)) := Lib.hid (by simpa using hr)
  have HSL := Lib.hid (show S.length ≤ 200000 by rw [hr.hlen]; exact hm0)
  clear hc hn hfit hlt hr
  go_enter Try.func84, Try.ntmps84
  go_wp2_with fail
  go_loopw [0, 9] (fun v i wr => ∃ (k m c : Nat) (x : Option Addr), v = .slice x m c ∧ i = .int .i64 (k : Int) ∧ k ≤ n ∧ Hid (Rd wr x m c (S ++ (zs.take k).flatMap encZ)) ∧ Hid (0 < k → Fr wr w.heap.size (.slice x m c) (S ++ (zs.take k).flatMap encZ)) ∧ Hid (Below w.heap.size w wr)) (fun _ i _ => n - (intOf i).toNat)
  case atStart => exact ⟨0, m0, c0, a, rfl, rfl, Nat.zero_le _, HR0, Lib.hid (fun h => absurd h (by decide)), Lib.hid (Below.refl _ _)⟩
  case round =>
    obtain ⟨k, m, c, x, rfl, rfl, hk, HR, HF, HB⟩ := hrel
    have hml := HR.out.hlen
    have hel := encz_len (zs.take k) (fun z hz => HFIT.out z (List.mem_of_mem_take hz))
    have hm : m ≤ 200090 := by
      rw [← hml, List.length_append]
      have := HSL.out
      have : (zs.take k).length ≤ k := by simp; omega
      omega
    clear hml hel
    by_cases hlt : k < n
    · have hcell := HC.out k hlt
      rw [← HB.out.cell (p := ⟨b, k, none⟩) HLT.out] at hcell
      have hst := encz_step zs k (by rw [HN.out]; exact hlt)
      have hfz := HFIT.out (zs.getD k 0) (by
        have hk2 : k < zs.length := by rw [HN.out]; exact hlt
        have : zs.getD k 0 = zs[k] := by simp [hk2]
        rw [this]; exact List.getElem_mem hk2)
      obtain ⟨z, hz0⟩ : ∃ z, zs.getD k 0 = z := ⟨_, rfl⟩
      rw [hz0] at hcell hst hfz
      have hst2 : S ++ (zs.take k).flatMap encZ ++ enc z.toNat = S ++ (zs.take (k + 1)).flatMap encZ := by rw [hst, List.append_assoc]; rfl
      have HST := Lib.hid hst2
      have el := encZ_len z hfz
      unfold encZ at el
      obtain ⟨q, hq⟩ : ∃ q, (enc z.toNat).length = q := ⟨_, rfl⟩
      have HQ := Lib.hid hq
      have HLQ := Lib.hid HR.out.hlen
      rw [hq] at el
      have HLL := Lib.hid (show (S ++ (zs.take (k + 1)).flatMap encZ).length = m + q by rw [← HST.out, @List.length_append _ (S ++ _) _, HLQ.out, HQ.out])
      clear hst hst2 hz0 hq
      go_wp2_with (go_at_call 23; refine (pnum x m c z _ wr HR.out hfz (by omega)).mono ?_; rw [HST.out, HQ.out]; rintro e w4 ⟨rfl, hk4, hb4, hz4⟩; have HR4 := Lib.hid (hk4.rd' (m + q) HLL.out (by omega)); have HF4 := Lib.hid (fr_of_blk hk4 HB.out.size (m + q) HLL.out (by omega)); have HB4 := Lib.hid (HB.out.trans (hb4.mono HB.out.size)); clear hk4 hb4 hz4)
      go_roundw
      case rel => exact ⟨k + 1, m + q, m + q, _, rfl, vint (by omega), by omega, HR4, Lib.hid (fun _ => HF4.out), HB4⟩
      case measure => simp [intOf]; omega
    · obtain rfl : n = k := by omega
      have hf := HF.out hpos
      rw [List.take_of_length_le (by rw [HN.out]; exact Nat.le_refl _)] at hf
      have HFF := Lib.hid hf
      clear hf
      go_wp2_with fail
      go_ret
      exact ⟨_, rfl, HFF.out, HB.out⟩
theorem ints_in (w : World) (zs : List Int) (n : Nat) (hn : zs.length = n) (i : Nat) (hi : i < n) : (w.alloc (.cells (zs.map (Value.int .i64)).toArray 3)).cell? ⟨w.heap.size, i, none⟩ = some (.int .i64 (zs.getD i 0)) := by
  rw [cell_of_row _ w.heap.size i _ 3 _ (heap_alloc_new w _)]
  simp [hn, hi]
end Go.Proofs.Ytdcioeoofngibaa.W
