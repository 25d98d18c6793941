/- CONTRACTS of layer 6 (caveat): a list's bytes, of both. -/
import Derived.Test.YtagblhkihammdaaCavD
namespace Go.Proofs.Ytagblhkihammdaa.W
open Go.ChangeShapes Go.WideShapes Go.ChangeAt Go.RowKit
open Go.Proofs.Ytagblhkihammdaa.P (enc)

theorem flat_step (L : List Cv) (k : Nat) (h : k < L.length) : (L.take (k + 1)).flatMap putA = (L.take k).flatMap putA ++ putA (L.getD k default) := by
  rw [List.take_succ_eq_append_getElem h, List.flatMap_append]
  simp [h]

set_option maxRecDepth 100000 in
set_option maxHeartbeats 1000000 in
theorem ccode_any (a : Option Addr) (len cap : Nat) (L : List Cv) (w : World) (h : Cvs w a len cap L) (hmax : len ≤ 1000000) :
    Calls Try.prog 10 #[.slice a len cap] w fun e w' => ∃ v, e = .returned v ∧ Fr w' w.heap.size v (codeL L) ∧ Below w.heap.size w w' := by
  have HL := Lib.hid h.hlen
  have hm := h.hmax
  have hle := h.hle
  have H := Lib.hid h
  have el : (enc len).length ≤ 9 := P.enc_len len (by omega)
  obtain ⟨E, hE⟩ : ∃ E, enc len = E := ⟨_, rfl⟩
  rw [hE] at el
  have HE := Lib.hid hE
  have HEL := Lib.hid el
  clear h hE el
  go_enter Try.func10, Try.ntmps10
  go_wp2_with (first
    | (go_at_call 29; refine (pnum none 0 0 (len : Int) [] w (Rd_nil w) (by omega) (by omega)).mono ?_; rw [Int.toNat_natCast, HE.out, List.nil_append, Nat.zero_add]; rintro e w1 ⟨rfl, hk1, hb1, hz1⟩; have HF1 := Lib.hid (hk1.fr (Nat.le_refl _) (by have := HEL.out; omega)); have HB1 := Lib.hid hb1; clear hk1 hb1 hz1))
  have HF0 : Hid (Fr w1 w.heap.size (.slice (some ⟨w.heap.size, 0, none⟩) E.length E.length) (E ++ (L.take 0).flatMap putA)) := by
    apply Lib.hid
    simpa using HF1.out
  go_loopw [3, 11] (fun v i wr => ∃ (k n c : Nat) (x : Option Addr), v = .slice x n c ∧ i = .int .i64 (k : Int) ∧ k ≤ len ∧ Hid (Fr wr w.heap.size (.slice x n c) (E ++ (L.take k).flatMap putA)) ∧ Hid (Below w.heap.size w wr)) (fun _ i _ => len - (intOf i).toNat)
  case atStart => exact ⟨0, _, _, _, rfl, rfl, Nat.zero_le _, HF0, HB1⟩
  case round =>
    obtain ⟨k, n, c, x, rfl, rfl, hk, HF, HB⟩ := hrel
    by_cases hlt : k < len
    · obtain ⟨b, off, rfl, hblt, hcell⟩ := H.out.at (by omega)
      obtain ⟨x0, x1, x2⟩ := hcell k hlt
      have hfit := H.out.fitAt hlt
      have hst := flat_step L k (by rw [HL.out]; exact hlt)
      have hll := flat_len (L.take k)
      rcases hce : L.getD k default with ⟨kind, num, name⟩
      rw [hce] at x0 x1 x2 hfit hst
      simp only at x0 x1 x2
      rw [← HB.out.cell (p := ⟨b, off + k * 3, none⟩) hblt] at x0
      rw [← HB.out.cell (p := ⟨b, off + k * 3 + 1, none⟩) hblt] at x1
      rw [← HB.out.cell (p := ⟨b, off + k * 3 + 2, none⟩) hblt] at x2
      have HFIT := Lib.hid hfit
      have hpl := putA_len ⟨kind, num, name⟩
      obtain ⟨PA, hPA⟩ : ∃ PA, putA ⟨kind, num, name⟩ = PA := ⟨_, rfl⟩
      obtain ⟨DN, hDN⟩ : ∃ DN, (L.take k).flatMap putA = DN := ⟨_, rfl⟩
      rw [hPA] at hpl hst
      rw [hDN] at hst hll HF
      have HST := Lib.hid hst
      obtain ⟨n5, hn5⟩ : ∃ n, (E ++ (L.take (k + 1)).flatMap putA).length = n := ⟨_, rfl⟩
      have HN5 := Lib.hid hn5
      clear hn5
      have HPA := Lib.hid hPA
      have hlk : (L.take k).length ≤ k := by simp; omega
      have HBND := Lib.hid (show (E ++ DN).length + PA.length ≤ 100000000 by have := HEL.out; rw [List.length_append]; omega)
      have HPL := Lib.hid (show PA.length ≤ 100000000 by omega)
      clear hcell hfit hst hce hPA hDN hpl hll hlk
      go_wp2_with (first
        | (go_at_call 8; refine (cput_any ⟨kind, num, name⟩ none 0 0 [] _ HFIT.out (Rd_nil _) (by omega)).mono ?_; rw [List.nil_append, HPA.out]; rintro e w4 ⟨v4, rfl, hf4, hb4⟩; obtain ⟨a4, c4, hv4, hr4⟩ := hf4.form' PA.length rfl; subst hv4; have HRD4 := Lib.hid hr4; have HB4 := Lib.hid ((HB.out.alloc HB.out.size _).trans (hb4.mono (HB.out.alloc HB.out.size _).size)); have HF4 := Lib.hid ((HF.out.alloc _).kept hb4); clear hf4 hb4 hr4)
        | (at_builtin; refine append_rd rfl _ _ rfl w.heap.size _ _ rfl HF4.out _ _ _ PA rfl HRD4.out (by have := HBND.out; omega) HB4.out.size ?_; intro v5 w5 hf5 hb5 _; rw [List.append_assoc, ← HST.out] at hf5; obtain ⟨a5, c5, hv5, -⟩ := hf5.form' n5 HN5.out; subst hv5; have HF5 := Lib.hid hf5; have HB5 := Lib.hid (HB4.out.trans hb5); clear hf5 hb5))
      go_roundw
      case rel => exact ⟨k + 1, _, _, _, rfl, vint (by omega), by omega, HF5, HB5⟩
      case measure => simp [intOf]; omega
    · obtain rfl : k = len := by omega
      have hf := HF.out
      have e1 : E ++ (L.take k).flatMap putA = codeL L := by
        rw [List.take_of_length_le (by rw [HL.out]; exact Nat.le_refl _), ← HE.out, codeL, HL.out]
      rw [e1] at hf
      have HFF := Lib.hid hf
      clear hf e1
      go_wp2_with fail
      go_ret
      exact ⟨_, rfl, HFF.out, HB.out⟩

set_option maxRecDepth 100000 in
set_option maxHeartbeats 1000000 in
theorem ucode_any (a : Option Addr) (len cap : Nat) (L : List Cv) (w : World) (h : Cvs w a len cap L) (hmax : len ≤ 1000000) :
    Calls Try.prog 11 #[.slice a len cap] w fun e w' => ∃ v, e = .returned v ∧ Fr w' w.heap.size v (codeL L) ∧ Below w.heap.size w w' := by
  have HL := Lib.hid h.hlen
  have hm := h.hmax
  have hle := h.hle
  have H := Lib.hid h
  have el : (enc len).length ≤ 9 := P.enc_len len (by omega)
  obtain ⟨E, hE⟩ : ∃ E, enc len = E := ⟨_, rfl⟩
  rw [hE] at el
  have HE := Lib.hid hE
  have HEL := Lib.hid el
  clear h hE el
  go_enter Try.func11, Try.ntmps11
  go_wp2_with (first
    | (go_at_call 32; refine (rnum none 0 0 (len : Int) [] w (Rd_nil w) (by omega) (by omega)).mono ?_; rw [Int.toNat_natCast, HE.out, List.nil_append]; rintro e w1 ⟨v1, rfl, hf1, hb1⟩; obtain ⟨a1, c1, hv1, -⟩ := hf1.form' _ rfl; subst hv1; have HF1 := Lib.hid hf1; have HB1 := Lib.hid hb1; clear hf1 hb1))
  have HF0 : Hid (Fr w1 w.heap.size (.slice a1 E.length c1) (E ++ (L.take 0).flatMap putA)) := by
    apply Lib.hid
    simpa using HF1.out
  go_loopw [3, 4] (fun v i wr => ∃ (k n c : Nat) (x : Option Addr), v = .slice x n c ∧ i = .int .i64 (k : Int) ∧ k ≤ len ∧ Hid (Fr wr w.heap.size (.slice x n c) (E ++ (L.take k).flatMap putA)) ∧ Hid (Below w.heap.size w wr)) (fun _ i _ => len - (intOf i).toNat)
  case atStart => exact ⟨0, _, _, _, rfl, rfl, Nat.zero_le _, HF0, HB1⟩
  case round =>
    obtain ⟨k, n, c, x, rfl, rfl, hk, HF, HB⟩ := hrel
    by_cases hlt : k < len
    · obtain ⟨b, off, rfl, hblt, hcell⟩ := H.out.at (by omega)
      obtain ⟨x0, x1, x2⟩ := hcell k hlt
      have hfit := H.out.fitAt hlt
      have hst := flat_step L k (by rw [HL.out]; exact hlt)
      have hll := flat_len (L.take k)
      rcases hce : L.getD k default with ⟨kind, num, name⟩
      rw [hce] at x0 x1 x2 hfit hst
      simp only at x0 x1 x2
      rw [← HB.out.cell (p := ⟨b, off + k * 3, none⟩) hblt] at x0
      rw [← HB.out.cell (p := ⟨b, off + k * 3 + 1, none⟩) hblt] at x1
      rw [← HB.out.cell (p := ⟨b, off + k * 3 + 2, none⟩) hblt] at x2
      have HFIT := Lib.hid hfit
      obtain ⟨PA, hPA⟩ : ∃ PA, putA ⟨kind, num, name⟩ = PA := ⟨_, rfl⟩
      obtain ⟨DN, hDN⟩ : ∃ DN, (L.take k).flatMap putA = DN := ⟨_, rfl⟩
      rw [hPA] at hst
      rw [hDN] at hst hll HF
      have HST := Lib.hid hst
      obtain ⟨n5, hn5⟩ : ∃ n, (E ++ (L.take (k + 1)).flatMap putA).length = n := ⟨_, rfl⟩
      have HN5 := Lib.hid hn5
      clear hn5
      have HPA := Lib.hid hPA
      have hlk : (L.take k).length ≤ k := by simp; omega
      obtain ⟨a6, c6, hv6, hr6⟩ := HF.out.form' _ rfl
      simp only [Value.slice.injEq] at hv6
      obtain ⟨q1, q2, q3⟩ := hv6
      subst q1 q3
      rw [← q2] at hr6
      have HRD := Lib.hid hr6
      have HQ2 := Lib.hid q2
      clear q2
      have HBND := Lib.hid (show (E ++ DN).length ≤ 100000000 by have := HEL.out; rw [List.length_append]; omega)
      clear hcell hfit hst hce hPA hDN hll hlk hr6
      go_wp2_with (first
        | (go_at_call 9; refine (uput_any ⟨kind, num, name⟩ _ _ _ (E ++ DN) _ HFIT.out HRD.out (by have := HBND.out; have := HQ2.out; omega)).mono ?_; rw [List.append_assoc, HPA.out, ← HST.out]; rintro e w4 ⟨v4, rfl, hf4, hb4⟩; obtain ⟨a4, c4, hv4, -⟩ := hf4.form' n5 HN5.out; subst hv4; have HF4 := Lib.hid (hf4.base HB.out.size); have HB4 := Lib.hid (HB.out.trans (hb4.mono HB.out.size)); clear hf4 hb4))
      go_roundw
      case rel => exact ⟨k + 1, _, _, _, rfl, vint (by omega), by omega, HF4, HB4⟩
      case measure => simp [intOf]; omega
    · obtain rfl : k = len := by omega
      have hf := HF.out
      have e1 : E ++ (L.take k).flatMap putA = codeL L := by
        rw [List.take_of_length_le (by rw [HL.out]; exact Nat.le_refl _), ← HE.out, codeL, HL.out]
      rw [e1] at hf
      have HFF := Lib.hid hf
      clear hf e1
      go_wp2_with fail
      go_ret
      exact ⟨_, rfl, HFF.out, HB.out⟩

end Go.Proofs.Ytagblhkihammdaa.W
