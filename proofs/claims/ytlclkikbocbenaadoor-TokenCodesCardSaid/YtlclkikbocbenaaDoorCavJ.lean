/- CONTRACTS of layer 6 (caveat): the list whose bytes these are, of both. -/
import Derived.Test.YtlclkikbocbenaaDoorCavI
import Derived.Test.YtlclkikbocbenaaDoorFrn
set_option linter.unusedSimpArgs false
set_option linter.unusedVariables false
namespace Go.Proofs.YtlclkikbocbenaaDoor.W
open Go.ChangeShapes Go.WideShapes Go.ChangeAt Go.RowKit

theorem Gw.on {w0 w w' : World} {p : Nat} (h : Gw p w0 w) (hb : Below w0.heap.size w w') : Gw p w0 w' :=
  ⟨hb.os.trans h.os, hb.tape.trans h.tape, hb.output.trans h.output, Nat.le_trans h.size hb.size, fun k hk hp => (hb.block k hk).trans (h.block k hk hp)⟩
theorem rdN_snoc (n : Nat) (l : List UInt8) (e : Int) : (rdN n l e).1 ++ [(readS (rdN n l e).2.1 (rdN n l e).2.2).1] = (rdN (n + 1) l e).1 := rfl

/-- what reading a list answers -/
def allR (l : List UInt8) (e : Int) : List Cv × List UInt8 × Int :=
  if (rdN (numR 8 l e).1 (numR 8 l e).2.1 (numR 8 l e).2.2).2.2 ≠ 0 then ([], (rdN (numR 8 l e).1 (numR 8 l e).2.1 (numR 8 l e).2.2).2) else rdN (numR 8 l e).1 (numR 8 l e).2.1 (numR 8 l e).2.2

set_option maxRecDepth 100000 in
set_option maxHeartbeats 1000000 in
theorem uall_read (p : Nat) (l : List UInt8) (e : Int) (w : World) (h : RR w p l e) :
    Calls Tryd.prog 52 #[.pointer (some ⟨p, 0, none⟩)] w fun x w' => ∃ v, x = .returned v ∧ FrN w' w.heap.size v (allR l e).1 ∧ RR w' p (allR l e).2.1 (allR l e).2.2 ∧ Gw p w w' := by
  have HPP := Lib.hid h
  obtain ⟨K, hK⟩ : ∃ K, (numR 8 l e).1 = K := ⟨_, rfl⟩
  obtain ⟨l1, hl1⟩ : ∃ l1, (numR 8 l e).2.1 = l1 := ⟨_, rfl⟩
  obtain ⟨e1, he1⟩ : ∃ e1, (numR 8 l e).2.2 = e1 := ⟨_, rfl⟩
  have hk8 : (K : Int) ≤ 8 := by
    rw [← hK]
    by_cases he : e = 0
    · subst he; exact numR_le (by decide) (Decidable.em _)
    · rw [numR_err he]; exact (by decide : ((0 : Nat) : Int) ≤ 8)
  have hpv : allR l e = if (rdN K l1 e1).2.2 ≠ 0 then ([], (rdN K l1 e1).2) else rdN K l1 e1 := by
    unfold allR; rw [hK, hl1, he1]
  obtain ⟨AL, hAL⟩ : ∃ AL, (allR l e).1 = AL := ⟨_, rfl⟩
  obtain ⟨A2, hA2⟩ : ∃ A2, (allR l e).2 = A2 := ⟨_, rfl⟩
  rw [hAL, hA2]
  rw [hpv] at hAL hA2
  have HAL := Lib.hid hAL
  have HA2 := Lib.hid hA2
  have HK := Lib.hid hK
  have HL1 := Lib.hid hl1
  have HE1 := Lib.hid he1
  obtain ⟨i0, hi0, hz0, hz1, -⟩ := info_parts infoCv
  have HI0 := Lib.hid hi0
  have HZ0 := Lib.hid hz0
  have HZ1 := Lib.hid hz1
  clear h hK hl1 he1 hpv hAL hA2 hi0 hz0 hz1
  go_enter Tryd.func52, Tryd.ntmps52
  go_wp2_with fail
  refine (rnumR p 8 l e w HPP.out).mono ?_
  rw [HK.out, HL1.out, HE1.out]
  rintro x w2 ⟨rfl, hP2, hu2⟩
  have HP2 := Lib.hid hP2
  have HB2 := Lib.hid (Gw.upd hu2)
  clear hP2 hu2
  go_wp2_with fail
  go_loopw [3, 5] (fun v i wr => ∃ n : Nat, i = .int .i64 (n : Int) ∧ n ≤ K ∧ Hid (FrN wr w.heap.size v (rdN n l1 e1).1) ∧ Hid (RR wr p (rdN n l1 e1).2.1 (rdN n l1 e1).2.2) ∧ Hid (Gw p w wr)) (fun _ i _ => K - (intOf i).toNat)
  case atStart => exact ⟨0, rfl, Nat.zero_le _, Lib.hid (FrN.nil _ _), HP2, HB2⟩
  case round =>
    obtain ⟨n, rfl, hn, HF, HP, HB⟩ := hrel
    by_cases hlt : n < K ∧ (rdN n l1 e1).2.2 = 0
    · obtain ⟨hlt, he0⟩ := hlt
      have hfit := readS_fit (rdN n l1 e1).2.1 (rdN n l1 e1).2.2
      obtain ⟨c, hc⟩ : ∃ c, (readS (rdN n l1 e1).2.1 (rdN n l1 e1).2.2).1 = c := ⟨_, rfl⟩
      rw [hc] at hfit
      have hsn := rdN_snoc n l1 e1
      rw [hc] at hsn
      have HSN := Lib.hid hsn
      have hst : (rdN (n + 1) l1 e1).2 = (readS (rdN n l1 e1).2.1 (rdN n l1 e1).2.2).2 := rfl
      have HST := Lib.hid hst
      have HC := Lib.hid hc
      have HLN := Lib.hid (rdN_len l1 e1 n)
      obtain ⟨kind, num, name⟩ := c
      have HFIT := Lib.hid hfit
      have HE0 := Lib.hid he0
      clear hfit hc hsn hst he0
      go_wp2_with (go_at_call 28; refine (rerr p _ _ wr HP.out).mono ?_; rw [HE0.out]; rintro x wq ⟨rfl, rfl⟩)
      refine (uread_any p (rdN n l1 e1).2.1 (rdN n l1 e1).2.2 wr HP.out).mono ?_
      rw [HC.out, ← HST.out]
      rintro x w3 ⟨rfl, hP3, hg3⟩
      have HP3 := Lib.hid hP3
      have HF3 := Lib.hid (HF.out.rr HP.out hg3)
      have HB3 := Lib.hid (HB.out.trans hg3)
      clear hP3 hg3
      unfold Cv.val
      go_wp2_with (first
        | (refine wpList_buildSlice rfl 23 49 1 _ rfl #[.int .i64 kind, .int .i64 num, .string name] i0 _ Tryd.underlying23 HI0.out HZ0.out (by rw [HZ1.out]; decide) (by rw [HZ1.out]; decide) (by rw [HZ1.out]; go_simp) ?_)
        | (at_builtin; refine append_frn rfl _ _ rfl w.heap.size _ _ rfl (HF3.out.kept ((Below.refl _ _).alloc (Nat.le_refl _) _)) _ _ _ [⟨kind, num, name⟩] rfl (cvs_new w3 ⟨kind, num, name⟩ HFIT.out) (by decide) (by rw [HLN.out]; omega) (by have := HB3.out.size; simp; omega) ?_; intro v5 w5 hf5 hb5 hg5; rw [HSN.out] at hf5; have HF5 := Lib.hid hf5; have HP5 := Lib.hid ((HP3.out.mono ((Below.refl _ _).alloc (Nat.le_refl _) _)).own (HF3.out.kept ((Below.refl _ _).alloc (Nat.le_refl _) _)) hg5); have HB5 := Lib.hid ((HB3.out.trans (Gw.of_below ((Below.refl _ _).alloc (Nat.le_refl _) _))).on hb5); clear hf5 hb5 hg5))
      go_roundw
      case rel => exact ⟨n + 1, vint (by omega), by omega, HF5, HP5, HB5⟩
      case measure => simp [intOf]; omega
    · have hE : (rdN K l1 e1).2 = (rdN n l1 e1).2 := by
        by_cases hlt2 : n < K
        · have hne : (rdN n l1 e1).2.2 ≠ 0 := fun h0 => hlt ⟨hlt2, h0⟩
          have := rdN_stuck l1 e1 n hne (K - n)
          rw [show n + (K - n) = K by omega] at this
          exact this
        · rw [show K = n by omega]
      have hL : (rdN n l1 e1).2.2 = 0 → (rdN K l1 e1).1 = (rdN n l1 e1).1 := by
        intro h0
        have : ¬ n < K := fun h1 => hlt ⟨h1, h0⟩
        rw [show K = n by omega]
      have hA2' := HA2.out
      have hAL' := HAL.out
      rw [hE] at hA2' hAL'
      by_cases hz : (rdN n l1 e1).2.2 = 0
      · have hKn : n = K := by
          by_cases h1 : n < K
          · exact absurd ⟨h1, hz⟩ hlt
          · omega
        rw [if_neg (by simp [hz])] at hA2' hAL'
        rw [hL hz] at hAL'
        rw [hE] at hA2'
        have HQ := Lib.hid hz
        have HAL2 := Lib.hid hAL'
        have HA22 := Lib.hid hA2'
        have b3 : ((n : Int) < (K : Int)) = False := by simp; omega
        clear hz hlt hE hL hA2' hAL' hKn
        go_wp2_with (go_at_call 28; refine (rerr p _ _ wr HP.out).mono ?_; rw [HQ.out]; rintro x wq ⟨rfl, rfl⟩)
        go_ret
        exact ⟨_, rfl, by rw [← HAL2.out]; exact HF.out, by rw [← HA22.out]; exact HP.out, HB.out⟩
      · rw [if_pos hz] at hA2' hAL'
        have HAL2 := Lib.hid hAL'
        have HA22 := Lib.hid hA2'
        obtain ⟨E, hE2⟩ : ∃ E, (rdN n l1 e1).2.2 = E := ⟨_, rfl⟩
        rw [hE2] at hz
        have HE2 := Lib.hid hE2
        have b3 : (E == 0) = false := by simpa using hz
        have b4 : (E != 0) = true := by simpa using hz
        clear hz hlt hE hL hA2' hAL' hE2
        go_wp2_with (go_at_call 28; refine (rerr p _ _ wr HP.out).mono ?_; rw [HE2.out]; rintro x wq ⟨rfl, rfl⟩)
        all_goals
          go_ret
          exact ⟨_, rfl, by rw [← HAL2.out]; exact FrN.nil _ _, by rw [← HA22.out]; exact HP.out, HB.out⟩

theorem parse_all (b : List UInt8) : parseV b = if endV (allR b 0).2.1 (allR b 0).2.2 ≠ 0 then ([], endV (allR b 0).2.1 (allR b 0).2.2) else ((allR b 0).1, 0) := by
  unfold parseV allR
  by_cases h : (rdN (numR 8 b 0).1 (numR 8 b 0).2.1 (numR 8 b 0).2.2).2.2 = 0
  · rw [if_neg (c := (rdN (numR 8 b 0).1 (numR 8 b 0).2.1 (numR 8 b 0).2.2).2.2 ≠ 0) (by simp [h])]
  · rw [if_pos (c := (rdN (numR 8 b 0).1 (numR 8 b 0).2.1 (numR 8 b 0).2.2).2.2 ≠ 0) h]
    simp only
    have he : endV (rdN (numR 8 b 0).1 (numR 8 b 0).2.1 (numR 8 b 0).2.2).2.1 (rdN (numR 8 b 0).1 (numR 8 b 0).2.1 (numR 8 b 0).2.2).2.2 ≠ 0 := by
      intro h0; exact h (endV_zero h0).1
    rw [if_pos he, if_pos he]


end Go.Proofs.YtlclkikbocbenaaDoor.W
