/- THE LAW CaveatBack: caveats that may be are read of their bytes, and what was read has just these bytes. -/
import Derived.Test.YtagblhkihammdaaCavJ
namespace Go.Proofs.Ytagblhkihammdaa.W
open Go.ChangeShapes Go.WideShapes Go.ChangeAt Go.RowKit

def fineV (L : List Cv) (k : Nat) : Bool := decide (L.length ≤ 8) && (L.take k).all Cv.ok
theorem fine_step (L : List Cv) (k : Nat) (h : k < L.length) : fineV L (k + 1) = (fineV L k && (L.getD k default).ok) := by
  unfold fineV
  rw [List.take_succ_eq_append_getElem h, List.all_append]
  simp [h, Bool.and_assoc]
theorem err_ok (c : Cv) : (c.err == 0) = c.ok := by
  unfold Cv.err
  rcases c.ok with _ | _ <;> rfl
theorem fine_all (L : List Cv) (h : fineV L L.length = true) : L.length ≤ 8 ∧ ∀ c ∈ L, c.ok = true := by
  unfold fineV at h
  rw [List.take_length] at h
  simp at h
  exact ⟨h.1, h.2⟩

set_option maxRecDepth 100000 in
set_option maxHeartbeats 4000000 in
theorem law_CaveatBack (a : Option Addr) (len cap : Nat) (L : List Cv) (a1 : Option Addr) (len1 cap1 : Nat) (zs : List Int) (w : World) (h : Cvs w a len cap L) (w1 : IsRow .u8 w a1 len1 cap1 zs) :
    Calls Try.prog 4 #[.slice a len cap, .slice a1 len1 cap1] w fun e w' => e = .returned (.bool true) ∧ Below w.heap.size w w' := by
  have hr := Rd.of_row w1
  obtain ⟨b, hb⟩ : ∃ l, (zs.take len1).map (fun n => UInt8.ofNat n.toNat) = l := ⟨_, rfl⟩
  rw [hb] at hr
  clear hb w1
  have hle1 := hr.hle
  have hmax1 := hr.hmax
  have HRB := Lib.hid hr
  have HLB := Lib.hid hr.hlen
  have H := Lib.hid h
  have hlen := h.hlen
  have hfitL := h.hfit
  clear h hr
  rcases hfew : fewV L with _ | _
  · have FEW := Lib.hid hfew
    clear hfew hfitL
    go_enter Try.func4, Try.ntmps4
    go_wp2_with (first
      | (go_at_call 5; refine (few_any a len cap L _ H.out).mono ?_; rw [FEW.out]; rintro e w3 ⟨rfl, hb3⟩)
      | (go_at_call 6; refine (awake6 _).mono ?_; rintro e w' ⟨rfl, hb⟩))
    go_ret
    exact ⟨rfl, (by assumption : Below w.heap.size w w3).trans ((by assumption : Below w3.heap.size w3 _).mono (by assumption : Below w.heap.size w w3).size)⟩
  have FEW := Lib.hid hfew
  have hl30 : len ≤ 30 := by
    unfold fewV at hfew
    simp only [Bool.and_eq_true, decide_eq_true_eq] at hfew
    omega
  have HL := Lib.hid hlen
  by_cases h2 : 2000 < len1
  · clear hfew hfitL hlen
    go_enter Try.func4, Try.ntmps4
    go_wp2_with (first
      | (go_at_call 5; refine (few_any a len cap L _ H.out).mono ?_; rw [FEW.out]; rintro e w3 ⟨rfl, hb3⟩)
      | (go_at_call 6; refine (awake6 _).mono ?_; rintro e w' ⟨rfl, hb⟩))
    go_ret
    exact ⟨rfl, (by assumption : Below w.heap.size w w3).trans ((by assumption : Below w3.heap.size w3 _).mono (by assumption : Below w.heap.size w w3).size)⟩
  have HFIT := Lib.hid hfitL
  have hf0 : fineV L 0 = decide (len ≤ 8) := by unfold fineV; rw [hlen]; simp
  have HF0 := Lib.hid hf0
  have hcl : (codeL L).length ≤ 9 + 40 * len := by
    unfold codeL
    have h1 := P.enc_len L.length (by omega)
    have h2 := flat_len L
    rw [List.length_append]; omega
  obtain ⟨CL, hCL⟩ : ∃ CL, codeL L = CL := ⟨_, rfl⟩
  rw [hCL] at hcl
  have HCL := Lib.hid hCL
  have HCN := Lib.hid (show CL.length ≤ 2000 by omega)
  have hback := code_parse b
  obtain ⟨Y, hY⟩ : ∃ Y, (parseV b).1 = Y := ⟨_, rfl⟩
  obtain ⟨f, hf⟩ : ∃ f, (parseV b).2 = f := ⟨_, rfl⟩
  have hy8 := parse_len b
  have hyf := parse_fit b
  rw [hY, hf] at hback
  rw [hY] at hy8 hyf
  have HY := Lib.hid hY
  have HF := Lib.hid hf
  have HY8 := Lib.hid hy8
  have HYF := Lib.hid hyf
  have HBK := Lib.hid hback
  have hpc := parse_code L
  rw [hCL] at hpc
  obtain ⟨P1, hP1⟩ : ∃ P1, (parseV CL).1 = P1 := ⟨_, rfl⟩
  obtain ⟨P2, hP2⟩ : ∃ P2, (parseV CL).2 = P2 := ⟨_, rfl⟩
  have HP1 := Lib.hid hP1
  have HP2 := Lib.hid hP2
  have HPC := Lib.hid hpc
  clear hP1 hP2 hfew hfitL hlen hf0 hcl hCL hback hY hf hy8 hyf hpc
  go_enter Try.func4, Try.ntmps4
  go_wp2_with (go_at_call 5; refine (few_any a len cap L _ H.out).mono ?_; rw [FEW.out]; rintro e w3 ⟨rfl, hb3⟩; have HB3 := Lib.hid hb3; clear hb3)
  go_loopw [5, 26] (fun v i wr => ∃ k : Nat, i = .int .i64 (k : Int) ∧ k ≤ len ∧ v = .bool (fineV L k) ∧ Hid (Below w.heap.size w wr)) (fun _ i _ => len - (intOf i).toNat)
  case atStart => exact ⟨0, rfl, Nat.zero_le _, by rw [HF0.out]; simp; omega, HB3⟩
  case round =>
    obtain ⟨k, rfl, hk, rfl, HB⟩ := hrel
    by_cases hlt : k < len
    · obtain ⟨b', off, rfl, hblt, hcell⟩ := H.out.at (by omega)
      obtain ⟨x0, x1, x2⟩ := hcell k hlt
      have hfit := H.out.fitAt hlt
      have hst := fine_step L k (by rw [HL.out]; exact hlt)
      rcases hce : L.getD k default with ⟨kind, num, name⟩
      rw [hce] at x0 x1 x2 hfit hst
      simp only at x0 x1 x2
      rw [← HB.out.cell (p := ⟨b', off + k * 3, none⟩) hblt] at x0
      rw [← HB.out.cell (p := ⟨b', off + k * 3 + 1, none⟩) hblt] at x1
      rw [← HB.out.cell (p := ⟨b', off + k * 3 + 2, none⟩) hblt] at x2
      have HFI := Lib.hid hfit
      have heo := err_ok ⟨kind, num, name⟩
      obtain ⟨E, hE⟩ : ∃ E, Cv.err ⟨kind, num, name⟩ = E := ⟨_, rfl⟩
      rw [hE] at heo
      have HE := Lib.hid hE
      rw [← heo] at hst
      have HST := Lib.hid hst
      clear hcell hfit hce hst heo hE
      rcases hfk : fineV L k with _ | _
      · rw [hfk, Bool.false_and] at HST
        clear hfk
        go_wp2_with fail
        go_roundw
        case rel => exact ⟨k + 1, vint (by omega), by omega, by rw [HST.out], Lib.hid (HB.out.alloc HB.out.size _)⟩
        case measure => simp [intOf]; omega
      · rw [hfk, Bool.true_and] at HST
        clear hfk
        go_wp2_with (go_at_call 23; refine (ccheck ⟨kind, num, name⟩ _ HFI.out).mono ?_; rw [HE.out]; rintro x w4 ⟨rfl, hb4⟩; have HB4 := Lib.hid ((HB.out.alloc HB.out.size _).trans (hb4.mono (HB.out.alloc HB.out.size _).size)); clear hb4)
        go_roundw
        case rel => exact ⟨k + 1, vint (by omega), by omega, by rw [HST.out], HB4⟩
        case measure => simp [intOf]; omega
    · obtain rfl : len = k := by omega
      have hL2 : L.length = len := HL.out
      have hfa := fine_all L
      rw [hL2] at hfa
      have HFA := Lib.hid hfa
      clear hfa hL2
      rcases hfk : fineV L len with _ | _
      all_goals
        have HFK := Lib.hid hfk
        clear hfk
        go_wp2_with fail
        refine (ccode_any a len cap L wr (H.out.mono HB.out) (by omega)).mono ?_
        rw [HCL.out]
        rintro x w5 ⟨v5, rfl, hf5, hb5⟩
        obtain ⟨a5, c5, hv5, hr5⟩ := hf5.form' CL.length rfl
        subst hv5
        have HR5 := Lib.hid hr5
        have HB5 := Lib.hid (HB.out.trans (hb5.mono HB.out.size))
        clear hf5 hb5 hr5
        go_wp2_with fail
        refine (cparse_any a5 CL.length c5 CL w5 HR5.out (by have := HCN.out; omega)).mono ?_
        rw [HP1.out, HP2.out]
        rintro x w6 ⟨v6, rfl, hf6, hb6⟩
        have HF6 := Lib.hid hf6
        have HB6 := Lib.hid (HB5.out.trans (hb6.mono HB5.out.size))
        clear hf6 hb6
      · go_wp2_with fail
        refine (cparse_any a1 len1 cap1 b w6 (HRB.out.mono HB6.out) (by omega)).mono ?_
        rw [HY.out, HF.out]
        rintro x w8 ⟨v8, rfl, hf8, hb8⟩
        obtain ⟨a8, c8, hv8, hc8⟩ := hf8.frc.cvs HYF.out
        obtain ⟨ny, hny⟩ : ∃ ny, Y.length = ny := ⟨_, rfl⟩
        rw [hny] at hv8 hc8
        have hny8 : ny ≤ 8 := by have := HY8.out; omega
        subst hv8
        have HC8 := Lib.hid hc8
        have HB8 := Lib.hid (HB6.out.trans (hb8.mono HB6.out.size))
        clear hf8 hb8 hc8 hny
        by_cases hf0 : f = 0
        · have HBK2 := Lib.hid (HBK.out hf0)
          subst hf0
          go_wp2_with fail
          refine (ccode_any a8 ny c8 Y w8 HC8.out (by omega)).mono ?_
          rw [HBK2.out]
          rintro x w9 ⟨v9, rfl, hf9, hb9⟩
          obtain ⟨a9, c9, hv9, hr9⟩ := hf9.form' len1 HLB.out
          subst hv9
          have HR9 := Lib.hid hr9
          have HB9 := Lib.hid (HB8.out.trans (hb9.mono HB8.out.size))
          clear hf9 hb9 hr9
          go_wp2_with fail
          refine (sequal a9 a1 len1 len1 c9 cap1 b b w9 HR9.out (HRB.out.mono HB9.out)).mono ?_
          rw [decide_eq_true rfl]
          rintro x w10 ⟨rfl, hq⟩
          have HB10 := Lib.hid (HB9.out.trans (hq.below w9.heap.size |>.mono HB9.out.size))
          clear hq
          go_wp2_with (go_at_call 6; refine (awake6 w10).mono ?_; rintro x w11 ⟨rfl, hb11⟩)
          go_ret
          exact ⟨rfl, HB10.out.trans (hb11.mono HB10.out.size)⟩
        · have b3 : (f != 0) = true := by simpa using hf0
          clear hf0
          go_wp2_with (go_at_call 6; refine (awake6 w8).mono ?_; rintro x w11 ⟨rfl, hb11⟩)
          go_ret
          exact ⟨rfl, HB8.out.trans (hb11.mono HB8.out.size)⟩
      · have hpc2 := HPC.out (fun c hc => ⟨(HFA.out HFK.out).2 c hc, HFIT.out c hc⟩) (by rw [HL.out]; exact (HFA.out HFK.out).1)
        have hp1 : P1 = L := by rw [← HP1.out, hpc2]
        have hp2 : P2 = 0 := by rw [← HP2.out, hpc2]
        subst hp1 hp2
        obtain ⟨a6, c6, hv6, hc6⟩ := HF6.out.frc.cvs HFIT.out
        rw [HL.out] at hv6 hc6
        subst hv6
        have HC6 := Lib.hid hc6
        clear hpc2 hc6
        go_wp2_with fail
        refine (csame_any a6 a len len c6 cap P1 P1 w6 HC6.out (H.out.mono HB6.out)).mono ?_
        rw [same_refl]
        rintro x w7 ⟨rfl, hb7⟩
        have HB7 := Lib.hid (HB6.out.trans (hb7.mono HB6.out.size))
        clear hb7
        go_wp2_with fail
        refine (cparse_any a1 len1 cap1 b w7 (HRB.out.mono HB7.out) (by omega)).mono ?_
        rw [HY.out, HF.out]
        rintro x w8 ⟨v8, rfl, hf8, hb8⟩
        obtain ⟨a8, c8, hv8, hc8⟩ := hf8.frc.cvs HYF.out
        obtain ⟨ny, hny⟩ : ∃ ny, Y.length = ny := ⟨_, rfl⟩
        rw [hny] at hv8 hc8
        have hny8 : ny ≤ 8 := by have := HY8.out; omega
        subst hv8
        have HC8 := Lib.hid hc8
        have HB8 := Lib.hid (HB7.out.trans (hb8.mono HB7.out.size))
        clear hf8 hb8 hc8 hny
        by_cases hf0 : f = 0
        · have HBK2 := Lib.hid (HBK.out hf0)
          subst hf0
          go_wp2_with fail
          refine (ccode_any a8 ny c8 Y w8 HC8.out (by omega)).mono ?_
          rw [HBK2.out]
          rintro x w9 ⟨v9, rfl, hf9, hb9⟩
          obtain ⟨a9, c9, hv9, hr9⟩ := hf9.form' len1 HLB.out
          subst hv9
          have HR9 := Lib.hid hr9
          have HB9 := Lib.hid (HB8.out.trans (hb9.mono HB8.out.size))
          clear hf9 hb9 hr9
          go_wp2_with fail
          refine (sequal a9 a1 len1 len1 c9 cap1 b b w9 HR9.out (HRB.out.mono HB9.out)).mono ?_
          rw [decide_eq_true rfl]
          rintro x w10 ⟨rfl, hq⟩
          have HB10 := Lib.hid (HB9.out.trans (hq.below w9.heap.size |>.mono HB9.out.size))
          clear hq
          go_wp2_with (go_at_call 6; refine (awake6 w10).mono ?_; rintro x w11 ⟨rfl, hb11⟩)
          go_ret
          exact ⟨rfl, HB10.out.trans (hb11.mono HB10.out.size)⟩
        · have b3 : (f != 0) = true := by simpa using hf0
          clear hf0
          go_wp2_with (go_at_call 6; refine (awake6 w8).mono ?_; rintro x w11 ⟨rfl, hb11⟩)
          go_ret
          exact ⟨rfl, HB8.out.trans (hb11.mono HB8.out.size)⟩

end Go.Proofs.Ytagblhkihammdaa.W
