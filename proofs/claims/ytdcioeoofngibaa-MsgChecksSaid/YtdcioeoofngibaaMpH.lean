/- LAYER 16 (msg), the program: Check. LAYER 16 (msg), the program: Encode. -/
import Derived.Test.YtdcioeoofngibaaMpF
import Derived.Test.YtdcioeoofngibaaMpP
set_option linter.unusedSimpArgs false
set_option linter.unusedVariables false
namespace Go.Proofs.Ytdcioeoofngibaa.W
open Go Go.ChangeShapes Go.WideShapes Go.ChangeAt Go.RowKit
open Go.Proofs.Ytdcioeoofngibaa.P (enc dec)

def msZ : Ms := ⟨0, 0, 0, 0, 0, 0, 0, 0, 0, false, none, 0, 0, none, 0, 0, ByteArray.empty⟩
theorem msZ_fit (w : World) : MsF w msZ [] [] := ⟨⟨by decide, by decide⟩, ⟨by decide, by decide⟩, ⟨by decide, by decide⟩, ⟨by decide, by decide⟩, ⟨by decide, by decide⟩, ⟨by decide, by decide⟩, ⟨by decide, by decide⟩, ⟨by decide, by decide⟩, ⟨by decide, by decide⟩, Ents.nil w, Rd_nil w, by decide⟩
theorem msZ_pl : msZ.pl [] [] = MF0 := rfl
theorem msZ_zero : (Try.prog.info? 25).map (·.zero) = some (some (.agg msZ.cells.toArray)) := mp_zero
set_option maxRecDepth 100000 in
set_option maxHeartbeats 16000000 in
theorem mpcheck_kind (m : Ms) (d : List UInt8) (L : List (En × List UInt8)) (w : World) (h1 : MsF w m d L) (hen : m.en ≤ 1000000) (hk0 : partsV m.k = 1) :
    Calls Try.prog 7 #[.agg m.cells.toArray] w fun x w' => x = .returned (.int .i64 (m.pl d L).chk) ∧ Below w.heap.size w w' := by
  rw [chk_kind (q := m.pl d L) (parts_zero hk0)]
  obtain ⟨C, hC⟩ : ∃ C, m.cells = C := ⟨_, rfl⟩
  rw [hC]
  have HC := Lib.hid hC
  obtain ⟨hs, hhs⟩ : ∃ h, partsV m.k = h := ⟨_, rfl⟩
  have HP := Lib.hid (fun w => mpparts m.k w)
  rw [hk0] at HP
  clear h1 hen hC hhs hk0
  go_enter Try.func7, Try.ntmps7
  go_wp2_with (first
    | (with_reducible refine box_row (o := ⟨some 1, _, _, _, _, _⟩) rfl _ _ rfl C rfl ?_; intro w1 hr hb hz; have R1 := Lib.hid hr; have B1 := Lib.hid hb; rw [← HC.out] at hr; obtain ⟨c0, c1, c2, c3, c4, c5, c6, c7, c8, c9, c10, c11, c12⟩ := hr.q13; clear hr hb hz c3 c4 c5 c6 c7 c8 c9 c10 c11 c12)
    | (go_at_call 16; refine (HP.out w1).mono ?_; rintro x w' ⟨rfl, rfl⟩)
    | ((with_reducible refine alloc_row (o := ⟨some 4, _, _, _, _, _⟩) rfl _ rfl _ MZ.out ?_); intro w2 hr hb hz; have S2 := Lib.hid hr; have R2 := Lib.hid (R1.out.below hb R1.out.lt); have B2 := Lib.hid (B1.out.trans (hb.mono B1.out.size)); clear hr hb hz)
    | (go_at_call 17; refine (mpfields w2).mono ?_; rintro x w3 ⟨g, A, M, rfl, hg, hF, hgb, hb⟩; have G3 := Lib.hid hg; have F3 := Lib.hid hF; have R3 := Lib.hid (R2.out.below hb R2.out.lt); have S3 := Lib.hid (S2.out.below hb S2.out.lt); have B3 := Lib.hid (B2.out.trans (hb.mono B2.out.size)); clear hg hF hgb hb))
  go_ret
  exact ⟨rfl, B1.out⟩
set_option maxRecDepth 100000 in
set_option maxHeartbeats 16000000 in
theorem mpcheck_self (m : Ms) (d : List UInt8) (L : List (En × List UInt8)) (w : World) (h1 : MsF w m d L) (hen : m.en ≤ 1000000) (hk0 : partsV m.k ≠ 1) (hft : m.fr = m.dt) :
    Calls Try.prog 7 #[.agg m.cells.toArray] w fun x w' => x = .returned (.int .i64 (m.pl d L).chk) ∧ Below w.heap.size w w' := by
  rw [chk_self (q := m.pl d L) hft]
  obtain ⟨C, hC⟩ : ∃ C, m.cells = C := ⟨_, rfl⟩
  rw [hC]
  have HC := Lib.hid hC
  obtain ⟨hs, hhs⟩ : ∃ h, partsV m.k = h := ⟨_, rfl⟩
  have HP := Lib.hid (fun w => mpparts m.k w)
  rw [hhs] at HP hk0
  have hk1 : (hs == 1) = false := by simpa using hk0
  have hf1 : (m.fr == m.dt) = true := by simpa using hft
  clear h1 hen hC hhs
  go_enter Try.func7, Try.ntmps7
  go_wp2_with (first
    | (with_reducible refine box_row (o := ⟨some 1, _, _, _, _, _⟩) rfl _ _ rfl C rfl ?_; intro w1 hr hb hz; have R1 := Lib.hid hr; have B1 := Lib.hid hb; rw [← HC.out] at hr; obtain ⟨c0, c1, c2, c3, c4, c5, c6, c7, c8, c9, c10, c11, c12⟩ := hr.q13; clear hr hb hz c3 c4 c5 c6 c7 c8 c9 c10 c11 c12)
    | (go_at_call 16; refine (HP.out w1).mono ?_; rintro x w' ⟨rfl, rfl⟩)
    | ((with_reducible refine alloc_row (o := ⟨some 4, _, _, _, _, _⟩) rfl _ rfl _ MZ.out ?_); intro w2 hr hb hz; have S2 := Lib.hid hr; have R2 := Lib.hid (R1.out.below hb R1.out.lt); have B2 := Lib.hid (B1.out.trans (hb.mono B1.out.size)); clear hr hb hz)
    | (go_at_call 17; refine (mpfields w2).mono ?_; rintro x w3 ⟨g, A, M, rfl, hg, hF, hgb, hb⟩; have G3 := Lib.hid hg; have F3 := Lib.hid hF; have R3 := Lib.hid (R2.out.below hb R2.out.lt); have S3 := Lib.hid (S2.out.below hb S2.out.lt); have B3 := Lib.hid (B2.out.trans (hb.mono B2.out.size)); clear hg hF hgb hb))
  go_ret
  exact ⟨rfl, B1.out⟩
set_option maxRecDepth 100000 in
set_option maxHeartbeats 16000000 in
theorem mpcheck_main (m : Ms) (d : List UInt8) (L : List (En × List UInt8)) (w : World) (h1 : MsF w m d L) (hen : m.en ≤ 1000000) (hk0 : partsV m.k ≠ 1) (hft : m.fr ≠ m.dt) :
    Calls Try.prog 7 #[.agg m.cells.toArray] w fun x w' => x = .returned (.int .i64 (m.pl d L).chk) ∧ Below w.heap.size w w' := by
  have H1 := Lib.hid h1
  have HEN := Lib.hid hen
  have HK := Lib.hid (parts_not hk0)
  have HFT := Lib.hid hft
  have FZ := Lib.hid fd_zero
  have MZ := Lib.hid msZ_zero
  obtain ⟨V, hV⟩ : ∃ V, (m.pl d L).chk = V := ⟨_, rfl⟩
  rw [hV]
  have HV := Lib.hid hV
  obtain ⟨C, hC⟩ : ∃ C, m.cells = C := ⟨_, rfl⟩
  rw [hC]
  have HC := Lib.hid hC
  obtain ⟨hs, hhs⟩ : ∃ h, partsV m.k = h := ⟨_, rfl⟩
  have HP := Lib.hid (fun w => mpparts m.k w)
  rw [hhs] at HP hk0
  have HHS := Lib.hid hhs
  have hk1 : (hs == 1) = false := by simpa using hk0
  have hf1 : (m.fr == m.dt) = false := by simpa using hft
  clear h1 hen hV hC hhs
  go_enter Try.func7, Try.ntmps7
  go_wp2_with (first
    | (with_reducible refine box_row (o := ⟨some 1, _, _, _, _, _⟩) rfl _ _ rfl C rfl ?_; intro w1 hr hb hz; have R1 := Lib.hid hr; have B1 := Lib.hid hb; rw [← HC.out] at hr; obtain ⟨c0, c1, c2, c3, c4, c5, c6, c7, c8, c9, c10, c11, c12⟩ := hr.q13; clear hr hb hz c3 c4 c5 c6 c7 c8 c9 c10 c11 c12)
    | (go_at_call 16; refine (HP.out w1).mono ?_; rintro x w' ⟨rfl, rfl⟩)
    | ((with_reducible refine alloc_row (o := ⟨some 4, _, _, _, _, _⟩) rfl _ rfl _ MZ.out ?_); intro w2 hr hb hz; have S2 := Lib.hid hr; have R2 := Lib.hid (R1.out.below hb R1.out.lt); have B2 := Lib.hid (B1.out.trans (hb.mono B1.out.size)); clear hr hb hz)
    | (go_at_call 17; refine (mpfields w2).mono ?_; rintro x w3 ⟨g, A, M, rfl, hg, hF, hgb, hb⟩; have G3 := Lib.hid hg; have F3 := Lib.hid hF; have R3 := Lib.hid (R2.out.below hb R2.out.lt); have S3 := Lib.hid (S2.out.below hb S2.out.lt); have B3 := Lib.hid (B2.out.trans (hb.mono B2.out.size)); clear hg hF hgb hb))
  go_loopw [21] (fun i wr => ∃ k : Nat, i = .int .i64 (k : Int) ∧ k ≤ 12 ∧ Hid (∀ j, j < k → okQ j (m.pl d L) = true) ∧ Hid (Below w3.heap.size w3 wr)) (fun i _ => 12 - (intOf i).toNat)
  case atStart => exact ⟨0, rfl, Nat.zero_le _, Lib.hid (fun j hj => absurd hj (Nat.not_lt_zero _)), Lib.hid (Below.refl _ _)⟩
  case round =>
    obtain ⟨k, rfl, hk, PV, B⟩ := hrel
    have GR := Lib.hid (G3.out.below B.out G3.out.lt)
    have FR := Lib.hid (F3.out.below B.out)
    have RQ := Lib.hid (R3.out.below B.out R3.out.lt)
    have SR := Lib.hid (S3.out.below B.out S3.out.lt)
    have BR := Lib.hid (B3.out.trans (B.out.mono B3.out.size))
    by_cases hlt : k < 12
    · obtain ⟨C5, hC5⟩ : ∃ C5, fdC A M k = C5 := ⟨_, rfl⟩
      have X := Lib.hid (fun j v (hj : C5[j]? = some v) => fds_cell GR.out k hlt j v (by rw [hC5]; exact hj))
      have L5 := Lib.hid (show [Value.int .i64 0, .nilFunc, .nilFunc, .nilFunc, .nilFunc].length = C5.length by rw [← hC5]; rfl)
      have FS := Lib.hid (show (Try.prog.info? 49).map (·.size) = some C5.length by rw [← hC5]; exact fd_size)
      have ONE := Lib.hid (show ∀ v ∈ C5, v.oneCell' = true by rw [← hC5]; exact fd_one A M k)
      have HS1 := Lib.hid (fun w' (hb : Below wr.heap.size wr w') => fitsK k hlt A M _ w.heap.size m d L w' (FR.out.below hb) (by rw [HC.out]; exact RQ.out.below hb RQ.out.lt) (H1.out.mono (BR.out.trans (hb.mono BR.out.size))))
      have HS2 := Lib.hid (fun w' (hb : Below wr.heap.size wr w') => sameK k hlt A M _ w.heap.size w1.heap.size m msZ d [] L [] w' (FR.out.below hb) (by rw [HC.out]; exact RQ.out.below hb RQ.out.lt) (H1.out.mono (BR.out.trans (hb.mono BR.out.size))) (SR.out.below hb SR.out.lt) (msZ_fit _) HEN.out)
      have he2 := fn_ent2 k hlt
      have he1 := fn_ent1 k hlt
      have hbi := bits_in m.k HK.out k hlt
      unfold fdC at hC5
      obtain ⟨f1, hf1⟩ : ∃ f, fn1 k = f := ⟨_, rfl⟩
      obtain ⟨f2, hf2⟩ : ∃ f, fn2 k = f := ⟨_, rfl⟩
      obtain ⟨k1, hk1⟩ : ∃ c, fc1 A M k = c := ⟨_, rfl⟩
      obtain ⟨k2, hk2⟩ : ∃ c, fc2 A k = c := ⟨_, rfl⟩
      obtain ⟨pt, hpt⟩ : ∃ p, partN k = p := ⟨_, rfl⟩
      rw [hf1, hf2, hk1, hk2, hpt] at hC5
      rw [hf1] at he1 HS1
      rw [hk1] at HS1
      rw [hf2] at he2 HS2
      rw [hk2, msZ_pl] at HS2
      rw [hpt, HHS.out] at hbi
      have HC5 := Lib.hid hC5
      have g1 : (0 : Int) ≤ (k : Int) := by omega
      have g2 : (k : Int) < 12 := by omega
      clear hC5 hf1 hf2 hk1 hk2 hpt
      obtain ⟨y, hy⟩ : ∃ y, inT m.k k = y := ⟨_, rfl⟩
      rw [hy] at hbi
      have HIN := Lib.hid hy
      clear hy
      rcases y with _ | _
      · have hz : bits BinOp.and IntKind.i64 hs pt = 0 := by simpa using hbi
        obtain ⟨s, hs'⟩ : ∃ s, sameQ k (m.pl d L) MF0 = s := ⟨_, rfl⟩
        rw [hs'] at HS2
        have HSQ := Lib.hid hs'
        clear hbi hs' HS1
        go_wp2_with (first
          | ((with_reducible refine load_cells (o := ⟨some 24, _, _, _, _, _⟩) rfl _ _ rfl g (k * 5) ?_ C5 _ X.out Try.underlying49 rfl ?_ ?_); (focus (first | (go_simp; done) | (go_simp; congr 2; omega))); (focus (exact FS.out)))
          | ((with_reducible refine alloc_row (o := ⟨some 6, _, _, _, _, _⟩) rfl _ rfl _ FZ.out ?_); intro wa hr hb hz; have A1 := Lib.hid hr; have BA := Lib.hid hb; clear hr hb hz)
          | ((with_reducible refine store_row (o := ⟨none, _, _, _, _, _⟩) rfl _ (.tmp 6) _ rfl wr.heap.size C5 ?_ ?_ 49 _ A1.out ?_ ?_ ONE.out ?_); (focus go_simp); (focus (first | (go_simp; done) | (go_simp; rfl))); (focus (exact FS.out)); (focus (exact L5.out)); intro wb hr hu; have A2 := Lib.hid hr; have BB := Lib.hid (BA.out.trans (hu.below (Nat.le_refl _))); rw [← HC5.out] at hr; obtain ⟨q0, q1, q2, q3, q4⟩ := hr.q5; clear hr hu))
        refine (HS2.out wb BB.out).mono ?_
        rintro x wc ⟨rfl, hb⟩
        have BC := Lib.hid (BB.out.trans (hb.mono BB.out.size))
        have BD := Lib.hid (BR.out.trans (BC.out.mono BR.out.size))
        have x0 := q0
        have y0 : wc.cell? ⟨wr.heap.size, 0, none⟩ = some (.int .i64 pt) := by rw [hb.cell (p := ⟨wr.heap.size, 0, none⟩) A2.out.lt]; exact q0
        clear hb q1 q2 q3 q4 he1 he2
        rcases s with _ | _
        · have HF := Lib.hid (show V = 1 by rw [← HV.out]; exact chk_not (q := m.pl d L) HK.out k hlt (by unfold okQ; rw [show inT (m.pl d L).k k = false from HIN.out]; exact HSQ.out))
          go_wp2_with fail
          go_ret
          exact ⟨one (vint (by rw [HF.out])), BD.out⟩
        · have PN := Lib.hid (show ∀ j, j < k + 1 → okQ j (m.pl d L) = true from fun j hj => by
            by_cases hjk : j < k
            · exact PV.out j hjk
            · obtain rfl : j = k := by omega
              unfold okQ; rw [show inT (m.pl d L).k j = false from HIN.out]; exact HSQ.out)
          go_wp2_with fail
          go_roundw
          case rel => exact ⟨k + 1, vint (by omega), by omega, PN, Lib.hid (B.out.trans (BC.out.mono B.out.size))⟩
          case measure => simp [intOf]; omega
      · have hz : (bits BinOp.and IntKind.i64 hs pt == 0) = false := hbi
        have hz1 : ¬ bits BinOp.and IntKind.i64 hs pt = 0 := by simpa using hbi
        have hz2 : (bits BinOp.and IntKind.i64 hs pt != 0) = true := by simpa using hbi
        obtain ⟨s, hs'⟩ : ∃ s, fitQ k (m.pl d L) = s := ⟨_, rfl⟩
        rw [hs'] at HS1
        have HSQ := Lib.hid hs'
        clear hbi hs' HS2
        go_wp2_with (first
          | ((with_reducible refine load_cells (o := ⟨some 24, _, _, _, _, _⟩) rfl _ _ rfl g (k * 5) ?_ C5 _ X.out Try.underlying49 rfl ?_ ?_); (focus (first | (go_simp; done) | (go_simp; congr 2; omega))); (focus (exact FS.out)))
          | ((with_reducible refine alloc_row (o := ⟨some 6, _, _, _, _, _⟩) rfl _ rfl _ FZ.out ?_); intro wa hr hb hz; have A1 := Lib.hid hr; have BA := Lib.hid hb; clear hr hb hz)
          | ((with_reducible refine store_row (o := ⟨none, _, _, _, _, _⟩) rfl _ (.tmp 6) _ rfl wr.heap.size C5 ?_ ?_ 49 _ A1.out ?_ ?_ ONE.out ?_); (focus go_simp); (focus (first | (go_simp; done) | (go_simp; rfl))); (focus (exact FS.out)); (focus (exact L5.out)); intro wb hr hu; have A2 := Lib.hid hr; have BB := Lib.hid (BA.out.trans (hu.below (Nat.le_refl _))); rw [← HC5.out] at hr; obtain ⟨q0, q1, q2, q3, q4⟩ := hr.q5; clear hr hu))
        refine (HS1.out wb BB.out).mono ?_
        rintro x wc ⟨rfl, hb⟩
        have BC := Lib.hid (BB.out.trans (hb.mono BB.out.size))
        have BD := Lib.hid (BR.out.trans (BC.out.mono BR.out.size))
        have x0 := q0
        have y0 : wc.cell? ⟨wr.heap.size, 0, none⟩ = some (.int .i64 pt) := by rw [hb.cell (p := ⟨wr.heap.size, 0, none⟩) A2.out.lt]; exact q0
        clear hb q1 q2 q3 q4 he1 he2
        rcases s with _ | _
        · have HF := Lib.hid (show V = 1 by rw [← HV.out]; exact chk_not (q := m.pl d L) HK.out k hlt (by unfold okQ; rw [show inT (m.pl d L).k k = true from HIN.out]; exact HSQ.out))
          go_wp2_with fail
          go_ret
          exact ⟨one (vint (by rw [HF.out])), BD.out⟩
        · have PN := Lib.hid (show ∀ j, j < k + 1 → okQ j (m.pl d L) = true from fun j hj => by
            by_cases hjk : j < k
            · exact PV.out j hjk
            · obtain rfl : j = k := by omega
              unfold okQ; rw [show inT (m.pl d L).k j = true from HIN.out]; exact HSQ.out)
          go_wp2_with fail
          go_roundw
          case rel => exact ⟨k + 1, vint (by omega), by omega, PN, Lib.hid (B.out.trans (BC.out.mono B.out.size))⟩
          case measure => simp [intOf]; omega
    · obtain rfl : k = 12 := by omega
      have HF := Lib.hid (show V = 0 by rw [← HV.out]; exact chk_all (q := m.pl d L) HK.out HFT.out PV.out)
      go_wp2_with fail
      go_ret
      exact ⟨one (vint (by rw [HF.out])), BR.out⟩
theorem mpcheck (m : Ms) (d : List UInt8) (L : List (En × List UInt8)) (w : World) (h1 : MsF w m d L) (hen : m.en ≤ 1000000) :
    Calls Try.prog 7 #[.agg m.cells.toArray] w fun x w' => x = .returned (.int .i64 (m.pl d L).chk) ∧ Below w.heap.size w w' := by
  by_cases hk : partsV m.k = 1
  · exact mpcheck_kind m d L w h1 hen hk
  · by_cases hf : m.fr = m.dt
    · exact mpcheck_self m d L w h1 hen hk hf
    · exact mpcheck_main m d L w h1 hen hk hf
theorem mpcheckP : MsCheckP 7 := fun m d L w h hf => mpcheck m d L w h (by have := (fewMV_spec hf).2.2.1; have := h.es.hlen; omega)
end Go.Proofs.Ytdcioeoofngibaa.W

namespace Go.Proofs.Ytdcioeoofngibaa.W
open Go Go.ChangeShapes Go.WideShapes Go.ChangeAt Go.RowKit
open Go.Proofs.Ytdcioeoofngibaa.P (enc dec)

theorem putQ_len {q : MF} (h : MFits q) (j : Nat) (hj : j < 12) : (putQ j q).length ≤ 140000 ∧ (j < 9 → (putQ j q).length ≤ 9) := by
  have n0 := encZ9 q.fr (by have := h.fr; omega)
  have n1 := encZ9 q.dt (by have := h.dt; omega)
  have n2 := encZ9 q.tm (by have := h.tm; omega)
  have n3 := encZ9 q.ix (by have := h.ix; omega)
  have n4 := encZ9 q.lt (by have := h.lt; omega)
  have n5 := encZ9 q.cm (by have := h.cm; omega)
  have n6 := encZ9 q.rn (by have := h.rn; omega)
  have n7 := encZ9 q.cf (by have := h.cf; omega)
  rcases below12 hj with rfl | rfl | rfl | rfl | rfl | rfl | rfl | rfl | rfl | rfl | rfl | rfl
  · exact ⟨Nat.le_trans n0 (by decide), fun _ => n0⟩
  · exact ⟨Nat.le_trans n1 (by decide), fun _ => n1⟩
  · exact ⟨Nat.le_trans n2 (by decide), fun _ => n2⟩
  · exact ⟨Nat.le_trans n3 (by decide), fun _ => n3⟩
  · exact ⟨Nat.le_trans n4 (by decide), fun _ => n4⟩
  · exact ⟨Nat.le_trans n5 (by decide), fun _ => n5⟩
  · exact ⟨Nat.le_trans n6 (by decide), fun _ => n6⟩
  · exact ⟨Nat.le_trans n7 (by decide), fun _ => n7⟩
  · exact ⟨show ([if q.ok then (1 : UInt8) else 0]).length ≤ 140000 by simp, fun _ => show ([if q.ok then (1 : UInt8) else 0]).length ≤ 9 by simp⟩
  · exact ⟨sumlen h 6 (by decide), fun h => absurd h (by decide)⟩
  · exact ⟨sumlen h 7 (by decide), fun h => absurd h (by decide)⟩
  · exact ⟨sumlen h 8 (by decide), fun h => absurd h (by decide)⟩
theorem putsQ_len {q : MF} (h : MFits q) : ∀ k, k ≤ 12 → (putsQ k q).length ≤ 140000 * k ∧ (k ≤ 9 → (putsQ k q).length ≤ 9 * k)
  | 0, _ => by simp [putsQ]
  | k + 1, hk => by
    have ih := putsQ_len h k (by omega)
    have hj := putQ_len h k (by omega)
    rw [putsQ_next, List.length_append]
    split
    · refine ⟨by omega, fun h9 => ?_⟩
      have := ih.2 (by omega)
      have := hj.2 (by omega)
      omega
    · rw [List.length_nil]
      refine ⟨by omega, fun h9 => ?_⟩
      have := ih.2 (by omega)
      omega
set_option maxRecDepth 100000 in
set_option maxHeartbeats 16000000 in
theorem mpenc_bad (m : Ms) (d : List UInt8) (L : List (En × List UInt8)) (w : World) (h1 : MsF w m d L) (hen : m.en ≤ 1000000) (hc : (m.pl d L).chk = 1) :
    Calls Try.prog 13 #[.agg m.cells.toArray] w fun x w' => x = .returned (.tuple #[.slice none 0 0, .int .i64 1]) ∧ Below w.heap.size w w' := by
  have HCK := Lib.hid (fun w' (hb : Below w.heap.size w w') => mpcheck m d L w' (h1.mono hb) hen)
  rw [hc] at HCK
  obtain ⟨C, hC⟩ : ∃ C, m.cells = C := ⟨_, rfl⟩
  have HZ := Lib.hid (show (Try.prog.info? 25).map (·.size) = some C.length by rw [← hC]; exact ms_size)
  rw [hC] at HCK ⊢
  clear h1 hen hc hC
  go_enter Try.func13, Try.ntmps13
  go_wp2_with (first
    | (with_reducible refine box_row (o := ⟨some 1, _, _, _, _, _⟩) rfl _ _ rfl C rfl ?_; intro w1 hr hb hz; have R1 := Lib.hid hr; have B1 := Lib.hid hb; clear hr hb hz)
    | ((with_reducible refine load_row (o := ⟨some 9, _, _, _, _, _⟩) rfl _ _ rfl w.heap.size ?_ _ C _ R1.out Try.underlying25 rfl ?_ ?_); (focus go_simp); (focus (exact HZ.out)))
    | (go_at_call 7; refine (HCK.out w1 B1.out).mono ?_; rintro x w2 ⟨rfl, hb⟩; have B2 := Lib.hid (B1.out.trans (hb.mono B1.out.size)); clear hb))
  go_ret2
  exact ⟨rfl, B2.out⟩
set_option maxRecDepth 100000 in
set_option maxHeartbeats 16000000 in
theorem mpenc_ok (m : Ms) (d : List UInt8) (L : List (En × List UInt8)) (w : World) (h1 : MsF w m d L) (hen : m.en ≤ 1000000) (hc : (m.pl d L).chk = 0) :
    Calls Try.prog 13 #[.agg m.cells.toArray] w fun x w' => ∃ a n c, x = .returned (.tuple #[.slice a n c, .int .i64 0]) ∧ Rd w' a n c (encM (m.pl d L)) ∧ Below w.heap.size w w' := by
  have HF := MF.facts (chk_zero hc).1
  have hk : 1 ≤ m.k ∧ m.k ≤ 11 := HF.k
  have HK := Lib.hid hk
  have H1 := Lib.hid h1
  have HCK := Lib.hid (fun w' (hb : Below w.heap.size w w') => mpcheck m d L w' (h1.mono hb) hen)
  rw [hc] at HCK
  have HFIT := Lib.hid (fun j (hj : j < 12) => chk_fit hc j hj)
  have HLEN := Lib.hid (fun k (hk : k ≤ 12) => putsQ_len HF k hk)
  have HALL := Lib.hid (show encZ m.k ++ putsQ 12 (m.pl d L) = encM (m.pl d L) from putsQ_all (q := m.pl d L) hk)
  have FZ := Lib.hid fd_zero
  obtain ⟨R, hR⟩ : ∃ R, encM (m.pl d L) = R := ⟨_, rfl⟩
  rw [hR] at HALL ⊢
  obtain ⟨C, hC⟩ : ∃ C, m.cells = C := ⟨_, rfl⟩
  have HC := Lib.hid hC
  have HZ := Lib.hid (show (Try.prog.info? 25).map (·.size) = some C.length by rw [← hC]; exact ms_size)
  rw [hC] at HCK ⊢
  obtain ⟨hs, hhs⟩ : ∃ h, partsV m.k = h := ⟨_, rfl⟩
  have HP := Lib.hid (fun w => mpparts m.k w)
  rw [hhs] at HP
  have HHS := Lib.hid hhs
  have HKL := Lib.hid (encZ9 m.k (by omega))
  have hN := fun w => pnum none 0 0 m.k [] w (Rd_nil w) (by omega) (by decide)
  obtain ⟨nn, hnn⟩ : ∃ nn, 0 + (enc m.k.toNat).length = nn := ⟨_, rfl⟩
  obtain ⟨e0, he0⟩ : ∃ e0, ([] : List UInt8) ++ enc m.k.toNat = e0 := ⟨_, rfl⟩
  have hn9 : nn ≤ 9 := by have h9 := encZ9 m.k (by omega); unfold encZ at h9; omega
  have hnl : e0.length = nn := by rw [← he0, ← hnn, List.nil_append, Nat.zero_add]
  have HE0 := Lib.hid (show e0 = encZ m.k by rw [← he0, List.nil_append]; rfl)
  simp only [he0, hnn] at hN
  have HN := Lib.hid hN
  clear hN he0 hnn
  clear h1 hen hc hR hC hhs HF
  go_enter Try.func13, Try.ntmps13
  go_wp2_with (first
    | (with_reducible refine box_row (o := ⟨some 1, _, _, _, _, _⟩) rfl _ _ rfl C rfl ?_; intro w1 hr hb hz; have R1 := Lib.hid hr; have B1 := Lib.hid hb; clear hr hb hz)
    | ((with_reducible refine load_row (o := ⟨some 9, _, _, _, _, _⟩) rfl _ _ rfl w.heap.size ?_ _ C _ R1.out Try.underlying25 rfl ?_ ?_); (focus go_simp); (focus (exact HZ.out)))
    | (go_at_call 7; refine (HCK.out w1 B1.out).mono ?_; rintro x w2 ⟨rfl, hb⟩; have hr := R1.out.below hb R1.out.lt; have R2 := Lib.hid hr; have B2 := Lib.hid (B1.out.trans (hb.mono B1.out.size)); rw [← HC.out] at hr; obtain ⟨c0, -⟩ := hr.q13; clear hb hr)
    | (go_at_call 23; refine (HN.out w2).mono ?_; rintro x w3 ⟨rfl, hk3, hb, hs3⟩; have hr := R2.out.below hb R2.out.lt; have R3 := Lib.hid hr; have V3 := Lib.hid (fr_of_blk hk3 B2.out.size _ hnl (by omega)); have B3 := Lib.hid (B2.out.trans (hb.mono B2.out.size)); rw [← HC.out] at hr; clear c0; obtain ⟨c0, -⟩ := hr.q13; clear hb hr hk3 hs3)
    | (go_at_call 16; refine (HP.out w3).mono ?_; rintro x w' ⟨rfl, rfl⟩)
    | (go_at_call 17; refine (mpfields w3).mono ?_; rintro x w4 ⟨g, A, M, rfl, hg, hF, hgb, hb⟩; have G4 := Lib.hid hg; have F4 := Lib.hid hF; have R4 := Lib.hid (R3.out.below hb R3.out.lt); have V4 := Lib.hid (V3.out.kept hb); have B4 := Lib.hid (B3.out.trans (hb.mono B3.out.size)); clear hg hF hgb hb))
  go_loopw [5, 22] (fun v i wr => ∃ k : Nat, i = .int .i64 (k : Int) ∧ k ≤ 12 ∧ Hid (Fr wr w.heap.size v (encZ m.k ++ putsQ k (m.pl d L))) ∧ Hid (Below w4.heap.size w4 wr)) (fun _ i _ => 12 - (intOf i).toNat)
  case atStart => exact ⟨0, rfl, Nat.zero_le _, Lib.hid (by rw [show putsQ 0 (m.pl d L) = [] from rfl, List.append_nil, ← HE0.out]; exact V4.out), Lib.hid (Below.refl _ _)⟩
  case round =>
    obtain ⟨k, rfl, hk, FV, B⟩ := hrel
    have GR := Lib.hid (G4.out.below B.out G4.out.lt)
    have FR := Lib.hid (F4.out.below B.out)
    have RQ := Lib.hid (R4.out.below B.out R4.out.lt)
    have BR := Lib.hid (B4.out.trans (B.out.mono B4.out.size))
    by_cases hlt : k < 12
    · obtain ⟨C5, hC5⟩ : ∃ C5, fdC A M k = C5 := ⟨_, rfl⟩
      have X := Lib.hid (fun j v (hj : C5[j]? = some v) => fds_cell GR.out k hlt j v (by rw [hC5]; exact hj))
      have L5 := Lib.hid (show [Value.int .i64 0, .nilFunc, .nilFunc, .nilFunc, .nilFunc].length = C5.length by rw [← hC5]; rfl)
      have FS := Lib.hid (show (Try.prog.info? 49).map (·.size) = some C5.length by rw [← hC5]; exact fd_size)
      have ONE := Lib.hid (show ∀ v ∈ C5, v.oneCell' = true by rw [← hC5]; exact fd_one A M k)
      obtain ⟨Q, hQ⟩ : ∃ Q, encZ m.k ++ putsQ k (m.pl d L) = Q := ⟨_, rfl⟩
      have hQl : Q.length ≤ 70000000000000 ∧ (k = 9 → Q.length ≤ 100000) := by
        have h1 := HLEN.out k hk
        have h2 := HKL.out
        rw [← hQ, List.length_append]
        refine ⟨by omega, fun h9 => ?_⟩
        have := h1.2 (by omega)
        omega
      have hnx : encZ m.k ++ putsQ (k + 1) (m.pl d L) = Q ++ (if inT m.k k then putQ k (m.pl d L) else []) := by rw [putsQ_next, ← List.append_assoc, hQ]; rfl
      rw [hQ] at FV
      obtain ⟨qn, hqn⟩ : ∃ q, Q.length = q := ⟨_, rfl⟩
      obtain ⟨av, cv, hv, hrv⟩ := FV.out.form' qn hqn
      subst hv
      rw [hqn] at hQl
      have HS3 := Lib.hid (fun w' (hb : Below wr.heap.size wr w') => putK k hlt A M _ w.heap.size m d L av qn cv Q w' (FR.out.below hb) (by rw [HC.out]; exact RQ.out.below hb RQ.out.lt) (H1.out.mono (BR.out.trans (hb.mono BR.out.size))) (hrv.mono hb) hQl.1 hQl.2 (HFIT.out k hlt))
      have he3 := fn_ent3 k hlt
      have hbi := bits_in m.k HK.out k hlt
      unfold fdC at hC5
      obtain ⟨f3, hf3⟩ : ∃ f, fn3 k = f := ⟨_, rfl⟩
      obtain ⟨k2, hk2⟩ : ∃ c, fc2 A k = c := ⟨_, rfl⟩
      obtain ⟨pt, hpt⟩ : ∃ p, partN k = p := ⟨_, rfl⟩
      rw [hf3, hk2, hpt] at hC5
      rw [hf3] at he3 HS3
      rw [hk2] at HS3
      rw [hpt, HHS.out] at hbi
      have HC5 := Lib.hid hC5
      have HNX := Lib.hid hnx
      have g1 : (0 : Int) ≤ (k : Int) := by omega
      have g2 : (k : Int) < 12 := by omega
      clear hC5 hf3 hk2 hpt hQ hqn hrv hQl hnx
      obtain ⟨y, hy⟩ : ∃ y, inT m.k k = y := ⟨_, rfl⟩
      rw [hy] at hbi HNX
      clear hy
      rcases y with _ | _
      · have hz : bits BinOp.and IntKind.i64 hs pt = 0 := by simpa using hbi
        have FN := Lib.hid (show Fr wr w.heap.size (.slice av qn cv) (encZ m.k ++ putsQ (k + 1) (m.pl d L)) by rw [HNX.out]; simpa using FV.out)
        clear hbi HS3 he3
        go_wp2_with (first
          | ((with_reducible refine load_cells (o := ⟨some 25, _, _, _, _, _⟩) rfl _ _ rfl g (k * 5) ?_ C5 _ X.out Try.underlying49 rfl ?_ ?_); (focus (first | (go_simp; done) | (go_simp; congr 2; omega))); (focus (exact FS.out)))
          | ((with_reducible refine alloc_row (o := ⟨some 8, _, _, _, _, _⟩) rfl _ rfl _ FZ.out ?_); intro wa hr hb hz; have A1 := Lib.hid hr; have BA := Lib.hid hb; clear hr hb hz)
          | ((with_reducible refine store_row (o := ⟨none, _, _, _, _, _⟩) rfl _ (.tmp 8) _ rfl wr.heap.size C5 ?_ ?_ 49 _ A1.out ?_ ?_ ONE.out ?_); (focus go_simp); (focus (first | (go_simp; done) | (go_simp; rfl))); (focus (exact FS.out)); (focus (exact L5.out)); intro wb hr hu; have A2 := Lib.hid hr; have BB := Lib.hid (BA.out.trans (hu.below (Nat.le_refl _))); rw [← HC5.out] at hr; obtain ⟨q0, q1, q2, q3, q4⟩ := hr.q5; clear hr hu))
        have FW := Lib.hid (FN.out.kept BB.out)
        clear q0 q1 q2 q3 q4
        go_roundw
        case rel => exact ⟨k + 1, vint (by omega), by omega, FW, Lib.hid (B.out.trans (BB.out.mono B.out.size))⟩
        case measure => simp [intOf]; omega
      · have hz : (bits BinOp.and IntKind.i64 hs pt == 0) = false := hbi
        have hz1 : ¬ bits BinOp.and IntKind.i64 hs pt = 0 := by simpa using hbi
        have hz2 : (bits BinOp.and IntKind.i64 hs pt != 0) = true := by simpa using hbi
        clear hbi
        go_wp2_with (first
          | ((with_reducible refine load_cells (o := ⟨some 25, _, _, _, _, _⟩) rfl _ _ rfl g (k * 5) ?_ C5 _ X.out Try.underlying49 rfl ?_ ?_); (focus (first | (go_simp; done) | (go_simp; congr 2; omega))); (focus (exact FS.out)))
          | ((with_reducible refine alloc_row (o := ⟨some 8, _, _, _, _, _⟩) rfl _ rfl _ FZ.out ?_); intro wa hr hb hz; have A1 := Lib.hid hr; have BA := Lib.hid hb; clear hr hb hz)
          | ((with_reducible refine store_row (o := ⟨none, _, _, _, _, _⟩) rfl _ (.tmp 8) _ rfl wr.heap.size C5 ?_ ?_ 49 _ A1.out ?_ ?_ ONE.out ?_); (focus go_simp); (focus (first | (go_simp; done) | (go_simp; rfl))); (focus (exact FS.out)); (focus (exact L5.out)); intro wb hr hu; have A2 := Lib.hid hr; have BB := Lib.hid (BA.out.trans (hu.below (Nat.le_refl _))); rw [← HC5.out] at hr; obtain ⟨q0, q1, q2, q3, q4⟩ := hr.q5; clear hr hu))
        refine (HS3.out wb BB.out).mono ?_
        rintro x wc ⟨v5, rfl, hf5, hb⟩
        have FW := Lib.hid (show Fr wc w.heap.size v5 (encZ m.k ++ putsQ (k + 1) (m.pl d L)) by rw [HNX.out]; simpa using hf5.base (Nat.le_trans BR.out.size BB.out.size))
        have BC := Lib.hid (BB.out.trans (hb.mono BB.out.size))
        clear hb hf5 q0 q1 q2 q3 q4 he3
        go_wp2_with fail
        go_roundw
        case rel => exact ⟨k + 1, vint (by omega), by omega, FW, Lib.hid (B.out.trans (BC.out.mono B.out.size))⟩
        case measure => simp [intOf]; omega
    · obtain rfl : k = 12 := by omega
      rw [HALL.out] at FV
      obtain ⟨qn, hqn⟩ : ∃ q, R.length = q := ⟨_, rfl⟩
      obtain ⟨av, cv, hv, hrv⟩ := FV.out.form' qn hqn
      subst hv
      have RV := Lib.hid hrv
      clear hrv hqn
      go_wp2_with fail
      go_ret2
      exact ⟨av, qn, cv, rfl, RV.out, BR.out⟩
theorem mpencP : MsEncP 13 := fun m d L w h hf => by
  have hen : m.en ≤ 1000000 := by have := (fewMV_spec hf).2.2.1; have := h.es.hlen; omega
  rcases chk01M (m.pl d L) with h0 | h0
  · have hx : encMV (m.pl d L) = encM (m.pl d L) := by unfold encMV; rw [if_pos h0]
    rw [h0, hx]
    exact mpenc_ok m d L w h hen h0
  · have hx : encMV (m.pl d L) = [] := by unfold encMV; rw [h0, if_neg (by decide)]
    rw [h0, hx]
    refine (mpenc_bad m d L w h hen h0).mono ?_
    rintro x w' ⟨rfl, hb⟩
    exact ⟨none, 0, 0, rfl, Rd_nil _, hb⟩
end Go.Proofs.Ytdcioeoofngibaa.W
