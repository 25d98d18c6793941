/- LAYER 25 (board): Check of the program. -/
import Derived.Test.YtkmdbdieloimiaaBdH
import Derived.Test.YtkmdbdieloimiaaBdB
set_option linter.unusedSimpArgs false
set_option linter.unusedVariables false
namespace Go.Proofs.Ytkmdbdieloimiaa.W
open Go Go.ChangeShapes Go.WideShapes Go.ChangeAt Go.RowKit
open Go.Proofs.Ytkmdbdieloimiaa.S

theorem rise_len : ∀ (L : List Sh) (p : Int), riseS (some p) L = true → L.all shOkV = true → L = [] ∨ (L.length : Int) + p ≤ 4
  | [], _, _, _ => .inl rfl
  | s :: L, p, h, ha => by
    simp only [riseS, behS, Bool.and_eq_true, decide_eq_true_eq] at h
    simp only [List.all_cons, Bool.and_eq_true] at ha
    have h1 := rise_len L s.ln h.2 ha.2
    have h2 := ha.1
    unfold shOkV at h2
    simp only [Bool.and_eq_true, in64_iff] at h2
    right
    rcases h1 with rfl | h1
    · simp only [List.length_cons, List.length_nil]; omega
    · simp only [List.length_cons]; omega
theorem rise_four {L : List Sh} (h : riseS none L = true) (ha : L.all shOkV = true) : L.length ≤ 4 := by
  cases L with
  | nil => simp
  | cons s L =>
    simp only [riseS, behS, Bool.true_and] at h
    simp only [List.all_cons, Bool.and_eq_true] at ha
    have h2 := ha.1
    unfold shOkV at h2
    simp only [Bool.and_eq_true, in64_iff] at h2
    rcases rise_len L s.ln h ha.2 with rfl | h1
    · simp
    · simp only [List.length_cons]; omega
theorem all_t40 {L : List Sh} (ha : L.all shOkV = true) : T40s (L.map Sh.by') := by
  intro x hx
  obtain ⟨s, hs, rfl⟩ := List.mem_map.1 hx
  have h2 := List.all_eq_true.1 ha s hs
  unfold shOkV at h2
  simp only [Bool.and_eq_true, in64_iff] at h2
  omega
set_option maxRecDepth 100000 in
set_option maxHeartbeats 16000000 in
theorem pbcheck (v : Value) (b : Bd) (w : World) (h : BdV w v b) (hn : b.L.length ≤ 1000) : Calls Try.prog 10 #[v] w fun x w' => x = .returned (.bool b.ok) ∧ Below w.heap.size w w' := by
  obtain ⟨a, n, c, rfl, hc, hL⟩ := h
  obtain ⟨cp, L⟩ := b
  dsimp only at hc hL hn ⊢
  have HC := Lib.hid hc
  have HF := Lib.hid (by_fit hL.hfit)
  have HN := Lib.hid (show (L.map Sh.by').length = n by rw [List.length_map]; exact hL.hlen)
  have hn2 : n ≤ 1000 := by rw [← hL.hlen]; exact hn
  obtain ⟨b0, h0⟩ : ∃ q, in64 cp 0 1099511627776 = q := ⟨_, rfl⟩
  obtain ⟨b1, h1⟩ : ∃ q, riseS none L = q := ⟨_, rfl⟩
  obtain ⟨b2, h2⟩ : ∃ q, L.all shOkV = q := ⟨_, rfl⟩
  obtain ⟨b3, h3⟩ : ∃ q, decide (sumS L ≤ cp) = q := ⟨_, rfl⟩
  have HO := Lib.hid (show Bd.ok ⟨cp, L⟩ = (b0 && (b1 && (b2 && b3))) by rw [← h0, ← h1, ← h2, ← h3]; rfl)
  have H0 := Lib.hid (show allIn 1099511627776 [cp] = b0 by rw [← h0]; simp [allIn])
  have HRI := Lib.hid (fun w' (hb : Below w.heap.size w w') => shrise a n c L w' (hL.mono shOk hb))
  have HCO := Lib.hid (fun w' (hb : Below w.heap.size w w') => shcont a n c L w' (hL.mono shOk hb))
  have HSI := Lib.hid (fun w' (hb : Below w.heap.size w w') => bdsizes a n c L w' (hL.mono shOk hb) hn2)
  have H48 := Lib.hid (show b1 = true → b2 = true → n ≤ 8 ∧ T40s (L.map Sh.by') from fun e1 e2 => ⟨by have := rise_four (by rw [h1]; exact e1) (by rw [h2]; exact e2); rw [hL.hlen] at this; omega, all_t40 (by rw [h2]; exact e2)⟩)
  have HSM := Lib.hid (show decide ((L.map Sh.by').sum ≤ cp) = b3 from h3)
  rw [h1] at HRI
  rw [h2] at HCO
  clear h0 h1 h2 h3 hL hc hn
  cases b0
  · go_enter Try.func10, Try.ntmps10
    go_wp2_with (first
      | ((with_reducible refine box_row (o := ⟨some 1, _, _, _, _, _⟩) rfl _ _ rfl (bdC cp a n c) rfl ?_); intro w1 hr hb hz; have R1 := Lib.hid hr; have B1 := Lib.hid hb; clear hr hb hz))
    refine region_h (fun v => Below w1.heap.size w1 v) (by kernel_rfl) (by kernel_rfl) (Below.refl _ _).drew ?_
    obtain ⟨wd, hwd⟩ : ∃ wd, w1.drew = wd := ⟨_, rfl⟩
    have D0 : Hid (Below w1.heap.size w1 wd) := Lib.hid (by rw [← hwd]; exact (Below.refl _ _).drew)
    rw [hwd]
    clear hwd
    (refine h_read 0 rfl (by kernel_rfl) (by kernel_rfl) (h_free rfl) ?_ ?_ ?_; rotate_left; (focus (intro v hv; go_simp; rfl)); go_simp)
    (refine h_read 1 rfl (by kernel_rfl) (by kernel_rfl) (h_free rfl) ?_ ?_ ?_; rotate_left; (focus (intro v hv; obtain ⟨c0, c1⟩ := (R1.out.below hv R1.out.lt).k2; go_simp; rfl)); go_simp)
    (refine h_list 2 rfl (by kernel_rfl) ?_; intro K hK)
    refine bi1 (o := ⟨some 5, _, _, _, _, _⟩) rfl _ rfl cp ?_ HC.out ?_
    · first | (go_simp; done) | (go_simp; rfl)
    intro w2 hs hb hz
    have S2 := Lib.hid hs
    have D2 := Lib.hid (D0.out.trans (hb.mono D0.out.size))
    clear hs hb hz
    refine hK _ _ D2.out ?_
    go_simp
    (refine h_call 3 rfl (by kernel_rfl) (h_free rfl) 35 ?_ ?_ ?_; rotate_left; (focus (go_simp; rfl)))
    refine (lwithin 1099511627776 _ 1 1 [cp] _ S2.out).mono ?_
    rw [H0.out]
    rintro x w' ⟨rfl, rfl⟩
    refine ⟨_, rfl, D2.out, ?_⟩
    go_simp
    (refine h_read 4 rfl (by kernel_rfl) (by kernel_rfl) (h_free rfl) ?_ ?_ ?_; rotate_left; (focus (intro v hv; go_simp; rfl)); go_simp)
    (refine h_skip 5 rfl (by kernel_rfl) (by kernel_rfl) ?_ ?_; (focus (go_simp; first | done | (intro h; cases h) | simp)); go_simp)
    (refine h_skip 6 rfl (by kernel_rfl) (by kernel_rfl) ?_ ?_; (focus (go_simp; first | done | (intro h; cases h) | simp)); go_simp)
    (refine h_skip 7 rfl (by kernel_rfl) (by kernel_rfl) ?_ ?_; (focus (go_simp; first | done | (intro h; cases h) | simp)); go_simp)
    (refine h_read 8 rfl (by kernel_rfl) (by kernel_rfl) (h_free rfl) ?_ ?_ ?_; rotate_left; (focus (intro v hv; go_simp; rfl)); go_simp)
    (refine h_read 9 rfl (by kernel_rfl) (by kernel_rfl) (h_free rfl) ?_ ?_ ?_; rotate_left; (focus (intro v hv; go_simp; rfl)); go_simp)
    (refine h_skip 10 rfl (by kernel_rfl) (by kernel_rfl) ?_ ?_; (focus (go_simp; first | done | (intro h; cases h) | simp)); go_simp)
    (refine h_skip 11 rfl (by kernel_rfl) (by kernel_rfl) ?_ ?_; (focus (go_simp; first | done | (intro h; cases h) | simp)); go_simp)
    (refine h_skip 12 rfl (by kernel_rfl) (by kernel_rfl) ?_ ?_; (focus (go_simp; first | done | (intro h; cases h) | simp)); go_simp)
    (refine h_skip 13 rfl (by kernel_rfl) (by kernel_rfl) ?_ ?_; (focus (go_simp; first | done | (intro h; cases h) | simp)); go_simp)
    (refine h_read 14 rfl (by kernel_rfl) (by kernel_rfl) (h_free rfl) ?_ ?_ ?_; rotate_left; (focus (intro v hv; go_simp; rfl)); go_simp)
    (refine h_read 15 rfl (by kernel_rfl) (by kernel_rfl) (h_free rfl) ?_ ?_ ?_; rotate_left; (focus (intro v hv; go_simp; rfl)); go_simp)
    (refine h_skip 16 rfl (by kernel_rfl) (by kernel_rfl) ?_ ?_; (focus (go_simp; first | done | (intro h; cases h) | simp)); go_simp)
    (refine h_skip 17 rfl (by kernel_rfl) (by kernel_rfl) ?_ ?_; (focus (go_simp; first | done | (intro h; cases h) | simp)); go_simp)
    (refine h_skip 18 rfl (by kernel_rfl) (by kernel_rfl) ?_ ?_; (focus (go_simp; first | done | (intro h; cases h) | simp)); go_simp)
    (refine h_skip 19 rfl (by kernel_rfl) (by kernel_rfl) ?_ ?_; (focus (go_simp; first | done | (intro h; cases h) | simp)); go_simp)
    (refine h_skip 20 rfl (by kernel_rfl) (by kernel_rfl) ?_ ?_; (focus (go_simp; first | done | (intro h; cases h) | simp)); go_simp)
    (refine h_skip 21 rfl (by kernel_rfl) (by kernel_rfl) ?_ ?_; (focus (go_simp; first | done | (intro h; cases h) | simp)); go_simp)
    (refine h_read 22 rfl (by kernel_rfl) (by kernel_rfl) (h_free rfl) ?_ ?_ ?_; rotate_left; (focus (intro v hv; go_simp; rfl)); go_simp)
    (refine h_read 23 rfl (by kernel_rfl) (by kernel_rfl) (h_free rfl) ?_ ?_ ?_; rotate_left; (focus (intro v hv; go_simp; rfl)); go_simp)
    refine h_done (by kernel_rfl) ?_
    go_wp2_with fail
    go_ret
    exact ⟨one (vbool (by rw [HO.out]; first | done | rfl | simp)), B1.out.trans (D2.out.mono B1.out.size)⟩
  cases b1
  · go_enter Try.func10, Try.ntmps10
    go_wp2_with (first
      | ((with_reducible refine box_row (o := ⟨some 1, _, _, _, _, _⟩) rfl _ _ rfl (bdC cp a n c) rfl ?_); intro w1 hr hb hz; have R1 := Lib.hid hr; have B1 := Lib.hid hb; clear hr hb hz))
    refine region_h (fun v => Below w1.heap.size w1 v) (by kernel_rfl) (by kernel_rfl) (Below.refl _ _).drew ?_
    obtain ⟨wd, hwd⟩ : ∃ wd, w1.drew = wd := ⟨_, rfl⟩
    have D0 : Hid (Below w1.heap.size w1 wd) := Lib.hid (by rw [← hwd]; exact (Below.refl _ _).drew)
    rw [hwd]
    clear hwd
    (refine h_read 0 rfl (by kernel_rfl) (by kernel_rfl) (h_free rfl) ?_ ?_ ?_; rotate_left; (focus (intro v hv; go_simp; rfl)); go_simp)
    (refine h_read 1 rfl (by kernel_rfl) (by kernel_rfl) (h_free rfl) ?_ ?_ ?_; rotate_left; (focus (intro v hv; obtain ⟨c0, c1⟩ := (R1.out.below hv R1.out.lt).k2; go_simp; rfl)); go_simp)
    (refine h_list 2 rfl (by kernel_rfl) ?_; intro K hK)
    refine bi1 (o := ⟨some 5, _, _, _, _, _⟩) rfl _ rfl cp ?_ HC.out ?_
    · first | (go_simp; done) | (go_simp; rfl)
    intro w2 hs hb hz
    have S2 := Lib.hid hs
    have D2 := Lib.hid (D0.out.trans (hb.mono D0.out.size))
    clear hs hb hz
    refine hK _ _ D2.out ?_
    go_simp
    (refine h_call 3 rfl (by kernel_rfl) (h_free rfl) 35 ?_ ?_ ?_; rotate_left; (focus (go_simp; rfl)))
    refine (lwithin 1099511627776 _ 1 1 [cp] _ S2.out).mono ?_
    rw [H0.out]
    rintro x w' ⟨rfl, rfl⟩
    refine ⟨_, rfl, D2.out, ?_⟩
    go_simp
    (refine h_read 4 rfl (by kernel_rfl) (by kernel_rfl) (h_free rfl) ?_ ?_ ?_; rotate_left; (focus (intro v hv; go_simp; rfl)); go_simp)
    (refine h_read 5 rfl (by kernel_rfl) (by kernel_rfl) ?_ ?_ ?_ ?_; (focus (go_simp; done)); rotate_left; (focus (intro v hv; go_simp; rfl)); go_simp)
    (refine h_read 6 rfl (by kernel_rfl) (by kernel_rfl) ?_ ?_ ?_ ?_; (focus (go_simp; done)); rotate_left; (focus (intro v hv; obtain ⟨c0, c1⟩ := (R1.out.below hv R1.out.lt).k2; go_simp; rfl)); go_simp)
    (refine h_call 7 rfl (by kernel_rfl) ?_ 36 ?_ ?_ ?_; (focus (go_simp; done)); rotate_left; (focus (go_simp; rfl)))
    refine (HRI.out w2 (B1.out.trans (D2.out.mono B1.out.size))).mono ?_
    rintro x w3 ⟨rfl, hb⟩
    have D3 := Lib.hid (D2.out.trans (hb.mono D2.out.size))
    clear hb
    refine ⟨_, rfl, D3.out, ?_⟩
    go_simp
    (refine h_read 8 rfl (by kernel_rfl) (by kernel_rfl) (h_free rfl) ?_ ?_ ?_; rotate_left; (focus (intro v hv; go_simp; rfl)); go_simp)
    (refine h_read 9 rfl (by kernel_rfl) (by kernel_rfl) (h_free rfl) ?_ ?_ ?_; rotate_left; (focus (intro v hv; go_simp; rfl)); go_simp)
    (refine h_skip 10 rfl (by kernel_rfl) (by kernel_rfl) ?_ ?_; (focus (go_simp; first | done | (intro h; cases h) | simp)); go_simp)
    (refine h_skip 11 rfl (by kernel_rfl) (by kernel_rfl) ?_ ?_; (focus (go_simp; first | done | (intro h; cases h) | simp)); go_simp)
    (refine h_skip 12 rfl (by kernel_rfl) (by kernel_rfl) ?_ ?_; (focus (go_simp; first | done | (intro h; cases h) | simp)); go_simp)
    (refine h_skip 13 rfl (by kernel_rfl) (by kernel_rfl) ?_ ?_; (focus (go_simp; first | done | (intro h; cases h) | simp)); go_simp)
    (refine h_read 14 rfl (by kernel_rfl) (by kernel_rfl) (h_free rfl) ?_ ?_ ?_; rotate_left; (focus (intro v hv; go_simp; rfl)); go_simp)
    (refine h_read 15 rfl (by kernel_rfl) (by kernel_rfl) (h_free rfl) ?_ ?_ ?_; rotate_left; (focus (intro v hv; go_simp; rfl)); go_simp)
    (refine h_skip 16 rfl (by kernel_rfl) (by kernel_rfl) ?_ ?_; (focus (go_simp; first | done | (intro h; cases h) | simp)); go_simp)
    (refine h_skip 17 rfl (by kernel_rfl) (by kernel_rfl) ?_ ?_; (focus (go_simp; first | done | (intro h; cases h) | simp)); go_simp)
    (refine h_skip 18 rfl (by kernel_rfl) (by kernel_rfl) ?_ ?_; (focus (go_simp; first | done | (intro h; cases h) | simp)); go_simp)
    (refine h_skip 19 rfl (by kernel_rfl) (by kernel_rfl) ?_ ?_; (focus (go_simp; first | done | (intro h; cases h) | simp)); go_simp)
    (refine h_skip 20 rfl (by kernel_rfl) (by kernel_rfl) ?_ ?_; (focus (go_simp; first | done | (intro h; cases h) | simp)); go_simp)
    (refine h_skip 21 rfl (by kernel_rfl) (by kernel_rfl) ?_ ?_; (focus (go_simp; first | done | (intro h; cases h) | simp)); go_simp)
    (refine h_read 22 rfl (by kernel_rfl) (by kernel_rfl) (h_free rfl) ?_ ?_ ?_; rotate_left; (focus (intro v hv; go_simp; rfl)); go_simp)
    (refine h_read 23 rfl (by kernel_rfl) (by kernel_rfl) (h_free rfl) ?_ ?_ ?_; rotate_left; (focus (intro v hv; go_simp; rfl)); go_simp)
    refine h_done (by kernel_rfl) ?_
    go_wp2_with fail
    go_ret
    exact ⟨one (vbool (by rw [HO.out]; first | done | rfl | simp)), B1.out.trans (D3.out.mono B1.out.size)⟩
  cases b2
  · go_enter Try.func10, Try.ntmps10
    go_wp2_with (first
      | ((with_reducible refine box_row (o := ⟨some 1, _, _, _, _, _⟩) rfl _ _ rfl (bdC cp a n c) rfl ?_); intro w1 hr hb hz; have R1 := Lib.hid hr; have B1 := Lib.hid hb; clear hr hb hz))
    refine region_h (fun v => Below w1.heap.size w1 v) (by kernel_rfl) (by kernel_rfl) (Below.refl _ _).drew ?_
    obtain ⟨wd, hwd⟩ : ∃ wd, w1.drew = wd := ⟨_, rfl⟩
    have D0 : Hid (Below w1.heap.size w1 wd) := Lib.hid (by rw [← hwd]; exact (Below.refl _ _).drew)
    rw [hwd]
    clear hwd
    (refine h_read 0 rfl (by kernel_rfl) (by kernel_rfl) (h_free rfl) ?_ ?_ ?_; rotate_left; (focus (intro v hv; go_simp; rfl)); go_simp)
    (refine h_read 1 rfl (by kernel_rfl) (by kernel_rfl) (h_free rfl) ?_ ?_ ?_; rotate_left; (focus (intro v hv; obtain ⟨c0, c1⟩ := (R1.out.below hv R1.out.lt).k2; go_simp; rfl)); go_simp)
    (refine h_list 2 rfl (by kernel_rfl) ?_; intro K hK)
    refine bi1 (o := ⟨some 5, _, _, _, _, _⟩) rfl _ rfl cp ?_ HC.out ?_
    · first | (go_simp; done) | (go_simp; rfl)
    intro w2 hs hb hz
    have S2 := Lib.hid hs
    have D2 := Lib.hid (D0.out.trans (hb.mono D0.out.size))
    clear hs hb hz
    refine hK _ _ D2.out ?_
    go_simp
    (refine h_call 3 rfl (by kernel_rfl) (h_free rfl) 35 ?_ ?_ ?_; rotate_left; (focus (go_simp; rfl)))
    refine (lwithin 1099511627776 _ 1 1 [cp] _ S2.out).mono ?_
    rw [H0.out]
    rintro x w' ⟨rfl, rfl⟩
    refine ⟨_, rfl, D2.out, ?_⟩
    go_simp
    (refine h_read 4 rfl (by kernel_rfl) (by kernel_rfl) (h_free rfl) ?_ ?_ ?_; rotate_left; (focus (intro v hv; go_simp; rfl)); go_simp)
    (refine h_read 5 rfl (by kernel_rfl) (by kernel_rfl) ?_ ?_ ?_ ?_; (focus (go_simp; done)); rotate_left; (focus (intro v hv; go_simp; rfl)); go_simp)
    (refine h_read 6 rfl (by kernel_rfl) (by kernel_rfl) ?_ ?_ ?_ ?_; (focus (go_simp; done)); rotate_left; (focus (intro v hv; obtain ⟨c0, c1⟩ := (R1.out.below hv R1.out.lt).k2; go_simp; rfl)); go_simp)
    (refine h_call 7 rfl (by kernel_rfl) ?_ 36 ?_ ?_ ?_; (focus (go_simp; done)); rotate_left; (focus (go_simp; rfl)))
    refine (HRI.out w2 (B1.out.trans (D2.out.mono B1.out.size))).mono ?_
    rintro x w3 ⟨rfl, hb⟩
    have D3 := Lib.hid (D2.out.trans (hb.mono D2.out.size))
    clear hb
    refine ⟨_, rfl, D3.out, ?_⟩
    go_simp
    (refine h_read 8 rfl (by kernel_rfl) (by kernel_rfl) (h_free rfl) ?_ ?_ ?_; rotate_left; (focus (intro v hv; go_simp; rfl)); go_simp)
    (refine h_read 9 rfl (by kernel_rfl) (by kernel_rfl) (h_free rfl) ?_ ?_ ?_; rotate_left; (focus (intro v hv; go_simp; rfl)); go_simp)
    (refine h_read 10 rfl (by kernel_rfl) (by kernel_rfl) ?_ ?_ ?_ ?_; (focus (go_simp; done)); rotate_left; (focus (intro v hv; go_simp; rfl)); go_simp)
    (refine h_read 11 rfl (by kernel_rfl) (by kernel_rfl) ?_ ?_ ?_ ?_; (focus (go_simp; done)); rotate_left; (focus (intro v hv; obtain ⟨c0, c1⟩ := (R1.out.below hv R1.out.lt).k2; go_simp; rfl)); go_simp)
    (refine h_call 12 rfl (by kernel_rfl) ?_ 38 ?_ ?_ ?_; (focus (go_simp; done)); rotate_left; (focus (go_simp; rfl)))
    refine (HCO.out w3 (B1.out.trans (D3.out.mono B1.out.size))).mono ?_
    rintro x w4 ⟨rfl, hb⟩
    have D4 := Lib.hid (D3.out.trans (hb.mono D3.out.size))
    clear hb
    refine ⟨_, rfl, D4.out, ?_⟩
    go_simp
    (refine h_read 13 rfl (by kernel_rfl) (by kernel_rfl) ?_ ?_ ?_ ?_; (focus (go_simp; done)); rotate_left; (focus (intro v hv; go_simp; rfl)); go_simp)
    (refine h_read 14 rfl (by kernel_rfl) (by kernel_rfl) (h_free rfl) ?_ ?_ ?_; rotate_left; (focus (intro v hv; go_simp; rfl)); go_simp)
    (refine h_read 15 rfl (by kernel_rfl) (by kernel_rfl) (h_free rfl) ?_ ?_ ?_; rotate_left; (focus (intro v hv; go_simp; rfl)); go_simp)
    (refine h_skip 16 rfl (by kernel_rfl) (by kernel_rfl) ?_ ?_; (focus (go_simp; first | done | (intro h; cases h) | simp)); go_simp)
    (refine h_skip 17 rfl (by kernel_rfl) (by kernel_rfl) ?_ ?_; (focus (go_simp; first | done | (intro h; cases h) | simp)); go_simp)
    (refine h_skip 18 rfl (by kernel_rfl) (by kernel_rfl) ?_ ?_; (focus (go_simp; first | done | (intro h; cases h) | simp)); go_simp)
    (refine h_skip 19 rfl (by kernel_rfl) (by kernel_rfl) ?_ ?_; (focus (go_simp; first | done | (intro h; cases h) | simp)); go_simp)
    (refine h_skip 20 rfl (by kernel_rfl) (by kernel_rfl) ?_ ?_; (focus (go_simp; first | done | (intro h; cases h) | simp)); go_simp)
    (refine h_skip 21 rfl (by kernel_rfl) (by kernel_rfl) ?_ ?_; (focus (go_simp; first | done | (intro h; cases h) | simp)); go_simp)
    (refine h_read 22 rfl (by kernel_rfl) (by kernel_rfl) (h_free rfl) ?_ ?_ ?_; rotate_left; (focus (intro v hv; go_simp; rfl)); go_simp)
    (refine h_read 23 rfl (by kernel_rfl) (by kernel_rfl) (h_free rfl) ?_ ?_ ?_; rotate_left; (focus (intro v hv; go_simp; rfl)); go_simp)
    refine h_done (by kernel_rfl) ?_
    go_wp2_with fail
    go_ret
    exact ⟨one (vbool (by rw [HO.out]; first | done | rfl | simp)), B1.out.trans (D4.out.mono B1.out.size)⟩
  obtain ⟨h8, ht⟩ := H48.out rfl rfl
  have H8 := Lib.hid h8
  have HT := Lib.hid ht
  clear h8 ht
  go_enter Try.func10, Try.ntmps10
  go_wp2_with (first
    | ((with_reducible refine box_row (o := ⟨some 1, _, _, _, _, _⟩) rfl _ _ rfl (bdC cp a n c) rfl ?_); intro w1 hr hb hz; have R1 := Lib.hid hr; have B1 := Lib.hid hb; clear hr hb hz))
  refine region_h (fun v => Below w1.heap.size w1 v) (by kernel_rfl) (by kernel_rfl) (Below.refl _ _).drew ?_
  obtain ⟨wd, hwd⟩ : ∃ wd, w1.drew = wd := ⟨_, rfl⟩
  have D0 : Hid (Below w1.heap.size w1 wd) := Lib.hid (by rw [← hwd]; exact (Below.refl _ _).drew)
  rw [hwd]
  clear hwd
  (refine h_read 0 rfl (by kernel_rfl) (by kernel_rfl) (h_free rfl) ?_ ?_ ?_; rotate_left; (focus (intro v hv; go_simp; rfl)); go_simp)
  (refine h_read 1 rfl (by kernel_rfl) (by kernel_rfl) (h_free rfl) ?_ ?_ ?_; rotate_left; (focus (intro v hv; obtain ⟨c0, c1⟩ := (R1.out.below hv R1.out.lt).k2; go_simp; rfl)); go_simp)
  (refine h_list 2 rfl (by kernel_rfl) ?_; intro K hK)
  refine bi1 (o := ⟨some 5, _, _, _, _, _⟩) rfl _ rfl cp ?_ HC.out ?_
  · first | (go_simp; done) | (go_simp; rfl)
  intro w2 hs hb hz
  have S2 := Lib.hid hs
  have D2 := Lib.hid (D0.out.trans (hb.mono D0.out.size))
  clear hs hb hz
  refine hK _ _ D2.out ?_
  go_simp
  (refine h_call 3 rfl (by kernel_rfl) (h_free rfl) 35 ?_ ?_ ?_; rotate_left; (focus (go_simp; rfl)))
  refine (lwithin 1099511627776 _ 1 1 [cp] _ S2.out).mono ?_
  rw [H0.out]
  rintro x w' ⟨rfl, rfl⟩
  refine ⟨_, rfl, D2.out, ?_⟩
  go_simp
  (refine h_read 4 rfl (by kernel_rfl) (by kernel_rfl) (h_free rfl) ?_ ?_ ?_; rotate_left; (focus (intro v hv; go_simp; rfl)); go_simp)
  (refine h_read 5 rfl (by kernel_rfl) (by kernel_rfl) ?_ ?_ ?_ ?_; (focus (go_simp; done)); rotate_left; (focus (intro v hv; go_simp; rfl)); go_simp)
  (refine h_read 6 rfl (by kernel_rfl) (by kernel_rfl) ?_ ?_ ?_ ?_; (focus (go_simp; done)); rotate_left; (focus (intro v hv; obtain ⟨c0, c1⟩ := (R1.out.below hv R1.out.lt).k2; go_simp; rfl)); go_simp)
  (refine h_call 7 rfl (by kernel_rfl) ?_ 36 ?_ ?_ ?_; (focus (go_simp; done)); rotate_left; (focus (go_simp; rfl)))
  refine (HRI.out w2 (B1.out.trans (D2.out.mono B1.out.size))).mono ?_
  rintro x w3 ⟨rfl, hb⟩
  have D3 := Lib.hid (D2.out.trans (hb.mono D2.out.size))
  clear hb
  refine ⟨_, rfl, D3.out, ?_⟩
  go_simp
  (refine h_read 8 rfl (by kernel_rfl) (by kernel_rfl) (h_free rfl) ?_ ?_ ?_; rotate_left; (focus (intro v hv; go_simp; rfl)); go_simp)
  (refine h_read 9 rfl (by kernel_rfl) (by kernel_rfl) (h_free rfl) ?_ ?_ ?_; rotate_left; (focus (intro v hv; go_simp; rfl)); go_simp)
  (refine h_read 10 rfl (by kernel_rfl) (by kernel_rfl) ?_ ?_ ?_ ?_; (focus (go_simp; done)); rotate_left; (focus (intro v hv; go_simp; rfl)); go_simp)
  (refine h_read 11 rfl (by kernel_rfl) (by kernel_rfl) ?_ ?_ ?_ ?_; (focus (go_simp; done)); rotate_left; (focus (intro v hv; obtain ⟨c0, c1⟩ := (R1.out.below hv R1.out.lt).k2; go_simp; rfl)); go_simp)
  (refine h_call 12 rfl (by kernel_rfl) ?_ 38 ?_ ?_ ?_; (focus (go_simp; done)); rotate_left; (focus (go_simp; rfl)))
  refine (HCO.out w3 (B1.out.trans (D3.out.mono B1.out.size))).mono ?_
  rintro x w4 ⟨rfl, hb⟩
  have D4 := Lib.hid (D3.out.trans (hb.mono D3.out.size))
  clear hb
  refine ⟨_, rfl, D4.out, ?_⟩
  go_simp
  (refine h_read 13 rfl (by kernel_rfl) (by kernel_rfl) ?_ ?_ ?_ ?_; (focus (go_simp; done)); rotate_left; (focus (intro v hv; go_simp; rfl)); go_simp)
  (refine h_read 14 rfl (by kernel_rfl) (by kernel_rfl) (h_free rfl) ?_ ?_ ?_; rotate_left; (focus (intro v hv; go_simp; rfl)); go_simp)
  (refine h_read 15 rfl (by kernel_rfl) (by kernel_rfl) (h_free rfl) ?_ ?_ ?_; rotate_left; (focus (intro v hv; go_simp; rfl)); go_simp)
  (refine h_read 16 rfl (by kernel_rfl) (by kernel_rfl) ?_ ?_ ?_ ?_; (focus (go_simp; done)); rotate_left; (focus (intro v hv; go_simp; rfl)); go_simp)
  (refine h_read 17 rfl (by kernel_rfl) (by kernel_rfl) ?_ ?_ ?_ ?_; (focus (go_simp; done)); rotate_left; (focus (intro v hv; obtain ⟨c0, c1⟩ := (R1.out.below hv R1.out.lt).k2; go_simp; rfl)); go_simp)
  (refine h_read 18 rfl (by kernel_rfl) (by kernel_rfl) ?_ ?_ ?_ ?_; (focus (go_simp; done)); rotate_left; (focus (intro v hv; go_simp; rfl)); go_simp)
  (refine h_read 19 rfl (by kernel_rfl) (by kernel_rfl) ?_ ?_ ?_ ?_; (focus (go_simp; done)); rotate_left; (focus (intro v hv; obtain ⟨c0, c1⟩ := (R1.out.below hv R1.out.lt).k2; go_simp; rfl)); go_simp)
  (refine h_call 20 rfl (by kernel_rfl) ?_ 32 ?_ ?_ ?_; (focus (go_simp; done)); rotate_left; (focus (go_simp; rfl)))
  refine (HSI.out w4 (B1.out.trans (D4.out.mono B1.out.size))).mono ?_
  rintro x w5 ⟨v5, rfl, hl, hb⟩
  obtain ⟨a5, c5, rfl, -, hsl⟩ := sum_sl hl HF.out n HN.out
  have S5 := Lib.hid hsl
  have D5 := Lib.hid (D4.out.trans (hb.mono D4.out.size))
  clear hl hsl hb
  refine ⟨_, rfl, D5.out, ?_⟩
  go_simp
  (refine h_call 21 rfl (by kernel_rfl) ?_ 31 ?_ ?_ ?_; (focus (go_simp; done)); rotate_left; (focus (go_simp; rfl)))
  refine (lfit cp a5 n c5 (L.map Sh.by') w5 S5.out HT.out H8.out).mono ?_
  rw [HSM.out]
  rintro x w' ⟨rfl, rfl⟩
  refine ⟨_, rfl, D5.out, ?_⟩
  go_simp
  (refine h_read 22 rfl (by kernel_rfl) (by kernel_rfl) (h_free rfl) ?_ ?_ ?_; rotate_left; (focus (intro v hv; go_simp; rfl)); go_simp)
  (refine h_read 23 rfl (by kernel_rfl) (by kernel_rfl) (h_free rfl) ?_ ?_ ?_; rotate_left; (focus (intro v hv; go_simp; rfl)); go_simp)
  refine h_done (by kernel_rfl) ?_
  go_wp2_with fail
  go_ret
  exact ⟨one (vbool (by rw [HO.out]; first | done | rfl | simp)), B1.out.trans (D5.out.mono B1.out.size)⟩
end Go.Proofs.Ytkmdbdieloimiaa.W
