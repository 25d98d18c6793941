/- LAYER 16 (msg): Check of the reference. -/
import Derived.Test.YtdcioeoofngibaaMsS
import Derived.Test.YtdcioeoofngibaaRcC
import Derived.Deep.CutBlock
set_option linter.unusedSimpArgs false
set_option linter.unusedVariables false
namespace Go.Proofs.Ytdcioeoofngibaa.W
open Go Go.ChangeShapes Go.WideShapes Go.ChangeAt Go.RowKit

theorem ch13 : ∀ b0 b1 b2 b3 b4 b5 b6 b7 b8 b9 b10 b11 b12 : Bool, (b0 = false) ∨ (b0 = true ∧ b1 = false) ∨ (b0 = true ∧ b1 = true ∧ b2 = false) ∨ (b0 = true ∧ b1 = true ∧ b2 = true ∧ b3 = false) ∨ (b0 = true ∧ b1 = true ∧ b2 = true ∧ b3 = true ∧ b4 = false) ∨ (b0 = true ∧ b1 = true ∧ b2 = true ∧ b3 = true ∧ b4 = true ∧ b5 = false) ∨ (b0 = true ∧ b1 = true ∧ b2 = true ∧ b3 = true ∧ b4 = true ∧ b5 = true ∧ b6 = false) ∨ (b0 = true ∧ b1 = true ∧ b2 = true ∧ b3 = true ∧ b4 = true ∧ b5 = true ∧ b6 = true ∧ b7 = false) ∨ (b0 = true ∧ b1 = true ∧ b2 = true ∧ b3 = true ∧ b4 = true ∧ b5 = true ∧ b6 = true ∧ b7 = true ∧ b8 = false) ∨ (b0 = true ∧ b1 = true ∧ b2 = true ∧ b3 = true ∧ b4 = true ∧ b5 = true ∧ b6 = true ∧ b7 = true ∧ b8 = true ∧ b9 = false) ∨ (b0 = true ∧ b1 = true ∧ b2 = true ∧ b3 = true ∧ b4 = true ∧ b5 = true ∧ b6 = true ∧ b7 = true ∧ b8 = true ∧ b9 = true ∧ b10 = false) ∨ (b0 = true ∧ b1 = true ∧ b2 = true ∧ b3 = true ∧ b4 = true ∧ b5 = true ∧ b6 = true ∧ b7 = true ∧ b8 = true ∧ b9 = true ∧ b10 = true ∧ b11 = false) ∨ (b0 = true ∧ b1 = true ∧ b2 = true ∧ b3 = true ∧ b4 = true ∧ b5 = true ∧ b6 = true ∧ b7 = true ∧ b8 = true ∧ b9 = true ∧ b10 = true ∧ b11 = true ∧ b12 = false) ∨ (b0 = true ∧ b1 = true ∧ b2 = true ∧ b3 = true ∧ b4 = true ∧ b5 = true ∧ b6 = true ∧ b7 = true ∧ b8 = true ∧ b9 = true ∧ b10 = true ∧ b11 = true ∧ b12 = true) := by
  intro b0 b1 b2 b3 b4 b5 b6 b7 b8 b9 b10 b11 b12
  cases b0
  · exact .inl rfl
  ·
    cases b1
    · exact .inr (.inl ⟨rfl, rfl⟩)
    ·
      cases b2
      · exact .inr (.inr (.inl ⟨rfl, rfl, rfl⟩))
      ·
        cases b3
        · exact .inr (.inr (.inr (.inl ⟨rfl, rfl, rfl, rfl⟩)))
        ·
          cases b4
          · exact .inr (.inr (.inr (.inr (.inl ⟨rfl, rfl, rfl, rfl, rfl⟩))))
          ·
            cases b5
            · exact .inr (.inr (.inr (.inr (.inr (.inl ⟨rfl, rfl, rfl, rfl, rfl, rfl⟩)))))
            ·
              cases b6
              · exact .inr (.inr (.inr (.inr (.inr (.inr (.inl ⟨rfl, rfl, rfl, rfl, rfl, rfl, rfl⟩))))))
              ·
                cases b7
                · exact .inr (.inr (.inr (.inr (.inr (.inr (.inr (.inl ⟨rfl, rfl, rfl, rfl, rfl, rfl, rfl, rfl⟩)))))))
                ·
                  cases b8
                  · exact .inr (.inr (.inr (.inr (.inr (.inr (.inr (.inr (.inl ⟨rfl, rfl, rfl, rfl, rfl, rfl, rfl, rfl, rfl⟩))))))))
                  ·
                    cases b9
                    · exact .inr (.inr (.inr (.inr (.inr (.inr (.inr (.inr (.inr (.inl ⟨rfl, rfl, rfl, rfl, rfl, rfl, rfl, rfl, rfl, rfl⟩)))))))))
                    ·
                      cases b10
                      · exact .inr (.inr (.inr (.inr (.inr (.inr (.inr (.inr (.inr (.inr (.inl ⟨rfl, rfl, rfl, rfl, rfl, rfl, rfl, rfl, rfl, rfl, rfl⟩))))))))))
                      ·
                        cases b11
                        · exact .inr (.inr (.inr (.inr (.inr (.inr (.inr (.inr (.inr (.inr (.inr (.inl ⟨rfl, rfl, rfl, rfl, rfl, rfl, rfl, rfl, rfl, rfl, rfl, rfl⟩)))))))))))
                        ·
                          cases b12
                          · exact .inr (.inr (.inr (.inr (.inr (.inr (.inr (.inr (.inr (.inr (.inr (.inr (.inl ⟨rfl, rfl, rfl, rfl, rfl, rfl, rfl, rfl, rfl, rfl, rfl, rfl, rfl⟩))))))))))))
                          ·
                            exact .inr (.inr (.inr (.inr (.inr (.inr (.inr (.inr (.inr (.inr (.inr (.inr (.inr (⟨rfl, rfl, rfl, rfl, rfl, rfl, rfl, rfl, rfl, rfl, rfl, rfl, rfl⟩)))))))))))))
theorem all_take (L : List (En × List UInt8)) (j : Nat) (hj : j < L.length) : ((L.take (j + 1)).map pe).all okE = (((L.take j).map pe).all okE && okE (pe (L.getD j Ez))) := by
  rw [List.take_succ_eq_append_getElem hj, List.map_append, List.all_append]
  simp [List.getD_eq_getElem?_getD, hj]
theorem all_le (L : List (En × List UInt8)) (j : Nat) (h : ((L.take j).map pe).all okE = false) : (L.map pe).all okE = false := by
  rw [← List.take_append_drop j L, List.map_append, List.all_append, h]; rfl
set_option maxRecDepth 100000 in
set_option maxHeartbeats 64000000 in
theorem vcheck (m : Ms) (d : List UInt8) (L : List (En × List UInt8)) (w : World) (h : MsF w m d L) :
    Calls Try.prog 8 #[.agg m.cells.toArray] w fun x w' => x = .returned (.int .i64 (m.pl d L).chk) ∧ Below w.heap.size w w' := by
  have HW := Lib.hid (fun w => vonly (m, d, L) w)
  have HM := Lib.hid h
  have HP := Lib.hid (onlyT_pl (m, d, L))
  have HOF := Lib.hid (fun (w' : World) (hb : Below w.heap.size w w') => foldT_fit (m := (m, d, L)) (h.mono hb) ((fieldsV m.k).take (fieldsV m.k).length) (bareT m) (bareT_fit (m := (m, d, L)) (h.mono hb)))
  have HE := Lib.hid h.es
  have HN := Lib.hid h.rd.hlen
  have SZ := Lib.hid ms_size
  have ES := Lib.hid en_size
  obtain ⟨O, hO⟩ : ∃ O, onlyT (m, d, L) (fieldsV m.k).length = O := ⟨_, rfl⟩
  dsimp only at HW HP
  have HOF2 : Hid (∀ w', Below w.heap.size w w' → MsF w' O.1 O.2.1 O.2.2) := Lib.hid (by rw [← hO]; exact HOF.out)
  rw [hO] at HW HP
  clear HOF hO h
  obtain ⟨k, fr, dt, tm, ix, lt, cm, rn, cf, ok, ea, en, ec, a, n, c, s⟩ := m
  obtain ⟨b0, h0⟩ : ∃ b, (decide (1 ≤ k)) = b := ⟨_, rfl⟩
  obtain ⟨b1, h1⟩ : ∃ b, (decide (k ≤ 11)) = b := ⟨_, rfl⟩
  obtain ⟨b2, h2⟩ : ∃ b, (inV fr 0 6) = b := ⟨_, rfl⟩
  obtain ⟨b3, h3⟩ : ∃ b, (inV dt 0 6) = b := ⟨_, rfl⟩
  obtain ⟨b4, h4⟩ : ∃ b, (!(fr == dt)) = b := ⟨_, rfl⟩
  obtain ⟨b5, h5⟩ : ∃ b, (inV tm 0 2147483648) = b := ⟨_, rfl⟩
  obtain ⟨b6, h6⟩ : ∃ b, (inV ix 0 2147483648) = b := ⟨_, rfl⟩
  obtain ⟨b7, h7⟩ : ∃ b, (inV lt 0 2147483648) = b := ⟨_, rfl⟩
  obtain ⟨b8, h8⟩ : ∃ b, (inV cm 0 2147483648) = b := ⟨_, rfl⟩
  obtain ⟨b9, h9⟩ : ∃ b, (inV rn 0 2147483648) = b := ⟨_, rfl⟩
  obtain ⟨b10, h10⟩ : ∃ b, (inV cf 0 127) = b := ⟨_, rfl⟩
  obtain ⟨b11, h11⟩ : ∃ b, (decide (en ≤ 8)) = b := ⟨_, rfl⟩
  obtain ⟨b12, h12⟩ : ∃ b, (decide (n ≤ 131072)) = b := ⟨_, rfl⟩
  obtain ⟨e1, he1⟩ : ∃ b, s.toList.isEmpty = b := ⟨_, rfl⟩
  obtain ⟨e2, he2⟩ : ∃ b, ((s.size : Int) == 32) = b := ⟨_, rfl⟩
  have hee : (decide (s.data.toList.length = 0) || decide (s.data.toList.length = 32)) = (e1 || e2) := by
    have x1 : s.data.toList.length = s.size := rfl
    have x2 : s.toList.isEmpty = decide (s.data.toList.length = 0) := by
      rw [ByteArray.toList_eq, Bool.eq_iff_iff, List.isEmpty_iff, decide_eq_true_eq, List.length_eq_zero_iff]
    have x3 : ((s.size : Int) == 32) = decide (s.data.toList.length = 32) := by
      rw [x1, Bool.eq_iff_iff]; simp; omega
    rw [← he1, ← he2, x2, x3]
  obtain ⟨al, hal⟩ : ∃ b, (L.map pe).all okE = b := ⟨_, rfl⟩
  have hen : L.length = en := HE.out.hlen
  obtain ⟨okb, hokb⟩ : ∃ b, (b0 && (b1 && (b2 && (b3 && (b4 && (b5 && (b6 && (b7 && (b8 && (b9 && (b10 && (b11 && (b12 && (e1 || e2)))))))))))))) = b := ⟨_, rfl⟩
  have hfits : (Ms.pl ⟨k, fr, dt, tm, ix, lt, cm, rn, cf, ok, ea, en, ec, a, n, c, s⟩ d L).fits = (okb && al) := by
    unfold MF.fits Ms.pl
    dsimp only at HN ⊢
    rw [List.length_map, hen, HN.out, hal, hee, h2, h3, h4, h5, h6, h7, h8, h9, h10, h11, h12]
    unfold inV
    rw [h0, h1, ← hokb]
    simp only [Bool.and_assoc]
  obtain ⟨sm, hsm⟩ : ∃ b, (Ms.pl ⟨k, fr, dt, tm, ix, lt, cm, rn, cf, ok, ea, en, ec, a, n, c, s⟩ d L).same (Ms.pl ⟨k, fr, dt, tm, ix, lt, cm, rn, cf, ok, ea, en, ec, a, n, c, s⟩ d L).only = b := ⟨_, rfl⟩
  have hchk : (Ms.pl ⟨k, fr, dt, tm, ix, lt, cm, rn, cf, ok, ea, en, ec, a, n, c, s⟩ d L).chk = if (okb && al) = true ∧ sm = true then 0 else 1 := by
    unfold MF.chk; rw [hfits, hsm]
  rw [hchk]
  obtain ⟨R, hR⟩ : ∃ R : Int, (if (okb && al) = true ∧ sm = true then 0 else 1) = R := ⟨_, rfl⟩
  rw [hR]
  have HR := Lib.hid hR
  clear hR
  have HOK8 : Hid (okb = true → en ≤ 8) := Lib.hid (fun ho => by
    rw [← hokb] at ho
    have : b11 = true := by revert ho; cases b11 <;> simp
    rw [← h11] at this
    exact of_decide_eq_true this)
  have HS2 : Hid (∀ w', Below w.heap.size w w' → en ≤ 1000000 → Calls Try.prog 10 #[.agg (Ms.cells ⟨k, fr, dt, tm, ix, lt, cm, rn, cf, ok, ea, en, ec, a, n, c, s⟩).toArray, .agg O.1.cells.toArray] w' fun x w2 => x = .returned (.bool sm) ∧ Below w'.heap.size w' w2) := Lib.hid (fun w' hb hle => by
    have := vsame ⟨k, fr, dt, tm, ix, lt, cm, rn, cf, ok, ea, en, ec, a, n, c, s⟩ O.1 d O.2.1 L O.2.2 w' (HM.out.mono hb) (HOF2.out w' hb) hle
    rw [← hsm]
    have e := HP.out
    unfold Mt.pl at e
    rw [e] at this
    exact this)
  obtain ⟨C, hC⟩ : ∃ C, O.1.cells.toArray = C := ⟨_, rfl⟩
  rw [hC] at HW HS2
  have HAL := Lib.hid hal
  have HEN := Lib.hid hen
  have HOKB := Lib.hid hokb
  have q11 : decide ((en : Int) ≤ 8) = b11 := by rw [← h11, decide_eq_decide]; omega
  have q12 : decide ((n : Int) ≤ 131072) = b12 := by rw [← h12, decide_eq_decide]; omega
  have q4 : (fr != dt) = b4 := by rw [← h4]; rfl
  clear hfits hchk hsm HP HOF2 HM hal hC hen HN hokb hee h4 h11 h12
  have H2 := Lib.hid h2
  have H3 := Lib.hid h3
  have H5 := Lib.hid h5
  have H6 := Lib.hid h6
  have H7 := Lib.hid h7
  have H8 := Lib.hid h8
  have H9 := Lib.hid h9
  have H10 := Lib.hid h10
  clear h2 h3 h5 h6 h7 h8 h9 h10
  unfold Ms.cells at HW HS2 ⊢
  dsimp only at HE HW HS2 ⊢
  go_enter Try.func8, Try.ntmps8
  go_upto_region 1 with (first
    | (with_reducible refine box_row (o := ⟨some 1, _, _, _, _, _⟩) rfl _ _ rfl [.int .i64 k, .int .i64 fr, .int .i64 dt, .int .i64 tm, .int .i64 ix, .int .i64 lt, .int .i64 cm, .int .i64 rn, .int .i64 cf, .bool ok, .slice ea en ec, .slice a n c, .string s] rfl ?_; intro w1 hr1 hb1 hz1; have R1 := Lib.hid hr1; have B1 := Lib.hid hb1; clear hr1 hb1 hz1))
  go_cut [3] from 5 (fun v wx => v = .bool okb ∧ wx = w1)
  case first =>
    obtain ⟨c0, c1, c2, c3, c4, c5, c6, c7, c8, c9, c10, c11, c12⟩ := R1.out.q13
    rcases ch13 b0 b1 b2 b3 b4 b5 b6 b7 b8 b9 b10 b11 b12 with rfl | ⟨rfl, rfl⟩ | ⟨rfl, rfl, rfl⟩ | ⟨rfl, rfl, rfl, rfl⟩ | ⟨rfl, rfl, rfl, rfl, rfl⟩ | ⟨rfl, rfl, rfl, rfl, rfl, rfl⟩ | ⟨rfl, rfl, rfl, rfl, rfl, rfl, rfl⟩ | ⟨rfl, rfl, rfl, rfl, rfl, rfl, rfl, rfl⟩ | ⟨rfl, rfl, rfl, rfl, rfl, rfl, rfl, rfl, rfl⟩ | ⟨rfl, rfl, rfl, rfl, rfl, rfl, rfl, rfl, rfl, rfl⟩ | ⟨rfl, rfl, rfl, rfl, rfl, rfl, rfl, rfl, rfl, rfl, rfl⟩ | ⟨rfl, rfl, rfl, rfl, rfl, rfl, rfl, rfl, rfl, rfl, rfl, rfl⟩ | ⟨rfl, rfl, rfl, rfl, rfl, rfl, rfl, rfl, rfl, rfl, rfl, rfl, rfl⟩ | ⟨rfl, rfl, rfl, rfl, rfl, rfl, rfl, rfl, rfl, rfl, rfl, rfl, rfl⟩
    all_goals (try simp only [decide_eq_true_eq, decide_eq_false_iff_not] at h0)
    all_goals (try simp only [decide_eq_true_eq, decide_eq_false_iff_not] at h1)
    all_goals (try simp only [decide_eq_true_eq, decide_eq_false_iff_not] at q11)
    all_goals (try simp only [decide_eq_true_eq, decide_eq_false_iff_not] at q12)
    rotate_left 13
    cases e1 <;> cases e2
    all_goals
      go_wp2_with (first
            | (go_at_call 18; with_reducible refine (vin fr 6 _).mono ?_; rw [H2.out]; rintro x w' ⟨rfl, rfl⟩)
            | (go_at_call 18; with_reducible refine (vin dt 6 _).mono ?_; rw [H3.out]; rintro x w' ⟨rfl, rfl⟩)
            | (go_at_call 18; with_reducible refine (vin tm 2147483648 _).mono ?_; rw [H5.out]; rintro x w' ⟨rfl, rfl⟩)
            | (go_at_call 18; with_reducible refine (vin ix 2147483648 _).mono ?_; rw [H6.out]; rintro x w' ⟨rfl, rfl⟩)
            | (go_at_call 18; with_reducible refine (vin lt 2147483648 _).mono ?_; rw [H7.out]; rintro x w' ⟨rfl, rfl⟩)
            | (go_at_call 18; with_reducible refine (vin cm 2147483648 _).mono ?_; rw [H8.out]; rintro x w' ⟨rfl, rfl⟩)
            | (go_at_call 18; with_reducible refine (vin rn 2147483648 _).mono ?_; rw [H9.out]; rintro x w' ⟨rfl, rfl⟩)
            | (go_at_call 18; with_reducible refine (vin cf 127 _).mono ?_; rw [H10.out]; rintro x w' ⟨rfl, rfl⟩))
      all_goals
        go_meet
        case rel => exact ⟨by rw [← HOKB.out]; rfl, rfl⟩
  case rest =>
    obtain ⟨rfl, rfl⟩ := hcut
    obtain ⟨w1, rfl⟩ : ∃ w1 : World, w1 = wc := ⟨_, rfl⟩
    clear h0 h1 q4 q11 q12 he1 he2 H2 H3 H5 H6 H7 H8 H9 H10 HOKB
    rcases okb with _ | _
    · go_wp2_with fail
      go_loopw [3, 4] (fun v i wr => v = .bool false ∧ i = .int .i64 0 ∧ wr = w1) (fun _ _ _ => 0)
      case atStart => exact ⟨rfl, rfl, rfl⟩
      case round =>
        obtain ⟨rfl, rfl, rfl⟩ := hrel
        obtain ⟨c0, c1, c2, c3, c4, c5, c6, c7, c8, c9, c10, c11, c12⟩ := R1.out.q13
        go_wp2_with fail
        clear c0 c1 c2 c3 c4 c5 c6 c7 c8 c9 c10 c11 c12
        refine region_h (fun v => Below wr.heap.size wr v) (by kernel_rfl) (by kernel_rfl) (Below.refl _ _).drew ?_
        obtain ⟨wd, hwd⟩ : ∃ wd, wr.drew = wd := ⟨_, rfl⟩
        have D0 : Hid (Below wr.heap.size wr wd) := Lib.hid (by rw [← hwd]; exact (Below.refl _ _).drew)
        rw [hwd]
        clear hwd
        (refine h_read 0 rfl (by kernel_rfl) (by kernel_rfl) (h_free rfl) ?_ ?_ ?_; rotate_left; (focus (intro v hv; go_simp; rfl)); go_simp)
        (refine h_read 1 rfl (by kernel_rfl) (by kernel_rfl) (h_free rfl) ?_ ?_ ?_; rotate_left; (focus (intro v hv; go_simp; rfl)); go_simp)
        (refine h_read 2 rfl (by kernel_rfl) (by kernel_rfl) (h_free rfl) ?_ ?_ ?_; rotate_left; (focus (intro v hv; go_simp; rfl)); go_simp)
        (refine h_skip 3 rfl (by kernel_rfl) (by kernel_rfl) ?_ ?_; (focus (go_simp; first | done | (intro h; cases h) | simp)); go_simp)
        (refine h_skip 4 rfl (by kernel_rfl) (by kernel_rfl) ?_ ?_; (focus (go_simp; first | done | (intro h; cases h) | simp)); go_simp)
        (refine h_skip 5 rfl (by kernel_rfl) (by kernel_rfl) ?_ ?_; (focus (go_simp; first | done | (intro h; cases h) | simp)); go_simp)
        (refine h_skip 6 rfl (by kernel_rfl) (by kernel_rfl) ?_ ?_; (focus (go_simp; first | done | (intro h; cases h) | simp)); go_simp)
        (refine h_skip 7 rfl (by kernel_rfl) (by kernel_rfl) ?_ ?_; (focus (go_simp; first | done | (intro h; cases h) | simp)); go_simp)
        (refine h_read 8 rfl (by kernel_rfl) (by kernel_rfl) (h_free rfl) ?_ ?_ ?_; rotate_left; (focus (intro v hv; go_simp; rfl)); go_simp)
        refine h_done (by kernel_rfl) ?_
        go_wp2_with fail
        go_ret
        exact ⟨one (vint (by rw [← HR.out]; simp)), B1.out.trans (D0.out.mono B1.out.size)⟩
    · have hen8 : en ≤ 8 := HOK8.out rfl
      go_wp2_with fail
      go_loopw [3, 4] (fun v i wr => ∃ (j : Nat) (o : Bool), v = .bool o ∧ i = .int .i64 (j : Int) ∧ j ≤ en ∧ Hid (((L.take j).map pe).all okE = o) ∧ Hid (Below w1.heap.size w1 wr)) (fun _ i _ => en - (intOf i).toNat)
      case atStart => exact ⟨0, true, rfl, rfl, Nat.zero_le _, Lib.hid rfl, Lib.hid (Below.refl _ _)⟩
      case round =>
        obtain ⟨j, o, rfl, rfl, hj, P, B⟩ := hrel
        have R3 := Lib.hid (R1.out.below B.out R1.out.lt)
        obtain ⟨c0, c1, c2, c3, c4, c5, c6, c7, c8, c9, c10, c11, c12⟩ := R3.out.q13
        rcases o with _ | _
        · have HA := Lib.hid (show al = false by rw [← HAL.out]; exact all_le L j P.out)
          go_wp2_with fail
          clear c0 c1 c2 c3 c4 c5 c6 c7 c8 c9 c10 c11 c12
          refine region_h (fun v => Below wr.heap.size wr v) (by kernel_rfl) (by kernel_rfl) (Below.refl _ _).drew ?_
          obtain ⟨wd, hwd⟩ : ∃ wd, wr.drew = wd := ⟨_, rfl⟩
          have D0 : Hid (Below wr.heap.size wr wd) := Lib.hid (by rw [← hwd]; exact (Below.refl _ _).drew)
          rw [hwd]
          clear hwd
          (refine h_read 0 rfl (by kernel_rfl) (by kernel_rfl) (h_free rfl) ?_ ?_ ?_; rotate_left; (focus (intro v hv; go_simp; rfl)); go_simp)
          (refine h_read 1 rfl (by kernel_rfl) (by kernel_rfl) (h_free rfl) ?_ ?_ ?_; rotate_left; (focus (intro v hv; go_simp; rfl)); go_simp)
          (refine h_read 2 rfl (by kernel_rfl) (by kernel_rfl) (h_free rfl) ?_ ?_ ?_; rotate_left; (focus (intro v hv; go_simp; rfl)); go_simp)
          (refine h_skip 3 rfl (by kernel_rfl) (by kernel_rfl) ?_ ?_; (focus (go_simp; first | done | (intro h; cases h) | simp)); go_simp)
          (refine h_skip 4 rfl (by kernel_rfl) (by kernel_rfl) ?_ ?_; (focus (go_simp; first | done | (intro h; cases h) | simp)); go_simp)
          (refine h_skip 5 rfl (by kernel_rfl) (by kernel_rfl) ?_ ?_; (focus (go_simp; first | done | (intro h; cases h) | simp)); go_simp)
          (refine h_skip 6 rfl (by kernel_rfl) (by kernel_rfl) ?_ ?_; (focus (go_simp; first | done | (intro h; cases h) | simp)); go_simp)
          (refine h_skip 7 rfl (by kernel_rfl) (by kernel_rfl) ?_ ?_; (focus (go_simp; first | done | (intro h; cases h) | simp)); go_simp)
          (refine h_read 8 rfl (by kernel_rfl) (by kernel_rfl) (h_free rfl) ?_ ?_ ?_; rotate_left; (focus (intro v hv; go_simp; rfl)); go_simp)
          refine h_done (by kernel_rfl) ?_
          go_wp2_with fail
          go_ret
          exact ⟨one (vint (by rw [← HR.out, HA.out]; simp)), (B1.out.trans (B.out.mono B1.out.size)).trans (D0.out.mono (Nat.le_trans B1.out.size B.out.size))⟩
        · by_cases hlt : j < en
          · obtain ⟨y1, o1, rfl, hx1, hf1, hk1⟩ := (HE.out.mono B1.out).at B.out j hlt
            have hst := all_take L j hk1
            rw [P.out, Bool.true_and] at hst
            obtain ⟨⟨ev, el⟩, hq⟩ : ∃ y, L.getD j Ez = y := ⟨_, rfl⟩
            rw [hq] at hst hx1 hf1
            dsimp only at hx1 hf1
            rw [okE_pe hf1] at hst
            have X1 := Lib.hid hx1
            have HST := Lib.hid hst
            have g1 : (0 : Int) ≤ (j : Int) := by omega
            have g2 : (j : Int) < (en : Int) := by omega
            clear hx1 hf1 hq hst hk1
            go_wp2_with (first
              | ((with_reducible refine load_cells (o := ⟨some 97, _, _, _, _, _⟩) rfl _ _ rfl y1 (o1 + j * 4) ?_ ev.cells _ X1.out Try.underlying40 rfl ?_ ?_); (focus go_simp); (focus (exact ES.out)))
              | (go_at_call 19; refine (uentry ev wr).mono ?_; rintro x w5 ⟨rfl, hb5⟩; have B5 := Lib.hid (B.out.trans (hb5.mono B.out.size)); clear hb5))
            go_roundw
            case rel => exact ⟨j + 1, enOk ev, rfl, vint (by omega), by omega, HST, B5⟩
            case measure => simp [intOf]; omega
          · obtain rfl : en = j := by omega
            have HA := Lib.hid (show al = true by rw [← HAL.out, ← P.out, List.take_of_length_le (by rw [HEN.out]; exact Nat.le_refl _)])
            go_wp2_with fail
            clear c0 c1 c2 c3 c4 c5 c6 c7 c8 c9 c10 c11 c12
            cases sm
            all_goals
              refine region_h (fun v => Below wr.heap.size wr v) (by kernel_rfl) (by kernel_rfl) (Below.refl _ _).drew ?_
              obtain ⟨wd, hwd⟩ : ∃ wd, wr.drew = wd := ⟨_, rfl⟩
              have D0 : Hid (Below wr.heap.size wr wd) := Lib.hid (by rw [← hwd]; exact (Below.refl _ _).drew)
              rw [hwd]
              clear hwd
              (refine h_read 0 rfl (by kernel_rfl) (by kernel_rfl) (h_free rfl) ?_ ?_ ?_; rotate_left; (focus (intro v hv; go_simp; rfl)); go_simp)
              (refine h_read 1 rfl (by kernel_rfl) (by kernel_rfl) (h_free rfl) ?_ ?_ ?_; rotate_left; (focus (intro v hv; go_simp; rfl)); go_simp)
              (refine h_read 2 rfl (by kernel_rfl) (by kernel_rfl) (h_free rfl) ?_ ?_ ?_; rotate_left; (focus (intro v hv; go_simp; rfl)); go_simp)
              (refine h_read 3 rfl (by kernel_rfl) (by kernel_rfl) ?_ ?_ ?_ ?_; (focus (go_simp; done)); rotate_left; (focus (intro v hv; refine load_all 25 (.tmp 1) ?_ w.heap.size ?_ _ [.int .i64 k, .int .i64 fr, .int .i64 dt, .int .i64 tm, .int .i64 ix, .int .i64 lt, .int .i64 cm, .int .i64 rn, .int .i64 cf, .bool ok, .slice ea en ec, .slice a n c, .string s] _ (R3.out.below hv R3.out.lt) Try.underlying25 rfl SZ.out; (focus rfl); go_simp)); go_simp)
              (refine h_read 4 rfl (by kernel_rfl) (by kernel_rfl) ?_ ?_ ?_ ?_; (focus (go_simp; done)); rotate_left; (focus (intro v hv; refine load_all 25 (.tmp 1) ?_ w.heap.size ?_ _ [.int .i64 k, .int .i64 fr, .int .i64 dt, .int .i64 tm, .int .i64 ix, .int .i64 lt, .int .i64 cm, .int .i64 rn, .int .i64 cf, .bool ok, .slice ea en ec, .slice a n c, .string s] _ (R3.out.below hv R3.out.lt) Try.underlying25 rfl SZ.out; (focus rfl); go_simp)); go_simp)
              (refine h_call 5 rfl (by kernel_rfl) ?_ 20 ?_ ?_ ?_; (focus (go_simp; done)); rotate_left; (focus (go_simp; rfl)))
              refine (HW.out wd).mono ?_
              rintro x w5 ⟨rfl, hb5⟩
              have J5 := Lib.hid (D0.out.trans (hb5.mono D0.out.size))
              clear hb5
              refine ⟨_, rfl, J5.out, ?_⟩
              go_simp
              (refine h_call 6 rfl (by kernel_rfl) ?_ 10 ?_ ?_ ?_; (focus (go_simp; done)); rotate_left; (focus (go_simp; rfl)))
              refine (HS2.out w5 ((B1.out.trans (B.out.mono B1.out.size)).trans (J5.out.mono (Nat.le_trans B1.out.size B.out.size))) (by omega)).mono ?_
              rintro x w6 ⟨rfl, hb6⟩
              have J6 := Lib.hid (J5.out.trans (hb6.mono J5.out.size))
              clear hb6
              refine ⟨_, rfl, J6.out, ?_⟩
              go_simp
              (refine h_read 7 rfl (by kernel_rfl) (by kernel_rfl) ?_ ?_ ?_ ?_; (focus (go_simp; done)); rotate_left; (focus (intro v hv; go_simp; rfl)); go_simp)
              (refine h_read 8 rfl (by kernel_rfl) (by kernel_rfl) (h_free rfl) ?_ ?_ ?_; rotate_left; (focus (intro v hv; go_simp; rfl)); go_simp)
              refine h_done (by kernel_rfl) ?_
              go_wp2_with fail
              go_ret
              exact ⟨one (vint (by rw [← HR.out, HA.out]; simp)), (B1.out.trans (B.out.mono B1.out.size)).trans (J6.out.mono (Nat.le_trans B1.out.size B.out.size))⟩
end Go.Proofs.Ytdcioeoofngibaa.W
