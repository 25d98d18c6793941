/- LAYER 16 (msg): Same of the reference. -/
import Derived.Test.YtdcioeoofngibaaMsU
import Derived.Test.YtdcioeoofngibaaRcEq
set_option linter.unusedSimpArgs false
set_option linter.unusedVariables false
namespace Go.Proofs.Ytdcioeoofngibaa.W
open Go Go.ChangeShapes Go.WideShapes Go.ChangeAt Go.RowKit

theorem ch12 : ∀ b0 b1 b2 b3 b4 b5 b6 b7 b8 b9 b10 b11 : Bool, (b0 = false) ∨ (b0 = true ∧ b1 = false) ∨ (b0 = true ∧ b1 = true ∧ b2 = false) ∨ (b0 = true ∧ b1 = true ∧ b2 = true ∧ b3 = false) ∨ (b0 = true ∧ b1 = true ∧ b2 = true ∧ b3 = true ∧ b4 = false) ∨ (b0 = true ∧ b1 = true ∧ b2 = true ∧ b3 = true ∧ b4 = true ∧ b5 = false) ∨ (b0 = true ∧ b1 = true ∧ b2 = true ∧ b3 = true ∧ b4 = true ∧ b5 = true ∧ b6 = false) ∨ (b0 = true ∧ b1 = true ∧ b2 = true ∧ b3 = true ∧ b4 = true ∧ b5 = true ∧ b6 = true ∧ b7 = false) ∨ (b0 = true ∧ b1 = true ∧ b2 = true ∧ b3 = true ∧ b4 = true ∧ b5 = true ∧ b6 = true ∧ b7 = true ∧ b8 = false) ∨ (b0 = true ∧ b1 = true ∧ b2 = true ∧ b3 = true ∧ b4 = true ∧ b5 = true ∧ b6 = true ∧ b7 = true ∧ b8 = true ∧ b9 = false) ∨ (b0 = true ∧ b1 = true ∧ b2 = true ∧ b3 = true ∧ b4 = true ∧ b5 = true ∧ b6 = true ∧ b7 = true ∧ b8 = true ∧ b9 = true ∧ b10 = false) ∨ (b0 = true ∧ b1 = true ∧ b2 = true ∧ b3 = true ∧ b4 = true ∧ b5 = true ∧ b6 = true ∧ b7 = true ∧ b8 = true ∧ b9 = true ∧ b10 = true ∧ b11 = false) ∨ (b0 = true ∧ b1 = true ∧ b2 = true ∧ b3 = true ∧ b4 = true ∧ b5 = true ∧ b6 = true ∧ b7 = true ∧ b8 = true ∧ b9 = true ∧ b10 = true ∧ b11 = true) := by
  intro b0 b1 b2 b3 b4 b5 b6 b7 b8 b9 b10 b11
  cases b0
  · exact .inl rfl
  ·
    cases b1
    · exact .inr (.inl ⟨rfl, rfl⟩)
    ·
      cases b2
      · exact .inr (.inr (.inl ⟨rfl, rfl, rfl⟩))
      ·
        cases b3
        · exact .inr (.inr (.inr (.inl ⟨rfl, rfl, rfl, rfl⟩)))
        ·
          cases b4
          · exact .inr (.inr (.inr (.inr (.inl ⟨rfl, rfl, rfl, rfl, rfl⟩))))
          ·
            cases b5
            · exact .inr (.inr (.inr (.inr (.inr (.inl ⟨rfl, rfl, rfl, rfl, rfl, rfl⟩)))))
            ·
              cases b6
              · exact .inr (.inr (.inr (.inr (.inr (.inr (.inl ⟨rfl, rfl, rfl, rfl, rfl, rfl, rfl⟩))))))
              ·
                cases b7
                · exact .inr (.inr (.inr (.inr (.inr (.inr (.inr (.inl ⟨rfl, rfl, rfl, rfl, rfl, rfl, rfl, rfl⟩)))))))
                ·
                  cases b8
                  · exact .inr (.inr (.inr (.inr (.inr (.inr (.inr (.inr (.inl ⟨rfl, rfl, rfl, rfl, rfl, rfl, rfl, rfl, rfl⟩))))))))
                  ·
                    cases b9
                    · exact .inr (.inr (.inr (.inr (.inr (.inr (.inr (.inr (.inr (.inl ⟨rfl, rfl, rfl, rfl, rfl, rfl, rfl, rfl, rfl, rfl⟩)))))))))
                    ·
                      cases b10
                      · exact .inr (.inr (.inr (.inr (.inr (.inr (.inr (.inr (.inr (.inr (.inl ⟨rfl, rfl, rfl, rfl, rfl, rfl, rfl, rfl, rfl, rfl, rfl⟩))))))))))
                      ·
                        cases b11
                        · exact .inr (.inr (.inr (.inr (.inr (.inr (.inr (.inr (.inr (.inr (.inr (.inl ⟨rfl, rfl, rfl, rfl, rfl, rfl, rfl, rfl, rfl, rfl, rfl, rfl⟩)))))))))))
                        ·
                          exact .inr (.inr (.inr (.inr (.inr (.inr (.inr (.inr (.inr (.inr (.inr (.inr (⟨rfl, rfl, rfl, rfl, rfl, rfl, rfl, rfl, rfl, rfl, rfl, rfl⟩))))))))))))
set_option maxRecDepth 100000 in
set_option maxHeartbeats 32000000 in
theorem vsame (m m' : Ms) (d d' : List UInt8) (L L' : List (En × List UInt8)) (w : World) (h : MsF w m d L) (h' : MsF w m' d' L') (hl : m.en ≤ 1000000) :
    Calls Try.prog 10 #[.agg m.cells.toArray, .agg m'.cells.toArray] w fun x w' => x = .returned (.bool ((m.pl d L).same (m'.pl d' L'))) ∧ Below w.heap.size w w' := by
  obtain ⟨k, fr, dt, tm, ix, lt, cm, rn, cf, ok, ea, en, ec, a, n, c, s⟩ := m
  obtain ⟨k', fr', dt', tm', ix', lt', cm', rn', cf', ok', ea', en', ec', a', n', c', s'⟩ := m'
  have HD := Lib.hid h.rd
  have HD' := Lib.hid h'.rd
  have HE := Lib.hid h.es
  have HE' := Lib.hid h'.es
  obtain ⟨x0, h0⟩ : ∃ x, (k == k') = x := ⟨_, rfl⟩
  obtain ⟨x1, h1⟩ : ∃ x, (fr == fr') = x := ⟨_, rfl⟩
  obtain ⟨x2, h2⟩ : ∃ x, (dt == dt') = x := ⟨_, rfl⟩
  obtain ⟨x3, h3⟩ : ∃ x, (tm == tm') = x := ⟨_, rfl⟩
  obtain ⟨x4, h4⟩ : ∃ x, (ix == ix') = x := ⟨_, rfl⟩
  obtain ⟨x5, h5⟩ : ∃ x, (lt == lt') = x := ⟨_, rfl⟩
  obtain ⟨x6, h6⟩ : ∃ x, (cm == cm') = x := ⟨_, rfl⟩
  obtain ⟨x7, h7⟩ : ∃ x, (rn == rn') = x := ⟨_, rfl⟩
  obtain ⟨x8, h8⟩ : ∃ x, (cf == cf') = x := ⟨_, rfl⟩
  obtain ⟨x9, h9⟩ : ∃ x, (ok == ok') = x := ⟨_, rfl⟩
  obtain ⟨x10, h10⟩ : ∃ x, ((str d).toList == (str d').toList) = x := ⟨_, rfl⟩
  obtain ⟨x11, h11⟩ : ∃ x, (s.toList == s'.toList) = x := ⟨_, rfl⟩
  obtain ⟨x12, h12⟩ : ∃ x, decide (L.map pe = L'.map pe) = x := ⟨_, rfl⟩
  have hx : (Ms.pl ⟨k, fr, dt, tm, ix, lt, cm, rn, cf, ok, ea, en, ec, a, n, c, s⟩ d L).same (Ms.pl ⟨k', fr', dt', tm', ix', lt', cm', rn', cf', ok', ea', en', ec', a', n', c', s'⟩ d' L') = (x0 && (x1 && (x2 && (x3 && (x4 && (x5 && (x6 && (x7 && (x8 && (x9 && (x10 && (x11 && x12)))))))))))) := by unfold MF.same Ms.pl; dsimp only; rw [h0, h1, h2, h3, h4, h5, h6, h7, h8, h9, h12, ← h10, ← h11, str_eqb2, str_eqb2, str_data, str_data]
  have HX := Lib.hid hx
  have H12 := Lib.hid h12
  unfold Ms.cells
  dsimp only at hl HD HD' HE HE' ⊢
  clear hx h h' h12
  have g0 : (k != k') = !x0 := by rw [← h0]; rfl
  have g1 : (fr != fr') = !x1 := by rw [← h1]; rfl
  have g2 : (dt != dt') = !x2 := by rw [← h2]; rfl
  have g3 : (tm != tm') = !x3 := by rw [← h3]; rfl
  have g4 : (ix != ix') = !x4 := by rw [← h4]; rfl
  have g5 : (lt != lt') = !x5 := by rw [← h5]; rfl
  have g6 : (cm != cm') = !x6 := by rw [← h6]; rfl
  have g7 : (rn != rn') = !x7 := by rw [← h7]; rfl
  have g8 : (cf != cf') = !x8 := by rw [← h8]; rfl
  have g9 : (ok != ok') = !x9 := by rw [← h9]; rfl
  have g10 : ((str d).toList != (str d').toList) = !x10 := by rw [← h10]; rfl
  have g11 : (s.toList != s'.toList) = !x11 := by rw [← h11]; rfl
  by_cases hall : (x0 = true ∧ x1 = true ∧ x2 = true ∧ x3 = true ∧ x4 = true ∧ x5 = true ∧ x6 = true ∧ x7 = true ∧ x8 = true ∧ x9 = true ∧ x10 = true ∧ x11 = true) ∧ en = en'
  · obtain ⟨⟨rfl, rfl, rfl, rfl, rfl, rfl, rfl, rfl, rfl, rfl, rfl, rfl⟩, hen⟩ := hall
    have g12 : ((en : Int) != (en' : Int)) = false := by simp [hen]
    have HEN := Lib.hid hen
    clear hen
    have HL1 := Lib.hid HE.out.hlen
    have HL2 := Lib.hid HE'.out.hlen
    have EZ := Lib.hid en_zero
    have ES := Lib.hid en_size
    simp only [Bool.not_true] at g0 g1 g2 g3 g4 g5 g6 g7 g8 g9 g10 g11
    go_enter Try.func10, Try.ntmps10
    go_wp2_with (first
      | (with_reducible refine box_row (o := ⟨some 2, _, _, _, _, _⟩) rfl _ _ rfl [.int .i64 k, .int .i64 fr, .int .i64 dt, .int .i64 tm, .int .i64 ix, .int .i64 lt, .int .i64 cm, .int .i64 rn, .int .i64 cf, .bool ok, .slice ea en ec, .slice a n c, .string s] rfl ?_; intro w1 hr1 hb1 hz1; have R1 := Lib.hid hr1; have B1 := Lib.hid hb1; clear hr1 hb1 hz1)
      | (with_reducible refine box_row (o := ⟨some 3, _, _, _, _, _⟩) rfl _ _ rfl [.int .i64 k', .int .i64 fr', .int .i64 dt', .int .i64 tm', .int .i64 ix', .int .i64 lt', .int .i64 cm', .int .i64 rn', .int .i64 cf', .bool ok', .slice ea' en' ec', .slice a' n' c', .string s'] rfl ?_; intro w2 hr2 hb2 hz2; have R2 := Lib.hid hr2; have S2 := Lib.hid (R1.out.below hb2 R1.out.lt); have B2 := Lib.hid (B1.out.trans (hb2.mono B1.out.size)); obtain ⟨c0, c1, c2, c3, c4, c5, c6, c7, c8, c9, c10, c11, c12⟩ := S2.out.q13; obtain ⟨d0, d1, d2, d3, d4, d5, d6, d7, d8, d9, d10, d11, d12⟩ := R2.out.q13; have cv1 := conv_rd (HD.out.mono B2.out); have cv2 := conv_rd (HD'.out.mono B2.out); clear hr2 hb2 hz2))
    clear h0 h1 h2 h3 h4 h5 h6 h7 h8 h9 h10 h11 g0 g1 g2 g3 g4 g5 g6 g7 g8 g9 g10 g11
    try clear cv1
    try clear cv2
    go_loopw [5] (fun i wr => ∃ k : Nat, i = .int .i64 (k : Int) ∧ k ≤ en ∧ Hid ((L.take k).map pe = (L'.take k).map pe) ∧ Hid (Below w2.heap.size w2 wr)) (fun i _ => en - (intOf i).toNat)
    case atStart => exact ⟨0, rfl, Nat.zero_le _, Lib.hid rfl, Lib.hid (Below.refl _ _)⟩
    case round =>
      obtain ⟨j, rfl, hk, P, B⟩ := hrel
      clear c0 c1 c2 c3 c4 c5 c6 c7 c8 c9 c10 c11 c12 d0 d1 d2 d3 d4 d5 d6 d7 d8 d9 d10 d11 d12
      obtain ⟨c0, c1, c2, c3, c4, c5, c6, c7, c8, c9, c10, c11, c12⟩ := (S2.out.below B.out S2.out.lt).q13
      obtain ⟨d0, d1, d2, d3, d4, d5, d6, d7, d8, d9, d10, d11, d12⟩ := (R2.out.below B.out R2.out.lt).q13
      by_cases hlt : j < en
      · have E2 := HE.out.mono B2.out
        have E2' := HE'.out.mono B2.out
        obtain ⟨y1, o1, rfl, hx1, hf1, hk1⟩ := E2.at B.out j hlt
        obtain ⟨y2, o2, rfl, hx2, hf2, hk2⟩ := E2'.at B.out j (by rw [← HEN.out]; exact hlt)
        have hstep := map_take_next L L' j hk1 hk2 P.out
        have hne := map_ne L L' j hk1 hk2
        obtain ⟨⟨e1, l1⟩, hq1⟩ : ∃ y, L.getD j Ez = y := ⟨_, rfl⟩
        obtain ⟨⟨e2, l2⟩, hq2⟩ : ∃ y, L'.getD j Ez = y := ⟨_, rfl⟩
        rw [hq1, hq2] at hstep hne
        rw [hq1] at hx1 hf1
        rw [hq2] at hx2 hf2
        dsimp only at hx1 hf1 hx2 hf2
        have X1 := Lib.hid hx1
        have X2 := Lib.hid hx2
        have F1 := Lib.hid hf1
        have F2 := Lib.hid hf2
        have SP := Lib.hid (same_pe e1 e2 l1 l2)
        have g1 : (0 : Int) ≤ (j : Int) := by omega
        have g2 : (j : Int) < (en : Int) := by omega
        have g3 : (j : Int) < (en' : Int) := by have := HEN.out; omega
        clear hx1 hx2 hf1 hf2 hq1 hq2 hk1 hk2 E2 E2'
        go_wp2_with fail
        clear c0 c1 c2 c3 c4 c5 c6 c7 c8 c9 c10 c11 c12 d0 d1 d2 d3 d4 d5 d6 d7 d8 d9 d10 d11 d12
        have S3 := Lib.hid (S2.out.below B.out S2.out.lt)
        have R3 := Lib.hid (R2.out.below B.out R2.out.lt)
        refine region_h (fun v => Below wr.heap.size wr v) (by kernel_rfl) (by kernel_rfl) (Below.refl _ _).drew ?_
        obtain ⟨wd, hwd⟩ : ∃ wd, wr.drew = wd := ⟨_, rfl⟩
        have D0 : Hid (Below wr.heap.size wr wd) := Lib.hid (by rw [← hwd]; exact (Below.refl _ _).drew)
        rw [hwd]
        clear hwd
        by_cases heq : pe (e1, l1) = pe (e2, l2)
        · have HN := Lib.hid (hstep heq)
          have SV := Lib.hid (show sameE e1 e2 l1 l2 = true by rw [SP.out]; exact decide_eq_true heq)
          clear hstep hne heq
          (refine h_read 0 rfl (by kernel_rfl) (by kernel_rfl) (h_free rfl) ?_ ?_ ?_; rotate_left; (focus (intro v hv; go_simp; rfl)); go_simp)
          (refine h_read 1 rfl (by kernel_rfl) (by kernel_rfl) (h_free rfl) ?_ ?_ ?_; rotate_left; (focus (intro v hv; obtain ⟨c0, c1, c2, c3, c4, c5, c6, c7, c8, c9, c10, c11, c12⟩ := (S3.out.below hv S3.out.lt).q13; obtain ⟨d0, d1, d2, d3, d4, d5, d6, d7, d8, d9, d10, d11, d12⟩ := (R3.out.below hv R3.out.lt).q13; go_simp; rfl)); go_simp)
          (refine h_read 2 rfl (by kernel_rfl) (by kernel_rfl) (h_free rfl) ?_ ?_ ?_; rotate_left; (focus (intro v hv; go_simp; rfl)); go_simp)
          (refine h_read 3 rfl (by kernel_rfl) (by kernel_rfl) (h_free rfl) ?_ ?_ ?_; rotate_left; (focus (intro v hv; go_simp; rfl)); go_simp)
          (refine h_read 4 rfl (by kernel_rfl) (by kernel_rfl) (h_free rfl) ?_ ?_ ?_; rotate_left; (focus (intro v hv; refine run_cells 40 (.tmp 109) ?_ y1 (o1 + j * 4) ?_ e1.cells _ (fun j' u hj => by rw [hv.cell (p := ⟨y1, o1 + j * 4 + j', none⟩) (World.block_lt_of_cell? wr _ (X1.out j' u hj))]; exact X1.out j' u hj) Try.underlying40 rfl en_size; (focus rfl); go_simp)); go_simp)
          (refine h_read 5 rfl (by kernel_rfl) (by kernel_rfl) (h_free rfl) ?_ ?_ ?_; rotate_left; (focus (intro v hv; go_simp; rfl)); go_simp)
          (refine h_read 6 rfl (by kernel_rfl) (by kernel_rfl) (h_free rfl) ?_ ?_ ?_; rotate_left; (focus (intro v hv; obtain ⟨c0, c1, c2, c3, c4, c5, c6, c7, c8, c9, c10, c11, c12⟩ := (S3.out.below hv S3.out.lt).q13; obtain ⟨d0, d1, d2, d3, d4, d5, d6, d7, d8, d9, d10, d11, d12⟩ := (R3.out.below hv R3.out.lt).q13; go_simp; rfl)); go_simp)
          (refine h_read 7 rfl (by kernel_rfl) (by kernel_rfl) (h_free rfl) ?_ ?_ ?_; rotate_left; (focus (intro v hv; go_simp; rfl)); go_simp)
          (refine h_read 8 rfl (by kernel_rfl) (by kernel_rfl) (h_free rfl) ?_ ?_ ?_; rotate_left; (focus (intro v hv; go_simp; rfl)); go_simp)
          (refine h_read 9 rfl (by kernel_rfl) (by kernel_rfl) (h_free rfl) ?_ ?_ ?_; rotate_left; (focus (intro v hv; refine run_cells 40 (.tmp 114) ?_ y2 (o2 + j * 4) ?_ e2.cells _ (fun j' u hj => by rw [hv.cell (p := ⟨y2, o2 + j * 4 + j', none⟩) (World.block_lt_of_cell? wr _ (X2.out j' u hj))]; exact X2.out j' u hj) Try.underlying40 rfl en_size; (focus rfl); go_simp)); go_simp)
          (refine h_call 10 rfl (by kernel_rfl) (h_free rfl) 21 ?_ ?_ ?_; rotate_left; (focus (go_simp; rfl)))
          refine (usameE e1 e2 l1 l2 wd (F1.out.rd.mono D0.out) (F2.out.rd.mono D0.out)).mono ?_
          rw [SV.out]
          rintro e w5 ⟨rfl, hb5⟩
          have J5 := Lib.hid (D0.out.trans (hb5.mono D0.out.size))
          have B5 := Lib.hid (B.out.trans (J5.out.mono B.out.size))
          clear hb5
          refine ⟨_, rfl, J5.out, ?_⟩
          go_simp
          (refine h_read 11 rfl (by kernel_rfl) (by kernel_rfl) (h_free rfl) ?_ ?_ ?_; rotate_left; (focus (intro v hv; go_simp; rfl)); go_simp)
          refine h_done (by kernel_rfl) ?_
          go_wp2_with fail
          go_roundw
          case rel => exact ⟨j + 1, vint (by omega), by omega, HN, B5⟩
          case measure => simp [intOf]; omega
        · have HN := Lib.hid (hne heq)
          have SV := Lib.hid (show sameE e1 e2 l1 l2 = false by rw [SP.out]; exact decide_eq_false heq)
          clear hstep hne heq
          (refine h_read 0 rfl (by kernel_rfl) (by kernel_rfl) (h_free rfl) ?_ ?_ ?_; rotate_left; (focus (intro v hv; go_simp; rfl)); go_simp)
          (refine h_read 1 rfl (by kernel_rfl) (by kernel_rfl) (h_free rfl) ?_ ?_ ?_; rotate_left; (focus (intro v hv; obtain ⟨c0, c1, c2, c3, c4, c5, c6, c7, c8, c9, c10, c11, c12⟩ := (S3.out.below hv S3.out.lt).q13; obtain ⟨d0, d1, d2, d3, d4, d5, d6, d7, d8, d9, d10, d11, d12⟩ := (R3.out.below hv R3.out.lt).q13; go_simp; rfl)); go_simp)
          (refine h_read 2 rfl (by kernel_rfl) (by kernel_rfl) (h_free rfl) ?_ ?_ ?_; rotate_left; (focus (intro v hv; go_simp; rfl)); go_simp)
          (refine h_read 3 rfl (by kernel_rfl) (by kernel_rfl) (h_free rfl) ?_ ?_ ?_; rotate_left; (focus (intro v hv; go_simp; rfl)); go_simp)
          (refine h_read 4 rfl (by kernel_rfl) (by kernel_rfl) (h_free rfl) ?_ ?_ ?_; rotate_left; (focus (intro v hv; refine run_cells 40 (.tmp 109) ?_ y1 (o1 + j * 4) ?_ e1.cells _ (fun j' u hj => by rw [hv.cell (p := ⟨y1, o1 + j * 4 + j', none⟩) (World.block_lt_of_cell? wr _ (X1.out j' u hj))]; exact X1.out j' u hj) Try.underlying40 rfl en_size; (focus rfl); go_simp)); go_simp)
          (refine h_read 5 rfl (by kernel_rfl) (by kernel_rfl) (h_free rfl) ?_ ?_ ?_; rotate_left; (focus (intro v hv; go_simp; rfl)); go_simp)
          (refine h_read 6 rfl (by kernel_rfl) (by kernel_rfl) (h_free rfl) ?_ ?_ ?_; rotate_left; (focus (intro v hv; obtain ⟨c0, c1, c2, c3, c4, c5, c6, c7, c8, c9, c10, c11, c12⟩ := (S3.out.below hv S3.out.lt).q13; obtain ⟨d0, d1, d2, d3, d4, d5, d6, d7, d8, d9, d10, d11, d12⟩ := (R3.out.below hv R3.out.lt).q13; go_simp; rfl)); go_simp)
          (refine h_read 7 rfl (by kernel_rfl) (by kernel_rfl) (h_free rfl) ?_ ?_ ?_; rotate_left; (focus (intro v hv; go_simp; rfl)); go_simp)
          (refine h_read 8 rfl (by kernel_rfl) (by kernel_rfl) (h_free rfl) ?_ ?_ ?_; rotate_left; (focus (intro v hv; go_simp; rfl)); go_simp)
          (refine h_read 9 rfl (by kernel_rfl) (by kernel_rfl) (h_free rfl) ?_ ?_ ?_; rotate_left; (focus (intro v hv; refine run_cells 40 (.tmp 114) ?_ y2 (o2 + j * 4) ?_ e2.cells _ (fun j' u hj => by rw [hv.cell (p := ⟨y2, o2 + j * 4 + j', none⟩) (World.block_lt_of_cell? wr _ (X2.out j' u hj))]; exact X2.out j' u hj) Try.underlying40 rfl en_size; (focus rfl); go_simp)); go_simp)
          (refine h_call 10 rfl (by kernel_rfl) (h_free rfl) 21 ?_ ?_ ?_; rotate_left; (focus (go_simp; rfl)))
          refine (usameE e1 e2 l1 l2 wd (F1.out.rd.mono D0.out) (F2.out.rd.mono D0.out)).mono ?_
          rw [SV.out]
          rintro e w5 ⟨rfl, hb5⟩
          have J5 := Lib.hid (D0.out.trans (hb5.mono D0.out.size))
          have B5 := Lib.hid (B.out.trans (J5.out.mono B.out.size))
          clear hb5
          refine ⟨_, rfl, J5.out, ?_⟩
          go_simp
          (refine h_read 11 rfl (by kernel_rfl) (by kernel_rfl) (h_free rfl) ?_ ?_ ?_; rotate_left; (focus (intro v hv; go_simp; rfl)); go_simp)
          refine h_done (by kernel_rfl) ?_
          have HV := Lib.hid (show x12 = false by rw [← H12.out]; exact decide_eq_false HN.out)
          go_wp2_with fail
          go_ret
          exact ⟨one (vbool (by rw [HX.out, HV.out]; simp)), B2.out.trans (B5.out.mono B2.out.size)⟩
      · obtain rfl : en = j := by omega
        have HV := Lib.hid (show x12 = true by rw [← H12.out]; refine decide_eq_true ?_; have hp := P.out; rw [List.take_of_length_le (by rw [HL1.out]; exact Nat.le_refl _), List.take_of_length_le (by rw [HL2.out, HEN.out]; exact Nat.le_refl _)] at hp; exact hp)
        go_wp2_with fail
        go_ret
        exact ⟨one (vbool (by rw [HX.out, HV.out]; simp)), B2.out.trans (B.out.mono B2.out.size)⟩
  · have hfalse : (x0 && (x1 && (x2 && (x3 && (x4 && (x5 && (x6 && (x7 && (x8 && (x9 && (x10 && (x11 && x12)))))))))))) = false := by
      by_cases hen : en = en'
      · have hn12 : ¬ (x0 = true ∧ x1 = true ∧ x2 = true ∧ x3 = true ∧ x4 = true ∧ x5 = true ∧ x6 = true ∧ x7 = true ∧ x8 = true ∧ x9 = true ∧ x10 = true ∧ x11 = true) := fun h => hall ⟨h, hen⟩
        rcases ch12 x0 x1 x2 x3 x4 x5 x6 x7 x8 x9 x10 x11 with rfl | ⟨rfl, rfl⟩ | ⟨rfl, rfl, rfl⟩ | ⟨rfl, rfl, rfl, rfl⟩ | ⟨rfl, rfl, rfl, rfl, rfl⟩ | ⟨rfl, rfl, rfl, rfl, rfl, rfl⟩ | ⟨rfl, rfl, rfl, rfl, rfl, rfl, rfl⟩ | ⟨rfl, rfl, rfl, rfl, rfl, rfl, rfl, rfl⟩ | ⟨rfl, rfl, rfl, rfl, rfl, rfl, rfl, rfl, rfl⟩ | ⟨rfl, rfl, rfl, rfl, rfl, rfl, rfl, rfl, rfl, rfl⟩ | ⟨rfl, rfl, rfl, rfl, rfl, rfl, rfl, rfl, rfl, rfl, rfl⟩ | ⟨rfl, rfl, rfl, rfl, rfl, rfl, rfl, rfl, rfl, rfl, rfl, rfl⟩ | h
        all_goals first | (exact absurd h hn12) | simp
      · have : x12 = false := by
          rw [← H12.out]
          refine decide_eq_false fun h => hen ?_
          have h1 := congrArg List.length h
          rw [List.length_map, List.length_map, HE.out.hlen, HE'.out.hlen] at h1
          exact h1
        rw [this]; simp
    have HFA := Lib.hid hfalse
    have g12 : (x0 = true ∧ x1 = true ∧ x2 = true ∧ x3 = true ∧ x4 = true ∧ x5 = true ∧ x6 = true ∧ x7 = true ∧ x8 = true ∧ x9 = true ∧ x10 = true ∧ x11 = true) → ((en : Int) != (en' : Int)) = true := fun h => by
      have : en ≠ en' := fun he => hall ⟨h, he⟩
      simp; omega
    have G12 := Lib.hid g12
    clear hfalse hall g12
    rcases ch12 x0 x1 x2 x3 x4 x5 x6 x7 x8 x9 x10 x11 with rfl | ⟨rfl, rfl⟩ | ⟨rfl, rfl, rfl⟩ | ⟨rfl, rfl, rfl, rfl⟩ | ⟨rfl, rfl, rfl, rfl, rfl⟩ | ⟨rfl, rfl, rfl, rfl, rfl, rfl⟩ | ⟨rfl, rfl, rfl, rfl, rfl, rfl, rfl⟩ | ⟨rfl, rfl, rfl, rfl, rfl, rfl, rfl, rfl⟩ | ⟨rfl, rfl, rfl, rfl, rfl, rfl, rfl, rfl, rfl⟩ | ⟨rfl, rfl, rfl, rfl, rfl, rfl, rfl, rfl, rfl, rfl⟩ | ⟨rfl, rfl, rfl, rfl, rfl, rfl, rfl, rfl, rfl, rfl, rfl⟩ | ⟨rfl, rfl, rfl, rfl, rfl, rfl, rfl, rfl, rfl, rfl, rfl, rfl⟩ | ⟨rfl, rfl, rfl, rfl, rfl, rfl, rfl, rfl, rfl, rfl, rfl, rfl⟩
    all_goals
      (try have g13 := G12.out ⟨rfl, rfl, rfl, rfl, rfl, rfl, rfl, rfl, rfl, rfl, rfl, rfl⟩)
      (try simp only [Bool.not_true, Bool.not_false] at g0 g1 g2 g3 g4 g5 g6 g7 g8 g9 g10 g11)
      go_enter Try.func10, Try.ntmps10
      go_wp2_with (first
        | (with_reducible refine box_row (o := ⟨some 2, _, _, _, _, _⟩) rfl _ _ rfl [.int .i64 k, .int .i64 fr, .int .i64 dt, .int .i64 tm, .int .i64 ix, .int .i64 lt, .int .i64 cm, .int .i64 rn, .int .i64 cf, .bool ok, .slice ea en ec, .slice a n c, .string s] rfl ?_; intro w1 hr1 hb1 hz1; have R1 := Lib.hid hr1; have B1 := Lib.hid hb1; clear hr1 hb1 hz1)
        | (with_reducible refine box_row (o := ⟨some 3, _, _, _, _, _⟩) rfl _ _ rfl [.int .i64 k', .int .i64 fr', .int .i64 dt', .int .i64 tm', .int .i64 ix', .int .i64 lt', .int .i64 cm', .int .i64 rn', .int .i64 cf', .bool ok', .slice ea' en' ec', .slice a' n' c', .string s'] rfl ?_; intro w2 hr2 hb2 hz2; have R2 := Lib.hid hr2; have S2 := Lib.hid (R1.out.below hb2 R1.out.lt); have B2 := Lib.hid (B1.out.trans (hb2.mono B1.out.size)); obtain ⟨c0, c1, c2, c3, c4, c5, c6, c7, c8, c9, c10, c11, c12⟩ := S2.out.q13; obtain ⟨d0, d1, d2, d3, d4, d5, d6, d7, d8, d9, d10, d11, d12⟩ := R2.out.q13; have cv1 := conv_rd (HD.out.mono B2.out); have cv2 := conv_rd (HD'.out.mono B2.out); clear hr2 hb2 hz2))
      go_ret
      exact ⟨one (vbool (by rw [HX.out, HFA.out])), B2.out⟩
end Go.Proofs.Ytdcioeoofngibaa.W
