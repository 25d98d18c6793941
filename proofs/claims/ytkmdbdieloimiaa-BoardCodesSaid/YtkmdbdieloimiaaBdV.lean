/- LAYER 25 (board): Total, Check of the reference. -/
import Derived.Test.YtkmdbdieloimiaaBdU
import Derived.Test.YtkmdbdieloimiaaBdR
set_option linter.unusedSimpArgs false
set_option linter.unusedVariables false
namespace Go.Proofs.Ytkmdbdieloimiaa.W
open Go Go.ChangeShapes Go.WideShapes Go.ChangeAt Go.RowKit
open Go.Proofs.Ytkmdbdieloimiaa.P (enc dec)
open Go.Proofs.Ytkmdbdieloimiaa.S

set_option maxRecDepth 100000 in
set_option maxHeartbeats 16000000 in
theorem ztotal (v : Value) (b : Bd) (w : World) (h : BdV w v b) (hn : b.L.length ≤ 100) : Calls Try.prog 66 #[v] w fun x w' => x = .returned (.int .i64 (totV b.L)) ∧ Below w.heap.size w w' := by
  obtain ⟨a, n, c, rfl, hc, hL⟩ := h
  obtain ⟨cp, L⟩ := b
  dsimp only at hc hL hn ⊢
  have H := Lib.hid hL
  have HL := Lib.hid hL.hlen
  have hm := hL.hmax
  have hle := hL.hle
  have HF := Lib.hid (by_fit hL.hfit)
  have hn2 : n ≤ 100 := by rw [← hL.hlen]; exact hn
  obtain ⟨V, hV⟩ : ∃ V, totV L = V := ⟨_, rfl⟩
  rw [hV]
  have HV := Lib.hid hV
  clear hL hc hn hV
  go_enter Try.func66, Try.ntmps66
  go_wp2_with (first
    | ((with_reducible refine box_row (o := ⟨some 1, _, _, _, _, _⟩) rfl _ _ rfl (bdC cp a n c) rfl ?_); intro w1 hr hb hz; have R1 := Lib.hid hr; have B1 := Lib.hid hb; clear hr hb hz))
  go_loopw [3, 4] (fun v i wr => ∃ (k : Nat) (y : Option Addr) (d : Nat), v = .slice y k d ∧ i = .int .i64 (k : Int) ∧ k ≤ n ∧ Hid (LsO intE wr w1.heap.size (.slice y k d) ((L.take k).map Sh.by')) ∧ Hid (Below w1.heap.size w1 wr)) (fun _ i _ => n - (intOf i).toNat)
  case atStart => exact ⟨0, none, 0, rfl, rfl, Nat.zero_le _, Lib.hid (LsO.nil _ _), Lib.hid (Below.refl _ _)⟩
  case round =>
    obtain ⟨k, y, d, rfl, rfl, hk, O, BB⟩ := hrel
    have R := Lib.hid (R1.out.below BB.out R1.out.lt)
    have B := Lib.hid (B1.out.trans (BB.out.mono B1.out.size))
    have B1S := Lib.hid BB.out.size
    obtain ⟨k0, k1⟩ := R.out.k2
    by_cases hlt : k < n
    · obtain ⟨b, o, s, rfl, hx, hcell, hfs⟩ := H.out.at shOk B.out k hlt
      have HNX := Lib.hid (show (L.take (k + 1)).map Sh.by' = (L.take k).map Sh.by' ++ [s.by'] by
        rw [List.take_succ_eq_append_getElem (by rw [HL.out]; exact hlt), List.map_append]
        rw [List.getElem?_eq_getElem (by rw [HL.out]; exact hlt)] at hx
        rw [Option.some.inj hx]; rfl)
      have HLK := Lib.hid (show ((L.take k).map Sh.by').length = k by rw [List.length_map, List.length_take, HL.out]; omega)
      have HLK1 := Lib.hid (show ((L.take (k + 1)).map Sh.by').length = k + 1 by rw [List.length_map, List.length_take, HL.out]; omega)
      have HFK := Lib.hid (show ∀ x ∈ (L.take (k + 1)).map Sh.by', SI64 x from fun x hx => HF.out x (by
        obtain ⟨t, ht, rfl⟩ := List.mem_map.1 hx
        exact List.mem_map.2 ⟨t, List.mem_of_mem_take ht, rfl⟩))
      have I2 := Lib.hid hfs.by'
      have XC1 := Lib.hid (show wr.cell? ⟨b, o + k * 2 + 1, none⟩ = some (.int .i64 s.by') from hcell 1 _ rfl)
      have BL := Lib.hid (Nat.lt_trans (H.out.older (by omega) b o rfl) R1.out.lt)
      obtain ⟨xl, xb⟩ := s
      dsimp only at HNX I2 XC1
      have g1 : (0 : Int) ≤ (k : Int) := by omega
      have g2 : (k : Int) < (n : Int) := by omega
      have y1 := XC1.out
      clear hx hfs hcell
      go_wp2_with (first
        | ((with_reducible refine bi1 (o := ⟨some 21, _, _, _, _, _⟩) rfl _ rfl xb ?_ I2.out ?_); (focus (first | (go_simp; done) | (go_simp; rfl))); intro w2 hs hb hz; have S2 := Lib.hid (hs.ls (Nat.le_refl 1) (by omega) (fun e => by cases e)); have O2 := Lib.hid (O.out.kept hb); have D2 := Lib.hid hb; clear hs hb hz)
        | (at_builtin; (with_reducible refine append_ls intOk rfl _ _ rfl w1.heap.size (.slice y k d) ((L.take k).map Sh.by') ?_ O2.out _ 1 1 [xb] ?_ S2.out ?_ (Nat.le_trans B1S.out D2.out.size) ?_); (focus (first | (go_simp; done) | (go_simp; rfl))); (focus (first | (go_simp; done) | (go_simp; rfl))); (focus (rw [HLK.out]; omega)); intro v3 w3 hN hb hg _; rw [← HNX.out] at hN; obtain ⟨y3, d3, hv3, -, -⟩ := hN.ls intOk HFK.out; rw [HLK1.out] at hv3; subst hv3; have N3 := Lib.hid hN; have D3 := Lib.hid (show Below w1.heap.size wr w3 from (D2.out.mono B1S.out).trans hb); clear hN hb hg))
      have B3 := Lib.hid (BB.out.trans D3.out)
      go_roundw
      case rel => exact ⟨k + 1, y3, d3, rfl, vint (by omega), by omega, N3, B3⟩
      case measure => simp [intOf]; omega
    · obtain rfl : n = k := by omega
      have ht : L.take n = L := List.take_of_length_le (by rw [HL.out]; exact Nat.le_refl _)
      rw [ht] at O
      obtain ⟨y2, d2, e, -, hsl⟩ := sum_sl O.out HF.out n (by rw [List.length_map]; exact HL.out)
      injection e with e1 e2 e3
      subst e1 e3
      have HS := Lib.hid (rsum 9223372036854775807 y n d (L.map Sh.by') wr hsl)
      obtain ⟨p, q, hpq⟩ : ∃ p q, sumG 9223372036854775807 0 (L.map Sh.by') = (p, q) := ⟨_, _, rfl⟩
      rw [hpq] at HS
      have HP := Lib.hid (show V = p by rw [← HV.out]; unfold totV; rw [hpq])
      clear ht hsl hpq
      go_wp2_with (go_at_call 73; (with_reducible refine HS.out.mono ?_); rintro x w' ⟨rfl, rfl⟩)
      go_ret
      exact ⟨one (vint (by rw [HP.out])), B.out⟩
theorem zwithinB (n lo hi : Int) (w : World) : Calls Try.prog 65 #[.int .i64 n, .int .i64 lo, .int .i64 hi] w fun e w' => e = .returned (.bool (in64 n lo hi)) ∧ w = w' := by
  by_cases h1 : lo ≤ n
  · by_cases h2 : n ≤ hi
    · have HX := Lib.hid (show in64 n lo hi = true by rw [in64_iff]; omega)
      go_enter Try.func65, Try.ntmps65
      go_wp2
      go_ret
      exact ⟨one (vbool (by rw [HX.out])), rfl⟩
    · have HX := Lib.hid (show in64 n lo hi = false by rw [Bool.eq_false_iff, Ne, in64_iff]; omega)
      go_enter Try.func65, Try.ntmps65
      go_wp2
      go_ret
      exact ⟨one (vbool (by rw [HX.out])), rfl⟩
  · have HX := Lib.hid (show in64 n lo hi = false by rw [Bool.eq_false_iff, Ne, in64_iff]; omega)
    go_enter Try.func65, Try.ntmps65
    go_wp2
    go_ret
    exact ⟨one (vbool (by rw [HX.out])), rfl⟩
theorem within25 (n lo hi : Int) (v : Bool) (hv : in64 n lo hi = v) (w : World) : Calls Try.prog 65 #[.int .i64 n, .int .i64 lo, .int .i64 hi] w fun e w' => e = .returned (.bool v) ∧ w = w' := by
  subst hv; exact zwithinB n lo hi w
set_option maxRecDepth 100000 in
set_option maxHeartbeats 32000000 in
theorem zbcheck (v : Value) (b : Bd) (w : World) (h : BdV w v b) (hn : b.L.length ≤ 8) : Calls Try.prog 49 #[v] w fun x w' => x = .returned (.bool b.ok) ∧ Below w.heap.size w w' := by
  obtain ⟨a, n, c, rfl, hc, hL⟩ := h
  obtain ⟨cp, L⟩ := b
  dsimp only at hc hL hn ⊢
  have H := Lib.hid hL
  have HL := Lib.hid hL.hlen
  have hm := hL.hmax
  have hle := hL.hle
  have SZ := Lib.hid sh_size
  have EZ := Lib.hid sh_zero
  have LZS := Lib.hid bd_size
  have HTO := Lib.hid (fun w' (hb : Below w.heap.size w w') => ztotal (.agg (bdC cp a n c).toArray) ⟨cp, L⟩ w' (bdv hc (hL.mono shOk hb)) (by show L.length ≤ 100; omega))
  have hn2 : n ≤ 8 := by rw [← hL.hlen]; exact hn
  obtain ⟨V, hV⟩ : ∃ V, Bd.ok ⟨cp, L⟩ = V := ⟨_, rfl⟩
  rw [hV]
  have HV := Lib.hid hV
  dsimp only at HTO
  clear hL hc hn hV
  go_enter Try.func49, Try.ntmps49
  go_wp2_with (first
    | ((with_reducible refine box_row (o := ⟨some 1, _, _, _, _, _⟩) rfl _ _ rfl (bdC cp a n c) rfl ?_); intro w1 hr hb hz; have R1 := Lib.hid hr; have B1 := Lib.hid hb; clear hr hb hz))
  go_loopw [3] (fun i wr => ∃ k : Nat, i = .int .i64 (k : Int) ∧ k ≤ n ∧ Hid (riseS none (L.take k) = true) ∧ Hid ((L.take k).all shOkV = true) ∧ Hid (Below w1.heap.size w1 wr)) (fun i _ => n - (intOf i).toNat)
  case atStart => exact ⟨0, rfl, Nat.zero_le _, Lib.hid rfl, Lib.hid rfl, Lib.hid (Below.refl _ _)⟩
  case round =>
    obtain ⟨k, rfl, hk, RI, AL, BB⟩ := hrel
    have R := Lib.hid (R1.out.below BB.out R1.out.lt)
    have B := Lib.hid (B1.out.trans (BB.out.mono B1.out.size))
    obtain ⟨k0, k1⟩ := R.out.k2
    by_cases hlt : k < n
    · obtain ⟨b, o, s, rfl, hx, hcell, -⟩ := H.out.at shOk B.out k hlt
      have HX := Lib.hid hx
      have XC := Lib.hid hcell
      have hkl : k < L.length := by rw [HL.out]; exact hlt
      have hall : (L.take (k + 1)).all shOkV = ((L.take k).all shOkV && shOkV s) := by
        rw [List.take_succ_eq_append_getElem hkl, List.all_append]
        rw [List.getElem?_eq_getElem hkl] at hx
        rw [Option.some.inj hx]; simp
      rw [AL.out, Bool.true_and] at hall
      have hbad : shOkV s = false → V = false := fun e => by
        rw [← HV.out]; unfold Bd.ok
        have : L.all shOkV = false := List.all_eq_false.2 ⟨s, List.mem_of_getElem? hx, by rw [e]; decide⟩
        rw [this]; simp
      obtain ⟨xl, xb⟩ := s
      obtain ⟨q1, h1⟩ : ∃ q, in64 xl 1 4 = q := ⟨_, rfl⟩
      obtain ⟨q2, h2⟩ : ∃ q, in64 xb 1 1099511627776 = q := ⟨_, rfl⟩
      have H1 := Lib.hid h1
      have H2 := Lib.hid h2
      have hs : shOkV ⟨xl, xb⟩ = (q1 && q2) := by rw [← h1, ← h2]; rfl
      rw [hs] at hall hbad
      have g1 : (0 : Int) ≤ (k : Int) := by omega
      have g2 : (k : Int) < (n : Int) := by omega
      clear hcell hs h1 h2
      cases q1
      · have HF := Lib.hid (hbad rfl)
        clear hx hall hbad hkl
        go_wp2_with (first
          | ((with_reducible refine load_cells (o := ⟨some 16, _, _, _, _, _⟩) rfl _ _ rfl b (o + k * 2) ?_ [.int .i64 xl, .int .i64 xb] _ XC.out Try.underlying58 rfl ?_ ?_); (focus go_simp); (focus (exact SZ.out)))
          | ((with_reducible refine alloc_row (o := ⟨some 4, _, _, _, _, _⟩) rfl _ rfl _ EZ.out ?_); intro w6 hr hb hz; have E6 := Lib.hid hr; have R6 := Lib.hid (R.out.below hb R.out.lt); have D6 := Lib.hid hb; clear hr hb hz)
          | ((with_reducible refine store_row (o := ⟨none, _, _, _, _, _⟩) rfl _ (.tmp 4) _ rfl wr.heap.size [.int .i64 xl, .int .i64 xb] ?_ ?_ 58 _ E6.out ?_ ?_ ?_ ?_); (focus go_simp); (focus (first | (go_simp; done) | (go_simp; rfl))); (focus (exact SZ.out)); (focus rfl); (focus (exact shOk.one ⟨xl, xb⟩)); intro w7 hr hu; have E7 := Lib.hid hr; have R7 := Lib.hid (R6.out.upd hu (Nat.ne_of_lt R.out.lt)); have D7 := Lib.hid (D6.out.trans (hu.below (Nat.le_refl _))); clear hr hu))
        refine region_h (fun v => Below w7.heap.size w7 v) (by kernel_rfl) (by kernel_rfl) (Below.refl _ _).drew ?_
        obtain ⟨wd, hwd⟩ : ∃ wd, w7.drew = wd := ⟨_, rfl⟩
        have D0 : Hid (Below w7.heap.size w7 wd) := Lib.hid (by rw [← hwd]; exact (Below.refl _ _).drew)
        rw [hwd]
        clear hwd k0 k1
        (refine h_read 0 rfl (by kernel_rfl) (by kernel_rfl) (h_free rfl) ?_ ?_ ?_; rotate_left; (focus (intro v hv; go_simp; rfl)); go_simp)
        (refine h_read 1 rfl (by kernel_rfl) (by kernel_rfl) (h_free rfl) ?_ ?_ ?_; rotate_left; (focus (intro v hv; obtain ⟨c0, c1⟩ := (E7.out.below hv E7.out.lt).k2; obtain ⟨r0, r1⟩ := (R7.out.below hv R7.out.lt).k2; go_simp; rfl)); go_simp)
        (refine h_call 2 rfl (by kernel_rfl) (h_free rfl) 65 ?_ ?_ ?_; rotate_left; (focus (go_simp; rfl)))
        refine (within25 xl 1 4 _ H1.out _).mono ?_
        rintro x w' ⟨rfl, rfl⟩
        refine ⟨_, rfl, D0.out, ?_⟩
        go_simp
        (refine h_read 3 rfl (by kernel_rfl) (by kernel_rfl) (h_free rfl) ?_ ?_ ?_; rotate_left; (focus (intro v hv; go_simp; rfl)); go_simp)
        (refine h_read 4 rfl (by kernel_rfl) (by kernel_rfl) (h_free rfl) ?_ ?_ ?_; rotate_left; (focus (intro v hv; go_simp; rfl)); go_simp)
        (refine h_skip 5 rfl (by kernel_rfl) (by kernel_rfl) ?_ ?_; (focus (go_simp; first | done | (intro h; cases h) | simp)); go_simp)
        (refine h_skip 6 rfl (by kernel_rfl) (by kernel_rfl) ?_ ?_; (focus (go_simp; first | done | (intro h; cases h) | simp)); go_simp)
        (refine h_skip 7 rfl (by kernel_rfl) (by kernel_rfl) ?_ ?_; (focus (go_simp; first | done | (intro h; cases h) | simp)); go_simp)
        (refine h_skip 8 rfl (by kernel_rfl) (by kernel_rfl) ?_ ?_; (focus (go_simp; first | done | (intro h; cases h) | simp)); go_simp)
        (refine h_read 9 rfl (by kernel_rfl) (by kernel_rfl) (h_free rfl) ?_ ?_ ?_; rotate_left; (focus (intro v hv; go_simp; rfl)); go_simp)
        (refine h_read 10 rfl (by kernel_rfl) (by kernel_rfl) (h_free rfl) ?_ ?_ ?_; rotate_left; (focus (intro v hv; go_simp; rfl)); go_simp)
        (refine h_skip 11 rfl (by kernel_rfl) (by kernel_rfl) ?_ ?_; (focus (go_simp; first | done | (intro h; cases h) | simp)); go_simp)
        (refine h_skip 12 rfl (by kernel_rfl) (by kernel_rfl) ?_ ?_; (focus (go_simp; first | done | (intro h; cases h) | simp)); go_simp)
        (refine h_skip 13 rfl (by kernel_rfl) (by kernel_rfl) ?_ ?_; (focus (go_simp; first | done | (intro h; cases h) | simp)); go_simp)
        (refine h_skip 14 rfl (by kernel_rfl) (by kernel_rfl) ?_ ?_; (focus (go_simp; first | done | (intro h; cases h) | simp)); go_simp)
        (refine h_skip 15 rfl (by kernel_rfl) (by kernel_rfl) ?_ ?_; (focus (go_simp; first | done | (intro h; cases h) | simp)); go_simp)
        (refine h_skip 16 rfl (by kernel_rfl) (by kernel_rfl) ?_ ?_; (focus (go_simp; first | done | (intro h; cases h) | simp)); go_simp)
        (refine h_skip 17 rfl (by kernel_rfl) (by kernel_rfl) ?_ ?_; (focus (go_simp; first | done | (intro h; cases h) | simp)); go_simp)
        (refine h_skip 18 rfl (by kernel_rfl) (by kernel_rfl) ?_ ?_; (focus (go_simp; first | done | (intro h; cases h) | simp)); go_simp)
        (refine h_skip 19 rfl (by kernel_rfl) (by kernel_rfl) ?_ ?_; (focus (go_simp; first | done | (intro h; cases h) | simp)); go_simp)
        (refine h_skip 20 rfl (by kernel_rfl) (by kernel_rfl) ?_ ?_; (focus (go_simp; first | done | (intro h; cases h) | simp)); go_simp)
        (refine h_skip 21 rfl (by kernel_rfl) (by kernel_rfl) ?_ ?_; (focus (go_simp; first | done | (intro h; cases h) | simp)); go_simp)
        (refine h_skip 22 rfl (by kernel_rfl) (by kernel_rfl) ?_ ?_; (focus (go_simp; first | done | (intro h; cases h) | simp)); go_simp)
        (refine h_skip 23 rfl (by kernel_rfl) (by kernel_rfl) ?_ ?_; (focus (go_simp; first | done | (intro h; cases h) | simp)); go_simp)
        (refine h_skip 24 rfl (by kernel_rfl) (by kernel_rfl) ?_ ?_; (focus (go_simp; first | done | (intro h; cases h) | simp)); go_simp)
        (refine h_read 25 rfl (by kernel_rfl) (by kernel_rfl) (h_free rfl) ?_ ?_ ?_; rotate_left; (focus (intro v hv; go_simp; rfl)); go_simp)
        refine h_done (by kernel_rfl) ?_
        have BE := Lib.hid (B.out.trans ((D7.out.trans (D0.out.mono D7.out.size)).mono B.out.size))
        go_wp2_with fail
        go_ret
        exact ⟨one (vbool (by rw [HF.out])), BE.out⟩
      cases q2
      · have HF := Lib.hid (hbad rfl)
        clear hx hall hbad hkl
        go_wp2_with (first
          | ((with_reducible refine load_cells (o := ⟨some 16, _, _, _, _, _⟩) rfl _ _ rfl b (o + k * 2) ?_ [.int .i64 xl, .int .i64 xb] _ XC.out Try.underlying58 rfl ?_ ?_); (focus go_simp); (focus (exact SZ.out)))
          | ((with_reducible refine alloc_row (o := ⟨some 4, _, _, _, _, _⟩) rfl _ rfl _ EZ.out ?_); intro w6 hr hb hz; have E6 := Lib.hid hr; have R6 := Lib.hid (R.out.below hb R.out.lt); have D6 := Lib.hid hb; clear hr hb hz)
          | ((with_reducible refine store_row (o := ⟨none, _, _, _, _, _⟩) rfl _ (.tmp 4) _ rfl wr.heap.size [.int .i64 xl, .int .i64 xb] ?_ ?_ 58 _ E6.out ?_ ?_ ?_ ?_); (focus go_simp); (focus (first | (go_simp; done) | (go_simp; rfl))); (focus (exact SZ.out)); (focus rfl); (focus (exact shOk.one ⟨xl, xb⟩)); intro w7 hr hu; have E7 := Lib.hid hr; have R7 := Lib.hid (R6.out.upd hu (Nat.ne_of_lt R.out.lt)); have D7 := Lib.hid (D6.out.trans (hu.below (Nat.le_refl _))); clear hr hu))
        refine region_h (fun v => Below w7.heap.size w7 v) (by kernel_rfl) (by kernel_rfl) (Below.refl _ _).drew ?_
        obtain ⟨wd, hwd⟩ : ∃ wd, w7.drew = wd := ⟨_, rfl⟩
        have D0 : Hid (Below w7.heap.size w7 wd) := Lib.hid (by rw [← hwd]; exact (Below.refl _ _).drew)
        rw [hwd]
        clear hwd k0 k1
        (refine h_read 0 rfl (by kernel_rfl) (by kernel_rfl) (h_free rfl) ?_ ?_ ?_; rotate_left; (focus (intro v hv; go_simp; rfl)); go_simp)
        (refine h_read 1 rfl (by kernel_rfl) (by kernel_rfl) (h_free rfl) ?_ ?_ ?_; rotate_left; (focus (intro v hv; obtain ⟨c0, c1⟩ := (E7.out.below hv E7.out.lt).k2; obtain ⟨r0, r1⟩ := (R7.out.below hv R7.out.lt).k2; go_simp; rfl)); go_simp)
        (refine h_call 2 rfl (by kernel_rfl) (h_free rfl) 65 ?_ ?_ ?_; rotate_left; (focus (go_simp; rfl)))
        refine (within25 xl 1 4 _ H1.out _).mono ?_
        rintro x w' ⟨rfl, rfl⟩
        refine ⟨_, rfl, D0.out, ?_⟩
        go_simp
        (refine h_read 3 rfl (by kernel_rfl) (by kernel_rfl) (h_free rfl) ?_ ?_ ?_; rotate_left; (focus (intro v hv; go_simp; rfl)); go_simp)
        (refine h_read 4 rfl (by kernel_rfl) (by kernel_rfl) (h_free rfl) ?_ ?_ ?_; rotate_left; (focus (intro v hv; go_simp; rfl)); go_simp)
        (refine h_read 5 rfl (by kernel_rfl) (by kernel_rfl) ?_ ?_ ?_ ?_; (focus (go_simp; done)); rotate_left; (focus (intro v hv; go_simp; rfl)); go_simp)
        (refine h_read 6 rfl (by kernel_rfl) (by kernel_rfl) ?_ ?_ ?_ ?_; (focus (go_simp; done)); rotate_left; (focus (intro v hv; obtain ⟨c0, c1⟩ := (E7.out.below hv E7.out.lt).k2; obtain ⟨r0, r1⟩ := (R7.out.below hv R7.out.lt).k2; go_simp; rfl)); go_simp)
        (refine h_call 7 rfl (by kernel_rfl) ?_ 65 ?_ ?_ ?_; (focus (go_simp; done)); rotate_left; (focus (go_simp; rfl)))
        refine (within25 xb 1 1099511627776 _ H2.out _).mono ?_
        rintro x w' ⟨rfl, rfl⟩
        refine ⟨_, rfl, D0.out, ?_⟩
        go_simp
        (refine h_read 8 rfl (by kernel_rfl) (by kernel_rfl) ?_ ?_ ?_ ?_; (focus (go_simp; done)); rotate_left; (focus (intro v hv; go_simp; rfl)); go_simp)
        (refine h_read 9 rfl (by kernel_rfl) (by kernel_rfl) (h_free rfl) ?_ ?_ ?_; rotate_left; (focus (intro v hv; go_simp; rfl)); go_simp)
        (refine h_read 10 rfl (by kernel_rfl) (by kernel_rfl) (h_free rfl) ?_ ?_ ?_; rotate_left; (focus (intro v hv; go_simp; rfl)); go_simp)
        (refine h_skip 11 rfl (by kernel_rfl) (by kernel_rfl) ?_ ?_; (focus (go_simp; first | done | (intro h; cases h) | simp)); go_simp)
        (refine h_skip 12 rfl (by kernel_rfl) (by kernel_rfl) ?_ ?_; (focus (go_simp; first | done | (intro h; cases h) | simp)); go_simp)
        (refine h_skip 13 rfl (by kernel_rfl) (by kernel_rfl) ?_ ?_; (focus (go_simp; first | done | (intro h; cases h) | simp)); go_simp)
        (refine h_skip 14 rfl (by kernel_rfl) (by kernel_rfl) ?_ ?_; (focus (go_simp; first | done | (intro h; cases h) | simp)); go_simp)
        (refine h_skip 15 rfl (by kernel_rfl) (by kernel_rfl) ?_ ?_; (focus (go_simp; first | done | (intro h; cases h) | simp)); go_simp)
        (refine h_skip 16 rfl (by kernel_rfl) (by kernel_rfl) ?_ ?_; (focus (go_simp; first | done | (intro h; cases h) | simp)); go_simp)
        (refine h_skip 17 rfl (by kernel_rfl) (by kernel_rfl) ?_ ?_; (focus (go_simp; first | done | (intro h; cases h) | simp)); go_simp)
        (refine h_skip 18 rfl (by kernel_rfl) (by kernel_rfl) ?_ ?_; (focus (go_simp; first | done | (intro h; cases h) | simp)); go_simp)
        (refine h_skip 19 rfl (by kernel_rfl) (by kernel_rfl) ?_ ?_; (focus (go_simp; first | done | (intro h; cases h) | simp)); go_simp)
        (refine h_skip 20 rfl (by kernel_rfl) (by kernel_rfl) ?_ ?_; (focus (go_simp; first | done | (intro h; cases h) | simp)); go_simp)
        (refine h_skip 21 rfl (by kernel_rfl) (by kernel_rfl) ?_ ?_; (focus (go_simp; first | done | (intro h; cases h) | simp)); go_simp)
        (refine h_skip 22 rfl (by kernel_rfl) (by kernel_rfl) ?_ ?_; (focus (go_simp; first | done | (intro h; cases h) | simp)); go_simp)
        (refine h_skip 23 rfl (by kernel_rfl) (by kernel_rfl) ?_ ?_; (focus (go_simp; first | done | (intro h; cases h) | simp)); go_simp)
        (refine h_skip 24 rfl (by kernel_rfl) (by kernel_rfl) ?_ ?_; (focus (go_simp; first | done | (intro h; cases h) | simp)); go_simp)
        (refine h_read 25 rfl (by kernel_rfl) (by kernel_rfl) (h_free rfl) ?_ ?_ ?_; rotate_left; (focus (intro v hv; go_simp; rfl)); go_simp)
        refine h_done (by kernel_rfl) ?_
        have BE := Lib.hid (B.out.trans ((D7.out.trans (D0.out.mono D7.out.size)).mono B.out.size))
        go_wp2_with fail
        go_ret
        exact ⟨one (vbool (by rw [HF.out])), BE.out⟩
      have HAL := Lib.hid (show (L.take (k + 1)).all shOkV = true by rw [hall]; rfl)
      clear hall hbad
      rcases Nat.eq_zero_or_pos k with rfl | hkp
      · have HRI := Lib.hid (show riseS none (L.take (0 + 1)) = true by
          rw [List.take_succ_eq_append_getElem hkl]; rfl)
        clear hx hkl
        go_wp2_with (first
          | ((with_reducible refine load_cells (o := ⟨some 16, _, _, _, _, _⟩) rfl _ _ rfl b (o + 0 * 2) ?_ [.int .i64 xl, .int .i64 xb] _ XC.out Try.underlying58 rfl ?_ ?_); (focus go_simp); (focus (exact SZ.out)))
          | ((with_reducible refine alloc_row (o := ⟨some 4, _, _, _, _, _⟩) rfl _ rfl _ EZ.out ?_); intro w6 hr hb hz; have E6 := Lib.hid hr; have R6 := Lib.hid (R.out.below hb R.out.lt); have D6 := Lib.hid hb; clear hr hb hz)
          | ((with_reducible refine store_row (o := ⟨none, _, _, _, _, _⟩) rfl _ (.tmp 4) _ rfl wr.heap.size [.int .i64 xl, .int .i64 xb] ?_ ?_ 58 _ E6.out ?_ ?_ ?_ ?_); (focus go_simp); (focus (first | (go_simp; done) | (go_simp; rfl))); (focus (exact SZ.out)); (focus rfl); (focus (exact shOk.one ⟨xl, xb⟩)); intro w7 hr hu; have E7 := Lib.hid hr; have R7 := Lib.hid (R6.out.upd hu (Nat.ne_of_lt R.out.lt)); have D7 := Lib.hid (D6.out.trans (hu.below (Nat.le_refl _))); clear hr hu))
        refine region_h (fun v => Below w7.heap.size w7 v) (by kernel_rfl) (by kernel_rfl) (Below.refl _ _).drew ?_
        obtain ⟨wd, hwd⟩ : ∃ wd, w7.drew = wd := ⟨_, rfl⟩
        have D0 : Hid (Below w7.heap.size w7 wd) := Lib.hid (by rw [← hwd]; exact (Below.refl _ _).drew)
        rw [hwd]
        clear hwd k0 k1
        (refine h_read 0 rfl (by kernel_rfl) (by kernel_rfl) (h_free rfl) ?_ ?_ ?_; rotate_left; (focus (intro v hv; go_simp; rfl)); go_simp)
        (refine h_read 1 rfl (by kernel_rfl) (by kernel_rfl) (h_free rfl) ?_ ?_ ?_; rotate_left; (focus (intro v hv; obtain ⟨c0, c1⟩ := (E7.out.below hv E7.out.lt).k2; obtain ⟨r0, r1⟩ := (R7.out.below hv R7.out.lt).k2; go_simp; rfl)); go_simp)
        (refine h_call 2 rfl (by kernel_rfl) (h_free rfl) 65 ?_ ?_ ?_; rotate_left; (focus (go_simp; rfl)))
        refine (within25 xl 1 4 _ H1.out _).mono ?_
        rintro x w' ⟨rfl, rfl⟩
        refine ⟨_, rfl, D0.out, ?_⟩
        go_simp
        (refine h_read 3 rfl (by kernel_rfl) (by kernel_rfl) (h_free rfl) ?_ ?_ ?_; rotate_left; (focus (intro v hv; go_simp; rfl)); go_simp)
        (refine h_read 4 rfl (by kernel_rfl) (by kernel_rfl) (h_free rfl) ?_ ?_ ?_; rotate_left; (focus (intro v hv; go_simp; rfl)); go_simp)
        (refine h_read 5 rfl (by kernel_rfl) (by kernel_rfl) ?_ ?_ ?_ ?_; (focus (go_simp; done)); rotate_left; (focus (intro v hv; go_simp; rfl)); go_simp)
        (refine h_read 6 rfl (by kernel_rfl) (by kernel_rfl) ?_ ?_ ?_ ?_; (focus (go_simp; done)); rotate_left; (focus (intro v hv; obtain ⟨c0, c1⟩ := (E7.out.below hv E7.out.lt).k2; obtain ⟨r0, r1⟩ := (R7.out.below hv R7.out.lt).k2; go_simp; rfl)); go_simp)
        (refine h_call 7 rfl (by kernel_rfl) ?_ 65 ?_ ?_ ?_; (focus (go_simp; done)); rotate_left; (focus (go_simp; rfl)))
        refine (within25 xb 1 1099511627776 _ H2.out _).mono ?_
        rintro x w' ⟨rfl, rfl⟩
        refine ⟨_, rfl, D0.out, ?_⟩
        go_simp
        (refine h_read 8 rfl (by kernel_rfl) (by kernel_rfl) ?_ ?_ ?_ ?_; (focus (go_simp; done)); rotate_left; (focus (intro v hv; go_simp; rfl)); go_simp)
        (refine h_read 9 rfl (by kernel_rfl) (by kernel_rfl) (h_free rfl) ?_ ?_ ?_; rotate_left; (focus (intro v hv; go_simp; rfl)); go_simp)
        (refine h_read 10 rfl (by kernel_rfl) (by kernel_rfl) (h_free rfl) ?_ ?_ ?_; rotate_left; (focus (intro v hv; go_simp; rfl)); go_simp)
        (refine h_read 11 rfl (by kernel_rfl) (by kernel_rfl) ?_ ?_ ?_ ?_; (focus (go_simp; done)); rotate_left; (focus (intro v hv; go_simp; rfl)); go_simp)
        (refine h_read 12 rfl (by kernel_rfl) (by kernel_rfl) ?_ ?_ ?_ ?_; (focus (go_simp; done)); rotate_left; (focus (intro v hv; go_simp; rfl)); go_simp)
        (refine h_read 13 rfl (by kernel_rfl) (by kernel_rfl) ?_ ?_ ?_ ?_; (focus (go_simp; done)); rotate_left; (focus (intro v hv; go_simp; rfl)); go_simp)
        (refine h_skip 14 rfl (by kernel_rfl) (by kernel_rfl) ?_ ?_; (focus (go_simp; first | done | (intro h; cases h) | simp)); go_simp)
        (refine h_skip 15 rfl (by kernel_rfl) (by kernel_rfl) ?_ ?_; (focus (go_simp; first | done | (intro h; cases h) | simp)); go_simp)
        (refine h_skip 16 rfl (by kernel_rfl) (by kernel_rfl) ?_ ?_; (focus (go_simp; first | done | (intro h; cases h) | simp)); go_simp)
        (refine h_skip 17 rfl (by kernel_rfl) (by kernel_rfl) ?_ ?_; (focus (go_simp; first | done | (intro h; cases h) | simp)); go_simp)
        (refine h_skip 18 rfl (by kernel_rfl) (by kernel_rfl) ?_ ?_; (focus (go_simp; first | done | (intro h; cases h) | simp)); go_simp)
        (refine h_skip 19 rfl (by kernel_rfl) (by kernel_rfl) ?_ ?_; (focus (go_simp; first | done | (intro h; cases h) | simp)); go_simp)
        (refine h_skip 20 rfl (by kernel_rfl) (by kernel_rfl) ?_ ?_; (focus (go_simp; first | done | (intro h; cases h) | simp)); go_simp)
        (refine h_skip 21 rfl (by kernel_rfl) (by kernel_rfl) ?_ ?_; (focus (go_simp; first | done | (intro h; cases h) | simp)); go_simp)
        (refine h_skip 22 rfl (by kernel_rfl) (by kernel_rfl) ?_ ?_; (focus (go_simp; first | done | (intro h; cases h) | simp)); go_simp)
        (refine h_skip 23 rfl (by kernel_rfl) (by kernel_rfl) ?_ ?_; (focus (go_simp; first | done | (intro h; cases h) | simp)); go_simp)
        (refine h_read 24 rfl (by kernel_rfl) (by kernel_rfl) ?_ ?_ ?_ ?_; (focus (go_simp; done)); rotate_left; (focus (intro v hv; go_simp; rfl)); go_simp)
        (refine h_read 25 rfl (by kernel_rfl) (by kernel_rfl) (h_free rfl) ?_ ?_ ?_; rotate_left; (focus (intro v hv; go_simp; rfl)); go_simp)
        refine h_done (by kernel_rfl) ?_
        have BE := Lib.hid (BB.out.trans ((D7.out.trans (D0.out.mono D7.out.size)).mono BB.out.size))
        go_wp2_with fail
        go_roundw
        case rel => exact ⟨0 + 1, vint (by omega), by omega, HRI, HAL, BE⟩
        case measure => simp [intOf]; omega
      obtain ⟨j, rfl⟩ : ∃ j, k = j + 1 := ⟨k - 1, by omega⟩
      obtain ⟨b2, o2, t, hab, ht, hct, -⟩ := H.out.at shOk B.out j (by omega)
      obtain ⟨rfl, rfl⟩ : b = b2 ∧ o = o2 := by injection hab with hab; injection hab with e1 e2; exact ⟨e1, e2⟩
      have PC := Lib.hid (show wr.cell? ⟨b, o + j * 2, none⟩ = some (.int .i64 t.ln) from hct 0 _ rfl)
      have hnx := riseS_next L j t ⟨xl, xb⟩ ht hx
      rw [RI.out, Bool.true_and] at hnx
      obtain ⟨tl, tb⟩ := t
      dsimp only at PC hnx
      have PLr := World.block_lt_of_cell? wr _ PC.out
      have gj : (0 : Int) < (j : Int) + 1 := by omega
      have gj1 : (0 : Int) ≤ (j : Int) := by omega
      have gj2 : (j : Int) < (n : Int) := by omega
      have gw : IntKind.i64.wrap (j : Int) = (j : Int) := by rw [IntKind.wrap_i64]; omega
      have g3 : (0 : Int) ≤ (j : Int) + 1 := by omega
      have g4 : (j : Int) + 1 < (n : Int) := by omega
      have hnt : (((j : Nat) : Int) + 1).toNat = j + 1 := by omega
      by_cases hcmp : tl < xl
      · have HRI := Lib.hid (show riseS none (L.take (j + 1 + 1)) = true by rw [hnx]; exact decide_eq_true hcmp)
        have gc : ¬ xl ≤ tl := by omega
        clear hx hkl hnx ht hct hab
        go_wp2_with (first
          | ((with_reducible refine load_cells (o := ⟨some 16, _, _, _, _, _⟩) rfl _ _ rfl b (o + (j + 1) * 2) ?_ [.int .i64 xl, .int .i64 xb] _ XC.out Try.underlying58 rfl ?_ ?_); (focus go_simp); (focus (exact SZ.out)))
          | ((with_reducible refine alloc_row (o := ⟨some 4, _, _, _, _, _⟩) rfl _ rfl _ EZ.out ?_); intro w6 hr hb hz; have E6 := Lib.hid hr; have R6 := Lib.hid (R.out.below hb R.out.lt); have D6 := Lib.hid hb; clear hr hb hz)
          | ((with_reducible refine store_row (o := ⟨none, _, _, _, _, _⟩) rfl _ (.tmp 4) _ rfl wr.heap.size [.int .i64 xl, .int .i64 xb] ?_ ?_ 58 _ E6.out ?_ ?_ ?_ ?_); (focus go_simp); (focus (first | (go_simp; done) | (go_simp; rfl))); (focus (exact SZ.out)); (focus rfl); (focus (exact shOk.one ⟨xl, xb⟩)); intro w7 hr hu; have E7 := Lib.hid hr; have R7 := Lib.hid (R6.out.upd hu (Nat.ne_of_lt R.out.lt)); have PC7 := Lib.hid (by rw [World.cell?_of_block (a := ⟨b, o + j * 2, none⟩) ((hu.block b (Nat.ne_of_lt PLr)))]; exact (D6.out.cell (p := ⟨b, o + j * 2, none⟩) PLr).trans PC.out : w7.cell? ⟨b, o + j * 2, none⟩ = some (.int .i64 tl)); have D7 := Lib.hid (D6.out.trans (hu.below (Nat.le_refl _))); clear hr hu))
        refine region_h (fun v => Below w7.heap.size w7 v) (by kernel_rfl) (by kernel_rfl) (Below.refl _ _).drew ?_
        obtain ⟨wd, hwd⟩ : ∃ wd, w7.drew = wd := ⟨_, rfl⟩
        have D0 : Hid (Below w7.heap.size w7 wd) := Lib.hid (by rw [← hwd]; exact (Below.refl _ _).drew)
        rw [hwd]
        clear hwd k0 k1
        (refine h_read 0 rfl (by kernel_rfl) (by kernel_rfl) (h_free rfl) ?_ ?_ ?_; rotate_left; (focus (intro v hv; go_simp; rfl)); go_simp)
        (refine h_read 1 rfl (by kernel_rfl) (by kernel_rfl) (h_free rfl) ?_ ?_ ?_; rotate_left; (focus (intro v hv; obtain ⟨c0, c1⟩ := (E7.out.below hv E7.out.lt).k2; obtain ⟨r0, r1⟩ := (R7.out.below hv R7.out.lt).k2; have z0 := (hv.cell (p := ⟨b, o + j * 2, none⟩) (World.block_lt_of_cell? w7 _ PC7.out)).trans PC7.out; go_simp; rfl)); go_simp)
        (refine h_call 2 rfl (by kernel_rfl) (h_free rfl) 65 ?_ ?_ ?_; rotate_left; (focus (go_simp; rfl)))
        refine (within25 xl 1 4 _ H1.out _).mono ?_
        rintro x w' ⟨rfl, rfl⟩
        refine ⟨_, rfl, D0.out, ?_⟩
        go_simp
        (refine h_read 3 rfl (by kernel_rfl) (by kernel_rfl) (h_free rfl) ?_ ?_ ?_; rotate_left; (focus (intro v hv; go_simp; rfl)); go_simp)
        (refine h_read 4 rfl (by kernel_rfl) (by kernel_rfl) (h_free rfl) ?_ ?_ ?_; rotate_left; (focus (intro v hv; go_simp; rfl)); go_simp)
        (refine h_read 5 rfl (by kernel_rfl) (by kernel_rfl) ?_ ?_ ?_ ?_; (focus (go_simp; done)); rotate_left; (focus (intro v hv; go_simp; rfl)); go_simp)
        (refine h_read 6 rfl (by kernel_rfl) (by kernel_rfl) ?_ ?_ ?_ ?_; (focus (go_simp; done)); rotate_left; (focus (intro v hv; obtain ⟨c0, c1⟩ := (E7.out.below hv E7.out.lt).k2; obtain ⟨r0, r1⟩ := (R7.out.below hv R7.out.lt).k2; have z0 := (hv.cell (p := ⟨b, o + j * 2, none⟩) (World.block_lt_of_cell? w7 _ PC7.out)).trans PC7.out; go_simp; rfl)); go_simp)
        (refine h_call 7 rfl (by kernel_rfl) ?_ 65 ?_ ?_ ?_; (focus (go_simp; done)); rotate_left; (focus (go_simp; rfl)))
        refine (within25 xb 1 1099511627776 _ H2.out _).mono ?_
        rintro x w' ⟨rfl, rfl⟩
        refine ⟨_, rfl, D0.out, ?_⟩
        go_simp
        (refine h_read 8 rfl (by kernel_rfl) (by kernel_rfl) ?_ ?_ ?_ ?_; (focus (go_simp; done)); rotate_left; (focus (intro v hv; go_simp; rfl)); go_simp)
        (refine h_read 9 rfl (by kernel_rfl) (by kernel_rfl) (h_free rfl) ?_ ?_ ?_; rotate_left; (focus (intro v hv; go_simp; rfl)); go_simp)
        (refine h_read 10 rfl (by kernel_rfl) (by kernel_rfl) (h_free rfl) ?_ ?_ ?_; rotate_left; (focus (intro v hv; go_simp; rfl)); go_simp)
        (refine h_read 11 rfl (by kernel_rfl) (by kernel_rfl) ?_ ?_ ?_ ?_; (focus (go_simp; done)); rotate_left; (focus (intro v hv; go_simp; rfl)); go_simp)
        (refine h_read 12 rfl (by kernel_rfl) (by kernel_rfl) ?_ ?_ ?_ ?_; (focus (go_simp; done)); rotate_left; (focus (intro v hv; go_simp; rfl)); go_simp)
        (refine h_read 13 rfl (by kernel_rfl) (by kernel_rfl) ?_ ?_ ?_ ?_; (focus (go_simp; done)); rotate_left; (focus (intro v hv; go_simp; rfl)); go_simp)
        (refine h_read 14 rfl (by kernel_rfl) (by kernel_rfl) ?_ ?_ ?_ ?_; (focus (go_simp; done)); rotate_left; (focus (intro v hv; go_simp; rfl)); go_simp)
        (refine h_read 15 rfl (by kernel_rfl) (by kernel_rfl) ?_ ?_ ?_ ?_; (focus (go_simp; done)); rotate_left; (focus (intro v hv; obtain ⟨c0, c1⟩ := (E7.out.below hv E7.out.lt).k2; obtain ⟨r0, r1⟩ := (R7.out.below hv R7.out.lt).k2; have z0 := (hv.cell (p := ⟨b, o + j * 2, none⟩) (World.block_lt_of_cell? w7 _ PC7.out)).trans PC7.out; go_simp; rfl)); go_simp)
        (refine h_read 16 rfl (by kernel_rfl) (by kernel_rfl) ?_ ?_ ?_ ?_; (focus (go_simp; done)); rotate_left; (focus (intro v hv; go_simp; rfl)); go_simp)
        (refine h_read 17 rfl (by kernel_rfl) (by kernel_rfl) ?_ ?_ ?_ ?_; (focus (go_simp; done)); rotate_left; (focus (intro v hv; go_simp; rfl)); go_simp)
        (refine h_read 18 rfl (by kernel_rfl) (by kernel_rfl) ?_ ?_ ?_ ?_; (focus (go_simp; done)); rotate_left; (focus (intro v hv; go_simp; rfl)); go_simp)
        (refine h_read 19 rfl (by kernel_rfl) (by kernel_rfl) ?_ ?_ ?_ ?_; (focus (go_simp; done)); rotate_left; (focus (intro v hv; go_simp; rfl)); go_simp)
        (refine h_read 20 rfl (by kernel_rfl) (by kernel_rfl) ?_ ?_ ?_ ?_; (focus (go_simp; done)); rotate_left; (focus (intro v hv; obtain ⟨c0, c1⟩ := (E7.out.below hv E7.out.lt).k2; obtain ⟨r0, r1⟩ := (R7.out.below hv R7.out.lt).k2; have z0 := (hv.cell (p := ⟨b, o + j * 2, none⟩) (World.block_lt_of_cell? w7 _ PC7.out)).trans PC7.out; go_simp; rfl)); go_simp)
        (refine h_read 21 rfl (by kernel_rfl) (by kernel_rfl) ?_ ?_ ?_ ?_; (focus (go_simp; done)); rotate_left; (focus (intro v hv; go_simp; rfl)); go_simp)
        (refine h_read 22 rfl (by kernel_rfl) (by kernel_rfl) ?_ ?_ ?_ ?_; (focus (go_simp; done)); rotate_left; (focus (intro v hv; obtain ⟨c0, c1⟩ := (E7.out.below hv E7.out.lt).k2; obtain ⟨r0, r1⟩ := (R7.out.below hv R7.out.lt).k2; have z0 := (hv.cell (p := ⟨b, o + j * 2, none⟩) (World.block_lt_of_cell? w7 _ PC7.out)).trans PC7.out; go_simp; rfl)); go_simp)
        (refine h_read 23 rfl (by kernel_rfl) (by kernel_rfl) ?_ ?_ ?_ ?_; (focus (go_simp; done)); rotate_left; (focus (intro v hv; go_simp; rfl)); go_simp)
        (refine h_read 24 rfl (by kernel_rfl) (by kernel_rfl) ?_ ?_ ?_ ?_; (focus (go_simp; done)); rotate_left; (focus (intro v hv; go_simp; rfl)); go_simp)
        (refine h_read 25 rfl (by kernel_rfl) (by kernel_rfl) (h_free rfl) ?_ ?_ ?_; rotate_left; (focus (intro v hv; go_simp; rfl)); go_simp)
        refine h_done (by kernel_rfl) ?_
        have BE := Lib.hid (BB.out.trans ((D7.out.trans (D0.out.mono D7.out.size)).mono BB.out.size))
        go_wp2_with fail
        go_roundw
        case rel => exact ⟨j + 1 + 1, vint (by omega), by omega, HRI, HAL, BE⟩
        case measure => simp [intOf]; omega
      · have HF := Lib.hid (show V = false by
          rw [← HV.out]; unfold Bd.ok
          have : riseS none L = false := by
            cases hc : riseS none L with
            | false => rfl
            | true =>
              have h1 := riseS_take L none (j + 1 + 1) hc
              rw [hnx] at h1
              simp [hcmp] at h1
          rw [this]; simp)
        have gc : xl ≤ tl := by omega
        clear hx hkl hnx ht hct hab
        go_wp2_with (first
          | ((with_reducible refine load_cells (o := ⟨some 16, _, _, _, _, _⟩) rfl _ _ rfl b (o + (j + 1) * 2) ?_ [.int .i64 xl, .int .i64 xb] _ XC.out Try.underlying58 rfl ?_ ?_); (focus go_simp); (focus (exact SZ.out)))
          | ((with_reducible refine alloc_row (o := ⟨some 4, _, _, _, _, _⟩) rfl _ rfl _ EZ.out ?_); intro w6 hr hb hz; have E6 := Lib.hid hr; have R6 := Lib.hid (R.out.below hb R.out.lt); have D6 := Lib.hid hb; clear hr hb hz)
          | ((with_reducible refine store_row (o := ⟨none, _, _, _, _, _⟩) rfl _ (.tmp 4) _ rfl wr.heap.size [.int .i64 xl, .int .i64 xb] ?_ ?_ 58 _ E6.out ?_ ?_ ?_ ?_); (focus go_simp); (focus (first | (go_simp; done) | (go_simp; rfl))); (focus (exact SZ.out)); (focus rfl); (focus (exact shOk.one ⟨xl, xb⟩)); intro w7 hr hu; have E7 := Lib.hid hr; have R7 := Lib.hid (R6.out.upd hu (Nat.ne_of_lt R.out.lt)); have PC7 := Lib.hid (by rw [World.cell?_of_block (a := ⟨b, o + j * 2, none⟩) ((hu.block b (Nat.ne_of_lt PLr)))]; exact (D6.out.cell (p := ⟨b, o + j * 2, none⟩) PLr).trans PC.out : w7.cell? ⟨b, o + j * 2, none⟩ = some (.int .i64 tl)); have D7 := Lib.hid (D6.out.trans (hu.below (Nat.le_refl _))); clear hr hu))
        refine region_h (fun v => Below w7.heap.size w7 v) (by kernel_rfl) (by kernel_rfl) (Below.refl _ _).drew ?_
        obtain ⟨wd, hwd⟩ : ∃ wd, w7.drew = wd := ⟨_, rfl⟩
        have D0 : Hid (Below w7.heap.size w7 wd) := Lib.hid (by rw [← hwd]; exact (Below.refl _ _).drew)
        rw [hwd]
        clear hwd k0 k1
        (refine h_read 0 rfl (by kernel_rfl) (by kernel_rfl) (h_free rfl) ?_ ?_ ?_; rotate_left; (focus (intro v hv; go_simp; rfl)); go_simp)
        (refine h_read 1 rfl (by kernel_rfl) (by kernel_rfl) (h_free rfl) ?_ ?_ ?_; rotate_left; (focus (intro v hv; obtain ⟨c0, c1⟩ := (E7.out.below hv E7.out.lt).k2; obtain ⟨r0, r1⟩ := (R7.out.below hv R7.out.lt).k2; have z0 := (hv.cell (p := ⟨b, o + j * 2, none⟩) (World.block_lt_of_cell? w7 _ PC7.out)).trans PC7.out; go_simp; rfl)); go_simp)
        (refine h_call 2 rfl (by kernel_rfl) (h_free rfl) 65 ?_ ?_ ?_; rotate_left; (focus (go_simp; rfl)))
        refine (within25 xl 1 4 _ H1.out _).mono ?_
        rintro x w' ⟨rfl, rfl⟩
        refine ⟨_, rfl, D0.out, ?_⟩
        go_simp
        (refine h_read 3 rfl (by kernel_rfl) (by kernel_rfl) (h_free rfl) ?_ ?_ ?_; rotate_left; (focus (intro v hv; go_simp; rfl)); go_simp)
        (refine h_read 4 rfl (by kernel_rfl) (by kernel_rfl) (h_free rfl) ?_ ?_ ?_; rotate_left; (focus (intro v hv; go_simp; rfl)); go_simp)
        (refine h_read 5 rfl (by kernel_rfl) (by kernel_rfl) ?_ ?_ ?_ ?_; (focus (go_simp; done)); rotate_left; (focus (intro v hv; go_simp; rfl)); go_simp)
        (refine h_read 6 rfl (by kernel_rfl) (by kernel_rfl) ?_ ?_ ?_ ?_; (focus (go_simp; done)); rotate_left; (focus (intro v hv; obtain ⟨c0, c1⟩ := (E7.out.below hv E7.out.lt).k2; obtain ⟨r0, r1⟩ := (R7.out.below hv R7.out.lt).k2; have z0 := (hv.cell (p := ⟨b, o + j * 2, none⟩) (World.block_lt_of_cell? w7 _ PC7.out)).trans PC7.out; go_simp; rfl)); go_simp)
        (refine h_call 7 rfl (by kernel_rfl) ?_ 65 ?_ ?_ ?_; (focus (go_simp; done)); rotate_left; (focus (go_simp; rfl)))
        refine (within25 xb 1 1099511627776 _ H2.out _).mono ?_
        rintro x w' ⟨rfl, rfl⟩
        refine ⟨_, rfl, D0.out, ?_⟩
        go_simp
        (refine h_read 8 rfl (by kernel_rfl) (by kernel_rfl) ?_ ?_ ?_ ?_; (focus (go_simp; done)); rotate_left; (focus (intro v hv; go_simp; rfl)); go_simp)
        (refine h_read 9 rfl (by kernel_rfl) (by kernel_rfl) (h_free rfl) ?_ ?_ ?_; rotate_left; (focus (intro v hv; go_simp; rfl)); go_simp)
        (refine h_read 10 rfl (by kernel_rfl) (by kernel_rfl) (h_free rfl) ?_ ?_ ?_; rotate_left; (focus (intro v hv; go_simp; rfl)); go_simp)
        (refine h_read 11 rfl (by kernel_rfl) (by kernel_rfl) ?_ ?_ ?_ ?_; (focus (go_simp; done)); rotate_left; (focus (intro v hv; go_simp; rfl)); go_simp)
        (refine h_read 12 rfl (by kernel_rfl) (by kernel_rfl) ?_ ?_ ?_ ?_; (focus (go_simp; done)); rotate_left; (focus (intro v hv; go_simp; rfl)); go_simp)
        (refine h_read 13 rfl (by kernel_rfl) (by kernel_rfl) ?_ ?_ ?_ ?_; (focus (go_simp; done)); rotate_left; (focus (intro v hv; go_simp; rfl)); go_simp)
        (refine h_read 14 rfl (by kernel_rfl) (by kernel_rfl) ?_ ?_ ?_ ?_; (focus (go_simp; done)); rotate_left; (focus (intro v hv; go_simp; rfl)); go_simp)
        (refine h_read 15 rfl (by kernel_rfl) (by kernel_rfl) ?_ ?_ ?_ ?_; (focus (go_simp; done)); rotate_left; (focus (intro v hv; obtain ⟨c0, c1⟩ := (E7.out.below hv E7.out.lt).k2; obtain ⟨r0, r1⟩ := (R7.out.below hv R7.out.lt).k2; have z0 := (hv.cell (p := ⟨b, o + j * 2, none⟩) (World.block_lt_of_cell? w7 _ PC7.out)).trans PC7.out; go_simp; rfl)); go_simp)
        (refine h_read 16 rfl (by kernel_rfl) (by kernel_rfl) ?_ ?_ ?_ ?_; (focus (go_simp; done)); rotate_left; (focus (intro v hv; go_simp; rfl)); go_simp)
        (refine h_read 17 rfl (by kernel_rfl) (by kernel_rfl) ?_ ?_ ?_ ?_; (focus (go_simp; done)); rotate_left; (focus (intro v hv; go_simp; rfl)); go_simp)
        (refine h_read 18 rfl (by kernel_rfl) (by kernel_rfl) ?_ ?_ ?_ ?_; (focus (go_simp; done)); rotate_left; (focus (intro v hv; go_simp; rfl)); go_simp)
        (refine h_read 19 rfl (by kernel_rfl) (by kernel_rfl) ?_ ?_ ?_ ?_; (focus (go_simp; done)); rotate_left; (focus (intro v hv; go_simp; rfl)); go_simp)
        (refine h_read 20 rfl (by kernel_rfl) (by kernel_rfl) ?_ ?_ ?_ ?_; (focus (go_simp; done)); rotate_left; (focus (intro v hv; obtain ⟨c0, c1⟩ := (E7.out.below hv E7.out.lt).k2; obtain ⟨r0, r1⟩ := (R7.out.below hv R7.out.lt).k2; have z0 := (hv.cell (p := ⟨b, o + j * 2, none⟩) (World.block_lt_of_cell? w7 _ PC7.out)).trans PC7.out; go_simp; rfl)); go_simp)
        (refine h_read 21 rfl (by kernel_rfl) (by kernel_rfl) ?_ ?_ ?_ ?_; (focus (go_simp; done)); rotate_left; (focus (intro v hv; go_simp; rfl)); go_simp)
        (refine h_read 22 rfl (by kernel_rfl) (by kernel_rfl) ?_ ?_ ?_ ?_; (focus (go_simp; done)); rotate_left; (focus (intro v hv; obtain ⟨c0, c1⟩ := (E7.out.below hv E7.out.lt).k2; obtain ⟨r0, r1⟩ := (R7.out.below hv R7.out.lt).k2; have z0 := (hv.cell (p := ⟨b, o + j * 2, none⟩) (World.block_lt_of_cell? w7 _ PC7.out)).trans PC7.out; go_simp; rfl)); go_simp)
        (refine h_read 23 rfl (by kernel_rfl) (by kernel_rfl) ?_ ?_ ?_ ?_; (focus (go_simp; done)); rotate_left; (focus (intro v hv; go_simp; rfl)); go_simp)
        (refine h_read 24 rfl (by kernel_rfl) (by kernel_rfl) ?_ ?_ ?_ ?_; (focus (go_simp; done)); rotate_left; (focus (intro v hv; go_simp; rfl)); go_simp)
        (refine h_read 25 rfl (by kernel_rfl) (by kernel_rfl) (h_free rfl) ?_ ?_ ?_; rotate_left; (focus (intro v hv; go_simp; rfl)); go_simp)
        refine h_done (by kernel_rfl) ?_
        have BE := Lib.hid (B.out.trans ((D7.out.trans (D0.out.mono D7.out.size)).mono B.out.size))
        go_wp2_with fail
        go_ret
        exact ⟨one (vbool (by rw [HF.out])), BE.out⟩
    · obtain rfl : n = k := by omega
      have hri := RI.out
      have hal := AL.out
      rw [List.take_of_length_le (by rw [HL.out]; exact Nat.le_refl _)] at hri hal
      have hts : totV L = sumS L := tot_sum hal (by rw [HL.out]; exact hn2)
      obtain ⟨tv, htv⟩ : ∃ z, totV L = z := ⟨_, rfl⟩
      rw [htv] at HTO hts
      obtain ⟨q, hq⟩ : ∃ q, in64 cp 0 1099511627776 = q := ⟨_, rfl⟩
      have HC0 := Lib.hid hq
      have HVV := Lib.hid (show V = (q && decide (tv ≤ cp)) by rw [← HV.out, hts]; unfold Bd.ok; dsimp only; rw [hq, hri, hal]; simp)
      clear hri hal hts htv hq
      go_wp2_with fail
      refine region_h (fun v => Below wr.heap.size wr v) (by kernel_rfl) (by kernel_rfl) (Below.refl _ _).drew ?_
      obtain ⟨wd, hwd⟩ : ∃ wd, wr.drew = wd := ⟨_, rfl⟩
      have D0 : Hid (Below wr.heap.size wr wd) := Lib.hid (by rw [← hwd]; exact (Below.refl _ _).drew)
      rw [hwd]
      clear hwd k0 k1
      cases q
      · have HF := Lib.hid (show V = false by rw [HVV.out]; rfl)
        (refine h_read 0 rfl (by kernel_rfl) (by kernel_rfl) (h_free rfl) ?_ ?_ ?_; rotate_left; (focus (intro v hv; go_simp; rfl)); go_simp)
        (refine h_read 1 rfl (by kernel_rfl) (by kernel_rfl) (h_free rfl) ?_ ?_ ?_; rotate_left; (focus (intro v hv; obtain ⟨c0, c1⟩ := (R.out.below hv R.out.lt).k2; go_simp; rfl)); go_simp)
        (refine h_call 2 rfl (by kernel_rfl) (h_free rfl) 65 ?_ ?_ ?_; rotate_left; (focus (go_simp; rfl)))
        refine (within25 cp 0 1099511627776 _ HC0.out _).mono ?_
        rintro x w' ⟨rfl, rfl⟩
        refine ⟨_, rfl, D0.out, ?_⟩
        go_simp
        (refine h_read 3 rfl (by kernel_rfl) (by kernel_rfl) (h_free rfl) ?_ ?_ ?_; rotate_left; (focus (intro v hv; go_simp; rfl)); go_simp)
        (refine h_skip 4 rfl (by kernel_rfl) (by kernel_rfl) ?_ ?_; (focus (go_simp; first | done | (intro h; cases h) | simp)); go_simp)
        (refine h_skip 5 rfl (by kernel_rfl) (by kernel_rfl) ?_ ?_; (focus (go_simp; first | done | (intro h; cases h) | simp)); go_simp)
        (refine h_skip 6 rfl (by kernel_rfl) (by kernel_rfl) ?_ ?_; (focus (go_simp; first | done | (intro h; cases h) | simp)); go_simp)
        (refine h_skip 7 rfl (by kernel_rfl) (by kernel_rfl) ?_ ?_; (focus (go_simp; first | done | (intro h; cases h) | simp)); go_simp)
        (refine h_skip 8 rfl (by kernel_rfl) (by kernel_rfl) ?_ ?_; (focus (go_simp; first | done | (intro h; cases h) | simp)); go_simp)
        (refine h_read 9 rfl (by kernel_rfl) (by kernel_rfl) (h_free rfl) ?_ ?_ ?_; rotate_left; (focus (intro v hv; go_simp; rfl)); go_simp)
        (refine h_read 10 rfl (by kernel_rfl) (by kernel_rfl) (h_free rfl) ?_ ?_ ?_; rotate_left; (focus (intro v hv; go_simp; rfl)); go_simp)
        refine h_done (by kernel_rfl) ?_
        go_wp2_with fail
        go_ret
        exact ⟨one (vbool (by rw [HF.out])), B.out.trans (D0.out.mono B.out.size)⟩
      · have HF := Lib.hid (show V = decide (tv ≤ cp) by rw [HVV.out]; rfl)
        (refine h_read 0 rfl (by kernel_rfl) (by kernel_rfl) (h_free rfl) ?_ ?_ ?_; rotate_left; (focus (intro v hv; go_simp; rfl)); go_simp)
        (refine h_read 1 rfl (by kernel_rfl) (by kernel_rfl) (h_free rfl) ?_ ?_ ?_; rotate_left; (focus (intro v hv; obtain ⟨c0, c1⟩ := (R.out.below hv R.out.lt).k2; go_simp; rfl)); go_simp)
        (refine h_call 2 rfl (by kernel_rfl) (h_free rfl) 65 ?_ ?_ ?_; rotate_left; (focus (go_simp; rfl)))
        refine (within25 cp 0 1099511627776 _ HC0.out _).mono ?_
        rintro x w' ⟨rfl, rfl⟩
        refine ⟨_, rfl, D0.out, ?_⟩
        go_simp
        (refine h_read 3 rfl (by kernel_rfl) (by kernel_rfl) (h_free rfl) ?_ ?_ ?_; rotate_left; (focus (intro v hv; go_simp; rfl)); go_simp)
        (refine h_read 4 rfl (by kernel_rfl) (by kernel_rfl) ?_ ?_ ?_ ?_; (focus (go_simp; done)); rotate_left; (focus (intro v hv; refine run_cells 25 (.tmp 1) ?_ w.heap.size 0 ?_ (bdC cp a n c) _ (fun j' u hj => by rw [hv.cell (p := ⟨w.heap.size, 0 + j', none⟩) R.out.lt, Nat.zero_add, R.out.cellV]; exact hj) Try.underlying25 rfl bd_size; (focus rfl); go_simp)); go_simp)
        (refine h_read 6 rfl (by kernel_rfl) (by kernel_rfl) ?_ ?_ ?_ ?_; (focus (go_simp; done)); rotate_left; (focus (intro v hv; go_simp; rfl)); go_simp)
        (refine h_read 7 rfl (by kernel_rfl) (by kernel_rfl) ?_ ?_ ?_ ?_; (focus (go_simp; done)); rotate_left; (focus (intro v hv; obtain ⟨c0, c1⟩ := (R.out.below hv R.out.lt).k2; go_simp; rfl)); go_simp)
        (refine h_call 5 rfl (by kernel_rfl) ?_ 66 ?_ ?_ ?_; (focus (go_simp; done)); rotate_left; (focus (go_simp; rfl)))
        refine (HTO.out wd (B.out.trans (D0.out.mono B.out.size))).mono ?_
        rintro x w8 ⟨rfl, hb⟩
        have D1 := Lib.hid (D0.out.trans (hb.mono D0.out.size))
        clear hb
        refine ⟨_, rfl, D1.out, ?_⟩
        go_simp
        (refine h_read 8 rfl (by kernel_rfl) (by kernel_rfl) ?_ ?_ ?_ ?_; (focus (go_simp; done)); rotate_left; (focus (intro v hv; go_simp; rfl)); go_simp)
        (refine h_read 9 rfl (by kernel_rfl) (by kernel_rfl) (h_free rfl) ?_ ?_ ?_; rotate_left; (focus (intro v hv; go_simp; rfl)); go_simp)
        (refine h_read 10 rfl (by kernel_rfl) (by kernel_rfl) (h_free rfl) ?_ ?_ ?_; rotate_left; (focus (intro v hv; go_simp; rfl)); go_simp)
        refine h_done (by kernel_rfl) ?_
        go_wp2_with fail
        go_ret
        exact ⟨one (vbool (by rw [HF.out])), B.out.trans (D1.out.mono B.out.size)⟩
end Go.Proofs.Ytkmdbdieloimiaa.W
