import Derived.Test.YtkfhppbmnjmnoaaGreatDoorCzF
/- LAYER 28 (chunk): the law Gets. -/
set_option linter.unusedSimpArgs false
set_option linter.unusedVariables false
namespace Go.Proofs.YtkfhppbmnjmnoaaGreatDoor.W
open Go Go.ChangeShapes Go.WideShapes Go.ChangeAt Go.RowKit
open Go.Proofs.YtkfhppbmnjmnoaaGreatDoor.P (shaL shaL_len)

theorem get_cases {T : Nat} {L : List Fi} (hok : ∀ f ∈ L, FiOk T f) (f : Fi) (hf : f ∈ L) : ∃ b e, getC L f.s = (b, e) ∧ b.length ≤ 256 ∧ ((e = 0 ∧ sumOf b = f.s) ∨ e = 20) := by
  unfold getC
  cases h : findC f.s L with
  | none => exact absurd (List.find?_eq_none.1 h f hf) (by simp)
  | some g =>
    have hs : g.s = f.s := by simpa using List.find?_some h
    have hm : g ∈ L := List.mem_of_find?_eq_some h
    dsimp only
    by_cases hi : intactC g = true
    · rw [if_pos hi]; exact ⟨_, _, rfl, (hok g hm).b2, .inl ⟨rfl, by rw [← hs]; simpa [intactC] using hi⟩⟩
    · rw [if_neg hi]; exact ⟨_, _, rfl, by simp, .inr rfl⟩
set_option maxRecDepth 100000 in
set_option maxHeartbeats 32000000 in
theorem law_ChunkGets (a : Option Addr) (n c : Nat) (DL : List DoK) (w : World) (hK : Ks w) (h : Ls doE w a n c DL) :
    Calls Tryz.prog 4 #[.slice a n c] w fun x w' => x = .returned (.bool true) ∧ Below w.heap.size w w' := by
  have HK := Lib.hid hK
  have HA := Lib.hid (fun w' (hb : Below w.heap.size w w') => awake28 w' (HK.out.below hb HK.out.pos))
  have H := Lib.hid h
  have hm := h.hmax
  have hle := h.hle
  have hp := hK.pos
  clear hK h
  have hr2 : (0 : Int) ≤ 10000 ∧ (10000 : Int) ≤ 524288 := by decide
  obtain ⟨base, hbase⟩ : ∃ b, w.heap.size = b := ⟨_, rfl⟩
  have HBASE := Lib.hid hbase
  have SZF := Lib.hid file_size
  have FZ := Lib.hid file_zero
  go_enter Tryz.func4, Tryz.ntmps4
  go_wp2_with (first
    | (go_at_call 7; (with_reducible refine (cnew 10000 w hr2).mono ?_); rintro e w1 ⟨p, m, rfl, hck, hb⟩; have C1 := Lib.hid hck; have B1 := Lib.hid hb; clear hck hb)
    | (go_at_call 8; (with_reducible refine (xcnew 10000 w1 hr2).mono ?_); rintro e w2 ⟨q, rfl, hxk, hb⟩; have P2I := Lib.hid (P2.start C1.out hxk hb B1.out.size); have B2 := Lib.hid (B1.out.trans (hb.mono B1.out.size)); clear hxk hb))
  go_loopw [29] (fun vi wr => ∃ (k : Nat) (L : List Fi) (S T : Nat → Prop), vi = .int .i64 (k : Int) ∧ k ≤ n ∧ k ≤ 50 ∧ Hid (P2 wr base 10000 p q L L S T) ∧ Hid (StOk k 10000 L) ∧ Hid (Below base w wr)) (fun vi _ => n - (intOf vi).toNat)
  case atStart => exact ⟨0, [], _, _, rfl, Nat.zero_le _, by omega, Lib.hid (by rw [← HBASE.out]; exact P2I.out), Lib.hid (st_nil hr2), Lib.hid (by rw [← HBASE.out]; exact B2.out)⟩
  case round =>
    obtain ⟨k, L, S, T, rfl, hk, hk50, HP, HS, HB⟩ := hrel
    have ZB := Lib.hid (show base ≤ wr.heap.size by rw [← HBASE.out]; rw [← HBASE.out] at HB; exact HB.out.size)
    by_cases hkn : k < n
    · have g0 : (0 : Int) ≤ (k : Int) := by omega
      have g1 : (k : Int) < (n : Int) := by omega
      obtain ⟨b, off, d, rfl, hx, hcell, -⟩ := H.out.at doOk28 (show Below w.heap.size w wr by rw [HBASE.out]; exact HB.out) k hkn
      have hdf : d.fit w := H.out.hfit d (List.mem_of_getElem? hx)
      have HDF := Lib.hid hdf
      obtain ⟨C, hC⟩ : ∃ C, d.cells = C := ⟨_, rfl⟩
      have hcl : C.length = 8 := by rw [← hC]; rfl
      have XC := Lib.hid (show ∀ j v, C[j]? = some v → wr.cell? ⟨b, off + k * 8 + j, none⟩ = some v from fun j v hj => hcell j v (by show d.cells[j]? = _; rw [hC]; exact hj))
      have SZ := Lib.hid (show (Tryz.prog.info? 34).map (·.size) = some C.length by rw [hcl]; exact do_size28)
      have ZR := Lib.hid do_zero28
      have C1' := Lib.hid (show ∀ v ∈ C, v.oneCell' = true by rw [← hC]; exact doOk28.one d)
      have CL := Lib.hid hcl
      have HFW := Lib.hid (fun w' => by have := few28 d w'; rw [hC] at this; exact this)
      have HDO := Lib.hid (fun (w' : World) (hb : Below wr.heap.size wr w') (hf : d.few = true) => by have := do28 d 10000 L w w' base p q k S T (HP.out.mono hb) HS.out (by omega) hr2.1 (HK.out.below (HB.out.trans (hb.mono ZB.out)) (by rw [← HBASE.out]; exact hp)) HBASE.out (HB.out.trans (hb.mono ZB.out)) (by rw [← HBASE.out]; exact hp) HDF.out hf; rw [hC] at this; exact this)
      have HST := Lib.hid (step_ok HS.out d hdf.n64)
      obtain ⟨L', hL'⟩ : ∃ L', stepK 10000 L d = L' := ⟨_, rfl⟩
      rw [hL'] at HST HDO
      clear hx hcell hC hcl hdf hL'
      by_cases h50 : k < 50
      rotate_left
      · have g5 : (50 : Int) ≤ (k : Int) := by omega
        go_wp2_with (first
          | ((with_reducible refine load_cells (o := ⟨some 33, _, _, _, _, _⟩) rfl _ _ rfl b (off + k * 8) ?_ C _ XC.out Tryz.underlying34 rfl ?_ ?_); (focus go_simp); (focus (exact SZ.out)))
          | ((with_reducible refine alloc_row (o := ⟨some 8, _, _, _, _, _⟩) rfl _ rfl _ ZR.out ?_); intro w4 hr4 hb4 hz4; have R4 := Lib.hid hr4; have B4 := Lib.hid hb4; clear hr4 hb4 hz4)
          | ((with_reducible refine store_row (o := ⟨none, _, _, _, _, _⟩) rfl _ (.tmp 8) _ rfl wr.heap.size C ?_ ?_ 34 _ R4.out ?_ ?_ ?_ ?_); (focus go_simp); (focus (first | (go_simp; done) | (go_simp; rfl))); (focus (exact SZ.out)); (focus (rw [CL.out]; rfl)); (focus (exact C1'.out)); intro w5 hr5 hu5; have R5 := Lib.hid hr5; have B5 := Lib.hid (B4.out.trans (hu5.below (Nat.le_refl _))); clear hr5 hu5)
          | (go_at_call 18; (with_reducible refine (HA.out _ (by rw [HBASE.out]; exact HB.out.trans (B5.out.mono ZB.out))).mono ?_); rintro x wb ⟨rfl, hb⟩; have Bb := Lib.hid ((HB.out.trans (B5.out.mono ZB.out)).trans (hb.mono (Nat.le_trans ZB.out B5.out.size))); clear hb))
        go_ret
        exact ⟨rfl, by rw [HBASE.out]; exact Bb.out⟩
      have g5 : ¬ (50 : Int) ≤ (k : Int) := by omega
      cases hfw : d.few with
      | false =>
        rw [hfw] at HFW
        clear hfw
        go_wp2_with (first
          | ((with_reducible refine load_cells (o := ⟨some 33, _, _, _, _, _⟩) rfl _ _ rfl b (off + k * 8) ?_ C _ XC.out Tryz.underlying34 rfl ?_ ?_); (focus go_simp); (focus (exact SZ.out)))
          | ((with_reducible refine alloc_row (o := ⟨some 8, _, _, _, _, _⟩) rfl _ rfl _ ZR.out ?_); intro w4 hr4 hb4 hz4; have R4 := Lib.hid hr4; have B4 := Lib.hid hb4; clear hr4 hb4 hz4)
          | ((with_reducible refine store_row (o := ⟨none, _, _, _, _, _⟩) rfl _ (.tmp 8) _ rfl wr.heap.size C ?_ ?_ 34 _ R4.out ?_ ?_ ?_ ?_); (focus go_simp); (focus (first | (go_simp; done) | (go_simp; rfl))); (focus (exact SZ.out)); (focus (rw [CL.out]; rfl)); (focus (exact C1'.out)); intro w5 hr5 hu5; have R5 := Lib.hid hr5; have B5 := Lib.hid (B4.out.trans (hu5.below (Nat.le_refl _))); clear hr5 hu5)
          | ((with_reducible refine load_rowg (o := ⟨some 37, _, _, _, _, _⟩) 2 false 36 rfl _ _ rfl wr.heap.size _ C _ R5.out Tryz.underlying34 rfl ?_ ?_ ?_ ?_ ?_); (focus rfl); (focus (first | (go_simp; done) | (go_simp; rfl))); (focus go_simp); (focus (exact SZ.out)))
          | (go_at_call 9; (with_reducible refine (HFW.out _).mono ?_); rintro x w6 ⟨rfl, hb⟩; have B6 := Lib.hid (B5.out.trans (hb.mono B5.out.size)); clear hb)
          | (go_at_call 18; (with_reducible refine (HA.out _ (by rw [HBASE.out]; exact HB.out.trans (B6.out.mono ZB.out))).mono ?_); rintro x wb ⟨rfl, hb⟩; have Bb := Lib.hid ((HB.out.trans (B6.out.mono ZB.out)).trans (hb.mono (Nat.le_trans ZB.out B6.out.size))); clear hb))
        go_ret
        exact ⟨rfl, by rw [HBASE.out]; exact Bb.out⟩
      | true =>
        rw [hfw] at HFW
        have HDO2 := Lib.hid (fun w' hb => HDO.out w' hb hfw)
        clear hfw HDO
        go_wp2_with (first
          | ((with_reducible refine load_cells (o := ⟨some 33, _, _, _, _, _⟩) rfl _ _ rfl b (off + k * 8) ?_ C _ XC.out Tryz.underlying34 rfl ?_ ?_); (focus go_simp); (focus (exact SZ.out)))
          | ((with_reducible refine alloc_row (o := ⟨some 8, _, _, _, _, _⟩) rfl _ rfl _ ZR.out ?_); intro w4 hr4 hb4 hz4; have R4 := Lib.hid hr4; have B4 := Lib.hid hb4; clear hr4 hb4 hz4)
          | ((with_reducible refine store_row (o := ⟨none, _, _, _, _, _⟩) rfl _ (.tmp 8) _ rfl wr.heap.size C ?_ ?_ 34 _ R4.out ?_ ?_ ?_ ?_); (focus go_simp); (focus (first | (go_simp; done) | (go_simp; rfl))); (focus (exact SZ.out)); (focus (rw [CL.out]; rfl)); (focus (exact C1'.out)); intro w5 hr5 hu5; have R5 := Lib.hid hr5; have B5 := Lib.hid (B4.out.trans (hu5.below (Nat.le_refl _))); clear hr5 hu5)
          | ((with_reducible refine load_rowg (o := ⟨some 37, _, _, _, _, _⟩) 2 false 36 rfl _ _ rfl wr.heap.size _ C _ R5.out Tryz.underlying34 rfl ?_ ?_ ?_ ?_ ?_); (focus rfl); (focus (first | (go_simp; done) | (go_simp; rfl))); (focus go_simp); (focus (exact SZ.out)))
          | (go_at_call 9; (with_reducible refine (HFW.out _).mono ?_); rintro x w6 ⟨rfl, hb⟩; have R6 := Lib.hid (R5.out.below hb R5.out.lt); have B6 := Lib.hid (B5.out.trans (hb.mono B5.out.size)); clear hb)
          | ((with_reducible refine load_row (o := ⟨some 43, _, _, _, _, _⟩) rfl _ _ rfl wr.heap.size ?_ _ C _ R6.out Tryz.underlying34 rfl ?_ ?_); (focus go_simp); (focus (exact SZ.out)))
          | (go_at_call 10; (with_reducible refine (HDO2.out _ B6.out).mono ?_); rintro x w7 ⟨rfl, ⟨S', T', hp7⟩, hb⟩; have P7 := Lib.hid hp7; have B7 := Lib.hid ((HB.out.trans (B6.out.mono ZB.out)).trans hb); have Z7 := Lib.hid (Nat.le_trans (Nat.le_trans ZB.out B6.out.size) hb.size); have QF := Lib.hid (qfiles hp7 HST.out (by omega)); clear hp7 hb)
          | (go_at_call 12; (with_reducible refine QF.out.mono ?_); rintro x w8 ⟨v8, Y8, rfl, hY8, hl8, hb⟩; obtain ⟨a8, c8, rfl, hls8, -⟩ := hl8.own.ls fiOk hl8.fit; have LY8 := Lib.hid hls8; have EY8 := Lib.hid hY8; have D8 := Lib.hid hb; clear hl8 hls8 hY8 hb))
        clear HDO2 HFW
        obtain ⟨n8, hn8⟩ : ∃ m, Y8.length = m := ⟨_, rfl⟩
        rw [hn8] at LY8 ⊢
        clear hn8
        have hm8 := LY8.out.hmax
        have hl8 := LY8.out.hle
        have KW := Lib.hid (fun w' (hw : Below w7.heap.size w7 w') => HK.out.below (B7.out.trans (hw.mono Z7.out)) (by rw [← HBASE.out]; exact hp))
        go_loopw [49] (fun vi wq => ∃ (j : Nat), vi = .int .i64 (j : Int) ∧ j ≤ n8 ∧ Hid (Below w8.heap.size w8 wq)) (fun vi _ => n8 - (intOf vi).toNat)
        case atStart => exact ⟨0, rfl, Nat.zero_le _, Lib.hid (Below.refl _ _)⟩
        case round =>
          obtain ⟨j, rfl, hj, HB8⟩ := hrel
          obtain ⟨wq, rfl⟩ : ∃ x, x = wr := ⟨_, rfl⟩
          by_cases hjn : j < n8
          · have j0 : (0 : Int) ≤ (j : Int) := by omega
            have j1 : (j : Int) < (n8 : Int) := by omega
            obtain ⟨b8, o8, y, rfl, hy, hcell, -⟩ := LY8.out.at fiOk HB8.out j hjn
            have hfi : y.f ∈ L' := by rw [← EY8.out]; exact List.mem_map.2 ⟨y, List.mem_of_getElem? hy, rfl⟩
            obtain ⟨bb, ec, hg, hbb, hcs⟩ := get_cases HST.out.ok y.f hfi
            have hsz : y.f.s.size ≤ maxLen := Nat.le_trans (HST.out.ok y.f hfi).s (by decide)
            have WQ := Lib.hid (fun w' (hw : Below wq.heap.size wq w') => D8.out.trans ((HB8.out.trans (hw.mono HB8.out.size)).mono D8.out.size))
            have HGT := Lib.hid (fun w' (hw : Below wq.heap.size wq w') => by have := qget (P7.out.mono (WQ.out w' hw)) HST.out (KW.out w' (WQ.out w' hw)) y.f.s hsz; rw [hg] at this; exact this)
            have HHA := Lib.hid (fun w' (hw : Below wq.heap.size wq w') => by have := qhas (P7.out.mono (WQ.out w' hw)) HST.out (KW.out w' (WQ.out w' hw)) y.f.s hsz; rw [hg] at this; exact this)
            have XQ := Lib.hid (show ∀ i v, y.cells[i]? = some v → wq.cell? ⟨b8, o8 + j * 4 + i, none⟩ = some v from hcell)
            clear hy hcell hfi hg hsz
            obtain ⟨⟨s, b', su, t⟩, fa, fn, fc, ta, tn, tc⟩ := y
            dsimp only at hcs HGT HHA
            replace XQ : Hid (∀ i v, (fiC s (.slice fa fn fc) su (.slice ta tn tc))[i]? = some v → wq.cell? ⟨b8, o8 + j * 4 + i, none⟩ = some v) := XQ
            obtain ⟨gl, hgl⟩ : ∃ m, bb.length = m := ⟨_, rfl⟩
            have HGL := Lib.hid hgl
            have HGL2 := Lib.hid (show gl ≤ 256 by omega)
            clear hgl hbb
            rcases hcs with ⟨rfl, hss⟩ | rfl
            · have HSS := Lib.hid (show str (shaL bb) = s from hss)
              replace HHA : Hid (∀ w', Below wq.heap.size wq w' → Calls Tryz.prog 21 #[.pointer (some ⟨p, 0, none⟩), .string s] w' fun e w'' => e = .returned (.bool true) ∧ Below w'.heap.size w' w'') := HHA
              clear hss
              go_wp2_with (first
                | ((with_reducible refine load_cells (o := ⟨some 52, _, _, _, _, _⟩) rfl _ _ rfl b8 (o8 + j * 4) ?_ (fiC s (.slice fa fn fc) su (.slice ta tn tc)) _ XQ.out Tryz.underlying44 rfl ?_ ?_); (focus go_simp); (focus (exact SZF.out)))
                | ((with_reducible refine alloc_row (o := ⟨some 10, _, _, _, _, _⟩) rfl _ rfl _ FZ.out ?_); intro w4 hr4 hb4 hz4; have R4 := Lib.hid hr4; have B4 := Lib.hid hb4; clear hr4 hb4 hz4)
                | ((with_reducible refine store_row (o := ⟨none, _, _, _, _, _⟩) rfl _ (.tmp 10) _ rfl wq.heap.size (fiC s (.slice fa fn fc) su (.slice ta tn tc)) ?_ ?_ 44 _ R4.out ?_ ?_ (fi_one _ _ _ _ rfl rfl) ?_); (focus go_simp); (focus (first | (go_simp; done) | (go_simp; rfl))); (focus (exact SZF.out)); (focus rfl); intro w5 hr5 hu5; have c0 := hr5.k4.1; have R5 := Lib.hid hr5; have B5 := Lib.hid (B4.out.trans (hu5.below (Nat.le_refl _))); clear hr5 hu5)
                | (go_at_call 19; (with_reducible refine (HGT.out _ B5.out).mono ?_); rintro x w6 ⟨v, rfl, hf, hb⟩; obtain ⟨ga, gc, rfl, hrd⟩ := hf.form' gl HGL.out; have V6 := Lib.hid hrd; have R6 := Lib.hid (R5.out.below hb R5.out.lt); have B6 := Lib.hid (B5.out.trans (hb.mono B5.out.size)); clear hf hb hrd))
              clear c0
              have HSU := Lib.hid (fun w' (hw : Below w6.heap.size w6 w') => show Calls Tryz.prog 20 #[.slice ga gl gc] w' fun e w'' => e = .returned (.string s) ∧ Below w'.heap.size w' w'' from by have := rsum_any ga gl gc bb w' (V6.out.mono hw) (by have := HGL2.out; omega); rw [← HSS.out]; exact this)
              replace HHA := Lib.hid (fun w' (hw : Below w6.heap.size w6 w') => HHA.out w' (B6.out.trans (hw.mono B6.out.size)))
              refine region_h (fun v => Below w6.heap.size w6 v) (by kernel_rfl) (by kernel_rfl) (Below.refl _ _).drew ?_
              obtain ⟨d0, hd0⟩ : ∃ wd, w6.drew = wd := ⟨_, rfl⟩
              have J0 : Hid (Below w6.heap.size w6 d0) := Lib.hid (by rw [← hd0]; exact (Below.refl _ _).drew)
              rw [hd0]
              clear hd0
              (refine h_read 0 rfl (by kernel_rfl) (by kernel_rfl) (h_free rfl) ?_ ?_ ?_; rotate_left; (focus (intro v hv; go_simp; rfl)); go_simp)
              (refine h_read 1 rfl (by kernel_rfl) (by kernel_rfl) (h_free rfl) ?_ ?_ ?_; rotate_left; (focus (intro v hv; go_simp; rfl)); go_simp)
              (refine h_read 2 rfl (by kernel_rfl) (by kernel_rfl) (h_free rfl) ?_ ?_ ?_; rotate_left; (focus (intro v hv; go_simp; rfl)); go_simp)
              (refine h_read 3 rfl (by kernel_rfl) (by kernel_rfl) ?_ ?_ ?_ ?_; (focus (go_simp; done)); rotate_left; (focus (intro v hv; go_simp; rfl)); go_simp)
              (refine h_read 5 rfl (by kernel_rfl) (by kernel_rfl) ?_ ?_ ?_ ?_; (focus (go_simp; done)); rotate_left; (focus (intro v hv; go_simp; rfl)); go_simp)
              (refine h_read 6 rfl (by kernel_rfl) (by kernel_rfl) ?_ ?_ ?_ ?_; (focus (go_simp; done)); rotate_left; (focus (intro v hv; have c0 := (hv.cell (p := ⟨wq.heap.size, 0, none⟩) R6.out.lt).trans R6.out.k4.1; go_simp; rfl)); go_simp)
              (refine h_call 4 rfl (by kernel_rfl) ?_ 20 ?_ ?_ ?_; (focus (go_simp; done)); rotate_left; (focus (go_simp; rfl)))
              refine (HSU.out _ J0.out).mono ?_
              rintro e d1 ⟨rfl, hb⟩
              refine ⟨_, rfl, J0.out.trans (hb.mono J0.out.size), ?_⟩
              have J1 := Lib.hid (J0.out.trans (hb.mono J0.out.size))
              clear hb
              go_simp
              (refine h_read 7 rfl (by kernel_rfl) (by kernel_rfl) ?_ ?_ ?_ ?_; (focus (go_simp; done)); rotate_left; (focus (intro v hv; go_simp; rfl)); go_simp)
              (refine h_read 8 rfl (by kernel_rfl) (by kernel_rfl) (h_free rfl) ?_ ?_ ?_; rotate_left; (focus (intro v hv; go_simp; rfl)); go_simp)
              (refine h_read 9 rfl (by kernel_rfl) (by kernel_rfl) (h_free rfl) ?_ ?_ ?_; rotate_left; (focus (intro v hv; go_simp; rfl)); go_simp)
              (refine h_read 10 rfl (by kernel_rfl) (by kernel_rfl) ?_ ?_ ?_ ?_; (focus (go_simp; done)); rotate_left; (focus (intro v hv; go_simp; rfl)); go_simp)
              (refine h_read 11 rfl (by kernel_rfl) (by kernel_rfl) ?_ ?_ ?_ ?_; (focus (go_simp; done)); rotate_left; (focus (intro v hv; go_simp; rfl)); go_simp)
              (refine h_read 12 rfl (by kernel_rfl) (by kernel_rfl) ?_ ?_ ?_ ?_; (focus (go_simp; done)); rotate_left; (focus (intro v hv; go_simp; rfl)); go_simp)
              (refine h_skip 13 rfl (by kernel_rfl) (by kernel_rfl) ?_ ?_; (focus (go_simp; first | done | (intro h; cases h) | simp)); go_simp)
              (refine h_skip 14 rfl (by kernel_rfl) (by kernel_rfl) ?_ ?_; (focus (go_simp; first | done | (intro h; cases h) | simp)); go_simp)
              (refine h_read 15 rfl (by kernel_rfl) (by kernel_rfl) ?_ ?_ ?_ ?_; (focus (go_simp; done)); rotate_left; (focus (intro v hv; go_simp; rfl)); go_simp)
              (refine h_read 16 rfl (by kernel_rfl) (by kernel_rfl) (h_free rfl) ?_ ?_ ?_; rotate_left; (focus (intro v hv; go_simp; rfl)); go_simp)
              (refine h_read 17 rfl (by kernel_rfl) (by kernel_rfl) (h_free rfl) ?_ ?_ ?_; rotate_left; (focus (intro v hv; go_simp; rfl)); go_simp)
              (refine h_read 18 rfl (by kernel_rfl) (by kernel_rfl) ?_ ?_ ?_ ?_; (focus (go_simp; done)); rotate_left; (focus (intro v hv; go_simp; rfl)); go_simp)
              (refine h_read 19 rfl (by kernel_rfl) (by kernel_rfl) ?_ ?_ ?_ ?_; (focus (go_simp; done)); rotate_left; (focus (intro v hv; go_simp; rfl)); go_simp)
              (refine h_read 20 rfl (by kernel_rfl) (by kernel_rfl) ?_ ?_ ?_ ?_; (focus (go_simp; done)); rotate_left; (focus (intro v hv; have c0 := (hv.cell (p := ⟨wq.heap.size, 0, none⟩) R6.out.lt).trans R6.out.k4.1; go_simp; rfl)); go_simp)
              (refine h_read 22 rfl (by kernel_rfl) (by kernel_rfl) ?_ ?_ ?_ ?_; (focus (go_simp; done)); rotate_left; (focus (intro v hv; go_simp; rfl)); go_simp)
              (refine h_read 23 rfl (by kernel_rfl) (by kernel_rfl) ?_ ?_ ?_ ?_; (focus (go_simp; done)); rotate_left; (focus (intro v hv; go_simp; rfl)); go_simp)
              (refine h_call 21 rfl (by kernel_rfl) ?_ 21 ?_ ?_ ?_; (focus (go_simp; done)); rotate_left; (focus (go_simp; rfl)))
              refine (HHA.out _ J1.out).mono ?_
              rintro e d2 ⟨rfl, hb⟩
              refine ⟨_, rfl, J1.out.trans (hb.mono J1.out.size), ?_⟩
              have J2 := Lib.hid (J1.out.trans (hb.mono J1.out.size))
              clear hb
              go_simp
              (refine h_read 24 rfl (by kernel_rfl) (by kernel_rfl) ?_ ?_ ?_ ?_; (focus (go_simp; done)); rotate_left; (focus (intro v hv; go_simp; rfl)); go_simp)
              (refine h_read 25 rfl (by kernel_rfl) (by kernel_rfl) (h_free rfl) ?_ ?_ ?_; rotate_left; (focus (intro v hv; go_simp; rfl)); go_simp)
              refine h_done (by kernel_rfl) ?_
              go_wp2_with fail
              go_roundw
              case rel => exact ⟨j + 1, by go_num, by omega, Lib.hid (HB8.out.trans ((B6.out.trans (J2.out.mono B6.out.size)).mono HB8.out.size))⟩
              case measure => simp [intOf]; omega
            · replace HHA : Hid (∀ w', Below wq.heap.size wq w' → Calls Tryz.prog 21 #[.pointer (some ⟨p, 0, none⟩), .string s] w' fun e w'' => e = .returned (.bool false) ∧ Below w'.heap.size w' w'') := HHA
              go_wp2_with (first
                | ((with_reducible refine load_cells (o := ⟨some 52, _, _, _, _, _⟩) rfl _ _ rfl b8 (o8 + j * 4) ?_ (fiC s (.slice fa fn fc) su (.slice ta tn tc)) _ XQ.out Tryz.underlying44 rfl ?_ ?_); (focus go_simp); (focus (exact SZF.out)))
                | ((with_reducible refine alloc_row (o := ⟨some 10, _, _, _, _, _⟩) rfl _ rfl _ FZ.out ?_); intro w4 hr4 hb4 hz4; have R4 := Lib.hid hr4; have B4 := Lib.hid hb4; clear hr4 hb4 hz4)
                | ((with_reducible refine store_row (o := ⟨none, _, _, _, _, _⟩) rfl _ (.tmp 10) _ rfl wq.heap.size (fiC s (.slice fa fn fc) su (.slice ta tn tc)) ?_ ?_ 44 _ R4.out ?_ ?_ (fi_one _ _ _ _ rfl rfl) ?_); (focus go_simp); (focus (first | (go_simp; done) | (go_simp; rfl))); (focus (exact SZF.out)); (focus rfl); intro w5 hr5 hu5; have c0 := hr5.k4.1; have R5 := Lib.hid hr5; have B5 := Lib.hid (B4.out.trans (hu5.below (Nat.le_refl _))); clear hr5 hu5)
                | (go_at_call 19; (with_reducible refine (HGT.out _ B5.out).mono ?_); rintro x w6 ⟨v, rfl, hf, hb⟩; obtain ⟨ga, gc, rfl, hrd⟩ := hf.form' gl HGL.out; have V6 := Lib.hid hrd; have R6 := Lib.hid (R5.out.below hb R5.out.lt); have B6 := Lib.hid (B5.out.trans (hb.mono B5.out.size)); clear hf hb hrd))
              clear c0
              replace HHA := Lib.hid (fun w' (hw : Below w6.heap.size w6 w') => HHA.out w' (B6.out.trans (hw.mono B6.out.size)))
              refine region_h (fun v => Below w6.heap.size w6 v) (by kernel_rfl) (by kernel_rfl) (Below.refl _ _).drew ?_
              obtain ⟨d0, hd0⟩ : ∃ wd, w6.drew = wd := ⟨_, rfl⟩
              have J0 : Hid (Below w6.heap.size w6 d0) := Lib.hid (by rw [← hd0]; exact (Below.refl _ _).drew)
              rw [hd0]
              clear hd0
              (refine h_read 0 rfl (by kernel_rfl) (by kernel_rfl) (h_free rfl) ?_ ?_ ?_; rotate_left; (focus (intro v hv; go_simp; rfl)); go_simp)
              (refine h_read 1 rfl (by kernel_rfl) (by kernel_rfl) (h_free rfl) ?_ ?_ ?_; rotate_left; (focus (intro v hv; go_simp; rfl)); go_simp)
              (refine h_read 2 rfl (by kernel_rfl) (by kernel_rfl) (h_free rfl) ?_ ?_ ?_; rotate_left; (focus (intro v hv; go_simp; rfl)); go_simp)
              (refine h_skip 3 rfl (by kernel_rfl) (by kernel_rfl) ?_ ?_; (focus (go_simp; first | done | (intro h; cases h) | simp)); go_simp)
              (refine h_skip 4 rfl (by kernel_rfl) (by kernel_rfl) ?_ ?_; (focus (go_simp; first | done | (intro h; cases h) | simp)); go_simp)
              (refine h_skip 5 rfl (by kernel_rfl) (by kernel_rfl) ?_ ?_; (focus (go_simp; first | done | (intro h; cases h) | simp)); go_simp)
              (refine h_skip 6 rfl (by kernel_rfl) (by kernel_rfl) ?_ ?_; (focus (go_simp; first | done | (intro h; cases h) | simp)); go_simp)
              (refine h_skip 7 rfl (by kernel_rfl) (by kernel_rfl) ?_ ?_; (focus (go_simp; first | done | (intro h; cases h) | simp)); go_simp)
              (refine h_read 8 rfl (by kernel_rfl) (by kernel_rfl) (h_free rfl) ?_ ?_ ?_; rotate_left; (focus (intro v hv; go_simp; rfl)); go_simp)
              (refine h_read 9 rfl (by kernel_rfl) (by kernel_rfl) (h_free rfl) ?_ ?_ ?_; rotate_left; (focus (intro v hv; go_simp; rfl)); go_simp)
              (refine h_read 10 rfl (by kernel_rfl) (by kernel_rfl) ?_ ?_ ?_ ?_; (focus (go_simp; done)); rotate_left; (focus (intro v hv; go_simp; rfl)); go_simp)
              (refine h_read 11 rfl (by kernel_rfl) (by kernel_rfl) ?_ ?_ ?_ ?_; (focus (go_simp; done)); rotate_left; (focus (intro v hv; go_simp; rfl)); go_simp)
              (refine h_read 12 rfl (by kernel_rfl) (by kernel_rfl) ?_ ?_ ?_ ?_; (focus (go_simp; done)); rotate_left; (focus (intro v hv; go_simp; rfl)); go_simp)
              (refine h_read 13 rfl (by kernel_rfl) (by kernel_rfl) ?_ ?_ ?_ ?_; (focus (go_simp; done)); rotate_left; (focus (intro v hv; go_simp; rfl)); go_simp)
              (refine h_read 14 rfl (by kernel_rfl) (by kernel_rfl) ?_ ?_ ?_ ?_; (focus (go_simp; done)); rotate_left; (focus (intro v hv; go_simp; rfl)); go_simp)
              (refine h_read 15 rfl (by kernel_rfl) (by kernel_rfl) ?_ ?_ ?_ ?_; (focus (go_simp; done)); rotate_left; (focus (intro v hv; go_simp; rfl)); go_simp)
              (refine h_read 16 rfl (by kernel_rfl) (by kernel_rfl) (h_free rfl) ?_ ?_ ?_; rotate_left; (focus (intro v hv; go_simp; rfl)); go_simp)
              (refine h_read 17 rfl (by kernel_rfl) (by kernel_rfl) (h_free rfl) ?_ ?_ ?_; rotate_left; (focus (intro v hv; go_simp; rfl)); go_simp)
              (refine h_read 18 rfl (by kernel_rfl) (by kernel_rfl) ?_ ?_ ?_ ?_; (focus (go_simp; done)); rotate_left; (focus (intro v hv; go_simp; rfl)); go_simp)
              (refine h_read 19 rfl (by kernel_rfl) (by kernel_rfl) ?_ ?_ ?_ ?_; (focus (go_simp; done)); rotate_left; (focus (intro v hv; go_simp; rfl)); go_simp)
              (refine h_read 20 rfl (by kernel_rfl) (by kernel_rfl) ?_ ?_ ?_ ?_; (focus (go_simp; done)); rotate_left; (focus (intro v hv; have c0 := (hv.cell (p := ⟨wq.heap.size, 0, none⟩) R6.out.lt).trans R6.out.k4.1; go_simp; rfl)); go_simp)
              (refine h_read 22 rfl (by kernel_rfl) (by kernel_rfl) ?_ ?_ ?_ ?_; (focus (go_simp; done)); rotate_left; (focus (intro v hv; go_simp; rfl)); go_simp)
              (refine h_read 23 rfl (by kernel_rfl) (by kernel_rfl) ?_ ?_ ?_ ?_; (focus (go_simp; done)); rotate_left; (focus (intro v hv; go_simp; rfl)); go_simp)
              (refine h_call 21 rfl (by kernel_rfl) ?_ 21 ?_ ?_ ?_; (focus (go_simp; done)); rotate_left; (focus (go_simp; rfl)))
              refine (HHA.out _ J0.out).mono ?_
              rintro e d2 ⟨rfl, hb⟩
              refine ⟨_, rfl, J0.out.trans (hb.mono J0.out.size), ?_⟩
              have J2 := Lib.hid (J0.out.trans (hb.mono J0.out.size))
              clear hb
              go_simp
              (refine h_read 24 rfl (by kernel_rfl) (by kernel_rfl) ?_ ?_ ?_ ?_; (focus (go_simp; done)); rotate_left; (focus (intro v hv; go_simp; rfl)); go_simp)
              (refine h_read 25 rfl (by kernel_rfl) (by kernel_rfl) (h_free rfl) ?_ ?_ ?_; rotate_left; (focus (intro v hv; go_simp; rfl)); go_simp)
              refine h_done (by kernel_rfl) ?_
              go_wp2_with fail
              go_roundw
              case rel => exact ⟨j + 1, by go_num, by omega, Lib.hid (HB8.out.trans ((B6.out.trans (J2.out.mono B6.out.size)).mono HB8.out.size))⟩
              case measure => simp [intOf]; omega
          · obtain rfl : j = n8 := by omega
            go_wp2_with fail
            go_roundw
            case rel => exact ⟨k + 1, L', S', T', by go_num, by omega, by omega, Lib.hid (P7.out.mono (D8.out.trans (HB8.out.mono D8.out.size))), HST, Lib.hid (B7.out.trans ((D8.out.trans (HB8.out.mono D8.out.size)).mono Z7.out))⟩
            case measure => simp [intOf]; omega
    · obtain rfl : k = n := by omega
      go_wp2_with (go_at_call 18; (with_reducible refine (HA.out _ (by rw [HBASE.out]; exact HB.out)).mono ?_); rintro x wb ⟨rfl, hb⟩; have Bb := Lib.hid (HB.out.trans (hb.mono ZB.out)); clear hb)
      go_ret
      exact ⟨rfl, by rw [HBASE.out]; exact Bb.out⟩
end Go.Proofs.YtkfhppbmnjmnoaaGreatDoor.W
