/- LAYER 19 (ledger): the law Once. -/
import Derived.Test.YtiopcojkdglapaaLdL
set_option linter.unusedSimpArgs false
set_option linter.unusedVariables false
namespace Go.Proofs.Ytiopcojkdglapaa.W
open Go Go.ChangeShapes Go.WideShapes Go.ChangeAt Go.RowKit
open Go.Proofs.Ytiopcojkdglapaa.P (enc dec)
open Go.Proofs.Ytiopcojkdglapaa.S

set_option maxRecDepth 100000 in
set_option maxHeartbeats 16000000 in
theorem law_LedgerOnce (x : LdX) (k : Do19) (w : World) (h : LdI w x.val x.l) (hk : k.fit) :
    Calls Try.prog 7 #[x.val, .agg k.cells.toArray] w fun e w' => e = .returned (.bool true) ∧ Below w.heap.size w w' := by
  obtain ⟨⟨q, u, h', nx, L⟩, a, n, c⟩ := x
  obtain ⟨⟨a0, n0, c0, e0, hl⟩, i1, i2, i3, i4⟩ := h
  dsimp only at e0 hl i1 i2 i3 i4 ⊢
  obtain ⟨rfl, rfl, rfl⟩ : a = a0 ∧ n = n0 ∧ c = c0 := by
    injection e0 with e0
    have := congrArg (fun z : Array Value => z.toList[4]?) e0
    simpa using this
  clear e0
  have H := Lib.hid hl
  have HL := Lib.hid hl.hlen
  have HK := Lib.hid hk
  have LV := Lib.hid (fun w' (hb : Below w.heap.size w w') => (show LdV w' (.agg (ldC q u h' nx a n c).toArray) ⟨q, u, h', nx, L⟩ from ⟨a, n, c, rfl, hl.mono hdOk hb⟩))
  have HFEW := Lib.hid (fun w' (hb : Below w.heap.size w w') => few19 _ ⟨q, u, h', nx, L⟩ w' (LV.out w' hb))
  have HPC := Lib.hid (fun w' (hb : Below w.heap.size w w') => pcheck _ ⟨q, u, h', nx, L⟩ w' ⟨LV.out w' hb, i1, i2, i3, i4⟩)
  have HYC := Lib.hid (fun w' (hb : Below w.heap.size w w') => ycheck q u h' nx a n c L w' (hl.mono hdOk hb) i1 i2 i3 i4)
  have LZS := Lib.hid ld_size
  have LZ := Lib.hid ld_zero
  have DSZ := Lib.hid do_size
  have HSZ := Lib.hid hd_size
  have MZ := Lib.hid hd_zero
  obtain ⟨op, id, nn, i1, i2, i3, i4, i5, sp⟩ := k
  obtain ⟨f, hf⟩ : ∃ f, decide (L.length ≤ 30) = f := ⟨_, rfl⟩
  have HFV := Lib.hid hf
  dsimp only at HFEW
  rw [hf] at HFEW
  cases f
  · clear hf hl hk
    go_enter Try.func7, Try.ntmps7
    go_wp2_with (first
      | ((with_reducible refine box_row (o := ⟨some 2, _, _, _, _, _⟩) rfl _ _ rfl (ldC q u h' nx a n c) rfl ?_); intro w1 hr hb hz; have R1 := Lib.hid hr; have B1 := Lib.hid hb; clear hr hb hz)
      | ((with_reducible refine box_row (o := ⟨some 3, _, _, _, _, _⟩) rfl _ _ rfl (Do19.cells ⟨op, id, nn, ⟨i1, i2, i3, i4, i5, sp⟩⟩) rfl ?_); intro w2 hr hb hz; have D2 := Lib.hid hr; have R2 := Lib.hid (R1.out.below hb R1.out.lt); have B2 := Lib.hid (B1.out.trans (hb.mono B1.out.size)); clear hr hb hz))
    refine region_h (fun v => Below w2.heap.size w2 v) (by kernel_rfl) (by kernel_rfl) (Below.refl _ _).drew ?_
    obtain ⟨wd, hwd⟩ : ∃ wd, w2.drew = wd := ⟨_, rfl⟩
    have J := Lib.hid (show Below w2.heap.size w2 wd by rw [← hwd]; exact (Below.refl _ _).drew)
    rw [hwd]
    clear hwd
    (refine h_read 0 rfl (by kernel_rfl) (by kernel_rfl) (h_free rfl) ?_ ?_ ?_; rotate_left; (focus (intro v hv; refine run_cells 50 (.tmp 2) ?_ w.heap.size 0 ?_ (ldC q u h' nx a n c) _ (fun j' u' hj => by rw [hv.cell (p := ⟨w.heap.size, 0 + j', none⟩) R2.out.lt, Nat.zero_add, R2.out.cellV]; exact hj) Try.underlying50 rfl ld_size; (focus rfl); go_simp)); go_simp)
    (refine h_call 1 rfl (by kernel_rfl) (h_free rfl) 40 ?_ ?_ ?_; rotate_left; (focus (go_simp; rfl)))
    refine (HFEW.out wd (B2.out.trans (J.out.mono B2.out.size))).mono ?_
    rintro x wk ⟨rfl, hb⟩
    have JY := J
    clear J
    have J := Lib.hid (JY.out.trans (hb.mono JY.out.size))
    clear hb JY
    refine ⟨_, rfl, J.out, ?_⟩
    go_simp
    (refine h_read 2 rfl (by kernel_rfl) (by kernel_rfl) (h_free rfl) ?_ ?_ ?_; rotate_left; (focus (intro v hv; go_simp; rfl)); go_simp)
    (refine h_read 3 rfl (by kernel_rfl) (by kernel_rfl) (h_free rfl) ?_ ?_ ?_; rotate_left; (focus (intro v hv; go_simp; rfl)); go_simp)
    (refine h_skip 4 rfl (by kernel_rfl) (by kernel_rfl) ?_ ?_; (focus (go_simp; first | done | (intro h; cases h) | simp)); go_simp)
    (refine h_skip 5 rfl (by kernel_rfl) (by kernel_rfl) ?_ ?_; (focus (go_simp; first | done | (intro h; cases h) | simp)); go_simp)
    (refine h_skip 6 rfl (by kernel_rfl) (by kernel_rfl) ?_ ?_; (focus (go_simp; first | done | (intro h; cases h) | simp)); go_simp)
    (refine h_skip 7 rfl (by kernel_rfl) (by kernel_rfl) ?_ ?_; (focus (go_simp; first | done | (intro h; cases h) | simp)); go_simp)
    (refine h_skip 8 rfl (by kernel_rfl) (by kernel_rfl) ?_ ?_; (focus (go_simp; first | done | (intro h; cases h) | simp)); go_simp)
    (refine h_read 9 rfl (by kernel_rfl) (by kernel_rfl) (h_free rfl) ?_ ?_ ?_; rotate_left; (focus (intro v hv; go_simp; rfl)); go_simp)
    refine h_done (by kernel_rfl) ?_
    have RZ := Lib.hid (R2.out.below J.out R2.out.lt)
    have DZ := Lib.hid (D2.out.below J.out D2.out.lt)
    have BZ := Lib.hid (B2.out.trans (J.out.mono B2.out.size))
    go_wp2_with (first
      | ((with_reducible refine load_row (o := ⟨some 23, _, _, _, _, _⟩) rfl _ _ rfl w.heap.size ?_ _ (ldC q u h' nx a n c) _ RZ.out Try.underlying50 rfl ?_ ?_); (focus go_simp); (focus (exact LZS.out)))
      | (go_at_call 40; (with_reducible refine (HFEW.out _ BZ.out).mono ?_); rintro x wk ⟨rfl, hb⟩; have RY := RZ; have DY := DZ; have BY := BZ; clear RZ DZ BZ; have RZ := Lib.hid (RY.out.below hb RY.out.lt); have DZ := Lib.hid (DY.out.below hb DY.out.lt); have BZ := Lib.hid (BY.out.trans (hb.mono BY.out.size)); clear RY DY BY; clear hb)
      | (go_at_call 43; (with_reducible refine (awake19 ldp _).mono ?_); rintro x wk ⟨rfl, hb⟩; have RY := RZ; have DY := DZ; have BY := BZ; clear RZ DZ BZ; have RZ := Lib.hid (RY.out.below hb RY.out.lt); have DZ := Lib.hid (DY.out.below hb DY.out.lt); have BZ := Lib.hid (BY.out.trans (hb.mono BY.out.size)); clear RY DY BY; clear hb))
    go_ret
    exact ⟨one (vbool (by simp)), BZ.out⟩
  have hn30 : n ≤ 30 := by have := of_decide_eq_true hf; rw [HL.out] at this; exact this
  obtain ⟨V, hV⟩ : ∃ V, Ld.ok ⟨q, u, h', nx, L⟩ = V := ⟨_, rfl⟩
  rw [hV] at HPC HYC
  cases V
  · clear hf hl hk hV
    go_enter Try.func7, Try.ntmps7
    go_wp2_with (first
      | ((with_reducible refine box_row (o := ⟨some 2, _, _, _, _, _⟩) rfl _ _ rfl (ldC q u h' nx a n c) rfl ?_); intro w1 hr hb hz; have R1 := Lib.hid hr; have B1 := Lib.hid hb; clear hr hb hz)
      | ((with_reducible refine box_row (o := ⟨some 3, _, _, _, _, _⟩) rfl _ _ rfl (Do19.cells ⟨op, id, nn, ⟨i1, i2, i3, i4, i5, sp⟩⟩) rfl ?_); intro w2 hr hb hz; have D2 := Lib.hid hr; have R2 := Lib.hid (R1.out.below hb R1.out.lt); have B2 := Lib.hid (B1.out.trans (hb.mono B1.out.size)); clear hr hb hz))
    refine region_h (fun v => Below w2.heap.size w2 v) (by kernel_rfl) (by kernel_rfl) (Below.refl _ _).drew ?_
    obtain ⟨wd, hwd⟩ : ∃ wd, w2.drew = wd := ⟨_, rfl⟩
    have J := Lib.hid (show Below w2.heap.size w2 wd by rw [← hwd]; exact (Below.refl _ _).drew)
    rw [hwd]
    clear hwd
    (refine h_read 0 rfl (by kernel_rfl) (by kernel_rfl) (h_free rfl) ?_ ?_ ?_; rotate_left; (focus (intro v hv; refine run_cells 50 (.tmp 2) ?_ w.heap.size 0 ?_ (ldC q u h' nx a n c) _ (fun j' u' hj => by rw [hv.cell (p := ⟨w.heap.size, 0 + j', none⟩) R2.out.lt, Nat.zero_add, R2.out.cellV]; exact hj) Try.underlying50 rfl ld_size; (focus rfl); go_simp)); go_simp)
    (refine h_call 1 rfl (by kernel_rfl) (h_free rfl) 40 ?_ ?_ ?_; rotate_left; (focus (go_simp; rfl)))
    refine (HFEW.out wd (B2.out.trans (J.out.mono B2.out.size))).mono ?_
    rintro x wk ⟨rfl, hb⟩
    have JY := J
    clear J
    have J := Lib.hid (JY.out.trans (hb.mono JY.out.size))
    clear hb JY
    refine ⟨_, rfl, J.out, ?_⟩
    go_simp
    (refine h_read 2 rfl (by kernel_rfl) (by kernel_rfl) (h_free rfl) ?_ ?_ ?_; rotate_left; (focus (intro v hv; go_simp; rfl)); go_simp)
    (refine h_read 3 rfl (by kernel_rfl) (by kernel_rfl) (h_free rfl) ?_ ?_ ?_; rotate_left; (focus (intro v hv; go_simp; rfl)); go_simp)
    (refine h_read 4 rfl (by kernel_rfl) (by kernel_rfl) ?_ ?_ ?_ ?_; (focus (go_simp; done)); rotate_left; (focus (intro v hv; refine run_cells 50 (.tmp 2) ?_ w.heap.size 0 ?_ (ldC q u h' nx a n c) _ (fun j' u' hj => by rw [hv.cell (p := ⟨w.heap.size, 0 + j', none⟩) R2.out.lt, Nat.zero_add, R2.out.cellV]; exact hj) Try.underlying50 rfl ld_size; (focus rfl); go_simp)); go_simp)
    (refine h_read 6 rfl (by kernel_rfl) (by kernel_rfl) ?_ ?_ ?_ ?_; (focus (go_simp; done)); rotate_left; (focus (intro v hv; refine run_cells 50 (.tmp 2) ?_ w.heap.size 0 ?_ (ldC q u h' nx a n c) _ (fun j' u' hj => by rw [hv.cell (p := ⟨w.heap.size, 0 + j', none⟩) R2.out.lt, Nat.zero_add, R2.out.cellV]; exact hj) Try.underlying50 rfl ld_size; (focus rfl); go_simp)); go_simp)
    (refine h_call 5 rfl (by kernel_rfl) ?_ 41 ?_ ?_ ?_; (focus (go_simp; done)); rotate_left; (focus (go_simp; rfl)))
    refine (HPC.out wk (B2.out.trans (J.out.mono B2.out.size))).mono ?_
    rintro x wk ⟨rfl, hb⟩
    have JY := J
    clear J
    have J := Lib.hid (JY.out.trans (hb.mono JY.out.size))
    clear hb JY
    refine ⟨_, rfl, J.out, ?_⟩
    go_simp
    (refine h_call 7 rfl (by kernel_rfl) ?_ 42 ?_ ?_ ?_; (focus (go_simp; done)); rotate_left; (focus (go_simp; rfl)))
    refine (HYC.out wk (B2.out.trans (J.out.mono B2.out.size))).mono ?_
    rintro x wk ⟨rfl, hb⟩
    have JY := J
    clear J
    have J := Lib.hid (JY.out.trans (hb.mono JY.out.size))
    clear hb JY
    refine ⟨_, rfl, J.out, ?_⟩
    go_simp
    (refine h_read 8 rfl (by kernel_rfl) (by kernel_rfl) ?_ ?_ ?_ ?_; (focus (go_simp; done)); rotate_left; (focus (intro v hv; go_simp; rfl)); go_simp)
    (refine h_read 9 rfl (by kernel_rfl) (by kernel_rfl) (h_free rfl) ?_ ?_ ?_; rotate_left; (focus (intro v hv; go_simp; rfl)); go_simp)
    refine h_done (by kernel_rfl) ?_
    have RZ := Lib.hid (R2.out.below J.out R2.out.lt)
    have DZ := Lib.hid (D2.out.below J.out D2.out.lt)
    have BZ := Lib.hid (B2.out.trans (J.out.mono B2.out.size))
    go_wp2_with (first
      | ((with_reducible refine load_row (o := ⟨some 29, _, _, _, _, _⟩) rfl _ _ rfl w.heap.size ?_ _ (ldC q u h' nx a n c) _ RZ.out Try.underlying50 rfl ?_ ?_); (focus go_simp); (focus (exact LZS.out)))
      | (go_at_call 42; (with_reducible refine (HYC.out _ BZ.out).mono ?_); rintro x wk ⟨rfl, hb⟩; have RY := RZ; have DY := DZ; have BY := BZ; clear RZ DZ BZ; have RZ := Lib.hid (RY.out.below hb RY.out.lt); have DZ := Lib.hid (DY.out.below hb DY.out.lt); have BZ := Lib.hid (BY.out.trans (hb.mono BY.out.size)); clear RY DY BY; clear hb)
      | (go_at_call 43; (with_reducible refine (awake19 ldp _).mono ?_); rintro x wk ⟨rfl, hb⟩; have RY := RZ; have DY := DZ; have BY := BZ; clear RZ DZ BZ; have RZ := Lib.hid (RY.out.below hb RY.out.lt); have DZ := Lib.hid (DY.out.below hb DY.out.lt); have BZ := Lib.hid (BY.out.trans (hb.mono BY.out.size)); clear RY DY BY; clear hb))
    go_ret
    exact ⟨one (vbool (by simp)), BZ.out⟩
  · have HOK := Lib.hid (ok_ld.1 hV)
    have HCL := Lib.hid (fun w' (hb : Below w.heap.size w w') => hdclone a n c L w' (hl.mono hdOk hb) (by omega))
    have HDO := Lib.hid (fun w' (hb : Below w.heap.size w w') => do_any19 ldp _ _ ⟨q, u, h', nx, L⟩ ⟨op, id, nn, i1, i2, i3, i4, i5, sp⟩ w' (LV.out w' hb) (LV.out w' hb) HOK.out HK.out)
    have HPF := Lib.hid (fun w' (hb : Below w.heap.size w w') => pfind _ ⟨q, u, h', nx, L⟩ id w' (LV.out w' hb))
    have HYF := Lib.hid (fun w' (hb : Below w.heap.size w w') => yfind q u h' nx a n c L id w' (hl.mono hdOk hb))
    have HF := Lib.hid (show ∀ x ∈ L, x.fit from hl.hfit)
    obtain ⟨lo, hlo⟩ : ∃ m, Do19.on ⟨op, id, nn, i1, i2, i3, i4, i5, sp⟩ ⟨q, u, h', nx, L⟩ = m := ⟨_, rfl⟩
    obtain ⟨fh, fb, hfb⟩ : ∃ d v, findH L id = (d, v) := ⟨_, _, rfl⟩
    dsimp only at HPF HYF
    rw [hlo] at HDO
    rw [hfb] at HPF HYF
    dsimp only at HPF HYF
    clear hf hl hk hV hlo hfb
    go_enter Try.func7, Try.ntmps7
    go_wp2_with (first
      | ((with_reducible refine box_row (o := ⟨some 2, _, _, _, _, _⟩) rfl _ _ rfl (ldC q u h' nx a n c) rfl ?_); intro w1 hr hb hz; have R1 := Lib.hid hr; have B1 := Lib.hid hb; clear hr hb hz)
      | ((with_reducible refine box_row (o := ⟨some 3, _, _, _, _, _⟩) rfl _ _ rfl (Do19.cells ⟨op, id, nn, ⟨i1, i2, i3, i4, i5, sp⟩⟩) rfl ?_); intro w2 hr hb hz; have D2 := Lib.hid hr; have R2 := Lib.hid (R1.out.below hb R1.out.lt); have B2 := Lib.hid (B1.out.trans (hb.mono B1.out.size)); clear hr hb hz))
    refine region_h (fun v => Below w2.heap.size w2 v) (by kernel_rfl) (by kernel_rfl) (Below.refl _ _).drew ?_
    obtain ⟨wd, hwd⟩ : ∃ wd, w2.drew = wd := ⟨_, rfl⟩
    have J := Lib.hid (show Below w2.heap.size w2 wd by rw [← hwd]; exact (Below.refl _ _).drew)
    rw [hwd]
    clear hwd
    (refine h_read 0 rfl (by kernel_rfl) (by kernel_rfl) (h_free rfl) ?_ ?_ ?_; rotate_left; (focus (intro v hv; refine run_cells 50 (.tmp 2) ?_ w.heap.size 0 ?_ (ldC q u h' nx a n c) _ (fun j' u' hj => by rw [hv.cell (p := ⟨w.heap.size, 0 + j', none⟩) R2.out.lt, Nat.zero_add, R2.out.cellV]; exact hj) Try.underlying50 rfl ld_size; (focus rfl); go_simp)); go_simp)
    (refine h_call 1 rfl (by kernel_rfl) (h_free rfl) 40 ?_ ?_ ?_; rotate_left; (focus (go_simp; rfl)))
    refine (HFEW.out wd (B2.out.trans (J.out.mono B2.out.size))).mono ?_
    rintro x wk ⟨rfl, hb⟩
    have JY := J
    clear J
    have J := Lib.hid (JY.out.trans (hb.mono JY.out.size))
    clear hb JY
    refine ⟨_, rfl, J.out, ?_⟩
    go_simp
    (refine h_read 2 rfl (by kernel_rfl) (by kernel_rfl) (h_free rfl) ?_ ?_ ?_; rotate_left; (focus (intro v hv; go_simp; rfl)); go_simp)
    (refine h_read 3 rfl (by kernel_rfl) (by kernel_rfl) (h_free rfl) ?_ ?_ ?_; rotate_left; (focus (intro v hv; go_simp; rfl)); go_simp)
    (refine h_read 4 rfl (by kernel_rfl) (by kernel_rfl) ?_ ?_ ?_ ?_; (focus (go_simp; done)); rotate_left; (focus (intro v hv; refine run_cells 50 (.tmp 2) ?_ w.heap.size 0 ?_ (ldC q u h' nx a n c) _ (fun j' u' hj => by rw [hv.cell (p := ⟨w.heap.size, 0 + j', none⟩) R2.out.lt, Nat.zero_add, R2.out.cellV]; exact hj) Try.underlying50 rfl ld_size; (focus rfl); go_simp)); go_simp)
    (refine h_read 6 rfl (by kernel_rfl) (by kernel_rfl) ?_ ?_ ?_ ?_; (focus (go_simp; done)); rotate_left; (focus (intro v hv; refine run_cells 50 (.tmp 2) ?_ w.heap.size 0 ?_ (ldC q u h' nx a n c) _ (fun j' u' hj => by rw [hv.cell (p := ⟨w.heap.size, 0 + j', none⟩) R2.out.lt, Nat.zero_add, R2.out.cellV]; exact hj) Try.underlying50 rfl ld_size; (focus rfl); go_simp)); go_simp)
    (refine h_call 5 rfl (by kernel_rfl) ?_ 41 ?_ ?_ ?_; (focus (go_simp; done)); rotate_left; (focus (go_simp; rfl)))
    refine (HPC.out wk (B2.out.trans (J.out.mono B2.out.size))).mono ?_
    rintro x wk ⟨rfl, hb⟩
    have JY := J
    clear J
    have J := Lib.hid (JY.out.trans (hb.mono JY.out.size))
    clear hb JY
    refine ⟨_, rfl, J.out, ?_⟩
    go_simp
    (refine h_call 7 rfl (by kernel_rfl) ?_ 42 ?_ ?_ ?_; (focus (go_simp; done)); rotate_left; (focus (go_simp; rfl)))
    refine (HYC.out wk (B2.out.trans (J.out.mono B2.out.size))).mono ?_
    rintro x wk ⟨rfl, hb⟩
    have JY := J
    clear J
    have J := Lib.hid (JY.out.trans (hb.mono JY.out.size))
    clear hb JY
    refine ⟨_, rfl, J.out, ?_⟩
    go_simp
    (refine h_read 8 rfl (by kernel_rfl) (by kernel_rfl) ?_ ?_ ?_ ?_; (focus (go_simp; done)); rotate_left; (focus (intro v hv; go_simp; rfl)); go_simp)
    (refine h_read 9 rfl (by kernel_rfl) (by kernel_rfl) (h_free rfl) ?_ ?_ ?_; rotate_left; (focus (intro v hv; go_simp; rfl)); go_simp)
    refine h_done (by kernel_rfl) ?_
    have RZ := Lib.hid (R2.out.below J.out R2.out.lt)
    have DZ := Lib.hid (D2.out.below J.out D2.out.lt)
    have BZ := Lib.hid (B2.out.trans (J.out.mono B2.out.size))
    go_wp2_with (first
      | ((with_reducible refine load_row (o := ⟨some 29, _, _, _, _, _⟩) rfl _ _ rfl w.heap.size ?_ _ (ldC q u h' nx a n c) _ RZ.out Try.underlying50 rfl ?_ ?_); (focus go_simp); (focus (exact LZS.out)))
      | (go_at_call 42; (with_reducible refine (HYC.out _ BZ.out).mono ?_); rintro x wc ⟨rfl, hb⟩; have RY := RZ; have DY := DZ; have BY := BZ; clear RZ DZ BZ; have RZ := Lib.hid (RY.out.below hb RY.out.lt); have DZ := Lib.hid (DY.out.below hb DY.out.lt); have BZ := Lib.hid (BY.out.trans (hb.mono BY.out.size)); clear RY DY BY; obtain ⟨c0, c1, c2, c3, c4⟩ := RZ.out.l5; clear c0 c1 c2 c3 hb)
      | (go_at_call 44; (with_reducible refine (HCL.out _ BZ.out).mono ?_); rintro x w5 ⟨a5, c5, rfl, hown, hb⟩; have RY := RZ; have DY := DZ; have BY := BZ; clear RZ DZ BZ; have RZ := Lib.hid (RY.out.below hb RY.out.lt); have DZ := Lib.hid (DY.out.below hb DY.out.lt); have BZ := Lib.hid (BY.out.trans (hb.mono BY.out.size)); clear RY DY BY; have O5 := Lib.hid (show Ls hdE w5 a5 n c5 L from hd_out hown HL.out HF.out); have BO := Lib.hid (Below.refl w5.heap.size w5); clear hown hb c4)
      | ((with_reducible refine load_row (o := ⟨some 37, _, _, _, _, _⟩) rfl _ _ rfl w.heap.size ?_ _ (ldC q u h' nx a n c) _ RZ.out Try.underlying50 rfl ?_ ?_); (focus go_simp); (focus (exact LZS.out)))
      | ((with_reducible refine load_row (o := ⟨some 38, _, _, _, _, _⟩) rfl _ _ rfl w.heap.size ?_ _ (ldC q u h' nx a n c) _ RZ.out Try.underlying50 rfl ?_ ?_); (focus go_simp); (focus (exact LZS.out)))
      | ((with_reducible refine load_row (o := ⟨some 39, _, _, _, _, _⟩) rfl _ _ rfl w1.heap.size ?_ _ (Do19.cells ⟨op, id, nn, ⟨i1, i2, i3, i4, i5, sp⟩⟩) _ DZ.out Try.underlying54 rfl ?_ ?_); (focus go_simp); (focus (exact DSZ.out)))
      | (go_at_call 45; (with_reducible refine (HDO.out _ BZ.out).mono ?_); rintro x w6 ⟨v6, x6, rfl, ⟨a6, n6, c6, rfl, -⟩, ⟨a7, n7, c7, rfl, -⟩, hb⟩; have BP := BO; clear BO; have BO := Lib.hid (BP.out.trans (hb.mono BP.out.size)); clear BP; have RY := RZ; have DY := DZ; have BY := BZ; clear RZ DZ BZ; have RZ := Lib.hid (RY.out.below hb RY.out.lt); have DZ := Lib.hid (DY.out.below hb DY.out.lt); have BZ := Lib.hid (BY.out.trans (hb.mono BY.out.size)); clear RY DY BY; clear hb)
      | ((with_reducible refine alloc_row (o := ⟨some 6, _, _, _, _, _⟩) rfl _ rfl _ LZ.out ?_); intro w7 hr hb hz; have T6 := Lib.hid hr; have l1 := Lib.hid (And.intro RZ.out.lt (And.intro DZ.out.lt BZ.out.size)); have m1 := Lib.hid BO.out.size; have BP := BO; clear BO; have BO := Lib.hid (BP.out.trans (hb.mono BP.out.size)); clear BP; have RY := RZ; have DY := DZ; have BY := BZ; clear RZ DZ BZ; have RZ := Lib.hid (RY.out.below hb RY.out.lt); have DZ := Lib.hid (DY.out.below hb DY.out.lt); have BZ := Lib.hid (BY.out.trans (hb.mono BY.out.size)); clear RY DY BY; clear hr hb hz)
      | ((with_reducible refine alloc_row (o := ⟨some 7, _, _, _, _, _⟩) rfl _ rfl _ LZ.out ?_); intro w8 hr hb hz; have T7 := Lib.hid hr; have T6b := Lib.hid (T6.out.below hb T6.out.lt); have l2 := Lib.hid (And.intro RZ.out.lt (And.intro DZ.out.lt BZ.out.size)); have n67 := Lib.hid T6.out.lt; have m2 := Lib.hid BO.out.size; have BP := BO; clear BO; have BO := Lib.hid (BP.out.trans (hb.mono BP.out.size)); clear BP; have RY := RZ; have DY := DZ; have BY := BZ; clear RZ DZ BZ; have RZ := Lib.hid (RY.out.below hb RY.out.lt); have DZ := Lib.hid (DY.out.below hb DY.out.lt); have BZ := Lib.hid (BY.out.trans (hb.mono BY.out.size)); clear RY DY BY; clear hr hb hz)
      | ((with_reducible refine store_row (o := ⟨none, _, _, _, _, _⟩) rfl _ (.tmp 6) _ rfl w6.heap.size (ldC lo.q lo.u lo.h lo.n a6 n6 c6) ?_ ?_ 50 _ T6b.out ?_ ?_ ?_ ?_); (focus go_simp); (focus (first | (go_simp; done) | (go_simp; rfl))); (focus (exact LZS.out)); (focus rfl); (focus (exact ld_one _ _ _ _ _ _ _)); intro w9 hr hu; have T7b := Lib.hid (T7.out.upd hu (Nat.ne_of_gt n67.out)); have BP := BO; clear BO; have BO := Lib.hid (BP.out.trans (hu.below m1.out)); clear BP; have RY := RZ; have DY := DZ; have BY := BZ; clear RZ DZ BZ; have RZ := Lib.hid (RY.out.upd hu (Nat.ne_of_lt l1.out.1)); have DZ := Lib.hid (DY.out.upd hu (Nat.ne_of_lt l1.out.2.1)); have BZ := Lib.hid (BY.out.trans (hu.below l1.out.2.2)); clear RY DY BY; clear hr hu)
      | ((with_reducible refine store_row (o := ⟨none, _, _, _, _, _⟩) rfl _ (.tmp 7) _ rfl w7.heap.size (ldC lo.q lo.u lo.h lo.n a7 n7 c7) ?_ ?_ 50 _ T7b.out ?_ ?_ ?_ ?_); (focus go_simp); (focus (first | (go_simp; done) | (go_simp; rfl))); (focus (exact LZS.out)); (focus rfl); (focus (exact ld_one _ _ _ _ _ _ _)); intro wA hr hu; have BP := BO; clear BO; have BO := Lib.hid (BP.out.trans (hu.below m2.out)); clear BP; have RY := RZ; have DY := DZ; have BY := BZ; clear RZ DZ BZ; have RZ := Lib.hid (RY.out.upd hu (Nat.ne_of_lt l2.out.1)); have DZ := Lib.hid (DY.out.upd hu (Nat.ne_of_lt l2.out.2.1)); have BZ := Lib.hid (BY.out.trans (hu.below l2.out.2.2)); clear RY DY BY; have k1 : wA.cell? ⟨w1.heap.size, 1, none⟩ = some (.int .i64 id) := DZ.out.cellV 1; clear hr hu)
      | ((with_reducible refine load_row (o := ⟨some 45, _, _, _, _, _⟩) rfl _ _ rfl w.heap.size ?_ _ (ldC q u h' nx a n c) _ RZ.out Try.underlying50 rfl ?_ ?_); (focus go_simp); (focus (exact LZS.out)))
      | (go_at_call 46; (with_reducible refine (HPF.out wA BZ.out).mono ?_); rintro x wB ⟨rfl, hb⟩; have BP := BO; clear BO; have BO := Lib.hid (BP.out.trans (hb.mono BP.out.size)); clear BP; have RY := RZ; have DY := DZ; have BY := BZ; clear RZ DZ BZ; have RZ := Lib.hid (RY.out.below hb RY.out.lt); have DZ := Lib.hid (DY.out.below hb DY.out.lt); have BZ := Lib.hid (BY.out.trans (hb.mono BY.out.size)); clear RY DY BY; clear hb k1)
      | ((with_reducible refine alloc_row (o := ⟨some 9, _, _, _, _, _⟩) rfl _ rfl _ MZ.out ?_); intro wC hr hb hz; have T9 := Lib.hid hr; have l3 := Lib.hid (And.intro RZ.out.lt (And.intro DZ.out.lt BZ.out.size)); have m3 := Lib.hid BO.out.size; have BP := BO; clear BO; have BO := Lib.hid (BP.out.trans (hb.mono BP.out.size)); clear BP; have RY := RZ; have DY := DZ; have BY := BZ; clear RZ DZ BZ; have RZ := Lib.hid (RY.out.below hb RY.out.lt); have DZ := Lib.hid (DY.out.below hb DY.out.lt); have BZ := Lib.hid (BY.out.trans (hb.mono BY.out.size)); clear RY DY BY; clear hr hb hz)
      | ((with_reducible refine store_row (o := ⟨none, _, _, _, _, _⟩) rfl _ (.tmp 9) _ rfl wB.heap.size fh.cells ?_ ?_ 52 _ T9.out ?_ ?_ ?_ ?_); (focus go_simp); (focus (first | (go_simp; done) | (go_simp; rfl))); (focus (exact HSZ.out)); (focus rfl); (focus (exact hd_one fh)); intro wD hr hu; have T9b := Lib.hid hr; have BP := BO; clear BO; have BO := Lib.hid (BP.out.trans (hu.below m3.out)); clear BP; have RY := RZ; have DY := DZ; have BY := BZ; clear RZ DZ BZ; have RZ := Lib.hid (RY.out.upd hu (Nat.ne_of_lt l3.out.1)); have DZ := Lib.hid (DY.out.upd hu (Nat.ne_of_lt l3.out.2.1)); have BZ := Lib.hid (BY.out.trans (hu.below l3.out.2.2)); clear RY DY BY; have k1 : wD.cell? ⟨w1.heap.size, 1, none⟩ = some (.int .i64 id) := DZ.out.cellV 1; clear hr hu)
      | ((with_reducible refine load_row (o := ⟨some 52, _, _, _, _, _⟩) rfl _ _ rfl w.heap.size ?_ _ (ldC q u h' nx a n c) _ RZ.out Try.underlying50 rfl ?_ ?_); (focus go_simp); (focus (exact LZS.out)))
      | (go_at_call 47; (with_reducible refine (HYF.out wD BZ.out).mono ?_); rintro x wE ⟨rfl, hb⟩; have T9c := Lib.hid (T9b.out.below hb T9b.out.lt); have BP := BO; clear BO; have BO := Lib.hid (BP.out.trans (hb.mono BP.out.size)); clear BP; have RY := RZ; have DY := DZ; have BY := BZ; clear RZ DZ BZ; have RZ := Lib.hid (RY.out.below hb RY.out.lt); have DZ := Lib.hid (DY.out.below hb DY.out.lt); have BZ := Lib.hid (BY.out.trans (hb.mono BY.out.size)); clear RY DY BY; clear hb k1)
      | ((with_reducible refine alloc_row (o := ⟨some 11, _, _, _, _, _⟩) rfl _ rfl _ MZ.out ?_); intro wF hr hb hz; have TB := Lib.hid hr; have T9d := Lib.hid (T9c.out.below hb T9c.out.lt); have nB := Lib.hid T9c.out.lt; have l4 := Lib.hid (And.intro RZ.out.lt (And.intro DZ.out.lt BZ.out.size)); have m4 := Lib.hid BO.out.size; have BP := BO; clear BO; have BO := Lib.hid (BP.out.trans (hb.mono BP.out.size)); clear BP; have RY := RZ; have DY := DZ; have BY := BZ; clear RZ DZ BZ; have RZ := Lib.hid (RY.out.below hb RY.out.lt); have DZ := Lib.hid (DY.out.below hb DY.out.lt); have BZ := Lib.hid (BY.out.trans (hb.mono BY.out.size)); clear RY DY BY; clear hr hb hz)
      | ((with_reducible refine store_row (o := ⟨none, _, _, _, _, _⟩) rfl _ (.tmp 11) _ rfl wE.heap.size fh.cells ?_ ?_ 52 _ TB.out ?_ ?_ ?_ ?_); (focus go_simp); (focus (first | (go_simp; done) | (go_simp; rfl))); (focus (exact HSZ.out)); (focus rfl); (focus (exact hd_one fh)); intro wG hr hu; have TBb := Lib.hid hr; have T9e := Lib.hid (T9d.out.upd hu (Nat.ne_of_lt nB.out)); have BP := BO; clear BO; have BO := Lib.hid (BP.out.trans (hu.below m4.out)); clear BP; have RY := RZ; have DY := DZ; have BY := BZ; clear RZ DZ BZ; have RZ := Lib.hid (RY.out.upd hu (Nat.ne_of_lt l4.out.1)); have DZ := Lib.hid (DY.out.upd hu (Nat.ne_of_lt l4.out.2.1)); have BZ := Lib.hid (BY.out.trans (hu.below l4.out.2.2)); clear RY DY BY; obtain ⟨c0, c1, c2, c3, c4⟩ := RZ.out.l5; clear hr hu c0 c1 c2 c3)
      | ((with_reducible refine load_rowg (o := ⟨some 60, _, _, _, _, _⟩) 1 true 59 rfl _ _ rfl wB.heap.size _ (fh.cells) _ T9e.out Try.underlying52 rfl ?_ ?_ ?_ ?_ ?_); (focus rfl); (focus (first | (go_simp; done) | (go_simp; rfl))); (focus (first | (go_simp; done) | (go_simp; rfl))); (focus (exact HSZ.out)))
      | ((with_reducible refine load_rowg (o := ⟨some 61, _, _, _, _, _⟩) 1 true 59 rfl _ _ rfl wE.heap.size _ (fh.cells) _ TBb.out Try.underlying52 rfl ?_ ?_ ?_ ?_ ?_); (focus rfl); (focus (first | (go_simp; done) | (go_simp; rfl))); (focus (first | (go_simp; done) | (go_simp; rfl))); (focus (exact HSZ.out)))
      | (go_at_call 48; (with_reducible refine (hdequal a a5 n c n c5 L L _ true (H.out.mono hdOk BZ.out) (O5.out.mono hdOk BO.out) (by simp)).mono ?_); rintro x wH ⟨rfl, hb⟩; have BP := BO; clear BO; have BO := Lib.hid (BP.out.trans (hb.mono BP.out.size)); clear BP; have RY := RZ; have DY := DZ; have BY := BZ; clear RZ DZ BZ; have RZ := Lib.hid (RY.out.below hb RY.out.lt); have DZ := Lib.hid (DY.out.below hb DY.out.lt); have BZ := Lib.hid (BY.out.trans (hb.mono BY.out.size)); clear RY DY BY; clear hb)
      | (go_at_call 43; (with_reducible refine (awake19 ldp _).mono ?_); rintro x wk ⟨rfl, hb⟩; have RY := RZ; have DY := DZ; have BY := BZ; clear RZ DZ BZ; have RZ := Lib.hid (RY.out.below hb RY.out.lt); have DZ := Lib.hid (DY.out.below hb DY.out.lt); have BZ := Lib.hid (BY.out.trans (hb.mono BY.out.size)); clear RY DY BY; clear hb))
    go_ret
    exact ⟨one (vbool (by simp)), BZ.out⟩
end Go.Proofs.Ytiopcojkdglapaa.W
