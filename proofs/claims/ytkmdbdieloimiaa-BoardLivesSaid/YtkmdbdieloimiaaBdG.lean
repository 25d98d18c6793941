/- LAYER 25 (board): lists.Insert of shares. -/
import Derived.Test.YtkmdbdieloimiaaBdF
import Derived.Test.YtkmdbdieloimiaaTail
set_option linter.unusedSimpArgs false
set_option linter.unusedVariables false
namespace Go.Proofs.Ytkmdbdieloimiaa.W
open Go Go.ChangeShapes Go.WideShapes Go.ChangeAt Go.RowKit
open Go.Proofs.Ytkmdbdieloimiaa.S

theorem sh_fill (y : Sh) : Instr.fill (fun i => some (i * shE.k, shE.k)) ((Array.range (1 * shE.k)).map (shE.z.cells[· % shE.z.cells.size]!)) [(0, .agg (shE.cells y).toArray)] = some (shE.cells y).toArray := by
  kernel_rfl
set_option maxRecDepth 100000 in
set_option maxHeartbeats 16000000 in
theorem shinsert (lv : Int) (g : Nat) (a : Option Addr) (n c : Nat) (L : List Sh) (s : Sh) (w : World) (h : Ls shE w a n c L) (hs : shE.fit w s) (hg : Row w g 3 [.int .i64 lv]) (hn : n ≤ 900) :
    Calls Try.prog 33 #[.slice a n c, .agg (shE.cells s).toArray, .func (.func 60) #[] #[.pointer (some ⟨g, 0, none⟩)]] w fun x w' => ∃ v', x = .returned v' ∧ LsO shE w' w.heap.size v' (insP (abS lv) s L) ∧ Below w.heap.size w w' := by
  have H := Lib.hid h
  have HS := Lib.hid hs
  have HG := Lib.hid hg
  have HL := Lib.hid h.hlen
  have hm := h.hmax
  have hle := h.hle
  have SZ := Lib.hid sh_size
  have HI := Lib.hid (fun w' (hb : Below w.heap.size w w') => shidx_ab lv g a n c L w' (h.mono shOk hb) (hg.below hb hg.lt))
  obtain ⟨q, hq, hz, hins⟩ : ∃ q : Nat, q ≤ n ∧ ((idxI (abS lv) L = -1 ∧ (n : Int) = (q : Int)) ∨ idxI (abS lv) L = (q : Int)) ∧ insP (abS lv) s L = L.take q ++ [s] ++ L.drop q := by
    rcases idxI_or (abS lv) L with ⟨hz, hall⟩ | ⟨k, y, hz, hk, hy, hpk, hbef⟩
    · refine ⟨n, Nat.le_refl _, .inl ⟨hz, rfl⟩, ?_⟩
      rw [insP_no _ s L hall, List.take_of_length_le (by rw [h.hlen]; exact Nat.le_refl _), List.drop_eq_nil_of_le (by rw [h.hlen]; exact Nat.le_refl _), List.append_nil]
    · exact ⟨k, by rw [← h.hlen]; omega, .inr hz, insP_at _ s L k y hy hpk hbef⟩
  rw [hins]
  obtain ⟨M, hM⟩ : ∃ M, L.take q ++ [s] ++ L.drop q = M := ⟨_, rfl⟩
  rw [hM]
  have HM := Lib.hid hM
  have gn : (0 : Int) ≤ (n : Int) := by omega
  have gq0 : (0 : Int) ≤ (q : Int) := by omega
  have gq : (q : Int) ≤ (n : Int) := by omega
  have gc : (q : Int) ≤ (c : Int) := by omega
  have gq1 : ¬ (q : Int) < 0 := by omega
  obtain ⟨z, hzz⟩ : ∃ z, idxI (abS lv) L = z := ⟨_, rfl⟩
  rw [hzz] at HI hz
  clear h hs hg hins hzz hM
  rcases hz with ⟨rfl, hqn⟩ | rfl
  all_goals
    first
      | (have HQE := Lib.hid hqn; clear hqn)
      | skip
    go_enter Try.func33, Try.ntmps33
    go_wp2_with (first
      | ((with_reducible refine box_row (o := ⟨some 4, _, _, _, _, _⟩) rfl _ _ rfl (shE.cells s) rfl ?_); intro w1 hr hb hz; have R1 := Lib.hid hr; have B1 := Lib.hid hb; clear hr hb hz)
      | (go_at_call 56; (with_reducible refine (HI.out w1 B1.out).mono ?_); rintro x w2 ⟨rfl, hb⟩; have R2 := Lib.hid (R1.out.below hb R1.out.lt); have B2 := Lib.hid (B1.out.trans (hb.mono B1.out.size)); clear hb))
    try rw [HQE.out]
    refine region_h (fun v => Below w2.heap.size w2 v) (by kernel_rfl) (by kernel_rfl) (Below.refl _ _).drew ?_
    obtain ⟨wd, hwd⟩ : ∃ wd, w2.drew = wd := ⟨_, rfl⟩
    have D0 : Hid (Below w2.heap.size w2 wd) := Lib.hid (by rw [← hwd]; exact (Below.refl _ _).drew)
    rw [hwd]
    clear hwd
    (refine h_read 0 rfl (by kernel_rfl) (by kernel_rfl) (h_free rfl) ?_ ?_ ?_; rotate_left; (focus (intro v hv; go_simp; rfl)); go_simp)
    (refine h_read 1 rfl (by kernel_rfl) (by kernel_rfl) (h_free rfl) ?_ ?_ ?_; rotate_left; (focus (intro v hv; go_simp; rfl)); go_simp)
    (refine h_read 2 rfl (by kernel_rfl) (by kernel_rfl) (h_free rfl) (.slice a q c) ?_ ?_; (focus (intro v hv; go_simp; first | done | rfl | (intro hh; exfalso; omega) | omega)); go_simp)
    (refine h_read 3 rfl (by kernel_rfl) (by kernel_rfl) (h_free rfl) ?_ ?_ ?_; rotate_left; (focus (intro v hv; refine run_cells 58 (.tmp 4) ?_ w.heap.size 0 ?_ (shE.cells s) _ (fun j' u' hj => by rw [hv.cell (p := ⟨w.heap.size, 0 + j', none⟩) R2.out.lt, Nat.zero_add, R2.out.cellV]; exact hj) Try.underlying58 rfl sh_size; (focus rfl); go_simp)); go_simp)
    (refine h_read 5 rfl (by kernel_rfl) (by kernel_rfl) (h_free rfl) ?_ ?_ ?_; rotate_left; (focus (intro v hv; go_simp; rfl)); go_simp)
    (refine h_read 6 rfl (by kernel_rfl) (by kernel_rfl) (h_free rfl) ?_ ?_ ?_; rotate_left; (focus (intro v hv; go_simp; rfl)); go_simp)
    (refine h_read 7 rfl (by kernel_rfl) (by kernel_rfl) (h_free rfl) (.slice (if c = q then a else a.map (fun x => x.add (q * shE.k))) (n - q) (c - q)) ?_ ?_; (focus (intro v hv; go_simp; first | done | rfl | (intro hh; exfalso; omega) | omega)); go_simp)
    (refine h_list 4 rfl (by kernel_rfl) ?_; intro K hK)
    refine build_ls shOk sh_fill (o := ⟨some 19, _, _, _, _, _⟩) rfl _ rfl s ?_ HS.out (by decide) ?_
    · first | (go_simp; done) | (go_simp; rfl)
    intro w3 hl hb hz
    have X3 := Lib.hid hl
    have D3 := Lib.hid (D0.out.trans (hb.mono D0.out.size))
    clear hl hb hz
    refine hK _ _ D3.out ?_
    go_simp
    (refine h_list 8 rfl (by kernel_rfl) ?_; intro K hK)
    refine shbs3 (o := ⟨some 23, _, _, _, _, _⟩) rfl _ _ _ rfl a (some ⟨wd.heap.size, 0, none⟩) (if c = q then a else a.map (fun x => x.add (q * shE.k))) q c 1 1 (n - q) (c - q) ?_ ?_ ?_ ?_
    · first | (go_simp; done) | (go_simp; rfl)
    · first | (go_simp; done) | (go_simp; rfl)
    · first | (go_simp; done) | (go_simp; rfl)
    intro w4 hr hb hz
    have R4 := Lib.hid hr
    have X4 := Lib.hid (X3.out.mono shOk hb)
    have D4 := Lib.hid (D3.out.trans (hb.mono D3.out.size))
    have BW := Lib.hid (B2.out.trans (D4.out.mono B2.out.size))
    have LW := Lib.hid (H.out.mono shOk BW.out)
    clear hr hb hz
    refine hK _ _ D4.out ?_
    go_simp
    (refine h_call 9 rfl (by kernel_rfl) (h_free rfl) 59 ?_ ?_ ?_; rotate_left; (focus (go_simp; rfl)))
    refine (shconcat w3.heap.size a (some ⟨wd.heap.size, 0, none⟩) (if c = q then a else a.map (fun x => x.add (q * shE.k))) q c 1 1 (n - q) (c - q) (L.take q) [s] (L.drop q) w4 R4.out (LW.out.first q hq) X4.out (LW.out.rest q hq) (by omega)).mono ?_
    rintro x w5 ⟨v5, rfl, hl, hb⟩
    have D5 := Lib.hid (D4.out.trans (hb.mono D4.out.size))
    have N5 := Lib.hid (by (have hq5 := hl.base D4.out.size); rw [HM.out] at hq5; exact hq5)
    clear hl hb
    refine ⟨_, rfl, D5.out, ?_⟩
    go_simp
    (refine h_read 10 rfl (by kernel_rfl) (by kernel_rfl) (h_free rfl) ?_ ?_ ?_; rotate_left; (focus (intro v hv; go_simp; rfl)); go_simp)
    refine h_done (by kernel_rfl) ?_
    go_wp2_with fail
    all_goals
      go_ret
      exact ⟨_, rfl, N5.out.base B2.out.size, B2.out.trans (D5.out.mono B2.out.size)⟩
end Go.Proofs.Ytkmdbdieloimiaa.W
