/- LAYER 11 (record): Apply of the reference, kind 2. -/
import Derived.Test.YtbcaphkbjeejhaaRcUa
set_option linter.unusedSimpArgs false
set_option linter.unusedVariables false
namespace Go.Proofs.Ytbcaphkbjeejhaa.W
open Go Go.ChangeShapes Go.WideShapes Go.ChangeAt Go.RowKit

set_option maxRecDepth 100000 in
set_option maxHeartbeats 16000000 in
theorem uapp2 (s : Sv) (d : List UInt8) (L : List (En × List UInt8)) (rt rv ix tm kd ri rf : Int) (xa ya : Option Addr) (xn xc yn yc : Nat) (l p : List UInt8) (w : World) (h : SvF w s d L) (hr : RcF w ⟨2, rt, rv, ⟨ix, tm, kd, xa, xn, xc⟩, ri, rf, ya, yn, yc⟩ l p) (hsl : s.en ≤ 1000000) (hck : chkU ⟨2, rt, rv, ⟨ix, tm, kd, xa, xn, xc⟩, ri, rf, ya, yn, yc⟩ l p = 0) :
    Calls Try.prog 13 #[.agg s.cells.toArray, .agg (Rc.cells ⟨2, rt, rv, ⟨ix, tm, kd, xa, xn, xc⟩, ri, rf, ya, yn, yc⟩).toArray] w fun x w' => ∃ s' L', x = .returned (.tuple #[.agg (Sv.cells s').toArray, .int .i64 0]) ∧ Rd w' s'.a s'.n s'.c d ∧ Ents w' s'.ea s'.en s'.ec L' ∧ s'.t = rt ∧ s'.v = rv ∧ s'.b = s.b ∧ s'.bt = s.bt ∧ s'.f = s.f ∧ s'.n = s.n ∧ L'.map pe = (L.filter (fun _ => true)).map pe ∧ (∀ b off, s'.ea = some ⟨b, off, none⟩ → w.heap.size ≤ b) ∧ Below w.heap.size w w' := by
  obtain ⟨t, vt, b, bt, f, a, n, c, ea, en, ec⟩ := s
  have H := Lib.hid h
  have HD := Lib.hid h.rd
  have HLN := Lib.hid h.es.hlen
  have HC := Lib.hid h.es.hcells
  have HF := Lib.hid h.es.hfit
  have HR := Lib.hid hr
  have HRE := Lib.hid hr.e.rd
  have HRS := Lib.hid hr.rd
  have HNX := Lib.hid hr.e.rd.hlen
  have HNY := Lib.hid hr.rd.hlen
  have HCK := Lib.hid hck
  have SZ := Lib.hid sv_zero
  have SS := Lib.hid sv_size
  have RS := Lib.hid rc_size
  have EZ := Lib.hid en_zero
  have ES := Lib.hid en_size
  unfold Sv.cells Rc.cells
  dsimp only at hsl HLN HC HD HRE HRS HNX HNY ⊢
  clear h hr hck
  have CK := Lib.hid (fun (W : World) (hb : Below w.heap.size w W) => ucheckR ⟨2, rt, rv, ⟨ix, tm, kd, xa, xn, xc⟩, ri, rf, ya, yn, yc⟩ l p W (HRE.out.mono hb) (HRS.out.mono hb))
  rw [HCK.out] at CK
  unfold Rc.cells at CK
  dsimp only at CK
  go_enter Try.func13, Try.ntmps13
  go_wp2_with (first
    | (with_reducible refine box_row (o := ⟨some 2, _, _, _, _, _⟩) rfl _ _ rfl [.int .i64 t, .int .i64 vt, .int .i64 b, .int .i64 bt, .int .i64 f, .slice a n c, .slice ea en ec] rfl ?_; intro w1 hr1 hb1 hz1; have S1 := Lib.hid hr1; have B1 := Lib.hid hb1; clear hr1 hb1 hz1)
    | (with_reducible refine box_row (o := ⟨some 3, _, _, _, _, _⟩) rfl _ _ rfl [.int .i64 2, .int .i64 rt, .int .i64 rv, .int .i64 ix, .int .i64 tm, .int .i64 kd, .slice xa xn xc, .int .i64 ri, .int .i64 rf, .slice ya yn yc] rfl ?_; intro w2 hr2 hb2 hz2; have R2 := Lib.hid hr2; have S2 := Lib.hid (S1.out.below hb2 S1.out.lt); have L1 := Lib.hid (show w.heap.size < w1.heap.size from S1.out.lt); have B2 := Lib.hid (B1.out.trans (hb2.mono B1.out.size)); clear hr2 hb2 hz2)
    | ((with_reducible refine alloc_row (o := ⟨some 4, _, _, _, _, _⟩) rfl _ rfl _ SZ.out ?_); intro w3 hr3 hb3 hz3; have Z3 := Lib.hid hr3; have L2 := Lib.hid (show w1.heap.size < w2.heap.size from R2.out.lt); have S3 := Lib.hid (S2.out.below hb3 S2.out.lt); have R3 := Lib.hid (R2.out.below hb3 R2.out.lt); have B3 := Lib.hid (B2.out.trans (hb3.mono B2.out.size)); have L3 := Lib.hid (show w2.heap.size < w3.heap.size from hr3.lt); clear hr3 hb3 hz3)
    | ((with_reducible refine load_row (o := ⟨some 10, _, _, _, _, _⟩) rfl _ _ rfl w1.heap.size ?_ _ [.int .i64 2, .int .i64 rt, .int .i64 rv, .int .i64 ix, .int .i64 tm, .int .i64 kd, .slice xa xn xc, .int .i64 ri, .int .i64 rf, .slice ya yn yc] _ R3.out Try.underlying29 rfl ?_ ?_); (focus go_simp); (focus (exact RS.out)))
    | (go_at_call 58; (with_reducible refine (CK.out w3 B3.out).mono ?_); rintro x w4 ⟨rfl, hb⟩; have S4 := Lib.hid (S3.out.below hb S3.out.lt); have R4 := Lib.hid (R3.out.below hb R3.out.lt); have Z4 := Lib.hid (Z3.out.below hb Z3.out.lt); have B4 := Lib.hid (B3.out.trans (hb.mono B3.out.size)); have L4 := Lib.hid (show w2.heap.size < w4.heap.size from Z4.out.lt); clear hb)
    | fail)
  refine region_h (fun v => Below w4.heap.size w4 v) (by kernel_rfl) (by kernel_rfl) (Below.refl _ _).drew ?_
  obtain ⟨wd, hwd⟩ : ∃ wd, w4.drew = wd := ⟨_, rfl⟩
  have D0 : Hid (Below w4.heap.size w4 wd) := Lib.hid (by rw [← hwd]; exact (Below.refl _ _).drew)
  rw [hwd]
  clear hwd
  (refine h_read 0 rfl (by kernel_rfl) (by kernel_rfl) (h_free rfl) ?_ ?_ ?_; rotate_left; (focus (intro v hv; go_simp; rfl)); go_simp)
  (refine h_read 1 rfl (by kernel_rfl) (by kernel_rfl) (h_free rfl) ?_ ?_ ?_; rotate_left; (focus (intro v hv; obtain ⟨c0, c1, c2, c3, c4, c5, c6⟩ := (S4.out.below hv S4.out.lt).q7; obtain ⟨d0, d1, d2, d3, d4, d5, d6, d7, d8, d9⟩ := (R4.out.below hv R4.out.lt).q10; go_simp; rfl)); go_simp)
  (refine h_read 2 rfl (by kernel_rfl) (by kernel_rfl) (h_free rfl) ?_ ?_ ?_; rotate_left; (focus (intro v hv; go_simp; rfl)); go_simp)
  (refine h_read 3 rfl (by kernel_rfl) (by kernel_rfl) (h_free rfl) ?_ ?_ ?_; rotate_left; (focus (intro v hv; go_simp; rfl)); go_simp)
  (refine h_skip 4 rfl (by kernel_rfl) (by kernel_rfl) ?_ ?_; (focus (go_simp; first | done | (intro h; cases h) | simp)); go_simp)
  (refine h_skip 5 rfl (by kernel_rfl) (by kernel_rfl) ?_ ?_; (focus (go_simp; first | done | (intro h; cases h) | simp)); go_simp)
  (refine h_skip 6 rfl (by kernel_rfl) (by kernel_rfl) ?_ ?_; (focus (go_simp; first | done | (intro h; cases h) | simp)); go_simp)
  (refine h_skip 7 rfl (by kernel_rfl) (by kernel_rfl) ?_ ?_; (focus (go_simp; first | done | (intro h; cases h) | simp)); go_simp)
  (refine h_skip 8 rfl (by kernel_rfl) (by kernel_rfl) ?_ ?_; (focus (go_simp; first | done | (intro h; cases h) | simp)); go_simp)
  (refine h_skip 9 rfl (by kernel_rfl) (by kernel_rfl) ?_ ?_; (focus (go_simp; first | done | (intro h; cases h) | simp)); go_simp)
  (refine h_skip 10 rfl (by kernel_rfl) (by kernel_rfl) ?_ ?_; (focus (go_simp; first | done | (intro h; cases h) | simp)); go_simp)
  (refine h_read 11 rfl (by kernel_rfl) (by kernel_rfl) (h_free rfl) ?_ ?_ ?_; rotate_left; (focus (intro v hv; go_simp; rfl)); go_simp)
  (refine h_read 12 rfl (by kernel_rfl) (by kernel_rfl) (h_free rfl) ?_ ?_ ?_; rotate_left; (focus (intro v hv; go_simp; rfl)); go_simp)
  (refine h_read 13 rfl (by kernel_rfl) (by kernel_rfl) ?_ ?_ ?_ ?_; (focus (go_simp; done)); rotate_left; (focus (intro v hv; go_simp; rfl)); go_simp)
  (refine h_read 14 rfl (by kernel_rfl) (by kernel_rfl) ?_ ?_ ?_ ?_; (focus (go_simp; done)); rotate_left; (focus (intro v hv; obtain ⟨c0, c1, c2, c3, c4, c5, c6⟩ := (S4.out.below hv S4.out.lt).q7; obtain ⟨d0, d1, d2, d3, d4, d5, d6, d7, d8, d9⟩ := (R4.out.below hv R4.out.lt).q10; go_simp; rfl)); go_simp)
  (refine h_read 15 rfl (by kernel_rfl) (by kernel_rfl) ?_ ?_ ?_ ?_; (focus (go_simp; done)); rotate_left; (focus (intro v hv; go_simp; rfl)); go_simp)
  (refine h_read 16 rfl (by kernel_rfl) (by kernel_rfl) ?_ ?_ ?_ ?_; (focus (go_simp; done)); rotate_left; (focus (intro v hv; go_simp; rfl)); go_simp)
  (refine h_skip 17 rfl (by kernel_rfl) (by kernel_rfl) ?_ ?_; (focus (go_simp; first | done | (intro h; cases h) | simp)); go_simp)
  (refine h_skip 18 rfl (by kernel_rfl) (by kernel_rfl) ?_ ?_; (focus (go_simp; first | done | (intro h; cases h) | simp)); go_simp)
  (refine h_skip 19 rfl (by kernel_rfl) (by kernel_rfl) ?_ ?_; (focus (go_simp; first | done | (intro h; cases h) | simp)); go_simp)
  (refine h_skip 20 rfl (by kernel_rfl) (by kernel_rfl) ?_ ?_; (focus (go_simp; first | done | (intro h; cases h) | simp)); go_simp)
  (refine h_skip 21 rfl (by kernel_rfl) (by kernel_rfl) ?_ ?_; (focus (go_simp; first | done | (intro h; cases h) | simp)); go_simp)
  (refine h_read 22 rfl (by kernel_rfl) (by kernel_rfl) ?_ ?_ ?_ ?_; (focus (go_simp; done)); rotate_left; (focus (intro v hv; go_simp; rfl)); go_simp)
  (refine h_read 23 rfl (by kernel_rfl) (by kernel_rfl) (h_free rfl) ?_ ?_ ?_; rotate_left; (focus (intro v hv; go_simp; rfl)); go_simp)
  (refine h_read 24 rfl (by kernel_rfl) (by kernel_rfl) (h_free rfl) ?_ ?_ ?_; rotate_left; (focus (intro v hv; go_simp; rfl)); go_simp)
  (refine h_read 25 rfl (by kernel_rfl) (by kernel_rfl) ?_ ?_ ?_ ?_; (focus (go_simp; done)); rotate_left; (focus (intro v hv; go_simp; rfl)); go_simp)
  (refine h_read 26 rfl (by kernel_rfl) (by kernel_rfl) ?_ ?_ ?_ ?_; (focus (go_simp; done)); rotate_left; (focus (intro v hv; obtain ⟨c0, c1, c2, c3, c4, c5, c6⟩ := (S4.out.below hv S4.out.lt).q7; obtain ⟨d0, d1, d2, d3, d4, d5, d6, d7, d8, d9⟩ := (R4.out.below hv R4.out.lt).q10; go_simp; rfl)); go_simp)
  (refine h_read 27 rfl (by kernel_rfl) (by kernel_rfl) ?_ ?_ ?_ ?_; (focus (go_simp; done)); rotate_left; (focus (intro v hv; go_simp; rfl)); go_simp)
  (refine h_read 28 rfl (by kernel_rfl) (by kernel_rfl) ?_ ?_ ?_ ?_; (focus (go_simp; done)); rotate_left; (focus (intro v hv; go_simp; rfl)); go_simp)
  (refine h_skip 29 rfl (by kernel_rfl) (by kernel_rfl) ?_ ?_; (focus (go_simp; first | done | (intro h; cases h) | simp)); go_simp)
  (refine h_skip 30 rfl (by kernel_rfl) (by kernel_rfl) ?_ ?_; (focus (go_simp; first | done | (intro h; cases h) | simp)); go_simp)
  (refine h_skip 31 rfl (by kernel_rfl) (by kernel_rfl) ?_ ?_; (focus (go_simp; first | done | (intro h; cases h) | simp)); go_simp)
  (refine h_skip 32 rfl (by kernel_rfl) (by kernel_rfl) ?_ ?_; (focus (go_simp; first | done | (intro h; cases h) | simp)); go_simp)
  (refine h_skip 33 rfl (by kernel_rfl) (by kernel_rfl) ?_ ?_; (focus (go_simp; first | done | (intro h; cases h) | simp)); go_simp)
  (refine h_read 34 rfl (by kernel_rfl) (by kernel_rfl) ?_ ?_ ?_ ?_; (focus (go_simp; done)); rotate_left; (focus (intro v hv; go_simp; rfl)); go_simp)
  (refine h_read 35 rfl (by kernel_rfl) (by kernel_rfl) (h_free rfl) ?_ ?_ ?_; rotate_left; (focus (intro v hv; go_simp; rfl)); go_simp)
  refine h_done (by kernel_rfl) ?_
  have D5 := D0
  obtain ⟨w5, hw5⟩ : ∃ x, wd = x := ⟨_, rfl⟩
  rw [hw5] at D5 ⊢
  clear D0 hw5
  have S5 := Lib.hid (S4.out.below D5.out S4.out.lt)
  have R5 := Lib.hid (R4.out.below D5.out R4.out.lt)
  have Z5 := Lib.hid (Z4.out.below D5.out Z4.out.lt)
  have B5 := Lib.hid (B4.out.trans (D5.out.mono B4.out.size))
  have L5 := Lib.hid (show w2.heap.size < w5.heap.size from Z5.out.lt)
  go_wp2_with fail
  go_loopw [6, 7] (fun v i wr => ∃ (q : Nat) (ja : Option Addr) (jn jc : Nat), v = .slice ja jn jc ∧ i = .int .i64 (q : Int) ∧ q ≤ en ∧ jn ≤ q ∧ Hid (EnO wr ja jn jc (((L.take q).filter (fun _ => true)).map (·.1))) ∧ Hid (∀ b off, ja = some ⟨b, off, none⟩ → w5.heap.size ≤ b) ∧ Hid (Row wr w.heap.size 25 [.int .i64 t, .int .i64 vt, .int .i64 b, .int .i64 bt, .int .i64 f, .slice a n c, .slice ea en ec]) ∧ Hid (Row wr w1.heap.size 29 [.int .i64 2, .int .i64 rt, .int .i64 rv, .int .i64 ix, .int .i64 tm, .int .i64 kd, .slice xa xn xc, .int .i64 ri, .int .i64 rf, .slice ya yn yc]) ∧ Hid (Row wr w2.heap.size 25 (Sv.cells svZ)) ∧ Hid (Below w5.heap.size w5 wr) ∧ Hid (Below w.heap.size w wr)) (fun _ i _ => en - (intOf i).toNat)
  case atStart => exact ⟨0, none, 0, 0, rfl, rfl, Nat.zero_le _, Nat.le_refl _, Lib.hid (EnO.nil _), Lib.hid (fun _ _ e => by cases e), S5, R5, Z5, Lib.hid (Below.refl _ _), B5⟩
  case round =>
    obtain ⟨q, ja, jn, jc, rfl, rfl, hq, hjn, HO, HEA, HS, HRr, HZz, HV, HB⟩ := hrel
    by_cases hlt : q < en
    · rcases HC.out with h0 | ⟨x, off, rfl, hx, hcell⟩
      · exact absurd h0 (by omega)
      have hq2 : q < L.length := by rw [HLN.out]; exact hlt
      have hfit := HF.out (L.getD q Ez) (by
        have : L.getD q Ez = L[q] := by simp [List.getD_eq_getElem?_getD, hq2]
        rw [this]; exact List.getElem_mem hq2)
      have hc1 := hcell q hlt
      have hnx := filt_next L (fun _ => true) q _ hq2 rfl
      obtain ⟨⟨⟨jx, jt, jk, qa, qn, qc⟩, ql⟩, hqq⟩ : ∃ y, L.getD q Ez = y := ⟨_, rfl⟩
      rw [hqq] at hfit hc1 hnx
      have HNX2 := Lib.hid hnx
      have HFI := Lib.hid hfit
      have HX1 := Lib.hid (fun j v hj => (show wr.cell? ⟨x, off + q * 4 + j, none⟩ = some v by rw [HB.out.cell (p := ⟨x, off + q * 4 + j, none⟩) hx]; exact hc1 j v hj))
      clear hfit hc1 hcell hqq hnx hx
      have g1 : (0 : Int) ≤ (q : Int) := by omega
      have g2 : (q : Int) < (en : Int) := by omega
      obtain ⟨c0, c1, c2, c3, c4, c5, c6⟩ := HS.out.q7
      obtain ⟨d0, d1, d2, d3, d4, d5, d6, d7, d8, d9⟩ := HRr.out.q10
      go_wp2_with (first
        | ((with_reducible refine load_cells (o := ⟨some 62, _, _, _, _, _⟩) rfl _ _ rfl x (off + q * 4) ?_ (En.cells ⟨jx, jt, jk, qa, qn, qc⟩) _ ?_ Try.underlying27 rfl ?_ ?_); (focus go_simp); (focus (exact HX1.out)); (focus (exact ES.out)))
        | ((with_reducible refine alloc_row (o := ⟨some 8, _, _, _, _, _⟩) rfl _ rfl _ EZ.out ?_); intro w6 hr hb hz; have E6 := Lib.hid hr; have S6 := Lib.hid (HS.out.below hb HS.out.lt); have R6 := Lib.hid (HRr.out.below hb HRr.out.lt); have Z6 := Lib.hid (HZz.out.below hb HZz.out.lt); have O6 := Lib.hid (HO.out.mono hb); have OL := Lib.hid (HO.out.lt); have LL := Lib.hid (show w.heap.size < wr.heap.size ∧ w1.heap.size < wr.heap.size ∧ w2.heap.size < wr.heap.size from ⟨HS.out.lt, HRr.out.lt, HZz.out.lt⟩); have B6 := Lib.hid (HB.out.trans (hb.mono HB.out.size)); have V6 := Lib.hid (HV.out.trans (hb.mono HV.out.size)); clear hr hb hz c0 c1 c2 c3 c4 c5 c6 d0 d1 d2 d3 d4 d5 d6 d7 d8 d9)
        | ((with_reducible refine store_row (o := ⟨none, _, _, _, _, _⟩) rfl _ (.tmp 8) _ rfl wr.heap.size (En.cells ⟨jx, jt, jk, qa, qn, qc⟩) ?_ ?_ 27 _ E6.out ?_ ?_ ?_ ?_); (focus go_simp); (focus (first | (go_simp; done) | (go_simp; rfl))); (focus (exact ES.out)); (focus rfl); (focus (exact en_one _)); intro w7 hr hu; have E7 := Lib.hid hr; have S7 := Lib.hid (S6.out.upd hu (by have := LL.out; omega)); have R7 := Lib.hid (R6.out.upd hu (by have := LL.out; omega)); have Z7 := Lib.hid (Z6.out.upd hu (by have := LL.out; omega)); have O7 := Lib.hid (O6.out.upd hu (fun b off e => Nat.ne_of_lt (OL.out b off e))); have B7 := Lib.hid (B6.out.trans (hu.below HB.out.size)); have V7 := Lib.hid (V6.out.trans (hu.below HV.out.size)); obtain ⟨e0, e1, e2, e3⟩ := E7.out.q4; obtain ⟨d0, d1, d2, d3, d4, d5, d6, d7, d8, d9⟩ := R7.out.q10; clear hr hu)
        | ((with_reducible refine load_row (o := ⟨some 86, _, _, _, _, _⟩) rfl _ _ rfl wr.heap.size ?_ _ (En.cells ⟨jx, jt, jk, qa, qn, qc⟩) _ E7.out Try.underlying27 rfl ?_ ?_); (focus go_simp); (focus (exact ES.out)))
        | ((with_reducible refine build_en (o := ⟨some 87, _, _, _, _, _⟩) rfl _ rfl ⟨jx, jt, jk, qa, qn, qc⟩ ?_ ?_); (focus (first | (go_simp; done) | (go_simp; rfl))); intro w8 hr hb hz; have A8 := Lib.hid hr; have S8 := Lib.hid (S7.out.below hb S7.out.lt); have R8 := Lib.hid (R7.out.below hb R7.out.lt); have Z8 := Lib.hid (Z7.out.below hb Z7.out.lt); have O8 := Lib.hid (O7.out.mono hb); have B8 := Lib.hid (B7.out.trans (hb.mono B7.out.size)); have V8 := Lib.hid (V7.out.trans (hb.mono V7.out.size)); clear hr hb hz e0 e1 e2 e3 d0 d1 d2 d3 d4 d5 d6 d7 d8 d9)
        | ((with_reducible refine append_en (o := ⟨some 88, _, _, _, _, _⟩) rfl _ _ rfl ja jn jc (((L.take q).filter (fun _ => true)).map (·.1)) ?_ O8.out (by omega) ⟨w7.heap.size, 0, none⟩ 1 ⟨jx, jt, jk, qa, qn, qc⟩ ?_ (fun j u hj => by rw [Go.WideShapes.add_plain, Nat.zero_add, A8.out.cellV]; exact hj) ?_); (focus (go_simp; done)); (focus (go_simp; done)); intro ja' jc' w9 ho hcase; have O9 := Lib.hid ho; have ST := Lib.hid (EnO.step (w := w8) (w' := w9) (ea := ja) (ea' := ja') (base := w5.heap.size) HEA.out V8.out.size (hcase.imp (fun ⟨g, h1, h2, _, _, h3⟩ => ⟨g, h1, h2, trivial, trivial, h3⟩) id)); have S9 := Lib.hid (S8.out.below ST.out.2 S5.out.lt); have R9 := Lib.hid (R8.out.below ST.out.2 R5.out.lt); have Z9 := Lib.hid (Z8.out.below ST.out.2 Z5.out.lt); have V9 := Lib.hid (V8.out.trans ST.out.2); have B9 := Lib.hid (B8.out.trans (ST.out.2.mono B5.out.size)); clear ho hcase))
      go_roundw
      case rel =>
        have h9 := O9.out
        rw [show ((L.take q).filter (fun _ => true)).map (·.1) ++ [(⟨jx, jt, jk, qa, qn, qc⟩ : En)] = ((L.take (q + 1)).filter (fun _ => true)).map (·.1) by rw [HNX2.out, if_pos rfl]; simp] at h9
        exact ⟨q + 1, ja', jn + 1, jc', rfl, vint (by omega), by omega, by omega, Lib.hid h9, Lib.hid ST.out.1, S9, R9, Z9, V9, B9⟩
      case measure => simp [intOf]; omega
    · obtain rfl : q = en := by omega
      have hlf : L.take q = L := List.take_of_length_le (by rw [HLN.out]; exact Nat.le_refl _)
      have ho9 := HO.out
      rw [hlf] at ho9
      have ON := Lib.hid ho9
      have FN := Lib.hid (fun p (hp : p ∈ L.filter (fun _ => true)) => (HF.out p (List.mem_filter.1 hp).1).mono HB.out)
      clear hlf ho9 HO
      have HDW := Lib.hid (HD.out.mono HB.out)
      obtain ⟨d0, d1, d2, d3, d4, d5, d6, d7, d8, d9⟩ := HRr.out.q10
      obtain ⟨c0, c1, c2, c3, c4, c5, c6⟩ := HS.out.q7
      have hfz := fun i => HS.out.frozen i
      have hne : w1.heap.size ≠ w.heap.size := by have := L1.out; omega
      have hne2 : w.heap.size ≠ w1.heap.size := hne.symm
      go_wp2_with fail
      go_region
      have U := Lib.hid ((Upd.setCell wr w.heap.size 0 (.int .i64 rt)).trans (Upd.setCell _ _ 1 (.int .i64 rv)))
      have Ea := Lib.hid (show Row ((wr.setCell ⟨w.heap.size, 0, none⟩ (.int .i64 rt)).setCell ⟨w.heap.size, 1, none⟩ (.int .i64 rv)) w.heap.size 25 [.int .i64 rt, .int .i64 rv, .int .i64 b, .int .i64 bt, .int .i64 f, .slice a n c, .slice ea q ec] from (HS.out.setV 0 (.int .i64 rt)).setV 1 (.int .i64 rv))
      have Da := Lib.hid (HDW.out.put HS.out (NB_sv ⟨t, vt, b, bt, f, a, n, c, ea, q, ec⟩) U.out)
      have Fa := Lib.hid (fun p hp => EnF.put (FN.out p hp) HS.out (NB_sv ⟨t, vt, b, bt, f, a, n, c, ea, q, ec⟩) U.out)
      have Oa := Lib.hid (ON.out.upd U.out (fun b off e => by have := HEA.out b off e; have := L1.out; have := L2.out; have := L5.out; omega))
      have Za := Lib.hid (HZz.out.upd U.out (by have := L1.out; have := L2.out; omega))
      have Ba := Lib.hid (HB.out.trans (U.out.below (Nat.le_refl _)))
      clear c0 c1 c2 c3 c4 c5 c6 d0 d1 d2 d3 d4 d5 d6 d7 d8 d9 hfz U
      obtain ⟨wa, hwa⟩ : ∃ x, (wr.setCell ⟨w.heap.size, 0, none⟩ (.int .i64 rt)).setCell ⟨w.heap.size, 1, none⟩ (.int .i64 rv) = x := ⟨_, rfl⟩
      rw [hwa] at Ea Da Fa Oa Za Ba ⊢
      clear hwa
      have hb := (Below.refl wa.heap.size wa).drew
      obtain ⟨wb, hwb⟩ : ∃ x, wa.drew = x := ⟨_, rfl⟩
      rw [hwb] at hb ⊢
      clear hwb
      have Eb := Lib.hid (Ea.out.below hb Ea.out.lt)
      have Db := Lib.hid (Da.out.mono hb)
      have Fb := Lib.hid (fun p hp => (Fa.out p hp).mono hb)
      have Ob := Lib.hid (Oa.out.mono hb)
      have Zb := Lib.hid (Za.out.below hb Za.out.lt)
      have Bb := Lib.hid (Ba.out.trans (hb.mono Ba.out.size))
      clear hb
      have U7 := Lib.hid (Upd.setCell wb w.heap.size 6 (.slice ja jn jc))
      have S7 := Lib.hid (show Row (World.setCell wb ⟨w.heap.size, 6, none⟩ (.slice ja jn jc)) w.heap.size 25 [.int .i64 rt, .int .i64 rv, .int .i64 b, .int .i64 bt, .int .i64 f, .slice a n c, .slice ja jn jc] from Eb.out.setV 6 (.slice ja jn jc))
      have Z7 := Lib.hid (Zb.out.upd U7.out (by have := L1.out; have := L2.out; omega))
      have D7 := Lib.hid (Db.out.put Eb.out (NB_sv ⟨rt, rv, b, bt, f, a, n, c, ea, q, ec⟩) U7.out)
      have F7 := Lib.hid (fun p hp => EnF.put (Fb.out p hp) Eb.out (NB_sv ⟨rt, rv, b, bt, f, a, n, c, ea, q, ec⟩) U7.out)
      have O7 := Lib.hid (Ob.out.upd U7.out (fun b off e => by have := HEA.out b off e; have := L1.out; have := L2.out; have := L5.out; omega))
      have B7 := Lib.hid (Bb.out.trans (U7.out.below (Nat.le_refl _)))
      have f6 := Eb.out.frozen 6
      obtain ⟨c0, c1, c2, c3, c4, c5, c6⟩ := Eb.out.q7
      go_wp2_with (first
        | ((with_reducible refine load_row (o := ⟨some 128, _, _, _, _, _⟩) rfl _ _ rfl w.heap.size ?_ _ [.int .i64 rt, .int .i64 rv, .int .i64 b, .int .i64 bt, .int .i64 f, .slice a n c, .slice ja jn jc] _ S7.out Try.underlying25 rfl ?_ ?_); (focus go_simp); (focus (exact SS.out)))
        | ((with_reducible refine store_row (o := ⟨none, _, _, _, _, _⟩) rfl _ (.tmp 4) _ rfl w2.heap.size [.int .i64 rt, .int .i64 rv, .int .i64 b, .int .i64 bt, .int .i64 f, .slice a n c, .slice ja jn jc] ?_ ?_ 25 _ Z7.out ?_ ?_ ?_ ?_); (focus go_simp); (focus (first | (go_simp; done) | (go_simp; rfl))); (focus (exact SS.out)); (focus rfl); (focus (exact sv_one ⟨rt, rv, b, bt, f, a, n, c, ja, jn, jc⟩)); intro wz hr hu; have Ez := Lib.hid hr; have Dz := Lib.hid (D7.out.put Z7.out (NB_sv svZ) hu); have Fz := Lib.hid (fun p hp => EnF.put (F7.out p hp) Z7.out (NB_sv svZ) hu); have Oz := Lib.hid (O7.out.upd hu (fun b off e => by have := HEA.out b off e; have := L5.out; omega)); have Bz := Lib.hid (B7.out.trans (hu.below B2.out.size)); clear hr hu))
      exact bodyPost_ret (results_row_tmp rfl _ _ w2.heap.size 25 _ _ _ (by go_simp) Ez.out Try.underlying25 rfl SS.out) rfl ⟨⟨rt, rv, b, bt, f, a, n, c, ja, jn, jc⟩, L.filter (fun _ => true), rfl, Dz.out, Oz.out.ents rfl Fz.out, rfl, rfl, rfl, rfl, rfl, rfl, rfl, (fun b off e => by have := HEA.out b off e; have := B5.out.size; omega), Bz.out⟩
end Go.Proofs.Ytbcaphkbjeejhaa.W
