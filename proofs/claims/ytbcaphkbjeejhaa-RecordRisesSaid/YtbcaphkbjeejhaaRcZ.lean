/- LAYER 11 (record): copied. -/
import Derived.Test.YtbcaphkbjeejhaaRcX
set_option linter.unusedSimpArgs false
set_option linter.unusedVariables false
namespace Go.Proofs.Ytbcaphkbjeejhaa.W
open Go Go.ChangeShapes Go.WideShapes Go.ChangeAt Go.RowKit

theorem infoEn : (Try.prog.info? 27).map (fun i => (i.zero, i.size, i.bytes)) = some (some (.agg #[.int .i64 0, .int .i64 0, .int .i64 0, .slice none 0 0]), 4, 48) := by kernel_rfl
theorem sv_zero : (Try.prog.info? 25).map (·.zero) = some (some (.agg [.int .i64 0, .int .i64 0, .int .i64 0, .int .i64 0, .int .i64 0, .slice none 0 0, .slice none 0 0].toArray)) := by kernel_rfl
theorem NB_sv (s : Sv) : NB s.cells := by
  intro x hx
  simp [Sv.cells, B] at hx
set_option maxRecDepth 100000 in
set_option maxHeartbeats 8000000 in
theorem scopied (s : Sv) (d : List UInt8) (L : List (En × List UInt8)) (w : World) (h : SvF w s d L) (hm : s.n ≤ 140737488355000) (hL : s.en ≤ 1000000) (hbig : ∀ p ∈ L, p.1.n ≤ 140737488355000) :
    Calls Try.prog 50 #[.agg s.cells.toArray] w fun x w' => ∃ (a : Option Addr) (c g : Nat) (L' : List (En × List UInt8)), x = .returned (.agg (Sv.cells ⟨s.t, s.v, s.b, s.bt, s.f, a, s.n, c, some ⟨g, 0, none⟩, s.en, s.en⟩).toArray) ∧ Rd w' a s.n c d ∧ w.heap.size ≤ g ∧ Row w' g 27 (flat (L'.map (·.1))) ∧ (∀ p ∈ L', EnF w' p.1 p.2) ∧ L'.map pe = L.map pe ∧ Below w.heap.size w w' := by
  obtain ⟨t, v, b, bt, f, a, n, c, ea, en, ec⟩ := s
  have HD := Lib.hid h.rd
  have HN := Lib.hid h.rd.hlen
  have HLN := Lib.hid h.es.hlen
  have HC := Lib.hid h.es.hcells
  have HF := Lib.hid h.es.hfit
  have HBIG := Lib.hid hbig
  have SZ := Lib.hid sv_zero
  have SS := Lib.hid sv_size
  have EZ := Lib.hid en_zero
  have ES := Lib.hid en_size
  have IE := Lib.hid infoEn
  unfold Sv.cells
  dsimp only at hm hL HN HLN HC ⊢
  clear h hbig
  go_enter Try.func50, Try.ntmps50
  go_wp2_with (first
    | (with_reducible refine box_row (o := ⟨some 1, _, _, _, _, _⟩) rfl _ _ rfl [.int .i64 t, .int .i64 v, .int .i64 b, .int .i64 bt, .int .i64 f, .slice a n c, .slice ea en ec] rfl ?_; intro w1 hr1 hb1 hz1; have S1 := Lib.hid hr1; have B1 := Lib.hid hb1; clear hr1 hb1 hz1)
    | ((with_reducible refine alloc_row (o := ⟨some 2, _, _, _, _, _⟩) rfl _ rfl _ SZ.out ?_); intro w2 hr2 hb2 hz2; have Z2 := Lib.hid hr2; have LT := Lib.hid (show w.heap.size < w1.heap.size from S1.out.lt); have S2 := Lib.hid (S1.out.below hb2 S1.out.lt); have B2 := Lib.hid (B1.out.trans (hb2.mono B1.out.size)); obtain ⟨c0, c1, c2, c3, c4, c5, c6⟩ := S2.out.q7; clear hr2 hb2 hz2)
    | (go_at_call 53; refine (fclone a n c d w2 (HD.out.mono B2.out) hm).mono ?_; rintro x w3 ⟨v', rfl, hf, hb⟩; obtain ⟨a', c', hv, hr⟩ := hf.form' n HN.out; subst hv; have R3 := Lib.hid hr; have S3 := Lib.hid (S2.out.below hb S2.out.lt); have Z3 := Lib.hid (Z2.out.below hb Z2.out.lt); have B3 := Lib.hid (B2.out.trans (hb.mono B2.out.size)); have U4 := Lib.hid (Upd.setCell w3 w.heap.size 5 (.slice a' n c')); have S4 := Lib.hid (show Row (w3.setCell ⟨w.heap.size, 5, none⟩ (.slice a' n c')) w.heap.size 25 [.int .i64 t, .int .i64 v, .int .i64 b, .int .i64 bt, .int .i64 f, .slice a' n c', .slice ea en ec] from S3.out.setV 5 (.slice a' n c')); have R4 := Lib.hid (R3.out.put S3.out (NB_sv ⟨t, v, b, bt, f, a, n, c, ea, en, ec⟩) U4.out); have Z4 := Lib.hid (Z3.out.upd U4.out (by have := LT.out; omega)); have B4 := Lib.hid (B3.out.trans (U4.out.below (Nat.le_refl _))); clear hf hr hb c0 c1 c2 c3 c4 c5 c6; have f5 := S3.out.frozen 5; obtain ⟨c0, c1, c2, c3, c4, c5, c6⟩ := S3.out.q7)
    | (at_make; refine make_wide rfl _ _ _ rfl 27 #[.int .i64 0, .int .i64 0, .int .i64 0, .slice none 0 0] 4 48 (by kernel_rfl) IE.out (en : Int) en (by go_simp) (by go_simp) rfl (by omega) (by omega) (by omega) ?_; intro w5 hr hb hz; obtain ⟨g, hg⟩ : ∃ g, (World.heap (w3.setCell ⟨w.heap.size, 5, none⟩ (.slice a' n c'))).size = g := ⟨_, rfl⟩; have GB := Lib.hid (show w1.heap.size < g from hg ▸ Z4.out.lt); rw [made_en] at hr; have N5 := Lib.hid hr; have S5 := Lib.hid (S4.out.below hb S4.out.lt); have Z5 := Lib.hid (Z4.out.below hb Z4.out.lt); have R5 := Lib.hid (R4.out.mono hb); have B5 := Lib.hid (B4.out.trans (hb.mono B4.out.size)); rw [hg] at N5 ⊢; clear hr hb hz hg c0 c1 c2 c3 c4 c5 c6 f5; obtain ⟨c0, c1, c2, c3, c4, c5, c6⟩ := S5.out.q7))
  clear c0 c1 c2 c3 c4 c5 c6
  have HE : Hid (∀ p ∈ ([] : List (En × List UInt8)), EnF w5 p.1 p.2) := Lib.hid (by simp)
  go_loopw [17] (fun i wr => ∃ (k : Nat) (L' : List (En × List UInt8)), i = .int .i64 (k : Int) ∧ k ≤ en ∧ Hid (L'.map pe = (L.take k).map pe) ∧ Hid (∀ p ∈ L', EnF wr p.1 p.2) ∧ Hid (Row wr g 27 (flat (L'.map (·.1) ++ List.replicate (en - k) En.zero))) ∧ Hid (Row wr w.heap.size 25 [.int .i64 t, .int .i64 v, .int .i64 b, .int .i64 bt, .int .i64 f, .slice a' n c', .slice ea en ec]) ∧ Hid (Row wr w1.heap.size 25 [.int .i64 0, .int .i64 0, .int .i64 0, .int .i64 0, .int .i64 0, .slice none 0 0, .slice none 0 0]) ∧ Hid (Rd wr a' n c' d) ∧ Hid (Below w.heap.size w wr)) (fun i _ => en - (intOf i).toNat)
  case atStart => exact ⟨0, [], rfl, Nat.zero_le _, Lib.hid rfl, HE, N5, S5, Z5, R5, B5⟩
  case round =>
    obtain ⟨k, L', rfl, hk, HP, HE', HN5, HS, HZ, HR, HB⟩ := hrel
    have HLK := Lib.hid (show L'.length = k by have := congrArg List.length HP.out; simp at this; have := HLN.out; omega)
    by_cases hlt : k < en
    · rcases HC.out with h0 | ⟨x, off, rfl, hx, hcell⟩
      · exact absurd h0 (by omega)
      have hfit := HF.out (L.getD k Ez) (by
        have hk2 : k < L.length := by rw [HLN.out]; exact hlt
        have : L.getD k Ez = L[k] := by simp [List.getD_eq_getElem?_getD, hk2]
        rw [this]; exact List.getElem_mem hk2)
      have hbk := HBIG.out (L.getD k Ez) (by
        have hk2 : k < L.length := by rw [HLN.out]; exact hlt
        have : L.getD k Ez = L[k] := by simp [List.getD_eq_getElem?_getD, hk2]
        rw [this]; exact List.getElem_mem hk2)
      have hc1 := hcell k hlt
      obtain ⟨⟨⟨ix, tm, kd, qa, qn, qc⟩, ql⟩, hq⟩ : ∃ q, L.getD k Ez = q := ⟨_, rfl⟩
      rw [hq] at hfit hbk hc1
      have HQ := Lib.hid hq
      have HFI := Lib.hid hfit
      have HX1 := Lib.hid (fun j v hj => (show wr.cell? ⟨x, off + k * 4 + j, none⟩ = some v by rw [HB.out.cell (p := ⟨x, off + k * 4 + j, none⟩) hx]; exact hc1 j v hj))
      dsimp only at hbk
      clear hfit hc1 hcell hq
      obtain ⟨mm, hmm⟩ : ∃ mm, en - k = mm + 1 := ⟨en - k - 1, by omega⟩
      rw [hmm] at HN5
      have g1 : (0 : Int) ≤ (k : Int) := by omega
      have g2 : (k : Int) < (en : Int) := by omega
      go_wp2_with (first
        | ((with_reducible refine load_cells (o := ⟨some 21, _, _, _, _, _⟩) rfl _ _ rfl x (off + k * 4) ?_ (En.cells ⟨ix, tm, kd, qa, qn, qc⟩) _ ?_ Try.underlying27 rfl ?_ ?_); (focus go_simp); (focus (exact HX1.out)); (focus (exact ES.out)))
        | ((with_reducible refine alloc_row (o := ⟨some 5, _, _, _, _, _⟩) rfl _ rfl _ EZ.out ?_); intro w6 hr hb hz; have E6 := Lib.hid hr; have GL := Lib.hid (show g < wr.heap.size ∧ w1.heap.size < wr.heap.size ∧ w.heap.size < wr.heap.size from ⟨HN5.out.lt, HZ.out.lt, HS.out.lt⟩); have N6 := Lib.hid (HN5.out.below hb HN5.out.lt); have S6 := Lib.hid (HS.out.below hb HS.out.lt); have Z6 := Lib.hid (HZ.out.below hb HZ.out.lt); have R6 := Lib.hid (HR.out.mono hb); have F6 := Lib.hid (fun p hp => (HE'.out p hp).mono hb); have B6 := Lib.hid (HB.out.trans (hb.mono HB.out.size)); clear hr hb hz)
        | ((with_reducible refine store_row (o := ⟨none, _, _, _, _, _⟩) rfl _ (.tmp 5) _ rfl wr.heap.size (En.cells ⟨ix, tm, kd, qa, qn, qc⟩) ?_ ?_ 27 _ E6.out ?_ ?_ ?_ ?_); (focus go_simp); (focus (first | (go_simp; done) | (go_simp; rfl))); (focus (exact ES.out)); (focus rfl); (focus (exact en_one _)); intro w7 hr hu; have E7 := Lib.hid hr; have N7 := Lib.hid (N6.out.upd hu (by have := GL.out; omega)); have S7 := Lib.hid (S6.out.upd hu (by have := GL.out; omega)); have Z7 := Lib.hid (Z6.out.upd hu (by have := GL.out; omega)); have R7 := Lib.hid (R6.out.put E6.out (NB_en _ _ _ _ _ _) hu); have F7 := Lib.hid (fun p hp => (show EnF w7 p.1 p.2 from ⟨(F6.out p hp).ix, (F6.out p hp).tm, (F6.out p hp).kd, (F6.out p hp).rd.put E6.out (NB_en _ _ _ _ _ _) hu⟩)); have B7 := Lib.hid (B6.out.trans (hu.below HB.out.size)); clear hr hu)
        | ((with_reducible refine load_row (o := ⟨some 24, _, _, _, _, _⟩) rfl _ _ rfl wr.heap.size ?_ _ (En.cells ⟨ix, tm, kd, qa, qn, qc⟩) _ E7.out Try.underlying27 rfl ?_ ?_); (focus go_simp); (focus (exact ES.out)))
        | (go_at_call 56; refine (rcopE ⟨ix, tm, kd, qa, qn, qc⟩ ql w7 (HFI.out.rd.mono B7.out) hbk).mono ?_; rintro e w8 ⟨na, nc, rfl, hr, hb⟩; have Q8 := Lib.hid hr; have N8 := Lib.hid (N7.out.below hb N7.out.lt); have S8 := Lib.hid (S7.out.below hb S7.out.lt); have Z8 := Lib.hid (Z7.out.below hb Z7.out.lt); have R8 := Lib.hid (R7.out.mono hb); have F8 := Lib.hid (fun p hp => (F7.out p hp).mono hb); have B8 := Lib.hid (B7.out.trans (hb.mono B7.out.size)); clear hr hb)
        | ((with_reducible refine store_part (o := ⟨none, _, _, _, _, _⟩) rfl _ (.tmp 26) _ rfl g (k * 4) (En.cells ⟨ix, tm, kd, na, qn, nc⟩) ?_ ?_ 27 _ N8.out ?_ ?_ ?_ ?_); (focus go_simp); (focus (first | (go_simp; done) | (go_simp; rfl))); (focus (exact en_size)); (focus (rw [flat_len]; simp [HLK.out, En.cells]; omega)); (focus (exact en_one _)); intro w9 hr hu; rw [splice_flat _ k _ (by simp [HLK.out]), set_step _ k _ mm _ (by simp [HLK.out])] at hr; have N9 := Lib.hid hr; have S9 := Lib.hid (S8.out.upd hu (by have := GB.out; have := LT.out; omega)); have Z9 := Lib.hid (Z8.out.upd hu (by have := GB.out; omega)); have R9 := Lib.hid (R8.out.put N8.out (NB_flat _) hu); have F9 := Lib.hid (fun p hp => (show EnF w9 p.1 p.2 from ⟨(F8.out p hp).ix, (F8.out p hp).tm, (F8.out p hp).kd, (F8.out p hp).rd.put N8.out (NB_flat _) hu⟩)); have Q9 := Lib.hid (Q8.out.put N8.out (NB_flat _) hu); have B9 := Lib.hid (B8.out.trans (hu.below (by have := GB.out; have := LT.out; omega))); clear hr hu))
      go_roundw
      case rel =>
        refine ⟨k + 1, L' ++ [(⟨ix, tm, kd, na, qn, nc⟩, ql)], vint (by omega), by omega, Lib.hid (take_pe HP.out (by rw [HLN.out]; exact hlt) (by rw [HQ.out]; rfl)), Lib.hid ?_, Lib.hid ?_, S9, Z9, R9, B9⟩
        · intro p hp
          rcases List.mem_append.1 hp with h1 | h1
          · exact F9.out p h1
          · rw [List.mem_singleton.1 h1]; exact ⟨HFI.out.ix, HFI.out.tm, HFI.out.kd, Q9.out⟩
        · have : en - (k + 1) = mm := by omega
          rw [this, List.map_append]; exact N9.out
      case measure => simp [intOf]; omega
    · obtain rfl : k = en := by omega
      have hgn := HN5.out
      rw [Nat.sub_self, List.replicate_zero, List.append_nil] at hgn
      have NX := Lib.hid hgn
      have hpp := HP.out
      rw [List.take_of_length_le (by rw [HLN.out]; exact Nat.le_refl _)] at hpp
      have HPP := Lib.hid hpp
      have U7 := Lib.hid (Upd.setCell wr w.heap.size 6 (.slice (some ⟨g, 0, none⟩) k k))
      have S7 := Lib.hid (show Row (wr.setCell ⟨w.heap.size, 6, none⟩ (.slice (some ⟨g, 0, none⟩) k k)) w.heap.size 25 (Sv.cells ⟨t, v, b, bt, f, a', n, c', some ⟨g, 0, none⟩, k, k⟩) from HS.out.setV 6 (.slice (some ⟨g, 0, none⟩) k k))
      have Z7 := Lib.hid (HZ.out.upd U7.out (by have := LT.out; omega))
      have N7 := Lib.hid (NX.out.upd U7.out (by have := LT.out; have := GB.out; omega))
      have R7 := Lib.hid (HR.out.put HS.out (NB_sv ⟨t, v, b, bt, f, a', n, c', ea, k, ec⟩) U7.out)
      have F7 := Lib.hid (fun p hp => (show EnF (wr.setCell ⟨w.heap.size, 6, none⟩ (.slice (some ⟨g, 0, none⟩) k k)) p.1 p.2 from ⟨(HE'.out p hp).ix, (HE'.out p hp).tm, (HE'.out p hp).kd, (HE'.out p hp).rd.put HS.out (NB_sv ⟨t, v, b, bt, f, a', n, c', ea, k, ec⟩) U7.out⟩))
      have B7 := Lib.hid (HB.out.trans (U7.out.below (Nat.le_refl _)))
      have f6 := HS.out.frozen 6
      obtain ⟨c0, c1, c2, c3, c4, c5, c6⟩ := HS.out.q7
      clear hgn hpp
      go_wp2_with (first
        | ((with_reducible refine load_row (o := ⟨some 30, _, _, _, _, _⟩) rfl _ _ rfl w.heap.size ?_ _ (Sv.cells ⟨t, v, b, bt, f, a', n, c', some ⟨g, 0, none⟩, k, k⟩) _ S7.out Try.underlying25 rfl ?_ ?_); (focus go_simp); (focus (exact SS.out)))
        | ((with_reducible refine store_row (o := ⟨none, _, _, _, _, _⟩) rfl _ (.tmp 2) _ rfl w1.heap.size (Sv.cells ⟨t, v, b, bt, f, a', n, c', some ⟨g, 0, none⟩, k, k⟩) ?_ ?_ 25 _ Z7.out ?_ ?_ ?_ ?_); (focus go_simp); (focus (first | (go_simp; done) | (go_simp; rfl))); (focus (exact SS.out)); (focus rfl); (focus (exact sv_one _)); intro w8 hr hu; have E8 := Lib.hid hr; have N8 := Lib.hid (N7.out.upd hu (by have := GB.out; omega)); have R8 := Lib.hid (R7.out.put Z7.out (NB_sv ⟨0, 0, 0, 0, 0, none, 0, 0, none, 0, 0⟩) hu); have F8 := Lib.hid (fun p hp => (show EnF w8 p.1 p.2 from ⟨(F7.out p hp).ix, (F7.out p hp).tm, (F7.out p hp).kd, (F7.out p hp).rd.put Z7.out (NB_sv ⟨0, 0, 0, 0, 0, none, 0, 0, none, 0, 0⟩) hu⟩)); have B8 := Lib.hid (B7.out.trans (hu.below (Nat.le_of_lt LT.out))); clear hr hu))
      exact bodyPost_ret (results_cell_row rfl _ _ w1.heap.size 25 _ _ _ (by go_simp) E8.out Try.underlying25 rfl SS.out) rfl ⟨a', c', g, L', rfl, R8.out, by have := LT.out; have := GB.out; omega, N8.out, F8.out, HPP.out, B8.out⟩
end Go.Proofs.Ytbcaphkbjeejhaa.W
