/- LAYER 11 (record): the law Applies. -/
import Derived.Test.YtbcaphkbjeejhaaRcLa
set_option linter.unusedSimpArgs false
set_option linter.unusedVariables false
namespace Go.Proofs.Ytbcaphkbjeejhaa.W
open Go Go.ChangeShapes Go.WideShapes Go.ChangeAt Go.RowKit

theorem fewSL (s : Sv) (d : List UInt8) (L : List (En × List UInt8)) (w : World) (h : SvF w s d L) : Calls Try.prog 9 #[.agg #[.int .i64 s.t, .int .i64 s.v, .int .i64 s.b, .int .i64 s.bt, .int .i64 s.f, .slice s.a s.n s.c, .slice s.ea s.en s.ec]] w fun x w' => x = .returned (.bool (fewSV s L)) ∧ Below w.heap.size w w' := fewS s d L w h
theorem zbound {w : World} {s : Sv} {d : List UInt8} {L : List (En × List UInt8)} (h : SvF w s d L) : s.n = d.length := h.rd.hlen.symm
set_option maxRecDepth 100000 in
set_option maxHeartbeats 16000000 in
theorem law_RecordApplies (s t : Sv) (r : Rc) (w : World) (ws : ∃ d L, SvF w s d L) (wt : ∃ d L, SvF w t d L) (wr : ∃ l p, RcF w r l p) :
    Calls Try.prog 3 #[.agg s.cells.toArray, .agg t.cells.toArray, .agg r.cells.toArray] w fun x w' => x = .returned (.bool true) ∧ Below w.heap.size w w' := by
  obtain ⟨d, L, hs⟩ := ws
  obtain ⟨d', M, ht⟩ := wt
  obtain ⟨l, p, hr⟩ := wr
  have HS := Lib.hid hs
  have HT := Lib.hid ht
  have HR := Lib.hid hr
  have SS := Lib.hid sv_size
  have RS := Lib.hid rc_size
  have SZ := Lib.hid sv_zero
  have HSP := Lib.hid (fun h => fewSV_spec (s := s) (L := L) h)
  obtain ⟨f1, hf1⟩ : ∃ b, fewSV s L = b := ⟨_, rfl⟩
  obtain ⟨f2, hf2⟩ : ∃ b, fewSV t M = b := ⟨_, rfl⟩
  have HF1 := Lib.hid hf1
  have HF2 := Lib.hid hf2
  clear hs ht hr hf1 hf2
  rcases f1 with _ | _
  · go_enter Try.func3, Try.ntmps3
    go_wp2_with (first
      | (with_reducible refine box_row (o := ⟨some 3, _, _, _, _, _⟩) rfl _ _ rfl s.cells rfl ?_; intro w1 hr1 hb1 hz1; have S1 := Lib.hid hr1; have B1 := Lib.hid hb1; clear hr1 hb1 hz1)
      | (with_reducible refine box_row (o := ⟨some 4, _, _, _, _, _⟩) rfl _ _ rfl t.cells rfl ?_; intro w2 hr2 hb2 hz2; have T2 := Lib.hid hr2; have S2 := Lib.hid (S1.out.below hb2 S1.out.lt); have B2 := Lib.hid (B1.out.trans (hb2.mono B1.out.size)); clear hr2 hb2 hz2)
      | (with_reducible refine box_row (o := ⟨some 5, _, _, _, _, _⟩) rfl _ _ rfl r.cells rfl ?_; intro w3 hr3 hb3 hz3; have R3 := Lib.hid hr3; have S3 := Lib.hid (S2.out.below hb3 S2.out.lt); have T3 := Lib.hid (T2.out.below hb3 T2.out.lt); have B3 := Lib.hid (B2.out.trans (hb3.mono B2.out.size)); clear hr3 hb3 hz3)
      | ((with_reducible refine load_row (o := ⟨some 13, _, _, _, _, _⟩) rfl _ _ rfl w.heap.size ?_ _ s.cells _ S3.out Try.underlying25 rfl ?_ ?_); (focus go_simp); (focus (exact SS.out)))
      | (go_at_call 9; (with_reducible refine (fewS s d L w3 ?_).mono ?_); (focus (exact HS.out.mono B3.out)); rw [HF1.out]; rintro x w4 ⟨rfl, hb⟩; have S4 := Lib.hid (S3.out.below hb S3.out.lt); have T4 := Lib.hid (T3.out.below hb T3.out.lt); have R4 := Lib.hid (R3.out.below hb R3.out.lt); have B4 := Lib.hid (B3.out.trans (hb.mono B3.out.size)); obtain ⟨k0, k1, k2, k3, k4, k5, k6⟩ := T4.out.q7; clear hb)
      | (go_at_call 10; (with_reducible refine (awake11 w4).mono ?_); rintro x wz ⟨rfl, hb⟩; have Bz := Lib.hid (B4.out.trans (hb.mono B4.out.size)); clear hb))
    go_ret
    exact ⟨rfl, Bz.out⟩
  rcases f2 with _ | _
  · go_enter Try.func3, Try.ntmps3
    go_wp2_with (first
      | (with_reducible refine box_row (o := ⟨some 3, _, _, _, _, _⟩) rfl _ _ rfl s.cells rfl ?_; intro w1 hr1 hb1 hz1; have S1 := Lib.hid hr1; have B1 := Lib.hid hb1; clear hr1 hb1 hz1)
      | (with_reducible refine box_row (o := ⟨some 4, _, _, _, _, _⟩) rfl _ _ rfl t.cells rfl ?_; intro w2 hr2 hb2 hz2; have T2 := Lib.hid hr2; have S2 := Lib.hid (S1.out.below hb2 S1.out.lt); have B2 := Lib.hid (B1.out.trans (hb2.mono B1.out.size)); clear hr2 hb2 hz2)
      | (with_reducible refine box_row (o := ⟨some 5, _, _, _, _, _⟩) rfl _ _ rfl r.cells rfl ?_; intro w3 hr3 hb3 hz3; have R3 := Lib.hid hr3; have S3 := Lib.hid (S2.out.below hb3 S2.out.lt); have T3 := Lib.hid (T2.out.below hb3 T2.out.lt); have B3 := Lib.hid (B2.out.trans (hb3.mono B2.out.size)); clear hr3 hb3 hz3)
      | ((with_reducible refine load_row (o := ⟨some 13, _, _, _, _, _⟩) rfl _ _ rfl w.heap.size ?_ _ s.cells _ S3.out Try.underlying25 rfl ?_ ?_); (focus go_simp); (focus (exact SS.out)))
      | (fail)
      | (go_at_call 9; (with_reducible refine (fewS s d L w3 ?_).mono ?_); (focus (exact HS.out.mono B3.out)); rw [HF1.out]; rintro x w4 ⟨rfl, hb⟩; have S4 := Lib.hid (S3.out.below hb S3.out.lt); have T4 := Lib.hid (T3.out.below hb T3.out.lt); have R4 := Lib.hid (R3.out.below hb R3.out.lt); have B4 := Lib.hid (B3.out.trans (hb.mono B3.out.size)); obtain ⟨k0, k1, k2, k3, k4, k5, k6⟩ := T4.out.q7; clear hb)
      | (go_at_call 9; (with_reducible refine (fewSL t d' M w4 ?_).mono ?_); (focus (exact HT.out.mono B4.out)); rw [HF2.out]; rintro x w5 ⟨rfl, hb⟩; have S5 := Lib.hid (S4.out.below hb S4.out.lt); have T5 := Lib.hid (T4.out.below hb T4.out.lt); have R5 := Lib.hid (R4.out.below hb R4.out.lt); have B5 := Lib.hid (B4.out.trans (hb.mono B4.out.size)); clear hb k0 k1 k2 k3 k4 k5 k6)
      | (go_at_call 10; (with_reducible refine (awake11 w5).mono ?_); rintro x wz ⟨rfl, hb⟩; have Bz := Lib.hid (B5.out.trans (hb.mono B5.out.size)); clear hb))
    go_ret
    exact ⟨rfl, Bz.out⟩
  by_cases h3 : (3000 : Int) < (r.n : Int)
  · go_enter Try.func3, Try.ntmps3
    go_wp2_with (first
      | (with_reducible refine box_row (o := ⟨some 3, _, _, _, _, _⟩) rfl _ _ rfl s.cells rfl ?_; intro w1 hr1 hb1 hz1; have S1 := Lib.hid hr1; have B1 := Lib.hid hb1; clear hr1 hb1 hz1)
      | (with_reducible refine box_row (o := ⟨some 4, _, _, _, _, _⟩) rfl _ _ rfl t.cells rfl ?_; intro w2 hr2 hb2 hz2; have T2 := Lib.hid hr2; have S2 := Lib.hid (S1.out.below hb2 S1.out.lt); have B2 := Lib.hid (B1.out.trans (hb2.mono B1.out.size)); clear hr2 hb2 hz2)
      | (with_reducible refine box_row (o := ⟨some 5, _, _, _, _, _⟩) rfl _ _ rfl r.cells rfl ?_; intro w3 hr3 hb3 hz3; have R3 := Lib.hid hr3; have S3 := Lib.hid (S2.out.below hb3 S2.out.lt); have T3 := Lib.hid (T2.out.below hb3 T2.out.lt); have B3 := Lib.hid (B2.out.trans (hb3.mono B2.out.size)); clear hr3 hb3 hz3)
      | ((with_reducible refine load_row (o := ⟨some 13, _, _, _, _, _⟩) rfl _ _ rfl w.heap.size ?_ _ s.cells _ S3.out Try.underlying25 rfl ?_ ?_); (focus go_simp); (focus (exact SS.out)))
      | (fail)
      | (go_at_call 9; (with_reducible refine (fewS s d L w3 ?_).mono ?_); (focus (exact HS.out.mono B3.out)); rw [HF1.out]; rintro x w4 ⟨rfl, hb⟩; have S4 := Lib.hid (S3.out.below hb S3.out.lt); have T4 := Lib.hid (T3.out.below hb T3.out.lt); have R4 := Lib.hid (R3.out.below hb R3.out.lt); have B4 := Lib.hid (B3.out.trans (hb.mono B3.out.size)); obtain ⟨k0, k1, k2, k3, k4, k5, k6⟩ := T4.out.q7; clear hb)
      | (go_at_call 9; (with_reducible refine (fewSL t d' M w4 ?_).mono ?_); (focus (exact HT.out.mono B4.out)); rw [HF2.out]; rintro x w5 ⟨rfl, hb⟩; have S5 := Lib.hid (S4.out.below hb S4.out.lt); have T5 := Lib.hid (T4.out.below hb T4.out.lt); have R5 := Lib.hid (R4.out.below hb R4.out.lt); have B5 := Lib.hid (B4.out.trans (hb.mono B4.out.size)); obtain ⟨d0, d1, d2, d3, d4, d5, d6, d7, d8, d9⟩ := R5.out.q10; clear hb k0 k1 k2 k3 k4 k5 k6)
      | (go_at_call 10; (with_reducible refine (awake11 w5).mono ?_); rintro x wz ⟨rfl, hb⟩; have Bz := Lib.hid (B5.out.trans (hb.mono B5.out.size)); clear hb))
    go_ret
    exact ⟨rfl, Bz.out⟩
  by_cases h5 : (5000 : Int) < (r.e.n : Int)
  · go_enter Try.func3, Try.ntmps3
    go_wp2_with (first
      | (with_reducible refine box_row (o := ⟨some 3, _, _, _, _, _⟩) rfl _ _ rfl s.cells rfl ?_; intro w1 hr1 hb1 hz1; have S1 := Lib.hid hr1; have B1 := Lib.hid hb1; clear hr1 hb1 hz1)
      | (with_reducible refine box_row (o := ⟨some 4, _, _, _, _, _⟩) rfl _ _ rfl t.cells rfl ?_; intro w2 hr2 hb2 hz2; have T2 := Lib.hid hr2; have S2 := Lib.hid (S1.out.below hb2 S1.out.lt); have B2 := Lib.hid (B1.out.trans (hb2.mono B1.out.size)); clear hr2 hb2 hz2)
      | (with_reducible refine box_row (o := ⟨some 5, _, _, _, _, _⟩) rfl _ _ rfl r.cells rfl ?_; intro w3 hr3 hb3 hz3; have R3 := Lib.hid hr3; have S3 := Lib.hid (S2.out.below hb3 S2.out.lt); have T3 := Lib.hid (T2.out.below hb3 T2.out.lt); have B3 := Lib.hid (B2.out.trans (hb3.mono B2.out.size)); clear hr3 hb3 hz3)
      | ((with_reducible refine load_row (o := ⟨some 13, _, _, _, _, _⟩) rfl _ _ rfl w.heap.size ?_ _ s.cells _ S3.out Try.underlying25 rfl ?_ ?_); (focus go_simp); (focus (exact SS.out)))
      | (fail)
      | (go_at_call 9; (with_reducible refine (fewS s d L w3 ?_).mono ?_); (focus (exact HS.out.mono B3.out)); rw [HF1.out]; rintro x w4 ⟨rfl, hb⟩; have S4 := Lib.hid (S3.out.below hb S3.out.lt); have T4 := Lib.hid (T3.out.below hb T3.out.lt); have R4 := Lib.hid (R3.out.below hb R3.out.lt); have B4 := Lib.hid (B3.out.trans (hb.mono B3.out.size)); obtain ⟨k0, k1, k2, k3, k4, k5, k6⟩ := T4.out.q7; clear hb)
      | (go_at_call 9; (with_reducible refine (fewSL t d' M w4 ?_).mono ?_); (focus (exact HT.out.mono B4.out)); rw [HF2.out]; rintro x w5 ⟨rfl, hb⟩; have S5 := Lib.hid (S4.out.below hb S4.out.lt); have T5 := Lib.hid (T4.out.below hb T4.out.lt); have R5 := Lib.hid (R4.out.below hb R4.out.lt); have B5 := Lib.hid (B4.out.trans (hb.mono B4.out.size)); obtain ⟨d0, d1, d2, d3, d4, d5, d6, d7, d8, d9⟩ := R5.out.q10; clear hb k0 k1 k2 k3 k4 k5 k6)
      | (go_at_call 10; (with_reducible refine (awake11 w5).mono ?_); rintro x wz ⟨rfl, hb⟩; have Bz := Lib.hid (B5.out.trans (hb.mono B5.out.size)); clear hb))
    go_ret
    exact ⟨rfl, Bz.out⟩
  obtain ⟨hl1, hb1, hn1⟩ := HSP.out HF1.out
  obtain ⟨hl2, hb2, hn2⟩ := fewSV_spec HF2.out
  have hen : s.en ≤ 1000000 := by have := HS.out.es.hlen; omega
  have htn : t.en ≤ 1000000 := by have := HT.out.es.hlen; omega
  have hsn : s.n ≤ 140737488355000 := by omega
  have hbg : ∀ p ∈ L, p.1.n ≤ 140737488355000 := fun p hp => by have := hb1 p hp; omega
  obtain ⟨Q, hQ⟩ : ∃ Q, (s.ps d L).app r l p = Q := ⟨_, rfl⟩
  have HQ := Lib.hid hQ
  have HSN := Lib.hid (fun s' d' L' w' (h : SvF w' s' d' L') (he : s'.ps d' L' = Q.1) => (show s'.en ≤ 1000000 by
    have h1 := h.es.hlen
    have h2 : L'.length = Q.1.l.length := by rw [← he]; simp [Sv.ps]
    have h3 : Q.1.l.length ≤ 61 := by
      rw [← hQ]
      have h5 : ∀ f : (Int × Int × Int × List UInt8) → Bool, ((L.map pe).filter f).length ≤ 61 := fun f => Nat.le_trans (List.length_filter_le _ _) (by rw [List.length_map]; omega)
      have h4 : (L.map pe).length ≤ 60 := by rw [List.length_map]; exact hl1
      unfold Ps.app Ps.go
      split
      · show (L.map pe).length ≤ 61; omega
      · split
        · show (L.map pe).length ≤ 61; omega
        · dsimp only
          split
          · exact h5 _
          · split
            · show (L.map pe).length ≤ 61; omega
            · split
              · show (L.map pe ++ _).length ≤ 61; rw [List.length_append]; simp only [List.length_singleton]; omega
              · exact h5 _
    omega))
  clear hQ hl1 hb1 hn1 hl2 hb2 hn2 HSP
  go_enter Try.func3, Try.ntmps3
  go_wp2_with (first
    | (with_reducible refine box_row (o := ⟨some 3, _, _, _, _, _⟩) rfl _ _ rfl s.cells rfl ?_; intro w1 hr1 hb1 hz1; have S1 := Lib.hid hr1; have B1 := Lib.hid hb1; clear hr1 hb1 hz1)
    | (with_reducible refine box_row (o := ⟨some 4, _, _, _, _, _⟩) rfl _ _ rfl t.cells rfl ?_; intro w2 hr2 hb2 hz2; have T2 := Lib.hid hr2; have S2 := Lib.hid (S1.out.below hb2 S1.out.lt); have B2 := Lib.hid (B1.out.trans (hb2.mono B1.out.size)); clear hr2 hb2 hz2)
    | (with_reducible refine box_row (o := ⟨some 5, _, _, _, _, _⟩) rfl _ _ rfl r.cells rfl ?_; intro w3 hr3 hb3 hz3; have R3 := Lib.hid hr3; have S3 := Lib.hid (S2.out.below hb3 S2.out.lt); have T3 := Lib.hid (T2.out.below hb3 T2.out.lt); have B3 := Lib.hid (B2.out.trans (hb3.mono B2.out.size)); clear hr3 hb3 hz3)
    | ((with_reducible refine load_row (o := ⟨some 13, _, _, _, _, _⟩) rfl _ _ rfl w.heap.size ?_ _ s.cells _ S3.out Try.underlying25 rfl ?_ ?_); (focus go_simp); (focus (exact SS.out)))
    | (fail)
    | (go_at_call 9; (with_reducible refine (fewS s d L w3 ?_).mono ?_); (focus (exact HS.out.mono B3.out)); rw [HF1.out]; rintro x w4 ⟨rfl, hb⟩; have S4 := Lib.hid (S3.out.below hb S3.out.lt); have T4 := Lib.hid (T3.out.below hb T3.out.lt); have R4 := Lib.hid (R3.out.below hb R3.out.lt); have B4 := Lib.hid (B3.out.trans (hb.mono B3.out.size)); obtain ⟨k0, k1, k2, k3, k4, k5, k6⟩ := T4.out.q7; clear hb)
    | (go_at_call 9; (with_reducible refine (fewSL t d' M w4 ?_).mono ?_); (focus (exact HT.out.mono B4.out)); rw [HF2.out]; rintro x w5 ⟨rfl, hb⟩; have S5 := Lib.hid (S4.out.below hb S4.out.lt); have T5 := Lib.hid (T4.out.below hb T4.out.lt); have R5 := Lib.hid (R4.out.below hb R4.out.lt); have B5 := Lib.hid (B4.out.trans (hb.mono B4.out.size)); obtain ⟨d0, d1, d2, d3, d4, d5, d6, d7, d8, d9⟩ := R5.out.q10; obtain ⟨c0, c1, c2, c3, c4, c5, c6⟩ := S5.out.q7; clear hb k0 k1 k2 k3 k4 k5 k6)
    | (go_at_call 11; (with_reducible refine (eclone s.ea s.en s.ec L w5 ?_ hen).mono ?_); (focus (exact HS.out.es.mono B5.out)); rintro x w6 ⟨oa, oc, rfl, ho, hb⟩; have O6 := Lib.hid ho; have S6 := Lib.hid (S5.out.below hb S5.out.lt); have T6 := Lib.hid (T5.out.below hb T5.out.lt); have R6 := Lib.hid (R5.out.below hb R5.out.lt); have B6 := Lib.hid (B5.out.trans (hb.mono B5.out.size)); clear ho hb c0 c1 c2 c3 c4 c5 c6 d0 d1 d2 d3 d4 d5 d6 d7 d8 d9)
    | ((with_reducible refine load_row (o := ⟨some 39, _, _, _, _, _⟩) rfl _ _ rfl w.heap.size ?_ _ s.cells _ S6.out Try.underlying25 rfl ?_ ?_); (focus go_simp); (focus (exact SS.out)))
    | ((with_reducible refine load_row (o := ⟨some 40, _, _, _, _, _⟩) rfl _ _ rfl w2.heap.size ?_ _ r.cells _ R6.out Try.underlying29 rfl ?_ ?_); (focus go_simp); (focus (exact RS.out)))
    | (go_at_call 12; (with_reducible refine (rapply s d L r l p w6 ?_ ?_ hsn hen hbg).mono ?_); (focus (exact HS.out.mono B6.out)); (focus (exact HR.out.mono B6.out)); rw [HQ.out]; rintro x w7 ⟨sx, dx, Lx, rfl, hx, hex, -, hb⟩; have X7 := Lib.hid hx; have EX := Lib.hid hex; have O7 := Lib.hid (O6.out.mono hb); have S7 := Lib.hid (S6.out.below hb S6.out.lt); have T7 := Lib.hid (T6.out.below hb T6.out.lt); have R7 := Lib.hid (R6.out.below hb R6.out.lt); have B7 := Lib.hid (B6.out.trans (hb.mono B6.out.size)); clear hx hex hb)
    | ((with_reducible refine alloc_row (o := ⟨some 8, _, _, _, _, _⟩) rfl _ rfl _ SZ.out ?_); intro w8 hr hb hz; have P8 := Lib.hid hr; have X8 := Lib.hid (X7.out.mono hb); have O8 := Lib.hid (O7.out.mono hb); have S8 := Lib.hid (S7.out.below hb S7.out.lt); have T8 := Lib.hid (T7.out.below hb T7.out.lt); have R8 := Lib.hid (R7.out.below hb R7.out.lt); have B8 := Lib.hid (B7.out.trans (hb.mono B7.out.size)); have L7 := Lib.hid (show w.heap.size < w7.heap.size ∧ w1.heap.size < w7.heap.size ∧ w2.heap.size < w7.heap.size from ⟨S7.out.lt, T7.out.lt, R7.out.lt⟩); have XL := Lib.hid (X7.out.es.blk); have OL := Lib.hid (O7.out.blk); clear hr hb hz)
    | ((with_reducible refine store_row (o := ⟨none, _, _, _, _, _⟩) rfl _ (.tmp 8) _ rfl w7.heap.size sx.cells ?_ ?_ 25 _ P8.out ?_ ?_ (sv_one _) ?_); (focus go_simp); (focus (first | (go_simp; done) | (go_simp; rfl))); (focus (exact SS.out)); (focus rfl); intro w9 hr hu; have P9 := Lib.hid hr; have X9 := Lib.hid (X8.out.put (z := svZ) P8.out hu XL.out); have O9 := Lib.hid (O8.out.put P8.out (NB_sv svZ) hu OL.out); have S9 := Lib.hid (S8.out.upd hu (by have := L7.out; omega)); have T9 := Lib.hid (T8.out.upd hu (by have := L7.out; omega)); have R9 := Lib.hid (R8.out.upd hu (by have := L7.out; omega)); have B9 := Lib.hid (B8.out.trans (hu.below B7.out.size)); clear hr hu)
    | ((with_reducible refine load_row (o := ⟨some 45, _, _, _, _, _⟩) rfl _ _ rfl w.heap.size ?_ _ s.cells _ S9.out Try.underlying25 rfl ?_ ?_); (focus go_simp); (focus (exact SS.out)))
    | ((with_reducible refine load_row (o := ⟨some 46, _, _, _, _, _⟩) rfl _ _ rfl w2.heap.size ?_ _ r.cells _ R9.out Try.underlying29 rfl ?_ ?_); (focus go_simp); (focus (exact RS.out)))
    | (go_at_call 13; (with_reducible refine (uapply s d L r l p w9 ?_ ?_ hsn hen hbg).mono ?_); (focus (exact HS.out.mono B9.out)); (focus (exact HR.out.mono B9.out)); rw [HQ.out]; rintro x wa ⟨sy, dy, Ly, rfl, hx, hex, -, hb⟩; have Ya := Lib.hid hx; have EY := Lib.hid hex; have Pa := Lib.hid (P9.out.below hb P9.out.lt); have Xa := Lib.hid (X9.out.mono hb); have Oa := Lib.hid (O9.out.mono hb); have Sa := Lib.hid (S9.out.below hb S9.out.lt); have Ta := Lib.hid (T9.out.below hb T9.out.lt); have Ra := Lib.hid (R9.out.below hb R9.out.lt); have Ba := Lib.hid (B9.out.trans (hb.mono B9.out.size)); clear hx hex hb)
    | ((with_reducible refine alloc_row (o := ⟨some 10, _, _, _, _, _⟩) rfl _ rfl _ SZ.out ?_); intro wb hr hb hz; have Vb := Lib.hid hr; have Yb := Lib.hid (Ya.out.mono hb); have Pb := Lib.hid (Pa.out.below hb Pa.out.lt); have Xb := Lib.hid (Xa.out.mono hb); have Ob := Lib.hid (Oa.out.mono hb); have Sb := Lib.hid (Sa.out.below hb Sa.out.lt); have Tb := Lib.hid (Ta.out.below hb Ta.out.lt); have Bb := Lib.hid (Ba.out.trans (hb.mono Ba.out.size)); have La := Lib.hid (show w.heap.size < wa.heap.size ∧ w1.heap.size < wa.heap.size ∧ w7.heap.size < wa.heap.size from ⟨Sa.out.lt, Ta.out.lt, Pa.out.lt⟩); have XL2 := Lib.hid (Xa.out.es.blk); have YL2 := Lib.hid (Ya.out.es.blk); have OL2 := Lib.hid (Oa.out.blk); clear hr hb hz)
    | ((with_reducible refine store_row (o := ⟨none, _, _, _, _, _⟩) rfl _ (.tmp 10) _ rfl wa.heap.size sy.cells ?_ ?_ 25 _ Vb.out ?_ ?_ (sv_one _) ?_); (focus go_simp); (focus (first | (go_simp; done) | (go_simp; rfl))); (focus (exact SS.out)); (focus rfl); intro wc hr hu; have Vc := Lib.hid hr; have Yc := Lib.hid (Yb.out.put (z := svZ) Vb.out hu YL2.out); have Xc := Lib.hid (Xb.out.put (z := svZ) Vb.out hu XL2.out); have Oc := Lib.hid (Ob.out.put Vb.out (NB_sv svZ) hu OL2.out); have Pc := Lib.hid (Pb.out.upd hu (by have := La.out; omega)); have Sc := Lib.hid (Sb.out.upd hu (by have := La.out; omega)); have Tc := Lib.hid (Tb.out.upd hu (by have := La.out; omega)); have Bc := Lib.hid (Bb.out.trans (hu.below Ba.out.size)); clear hr hu))
  refine region_h (fun v => Below wc.heap.size wc v) (by kernel_rfl) (by kernel_rfl) (Below.refl _ _).drew ?_
  obtain ⟨wd, hwd⟩ : ∃ wd, wc.drew = wd := ⟨_, rfl⟩
  have D0 : Hid (Below wc.heap.size wc wd) := Lib.hid (by rw [← hwd]; exact (Below.refl _ _).drew)
  rw [hwd]
  clear hwd
  (refine h_read 0 rfl (by kernel_rfl) (by kernel_rfl) (h_free rfl) ?_ ?_ ?_; rotate_left; (focus (intro v hv; go_simp; rfl)); go_simp)
  (refine h_read 1 rfl (by kernel_rfl) (by kernel_rfl) (h_free rfl) ?_ ?_ ?_; rotate_left; (focus (intro v hv; go_simp; rfl)); go_simp)
  (refine h_read 2 rfl (by kernel_rfl) (by kernel_rfl) (h_free rfl) ?_ ?_ ?_; rotate_left; (focus (intro v hv; go_simp; rfl)); go_simp)
  (refine h_read 3 rfl (by kernel_rfl) (by kernel_rfl) (h_free rfl) ?_ ?_ ?_; rotate_left; (focus (intro v hv; go_simp; rfl)); go_simp)
  (refine h_read 4 rfl (by kernel_rfl) (by kernel_rfl) ?_ ?_ ?_ ?_; (focus (go_simp; done)); rotate_left; (focus (intro v hv; refine load_all 25 (.tmp 8) ?_ w7.heap.size ?_ _ sx.cells _ (Pc.out.below hv Pc.out.lt) Try.underlying25 rfl sv_size; (focus rfl); go_simp)); go_simp)
  (refine h_read 5 rfl (by kernel_rfl) (by kernel_rfl) ?_ ?_ ?_ ?_; (focus (go_simp; done)); rotate_left; (focus (intro v hv; refine load_all 25 (.tmp 10) ?_ wa.heap.size ?_ _ sy.cells _ (Vc.out.below hv Vc.out.lt) Try.underlying25 rfl sv_size; (focus rfl); go_simp)); go_simp)
  (refine h_call 6 rfl (by kernel_rfl) ?_ 14 ?_ ?_ ?_; (focus (go_simp; done)); rotate_left; (focus (go_simp; rfl)))
  refine (usaved sx sy dx dy Lx Ly wd (Xc.out.mono D0.out) (Yc.out.mono D0.out) (HSN.out sx dx Lx _ X7.out EX.out)).mono ?_
  rw [EX.out, EY.out, Ps.same_self]
  rintro x v1 ⟨rfl, hb⟩
  have J1 := Lib.hid (D0.out.trans (hb.mono D0.out.size))
  clear hb
  refine ⟨_, rfl, J1.out, ?_⟩
  go_simp
  (refine h_read 7 rfl (by kernel_rfl) (by kernel_rfl) ?_ ?_ ?_ ?_; (focus (go_simp; done)); rotate_left; (focus (intro v hv; go_simp; rfl)); go_simp)
  (refine h_read 8 rfl (by kernel_rfl) (by kernel_rfl) (h_free rfl) ?_ ?_ ?_; rotate_left; (focus (intro v hv; go_simp; rfl)); go_simp)
  (refine h_read 9 rfl (by kernel_rfl) (by kernel_rfl) (h_free rfl) ?_ ?_ ?_; rotate_left; (focus (intro v hv; go_simp; rfl)); go_simp)
  (refine h_read 10 rfl (by kernel_rfl) (by kernel_rfl) ?_ ?_ ?_ ?_; (focus (go_simp; done)); rotate_left; (focus (intro v hv; refine load_all 25 (.tmp 3) ?_ w.heap.size ?_ _ s.cells _ (Sc.out.below hv Sc.out.lt) Try.underlying25 rfl sv_size; (focus rfl); go_simp)); go_simp)
  (refine h_read 11 rfl (by kernel_rfl) (by kernel_rfl) ?_ ?_ ?_ ?_; (focus (go_simp; done)); rotate_left; (focus (intro v hv; refine load_all 25 (.tmp 4) ?_ w1.heap.size ?_ _ t.cells _ (Tc.out.below hv Tc.out.lt) Try.underlying25 rfl sv_size; (focus rfl); go_simp)); go_simp)
  (refine h_read 13 rfl (by kernel_rfl) (by kernel_rfl) ?_ ?_ ?_ ?_; (focus (go_simp; done)); rotate_left; (focus (intro v hv; refine load_all 25 (.tmp 3) ?_ w.heap.size ?_ _ s.cells _ (Sc.out.below hv Sc.out.lt) Try.underlying25 rfl sv_size; (focus rfl); go_simp)); go_simp)
  (refine h_read 14 rfl (by kernel_rfl) (by kernel_rfl) ?_ ?_ ?_ ?_; (focus (go_simp; done)); rotate_left; (focus (intro v hv; refine load_all 25 (.tmp 4) ?_ w1.heap.size ?_ _ t.cells _ (Tc.out.below hv Tc.out.lt) Try.underlying25 rfl sv_size; (focus rfl); go_simp)); go_simp)
  (refine h_call 12 rfl (by kernel_rfl) ?_ 15 ?_ ?_ ?_; (focus (go_simp; done)); rotate_left; (focus (go_simp; rfl)))
  refine (rsaved s t d d' L M v1 (HS.out.mono (Bc.out.trans (J1.out.mono Bc.out.size))) (HT.out.mono (Bc.out.trans (J1.out.mono Bc.out.size))) hen).mono ?_
  obtain ⟨bb, hbb⟩ : ∃ b, (s.ps d L).same (t.ps d' M) = b := ⟨_, rfl⟩
  have BB := Lib.hid hbb
  rw [hbb]
  clear hbb
  rintro x v2 ⟨rfl, hb⟩
  have J2 := Lib.hid (J1.out.trans (hb.mono J1.out.size))
  clear hb
  refine ⟨_, rfl, J2.out, ?_⟩
  go_simp
  (refine h_call 15 rfl (by kernel_rfl) ?_ 14 ?_ ?_ ?_; (focus (go_simp; done)); rotate_left; (focus (go_simp; rfl)))
  refine (usaved s t d d' L M v2 (HS.out.mono (Bc.out.trans (J2.out.mono Bc.out.size))) (HT.out.mono (Bc.out.trans (J2.out.mono Bc.out.size))) hen).mono ?_
  rw [BB.out]
  rintro x v3 ⟨rfl, hb⟩
  have J3 := Lib.hid (J2.out.trans (hb.mono J2.out.size))
  clear hb
  refine ⟨_, rfl, J3.out, ?_⟩
  go_simp
  (refine h_read 16 rfl (by kernel_rfl) (by kernel_rfl) ?_ ?_ ?_ ?_; (focus (go_simp; done)); rotate_left; (focus (intro v hv; go_simp; rfl)); go_simp)
  (refine h_read 17 rfl (by kernel_rfl) (by kernel_rfl) (h_free rfl) ?_ ?_ ?_; rotate_left; (focus (intro v hv; go_simp; rfl)); go_simp)
  refine h_done (by kernel_rfl) ?_
  have Be := Lib.hid (Bc.out.trans (J3.out.mono Bc.out.size))
  have Oe := Lib.hid (Oc.out.mono J3.out)
  obtain ⟨c0, c1, c2, c3, c4, c5, c6⟩ := (Sc.out.below J3.out Sc.out.lt).q7
  go_wp2_with (first
    | (go_at_call 16; refine (eqEntsL s.ea oa s.en s.ec s.en oc L L v3 (HS.out.es.mono Be.out) Oe.out hen).mono ?_; rw [decide_eq_true rfl]; rintro x v4 ⟨rfl, hb⟩; have Bf := Lib.hid (Be.out.trans (hb.mono Be.out.size)); clear hb c0 c1 c2 c3 c4 c5 c6)
    | (go_at_call 10; (with_reducible refine (awake11 v4).mono ?_); rintro x wz ⟨rfl, hb⟩; have Bz := Lib.hid (Bf.out.trans (hb.mono Bf.out.size)); clear hb))
  go_ret
  exact ⟨rfl, Bz.out⟩
end Go.Proofs.Ytbcaphkbjeejhaa.W
