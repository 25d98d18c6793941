/- LAYER 11 (record): slices.EqualFunc of entries; SameSaved of both. -/
import Derived.Test.YtbcaphkbjeejhaaRcV
import Derived.Test.YtbcaphkbjeejhaaRcX
import Derived.Test.YtbcaphkbjeejhaaEnO
import Derived.Test.YtbcaphkbjeejhaaRcC
set_option linter.unusedSimpArgs false
set_option linter.unusedVariables false
namespace Go.Proofs.Ytbcaphkbjeejhaa.W
open Go Go.ChangeShapes Go.WideShapes Go.ChangeAt Go.RowKit

/-- a saved state, without its places -/
structure Ps where
  t : Int
  v : Int
  b : Int
  bt : Int
  f : Int
  d : List UInt8
  l : List (Int × Int × Int × List UInt8)
def Sv.ps (s : Sv) (d : List UInt8) (L : List (En × List UInt8)) : Ps := ⟨s.t, s.v, s.b, s.bt, s.f, d, L.map pe⟩
def Ps.same (a b : Ps) : Bool := (a.t == b.t) && ((a.v == b.v) && ((a.b == b.b) && ((a.bt == b.bt) && ((a.f == b.f) && (decide (a.d = b.d) && decide (a.l = b.l))))))
theorem Ps.same_self (a : Ps) : a.same a = true := by simp [Ps.same]
theorem Ps.same_iff {a b : Ps} : a.same b = true ↔ a = b := by
  obtain ⟨t, v, x, bt, f, d, l⟩ := a
  obtain ⟨t', v', x', bt', f', d', l'⟩ := b
  simp [Ps.same]
theorem same_pe (e f : En) (l m : List UInt8) : sameE e f l m = decide (pe (e, l) = pe (f, m)) := by
  unfold sameE pe
  obtain ⟨ix, tm, kd, a, n, c⟩ := e
  obtain ⟨ix', tm', kd', a', n', c'⟩ := f
  dsimp only
  by_cases h1 : ix = ix' <;> by_cases h2 : tm = tm' <;> by_cases h3 : kd = kd' <;> by_cases h4 : l = m <;> simp [h1, h2, h3, h4]
theorem map_take_next (L M : List (En × List UInt8)) (k : Nat) (hL : k < L.length) (hM : k < M.length) (h : (L.take k).map pe = (M.take k).map pe) (he : pe (L.getD k Ez) = pe (M.getD k Ez)) : (L.take (k + 1)).map pe = (M.take (k + 1)).map pe := by
  have h1 : L.take (k + 1) = L.take k ++ [L.getD k Ez] := by
    rw [List.take_succ_eq_append_getElem hL]; simp [List.getD_eq_getElem?_getD, hL]
  have h2 : M.take (k + 1) = M.take k ++ [M.getD k Ez] := by
    rw [List.take_succ_eq_append_getElem hM]; simp [List.getD_eq_getElem?_getD, hM]
  rw [h1, h2, List.map_append, List.map_append, h]
  exact congrArg (fun z => (M.take k).map pe ++ [z]) he
theorem map_ne (L M : List (En × List UInt8)) (k : Nat) (hL : k < L.length) (hM : k < M.length) (he : ¬ pe (L.getD k Ez) = pe (M.getD k Ez)) : ¬ L.map pe = M.map pe := by
  intro h
  apply he
  have h1 := congrArg (fun l => l[k]?) h
  simp only [List.getElem?_map, List.getElem?_eq_getElem hL, List.getElem?_eq_getElem hM, Option.map_some, Option.some.injEq] at h1
  simpa [List.getD_eq_getElem?_getD, hL, hM] using h1
/-- an entry of a list that came in, in a world that has grown -/
theorem Ents.at {w wr : World} {a : Option Addr} {n c : Nat} {L : List (En × List UInt8)} (h : Ents w a n c L) (hb : Below w.heap.size w wr) (k : Nat) (hk : k < n) :
    ∃ x off, a = some ⟨x, off, none⟩ ∧ (∀ j v, (L.getD k Ez).1.cells[j]? = some v → wr.cell? ⟨x, off + k * 4 + j, none⟩ = some v) ∧ EnF wr (L.getD k Ez).1 (L.getD k Ez).2 ∧ k < L.length := by
  rcases h.hcells with h0 | ⟨x, off, rfl, hx, hcell⟩
  · omega
  have hk2 : k < L.length := by rw [h.hlen]; exact hk
  refine ⟨x, off, rfl, fun j v hj => ?_, ?_, hk2⟩
  · rw [hb.cell (p := ⟨x, off + k * 4 + j, none⟩) hx]; exact hcell k hk j v hj
  · have : L.getD k Ez = L[k] := by simp [List.getD_eq_getElem?_getD, hk2]
    rw [this]
    exact (h.hfit _ (List.getElem_mem hk2)).mono hb
set_option maxRecDepth 100000 in
set_option maxHeartbeats 8000000 in
theorem eqEntsR (a a' : Option Addr) (n c n' c' : Nat) (L M : List (En × List UInt8)) (w : World) (h1 : Ents w a n c L) (h2 : Ents w a' n' c' M) (hl : n ≤ 1000000) :
    Calls Try.prog 16 #[.slice a n c, .slice a' n' c', .func (.func 61) #[] #[]] w fun x w' => x = .returned (.bool (decide (L.map pe = M.map pe))) ∧ Below w.heap.size w w' := by
  have H1 := Lib.hid h1
  have H2 := Lib.hid h2
  have HL1 := Lib.hid h1.hlen
  have HL2 := Lib.hid h2.hlen
  have EZ := Lib.hid en_zero
  have ES := Lib.hid en_size
  obtain ⟨V, hV⟩ : ∃ V, decide (L.map pe = M.map pe) = V := ⟨_, rfl⟩
  rw [hV]
  have HV := Lib.hid hV
  clear h1 h2 hV
  by_cases hnn : n = n'
  · subst hnn
    go_enter Try.func16, Try.ntmps16
    go_wp2_with fail
    go_loopw [17] (fun i wr => ∃ k : Nat, i = .int .i64 (k : Int) ∧ k ≤ n ∧ Hid ((L.take k).map pe = (M.take k).map pe) ∧ Hid (Below w.heap.size w wr)) (fun i _ => n - (intOf i).toNat)
    case atStart => exact ⟨0, rfl, Nat.zero_le _, Lib.hid rfl, Lib.hid (Below.refl _ _)⟩
    case round =>
      obtain ⟨k, rfl, hk, P, B⟩ := hrel
      by_cases hlt : k < n
      · obtain ⟨x1, o1, rfl, hx1, hf1, hk1⟩ := H1.out.at B.out k hlt
        obtain ⟨x2, o2, rfl, hx2, hf2, hk2⟩ := H2.out.at B.out k hlt
        have hstep := map_take_next L M k hk1 hk2 P.out
        have hne := map_ne L M k hk1 hk2
        obtain ⟨⟨e1, l1⟩, hq1⟩ : ∃ y, L.getD k Ez = y := ⟨_, rfl⟩
        obtain ⟨⟨e2, l2⟩, hq2⟩ : ∃ y, M.getD k Ez = y := ⟨_, rfl⟩
        rw [hq1, hq2] at hstep hne
        rw [hq1] at hx1 hf1
        rw [hq2] at hx2 hf2
        dsimp only at hx1 hf1 hx2 hf2
        have X1 := Lib.hid hx1
        have X2 := Lib.hid hx2
        have F1 := Lib.hid hf1
        have F2 := Lib.hid hf2
        have SP := Lib.hid (same_pe e1 e2 l1 l2)
        have g1 : (0 : Int) ≤ (k : Int) := by omega
        have g2 : (k : Int) < (n : Int) := by omega
        clear hx1 hx2 hf1 hf2 hq1 hq2 hk1 hk2
        by_cases heq : pe (e1, l1) = pe (e2, l2)
        · have HN := Lib.hid (hstep heq)
          have SV := Lib.hid (show sameE e1 e2 l1 l2 = true by rw [SP.out]; exact decide_eq_true heq)
          clear hstep hne heq
          go_wp2_with (first
            | ((with_reducible refine load_cells (o := ⟨some 21, _, _, _, _, _⟩) rfl _ _ rfl x1 (o1 + k * 4) ?_ e1.cells _ X1.out Try.underlying27 rfl ?_ ?_); (focus go_simp); (focus (exact ES.out)))
            | ((with_reducible refine alloc_row (o := ⟨some 8, _, _, _, _, _⟩) rfl _ rfl _ EZ.out ?_); intro w1 hr hb hz; have A1 := Lib.hid hr; have B1 := Lib.hid hb; clear hr hb hz)
            | ((with_reducible refine store_row (o := ⟨none, _, _, _, _, _⟩) rfl _ (.tmp 8) _ rfl wr.heap.size e1.cells ?_ ?_ 27 _ A1.out ?_ ?_ (cells_one _) ?_); (focus go_simp); (focus (first | (go_simp; done) | (go_simp; rfl))); (focus (exact ES.out)); (focus rfl); intro w2 hr hu; have A2 := Lib.hid hr; have B2 := Lib.hid (B1.out.trans (hu.below (Nat.le_refl _))); clear hr hu)
            | ((with_reducible refine load_cells (o := ⟨some 25, _, _, _, _, _⟩) rfl _ _ rfl x2 (o2 + k * 4) ?_ e2.cells _ (fun j v hj => by rw [B2.out.cell (p := ⟨x2, o2 + k * 4 + j, none⟩) (World.block_lt_of_cell? wr _ (X2.out j v hj))]; exact X2.out j v hj) Try.underlying27 rfl ?_ ?_); (focus go_simp); (focus (exact ES.out)))
            | ((with_reducible refine alloc_row (o := ⟨some 9, _, _, _, _, _⟩) rfl _ rfl _ EZ.out ?_); intro w3 hr hb hz; have C3 := Lib.hid hr; have A3 := Lib.hid (A2.out.below hb A2.out.lt); have L3 := Lib.hid (show wr.heap.size < w2.heap.size from A2.out.lt); have B3 := Lib.hid (B2.out.trans (hb.mono B2.out.size)); clear hr hb hz)
            | ((with_reducible refine store_row (o := ⟨none, _, _, _, _, _⟩) rfl _ (.tmp 9) _ rfl w2.heap.size e2.cells ?_ ?_ 27 _ C3.out ?_ ?_ (cells_one _) ?_); (focus go_simp); (focus (first | (go_simp; done) | (go_simp; rfl))); (focus (exact ES.out)); (focus rfl); intro w4 hr hu; have C4 := Lib.hid hr; have A4 := Lib.hid (A3.out.upd hu (Nat.ne_of_lt L3.out)); have B4 := Lib.hid (B3.out.trans (hu.below B2.out.size)); clear hr hu)
            | ((with_reducible refine load_row (o := ⟨some 27, _, _, _, _, _⟩) rfl _ _ rfl wr.heap.size ?_ _ e1.cells _ A4.out Try.underlying27 rfl ?_ ?_); (focus go_simp); (focus (exact ES.out)))
            | ((with_reducible refine load_row (o := ⟨some 28, _, _, _, _, _⟩) rfl _ _ rfl w2.heap.size ?_ _ e2.cells _ C4.out Try.underlying27 rfl ?_ ?_); (focus go_simp); (focus (exact ES.out)))
            | (go_at_call 61; refine (rsameE e1 e2 l1 l2 w4 (F1.out.rd.mono B4.out) (F2.out.rd.mono B4.out)).mono ?_; rw [SV.out]; rintro e w5 ⟨rfl, hb5⟩; have B5 := Lib.hid ((B.out.trans (B4.out.mono B.out.size)).trans (hb5.mono (Nat.le_trans B.out.size B4.out.size))); clear hb5))
          go_roundw
          case rel => exact ⟨k + 1, vint (by omega), by omega, HN, B5⟩
          case measure => simp [intOf]; omega
        · have HN := Lib.hid (hne heq)
          have SV := Lib.hid (show sameE e1 e2 l1 l2 = false by rw [SP.out]; exact decide_eq_false heq)
          clear hstep hne heq
          go_wp2_with (first
            | ((with_reducible refine load_cells (o := ⟨some 21, _, _, _, _, _⟩) rfl _ _ rfl x1 (o1 + k * 4) ?_ e1.cells _ X1.out Try.underlying27 rfl ?_ ?_); (focus go_simp); (focus (exact ES.out)))
            | ((with_reducible refine alloc_row (o := ⟨some 8, _, _, _, _, _⟩) rfl _ rfl _ EZ.out ?_); intro w1 hr hb hz; have A1 := Lib.hid hr; have B1 := Lib.hid hb; clear hr hb hz)
            | ((with_reducible refine store_row (o := ⟨none, _, _, _, _, _⟩) rfl _ (.tmp 8) _ rfl wr.heap.size e1.cells ?_ ?_ 27 _ A1.out ?_ ?_ (cells_one _) ?_); (focus go_simp); (focus (first | (go_simp; done) | (go_simp; rfl))); (focus (exact ES.out)); (focus rfl); intro w2 hr hu; have A2 := Lib.hid hr; have B2 := Lib.hid (B1.out.trans (hu.below (Nat.le_refl _))); clear hr hu)
            | ((with_reducible refine load_cells (o := ⟨some 25, _, _, _, _, _⟩) rfl _ _ rfl x2 (o2 + k * 4) ?_ e2.cells _ (fun j v hj => by rw [B2.out.cell (p := ⟨x2, o2 + k * 4 + j, none⟩) (World.block_lt_of_cell? wr _ (X2.out j v hj))]; exact X2.out j v hj) Try.underlying27 rfl ?_ ?_); (focus go_simp); (focus (exact ES.out)))
            | ((with_reducible refine alloc_row (o := ⟨some 9, _, _, _, _, _⟩) rfl _ rfl _ EZ.out ?_); intro w3 hr hb hz; have C3 := Lib.hid hr; have A3 := Lib.hid (A2.out.below hb A2.out.lt); have L3 := Lib.hid (show wr.heap.size < w2.heap.size from A2.out.lt); have B3 := Lib.hid (B2.out.trans (hb.mono B2.out.size)); clear hr hb hz)
            | ((with_reducible refine store_row (o := ⟨none, _, _, _, _, _⟩) rfl _ (.tmp 9) _ rfl w2.heap.size e2.cells ?_ ?_ 27 _ C3.out ?_ ?_ (cells_one _) ?_); (focus go_simp); (focus (first | (go_simp; done) | (go_simp; rfl))); (focus (exact ES.out)); (focus rfl); intro w4 hr hu; have C4 := Lib.hid hr; have A4 := Lib.hid (A3.out.upd hu (Nat.ne_of_lt L3.out)); have B4 := Lib.hid (B3.out.trans (hu.below B2.out.size)); clear hr hu)
            | ((with_reducible refine load_row (o := ⟨some 27, _, _, _, _, _⟩) rfl _ _ rfl wr.heap.size ?_ _ e1.cells _ A4.out Try.underlying27 rfl ?_ ?_); (focus go_simp); (focus (exact ES.out)))
            | ((with_reducible refine load_row (o := ⟨some 28, _, _, _, _, _⟩) rfl _ _ rfl w2.heap.size ?_ _ e2.cells _ C4.out Try.underlying27 rfl ?_ ?_); (focus go_simp); (focus (exact ES.out)))
            | (go_at_call 61; refine (rsameE e1 e2 l1 l2 w4 (F1.out.rd.mono B4.out) (F2.out.rd.mono B4.out)).mono ?_; rw [SV.out]; rintro e w5 ⟨rfl, hb5⟩; have B5 := Lib.hid ((B.out.trans (B4.out.mono B.out.size)).trans (hb5.mono (Nat.le_trans B.out.size B4.out.size))); clear hb5))
          go_ret
          exact ⟨one (vbool (by rw [← HV.out]; exact (decide_eq_false HN.out).symm)), B5.out⟩
      · obtain rfl : n = k := by omega
        have h9 := P.out
        rw [List.take_of_length_le (by rw [HL1.out]; exact Nat.le_refl _), List.take_of_length_le (by rw [HL2.out]; exact Nat.le_refl _)] at h9
        have P9 := Lib.hid h9
        clear h9
        go_wp2_with fail
        go_ret
        exact ⟨one (vbool (by rw [← HV.out]; exact (decide_eq_true P9.out).symm)), B.out⟩
  · have hne : ((n : Int) == (n' : Int)) = false := by simp; omega
    have HF := Lib.hid (show ¬ L.map pe = M.map pe from fun h => hnn (by have := congrArg List.length h; simp at this; rw [HL1.out, HL2.out] at this; exact this))
    go_enter Try.func16, Try.ntmps16
    go_wp2_with fail
    go_ret
    exact ⟨one (vbool (by rw [← HV.out]; exact (decide_eq_false HF.out).symm)), Below.refl _ _⟩
set_option maxRecDepth 100000 in
set_option maxHeartbeats 16000000 in
theorem rsaved (s s' : Sv) (d d' : List UInt8) (L L' : List (En × List UInt8)) (w : World) (h : SvF w s d L) (h' : SvF w s' d' L') (hl : s.en ≤ 1000000) :
    Calls Try.prog 15 #[.agg s.cells.toArray, .agg s'.cells.toArray] w fun x w' => x = .returned (.bool ((s.ps d L).same (s'.ps d' L'))) ∧ Below w.heap.size w w' := by
  obtain ⟨t, v, b, bt, f, a, n, c, ea, en, ec⟩ := s
  obtain ⟨t', v', b', bt', f', a', n', c', ea', en', ec'⟩ := s'
  have HD := Lib.hid h.rd
  have HD' := Lib.hid h'.rd
  have HE := Lib.hid h.es
  have HE' := Lib.hid h'.es
  obtain ⟨x0, h0⟩ : ∃ x, (t == t') = x := ⟨_, rfl⟩
  obtain ⟨x1, h1⟩ : ∃ x, (v == v') = x := ⟨_, rfl⟩
  obtain ⟨x2, h2⟩ : ∃ x, (b == b') = x := ⟨_, rfl⟩
  obtain ⟨x3, h3⟩ : ∃ x, (bt == bt') = x := ⟨_, rfl⟩
  obtain ⟨x4, h4⟩ : ∃ x, (f == f') = x := ⟨_, rfl⟩
  obtain ⟨x5, h5⟩ : ∃ x, decide (d = d') = x := ⟨_, rfl⟩
  obtain ⟨x6, h6⟩ : ∃ x, decide (L.map pe = L'.map pe) = x := ⟨_, rfl⟩
  have hx : (Sv.ps ⟨t, v, b, bt, f, a, n, c, ea, en, ec⟩ d L).same (Sv.ps ⟨t', v', b', bt', f', a', n', c', ea', en', ec'⟩ d' L') = (x0 && (x1 && (x2 && (x3 && (x4 && (x5 && x6)))))) := by unfold Ps.same Sv.ps; dsimp only; rw [h0, h1, h2, h3, h4, h6, ← h5]
  have HX := Lib.hid hx
  have H5 := Lib.hid h5
  have H6 := Lib.hid h6
  unfold Sv.cells
  dsimp only at hl HD HD' HE HE' ⊢
  clear hx h h' h6 h5
  rcases ch7 x0 x1 x2 x3 x4 x5 x6 with rfl | ⟨rfl, rfl⟩ | ⟨rfl, rfl, rfl⟩ | ⟨rfl, rfl, rfl, rfl⟩ | ⟨rfl, rfl, rfl, rfl, rfl⟩ | ⟨rfl, rfl, rfl, rfl, rfl, rfl⟩ | ⟨rfl, rfl, rfl, rfl, rfl, rfl, rfl⟩ | ⟨rfl, rfl, rfl, rfl, rfl, rfl, rfl⟩
  all_goals
    go_enter Try.func15, Try.ntmps15
    go_wp2_with (first
      | (with_reducible refine box_row (o := ⟨some 2, _, _, _, _, _⟩) rfl _ _ rfl [.int .i64 t, .int .i64 v, .int .i64 b, .int .i64 bt, .int .i64 f, .slice a n c, .slice ea en ec] rfl ?_; intro w1 hr1 hb1 hz1; have R1 := Lib.hid hr1; have B1 := Lib.hid hb1; clear hr1 hb1 hz1)
      | (with_reducible refine box_row (o := ⟨some 3, _, _, _, _, _⟩) rfl _ _ rfl [.int .i64 t', .int .i64 v', .int .i64 b', .int .i64 bt', .int .i64 f', .slice a' n' c', .slice ea' en' ec'] rfl ?_; intro w2 hr2 hb2 hz2; have R2 := Lib.hid hr2; have S2 := Lib.hid (R1.out.below hb2 R1.out.lt); have B2 := Lib.hid (B1.out.trans (hb2.mono B1.out.size)); obtain ⟨c0, c1, c2, c3, c4, c5, c6⟩ := S2.out.q7; obtain ⟨d0, d1, d2, d3, d4, d5, d6⟩ := R2.out.q7; clear hr2 hb2 hz2)
      | (go_at_call 60; refine (bequal a a' n c n' c' d d' _ (HD.out.mono B2.out) (HD'.out.mono B2.out)).mono ?_; rw [H5.out]; rintro x w' ⟨rfl, rfl⟩)
      | (go_at_call 16; refine (eqEntsR ea ea' en ec en' ec' L L' _ (HE.out.mono B2.out) (HE'.out.mono B2.out) hl).mono ?_; rw [H6.out]; rintro x w3 ⟨rfl, hb3⟩; have B3 := Lib.hid (B2.out.trans (hb3.mono B2.out.size)); clear hb3))
    go_ret
    exact ⟨one (vbool (by rw [HX.out]; simp)), by first | exact B3.out | exact B2.out⟩
set_option maxRecDepth 100000 in
set_option maxHeartbeats 16000000 in
theorem usaved (s s' : Sv) (d d' : List UInt8) (L L' : List (En × List UInt8)) (w : World) (h : SvF w s d L) (h' : SvF w s' d' L') (hl : s.en ≤ 1000000) :
    Calls Try.prog 14 #[.agg s.cells.toArray, .agg s'.cells.toArray] w fun x w' => x = .returned (.bool ((s.ps d L).same (s'.ps d' L'))) ∧ Below w.heap.size w w' := by
  obtain ⟨t, v, b, bt, f, a, n, c, ea, en, ec⟩ := s
  obtain ⟨t', v', b', bt', f', a', n', c', ea', en', ec'⟩ := s'
  have HD := Lib.hid h.rd
  have HD' := Lib.hid h'.rd
  have HE := Lib.hid h.es
  have HE' := Lib.hid h'.es
  obtain ⟨x0, h0⟩ : ∃ x, (t == t') = x := ⟨_, rfl⟩
  obtain ⟨x1, h1⟩ : ∃ x, (v == v') = x := ⟨_, rfl⟩
  obtain ⟨x2, h2⟩ : ∃ x, (b == b') = x := ⟨_, rfl⟩
  obtain ⟨x3, h3⟩ : ∃ x, (bt == bt') = x := ⟨_, rfl⟩
  obtain ⟨x4, h4⟩ : ∃ x, (f == f') = x := ⟨_, rfl⟩
  obtain ⟨x5, h5⟩ : ∃ x, ((str d).toList == (str d').toList) = x := ⟨_, rfl⟩
  obtain ⟨x6, h6⟩ : ∃ x, decide (L.map pe = L'.map pe) = x := ⟨_, rfl⟩
  have hx : (Sv.ps ⟨t, v, b, bt, f, a, n, c, ea, en, ec⟩ d L).same (Sv.ps ⟨t', v', b', bt', f', a', n', c', ea', en', ec'⟩ d' L') = (x0 && (x1 && (x2 && (x3 && (x4 && (x5 && x6)))))) := by unfold Ps.same Sv.ps; dsimp only; rw [h0, h1, h2, h3, h4, h6, ← h5]; rw [str_eqb2, str_data, str_data]
  have HX := Lib.hid hx
  have H5 := Lib.hid h5
  have H6 := Lib.hid h6
  unfold Sv.cells
  dsimp only at hl HD HD' HE HE' ⊢
  clear hx h h' h6
  have g0 : (t != t') = !x0 := by rw [← h0]; rfl
  have g1 : (v != v') = !x1 := by rw [← h1]; rfl
  have g2 : (b != b') = !x2 := by rw [← h2]; rfl
  have g3 : (bt != bt') = !x3 := by rw [← h3]; rfl
  have g4 : (f != f') = !x4 := by rw [← h4]; rfl
  have g5 : ((str d).toList != (str d').toList) = !x5 := by rw [← h5]; rfl
  by_cases hall : (x0 && (x1 && (x2 && (x3 && (x4 && x5))))) = true ∧ en = en'
  · obtain ⟨hall, hen⟩ := hall
    have g6 : ((en : Int) != (en' : Int)) = false := by simp [hen]
    have HEN := Lib.hid hen
    clear hen
    obtain ⟨rfl, rfl, rfl, rfl, rfl, rfl⟩ : x0 = true ∧ x1 = true ∧ x2 = true ∧ x3 = true ∧ x4 = true ∧ x5 = true := by revert hall; cases x0 <;> cases x1 <;> cases x2 <;> cases x3 <;> cases x4 <;> cases x5 <;> simp
    have HL1 := Lib.hid HE.out.hlen
    have HL2 := Lib.hid HE'.out.hlen
    have EZ := Lib.hid en_zero
    have ES := Lib.hid en_size
    clear hall
    simp only [Bool.not_true] at g0 g1 g2 g3 g4 g5
    go_enter Try.func14, Try.ntmps14
    go_wp2_with (first
      | (with_reducible refine box_row (o := ⟨some 2, _, _, _, _, _⟩) rfl _ _ rfl [.int .i64 t, .int .i64 v, .int .i64 b, .int .i64 bt, .int .i64 f, .slice a n c, .slice ea en ec] rfl ?_; intro w1 hr1 hb1 hz1; have R1 := Lib.hid hr1; have B1 := Lib.hid hb1; clear hr1 hb1 hz1)
      | (with_reducible refine box_row (o := ⟨some 3, _, _, _, _, _⟩) rfl _ _ rfl [.int .i64 t', .int .i64 v', .int .i64 b', .int .i64 bt', .int .i64 f', .slice a' n' c', .slice ea' en' ec'] rfl ?_; intro w2 hr2 hb2 hz2; have R2 := Lib.hid hr2; have S2 := Lib.hid (R1.out.below hb2 R1.out.lt); have B2 := Lib.hid (B1.out.trans (hb2.mono B1.out.size)); obtain ⟨c0, c1, c2, c3, c4, c5, c6⟩ := S2.out.q7; obtain ⟨d0, d1, d2, d3, d4, d5, d6⟩ := R2.out.q7; have cv1 := conv_rd (HD.out.mono B2.out); have cv2 := conv_rd (HD'.out.mono B2.out); clear hr2 hb2 hz2))
    clear h5 h0 h1 h2 h3 h4 g0 g1 g2 g3 g4 g5
    try clear cv1
    try clear cv2
    go_loopw [5] (fun i wr => ∃ k : Nat, i = .int .i64 (k : Int) ∧ k ≤ en ∧ Hid ((L.take k).map pe = (L'.take k).map pe) ∧ Hid (Below w2.heap.size w2 wr)) (fun i _ => en - (intOf i).toNat)
    case atStart => exact ⟨0, rfl, Nat.zero_le _, Lib.hid rfl, Lib.hid (Below.refl _ _)⟩
    case round =>
      obtain ⟨k, rfl, hk, P, B⟩ := hrel
      clear c0 c1 c2 c3 c4 c5 c6 d0 d1 d2 d3 d4 d5 d6
      obtain ⟨c0, c1, c2, c3, c4, c5, c6⟩ := (S2.out.below B.out S2.out.lt).q7
      obtain ⟨d0, d1, d2, d3, d4, d5, d6⟩ := (R2.out.below B.out R2.out.lt).q7
      by_cases hlt : k < en
      · have E2 := HE.out.mono B2.out
        have E2' := HE'.out.mono B2.out
        obtain ⟨y1, o1, rfl, hx1, hf1, hk1⟩ := E2.at B.out k hlt
        obtain ⟨y2, o2, rfl, hx2, hf2, hk2⟩ := E2'.at B.out k (by rw [← HEN.out]; exact hlt)
        have hstep := map_take_next L L' k hk1 hk2 P.out
        have hne := map_ne L L' k hk1 hk2
        obtain ⟨⟨e1, l1⟩, hq1⟩ : ∃ y, L.getD k Ez = y := ⟨_, rfl⟩
        obtain ⟨⟨e2, l2⟩, hq2⟩ : ∃ y, L'.getD k Ez = y := ⟨_, rfl⟩
        rw [hq1, hq2] at hstep hne
        rw [hq1] at hx1 hf1
        rw [hq2] at hx2 hf2
        dsimp only at hx1 hf1 hx2 hf2
        have X1 := Lib.hid hx1
        have X2 := Lib.hid hx2
        have F1 := Lib.hid hf1
        have F2 := Lib.hid hf2
        have SP := Lib.hid (same_pe e1 e2 l1 l2)
        have g1 : (0 : Int) ≤ (k : Int) := by omega
        have g2 : (k : Int) < (en : Int) := by omega
        have g3 : (k : Int) < (en' : Int) := by have := HEN.out; omega
        clear hx1 hx2 hf1 hf2 hq1 hq2 hk1 hk2 E2 E2'
        go_wp2_with fail
        clear c0 c1 c2 c3 c4 c5 c6 d0 d1 d2 d3 d4 d5 d6
        have S3 := Lib.hid (S2.out.below B.out S2.out.lt)
        have R3 := Lib.hid (R2.out.below B.out R2.out.lt)
        refine region_h (fun v => Below wr.heap.size wr v) (by kernel_rfl) (by kernel_rfl) (Below.refl _ _).drew ?_
        obtain ⟨wd, hwd⟩ : ∃ wd, wr.drew = wd := ⟨_, rfl⟩
        have D0 : Hid (Below wr.heap.size wr wd) := Lib.hid (by rw [← hwd]; exact (Below.refl _ _).drew)
        rw [hwd]
        clear hwd
        by_cases heq : pe (e1, l1) = pe (e2, l2)
        · have HN := Lib.hid (hstep heq)
          have SV := Lib.hid (show sameE e1 e2 l1 l2 = true by rw [SP.out]; exact decide_eq_true heq)
          clear hstep hne heq
          (refine h_read 0 rfl (by kernel_rfl) (by kernel_rfl) (h_free rfl) ?_ ?_ ?_; rotate_left; (focus (intro v hv; go_simp; rfl)); go_simp)
          (refine h_read 1 rfl (by kernel_rfl) (by kernel_rfl) (h_free rfl) ?_ ?_ ?_; rotate_left; (focus (intro v hv; obtain ⟨c0, c1, c2, c3, c4, c5, c6⟩ := (S3.out.below hv S3.out.lt).q7; obtain ⟨d0, d1, d2, d3, d4, d5, d6⟩ := (R3.out.below hv R3.out.lt).q7; go_simp; rfl)); go_simp)
          (refine h_read 2 rfl (by kernel_rfl) (by kernel_rfl) (h_free rfl) ?_ ?_ ?_; rotate_left; (focus (intro v hv; go_simp; rfl)); go_simp)
          (refine h_read 3 rfl (by kernel_rfl) (by kernel_rfl) (h_free rfl) ?_ ?_ ?_; rotate_left; (focus (intro v hv; go_simp; rfl)); go_simp)
          (refine h_read 4 rfl (by kernel_rfl) (by kernel_rfl) (h_free rfl) ?_ ?_ ?_; rotate_left; (focus (intro v hv; refine run_cells 27 (.tmp 67) ?_ y1 (o1 + k * 4) ?_ e1.cells _ (fun j u hj => by rw [hv.cell (p := ⟨y1, o1 + k * 4 + j, none⟩) (World.block_lt_of_cell? wr _ (X1.out j u hj))]; exact X1.out j u hj) Try.underlying27 rfl en_size; (focus rfl); go_simp)); go_simp)
          (refine h_read 5 rfl (by kernel_rfl) (by kernel_rfl) (h_free rfl) ?_ ?_ ?_; rotate_left; (focus (intro v hv; go_simp; rfl)); go_simp)
          (refine h_read 6 rfl (by kernel_rfl) (by kernel_rfl) (h_free rfl) ?_ ?_ ?_; rotate_left; (focus (intro v hv; obtain ⟨c0, c1, c2, c3, c4, c5, c6⟩ := (S3.out.below hv S3.out.lt).q7; obtain ⟨d0, d1, d2, d3, d4, d5, d6⟩ := (R3.out.below hv R3.out.lt).q7; go_simp; rfl)); go_simp)
          (refine h_read 7 rfl (by kernel_rfl) (by kernel_rfl) (h_free rfl) ?_ ?_ ?_; rotate_left; (focus (intro v hv; go_simp; rfl)); go_simp)
          (refine h_read 8 rfl (by kernel_rfl) (by kernel_rfl) (h_free rfl) ?_ ?_ ?_; rotate_left; (focus (intro v hv; go_simp; rfl)); go_simp)
          (refine h_read 9 rfl (by kernel_rfl) (by kernel_rfl) (h_free rfl) ?_ ?_ ?_; rotate_left; (focus (intro v hv; refine run_cells 27 (.tmp 72) ?_ y2 (o2 + k * 4) ?_ e2.cells _ (fun j u hj => by rw [hv.cell (p := ⟨y2, o2 + k * 4 + j, none⟩) (World.block_lt_of_cell? wr _ (X2.out j u hj))]; exact X2.out j u hj) Try.underlying27 rfl en_size; (focus rfl); go_simp)); go_simp)
          (refine h_call 10 rfl (by kernel_rfl) (h_free rfl) 18 ?_ ?_ ?_; rotate_left; (focus (go_simp; rfl)))
          refine (usameE e1 e2 l1 l2 wd (F1.out.rd.mono D0.out) (F2.out.rd.mono D0.out)).mono ?_
          rw [SV.out]
          rintro e w5 ⟨rfl, hb5⟩
          have J5 := Lib.hid (D0.out.trans (hb5.mono D0.out.size))
          have B5 := Lib.hid (B.out.trans (J5.out.mono B.out.size))
          clear hb5
          refine ⟨_, rfl, J5.out, ?_⟩
          go_simp
          (refine h_read 11 rfl (by kernel_rfl) (by kernel_rfl) (h_free rfl) ?_ ?_ ?_; rotate_left; (focus (intro v hv; go_simp; rfl)); go_simp)
          refine h_done (by kernel_rfl) ?_
          go_wp2_with fail
          go_roundw
          case rel => exact ⟨k + 1, vint (by omega), by omega, HN, B5⟩
          case measure => simp [intOf]; omega
        · have HN := Lib.hid (hne heq)
          have SV := Lib.hid (show sameE e1 e2 l1 l2 = false by rw [SP.out]; exact decide_eq_false heq)
          clear hstep hne heq
          (refine h_read 0 rfl (by kernel_rfl) (by kernel_rfl) (h_free rfl) ?_ ?_ ?_; rotate_left; (focus (intro v hv; go_simp; rfl)); go_simp)
          (refine h_read 1 rfl (by kernel_rfl) (by kernel_rfl) (h_free rfl) ?_ ?_ ?_; rotate_left; (focus (intro v hv; obtain ⟨c0, c1, c2, c3, c4, c5, c6⟩ := (S3.out.below hv S3.out.lt).q7; obtain ⟨d0, d1, d2, d3, d4, d5, d6⟩ := (R3.out.below hv R3.out.lt).q7; go_simp; rfl)); go_simp)
          (refine h_read 2 rfl (by kernel_rfl) (by kernel_rfl) (h_free rfl) ?_ ?_ ?_; rotate_left; (focus (intro v hv; go_simp; rfl)); go_simp)
          (refine h_read 3 rfl (by kernel_rfl) (by kernel_rfl) (h_free rfl) ?_ ?_ ?_; rotate_left; (focus (intro v hv; go_simp; rfl)); go_simp)
          (refine h_read 4 rfl (by kernel_rfl) (by kernel_rfl) (h_free rfl) ?_ ?_ ?_; rotate_left; (focus (intro v hv; refine run_cells 27 (.tmp 67) ?_ y1 (o1 + k * 4) ?_ e1.cells _ (fun j u hj => by rw [hv.cell (p := ⟨y1, o1 + k * 4 + j, none⟩) (World.block_lt_of_cell? wr _ (X1.out j u hj))]; exact X1.out j u hj) Try.underlying27 rfl en_size; (focus rfl); go_simp)); go_simp)
          (refine h_read 5 rfl (by kernel_rfl) (by kernel_rfl) (h_free rfl) ?_ ?_ ?_; rotate_left; (focus (intro v hv; go_simp; rfl)); go_simp)
          (refine h_read 6 rfl (by kernel_rfl) (by kernel_rfl) (h_free rfl) ?_ ?_ ?_; rotate_left; (focus (intro v hv; obtain ⟨c0, c1, c2, c3, c4, c5, c6⟩ := (S3.out.below hv S3.out.lt).q7; obtain ⟨d0, d1, d2, d3, d4, d5, d6⟩ := (R3.out.below hv R3.out.lt).q7; go_simp; rfl)); go_simp)
          (refine h_read 7 rfl (by kernel_rfl) (by kernel_rfl) (h_free rfl) ?_ ?_ ?_; rotate_left; (focus (intro v hv; go_simp; rfl)); go_simp)
          (refine h_read 8 rfl (by kernel_rfl) (by kernel_rfl) (h_free rfl) ?_ ?_ ?_; rotate_left; (focus (intro v hv; go_simp; rfl)); go_simp)
          (refine h_read 9 rfl (by kernel_rfl) (by kernel_rfl) (h_free rfl) ?_ ?_ ?_; rotate_left; (focus (intro v hv; refine run_cells 27 (.tmp 72) ?_ y2 (o2 + k * 4) ?_ e2.cells _ (fun j u hj => by rw [hv.cell (p := ⟨y2, o2 + k * 4 + j, none⟩) (World.block_lt_of_cell? wr _ (X2.out j u hj))]; exact X2.out j u hj) Try.underlying27 rfl en_size; (focus rfl); go_simp)); go_simp)
          (refine h_call 10 rfl (by kernel_rfl) (h_free rfl) 18 ?_ ?_ ?_; rotate_left; (focus (go_simp; rfl)))
          refine (usameE e1 e2 l1 l2 wd (F1.out.rd.mono D0.out) (F2.out.rd.mono D0.out)).mono ?_
          rw [SV.out]
          rintro e w5 ⟨rfl, hb5⟩
          have J5 := Lib.hid (D0.out.trans (hb5.mono D0.out.size))
          have B5 := Lib.hid (B.out.trans (J5.out.mono B.out.size))
          clear hb5
          refine ⟨_, rfl, J5.out, ?_⟩
          go_simp
          (refine h_read 11 rfl (by kernel_rfl) (by kernel_rfl) (h_free rfl) ?_ ?_ ?_; rotate_left; (focus (intro v hv; go_simp; rfl)); go_simp)
          refine h_done (by kernel_rfl) ?_
          go_wp2_with fail
          go_ret
          exact ⟨one (vbool (by rw [HX.out, ← H6.out, decide_eq_false HN.out]; rfl)), B2.out.trans (B5.out.mono B2.out.size)⟩
      · obtain rfl : en = k := by omega
        have h9 := P.out
        rw [List.take_of_length_le (by rw [HL1.out]; exact Nat.le_refl _), List.take_of_length_le (by rw [HL2.out, ← HEN.out]; exact Nat.le_refl _)] at h9
        have P9 := Lib.hid h9
        clear h9
        go_wp2_with fail
        go_ret
        exact ⟨one (vbool (by rw [HX.out, ← H6.out, decide_eq_true P9.out]; rfl)), B2.out.trans (B.out.mono B2.out.size)⟩
  · have hfalse : (x0 && (x1 && (x2 && (x3 && (x4 && (x5 && x6)))))) = false := by
      rcases Bool.eq_false_or_eq_true x6 with h7 | h7
      · have hen : en = en' := by
          have h8 := of_decide_eq_true (H6.out.trans h7)
          have h9 := congrArg List.length h8
          simp at h9
          have e1 := HE.out.hlen
          have e2 := HE'.out.hlen
          omega
        cases hq : (x0 && (x1 && (x2 && (x3 && (x4 && (x5 && x6))))))
        · rfl
        · exact absurd ⟨by revert hq; cases x0 <;> cases x1 <;> cases x2 <;> cases x3 <;> cases x4 <;> cases x5 <;> cases x6 <;> simp, hen⟩ hall
      · rw [h7]; cases x0 <;> cases x1 <;> cases x2 <;> cases x3 <;> cases x4 <;> cases x5 <;> rfl
    have HFL := Lib.hid hfalse
    obtain ⟨x7, h7⟩ : ∃ x, ((en : Int) == (en' : Int)) = x := ⟨_, rfl⟩
    have g7 : ((en : Int) != (en' : Int)) = !x7 := by rw [← h7]; rfl
    have hno : ¬ (x0 = true ∧ x1 = true ∧ x2 = true ∧ x3 = true ∧ x4 = true ∧ x5 = true ∧ x7 = true) := by
      rintro ⟨rfl, rfl, rfl, rfl, rfl, rfl, rfl⟩
      exact hall ⟨rfl, by have h8 : (en : Int) = (en' : Int) := by simpa using h7
                          omega⟩
    clear hall hfalse
    rcases ch7 x0 x1 x2 x3 x4 x5 x7 with rfl | ⟨rfl, rfl⟩ | ⟨rfl, rfl, rfl⟩ | ⟨rfl, rfl, rfl, rfl⟩ | ⟨rfl, rfl, rfl, rfl, rfl⟩ | ⟨rfl, rfl, rfl, rfl, rfl, rfl⟩ | ⟨rfl, rfl, rfl, rfl, rfl, rfl, rfl⟩ | ⟨rfl, rfl, rfl, rfl, rfl, rfl, rfl⟩
    all_goals first
      | (exact absurd ⟨rfl, rfl, rfl, rfl, rfl, rfl, rfl⟩ hno)
      | (clear hno
         simp only [Bool.not_true, Bool.not_false] at g0 g1 g2 g3 g4 g5 g7
         go_enter Try.func14, Try.ntmps14
         go_wp2_with (first
           | (with_reducible refine box_row (o := ⟨some 2, _, _, _, _, _⟩) rfl _ _ rfl [.int .i64 t, .int .i64 v, .int .i64 b, .int .i64 bt, .int .i64 f, .slice a n c, .slice ea en ec] rfl ?_; intro w1 hr1 hb1 hz1; have R1 := Lib.hid hr1; have B1 := Lib.hid hb1; clear hr1 hb1 hz1)
           | (with_reducible refine box_row (o := ⟨some 3, _, _, _, _, _⟩) rfl _ _ rfl [.int .i64 t', .int .i64 v', .int .i64 b', .int .i64 bt', .int .i64 f', .slice a' n' c', .slice ea' en' ec'] rfl ?_; intro w2 hr2 hb2 hz2; have R2 := Lib.hid hr2; have S2 := Lib.hid (R1.out.below hb2 R1.out.lt); have B2 := Lib.hid (B1.out.trans (hb2.mono B1.out.size)); obtain ⟨c0, c1, c2, c3, c4, c5, c6⟩ := S2.out.q7; obtain ⟨d0, d1, d2, d3, d4, d5, d6⟩ := R2.out.q7; have cv1 := conv_rd (HD.out.mono B2.out); have cv2 := conv_rd (HD'.out.mono B2.out); clear hr2 hb2 hz2))
         go_ret
         exact ⟨one (vbool (by rw [HX.out, HFL.out])), B2.out⟩)
end Go.Proofs.Ytbcaphkbjeejhaa.W
