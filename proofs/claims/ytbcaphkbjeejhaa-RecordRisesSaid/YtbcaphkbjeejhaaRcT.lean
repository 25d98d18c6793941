/- LAYER 11 (record): last of both, copiedEntry. -/
import Derived.Test.YtbcaphkbjeejhaaRcV
import Derived.Test.YtbcaphkbjeejhaaRcR
set_option linter.unusedSimpArgs false
set_option linter.unusedVariables false
namespace Go.Proofs.Ytbcaphkbjeejhaa.W
open Go Go.ChangeShapes Go.WideShapes Go.ChangeAt Go.RowKit

/-- the last entry's number, or without one the base's -/
def lastV (b : Int) (L : List (En × List UInt8)) : Int := if L.length = 0 then b else (L.getD (L.length - 1) Ez).1.ix
theorem sv_one (s : Sv) : ∀ v ∈ s.cells, v.oneCell' = true := by
  intro v hv
  simp [Sv.cells] at hv
  rcases hv with rfl | rfl | rfl | rfl | rfl | rfl | rfl <;> rfl
set_option maxRecDepth 100000 in
set_option maxHeartbeats 4000000 in
theorem rlast (s : Sv) (d : List UInt8) (L : List (En × List UInt8)) (w : World) (h : SvF w s d L) : Calls Try.prog 94 #[.agg s.cells.toArray] w fun x w' => x = .returned (.int .i64 (lastV s.b L)) ∧ Below w.heap.size w w' := by
  obtain ⟨t, v, b, bt, f, a, n, c, ea, en, ec⟩ := s
  have hl := h.es.hlen
  have hc := h.es.hcells
  have hm := h.es.hmax
  have hle := h.es.hle
  unfold Sv.cells
  dsimp only at hl hc hm hle ⊢
  clear h
  rcases en with _ | m
  · have HV := Lib.hid (show lastV b L = b by unfold lastV; rw [if_pos hl])
    clear hl hc hm hle
    go_enter Try.func94, Try.ntmps94
    go_wp2_with (first
      | (with_reducible refine box_row (o := ⟨some 1, _, _, _, _, _⟩) rfl _ _ rfl [.int .i64 t, .int .i64 v, .int .i64 b, .int .i64 bt, .int .i64 f, .slice a n c, .slice ea 0 ec] rfl ?_; intro w1 hr1 hb1 hz1; obtain ⟨c0, c1, c2, c3, c4, c5, c6⟩ := hr1.q7; have B1 := Lib.hid hb1; clear hr1 hb1 hz1))
    go_ret
    exact ⟨one (vint (by rw [HV.out])), B1.out⟩
  · rcases hc with h0 | ⟨x, off, rfl, hlt, hcell⟩
    · exact absurd h0 (by omega)
    have h1 : w.cell? ⟨x, off + m * 4, none⟩ = some (.int .i64 (L.getD m Ez).1.ix) := hcell m (by omega) 0 _ rfl
    obtain ⟨z, hz⟩ : ∃ z, (L.getD m Ez).1.ix = z := ⟨_, rfl⟩
    rw [hz] at h1
    have HV := Lib.hid (show lastV b L = z by unfold lastV; rw [if_neg (by omega), hl]; exact hz)
    have HC := Lib.hid h1
    have HLT := Lib.hid hlt
    have hw : IntKind.i64.wrap (((m + 1 : Nat) : Int) - 1) = (m : Int) := by rw [IntKind.wrap_i64]; omega
    have g1 : (0 : Int) ≤ (m : Int) := by omega
    have g2 : (m : Int) < ((m + 1 : Nat) : Int) := by omega
    have g3 : ((((m + 1 : Nat) : Int)) == 0) = false := by simp; omega
    clear hcell h1 hz hl hlt
    go_enter Try.func94, Try.ntmps94
    go_wp2_with (first
      | (with_reducible refine box_row (o := ⟨some 1, _, _, _, _, _⟩) rfl _ _ rfl [.int .i64 t, .int .i64 v, .int .i64 b, .int .i64 bt, .int .i64 f, .slice a n c, .slice (some ⟨x, off, none⟩) (m + 1) ec] rfl ?_; intro w1 hr1 hb1 hz1; obtain ⟨c0, c1, c2, c3, c4, c5, c6⟩ := hr1.q7; have hx : w1.cell? ⟨x, off + m * 4, none⟩ = some (.int .i64 z) := (by rw [hb1.cell (p := ⟨x, off + m * 4, none⟩) HLT.out]; exact HC.out); have B1 := Lib.hid hb1; clear hr1 hb1 hz1))
    go_ret
    exact ⟨one (vint (by rw [HV.out])), B1.out⟩
set_option maxRecDepth 100000 in
set_option maxHeartbeats 4000000 in
theorem ulast (s : Sv) (d : List UInt8) (L : List (En × List UInt8)) (w : World) (h : SvF w s d L) : Calls Try.prog 59 #[.agg s.cells.toArray] w fun x w' => x = .returned (.int .i64 (lastV s.b L)) ∧ Below w.heap.size w w' := by
  obtain ⟨t, v, b, bt, f, a, n, c, ea, en, ec⟩ := s
  have hl := h.es.hlen
  have hc := h.es.hcells
  have hm := h.es.hmax
  have hle := h.es.hle
  unfold Sv.cells
  dsimp only at hl hc hm hle ⊢
  clear h
  rcases en with _ | m
  · have HV := Lib.hid (show lastV b L = b by unfold lastV; rw [if_pos hl])
    clear hl hc hm hle
    go_enter Try.func59, Try.ntmps59
    go_wp2_with (first
      | (with_reducible refine box_row (o := ⟨some 1, _, _, _, _, _⟩) rfl _ _ rfl [.int .i64 t, .int .i64 v, .int .i64 b, .int .i64 bt, .int .i64 f, .slice a n c, .slice ea 0 ec] rfl ?_; intro w1 hr1 hb1 hz1; obtain ⟨c0, c1, c2, c3, c4, c5, c6⟩ := hr1.q7; have B1 := Lib.hid hb1; clear hr1 hb1 hz1))
    go_ret
    exact ⟨one (vint (by rw [HV.out])), B1.out⟩
  · rcases hc with h0 | ⟨x, off, rfl, hlt, hcell⟩
    · exact absurd h0 (by omega)
    have h1 : w.cell? ⟨x, off + m * 4, none⟩ = some (.int .i64 (L.getD m Ez).1.ix) := hcell m (by omega) 0 _ rfl
    obtain ⟨z, hz⟩ : ∃ z, (L.getD m Ez).1.ix = z := ⟨_, rfl⟩
    rw [hz] at h1
    have HV := Lib.hid (show lastV b L = z by unfold lastV; rw [if_neg (by omega), hl]; exact hz)
    have HC := Lib.hid h1
    have HLT := Lib.hid hlt
    have hw : IntKind.i64.wrap (((m + 1 : Nat) : Int) - 1) = (m : Int) := by rw [IntKind.wrap_i64]; omega
    have g1 : (0 : Int) ≤ (m : Int) := by omega
    have g2 : (m : Int) < ((m + 1 : Nat) : Int) := by omega
    have g3 : ((((m + 1 : Nat) : Int)) == 0) = false := by simp; omega
    clear hcell h1 hz hl hlt
    go_enter Try.func59, Try.ntmps59
    go_wp2_with (first
      | (with_reducible refine box_row (o := ⟨some 1, _, _, _, _, _⟩) rfl _ _ rfl [.int .i64 t, .int .i64 v, .int .i64 b, .int .i64 bt, .int .i64 f, .slice a n c, .slice (some ⟨x, off, none⟩) (m + 1) ec] rfl ?_; intro w1 hr1 hb1 hz1; obtain ⟨c0, c1, c2, c3, c4, c5, c6⟩ := hr1.q7; have hx : w1.cell? ⟨x, off + m * 4, none⟩ = some (.int .i64 z) := (by rw [hb1.cell (p := ⟨x, off + m * 4, none⟩) HLT.out]; exact HC.out); have B1 := Lib.hid hb1; clear hr1 hb1 hz1))
    go_ret
    exact ⟨one (vint (by rw [HV.out])), B1.out⟩
set_option maxRecDepth 100000 in
set_option maxHeartbeats 4000000 in
theorem rcopE (e : En) (l : List UInt8) (w : World) (h : Rd w e.a e.n e.c l) (hmax : e.n ≤ 140737488355000) : Calls Try.prog 56 #[.agg e.cells.toArray] w fun x w' => ∃ a c, x = .returned (.agg (En.cells ⟨e.ix, e.tm, e.kd, a, e.n, c⟩).toArray) ∧ Rd w' a e.n c l ∧ Below w.heap.size w w' := by
  obtain ⟨ix, tm, kd, a, n, c⟩ := e
  have HR := Lib.hid h
  have HN := Lib.hid h.hlen
  have EZ := Lib.hid en_zero
  have ES := Lib.hid en_size
  dsimp only at hmax
  unfold En.cells
  dsimp only
  clear h
  go_enter Try.func56, Try.ntmps56
  go_wp2_with (first
    | (with_reducible refine box_row (o := ⟨some 1, _, _, _, _, _⟩) rfl _ _ rfl [.int .i64 ix, .int .i64 tm, .int .i64 kd, .slice a n c] rfl ?_; intro w1 hr1 hb1 hz1; have E1 := Lib.hid hr1; have B1 := Lib.hid hb1; clear hr1 hb1 hz1)
    | ((with_reducible refine alloc_row (o := ⟨some 2, _, _, _, _, _⟩) rfl _ rfl _ EZ.out ?_); intro w2 hr2 hb2 hz2; have Z2 := Lib.hid hr2; have LT := Lib.hid (show w.heap.size < w1.heap.size from E1.out.lt); have E2 := Lib.hid (E1.out.below hb2 E1.out.lt); have B2 := Lib.hid (B1.out.trans (hb2.mono B1.out.size)); obtain ⟨c0, c1, c2, c3⟩ := E2.out.q4; clear hr2 hb2 hz2)
    | (go_at_call 53; refine (fclone a n c l w2 (HR.out.mono B2.out) hmax).mono ?_; rintro x w3 ⟨v, rfl, hf, hb⟩; obtain ⟨b, c', hv, hr⟩ := hf.form' n HN.out; subst hv; have R3 := Lib.hid hr; have E3 := Lib.hid (E2.out.below hb E2.out.lt); have Z3 := Lib.hid (Z2.out.below hb Z2.out.lt); have B3 := Lib.hid (B2.out.trans (hb.mono B2.out.size)); have U4 := Lib.hid (Upd.setCell w3 w.heap.size 3 (.slice b n c')); have E4 := Lib.hid (show Row (w3.setCell ⟨w.heap.size, 3, none⟩ (.slice b n c')) w.heap.size 27 (En.cells ⟨ix, tm, kd, b, n, c'⟩) from E3.out.setV 3 (.slice b n c')); have R4 := Lib.hid (R3.out.put E3.out (NB_en _ _ _ _ _ _) U4.out); have Z4 := Lib.hid (Z3.out.upd U4.out (by have := LT.out; omega)); have B4 := Lib.hid (B3.out.trans (U4.out.below (Nat.le_refl _))); clear hf hr hb c0 c1 c2 c3; have f3 := E3.out.frozen 3; obtain ⟨c0, c1, c2, c3⟩ := E3.out.q4)
    | ((with_reducible refine load_row (o := ⟨some 7, _, _, _, _, _⟩) rfl _ _ rfl w.heap.size ?_ _ (En.cells ⟨ix, tm, kd, b, n, c'⟩) _ E4.out Try.underlying27 rfl ?_ ?_); (focus go_simp); (focus (exact ES.out)))
    | ((with_reducible refine store_row (o := ⟨none, _, _, _, _, _⟩) rfl _ (.tmp 2) _ rfl w1.heap.size (En.cells ⟨ix, tm, kd, b, n, c'⟩) ?_ ?_ 27 _ Z4.out ?_ ?_ ?_ ?_); (focus go_simp); (focus (first | (go_simp; done) | (go_simp; rfl))); (focus (exact ES.out)); (focus rfl); (focus (exact en_one _)); intro w5 hr5 hu5; have E5 := Lib.hid hr5; have R5 := Lib.hid (R4.out.put Z4.out (NB_en _ _ _ _ _ _) hu5); have B5 := Lib.hid (B4.out.trans (hu5.below B1.out.size)); clear hr5 hu5))
  exact bodyPost_ret (results_cell_row rfl _ _ w1.heap.size 27 _ _ _ (by go_simp) E5.out Try.underlying27 rfl ES.out) rfl ⟨b, c', rfl, R5.out, B5.out⟩
end Go.Proofs.Ytbcaphkbjeejhaa.W
