/- LAYER 11 (record): the closures of Apply; slices.IndexFunc with them. -/
import Derived.Test.YtbcaphkbjeejhaaRcX
set_option linter.unusedSimpArgs false
set_option linter.unusedVariables false
namespace Go.Proofs.Ytbcaphkbjeejhaa.W
open Go Go.ChangeShapes Go.WideShapes Go.ChangeAt Go.RowKit

def pr1 (r : Rc) (e : En) : Bool := decide (e.ix ≤ r.i)
set_option maxRecDepth 100000 in
set_option maxHeartbeats 4000000 in
theorem rdel1 (r : Rc) (e : En) (rb : Nat) (w : World) (h : Row w rb 29 r.cells) : Calls Try.prog 55 #[.agg e.cells.toArray, .pointer (some ⟨rb, 0, none⟩)] w fun x w' => x = .returned (.bool (pr1 r e)) ∧ Below w.heap.size w w' := by
  obtain ⟨ix, tm, kd, a, n, c⟩ := e
  obtain ⟨k, t, v, ⟨jx, jm, jd, b, m, q⟩, i, f, sa, sn, sc⟩ := r
  have H := Lib.hid h
  have HX := Lib.hid (show pr1 ⟨k, t, v, ⟨jx, jm, jd, b, m, q⟩, i, f, sa, sn, sc⟩ ⟨ix, tm, kd, a, n, c⟩ = decide (ix ≤ i) from rfl)
  unfold En.cells
  dsimp only
  clear h
  go_enter Try.func55, Try.ntmps55
  go_wp2_with (first
    | (with_reducible refine box_row (o := ⟨some 2, _, _, _, _, _⟩) rfl _ _ rfl [.int .i64 ix, .int .i64 tm, .int .i64 kd, .slice a n c] rfl ?_; intro w1 hr1 hb1 hz1; obtain ⟨c0, c1, c2, c3⟩ := hr1.q4; obtain ⟨d0, d1, d2, d3, d4, d5, d6, d7, d8, d9⟩ := (H.out.below hb1 H.out.lt).q10; have B1 := Lib.hid hb1; clear hr1 hb1 hz1))
  go_ret
  exact ⟨one (vbool (by rw [HX.out])), B1.out⟩
def pr2 (r : Rc) (e : En) : Bool := decide (r.i ≤ e.ix)
set_option maxRecDepth 100000 in
set_option maxHeartbeats 4000000 in
theorem rdel2 (r : Rc) (e : En) (rb : Nat) (w : World) (h : Row w rb 29 r.cells) : Calls Try.prog 57 #[.agg e.cells.toArray, .pointer (some ⟨rb, 0, none⟩)] w fun x w' => x = .returned (.bool (pr2 r e)) ∧ Below w.heap.size w w' := by
  obtain ⟨ix, tm, kd, a, n, c⟩ := e
  obtain ⟨k, t, v, ⟨jx, jm, jd, b, m, q⟩, i, f, sa, sn, sc⟩ := r
  have H := Lib.hid h
  have HX := Lib.hid (show pr2 ⟨k, t, v, ⟨jx, jm, jd, b, m, q⟩, i, f, sa, sn, sc⟩ ⟨ix, tm, kd, a, n, c⟩ = decide (i ≤ ix) from rfl)
  unfold En.cells
  dsimp only
  clear h
  go_enter Try.func57, Try.ntmps57
  go_wp2_with (first
    | (with_reducible refine box_row (o := ⟨some 2, _, _, _, _, _⟩) rfl _ _ rfl [.int .i64 ix, .int .i64 tm, .int .i64 kd, .slice a n c] rfl ?_; intro w1 hr1 hb1 hz1; obtain ⟨c0, c1, c2, c3⟩ := hr1.q4; obtain ⟨d0, d1, d2, d3, d4, d5, d6, d7, d8, d9⟩ := (H.out.below hb1 H.out.lt).q10; have B1 := Lib.hid hb1; clear hr1 hb1 hz1))
  go_ret
  exact ⟨one (vbool (by rw [HX.out])), B1.out⟩
set_option maxRecDepth 100000 in
set_option maxHeartbeats 8000000 in
theorem ridx1 (r : Rc) (rb g n : Nat) (M : List En) (w : World) (h : Row w rb 29 r.cells) (hg : Row w g 27 (flat M)) (hn : M.length = n) (hm : n ≤ 1000000) :
    Calls Try.prog 95 #[.slice (some ⟨g, 0, none⟩) n n, .func (.func 55) #[] #[.pointer (some ⟨rb, 0, none⟩)]] w fun x w' => ∃ z : Int, x = .returned (.int .i64 z) ∧ Below w.heap.size w w' ∧ ((z = -1 ∧ ∀ i, i < n → pr1 r (M.getD i En.zero) = false) ∨ ∃ k : Nat, z = (k : Int) ∧ k < n ∧ pr1 r (M.getD k En.zero) = true ∧ ∀ i, i < k → pr1 r (M.getD i En.zero) = false) := by
  have H := Lib.hid h
  have HG := Lib.hid hg
  have HN := Lib.hid hn
  have ES := Lib.hid en_size
  clear h hg hn
  go_enter Try.func95, Try.ntmps95
  go_wp2_with fail
  go_loopw [8] (fun i wr => ∃ k : Nat, i = .int .i64 (k : Int) ∧ k ≤ n ∧ Hid (∀ i, i < k → pr1 r (M.getD i En.zero) = false) ∧ Hid (Below w.heap.size w wr)) (fun i _ => n - (intOf i).toNat)
  case atStart => exact ⟨0, rfl, Nat.zero_le _, Lib.hid (fun i h => absurd h (by omega)), Lib.hid (Below.refl _ _)⟩
  case round =>
    obtain ⟨k, rfl, hk, HP, B⟩ := hrel
    by_cases hlt : k < n
    · obtain ⟨e, he⟩ : ∃ e, M.getD k En.zero = e := ⟨_, rfl⟩
      obtain ⟨q, hq⟩ : ∃ q, pr1 r e = q := ⟨_, rfl⟩
      have HE := Lib.hid he
      have HQ := Lib.hid hq
      have HR := Lib.hid (H.out.below B.out H.out.lt)
      have HC1 := Lib.hid (fun j v (hj : e.cells[j]? = some v) => (show wr.cell? ⟨g, k * 4 + j, none⟩ = some v by
        have hj4 : j < 4 := (List.getElem?_eq_some_iff.1 hj).1
        rw [(HG.out.below B.out HG.out.lt).cellV, flat_get M k j (by rw [HN.out]; exact hlt) hj4, HE.out]; exact hj))
      have g1 : (0 : Int) ≤ (k : Int) := by omega
      have g2 : (k : Int) < (n : Int) := by omega
      clear he hq
      cases q
      · go_wp2_with (first
          | ((with_reducible refine load_cells (o := ⟨some 15, _, _, _, _, _⟩) rfl _ _ rfl g (k * 4) ?_ e.cells _ ?_ Try.underlying27 rfl ?_ ?_); (focus go_simp); (focus (exact HC1.out)); (focus (exact ES.out)))
          | (go_at_call 55; refine (rdel1 r e rb wr HR.out).mono ?_; rw [HQ.out]; rintro x w5 ⟨rfl, hb5⟩; have B5 := Lib.hid (B.out.trans (hb5.mono B.out.size)); clear hb5))
        go_roundw
        case rel =>
          refine ⟨k + 1, vint (by omega), by omega, Lib.hid ?_, B5⟩
          intro i hi
          by_cases h : i < k
          · exact HP.out i h
          · obtain rfl : i = k := by omega
            rw [HE.out]; exact HQ.out
        case measure => simp [intOf]; omega
      · go_wp2_with (first
          | ((with_reducible refine load_cells (o := ⟨some 15, _, _, _, _, _⟩) rfl _ _ rfl g (k * 4) ?_ e.cells _ ?_ Try.underlying27 rfl ?_ ?_); (focus go_simp); (focus (exact HC1.out)); (focus (exact ES.out)))
          | (go_at_call 55; refine (rdel1 r e rb wr HR.out).mono ?_; rw [HQ.out]; rintro x w5 ⟨rfl, hb5⟩; have B5 := Lib.hid (B.out.trans (hb5.mono B.out.size)); clear hb5))
        go_ret
        exact ⟨(k : Int), rfl, B5.out, .inr ⟨k, rfl, hlt, by rw [HE.out]; exact HQ.out, HP.out⟩⟩
    · obtain rfl : k = n := by omega
      go_wp2_with fail
      go_ret
      exact ⟨-1, rfl, B.out, .inl ⟨rfl, HP.out⟩⟩
set_option maxRecDepth 100000 in
set_option maxHeartbeats 8000000 in
theorem ridx2 (r : Rc) (rb g n : Nat) (M : List En) (w : World) (h : Row w rb 29 r.cells) (hg : Row w g 27 (flat M)) (hn : M.length = n) (hm : n ≤ 1000000) :
    Calls Try.prog 95 #[.slice (some ⟨g, 0, none⟩) n n, .func (.func 57) #[] #[.pointer (some ⟨rb, 0, none⟩)]] w fun x w' => ∃ z : Int, x = .returned (.int .i64 z) ∧ Below w.heap.size w w' ∧ ((z = -1 ∧ ∀ i, i < n → pr2 r (M.getD i En.zero) = false) ∨ ∃ k : Nat, z = (k : Int) ∧ k < n ∧ pr2 r (M.getD k En.zero) = true ∧ ∀ i, i < k → pr2 r (M.getD i En.zero) = false) := by
  have H := Lib.hid h
  have HG := Lib.hid hg
  have HN := Lib.hid hn
  have ES := Lib.hid en_size
  clear h hg hn
  go_enter Try.func95, Try.ntmps95
  go_wp2_with fail
  go_loopw [8] (fun i wr => ∃ k : Nat, i = .int .i64 (k : Int) ∧ k ≤ n ∧ Hid (∀ i, i < k → pr2 r (M.getD i En.zero) = false) ∧ Hid (Below w.heap.size w wr)) (fun i _ => n - (intOf i).toNat)
  case atStart => exact ⟨0, rfl, Nat.zero_le _, Lib.hid (fun i h => absurd h (by omega)), Lib.hid (Below.refl _ _)⟩
  case round =>
    obtain ⟨k, rfl, hk, HP, B⟩ := hrel
    by_cases hlt : k < n
    · obtain ⟨e, he⟩ : ∃ e, M.getD k En.zero = e := ⟨_, rfl⟩
      obtain ⟨q, hq⟩ : ∃ q, pr2 r e = q := ⟨_, rfl⟩
      have HE := Lib.hid he
      have HQ := Lib.hid hq
      have HR := Lib.hid (H.out.below B.out H.out.lt)
      have HC1 := Lib.hid (fun j v (hj : e.cells[j]? = some v) => (show wr.cell? ⟨g, k * 4 + j, none⟩ = some v by
        have hj4 : j < 4 := (List.getElem?_eq_some_iff.1 hj).1
        rw [(HG.out.below B.out HG.out.lt).cellV, flat_get M k j (by rw [HN.out]; exact hlt) hj4, HE.out]; exact hj))
      have g1 : (0 : Int) ≤ (k : Int) := by omega
      have g2 : (k : Int) < (n : Int) := by omega
      clear he hq
      cases q
      · go_wp2_with (first
          | ((with_reducible refine load_cells (o := ⟨some 15, _, _, _, _, _⟩) rfl _ _ rfl g (k * 4) ?_ e.cells _ ?_ Try.underlying27 rfl ?_ ?_); (focus go_simp); (focus (exact HC1.out)); (focus (exact ES.out)))
          | (go_at_call 57; refine (rdel2 r e rb wr HR.out).mono ?_; rw [HQ.out]; rintro x w5 ⟨rfl, hb5⟩; have B5 := Lib.hid (B.out.trans (hb5.mono B.out.size)); clear hb5))
        go_roundw
        case rel =>
          refine ⟨k + 1, vint (by omega), by omega, Lib.hid ?_, B5⟩
          intro i hi
          by_cases h : i < k
          · exact HP.out i h
          · obtain rfl : i = k := by omega
            rw [HE.out]; exact HQ.out
        case measure => simp [intOf]; omega
      · go_wp2_with (first
          | ((with_reducible refine load_cells (o := ⟨some 15, _, _, _, _, _⟩) rfl _ _ rfl g (k * 4) ?_ e.cells _ ?_ Try.underlying27 rfl ?_ ?_); (focus go_simp); (focus (exact HC1.out)); (focus (exact ES.out)))
          | (go_at_call 57; refine (rdel2 r e rb wr HR.out).mono ?_; rw [HQ.out]; rintro x w5 ⟨rfl, hb5⟩; have B5 := Lib.hid (B.out.trans (hb5.mono B.out.size)); clear hb5))
        go_ret
        exact ⟨(k : Int), rfl, B5.out, .inr ⟨k, rfl, hlt, by rw [HE.out]; exact HQ.out, HP.out⟩⟩
    · obtain rfl : k = n := by omega
      go_wp2_with fail
      go_ret
      exact ⟨-1, rfl, B.out, .inl ⟨rfl, HP.out⟩⟩
end Go.Proofs.Ytbcaphkbjeejhaa.W
