/- LAYER 13 (rlog): the closures of Cut and Compact; slices.IndexFunc and DeleteFunc with them, on a row that may have room behind it, or on nil. LAYER 13 (rlog): drop, Cut of the program. LAYER 13 (rlog): From, ConfAt, Compact, plain. -/
import Derived.Test.YtjkkopbhdeljmaaGreatRlO
import Derived.Test.YtjkkopbhdeljmaaGreatRcY
import Derived.Test.YtjkkopbhdeljmaaGreatRlD
set_option linter.unusedSimpArgs false
set_option linter.unusedVariables false
namespace Go.Proofs.YtjkkopbhdeljmaaGreat.W
open Go Go.ChangeShapes Go.WideShapes Go.ChangeAt Go.RowKit

theorem splice_mid (M : List En) (i n c : Nat) (hn : M.length = c) (hi : i ≤ n) (hc : n ≤ c) : splice (flat M) (i * 4) (flat (List.replicate (n - i) En.zero)) = flat (M.take i ++ List.replicate (n - i) En.zero ++ M.drop n) := by
  unfold splice
  have h2 : (flat M).take (i * 4) = flat (M.take i) := take_flat M i
  have h1 : (flat M).drop (i * 4 + (flat (List.replicate (n - i) En.zero)).length) = flat (M.drop n) := by
    rw [flat_len, List.length_replicate, show i * 4 + (n - i) * 4 = n * 4 by omega]
    have : flat M = flat (M.take n) ++ flat (M.drop n) := by rw [← flat_app, List.take_append_drop]
    rw [this, List.drop_append_of_le_length (by rw [flat_len, List.length_take]; omega), List.drop_of_length_le (by rw [flat_len, List.length_take]; omega), List.nil_append]
  rw [h1, h2, ← flat_app, ← flat_app, List.append_assoc]
def gp1 (r : Int) (e : En) : Bool := decide (e.ix ≤ r)
set_option maxRecDepth 100000 in
set_option maxHeartbeats 4000000 in
theorem gdel1 (r : Int) (e : En) (rb : Nat) (w : World) (h : Row w rb 3 [.int .i64 r]) : Calls Tryz.prog 83 #[.agg e.cells.toArray, .pointer (some ⟨rb, 0, none⟩)] w fun x w' => x = .returned (.bool (gp1 r e)) ∧ Below w.heap.size w w' := by
  obtain ⟨ix, tm, kd, a, n, c⟩ := e
  have H := Lib.hid h
  have HX := Lib.hid (show gp1 r ⟨ix, tm, kd, a, n, c⟩ = decide (ix ≤ r) from rfl)
  unfold En.cells
  dsimp only
  clear h
  go_enter Tryz.func83, Tryz.ntmps83
  go_wp2_with (first
    | (with_reducible refine box_row (o := ⟨some 2, _, _, _, _, _⟩) rfl _ _ rfl [.int .i64 ix, .int .i64 tm, .int .i64 kd, .slice a n c] rfl ?_; intro w1 hr1 hb1 hz1; obtain ⟨c0, c1, c2, c3⟩ := hr1.q4; have d0 := (H.out.below hb1 H.out.lt).k0; have B1 := Lib.hid hb1; clear hr1 hb1 hz1))
  go_ret
  exact ⟨one (vbool (by rw [HX.out])), B1.out⟩
def gp2 (r : Int) (e : En) : Bool := decide (r ≤ e.ix)
set_option maxRecDepth 100000 in
set_option maxHeartbeats 4000000 in
theorem gdel2 (r : Int) (e : En) (rb : Nat) (w : World) (h : Row w rb 3 [.int .i64 r]) : Calls Tryz.prog 170 #[.agg e.cells.toArray, .pointer (some ⟨rb, 0, none⟩)] w fun x w' => x = .returned (.bool (gp2 r e)) ∧ Below w.heap.size w w' := by
  obtain ⟨ix, tm, kd, a, n, c⟩ := e
  have H := Lib.hid h
  have HX := Lib.hid (show gp2 r ⟨ix, tm, kd, a, n, c⟩ = decide (r ≤ ix) from rfl)
  unfold En.cells
  dsimp only
  clear h
  go_enter Tryz.func170, Tryz.ntmps170
  go_wp2_with (first
    | (with_reducible refine box_row (o := ⟨some 2, _, _, _, _, _⟩) rfl _ _ rfl [.int .i64 ix, .int .i64 tm, .int .i64 kd, .slice a n c] rfl ?_; intro w1 hr1 hb1 hz1; obtain ⟨c0, c1, c2, c3⟩ := hr1.q4; have d0 := (H.out.below hb1 H.out.lt).k0; have B1 := Lib.hid hb1; clear hr1 hb1 hz1))
  go_ret
  exact ⟨one (vbool (by rw [HX.out])), B1.out⟩
set_option maxRecDepth 100000 in
set_option maxHeartbeats 8000000 in
theorem gidx1 (r : Int) (rb g n : Nat) (M : List En) (w : World) (h : Row w rb 3 [.int .i64 r]) (hg : Row w g 69 (flat M)) (cp : Nat) (hn : M.length = cp) (hnc : n ≤ cp) (hm : n ≤ 1000000) :
    Calls Tryz.prog 164 #[.slice (some ⟨g, 0, none⟩) n cp, .func (.func 83) #[] #[.pointer (some ⟨rb, 0, none⟩)]] w fun x w' => ∃ z : Int, x = .returned (.int .i64 z) ∧ Below w.heap.size w w' ∧ ((z = -1 ∧ ∀ i, i < n → gp1 r (M.getD i En.zero) = false) ∨ ∃ k : Nat, z = (k : Int) ∧ k < n ∧ gp1 r (M.getD k En.zero) = true ∧ ∀ i, i < k → gp1 r (M.getD i En.zero) = false) := by
  have H := Lib.hid h
  have HG := Lib.hid hg
  have HN := Lib.hid hn
  have ES := Lib.hid en_size
  clear h hg hn
  go_enter Tryz.func164, Tryz.ntmps164
  go_wp2_with fail
  go_loopw [8] (fun i wr => ∃ k : Nat, i = .int .i64 (k : Int) ∧ k ≤ n ∧ Hid (∀ i, i < k → gp1 r (M.getD i En.zero) = false) ∧ Hid (Below w.heap.size w wr)) (fun i _ => n - (intOf i).toNat)
  case atStart => exact ⟨0, rfl, Nat.zero_le _, Lib.hid (fun i h => absurd h (by omega)), Lib.hid (Below.refl _ _)⟩
  case round =>
    obtain ⟨k, rfl, hk, HP, B⟩ := hrel
    by_cases hlt : k < n
    · obtain ⟨e, he⟩ : ∃ e, M.getD k En.zero = e := ⟨_, rfl⟩
      obtain ⟨q, hq⟩ : ∃ q, gp1 r e = q := ⟨_, rfl⟩
      have HE := Lib.hid he
      have HQ := Lib.hid hq
      have HR := Lib.hid (H.out.below B.out H.out.lt)
      have HC1 := Lib.hid (fun j v (hj : e.cells[j]? = some v) => (show wr.cell? ⟨g, k * 4 + j, none⟩ = some v by
        have hj4 : j < 4 := (List.getElem?_eq_some_iff.1 hj).1
        rw [(HG.out.below B.out HG.out.lt).cellV, flat_get M k j (by rw [HN.out]; omega) hj4, HE.out]; exact hj))
      have g1 : (0 : Int) ≤ (k : Int) := by omega
      have g2 : (k : Int) < (n : Int) := by omega
      clear he hq
      cases q
      · go_wp2_with (first
          | ((with_reducible refine load_cells (o := ⟨some 15, _, _, _, _, _⟩) rfl _ _ rfl g (k * 4) ?_ e.cells _ ?_ Tryz.underlying69 rfl ?_ ?_); (focus go_simp); (focus (exact HC1.out)); (focus (exact ES.out)))
          | (go_at_call 83; refine (gdel1 r e rb wr HR.out).mono ?_; rw [HQ.out]; rintro x w5 ⟨rfl, hb5⟩; have B5 := Lib.hid (B.out.trans (hb5.mono B.out.size)); clear hb5))
        go_roundw
        case rel =>
          refine ⟨k + 1, vint (by omega), by omega, Lib.hid ?_, B5⟩
          intro i hi
          by_cases h : i < k
          · exact HP.out i h
          · obtain rfl : i = k := by omega
            rw [HE.out]; exact HQ.out
        case measure => simp [intOf]; omega
      · go_wp2_with (first
          | ((with_reducible refine load_cells (o := ⟨some 15, _, _, _, _, _⟩) rfl _ _ rfl g (k * 4) ?_ e.cells _ ?_ Tryz.underlying69 rfl ?_ ?_); (focus go_simp); (focus (exact HC1.out)); (focus (exact ES.out)))
          | (go_at_call 83; refine (gdel1 r e rb wr HR.out).mono ?_; rw [HQ.out]; rintro x w5 ⟨rfl, hb5⟩; have B5 := Lib.hid (B.out.trans (hb5.mono B.out.size)); clear hb5))
        go_ret
        exact ⟨(k : Int), rfl, B5.out, .inr ⟨k, rfl, hlt, by rw [HE.out]; exact HQ.out, HP.out⟩⟩
    · obtain rfl : k = n := by omega
      go_wp2_with fail
      go_ret
      exact ⟨-1, rfl, B.out, .inl ⟨rfl, HP.out⟩⟩
set_option maxRecDepth 100000 in
set_option maxHeartbeats 8000000 in
theorem gidx2 (r : Int) (rb g n : Nat) (M : List En) (w : World) (h : Row w rb 3 [.int .i64 r]) (hg : Row w g 69 (flat M)) (cp : Nat) (hn : M.length = cp) (hnc : n ≤ cp) (hm : n ≤ 1000000) :
    Calls Tryz.prog 164 #[.slice (some ⟨g, 0, none⟩) n cp, .func (.func 170) #[] #[.pointer (some ⟨rb, 0, none⟩)]] w fun x w' => ∃ z : Int, x = .returned (.int .i64 z) ∧ Below w.heap.size w w' ∧ ((z = -1 ∧ ∀ i, i < n → gp2 r (M.getD i En.zero) = false) ∨ ∃ k : Nat, z = (k : Int) ∧ k < n ∧ gp2 r (M.getD k En.zero) = true ∧ ∀ i, i < k → gp2 r (M.getD i En.zero) = false) := by
  have H := Lib.hid h
  have HG := Lib.hid hg
  have HN := Lib.hid hn
  have ES := Lib.hid en_size
  clear h hg hn
  go_enter Tryz.func164, Tryz.ntmps164
  go_wp2_with fail
  go_loopw [8] (fun i wr => ∃ k : Nat, i = .int .i64 (k : Int) ∧ k ≤ n ∧ Hid (∀ i, i < k → gp2 r (M.getD i En.zero) = false) ∧ Hid (Below w.heap.size w wr)) (fun i _ => n - (intOf i).toNat)
  case atStart => exact ⟨0, rfl, Nat.zero_le _, Lib.hid (fun i h => absurd h (by omega)), Lib.hid (Below.refl _ _)⟩
  case round =>
    obtain ⟨k, rfl, hk, HP, B⟩ := hrel
    by_cases hlt : k < n
    · obtain ⟨e, he⟩ : ∃ e, M.getD k En.zero = e := ⟨_, rfl⟩
      obtain ⟨q, hq⟩ : ∃ q, gp2 r e = q := ⟨_, rfl⟩
      have HE := Lib.hid he
      have HQ := Lib.hid hq
      have HR := Lib.hid (H.out.below B.out H.out.lt)
      have HC1 := Lib.hid (fun j v (hj : e.cells[j]? = some v) => (show wr.cell? ⟨g, k * 4 + j, none⟩ = some v by
        have hj4 : j < 4 := (List.getElem?_eq_some_iff.1 hj).1
        rw [(HG.out.below B.out HG.out.lt).cellV, flat_get M k j (by rw [HN.out]; omega) hj4, HE.out]; exact hj))
      have g1 : (0 : Int) ≤ (k : Int) := by omega
      have g2 : (k : Int) < (n : Int) := by omega
      clear he hq
      cases q
      · go_wp2_with (first
          | ((with_reducible refine load_cells (o := ⟨some 15, _, _, _, _, _⟩) rfl _ _ rfl g (k * 4) ?_ e.cells _ ?_ Tryz.underlying69 rfl ?_ ?_); (focus go_simp); (focus (exact HC1.out)); (focus (exact ES.out)))
          | (go_at_call 170; refine (gdel2 r e rb wr HR.out).mono ?_; rw [HQ.out]; rintro x w5 ⟨rfl, hb5⟩; have B5 := Lib.hid (B.out.trans (hb5.mono B.out.size)); clear hb5))
        go_roundw
        case rel =>
          refine ⟨k + 1, vint (by omega), by omega, Lib.hid ?_, B5⟩
          intro i hi
          by_cases h : i < k
          · exact HP.out i h
          · obtain rfl : i = k := by omega
            rw [HE.out]; exact HQ.out
        case measure => simp [intOf]; omega
      · go_wp2_with (first
          | ((with_reducible refine load_cells (o := ⟨some 15, _, _, _, _, _⟩) rfl _ _ rfl g (k * 4) ?_ e.cells _ ?_ Tryz.underlying69 rfl ?_ ?_); (focus go_simp); (focus (exact HC1.out)); (focus (exact ES.out)))
          | (go_at_call 170; refine (gdel2 r e rb wr HR.out).mono ?_; rw [HQ.out]; rintro x w5 ⟨rfl, hb5⟩; have B5 := Lib.hid (B.out.trans (hb5.mono B.out.size)); clear hb5))
        go_ret
        exact ⟨(k : Int), rfl, B5.out, .inr ⟨k, rfl, hlt, by rw [HE.out]; exact HQ.out, HP.out⟩⟩
    · obtain rfl : k = n := by omega
      go_wp2_with fail
      go_ret
      exact ⟨-1, rfl, B.out, .inl ⟨rfl, HP.out⟩⟩
set_option maxRecDepth 100000 in
set_option maxHeartbeats 16000000 in
theorem gdelf1 (r : Int) (rb g n : Nat) (M : List En) (w : World) (h : Row w rb 3 [.int .i64 r]) (hg : Row w g 69 (flat M)) (cp : Nat) (hn : M.length = cp) (hnc : n ≤ cp) (hm : n ≤ 1000000) (hne : rb ≠ g) :
    Calls Tryz.prog 118 #[.slice (some ⟨g, 0, none⟩) n cp, .func (.func 83) #[] #[.pointer (some ⟨rb, 0, none⟩)]] w fun x w' => ∃ (m : Nat) (R : List En), x = .returned (.slice (some ⟨g, 0, none⟩) m cp) ∧ R.length = cp ∧ m ≤ n ∧ R.take m = (M.take n).filter (fun e => !gp1 r e) ∧ Row w' g 69 (flat R) ∧ Gw g w w' := by
  have H := Lib.hid h
  have HG := Lib.hid hg
  have HN := Lib.hid hn
  have ES := Lib.hid en_size
  have EZ := Lib.hid en_zero
  have IDX := Lib.hid (gidx1 r rb g n M w h hg cp hn hnc hm)
  clear h hg hn
  go_enter Tryz.func118, Tryz.ntmps118
  go_wp2_with fail
  refine IDX.out.mono ?_
  rintro x w1 ⟨z, rfl, hb1, hz⟩
  have R1 := Lib.hid (H.out.below hb1 H.out.lt)
  have G1 := Lib.hid (HG.out.below hb1 HG.out.lt)
  have W1 := Lib.hid (Gw.of_below (g := g) hb1)
  clear hb1
  rcases hz with ⟨rfl, hall⟩ | ⟨k, rfl, hk, hpk, hbef⟩
  · have HF := Lib.hid (show M.take n = (M.take n).filter (fun e => !gp1 r e) from (all_kept M n (fun e => !gp1 r e) (by rw [HN.out]; exact hnc) (fun i hi => by show (!gp1 r (M.getD i En.zero)) = true; rw [hall i hi]; rfl)).symm)
    clear hall
    go_wp2_with fail
    go_ret
    exact ⟨n, M, rfl, HN.out, Nat.le_refl _, HF.out, G1.out, W1.out⟩
  have HK := Lib.hid (show M.take k = (M.take (k + 1)).filter (fun e => !gp1 r e) by
    rw [take_next M k _ (by rw [HN.out]; omega), all_kept M k _ (by rw [HN.out]; omega) (fun i hi => by show (!gp1 r (M.getD i En.zero)) = true; rw [hbef i hi]; rfl), if_neg (by show ¬ (!gp1 r (M.getD k En.zero)) = true; rw [hpk]; decide), List.append_nil])
  have gk : (((k : Int)) == -1) = false := by rw [beq_eq_false_iff_ne]; omega
  have gw : IntKind.i64.wrap ((k : Int) + 1) = ((k + 1 : Nat) : Int) := by rw [IntKind.wrap_i64]; omega
  clear hpk hbef
  go_wp2_with fail
  go_loopw [5, 6] (fun a b wr => ∃ (m j : Nat) (R : List En), a = .int .i64 (m : Int) ∧ b = .int .i64 (j : Int) ∧ m < j ∧ j ≤ n ∧ Hid (R.length = cp) ∧ Hid (R.take m = (M.take j).filter (fun e => !gp1 r e)) ∧ Hid (R.drop j = M.drop j) ∧ Hid (Row wr g 69 (flat R)) ∧ Hid (Row wr rb 3 [.int .i64 r]) ∧ Hid (Gw g w wr)) (fun _ b _ => n - (intOf b).toNat)
  case atStart => exact ⟨k, k + 1, M, rfl, vint (by omega), Nat.lt_succ_self _, by omega, HN, HK, Lib.hid rfl, G1, R1, W1⟩
  case round =>
    obtain ⟨m, j, R, rfl, rfl, hmj, hj, HL, HT, HD, HR, HB, HW⟩ := hrel
    by_cases hlt : j < n
    · obtain ⟨e, he⟩ : ∃ e, M.getD j En.zero = e := ⟨_, rfl⟩
      have hre := at_drop R M j cp HL.out HN.out (by omega) HD.out
      rw [he] at hre
      obtain ⟨q, hq⟩ : ∃ q, gp1 r e = q := ⟨_, rfl⟩
      have HE := Lib.hid he
      have HQ := Lib.hid hq
      have HC1 := Lib.hid (fun i v (hi : e.cells[i]? = some v) => (show wr.cell? ⟨g, j * 4 + i, none⟩ = some v by
        have hi4 : i < 4 := (List.getElem?_eq_some_iff.1 hi).1
        rw [HR.out.cellV, flat_get R j i (by rw [HL.out]; omega) hi4, hre]; exact hi))
      have hnx := take_next M j (fun e => !gp1 r e) (by rw [HN.out]; omega)
      rw [he] at hnx
      have HNX := Lib.hid hnx
      have g1 : (0 : Int) ≤ (j : Int) := by omega
      have g2 : (j : Int) < (n : Int) := by omega
      have g3 : (0 : Int) ≤ (m : Int) := by omega
      have g4 : (m : Int) < (n : Int) := by omega
      have gm : IntKind.i64.wrap ((m : Int) + 1) = ((m + 1 : Nat) : Int) := by rw [IntKind.wrap_i64]; omega
      clear he hq hre hnx
      cases q
      · go_wp2_with (first
          | ((with_reducible refine load_cells (o := ⟨some 25, _, _, _, _, _⟩) rfl _ _ rfl g (j * 4) ?_ e.cells _ ?_ Tryz.underlying69 rfl ?_ ?_); (focus go_simp); (focus (exact HC1.out)); (focus (exact ES.out)))
          | ((with_reducible refine alloc_row (o := ⟨some 7, _, _, _, _, _⟩) rfl _ rfl _ EZ.out ?_); intro w6 hr hb hz; have E6 := Lib.hid hr; have GL := Lib.hid (show g < wr.heap.size ∧ rb < wr.heap.size from ⟨HR.out.lt, HB.out.lt⟩); have G6 := Lib.hid (HR.out.below hb HR.out.lt); have R6 := Lib.hid (HB.out.below hb HB.out.lt); have W6 := Lib.hid (HW.out.trans (Gw.of_below hb)); clear hr hb hz)
          | ((with_reducible refine store_row (o := ⟨none, _, _, _, _, _⟩) rfl _ (.tmp 7) _ rfl wr.heap.size e.cells ?_ ?_ 69 _ E6.out ?_ ?_ ?_ ?_); (focus go_simp); (focus (first | (go_simp; done) | (go_simp; rfl))); (focus (exact ES.out)); (focus rfl); (focus (exact en_one _)); intro w7 hr hu; have E7 := Lib.hid hr; have G7 := Lib.hid (G6.out.upd hu (by have := GL.out; omega)); have R7 := Lib.hid (R6.out.upd hu (by have := GL.out; omega)); have W7 := Lib.hid (W6.out.tail HW.out.size hu); clear hr hu)
          | ((with_reducible refine load_row (o := ⟨some 27, _, _, _, _, _⟩) rfl _ _ rfl wr.heap.size ?_ _ e.cells _ E7.out Tryz.underlying69 rfl ?_ ?_); (focus go_simp); (focus (exact ES.out)))
          | (go_at_call 83; refine (gdel1 r e rb w7 R7.out).mono ?_; rw [HQ.out]; rintro x w8 ⟨rfl, hb⟩; have E8 := Lib.hid (E7.out.below hb E7.out.lt); have G8 := Lib.hid (G7.out.below hb G7.out.lt); have R8 := Lib.hid (R7.out.below hb R7.out.lt); have W8 := Lib.hid (W7.out.trans (Gw.of_below hb)); clear hb)
          | ((with_reducible refine load_row (o := ⟨some 32, _, _, _, _, _⟩) rfl _ _ rfl wr.heap.size ?_ _ e.cells _ E8.out Tryz.underlying69 rfl ?_ ?_); (focus go_simp); (focus (exact ES.out)))
          | ((with_reducible refine store_part (o := ⟨none, _, _, _, _, _⟩) rfl _ (.tmp 33) _ rfl g (m * 4) e.cells ?_ ?_ 69 _ G8.out ?_ ?_ ?_ ?_); (focus go_simp); (focus (first | (go_simp; done) | (go_simp; rfl))); (focus (exact en_size)); (focus (rw [flat_len, HL.out]; simp [En.cells]; omega)); (focus (exact en_one _)); intro w9 hr hu; rw [splice_flat _ m _ (by rw [HL.out]; omega)] at hr; have G9 := Lib.hid hr; have R9 := Lib.hid (R8.out.upd hu hne); have W9 := Lib.hid (W8.out.trans (Gw.upd hu)); clear hr hu))
        go_roundw
        case rel =>
          refine ⟨m + 1, j + 1, R.set m e, vint (by omega), vint (by omega), by omega, by omega, Lib.hid (by rw [List.length_set]; exact HL.out), Lib.hid ?_, Lib.hid ?_, G9, R9, W9⟩
          · rw [set_take R m e (by rw [HL.out]; omega), HT.out, HNX.out, if_pos (by rw [HQ.out]; rfl)]
          · rw [List.drop_set_of_lt (by omega)]; exact drop_next HD.out
        case measure => simp [intOf]; omega
      · go_wp2_with (first
          | ((with_reducible refine load_cells (o := ⟨some 25, _, _, _, _, _⟩) rfl _ _ rfl g (j * 4) ?_ e.cells _ ?_ Tryz.underlying69 rfl ?_ ?_); (focus go_simp); (focus (exact HC1.out)); (focus (exact ES.out)))
          | ((with_reducible refine alloc_row (o := ⟨some 7, _, _, _, _, _⟩) rfl _ rfl _ EZ.out ?_); intro w6 hr hb hz; have E6 := Lib.hid hr; have GL := Lib.hid (show g < wr.heap.size ∧ rb < wr.heap.size from ⟨HR.out.lt, HB.out.lt⟩); have G6 := Lib.hid (HR.out.below hb HR.out.lt); have R6 := Lib.hid (HB.out.below hb HB.out.lt); have W6 := Lib.hid (HW.out.trans (Gw.of_below hb)); clear hr hb hz)
          | ((with_reducible refine store_row (o := ⟨none, _, _, _, _, _⟩) rfl _ (.tmp 7) _ rfl wr.heap.size e.cells ?_ ?_ 69 _ E6.out ?_ ?_ ?_ ?_); (focus go_simp); (focus (first | (go_simp; done) | (go_simp; rfl))); (focus (exact ES.out)); (focus rfl); (focus (exact en_one _)); intro w7 hr hu; have E7 := Lib.hid hr; have G7 := Lib.hid (G6.out.upd hu (by have := GL.out; omega)); have R7 := Lib.hid (R6.out.upd hu (by have := GL.out; omega)); have W7 := Lib.hid (W6.out.tail HW.out.size hu); clear hr hu)
          | ((with_reducible refine load_row (o := ⟨some 27, _, _, _, _, _⟩) rfl _ _ rfl wr.heap.size ?_ _ e.cells _ E7.out Tryz.underlying69 rfl ?_ ?_); (focus go_simp); (focus (exact ES.out)))
          | (go_at_call 83; refine (gdel1 r e rb w7 R7.out).mono ?_; rw [HQ.out]; rintro x w8 ⟨rfl, hb⟩; have E8 := Lib.hid (E7.out.below hb E7.out.lt); have G8 := Lib.hid (G7.out.below hb G7.out.lt); have R8 := Lib.hid (R7.out.below hb R7.out.lt); have W8 := Lib.hid (W7.out.trans (Gw.of_below hb)); clear hb))
        go_roundw
        case rel =>
          refine ⟨m, j + 1, R, rfl, vint (by omega), by omega, by omega, HL, Lib.hid ?_, Lib.hid (drop_next HD.out), G8, R8, W8⟩
          rw [HNX.out, if_neg (by rw [HQ.out]; simp), List.append_nil]; exact HT.out
        case measure => simp [intOf]; omega
    · obtain rfl : j = n := by omega
      have g3 : (0 : Int) ≤ (m : Int) := by omega
      have g4 : (m : Int) ≤ (j : Int) := by omega
      have g5 : m ≤ j := by omega
      have g6 : m ≤ cp := by omega
      have g7 : (m : Int) ≤ (cp : Int) := by omega
      obtain ⟨p, hp⟩ : ∃ p, j - m = p + 1 := ⟨j - m - 1, by omega⟩
      have MD := Lib.hid (made_en (p + 1))
      have SPL := Lib.hid (splice_mid R m j cp HL.out g5 hnc)
      rw [hp] at SPL
      go_wp2_with (first
        | ((with_reducible refine clear_wide rfl (.tmp 38) _ rfl 69 #[.int .i64 0, .int .i64 0, .int .i64 0, .slice none 0 0] g (m * 4) p (cp - m) _ _ ?_ Tryz.underlying23 ?_ HR.out ?_ ?_ ?_); (focus (first | (go_simp; done) | (go_simp; simp [hp]; done) | (go_simp; rw [hp]))); (focus (exact EZ.out)); (focus (rw [flat_len, HL.out]; show m * 4 + (p + 1) * 4 ≤ cp * 4; omega)); (focus (show ∀ v ∈ (madeCells _ ((p + 1) * 4)).toList, v.oneCell' = true; rw [MD.out]; exact flat_one _)); intro w5 hr hu; have hr' : Row w5 g 69 (splice (flat R) (m * 4) (madeCells #[.int .i64 0, .int .i64 0, .int .i64 0, .slice none 0 0] ((p + 1) * 4)).toList) := hr; rw [MD.out, SPL.out] at hr'; have G5 := Lib.hid hr'; have W5 := Lib.hid (HW.out.trans (Gw.upd hu)); clear hr hr' hu))
      go_ret
      refine ⟨m, R.take m ++ List.replicate (p + 1) En.zero ++ R.drop j, rfl, ?_, g5, ?_, G5.out, W5.out⟩
      · rw [List.length_append, List.length_append, List.length_take, List.length_replicate, List.length_drop, HL.out]; omega
      · rw [List.append_assoc, List.take_append_of_le_length (by rw [List.length_take, HL.out]; omega), List.take_take, Nat.min_self, HT.out]
set_option maxRecDepth 100000 in
set_option maxHeartbeats 16000000 in
theorem gdelf2 (r : Int) (rb g n : Nat) (M : List En) (w : World) (h : Row w rb 3 [.int .i64 r]) (hg : Row w g 69 (flat M)) (cp : Nat) (hn : M.length = cp) (hnc : n ≤ cp) (hm : n ≤ 1000000) (hne : rb ≠ g) :
    Calls Tryz.prog 118 #[.slice (some ⟨g, 0, none⟩) n cp, .func (.func 170) #[] #[.pointer (some ⟨rb, 0, none⟩)]] w fun x w' => ∃ (m : Nat) (R : List En), x = .returned (.slice (some ⟨g, 0, none⟩) m cp) ∧ R.length = cp ∧ m ≤ n ∧ R.take m = (M.take n).filter (fun e => !gp2 r e) ∧ Row w' g 69 (flat R) ∧ Gw g w w' := by
  have H := Lib.hid h
  have HG := Lib.hid hg
  have HN := Lib.hid hn
  have ES := Lib.hid en_size
  have EZ := Lib.hid en_zero
  have IDX := Lib.hid (gidx2 r rb g n M w h hg cp hn hnc hm)
  clear h hg hn
  go_enter Tryz.func118, Tryz.ntmps118
  go_wp2_with fail
  refine IDX.out.mono ?_
  rintro x w1 ⟨z, rfl, hb1, hz⟩
  have R1 := Lib.hid (H.out.below hb1 H.out.lt)
  have G1 := Lib.hid (HG.out.below hb1 HG.out.lt)
  have W1 := Lib.hid (Gw.of_below (g := g) hb1)
  clear hb1
  rcases hz with ⟨rfl, hall⟩ | ⟨k, rfl, hk, hpk, hbef⟩
  · have HF := Lib.hid (show M.take n = (M.take n).filter (fun e => !gp2 r e) from (all_kept M n (fun e => !gp2 r e) (by rw [HN.out]; exact hnc) (fun i hi => by show (!gp2 r (M.getD i En.zero)) = true; rw [hall i hi]; rfl)).symm)
    clear hall
    go_wp2_with fail
    go_ret
    exact ⟨n, M, rfl, HN.out, Nat.le_refl _, HF.out, G1.out, W1.out⟩
  have HK := Lib.hid (show M.take k = (M.take (k + 1)).filter (fun e => !gp2 r e) by
    rw [take_next M k _ (by rw [HN.out]; omega), all_kept M k _ (by rw [HN.out]; omega) (fun i hi => by show (!gp2 r (M.getD i En.zero)) = true; rw [hbef i hi]; rfl), if_neg (by show ¬ (!gp2 r (M.getD k En.zero)) = true; rw [hpk]; decide), List.append_nil])
  have gk : (((k : Int)) == -1) = false := by rw [beq_eq_false_iff_ne]; omega
  have gw : IntKind.i64.wrap ((k : Int) + 1) = ((k + 1 : Nat) : Int) := by rw [IntKind.wrap_i64]; omega
  clear hpk hbef
  go_wp2_with fail
  go_loopw [5, 6] (fun a b wr => ∃ (m j : Nat) (R : List En), a = .int .i64 (m : Int) ∧ b = .int .i64 (j : Int) ∧ m < j ∧ j ≤ n ∧ Hid (R.length = cp) ∧ Hid (R.take m = (M.take j).filter (fun e => !gp2 r e)) ∧ Hid (R.drop j = M.drop j) ∧ Hid (Row wr g 69 (flat R)) ∧ Hid (Row wr rb 3 [.int .i64 r]) ∧ Hid (Gw g w wr)) (fun _ b _ => n - (intOf b).toNat)
  case atStart => exact ⟨k, k + 1, M, rfl, vint (by omega), Nat.lt_succ_self _, by omega, HN, HK, Lib.hid rfl, G1, R1, W1⟩
  case round =>
    obtain ⟨m, j, R, rfl, rfl, hmj, hj, HL, HT, HD, HR, HB, HW⟩ := hrel
    by_cases hlt : j < n
    · obtain ⟨e, he⟩ : ∃ e, M.getD j En.zero = e := ⟨_, rfl⟩
      have hre := at_drop R M j cp HL.out HN.out (by omega) HD.out
      rw [he] at hre
      obtain ⟨q, hq⟩ : ∃ q, gp2 r e = q := ⟨_, rfl⟩
      have HE := Lib.hid he
      have HQ := Lib.hid hq
      have HC1 := Lib.hid (fun i v (hi : e.cells[i]? = some v) => (show wr.cell? ⟨g, j * 4 + i, none⟩ = some v by
        have hi4 : i < 4 := (List.getElem?_eq_some_iff.1 hi).1
        rw [HR.out.cellV, flat_get R j i (by rw [HL.out]; omega) hi4, hre]; exact hi))
      have hnx := take_next M j (fun e => !gp2 r e) (by rw [HN.out]; omega)
      rw [he] at hnx
      have HNX := Lib.hid hnx
      have g1 : (0 : Int) ≤ (j : Int) := by omega
      have g2 : (j : Int) < (n : Int) := by omega
      have g3 : (0 : Int) ≤ (m : Int) := by omega
      have g4 : (m : Int) < (n : Int) := by omega
      have gm : IntKind.i64.wrap ((m : Int) + 1) = ((m + 1 : Nat) : Int) := by rw [IntKind.wrap_i64]; omega
      clear he hq hre hnx
      cases q
      · go_wp2_with (first
          | ((with_reducible refine load_cells (o := ⟨some 25, _, _, _, _, _⟩) rfl _ _ rfl g (j * 4) ?_ e.cells _ ?_ Tryz.underlying69 rfl ?_ ?_); (focus go_simp); (focus (exact HC1.out)); (focus (exact ES.out)))
          | ((with_reducible refine alloc_row (o := ⟨some 7, _, _, _, _, _⟩) rfl _ rfl _ EZ.out ?_); intro w6 hr hb hz; have E6 := Lib.hid hr; have GL := Lib.hid (show g < wr.heap.size ∧ rb < wr.heap.size from ⟨HR.out.lt, HB.out.lt⟩); have G6 := Lib.hid (HR.out.below hb HR.out.lt); have R6 := Lib.hid (HB.out.below hb HB.out.lt); have W6 := Lib.hid (HW.out.trans (Gw.of_below hb)); clear hr hb hz)
          | ((with_reducible refine store_row (o := ⟨none, _, _, _, _, _⟩) rfl _ (.tmp 7) _ rfl wr.heap.size e.cells ?_ ?_ 69 _ E6.out ?_ ?_ ?_ ?_); (focus go_simp); (focus (first | (go_simp; done) | (go_simp; rfl))); (focus (exact ES.out)); (focus rfl); (focus (exact en_one _)); intro w7 hr hu; have E7 := Lib.hid hr; have G7 := Lib.hid (G6.out.upd hu (by have := GL.out; omega)); have R7 := Lib.hid (R6.out.upd hu (by have := GL.out; omega)); have W7 := Lib.hid (W6.out.tail HW.out.size hu); clear hr hu)
          | ((with_reducible refine load_row (o := ⟨some 27, _, _, _, _, _⟩) rfl _ _ rfl wr.heap.size ?_ _ e.cells _ E7.out Tryz.underlying69 rfl ?_ ?_); (focus go_simp); (focus (exact ES.out)))
          | (go_at_call 170; refine (gdel2 r e rb w7 R7.out).mono ?_; rw [HQ.out]; rintro x w8 ⟨rfl, hb⟩; have E8 := Lib.hid (E7.out.below hb E7.out.lt); have G8 := Lib.hid (G7.out.below hb G7.out.lt); have R8 := Lib.hid (R7.out.below hb R7.out.lt); have W8 := Lib.hid (W7.out.trans (Gw.of_below hb)); clear hb)
          | ((with_reducible refine load_row (o := ⟨some 32, _, _, _, _, _⟩) rfl _ _ rfl wr.heap.size ?_ _ e.cells _ E8.out Tryz.underlying69 rfl ?_ ?_); (focus go_simp); (focus (exact ES.out)))
          | ((with_reducible refine store_part (o := ⟨none, _, _, _, _, _⟩) rfl _ (.tmp 33) _ rfl g (m * 4) e.cells ?_ ?_ 69 _ G8.out ?_ ?_ ?_ ?_); (focus go_simp); (focus (first | (go_simp; done) | (go_simp; rfl))); (focus (exact en_size)); (focus (rw [flat_len, HL.out]; simp [En.cells]; omega)); (focus (exact en_one _)); intro w9 hr hu; rw [splice_flat _ m _ (by rw [HL.out]; omega)] at hr; have G9 := Lib.hid hr; have R9 := Lib.hid (R8.out.upd hu hne); have W9 := Lib.hid (W8.out.trans (Gw.upd hu)); clear hr hu))
        go_roundw
        case rel =>
          refine ⟨m + 1, j + 1, R.set m e, vint (by omega), vint (by omega), by omega, by omega, Lib.hid (by rw [List.length_set]; exact HL.out), Lib.hid ?_, Lib.hid ?_, G9, R9, W9⟩
          · rw [set_take R m e (by rw [HL.out]; omega), HT.out, HNX.out, if_pos (by rw [HQ.out]; rfl)]
          · rw [List.drop_set_of_lt (by omega)]; exact drop_next HD.out
        case measure => simp [intOf]; omega
      · go_wp2_with (first
          | ((with_reducible refine load_cells (o := ⟨some 25, _, _, _, _, _⟩) rfl _ _ rfl g (j * 4) ?_ e.cells _ ?_ Tryz.underlying69 rfl ?_ ?_); (focus go_simp); (focus (exact HC1.out)); (focus (exact ES.out)))
          | ((with_reducible refine alloc_row (o := ⟨some 7, _, _, _, _, _⟩) rfl _ rfl _ EZ.out ?_); intro w6 hr hb hz; have E6 := Lib.hid hr; have GL := Lib.hid (show g < wr.heap.size ∧ rb < wr.heap.size from ⟨HR.out.lt, HB.out.lt⟩); have G6 := Lib.hid (HR.out.below hb HR.out.lt); have R6 := Lib.hid (HB.out.below hb HB.out.lt); have W6 := Lib.hid (HW.out.trans (Gw.of_below hb)); clear hr hb hz)
          | ((with_reducible refine store_row (o := ⟨none, _, _, _, _, _⟩) rfl _ (.tmp 7) _ rfl wr.heap.size e.cells ?_ ?_ 69 _ E6.out ?_ ?_ ?_ ?_); (focus go_simp); (focus (first | (go_simp; done) | (go_simp; rfl))); (focus (exact ES.out)); (focus rfl); (focus (exact en_one _)); intro w7 hr hu; have E7 := Lib.hid hr; have G7 := Lib.hid (G6.out.upd hu (by have := GL.out; omega)); have R7 := Lib.hid (R6.out.upd hu (by have := GL.out; omega)); have W7 := Lib.hid (W6.out.tail HW.out.size hu); clear hr hu)
          | ((with_reducible refine load_row (o := ⟨some 27, _, _, _, _, _⟩) rfl _ _ rfl wr.heap.size ?_ _ e.cells _ E7.out Tryz.underlying69 rfl ?_ ?_); (focus go_simp); (focus (exact ES.out)))
          | (go_at_call 170; refine (gdel2 r e rb w7 R7.out).mono ?_; rw [HQ.out]; rintro x w8 ⟨rfl, hb⟩; have E8 := Lib.hid (E7.out.below hb E7.out.lt); have G8 := Lib.hid (G7.out.below hb G7.out.lt); have R8 := Lib.hid (R7.out.below hb R7.out.lt); have W8 := Lib.hid (W7.out.trans (Gw.of_below hb)); clear hb))
        go_roundw
        case rel =>
          refine ⟨m, j + 1, R, rfl, vint (by omega), by omega, by omega, HL, Lib.hid ?_, Lib.hid (drop_next HD.out), G8, R8, W8⟩
          rw [HNX.out, if_neg (by rw [HQ.out]; simp), List.append_nil]; exact HT.out
        case measure => simp [intOf]; omega
    · obtain rfl : j = n := by omega
      have g3 : (0 : Int) ≤ (m : Int) := by omega
      have g4 : (m : Int) ≤ (j : Int) := by omega
      have g5 : m ≤ j := by omega
      have g6 : m ≤ cp := by omega
      have g7 : (m : Int) ≤ (cp : Int) := by omega
      obtain ⟨p, hp⟩ : ∃ p, j - m = p + 1 := ⟨j - m - 1, by omega⟩
      have MD := Lib.hid (made_en (p + 1))
      have SPL := Lib.hid (splice_mid R m j cp HL.out g5 hnc)
      rw [hp] at SPL
      go_wp2_with (first
        | ((with_reducible refine clear_wide rfl (.tmp 38) _ rfl 69 #[.int .i64 0, .int .i64 0, .int .i64 0, .slice none 0 0] g (m * 4) p (cp - m) _ _ ?_ Tryz.underlying23 ?_ HR.out ?_ ?_ ?_); (focus (first | (go_simp; done) | (go_simp; simp [hp]; done) | (go_simp; rw [hp]))); (focus (exact EZ.out)); (focus (rw [flat_len, HL.out]; show m * 4 + (p + 1) * 4 ≤ cp * 4; omega)); (focus (show ∀ v ∈ (madeCells _ ((p + 1) * 4)).toList, v.oneCell' = true; rw [MD.out]; exact flat_one _)); intro w5 hr hu; have hr' : Row w5 g 69 (splice (flat R) (m * 4) (madeCells #[.int .i64 0, .int .i64 0, .int .i64 0, .slice none 0 0] ((p + 1) * 4)).toList) := hr; rw [MD.out, SPL.out] at hr'; have G5 := Lib.hid hr'; have W5 := Lib.hid (HW.out.trans (Gw.upd hu)); clear hr hr' hu))
      go_ret
      refine ⟨m, R.take m ++ List.replicate (p + 1) En.zero ++ R.drop j, rfl, ?_, g5, ?_, G5.out, W5.out⟩
      · rw [List.length_append, List.length_append, List.length_take, List.length_replicate, List.length_drop, HL.out]; omega
      · rw [List.append_assoc, List.take_append_of_le_length (by rw [List.length_take, HL.out]; omega), List.take_take, Nat.min_self, HT.out]
set_option maxRecDepth 100000 in
set_option maxHeartbeats 4000000 in
theorem gidxN1 (rb : Nat) (w : World) : Calls Tryz.prog 164 #[.slice none 0 0, .func (.func 83) #[] #[.pointer (some ⟨rb, 0, none⟩)]] w fun x w' => x = .returned (.int .i64 (-1)) ∧ w = w' := by
  go_enter Tryz.func164, Tryz.ntmps164
  go_wp2_with fail
  go_loopw [8] (fun i wr => i = .int .i64 0 ∧ w = wr) (fun i _ => 0)
  case atStart => exact ⟨rfl, rfl⟩
  case round =>
    obtain ⟨rfl, rfl⟩ := hrel
    go_wp2_with fail
    go_ret
    exact ⟨rfl, rfl⟩
set_option maxRecDepth 100000 in
set_option maxHeartbeats 4000000 in
theorem gdelfN1 (rb : Nat) (w : World) : Calls Tryz.prog 118 #[.slice none 0 0, .func (.func 83) #[] #[.pointer (some ⟨rb, 0, none⟩)]] w fun x w' => x = .returned (.slice none 0 0) ∧ w = w' := by
  go_enter Tryz.func118, Tryz.ntmps118
  go_wp2_with fail
  refine (gidxN1 rb w).mono ?_
  rintro x w1 ⟨rfl, rfl⟩
  go_wp2_with fail
  go_ret
  exact ⟨rfl, rfl⟩
set_option maxRecDepth 100000 in
set_option maxHeartbeats 4000000 in
theorem gidxN2 (rb : Nat) (w : World) : Calls Tryz.prog 164 #[.slice none 0 0, .func (.func 170) #[] #[.pointer (some ⟨rb, 0, none⟩)]] w fun x w' => x = .returned (.int .i64 (-1)) ∧ w = w' := by
  go_enter Tryz.func164, Tryz.ntmps164
  go_wp2_with fail
  go_loopw [8] (fun i wr => i = .int .i64 0 ∧ w = wr) (fun i _ => 0)
  case atStart => exact ⟨rfl, rfl⟩
  case round =>
    obtain ⟨rfl, rfl⟩ := hrel
    go_wp2_with fail
    go_ret
    exact ⟨rfl, rfl⟩
set_option maxRecDepth 100000 in
set_option maxHeartbeats 4000000 in
theorem gdelfN2 (rb : Nat) (w : World) : Calls Tryz.prog 118 #[.slice none 0 0, .func (.func 170) #[] #[.pointer (some ⟨rb, 0, none⟩)]] w fun x w' => x = .returned (.slice none 0 0) ∧ w = w' := by
  go_enter Tryz.func118, Tryz.ntmps118
  go_wp2_with fail
  refine (gidxN2 rb w).mono ?_
  rintro x w1 ⟨rfl, rfl⟩
  go_wp2_with fail
  go_ret
  exact ⟨rfl, rfl⟩
end Go.Proofs.YtjkkopbhdeljmaaGreat.W

namespace Go.Proofs.YtjkkopbhdeljmaaGreat.W
open Go Go.ChangeShapes Go.WideShapes Go.ChangeAt Go.RowKit

theorem Rd.gw13 {w w' : World} {g : Nat} {t : TypeId} {a : Option Addr} {n c : Nat} {l : List UInt8} {L : List Value} (h : Rd w a n c l) (hq : Row w g t L) (hnb : NB L) (k : Gw g w w') : Rd w' a n c l := h.gw k (fun hn => (h.apart hq (fun x hx => hnb x (by simpa using hx))).resolve_left hn)
theorem filt_pe (f : Int → Bool) : ∀ M : List (En × List UInt8), (M.filter (fun p => f p.1.ix)).map pe = (M.map pe).filter (fun q => f q.1)
  | [] => rfl
  | x :: M => by
    have ih := filt_pe f M
    by_cases hx : f x.1.ix = true
    · rw [List.filter_cons_of_pos (by simpa using hx), List.map_cons, List.map_cons, List.filter_cons_of_pos (by simpa [pe] using hx), ih]
    · rw [List.filter_cons_of_neg (by simpa using hx), List.map_cons, List.filter_cons_of_neg (by simpa [pe] using hx), ih]
theorem Ft.of_gw {g : Nat} {F : Nat → Prop} {w w' : World} (h : Gw g w w') (hg : F g) : Ft F w w' := ⟨h.os, h.tape, h.output, h.size, fun k hk hn => h.block k hk (fun e => hn (by rw [e]; exact hg))⟩
set_option maxRecDepth 100000 in
set_option maxHeartbeats 4000000 in
theorem gdrop1 (p : Nat) (F : Nat → Prop) (b t c : Int) (ea : Option Addr) (en ec : Nat) (L : List (En × List UInt8)) (i : Int) (rb : Nat) (w : World) (h : LG w p F b t c ea en ec L) (hn : en ≤ 1000000) (hrb : Row w rb 3 [.int .i64 i]) (hrF : ¬ F rb) :
    Calls Tryz.prog 82 #[.pointer (some ⟨p, 0, none⟩), .func (.func 83) #[] #[.pointer (some ⟨rb, 0, none⟩)]] w fun x w' => (∃ v, x = .returned v) ∧ ∃ en' L', LG w' p F b t c ea en' ec L' ∧ en' ≤ en ∧ L'.map pe = (L.map pe).filter (fun q => !decide (q.1 ≤ i)) ∧ Ft F w w' := by
  have H := Lib.hid h
  have HL := Lib.hid h.len
  have HRB := Lib.hid hrb
  obtain ⟨c0, c1, c2, c3, c4⟩ := h.row.c5
  rcases h.es.2 with ⟨rfl, rfl, rfl⟩ | ⟨g, R, rfl, hrow, hR, hle, hm, ht⟩
  · have hL0 : L = [] := List.eq_nil_of_length_eq_zero h.len
    subst hL0
    have hfz := fun j => h.row.frozen j
    clear h hrb
    go_enter Tryz.func82, Tryz.ntmps82
    go_wp2_with (first | (go_at_call 118; refine (gdelfN1 rb w).mono ?_; rintro x w1 ⟨rfl, rfl⟩))
    first | go_end0 | (refine bodyPost_ret (results_none rfl _ _ _) rfl ?_)
    have hu := Upd.setCell w p 4 (.slice none 0 0)
    exact ⟨⟨_, rfl⟩, 0, [], ⟨H.out.row.setV 4 (.slice none 0 0), EnO.nil _, (fun _ _ e => by cases e), (by simp), (by simp), H.out.fp, fun k hk => by rw [hu.size]; exact H.out.lt k hk⟩, Nat.le_refl _, rfl, Ft.of_upd hu H.out.fp⟩
  · have hgp := h.ne g 0 rfl
    have hrg : rb ≠ g := fun e => hrF (by rw [e]; exact hgp.1)
    have HROW := Lib.hid hrow
    have HRR := Lib.hid hR
    have HT := Lib.hid ht
    clear h hrb hrow hR ht
    go_enter Tryz.func82, Tryz.ntmps82
    go_wp2_with (first | (go_at_call 118; refine (gdelf1 i rb g en R w HRB.out HROW.out ec HRR.out hle hn hrg).mono ?_; rintro x w1 ⟨m, R', rfl, hRl, hmn, hRt, hrw, hgw⟩; have HRL := Lib.hid hRl; have HMN := Lib.hid hmn; have HRT := Lib.hid hRt; have G1 := Lib.hid hrw; have W1 := Lib.hid hgw; have P1 := Lib.hid (H.out.row.gw hgw (Ne.symm hgp.2)); clear hRl hmn hRt hrw hgw c0 c1 c2 c3 c4; have f4 := P1.out.frozen 4; obtain ⟨c0, c1, c2, c3, c4⟩ := P1.out.c5))
    first | go_end0 | (refine bodyPost_ret (results_none rfl _ _ _) rfl ?_)
    have hu := Upd.setCell w1 p 4 (.slice (some ⟨g, 0, none⟩) m ec)
    have hfl : (R.take en).filter (fun e => !gp1 i e) = (L.filter (fun q => (fun x => !decide (x ≤ i)) q.1.ix)).map (·.1) := by rw [HT.out, List.filter_map]; rfl
    have hml : (L.filter (fun q => (fun x => !decide (x ≤ i)) q.1.ix)).length = m := by
      have h1 := congrArg List.length HRT.out
      have h2 := HMN.out
      rw [hfl, List.length_map, List.length_take, HRL.out, Nat.min_eq_left (by omega)] at h1
      omega
    refine ⟨⟨_, rfl⟩, m, L.filter (fun q => (fun x => !decide (x ≤ i)) q.1.ix), ⟨P1.out.setV 4 (.slice (some ⟨g, 0, none⟩) m ec), ⟨by rw [List.length_map]; exact hml, .inr ⟨g, R', rfl, G1.out.upd hu hgp.2, HRL.out, Nat.le_trans HMN.out hle, hm, by rw [HRT.out]; exact hfl⟩⟩, (fun x off e => ⟨(H.out.ne x off e).1, (H.out.ne x off e).2⟩), ?_, ?_, H.out.fp, ?_⟩, HMN.out, filt_pe (fun x => !decide (x ≤ i)) L, (Ft.of_gw W1.out hgp.1).trans (Ft.of_upd hu H.out.fp)⟩
    · intro x hx
      have h1 := H.out.fit x (List.mem_filter.1 hx).1
      exact ⟨h1.ix, h1.tm, h1.kd, (h1.rd.gw13 HROW.out (NB_flat _) W1.out).put P1.out (NB_lg _ _ _ _ _ _) hu⟩
    · intro x hx
      exact H.out.fa x (List.mem_filter.1 hx).1
    · intro k hk
      rw [hu.size]
      exact Nat.lt_of_lt_of_le (H.out.lt k hk) W1.out.size
set_option maxRecDepth 100000 in
set_option maxHeartbeats 4000000 in
theorem gdrop2 (p : Nat) (F : Nat → Prop) (b t c : Int) (ea : Option Addr) (en ec : Nat) (L : List (En × List UInt8)) (i : Int) (rb : Nat) (w : World) (h : LG w p F b t c ea en ec L) (hn : en ≤ 1000000) (hrb : Row w rb 3 [.int .i64 i]) (hrF : ¬ F rb) :
    Calls Tryz.prog 82 #[.pointer (some ⟨p, 0, none⟩), .func (.func 170) #[] #[.pointer (some ⟨rb, 0, none⟩)]] w fun x w' => (∃ v, x = .returned v) ∧ ∃ en' L', LG w' p F b t c ea en' ec L' ∧ en' ≤ en ∧ L'.map pe = (L.map pe).filter (fun q => !decide (i ≤ q.1)) ∧ Ft F w w' := by
  have H := Lib.hid h
  have HL := Lib.hid h.len
  have HRB := Lib.hid hrb
  obtain ⟨c0, c1, c2, c3, c4⟩ := h.row.c5
  rcases h.es.2 with ⟨rfl, rfl, rfl⟩ | ⟨g, R, rfl, hrow, hR, hle, hm, ht⟩
  · have hL0 : L = [] := List.eq_nil_of_length_eq_zero h.len
    subst hL0
    have hfz := fun j => h.row.frozen j
    clear h hrb
    go_enter Tryz.func82, Tryz.ntmps82
    go_wp2_with (first | (go_at_call 118; refine (gdelfN2 rb w).mono ?_; rintro x w1 ⟨rfl, rfl⟩))
    first | go_end0 | (refine bodyPost_ret (results_none rfl _ _ _) rfl ?_)
    have hu := Upd.setCell w p 4 (.slice none 0 0)
    exact ⟨⟨_, rfl⟩, 0, [], ⟨H.out.row.setV 4 (.slice none 0 0), EnO.nil _, (fun _ _ e => by cases e), (by simp), (by simp), H.out.fp, fun k hk => by rw [hu.size]; exact H.out.lt k hk⟩, Nat.le_refl _, rfl, Ft.of_upd hu H.out.fp⟩
  · have hgp := h.ne g 0 rfl
    have hrg : rb ≠ g := fun e => hrF (by rw [e]; exact hgp.1)
    have HROW := Lib.hid hrow
    have HRR := Lib.hid hR
    have HT := Lib.hid ht
    clear h hrb hrow hR ht
    go_enter Tryz.func82, Tryz.ntmps82
    go_wp2_with (first | (go_at_call 118; refine (gdelf2 i rb g en R w HRB.out HROW.out ec HRR.out hle hn hrg).mono ?_; rintro x w1 ⟨m, R', rfl, hRl, hmn, hRt, hrw, hgw⟩; have HRL := Lib.hid hRl; have HMN := Lib.hid hmn; have HRT := Lib.hid hRt; have G1 := Lib.hid hrw; have W1 := Lib.hid hgw; have P1 := Lib.hid (H.out.row.gw hgw (Ne.symm hgp.2)); clear hRl hmn hRt hrw hgw c0 c1 c2 c3 c4; have f4 := P1.out.frozen 4; obtain ⟨c0, c1, c2, c3, c4⟩ := P1.out.c5))
    first | go_end0 | (refine bodyPost_ret (results_none rfl _ _ _) rfl ?_)
    have hu := Upd.setCell w1 p 4 (.slice (some ⟨g, 0, none⟩) m ec)
    have hfl : (R.take en).filter (fun e => !gp2 i e) = (L.filter (fun q => (fun x => !decide (i ≤ x)) q.1.ix)).map (·.1) := by rw [HT.out, List.filter_map]; rfl
    have hml : (L.filter (fun q => (fun x => !decide (i ≤ x)) q.1.ix)).length = m := by
      have h1 := congrArg List.length HRT.out
      have h2 := HMN.out
      rw [hfl, List.length_map, List.length_take, HRL.out, Nat.min_eq_left (by omega)] at h1
      omega
    refine ⟨⟨_, rfl⟩, m, L.filter (fun q => (fun x => !decide (i ≤ x)) q.1.ix), ⟨P1.out.setV 4 (.slice (some ⟨g, 0, none⟩) m ec), ⟨by rw [List.length_map]; exact hml, .inr ⟨g, R', rfl, G1.out.upd hu hgp.2, HRL.out, Nat.le_trans HMN.out hle, hm, by rw [HRT.out]; exact hfl⟩⟩, (fun x off e => ⟨(H.out.ne x off e).1, (H.out.ne x off e).2⟩), ?_, ?_, H.out.fp, ?_⟩, HMN.out, filt_pe (fun x => !decide (i ≤ x)) L, (Ft.of_gw W1.out hgp.1).trans (Ft.of_upd hu H.out.fp)⟩
    · intro x hx
      have h1 := H.out.fit x (List.mem_filter.1 hx).1
      exact ⟨h1.ix, h1.tm, h1.kd, (h1.rd.gw13 HROW.out (NB_flat _) W1.out).put P1.out (NB_lg _ _ _ _ _ _) hu⟩
    · intro x hx
      exact H.out.fa x (List.mem_filter.1 hx).1
    · intro k hk
      rw [hu.size]
      exact Nat.lt_of_lt_of_le (H.out.lt k hk) W1.out.size
/-- what Cut makes -/
def LS.cut (q : LS) (i : Int) : LS × Int := if i ≤ q.b then (q, 10) else ({ q with l := q.l.filter (fun x => !decide (i ≤ x.1)) }, 0)
theorem rise_gt : ∀ (l : List Pe) (b : Int), rise b l → ∀ x ∈ l, b < x.1
  | [], _, _, x, hx => by cases hx
  | y :: l, b, h, x, hx => by
    rcases List.mem_cons.1 hx with rfl | hx
    · have := h.1; omega
    · have := rise_gt l (b + 1) h.2 x hx; omega
theorem rise_cut : ∀ (l : List Pe) (b i : Int), rise b l → b < i → rise b (l.filter (fun x => !decide (i ≤ x.1))) ∧ l.filter (fun x => !decide (i ≤ x.1)) = l.take (i - b - 1).toNat
  | [], _, _, _, _ => ⟨trivial, by simp⟩
  | y :: l, b, i, h, hi => by
    by_cases hy : i ≤ y.1
    · have h1 : (y :: l).filter (fun x => !decide (i ≤ x.1)) = [] := by
        rw [List.filter_eq_nil_iff]
        intro x hx
        have hx2 : i ≤ x.1 := by
          rcases List.mem_cons.1 hx with rfl | hx
          · exact hy
          · have := rise_gt l (b + 1) h.2 x hx
            have := h.1; omega
        simp [hx2]
      rw [h1]
      have h2 : (i - b - 1).toNat = 0 := by have := h.1; omega
      rw [h2]; exact ⟨trivial, rfl⟩
    · obtain ⟨h3, h4⟩ := rise_cut l (b + 1) i h.2 (by have := h.1; omega)
      rw [List.filter_cons_of_pos (by simp [hy])]
      refine ⟨⟨h.1, h3⟩, ?_⟩
      have h2 : (i - b - 1).toNat = (i - (b + 1) - 1).toNat + 1 := by have := h.1; omega
      rw [h4, h2, List.take_succ_cons]
theorem LOK.cut {q : LS} {i : Int} (h : LOK q) : LOK (q.cut i).1 := by
  unfold LS.cut
  split
  · exact h
  · exact ⟨(rise_cut q.l q.b i h.r (by omega)).1, h.b, Nat.le_trans (List.length_filter_le _ _) h.n, fun x hx => h.x x (List.mem_filter.1 hx).1⟩
set_option maxRecDepth 100000 in
set_option maxHeartbeats 8000000 in
theorem gcut (p : Nat) (F : Nat → Prop) (b t c : Int) (ea : Option Addr) (en ec : Nat) (L : List (En × List UInt8)) (i : Int) (w : World) (h : LG w p F b t c ea en ec L) (ho : LOK (lsOf b t c L)) :
    Calls Tryz.prog 154 #[.pointer (some ⟨p, 0, none⟩), .int .i64 i] w fun x w' => ∃ en' L', x = .returned (.int .i64 ((lsOf b t c L).cut i).2) ∧ LG w' p F b t c ea en' ec L' ∧ lsOf b t c L' = ((lsOf b t c L).cut i).1 ∧ Ft F w w' := by
  have H := Lib.hid h
  have HO := Lib.hid ho
  have hn : en ≤ 1000000 := by
    have h1 := ho.n
    have h2 := h.len
    rw [show (lsOf b t c L).l.length = en by rw [← h2]; simp [lsOf]] at h1
    omega
  unfold LS.cut
  rw [show (lsOf b t c L).b = b from rfl]
  clear h ho
  by_cases hi : i ≤ b
  · rw [if_pos hi]
    go_enter Tryz.func154, Tryz.ntmps154
    go_wp2_with (first
      | (with_reducible refine box_cell (o := ⟨some 3, _, _, _, _, _⟩) rfl _ _ rfl (.int .i64 i) rfl rfl ?_; intro w1 hr1 hb1 hz1; have R1 := Lib.hid hr1; have B1 := Lib.hid hb1; have d0 := R1.out.k0; clear hr1 hb1 hz1)
      | (go_at_call 51; refine (gready p F b t c ea en ec L w1 (H.out.mono B1.out) HO.out).mono ?_; rintro x w2 ⟨rfl, rfl⟩; obtain ⟨c0, c1, c2, c3, c4⟩ := (H.out.mono B1.out).row.c5))
    go_region
    go_wp2_with fail
    go_ret
    have hbd := B1.out.trans ((Below.refl w1.heap.size w1).drew.mono B1.out.size)
    exact ⟨en, L, rfl, H.out.mono hbd, rfl, Ft.of_below hbd⟩
  · rw [if_neg hi]
    go_enter Tryz.func154, Tryz.ntmps154
    go_wp2_with (first
      | (with_reducible refine box_cell (o := ⟨some 3, _, _, _, _, _⟩) rfl _ _ rfl (.int .i64 i) rfl rfl ?_; intro w1 hr1 hb1 hz1; have R1 := Lib.hid hr1; have B1 := Lib.hid hb1; have d0 := R1.out.k0; clear hr1 hb1 hz1)
      | (go_at_call 51; refine (gready p F b t c ea en ec L w1 (H.out.mono B1.out) HO.out).mono ?_; rintro x w2 ⟨rfl, rfl⟩; obtain ⟨c0, c1, c2, c3, c4⟩ := (H.out.mono B1.out).row.c5))
    go_region
    have B2 := Lib.hid ((Below.refl w1.heap.size w1).drew)
    obtain ⟨w2, hw2⟩ : ∃ x, w1.drew = x := ⟨_, rfl⟩
    rw [hw2] at B2 ⊢
    clear hw2 c0 c1 c2 c3 c4 d0
    have R2 := Lib.hid (R1.out.below B2.out R1.out.lt)
    have H2 := Lib.hid (H.out.mono (B1.out.trans (B2.out.mono B1.out.size)))
    go_wp2_with (first
      | (go_at_call 82; refine (gdrop2 p F b t c ea en ec L i w.heap.size w2 H2.out hn R2.out (fun hf => Nat.lt_irrefl _ (H.out.lt _ hf))).mono ?_; rintro x w3 ⟨⟨v, rfl⟩, en', L', hL, hle, hpe, hft⟩; have L3 := Lib.hid hL; have PE3 := Lib.hid hpe; have FT3 := Lib.hid hft; clear hL hle hpe hft))
    go_ret
    exact ⟨en', L', rfl, L3.out, by unfold lsOf; rw [PE3.out], (Ft.of_below (B1.out.trans (B2.out.mono B1.out.size))).trans FT3.out⟩
end Go.Proofs.YtjkkopbhdeljmaaGreat.W

namespace Go.Proofs.YtjkkopbhdeljmaaGreat.W
open Go Go.ChangeShapes Go.WideShapes Go.ChangeAt Go.RowKit

/-- the members that entries up to a number say, on from some -/
def confL (i : Int) : Int → List Pe → Int
  | c, [] => c
  | c, x :: l => confL i (if x.1 ≤ i ∧ confIn x ≠ 0 then confIn x else c) l
def LS.confAt (q : LS) (i : Int) : Int := confL i q.c q.l
def LS.from (q : LS) (i most : Int) : List Pe := if q.has i = true then (q.l.drop (i - q.b - 1).toNat).take most.toNat else []
def LS.compact (q : LS) (i : Int) : LS × Int := if q.termE i = 0 then (⟨i, q.term i, q.confAt i, q.l.filter (fun x => !decide (x.1 ≤ i))⟩, 0) else (q, 6)
theorem confL_none (i : Int) : ∀ (l : List Pe) (c : Int), (∀ x ∈ l, x.1 ≤ i → confIn x = 0) → confL i c l = c
  | [], _, _ => rfl
  | x :: l, c, h => by
    unfold confL
    rw [if_neg (fun k => k.2 (h x List.mem_cons_self k.1))]
    exact confL_none i l c (fun y hy => h y (List.mem_cons_of_mem _ hy))
theorem confL_app (i : Int) (x : Pe) : ∀ (l : List Pe) (c : Int), confL i c (l ++ [x]) = if x.1 ≤ i ∧ confIn x ≠ 0 then confIn x else confL i c l
  | [], _ => rfl
  | y :: l, c => by
    rw [List.cons_append]
    exact confL_app i x l _
theorem confL_at (i : Int) (x : Pe) (hx : x.1 ≤ i) (h0 : confIn x ≠ 0) : ∀ (l l' : List Pe) (c : Int), (∀ y ∈ l', y.1 ≤ i → confIn y = 0) → confL i c (l ++ x :: l') = confIn x
  | [], l', c, h => by
    show confL i (if x.1 ≤ i ∧ confIn x ≠ 0 then confIn x else c) l' = _
    rw [if_pos ⟨hx, h0⟩]
    exact confL_none i l' _ h
  | y :: l, l', c, h => confL_at i x hx h0 l l' _ h
theorem rise_drop : ∀ (l : List Pe) (b i : Int), rise b l → b ≤ i → i ≤ b + l.length → rise i (l.filter (fun x => !decide (x.1 ≤ i))) ∧ l.filter (fun x => !decide (x.1 ≤ i)) = l.drop (i - b).toNat
  | [], _, _, _, _, _ => ⟨trivial, by simp⟩
  | y :: l, b, i, h, hi, hl => by
    by_cases hb : b = i
    · subst hb
      have h1 : (y :: l).filter (fun x => !decide (x.1 ≤ b)) = y :: l := by
        rw [List.filter_eq_self]
        intro x hx
        have := rise_gt _ _ h x hx
        simp; omega
      rw [h1]
      exact ⟨h, by simp⟩
    · have hy := h.1
      obtain ⟨h3, h4⟩ := rise_drop l (b + 1) i h.2 (by omega) (by simp at hl; omega)
      rw [List.filter_cons_of_neg (by simp; omega)]
      refine ⟨h3, ?_⟩
      have h2 : (i - b).toNat = (i - (b + 1)).toNat + 1 := by omega
      rw [h4, h2, List.drop_succ_cons]
theorem termE_has {q : LS} {i : Int} (h : q.termE i = 0) : q.b ≤ i ∧ i ≤ q.b + q.l.length := by
  unfold LS.termE at h
  split at h
  · rename_i h1; subst h1; omega
  · split at h
    · rename_i h1
      unfold LS.has LS.last at h1
      simp at h1
      omega
    · exact absurd h (by decide)
theorem LOK.compact {q : LS} {i : Int} (h : LOK q) (hl : q.last ≤ 4294967296) : LOK (q.compact i).1 ∧ (q.compact i).1.last = q.last ∨ (q.compact i).1 = q := by
  unfold LS.compact
  split
  · rename_i h1
    have h2 := termE_has h1
    obtain ⟨h3, h4⟩ := rise_drop q.l q.b i h.r h2.1 h2.2
    left
    have hbb := h.b
    unfold LS.last at hl
    refine ⟨⟨h3, (show 0 ≤ i ∧ i ≤ 4294967296 from ⟨by omega, by omega⟩), Nat.le_trans (List.length_filter_le _ _) h.n, fun x hx => h.x x (List.mem_filter.1 hx).1⟩, ?_⟩
    unfold LS.last
    dsimp only
    rw [h4, List.length_drop]
    omega
  · exact .inr rfl
theorem at_drop_pe (L : List (En × List UInt8)) (k m : Nat) : (L.map pe).drop k = (L.drop k).map pe := by rw [List.map_drop]
end Go.Proofs.YtjkkopbhdeljmaaGreat.W
