/- LAYER 13 (rlog): the closures of Cut and Compact; slices.IndexFunc and DeleteFunc with them, on a row that may have room behind it, or on nil. -/
import Derived.Test.YtnlbdgaleibgcaaRlA
import Derived.Test.YtnlbdgaleibgcaaRcH
set_option linter.unusedSimpArgs false
set_option linter.unusedVariables false
namespace Go.Proofs.Ytnlbdgaleibgcaa.W
open Go Go.ChangeShapes Go.WideShapes Go.ChangeAt Go.RowKit

theorem splice_mid (M : List En) (i n c : Nat) (hn : M.length = c) (hi : i ≤ n) (hc : n ≤ c) : splice (flat M) (i * 4) (flat (List.replicate (n - i) En.zero)) = flat (M.take i ++ List.replicate (n - i) En.zero ++ M.drop n) := by
  unfold splice
  have h2 : (flat M).take (i * 4) = flat (M.take i) := take_flat M i
  have h1 : (flat M).drop (i * 4 + (flat (List.replicate (n - i) En.zero)).length) = flat (M.drop n) := by
    rw [flat_len, List.length_replicate, show i * 4 + (n - i) * 4 = n * 4 by omega]
    have : flat M = flat (M.take n) ++ flat (M.drop n) := by rw [← flat_app, List.take_append_drop]
    rw [this, List.drop_append_of_le_length (by rw [flat_len, List.length_take]; omega), List.drop_of_length_le (by rw [flat_len, List.length_take]; omega), List.nil_append]
  rw [h1, h2, ← flat_app, ← flat_app, List.append_assoc]
def gp1 (r : Int) (e : En) : Bool := decide (e.ix ≤ r)
set_option maxRecDepth 100000 in
set_option maxHeartbeats 4000000 in
theorem gdel1 (r : Int) (e : En) (rb : Nat) (w : World) (h : Row w rb 3 [.int .i64 r]) : Calls Try.prog 48 #[.agg e.cells.toArray, .pointer (some ⟨rb, 0, none⟩)] w fun x w' => x = .returned (.bool (gp1 r e)) ∧ Below w.heap.size w w' := by
  obtain ⟨ix, tm, kd, a, n, c⟩ := e
  have H := Lib.hid h
  have HX := Lib.hid (show gp1 r ⟨ix, tm, kd, a, n, c⟩ = decide (ix ≤ r) from rfl)
  unfold En.cells
  dsimp only
  clear h
  go_enter Try.func48, Try.ntmps48
  go_wp2_with (first
    | (with_reducible refine box_row (o := ⟨some 2, _, _, _, _, _⟩) rfl _ _ rfl [.int .i64 ix, .int .i64 tm, .int .i64 kd, .slice a n c] rfl ?_; intro w1 hr1 hb1 hz1; obtain ⟨c0, c1, c2, c3⟩ := hr1.q4; have d0 := (H.out.below hb1 H.out.lt).k0; have B1 := Lib.hid hb1; clear hr1 hb1 hz1))
  go_ret
  exact ⟨one (vbool (by rw [HX.out])), B1.out⟩
def gp2 (r : Int) (e : En) : Bool := decide (r ≤ e.ix)
set_option maxRecDepth 100000 in
set_option maxHeartbeats 4000000 in
theorem gdel2 (r : Int) (e : En) (rb : Nat) (w : World) (h : Row w rb 3 [.int .i64 r]) : Calls Try.prog 47 #[.agg e.cells.toArray, .pointer (some ⟨rb, 0, none⟩)] w fun x w' => x = .returned (.bool (gp2 r e)) ∧ Below w.heap.size w w' := by
  obtain ⟨ix, tm, kd, a, n, c⟩ := e
  have H := Lib.hid h
  have HX := Lib.hid (show gp2 r ⟨ix, tm, kd, a, n, c⟩ = decide (r ≤ ix) from rfl)
  unfold En.cells
  dsimp only
  clear h
  go_enter Try.func47, Try.ntmps47
  go_wp2_with (first
    | (with_reducible refine box_row (o := ⟨some 2, _, _, _, _, _⟩) rfl _ _ rfl [.int .i64 ix, .int .i64 tm, .int .i64 kd, .slice a n c] rfl ?_; intro w1 hr1 hb1 hz1; obtain ⟨c0, c1, c2, c3⟩ := hr1.q4; have d0 := (H.out.below hb1 H.out.lt).k0; have B1 := Lib.hid hb1; clear hr1 hb1 hz1))
  go_ret
  exact ⟨one (vbool (by rw [HX.out])), B1.out⟩
set_option maxRecDepth 100000 in
set_option maxHeartbeats 8000000 in
theorem gidx1 (r : Int) (rb g n : Nat) (M : List En) (w : World) (h : Row w rb 3 [.int .i64 r]) (hg : Row w g 34 (flat M)) (cp : Nat) (hn : M.length = cp) (hnc : n ≤ cp) (hm : n ≤ 1000000) :
    Calls Try.prog 78 #[.slice (some ⟨g, 0, none⟩) n cp, .func (.func 48) #[] #[.pointer (some ⟨rb, 0, none⟩)]] w fun x w' => ∃ z : Int, x = .returned (.int .i64 z) ∧ Below w.heap.size w w' ∧ ((z = -1 ∧ ∀ i, i < n → gp1 r (M.getD i En.zero) = false) ∨ ∃ k : Nat, z = (k : Int) ∧ k < n ∧ gp1 r (M.getD k En.zero) = true ∧ ∀ i, i < k → gp1 r (M.getD i En.zero) = false) := by
  have H := Lib.hid h
  have HG := Lib.hid hg
  have HN := Lib.hid hn
  have ES := Lib.hid en_size
  clear h hg hn
  go_enter Try.func78, Try.ntmps78
  go_wp2_with fail
  go_loopw [8] (fun i wr => ∃ k : Nat, i = .int .i64 (k : Int) ∧ k ≤ n ∧ Hid (∀ i, i < k → gp1 r (M.getD i En.zero) = false) ∧ Hid (Below w.heap.size w wr)) (fun i _ => n - (intOf i).toNat)
  case atStart => exact ⟨0, rfl, Nat.zero_le _, Lib.hid (fun i h => absurd h (by omega)), Lib.hid (Below.refl _ _)⟩
  case round =>
    obtain ⟨k, rfl, hk, HP, B⟩ := hrel
    by_cases hlt : k < n
    · obtain ⟨e, he⟩ : ∃ e, M.getD k En.zero = e := ⟨_, rfl⟩
      obtain ⟨q, hq⟩ : ∃ q, gp1 r e = q := ⟨_, rfl⟩
      have HE := Lib.hid he
      have HQ := Lib.hid hq
      have HR := Lib.hid (H.out.below B.out H.out.lt)
      have HC1 := Lib.hid (fun j v (hj : e.cells[j]? = some v) => (show wr.cell? ⟨g, k * 4 + j, none⟩ = some v by
        have hj4 : j < 4 := (List.getElem?_eq_some_iff.1 hj).1
        rw [(HG.out.below B.out HG.out.lt).cellV, flat_get M k j (by rw [HN.out]; omega) hj4, HE.out]; exact hj))
      have g1 : (0 : Int) ≤ (k : Int) := by omega
      have g2 : (k : Int) < (n : Int) := by omega
      clear he hq
      cases q
      · go_wp2_with (first
          | ((with_reducible refine load_cells (o := ⟨some 15, _, _, _, _, _⟩) rfl _ _ rfl g (k * 4) ?_ e.cells _ ?_ Try.underlying34 rfl ?_ ?_); (focus go_simp); (focus (exact HC1.out)); (focus (exact ES.out)))
          | (go_at_call 48; refine (gdel1 r e rb wr HR.out).mono ?_; rw [HQ.out]; rintro x w5 ⟨rfl, hb5⟩; have B5 := Lib.hid (B.out.trans (hb5.mono B.out.size)); clear hb5))
        go_roundw
        case rel =>
          refine ⟨k + 1, vint (by omega), by omega, Lib.hid ?_, B5⟩
          intro i hi
          by_cases h : i < k
          · exact HP.out i h
          · obtain rfl : i = k := by omega
            rw [HE.out]; exact HQ.out
        case measure => simp [intOf]; omega
      · go_wp2_with (first
          | ((with_reducible refine load_cells (o := ⟨some 15, _, _, _, _, _⟩) rfl _ _ rfl g (k * 4) ?_ e.cells _ ?_ Try.underlying34 rfl ?_ ?_); (focus go_simp); (focus (exact HC1.out)); (focus (exact ES.out)))
          | (go_at_call 48; refine (gdel1 r e rb wr HR.out).mono ?_; rw [HQ.out]; rintro x w5 ⟨rfl, hb5⟩; have B5 := Lib.hid (B.out.trans (hb5.mono B.out.size)); clear hb5))
        go_ret
        exact ⟨(k : Int), rfl, B5.out, .inr ⟨k, rfl, hlt, by rw [HE.out]; exact HQ.out, HP.out⟩⟩
    · obtain rfl : k = n := by omega
      go_wp2_with fail
      go_ret
      exact ⟨-1, rfl, B.out, .inl ⟨rfl, HP.out⟩⟩
set_option maxRecDepth 100000 in
set_option maxHeartbeats 8000000 in
theorem gidx2 (r : Int) (rb g n : Nat) (M : List En) (w : World) (h : Row w rb 3 [.int .i64 r]) (hg : Row w g 34 (flat M)) (cp : Nat) (hn : M.length = cp) (hnc : n ≤ cp) (hm : n ≤ 1000000) :
    Calls Try.prog 78 #[.slice (some ⟨g, 0, none⟩) n cp, .func (.func 47) #[] #[.pointer (some ⟨rb, 0, none⟩)]] w fun x w' => ∃ z : Int, x = .returned (.int .i64 z) ∧ Below w.heap.size w w' ∧ ((z = -1 ∧ ∀ i, i < n → gp2 r (M.getD i En.zero) = false) ∨ ∃ k : Nat, z = (k : Int) ∧ k < n ∧ gp2 r (M.getD k En.zero) = true ∧ ∀ i, i < k → gp2 r (M.getD i En.zero) = false) := by
  have H := Lib.hid h
  have HG := Lib.hid hg
  have HN := Lib.hid hn
  have ES := Lib.hid en_size
  clear h hg hn
  go_enter Try.func78, Try.ntmps78
  go_wp2_with fail
  go_loopw [8] (fun i wr => ∃ k : Nat, i = .int .i64 (k : Int) ∧ k ≤ n ∧ Hid (∀ i, i < k → gp2 r (M.getD i En.zero) = false) ∧ Hid (Below w.heap.size w wr)) (fun i _ => n - (intOf i).toNat)
  case atStart => exact ⟨0, rfl, Nat.zero_le _, Lib.hid (fun i h => absurd h (by omega)), Lib.hid (Below.refl _ _)⟩
  case round =>
    obtain ⟨k, rfl, hk, HP, B⟩ := hrel
    by_cases hlt : k < n
    · obtain ⟨e, he⟩ : ∃ e, M.getD k En.zero = e := ⟨_, rfl⟩
      obtain ⟨q, hq⟩ : ∃ q, gp2 r e = q := ⟨_, rfl⟩
      have HE := Lib.hid he
      have HQ := Lib.hid hq
      have HR := Lib.hid (H.out.below B.out H.out.lt)
      have HC1 := Lib.hid (fun j v (hj : e.cells[j]? = some v) => (show wr.cell? ⟨g, k * 4 + j, none⟩ = some v by
        have hj4 : j < 4 := (List.getElem?_eq_some_iff.1 hj).1
        rw [(HG.out.below B.out HG.out.lt).cellV, flat_get M k j (by rw [HN.out]; omega) hj4, HE.out]; exact hj))
      have g1 : (0 : Int) ≤ (k : Int) := by omega
      have g2 : (k : Int) < (n : Int) := by omega
      clear he hq
      cases q
      · go_wp2_with (first
          | ((with_reducible refine load_cells (o := ⟨some 15, _, _, _, _, _⟩) rfl _ _ rfl g (k * 4) ?_ e.cells _ ?_ Try.underlying34 rfl ?_ ?_); (focus go_simp); (focus (exact HC1.out)); (focus (exact ES.out)))
          | (go_at_call 47; refine (gdel2 r e rb wr HR.out).mono ?_; rw [HQ.out]; rintro x w5 ⟨rfl, hb5⟩; have B5 := Lib.hid (B.out.trans (hb5.mono B.out.size)); clear hb5))
        go_roundw
        case rel =>
          refine ⟨k + 1, vint (by omega), by omega, Lib.hid ?_, B5⟩
          intro i hi
          by_cases h : i < k
          · exact HP.out i h
          · obtain rfl : i = k := by omega
            rw [HE.out]; exact HQ.out
        case measure => simp [intOf]; omega
      · go_wp2_with (first
          | ((with_reducible refine load_cells (o := ⟨some 15, _, _, _, _, _⟩) rfl _ _ rfl g (k * 4) ?_ e.cells _ ?_ Try.underlying34 rfl ?_ ?_); (focus go_simp); (focus (exact HC1.out)); (focus (exact ES.out)))
          | (go_at_call 47; refine (gdel2 r e rb wr HR.out).mono ?_; rw [HQ.out]; rintro x w5 ⟨rfl, hb5⟩; have B5 := Lib.hid (B.out.trans (hb5.mono B.out.size)); clear hb5))
        go_ret
        exact ⟨(k : Int), rfl, B5.out, .inr ⟨k, rfl, hlt, by rw [HE.out]; exact HQ.out, HP.out⟩⟩
    · obtain rfl : k = n := by omega
      go_wp2_with fail
      go_ret
      exact ⟨-1, rfl, B.out, .inl ⟨rfl, HP.out⟩⟩
set_option maxRecDepth 100000 in
set_option maxHeartbeats 16000000 in
theorem gdelf1 (r : Int) (rb g n : Nat) (M : List En) (w : World) (h : Row w rb 3 [.int .i64 r]) (hg : Row w g 34 (flat M)) (cp : Nat) (hn : M.length = cp) (hnc : n ≤ cp) (hm : n ≤ 1000000) (hne : rb ≠ g) :
    Calls Try.prog 66 #[.slice (some ⟨g, 0, none⟩) n cp, .func (.func 48) #[] #[.pointer (some ⟨rb, 0, none⟩)]] w fun x w' => ∃ (m : Nat) (R : List En), x = .returned (.slice (some ⟨g, 0, none⟩) m cp) ∧ R.length = cp ∧ m ≤ n ∧ R.take m = (M.take n).filter (fun e => !gp1 r e) ∧ Row w' g 34 (flat R) ∧ Gw g w w' := by
  have H := Lib.hid h
  have HG := Lib.hid hg
  have HN := Lib.hid hn
  have ES := Lib.hid en_size
  have EZ := Lib.hid en_zero
  have IDX := Lib.hid (gidx1 r rb g n M w h hg cp hn hnc hm)
  clear h hg hn
  go_enter Try.func66, Try.ntmps66
  go_wp2_with fail
  refine IDX.out.mono ?_
  rintro x w1 ⟨z, rfl, hb1, hz⟩
  have R1 := Lib.hid (H.out.below hb1 H.out.lt)
  have G1 := Lib.hid (HG.out.below hb1 HG.out.lt)
  have W1 := Lib.hid (Gw.of_below (g := g) hb1)
  clear hb1
  rcases hz with ⟨rfl, hall⟩ | ⟨k, rfl, hk, hpk, hbef⟩
  · have HF := Lib.hid (show M.take n = (M.take n).filter (fun e => !gp1 r e) from (all_kept M n (fun e => !gp1 r e) (by rw [HN.out]; exact hnc) (fun i hi => by show (!gp1 r (M.getD i En.zero)) = true; rw [hall i hi]; rfl)).symm)
    clear hall
    go_wp2_with fail
    go_ret
    exact ⟨n, M, rfl, HN.out, Nat.le_refl _, HF.out, G1.out, W1.out⟩
  have HK := Lib.hid (show M.take k = (M.take (k + 1)).filter (fun e => !gp1 r e) by
    rw [take_next M k _ (by rw [HN.out]; omega), all_kept M k _ (by rw [HN.out]; omega) (fun i hi => by show (!gp1 r (M.getD i En.zero)) = true; rw [hbef i hi]; rfl), if_neg (by show ¬ (!gp1 r (M.getD k En.zero)) = true; rw [hpk]; decide), List.append_nil])
  have gk : (((k : Int)) == -1) = false := by rw [beq_eq_false_iff_ne]; omega
  have gw : IntKind.i64.wrap ((k : Int) + 1) = ((k + 1 : Nat) : Int) := by rw [IntKind.wrap_i64]; omega
  clear hpk hbef
  go_wp2_with fail
  go_loopw [5, 6] (fun a b wr => ∃ (m j : Nat) (R : List En), a = .int .i64 (m : Int) ∧ b = .int .i64 (j : Int) ∧ m < j ∧ j ≤ n ∧ Hid (R.length = cp) ∧ Hid (R.take m = (M.take j).filter (fun e => !gp1 r e)) ∧ Hid (R.drop j = M.drop j) ∧ Hid (Row wr g 34 (flat R)) ∧ Hid (Row wr rb 3 [.int .i64 r]) ∧ Hid (Gw g w wr)) (fun _ b _ => n - (intOf b).toNat)
  case atStart => exact ⟨k, k + 1, M, rfl, vint (by omega), Nat.lt_succ_self _, by omega, HN, HK, Lib.hid rfl, G1, R1, W1⟩
  case round =>
    obtain ⟨m, j, R, rfl, rfl, hmj, hj, HL, HT, HD, HR, HB, HW⟩ := hrel
    by_cases hlt : j < n
    · obtain ⟨e, he⟩ : ∃ e, M.getD j En.zero = e := ⟨_, rfl⟩
      have hre := at_drop R M j cp HL.out HN.out (by omega) HD.out
      rw [he] at hre
      obtain ⟨q, hq⟩ : ∃ q, gp1 r e = q := ⟨_, rfl⟩
      have HE := Lib.hid he
      have HQ := Lib.hid hq
      have HC1 := Lib.hid (fun i v (hi : e.cells[i]? = some v) => (show wr.cell? ⟨g, j * 4 + i, none⟩ = some v by
        have hi4 : i < 4 := (List.getElem?_eq_some_iff.1 hi).1
        rw [HR.out.cellV, flat_get R j i (by rw [HL.out]; omega) hi4, hre]; exact hi))
      have hnx := take_next M j (fun e => !gp1 r e) (by rw [HN.out]; omega)
      rw [he] at hnx
      have HNX := Lib.hid hnx
      have g1 : (0 : Int) ≤ (j : Int) := by omega
      have g2 : (j : Int) < (n : Int) := by omega
      have g3 : (0 : Int) ≤ (m : Int) := by omega
      have g4 : (m : Int) < (n : Int) := by omega
      have gm : IntKind.i64.wrap ((m : Int) + 1) = ((m + 1 : Nat) : Int) := by rw [IntKind.wrap_i64]; omega
      clear he hq hre hnx
      cases q
      · go_wp2_with (first
          | ((with_reducible refine load_cells (o := ⟨some 25, _, _, _, _, _⟩) rfl _ _ rfl g (j * 4) ?_ e.cells _ ?_ Try.underlying34 rfl ?_ ?_); (focus go_simp); (focus (exact HC1.out)); (focus (exact ES.out)))
          | ((with_reducible refine alloc_row (o := ⟨some 7, _, _, _, _, _⟩) rfl _ rfl _ EZ.out ?_); intro w6 hr hb hz; have E6 := Lib.hid hr; have GL := Lib.hid (show g < wr.heap.size ∧ rb < wr.heap.size from ⟨HR.out.lt, HB.out.lt⟩); have G6 := Lib.hid (HR.out.below hb HR.out.lt); have R6 := Lib.hid (HB.out.below hb HB.out.lt); have W6 := Lib.hid (HW.out.trans (Gw.of_below hb)); clear hr hb hz)
          | ((with_reducible refine store_row (o := ⟨none, _, _, _, _, _⟩) rfl _ (.tmp 7) _ rfl wr.heap.size e.cells ?_ ?_ 34 _ E6.out ?_ ?_ ?_ ?_); (focus go_simp); (focus (first | (go_simp; done) | (go_simp; rfl))); (focus (exact ES.out)); (focus rfl); (focus (exact en_one _)); intro w7 hr hu; have E7 := Lib.hid hr; have G7 := Lib.hid (G6.out.upd hu (by have := GL.out; omega)); have R7 := Lib.hid (R6.out.upd hu (by have := GL.out; omega)); have W7 := Lib.hid (W6.out.tail HW.out.size hu); clear hr hu)
          | ((with_reducible refine load_row (o := ⟨some 27, _, _, _, _, _⟩) rfl _ _ rfl wr.heap.size ?_ _ e.cells _ E7.out Try.underlying34 rfl ?_ ?_); (focus go_simp); (focus (exact ES.out)))
          | (go_at_call 48; refine (gdel1 r e rb w7 R7.out).mono ?_; rw [HQ.out]; rintro x w8 ⟨rfl, hb⟩; have E8 := Lib.hid (E7.out.below hb E7.out.lt); have G8 := Lib.hid (G7.out.below hb G7.out.lt); have R8 := Lib.hid (R7.out.below hb R7.out.lt); have W8 := Lib.hid (W7.out.trans (Gw.of_below hb)); clear hb)
          | ((with_reducible refine load_row (o := ⟨some 32, _, _, _, _, _⟩) rfl _ _ rfl wr.heap.size ?_ _ e.cells _ E8.out Try.underlying34 rfl ?_ ?_); (focus go_simp); (focus (exact ES.out)))
          | ((with_reducible refine store_part (o := ⟨none, _, _, _, _, _⟩) rfl _ (.tmp 33) _ rfl g (m * 4) e.cells ?_ ?_ 34 _ G8.out ?_ ?_ ?_ ?_); (focus go_simp); (focus (first | (go_simp; done) | (go_simp; rfl))); (focus (exact en_size)); (focus (rw [flat_len, HL.out]; simp [En.cells]; omega)); (focus (exact en_one _)); intro w9 hr hu; rw [splice_flat _ m _ (by rw [HL.out]; omega)] at hr; have G9 := Lib.hid hr; have R9 := Lib.hid (R8.out.upd hu hne); have W9 := Lib.hid (W8.out.trans (Gw.upd hu)); clear hr hu))
        go_roundw
        case rel =>
          refine ⟨m + 1, j + 1, R.set m e, vint (by omega), vint (by omega), by omega, by omega, Lib.hid (by rw [List.length_set]; exact HL.out), Lib.hid ?_, Lib.hid ?_, G9, R9, W9⟩
          · rw [set_take R m e (by rw [HL.out]; omega), HT.out, HNX.out, if_pos (by rw [HQ.out]; rfl)]
          · rw [List.drop_set_of_lt (by omega)]; exact drop_next HD.out
        case measure => simp [intOf]; omega
      · go_wp2_with (first
          | ((with_reducible refine load_cells (o := ⟨some 25, _, _, _, _, _⟩) rfl _ _ rfl g (j * 4) ?_ e.cells _ ?_ Try.underlying34 rfl ?_ ?_); (focus go_simp); (focus (exact HC1.out)); (focus (exact ES.out)))
          | ((with_reducible refine alloc_row (o := ⟨some 7, _, _, _, _, _⟩) rfl _ rfl _ EZ.out ?_); intro w6 hr hb hz; have E6 := Lib.hid hr; have GL := Lib.hid (show g < wr.heap.size ∧ rb < wr.heap.size from ⟨HR.out.lt, HB.out.lt⟩); have G6 := Lib.hid (HR.out.below hb HR.out.lt); have R6 := Lib.hid (HB.out.below hb HB.out.lt); have W6 := Lib.hid (HW.out.trans (Gw.of_below hb)); clear hr hb hz)
          | ((with_reducible refine store_row (o := ⟨none, _, _, _, _, _⟩) rfl _ (.tmp 7) _ rfl wr.heap.size e.cells ?_ ?_ 34 _ E6.out ?_ ?_ ?_ ?_); (focus go_simp); (focus (first | (go_simp; done) | (go_simp; rfl))); (focus (exact ES.out)); (focus rfl); (focus (exact en_one _)); intro w7 hr hu; have E7 := Lib.hid hr; have G7 := Lib.hid (G6.out.upd hu (by have := GL.out; omega)); have R7 := Lib.hid (R6.out.upd hu (by have := GL.out; omega)); have W7 := Lib.hid (W6.out.tail HW.out.size hu); clear hr hu)
          | ((with_reducible refine load_row (o := ⟨some 27, _, _, _, _, _⟩) rfl _ _ rfl wr.heap.size ?_ _ e.cells _ E7.out Try.underlying34 rfl ?_ ?_); (focus go_simp); (focus (exact ES.out)))
          | (go_at_call 48; refine (gdel1 r e rb w7 R7.out).mono ?_; rw [HQ.out]; rintro x w8 ⟨rfl, hb⟩; have E8 := Lib.hid (E7.out.below hb E7.out.lt); have G8 := Lib.hid (G7.out.below hb G7.out.lt); have R8 := Lib.hid (R7.out.below hb R7.out.lt); have W8 := Lib.hid (W7.out.trans (Gw.of_below hb)); clear hb))
        go_roundw
        case rel =>
          refine ⟨m, j + 1, R, rfl, vint (by omega), by omega, by omega, HL, Lib.hid ?_, Lib.hid (drop_next HD.out), G8, R8, W8⟩
          rw [HNX.out, if_neg (by rw [HQ.out]; simp), List.append_nil]; exact HT.out
        case measure => simp [intOf]; omega
    · obtain rfl : j = n := by omega
      have g3 : (0 : Int) ≤ (m : Int) := by omega
      have g4 : (m : Int) ≤ (j : Int) := by omega
      have g5 : m ≤ j := by omega
      have g6 : m ≤ cp := by omega
      have g7 : (m : Int) ≤ (cp : Int) := by omega
      obtain ⟨p, hp⟩ : ∃ p, j - m = p + 1 := ⟨j - m - 1, by omega⟩
      have MD := Lib.hid (made_en (p + 1))
      have SPL := Lib.hid (splice_mid R m j cp HL.out g5 hnc)
      rw [hp] at SPL
      go_wp2_with (first
        | ((with_reducible refine clear_wide rfl (.tmp 38) _ rfl 34 #[.int .i64 0, .int .i64 0, .int .i64 0, .slice none 0 0] g (m * 4) p (cp - m) _ _ ?_ Try.underlying22 ?_ HR.out ?_ ?_ ?_); (focus (first | (go_simp; done) | (go_simp; simp [hp]; done) | (go_simp; rw [hp]))); (focus (exact EZ.out)); (focus (rw [flat_len, HL.out]; show m * 4 + (p + 1) * 4 ≤ cp * 4; omega)); (focus (show ∀ v ∈ (madeCells _ ((p + 1) * 4)).toList, v.oneCell' = true; rw [MD.out]; exact flat_one _)); intro w5 hr hu; have hr' : Row w5 g 34 (splice (flat R) (m * 4) (madeCells #[.int .i64 0, .int .i64 0, .int .i64 0, .slice none 0 0] ((p + 1) * 4)).toList) := hr; rw [MD.out, SPL.out] at hr'; have G5 := Lib.hid hr'; have W5 := Lib.hid (HW.out.trans (Gw.upd hu)); clear hr hr' hu))
      go_ret
      refine ⟨m, R.take m ++ List.replicate (p + 1) En.zero ++ R.drop j, rfl, ?_, g5, ?_, G5.out, W5.out⟩
      · rw [List.length_append, List.length_append, List.length_take, List.length_replicate, List.length_drop, HL.out]; omega
      · rw [List.append_assoc, List.take_append_of_le_length (by rw [List.length_take, HL.out]; omega), List.take_take, Nat.min_self, HT.out]
set_option maxRecDepth 100000 in
set_option maxHeartbeats 16000000 in
theorem gdelf2 (r : Int) (rb g n : Nat) (M : List En) (w : World) (h : Row w rb 3 [.int .i64 r]) (hg : Row w g 34 (flat M)) (cp : Nat) (hn : M.length = cp) (hnc : n ≤ cp) (hm : n ≤ 1000000) (hne : rb ≠ g) :
    Calls Try.prog 66 #[.slice (some ⟨g, 0, none⟩) n cp, .func (.func 47) #[] #[.pointer (some ⟨rb, 0, none⟩)]] w fun x w' => ∃ (m : Nat) (R : List En), x = .returned (.slice (some ⟨g, 0, none⟩) m cp) ∧ R.length = cp ∧ m ≤ n ∧ R.take m = (M.take n).filter (fun e => !gp2 r e) ∧ Row w' g 34 (flat R) ∧ Gw g w w' := by
  have H := Lib.hid h
  have HG := Lib.hid hg
  have HN := Lib.hid hn
  have ES := Lib.hid en_size
  have EZ := Lib.hid en_zero
  have IDX := Lib.hid (gidx2 r rb g n M w h hg cp hn hnc hm)
  clear h hg hn
  go_enter Try.func66, Try.ntmps66
  go_wp2_with fail
  refine IDX.out.mono ?_
  rintro x w1 ⟨z, rfl, hb1, hz⟩
  have R1 := Lib.hid (H.out.below hb1 H.out.lt)
  have G1 := Lib.hid (HG.out.below hb1 HG.out.lt)
  have W1 := Lib.hid (Gw.of_below (g := g) hb1)
  clear hb1
  rcases hz with ⟨rfl, hall⟩ | ⟨k, rfl, hk, hpk, hbef⟩
  · have HF := Lib.hid (show M.take n = (M.take n).filter (fun e => !gp2 r e) from (all_kept M n (fun e => !gp2 r e) (by rw [HN.out]; exact hnc) (fun i hi => by show (!gp2 r (M.getD i En.zero)) = true; rw [hall i hi]; rfl)).symm)
    clear hall
    go_wp2_with fail
    go_ret
    exact ⟨n, M, rfl, HN.out, Nat.le_refl _, HF.out, G1.out, W1.out⟩
  have HK := Lib.hid (show M.take k = (M.take (k + 1)).filter (fun e => !gp2 r e) by
    rw [take_next M k _ (by rw [HN.out]; omega), all_kept M k _ (by rw [HN.out]; omega) (fun i hi => by show (!gp2 r (M.getD i En.zero)) = true; rw [hbef i hi]; rfl), if_neg (by show ¬ (!gp2 r (M.getD k En.zero)) = true; rw [hpk]; decide), List.append_nil])
  have gk : (((k : Int)) == -1) = false := by rw [beq_eq_false_iff_ne]; omega
  have gw : IntKind.i64.wrap ((k : Int) + 1) = ((k + 1 : Nat) : Int) := by rw [IntKind.wrap_i64]; omega
  clear hpk hbef
  go_wp2_with fail
  go_loopw [5, 6] (fun a b wr => ∃ (m j : Nat) (R : List En), a = .int .i64 (m : Int) ∧ b = .int .i64 (j : Int) ∧ m < j ∧ j ≤ n ∧ Hid (R.length = cp) ∧ Hid (R.take m = (M.take j).filter (fun e => !gp2 r e)) ∧ Hid (R.drop j = M.drop j) ∧ Hid (Row wr g 34 (flat R)) ∧ Hid (Row wr rb 3 [.int .i64 r]) ∧ Hid (Gw g w wr)) (fun _ b _ => n - (intOf b).toNat)
  case atStart => exact ⟨k, k + 1, M, rfl, vint (by omega), Nat.lt_succ_self _, by omega, HN, HK, Lib.hid rfl, G1, R1, W1⟩
  case round =>
    obtain ⟨m, j, R, rfl, rfl, hmj, hj, HL, HT, HD, HR, HB, HW⟩ := hrel
    by_cases hlt : j < n
    · obtain ⟨e, he⟩ : ∃ e, M.getD j En.zero = e := ⟨_, rfl⟩
      have hre := at_drop R M j cp HL.out HN.out (by omega) HD.out
      rw [he] at hre
      obtain ⟨q, hq⟩ : ∃ q, gp2 r e = q := ⟨_, rfl⟩
      have HE := Lib.hid he
      have HQ := Lib.hid hq
      have HC1 := Lib.hid (fun i v (hi : e.cells[i]? = some v) => (show wr.cell? ⟨g, j * 4 + i, none⟩ = some v by
        have hi4 : i < 4 := (List.getElem?_eq_some_iff.1 hi).1
        rw [HR.out.cellV, flat_get R j i (by rw [HL.out]; omega) hi4, hre]; exact hi))
      have hnx := take_next M j (fun e => !gp2 r e) (by rw [HN.out]; omega)
      rw [he] at hnx
      have HNX := Lib.hid hnx
      have g1 : (0 : Int) ≤ (j : Int) := by omega
      have g2 : (j : Int) < (n : Int) := by omega
      have g3 : (0 : Int) ≤ (m : Int) := by omega
      have g4 : (m : Int) < (n : Int) := by omega
      have gm : IntKind.i64.wrap ((m : Int) + 1) = ((m + 1 : Nat) : Int) := by rw [IntKind.wrap_i64]; omega
      clear he hq hre hnx
      cases q
      · go_wp2_with (first
          | ((with_reducible refine load_cells (o := ⟨some 25, _, _, _, _, _⟩) rfl _ _ rfl g (j * 4) ?_ e.cells _ ?_ Try.underlying34 rfl ?_ ?_); (focus go_simp); (focus (exact HC1.out)); (focus (exact ES.out)))
          | ((with_reducible refine alloc_row (o := ⟨some 7, _, _, _, _, _⟩) rfl _ rfl _ EZ.out ?_); intro w6 hr hb hz; have E6 := Lib.hid hr; have GL := Lib.hid (show g < wr.heap.size ∧ rb < wr.heap.size from ⟨HR.out.lt, HB.out.lt⟩); have G6 := Lib.hid (HR.out.below hb HR.out.lt); have R6 := Lib.hid (HB.out.below hb HB.out.lt); have W6 := Lib.hid (HW.out.trans (Gw.of_below hb)); clear hr hb hz)
          | ((with_reducible refine store_row (o := ⟨none, _, _, _, _, _⟩) rfl _ (.tmp 7) _ rfl wr.heap.size e.cells ?_ ?_ 34 _ E6.out ?_ ?_ ?_ ?_); (focus go_simp); (focus (first | (go_simp; done) | (go_simp; rfl))); (focus (exact ES.out)); (focus rfl); (focus (exact en_one _)); intro w7 hr hu; have E7 := Lib.hid hr; have G7 := Lib.hid (G6.out.upd hu (by have := GL.out; omega)); have R7 := Lib.hid (R6.out.upd hu (by have := GL.out; omega)); have W7 := Lib.hid (W6.out.tail HW.out.size hu); clear hr hu)
          | ((with_reducible refine load_row (o := ⟨some 27, _, _, _, _, _⟩) rfl _ _ rfl wr.heap.size ?_ _ e.cells _ E7.out Try.underlying34 rfl ?_ ?_); (focus go_simp); (focus (exact ES.out)))
          | (go_at_call 47; refine (gdel2 r e rb w7 R7.out).mono ?_; rw [HQ.out]; rintro x w8 ⟨rfl, hb⟩; have E8 := Lib.hid (E7.out.below hb E7.out.lt); have G8 := Lib.hid (G7.out.below hb G7.out.lt); have R8 := Lib.hid (R7.out.below hb R7.out.lt); have W8 := Lib.hid (W7.out.trans (Gw.of_below hb)); clear hb)
          | ((with_reducible refine load_row (o := ⟨some 32, _, _, _, _, _⟩) rfl _ _ rfl wr.heap.size ?_ _ e.cells _ E8.out Try.underlying34 rfl ?_ ?_); (focus go_simp); (focus (exact ES.out)))
          | ((with_reducible refine store_part (o := ⟨none, _, _, _, _, _⟩) rfl _ (.tmp 33) _ rfl g (m * 4) e.cells ?_ ?_ 34 _ G8.out ?_ ?_ ?_ ?_); (focus go_simp); (focus (first | (go_simp; done) | (go_simp; rfl))); (focus (exact en_size)); (focus (rw [flat_len, HL.out]; simp [En.cells]; omega)); (focus (exact en_one _)); intro w9 hr hu; rw [splice_flat _ m _ (by rw [HL.out]; omega)] at hr; have G9 := Lib.hid hr; have R9 := Lib.hid (R8.out.upd hu hne); have W9 := Lib.hid (W8.out.trans (Gw.upd hu)); clear hr hu))
        go_roundw
        case rel =>
          refine ⟨m + 1, j + 1, R.set m e, vint (by omega), vint (by omega), by omega, by omega, Lib.hid (by rw [List.length_set]; exact HL.out), Lib.hid ?_, Lib.hid ?_, G9, R9, W9⟩
          · rw [set_take R m e (by rw [HL.out]; omega), HT.out, HNX.out, if_pos (by rw [HQ.out]; rfl)]
          · rw [List.drop_set_of_lt (by omega)]; exact drop_next HD.out
        case measure => simp [intOf]; omega
      · go_wp2_with (first
          | ((with_reducible refine load_cells (o := ⟨some 25, _, _, _, _, _⟩) rfl _ _ rfl g (j * 4) ?_ e.cells _ ?_ Try.underlying34 rfl ?_ ?_); (focus go_simp); (focus (exact HC1.out)); (focus (exact ES.out)))
          | ((with_reducible refine alloc_row (o := ⟨some 7, _, _, _, _, _⟩) rfl _ rfl _ EZ.out ?_); intro w6 hr hb hz; have E6 := Lib.hid hr; have GL := Lib.hid (show g < wr.heap.size ∧ rb < wr.heap.size from ⟨HR.out.lt, HB.out.lt⟩); have G6 := Lib.hid (HR.out.below hb HR.out.lt); have R6 := Lib.hid (HB.out.below hb HB.out.lt); have W6 := Lib.hid (HW.out.trans (Gw.of_below hb)); clear hr hb hz)
          | ((with_reducible refine store_row (o := ⟨none, _, _, _, _, _⟩) rfl _ (.tmp 7) _ rfl wr.heap.size e.cells ?_ ?_ 34 _ E6.out ?_ ?_ ?_ ?_); (focus go_simp); (focus (first | (go_simp; done) | (go_simp; rfl))); (focus (exact ES.out)); (focus rfl); (focus (exact en_one _)); intro w7 hr hu; have E7 := Lib.hid hr; have G7 := Lib.hid (G6.out.upd hu (by have := GL.out; omega)); have R7 := Lib.hid (R6.out.upd hu (by have := GL.out; omega)); have W7 := Lib.hid (W6.out.tail HW.out.size hu); clear hr hu)
          | ((with_reducible refine load_row (o := ⟨some 27, _, _, _, _, _⟩) rfl _ _ rfl wr.heap.size ?_ _ e.cells _ E7.out Try.underlying34 rfl ?_ ?_); (focus go_simp); (focus (exact ES.out)))
          | (go_at_call 47; refine (gdel2 r e rb w7 R7.out).mono ?_; rw [HQ.out]; rintro x w8 ⟨rfl, hb⟩; have E8 := Lib.hid (E7.out.below hb E7.out.lt); have G8 := Lib.hid (G7.out.below hb G7.out.lt); have R8 := Lib.hid (R7.out.below hb R7.out.lt); have W8 := Lib.hid (W7.out.trans (Gw.of_below hb)); clear hb))
        go_roundw
        case rel =>
          refine ⟨m, j + 1, R, rfl, vint (by omega), by omega, by omega, HL, Lib.hid ?_, Lib.hid (drop_next HD.out), G8, R8, W8⟩
          rw [HNX.out, if_neg (by rw [HQ.out]; simp), List.append_nil]; exact HT.out
        case measure => simp [intOf]; omega
    · obtain rfl : j = n := by omega
      have g3 : (0 : Int) ≤ (m : Int) := by omega
      have g4 : (m : Int) ≤ (j : Int) := by omega
      have g5 : m ≤ j := by omega
      have g6 : m ≤ cp := by omega
      have g7 : (m : Int) ≤ (cp : Int) := by omega
      obtain ⟨p, hp⟩ : ∃ p, j - m = p + 1 := ⟨j - m - 1, by omega⟩
      have MD := Lib.hid (made_en (p + 1))
      have SPL := Lib.hid (splice_mid R m j cp HL.out g5 hnc)
      rw [hp] at SPL
      go_wp2_with (first
        | ((with_reducible refine clear_wide rfl (.tmp 38) _ rfl 34 #[.int .i64 0, .int .i64 0, .int .i64 0, .slice none 0 0] g (m * 4) p (cp - m) _ _ ?_ Try.underlying22 ?_ HR.out ?_ ?_ ?_); (focus (first | (go_simp; done) | (go_simp; simp [hp]; done) | (go_simp; rw [hp]))); (focus (exact EZ.out)); (focus (rw [flat_len, HL.out]; show m * 4 + (p + 1) * 4 ≤ cp * 4; omega)); (focus (show ∀ v ∈ (madeCells _ ((p + 1) * 4)).toList, v.oneCell' = true; rw [MD.out]; exact flat_one _)); intro w5 hr hu; have hr' : Row w5 g 34 (splice (flat R) (m * 4) (madeCells #[.int .i64 0, .int .i64 0, .int .i64 0, .slice none 0 0] ((p + 1) * 4)).toList) := hr; rw [MD.out, SPL.out] at hr'; have G5 := Lib.hid hr'; have W5 := Lib.hid (HW.out.trans (Gw.upd hu)); clear hr hr' hu))
      go_ret
      refine ⟨m, R.take m ++ List.replicate (p + 1) En.zero ++ R.drop j, rfl, ?_, g5, ?_, G5.out, W5.out⟩
      · rw [List.length_append, List.length_append, List.length_take, List.length_replicate, List.length_drop, HL.out]; omega
      · rw [List.append_assoc, List.take_append_of_le_length (by rw [List.length_take, HL.out]; omega), List.take_take, Nat.min_self, HT.out]
set_option maxRecDepth 100000 in
set_option maxHeartbeats 4000000 in
theorem gidxN1 (rb : Nat) (w : World) : Calls Try.prog 78 #[.slice none 0 0, .func (.func 48) #[] #[.pointer (some ⟨rb, 0, none⟩)]] w fun x w' => x = .returned (.int .i64 (-1)) ∧ w = w' := by
  go_enter Try.func78, Try.ntmps78
  go_wp2_with fail
  go_loopw [8] (fun i wr => i = .int .i64 0 ∧ w = wr) (fun i _ => 0)
  case atStart => exact ⟨rfl, rfl⟩
  case round =>
    obtain ⟨rfl, rfl⟩ := hrel
    go_wp2_with fail
    go_ret
    exact ⟨rfl, rfl⟩
set_option maxRecDepth 100000 in
set_option maxHeartbeats 4000000 in
theorem gdelfN1 (rb : Nat) (w : World) : Calls Try.prog 66 #[.slice none 0 0, .func (.func 48) #[] #[.pointer (some ⟨rb, 0, none⟩)]] w fun x w' => x = .returned (.slice none 0 0) ∧ w = w' := by
  go_enter Try.func66, Try.ntmps66
  go_wp2_with fail
  refine (gidxN1 rb w).mono ?_
  rintro x w1 ⟨rfl, rfl⟩
  go_wp2_with fail
  go_ret
  exact ⟨rfl, rfl⟩
set_option maxRecDepth 100000 in
set_option maxHeartbeats 4000000 in
theorem gidxN2 (rb : Nat) (w : World) : Calls Try.prog 78 #[.slice none 0 0, .func (.func 47) #[] #[.pointer (some ⟨rb, 0, none⟩)]] w fun x w' => x = .returned (.int .i64 (-1)) ∧ w = w' := by
  go_enter Try.func78, Try.ntmps78
  go_wp2_with fail
  go_loopw [8] (fun i wr => i = .int .i64 0 ∧ w = wr) (fun i _ => 0)
  case atStart => exact ⟨rfl, rfl⟩
  case round =>
    obtain ⟨rfl, rfl⟩ := hrel
    go_wp2_with fail
    go_ret
    exact ⟨rfl, rfl⟩
set_option maxRecDepth 100000 in
set_option maxHeartbeats 4000000 in
theorem gdelfN2 (rb : Nat) (w : World) : Calls Try.prog 66 #[.slice none 0 0, .func (.func 47) #[] #[.pointer (some ⟨rb, 0, none⟩)]] w fun x w' => x = .returned (.slice none 0 0) ∧ w = w' := by
  go_enter Try.func66, Try.ntmps66
  go_wp2_with fail
  refine (gidxN2 rb w).mono ?_
  rintro x w1 ⟨rfl, rfl⟩
  go_wp2_with fail
  go_ret
  exact ⟨rfl, rfl⟩
end Go.Proofs.Ytnlbdgaleibgcaa.W
