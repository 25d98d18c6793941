/- LAYER 11 (record): slices.DeleteFunc with the closures of Apply. -/
import Derived.Test.YtbcaphkbjeejhaaRcM
set_option linter.unusedSimpArgs false
set_option linter.unusedVariables false
namespace Go.Proofs.Ytbcaphkbjeejhaa.W
open Go Go.ChangeShapes Go.WideShapes Go.ChangeAt Go.RowKit

theorem take_next (M : List En) (j : Nat) (q : En → Bool) (h : j < M.length) : (M.take (j + 1)).filter q = (M.take j).filter q ++ (if q (M.getD j En.zero) then [M.getD j En.zero] else []) := by
  have h1 : M.take (j + 1) = M.take j ++ [M.getD j En.zero] := by
    rw [List.take_succ_eq_append_getElem h]
    simp [List.getD_eq_getElem?_getD, h]
  rw [h1, List.filter_append]
  congr 1
  obtain ⟨x, hx⟩ : ∃ x, M.getD j En.zero = x := ⟨_, rfl⟩
  rw [hx]
  cases hq : q x <;> simp [hq]
theorem all_kept (M : List En) (k : Nat) (q : En → Bool) (hk : k ≤ M.length) (h : ∀ i, i < k → q (M.getD i En.zero) = true) : (M.take k).filter q = M.take k := by
  apply List.filter_eq_self.2
  intro x hx
  obtain ⟨i, hi, rfl⟩ := List.getElem_of_mem hx
  have hi' : i < k := by have := List.length_take_le k M; rw [List.length_take] at hi; omega
  have := h i hi'
  rw [List.getD_eq_getElem?_getD, List.getElem?_eq_getElem (by omega)] at this
  simpa using this
theorem at_drop (R M : List En) (j n : Nat) (hR : R.length = n) (hM : M.length = n) (hj : j < n) (h : R.drop j = M.drop j) : R.getD j En.zero = M.getD j En.zero := by
  have := congrArg (fun l => l[0]?) h
  simp only [List.getElem?_drop, Nat.add_zero] at this
  rw [List.getD_eq_getElem?_getD, List.getD_eq_getElem?_getD, this]
theorem drop_next {R M : List En} {j : Nat} (h : R.drop j = M.drop j) : R.drop (j + 1) = M.drop (j + 1) := by
  rw [← List.drop_drop, ← List.drop_drop, h]
theorem set_take (R : List En) (m : Nat) (e : En) (h : m < R.length) : (R.set m e).take (m + 1) = R.take m ++ [e] := by
  rw [List.take_succ_eq_append_getElem (by simpa using h)]
  simp [List.take_set_of_le]
set_option maxRecDepth 100000 in
set_option maxHeartbeats 16000000 in
theorem rdelf1 (r : Rc) (rb g n : Nat) (M : List En) (w : World) (h : Row w rb 29 r.cells) (hg : Row w g 27 (flat M)) (hn : M.length = n) (hm : n ≤ 1000000) (hne : rb ≠ g) :
    Calls Try.prog 54 #[.slice (some ⟨g, 0, none⟩) n n, .func (.func 55) #[] #[.pointer (some ⟨rb, 0, none⟩)]] w fun x w' => ∃ (m : Nat) (R : List En), x = .returned (.slice (some ⟨g, 0, none⟩) m n) ∧ R.length = n ∧ m ≤ n ∧ R.take m = M.filter (fun e => !pr1 r e) ∧ Row w' g 27 (flat R) ∧ Gw g w w' := by
  have H := Lib.hid h
  have HG := Lib.hid hg
  have HN := Lib.hid hn
  have ES := Lib.hid en_size
  have EZ := Lib.hid en_zero
  have IDX := Lib.hid (ridx1 r rb g n M w h hg hn hm)
  clear h hg hn
  go_enter Try.func54, Try.ntmps54
  go_wp2_with fail
  refine IDX.out.mono ?_
  rintro x w1 ⟨z, rfl, hb1, hz⟩
  have R1 := Lib.hid (H.out.below hb1 H.out.lt)
  have G1 := Lib.hid (HG.out.below hb1 HG.out.lt)
  have W1 := Lib.hid (Gw.of_below (g := g) hb1)
  clear hb1
  rcases hz with ⟨rfl, hall⟩ | ⟨k, rfl, hk, hpk, hbef⟩
  · have HF := Lib.hid (show M.take n = M.filter (fun e => !pr1 r e) by
      have h1 : M.take n = M := List.take_of_length_le (by rw [HN.out]; exact Nat.le_refl _)
      have h2 := all_kept M n (fun e => !pr1 r e) (by rw [HN.out]; exact Nat.le_refl _) (fun i hi => by show (!pr1 r (M.getD i En.zero)) = true; rw [hall i hi]; rfl)
      rw [h1] at h2 ⊢; exact h2.symm)
    clear hall
    go_wp2_with fail
    go_ret
    exact ⟨n, M, rfl, HN.out, Nat.le_refl _, HF.out, G1.out, W1.out⟩
  have HK := Lib.hid (show M.take k = (M.take (k + 1)).filter (fun e => !pr1 r e) by
    rw [take_next M k _ (by rw [HN.out]; exact hk), all_kept M k _ (by rw [HN.out]; omega) (fun i hi => by show (!pr1 r (M.getD i En.zero)) = true; rw [hbef i hi]; rfl), if_neg (by show ¬ (!pr1 r (M.getD k En.zero)) = true; rw [hpk]; decide), List.append_nil])
  have gk : (((k : Int)) == -1) = false := by rw [beq_eq_false_iff_ne]; omega
  have gw : IntKind.i64.wrap ((k : Int) + 1) = ((k + 1 : Nat) : Int) := by rw [IntKind.wrap_i64]; omega
  clear hpk hbef
  go_wp2_with fail
  go_loopw [5, 6] (fun a b wr => ∃ (m j : Nat) (R : List En), a = .int .i64 (m : Int) ∧ b = .int .i64 (j : Int) ∧ m < j ∧ j ≤ n ∧ Hid (R.length = n) ∧ Hid (R.take m = (M.take j).filter (fun e => !pr1 r e)) ∧ Hid (R.drop j = M.drop j) ∧ Hid (Row wr g 27 (flat R)) ∧ Hid (Row wr rb 29 r.cells) ∧ Hid (Gw g w wr)) (fun _ b _ => n - (intOf b).toNat)
  case atStart => exact ⟨k, k + 1, M, rfl, vint (by omega), Nat.lt_succ_self _, by omega, HN, HK, Lib.hid rfl, G1, R1, W1⟩
  case round =>
    obtain ⟨m, j, R, rfl, rfl, hmj, hj, HL, HT, HD, HR, HB, HW⟩ := hrel
    by_cases hlt : j < n
    · obtain ⟨e, he⟩ : ∃ e, M.getD j En.zero = e := ⟨_, rfl⟩
      have hre := at_drop R M j n HL.out HN.out hlt HD.out
      rw [he] at hre
      obtain ⟨q, hq⟩ : ∃ q, pr1 r e = q := ⟨_, rfl⟩
      have HE := Lib.hid he
      have HQ := Lib.hid hq
      have HC1 := Lib.hid (fun i v (hi : e.cells[i]? = some v) => (show wr.cell? ⟨g, j * 4 + i, none⟩ = some v by
        have hi4 : i < 4 := (List.getElem?_eq_some_iff.1 hi).1
        rw [HR.out.cellV, flat_get R j i (by rw [HL.out]; exact hlt) hi4, hre]; exact hi))
      have hnx := take_next M j (fun e => !pr1 r e) (by rw [HN.out]; exact hlt)
      rw [he] at hnx
      have HNX := Lib.hid hnx
      have g1 : (0 : Int) ≤ (j : Int) := by omega
      have g2 : (j : Int) < (n : Int) := by omega
      have g3 : (0 : Int) ≤ (m : Int) := by omega
      have g4 : (m : Int) < (n : Int) := by omega
      have gm : IntKind.i64.wrap ((m : Int) + 1) = ((m + 1 : Nat) : Int) := by rw [IntKind.wrap_i64]; omega
      clear he hq hre hnx
      cases q
      · go_wp2_with (first
          | ((with_reducible refine load_cells (o := ⟨some 25, _, _, _, _, _⟩) rfl _ _ rfl g (j * 4) ?_ e.cells _ ?_ Try.underlying27 rfl ?_ ?_); (focus go_simp); (focus (exact HC1.out)); (focus (exact ES.out)))
          | ((with_reducible refine alloc_row (o := ⟨some 7, _, _, _, _, _⟩) rfl _ rfl _ EZ.out ?_); intro w6 hr hb hz; have E6 := Lib.hid hr; have GL := Lib.hid (show g < wr.heap.size ∧ rb < wr.heap.size from ⟨HR.out.lt, HB.out.lt⟩); have G6 := Lib.hid (HR.out.below hb HR.out.lt); have R6 := Lib.hid (HB.out.below hb HB.out.lt); have W6 := Lib.hid (HW.out.trans (Gw.of_below hb)); clear hr hb hz)
          | ((with_reducible refine store_row (o := ⟨none, _, _, _, _, _⟩) rfl _ (.tmp 7) _ rfl wr.heap.size e.cells ?_ ?_ 27 _ E6.out ?_ ?_ ?_ ?_); (focus go_simp); (focus (first | (go_simp; done) | (go_simp; rfl))); (focus (exact ES.out)); (focus rfl); (focus (exact en_one _)); intro w7 hr hu; have E7 := Lib.hid hr; have G7 := Lib.hid (G6.out.upd hu (by have := GL.out; omega)); have R7 := Lib.hid (R6.out.upd hu (by have := GL.out; omega)); have W7 := Lib.hid (W6.out.tail HW.out.size hu); clear hr hu)
          | ((with_reducible refine load_row (o := ⟨some 27, _, _, _, _, _⟩) rfl _ _ rfl wr.heap.size ?_ _ e.cells _ E7.out Try.underlying27 rfl ?_ ?_); (focus go_simp); (focus (exact ES.out)))
          | (go_at_call 55; refine (rdel1 r e rb w7 R7.out).mono ?_; rw [HQ.out]; rintro x w8 ⟨rfl, hb⟩; have E8 := Lib.hid (E7.out.below hb E7.out.lt); have G8 := Lib.hid (G7.out.below hb G7.out.lt); have R8 := Lib.hid (R7.out.below hb R7.out.lt); have W8 := Lib.hid (W7.out.trans (Gw.of_below hb)); clear hb)
          | ((with_reducible refine load_row (o := ⟨some 32, _, _, _, _, _⟩) rfl _ _ rfl wr.heap.size ?_ _ e.cells _ E8.out Try.underlying27 rfl ?_ ?_); (focus go_simp); (focus (exact ES.out)))
          | ((with_reducible refine store_part (o := ⟨none, _, _, _, _, _⟩) rfl _ (.tmp 33) _ rfl g (m * 4) e.cells ?_ ?_ 27 _ G8.out ?_ ?_ ?_ ?_); (focus go_simp); (focus (first | (go_simp; done) | (go_simp; rfl))); (focus (exact en_size)); (focus (rw [flat_len, HL.out]; simp [En.cells]; omega)); (focus (exact en_one _)); intro w9 hr hu; rw [splice_flat _ m _ (by rw [HL.out]; omega)] at hr; have G9 := Lib.hid hr; have R9 := Lib.hid (R8.out.upd hu hne); have W9 := Lib.hid (W8.out.trans (Gw.upd hu)); clear hr hu))
        go_roundw
        case rel =>
          refine ⟨m + 1, j + 1, R.set m e, vint (by omega), vint (by omega), by omega, by omega, Lib.hid (by rw [List.length_set]; exact HL.out), Lib.hid ?_, Lib.hid ?_, G9, R9, W9⟩
          · rw [set_take R m e (by rw [HL.out]; omega), HT.out, HNX.out, if_pos (by rw [HQ.out]; rfl)]
          · rw [List.drop_set_of_lt (by omega)]; exact drop_next HD.out
        case measure => simp [intOf]; omega
      · go_wp2_with (first
          | ((with_reducible refine load_cells (o := ⟨some 25, _, _, _, _, _⟩) rfl _ _ rfl g (j * 4) ?_ e.cells _ ?_ Try.underlying27 rfl ?_ ?_); (focus go_simp); (focus (exact HC1.out)); (focus (exact ES.out)))
          | ((with_reducible refine alloc_row (o := ⟨some 7, _, _, _, _, _⟩) rfl _ rfl _ EZ.out ?_); intro w6 hr hb hz; have E6 := Lib.hid hr; have GL := Lib.hid (show g < wr.heap.size ∧ rb < wr.heap.size from ⟨HR.out.lt, HB.out.lt⟩); have G6 := Lib.hid (HR.out.below hb HR.out.lt); have R6 := Lib.hid (HB.out.below hb HB.out.lt); have W6 := Lib.hid (HW.out.trans (Gw.of_below hb)); clear hr hb hz)
          | ((with_reducible refine store_row (o := ⟨none, _, _, _, _, _⟩) rfl _ (.tmp 7) _ rfl wr.heap.size e.cells ?_ ?_ 27 _ E6.out ?_ ?_ ?_ ?_); (focus go_simp); (focus (first | (go_simp; done) | (go_simp; rfl))); (focus (exact ES.out)); (focus rfl); (focus (exact en_one _)); intro w7 hr hu; have E7 := Lib.hid hr; have G7 := Lib.hid (G6.out.upd hu (by have := GL.out; omega)); have R7 := Lib.hid (R6.out.upd hu (by have := GL.out; omega)); have W7 := Lib.hid (W6.out.tail HW.out.size hu); clear hr hu)
          | ((with_reducible refine load_row (o := ⟨some 27, _, _, _, _, _⟩) rfl _ _ rfl wr.heap.size ?_ _ e.cells _ E7.out Try.underlying27 rfl ?_ ?_); (focus go_simp); (focus (exact ES.out)))
          | (go_at_call 55; refine (rdel1 r e rb w7 R7.out).mono ?_; rw [HQ.out]; rintro x w8 ⟨rfl, hb⟩; have E8 := Lib.hid (E7.out.below hb E7.out.lt); have G8 := Lib.hid (G7.out.below hb G7.out.lt); have R8 := Lib.hid (R7.out.below hb R7.out.lt); have W8 := Lib.hid (W7.out.trans (Gw.of_below hb)); clear hb))
        go_roundw
        case rel =>
          refine ⟨m, j + 1, R, rfl, vint (by omega), by omega, by omega, HL, Lib.hid ?_, Lib.hid (drop_next HD.out), G8, R8, W8⟩
          rw [HNX.out, if_neg (by rw [HQ.out]; simp), List.append_nil]; exact HT.out
        case measure => simp [intOf]; omega
    · obtain rfl : j = n := by omega
      have g3 : (0 : Int) ≤ (m : Int) := by omega
      have g4 : (m : Int) ≤ (j : Int) := by omega
      have g5 : m ≤ j := by omega
      obtain ⟨p, hp⟩ : ∃ p, j - m = p + 1 := ⟨j - m - 1, by omega⟩
      have MD := Lib.hid (made_en (p + 1))
      have SPL := Lib.hid (splice_tail R m j HL.out g5)
      rw [hp] at SPL
      have HFX := Lib.hid (show M.take j = M from List.take_of_length_le (by rw [HN.out]; exact Nat.le_refl _))
      go_wp2_with (first
        | ((with_reducible refine clear_wide rfl (.tmp 38) _ rfl 27 #[.int .i64 0, .int .i64 0, .int .i64 0, .slice none 0 0] g (m * 4) p (p + 1) _ _ ?_ Try.underlying23 ?_ HR.out ?_ ?_ ?_); (focus (first | (go_simp; done) | (go_simp; simp [hp]; done) | (go_simp; rw [hp]))); (focus (exact EZ.out)); (focus (rw [flat_len, HL.out]; show m * 4 + (p + 1) * 4 ≤ j * 4; omega)); (focus (show ∀ v ∈ (madeCells _ ((p + 1) * 4)).toList, v.oneCell' = true; rw [MD.out]; exact flat_one _)); intro w5 hr hu; have hr' : Row w5 g 27 (splice (flat R) (m * 4) (madeCells #[.int .i64 0, .int .i64 0, .int .i64 0, .slice none 0 0] ((p + 1) * 4)).toList) := hr; rw [MD.out, SPL.out] at hr'; have G5 := Lib.hid hr'; have W5 := Lib.hid (HW.out.trans (Gw.upd hu)); clear hr hr' hu))
      go_ret
      refine ⟨m, R.take m ++ List.replicate (p + 1) En.zero, rfl, ?_, g5, ?_, G5.out, W5.out⟩
      · rw [List.length_append, List.length_take, List.length_replicate, HL.out]; omega
      · rw [List.take_append_of_le_length (by rw [List.length_take, HL.out]; omega), List.take_take, Nat.min_self, HT.out, HFX.out]
set_option maxRecDepth 100000 in
set_option maxHeartbeats 16000000 in
theorem rdelf2 (r : Rc) (rb g n : Nat) (M : List En) (w : World) (h : Row w rb 29 r.cells) (hg : Row w g 27 (flat M)) (hn : M.length = n) (hm : n ≤ 1000000) (hne : rb ≠ g) :
    Calls Try.prog 54 #[.slice (some ⟨g, 0, none⟩) n n, .func (.func 57) #[] #[.pointer (some ⟨rb, 0, none⟩)]] w fun x w' => ∃ (m : Nat) (R : List En), x = .returned (.slice (some ⟨g, 0, none⟩) m n) ∧ R.length = n ∧ m ≤ n ∧ R.take m = M.filter (fun e => !pr2 r e) ∧ Row w' g 27 (flat R) ∧ Gw g w w' := by
  have H := Lib.hid h
  have HG := Lib.hid hg
  have HN := Lib.hid hn
  have ES := Lib.hid en_size
  have EZ := Lib.hid en_zero
  have IDX := Lib.hid (ridx2 r rb g n M w h hg hn hm)
  clear h hg hn
  go_enter Try.func54, Try.ntmps54
  go_wp2_with fail
  refine IDX.out.mono ?_
  rintro x w1 ⟨z, rfl, hb1, hz⟩
  have R1 := Lib.hid (H.out.below hb1 H.out.lt)
  have G1 := Lib.hid (HG.out.below hb1 HG.out.lt)
  have W1 := Lib.hid (Gw.of_below (g := g) hb1)
  clear hb1
  rcases hz with ⟨rfl, hall⟩ | ⟨k, rfl, hk, hpk, hbef⟩
  · have HF := Lib.hid (show M.take n = M.filter (fun e => !pr2 r e) by
      have h1 : M.take n = M := List.take_of_length_le (by rw [HN.out]; exact Nat.le_refl _)
      have h2 := all_kept M n (fun e => !pr2 r e) (by rw [HN.out]; exact Nat.le_refl _) (fun i hi => by show (!pr2 r (M.getD i En.zero)) = true; rw [hall i hi]; rfl)
      rw [h1] at h2 ⊢; exact h2.symm)
    clear hall
    go_wp2_with fail
    go_ret
    exact ⟨n, M, rfl, HN.out, Nat.le_refl _, HF.out, G1.out, W1.out⟩
  have HK := Lib.hid (show M.take k = (M.take (k + 1)).filter (fun e => !pr2 r e) by
    rw [take_next M k _ (by rw [HN.out]; exact hk), all_kept M k _ (by rw [HN.out]; omega) (fun i hi => by show (!pr2 r (M.getD i En.zero)) = true; rw [hbef i hi]; rfl), if_neg (by show ¬ (!pr2 r (M.getD k En.zero)) = true; rw [hpk]; decide), List.append_nil])
  have gk : (((k : Int)) == -1) = false := by rw [beq_eq_false_iff_ne]; omega
  have gw : IntKind.i64.wrap ((k : Int) + 1) = ((k + 1 : Nat) : Int) := by rw [IntKind.wrap_i64]; omega
  clear hpk hbef
  go_wp2_with fail
  go_loopw [5, 6] (fun a b wr => ∃ (m j : Nat) (R : List En), a = .int .i64 (m : Int) ∧ b = .int .i64 (j : Int) ∧ m < j ∧ j ≤ n ∧ Hid (R.length = n) ∧ Hid (R.take m = (M.take j).filter (fun e => !pr2 r e)) ∧ Hid (R.drop j = M.drop j) ∧ Hid (Row wr g 27 (flat R)) ∧ Hid (Row wr rb 29 r.cells) ∧ Hid (Gw g w wr)) (fun _ b _ => n - (intOf b).toNat)
  case atStart => exact ⟨k, k + 1, M, rfl, vint (by omega), Nat.lt_succ_self _, by omega, HN, HK, Lib.hid rfl, G1, R1, W1⟩
  case round =>
    obtain ⟨m, j, R, rfl, rfl, hmj, hj, HL, HT, HD, HR, HB, HW⟩ := hrel
    by_cases hlt : j < n
    · obtain ⟨e, he⟩ : ∃ e, M.getD j En.zero = e := ⟨_, rfl⟩
      have hre := at_drop R M j n HL.out HN.out hlt HD.out
      rw [he] at hre
      obtain ⟨q, hq⟩ : ∃ q, pr2 r e = q := ⟨_, rfl⟩
      have HE := Lib.hid he
      have HQ := Lib.hid hq
      have HC1 := Lib.hid (fun i v (hi : e.cells[i]? = some v) => (show wr.cell? ⟨g, j * 4 + i, none⟩ = some v by
        have hi4 : i < 4 := (List.getElem?_eq_some_iff.1 hi).1
        rw [HR.out.cellV, flat_get R j i (by rw [HL.out]; exact hlt) hi4, hre]; exact hi))
      have hnx := take_next M j (fun e => !pr2 r e) (by rw [HN.out]; exact hlt)
      rw [he] at hnx
      have HNX := Lib.hid hnx
      have g1 : (0 : Int) ≤ (j : Int) := by omega
      have g2 : (j : Int) < (n : Int) := by omega
      have g3 : (0 : Int) ≤ (m : Int) := by omega
      have g4 : (m : Int) < (n : Int) := by omega
      have gm : IntKind.i64.wrap ((m : Int) + 1) = ((m + 1 : Nat) : Int) := by rw [IntKind.wrap_i64]; omega
      clear he hq hre hnx
      cases q
      · go_wp2_with (first
          | ((with_reducible refine load_cells (o := ⟨some 25, _, _, _, _, _⟩) rfl _ _ rfl g (j * 4) ?_ e.cells _ ?_ Try.underlying27 rfl ?_ ?_); (focus go_simp); (focus (exact HC1.out)); (focus (exact ES.out)))
          | ((with_reducible refine alloc_row (o := ⟨some 7, _, _, _, _, _⟩) rfl _ rfl _ EZ.out ?_); intro w6 hr hb hz; have E6 := Lib.hid hr; have GL := Lib.hid (show g < wr.heap.size ∧ rb < wr.heap.size from ⟨HR.out.lt, HB.out.lt⟩); have G6 := Lib.hid (HR.out.below hb HR.out.lt); have R6 := Lib.hid (HB.out.below hb HB.out.lt); have W6 := Lib.hid (HW.out.trans (Gw.of_below hb)); clear hr hb hz)
          | ((with_reducible refine store_row (o := ⟨none, _, _, _, _, _⟩) rfl _ (.tmp 7) _ rfl wr.heap.size e.cells ?_ ?_ 27 _ E6.out ?_ ?_ ?_ ?_); (focus go_simp); (focus (first | (go_simp; done) | (go_simp; rfl))); (focus (exact ES.out)); (focus rfl); (focus (exact en_one _)); intro w7 hr hu; have E7 := Lib.hid hr; have G7 := Lib.hid (G6.out.upd hu (by have := GL.out; omega)); have R7 := Lib.hid (R6.out.upd hu (by have := GL.out; omega)); have W7 := Lib.hid (W6.out.tail HW.out.size hu); clear hr hu)
          | ((with_reducible refine load_row (o := ⟨some 27, _, _, _, _, _⟩) rfl _ _ rfl wr.heap.size ?_ _ e.cells _ E7.out Try.underlying27 rfl ?_ ?_); (focus go_simp); (focus (exact ES.out)))
          | (go_at_call 57; refine (rdel2 r e rb w7 R7.out).mono ?_; rw [HQ.out]; rintro x w8 ⟨rfl, hb⟩; have E8 := Lib.hid (E7.out.below hb E7.out.lt); have G8 := Lib.hid (G7.out.below hb G7.out.lt); have R8 := Lib.hid (R7.out.below hb R7.out.lt); have W8 := Lib.hid (W7.out.trans (Gw.of_below hb)); clear hb)
          | ((with_reducible refine load_row (o := ⟨some 32, _, _, _, _, _⟩) rfl _ _ rfl wr.heap.size ?_ _ e.cells _ E8.out Try.underlying27 rfl ?_ ?_); (focus go_simp); (focus (exact ES.out)))
          | ((with_reducible refine store_part (o := ⟨none, _, _, _, _, _⟩) rfl _ (.tmp 33) _ rfl g (m * 4) e.cells ?_ ?_ 27 _ G8.out ?_ ?_ ?_ ?_); (focus go_simp); (focus (first | (go_simp; done) | (go_simp; rfl))); (focus (exact en_size)); (focus (rw [flat_len, HL.out]; simp [En.cells]; omega)); (focus (exact en_one _)); intro w9 hr hu; rw [splice_flat _ m _ (by rw [HL.out]; omega)] at hr; have G9 := Lib.hid hr; have R9 := Lib.hid (R8.out.upd hu hne); have W9 := Lib.hid (W8.out.trans (Gw.upd hu)); clear hr hu))
        go_roundw
        case rel =>
          refine ⟨m + 1, j + 1, R.set m e, vint (by omega), vint (by omega), by omega, by omega, Lib.hid (by rw [List.length_set]; exact HL.out), Lib.hid ?_, Lib.hid ?_, G9, R9, W9⟩
          · rw [set_take R m e (by rw [HL.out]; omega), HT.out, HNX.out, if_pos (by rw [HQ.out]; rfl)]
          · rw [List.drop_set_of_lt (by omega)]; exact drop_next HD.out
        case measure => simp [intOf]; omega
      · go_wp2_with (first
          | ((with_reducible refine load_cells (o := ⟨some 25, _, _, _, _, _⟩) rfl _ _ rfl g (j * 4) ?_ e.cells _ ?_ Try.underlying27 rfl ?_ ?_); (focus go_simp); (focus (exact HC1.out)); (focus (exact ES.out)))
          | ((with_reducible refine alloc_row (o := ⟨some 7, _, _, _, _, _⟩) rfl _ rfl _ EZ.out ?_); intro w6 hr hb hz; have E6 := Lib.hid hr; have GL := Lib.hid (show g < wr.heap.size ∧ rb < wr.heap.size from ⟨HR.out.lt, HB.out.lt⟩); have G6 := Lib.hid (HR.out.below hb HR.out.lt); have R6 := Lib.hid (HB.out.below hb HB.out.lt); have W6 := Lib.hid (HW.out.trans (Gw.of_below hb)); clear hr hb hz)
          | ((with_reducible refine store_row (o := ⟨none, _, _, _, _, _⟩) rfl _ (.tmp 7) _ rfl wr.heap.size e.cells ?_ ?_ 27 _ E6.out ?_ ?_ ?_ ?_); (focus go_simp); (focus (first | (go_simp; done) | (go_simp; rfl))); (focus (exact ES.out)); (focus rfl); (focus (exact en_one _)); intro w7 hr hu; have E7 := Lib.hid hr; have G7 := Lib.hid (G6.out.upd hu (by have := GL.out; omega)); have R7 := Lib.hid (R6.out.upd hu (by have := GL.out; omega)); have W7 := Lib.hid (W6.out.tail HW.out.size hu); clear hr hu)
          | ((with_reducible refine load_row (o := ⟨some 27, _, _, _, _, _⟩) rfl _ _ rfl wr.heap.size ?_ _ e.cells _ E7.out Try.underlying27 rfl ?_ ?_); (focus go_simp); (focus (exact ES.out)))
          | (go_at_call 57; refine (rdel2 r e rb w7 R7.out).mono ?_; rw [HQ.out]; rintro x w8 ⟨rfl, hb⟩; have E8 := Lib.hid (E7.out.below hb E7.out.lt); have G8 := Lib.hid (G7.out.below hb G7.out.lt); have R8 := Lib.hid (R7.out.below hb R7.out.lt); have W8 := Lib.hid (W7.out.trans (Gw.of_below hb)); clear hb))
        go_roundw
        case rel =>
          refine ⟨m, j + 1, R, rfl, vint (by omega), by omega, by omega, HL, Lib.hid ?_, Lib.hid (drop_next HD.out), G8, R8, W8⟩
          rw [HNX.out, if_neg (by rw [HQ.out]; simp), List.append_nil]; exact HT.out
        case measure => simp [intOf]; omega
    · obtain rfl : j = n := by omega
      have g3 : (0 : Int) ≤ (m : Int) := by omega
      have g4 : (m : Int) ≤ (j : Int) := by omega
      have g5 : m ≤ j := by omega
      obtain ⟨p, hp⟩ : ∃ p, j - m = p + 1 := ⟨j - m - 1, by omega⟩
      have MD := Lib.hid (made_en (p + 1))
      have SPL := Lib.hid (splice_tail R m j HL.out g5)
      rw [hp] at SPL
      have HFX := Lib.hid (show M.take j = M from List.take_of_length_le (by rw [HN.out]; exact Nat.le_refl _))
      go_wp2_with (first
        | ((with_reducible refine clear_wide rfl (.tmp 38) _ rfl 27 #[.int .i64 0, .int .i64 0, .int .i64 0, .slice none 0 0] g (m * 4) p (p + 1) _ _ ?_ Try.underlying23 ?_ HR.out ?_ ?_ ?_); (focus (first | (go_simp; done) | (go_simp; simp [hp]; done) | (go_simp; rw [hp]))); (focus (exact EZ.out)); (focus (rw [flat_len, HL.out]; show m * 4 + (p + 1) * 4 ≤ j * 4; omega)); (focus (show ∀ v ∈ (madeCells _ ((p + 1) * 4)).toList, v.oneCell' = true; rw [MD.out]; exact flat_one _)); intro w5 hr hu; have hr' : Row w5 g 27 (splice (flat R) (m * 4) (madeCells #[.int .i64 0, .int .i64 0, .int .i64 0, .slice none 0 0] ((p + 1) * 4)).toList) := hr; rw [MD.out, SPL.out] at hr'; have G5 := Lib.hid hr'; have W5 := Lib.hid (HW.out.trans (Gw.upd hu)); clear hr hr' hu))
      go_ret
      refine ⟨m, R.take m ++ List.replicate (p + 1) En.zero, rfl, ?_, g5, ?_, G5.out, W5.out⟩
      · rw [List.length_append, List.length_take, List.length_replicate, HL.out]; omega
      · rw [List.take_append_of_le_length (by rw [List.length_take, HL.out]; omega), List.take_take, Nat.min_self, HT.out, HFX.out]
end Go.Proofs.Ytbcaphkbjeejhaa.W
