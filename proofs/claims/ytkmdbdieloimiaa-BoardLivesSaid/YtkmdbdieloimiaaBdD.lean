/- LAYER 25 (board): slices.DeleteFunc of shares. -/
import Derived.Test.YtkmdbdieloimiaaBdA
set_option linter.unusedSimpArgs false
set_option linter.unusedVariables false
namespace Go.Proofs.Ytkmdbdieloimiaa.W
open Go Go.ChangeShapes Go.WideShapes Go.ChangeAt Go.RowKit
open Go.Proofs.Ytkmdbdieloimiaa.S

set_option maxRecDepth 100000 in
set_option maxHeartbeats 16000000 in
theorem shdel (lv : Int) (g0 base n : Nat) (v : Value) (L : List Sh) (w : World) (h : LsO shE w base v L) (hn : L.length = n) (hf : ∀ x ∈ L, shE.fit w x) (hg : Row w g0 3 [.int .i64 lv]) (hne : v.ownBlock ≠ some g0) (hbw : base ≤ w.heap.size) :
    Calls Try.prog 28 #[v, .func (.func 57) #[] #[.pointer (some ⟨g0, 0, none⟩)]] w fun x w' => ∃ v', x = .returned v' ∧ LsO shE w' base v' (L.filter (fun x => !((ofS lv) x))) ∧ Kp v w w' ∧ Below base w w' := by
  rcases h.owr shOk with ⟨rfl, rfl⟩ | ⟨g, c, Z, rfl, hb, ho⟩
  · have HI := Lib.hid (shidx_of lv g0 none 0 0 [] w (Ls.nil w) hg)
    clear h hf hg hne hn
    go_enter Try.func28, Try.ntmps28
    go_wp2_with (go_at_call 56; (with_reducible refine HI.out.mono ?_); rintro x w1 ⟨rfl, hb1⟩; have B1 := Lib.hid hb1; clear hb1)
    go_ret
    exact ⟨_, rfl, LsO.nil _ _, fun k hk _ => B1.out.block k hk, B1.out.mono hbw⟩
  rw [hn] at ho ⊢
  have hls := ho.ls shOk hf
  have HI := Lib.hid (shidx_of lv g0 (some ⟨g, 0, none⟩) n c L w hls hg)
  have hnc := ho.hnc
  have hcm := ho.hcm
  have HN := Lib.hid hn
  have HO := Lib.hid ho
  have HG := Lib.hid hg
  have HF := Lib.hid hf
  have hgg : g0 ≠ g := fun e => hne (by rw [e]; rfl)
  have SZ := Lib.hid sh_size
  have EZ := Lib.hid sh_zero
  have hcm2 : c ≤ 9223372036854775807 := by unfold maxLen at hcm; omega
  rcases idxI_or (ofS lv) L with ⟨hz, hall⟩ | ⟨k, y, hz, hk, hy, hpk, hbef⟩
  · rw [hz] at HI
    have HFL := Lib.hid (show L.filter (fun x => !((ofS lv) x)) = L from List.filter_eq_self.2 (fun x hx => by rw [hall x hx]; rfl))
    clear h hf hg hne hz hall ho hn hls
    go_enter Try.func28, Try.ntmps28
    go_wp2_with (go_at_call 56; (with_reducible refine HI.out.mono ?_); rintro x w1 ⟨rfl, hb1⟩; have B1 := Lib.hid hb1; clear hb1)
    go_ret
    refine ⟨_, rfl, ?_, fun k hk _ => B1.out.block k hk, B1.out.mono hbw⟩
    rw [HFL.out]
    have h1 := (HO.out.below B1.out).lso shOk hb n (Nat.le_refl _)
    rw [List.take_of_length_le (by rw [HN.out]; exact Nat.le_refl _)] at h1
    exact h1
  rw [hz] at HI
  rw [hn] at hk
  have HK := Lib.hid (show L.take k = (L.take (k + 1)).filter (fun x => !((ofS lv) x)) by
    rw [take_nextS L k _ y hy, all_keptS L k _ (fun i hi x hx => by rw [hbef i hi x hx]; rfl), if_neg (by rw [hpk]; decide), List.append_nil])
  have gk : (((k : Int)) == -1) = false := by rw [beq_eq_false_iff_ne]; omega
  have gw : IntKind.i64.wrap ((k : Int) + 1) = ((k + 1 : Nat) : Int) := by rw [IntKind.wrap_i64]; omega
  clear h hf hg hne hz ho hn hls hpk hbef hy
  go_enter Try.func28, Try.ntmps28
  go_wp2_with (go_at_call 56; (with_reducible refine HI.out.mono ?_); rintro x w1 ⟨rfl, hb1⟩; have G1 := Lib.hid (HO.out.below hb1); have R1 := Lib.hid (HG.out.below hb1 HG.out.lt); have W1 := Lib.hid (Gw.of_below (g := g) hb1); clear hb1)
  go_loopw [5, 6] (fun a b wr => ∃ (m j : Nat) (R : List Sh), a = .int .i64 (m : Int) ∧ b = .int .i64 (j : Int) ∧ m < j ∧ j ≤ n ∧ Hid (R.length = n) ∧ Hid (R.take m = (L.take j).filter (fun x => !((ofS lv) x))) ∧ Hid (R.drop j = L.drop j) ∧ Hid (OwR shE wr g n c R Z) ∧ Hid (Row wr g0 3 [.int .i64 lv]) ∧ Hid (Gw g w wr)) (fun _ b _ => n - (intOf b).toNat)
  case atStart => exact ⟨k, k + 1, L, rfl, vint (by omega), Nat.lt_succ_self _, by omega, HN, HK, Lib.hid rfl, G1, R1, W1⟩
  case round =>
    obtain ⟨m, j, R, rfl, rfl, hmj, hj, HL, HT, HD, HR, HB, HW⟩ := hrel
    by_cases hlt : j < n
    · obtain ⟨e, he⟩ : ∃ e, L[j]? = some e := ⟨_, List.getElem?_eq_getElem (by rw [HN.out]; exact hlt)⟩
      have hre : R[j]? = some e := by rw [at_dropS HD.out]; exact he
      have hfe : shE.fit w e := HF.out e (List.mem_of_getElem? he)
      obtain ⟨q, hq⟩ : ∃ q, (ofS lv) e = q := ⟨_, rfl⟩
      have HQ := Lib.hid hq
      have HC1 := Lib.hid (show ∀ i v, (shE.cells e)[i]? = some v → wr.cell? ⟨g, j * 2 + i, none⟩ = some v from fun i v hi => by
        have hik : i < 2 := (List.getElem?_eq_some_iff.1 hi).1
        have hjn : j < R.length := by rw [HL.out]; exact hlt
        have h1 := flatE_at shOk R j i e hre hik
        rw [HR.out.row.cellV, List.getElem?_append_left (by rw [flatE_len shOk]; show j * 2 + i < R.length * 2; omega)]
        exact h1.trans hi)
      have HNX := Lib.hid (take_nextS L j (fun x => !((ofS lv) x)) e he)
      have HC := Lib.hid (show ∀ w7, Below w.heap.size w w7 ∨ True → Row w7 g0 3 [.int .i64 lv] → Calls Try.prog 57 #[.agg (shE.cells e).toArray, .pointer (some ⟨g0, 0, none⟩)] w7 fun x w' => x = .returned (.bool q) ∧ Below w7.heap.size w7 w' from fun w7 _ hr => by rw [← hq]; exact bdof1 lv e g0 w7 hr)
      have g1 : (0 : Int) ≤ (j : Int) := by omega
      have g2 : (j : Int) < (n : Int) := by omega
      have g3 : (0 : Int) ≤ (m : Int) := by omega
      have g4 : (m : Int) < (n : Int) := by omega
      have gm : IntKind.i64.wrap ((m : Int) + 1) = ((m + 1 : Nat) : Int) := by rw [IntKind.wrap_i64]; omega
      clear he hq hre hfe
      cases q
      · go_wp2_with (first
          | ((with_reducible refine load_cells (o := ⟨some 25, _, _, _, _, _⟩) rfl _ _ rfl g (j * 2) ?_ (shE.cells e) _ HC1.out Try.underlying58 rfl ?_ ?_); (focus go_simp); (focus (exact SZ.out)))
          | ((with_reducible refine alloc_row (o := ⟨some 7, _, _, _, _, _⟩) rfl _ rfl _ EZ.out ?_); intro w6 hr hb hz; have E6 := Lib.hid hr; have GL := Lib.hid (show g < wr.heap.size ∧ g0 < wr.heap.size from ⟨HR.out.row.lt, HB.out.lt⟩); have G6 := Lib.hid (HR.out.below hb); have R6 := Lib.hid (HB.out.below hb HB.out.lt); have W6 := Lib.hid (HW.out.trans (Gw.of_below hb)); clear hr hb hz)
          | ((with_reducible refine store_row (o := ⟨none, _, _, _, _, _⟩) rfl _ (.tmp 7) _ rfl wr.heap.size (shE.cells e) ?_ ?_ 58 _ E6.out ?_ ?_ ?_ ?_); (focus go_simp); (focus (first | (go_simp; done) | (go_simp; rfl))); (focus (exact SZ.out)); (focus rfl); (focus (exact shOk.one _)); intro w7 hr hu; have E7 := Lib.hid hr; have G7 := Lib.hid (G6.out.upd hu (by have := GL.out; omega)); have R7 := Lib.hid (R6.out.upd hu (by have := GL.out; omega)); have W7 := Lib.hid (W6.out.tail HW.out.size hu); clear hr hu)
          | ((with_reducible refine load_row (o := ⟨some 27, _, _, _, _, _⟩) rfl _ _ rfl wr.heap.size ?_ _ (shE.cells e) _ E7.out Try.underlying58 rfl ?_ ?_); (focus go_simp); (focus (exact SZ.out)))
          | (go_at_call 57; (with_reducible refine (HC.out w7 (.inr trivial) R7.out).mono ?_); rintro x w8 ⟨rfl, hb⟩; have E8 := Lib.hid (E7.out.below hb E7.out.lt); have G8 := Lib.hid (G7.out.below hb); have R8 := Lib.hid (R7.out.below hb R7.out.lt); have W8 := Lib.hid (W7.out.trans (Gw.of_below hb)); clear hb)
          | ((with_reducible refine load_row (o := ⟨some 32, _, _, _, _, _⟩) rfl _ _ rfl wr.heap.size ?_ _ (shE.cells e) _ E8.out Try.underlying58 rfl ?_ ?_); (focus go_simp); (focus (exact SZ.out)))
          | ((with_reducible refine store_prt (o := ⟨none, _, _, _, _, _⟩) rfl _ (.tmp 33) _ rfl g (m * 2) (shE.cells e) ?_ ?_ 58 _ G8.out.row ?_ ?_ ?_ ?_); (focus go_simp); (focus (first | (go_simp; done) | (go_simp; rfl))); (focus (exact SZ.out)); (focus (rw [G8.out.hl]; show m * 2 + 2 ≤ c * 2; omega)); (focus (exact shOk.one _)); intro w9 hr hu; have G9 := Lib.hid (G8.out.set shOk m e (by omega) hr); have R9 := Lib.hid (R8.out.upd hu hgg); have W9 := Lib.hid (W8.out.trans (Gw.upd hu)); clear hr hu))
        go_roundw
        case rel =>
          refine ⟨m + 1, j + 1, R.set m e, vint (by omega), vint (by omega), by omega, by omega, Lib.hid (by rw [List.length_set]; exact HL.out), Lib.hid ?_, Lib.hid ?_, G9, R9, W9⟩
          · rw [set_takeS R m e (by rw [HL.out]; omega), HT.out, HNX.out, if_pos (by rw [HQ.out]; rfl)]
          · rw [List.drop_set_of_lt (by omega)]; exact drop_nextS HD.out
        case measure => simp [intOf]; omega
      · go_wp2_with (first
          | ((with_reducible refine load_cells (o := ⟨some 25, _, _, _, _, _⟩) rfl _ _ rfl g (j * 2) ?_ (shE.cells e) _ HC1.out Try.underlying58 rfl ?_ ?_); (focus go_simp); (focus (exact SZ.out)))
          | ((with_reducible refine alloc_row (o := ⟨some 7, _, _, _, _, _⟩) rfl _ rfl _ EZ.out ?_); intro w6 hr hb hz; have E6 := Lib.hid hr; have GL := Lib.hid (show g < wr.heap.size ∧ g0 < wr.heap.size from ⟨HR.out.row.lt, HB.out.lt⟩); have G6 := Lib.hid (HR.out.below hb); have R6 := Lib.hid (HB.out.below hb HB.out.lt); have W6 := Lib.hid (HW.out.trans (Gw.of_below hb)); clear hr hb hz)
          | ((with_reducible refine store_row (o := ⟨none, _, _, _, _, _⟩) rfl _ (.tmp 7) _ rfl wr.heap.size (shE.cells e) ?_ ?_ 58 _ E6.out ?_ ?_ ?_ ?_); (focus go_simp); (focus (first | (go_simp; done) | (go_simp; rfl))); (focus (exact SZ.out)); (focus rfl); (focus (exact shOk.one _)); intro w7 hr hu; have E7 := Lib.hid hr; have G7 := Lib.hid (G6.out.upd hu (by have := GL.out; omega)); have R7 := Lib.hid (R6.out.upd hu (by have := GL.out; omega)); have W7 := Lib.hid (W6.out.tail HW.out.size hu); clear hr hu)
          | ((with_reducible refine load_row (o := ⟨some 27, _, _, _, _, _⟩) rfl _ _ rfl wr.heap.size ?_ _ (shE.cells e) _ E7.out Try.underlying58 rfl ?_ ?_); (focus go_simp); (focus (exact SZ.out)))
          | (go_at_call 57; (with_reducible refine (HC.out w7 (.inr trivial) R7.out).mono ?_); rintro x w8 ⟨rfl, hb⟩; have E8 := Lib.hid (E7.out.below hb E7.out.lt); have G8 := Lib.hid (G7.out.below hb); have R8 := Lib.hid (R7.out.below hb R7.out.lt); have W8 := Lib.hid (W7.out.trans (Gw.of_below hb)); clear hb))
        go_roundw
        case rel =>
          refine ⟨m, j + 1, R, rfl, vint (by omega), by omega, by omega, HL, Lib.hid ?_, Lib.hid (drop_nextS HD.out), G8, R8, W8⟩
          rw [HNX.out, if_neg (by rw [HQ.out]; simp), List.append_nil]; exact HT.out
        case measure => simp [intOf]; omega
    · obtain rfl : j = n := by omega
      have g3 : (0 : Int) ≤ (m : Int) := by omega
      have g4 : (m : Int) ≤ (j : Int) := by omega
      have g5 : m ≤ j := by omega
      have g6 : (j : Int) ≤ (c : Int) := by omega
      have g7 : (m : Int) ≤ (c : Int) := by omega
      obtain ⟨p, hp⟩ : ∃ p, j - m = p + 1 := ⟨j - m - 1, by omega⟩
      have HFX := Lib.hid (show L.take j = L from List.take_of_length_le (by rw [HN.out]; exact Nat.le_refl _))
      go_wp2_with (first
        | ((with_reducible refine clear_in rfl (.tmp 38) _ rfl 58 #[.int .i64 0, .int .i64 0] g (m * 2) p (c - m) _ _ ?_ Try.underlying23 ?_ HR.out.row ?_ ?_ ?_); (focus (first | (go_simp; done) | (go_simp; simp [hp]; done) | (go_simp; rw [hp]))); (focus (exact EZ.out)); (focus (rw [HR.out.hl]; show m * 2 + (p + 1) * 2 ≤ c * 2; omega)); (focus (exact made_one shOk ⟨0, 0⟩ _ rfl _)); intro w5 hr hu; have G5 := Lib.hid (HR.out.clr shOk m p ⟨0, 0⟩ _ rfl hp hr); have W5 := Lib.hid (HW.out.trans (Gw.upd hu)); clear hr hu))
      go_ret
      refine ⟨_, rfl, ?_, fun k hk hn => W5.out.block k hk (fun e => hn (by rw [e]; rfl)), W5.out.below hb hbw⟩
      have h1 := G5.out.lso shOk hb m g5
      rw [List.take_append_of_le_length (by rw [List.length_take, HL.out]; omega), List.take_take, Nat.min_self, HT.out, HFX.out] at h1
      exact h1
end Go.Proofs.Ytkmdbdieloimiaa.W
