/- LAYER 25 (board): slices.DeleteFunc of shares. LAYER 25 (board): slices.Grow, slices.Concat of shares. LAYER 25 (board): lists.Insert of shares. -/
import Derived.Test.YtkmdbdieloimiaaBdA
import Derived.Great.BuildSlice
import Derived.Test.YtkmdbdieloimiaaTail
set_option linter.unusedSimpArgs false
set_option linter.unusedVariables false
namespace Go.Proofs.Ytkmdbdieloimiaa.W
open Go Go.ChangeShapes Go.WideShapes Go.ChangeAt Go.RowKit
open Go.Proofs.Ytkmdbdieloimiaa.S

set_option maxRecDepth 100000 in
set_option maxHeartbeats 16000000 in
theorem shdel (lv : Int) (g0 base n : Nat) (v : Value) (L : List Sh) (w : World) (h : LsO shE w base v L) (hn : L.length = n) (hf : ∀ x ∈ L, shE.fit w x) (hg : Row w g0 3 [.int .i64 lv]) (hne : v.ownBlock ≠ some g0) (hbw : base ≤ w.heap.size) :
    Calls Try.prog 28 #[v, .func (.func 57) #[] #[.pointer (some ⟨g0, 0, none⟩)]] w fun x w' => ∃ v', x = .returned v' ∧ LsO shE w' base v' (L.filter (fun x => !((ofS lv) x))) ∧ Kp v w w' ∧ Below base w w' := by
  rcases h.owr shOk with ⟨rfl, rfl⟩ | ⟨g, c, Z, rfl, hb, ho⟩
  · have HI := Lib.hid (shidx_of lv g0 none 0 0 [] w (Ls.nil w) hg)
    clear h hf hg hne hn
    go_enter Try.func28, Try.ntmps28
    go_wp2_with (go_at_call 56; (with_reducible refine HI.out.mono ?_); rintro x w1 ⟨rfl, hb1⟩; have B1 := Lib.hid hb1; clear hb1)
    go_ret
    exact ⟨_, rfl, LsO.nil _ _, fun k hk _ => B1.out.block k hk, B1.out.mono hbw⟩
  rw [hn] at ho ⊢
  have hls := ho.ls shOk hf
  have HI := Lib.hid (shidx_of lv g0 (some ⟨g, 0, none⟩) n c L w hls hg)
  have hnc := ho.hnc
  have hcm := ho.hcm
  have HN := Lib.hid hn
  have HO := Lib.hid ho
  have HG := Lib.hid hg
  have HF := Lib.hid hf
  have hgg : g0 ≠ g := fun e => hne (by rw [e]; rfl)
  have SZ := Lib.hid sh_size
  have EZ := Lib.hid sh_zero
  have hcm2 : c ≤ 9223372036854775807 := by unfold maxLen at hcm; omega
  rcases idxI_or (ofS lv) L with ⟨hz, hall⟩ | ⟨k, y, hz, hk, hy, hpk, hbef⟩
  · rw [hz] at HI
    have HFL := Lib.hid (show L.filter (fun x => !((ofS lv) x)) = L from List.filter_eq_self.2 (fun x hx => by rw [hall x hx]; rfl))
    clear h hf hg hne hz hall ho hn hls
    go_enter Try.func28, Try.ntmps28
    go_wp2_with (go_at_call 56; (with_reducible refine HI.out.mono ?_); rintro x w1 ⟨rfl, hb1⟩; have B1 := Lib.hid hb1; clear hb1)
    go_ret
    refine ⟨_, rfl, ?_, fun k hk _ => B1.out.block k hk, B1.out.mono hbw⟩
    rw [HFL.out]
    have h1 := (HO.out.below B1.out).lso shOk hb n (Nat.le_refl _)
    rw [List.take_of_length_le (by rw [HN.out]; exact Nat.le_refl _)] at h1
    exact h1
  rw [hz] at HI
  rw [hn] at hk
  have HK := Lib.hid (show L.take k = (L.take (k + 1)).filter (fun x => !((ofS lv) x)) by
    rw [take_nextS L k _ y hy, all_keptS L k _ (fun i hi x hx => by rw [hbef i hi x hx]; rfl), if_neg (by rw [hpk]; decide), List.append_nil])
  have gk : (((k : Int)) == -1) = false := by rw [beq_eq_false_iff_ne]; omega
  have gw : IntKind.i64.wrap ((k : Int) + 1) = ((k + 1 : Nat) : Int) := by rw [IntKind.wrap_i64]; omega
  clear h hf hg hne hz ho hn hls hpk hbef hy
  go_enter Try.func28, Try.ntmps28
  go_wp2_with (go_at_call 56; (with_reducible refine HI.out.mono ?_); rintro x w1 ⟨rfl, hb1⟩; have G1 := Lib.hid (HO.out.below hb1); have R1 := Lib.hid (HG.out.below hb1 HG.out.lt); have W1 := Lib.hid (Gw.of_below (g := g) hb1); clear hb1)
  go_loopw [5, 6] (fun a b wr => ∃ (m j : Nat) (R : List Sh), a = .int .i64 (m : Int) ∧ b = .int .i64 (j : Int) ∧ m < j ∧ j ≤ n ∧ Hid (R.length = n) ∧ Hid (R.take m = (L.take j).filter (fun x => !((ofS lv) x))) ∧ Hid (R.drop j = L.drop j) ∧ Hid (OwR shE wr g n c R Z) ∧ Hid (Row wr g0 3 [.int .i64 lv]) ∧ Hid (Gw g w wr)) (fun _ b _ => n - (intOf b).toNat)
  case atStart => exact ⟨k, k + 1, L, rfl, vint (by omega), Nat.lt_succ_self _, by omega, HN, HK, Lib.hid rfl, G1, R1, W1⟩
  case round =>
    obtain ⟨m, j, R, rfl, rfl, hmj, hj, HL, HT, HD, HR, HB, HW⟩ := hrel
    by_cases hlt : j < n
    · obtain ⟨e, he⟩ : ∃ e, L[j]? = some e := ⟨_, List.getElem?_eq_getElem (by rw [HN.out]; exact hlt)⟩
      have hre : R[j]? = some e := by rw [at_dropS HD.out]; exact he
      have hfe : shE.fit w e := HF.out e (List.mem_of_getElem? he)
      obtain ⟨q, hq⟩ : ∃ q, (ofS lv) e = q := ⟨_, rfl⟩
      have HQ := Lib.hid hq
      have HC1 := Lib.hid (show ∀ i v, (shE.cells e)[i]? = some v → wr.cell? ⟨g, j * 2 + i, none⟩ = some v from fun i v hi => by
        have hik : i < 2 := (List.getElem?_eq_some_iff.1 hi).1
        have hjn : j < R.length := by rw [HL.out]; exact hlt
        have h1 := flatE_at shOk R j i e hre hik
        rw [HR.out.row.cellV, List.getElem?_append_left (by rw [flatE_len shOk]; show j * 2 + i < R.length * 2; omega)]
        exact h1.trans hi)
      have HNX := Lib.hid (take_nextS L j (fun x => !((ofS lv) x)) e he)
      have HC := Lib.hid (show ∀ w7, Below w.heap.size w w7 ∨ True → Row w7 g0 3 [.int .i64 lv] → Calls Try.prog 57 #[.agg (shE.cells e).toArray, .pointer (some ⟨g0, 0, none⟩)] w7 fun x w' => x = .returned (.bool q) ∧ Below w7.heap.size w7 w' from fun w7 _ hr => by rw [← hq]; exact bdof1 lv e g0 w7 hr)
      have g1 : (0 : Int) ≤ (j : Int) := by omega
      have g2 : (j : Int) < (n : Int) := by omega
      have g3 : (0 : Int) ≤ (m : Int) := by omega
      have g4 : (m : Int) < (n : Int) := by omega
      have gm : IntKind.i64.wrap ((m : Int) + 1) = ((m + 1 : Nat) : Int) := by rw [IntKind.wrap_i64]; omega
      clear he hq hre hfe
      cases q
      · go_wp2_with (first
          | ((with_reducible refine load_cells (o := ⟨some 25, _, _, _, _, _⟩) rfl _ _ rfl g (j * 2) ?_ (shE.cells e) _ HC1.out Try.underlying58 rfl ?_ ?_); (focus go_simp); (focus (exact SZ.out)))
          | ((with_reducible refine alloc_row (o := ⟨some 7, _, _, _, _, _⟩) rfl _ rfl _ EZ.out ?_); intro w6 hr hb hz; have E6 := Lib.hid hr; have GL := Lib.hid (show g < wr.heap.size ∧ g0 < wr.heap.size from ⟨HR.out.row.lt, HB.out.lt⟩); have G6 := Lib.hid (HR.out.below hb); have R6 := Lib.hid (HB.out.below hb HB.out.lt); have W6 := Lib.hid (HW.out.trans (Gw.of_below hb)); clear hr hb hz)
          | ((with_reducible refine store_row (o := ⟨none, _, _, _, _, _⟩) rfl _ (.tmp 7) _ rfl wr.heap.size (shE.cells e) ?_ ?_ 58 _ E6.out ?_ ?_ ?_ ?_); (focus go_simp); (focus (first | (go_simp; done) | (go_simp; rfl))); (focus (exact SZ.out)); (focus rfl); (focus (exact shOk.one _)); intro w7 hr hu; have E7 := Lib.hid hr; have G7 := Lib.hid (G6.out.upd hu (by have := GL.out; omega)); have R7 := Lib.hid (R6.out.upd hu (by have := GL.out; omega)); have W7 := Lib.hid (W6.out.tail HW.out.size hu); clear hr hu)
          | ((with_reducible refine load_row (o := ⟨some 27, _, _, _, _, _⟩) rfl _ _ rfl wr.heap.size ?_ _ (shE.cells e) _ E7.out Try.underlying58 rfl ?_ ?_); (focus go_simp); (focus (exact SZ.out)))
          | (go_at_call 57; (with_reducible refine (HC.out w7 (.inr trivial) R7.out).mono ?_); rintro x w8 ⟨rfl, hb⟩; have E8 := Lib.hid (E7.out.below hb E7.out.lt); have G8 := Lib.hid (G7.out.below hb); have R8 := Lib.hid (R7.out.below hb R7.out.lt); have W8 := Lib.hid (W7.out.trans (Gw.of_below hb)); clear hb)
          | ((with_reducible refine load_row (o := ⟨some 32, _, _, _, _, _⟩) rfl _ _ rfl wr.heap.size ?_ _ (shE.cells e) _ E8.out Try.underlying58 rfl ?_ ?_); (focus go_simp); (focus (exact SZ.out)))
          | ((with_reducible refine store_prt (o := ⟨none, _, _, _, _, _⟩) rfl _ (.tmp 33) _ rfl g (m * 2) (shE.cells e) ?_ ?_ 58 _ G8.out.row ?_ ?_ ?_ ?_); (focus go_simp); (focus (first | (go_simp; done) | (go_simp; rfl))); (focus (exact SZ.out)); (focus (rw [G8.out.hl]; show m * 2 + 2 ≤ c * 2; omega)); (focus (exact shOk.one _)); intro w9 hr hu; have G9 := Lib.hid (G8.out.set shOk m e (by omega) hr); have R9 := Lib.hid (R8.out.upd hu hgg); have W9 := Lib.hid (W8.out.trans (Gw.upd hu)); clear hr hu))
        go_roundw
        case rel =>
          refine ⟨m + 1, j + 1, R.set m e, vint (by omega), vint (by omega), by omega, by omega, Lib.hid (by rw [List.length_set]; exact HL.out), Lib.hid ?_, Lib.hid ?_, G9, R9, W9⟩
          · rw [set_takeS R m e (by rw [HL.out]; omega), HT.out, HNX.out, if_pos (by rw [HQ.out]; rfl)]
          · rw [List.drop_set_of_lt (by omega)]; exact drop_nextS HD.out
        case measure => simp [intOf]; omega
      · go_wp2_with (first
          | ((with_reducible refine load_cells (o := ⟨some 25, _, _, _, _, _⟩) rfl _ _ rfl g (j * 2) ?_ (shE.cells e) _ HC1.out Try.underlying58 rfl ?_ ?_); (focus go_simp); (focus (exact SZ.out)))
          | ((with_reducible refine alloc_row (o := ⟨some 7, _, _, _, _, _⟩) rfl _ rfl _ EZ.out ?_); intro w6 hr hb hz; have E6 := Lib.hid hr; have GL := Lib.hid (show g < wr.heap.size ∧ g0 < wr.heap.size from ⟨HR.out.row.lt, HB.out.lt⟩); have G6 := Lib.hid (HR.out.below hb); have R6 := Lib.hid (HB.out.below hb HB.out.lt); have W6 := Lib.hid (HW.out.trans (Gw.of_below hb)); clear hr hb hz)
          | ((with_reducible refine store_row (o := ⟨none, _, _, _, _, _⟩) rfl _ (.tmp 7) _ rfl wr.heap.size (shE.cells e) ?_ ?_ 58 _ E6.out ?_ ?_ ?_ ?_); (focus go_simp); (focus (first | (go_simp; done) | (go_simp; rfl))); (focus (exact SZ.out)); (focus rfl); (focus (exact shOk.one _)); intro w7 hr hu; have E7 := Lib.hid hr; have G7 := Lib.hid (G6.out.upd hu (by have := GL.out; omega)); have R7 := Lib.hid (R6.out.upd hu (by have := GL.out; omega)); have W7 := Lib.hid (W6.out.tail HW.out.size hu); clear hr hu)
          | ((with_reducible refine load_row (o := ⟨some 27, _, _, _, _, _⟩) rfl _ _ rfl wr.heap.size ?_ _ (shE.cells e) _ E7.out Try.underlying58 rfl ?_ ?_); (focus go_simp); (focus (exact SZ.out)))
          | (go_at_call 57; (with_reducible refine (HC.out w7 (.inr trivial) R7.out).mono ?_); rintro x w8 ⟨rfl, hb⟩; have E8 := Lib.hid (E7.out.below hb E7.out.lt); have G8 := Lib.hid (G7.out.below hb); have R8 := Lib.hid (R7.out.below hb R7.out.lt); have W8 := Lib.hid (W7.out.trans (Gw.of_below hb)); clear hb))
        go_roundw
        case rel =>
          refine ⟨m, j + 1, R, rfl, vint (by omega), by omega, by omega, HL, Lib.hid ?_, Lib.hid (drop_nextS HD.out), G8, R8, W8⟩
          rw [HNX.out, if_neg (by rw [HQ.out]; simp), List.append_nil]; exact HT.out
        case measure => simp [intOf]; omega
    · obtain rfl : j = n := by omega
      have g3 : (0 : Int) ≤ (m : Int) := by omega
      have g4 : (m : Int) ≤ (j : Int) := by omega
      have g5 : m ≤ j := by omega
      have g6 : (j : Int) ≤ (c : Int) := by omega
      have g7 : (m : Int) ≤ (c : Int) := by omega
      obtain ⟨p, hp⟩ : ∃ p, j - m = p + 1 := ⟨j - m - 1, by omega⟩
      have HFX := Lib.hid (show L.take j = L from List.take_of_length_le (by rw [HN.out]; exact Nat.le_refl _))
      go_wp2_with (first
        | ((with_reducible refine clear_in rfl (.tmp 38) _ rfl 58 #[.int .i64 0, .int .i64 0] g (m * 2) p (c - m) _ _ ?_ Try.underlying23 ?_ HR.out.row ?_ ?_ ?_); (focus (first | (go_simp; done) | (go_simp; simp [hp]; done) | (go_simp; rw [hp]))); (focus (exact EZ.out)); (focus (rw [HR.out.hl]; show m * 2 + (p + 1) * 2 ≤ c * 2; omega)); (focus (exact made_one shOk ⟨0, 0⟩ _ rfl _)); intro w5 hr hu; have G5 := Lib.hid (HR.out.clr shOk m p ⟨0, 0⟩ _ rfl hp hr); have W5 := Lib.hid (HW.out.trans (Gw.upd hu)); clear hr hu))
      go_ret
      refine ⟨_, rfl, ?_, fun k hk hn => W5.out.block k hk (fun e => hn (by rw [e]; rfl)), W5.out.below hb hbw⟩
      have h1 := G5.out.lso shOk hb m g5
      rw [List.take_append_of_le_length (by rw [List.length_take, HL.out]; omega), List.take_take, Nat.min_self, HT.out, HFX.out] at h1
      exact h1
end Go.Proofs.Ytkmdbdieloimiaa.W

namespace Go.Proofs.Ytkmdbdieloimiaa.W
open Go Go.ChangeShapes Go.WideShapes Go.ChangeAt Go.RowKit
open Go.Proofs.Ytkmdbdieloimiaa.S

set_option maxRecDepth 100000 in
set_option maxHeartbeats 8000000 in
theorem shgrow (n : Nat) (w : World) (hn : n ≤ 100000) : Calls Try.prog 71 #[.slice none 0 0, .int .i64 (n : Int)] w fun x w' => ∃ v, x = .returned v ∧ LsO shE w' w.heap.size v [] ∧ Below w.heap.size w w' := by
  have SZ := Lib.hid sh_size
  rcases Nat.eq_zero_or_pos n with rfl | h0
  · go_enter Try.func71, Try.ntmps71
    go_wp2_with fail
    go_ret
    exact ⟨_, rfl, LsO.nil _ _, Below.refl _ _⟩
  · have g0 : (0 : Int) < (n : Int) := by omega
    have gw : IntKind.i64.wrap (n : Int) = (n : Int) := by rw [IntKind.wrap_i64]; omega
    go_enter Try.func71, Try.ntmps71
    go_wp2_with (first
      | ((with_reducible refine append_zeros0 shOk (o := ⟨some 22, _, _, _, _, _⟩) rfl (.tmp 20) (.tmp 21) 3 .i64 Try.underlying3 rfl n (n : Int) ?_ ?_ rfl h0 (by omega) ?_); (focus (first | (go_simp; done) | (go_simp; rfl))); (focus (first | (go_simp; done) | (go_simp; rfl) | (go_simp; omega))); intro w1 G hl hG hm hb; have L1 := Lib.hid hl; have B1 := Lib.hid hb; have g1 : (0 : Int) ≤ (G : Int) := by omega
         clear hl hb))
    go_ret
    exact ⟨_, rfl, L1.out, B1.out⟩
theorem shs_info : (Try.prog.info? 23).map (fun i => (i.zero, i.size, i.bytes)) = some (some (.slice none 0 0), 1, 24) := by kernel_rfl
theorem shs_size : (Try.prog.info? 23).map (·.size) = some 1 := by kernel_rfl
set_option maxRecDepth 100000 in
/-- BUILD of a slice of three slices -/
theorem shbs3 {w : World} {ops : Array Oper} {rest : List Oper} {o : Oper} {a : Act} {Q : Exit → Act → World → Prop} (hgd : o.guard = none) (x0 x1 x2 : Operand)
    (ho : o.op = .buildSlice 99 3 #[(0, x0), (1, x1), (2, x2)]) (a0 a1 a2 : Option Addr) (n0 c0 n1 c1 n2 c2 : Nat) (h0 : a.eval x0 = .slice a0 n0 c0) (h1 : a.eval x1 = .slice a1 n1 c1) (h2 : a.eval x2 = .slice a2 n2 c2)
    (hk : ∀ w', Row w' w.heap.size 23 [.slice a0 n0 c0, .slice a1 n1 c1, .slice a2 n2 c2] → Below w.heap.size w w' → w'.heap.size = w.heap.size + 1 → wpList Try.prog ops Q rest (a.put o.dst (.slice (some ⟨w.heap.size, 0, none⟩) 3 3)) w') : wpList Try.prog ops Q (o :: rest) a w := by
  obtain ⟨i0, hi0, hz0, hz1, hz2⟩ := info_parts shs_info
  refine wpList_buildSlice hgd 99 23 3 _ ho #[.slice a0 n0 c0, .slice a1 n1 c1, .slice a2 n2 c2] i0 _ Try.underlying99 hi0 hz0 (by rw [hz1]; decide) (by rw [hz1]; decide) (by rw [hz1]; simp only [List.map_toArray, List.map_cons, List.map_nil, h0, h1, h2]; go_simp; first | done | rfl) ?_
  exact hk _ (Row.new _ _ _) ((Below.refl _ _).alloc (Nat.le_refl _) _) (by simp)
theorem shk3 {w : World} {g : Nat} {t : TypeId} {a b c : Value} (h : Row w g t [a, b, c]) : w.cell? ⟨g, 0, none⟩ = some a ∧ w.cell? ⟨g, 1, none⟩ = some b ∧ w.cell? ⟨g, 2, none⟩ = some c := by
  refine ⟨?_, ?_, ?_⟩ <;> (rw [h.cellV]; rfl)
set_option maxRecDepth 100000 in
set_option maxHeartbeats 16000000 in
theorem shconcat (bx : Nat) (a0 a1 a2 : Option Addr) (n0 c0 n1 c1 n2 c2 : Nat) (L0 L1 L2 : List Sh) (w : World) (hr : Row w bx 23 [.slice a0 n0 c0, .slice a1 n1 c1, .slice a2 n2 c2]) (h0 : Ls shE w a0 n0 c0 L0) (h1 : Ls shE w a1 n1 c1 L1) (h2 : Ls shE w a2 n2 c2 L2) (hm : n0 + n1 + n2 ≤ 1000) :
    Calls Try.prog 59 #[.slice (some ⟨bx, 0, none⟩) 3 3] w fun x w' => ∃ v', x = .returned v' ∧ LsO shE w' w.heap.size v' (L0 ++ L1 ++ L2) ∧ Below w.heap.size w w' := by
  have R := Lib.hid hr
  have H0 := Lib.hid h0
  have H1 := Lib.hid h1
  have H2 := Lib.hid h2
  have E0 := Lib.hid h0.hlen
  have E1 := Lib.hid h1.hlen
  have E2 := Lib.hid h2.hlen
  have SZ := Lib.hid shs_size
  have HGR := Lib.hid (shgrow (n0 + n1 + n2))
  clear hr h0 h1 h2
  obtain ⟨k0, k1, k2⟩ := shk3 R.out
  have m0 : (n0 : Int) ≤ 1000 := by omega
  have m1 : (n1 : Int) ≤ 1000 := by omega
  have m2 : (n2 : Int) ≤ 1000 := by omega
  have m3 : (n0 : Int) + (n1 : Int) + (n2 : Int) ≤ 1000 := by omega
  have p0 : (0 : Int) ≤ (n0 : Int) := by omega
  have p1 : (0 : Int) ≤ (n1 : Int) := by omega
  have p2 : (0 : Int) ≤ (n2 : Int) := by omega
  have q1 : IntKind.i64.wrap ((n0 : Int) + (n1 : Int)) = (n0 : Int) + (n1 : Int) := by rw [IntKind.wrap_i64]; omega
  have q2 : IntKind.i64.wrap ((n0 : Int) + (n1 : Int) + (n2 : Int)) = (n0 : Int) + (n1 : Int) + (n2 : Int) := by rw [IntKind.wrap_i64]; omega
  have r1 : ¬ (n0 : Int) < 0 := by omega
  have r2 : ¬ (n0 : Int) + (n1 : Int) < 0 := by omega
  have r3 : ¬ (n0 : Int) + (n1 : Int) + (n2 : Int) < 0 := by omega
  go_enter Try.func59, Try.ntmps59
  go_wp2_with fail
  go_loop [3, 11] (fun s i => ∃ (k : Nat) (z : Int), i = .int .i64 (k : Int) ∧ s = .int .i64 z ∧ ((k = 0 ∧ z = 0) ∨ (k = 1 ∧ z = (n0 : Int)) ∨ (k = 2 ∧ z = (n0 : Int) + (n1 : Int)) ∨ (k = 3 ∧ z = (n0 : Int) + (n1 : Int) + (n2 : Int)))) (fun _ i => 3 - (intOf i).toNat)
  case atStart => exact ⟨0, 0, rfl, rfl, .inl ⟨rfl, rfl⟩⟩
  case round =>
    obtain ⟨k, z, rfl, rfl, hk⟩ := hrel
    rcases hk with ⟨rfl, rfl⟩ | ⟨rfl, rfl⟩ | ⟨rfl, rfl⟩ | ⟨rfl, rfl⟩
    · go_wp2_with fail
      go_round
      case rel => exact ⟨1, (n0 : Int), rfl, vint (by first | rfl | omega | simp), .inr (.inl ⟨rfl, rfl⟩)⟩
      case measure => simp [intOf]
    · go_wp2_with fail
      go_round
      case rel => exact ⟨2, (n0 : Int) + (n1 : Int), rfl, vint (by first | rfl | omega | simp), .inr (.inr (.inl ⟨rfl, rfl⟩))⟩
      case measure => simp [intOf]
    · go_wp2_with fail
      go_round
      case rel => exact ⟨3, (n0 : Int) + (n1 : Int) + (n2 : Int), rfl, vint (by first | rfl | omega | simp), .inr (.inr (.inr ⟨rfl, rfl⟩))⟩
      case measure => simp [intOf]
    · clear k0 k1 k2 q1 q2 r1 r2 r3
      have HGR := Lib.hid (show ∀ w, Calls Try.prog 71 #[.slice none 0 0, .int .i64 ((n0 : Int) + (n1 : Int) + (n2 : Int))] w fun x w' => ∃ v, x = .returned v ∧ LsO shE w' w.heap.size v [] ∧ Below w.heap.size w w' from fun w => by
        have := HGR.out w (by omega)
        rwa [show ((n0 + n1 + n2 : Nat) : Int) = (n0 : Int) + (n1 : Int) + (n2 : Int) by omega] at this)
      go_wp2_with (first
        | (go_at_call 71; (with_reducible refine (HGR.out _).mono ?_); rintro x w1 ⟨v1, rfl, hl, hb⟩; have O1 := Lib.hid hl; have B1 := Lib.hid hb; clear hl hb))
      go_loopw [6, 27] (fun v i wr => ∃ (k : Nat) (M : List Sh), i = .int .i64 (k : Int) ∧ Hid (LsO shE wr w.heap.size v M) ∧ Hid (Below w.heap.size w wr) ∧ ((k = 0 ∧ M = []) ∨ (k = 1 ∧ L0 = M) ∨ (k = 2 ∧ M = L0 ++ L1) ∨ (k = 3 ∧ M = L0 ++ L1 ++ L2))) (fun _ i _ => 3 - (intOf i).toNat)
      case atStart => exact ⟨0, [], rfl, O1, B1, .inl ⟨rfl, rfl⟩⟩
      case round =>
        obtain ⟨k, M, rfl, O, B, hk⟩ := hrel
        obtain ⟨k0, k1, k2⟩ := shk3 (R.out.below B.out R.out.lt)
        rcases hk with ⟨rfl, rfl⟩ | ⟨rfl, rfl⟩ | ⟨rfl, rfl⟩ | ⟨rfl, rfl⟩
        · go_wp2_with (first
            | (at_builtin; (with_reducible refine append_ls shOk (o := ⟨some 33, _, _, _, _, _⟩) rfl (.tmp 31) (.tmp 32) rfl w.heap.size u6 [] ?_ O.out a0 n0 c0 L0 ?_ (H0.out.mono shOk B.out) ?_ B.out.size ?_); (focus (first | (go_simp; done) | (go_simp; rfl))); (focus (first | (go_simp; done) | (go_simp; rfl))); (focus (simp; omega)); intro v2 w2 hN hb _ _; have N2 := Lib.hid hN; have B2 := Lib.hid (B.out.trans hb); clear hN hb))
          go_roundw
          case rel => exact ⟨1, L0, rfl, Lib.hid (by have := N2.out; rwa [List.nil_append] at this), B2, .inr (.inl ⟨rfl, rfl⟩)⟩
          case measure => simp [intOf]
        · go_wp2_with (first
            | (at_builtin; (with_reducible refine append_ls shOk (o := ⟨some 33, _, _, _, _, _⟩) rfl (.tmp 31) (.tmp 32) rfl w.heap.size u6 L0 ?_ O.out a1 n1 c1 L1 ?_ (H1.out.mono shOk B.out) ?_ B.out.size ?_); (focus (first | (go_simp; done) | (go_simp; rfl))); (focus (first | (go_simp; done) | (go_simp; rfl))); (focus (rw [E0.out]; omega)); intro v2 w2 hN hb _ _; have N2 := Lib.hid hN; have B2 := Lib.hid (B.out.trans hb); clear hN hb))
          go_roundw
          case rel => exact ⟨2, L0 ++ L1, rfl, N2, B2, .inr (.inr (.inl ⟨rfl, rfl⟩))⟩
          case measure => simp [intOf]
        · go_wp2_with (first
            | (at_builtin; (with_reducible refine append_ls shOk (o := ⟨some 33, _, _, _, _, _⟩) rfl (.tmp 31) (.tmp 32) rfl w.heap.size u6 (L0 ++ L1) ?_ O.out a2 n2 c2 L2 ?_ (H2.out.mono shOk B.out) ?_ B.out.size ?_); (focus (first | (go_simp; done) | (go_simp; rfl))); (focus (first | (go_simp; done) | (go_simp; rfl))); (focus (rw [List.length_append, E0.out, E1.out]; omega)); intro v2 w2 hN hb _ _; have N2 := Lib.hid hN; have B2 := Lib.hid (B.out.trans hb); clear hN hb))
          go_roundw
          case rel => exact ⟨3, L0 ++ L1 ++ L2, rfl, N2, B2, .inr (.inr (.inr ⟨rfl, rfl⟩))⟩
          case measure => simp [intOf]
        · go_wp2_with fail
          go_ret
          exact ⟨_, rfl, O.out, B.out⟩
end Go.Proofs.Ytkmdbdieloimiaa.W

namespace Go.Proofs.Ytkmdbdieloimiaa.W
open Go Go.ChangeShapes Go.WideShapes Go.ChangeAt Go.RowKit
open Go.Proofs.Ytkmdbdieloimiaa.S

theorem sh_fill (y : Sh) : Instr.fill (fun i => some (i * shE.k, shE.k)) ((Array.range (1 * shE.k)).map (shE.z.cells[· % shE.z.cells.size]!)) [(0, .agg (shE.cells y).toArray)] = some (shE.cells y).toArray := by
  kernel_rfl
set_option maxRecDepth 100000 in
set_option maxHeartbeats 16000000 in
theorem shinsert (lv : Int) (g : Nat) (a : Option Addr) (n c : Nat) (L : List Sh) (s : Sh) (w : World) (h : Ls shE w a n c L) (hs : shE.fit w s) (hg : Row w g 3 [.int .i64 lv]) (hn : n ≤ 900) :
    Calls Try.prog 33 #[.slice a n c, .agg (shE.cells s).toArray, .func (.func 60) #[] #[.pointer (some ⟨g, 0, none⟩)]] w fun x w' => ∃ v', x = .returned v' ∧ LsO shE w' w.heap.size v' (insP (abS lv) s L) ∧ Below w.heap.size w w' := by
  have H := Lib.hid h
  have HS := Lib.hid hs
  have HG := Lib.hid hg
  have HL := Lib.hid h.hlen
  have hm := h.hmax
  have hle := h.hle
  have SZ := Lib.hid sh_size
  have HI := Lib.hid (fun w' (hb : Below w.heap.size w w') => shidx_ab lv g a n c L w' (h.mono shOk hb) (hg.below hb hg.lt))
  obtain ⟨q, hq, hz, hins⟩ : ∃ q : Nat, q ≤ n ∧ ((idxI (abS lv) L = -1 ∧ (n : Int) = (q : Int)) ∨ idxI (abS lv) L = (q : Int)) ∧ insP (abS lv) s L = L.take q ++ [s] ++ L.drop q := by
    rcases idxI_or (abS lv) L with ⟨hz, hall⟩ | ⟨k, y, hz, hk, hy, hpk, hbef⟩
    · refine ⟨n, Nat.le_refl _, .inl ⟨hz, rfl⟩, ?_⟩
      rw [insP_no _ s L hall, List.take_of_length_le (by rw [h.hlen]; exact Nat.le_refl _), List.drop_eq_nil_of_le (by rw [h.hlen]; exact Nat.le_refl _), List.append_nil]
    · exact ⟨k, by rw [← h.hlen]; omega, .inr hz, insP_at _ s L k y hy hpk hbef⟩
  rw [hins]
  obtain ⟨M, hM⟩ : ∃ M, L.take q ++ [s] ++ L.drop q = M := ⟨_, rfl⟩
  rw [hM]
  have HM := Lib.hid hM
  have gn : (0 : Int) ≤ (n : Int) := by omega
  have gq0 : (0 : Int) ≤ (q : Int) := by omega
  have gq : (q : Int) ≤ (n : Int) := by omega
  have gc : (q : Int) ≤ (c : Int) := by omega
  have gq1 : ¬ (q : Int) < 0 := by omega
  obtain ⟨z, hzz⟩ : ∃ z, idxI (abS lv) L = z := ⟨_, rfl⟩
  rw [hzz] at HI hz
  clear h hs hg hins hzz hM
  rcases hz with ⟨rfl, hqn⟩ | rfl
  all_goals
    first
      | (have HQE := Lib.hid hqn; clear hqn)
      | skip
    go_enter Try.func33, Try.ntmps33
    go_wp2_with (first
      | ((with_reducible refine box_row (o := ⟨some 4, _, _, _, _, _⟩) rfl _ _ rfl (shE.cells s) rfl ?_); intro w1 hr hb hz; have R1 := Lib.hid hr; have B1 := Lib.hid hb; clear hr hb hz)
      | (go_at_call 56; (with_reducible refine (HI.out w1 B1.out).mono ?_); rintro x w2 ⟨rfl, hb⟩; have R2 := Lib.hid (R1.out.below hb R1.out.lt); have B2 := Lib.hid (B1.out.trans (hb.mono B1.out.size)); clear hb))
    try rw [HQE.out]
    refine region_h (fun v => Below w2.heap.size w2 v) (by kernel_rfl) (by kernel_rfl) (Below.refl _ _).drew ?_
    obtain ⟨wd, hwd⟩ : ∃ wd, w2.drew = wd := ⟨_, rfl⟩
    have D0 : Hid (Below w2.heap.size w2 wd) := Lib.hid (by rw [← hwd]; exact (Below.refl _ _).drew)
    rw [hwd]
    clear hwd
    (refine h_read 0 rfl (by kernel_rfl) (by kernel_rfl) (h_free rfl) ?_ ?_ ?_; rotate_left; (focus (intro v hv; go_simp; rfl)); go_simp)
    (refine h_read 1 rfl (by kernel_rfl) (by kernel_rfl) (h_free rfl) ?_ ?_ ?_; rotate_left; (focus (intro v hv; go_simp; rfl)); go_simp)
    (refine h_read 2 rfl (by kernel_rfl) (by kernel_rfl) (h_free rfl) (.slice a q c) ?_ ?_; (focus (intro v hv; go_simp; first | done | rfl | (intro hh; exfalso; omega) | omega)); go_simp)
    (refine h_read 3 rfl (by kernel_rfl) (by kernel_rfl) (h_free rfl) ?_ ?_ ?_; rotate_left; (focus (intro v hv; refine run_cells 58 (.tmp 4) ?_ w.heap.size 0 ?_ (shE.cells s) _ (fun j' u' hj => by rw [hv.cell (p := ⟨w.heap.size, 0 + j', none⟩) R2.out.lt, Nat.zero_add, R2.out.cellV]; exact hj) Try.underlying58 rfl sh_size; (focus rfl); go_simp)); go_simp)
    (refine h_read 5 rfl (by kernel_rfl) (by kernel_rfl) (h_free rfl) ?_ ?_ ?_; rotate_left; (focus (intro v hv; go_simp; rfl)); go_simp)
    (refine h_read 6 rfl (by kernel_rfl) (by kernel_rfl) (h_free rfl) ?_ ?_ ?_; rotate_left; (focus (intro v hv; go_simp; rfl)); go_simp)
    (refine h_read 7 rfl (by kernel_rfl) (by kernel_rfl) (h_free rfl) (.slice (if c = q then a else a.map (fun x => x.add (q * shE.k))) (n - q) (c - q)) ?_ ?_; (focus (intro v hv; go_simp; first | done | rfl | (intro hh; exfalso; omega) | omega)); go_simp)
    (refine h_list 4 rfl (by kernel_rfl) ?_; intro K hK)
    refine build_ls shOk sh_fill (o := ⟨some 19, _, _, _, _, _⟩) rfl _ rfl s ?_ HS.out (by decide) ?_
    · first | (go_simp; done) | (go_simp; rfl)
    intro w3 hl hb hz
    have X3 := Lib.hid hl
    have D3 := Lib.hid (D0.out.trans (hb.mono D0.out.size))
    clear hl hb hz
    refine hK _ _ D3.out ?_
    go_simp
    (refine h_list 8 rfl (by kernel_rfl) ?_; intro K hK)
    refine shbs3 (o := ⟨some 23, _, _, _, _, _⟩) rfl _ _ _ rfl a (some ⟨wd.heap.size, 0, none⟩) (if c = q then a else a.map (fun x => x.add (q * shE.k))) q c 1 1 (n - q) (c - q) ?_ ?_ ?_ ?_
    · first | (go_simp; done) | (go_simp; rfl)
    · first | (go_simp; done) | (go_simp; rfl)
    · first | (go_simp; done) | (go_simp; rfl)
    intro w4 hr hb hz
    have R4 := Lib.hid hr
    have X4 := Lib.hid (X3.out.mono shOk hb)
    have D4 := Lib.hid (D3.out.trans (hb.mono D3.out.size))
    have BW := Lib.hid (B2.out.trans (D4.out.mono B2.out.size))
    have LW := Lib.hid (H.out.mono shOk BW.out)
    clear hr hb hz
    refine hK _ _ D4.out ?_
    go_simp
    (refine h_call 9 rfl (by kernel_rfl) (h_free rfl) 59 ?_ ?_ ?_; rotate_left; (focus (go_simp; rfl)))
    refine (shconcat w3.heap.size a (some ⟨wd.heap.size, 0, none⟩) (if c = q then a else a.map (fun x => x.add (q * shE.k))) q c 1 1 (n - q) (c - q) (L.take q) [s] (L.drop q) w4 R4.out (LW.out.first q hq) X4.out (LW.out.rest q hq) (by omega)).mono ?_
    rintro x w5 ⟨v5, rfl, hl, hb⟩
    have D5 := Lib.hid (D4.out.trans (hb.mono D4.out.size))
    have N5 := Lib.hid (by (have hq5 := hl.base D4.out.size); rw [HM.out] at hq5; exact hq5)
    clear hl hb
    refine ⟨_, rfl, D5.out, ?_⟩
    go_simp
    (refine h_read 10 rfl (by kernel_rfl) (by kernel_rfl) (h_free rfl) ?_ ?_ ?_; rotate_left; (focus (intro v hv; go_simp; rfl)); go_simp)
    refine h_done (by kernel_rfl) ?_
    go_wp2_with fail
    all_goals
      go_ret
      exact ⟨_, rfl, N5.out.base B2.out.size, B2.out.trans (D5.out.mono B2.out.size)⟩
end Go.Proofs.Ytkmdbdieloimiaa.W
