/- LAYER 13 (rlog): the law's equal, few, at. -/
import Derived.Test.YtnlbdgaleibgcaaRlM
import Derived.Test.YtnlbdgaleibgcaaRcEq
import Derived.Test.YtnlbdgaleibgcaaByt
set_option linter.unusedSimpArgs false
set_option linter.unusedVariables false
namespace Go.Proofs.Ytnlbdgaleibgcaa.W
open Go Go.ChangeShapes Go.WideShapes Go.ChangeAt Go.RowKit

set_option maxRecDepth 100000 in
set_option maxHeartbeats 4000000 in
theorem lclos13 (e f : En) (l m : List UInt8) (w : World) (he : Rd w e.a e.n e.c l) (hf : Rd w f.a f.n f.c m) : Calls Try.prog 52 #[.agg e.cells.toArray, .agg f.cells.toArray] w fun x w' => x = .returned (.bool (sameE e f l m)) ∧ Below w.heap.size w w' := by
  obtain ⟨ix, tm, kd, a, n, c⟩ := e
  obtain ⟨ix', tm', kd', a', n', c'⟩ := f
  obtain ⟨b0, h0⟩ : ∃ b, (ix == ix') = b := ⟨_, rfl⟩
  obtain ⟨b1, h1⟩ : ∃ b, (tm == tm') = b := ⟨_, rfl⟩
  obtain ⟨b2, h2⟩ : ∃ b, (kd == kd') = b := ⟨_, rfl⟩
  obtain ⟨b3, h3⟩ : ∃ b, decide (l = m) = b := ⟨_, rfl⟩
  have hx : sameE ⟨ix, tm, kd, a, n, c⟩ ⟨ix', tm', kd', a', n', c'⟩ l m = (b0 && (b1 && (b2 && b3))) := by unfold sameE; rw [h0, h1, h2, ← h3]
  dsimp only at he hf
  have HX := Lib.hid hx
  have HE := Lib.hid he
  have HF := Lib.hid hf
  have H3 := Lib.hid h3
  unfold En.cells
  dsimp only
  clear hx he hf h3
  rcases ch4 b0 b1 b2 b3 with rfl | ⟨rfl, rfl⟩ | ⟨rfl, rfl, rfl⟩ | ⟨rfl, rfl, rfl, rfl⟩ | ⟨rfl, rfl, rfl, rfl⟩
  all_goals
    go_enter Try.func52, Try.ntmps52
    go_wp2_with (first
      | (with_reducible refine box_row (o := ⟨some 2, _, _, _, _, _⟩) rfl _ _ rfl [.int .i64 ix, .int .i64 tm, .int .i64 kd, .slice a n c] rfl ?_; intro w1 hr1 hb1 hz1; have HR1 := Lib.hid hr1; have B1 := Lib.hid hb1; clear hr1 hb1 hz1)
      | (with_reducible refine box_row (o := ⟨some 3, _, _, _, _, _⟩) rfl _ _ rfl [.int .i64 ix', .int .i64 tm', .int .i64 kd', .slice a' n' c'] rfl ?_; intro w2 hr2 hb2 hz2; obtain ⟨c0, c1, c2, c3⟩ := (HR1.out.below hb2 HR1.out.lt).q4; obtain ⟨d0, d1, d2, d3⟩ := hr2.q4; have B2 := Lib.hid (B1.out.trans (hb2.mono B1.out.size)); have B9 := Lib.hid B2.out; clear hr2 hb2 hz2)
      | (go_at_call 27; (with_reducible refine (sequal a a' n n' c c' l m w2 ?_ ?_).mono ?_); (focus (exact HE.out.mono B2.out)); (focus (exact HF.out.mono B2.out)); rw [H3.out]; rintro x w3 ⟨rfl, hq⟩; clear B9; have B9 := Lib.hid (B2.out.trans ((hq.below w2.heap.size).mono B2.out.size)); clear hq))
    go_ret
    exact ⟨one (vbool (by rw [HX.out]; simp)), B9.out⟩
set_option maxRecDepth 100000 in
set_option maxHeartbeats 8000000 in
theorem eqEnts13 (a a' : Option Addr) (n c n' c' : Nat) (L M : List (En × List UInt8)) (w : World) (h1 : Ents w a n c L) (h2 : Ents w a' n' c' M) (hl : n ≤ 1000000) :
    Calls Try.prog 51 #[.slice a n c, .slice a' n' c', .func (.func 52) #[] #[]] w fun x w' => x = .returned (.bool (decide (L.map pe = M.map pe))) ∧ Below w.heap.size w w' := by
  have H1 := Lib.hid h1
  have H2 := Lib.hid h2
  have HL1 := Lib.hid h1.hlen
  have HL2 := Lib.hid h2.hlen
  have EZ := Lib.hid en_zero
  have ES := Lib.hid en_size
  obtain ⟨V, hV⟩ : ∃ V, decide (L.map pe = M.map pe) = V := ⟨_, rfl⟩
  rw [hV]
  have HV := Lib.hid hV
  clear h1 h2 hV
  by_cases hnn : n = n'
  · subst hnn
    go_enter Try.func51, Try.ntmps51
    go_wp2_with fail
    go_loopw [17] (fun i wr => ∃ k : Nat, i = .int .i64 (k : Int) ∧ k ≤ n ∧ Hid ((L.take k).map pe = (M.take k).map pe) ∧ Hid (Below w.heap.size w wr)) (fun i _ => n - (intOf i).toNat)
    case atStart => exact ⟨0, rfl, Nat.zero_le _, Lib.hid rfl, Lib.hid (Below.refl _ _)⟩
    case round =>
      obtain ⟨k, rfl, hk, P, B⟩ := hrel
      by_cases hlt : k < n
      · obtain ⟨x1, o1, rfl, hx1, hf1, hk1⟩ := H1.out.at B.out k hlt
        obtain ⟨x2, o2, rfl, hx2, hf2, hk2⟩ := H2.out.at B.out k hlt
        have hstep := map_take_next L M k hk1 hk2 P.out
        have hne := map_ne L M k hk1 hk2
        obtain ⟨⟨e1, l1⟩, hq1⟩ : ∃ y, L.getD k Ez = y := ⟨_, rfl⟩
        obtain ⟨⟨e2, l2⟩, hq2⟩ : ∃ y, M.getD k Ez = y := ⟨_, rfl⟩
        rw [hq1, hq2] at hstep hne
        rw [hq1] at hx1 hf1
        rw [hq2] at hx2 hf2
        dsimp only at hx1 hf1 hx2 hf2
        have X1 := Lib.hid hx1
        have X2 := Lib.hid hx2
        have F1 := Lib.hid hf1
        have F2 := Lib.hid hf2
        have SP := Lib.hid (same_pe e1 e2 l1 l2)
        have g1 : (0 : Int) ≤ (k : Int) := by omega
        have g2 : (k : Int) < (n : Int) := by omega
        clear hx1 hx2 hf1 hf2 hq1 hq2 hk1 hk2
        by_cases heq : pe (e1, l1) = pe (e2, l2)
        · have HN := Lib.hid (hstep heq)
          have SV := Lib.hid (show sameE e1 e2 l1 l2 = true by rw [SP.out]; exact decide_eq_true heq)
          clear hstep hne heq
          go_wp2_with (first
            | ((with_reducible refine load_cells (o := ⟨some 21, _, _, _, _, _⟩) rfl _ _ rfl x1 (o1 + k * 4) ?_ e1.cells _ X1.out Try.underlying34 rfl ?_ ?_); (focus go_simp); (focus (exact ES.out)))
            | ((with_reducible refine alloc_row (o := ⟨some 8, _, _, _, _, _⟩) rfl _ rfl _ EZ.out ?_); intro w1 hr hb hz; have A1 := Lib.hid hr; have B1 := Lib.hid hb; clear hr hb hz)
            | ((with_reducible refine store_row (o := ⟨none, _, _, _, _, _⟩) rfl _ (.tmp 8) _ rfl wr.heap.size e1.cells ?_ ?_ 34 _ A1.out ?_ ?_ (cells_one _) ?_); (focus go_simp); (focus (first | (go_simp; done) | (go_simp; rfl))); (focus (exact ES.out)); (focus rfl); intro w2 hr hu; have A2 := Lib.hid hr; have B2 := Lib.hid (B1.out.trans (hu.below (Nat.le_refl _))); clear hr hu)
            | ((with_reducible refine load_cells (o := ⟨some 25, _, _, _, _, _⟩) rfl _ _ rfl x2 (o2 + k * 4) ?_ e2.cells _ (fun j v hj => by rw [B2.out.cell (p := ⟨x2, o2 + k * 4 + j, none⟩) (World.block_lt_of_cell? wr _ (X2.out j v hj))]; exact X2.out j v hj) Try.underlying34 rfl ?_ ?_); (focus go_simp); (focus (exact ES.out)))
            | ((with_reducible refine alloc_row (o := ⟨some 9, _, _, _, _, _⟩) rfl _ rfl _ EZ.out ?_); intro w3 hr hb hz; have C3 := Lib.hid hr; have A3 := Lib.hid (A2.out.below hb A2.out.lt); have L3 := Lib.hid (show wr.heap.size < w2.heap.size from A2.out.lt); have B3 := Lib.hid (B2.out.trans (hb.mono B2.out.size)); clear hr hb hz)
            | ((with_reducible refine store_row (o := ⟨none, _, _, _, _, _⟩) rfl _ (.tmp 9) _ rfl w2.heap.size e2.cells ?_ ?_ 34 _ C3.out ?_ ?_ (cells_one _) ?_); (focus go_simp); (focus (first | (go_simp; done) | (go_simp; rfl))); (focus (exact ES.out)); (focus rfl); intro w4 hr hu; have C4 := Lib.hid hr; have A4 := Lib.hid (A3.out.upd hu (Nat.ne_of_lt L3.out)); have B4 := Lib.hid (B3.out.trans (hu.below B2.out.size)); clear hr hu)
            | ((with_reducible refine load_row (o := ⟨some 27, _, _, _, _, _⟩) rfl _ _ rfl wr.heap.size ?_ _ e1.cells _ A4.out Try.underlying34 rfl ?_ ?_); (focus go_simp); (focus (exact ES.out)))
            | ((with_reducible refine load_row (o := ⟨some 28, _, _, _, _, _⟩) rfl _ _ rfl w2.heap.size ?_ _ e2.cells _ C4.out Try.underlying34 rfl ?_ ?_); (focus go_simp); (focus (exact ES.out)))
            | (go_at_call 52; refine (lclos13 e1 e2 l1 l2 w4 (F1.out.rd.mono B4.out) (F2.out.rd.mono B4.out)).mono ?_; rw [SV.out]; rintro e w5 ⟨rfl, hb5⟩; have B5 := Lib.hid ((B.out.trans (B4.out.mono B.out.size)).trans (hb5.mono (Nat.le_trans B.out.size B4.out.size))); clear hb5))
          go_roundw
          case rel => exact ⟨k + 1, vint (by omega), by omega, HN, B5⟩
          case measure => simp [intOf]; omega
        · have HN := Lib.hid (hne heq)
          have SV := Lib.hid (show sameE e1 e2 l1 l2 = false by rw [SP.out]; exact decide_eq_false heq)
          clear hstep hne heq
          go_wp2_with (first
            | ((with_reducible refine load_cells (o := ⟨some 21, _, _, _, _, _⟩) rfl _ _ rfl x1 (o1 + k * 4) ?_ e1.cells _ X1.out Try.underlying34 rfl ?_ ?_); (focus go_simp); (focus (exact ES.out)))
            | ((with_reducible refine alloc_row (o := ⟨some 8, _, _, _, _, _⟩) rfl _ rfl _ EZ.out ?_); intro w1 hr hb hz; have A1 := Lib.hid hr; have B1 := Lib.hid hb; clear hr hb hz)
            | ((with_reducible refine store_row (o := ⟨none, _, _, _, _, _⟩) rfl _ (.tmp 8) _ rfl wr.heap.size e1.cells ?_ ?_ 34 _ A1.out ?_ ?_ (cells_one _) ?_); (focus go_simp); (focus (first | (go_simp; done) | (go_simp; rfl))); (focus (exact ES.out)); (focus rfl); intro w2 hr hu; have A2 := Lib.hid hr; have B2 := Lib.hid (B1.out.trans (hu.below (Nat.le_refl _))); clear hr hu)
            | ((with_reducible refine load_cells (o := ⟨some 25, _, _, _, _, _⟩) rfl _ _ rfl x2 (o2 + k * 4) ?_ e2.cells _ (fun j v hj => by rw [B2.out.cell (p := ⟨x2, o2 + k * 4 + j, none⟩) (World.block_lt_of_cell? wr _ (X2.out j v hj))]; exact X2.out j v hj) Try.underlying34 rfl ?_ ?_); (focus go_simp); (focus (exact ES.out)))
            | ((with_reducible refine alloc_row (o := ⟨some 9, _, _, _, _, _⟩) rfl _ rfl _ EZ.out ?_); intro w3 hr hb hz; have C3 := Lib.hid hr; have A3 := Lib.hid (A2.out.below hb A2.out.lt); have L3 := Lib.hid (show wr.heap.size < w2.heap.size from A2.out.lt); have B3 := Lib.hid (B2.out.trans (hb.mono B2.out.size)); clear hr hb hz)
            | ((with_reducible refine store_row (o := ⟨none, _, _, _, _, _⟩) rfl _ (.tmp 9) _ rfl w2.heap.size e2.cells ?_ ?_ 34 _ C3.out ?_ ?_ (cells_one _) ?_); (focus go_simp); (focus (first | (go_simp; done) | (go_simp; rfl))); (focus (exact ES.out)); (focus rfl); intro w4 hr hu; have C4 := Lib.hid hr; have A4 := Lib.hid (A3.out.upd hu (Nat.ne_of_lt L3.out)); have B4 := Lib.hid (B3.out.trans (hu.below B2.out.size)); clear hr hu)
            | ((with_reducible refine load_row (o := ⟨some 27, _, _, _, _, _⟩) rfl _ _ rfl wr.heap.size ?_ _ e1.cells _ A4.out Try.underlying34 rfl ?_ ?_); (focus go_simp); (focus (exact ES.out)))
            | ((with_reducible refine load_row (o := ⟨some 28, _, _, _, _, _⟩) rfl _ _ rfl w2.heap.size ?_ _ e2.cells _ C4.out Try.underlying34 rfl ?_ ?_); (focus go_simp); (focus (exact ES.out)))
            | (go_at_call 52; refine (lclos13 e1 e2 l1 l2 w4 (F1.out.rd.mono B4.out) (F2.out.rd.mono B4.out)).mono ?_; rw [SV.out]; rintro e w5 ⟨rfl, hb5⟩; have B5 := Lib.hid ((B.out.trans (B4.out.mono B.out.size)).trans (hb5.mono (Nat.le_trans B.out.size B4.out.size))); clear hb5))
          go_ret
          exact ⟨one (vbool (by rw [← HV.out]; exact (decide_eq_false HN.out).symm)), B5.out⟩
      · obtain rfl : n = k := by omega
        have h9 := P.out
        rw [List.take_of_length_le (by rw [HL1.out]; exact Nat.le_refl _), List.take_of_length_le (by rw [HL2.out]; exact Nat.le_refl _)] at h9
        have P9 := Lib.hid h9
        clear h9
        go_wp2_with fail
        go_ret
        exact ⟨one (vbool (by rw [← HV.out]; exact (decide_eq_true P9.out).symm)), B.out⟩
  · have hne : ((n : Int) == (n' : Int)) = false := by simp; omega
    have HF := Lib.hid (show ¬ L.map pe = M.map pe from fun h => hnn (by have := congrArg List.length h; simp at this; rw [HL1.out, HL2.out] at this; exact this))
    go_enter Try.func51, Try.ntmps51
    go_wp2_with fail
    go_ret
    exact ⟨one (vbool (by rw [← HV.out]; exact (decide_eq_false HF.out).symm)), Below.refl _ _⟩

set_option maxRecDepth 100000 in
theorem lequal (a a' : Option Addr) (n c n' c' : Nat) (L M : List (En × List UInt8)) (w : World) (h1 : Ents w a n c L) (h2 : Ents w a' n' c' M) (hl : n ≤ 1000000) :
    Calls Try.prog 23 #[.slice a n c, .slice a' n' c'] w fun x w' => x = .returned (.bool (decide (L.map pe = M.map pe))) ∧ Below w.heap.size w w' := by
  have H1 := Lib.hid h1
  have H2 := Lib.hid h2
  obtain ⟨V, hV⟩ : ∃ V, decide (L.map pe = M.map pe) = V := ⟨_, rfl⟩
  have KEY := Lib.hid (eqEnts13 a a' n c n' c' L M w h1 h2 hl)
  rw [hV] at KEY ⊢
  clear h1 h2 hV
  go_enter Try.func23, Try.ntmps23
  go_wp2_with (first | (go_at_call 51; (with_reducible refine KEY.out.mono ?_); rintro x w1 ⟨rfl, hb⟩; have B1 := Lib.hid hb; clear hb))
  go_ret
  exact ⟨rfl, B1.out⟩
/-- a base that may be -/
def atV (n : Int) : Int := (n % 18446744073709551616) % 1073741824
theorem atV_le (n : Int) : 0 ≤ atV n ∧ atV n < 1073741824 := by unfold atV; omega
set_option maxRecDepth 100000 in
theorem lat (n : Int) (w : World) : Calls Try.prog 9 #[.int .i64 n] w fun x w' => x = .returned (.int .i64 (atV n)) ∧ w = w' := by
  have e1 : IntKind.u64.wrap n = n % 18446744073709551616 := IntKind.wrap_u64 n
  have e2 : (n % 18446744073709551616).tmod 1073741824 = atV n := by
    unfold atV; rw [Int.tmod_eq_emod_of_nonneg (by omega)]
  have e3 : IntKind.i64.wrap (atV n) = atV n := by rw [IntKind.wrap_i64]; have := atV_le n; omega
  have e4 : IntKind.u64.wrap (atV n) = atV n := by rw [IntKind.wrap_u64]; have := atV_le n; omega
  go_enter Try.func9, Try.ntmps9
  go_wp2_with fail
  go_ret
  refine ⟨?_, rfl⟩
  simp [e1, e2, e3, e4]
set_option maxRecDepth 100000 in
set_option maxHeartbeats 4000000 in
theorem lfew13 (a : Option Addr) (n c : Nat) (L : List (En × List UInt8)) (w : World) (h : Ents w a n c L) (V : Bool) (hV : V = true ↔ (n ≤ 60 ∧ ∀ j, j < n → (L.getD j Ez).1.n ≤ 300)) :
    Calls Try.prog 7 #[.slice a n c] w fun x w' => x = .returned (.bool V) ∧ Below w.heap.size w w' := by
  have H := Lib.hid h
  have HV := Lib.hid hV
  clear hV
  have EZ := Lib.hid en_zero
  have ES := Lib.hid en_size
  clear h
  go_enter Try.func7, Try.ntmps7
  go_wp2_with fail
  go_loopw [7] (fun i wr => ∃ (k : Nat), i = .int .i64 (k : Int) ∧ k ≤ n ∧ k ≤ 60 ∧ Hid (∀ j, j < k → (L.getD j Ez).1.n ≤ 300) ∧ Hid (Below w.heap.size w wr)) (fun i _ => n - (intOf i).toNat)
  case atStart => exact ⟨0, rfl, Nat.zero_le _, Nat.zero_le _, Lib.hid (fun j hj => absurd hj (Nat.not_lt_zero _)), Lib.hid (Below.refl _ _)⟩
  case round =>
    obtain ⟨k, rfl, hk, hk60, HA, HB⟩ := hrel
    by_cases hlt : k < n
    · obtain ⟨x1, o1, rfl, hx1, hf1, hk1⟩ := H.out.at HB.out k hlt
      obtain ⟨⟨⟨ix, tm, kd, qa, qn, qc⟩, ql⟩, hq⟩ : ∃ y, L.getD k Ez = y := ⟨_, rfl⟩
      have HQN := Lib.hid (show (L.getD k Ez).1.n = qn by rw [hq])
      rw [hq] at hx1
      dsimp only at hx1
      have X1 := Lib.hid hx1
      have g1 : (0 : Int) ≤ (k : Int) := by omega
      have g2 : (k : Int) < (n : Int) := by omega
      clear hx1 hf1 hq hk1
      by_cases h60 : k < 60
      · have g3 : ((k : Int) ≥ 60) = False := by simp; omega
        have g4 : decide ((60 : Int) ≤ (k : Int)) = false := by simp; omega
        by_cases h300 : qn ≤ 300
        · have g5 : decide ((300 : Int) < (qn : Int)) = false := by simp; omega
          go_wp2_with (first
            | ((with_reducible refine load_cells (o := ⟨some 11, _, _, _, _, _⟩) rfl _ _ rfl x1 (o1 + k * 4) ?_ (En.cells ⟨ix, tm, kd, qa, qn, qc⟩) _ X1.out Try.underlying34 rfl ?_ ?_); (focus go_simp); (focus (exact ES.out)))
            | ((with_reducible refine alloc_row (o := ⟨some 4, _, _, _, _, _⟩) rfl _ rfl _ EZ.out ?_); intro w2 hr hb hz; have E2 := Lib.hid hr; have B2 := Lib.hid (HB.out.trans (hb.mono HB.out.size)); clear hr hb hz)
            | ((with_reducible refine store_row (o := ⟨none, _, _, _, _, _⟩) rfl _ (.tmp 4) _ rfl wr.heap.size (En.cells ⟨ix, tm, kd, qa, qn, qc⟩) ?_ ?_ 34 _ E2.out ?_ ?_ (cells_one _) ?_); (focus go_simp); (focus (first | (go_simp; done) | (go_simp; rfl))); (focus (exact ES.out)); (focus rfl); intro w3 hr hu; obtain ⟨c0, c1, c2, c3⟩ := hr.q4; have B3 := Lib.hid (B2.out.trans (hu.below HB.out.size)); clear hr hu))
          go_roundw
          case rel => exact ⟨k + 1, vint (by omega), by omega, by omega, Lib.hid (fun j hj => by
            by_cases e : j = k
            · rw [e, HQN.out]; exact h300
            · exact HA.out j (by omega)), B3⟩
          case measure => (simp [intOf]; try omega)
        · have g5 : decide ((300 : Int) < (qn : Int)) = true := by simp; omega
          go_wp2_with (first
            | ((with_reducible refine load_cells (o := ⟨some 11, _, _, _, _, _⟩) rfl _ _ rfl x1 (o1 + k * 4) ?_ (En.cells ⟨ix, tm, kd, qa, qn, qc⟩) _ X1.out Try.underlying34 rfl ?_ ?_); (focus go_simp); (focus (exact ES.out)))
            | ((with_reducible refine alloc_row (o := ⟨some 4, _, _, _, _, _⟩) rfl _ rfl _ EZ.out ?_); intro w2 hr hb hz; have E2 := Lib.hid hr; have B2 := Lib.hid (HB.out.trans (hb.mono HB.out.size)); clear hr hb hz)
            | ((with_reducible refine store_row (o := ⟨none, _, _, _, _, _⟩) rfl _ (.tmp 4) _ rfl wr.heap.size (En.cells ⟨ix, tm, kd, qa, qn, qc⟩) ?_ ?_ 34 _ E2.out ?_ ?_ (cells_one _) ?_); (focus go_simp); (focus (first | (go_simp; done) | (go_simp; rfl))); (focus (exact ES.out)); (focus rfl); intro w3 hr hu; obtain ⟨c0, c1, c2, c3⟩ := hr.q4; have B3 := Lib.hid (B2.out.trans (hu.below HB.out.size)); clear hr hu))
          go_ret
          have hf : V = false := by
            cases hVe : V
            · rfl
            · exact absurd ((HV.out.1 hVe).2 k hlt) (by rw [HQN.out]; exact h300)
          exact ⟨by rw [hf]; rfl, B3.out⟩
      · have g4 : decide ((60 : Int) ≤ (k : Int)) = true := by simp; omega
        have g5 : (60 : Int) ≤ (k : Int) := by omega
        go_wp2_with (first
          | ((with_reducible refine load_cells (o := ⟨some 11, _, _, _, _, _⟩) rfl _ _ rfl x1 (o1 + k * 4) ?_ (En.cells ⟨ix, tm, kd, qa, qn, qc⟩) _ X1.out Try.underlying34 rfl ?_ ?_); (focus go_simp); (focus (exact ES.out)))
            | ((with_reducible refine alloc_row (o := ⟨some 4, _, _, _, _, _⟩) rfl _ rfl _ EZ.out ?_); intro w2 hr hb hz; have E2 := Lib.hid hr; have B2 := Lib.hid (HB.out.trans (hb.mono HB.out.size)); clear hr hb hz)
            | ((with_reducible refine store_row (o := ⟨none, _, _, _, _, _⟩) rfl _ (.tmp 4) _ rfl wr.heap.size (En.cells ⟨ix, tm, kd, qa, qn, qc⟩) ?_ ?_ 34 _ E2.out ?_ ?_ (cells_one _) ?_); (focus go_simp); (focus (first | (go_simp; done) | (go_simp; rfl))); (focus (exact ES.out)); (focus rfl); intro w3 hr hu; obtain ⟨c0, c1, c2, c3⟩ := hr.q4; have B3 := Lib.hid (B2.out.trans (hu.below HB.out.size)); clear hr hu))
        go_ret
        have hf : V = false := by
          cases hVe : V
          · rfl
          · exact absurd (HV.out.1 hVe).1 (by omega)
        exact ⟨by rw [hf]; rfl, B3.out⟩
    · obtain rfl : k = n := by omega
      go_wp2_with fail
      go_ret
      exact ⟨by rw [HV.out.2 ⟨hk60, HA.out⟩]; rfl, HB.out⟩
end Go.Proofs.Ytnlbdgaleibgcaa.W
