/- LAYER 16 (msg), the program: Same. LAYER 16 (msg), the program: SameAll. -/
import Derived.Test.YtdcioeoofngibaaMpA
set_option linter.unusedSimpArgs false
set_option linter.unusedVariables false
namespace Go.Proofs.Ytdcioeoofngibaa.W
open Go Go.ChangeShapes Go.WideShapes Go.ChangeAt Go.RowKit
open Go.Proofs.Ytdcioeoofngibaa.P (enc dec)

theorem fds_at (A M : Nat → Nat) (k : Nat) (hk : k < 12) (j : Nat) (v : Value) (h : (fdC A M k)[j]? = some v) : (fdsC A M)[k * 5 + j]? = some v := by
  have hj : j < 5 := (List.getElem?_eq_some_iff.1 h).1
  rcases below12 hk with rfl | rfl | rfl | rfl | rfl | rfl | rfl | rfl | rfl | rfl | rfl | rfl <;> (rcases (show j = 0 ∨ j = 1 ∨ j = 2 ∨ j = 3 ∨ j = 4 by omega) with rfl | rfl | rfl | rfl | rfl <;> exact h)
theorem fds_cell {w : World} {g : Nat} {A M : Nat → Nat} (h : Row w g 49 (fdsC A M)) (k : Nat) (hk : k < 12) (j : Nat) (v : Value) (hj : (fdC A M k)[j]? = some v) : w.cell? ⟨g, k * 5 + j, none⟩ = some v := by
  rw [h.cellV]; exact fds_at A M k hk j v hj
theorem fd_one (A M : Nat → Nat) (k : Nat) : ∀ v ∈ fdC A M k, v.oneCell' = true := by
  intro v hv
  simp [fdC] at hv
  rcases hv with rfl | rfl | rfl | rfl | rfl <;> rfl
theorem Row.q5 {w : World} {g : Nat} {t : TypeId} {a0 a1 a2 a3 a4 : Value} (h : Row w g t [a0, a1, a2, a3, a4]) :
    w.cell? ⟨g, 0, none⟩ = some a0 ∧ w.cell? ⟨g, 1, none⟩ = some a1 ∧ w.cell? ⟨g, 2, none⟩ = some a2 ∧ w.cell? ⟨g, 3, none⟩ = some a3 ∧ w.cell? ⟨g, 4, none⟩ = some a4 := by
  refine ⟨?_, ?_, ?_, ?_, ?_⟩ <;> (rw [h.cellV]; rfl)
theorem same_all {a b : MF} (h : ∀ j, j < 12 → sameQ j a b = true) : a.same b = (a.k == b.k) := by
  have h0 : (a.fr == b.fr) = true := h 0 (by decide)
  have h1 : (a.dt == b.dt) = true := h 1 (by decide)
  have h2 : (a.tm == b.tm) = true := h 2 (by decide)
  have h3 : (a.ix == b.ix) = true := h 3 (by decide)
  have h4 : (a.lt == b.lt) = true := h 4 (by decide)
  have h5 : (a.cm == b.cm) = true := h 5 (by decide)
  have h6 : (a.rn == b.rn) = true := h 6 (by decide)
  have h7 : (a.cf == b.cf) = true := h 7 (by decide)
  have h8 : (a.ok == b.ok) = true := h 8 (by decide)
  have h9 : decide (a.l = b.l) = true := h 9 (by decide)
  have h10 : decide (a.d = b.d) = true := h 10 (by decide)
  have h11 : decide (a.s = b.s) = true := h 11 (by decide)
  unfold MF.same
  rw [h0, h1, h2, h3, h4, h5, h6, h7, h8, h9, h10, h11]
  simp
theorem same_no {a b : MF} (j : Nat) (hj : j < 12) (h : sameQ j a b = false) : a.same b = false := by
  cases hh : a.same b with
  | false => rfl
  | true =>
    have := MF.same_iff.1 hh
    subst this
    rcases below12 hj with rfl | rfl | rfl | rfl | rfl | rfl | rfl | rfl | rfl | rfl | rfl | rfl <;> (simp [sameQ] at h)
set_option maxRecDepth 100000 in
set_option maxHeartbeats 16000000 in
theorem mpsame (m m' : Ms) (d d' : List UInt8) (L L' : List (En × List UInt8)) (w : World) (h1 : MsF w m d L) (h2 : MsF w m' d' L') (hen : m.en ≤ 1000000) :
    Calls Try.prog 9 #[.agg m.cells.toArray, .agg m'.cells.toArray] w fun x w' => x = .returned (.bool ((m.pl d L).same (m'.pl d' L'))) ∧ Below w.heap.size w w' := by
  have H1 := Lib.hid h1
  have H2 := Lib.hid h2
  have HEN := Lib.hid hen
  have FZ := Lib.hid fd_zero
  have FS := Lib.hid fd_size
  obtain ⟨V, hV⟩ : ∃ V, (m.pl d L).same (m'.pl d' L') = V := ⟨_, rfl⟩
  rw [hV]
  have HV := Lib.hid hV
  obtain ⟨C, hC⟩ : ∃ C, m.cells = C := ⟨_, rfl⟩
  obtain ⟨D, hD⟩ : ∃ D, m'.cells = D := ⟨_, rfl⟩
  rw [hC, hD]
  have HC := Lib.hid hC
  have HD := Lib.hid hD
  clear h1 h2 hen hV hC hD
  go_enter Try.func9, Try.ntmps9
  go_wp2_with (first
    | (with_reducible refine box_row (o := ⟨some 2, _, _, _, _, _⟩) rfl _ _ rfl C rfl ?_; intro w1 hr hb hz; have R1 := Lib.hid hr; have B1 := Lib.hid hb; have Z1 := Lib.hid hz; clear hr hb hz)
    | (with_reducible refine box_row (o := ⟨some 3, _, _, _, _, _⟩) rfl _ _ rfl D rfl ?_; intro w2 hr hb hz; have S2 := Lib.hid hr; have R2 := Lib.hid (R1.out.below hb R1.out.lt); have B2 := Lib.hid (B1.out.trans (hb.mono B1.out.size)); clear hr hb hz)
    | (go_at_call 17; refine (mpfields w2).mono ?_; rintro x w3 ⟨g, A, M, rfl, hg, hF, hgb, hb⟩; have G3 := Lib.hid hg; have F3 := Lib.hid hF; have R3 := Lib.hid (R2.out.below hb R2.out.lt); have S3 := Lib.hid (S2.out.below hb S2.out.lt); have B3 := Lib.hid (B2.out.trans (hb.mono B2.out.size)); clear hg hF hgb hb))
  go_loopw [9] (fun i wr => ∃ k : Nat, i = .int .i64 (k : Int) ∧ k ≤ 12 ∧ Hid (∀ j, j < k → sameQ j (m.pl d L) (m'.pl d' L') = true) ∧ Hid (Below w3.heap.size w3 wr)) (fun i _ => 12 - (intOf i).toNat)
  case atStart => exact ⟨0, rfl, Nat.zero_le _, Lib.hid (fun j hj => absurd hj (Nat.not_lt_zero _)), Lib.hid (Below.refl _ _)⟩
  case round =>
    obtain ⟨k, rfl, hk, PV, B⟩ := hrel
    have GR := Lib.hid (G3.out.below B.out G3.out.lt)
    have FR := Lib.hid (F3.out.below B.out)
    have RQ := Lib.hid (R3.out.below B.out R3.out.lt)
    have SR := Lib.hid (S3.out.below B.out S3.out.lt)
    have BR := Lib.hid (B3.out.trans (B.out.mono B3.out.size))
    by_cases hlt : k < 12
    · obtain ⟨C5, hC5⟩ : ∃ C5, fdC A M k = C5 := ⟨_, rfl⟩
      have X := Lib.hid (fun j v (hj : C5[j]? = some v) => fds_cell GR.out k hlt j v (by rw [hC5]; exact hj))
      have L5 := Lib.hid (show [Value.int .i64 0, .nilFunc, .nilFunc, .nilFunc, .nilFunc].length = C5.length by rw [← hC5]; rfl)
      have FS := Lib.hid (show (Try.prog.info? 49).map (·.size) = some C5.length by rw [← hC5]; exact fd_size)
      have ONE := Lib.hid (show ∀ v ∈ C5, v.oneCell' = true by rw [← hC5]; exact fd_one A M k)
      have HS := Lib.hid (fun w' (hb : Below wr.heap.size wr w') => sameK k hlt A M _ w.heap.size w1.heap.size m m' d d' L L' w' (FR.out.below hb) (by rw [HC.out]; exact RQ.out.below hb RQ.out.lt) (H1.out.mono (BR.out.trans (hb.mono BR.out.size))) (by rw [HD.out]; exact SR.out.below hb SR.out.lt) (H2.out.mono (BR.out.trans (hb.mono BR.out.size))) HEN.out)
      have he := fn_ent2 k hlt
      unfold fdC at hC5
      obtain ⟨f2, hf2⟩ : ∃ f, fn2 k = f := ⟨_, rfl⟩
      obtain ⟨c2, hc2⟩ : ∃ c, fc2 A k = c := ⟨_, rfl⟩
      rw [hf2] at he hC5 HS
      rw [hc2] at hC5 HS
      have HC5 := Lib.hid hC5
      obtain ⟨s, hs⟩ : ∃ s, sameQ k (m.pl d L) (m'.pl d' L') = s := ⟨_, rfl⟩
      rw [hs] at HS
      have HSQ := Lib.hid hs
      have g1 : (0 : Int) ≤ (k : Int) := by omega
      have g2 : (k : Int) < 12 := by omega
      clear hC5 hf2 hc2 hs
      go_wp2_with (first
        | ((with_reducible refine load_cells (o := ⟨some 12, _, _, _, _, _⟩) rfl _ _ rfl g (k * 5) ?_ C5 _ X.out Try.underlying49 rfl ?_ ?_); (focus (first | (go_simp; done) | (go_simp; congr 2; omega))); (focus (exact FS.out)))
        | ((with_reducible refine alloc_row (o := ⟨some 6, _, _, _, _, _⟩) rfl _ rfl _ FZ.out ?_); intro wa hr hb hz; have A1 := Lib.hid hr; have BA := Lib.hid hb; clear hr hb hz)
        | ((with_reducible refine store_row (o := ⟨none, _, _, _, _, _⟩) rfl _ (.tmp 6) _ rfl wr.heap.size C5 ?_ ?_ 49 _ A1.out ?_ ?_ ONE.out ?_); (focus go_simp); (focus (first | (go_simp; done) | (go_simp; rfl))); (focus (exact FS.out)); (focus (exact L5.out)); intro wb hr hu; have A2 := Lib.hid hr; have BB := Lib.hid (BA.out.trans (hu.below (Nat.le_refl _))); rw [← HC5.out] at hr; obtain ⟨q0, q1, q2, q3, q4⟩ := hr.q5; clear hr hu))
      refine (HS.out wb BB.out).mono ?_
      rintro x wc ⟨rfl, hb⟩
      have BC := Lib.hid (BB.out.trans (hb.mono BB.out.size))
      have BD := Lib.hid (BR.out.trans (BC.out.mono BR.out.size))
      clear hb q0 q1 q2 q3 q4 he
      rcases s with _ | _
      · have HF := Lib.hid (show V = false by rw [← HV.out]; exact same_no k hlt HSQ.out)
        go_wp2_with fail
        go_ret
        exact ⟨one (vbool (by rw [HF.out])), BD.out⟩
      · have PN := Lib.hid (show ∀ j, j < k + 1 → sameQ j (m.pl d L) (m'.pl d' L') = true from fun j hj => by
          by_cases hjk : j < k
          · exact PV.out j hjk
          · obtain rfl : j = k := by omega
            exact HSQ.out)
        go_wp2_with fail
        go_roundw
        case rel => exact ⟨k + 1, vint (by omega), by omega, PN, Lib.hid (B.out.trans (BC.out.mono B.out.size))⟩
        case measure => simp [intOf]; omega
    · obtain rfl : k = 12 := by omega
      have HF := Lib.hid (show V = (m.k == m'.k) by rw [← HV.out]; exact same_all PV.out)
      have r1 := RQ.out
      have r2 := SR.out
      rw [← HC.out] at r1
      rw [← HD.out] at r2
      obtain ⟨x0, -⟩ := r1.q13
      obtain ⟨y0, -⟩ := r2.q13
      clear r1 r2
      go_wp2_with fail
      go_ret
      exact ⟨one (vbool (by rw [HF.out])), BR.out⟩
end Go.Proofs.Ytdcioeoofngibaa.W

namespace Go.Proofs.Ytdcioeoofngibaa.W
open Go Go.ChangeShapes Go.WideShapes Go.ChangeAt Go.RowKit

theorem mp_zero : (Try.prog.info? 25).map (·.zero) = some (some (.agg (Ms.cells ⟨0, 0, 0, 0, 0, 0, 0, 0, 0, false, none, 0, 0, none, 0, 0, ByteArray.empty⟩).toArray)) := by kernel_rfl
set_option maxRecDepth 100000 in
set_option maxHeartbeats 8000000 in
theorem mpEqF (a a' : Option Addr) (n c n' c' : Nat) (L M : List Mt) (w : World) (h1 : Mss w a n L) (h2 : Mss w a' n' M) (V : Bool) (hV : V = true ↔ sameL L M) :
    Calls Try.prog 22 #[.slice a n c, .slice a' n' c', .func (.func 9) #[] #[]] w fun x w' => x = .returned (.bool V) ∧ Below w.heap.size w w' := by
  have H1 := Lib.hid h1
  have H2 := Lib.hid h2
  have HV := Lib.hid hV
  have hm := h1.hmax
  have HL1 := Lib.hid h1.hlen
  have HL2 := Lib.hid h2.hlen
  have MZ := Lib.hid mp_zero
  clear h1 h2 hV
  by_cases hnn : n = n'
  · subst hnn
    go_enter Try.func22, Try.ntmps22
    go_wp2_with fail
    go_loopw [17] (fun i wr => ∃ k : Nat, i = .int .i64 (k : Int) ∧ k ≤ n ∧ Hid ((L.take k).map Mt.pl = (M.take k).map Mt.pl) ∧ Hid (Below w.heap.size w wr)) (fun i _ => n - (intOf i).toNat)
    case atStart => exact ⟨0, rfl, Nat.zero_le _, Lib.hid rfl, Lib.hid (Below.refl _ _)⟩
    case round =>
      obtain ⟨k, rfl, hk, P, B⟩ := hrel
      by_cases hlt : k < n
      · obtain ⟨x1, o1, rfl, hx1, hf1, hen1, hk1⟩ := H1.out.at B.out k hlt
        obtain ⟨x2, o2, rfl, hx2, hf2, hen2, hk2⟩ := H2.out.at B.out k hlt
        have hstep := ms_take_next L M k hk1 hk2 P.out
        have hne := ms_ne L M k hk1 hk2
        obtain ⟨⟨e1, d1, l1⟩, hq1⟩ : ∃ y, L.getD k default = y := ⟨_, rfl⟩
        obtain ⟨⟨e2, d2, l2⟩, hq2⟩ : ∃ y, M.getD k default = y := ⟨_, rfl⟩
        rw [hq1, hq2] at hstep hne
        rw [hq1] at hx1 hf1 hen1
        rw [hq2] at hx2 hf2
        dsimp only at hx1 hf1 hx2 hf2 hen1
        have X1 := Lib.hid hx1
        have X2 := Lib.hid hx2
        have HS := Lib.hid (fun wd (hb : Below wr.heap.size wr wd) => mpsame e1 e2 d1 d2 l1 l2 wd (hf1.mono hb) (hf2.mono hb) hen1)
        have g1 : (0 : Int) ≤ (k : Int) := by omega
        have g2 : (k : Int) < (n : Int) := by omega
        clear hx1 hx2 hf1 hf2 hq1 hq2 hk1 hk2 hen1 hen2
        obtain ⟨S1, hS1⟩ : ∃ S, e1.cells = S := ⟨_, rfl⟩
        obtain ⟨S2, hS2⟩ : ∃ S, e2.cells = S := ⟨_, rfl⟩
        have HZ1 := Lib.hid (show (Try.prog.info? 25).map (·.size) = some S1.length by rw [← hS1]; exact ms_size)
        have HZ2 := Lib.hid (show (Try.prog.info? 25).map (·.size) = some S2.length by rw [← hS2]; exact ms_size)
        have HL1 := Lib.hid (show (Ms.cells ⟨0, 0, 0, 0, 0, 0, 0, 0, 0, false, none, 0, 0, none, 0, 0, ByteArray.empty⟩).length = S1.length by rw [← hS1]; rfl)
        have HL2 := Lib.hid (show (Ms.cells ⟨0, 0, 0, 0, 0, 0, 0, 0, 0, false, none, 0, 0, none, 0, 0, ByteArray.empty⟩).length = S2.length by rw [← hS2]; rfl)
        have HO1 := Lib.hid (show ∀ v ∈ S1, v.oneCell' = true by rw [← hS1]; exact ms_one _)
        have HO2 := Lib.hid (show ∀ v ∈ S2, v.oneCell' = true by rw [← hS2]; exact ms_one _)
        rw [hS1] at X1 HS
        rw [hS2] at X2 HS
        clear hS1 hS2
        by_cases heq : Mt.pl (e1, d1, l1) = Mt.pl (e2, d2, l2)
        · have HN := Lib.hid (hstep heq)
          rw [show (Ms.pl e1 d1 l1).same (Ms.pl e2 d2 l2) = true from MF.same_iff.2 heq] at HS
          clear hstep hne heq
          go_wp2_with (first
            | ((with_reducible refine load_cells (o := ⟨some 21, _, _, _, _, _⟩) rfl _ _ rfl x1 (o1 + k * 13) ?_ S1 _ X1.out Try.underlying25 rfl ?_ ?_); (focus go_simp); (focus (exact HZ1.out)))
            | ((with_reducible refine alloc_row (o := ⟨some 8, _, _, _, _, _⟩) rfl _ rfl _ MZ.out ?_); intro w1 hr hb hz; have A1 := Lib.hid hr; have B1 := Lib.hid hb; clear hr hb hz)
            | ((with_reducible refine store_row (o := ⟨none, _, _, _, _, _⟩) rfl _ (.tmp 8) _ rfl wr.heap.size S1 ?_ ?_ 25 _ A1.out ?_ ?_ HO1.out ?_); (focus go_simp); (focus (first | (go_simp; done) | (go_simp; rfl))); (focus (exact HZ1.out)); (focus (exact HL1.out)); intro w2 hr hu; have A2 := Lib.hid hr; have B2 := Lib.hid (B1.out.trans (hu.below (Nat.le_refl _))); clear hr hu)
            | ((with_reducible refine load_cells (o := ⟨some 25, _, _, _, _, _⟩) rfl _ _ rfl x2 (o2 + k * 13) ?_ S2 _ (fun j v hj => by rw [B2.out.cell (p := ⟨x2, o2 + k * 13 + j, none⟩) (World.block_lt_of_cell? wr _ (X2.out j v hj))]; exact X2.out j v hj) Try.underlying25 rfl ?_ ?_); (focus go_simp); (focus (exact HZ2.out)))
            | ((with_reducible refine alloc_row (o := ⟨some 9, _, _, _, _, _⟩) rfl _ rfl _ MZ.out ?_); intro w3 hr hb hz; have C3 := Lib.hid hr; have A3 := Lib.hid (A2.out.below hb A2.out.lt); have L3 := Lib.hid (show wr.heap.size < w2.heap.size from A2.out.lt); have B3 := Lib.hid (B2.out.trans (hb.mono B2.out.size)); clear hr hb hz)
            | ((with_reducible refine store_row (o := ⟨none, _, _, _, _, _⟩) rfl _ (.tmp 9) _ rfl w2.heap.size S2 ?_ ?_ 25 _ C3.out ?_ ?_ HO2.out ?_); (focus go_simp); (focus (first | (go_simp; done) | (go_simp; rfl))); (focus (exact HZ2.out)); (focus (exact HL2.out)); intro w4 hr hu; have C4 := Lib.hid hr; have A4 := Lib.hid (A3.out.upd hu (Nat.ne_of_lt L3.out)); have B4 := Lib.hid (B3.out.trans (hu.below B2.out.size)); clear hr hu)
            | ((with_reducible refine load_row (o := ⟨some 27, _, _, _, _, _⟩) rfl _ _ rfl wr.heap.size ?_ _ S1 _ A4.out Try.underlying25 rfl ?_ ?_); (focus go_simp); (focus (exact HZ1.out)))
            | ((with_reducible refine load_row (o := ⟨some 28, _, _, _, _, _⟩) rfl _ _ rfl w2.heap.size ?_ _ S2 _ C4.out Try.underlying25 rfl ?_ ?_); (focus go_simp); (focus (exact HZ2.out)))
            | (go_at_call 9; refine (HS.out w4 B4.out).mono ?_; rintro e w5 ⟨rfl, hb5⟩; have B5 := Lib.hid ((B.out.trans (B4.out.mono B.out.size)).trans (hb5.mono (Nat.le_trans B.out.size B4.out.size))); clear hb5))
          go_roundw
          case rel => exact ⟨k + 1, vint (by omega), by omega, HN, B5⟩
          case measure => simp [intOf]; omega
        · have HN := Lib.hid (hne heq)
          rw [show (Ms.pl e1 d1 l1).same (Ms.pl e2 d2 l2) = false from by cases hh : (Ms.pl e1 d1 l1).same (Ms.pl e2 d2 l2) with | false => rfl | true => exact absurd (MF.same_iff.1 hh) heq] at HS
          clear hstep hne heq
          have HF := Lib.hid (show V = false by cases hh : V with | false => rfl | true => exact absurd (HV.out.1 hh) HN.out)
          go_wp2_with (first
            | ((with_reducible refine load_cells (o := ⟨some 21, _, _, _, _, _⟩) rfl _ _ rfl x1 (o1 + k * 13) ?_ S1 _ X1.out Try.underlying25 rfl ?_ ?_); (focus go_simp); (focus (exact HZ1.out)))
            | ((with_reducible refine alloc_row (o := ⟨some 8, _, _, _, _, _⟩) rfl _ rfl _ MZ.out ?_); intro w1 hr hb hz; have A1 := Lib.hid hr; have B1 := Lib.hid hb; clear hr hb hz)
            | ((with_reducible refine store_row (o := ⟨none, _, _, _, _, _⟩) rfl _ (.tmp 8) _ rfl wr.heap.size S1 ?_ ?_ 25 _ A1.out ?_ ?_ HO1.out ?_); (focus go_simp); (focus (first | (go_simp; done) | (go_simp; rfl))); (focus (exact HZ1.out)); (focus (exact HL1.out)); intro w2 hr hu; have A2 := Lib.hid hr; have B2 := Lib.hid (B1.out.trans (hu.below (Nat.le_refl _))); clear hr hu)
            | ((with_reducible refine load_cells (o := ⟨some 25, _, _, _, _, _⟩) rfl _ _ rfl x2 (o2 + k * 13) ?_ S2 _ (fun j v hj => by rw [B2.out.cell (p := ⟨x2, o2 + k * 13 + j, none⟩) (World.block_lt_of_cell? wr _ (X2.out j v hj))]; exact X2.out j v hj) Try.underlying25 rfl ?_ ?_); (focus go_simp); (focus (exact HZ2.out)))
            | ((with_reducible refine alloc_row (o := ⟨some 9, _, _, _, _, _⟩) rfl _ rfl _ MZ.out ?_); intro w3 hr hb hz; have C3 := Lib.hid hr; have A3 := Lib.hid (A2.out.below hb A2.out.lt); have L3 := Lib.hid (show wr.heap.size < w2.heap.size from A2.out.lt); have B3 := Lib.hid (B2.out.trans (hb.mono B2.out.size)); clear hr hb hz)
            | ((with_reducible refine store_row (o := ⟨none, _, _, _, _, _⟩) rfl _ (.tmp 9) _ rfl w2.heap.size S2 ?_ ?_ 25 _ C3.out ?_ ?_ HO2.out ?_); (focus go_simp); (focus (first | (go_simp; done) | (go_simp; rfl))); (focus (exact HZ2.out)); (focus (exact HL2.out)); intro w4 hr hu; have C4 := Lib.hid hr; have A4 := Lib.hid (A3.out.upd hu (Nat.ne_of_lt L3.out)); have B4 := Lib.hid (B3.out.trans (hu.below B2.out.size)); clear hr hu)
            | ((with_reducible refine load_row (o := ⟨some 27, _, _, _, _, _⟩) rfl _ _ rfl wr.heap.size ?_ _ S1 _ A4.out Try.underlying25 rfl ?_ ?_); (focus go_simp); (focus (exact HZ1.out)))
            | ((with_reducible refine load_row (o := ⟨some 28, _, _, _, _, _⟩) rfl _ _ rfl w2.heap.size ?_ _ S2 _ C4.out Try.underlying25 rfl ?_ ?_); (focus go_simp); (focus (exact HZ2.out)))
            | (go_at_call 9; refine (HS.out w4 B4.out).mono ?_; rintro e w5 ⟨rfl, hb5⟩; have B5 := Lib.hid ((B.out.trans (B4.out.mono B.out.size)).trans (hb5.mono (Nat.le_trans B.out.size B4.out.size))); clear hb5))
          go_ret
          exact ⟨one (vbool (by rw [HF.out])), B5.out⟩
      · obtain rfl : n = k := by omega
        have hp := P.out
        rw [List.take_of_length_le (by rw [HL1.out]; exact Nat.le_refl _), List.take_of_length_le (by rw [HL2.out]; exact Nat.le_refl _)] at hp
        have HF := Lib.hid (show V = true from HV.out.2 hp)
        clear hp
        go_wp2_with fail
        go_ret
        exact ⟨one (vbool (by rw [HF.out])), B.out⟩
  · have hne : ((n : Int) == (n' : Int)) = false := by simp; omega
    have HF := Lib.hid (show V = false by
      cases hh : V with
      | false => rfl
      | true =>
        have h3 := congrArg List.length (HV.out.1 hh)
        rw [List.length_map, List.length_map, HL1.out, HL2.out] at h3
        exact absurd h3 hnn)
    go_enter Try.func22, Try.ntmps22
    go_wp2_with fail
    go_ret
    exact ⟨one (vbool (by rw [HF.out])), Below.refl _ _⟩
set_option maxRecDepth 100000 in
set_option maxHeartbeats 4000000 in
theorem mpall : MsAllP 11 := by
  intro a a' n c n' c' L M w h1 h2 V hV
  have HF := Lib.hid (mpEqF a a' n c n' c' L M w h1 h2 V hV)
  clear h1 h2 hV
  go_enter Try.func11, Try.ntmps11
  go_wp2_with (go_at_call 22; refine HF.out.mono ?_; rintro x w5 ⟨rfl, hb⟩; have B5 := Lib.hid hb; clear hb)
  go_ret
  exact ⟨rfl, B5.out⟩
theorem mpsameP : MsSameP 9 := fun m m' d d' L L' w h1 h2 hen _ => mpsame m m' d d' L L' w h1 h2 hen
end Go.Proofs.Ytdcioeoofngibaa.W
